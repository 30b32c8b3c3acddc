/- Simulated: the texts of the proof, packed by program out of some 250: remarks struck, names and blanks shortened, for the limit of a claim's size. -/
import Derived.KernelRfl
import Derived.Conc.Own
import Derived.Conc.Events
import Derived.Laws.Sem
import Derived.Conc.Own5
import Derived.Conc.CompanyDraw
import Derived.Conc.Know
import Derived.Conc.Beside
import Derived.Conc.MarkLaws
import Derived.Conc.CrowdComm
import Derived.Conc.CrowdTrace
import Derived.Conc.CrowdBase
set_option linter.all false
set_option maxRecDepth 1000000
set_option maxHeartbeats 8000000
open Option renaming some->À,none->ë,map_eq_some_iff->Ī,map_some->bR
open Go renaming TypeId->Á,Value->Ã,World->Æ,Goroutine->Ó,Program->Ø,Operand->Ù,Addr->Û,stepG->Ü,FuncId->â,execOp->î,underlying->ö,typeInfo->ý,resolve->þ,IntKind->ÿ,Event->Ă,run_program->Ĉ,variablesAt->ĉ,invoke->Ē,builtin->ė,Sem->Ę,zeroValue->Ě,loadBytes->ě,Frame->Ğ,Trace->Ħ,BinOp->Ĩ,results->ı,behindNumber->ķ,FloatKind->ĺ,callFunc->ľ,askRoom->Ł,newRow->ņ,undef->ň,choose->Ō,yielded->ō,sizeOf->ŕ,storeCells->Ŗ,loadCellsFrom->Ř,convert->Ş,movedNumber->š,elemOf->ŧ,Item->Ũ,movedPointer->ů,binOp->Ÿ,sameAddr->Ż,deafBehind->ż,eqGuard->Ζ,partners->Ω,RuntimeError->η,Next->ξ,cellAtBytes->ai,Tape->az,loadVar->aA,Code->aF,store->aG,Oper->aI,BoundsCode->aJ,storeVar->aV,nilAhead->bh,lone->bl,load->bq,noView->br,liesAt->bu,findLabel->bA,stringish->bD,Unsupported->bG,followBlind->bI,Act->bP,Machine->b9,Question->cj,asBool->cu,asAddr->cw,fieldPlace->cx,viewAt->cA,numberAt->cB,asNumber->cC,getObj->cF,shape->cG,exitTo->cN,gotoIn->cO,mayBeOne->cV,runT->dm,MemOp->dp,loadCells->dq,rowAt->dr,program->du,asIntOf->dw,byteOf->dz,unwind->dE,runN->dF,cellsIn->dG,asInt->dK,TypeDesc->dO,runN_add->dR,Touch->dU,step->dY,Loc->dZ,mark->ea,newObj->ei,PanicEntry->ez,isAgg->eF,Race->eN,newVar->eU,asAgg->eV,frozen->eW
open Bool renaming false->Â,false_eq_true->Å,true->È,and_eq_true_iff->ß,not_true->ă,not_false->ć,and_eq_true->ġ,or_eq_true_iff->ũ,eq_iff_iff->ς,or_eq_true->bS
open Go.Sem renaming run_bind->Ä,runT_bind'->Ñ,run->å,bind->é,runT->ì,run_bind'->Ľ,bind_assoc'->ť,runT_eq->Ι,runT_fst->ο,pure->aU,store->dt,halt->eE
open Or renaming inl->Ç,inr->Î
open Go.Result renaming andThen_ok->É,ok->Ĭ,halt->cm
open Go.Op renaming operands->Ê,equal->ù,maxDepth->Ć,eqGuardIn->ĸ,twoPlaces->Ů,equalIn->θ,addrSub->ι,addrCmp->κ,addrMod->ν,call->σ,intDiv->aC,shift->aW,convert->aY,stringOp->bH,unary->cz,makeInterface->cU,floatArith->df,complexOp->dA,buildSlice->dL,intArith->dM,floatCmp->dN,binOp->eb,makeSlice->ec,fieldAddr->ef,indexAddr->eg,intBits->ek,nilCheck->eK,intCmp->eL
open Array renaming getElem?_eq_some_iff->Ë,getElem?_setIfInBounds_ne->Ï,getElem?_setIfInBounds_self_of_lt->Ò,mem_of_getElem?->Ý,getElem?_eq_getElem->à,getElem?_append_right->Č,empty_append->ē,append_empty->Ĕ,mapM_eq_mapM_toList->ę,mem_append->Ģ,getElem?_push_lt->ĩ,getD_eq_getD_getElem?->İ,range->Ĳ,replicate->ń,append_assoc->Ņ,append_singleton->ŋ,all_eq_true->Ŏ,getElem?_modify->Œ,mem_iff_getElem->Ŕ,getElem?_setIfInBounds->Ŧ,getElem_map->Ε,getElem_extract->ae,forIn_toList->aQ
open Go.stepG renaming exec->Ì,apply->bM
open Go.MemOp renaming ofEvents->Í
open Go.GoStatus renaming running->Ð,finished->ĥ,blocked->Ž
open Nat renaming lt_of_lt_of_le->Ô,le_refl->á,le_trans->û,exists_eq_add_of_le->Υ,div_le_div_right->aj,add_assoc->da,le_of_eq->dI,zero_le->dJ
open Go.Builtin renaming firstCells->Õ,unsafeString_->í,unsafeAdd_->ó,zeroCells->ø,unsafeSliceData_->ĝ,mayShare->ģ,nextslicecap->ĳ,min2->Ļ,append_->ł,min_->ŏ,copy_->ŝ,len_->Ŭ,cap_->ŭ,lenOf->Ο,holdsCells->aN,unsafeSliceData->bC,unsafeString->dj
open Go.Value renaming pointer->Ö,slice->õ,int->ċ,string->Į,bool->Ň,tuple->Ξ,nilIface->bn,nilFunc->cg,chan->eD,func->eT
open List renaming map_toArray->Ú,map_cons->ä,map_nil->æ,mem_cons_self->ð,mem_cons_of_mem->ô,eq_nil_of_length_eq_zero->ą,zipIdx_cons->ĵ,mem_cons->ş,mem_singleton->ź,foldlM_cons->Χ,filter_eq_nil_iff->ρ,foldlM_nil->φ,forIn_cons->χ,mapM_cons->ah,forIn_nil->ax,map_eq_nil_iff->aE,flatMap_cons->bm,mapM_nil->de
open Go.IntKind renaming i64->Þ,u64->è,u32->ţ
open Go.Item renaming inRegion->ã,code->ĕ,inLoop->dB,inBlock->dP,inScope->dQ
open Go.Act renaming eval->ç
open Go.MemAct renaming ofEvent->ê,touch?->Ą,mark->Ť
open Go.Conc renaming mem_ofEvents->ï,touchAt->Ġ,crowd->ŀ,woken->Ű,stepG_region_draw->Κ,parked->Τ,Deaf->π,rcase->ψ,stepG_unwanted->av,g?_old->aS,knows_own->bE,deafBehind_still->bF,stepG_value->bK,stepG_enter->bL,Knows->bN,stepG_cond->cP,mem_listed->cQ,stepG_none->cR,enter_at->cS,deaf_old->c8,touch_of->dV,act?_old->dX,hb_app->eA,touch_mute->eB,counts_old->eC,act?_of->eJ
open Go.Next renaming value->ñ,enter->Ź,skip->aT
open Go.TypeDesc renaming pointer->ò,unsafePointer->Ė,string->ğ,int->Ρ,struct->dx,slice->dy
open Go.Call renaming operands->ú
open Go.Conv renaming unsafePointer->ü,bytesToString->ā,seenAt->Μ,runesToString->aR,floatToFloat->bg,intToString->bz,floatToInt->bU,intToInt->dh
open Go.Loc renaming cell->Ā,mark->ž
open Ne renaming symm->Ċ
open Go.World renaming frozen?->č,setCell->Ď,freeze->Ĝ,cell?->ħ,farLoad->ŗ,farStore->ų,shape?->ζ,setChan->aH,noCell->bb,viewStore->bT
open Go.Extern.BytealgMakeNoZero renaming makeNoZero->ď,digits->ő
open Go.Mode renaming atomic->Đ,plain->ű
open Go.Obj renaming cells->đ,pending->Η,chan->ay
open Go.Callee renaming builtin->Ĥ,value->cD
open Option.some renaming inj->ī,injEq->Ν
open Go.Region renaming wanted->ĭ,schedule->bW,Mode->eR
open Go.Instr renaming sliceBounds->į,sliceBound->Ĵ,buildSlice->Ķ,storeAt->ļ,makeSlice->Ń,extract->ř,fieldAt->Ś,indexAt->ś,sliceAt->Ŝ,makeInterface->Ū,loadAt->ū,sureAddr->Ŵ,fill->ŵ,alloc->ſ,field->Α,slice->Β,index->Γ,build->Δ,panic->Λ,box->aB
open Go.Deferred renaming ofValue->Ĺ
open Go.Mark renaming releaseMerge->Ŀ,noRoom->ε,disable->cW,acquire->cX,enable->dH,release->dW
open Go.Extern.AbiNoEscape renaming same->ŉ
open Go.Halt renaming unsupported->Ŋ
open Go.Trace renaming g?->Ő
open Go.Stepped renaming next->œ
open Go.Touch.Kind renaming atomic->Š
open Go.Frame renaming raise->Ţ,finish_at->υ,finish->bk,catches->di,enter->dS
open Go.Unsupported renaming unsafePointer->Ų,resourceLimit->ŷ,noEntry->cy
open Go.Question renaming appendCap->Ŷ
open Go.GStep renaming after->Θ,go->bj
open Go.Goroutine renaming again->ω
open Except renaming bind->ak,pure->ar,error->bQ,map->cE
open Go.Op.Complex renaming corrected->au,quotient->aD,product->aO,arith->bx,conv->bV,cmp->cH,mul->cI,add->cJ,sub->cK,quo->cL
open Go.BinOp renaming eql->aL,neq->aX
open Go.Operand renaming func->aZ,const->eh,global->eG
open Go.Code renaming cond->bJ,region->bZ,refuse->dD,label->ep,block->eu,scope->ew,skip->eX,loop->eY,exit->eZ
open Go.ConcN renaming sumTo->bO,fork_knows->c9
variable{i n j b k m J j9 j7 j6:Nat}{w u W jX:Æ}{v x z jQ:Ã}{g:Ó}{a p:Û}{h c:Int}{e t T:Á}{d q:Array Ã}{P:Ø}{y:bP}{B:ByteArray}{X:Nat->Prop}{O:Option Û}{l:List Ã}{yQ:Bool}{K H:bP->Æ->Prop}{o:aI}{D:Nat->Nat}{E:Array Ó}{L:List Ũ}{jJ:List Nat}{qX:List Ğ}{qQ:Ù}{qJ:Ħ}{zX:dZ->Prop}{zQ:List Int}{zJ:Go.TypeInfo}{xX:Ù->Ã}{xQ:az}{xJ:Nat×Nat}{wX:aF}{wQ:dp}{wJ:Array Bool}{vX:List ByteArray}{vQ:Ã->Æ->Prop}{vJ:Go.Exit->bP->Æ->Prop}{yX:eR}{Q:Array aI}{f:Ğ}{V:Array Ă}{F:â}{s:Go.Func}
namespace Go.Proofs
theorem U{A:Sort _}{a:A}:a=a:=rfl
theorem Z{p:Prop}(h:p:=by omega):p:=h
theorem A{p:Prop}(h:p:=by decide):p:=h
theorem fi{p:Prop}(h:p:=by simp):p:=h
theorem fp{p:Prop}(h:p:=by kernel_rfl):p:=h
theorem fM{p:Prop}(h:p:=by rfl):p:=h
end Go.Proofs
namespace Go.Proofs.Y.Lift
open Go
structure fl where
 jF:Nat->Nat->Prop
 C:Nat
instance:CoeFun fl λ_=>Nat->Nat->Prop:=⟨fl.jF⟩
def Bi(Y:fl):Prop:=(∀i j a,Y i j->Y i a->j=a)/\(∀i a j,Y i j->Y a j->i=a)/\(∀i j,Y i j->(i<Y.C↔j<Y.C))
def fl.r(Y a:fl):Prop:=(∀i j,Y i j->a i j)/\(Bi Y->Bi a)/\a.C=Y.C
def fl.N(Y:fl)(r a:Nat):fl:=⟨λi j=>Y i j\/(i=r/\j=a),Y.C⟩
def fl.M(Y:fl):Y.r Y:=⟨λ_ _ h=>h,id,U⟩
theorem fl.I{a b c:fl}(h:a.r b)(k:b.r c):a.r c:=⟨λi j x=>k.1 i j<|h.1 i j x,λx=>k.2.1<|h.2.1 x,k.2.2.trans h.2.2⟩
theorem fl.S{Y:fl}{r:Nat}(c:∀j,¬Y r j)(d:∀a,¬Y a i)(f:Y.C<=r)(g:Y.C<=i):Y.r (Y.N r i):=by
 refine⟨λ_ _ h=>Ç h,λb=>⟨?_,?_,?_⟩,U⟩
 .rintro a j k (x|⟨rfl,rfl⟩) (y|⟨e,rfl⟩)
  .exact b.1 _ _ _ x y
  .grind
  .grind
  .rfl
 .rintro a k j (x|⟨rfl,rfl⟩) (y|⟨rfl,e⟩)
  .exact b.2.1 _ _ _ x y
  .grind
  .grind
  .rfl
 .rintro a j (x|⟨rfl,rfl⟩)
  .exact b.2.2 _ _ x
  .show(a<Y.C↔j<Y.C);omega
def gZ(Y:fl)(a b:Û):Prop:=Y a.block b.block/\a.off=b.off/\a.spot=b.spot
def gZ.r{Y b:fl}(h:Y.r b)(r:gZ Y a p):gZ b a p:=⟨h.1 _ _ r.1,r.2⟩
def gZ.C{Y:fl}(r:gZ Y a p)(n:Nat):gZ Y (a.add n) (p.add n):=by
 let⟨b,c,d⟩:=r;unfold Addr.add;by_cases e:n=0
 .rw[if_pos e,if_pos e];exact⟨b,c,d⟩
 .rw[if_neg e,if_neg e];exact⟨b,by simp[c],U⟩
inductive fh(Y:fl):Ã->Ã->Prop
 |mC (b:Bool):fh Y (Ň b) (Ň b)
 |iC (k:ÿ) (n:Int):fh Y (ċ k n) (ċ k n)
 |kJ (s:ByteArray):fh Y (Į s) (Į s)
 |lS:fh Y (Ö ë) (Ö ë)
 |j0 {a a':Û} (h:gZ Y a a'):fh Y (Ö<|À a) (Ö<|À a')
 |nR (n c:Nat):fh Y (õ ë n c) (õ ë n c)
 |kU {a a':Û} (h:gZ Y a a') (n c:Nat):fh Y (õ (À a) n c) (õ (À a') n c)
 |vd:fh Y cg cg
 |fn (f:Fn):fh Y (eT f #[] #[]) (eT f #[] #[])
 |ve:fh Y bn bn
 |vf:fh Y (eD ë) (eD ë)
 |vg:fh Y (.map ë) (.map ë)
 |yp (t:Á) {v v':Ã} (h:fh Y v v'):fh Y (.iface t v) (.iface t v')
 |oK {cs lT:Array Ã} (hs:cs.size=lT.size) (h:∀i (h1:i<cs.size) (h2:i<lT.size),fh Y cs[i] lT[i]):fh Y (.agg cs) (.agg lT)
 |nS {cs lT:Array Ã} (hs:cs.size=lT.size) (h:∀i (h1:i<cs.size) (h2:i<lT.size),fh Y cs[i] lT[i]):fh Y (Ξ cs) (Ξ lT)
def fh.fN{Y a:fl}(h:Y.r a)(r:fh Y v x):fh a v x:=by
 induction r with
 |mC b=>exact .mC b
 |iC k n=>exact .iC k n
 |kJ s=>exact .kJ s
 |lS=>exact .lS
 |j0 b=>exact .j0 (b.r h)
 |nR n c=>exact .nR n c
 |kU b n c=>exact .kU (b.r h) n c
 |vd=>exact .vd
 |fn f=>exact .fn f
 |ve=>exact .ve
 |vf=>exact .vf
 |vg=>exact .vg
 |yp t _ b=>exact .yp t b
 |oK c _ b=>exact .oK c b
 |nS c _ b=>exact .nS c b
structure fR(Y:fl)(cs lT:Array Ã):Prop where
 r:cs.size=lT.size
 C:∀i (h1:i<cs.size) (h2:i<lT.size),fh Y cs[i] lT[i]
def fR.I{Y a:fl}(h:Y.r a){cs:Array Ã}(r:fR Y cs d):fR a cs d:=⟨r.r,λi b c=>(r.C i b c).fN h⟩
theorem fR.S{Y:fl}(r:fR Y d q)(i:Nat):(d[i]?=ë/\q[i]?=ë)\/∃v b,d[i]?=À v/\q[i]?=À b/\fh Y v b:=by
 by_cases h:i<d.size
 .have a:i<q.size:=by rwa[<-r.r]
  exact Î ⟨d[i],q[i],à h,à a,r.C i h a⟩
 .have a:¬i<q.size:=by rwa[<-r.r]
  grind
def fR.N(Y:fl):fR Y #[] #[]:=⟨U,λi h=>absurd h fi⟩
theorem fR.Ve{Y:fl}(r:fR Y d q)(h:fh Y v x):fR Y (d.push v) (q.push x):=by
 refine⟨by simp[r.r],λi b c=> ?_⟩;simp only[Array.getElem_push];have e:=r.r;by_cases a:i<d.size
 .rw[dif_pos a,dif_pos Z];exact r.C i a Z
 .grind
theorem fR.qN{Y:fl}(r:fR Y d q)(n:Nat)(h:fh Y v x):fR Y (d.setIfInBounds n v) (q.setIfInBounds n x):=by
 refine⟨by simp[r.r],λi c e=> ?_⟩;have f:i<d.size:=by simpa using c
 have g:i<q.size:=by simpa using e
 have a:(d.setIfInBounds n v)[i]?=if n=i then À v else d[i]?:=by grind
 have b:(q.setIfInBounds n x)[i]?=if n=i then À x else q[i]?:=by grind
 rw[à c]at a;rw[à e]at b;by_cases j:n=i
 .grind
 .rw[if_neg j]at a b;rw[à f]at a;rw[à g]at b;injection a with a;injection b with b;rw[a,b];exact r.C i f g
def fR.G{Y:fl}{cs b:Array Ã}(r:fR Y cs d)(t:fR Y q b):fR Y (cs++q) (d++b):=by
 refine⟨by simp[r.r,t.r],λi c g=> ?_⟩;have e:=r.r;have f:=t.r;simp only[Array.getElem_append];by_cases a:i<cs.size
 .rw[dif_pos a,dif_pos Z];exact r.C i a Z
 .rw[dif_neg a,dif_neg Z];have:=t.C (i-cs.size) (by simp at c;omega) (by simp at c;omega);simpa[e]using this
def fR.GM{Y:fl}(r:fR Y d q)(a b:Nat):fR Y (d.extract a b) (q.extract a b):=by refine⟨by simp[r.r],λi c e=> ?_⟩;rw[ae ..,ae ..];exact r.C _ _ _
def fR.M{Y:fl}(h:fh Y v x):fR Y #[v] #[x]:= ⟨U,λi a b=>by have:i=0:=(by simpa using a);subst this;exact h⟩
def fh.gT{Y:fl}(h:fh Y v x):fR Y v.cells x.cells:=by
 cases h with
 |oK a h=>exact⟨a,h⟩
 |mC b=>exact fR.M<|.mC b
 |iC k n=>exact fR.M<|.iC k n
 |kJ s=>exact fR.M<|.kJ s
 |lS=>exact fR.M .lS
 |j0 b=>exact fR.M<|.j0 b
 |nR n c=>exact fR.M<|.nR n c
 |kU b n c=>exact fR.M<|.kU b n c
 |vd=>exact fR.M .vd
 |fn f=>exact fR.M<|.fn f
 |ve=>exact fR.M .ve
 |vf=>exact fR.M .vf
 |vg=>exact fR.M .vg
 |yp t b=>exact fR.M<|.yp t b
 |nS a h=>exact fR.M<|.nS a h
def yq:Ã->Bool
 |.agg _|Ξ _=>Â
 |_=>È
def GN(e:Á)(n:Nat):Prop:=(e=304\/e=305)/\n<=16
class Ap (P:Ø):Prop where
 lt:∀e n,GN e n->n<P.cellsOf e
def Ef(e:Á)(n a:Nat):Prop:=n=a\/(n<=a/\GN e n)
structure pg(Y:fl)(s:Prop)(e:Á)(c c':Array Ã):Prop where
 r:∀i (_:i<c.size) (_:i<c'.size),fh Y c[i] c'[i]
 I:c.size<=c'.size
 C:c.size=c'.size\/(s/\GN e c.size)
section
variable{Y d:fl}{s:Prop}{c c':Array Ã}
def pg.M(h:fR Y c c'):pg Y s e c c':=⟨h.C,by rw[h.r];exact á _,Ç h.r⟩
def pg.N(h:pg Y s e c c')(a:¬s):fR Y c c':=⟨h.C.resolve_right λq=>a q.1,h.r⟩
def pg.fN(h:pg Y s e c c')(l:Y.r d):pg d s e c c':=⟨λi a b=>(h.r i a b).fN l,h.I,h.C⟩
theorem pg.Aq(h:pg Y s e c c')(i:Nat):(c[i]?=ë/\True)\/∃v a,c[i]?=À v/\c'[i]?=À a/\fh Y v a:=by
 by_cases q:i<c.size
 .have b:=Ô q h.I;exact Î ⟨c[i],c'[i],à q,à b,h.r i q b⟩
 .grind
def pg.adi(h:pg Y s e c c'):Ef e c.size c'.size:=h.C.imp id λq=>⟨h.I,q.2⟩
end
inductive fE(P:Ø){α:Type}(V:fl->α->α->Prop):fl->Ę α->Ę α->Prop
 |fC {Y:fl} {a a':α} (h:V Y a a'):fE P V Y (aU a) (aU a')
 |gy {Y:fl} {a a':Û} {k k':Ã->Ę α} (ha:gZ Y a a') (hk:∀v v',fh Y v v'->fE P V Y (k v) (k' v')):fE P V Y (.load ű a k) (.load ű a' k')
 |jc {Y:fl} {a a':Û} {v v':Ã} {k k':Ę α} (ha:gZ Y a a') (hv:fh Y v v') (hk:fE P V Y k k'):fE P V Y (dt ű a v k) (dt ű a' v' k')
 |yr {Y:fl} {c c':Array Ã} {e:Á} {k k':Nat->Ę α} (hc:fR Y c c') (hk:∀r r',(∀j,¬Y r j)->(∀i,¬Y i r')->Y.C<=r->Y.C<=r'->fE P V (Y.N r r') (k r) (k' r')):fE P V Y (.new (đ c e) k) (.new (đ c' e) k')
 |vh {Y:fl} {r r':Nat} {k k':Option (TypeId×Nat)->Ę α} (hr:Y r r') (hk:∀e n n',Ef e n n'->fE P V Y (k<|À (e,n)) (k'<|À (e,n'))):fE P V Y (.shape r k) (.shape r' k')
 |OO {Y:fl} {a a':Û} {k k':Bool->Ę α} (ha:gZ Y a a') (hk:∀b b',(b'=È->b=È)->fE P V Y (k b) (k' b')):fE P V Y (.frozen a k) (.frozen a' k')
 |Ar {Y:fl} {q:cj} {k k':Nat->Ę α} (hk:∀n,fE P V Y (k n)<|k' n):fE P V Y (.choose q k) (.choose q k')
 |Ko {Y:fl} {k k':Ø->Ę α} (hk:fE P V Y (k P) (k' P)):fE P V Y (.program k) (.program k')
 |Eg {Y:fl} {m:Mark} {k k':Ę α} (hm:m=ε\/∃f,m=.extern f) (hk:fE P V Y k k'):fE P V Y (.mark m k) (.mark m k')
 |fQ {Y:fl} {h:Halt} {m:Ę α}:fE P V Y (eE h) m
 |oL {Y:fl} {m m':Ę α} (h:∀u x u',m.run P u≠Ĭ x u'):fE P V Y m m'
def wD{α β:Type}{m:Ę α}{f:α->Ę β}(h:∀u x b,m.run P u≠Ĭ x b):∀u x b,(m.bind f).run P u≠Ĭ x b:=by
 intro u x b e;have c:(m>>=f).run P u=Ĭ x b:=e;rw[Ä]at c;cases d:m.run P u with
 |ok a w=>exact h _ _ _ d
 |halt z w=>rw[d]at c;cases c
def fE.lD{α β:Type}{V:fl->α->α->Prop}{l:fl->β->β->Prop}{Y:fl}{m o:Ę α}{f p:α->Ę β}(h:fE P V Y m o) (g:∀i a k,Y.r i->V i a k->fE P l i (f a) (p k)):fE P l Y (m.bind f) (o.bind p):=by
 induction h with
 |fC h=>exact g _ _ _ (fl.M _) h
 |gy j _ d=>exact .gy j λv c b=>d v c b g
 |jc j b _ d=>exact .jc j b (d g)
 |yr q _ d=>exact .yr q λr s c e n v=>d r s c e n v λi a k t b=>g i a k (fl.I (fl.S c e n v) t) b
 |vh b _ d=>exact .vh b λe n v c=>d e n v c g
 |OO j _ d=>exact .OO j λb c v=>d b c v g
 |Ar _ d=>exact .Ar λn=>d n g
 |Ko _ d=>exact .Ko (d g)
 |Eg c _ d=>exact .Eg c (d g)
 |fQ=>exact .fQ
 |oL h=>exact .oL (wD h)
def yt:Ã->Bool
 |ċ .u8 _=>È
 |_=>Â
def Eh(c:Array Ã):Prop:=∀(k:Nat) (v:Ã),c[k]?=À v->yt v=Â
structure jh(Y:fl)(Sh:Nat->Prop)(u w:Æ):Prop where
 S:u.tape=w.tape
 N:u.drawn=w.drawn
 C:Bi Y
 I:Y.C<=u.heap.size
 M:Y.C<=w.heap.size
 r:∀i j,Y i j->∃c c' e fr wE,u.heap[i]?=À (đ c e fr)/\w.heap[j]?=À (đ c' e wE)/\pg Y (Sh j) e c c'/\(Sh j->fr.1=0/\c.size<=fr.2/\wE.2<=fr.2/\0<c.size/\(Eh c\/GN e c.size))/\(¬Sh j->fr=wE)/\fr.2<=c.size
structure nT(Y:fl)(Sh:Nat->Prop)(w w':Æ):Prop where
 r:w.heap.size<=w'.heap.size
 I:w'.os=w.os
 M:w'.output=w.output
 S:w'.tape=w.tape
 C:∀j,j<w.heap.size->(∀i,¬Y i j)->w'.heap[j]?=w.heap[j]?
 N:∀j,Sh j->j<w.heap.size->w'.heap[j]?=w.heap[j]?
def As(Y:fl)(b:Nat->Prop)(e:Ă):Prop:=
 (∃(a:Û) (i:Nat),e.loc=Ā a/\Y i a.block/\e.sync=Â/\(e.write=È->¬b a.block))\/e.loc=ž ε\/∃f,e.loc=ž (.extern f)
def wF{α:Type}{m:Mode}{k:Ę α}(h:yq v=È): å P (dt m a v k) w=(match w.cell? a with
 |some _=>if w.frozen? a then cm (Ŋ<|Ų "a write to bytes that a string shares") w else k.run P (w.setCell a v)
 |none=>match w.farStore P a v (m==Đ)with
  |.ok (w,_)=>k.run P w
  |bQ h=>cm h w):=by
 cases v<;>first|rfl|cases h
def adj{α:Type}{m:Mode}{k:Ę α}(h:yq v=È): ì P (dt m a v k) w V=(match w.cell? a with
 |some _=>
  if w.frozen? a then(cm (Ŋ<|Ų "a write to bytes that a string shares") w,V)
  else k.runT P (w.setCell a v) (V.push ⟨Ā a,È,m==Đ⟩)
 |none=>match w.farStore P a v (m==Đ)with
  |.ok (w,touched)=>k.runT P w (V++touched.toArray.map (⟨.cell ·,È,m==.atomic⟩))
  |bQ h=>(cm h w,V)):=by
 cases v<;>first|rfl|cases h
def adk{α:Type}{m:Mode}{k:Ę α}(h:yq v=Â){x:α}:å P (dt m a v k) w≠Ĭ x u:=by cases v<;>first|exact Bool.noConfusion h|(intro e;simp[å]at e)
def adl{Y:fl}(h:fh Y v x):yq x=yq v:=by cases h<;>rfl
section
variable{Y:fl}
def At(h:u.heap[a.block]?=À (đ d e xJ)):u.cell? a=if a.spot.isSome then ë else d[a.off]?:=by simp[ħ,h]
def adn(h:u.heap[a.block]?=À (đ d e xJ))(b:Bool):∃x,u.farLoad P a b=bQ x:=by simp[ŗ,h]
def ado(h:u.heap[a.block]?=À (đ d e xJ))(b:Bool):∃x,u.farStore P a v b=bQ x:=by simp[ų,h]
def jh.gy(h:jh Y X u w){a':Û}(i:gZ Y a a')(b:u.cell? a=À v):∃f,w.cell? a'=À f/\fh Y v f:=by
 let⟨j,k,l⟩:=i;let⟨c,s,e,t,y,m,n,o,_⟩:=h.r _ _ j;rw[At m]at b;rw[At n,<-k,<-l];cases g:a.spot with
 |some x=>rw[g]at b;cases b
 |none=>
  rw[g]at b;rcases o.Aq a.off with⟨d,_⟩|⟨x,p,d,q,r⟩
  .simp[d]at b
  .simp[d]at b;subst b;exact⟨p,by simp[q],r⟩
theorem jh.adp(h:jh Y X u w)(g:gZ Y a p)(i:u.cell? a=À v)(j:u.frozen? a=Â):¬X p.block/\w.frozen? p=Â:=by
 let⟨k,l,q⟩:=g;let⟨c,r,e,b,s,d,m,t,x,n,y⟩:=h.r _ _ k;rw[At d]at i;have z:a.off<c.size:=by grind
 have o:(decide (b.1<=a.off)&&decide (a.off<b.2))=Â:=by simpa[č,d]using j
 have f:¬X p.block:=by grind
 refine⟨f,?_⟩;have:=n f;subst this;simp only[č,m,<-l];exact o
def Vf{w:Æ}(h:w.heap[a.block]?=À (đ d e xJ))(b:a.spot=ë): (w.setCell a v).heap[a.block]?=À (đ (d.setIfInBounds a.off v) e xJ):=by simp[Ď,Œ,h,b]
def j1{w:Æ}:(w.setCell a v).heap.size=w.heap.size:=by simp[Ď]
def Kp{w:Æ}(h:a.block≠j):(w.setCell a v).heap[j]?=w.heap[j]?:=by simp[Ď,Œ,h]
def jh.jc(h:jh Y X u w)(B:gZ Y a p)(C:fh Y v z)(D:u.cell? a=À x)(m:¬X p.block):jh Y X (u.setCell a v) (w.setCell p z):=by
 let⟨d,E,F⟩:=B;have n:a.spot=ë:=by let⟨c,o,e,f,g,b,_⟩:=h.r _ _ d;rw[At b]at D;simp_all
 refine⟨h.S,h.N,h.C,by rw[j1];exact h.I,by rw[j1];exact h.M,λi j k=> ?_⟩;let⟨c,o,e,f,g,b,q,r,G,t,y⟩:=h.r i j k;by_cases l:a.block=i
 .subst l;have:j=p.block:=h.C.1 _ _ _ k d;subst this;exact⟨_,_,e,f,g,Vf b n,Vf q (by rw[<-F,n]),by rw[<-E];exact pg.M<|(r.N m).qN _ C,λs=>absurd s m,t,by simpa using y⟩
 .exact⟨c,o,e,f,g,by rwa[Kp l],by rwa[Kp λe=>l<|h.C.2.1 _ _ _ d<|e▸k],r,G,t,y⟩
theorem jh.yr(h:jh Y X u w)(m:∀j,X j->j<w.heap.size)(n:fR Y d q): jh (Y.N u.heap.size w.heap.size) X {u with heap:=u.heap.push (đ d e)} {w with heap:=w.heap.push (đ q e)}:=by
 have a:∀i j,Y i j->i<u.heap.size/\j<w.heap.size:=by intro i j s;let⟨_,_,_,_,_,f,g,_⟩:=h.r i j s;grind
 have b:=fl.S (Y:=Y) (λj x=>absurd (a _ _ x).1 Z) (λi x=>absurd (a _ _ x).2 Z) h.I h.M;refine⟨h.S,h.N,b.2.1 h.C,by have:=h.I;simp[fl.N];omega,by have:=h.M;simp[fl.N];omega,?_⟩
 .rintro i j (x|⟨rfl,rfl⟩)
  .let⟨s,o,p,r,t,f,g,v,y,z,B⟩:=h.r i j x;let⟨k,l⟩:=a i j x;exact⟨s,o,p,r,t,by simp only[ĩ k];rw[<-f,à k],by simp only[ĩ l];rw[<-g,à l],v.fN b,y,z,B⟩
  .exact⟨d,q,e,(0,0),(0,0),fi,fi,pg.M<|n.I b,λs=>absurd (m _ s) Z,λ_=>rfl,dJ _⟩
theorem nT.fU(Y:fl)(X:Nat->Prop)(w:Æ):nT Y X w w:=⟨á _,U,U,U,λ_ _ _=>rfl,λ_ _ _=>rfl⟩
def nT.fe{b:fl}{w₁:Æ}(h:nT Y X w w₁)(k:nT b X w₁ u)(d:∀i j,b i j->Y i j\/w.heap.size<=j):nT Y X w u:= ⟨û h.r k.r,k.I.trans h.I,k.M.trans h.M,k.S.trans h.S,λj a c=>(k.C j (Ô a h.r) λi y=>(d i j y).elim (c i) λz=>by omega).trans<|h.C j a c,λj s a=>(k.N j s<|Ô a h.r).trans<|h.N j s a⟩
def Kq{w:Æ}:(w.freeze a n).heap.size=w.heap.size:=by unfold Ĝ;split<;>simp
def adq{w:Æ}:(w.freeze a n).os=w.os:=by unfold Ĝ;split<;>rfl
def adr{w:Æ}:(w.freeze a n).output=w.output:=by unfold Ĝ;split<;>rfl
def OP{w:Æ}:(w.freeze a n).tape=w.tape:=by unfold Ĝ;split<;>rfl
def Vg{w:Æ}:(w.freeze a n).drawn=w.drawn:=by unfold Ĝ;split<;>rfl
theorem Kr{w:Æ}(h:a.block≠j):(w.freeze a n).heap[j]?=w.heap[j]?:=by unfold Ĝ;split;all_goals grind
def sN(a:Û)(n:Nat)(b:Nat×Nat):Nat×Nat:=if n=0 then b else if b.1==b.2 then(a.off,a.off+n)else(min b.1 a.off,max b.2<|a.off+n)
theorem Vh{w:Æ}(h:w.heap[a.block]?=À (đ d e xJ)):(w.freeze a n).heap[a.block]?=À (đ d e<|sN a n xJ):=by unfold Ĝ sN;grind
def Vi(h:a.off=p.off)(n:Nat)(b:Nat×Nat):sN a n b=sN p n b:=by unfold sN;rw[h]
theorem ads(h:a.off+n<=i)(b:xJ.2<=i):(sN a n xJ).2<=i:=by unfold sN;grind
theorem adt{b:Nat×Nat}(c:0<i)(d:xJ.1=0)(e:i<=xJ.2)(f:b.2<=xJ.2):(sN a n xJ).1=0/\i<=(sN a n xJ).2/\(sN a n b).2<=(sN a n xJ).2:=by unfold sN;grind
def jh.adu(h:jh Y X u w)(y:gZ Y a p)(n:Nat)(z:∀c e b,u.heap[a.block]?=À (đ c e b)->a.off+n<=c.size):jh Y X (u.freeze a n) (w.freeze p n):=by
 obtain⟨k,l,I⟩:=y;refine⟨OP.trans<|h.S.trans OP.symm,Vg.trans<|h.N.trans Vg.symm,h.C,by rw[Kq];exact h.I,by rw[Kq];exact h.M,λi j d=> ?_⟩;obtain⟨c,m,e,b,B,f,o,q,r,t,v⟩:=h.r i j d;by_cases g:a.block=i
 .subst g;have:j=p.block:=h.C.1 _ _ _ d k;subst this;refine⟨c,m,e,_,_,Vh f,Vh o,q,λs=> ?_,λs=> ?_,ads (z _ _ _ f) v⟩
  .obtain⟨C,D,E,x⟩:=r s;rw[<-Vi l];obtain⟨F,G,H⟩:=adt x.1 C D E;exact⟨F,G,H,x⟩
  .rw[t s,Vi l]
 .exact⟨c,m,e,b,B,by rwa[Kr g],by rwa[Kr λe=>g<|h.C.2.1 _ _ _ k<|e▸d],q,r,t,v⟩
theorem jh.G(h:jh Y X u w)(b:gZ Y a p):w.frozen? p=È->u.frozen? a=È:=by let⟨d,f,j⟩:=b;let⟨c,k,e,l,m,g,i,n,o,q,r⟩:=h.r _ _ d;simp only[č,g,i,<-f,ġ,decide_eq_true_eq];rintro⟨x,y⟩;by_cases s:X p.block;all_goals grind
theorem fE.gi{α:Type}{V:fl->α->α->Prop}{Y:fl}{m m':Ę α}(h:fE P V Y m m'):∀{u w:Æ},jh Y X u w->(∀j,X j->j<w.heap.size)->∀{x:α} {E:Æ},m.run P u=Ĭ x E->∀n:Array Ă,∃(l:fl) (t:α) (p:Æ) (B:Array Ă),Y.r l/\(∀i j,l i j->Y i j\/(u.heap.size<=i/\w.heap.size<=j))/\m'.runT P w n=(Ĭ t p,n++B)/\V l x t/\jh l X E p/\nT Y X w p/\(∀e∈B,As l X e)/\u.heap.size<=E.heap.size:=by
 induction h with
 |fC h=>
  intro u w d _ x E b n;simp only[å]at b;cases b;exact⟨_,_,w,#[],fl.M _,λ_ _ h=>Ç h,by simp[ì],h,d,nT.fU _ _ _,λe o=>by simp at o,á _⟩
 |@gy Y a a' k k' ha hk D=>
  intro u w d C x E b n;simp only[å]at b;cases f:u.cell? a with
  |none=>
   let⟨c,Q,e,fr,wE,O,_⟩:=d.r _ _ ha.1;let⟨z,s⟩:=adn (P:=P) O<|ű==Đ;rw[f]at b;simp only[s]at b;cases b
  |some v=>
   rw[f]at b;let⟨W,S,y⟩:=d.gy ha f;let⟨l,t,p,B,F,G,I,J,K,g,L,H⟩:=D v W y d C b<|n.push ⟨Ā a',Â,Â⟩;refine⟨l,t,p,#[⟨Ā a',Â,Â⟩]++B,F,G,?_,J,K,g,λe o=> ?_,H⟩
   .simp only[ì,S];rw[show((ű==Đ)=Â)from U,I];rw[<-Ņ,ŋ]
   .rcases Ģ.1 o with o|o
    .simp at o;subst o;exact Ç ⟨a',_,U,F.1 _ _ ha.1,U,λe=>by cases e⟩
    .exact L e o
 |@jc Y a a' v W k k' ha hv _ D=>
  intro u w d C x E b n;cases ho:yq v with
  |false=>exact absurd b<|adk ho
  |true=>
   rw[wF ho]at b;cases f:u.cell? a with
   |none=>
    let⟨c,Q,e,fr,wE,O,_⟩:=d.r _ _ ha.1;let⟨z,s⟩:=ado (P:=P) (v:=v) O<|ű==Đ;rw[f]at b;simp only[s]at b;cases b
   |some y=>
    rw[f]at b;cases M:u.frozen? a with
    |true=>rw[M]at b;simp at b
    |false=>
     simp only[M,Å,if_false]at b;let⟨ns,hf'⟩:=d.adp ha f M;let⟨y',OQ,_⟩:=d.gy ha f;let⟨l,t,p,B,F,G,I,J,K,g,L,H⟩:=D (d.jc ha hv f ns) (by rwa[j1]) b<|n.push ⟨Ā a',È,Â⟩;have S:(w.setCell a' W).heap.size=w.heap.size:=j1;have Vj:(u.setCell a v).heap.size=u.heap.size:=j1;refine⟨l,t,p,#[⟨Ā a',È,Â⟩]++B,F,by rwa[S,Vj]at G,?_,J,K,?_,λe o=> ?_,by rwa[Vj]at H⟩
     .rw[adj<|(adl hv).trans ho,OQ];simp only[hf',Å,if_false];rw[show((ű==Đ)=Â)from U,I];rw[<-Ņ,ŋ]
     .refine⟨by rw[<-S];exact g.r,g.I,g.M,g.S,λj N T=> ?_,λj s N=>(g.N j s<|by rwa[S]).trans<|Kp λe=>ns<|e▸s⟩;rw[g.C j (by rwa[S]) T];exact Kp λe=>T a.block<|e▸ha.1
     .rcases Ģ.1 o with o|o
      .simp at o;subst o;exact Ç ⟨a',_,U,F.1 _ _ ha.1,U,λ_=>ns⟩
      .exact L e o
 |@yr Y c Q e k k' f _ D=>
  intro u w d C x E b n;simp only[å]at b;have W:∀i j,Y i j->i<u.heap.size/\j<w.heap.size:=by intro i j S;let⟨_,_,_,_,_,O,hw',_⟩:=d.r i j S;grind
  have n1:∀j,¬Y u.heap.size j:=λj y=>absurd (W _ _ y).1 Z;have n2:∀i,¬Y i w.heap.size:=λi y=>absurd (W _ _ y).2 Z;let⟨l,t,p,B,F,G,I,J,K,g,L,H⟩:=D u.heap.size w.heap.size n1 n2 d.I d.M (d.yr C f) (λj s=>by have:=C j s;simp;omega) b n;refine⟨l,t,p,B,fl.I (fl.S n1 n2 d.I d.M) F,λi j S=> ?_,by simp only[ì];exact I,J,K,?_,L,by simp at H;omega⟩
  .rcases G i j S with(y|⟨rfl,rfl⟩)|y
   .exact Ç y
   .exact Î ⟨á _,á _⟩
   .simp at y;exact Î ⟨Z,Z⟩
  .have hs:=g.r;simp at hs;refine⟨Z,g.I,g.M,g.S,λj N T=> ?_,λj s N=>(g.N j s<|by simp;omega).trans ?_⟩
   .rw[g.C j (by simp;omega) (λi z=>z.elim (T i) λz=>by omega)];simp[ĩ N]
   .simp[ĩ N]
 |@vh Y r r' k k' pj _ D=>
  intro u w d C x E b n;simp only[å]at b;let⟨c,Q,e,fr,wE,O,hw',S,_⟩:=d.r _ _ pj;have f:u.shape? r=À (e,c.size):=by simp[ζ,O]
  have s:w.shape? r'=À (e,Q.size):=by simp[ζ,hw']
  rw[f]at b;let⟨l,t,p,B,h⟩:=D e c.size Q.size S.adi d C b n;exact⟨l,t,p,B,by simp only[ì,s];exact h⟩
 |@OO Y a a' k k' ha _ D=>
  intro u w d C x E b n;simp only[å]at b;let⟨l,t,p,B,h⟩:=D (u.frozen? a) (w.frozen? a') (d.G ha) d C b n;exact⟨l,t,p,B,by simpa only[ì]using h⟩
 |@Ar Y q k k' _ D=>
  intro u w d C x E b n;simp only[å]at b;cases M:q.forced with
  |true=>
   rw[M]at b;simp only[if_true]at b;let⟨l,t,p,B,h⟩:=D 0 d C b n;exact⟨l,t,p,B,by simpa only[ì,M,if_true]using h⟩
  |false=>
   rw[M]at b;simp only[Å,if_false]at b;have S:jh Y X {u with drawn:=u.drawn+1} {w with drawn:=w.drawn+1}:=⟨d.S,by simp[d.N],d.C,d.I,d.M,d.r⟩;rw[d.S,d.N]at b;obtain⟨l,t,p,B,F,G,I,J,K,g,L,H⟩:=D (q.cut<|w.tape w.drawn q) S C (by rwa[d.S,d.N]) n;exact⟨l,t,p,B,F,G,by simp only[ì,M,Å,if_false];exact I,J,K,⟨g.r,g.I,g.M,g.S,g.C,g.N⟩,L,H⟩
 |Ko _ D=>
  intro u w d C x E b n;simp only[å]at b;let⟨l,t,p,B,h⟩:=D d C b n;exact⟨l,t,p,B,by simpa only[ì]using h⟩
 |@Eg Y mk k k' hm _ D=>
  intro u w d C x E b n;simp only[å]at b;let⟨l,t,p,B,F,G,I,J,K,g,L,H⟩:=D d C b<|n.push ⟨ž mk,Â,È⟩;refine⟨l,t,p,#[⟨ž mk,Â,È⟩]++B,F,G,?_,J,K,g,λe o=> ?_,H⟩
  .simp only[ì];rw[I];rw[<-Ņ,ŋ]
  .rcases Ģ.1 o with o|o
   .simp at o;subst o;rcases hm with rfl|⟨f,rfl⟩
    .exact Î<|Ç U
    .exact Î<|Î ⟨f,U⟩
   .exact L e o
 |fQ=>
  intro u w _ _ x E b n;simp only[å]at b;cases b
 |oL h=>
  intro u w _ _ x E b n;exact absurd b<|h _ _ _
end
inductive jS:Ã->Prop
 |mC (b:Bool):jS (Ň b)
 |iC (k:ÿ) (n:Int):jS (ċ k n)
 |kJ (s:ByteArray):jS (Į s)
 |lS:jS (Ö ë)
 |nR (n c:Nat):jS (õ ë n c)
 |vd:jS cg
 |ve:jS bn
 |vf:jS (eD ë)
 |vg:jS (.map ë)
 |oK {cs:Array Ã} (h:∀i (h:i<cs.size),jS cs[i]):jS (.agg cs)
 |nS {cs:Array Ã} (h:∀i (h:i<cs.size),jS cs[i]):jS (Ξ cs)
def jS.jF(h:jS v)(Y:fl):fh Y v v:=by
 induction h with
 |mC b=>exact .mC b
 |iC k n=>exact .iC k n
 |kJ s=>exact .kJ s
 |lS=>exact .lS
 |nR n c=>exact .nR n c
 |vd=>exact .vd
 |ve=>exact .ve
 |vf=>exact .vf
 |vg=>exact .vg
 |oK _ b=>exact .oK U λi c _=>b i c
 |nS _ b=>exact .nS U λi c _=>b i c
def nU(P:Ø):Prop:=∀t i z,P.info? t=À i->i.zero=À z->jS z
def jr{α:Type}:fl->α->α->Prop:=λ_ a b=>a=b
section
variable{Y:fl}
def fD{α β:Type}{V:fl->α->α->Prop}{V':fl->β->β->Prop}{m c:Ę α}{f d:α->Ę β}(h:fE P V Y m c) (g:∀b a e,Y.r b->V b a e->fE P V' b (f a) (d e)):fE P V' Y (m>>=f) (c>>=d):=fE.lD h g
def sP{α β:Type}{c:fl->β->β->Prop}{m:Ę α}{f d:α->Ę β}(h:fE P jr Y m m) (g:∀b a,Y.r b->fE P c b (f a) (d a)):fE P c Y (m>>=f) (m>>=d):= fE.lD h λb a i j (e:a=i)=>by subst e;exact g b a j
def rF:fE P (λ_ a b=>a=P/\b=P) Y du du:=.Ko (.fC ⟨U,U⟩)
theorem OS{α:Type}{V:fl->α->α->Prop}{e:η}(h:(∃x y s c,e=.bounds x y s c)\/(∃m,e=.error m)\/(∃m,e=.plain m)\/e=.nilDeref):fE P V Y (runtimePanic e) (runtimePanic e):=by unfold runtimePanic;refine fD rF ?_;rintro f a g _ ⟨b,d⟩;rw[b,d];rcases h with⟨x,y,s,c,rfl⟩|⟨m,rfl⟩|⟨m,rfl⟩|rfl<;>exact .fQ
theorem GO{α:Type}{V:fl->α->α->Prop}{k:ÿ}{y:Int}{c:aJ}:fE P V Y (boundsPanic k h y c) (boundsPanic k h y c):=by
 unfold boundsPanic;simp only[];split
 .apply sP (.Ar λn=> .fC U);grind [OS]
 .grind [OS]
def yu(t:Á):fE P (λ_ a b=>a=b/\P.info? t=À a) Y (ý t) (ý t):=by
 unfold ý;apply fD rF;rintro e a b _ ⟨c,d⟩;rw[c,d];cases h:P.info? t with
 |some i=>exact .fC ⟨U,U⟩
 |none=>exact .fQ
def jd(t:Á):fE P (λ_ a b=>a=b/\P.underlying t=À a) Y (ö t) (ö t):=by
 unfold ö;apply fD rF;rintro e a b _ ⟨c,d⟩;rw[c,d];cases h:P.underlying t with
 |some i=>exact .fC ⟨U,U⟩
 |none=>exact .fQ
def GQ(b:nU P)(t:Á):fE P fh Y (Ě t) (Ě t):=by
 unfold Ě;apply fD (yu t);rintro d a e _ ⟨rfl,h⟩;cases c:a.zero with
 |some z=>exact .fC ((b t a z h c).jF _)
 |none=>exact .fQ
def nn(t:Á):fE P (λ_ a b=>a=b/\∃i,P.info? t=À i/\i.size=a) Y (ŕ t) (ŕ t):=by unfold ŕ;apply fD (yu t);rintro i a b _ ⟨rfl,h⟩;exact .fC ⟨U,_,h,U⟩
def Vk(t:Á):fE P jr Y (eF t) (eF t):=by unfold eF;apply fD (jd t);rintro b a c _ ⟨rfl,_⟩;split<;>exact .fC U
def Ks(h:gZ Y a p):fE P fh Y (bq a) (bq p):=.gy h λ_ _ b=> .fC b
def adv(h:gZ Y a p)(b:fh Y v x):fE P jr Y (aG a v) (aG p x):=.jc h b (.fC U)
def adw:∀{Y:fl} {a b:Û} {i:Nat} {c d:Array Ã},gZ Y a b->fR Y c d->fE P fR Y (Ř a i n c) (Ř b i n d):=by
 induction n with
 |zero=>intro Y a b i c d _ e;exact .fC e
 |succ n h=>
  intro Y a b i c d f e;unfold Ř;apply fD (Ks<|f.C i);exact λk v l g j=>h (f.r g)<|(e.I g).Ve j
def OT(h:gZ Y a p)(n:Nat):fE P fR Y (dq a n) (dq p n):=adw h<|fR.N Y
def OU:∀{d c:List Ã} {Y:fl} {a e:Û} {i:Nat},gZ Y a e->fR Y d.toArray c.toArray->fE P jr Y (Ŗ a d i) (Ŗ e c i):=by
 intro d
 induction d with
 |nil=>
  intro c Y a e i _ b;have:c=[]:=by have:=b.r;simp at this;exact ą this.symm
  subst this;exact .fC U
 |cons v d h=>
  intro c Y a e i f b;match c,b with
  |[],b=>have:=b.r;simp at this
  |v'::c,b=>
   unfold Ŗ;refine fD (adv (f.C i) (by have:=b.C 0 fi fi;simpa using this)) ?_;intro m _ _ g _;apply h (f.r g);refine⟨by have:=b.r;simpa using this,λj k l=> ?_⟩;have:=b.C (j+1) (by simp at k|-;omega) (by simp at l|-;omega);exact(by simpa using this:fh Y _ _).fN g
theorem Vl(h:gZ Y a p)(t:Á):fE P fh Y (aA t a) (aA t p):=by
 unfold aA;apply sP (Vk t);intro g b d;split
 .apply fD (nn t);rintro i n _ f ⟨rfl,_⟩;apply fD (OT ((h.r d).r f) n);exact λj c k _ e=> .fC (.oK e.r e.C)
 .exact Ks<|h.r d
def adx(h:gZ Y a p)(t:Á)(d:fh Y v x):fE P jr Y (aV t a v) (aV t p x):=by
 unfold aV;apply fD (nn t);rintro f n _ b ⟨rfl,_⟩;have c:=(d.fN b).gT;by_cases e:v.cells.size≠n
 .rw[if_pos e];exact .fQ
 .rw[if_neg e,if_neg (by rwa[<-c.r])];exact OU (h.r b) c
def GR(e:Á)(h:fR Y d q):fE P gZ Y (ņ e d) (ņ e q):= .yr h λ_ _ _ _ _ _=> .fC ⟨Î ⟨U,U⟩,U,U⟩
def Vm(t:Á)(h:fh Y v x):fE P gZ Y (eU t v) (eU t x):=GR t h.gT
def Vo(t:Á)(h:fR Y d q)(a:Nat):fE P fh Y (part t d a) (part t q a):=by
 unfold part;apply sP (Vk t);intro i b e;split
 .apply fD (nn t);rintro g n _ f ⟨rfl,_⟩;have:=((h.I e).I f).GM a<|a+n;exact .fC (.oK this.r this.C)
 .rcases(h.I e).S a with⟨n,f⟩|⟨v,j,n,f,g⟩
  .rw[n];exact .fQ
  .rw[n,f];exact .fC g
def GU(h:fh Y v x):fE P gZ Y (Ŵ v) (Ŵ x):=by cases h<;>first|exact .fQ|(rename_i a;exact .fC a)
def Kt(h:fh Y v x):fE P jr Y (dw v) (dw x):=by cases h<;>first|exact .fC U|exact .fQ
def OV(h:fh Y v x):fE P jr Y (dK v) (dK x):=by unfold dK;apply fD (Kt h);rintro b a _ _ rfl;exact .fC U
def Vp(h:fh Y v x):fE P jr Y (cu v) (cu x):=by cases h<;>first|exact .fC U|exact .fQ
def ady(h:fh Y v x):fE P fR Y (eV v) (eV x):=by cases h<;>first|exact .fQ|(rename_i a y;exact .fC ⟨a,y⟩)
def Vq(h:fh Y v x):fE P gZ Y (cw v) (cw x):=by cases h<;>first|exact OS (Î<|Î<|Î U)|(rename_i a;exact .fC a)|exact .fQ
def adz(b:nU P)(t:Á)(v:Ã):fE P fh Y (ſ t È v) (ſ t È v):=by unfold ſ;apply fD (GQ b t);intro d z e _ h;apply fD (Vm t h);exact λf a g _ c=> .fC (.j0 c)
def adA(t:Á)(h:fh Y v x):fE P fh Y (aB t v) (aB t x):=by unfold aB;apply fD (Vm t h);exact λc a d _ b=> .fC (.j0 b)
theorem adB(t:Á)(h:fh Y v x):fE P fh Y (ū t v) (ū t x):=by unfold ū;apply fD (GU h);grind [Vl]
def adC(t:Á)(b:fh Y x z)(h:fh Y v jQ):fE P jr Y (ļ t x v) (ļ t z jQ):=by unfold ļ;apply fD (GU b);exact λd x z c b=>adx b t<|h.fN c
def adD(h:fh Y v x)(n:Nat):fE P fh Y (ř v n) (ř x n):=by
 cases h<;>first|exact .fQ|skip
 rename_i e f c h;simp only[ř];rcases(fR.mk c h).S n with⟨a,b⟩|⟨v,x,a,b,d⟩
 .rw[a];exact .fQ
 .rw[a,b];exact .fC d
def adE(t:Á)(h:fh Y v x)(n:Nat):fE P fh Y (Α t v n) (Α t x n):=by
 unfold Α;apply fD (jd t);rintro g d _ a ⟨rfl,_⟩;split
 .rename_i b _;cases i:b[n]? with
  |none=>exact .fQ
  |some f=>
   apply fD (ady<|h.fN a);exact λj c k _ e=>Vo f.type e f.offset
 .exact .fQ
end
section
variable{Y:fl}
def Au{α β:Type}{V:fl->β->β->Prop}{a b:α}{f c:α->Ę β}(h:fE P V Y (f a) (c b)):fE P V Y (pure a>>=f) (pure b>>=c):=h
def adF(s:Á)(h:fh Y v x)(n:Nat)(e:∀c f i,P.underlying s=À (dx c)->c[n]?=À f->P.info? f.type=À i->i.size≠0): fE P fh Y (Ś s v n) (Ś s x n):=by
 unfold Ś;apply fD (jd s);rintro r d _ g ⟨rfl,j⟩;cases d<;>try exact .fQ
 .rename_i c;simp only[];cases k:c[n]? with
  |none=>exact .fQ
  |some f=>
   apply fD (GU<|h.fN g);intro t a u _ l;unfold cx;refine fD (fD (V':=gZ) (nn f.type) ?_) ?_
   .rintro w z _ m ⟨rfl,i,o,p⟩;have:¬z=0:=by rw[<-p];exact e c f i j k o
    rw[if_neg this,if_neg this];exact .fC ((l.r m).C _)
   .exact λy b B _ q=> .fC (.j0 q)
def adG(t:Á){s:Ã}(w:fh Y x v)(y:fh Y jQ s):fE P fh Y (ś t x jQ) (ś t v s):=by
 unfold ś;apply fD (Kt y);rintro I ⟨k,n⟩ _ B rfl;apply fD (jd t);rintro J d _ C ⟨rfl,K⟩;have u:=(w.fN B).fN C;have D:∀{j:fl} {b g:Option Û} (f:Nat) (e:Á),((b=ë/\g=ë)\/∃a h,b=À a/\g=À h/\gZ j a h)->∀(o:Bool),fE P fh j (match b with
   |some a=>if 0<=n/\n<f then do pure (Ö<|À<|a.add<|n.toNat*(<-ŕ e))else if o=È then unsupported (cy "op/indexAddr.an index out of range at an array of length 0 or 1 (ledger 616)")else boundsPanic k n f .index
   |none=>boundsPanic k n 0 .index)
  (match g with
   |some a=>if 0<=n/\n<f then do pure (Ö<|À<|a.add<|n.toNat*(<-ŕ e))else if o=È then unsupported (cy "op/indexAddr.an index out of range at an array of length 0 or 1 (ledger 616)")else boundsPanic k n f .index
   |none=>boundsPanic k n 0 .index):=by
  intro j b g f e p o;rcases p with⟨rfl,rfl⟩|⟨a,h,rfl,rfl,l⟩
  .exact GO
  .simp only[];split
   .apply fD (nn e);rintro E z _ q ⟨rfl,_⟩;exact .fC (.j0 ((l.r q).C _))
   .split
    .exact .fQ
    .exact GO
 have r:∀{j:fl} {b g:Option Û} (f:Nat) (e:Á),((b=ë/\g=ë)\/∃a h,b=À a/\g=À h/\gZ j a h)->fE P fh j (ö t>>=λd=>match b with
   |some a=>if 0<=n/\n<f then do pure (Ö<|À<|a.add<|n.toNat*(<-ŕ e))else if(decide (f<=1)&&(match d with|.array .. =>È|_=>Â))=È then unsupported (cy "op/indexAddr.an index out of range at an array of length 0 or 1 (ledger 616)")else boundsPanic k n f .index
   |none=>boundsPanic k n 0 .index)
  (ö t>>=λd=>match g with
   |some a=>if 0<=n/\n<f then do pure (Ö<|À<|a.add<|n.toNat*(<-ŕ e))else if(decide (f<=1)&&(match d with|.array .. =>È|_=>Â))=È then unsupported (cy "op/indexAddr.an index out of range at an array of length 0 or 1 (ledger 616)")else boundsPanic k n f .index
   |none=>boundsPanic k n 0 .index):=by
  intro j b g f e p;apply fD (jd t);rintro E d _ q ⟨rfl,_⟩;exact D f e (p.imp id λ⟨a,h,F,G,H⟩=>⟨a,h,F,G,H.r q⟩) _
 cases d<;>try exact .fQ
 .rename_i e;cases u<;>first|exact .fQ|skip
  .rename_i m c;exact r m e<|Ç ⟨U,U⟩
  .rename_i l m c;exact r m e<|Î ⟨_,_,U,U,l⟩
 .rename_i f e;apply fD (GU u);exact λj a h _ l=>r f e<|Î ⟨_,_,U,U,l⟩
def Ei(h:fh Y x v)(y:Nat)(c:aJ):fE P jr Y (Ĵ x y c) (Ĵ v y c):=by
 unfold Ĵ;apply fD (Kt h);rintro a ⟨k,n⟩ _ b rfl;simp only[];split
 .exact .fC U
 .exact GO
def rG(Y:fl)(x a:Option Ã):Prop:=(x=ë/\a=ë)\/∃v b,x=À v/\a=À b/\fh Y v b
def rG.r{Y a:fl}(h:Y.r a){x b:Option Ã}(r:rG Y x b):rG a x b:=r.imp id λ⟨v,c,d,e,f⟩=>⟨v,c,d,e,f.fN h⟩
def GV(f:Bool)(g i:Nat){l j h k m n:Option Ã}(c:rG Y l j)(o:rG Y h k)(t:rG Y m n):fE P jr Y (į f g i l h m) (į f g i j k n):=by
 unfold į;rcases t with⟨rfl,rfl⟩|⟨B,C,rfl,rfl,u⟩
 .refine Au ?_;rcases o with⟨rfl,rfl⟩|⟨w,x,rfl,rfl,d⟩
  .refine Au ?_;rcases c with⟨rfl,rfl⟩|⟨v,p,rfl,rfl,b⟩
   .exact .fC U
   .apply fD (Ei b _ _);rintro r q _ _ rfl;exact .fC U
  .refine fD (Ei d _ _) ?_;rintro y a _ e rfl;rcases(c.r e)with⟨rfl,rfl⟩|⟨v,p,rfl,rfl,b⟩
   .exact .fC U
   .apply fD (Ei b _ _);rintro r q _ _ rfl;exact .fC U
 .refine fD (Ei u _ _) ?_;rintro D a _ s rfl;rcases o with⟨rfl,rfl⟩|⟨w,x,rfl,rfl,d⟩
  .exact .fQ
  .refine fD (Ei (d.fN s) _ _) ?_;rintro y z _ e rfl;rcases(((c.r s).r e))with⟨rfl,rfl⟩|⟨v,p,rfl,rfl,b⟩
   .exact .fC U
   .apply fD (Ei b _ _);rintro r q _ _ rfl;exact .fC U
def adH(t:Á)(k:fh Y x v){l C h D m u:Option Ã}(g:rG Y l C)(i:rG Y h D)(j:rG Y m u):fE P fh Y (Β t x l h m) (Β t v C D u):=by
 unfold Β;apply fD (jd t);rintro I d _ o ⟨rfl,J⟩;have k:=k.fN o;have g:=g.r o;have i:=i.r o;have j:=j.r o;cases d<;>try exact .fQ
 .cases k<;>first|exact .fQ|skip
  rename_i s;have e:m.isSome=u.isSome:=by rcases j with⟨rfl,rfl⟩|⟨_,_,rfl,rfl,_⟩<;>rfl
  simp only[e];split
  .exact .fQ
  .apply fD (GV Â s.size s.size g i<|Ç ⟨U,U⟩);rintro G ⟨a,b,c⟩ _ _ rfl;exact .fC (.kJ _)
 .rename_i H;apply fD (Vq k);intro G a K B f;apply fD (jd H);rintro L d _ p ⟨rfl,_⟩;have f:=f.r p;cases d<;>try exact .fQ
  rename_i n e _;apply fD (GV Â n n ((g.r B).r p) ((i.r B).r p)<|(j.r B).r p);rintro E ⟨x,y,z⟩ _ q rfl;apply fD (nn e);rintro F w _ r ⟨rfl,_⟩;have f:=(f.r q).r r;refine .fC (.kU ?_ _ _);split
  .exact f
  .exact f.C _
 .rename_i e;cases k<;>first|exact .fQ|skip
  .rename_i n c;apply fD (GV È n c g i j);rintro E ⟨x,y,z⟩ _ q rfl;apply fD (nn e);rintro F w _ r ⟨rfl,_⟩;simp only[Option.map_none,ite_self];exact .fC (.nR _ _)
  .rename_i f n c;apply fD (GV È n c g i j);rintro E ⟨x,y,z⟩ _ q rfl;apply fD (nn e);rintro F w _ r ⟨rfl,_⟩;have f:=(f.r q).r r;by_cases e:z=x
   .simp only[e,if_true];exact .fC (.kU f _ _)
   .simp only[e,if_false,bR];exact .fC (.kU (f.C _) _ _)
def adI(t:Á)(b:fh Y x v){l o h p m q:Option Ã}(c:rG Y l o)(f:rG Y h p)(g:rG Y m q):fE P fh Y (Ŝ t x l h m) (Ŝ t v o p q):=by
 unfold Ŝ;apply fD (jd t);rintro u d _ i ⟨rfl,B⟩;have b:=b.fN i;have c:=c.r i;have f:=f.r i;have g:=g.r i;cases d<;>try exact adH t b c f g
 rename_i n e;apply fD (GU b);intro C a D k j;apply fD (GV Â n n (c.r k) (f.r k)<|g.r k);rintro E ⟨x,y,z⟩ _ r rfl;apply fD (nn e);rintro F w _ s ⟨rfl,_⟩;have j:=(j.r r).r s;refine .fC (.kU ?_ _ _);split
 .exact j
 .exact j.C _
def adJ(t:Á)(a:fh Y x v)(b:fh Y z jQ):fE P fh Y (Γ t x z) (Γ t v jQ):=by
 unfold Γ;apply fD (Kt b);rintro l ⟨k,n⟩ _ c rfl;apply fD (jd t);rintro m d _ f ⟨rfl,o⟩;have a:=(a.fN c).fN f;cases d<;>try exact .fQ
 .cases a<;>first|exact .fQ|skip
  simp only[];split
  .exact .fC (.iC _ _)
  .exact GO
 .rename_i p e;cases a<;>first|exact .fQ|skip
  rename_i g h;simp only[];split
  .apply fD (nn e);rintro q w _ j ⟨rfl,_⟩;exact Vo e ((fR.mk g h).I j) _
  .exact GO
def adK(a:UnOp)(b:fh Y x v):fE P fh Y (cz a x) (cz a v):=by cases b<;>cases a<;>first|exact .fQ|exact .fC (.iC _ _)|exact .fC (.mC _)
end
section
variable{Y:fl}
def adL{α β:Type}{g:α->Ę β}(d:∀{Y:fl} (a:α),fE P jr Y (g a)<|g a):∀{Y:fl} (l:List α),fE P jr Y (l.mapM g) (l.mapM g):=by
 intro Y l
 induction l generalizing Y with
 |nil=>exact .fC U
 |cons a l e=>
  rw[ah];apply sP (d a);intro f b _;apply sP e;exact λh c _=> .fC U
def adM{α β:Type}{g:α->Ę β}(b:∀{Y:fl} (a:α),fE P jr Y (g a)<|g a)(l:Array α):fE P jr Y (l.mapM g) (l.mapM g):=by rw[ę];have:=adL b (Y:=Y) l.toList;apply fE.lD this;intro d a c _ (e:a=c);subst e;exact .fC U
def adN(Y:fl)(p a:Nat×Value):Prop:=p.1=a.1/\fh Y p.2 a.2
inductive vi(Y:fl):List (Nat×Value)->List (Nat×Value)->Prop
 |pn:vi Y [] []
 |wG {p p':Nat×Value} {l l':List (Nat×Value)} (h:adN Y p p') (t:vi Y l l'):vi Y (p::l) (p'::l')
def vi.fN{Y a:fl}(h:Y.r a){l b:List (Nat×Value)}(r:vi Y l b):vi a l b:=by
 induction r with
 |pn=>exact .pn
 |wG x _ c=>exact .wG ⟨x.1,x.2.fN h⟩ c
def adO(f:Nat):∀(c a:List Ã) (k:Nat) (b d:Array Ã),fR Y c.toArray a.toArray->fR Y b d-> fR Y ((c.zipIdx k).foldl (λb (p:Value×Nat)=>b.setIfInBounds (f+p.2) p.1) b) ((a.zipIdx k).foldl (λb (p:Value×Nat)=>b.setIfInBounds (f+p.2) p.1) d):=by
 intro c
 induction c with
 |nil=>
  intro a k b d p e;have:a=[]:=by have:=p.r;simp at this;exact ą this.symm
  subst this;exact e
 |cons x c g=>
  intro a k b d p e;match a,p with
  |[],p=>have:=p.r;simp at this
  |x'::a,p=>
   simp only[ĵ,List.foldl_cons];refine g a (k+1) _ _ ⟨by have:=p.r;simpa using this,λj h i=> ?_⟩ (e.qN _ (by have:=p.C 0 fi fi;simpa using this));have:=p.C (j+1) (by simp at h|-;omega) (by simp at i|-;omega);simpa using this
theorem adP(b:Nat){a c:Array Ã}(e:fR Y d q)(f:fR Y a c): fR Y (d.zipIdx.foldl (λa (p:Value×Nat)=>a.setIfInBounds (b+p.2) p.1) a) (q.zipIdx.foldl (λa (p:Value×Nat)=>a.setIfInBounds (b+p.2) p.1) c):=by have:=adO b d.toList q.toList 0 a c (by simpa using e) f;grind [Array.toList_zipIdx]
def OW(d:Nat->Option (Nat×Nat)):∀{l e:List (Nat×Value)} {a b:Array Ã},vi Y l e->fR Y a b-> (ŵ d a l=ë)\/∃c h,ŵ d a l=À c/\ŵ d b e=À h/\fR Y c h:=by
 intro l e a b h
 induction h generalizing a b with
 |pn=>intro c;exact Î ⟨a,b,U,U,c⟩
 |@wG p p' l e hp _ ih=>
  intro c;let⟨i,v⟩:=p;let⟨k,m⟩:=p';obtain⟨rfl,g⟩:=hp;unfold ŵ;cases d i with
  |none=>exact Ç U
  |some q=>
   let⟨j,n⟩:=q;have f:=g.gT;simp only[<-f.r,<-c.r];split
   .exact Ç U
   .exact ih<|adP j f c
def adQ(q:nU P)(t:Á){l m:Array (Nat×Value)}(h:vi Y l.toList m.toList):fE P fh Y (Δ t l) (Δ t m):=by
 unfold Δ;apply fD (GQ q t);intro C z D r s;apply fD (jd t);rintro E d _ o ⟨rfl,F⟩;have p:=(s.fN o).gT;have h:=(h.fN r).fN o;cases d<;>try exact .fQ
 .rename_i n e;refine fD (nn e) ?_;rintro u w _ b ⟨rfl,_⟩;rcases OW (λi=>À (i*w,w)) (h.fN b) (p.I b)with e|⟨c,v,j,k,g⟩
  .simp only[e];exact .fQ
  .simp only[j,k];exact .fC (.oK g.r g.C)
 .rename_i x;refine sP (adM (λ{Y} (f:Field)=>fD (nn f.type) λG a H _ y=> ?_) x) ?_
  .obtain⟨rfl,_⟩:=y;exact .fC U
  .intro u B b;rcases OW (B[·]?) (h.fN b) (p.I b)with e|⟨c,v,j,k,g⟩
   .simp only[e];exact .fQ
   .simp only[j,k];exact .fC (.oK g.r g.C)
end
section
variable{Y:fl}
theorem adR(Y:fl):fh Y (default:Ã) default:=.mC _
theorem fR.adS{Y:fl}(r:fR Y d q)(i:Nat):fh Y d[i]! q[i]!:=by
 by_cases h:i<d.size
 .have a:i<q.size:=by rwa[<-r.r]
  rw[getElem!_pos d i h,getElem!_pos q i a];exact r.C i h a
 .have a:¬i<q.size:=by rwa[<-r.r]
  grind [getElem,adR]
def fR.OX{Y:fl}(r:fR Y d q)(n:Nat):fR Y ((Ĳ n).map (d[· %d.size]!)) ((Ĳ n).map (q[· %q.size]!)):=by refine⟨fi,λi a b=> ?_⟩;simp only[Ε,<-r.r];exact r.adS _
def fR.yv{Y:fl}(r:fR Y d q)(n:Nat):fR Y (ø d n) (ø q n):=by
 unfold ø;have e:n*d.size=n*q.size:=by rw[r.r]
 rw[<-e];exact r.OX _
def adT(p:nU P)(t:Á)(b:Nat){j k:Array (Nat×Value)}(h:vi Y j.toList k.toList):fE P fh Y (Ķ t b j) (Ķ t b k):=by
 unfold Ķ;apply fD (jd t);rintro B d _ q ⟨rfl,C⟩;have h:=h.fN q;cases d<;>try exact .fQ
 rename_i e;apply fD (nn e);rintro r w _ s ⟨rfl,_⟩;simp only[];split
 .exact .fQ
 have o:∀{f:fl} {z g:Array Ã},r.r f->fR f z g->fE P fh f (match ŵ (λi=>À (i*w,w)) ((Ĳ<|b*w).map (z[· %z.size]!)) j.toList with
   |some l=>do pure (õ (À<|<-ņ e l) b b)
   |_=>stuck "buildSlice: a part of the wrong size")
  (match ŵ (λi=>À (i*w,w)) ((Ĳ<|b*w).map (g[· %g.size]!)) k.toList with
   |some l=>do pure (õ (À<|<-ņ e l) b b)
   |_=>stuck "buildSlice: a part of the wrong size"):=by
  intro f z g m n;rcases OW (λi=>À (i*w,w)) ((h.fN s).fN m) (n.OX<|b*w)with e0|⟨c,D,u,v,x⟩
  .rw[e0];exact .fQ
  .rw[u,v];apply fD (GR e x);exact λE a F _ y=> .fC (.kU y _ _)
 split
 .exact o (fl.M _)<|fR.N _
 .apply fD (GQ p e);exact λf z g m n=>o m n.gT
def Ku(h:fh Y x v):fE P jr Y (Ο x) (Ο v):=by cases h<;>first|exact .fQ|exact .fC U
def fR.adU(Y:fl)(b:Array UInt8):fR Y (b.map λb=>ċ .u8 b.toNat) (b.map λb=>ċ .u8 b.toNat):= ⟨U,λi a _=>by simp only[Ε];exact .iC _ _⟩
def GX(a n:Nat)(h:fh Y x v):fE P fR Y (Õ a n x) (Õ a n v):=by
 cases h<;>first|exact .fQ|exact .fC (fR.N _)|exact .fC (fR.adU _ _)|skip
 rename_i b _ _;exact OT b _
def OY(n:Nat):fE P jr Y (Ł n) (Ł n):=by
 unfold Ł;split
 .exact .Eg (Ç U) (.fC U)
 .exact .fC U
def adV(a:Array Á)(t:Á)(h:fh Y x v):fE P fh Y (Ŭ a t #[x]) (Ŭ a t #[v]):=by
 unfold Ŭ;cases a[0]? with
 |none=>exact .fQ
 |some b=>
  apply fD (jd b);rintro f d _ c ⟨rfl,g⟩;have h:=h.fN c;cases d<;>try exact .fQ
  .cases h<;>first|exact .fQ|exact .fC (.iC _ _)
  .rename_i e;refine fD (jd e) ?_;rintro i d _ j ⟨rfl,_⟩;cases d<;>first|exact .fQ|exact .fC (.iC _ _)
  .cases h<;>first|exact .fQ|exact .fC (.iC _ _)
  .exact .fC (.iC _ _)
  all_goals cases h<;>first|exact .fQ|exact .fC (.iC _ _)
def adW(a:Array Á)(t:Á)(h:fh Y x v):fE P fh Y (ŭ a t #[x]) (ŭ a t #[v]):=by
 unfold ŭ;cases a[0]? with
 |none=>exact .fQ
 |some b=>
  apply fD (jd b);rintro f d _ c ⟨rfl,g⟩;have h:=h.fN c;cases d<;>try exact .fQ
  .rename_i e;refine fD (jd e) ?_;rintro i d _ j ⟨rfl,_⟩;cases d<;>first|exact .fQ|exact .fC (.iC _ _)
  .cases h<;>first|exact .fQ|exact .fC (.iC _ _)
  .exact .fC (.iC _ _)
  all_goals cases h<;>first|exact .fQ|exact .fC (.iC _ _)
def adX(g:Array Á)(t:Á)(h:fh Y x v)(a:fh Y z jQ):fE P fh Y (ŝ g t #[x,z]) (ŝ g t #[v,jQ]):=by
 unfold ŝ;cases g[0]? with
 |none=>exact .fQ
 |some l=>
  apply fD (jd l);rintro u d _ i ⟨rfl,B⟩;have h:=h.fN i;have a:=a.fN i;cases d<;>try exact .fQ
  rename_i e;cases h<;>first|exact .fQ|skip
  .rename_i n c;apply fD (Ku a);rintro o m _ b rfl;apply fD (nn e);rintro p w _ f ⟨rfl,_⟩;apply fD (GX w _<|(a.fN b).fN f);exact λq c r j k=> .fC (.iC _ _)
  .rename_i s n c;apply fD (Ku a);rintro o m _ b rfl;apply fD (nn e);rintro p w _ f ⟨rfl,_⟩;apply fD (GX w _<|(a.fN b).fN f);intro q c r j k;apply fD (OU (((s.r b).r f).r j)<|by simpa using k);exact λC _ _ _ _=> .fC (.iC _ _)
end
section
variable{Y:fl}
def OZ{α:Type}{h:Halt}:∀u x a,(eE h:Ę α).run P u≠Ĭ x a:=by intro u x a e;cases e
theorem GY{α β:Type}{m:Ę α}{f:α->Ę β}(h:∀a u x b,(f a).run P u≠Ĭ x b):∀u x b,(m>>=f).run P u≠Ĭ x b:=by
 intro u x b e;rw[Ä]at e;cases c:m.run P u with
 |ok a w=>rw[c]at e;exact h a _ _ _ e
 |halt z w=>rw[c]at e;cases e
theorem Vr{α:Type}:∀u x a,(goPanic v:Ę α).run P u≠Ĭ x a:=OZ
def adY{α:Type}{v:bG}:∀u x a,(unsupported v:Ę α).run P u≠Ĭ x a:=OZ
theorem rH{α:Type}(e:η):∀u x a,(runtimePanic e:Ę α).run P u≠Ĭ x a:=by unfold runtimePanic;grind [GY,Vr]
def Kv{α:Type}{V:fl->α->α->Prop}{e:η}{m:Ę α}:fE P V Y (runtimePanic e) m:=.oL (rH e)
def adZ(Q:nU P)(K D t:Á)(y:(∃e,P.underlying D=À (dy e))\/P.underlying D=À ğ){B:Ã}(p:fh Y v jQ)(E:fh Y x B): fE P fh Y (ł #[K,D] t #[v,x]) (ł #[K,D] t #[jQ,B]):=by
 unfold ł;apply fD (jd K);rintro F d _ M ⟨rfl,hd⟩;have p:=p.fN M;have E:=E.fN M;cases d<;>try exact .fQ
 rename_i e;have S:∀{g:fl} (z:Bool) (w n c m:Nat) {b f:Option Û},F.r g->fh g (õ b n c) (õ f n c)->fE P fh g (do
   let newCap<-Ō (Ŷ (n+m) c e)
   Ł<|newCap*(<-ý e).bytes;let old<-Õ w n (õ b n c)
   let h<-Õ w m x
   let j:=ø (<-Ě e).cells<|newCap-(n+m)
   pure (õ (À (<-ņ e (old++h++j))) (n+m) newCap))
  (do
   let newCap<-Ō (Ŷ (n+m) c e)
   Ł<|newCap*(<-ý e).bytes;let old<-Õ w n (õ f n c)
   let h<-Õ w m B
   let j:=ø (<-Ě e).cells<|newCap-(n+m)
   pure (õ (À (<-ņ e (old++h++j))) (n+m) newCap)):=by
  intro g _ w n c m b f i p;apply sP (.Ar λ_=> .fC U);intro H nc k;apply fD (yu e);rintro I l _ r ⟨rfl,_⟩;apply sP (OY _);intro ρ5 _ T;have G:=fl.I (fl.I k r) T;apply fD (GX w n<|p.fN G);intro ρ6 o o' V W;apply fD (GX w m<|E.fN<|fl.I i<|fl.I G V);intro ρ7 q X hl7 L;apply fD (GQ Q e);intro ρ8 z z' N hzz;apply fD (GR e<|(((W.I hl7).I N).G<|L.I N).G<|hzz.gT.yv _);exact λρ9 a J _ C=> .fC (.kU C _ _)
 have j:∀{g:fl} (w n c m:Nat) {b f:Option Û},F.r g->fh g (õ b n c) (õ f n c)->fE P fh g (do
   let l<-ý e
   if((n+m:Nat):Int)>Þ.max/\(Â=È\/l.bytes=0)then runtimePanic (.error "growslice: len out of range")
   if ĳ (n+m) c*(<-ý e).bytes>2^48 then(if Â=È then runtimePanic (.error "growslice: len out of range")else do
    if !(<-ģ w n m b x)then ea ε
    unsupported (ŷ "append: a slice or a string whose bytes no memory bears"))
   let newCap<-Ō (Ŷ (n+m) c e)
   Ł<|newCap*(<-ý e).bytes;let old<-Õ w n (õ b n c)
   let h<-Õ w m x
   let j:=ø (<-Ě e).cells<|newCap-(n+m)
   pure (õ (À (<-ņ e (old++h++j))) (n+m) newCap))
  (do
   let l<-ý e
   if((n+m:Nat):Int)>Þ.max/\(Â=È\/l.bytes=0)then runtimePanic (.error "growslice: len out of range")
   if ĳ (n+m) c*(<-ý e).bytes>2^48 then(if Â=È then runtimePanic (.error "growslice: len out of range")else do
    if !(<-ģ w n m f B)then ea ε
    unsupported (ŷ "append: a slice or a string whose bytes no memory bears"))
   let newCap<-Ō (Ŷ (n+m) c e)
   Ł<|newCap*(<-ý e).bytes;let old<-Õ w n (õ f n c)
   let h<-Õ w m B
   let j:=ø (<-Ě e).cells<|newCap-(n+m)
   pure (õ (À (<-ņ e (old++h++j))) (n+m) newCap)):=by
  intro g w n c m b f i p;apply fD (yu e);rintro H l _ k ⟨rfl,_⟩;simp only[];split
  .exact .oL (wD<|rH _)
  .apply fD (yu e);rintro I l _ r ⟨rfl,_⟩;have G:=fl.I k r;split
   .refine .oL (wD ?_);simp only[Å,if_false];refine GY λb=> ?_;simp_all
   .exact S Â w n c m (fl.I i G)<|p.fN G
 have O:∀{b f:Option Û} (n c:Nat),((b=ë/\f=ë)\/∃a J,b=À a/\f=À J/\gZ F a J)->fh F (õ b n c) (õ f n c)->∀{g:fl} (w m:Nat),F.r g->fE P fh g (if n+m<=c then(Õ w m x>>=λh=>match b with
   |some a=>Ŗ (a.add<|n*w) h.toList>>=λ_=>pure<|õ b (n+m) c
   |_=>pure (õ b (n+m) c))else(do
   let l<-ý e
   if((n+m:Nat):Int)>Þ.max/\(Â=È\/l.bytes=0)then runtimePanic (.error "growslice: len out of range")
   if ĳ (n+m) c*(<-ý e).bytes>2^48 then(if Â=È then runtimePanic (.error "growslice: len out of range")else do
    if !(<-ģ w n m b x)then ea ε
    unsupported (ŷ "append: a slice or a string whose bytes no memory bears"))
   let newCap<-Ō (Ŷ (n+m) c e)
   Ł<|newCap*(<-ý e).bytes;let old<-Õ w n (õ b n c)
   let h<-Õ w m x
   let j:=ø (<-Ě e).cells<|newCap-(n+m)
   pure (õ (À (<-ņ e (old++h++j))) (n+m) newCap)))
  (if n+m<=c then(Õ w m B>>=λh=>match f with
   |some a=>Ŗ (a.add<|n*w) h.toList>>=λ_=>pure<|õ f (n+m) c
   |_=>pure (õ f (n+m) c))else(do
   let l<-ý e
   if((n+m:Nat):Int)>Þ.max/\(Â=È\/l.bytes=0)then runtimePanic (.error "growslice: len out of range")
   if ĳ (n+m) c*(<-ý e).bytes>2^48 then(if Â=È then runtimePanic (.error "growslice: len out of range")else do
    if !(<-ģ w n m f B)then ea ε
    unsupported (ŷ "append: a slice or a string whose bytes no memory bears"))
   let newCap<-Ō (Ŷ (n+m) c e)
   Ł<|newCap*(<-ý e).bytes;let old<-Õ w n (õ f n c)
   let h<-Õ w m B
   let j:=ø (<-Ě e).cells<|newCap-(n+m)
   pure (õ (À (<-ņ e (old++h++j))) (n+m) newCap))):=by
  intro b f n c hb p g w m i;split
  .refine fD (GX w m<|E.fN i) ?_;intro H q X k L;rcases hb with⟨rfl,rfl⟩|⟨a,J,rfl,rfl,C⟩
   .exact .fC (.nR _ _)
   .apply fD (OU (((C.r i).r k).C _)<|by simpa using L);exact λI _ _ r _=> .fC (.kU (((C.r i).r k).r r) _ _)
  .exact j w n c m i<|p.fN i
 cases p<;>first|exact .fQ|skip
 .rename_i n c;refine fD (nn e) ?_;rintro g w _ i ⟨rfl,_⟩;refine fD (jd D) ?_;rintro H d1 _ k ⟨rfl,u⟩;rcases y with⟨e1,y⟩|y;all_goals
   rw[y]at u;injection u with u;subst u;apply Au;apply fD (Ku<|E.fN<|fl.I i k);rintro I m _ r rfl;exact O n c (Ç ⟨U,U⟩) (.nR _ _) w m<|fl.I (fl.I i k) r
 .rename_i C n c;refine fD (nn e) ?_;rintro g w _ i ⟨rfl,_⟩;refine fD (jd D) ?_;rintro H d1 _ k ⟨rfl,u⟩;rcases y with⟨e1,y⟩|y;all_goals
   rw[y]at u;injection u with u;subst u;apply Au;apply fD (Ku<|E.fN<|fl.I i k);rintro I m _ r rfl;exact O n c (Î ⟨_,_,U,U,C⟩) (.kU C _ _) w m<|fl.I (fl.I i k) r
end
section
variable{Y:fl}
def ad1(p:nU P)(t:Á){j:Ã}(q:fh Y v x)(r:fh Y jQ j):fE P fh Y (Ń t v jQ) (Ń t x j):=by
 unfold Ń;apply fD (jd t);rintro B d _ k ⟨rfl,C⟩;cases d<;>try exact .fQ
 rename_i e;apply fD (OV<|q.fN k);rintro D g _ s rfl;apply fD (OV<|(r.fN k).fN s);rintro E b _ F rfl;apply fD (yu e);rintro G m _ H ⟨rfl,_⟩;have u:∀{n:fl},fE P fh n (do
   Ł<|(Þ.wrap b).toNat*m.bytes;let w<-ŕ e
   let zero<-if(Þ.wrap b).toNat*w=0 then pure #[]else do pure (<-Ě e).cells
   let a<-ņ e ((Ĳ<|(Þ.wrap b).toNat*w).map (zero[· %zero.size]!))
   pure (õ (À a) (Þ.wrap g).toNat (Þ.wrap b).toNat))
  (do
   Ł<|(Þ.wrap b).toNat*m.bytes;let w<-ŕ e
   let zero<-if(Þ.wrap b).toNat*w=0 then pure #[]else do pure (<-Ě e).cells
   let a<-ņ e ((Ĳ<|(Þ.wrap b).toNat*w).map (zero[· %zero.size]!))
   pure (õ (À a) (Þ.wrap g).toNat (Þ.wrap b).toNat)):=by
  intro n;apply sP (OY _);intro I _ J;apply fD (nn e);rintro K w _ L ⟨rfl,_⟩;have o:∀{h:fl} {z f:Array Ã},fR h z f->fE P fh h (ņ e ((Ĳ<|(Þ.wrap b).toNat*w).map (z[· %z.size]!))>>=λa=>pure<|õ (À a) (Þ.wrap g).toNat (Þ.wrap b).toNat) (ņ e ((Ĳ<|(Þ.wrap b).toNat*w).map (f[· %f.size]!))>>=λa=>pure<|õ (À a) (Þ.wrap g).toNat (Þ.wrap b).toNat):=by intro h z f i;apply fD (GR e<|i.OX _);intro M a N _ y;exact .fC (.kU y _ _)
  simp only[];split
  .exact o<|fR.N _
  .apply fD (GQ p e);intro h z f _ i;exact o i.gT
 simp only[];split
 .split
  .exact .oL (wD<|rH _)
  .split
   .exact .oL (wD<|rH _)
   .exact .oL (GY λ_=>wD<|rH _)
 .exact u
def tO(P:Ø)(t:Á):Prop:=P.underlying t=À .bool\/(∃k,P.underlying t=À (Ρ k))\/P.underlying t=À ğ
def np:Ã->Prop
 |Ö (À _)=>False
 |_=>True
def Vt(t:Á)(i:tO P t\/∃e,P.underlying t=À (ò e))(b:fh Y x v)(c:fh Y z jQ)(j:np x\/np z):fE P jr Y (ù t x z) (ù t v jQ):=by
 unfold ù Ć θ;refine fD (jd t) ?_;rintro o d _ g ⟨rfl,a⟩;have b:=b.fN g;have c:=c.fN g;rcases i with(h|⟨k,h⟩|h)|⟨e,h⟩;all_goals
  rw[h]at a;injection a with a;subst a;cases b<;>cases c<;>first|exact .fQ|exact .fC U|(simp[np]at j;done)|skip
 .simp only[];split<;>first|exact .fC U|exact .fQ
 .rename_i l n _ _ _;by_cases f:n=0
  .subst f;exact .fC U
  .refine .oL λu x m e=> ?_;simp_all
 .rename_i l n;by_cases f:n=0
  .subst f;exact .fC U
  .refine .oL λu x m e=> ?_;simp_all
end
section
variable{Y:fl}
def Kw{r:Nat}(h:Y r i):fE P (λ_ a b=>a=ë/\b=ë) Y (cA r) (cA i):=.vh h λ_ _ _ _=> .fC ⟨U,U⟩
def Vu{r:Nat}(h:Y r i):fE P (λ_ a b=>a=ë/\b=ë) Y (cB r) (cB i):=.vh h λ_ _ _ _=> .fC ⟨U,U⟩
def Av(h:gZ Y a p):fE P (λc x b=>gZ c x.1 b.1/\x.2=b.2/\x=(a,Â)/\b=(p,Â)) Y (ķ a) (ķ p):=by unfold ķ;apply fD (Vu h.1);rintro c x d b ⟨rfl,rfl⟩;exact .fC ⟨h.r b,U,U,U⟩
def ad2(h:gZ Y a p):fE P jr Y (br a) (br p):=by unfold br;apply fD (Kw h.1);rintro b x c d ⟨rfl,rfl⟩;exact .fC U
def GZ(h:gZ Y a p):fE P jr Y (dz a) (dz p):=by
 have f:=h;let⟨g,i,b⟩:=f;unfold dz;cases c:a.spot with
 |some s=>
  rw[c]at b;rw[<-b];exact .fC U
 |none=>
  rw[c]at b;rw[<-b];apply fD rF;rintro k s l d ⟨rfl,e⟩;subst e;apply fD (ad2<|h.r d);intro m _ _ j _;refine .vh (j.1 _ _<|d.1 _ _ g) λe n o q=> ?_;simp only[<-i,é];split
  .exact .fC U
  .split
   .exact .fC U
   .exact .fQ
def Kx(c:Bi Y){b d:Û}(f:gZ Y a p)(g:gZ Y b d):(a.block==b.block)=(p.block==d.block):=by
 rw[ς,beq_iff_eq,beq_iff_eq];constructor
 .intro e;exact c.1 _ _ _ f.1<|e▸g.1
 .intro e;exact c.2.1 _ _ _ f.1<|e▸g.1
theorem Vv(g:Bi Y){b c:Û}(d:gZ Y a p)(f:gZ Y b c):(a==b)=(p==c):=by have e:=Kx g d f;rw[ς,beq_iff_eq,beq_iff_eq]at e;rw[ς,beq_iff_eq,beq_iff_eq];let⟨h,i,j⟩:=a;let⟨k,l,m⟩:=p;let⟨n,o,q⟩:=b;let⟨r,s,t⟩:=c;let⟨_,u,v⟩:=d;let⟨_,w,x⟩:=f;grind
theorem Vw(f:Bi Y)(n:Y.C=P.globals.size){b d:Û}(e:gZ Y a p)(g:gZ Y b d):fE P jr Y (Ů a b) (Ů p d):=by
 unfold Ů;apply fD rF;rintro o c q h ⟨i,j⟩;rw[i,j];have k:(a.block !=b.block)=(p.block !=d.block):=by simp only[bne];rw[Kx f e g]
 have l:(decide<|a.block≥P.globals.size)=(decide<|p.block≥P.globals.size):=by have:=f.2.2 _ _ e.1;grind
 rw[k,l];split
 .exact .fQ
 .apply fD (GZ<|e.r h);rintro r x _ m rfl;apply fD (GZ<|(g.r h).r m);rintro s y _ t rfl;exact .fC U
def ad3(d:Bi Y)(e:Y.C=P.globals.size)(k:ÿ){b c:Û}(f:gZ Y a p)(g:gZ Y b c):fE P fh Y (ι k a b) (ι k p c):=by unfold ι;apply fD (Vw d e f g);rintro h ⟨x,y⟩ _ _ rfl;exact .fC (.iC _ _)
def ad4(e:Bi Y)(f:Y.C=P.globals.size)(c:Ĩ){b d:Û}(g:gZ Y a p)(h:gZ Y b d):fE P fh Y (κ c a b) (κ c p d):=by unfold κ;refine fD (Vw e f g h) ?_;rintro i ⟨x,y⟩ _ _ rfl;cases c<;>first|exact .fC (.mC _)|exact .fQ
def Vx(k:ÿ)(b:gZ Y a p)(n:Int):fE P fh Y (ν k a n) (ν k p n):=by
 unfold ν;refine .vh b.1 λe m d f=> ?_;apply Au;apply fD (yu e);rintro g h _ c ⟨rfl,_⟩;simp only[];split
 .exact .fQ
 .apply fD (GZ<|b.r c);rintro i x _ _ rfl;exact .fC (.iC _ _)
def ad5{n:Int}(h:j<=b)(a:ai P i e j k n=À m):ai P i e b k n=À m:=by
 unfold ai at a|-;simp only[bind,Option.bind]at a|-;split at a
 .cases a
 .rename_i f;rw[if_neg f];split at a
  .cases a
  .rename_i g;simp only[g];dsimp only at a;split at a
   .cases a
   .rename_i l;rw[if_neg]
    .exact a
    .intro o;apply l;have:=(λw=>Nat.mul_le_mul_right w h)<|P.bytesOf e;simp at o|-;omega
def ad6{i:Á->Bool}:∀{d:Nat} {e:Á} {c a b n:Nat},c<=a->dr P i d e c b n=È->dr P i d e a b n=È
 |0,_,_,_,_,_,_,h=>by simp[dr]at h
 |d+1,e,c,a,b,n,hc,h=>by
  unfold dr at h|-;simp only at h|-;split at h
  .cases h
  .rename_i j;rw[if_neg j];rw[bS,ġ,ġ,ġ]at h|-;rcases h with⟨⟨f,g⟩,k⟩|⟨f,g⟩
   .exact Ç ⟨⟨f,by simp at g|-;omega⟩,k⟩
   .exact Î ⟨by simp at f|-;omega,g⟩
def Vy:∀{d:Nat} {e:Á} {c a b:Nat} {u:Á} {n:Nat},c<=a->bu P d e c b u n=È->bu P d e a b u n=È
 |0,_,_,_,_,_,_,_,h=>by simp[bu]at h
 |d+1,e,c,a,b,u,n,hc,h=>by
  unfold bu at h|-;rw[bS]at h|-;rcases h with h|h
  .exact Ç<|ad6 hc h
  .right;split at h
   .rename_i f;first|rw[f]|skip
    exact Vy hc h
   .cases h
def ad7{a:Á->Bool}:dr P a i e 0 j (n+1)=Â:=by
 cases i with
 |zero=>simp[dr]
 |succ i=>
  unfold dr;simp
def ad8{k:ÿ}(a:P.underlying t=À (Ρ k)):bu P i e 0 j t (n+1)=Â:=by
 cases i with
 |zero=>simp[bu]
 |succ i=>
  unfold bu;rw[ad7];simp[a]
def Vz(t:Á)(d:gZ Y a p)(k:ÿ)(n:Int):fE P fh Y (ó #[] t #[Ö<|À a,ċ k n]) (ó #[] t #[Ö<|À p,ċ k n]):=by
 have f:=d;let⟨c,g,h⟩:=f;unfold ó;apply Au;simp only[];split
 .apply fD (Kw c);rintro i x e b ⟨rfl,rfl⟩;exact .fC (.j0 (d.r b))
 .split
  .exact .fQ
  .refine .vh c λe m u j=> ?_;apply Au;apply fD rF;rintro i b v l ⟨o,r⟩;rw[o,r,<-g];cases s:ai P P.depth e (m/P.cellsOf e) a.off n with
   |none=>exact .fQ
   |some x=>
    rw[ad5 (aj<|j.elim (λq=>by omega) λq=>q.1) s];exact .fC (.j0 ⟨l.1 _ _ c,U,h⟩)
end
def yw:Obj->Prop
 |đ .. =>False
 |_=>True
inductive kK(P:Ø){α:Type}(V:fl->α->α->Prop):fl->Ę α->Ę α->Prop
 |gl {Y:fl} {m m':Ę α} (h:fE P V Y m m'):kK P V Y m m'
 |lD {Y:fl} {β:Type} {V0:fl->β->β->Prop} {m m':Ę β} {f f':β->Ę α} (h:fE P V0 Y m m') (hf:∀Y' a a',Y.r Y'->V0 Y' a a'->kK P V Y' (f a) (f' a')):kK P V Y (m.bind f) (m'.bind f')
 |Ej {Y:fl} {o:Obj} {g:Nat->α} {m':Ę α} (ho:yw o):kK P V Y (.new o λr=>aU<|g r) m'
 |Ek {Y:fl} {m m':Ę α} (h:∀u x u',m.run P u=Ĭ x u'->∃i o,u.heap.size<=i/\u'.heap[i]?=À o/\yw o):kK P V Y m m'
section
variable{Y:fl}
def kK.ad9{α β:Type}{V:fl->α->α->Prop}{i:fl->β->β->Prop}{m e:Ę α}{f j:α->β}(h:kK P V Y m e)(k:∀c a d,Y.r c->V c a d->i c (f a) (j d)): kK P i Y (m.bind λa=>aU<|f a) (e.bind λa=>aU<|j a):=by
 induction h with
 |gl h=>exact .gl (h.lD λc a d u w=> .fC (k c a d u w))
 |lD h _ g=>
  rw[ť,ť];exact .lD h λc a d u w=>g c a d u w λx b z l n=>k x b z (fl.I u l) n
 |Ej b=>exact .Ej b
 |@Ek Y m e h=>
  refine .Ek λu x l b=> ?_;rw[Ľ]at b;cases g:m.run P u with
  |halt z w=>rw[g]at b;cases b
  |ok a w=>
   rw[g]at b;simp only[å]at b;cases b;exact h u a _ g
def El(u a:Æ):Prop:=∀i o,u.heap.size<=i->a.heap[i]?=À o->¬yw o
def kK.gi{α:Type}{V:fl->α->α->Prop}{Y:fl}{m r:Ę α}(h:kK P V Y m r):∀{u w:Æ},jh Y X u w->(∀j,X j->j<w.heap.size)->∀{x:α} {c:Æ},m.run P u=Ĭ x c->El u c->∀d:Array Ă,∃(a:fl) (n:α) (s:Æ) (b:Array Ă),Y.r a/\(∀i j,a i j->Y i j\/(u.heap.size<=i/\w.heap.size<=j))/\r.runT P w d=(Ĭ n s,d++b)/\V a x n/\jh a X c s/\nT Y X w s/\(∀e∈b,As a X e)/\u.heap.size<=c.heap.size:=by
 induction h with
 |gl h=>intro u w k g x c b _ d;exact h.gi k g b d
 |@lD Y β V0 m r f f' h _ ih=>
  intro u w k g x c b l d;rw[Ľ]at b;cases t:m.run P u with
  |halt z w=>rw[t]at b;cases b
  |ok a u1=>
   rw[t]at b;let⟨G,H,w1,E,p,q,v,I,J,B,K,C⟩:=h.gi k g t d;let⟨L,n,M,N,F,O,Q,S,T,W,k7,k8⟩:=ih G a H p I J (λj s=>Ô (g j s) B.r) b (λi o s=>l i o<|û C s)<|d++E;refine⟨L,n,M,E++N,fl.I p F,λi j D=> ?_,?_,S,T,B.fe W λi j D=>(q i j D).imp id λy=>y.2,λe s=> ?_,û C k8⟩
   .rcases O i j D with y|⟨y1,y2⟩
    .exact q i j y
    .exact Î ⟨û C y1,û B.r y2⟩
   .rw[Ñ,v];simp only[];rw[Q,Ņ]
   .rcases Ģ.1 s with s|s
    .rcases K e s with⟨a,i,y,z2,z3,z4⟩|z
     .exact Ç ⟨a,i,y,F.1 _ _ z2,z3,z4⟩
     .exact Î z
    .exact k7 e s
 |Ej s=>
  intro u w k g x c b l d;simp only[å]at b;cases b;exact absurd s<|l u.heap.size _ (á _) fi
 |Ek h=>
  intro u w k g x c b l d;let⟨i,o,p,q,v⟩:=h u x c b;exact absurd v<|l i o p q
end
section
variable{Y:fl}
theorem aea(i:Bi Y)(F:Y.C=P.globals.size)(t:Á)(s:tO P t){j b m:Û}(e:gZ Y a j)(f:gZ Y b m):fE P jr Y (ù t (Ö<|À a)<|Ö<|À b) (ù t (Ö<|À j)<|Ö<|À m):=by
 unfold ù Ć θ;refine fD (jd t) ?_;rintro G d _ g ⟨rfl,c⟩;rcases s with h|⟨k,h⟩|h
 .rw[h]at c;injection c with c;subst c;exact .fQ
 .rw[h]at c;injection c with c;subst c;apply fD (Av<|e.r g);rintro H p u l ⟨_,_,rfl,rfl⟩;apply fD (Av<|(f.r g).r l);rintro I q J n ⟨_,_,rfl,rfl⟩;apply fD rF;rintro K p u o ⟨v,w⟩;rw[v,w];have z:=(((e.r g).r l).r n).r o;have B:=(((f.r g).r l).r n).r o;have C:=Kx i e f;have D:(decide<|a.block<P.globals.size)=(decide<|j.block<P.globals.size):=by
   have:=i.2.2 _ _ e.1;grind
  simp only[C,D];split
  .apply fD (GZ z);rintro E x _ r rfl;apply fD (GZ<|B.r r);rintro L y _ M rfl;exact .fC U
  .apply fD (yu t);rintro E x _ r ⟨rfl,_⟩;split
   .rw[Vv i e f];split
    .exact .fC U
    .exact .fQ
   .exact .fQ
 .rw[h]at c;injection c with c;subst c;exact .fQ
def aeb(e:Bi Y)(f:Y.C=P.globals.size)(t:Á)(b:tO P t)(c:fh Y x v)(d:fh Y z jQ):fE P jr Y (ù t x z) (ù t v jQ):=by
 by_cases a:np x\/np z
 .exact Vt t (Ç b) c d a
 .have g:=λh=>a<|Ç h;have i:=λh=>a<|Î h;cases c<;>first|exact absurd trivial g|skip
  cases d<;>first|exact absurd trivial i|skip
  rename_i j _ _ k;exact aea e f t b j k
def aec(a:Ĩ)(k:ÿ)(x y:Int):fE P fh Y (aC a k x y) (aC a k x y):=by
 unfold aC;split
 .exact Kv
 .cases a<;>first|exact .fQ|exact .fC (.iC _ _)
def aed(a:Ĩ)(k b:ÿ)(x y:Int):fE P fh Y (aW a k x b y) (aW a k x b y):=by
 unfold aW;split
 .exact Kv
 .cases a<;>first|exact .fQ|exact .fC (.iC _ _)
def aee(a:Ĩ)(t:Á)(k b:ÿ)(x y:Int):fE P fh Y (Ÿ a t (ċ k x)<|ċ b y) (Ÿ a t (ċ k x)<|ċ b y):=by
 cases a<;>simp only[Ÿ]<;>first|exact aed _ _ _ _ _|skip
 all_goals
  split
  .exact .fQ
  .first|exact .fC (.iC _ _)|exact .fC (.mC _)|exact aec _ _ _ _
def aef(a:Ĩ)(t:Á)(x y:ByteArray):fE P fh Y (Ÿ a t (Į x)<|Į y) (Ÿ a t (Į x)<|Į y):=by
 cases a<;>simp only[Ÿ,bH]<;>first|exact .fQ|exact .fC (.mC _)|skip
 split
 .exact .fQ
 .exact .fC (.kJ _)
end
section
variable{Y:fl}
def lb{α β:Type}{V0:fl->β->β->Prop}{V:fl->α->α->Prop}{m c:Ę β}{f d:β->Ę α}(h:fE P V0 Y m c) (g:∀b a e,Y.r b->V0 b a e->kK P V b (f a) (d e)):kK P V Y (m>>=f) (c>>=d):=.lD h g
def aeg{α β:Type}{V:fl->α->α->Prop}{c:fl->β->β->Prop}{m d:Ę α}{f e:α->β}(h:kK P V Y m d)(i:∀b a g,Y.r b->V b a g->c b (f a) (e g)): kK P c Y (m>>=λa=>pure<|f a) (d>>=λa=>pure<|e a):=kK.ad9 h i
def VA(t:Á)(y:Ã):∀u x a,(ó #[] t #[Ö ë,y]).run P u≠Ĭ x a:=by
 unfold ó;refine GY λn=> ?_;simp only[];split
 .exact adY
 .split;all_goals simp_all
def Em(t:Á)(i:fh Y x v)(j:∃p,x=Ö p)(k:ÿ)(n:Int):kK P fh Y (š t x<|ċ k n) (š t v<|ċ k n):=by
 obtain⟨p,rfl⟩:=j;cases i with
 |lS=>
  unfold š;refine lb (jd t) ?_;rintro e d _ h ⟨rfl,_⟩;cases d<;>simp only[Å,if_false,if_true]<;>first|exact .gl .fQ|exact .gl (.oL (VA t _))
 |j0 f=>
  unfold š;refine lb (jd t) ?_;rintro e d _ h ⟨rfl,_⟩;have l:∀{a g:Û},gZ e a g->kK P fh e (ķ a>>=λp=>ó #[] t #[Ö<|À p.1,ċ k n]>>=λc=>match c with|Ö (À b)=>cC b p.2|c=>pure c) (ķ g>>=λp=>ó #[] t #[Ö<|À p.1,ċ k n]>>=λc=>match c with|Ö (À b)=>cC b p.2|c=>pure c):=by intro a g f;refine lb (Av f) ?_;rintro q p r s ⟨m,u,rfl,rfl⟩;refine lb (Vz t m k n) ?_;intro w c y z o;cases o<;>first|exact .Ej trivial|exact .gl (.fC (by constructor<;>assumption))
  cases d<;>simp only[Å,if_false,if_true]<;>first|exact .gl .fQ|exact l<|f.r h
def VB(t:Á)(b:fh Y x v)(c:∃p,x=Ö p)(k:ÿ)(n:Int):kK P fh Y (ů t x<|ċ k n) (ů t v<|ċ k n):=by
 unfold ů;obtain⟨p,rfl⟩:=c;cases b with
 |lS=>exact .gl (.oL (VA t _))
 |j0 a=>
  apply lb (Vu a.1);rintro e p f d ⟨rfl,rfl⟩;exact .gl (Vz t (a.r d) k n)
def aeh(P:Ø)(a:Ĩ)(t:Á)(x y:Ã):Prop:=a=aL\/a=aX->(tO P t\/((∃e,P.underlying t=À (ò e))/\(np x\/np y)))
def VC(c:Bi Y)(d:Y.C=P.globals.size)(t:Á)(f:tO P t\/((∃e,P.underlying t=À (ò e))/\(np x\/np z)))(a:fh Y x v)(b:fh Y z jQ):fE P jr Y (ù t x z) (ù t v jQ):=by
 rcases f with h|⟨g,i⟩
 .exact aeb c d t h a b
 .exact Vt t (Î g) a b i
def aei(m:Bi Y)(n:Y.C=P.globals.size)(c:Ĩ)(t:Á)(r:aeh P c t x z)(o:fh Y x v)(h:fh Y z jQ):kK P fh Y (Ÿ c t x z) (Ÿ c t v jQ):=by
 have f:c=aL->fE P fh Y (ù t x z>>=λb=>pure<|Ň b) (ù t v jQ>>=λb=>pure<|Ň b):=by intro e;apply fD (VC m n t (r<|Ç e) o h);rintro i b _ _ rfl;exact .fC (.mC _)
 have g:c=aX->fE P fh Y (ù t x z>>=λb=>pure<|Ň !b) (ù t v jQ>>=λb=>pure<|Ň !b):=by intro e;apply fD (VC m n t (r<|Î e) o h);rintro i b _ _ rfl;exact .fC (.mC _)
 cases o with
 |iC k a=>
  cases h with
  |iC d b=>exact .gl (aee c t k d a b)
  |j0 l=>
   cases c<;>first|exact .gl .fQ|exact .gl (f U)|exact .gl (g U)|exact Em t (.j0 l) ⟨_,U⟩ _ _|skip
   apply lb (Av l);rintro i p s e ⟨j,_,_,_⟩;exact .gl (Vx _ j _)
  |lS=>cases c<;>first|exact .gl .fQ|exact .gl (f U)|exact .gl (g U)|exact Em t .lS ⟨_,U⟩ _ _
  |_=>cases c<;>first|exact .gl .fQ|exact .gl (f U)|exact .gl (g U)
 |kJ a=>
  cases h with
  |kJ b=>exact .gl (aef c t a b)
  |_=>cases c<;>first|exact .gl .fQ|exact .gl (f U)|exact .gl (g U)
 |lS=>
  cases h with
  |iC k b=>
   cases c<;>first|exact .gl .fQ|exact .gl (f U)|exact .gl (g U)|exact Em t .lS ⟨_,U⟩ _ _|skip
   refine lb (jd t) ?_;rintro i d _ e ⟨rfl,_⟩;cases d<;>simp only[Å,if_false,if_true]<;>first|exact VB t .lS ⟨_,U⟩ _ _|exact Em t .lS ⟨_,U⟩ _ _
  |_=>cases c<;>first|exact .gl .fQ|exact .gl (f U)|exact .gl (g U)
 |j0 a=>
  cases h with
  |iC k b=>
   cases c<;>first|exact .gl .fQ|exact .gl (f U)|exact .gl (g U)|exact Em t (.j0 a) ⟨_,U⟩ _ _|skip
   .refine lb (jd t) ?_;rintro i d _ e ⟨rfl,_⟩;have a:=a.r e;cases d<;>simp only[Å,if_false,if_true]<;>first|exact VB t (.j0 a) ⟨_,U⟩ _ _|exact Em t (.j0 a) ⟨_,U⟩ _ _
   all_goals
    apply lb (Av a);rintro i p s e ⟨j,_,_,_⟩;exact .gl (Vx _ j _)
  |j0 l=>
   cases c<;>first|exact .gl .fQ|exact .gl (f U)|exact .gl (g U)|skip
   all_goals
    refine lb (Av a) ?_;rintro i p s e ⟨j,_,rfl,rfl⟩;refine lb (Av<|l.r e) ?_;rintro w q B b ⟨d,_,rfl,rfl⟩;have k:=b.2.1<|e.2.1 m;have u:=b.2.2.trans<|e.2.2.trans n;first|exact .gl (ad3 k u _ (j.r b) d)|exact .gl (ad4 k u _ (j.r b) d)
  |_=>cases c<;>first|exact .gl .fQ|exact .gl (f U)|exact .gl (g U)
 |_=>
  cases h<;>cases c<;>first|exact .gl .fQ|exact .gl (f U)|exact .gl (g U)
end
section
variable{Y:fl}
def aej(a b:Á)(h:(∃k g,P.underlying a=À (Ρ k)/\P.underlying b=À (Ρ g))\/(P.underlying a=À ğ/\P.underlying b=À ğ))(f:fh Y x v):fE P fh Y (Ş a b x) (Ş a b v):=by
 unfold Ş;refine fD (jd a) ?_;rintro n d _ l ⟨rfl,c⟩;refine fD (jd b) ?_;rintro o p _ m ⟨rfl,e⟩;have f:=(f.fN l).fN m;rcases h with⟨k,g,i,j⟩|⟨i,j⟩;all_goals
  rw[i]at c;rw[j]at e;injection c with c;injection e with e;subst c e;cases f<;>first|exact .fQ|exact .fC (.iC _ _)|exact .fC (.kJ _)
inductive po(Y:fl):ξ->ξ->Prop
 |nV {v v':Ã} (h:fh Y v v'):po Y (ñ v) (ñ v')
 |sQ:po Y aT aT
 |sR (f:â) {c c':Array Ã} (h:fR Y c c'):po Y (Ź f c) (Ź f c')
def G0(P:Ø)(t:Á):Prop:=tO P t\/∃e,P.underlying t=À (ò e)
def aek(t:Á)(f:G0 P t)(a g b i:Ã):fE P jr Y (ĸ Ć t a b) (ĸ Ć t g i):=by
 unfold Ć ĸ;refine fD (jd t) ?_;rintro j d _ l ⟨rfl,c⟩;rcases f with(h|⟨k,h⟩|h)|⟨e,h⟩;all_goals
  rw[h]at c;injection c with c;subst c;exact .fC U
def ael(e:Ĩ)(t:Á)(c:e=aL\/e=aX->G0 P t)(x y:Ù){d:Ã}(h:fh Y v z)(i:fh Y jQ d):fE P jr Y (Ζ e t x y v jQ) (Ζ e t x y z d):=by
 have g:G0 P t->∀{f:fl} (s:bG) (v z jQ d:Ã),fE P jr f (ĸ Ć t v jQ>>=λr=>if r=È then unsupported s else pure ()) (ĸ Ć t z d>>=λr=>if r=È then unsupported s else pure ()):=by
  intro c f s v z jQ d;apply fD (aek t c v z jQ d);rintro j r _ _ rfl;split
  .exact .fQ
  .exact .fC U
 unfold Ζ;cases e<;>first|exact .fC U|skip
 all_goals
  have c:=c (by first|exact Ç U|exact Î U);cases h<;>cases i<;>first|exact .fC U|skip
 all_goals first
  |(cases x<;>cases y<;>first|exact .fC U|exact g c _ _ _ _ _)
  |(
   simp only[ă,Å,if_false];apply fD rF;rintro f p m n ⟨r,s⟩;rw[r,s];apply fD rF;rintro j q o u ⟨k,l⟩;rw[k,l];split
   .exact .fC U
   .exact g c _ _ _ _ _)
def mO{m a:Ę Ã}(h:fE P fh Y m a):fE P po Y (m>>=λv=>pure<|ñ v) (a>>=λv=>pure<|ñ v):=h.lD λ_ _ _ _ v=> .fC (.nV v)
def VD{m a:Ę Ã}(h:kK P fh Y m a):kK P po Y (m>>=λv=>pure<|ñ v) (a>>=λv=>pure<|ñ v):=aeg h λ_ _ _ _ v=> .nV v
def aem{m a:Ę Unit}(h:fE P jr Y m a):fE P po Y (m>>=λ_=>pure aT) (a>>=λ_=>pure aT):=h.lD λ_ _ _ _ _=> .fC .sQ
def aen(f:â)(b:∃a,P.funcs[f]?=À a/\(a.name== "runtime.NumGoroutine")=Â/\a.body.isNone=Â)(e:fR Y d q):fE P po Y (ľ f d) (ľ f q):=by let⟨a,g,h,i⟩:=b;unfold ľ;apply fD rF;rintro m p n j ⟨k,l⟩;rw[k,l,g];simp only[h,i,Å,if_false];exact .fC (.sR f (e.I j))
end
inductive km(P:Ø)(ev:Ù->Ã):Op->Prop
 |Aw (x:Ù):km P ev (.move x)
 |G1 (x:Ù):km P ev (.assign x)
 |wH (c a b:Ù):km P ev (.pick c a b)
 |gE (t:Á):km P ev (.alloc t)
 |O0 (t:Á) (x:Ù):km P ev (.box t x)
 |O1 (t:Á) (ps:Array (Nat×Operand)):km P ev (.build t ps)
 |O2 (t:Á) (n:Nat) (ps:Array (Nat×Operand)):km P ev (dL t n ps)
 |gy (t:Á) (a:Ù):km P ev (.load t a)
 |jc (t:Á) (a x:Ù):km P ev (.store t a x)
 |G2 (x:Ù):km P ev (eK x)
 |En (op:Ĩ) (t:Á) (x y:Ù) (r:Á) (h:op=aL\/op=aX->(tO P t\/((∃e,P.underlying t=À (ò e))/\(np (ev x)\/np (ev y))))):km P ev (eb op t x y r)
 |O3 (op:UnOp) (t:Á) (x:Ù):km P ev (.unOp op t x)
 |O4 (s d:Á) (x:Ù) (h:(∃k k',P.underlying s=À (Ρ k)/\P.underlying d=À (Ρ k'))\/(P.underlying s=À ğ/\P.underlying d=À ğ)):km P ev (aY s d x)
 |O5 (t:Á) (l c:Ù):km P ev (ec t l c)
 |kU (t:Á) (x:Ù) (lo hi mx:Option Ù):km P ev (.slice t x lo hi mx)
 |O6 (s:Á) (x:Ù) (n:Nat) (h:∀fields f i,P.underlying s=À (dx fields)->fields[n]?=À f->P.info? f.type=À i->i.size≠0):km P ev (ef s x n)
 |O7 (t:Á) (x:Ù) (n:Nat):km P ev (.field t x n)
 |O8 (t:Á) (x i:Ù):km P ev (eg t x i)
 |O9 (t:Á) (x i:Ù):km P ev (.index t x i)
 |GM (x:Ù) (n:Nat):km P ev (.extract x n)
 |G3 (x:Ù) (ts:Array Á):km P ev (σ {callee:=Ĥ .len,args:=#[x],argTypes:=ts})
 |G4 (x:Ù) (ts:Array Á):km P ev (σ {callee:=Ĥ .cap,args:=#[x],argTypes:=ts})
 |G5 (x y:Ù) (ts:Array Á):km P ev (σ {callee:=Ĥ .copy,args:=#[x,y],argTypes:=ts})
 |G6 (x y:Ù) (t0 t1:Á) (h:(∃e,P.underlying t1=À (dy e))\/P.underlying t1=À ğ):km P ev (σ {callee:=Ĥ .append,args:=#[x,y],argTypes:=#[t0,t1]})
 |jK (f:â) (args:Array Ù) (ts:Array Á) (VE:ev (aZ f)=eT (.func f) #[] #[]) (h:∃fn,P.funcs[f]?=À fn/\(fn.name== "runtime.NumGoroutine")=Â/\fn.body.isNone=Â):km P ev (σ {callee:=cD<|aZ f,args:=args,argTypes:=ts})
end Go.Proofs.Y.Lift
namespace Go.Proofs.Y.Lift
open Go Go.Conc
section
variable{Y:fl}
def VF(Y:fl):Ù->Prop
 |eh v=>fh Y v v
 |eG g=>Y g g
 |_=>True
theorem G7(Y:fl):fh Y ň ň:=.nS U λi h=>absurd h fi
def aeo{a a':bP}(h:fR Y a.tmps a'.tmps)(b:VF Y qQ):fh Y (a.eval qQ) (a'.eval qQ):=by
 cases qQ with
 |tmp t=>
  simp only[ç,İ];rcases h.S t with⟨f,g⟩|⟨v,d,f,g,c⟩
  .rw[f,g];exact G7 Y
  .rwa[f,g]
 |const v=>exact b
 |global g=>exact .j0 ⟨b,U,U⟩
 |func f=>exact .fn _
def aep(b:Array aI)(h:fR Y d q)(j:Nat):ō b d j=ō b q j:=by
 unfold ō;cases(b[j]?).bind (·.dst)with
 |none=>rfl
 |some a=>
  simp only[Option.bind_some];rcases h.S a with⟨c,e⟩|⟨v,g,c,e,f⟩
  .rw[c,e]
  .rw[c,e];cases f<;>rfl
def Ky(a:Array aI)(o:aI)(h:fR Y d q):ĭ o (ō a d)=ĭ o (ō a q):=by have:ō a d=ō a q:=funext<|aep a h;rw[this]
def aer{a a':bP}(h:fR Y a.tmps a'.tmps)(d:Option Tmp)(b:fh Y v x):fR Y (a.put d v).tmps (a'.put d x).tmps:=by
 cases d with
 |none=>exact h
 |some d=>exact h.qN d b
end
section
variable{Y:fl}
def VG{b:Ù->Ã}(a:Array Ù)(h:∀x∈a,fh Y (xX x)<|b x):fR Y (a.map xX) (a.map b):= ⟨fi,λi c d=>by simp only[Ε];exact h _<|Array.getElem_mem _⟩
def VH{c:Ù->Ã}(a:Array (Nat×Operand))(h:∀x∈(a.toList.map (·.2)).toArray,fh Y (xX x)<|c x):vi Y (a.map λp=>(p.1,xX p.2)).toList (a.map λp=>(p.1,c p.2)).toList:=by
 simp only[Array.toList_map];have d:∀x∈a.toList.map (·.2),fh Y (xX x) (c x):=λx b=>h x (by simpa using b);generalize a.toList=l at d
 induction l with
 |nil=>exact .pn
 |cons p l e=>exact .wG ⟨U,d _ fi⟩ (e λx b=>d x<|by simp at b|-;exact Î b)
def Pa{a:Ù->Ã}(x:Option Ù)(h:∀y,x=À y->fh Y (xX y) (a y)):rG Y (x.map xX) (x.map a):=by
 cases x with
 |none=>exact Ç ⟨U,U⟩
 |some x=>exact Î ⟨_,_,U,U,h x U⟩
def VI(p:nU P)(D:Bi Y)(E:Y.C=P.globals.size){w:Ù->Ã}(F:∀f,w (aZ f)=eT (.func f) #[] #[])(B:km P xX o.op)(g:∀x∈o.op.operands,fh Y (xX x)<|w x):kK P po Y (î xX o) (î w o):=by
 let⟨O,u,Q,S,T,guard⟩:=o;simp only at B g;unfold î;simp only[];cases B with
 |Aw x=>exact .gl (.fC (po.nV<|g x<|by simp[Ê]))
 |G1 x=>exact .gl (.fC (po.nV<|g x<|by simp[Ê]))
 |wH c a b=>
  apply lb (Vp<|g c<|by simp[Ê]);rintro G r _ k rfl;refine .gl (.fC (po.nV ?_));split
  .exact(g a<|by simp[Ê]).fN k
  .exact(g b<|by simp[Ê]).fN k
 |gE t=>exact .gl (mO<|adz p t _)
 |O0 t x=>exact .gl (mO<|adA t<|g x<|by simp[Ê])
 |O1 t z=>exact .gl (mO<|adQ p t<|VH z g)
 |O2 t n z=>exact .gl (mO<|adT p t n<|VH z g)
 |gy t a=>exact .gl (mO<|adB t<|g a<|by simp[Ê])
 |jc t a x=>exact .gl (aem<|adC t (g a<|by simp[Ê])<|g x<|by simp[Ê])
 |G2 x=>
  simp only[];have j:=g x (by simp[Ê]);generalize xX x=v at j;generalize w x=v' at j;cases j<;>first|exact .gl Kv|exact .gl (.fC (po.nV<|by constructor<;>assumption))|skip
  rename_i f;cases f<;>exact .gl (.fC (po.nV<|.fn _))
 |En u t x y r h=>
  have j:=g x (by simp[Ê]);have C:=g y (by simp[Ê]);apply VD;apply lb (ael u t (λe=>(h e).imp id λq=>q.1) x y j C);exact λG _ _ k _=>aei (k.2.1 D) (k.2.2.trans E) u t h (j.fN k)<|C.fN k
 |O3 u t x=>exact .gl (mO<|adK u<|g x<|by simp[Ê])
 |O4 s d x h=>exact .gl (mO<|aej s d h<|g x<|by simp[Ê])
 |O5 t l c=>exact .gl (mO<|ad1 p t (g l<|by simp[Ê])<|g c<|by simp[Ê])
 |kU t x H I J=>exact .gl (mO<|adI t (g x<|by simp[Ê]) (Pa H λy e=>g y<|by simp[Ê,e]) (Pa I λy e=>g y<|by simp[Ê,e])<|Pa J λy e=>g y<|by simp[Ê,e])
 |O6 s x n h=>exact .gl (mO<|adF s (g x<|by simp[Ê]) n h)
 |O7 t x n=>exact .gl (mO<|adE t (g x<|by simp[Ê]) n)
 |O8 t x i=>exact .gl (mO<|adG t (g x<|by simp[Ê])<|g i<|by simp[Ê])
 |O9 t x i=>exact .gl (mO<|adJ t (g x<|by simp[Ê])<|g i<|by simp[Ê])
 |GM x n=>exact .gl (mO<|adD (g x<|by simp[Ê]) n)
 |G3 x m=>
  simp only[þ,Ē,ė,pure_bind,Ú,ä,æ];exact .gl (mO<|adV m _<|g x<|by simp[Ê,ú])
 |G4 x m=>
  simp only[þ,Ē,ė,pure_bind,Ú,ä,æ];exact .gl (mO<|adW m _<|g x<|by simp[Ê,ú])
 |G5 x y m=>
  simp only[þ,Ē,ė,pure_bind,Ú,ä,æ];exact .gl (mO<|adX m _ (g x<|by simp[Ê,ú])<|g y<|by simp[Ê,ú])
 |G6 x y K L h=>
  simp only[þ,Ē,ė,pure_bind,Ú,ä,æ];exact .gl (mO<|adZ p K L _ h (g x<|by simp[Ê,ú])<|g y<|by simp[Ê,ú])
 |jK f M m N h=>
  simp only[þ,N,F f,Ĺ,Ē,pure_bind,ē,Ĕ];exact .gl (aen f h<|VG M λx j=>g x<|by simp[Ê,ú,j])
end
def World.tp(u:Æ)(T:az)(D:Nat):Æ:={u with tape:=T,drawn:=D}
def vj(T:az)(D:Nat)(a:az)(b n:Nat):Prop:=∀i,i<n->a (b+i)=T (D+i)
def vj.lU{T:az}(h:vj T i xQ j (n+1)):xQ j=T i:=h 0 Z
def vj.ju{T:az}(h:vj T i xQ j (n+m)):vj T i xQ j n:=λa b=>h a Z
def vj.Pd{b:az}(h:vj xQ i b j (n+m)):vj xQ (i+n) b (j+n) m:=λa c=>by have:=h (n+a) Z;rw[show j+n+a=j+(n+a) by omega,show i+n+a=i+(n+a) by omega];exact this
def rI{α:Type}(P:Ø)(m:Ę α):Prop:=∀(u:Æ) (T:az) (D:Nat),∃(n:Nat) (v:Æ),
 ∀x c,m.run P ((World.tp u T D))=Ĭ x c->c=(World.tp v T<|D+n)/\∀a b,vj T D a b n->m.run P ((World.tp u a b))=Ĭ x ((World.tp v a<|b+n))
section
variable{α β:Type}
def Ax{m:Ę α}(h:∀u x a,m.run P u=Ĭ x a->a=u/\∀b c,m.run P ((World.tp u b c))=Ĭ x ((World.tp u b c))):rI P m:=λu T D=>⟨0,u,λx a e=>by let⟨d,f⟩:=h _ x a e;exact⟨d,λb c _=>f b c⟩⟩
def Pe{m:Ę α}(h:∀u x a,m.run P u≠Ĭ x a):rI P m:=λu T D=>⟨0,u,λx a e=>absurd e<|h _ _ _⟩
def aes{m:Ę α}{f:α->Ę β}(h:rI P m)(i:∀a,rI P<|f a):rI P (m.bind f):=by
 intro u T D;let⟨n,v,j⟩:=h u T D;cases b:m.run P ((World.tp u T D))with
 |halt z w=>exact⟨0,u,λx c e=>by rw[Ľ,b]at e;cases e⟩
 |ok a k=>
  obtain⟨rfl,l⟩:=j a k b;let⟨o,w,p⟩:=i a v T<|D+n;refine⟨n+o,w,λx c e=> ?_⟩;rw[Ľ,b]at e;let⟨q,r⟩:=p x c e;refine⟨by rw[q,da],λz d g=> ?_⟩;rw[Ľ,l z d g.ju,<-da];exact r z (d+n) g.Pd
theorem aeu{m a:Ę α}(h:∀u,m.run P u=a.run P u)(b:rI P a):rI P m:=by intro u T D;let⟨n,v,c⟩:=b u T D;exact⟨n,v,λx d e=>by grind⟩
def aev(q:cj):rI P (Ō q):=by
 intro u T D;cases a:q.forced with
 |true=>exact⟨0,u,λx d e=>by simp only[Ō,å,a,if_true]at e;cases e;exact⟨U,λb c _=>by simp only[Ō,å,a,if_true];rfl⟩⟩
 |false=>
  refine⟨1,u,λx d e=> ?_⟩;simp only[Ō,å,a,Å,if_false]at e;cases e;refine⟨U,λb c f=> ?_⟩;simp only[Ō,å,a,Å,if_false];have g:(World.tp u b c).tape (World.tp u b c).drawn q=T D q:=congrFun f.lU q;rw[g];rfl
def Kz{γ:Type}(s:String):(MonadExcept.throw s:Except String γ)=bQ s:=rfl
def aew(a:Û)(md:Mode):rI P (bq a md):=by
 refine Ax λu x f e=> ?_;simp only[bq,å]at e|-;cases b:u.cell? a with
 |some v=>
  rw[b]at e;cases e;exact⟨U,λc d=>by simp only[show((World.tp u c d)).cell? a=À x from b]⟩
 |none=>
  rw[b]at e;cases v:u.farLoad P a (md==Đ)with
  |error z=>simp only[v]at e;cases e
  |ok p=>
   simp only[v]at e;cases e;exact⟨U,λc d=>by simp only[show((World.tp u c d)).cell? a=ë from b,show((World.tp u c d)).farLoad P a (md==Đ)=.ok p from v]⟩
def Pf(u:Æ)(a:Û)(v:Ã)(md:Mode):∀T D,((World.tp u T D)).farStore P a v (md==Đ)=(u.farStore P a v<|md==Đ).map λp=>((World.tp p.1 T D),p.2):=by
 intro T D;have c:∀b t,((World.tp u T D)).viewStore P b t a v (md==Đ)=(u.viewStore P b t a v<|md==Đ).map λp=>((World.tp p.1 T D),p.2):=by
  intro b t;unfold bT;have o:((World.tp u T D)).seen P b t a (md==Đ)=u.seen P b t a (md==Đ):=U;rw[o];simp only[bind,ak,pure,ar,Kz];cases u.seen P b t a (md==Đ)with
  |error e=>simp only[];split<;>rfl
  |ok r=>
   simp only[];repeat' (first|rfl|split)
 unfold ų;have e:((World.tp u T D)).heap=u.heap:=U;cases r:u.heap[a.block]? with
 |none=>simp only[bb,e,r];rfl
 |some o=>
  cases o<;>first
   |(simp only[bb,e,r];rfl)
   |skip
  simp only[e,r,c];cases u.viewStore P _ _ a v (md==Đ)<;>rfl
def aex(a:Û)(v:Ã)(md:Mode):rI P (aG a v md):=by
 by_cases b:yq v=È
 .intro u T D;cases d:u.cell? a with
  |some y=>
   cases c:u.frozen? a with
   |true=>exact⟨0,u,λx h e=>by simp only[aG]at e;rw[wF b,show((World.tp u T D)).cell? a=À y from d]at e;simp only[show((World.tp u T D)).frozen? a=È from c,if_true]at e;cases e⟩
   |false=>
    refine⟨0,u.setCell a v,λx h e=> ?_⟩;simp only[aG]at e|-;rw[wF b,show((World.tp u T D)).cell? a=À y from d]at e;simp only[show((World.tp u T D)).frozen? a=Â from c,Å,if_false]at e;cases e;refine⟨U,λf g i=> ?_⟩;rw[wF b,show((World.tp u f g)).cell? a=À y from d];simp only[show((World.tp u f g)).frozen? a=Â from c,Å,if_false];rfl
  |none=>
   cases c:u.farStore P a v (md==Đ)with
   |error z=>exact⟨0,u,λx h e=>by simp only[aG]at e;rw[wF b,show((World.tp u T D)).cell? a=ë from d]at e;simp only[Pf u a v md T D,c,cE]at e;cases e⟩
   |ok p=>
    refine⟨0,p.1,λx h e=> ?_⟩;simp only[aG]at e|-;rw[wF b,show((World.tp u T D)).cell? a=ë from d]at e;simp only[Pf u a v md T D,c,cE]at e;cases e;refine⟨U,λf g i=> ?_⟩;rw[wF b,show((World.tp u f g)).cell? a=ë from d];simp only[Pf u a v md f g,c,cE];rfl
 .exact Pe λu x h e=>by cases v<;>first|exact absurd U b|cases e
def aey(o:Obj):rI P (ei o):=λu T D=>⟨0,{u with heap:=u.heap.push o},λx a e=>by cases e;exact⟨U,λb c _=>rfl⟩⟩
def aez(r:Nat):rI P (cF r):=by
 refine Ax λu x d e=> ?_;simp only[cF,å]at e|-;cases a:u.heap[r]? with
 |none=>rw[a]at e;cases e
 |some o=>
  rw[a]at e;cases o<;>first
   |(cases e;done)
   |(cases e;exact⟨U,λb c=>by simp only[show((World.tp u b c)).heap[r]?=_ from a]⟩)
end
def qO(u:Æ):Prop:=∀(i:Nat) (c:Array Ã) (e:Á),u.heap[i]?≠À (Η c e)
structure Kd(u u':Æ):Prop where
 r:qO u->qO u'
 C:∀(i:Nat) (o:Obj),u.heap[i]?=À o->yw o->∃o',u'.heap[i]?=À o'/\yw o'
theorem Kd.fU(u:Æ):Kd u u:=⟨id,λ_ o h k=>⟨o,h,k⟩⟩
def Kd.fe{c:Æ}(h:Kd w u)(k:Kd u c):Kd w c:=⟨λx=>k.r<|h.r x,λi o x y=>by let⟨d,e,f⟩:=h.C i o x y;exact k.C i d e f⟩
def G8:Halt->Bool
 |.panic _=>È
 |.stuck _=>È
 |Ŋ (.initOrder _)=>Â
 |Ŋ _=>È
 |_=>Â
def oM{α:Type}(P:Ø)(m:Ę α):Prop:=∀u,qO u->(∀x a,m.run P u=Ĭ x a->Kd u a)/\(∀z a,m.run P u=cm z a->G8 z=È)
section
variable{α β:Type}
def VJ(a:α):oM P (aU a):=λu _=>⟨λx b h=>by cases h;exact Kd.fU u,λz b h=>by cases h⟩
def G9{z:Halt}(h:G8 z=È):oM P (eE z:Ę α):=λu _=>⟨λx a e=>(by cases e),λb a e=>(by cases e;exact h)⟩
def KA{m:Ę α}{f:α->Ę β}(h:oM P m)(j:∀a,oM P<|f a):oM P (m.bind f):=by
 intro u d;let⟨g,k⟩:=h u d;refine⟨λx i e=> ?_,λz i e=> ?_⟩<;>rw[Ľ]at e
 .cases b:m.run P u with
  |ok a c=>
   rw[b]at e;exact(g a c b).fe<|(j a c<|(g a c b).r d).1 x i e
  |halt z w=>rw[b]at e;cases e
 .cases b:m.run P u with
  |ok a c=>
   rw[b]at e;exact(j a c<|(g a c b).r d).2 z i e
  |halt c w=>rw[b]at e;cases e;exact k _ _ b
def VK:oM P du:=λu _=>⟨λx a h=>by cases h;exact Kd.fU u,λz a h=>by cases h⟩
theorem aeA(q:cj):oM P (Ō q):=by
 intro u b;constructor
 .intro x a e;simp only[Ō,å]at e;split at e<;>cases e
  .exact Kd.fU u
  .exact⟨id,λi o h k=>⟨o,h,k⟩⟩
 .intro z a e;simp only[Ō,å]at e;grind
def aeB(m:Mark):oM P (ea m):=λu _=>⟨λx a h=>by cases h;exact Kd.fU u,λz a h=>by cases h⟩
def aeC(r:Nat):oM P (cG r):=λu _=>⟨λx a h=>by cases h;exact Kd.fU u,λz a h=>by cases h⟩
def aeD(a:Û):oM P (eW a):=λu _=>⟨λx b h=>by cases h;exact Kd.fU u,λz b h=>by cases h⟩
theorem aeE(o:Obj)(h:∀c e,o≠Η c e):oM P (ei o):=by
 intro u b;refine⟨λx d e=> ?_,λz d e=>by cases e⟩;cases e;refine⟨λ_ i c e a=> ?_,λi f a g=>⟨f,?_,g⟩⟩
 .simp only[Array.getElem?_push]at a;split at a
  .grind
  .exact b i c e a
 .grind
theorem VL{f:Obj->Obj}(n:∀o,yw o->yw (f o))(j:∀o c e,f o=Η c e->∃d g,o=Η d g):Kd u {u with heap:=u.heap.modify b f}:=by
 refine⟨λh i c e a=> ?_,λi o a p=> ?_⟩
 .simp only[Œ]at a;split at a
  .let⟨o,k,l⟩:=Ī.1 a;let⟨d,g,m⟩:=j o c e l;exact h i d g<|m▸k
  .exact h i c e a
 .grind
theorem aeF(a:Û)(v:Ã):Kd u (u.setCell a v):=by
 unfold Ď;refine VL (λo b=> ?_) λo c e h=> ?_
 .cases o<;>first|exact b.elim|trivial
 .grind
theorem VM(b:qO u)(a:Û)(s:String):G8 (u.noCell a s)=È:=by
 unfold bb;split
 .rename_i h;exact absurd h<|b _ _ _
 .rfl
 .rfl
theorem aeG(a:Û)(m:Mode):oM P (bq a m):=by
 intro u d;constructor
 .intro x c e;simp only[bq,å]at e;grind [Kd.fU]
 .intro z c e;simp only[bq,å]at e;split at e
  .cases e
  .split at e
   .cases e
   .rename_i b;cases e;unfold ŗ at b;split at b
    .split at b<;>cases b;rfl
    .grind [VM]
theorem aeH{k:Û}{r:Array Value×TypeId×(Nat×Nat)×Nat×Value×List (Nat×Nat×List UInt8)}(h:w.seen P a t k yQ=.ok r):∃c e d,w.heap[a.block]?=À (đ c e d):=by unfold World.seen at h;simp only[bind,ak,pure,ar,Kz]at h;grind
theorem aeI{k:Û}{l:List Û}(h:w.viewStore P a t k v yQ=.ok (u,l)):Kd w u:=by
 have q:∃c e n d f g,w.heap[a.block]?=À (đ d f g)/\u={w with heap:=w.heap.setIfInBounds a.block (đ c e n)}:=by
  unfold bT at h;cases i:w.seen P a t k yQ with
  |error e=>
   rw[i]at h;simp only[bind,ak,pure,ar,Kz]at h;repeat' (first|contradiction|split at h)
  |ok r=>
   let⟨d,f,g,j⟩:=aeH i;rw[i]at h;simp only[bind,ak,pure,ar,Kz]at h;repeat' (first|contradiction|split at h)
   all_goals(simp only[Except.ok.injEq,Prod.mk.injEq]at h;obtain⟨rfl,_⟩:=h;exact⟨_,_,_,d,f,g,j,U⟩)
 obtain⟨c,e,n,d,f,g,j,rfl⟩:=q;refine⟨λs i x m r=> ?_,λi o r y=> ?_⟩
 .rw[Ŧ]at r;split at r
  .grind
  .exact s i x m r
 .by_cases m:a.block=i
  .subst m;rw[j]at r;cases r;exact y.elim
  .grind
theorem aeJ(a:Û)(v:Ã)(m:Mode):oM P (aG a v m):=by
 intro u d;by_cases c:yq v=È
 .constructor
  .intro x f e;simp only[aG]at e;rw[wF c]at e;split at e
   .split at e
    .cases e
    .cases e;exact aeF a v
   .split at e
    .rename_i b;cases e;unfold ų at b;grind [aeI]
    .cases e
  .intro z f e;simp only[aG]at e;rw[wF c]at e;split at e
   .split at e
    .cases e;rfl
    .cases e
   .split at e
    .cases e
    .rename_i b;cases e;unfold ų at b;split at b
     .split at b<;>cases b;rfl
     .grind [VM]
 .cases v<;>first|exact absurd U c|exact G9 (P:=P) U u d
def fB(P:Ø)(m:Ę α):Prop:=oM P m/\rI P m
theorem gD(a:α):fB P (pure a):=⟨VJ a,Ax λu x b e=>by cases e;exact⟨U,λ_ _=>rfl⟩⟩
def Pg{z:Halt}(h:G8 z=È):fB P (eE z:Ę α):=⟨G9 h,Pe λu x a e=>by cases e⟩
theorem gk{m:Ę α}{f:α->Ę β}(h:fB P m)(b:∀a,fB P<|f a):fB P (m>>=f):=⟨KA h.1 λa=>(b a).1,aes h.2 λa=>(b a).2⟩
def Pj{m:Ę α}{f:α->β}(h:fB P m):fB P (f<$>m):=gk h λ_=>gD _
theorem je(s:String):fB P (stuck s:Ę α):=Pg U
def VN(v:Ã):fB P (goPanic v:Ę α):=Pg U
theorem qP:fB P du:=⟨VK,Ax λu x a e=>by cases e;exact⟨U,λ_ _=>rfl⟩⟩
theorem sS(q:cj):fB P (Ō q):=⟨aeA q,aev q⟩
def Ha(m:Mark):fB P (ea m):=⟨aeB m,Ax λu x a e=>by cases e;exact⟨U,λ_ _=>rfl⟩⟩
theorem tP(r:Nat):fB P (cG r):=⟨aeC r,Ax λu x a e=>by cases e;exact⟨U,λ_ _=>rfl⟩⟩
theorem Pk(a:Û):fB P (eW a):=⟨aeD a,Ax λu x b e=>by cases e;exact⟨U,λ_ _=>rfl⟩⟩
def KB(o:Obj)(h:∀c e,o≠Η c e):fB P (ei o):=⟨aeE o h,aey o⟩
def Hb(a:Û)(m:Mode):fB P (bq a m):=⟨aeG a m,aew a m⟩
def aeK(a:Û)(v:Ã)(m:Mode):fB P (aG a v m):=⟨aeJ a v m,aex a v m⟩
theorem KC{m m':Ę α}(h:∀u,m.run P u=m'.run P u)(a:fB P m'):fB P m:=⟨λu b=>by have:=a.1 u b;rwa[<-h u]at this,aeu h a.2⟩
end
section
variable{α:Type}
def nt(u:bG)(h:G8 (Ŋ u)=È):fB P (unsupported u:Ę α):=Pg h
def Hc(e:Á)(c:Array Ã):fB P (ņ e c):=by unfold ņ;exact gk (KB _<|by intro _ _ h;cases h) λ_=>gD _
def VO(t:Á)(v:Ã):fB P (eU t v):=Hc _ _
def vk(t:Á):fB P (ý t):=by unfold ý;repeat' (first|(with_reducible first|exact gD _|exact je _|exact qP|refine gk ?_ λ_=> ?_)|split)
theorem rJ(t:Á):fB P (ö t):=by unfold ö;repeat' (first|(with_reducible first|exact gD _|exact je _|exact qP|refine gk ?_ λ_=> ?_)|split)
def tR{p:Prop}(h:p:=by repeat' (first|(with_reducible first|exact gD _|exact je _|exact qP|exact rJ _|exact VN _|exact VO _ _|exact sS _|exact vk _|exact Hb _ _|exact tP _|exact Ha _|refine gk ?_ (λ_=> ?_)|refine Pj ?_|refine nt _ ?_)|split|rfl)):p:=h
def KD(t:Á):fB P (ŧ t):=by unfold ŧ;exact tR
def wI(e:η):fB P (runtimePanic e:Ę α):=by unfold runtimePanic;repeat' (first|(with_reducible first|exact KD _|refine gk ?_ λ_=> ?_)|split|exact tR)
def VP(k:ÿ)(x y:Int)(c:aJ):fB P (boundsPanic k x y c:Ę α):=by unfold boundsPanic;simp only[];repeat' (first|(with_reducible first|exact wI _|refine gk ?_ λ_=> ?_)|split|exact tR)
def aeL(r:Nat):oM P (cF r):=by
 intro u b;constructor
 .intro x a e;simp only[cF,å]at e;split at e<;>first|(cases e;done)|(cases e;exact Kd.fU u)
 .intro z a e;simp only[cF,å]at e;split at e<;>first|(cases e;done)|(cases e;rfl)
theorem VQ(r:Nat):fB P (cF r):=⟨aeL r,aez r⟩
def KE(t:Á):fB P (Ě t):=by unfold Ě;exact tR
def tS(t:Á):fB P (ŕ t):=by unfold ŕ;exact tR
def Pl(t:Á):fB P (eF t):=by unfold eF;exact tR
def VR(a:Û):∀(n i:Nat) (b:Array Ã),fB P<|Ř a i n b
 |0,i,b=>gD _
 |n+1,i,b=>by unfold Ř;exact gk (Hb _ _) λ_=>VR a n _ _
def Pm(a:Û)(n:Nat):fB P (dq a n):=VR a n _ _
def KF(a:Û):∀(b:List Ã) (i:Nat),fB P<|Ŗ a b i
 |[],i=>gD _
 |v::b,i=>by unfold Ŗ;exact gk (aeK _ _ _) λ_=>KF a b _
theorem VS(t:Á)(a:Û):fB P (aA t a):=by unfold aA;repeat' (first|(with_reducible first|exact tS _|exact Pl _|exact Pm _ _|refine gk ?_ λ_=> ?_)|split|exact tR)
def aeM(t:Á)(a:Û)(v:Ã):fB P (aV t a v):=by unfold aV;repeat' (first|(with_reducible first|exact tS _|exact KF _ _ _|refine gk ?_ λ_=> ?_)|split|exact tR)
def VT(t:Á)(c:Array Ã)(o:Nat):fB P (part t c o):=by unfold part;repeat' (first|(with_reducible first|exact tS _|exact Pl _|refine gk ?_ λ_=> ?_)|split|exact tR)
def VU(v:Ã):fB P (Ŵ v):=by unfold Ŵ;exact tR
def VW(v:Ã):fB P (dw v):=by unfold dw;exact tR
def j2{p:Prop}(h:p:=by repeat' (first|(with_reducible first|exact gD _|exact je _|exact qP|exact rJ _|exact VN _|exact VO _ _|exact KD _|exact sS _|exact wI _|exact vk _|exact Hb _ _|exact tS _|exact Pl _|exact Pm _ _|exact KF _ _ _|exact VW _|exact KE _|exact aeM _ _ _|exact VS _ _|exact VU _|exact VT _ _ _|exact tP _|exact VQ _|exact VP _ _ _ _|exact Ha _|refine gk ?_ (λ_=> ?_)|refine Pj ?_|refine nt _ ?_)|split|rfl)):p:=h
def Hd(v:Ã):fB P (dK v):=by unfold dK;exact j2
def KG(v:Ã):fB P (cu v):=by unfold cu;exact j2
def aeN(v:Ã):fB P (eV v):=by unfold eV;exact j2
theorem VX(v:Ã):fB P (cw v):=by unfold cw;exact j2
def VY(t:Á)(b:Bool)(v:Ã):fB P (ſ t b v):=by unfold ſ;exact j2
def VZ(t:Á)(v:Ã):fB P (aB t v):=by unfold aB;exact j2
def V1(t:Á)(v:Ã):fB P (ū t v):=by unfold ū;exact j2
def V2(t:Á)(a v:Ã):fB P (ļ t a v):=by unfold ļ;exact j2
def V3(v:Ã)(n:Nat):fB P (ř v n):=by unfold ř;exact j2
def V4(t:Á)(v:Ã)(n:Nat):fB P (Α t v n):=by unfold Α;repeat' (first|(with_reducible first|exact aeN _|refine gk ?_ λ_=> ?_)|split|exact j2)
def V5{γ δ:Type}(f:γ->Ę δ)(a:∀x,fB P<|f x):∀l:List γ,fB P<|l.mapM f
 |[]=>by rw[de];exact gD _
 |x::l=>by rw[ah];exact gk (a x) λ_=>gk (V5 f a l) λ_=>gD _
theorem V7{γ δ:Type}(f:γ->Ę δ)(a:∀x,fB P<|f x)(l:Array γ):fB P (l.mapM f):=by rw[ę];exact Pj<|V5 f a _
def aeO(l:Array Field):fB P (l.mapM λf=>do pure (f.offset,<-ŕ f.type)):=V7 _ (λ_=>gk (tS _) λ_=>gD _) l
def KH(r:Nat):fB P (cA r):=by unfold cA;exact j2
def V8(r:Nat):fB P (cB r):=by unfold cB;exact j2
def V9(a:Û):fB P (br a):=by unfold br;repeat' (first|(with_reducible first|exact KH _|refine gk ?_ λ_=> ?_)|split|exact j2)
def Ay(a:Û):fB P (dz a):=by unfold dz;repeat' (first|(with_reducible first|exact gD _|exact je _|exact qP|exact tP _|exact V9 _|refine gk ?_ λ_=> ?_)|split|simp only[]|(rename_i b;cases b<;>simp only[Å,if_false,if_true,ă,ć]))
def Eo(a:Û):fB P (ķ a):=by unfold ķ;repeat' (first|(with_reducible first|exact V8 _|refine gk ?_ λ_=> ?_)|split|exact j2)
def aeP(a:Û)(x y:Nat):fB P (partAt a x y):=by unfold partAt;repeat' (first|(with_reducible first|exact Ay _|refine gk ?_ λ_=> ?_)|split|exact j2)
def aeQ(a:Û)(f:Field):fB P (cx a f):=by unfold cx;repeat' (first|(with_reducible first|exact aeP _ _ _|refine gk ?_ λ_=> ?_)|split|exact j2)
def Wa(s:Á)(v:Ã)(n:Nat):fB P (Ś s v n):=by unfold Ś;repeat' (first|(with_reducible first|exact aeQ _ _|refine gk ?_ λ_=> ?_)|split|exact j2)
def Wb(t:Á)(x i:Ã):fB P (ś t x i):=by unfold ś;repeat' (first|(with_reducible first|exact gD _|exact je _|exact rJ _|exact VP _ _ _ _|exact tS _|exact VU _|exact VW _|refine gk ?_ (λ_=> ?_)|refine nt _ ?_)|split|rfl|simp only[])
def aeR(x:Ã)(y:Nat)(c:aJ):fB P (Ĵ x y c):=by unfold Ĵ;exact j2
def Wc(b:Bool)(l c:Nat)(x y z:Option Ã):fB P (į b l c x y z):=by unfold į;repeat' (first|(with_reducible first|exact aeR _ _ _|refine gk ?_ λ_=> ?_)|split|exact j2)
def aeS(t:Á)(v:Ã)(x y z:Option Ã):fB P (Β t v x y z):=by unfold Β;repeat' (first|(with_reducible first|exact VX _|exact Wc _ _ _ _ _ _|refine gk ?_ λ_=> ?_)|split|exact j2)
def Wg(t:Á)(v:Ã)(x y z:Option Ã):fB P (Ŝ t v x y z):=by unfold Ŝ;repeat' (first|(with_reducible first|exact Wc _ _ _ _ _ _|exact aeS _ _ _ _ _|refine gk ?_ λ_=> ?_)|split|exact j2)
def Wh(t:Á)(x i:Ã):fB P (Γ t x i):=by unfold Γ;exact j2
def Wi(o:Ĩ)(k:ÿ)(x y:Int):fB P (dM o k x y):=by unfold dM;exact j2
def Wj(o:Ĩ)(k:ÿ)(x y:Int):fB P (ek o k x y):=by unfold ek;exact j2
def Wk(o:UnOp)(v:Ã):fB P (cz o v):=by unfold cz;repeat' (first|(with_reducible first|exact Wi _ _ _ _|exact Wj _ _ _ _)|split|exact j2)
def Wl(t:Á)(a:Array (Nat×Value)):fB P (Δ t a):=by unfold Δ;repeat' (first|(with_reducible first|exact aeO _|refine gk ?_ λ_=> ?_)|split|exact j2)
def Wm(t:Á)(n:Nat)(a:Array (Nat×Value)):fB P (Ķ t n a):=by unfold Ķ;repeat' (first|(with_reducible first|exact gD _|exact je _|exact Hc _ _|exact rJ _|exact KE _|exact tS _|refine gk ?_ (λ_=> ?_)|refine nt _ ?_)|split|rfl|simp only[]|(rename_i b;cases b<;>simp only[Å,if_false,if_true,ă,ć]))
def Pn(n:Nat):fB P (Ł n):=by unfold Ł;exact j2
def Wn(t:Á)(x y:Ã):fB P (Ń t x y):=by unfold Ń;repeat' (first|(with_reducible first|exact gD _|exact je _|exact sS _|exact Hc _ _|exact vk _|exact rJ _|exact wI _|exact KE _|exact tS _|exact Hd _|exact Pn _|refine gk ?_ λ_=> ?_)|split|simp only[]|(rename_i b;cases b<;>simp only[Å,if_false,if_true,ă,ć]))
def Wo(v:Ã):fB P (Ο v):=by unfold Ο;exact j2
def Wp(s n:Nat)(v:Ã):fB P (Õ s n v):=by unfold Õ;exact j2
def aeT(a:Û)(n:Nat):fB P (aN a n):=by unfold aN;exact j2
def aeU(s l n:Nat)(b:Option Û)(v:Ã):fB P (ģ s l n b v):=by unfold ģ;repeat' (first|(with_reducible first|exact gD _|exact Pk _|exact aeT _ _|refine gk ?_ λ_=> ?_)|split|simp only[]|(rename_i b;cases b<;>simp only[Å,if_false,if_true,ă,ć]))
def Wq(a:Array Á)(t:Á)(x:Array Ã):fB P (Ŭ a t x):=by unfold Ŭ;exact j2
def Wr(a:Array Á)(t:Á)(x:Array Ã):fB P (ŭ a t x):=by unfold ŭ;exact j2
def Ws(a:Array Á)(t:Á)(x:Array Ã):fB P (ŝ a t x):=by unfold ŝ;repeat' (first|(with_reducible first|exact Wo _|exact Wp _ _ _|refine gk ?_ λ_=> ?_)|split|exact j2)
def Wt(a:Array Á)(t:Á)(x:Array Ã):fB P (ł a t x):=by unfold ł;repeat' (first|(with_reducible first|exact gD _|exact je _|exact sS _|exact Ha _|exact Hc _ _|exact vk _|exact rJ _|exact wI _|exact KE _|exact tS _|exact KF _ _ _|exact Hd _|exact Pn _|exact Wo _|exact Wp _ _ _|exact aeU _ _ _ _ _|refine gk ?_ (λ_=> ?_)|refine nt _ ?_)|split|rfl|(rename_i b;cases b<;>simp only[Å,if_false,if_true,ă,ć]))
end
section
variable{α:Type}
theorem Po(o:Ĩ)(k:ĺ)(x y:Nat):fB P (df o k x y):=by unfold df;repeat' (first|(with_reducible first|exact gD _|exact je _|exact sS _|refine gk ?_ λ_=> ?_)|split|simp only[]|(rename_i b;cases b<;>simp only[Å,if_false,if_true,ă,ć]))
theorem Pp(o:Ĩ)(k:ĺ)(x y:Nat):fB P (dN o k x y):=by unfold dN;grind [gD,je]
theorem aeV(s:ĺ)(b:Nat)(d:ĺ):fB P (bg s b d):=by unfold bg;grind [gD,sS,gk]
theorem Wu(s:ĺ)(b:Nat)(d:ÿ):fB P (bU s b d):=by unfold bU;grind [gD,sS,gk]
theorem aeW(o:Ĩ)(k:ĺ)(x y:Nat):fB P (bx o k x y):=by unfold bx;grind [gD,je,Po,gk]
def nu{p:Prop}(h:p:=by repeat' (first|(with_reducible first|exact gD _|exact je _|exact sS _|exact Po _ _ _ _|exact KG _|exact Pp _ _ _ _|exact aeV _ _ _|exact aeW _ _ _ _|exact wI _|exact qP|exact Ay _|exact tP _|exact Hd _|exact KH _|exact rJ _|exact Eo _|exact V8 _|refine gk ?_ (λ_=> ?_)|refine nt _ ?_)|split|rfl)):p:=h
def Wv(o:Ĩ)(k:ĺ)(x y:Nat):fB P (cH o k x y):=by unfold cH;exact nu
def aeX(s:ĺ)(b:Nat)(d:ĺ):fB P (bV s b d):=by unfold bV;exact nu
def Pq(x y:Nat):fB P (cI x y):=by unfold cI;exact nu
def Pr(x y:Nat):fB P (cJ x y):=by unfold cJ;exact nu
def Pt(x y:Nat):fB P (cK x y):=by unfold cK;exact nu
def aeY(x y:Nat):fB P (cL x y):=by unfold cL;exact nu
def aeZ(a b c d:Nat):fB P (aO a b c d):=by unfold aO;repeat' (first|(with_reducible first|exact Pq _ _|exact Pr _ _|exact Pt _ _|refine gk ?_ λ_=> ?_)|split|exact nu)
def ae0(s a b c d:Nat):fB P (au s a b c d):=by unfold au;repeat' (first|(with_reducible first|exact Pq _ _|exact Pr _ _|exact Pt _ _|refine gk ?_ λ_=> ?_)|split|exact nu)
def ae1(a b c d:Nat):fB P (aD a b c d):=by unfold aD;repeat' (first|(with_reducible first|exact gD _|exact Wv _ _ _ _|exact Pq _ _|exact Pr _ _|exact Pt _ _|exact aeY _ _|exact ae0 _ _ _ _ _|refine gk ?_ λ_=> ?_)|split|simp only[])
def Ww(o:Ĩ)(k:ĺ)(a b c d:Nat):fB P (dA o k a b c d):=by unfold dA;repeat' (first|(with_reducible first|exact Wv _ _ _ _|exact aeX _ _ _|exact aeZ _ _ _ _|exact ae1 _ _ _ _|refine gk ?_ λ_=> ?_)|split|exact nu)
def ae2(o:Ĩ)(k:ÿ)(x y:Int):fB P (aC o k x y):=by unfold aC;exact nu
def Wx(o:Ĩ)(x y:Int):fB P (eL o x y):=by unfold eL;exact nu
def ae3(o:Ĩ)(k:ÿ)(x:Int)(a:ÿ)(y:Int):fB P (aW o k x a y):=by unfold aW;exact nu
def Pu(o:Ĩ)(x y:ByteArray):fB P (bH o x y):=by unfold bH;exact nu
def Wy(a b:Û):fB P (Ů a b):=by unfold Ů;exact nu
def ae4(k:ÿ)(a b:Û):fB P (ι k a b):=by unfold ι;repeat' (first|(with_reducible first|exact Wy _ _|refine gk ?_ λ_=> ?_)|split|exact nu)
def ae5(o:Ĩ)(a b:Û):fB P (κ o a b):=by unfold κ;repeat' (first|(with_reducible first|exact Wy _ _|refine gk ?_ λ_=> ?_)|split|exact nu)
def ae6(k:ÿ)(a:Û)(n:Int):fB P (ν k a n):=by unfold ν;repeat' (first|(with_reducible first|exact gD _|exact tP _|exact vk _|exact Ay _|refine gk ?_ (λ_=> ?_)|refine nt _ ?_)|split|rfl|simp only[]|(rename_i b;cases b<;>simp only[Å,if_false,if_true,ă,ć]))
def Wz(a:Array Á)(t:Á)(x y:Ã):fB P (ó a t #[x,y]):=by
 unfold ó;cases x<;>first|exact je _|skip
 refine gk (Hd y) λn=> ?_;exact nu
def ae7(a:Û)(b:Bool):fB P (cC a b):=by unfold cC;repeat' (first|(with_reducible first|exact gD _|refine gk ?_ (λ_=> ?_)|refine KB _ ?_)|split|(intro _ _ h;cases h;done))
def ae8(t:Á)(x y:Ã):fB P (š t x y):=by unfold š;repeat' (first|(with_reducible first|exact Wz _ _ _ _|exact ae7 _ _|refine gk ?_ λ_=> ?_)|split|exact nu)
def ae9(t:Á)(x y:Ã):fB P (ů t x y):=by unfold ů;repeat' (first|(with_reducible first|exact Wz _ _ _ _|refine gk ?_ λ_=> ?_)|split|exact nu)
theorem wK{γ:Type}{d:dO}(h:P.underlying t=À d){f:dO->Ę γ}(a:fB P (f d)):fB P (ö t>>=f):=by
 have e:∀u,(ö t).run P u=Ĭ d u:=by intro u;unfold ö;simp_all
 grind [KC,Ä,É]
def WA(t:Á)(x y:Ã)(a:tO P t\/((∃e,P.underlying t=À (ò e))/\(np x\/np y))):fB P (ù t x y):=by
 unfold ù Ć θ;rcases a with(h|⟨k,h⟩|h)|⟨⟨e,h⟩,k⟩<;>refine wK h ?_
 .repeat' (first|(with_reducible first|exact gD _|exact je _|exact qP|exact vk _|exact Ay _|exact Eo _|refine gk ?_ (λ_=> ?_)|refine nt _ ?_)|contradiction|split)
 .repeat' (first|(with_reducible first|exact gD _|exact je _|exact qP|exact vk _|exact Ay _|exact Eo _|refine gk ?_ (λ_=> ?_)|refine nt _ ?_)|contradiction|split|rfl)
 .repeat' (first|(with_reducible first|exact gD _|exact je _|exact qP|exact vk _|exact Ay _|exact Eo _|refine gk ?_ (λ_=> ?_)|refine nt _ ?_)|contradiction|split)
 .repeat' (first|(with_reducible first|exact gD _|exact je _|exact qP|exact vk _|exact Ay _|exact Eo _|refine gk ?_ (λ_=> ?_)|refine nt _ ?_)|contradiction|exact(Or.elim k id id:False).elim|split)
def afa(t:Á)(a:G0 P t)(x y:Ã):fB P (ĸ Ć t x y):=by unfold Ć ĸ;rcases a with(h|⟨k,h⟩|h)|⟨e,h⟩<;>refine wK h ?_<;>(cases x<;>cases y<;>exact gD _)
theorem WB(c:Ĩ)(t:Á)(d:c=aL\/c=aX->G0 P t)(x y:Ù)(a b:Ã):fB P (Ζ c t x y a b):=by
 unfold Ζ;by_cases e:c=aL\/c=aX
 .have f:=d e;rcases e with rfl|rfl;all_goals
   repeat' (first|(with_reducible first|exact afa _ f _ _|refine gk ?_ λ_=> ?_)|split|exact nu)
 .grind [gD]
end
section
variable{α:Type}
theorem afb(k:ÿ)(n:Int):fB P (dh k n):=by unfold dh;grind [gD]
theorem WC(n:Int):fB P (bz n):=by unfold bz;grind [gD]
def afc(a:Ĩ)(t:Á)(x y:Ã)(h:a=aL\/a=aX->(tO P t\/((∃e,P.underlying t=À (ò e))/\(np x\/np y)))):fB P (Ÿ a t x y):=by unfold Ÿ;repeat' (first|(with_reducible first|exact WA _ _ _ (h<|Ç U)|exact WA _ _ _ (h<|Î U)|exact gD _|exact je _|exact rJ _|exact Eo _|exact Wi _ _ _ _|exact Wj _ _ _ _|exact Po _ _ _ _|exact Pp _ _ _ _|exact Ww _ _ _ _ _ _|exact ae2 _ _ _ _|exact Wx _ _ _|exact ae3 _ _ _ _ _|exact Pu _ _ _|exact ae4 _ _ _|exact ae5 _ _ _|exact ae6 _ _ _|exact ae8 _ _ _|exact ae9 _ _ _|refine gk ?_ (λ_=> ?_)|refine nt _ ?_)|contradiction|split|rfl)
def afd(s d:Á)(x:Ã)(h:(∃k a,P.underlying s=À (Ρ k)/\P.underlying d=À (Ρ a))\/(P.underlying s=À ğ/\P.underlying d=À ğ)):fB P (Ş s d x):=by
 unfold Ş;rcases h with⟨k,a,b,c⟩|⟨b,c⟩<;>refine wK b<|wK c ?_
 .repeat' (first|(with_reducible first|exact afb _ _|exact gD _|exact Wu _ _ _|refine nt _ ?_)|contradiction|split|rfl)
 .repeat' (first|(with_reducible first|exact WC _|exact gD _|exact Wu _ _ _|refine nt _ ?_)|contradiction|split|rfl)
def WE:∀(l:List FieldStep) (t:Á) (x:Option Ã),fB P<|bI l t x
 |[],t,x=>by unfold bI;exact gD _
 |s::l,t,x=>by unfold bI;repeat' (first|(with_reducible first|exact WE l _ _|exact gD _|exact je _|exact rJ _|exact VT _ _ _|refine gk ?_ λ_=> ?_)|split|(intro _ _ h;cases h;done)|rfl|simp only[]|(rename_i b;cases b<;>simp only[Å,if_false,if_true,ă,ć]))
def WG:∀(n:Nat) (t:Á) (v:Ã) (s:String),fB P<|bh n t v s
 |0,t,v,s=>by unfold bh;exact gD _
 |n+1,t,v,s=>by unfold bh;repeat' (first|(with_reducible first|exact WG n _ _ _|exact WE _ _ _|exact gD _|exact je _|exact vk _|exact rJ _|refine gk ?_ λ_=> ?_)|split|(intro _ _ h;cases h;done)|rfl|simp only[]|(rename_i b;cases b<;>simp only[Å,if_false,if_true,ă,ć]))
def lV{m:Ę Ã}(h:fB P m):fB P (m>>=λv=>pure<|ñ v):=gk h λ_=>gD _
theorem afe(f:â)(b:∃a,P.funcs[f]?=À a/\(a.name== "runtime.NumGoroutine")=Â/\a.body.isNone=Â)(c:Array Ã):fB P (ľ f c):=by let⟨a,d,e,g⟩:=b;refine KC (m':=pure<|Ź f c) (λu=> ?_)<|gD _;unfold ľ;rw[Ä,Ĉ];grind [É,Å]
def aff(j:km P xX o.op):fB P (î xX o):=by
 let⟨k,g,m,p,u,guard⟩:=o;simp only at j;unfold î;simp only[];cases j with
 |Aw x=>exact gD _
 |G1 x=>exact gD _
 |wH c a b=>exact gk (KG _) λ_=>gD _
 |gE t=>exact lV<|VY _ _ _
 |O0 t x=>exact lV<|VZ _ _
 |O1 t b=>exact lV<|Wl _ _
 |O2 t n b=>exact lV<|Wm _ _ _
 |gy t a=>exact lV<|V1 _ _
 |jc t a x=>exact gk (V2 _ _ _) λ_=>gD _
 |G2 x=>
  simp only[];repeat' (first|(with_reducible first|exact WG _ _ _ _|exact gD _|exact qP|exact wI _|exact KG _|exact VY _ _ _|exact VZ _ _|exact V1 _ _|exact V2 _ _ _|exact V3 _ _|exact V4 _ _ _|exact Wa _ _ _|exact Wb _ _ _|exact Wg _ _ _ _ _|exact Wh _ _ _|exact Wk _ _|exact Wl _ _|exact Wm _ _ _|exact Wn _ _ _|exact Wq _ _ _|exact Wr _ _ _|exact Ws _ _ _|exact Wt _ _ _|refine gk ?_ (λ_=> ?_)|refine nt _ ?_)|split|rfl)
 |En g t x y r h=>exact lV<|gk (WB g t (λe=>(h e).imp id λq=>q.1) x y _ _) λ_=>afc g t _ _ h
 |O3 g t x=>exact lV<|Wk _ _
 |O4 s d x h=>exact lV<|afd s d _ h
 |O5 t l c=>exact lV<|Wn _ _ _
 |kU t x b a c=>exact lV<|Wg _ _ _ _ _
 |O6 s x n h=>exact lV<|Wa _ _ _
 |O7 t x n=>exact lV<|V4 _ _ _
 |O8 t x i=>exact lV<|Wb _ _ _
 |O9 t x i=>exact lV<|Wh _ _ _
 |GM x n=>exact lV<|V3 _ _
 |G3 x a=>
  simp only[þ,Ē,ė,pure_bind,Ú,ä,æ];exact lV<|Wq _ _ _
 |G4 x a=>
  simp only[þ,Ē,ė,pure_bind,Ú,ä,æ];exact lV<|Wr _ _ _
 |G5 x y a=>
  simp only[þ,Ē,ė,pure_bind,Ú,ä,æ];exact lV<|Ws _ _ _
 |G6 x y b c h=>
  simp only[þ,Ē,ė,pure_bind,Ú,ä,æ];exact lV<|Wt _ _ _
 |jK f c a b h=>
  simp only[þ,b,Ĺ,Ē,pure_bind,ē,Ĕ];exact afe f h _
end
def fm(f:â)(t:Array Ã)(k:List Ũ):Ğ:=(base f).at ⟨t,[]⟩ k
structure St where
 f:â
 t:Array Ã
 k:List Ũ
 C:Bool
 L:List (FuncId×Array Value×List Ũ)
def St.r(s:St)(cs:List Ğ):Ó:=G (if s.C then{fm s.f s.t s.k with mode:=.returning}else fm s.f s.t s.k)<|s.L.map (λx=>fm x.1 x.2.1 x.2.2)++cs
def pv(t:Array Ã)(d:Option Tmp)(v:Ã):Array Ã:=(Act.put ⟨t,[]⟩ d v).tmps
def sT(t:Array Ã)(d:Option Tmp)(v:Ã):Act.put ⟨t,[]⟩ d v=⟨pv t d v,[]⟩:=by cases d<;>rfl
inductive LS(P:Ø):St->Æ->St->Æ->Prop
 |pn {f t L u:_}:LS P ⟨f,t,[],Â,L⟩ u ⟨f,t,[],È,L⟩ u
 |vl {f t k L u:_}:LS P ⟨f,t,ĕ .ret::k,Â,L⟩ u ⟨f,t,ĕ .ret::k,È,L⟩ u
 |sQ {f t k L u:_}:LS P ⟨f,t,ĕ eX::k,Â,L⟩ u ⟨f,t,k,Â,L⟩ u
 |wL {f t k L u l:_}:LS P ⟨f,t,ĕ (ep l)::k,Â,L⟩ u ⟨f,t,k,Â,L⟩ u
 |yx {f t k L u id:_}:LS P ⟨f,t,dP id::k,Â,L⟩ u ⟨f,t,k,Â,L⟩ u
 |vm {f t k L u c:_}:LS P ⟨f,t,dQ c::k,Â,L⟩ u ⟨f,t,k,Â,L⟩ u
 |rK {f t k L u x y:_}:LS P ⟨f,t,ĕ (.seq x y)::k,Â,L⟩ u ⟨f,t,ĕ x::ĕ y::k,Â,L⟩ u
 |tT {f t k L u c x y b:_} (h:ç ⟨t,[]⟩ c=Ň b):LS P ⟨f,t,ĕ (bJ c x y)::k,Â,L⟩ u ⟨f,t,ĕ (if b then x else y)::k,Â,L⟩ u
 |rL {f t k L u id c:_}:LS P ⟨f,t,ĕ (eu id c)::k,Â,L⟩ u ⟨f,t,ĕ c::dP id::k,Â,L⟩ u
 |wM {f t k L u c:_}:LS P ⟨f,t,ĕ (eY c)::k,Â,L⟩ u ⟨f,t,ĕ c::dB c::k,Â,L⟩ u
 |wN {f t k L u c:_}:LS P ⟨f,t,dB c::k,Â,L⟩ u ⟨f,t,ĕ c::dB c::k,Â,L⟩ u
 |wO {f t k L u c:_}:LS P ⟨f,t,ĕ (ew c)::k,Â,L⟩ u ⟨f,t,ĕ c::dQ c::k,Â,L⟩ u
 |wP {f t k L u id k':_} (h:cN id k=À k'):LS P ⟨f,t,ĕ (eZ id)::k,Â,L⟩ u ⟨f,t,k',Â,L⟩ u
 |wR {f t k L u l k':_} (h:cO l k=À k'):LS P ⟨f,t,ĕ (.goto l)::k,Â,L⟩ u ⟨f,t,k',Â,L⟩ u
 |tU {f t k L u id ops:_}:LS P ⟨f,t,ĕ (bZ id ops Â)::k,Â,L⟩ u ⟨f,t,ã ops (List.range ops.size)::k,Â,L⟩ u
 |Az {f t k L u id ops:_}:LS P ⟨f,t,ĕ (bZ id ops È)::k,Â,L⟩ u ⟨f,t,ã ops (bW (P.follows .mixedOrders) ops<|u.tape u.drawn<|.order f id)::k,Â,L⟩ {u with drawn:=u.drawn+1}
 |He {f t k L u ops:_}:LS P ⟨f,t,ã ops []::k,Â,L⟩ u ⟨f,t,k,Â,L⟩ u
 |Ep {f t k L u ops i rest o:_} (ho:ops[i]?=À o) (hw:ĭ o (ō ops t)=Â):LS P ⟨f,t,ã ops (i::rest)::k,Â,L⟩ u ⟨f,pv t o.dst ň,ã ops rest::k,Â,L⟩ u
 |nV {f t k L u ops i rest o v u':_} (ho:ops[i]?=À o) (hw:ĭ o (ō ops t)=È) (hr:(î (ç ⟨t,[]⟩) o).run P u=Ĭ (ñ v) u'):LS P ⟨f,t,ã ops (i::rest)::k,Â,L⟩ u ⟨f,pv t o.dst v,ã ops rest::k,Â,L⟩ u'
 |AA {f t k L u ops i rest o u':_} (ho:ops[i]?=À o) (hw:ĭ o (ō ops t)=È) (hr:(î (ç ⟨t,[]⟩) o).run P u=Ĭ aT u'):LS P ⟨f,t,ã ops (i::rest)::k,Â,L⟩ u ⟨f,pv t o.dst ň,ã ops rest::k,Â,L⟩ u'
 |sR {f t k L u ops i rest o g args fn c u':_} (ho:ops[i]?=À o) (hw:ĭ o (ō ops t)=È) (hr:(î (ç ⟨t,[]⟩) o).run P u=Ĭ (Ź g args) u') (hf:P.funcs[g]?=À fn) (hb:fn.body=À c):LS P ⟨f,t,ã ops (i::rest)::k,Â,L⟩ u ⟨g,args++ń (fn.ntmps-args.size) ň,[ĕ c],Â,(f,t,ã ops (i::rest)::k)::L⟩ u'
 |Er {f t k L u ops i rest:_} (ho:(ops:Array aI)[(i:Nat)]?=ë):LS P ⟨f,t,ã ops (i::rest)::k,Â,L⟩ u ⟨f,t,ã ops rest::k,Â,L⟩ u
 |wS {f t k L u g t' ops i rest k' v fn u':_} (hf:P.funcs[f]?=À fn) (hr:(ı fn t).run P u=Ĭ v u'):LS P ⟨f,t,k,È,(g,t',ã ops (i::rest)::k')::L⟩ u ⟨g,pv t' ((ops[i]?).bind (·.dst)) v,ã ops rest::k',Â,L⟩ u'
inductive mD(GL:Nat->Prop):Ù->Prop
 |WH (t:Tmp):mD GL (.tmp t)
 |WI {v:Ã} (h:jS v):mD GL (eh v)
 |WJ {g:Nat} (h:GL g):mD GL (eG g)
 |WK (f:â):mD GL (aZ f)
structure mP(P:Ø)(GL:Nat->Prop)(e7:â->Prop)(o:aI):Prop where
 mQ:∀{Y:fl} {Sh:Nat->Prop} {t t':Array Ã} {u w:Æ},nU P->Y.C=P.globals.size->(∀g,GL g->Y g g)->fR Y t t'->jh Y Sh u w->(∀j,Sh j->j<w.heap.size)->∀{x:ξ} {u':Æ},(î (ç ⟨t,[]⟩) o).run P u=Ĭ x u'->El u u'->
  ∃(Y':fl) (x':ξ) (w':Æ) (WL:Array Ă),Y.r Y'/\(∀i j,Y' i j->Y i j\/(u.heap.size<=i/\w.heap.size<=j))/\(î (ç ⟨t',[]⟩) o).runT P w #[]=(Ĭ x' w',#[]++WL)/\po Y' x x'/\jh Y' Sh u' w'/\nT Y Sh w w'/\(∀e∈WL,As Y' Sh e)/\u.heap.size<=u'.heap.size
 r:∀a:bP,fB P<|î a.eval o
 I:∀(a:bP) (u:Æ) (n:ξ) (u':Æ),(î a.eval o).run P u=Ĭ n u'->(∃v,n=ñ v)\/n=aT\/∃f c,n=Ź f c
 C:∀(a:bP) (u:Æ) (f:â) (c:Array Ã) (u':Æ),(î a.eval o).run P u=Ĭ (Ź f c) u'->e7 f
inductive kL(P:Ø)(GL:Nat->Prop)(e7:â->Prop):aF->Prop
 |vl:kL P GL e7 .ret
 |sQ:kL P GL e7 eX
 |wL (l:Nat):kL P GL e7 (ep l)
 |wP (id:Nat):kL P GL e7 (eZ id)
 |wR (l:Nat):kL P GL e7 (.goto l)
 |rK {x y:aF} (hx:kL P GL e7 x) (hy:kL P GL e7 y):kL P GL e7 (.seq x y)
 |tT {c:Ù} {x y:aF} (hc:mD GL c) (hx:kL P GL e7 x) (hy:kL P GL e7 y):kL P GL e7 (bJ c x y)
 |rL (id:Nat) {c:aF} (h:kL P GL e7 c):kL P GL e7 (eu id c)
 |wM {c:aF} (h:kL P GL e7 c):kL P GL e7 (eY c)
 |wO {c:aF} (h:kL P GL e7 c):kL P GL e7 (ew c)
 |tU (id:Nat) {ops:Array aI} (draw:Bool) (h:∀o∈ops,mP P GL e7 o):kL P GL e7 (bZ id ops draw)
 |nW (WM:String):kL P GL e7 (dD WM)
inductive AB(P:Ø)(GL:Nat->Prop)(e7:â->Prop):Ũ->Prop
 |rM {c:aF} (h:kL P GL e7 c):AB P GL e7 (ĕ c)
 |yx (id:Nat):AB P GL e7 (dP id)
 |vm {c:aF} (h:kL P GL e7 c):AB P GL e7 (dQ c)
 |wN {c:aF} (h:kL P GL e7 c):AB P GL e7 (dB c)
 |wT {ops:Array aI} (is:List Nat) (h:∀o∈ops,mP P GL e7 o):AB P GL e7 (ã ops is)
def sU(P:Ø)(a:Nat->Prop)(b:â->Prop)(k:List Ũ):Prop:=∀i∈k,AB P a b i
structure lE(P:Ø)(GL:Nat->Prop)(e7:â->Prop)(s:St):Prop where
 fY:sU P GL e7 s.k
 fv:∀x∈s.L,sU P GL e7 x.2.2
def pw(P:Ø)(d:Nat->Prop)(a:â->Prop):Prop:=∀f,a f->∀b c,P.funcs[f]?=À b->b.body=À c->kL P d a c
section
variable{GL:Nat->Prop}{e7:â->Prop}
def afg{a:aF}(h:kL P GL e7 wX):bA wX i=À a->kL P GL e7 a:=by
 induction h generalizing a with
 |rK j b d f=>
  intro e;simp only[bA]at e;split at e
  .rename_i r g;cases e;exact .rK (d g) b
  .exact f e
 |wL k=>
  intro e;simp only[bA]at e;split at e<;>cases e;exact .sQ
 |_=>intro e;simp only[bA]at e;cases e
def afh{id:Nat}:∀{k a:List Ũ},sU P GL e7 k->cN id k=À a->sU P GL e7 a:=by
 intro k
 induction k with
 |nil=>intro a _ e;simp[cN]at e
 |cons i k c=>
  intro a h e;have b:=λj d=>h j<|ô _ d;cases i with
  |inBlock f=>
   simp only[cN]at e;split at e
   .cases e;exact b
   .exact c b e
  |_=>simp only[cN]at e;exact c b e
def afi:∀{k c:List Ũ},sU P GL e7 k->cO i k=À c->sU P GL e7 c:=by
 intro k
 induction k with
 |nil=>intro c _ e;simp[cO]at e
 |cons a k f=>
  intro c h e;have d:=λj b=>h j<|ô _ b;cases a with
  |inScope m=>
   simp only[cO]at e;have g:kL P GL e7 m:=by cases h _ (ð ..)with|vm h=>exact h
   split at e
   .rename_i r n;cases e;intro j b;rcases ş.1 b with rfl|b
    .exact .rM (afg g n)
    .rcases ş.1 b with rfl|b
     .exact .vm g
     .exact d j b
   .exact f d e
  |_=>simp only[cO]at e;exact f d e
def nX{i:Ũ}(h:sU P GL e7 (i::L)):sU P GL e7 L:=λj a=>h j<|ô _ a
def oN{i:Ũ}(b:AB P GL e7 i)(h:sU P GL e7 L):sU P GL e7 (i::L):=λj a=>by
 rcases ş.1 a with rfl|a
 .exact b
 .exact h j a
def yy{c:aF}{k:List Ũ}(h:sU P GL e7 (ĕ c::k)):kL P GL e7 c:=by cases h _ (ð ..)with|rM h=>exact h
def py{ops:Array aI}{k:List Ũ}(h:sU P GL e7 (ã ops jJ::k)):∀o∈ops,mP P GL e7 o:=by cases h _ (ð ..)with|wT _ h=>exact h
def LS.ok(i:pw P GL e7)(k:∀o a u f l w,mP P GL e7 o->(î (ç a) o).run P u=Ĭ (Ź f l) w->e7 f){s g:St}(h:LS P s u g w)(ok:lE P GL e7 s):lE P GL e7 g:=by
 let⟨c,d⟩:=ok;cases h with
 |pn=>exact⟨c,d⟩
 |vl=>exact⟨c,d⟩
 |sQ=>exact⟨nX c,d⟩
 |wL=>exact⟨nX c,d⟩
 |yx=>exact⟨nX c,d⟩
 |vm=>exact⟨nX c,d⟩
 |rK=>
  cases yy c with
  |rK e j=>exact⟨oN (.rM e)<|oN (.rM j)<|nX c,d⟩
 |@tT _ _ _ _ _ _ _ _ b _=>
  cases yy c with
  |tT _ e j=>exact⟨oN (.rM (by cases b<;>simp[e,j]))<|nX c,d⟩
 |rL=>
  cases yy c with
  |rL _ h=>exact⟨oN (.rM h)<|oN (.yx _)<|nX c,d⟩
 |wM=>
  cases yy c with
  |wM h=>exact⟨oN (.rM h)<|oN (.wN h)<|nX c,d⟩
 |wN=>
  cases c _ (ð ..)with
  |wN h=>exact⟨oN (.rM h) c,d⟩
 |wO=>
  cases yy c with
  |wO h=>exact⟨oN (.rM h)<|oN (.vm h)<|nX c,d⟩
 |wP h=>exact⟨afh (nX c) h,d⟩
 |wR h=>exact⟨afi (nX c) h,d⟩
 |tU=>
  cases yy c with
  |tU _ _ h=>exact⟨oN (.wT _ h)<|nX c,d⟩
 |Az=>
  cases yy c with
  |tU _ _ h=>exact⟨oN (.wT _ h)<|nX c,d⟩
 |He=>exact⟨nX c,d⟩
 |Ep=>exact⟨oN (.wT _ (py c))<|nX c,d⟩
 |nV=>exact⟨oN (.wT _ (py c))<|nX c,d⟩
 |AA=>exact⟨oN (.wT _ (py c))<|nX c,d⟩
 |sR m _ n p q=>
  refine⟨λj r=> ?_,λx e=> ?_⟩
  .have:=ź.1 r;rw[this];exact .rM (i _ (k _ _ _ _ _ _ (py c _<|Ý m) n) _ _ p q)
  .rcases ş.1 e with rfl|e
   .exact c
   .exact d x e
 |Er=>exact⟨oN (.wT _ (py c))<|nX c,d⟩
 |wS=>
  have j:=d _<|ð ..;exact⟨oN (.wT _ (py j))<|nX j,λx e=>d x<|ô _ e⟩
end
structure KI(Y:fl)(x y:FuncId×Array Value×List Ũ):Prop where
 f:x.1=y.1
 t:fR Y x.2.1 y.2.1
 k:x.2.2=y.2.2
inductive Es(Y:fl):List (FuncId×Array Value×List Ũ)->List (FuncId×Array Value×List Ũ)->Prop
 |pn:Es Y [] []
 |wG {x y:FuncId×Array Value×List Ũ} {L L':List (FuncId×Array Value×List Ũ)} (h:KI Y x y) (hs:Es Y L L'):Es Y (x::L) (y::L')
structure KJ(Y:fl)(s s':St):Prop where
 f:s.f=s'.f
 t:fR Y s.t s'.t
 k:s.k=s'.k
 vl:s.C=s'.C
 L:Es Y s.L s'.L
def KI.fN{Y a:fl}(h:Y.r a){x y:FuncId×Array Value×List Ũ}(r:KI Y x y):KI a x y:=⟨r.f,r.t.I h,r.k⟩
def KL{Y b:fl}(h:Y.r b){L c:List (FuncId×Array Value×List Ũ)}(r:Es Y L c):Es b L c:=by
 induction r with
 |pn=>exact .pn
 |wG a _ d=>exact .wG (a.fN h) d
section
variable{Y:fl}{j:Nat->Prop}{p:â->Prop}
def afj(a:∀g,X g->Y g g)(h:mD X qQ):VF Y qQ:=by
 cases h with
 |WH t=>trivial
 |WI h=>exact h.jF Y
 |WJ h=>exact a _ h
 |WK f=>trivial
def wU(b:∀g,X g->Y g g)(h:fR Y d q)(c:mD X qQ):fh Y (ç ⟨d,[]⟩ qQ) (ç ⟨q,[]⟩ qQ):= aeo (a:=⟨d,[]⟩) (a':=⟨q,[]⟩) h<|afj b c
def pv.r{b:Array Ã}(h:fR Y q b)(d:Option Tmp)(c:fh Y v x):fR Y (pv q d v) (pv b d x):= aer (a:=⟨q,[]⟩) (a':=⟨b,[]⟩) h d c
def WN(n:Nat):fR Y (ń n ň) (ń n ň):=⟨U,λi a b=>by simp only[Array.getElem_replicate];exact G7 Y⟩
def afk(B:km P xX o.op)(i:(î xX o).run P u=Ĭ (Ź F d) W):∃q l,o.op=σ {callee:=cD<|aZ F,args:=q,argTypes:=l}:=by
 have n:∀{m:Ę Ã} {x:ξ} {k p:Æ},(m>>=λv=>pure (ñ v):Ę ξ).run P k=Ĭ x p->∃v,x=ñ v:=by
  intro m x k p e;rw[Ä]at e;cases j:m.run P k with
  |ok a w=>rw[j]at e;cases e;exact⟨a,U⟩
  |halt z w=>rw[j]at e;cases e
 have C:∀{m:Ę Unit} {x:ξ} {k p:Æ},(m>>=λ_=>pure aT:Ę ξ).run P k=Ĭ x p->x=aT:=by
  intro m x k p e;rw[Ä]at e;cases j:m.run P k with
  |ok a w=>rw[j]at e;cases e;rfl
  |halt z w=>rw[j]at e;cases e
 let⟨E,s,G,H,I,guard⟩:=o;simp only at B|-;unfold î at i;simp only[]at i;cases B with
 |Aw x=>cases i
 |G1 x=>cases i
 |wH c a b=>
  rw[Ä]at i;cases j:(cu<|xX c).run P u with
  |ok a w=>rw[j]at i;cases i
  |halt z w=>rw[j]at i;cases i
 |jc t a x=>exact absurd (C i) fi
 |G2 x=>
  simp only[]at i;split at i;all_goals first
   |(cases i;done)
   |exact absurd i<|rH _ _ _ _
   |(
    split at i;all_goals first
     |(cases i;done)
     |exact absurd i<|rH _ _ _ _
     |(
      rw[Ä,Ĉ]at i;simp only[É]at i;rw[Ä]at i;revert i;generalize å P (bh _ _ _ _) u=z;intro i;cases z with
      |halt z w=>cases i
      |ok a w=>
       simp only[É]at i;split at i
       .rw[Ä]at i;cases i
       .cases i))
 |G3 x l=>simp only[þ,Ē,ė,pure_bind,Ú,ä,æ]at i;let⟨v,e⟩:=n i;cases e
 |G4 x l=>simp only[þ,Ē,ė,pure_bind,Ú,ä,æ]at i;let⟨v,e⟩:=n i;cases e
 |G5 x y l=>simp only[þ,Ē,ė,pure_bind,Ú,ä,æ]at i;let⟨v,e⟩:=n i;cases e
 |G6 x y b c h=>simp only[þ,Ē,ė,pure_bind,Ú,ä,æ]at i;let⟨v,e⟩:=n i;cases e
 |jK g q l b h=>
  let⟨J,c,r,D⟩:=h;simp only[þ,b,Ĺ,Ē,pure_bind,ē,Ĕ,ľ]at i;rw[Ä,Ĉ]at i;simp only[É,c,r,D,Å,if_false]at i;cases i;exact⟨q,l,U⟩
 |En s t x y r h=>
  rw[Ä]at i;cases j:å P (Ζ s t x y (xX x) (xX y)>>=λ_=>Ÿ s t (xX x)<|xX y) u with
  |ok a w=>rw[j]at i;cases i
  |halt z w=>rw[j]at i;cases i
 |_=>let⟨v,e⟩:=n i;cases e
theorem WO(j:Func)(h:fR Y d q):fE P fh Y (ı j d) (ı j q):=by
 have k:∀(f:fl),Y.r f->∀n,fh f (d.getD n ň) (q.getD n ň):=by intro f a n;simp only[İ];rcases(h.I a).S n with⟨b,e⟩|⟨v,u,b,e,m⟩;all_goals grind [G7]
 unfold ı;refine fD (V:=fR) ?_ ?_
 .rw[ę,ę];have w:∀(l:List ResultVar) (c:fl),Y.r c->fE P (λf (a o:List Ã)=>fR f a.toArray o.toArray) c (l.mapM fun|ResultVar.tmp n=>pure (d.getD n ň)|ResultVar.cell a e=>do aA e (<-cw (d.getD a ň))) (l.mapM fun|ResultVar.tmp n=>pure (q.getD n ň)|ResultVar.cell a e=>do aA e (<-cw (q.getD a ň))):=by
   intro l
   induction l with
   |nil=>intro c _;simp only[de];exact .fC (fR.N _)
   |cons r l x=>
    intro c g;simp only[ah];refine fD (V:=fh) ?_ ?_
    .cases r with
     |tmp n=>exact .fC (k c g n)
     |cell a e=>
      apply fD (Vq<|k c g a);exact λp b s _ i=>Vl i e
    .intro p v u e m;apply fD (x p<|fl.I g e);intro z s i y b;refine .fC ?_;have:=(fR.M<|m.fN y).G b;simpa using this
  exact fE.lD (w _ Y<|fl.M _) λf a o _ e=> .fC e
 .intro c s i _ b;refine .fC ?_;by_cases e:s.size=1
  .have a:i.size=1:=by rwa[<-b.r]
   rw[dif_pos e,dif_pos a];exact b.C 0 _ _
  .have a:¬i.size=1:=by rwa[<-b.r]
   rw[dif_neg e,dif_neg a];exact .nS b.r b.C
end
section
variable{Y:fl}{d:Nat->Prop}{l:â->Prop}
def iW(P:Ø)(Y:fl)(d:Nat->Prop)(main:Bool)(cs:List Ğ)(h:St)(u w:Æ)(k:St)(c:Æ):Prop:=
 ∃(a:fl) (f:St) (b:Æ) (g:Array Ă),Ü P main (h.r cs) w=bj (f.r cs) b g/\KJ a k f/\Y.r a/\(∀i j,a i j->Y i j\/(u.heap.size<=i/\w.heap.size<=j))/\jh a d c b/\nT Y d w b/\(∀e∈g,As a d e)/\u.heap.size<=c.heap.size
def iW.r{main:Bool}{cs:List Ğ}{a b s1':St}(c:jh Y d u w)(h:Ü P main (a.r cs) w=bj (s1'.r cs) w #[])(f:KJ Y b s1'):iW P Y d main cs a u w b u:= ⟨Y,s1',w,#[],h,f,fl.M _,λ_ _ h=>Ç h,c,nT.fU _ _ w,λe g=>absurd g fi,á _⟩
def KM{α:Type}{m:Ę α}{x:α}(h:m.runT P w #[]=(Ĭ x u,#[]++V)):m.run P w=Ĭ x u/\m.events P w #[]=V:=by simp_all
def Hf{main:Bool}{k:List Ũ}{c:Ğ}{cs:List Ğ}{es:Array Ă}(a:P.funcs[F]?=À s)(b:(ı s q).runT P w #[]=(Ĭ v u,es)): Ü P main (G {fm F q k with mode:=.returning}<|c::cs) w=bj (G (c.finish v) cs) u (seen P F es):=by simp[G,Ü,dE,doReturn,fm,Frame.at,base,a,b,Θ,-Ι]
def LS.mQ(hz:nU P)(hb:Y.C=P.globals.size)(hG:∀g,X g->Y g g){s s1 s':St}(h:LS P s u s1 W)(hs:KJ Y s s')(ok:lE P X l s)(n:jh Y d u w)(hl:∀j,d j->j<w.heap.size)(Q:El u W)(main:Bool)(cs:List Ğ): iW P Y d main cs s' u w s1 W:=by
 let⟨f',r,k',ret',p⟩:=s';let⟨S,m,T,e3,q⟩:=hs;simp only at S T e3 m q;subst S T e3;cases h with
 |pn=>exact .r (s1':=⟨_,r,_,È,p⟩) n (by simp[St.r,fm,base,G,Ü,Ì,Frame.at]) ⟨U,m,U,U,q⟩
 |vl=>exact .r (s1':=⟨_,r,_,È,p⟩) n (by simp[St.r,fm,base,G,Ü,Ì,Frame.at]) ⟨U,m,U,U,q⟩
 |sQ=>exact .r (s1':=⟨_,r,_,Â,p⟩) n (by simp[St.r,fm,base,G,Ü,Ì,Frame.at]) ⟨U,m,U,U,q⟩
 |wL=>exact .r (s1':=⟨_,r,_,Â,p⟩) n (by simp[St.r,fm,base,G,Ü,Ì,Frame.at]) ⟨U,m,U,U,q⟩
 |yx=>exact .r (s1':=⟨_,r,_,Â,p⟩) n (by simp[St.r,fm,base,G,Ü,Ì,Frame.at]) ⟨U,m,U,U,q⟩
 |vm=>exact .r (s1':=⟨_,r,_,Â,p⟩) n (by simp[St.r,fm,base,G,Ü,Ì,Frame.at]) ⟨U,m,U,U,q⟩
 |rK=>exact .r (s1':=⟨_,r,_,Â,p⟩) n (by simp[St.r,fm,base,G,Ü,Ì,Frame.at]) ⟨U,m,U,U,q⟩
 |@tT _ _ _ _ _ c _ _ b hc'=>
  have V:=wU hG m (by cases yy ok.fY with|tT Q _ _=>exact Q);rw[hc']at V;have e:ç ⟨r,[]⟩ c=Ň b:=by generalize ç ⟨r,[]⟩ c=v' at V;cases V;rfl
  exact .r (s1':=⟨_,r,_,Â,p⟩) n (cP e) ⟨U,m,U,U,q⟩
 |rL=>exact .r (s1':=⟨_,r,_,Â,p⟩) n (by simp[St.r,fm,base,G,Ü,Ì,Frame.at]) ⟨U,m,U,U,q⟩
 |wM=>exact .r (s1':=⟨_,r,_,Â,p⟩) n (by simp[St.r,fm,base,G,Ü,Ì,Frame.at]) ⟨U,m,U,U,q⟩
 |wN=>exact .r (s1':=⟨_,r,_,Â,p⟩) n (by simp[St.r,fm,base,G,Ü,Ì,Frame.at]) ⟨U,m,U,U,q⟩
 |wO=>exact .r (s1':=⟨_,r,_,Â,p⟩) n (by simp[St.r,fm,base,G,Ü,Ì,Frame.at]) ⟨U,m,U,U,q⟩
 |wP B=>exact .r (s1':=⟨_,r,_,Â,p⟩) n (by simp[St.r,fm,base,G,Ü,Ì,Frame.at,B]) ⟨U,m,U,U,q⟩
 |wR B=>exact .r (s1':=⟨_,r,_,Â,p⟩) n (by simp[St.r,fm,base,G,Ü,Ì,Frame.at,B]) ⟨U,m,U,U,q⟩
 |tU=>exact .r (s1':=⟨_,r,_,Â,p⟩) n (by simp[St.r,fm,base,G,Ü,Ì,Frame.at]) ⟨U,m,U,U,q⟩
 |@Az f t k L _ id ops=>
  refine⟨Y,⟨f,r,ã ops (bW (P.follows .mixedOrders) ops<|w.tape w.drawn<|.order f id)::k,Â,p⟩,{w with drawn:=w.drawn+1},#[],Κ,⟨U,m,?_,U,q⟩,fl.M _,λ_ _ h=>Ç h,⟨n.S,by simp[n.N],n.C,n.I,n.M,n.r⟩,⟨á _,U,U,U,λ_ _ _=>rfl,λ_ _ _=>rfl⟩,λe B=>absurd B fi,á _⟩;simp only[n.S,n.N]
 |He=>exact .r (s1':=⟨_,r,_,Â,p⟩) n (by simp[St.r,fm,base,G,Ü,Ì,Frame.at]) ⟨U,m,U,U,q⟩
 |@Ep f t k L _ ops i rest o ho hw=>
  rw[Ky _ _ m]at hw;have:=av (P:=P) (main:=main) (b:=base f) (a:=⟨r,[]⟩) (k:=k) (cs:=p.map (λx=>fm x.1 x.2.1 x.2.2)++cs) (w:=w) (rest:=rest) ho hw;rw[sT]at this;exact .r (s1':=⟨f,pv r o.dst ň,ã ops rest::k,Â,p⟩) n this ⟨U,pv.r m _<|G7 Y,U,U,q⟩
 |@nV f t k L _ ops i rest o v _ ho hw hr=>
  rw[Ky _ _ m]at hw;let⟨C,x',E,es,z,F,D,H,I,J,K,M⟩:=(py ok.fY _<|Ý ho).mQ hz hb hG m n hl hr Q;let⟨N,O⟩:=KM D;cases H with
  |nV V=>
   have:=bK (main:=main) (b:=base f) (k:=k) (cs:=p.map (λx=>fm x.1 x.2.1 x.2.2)++cs) (rest:=rest) ho hw (by simp[base]) N;rw[sT]at this;rename_i v';exact⟨C,⟨f,pv r o.dst v',ã ops rest::k,Â,p⟩,E,_,this,⟨U,pv.r (m.I z) _ V,U,U,KL z q⟩,z,F,I,J,λe B=>K e (by have:=cQ B;rwa[O]at this),M⟩
 |@AA f t k L _ ops i rest o _ ho hw hr=>
  rw[Ky _ _ m]at hw;let⟨C,x',E,es,z,F,D,H,I,J,K,M⟩:=(py ok.fY _<|Ý ho).mQ hz hb hG m n hl hr Q;let⟨N,O⟩:=KM D;cases H with
  |sQ=>
   have:=cR (main:=main) (b:=base f) (k:=k) (cs:=p.map (λx=>fm x.1 x.2.1 x.2.2)++cs) (rest:=rest) ho hw (by simp[base]) N;rw[sT]at this;exact⟨C,⟨f,pv r o.dst ň,ã ops rest::k,Â,p⟩,E,_,this,⟨U,pv.r (m.I z) _<|G7 C,U,U,KL z q⟩,z,F,I,J,λe B=>K e (by have:=cQ B;rwa[O]at this),M⟩
 |@sR f t k L _ ops i rest o g args fn c _ ho hw hr hf KN=>
  rw[Ky _ _ m]at hw;let⟨C,x',E,es,z,F,D,H,I,J,K,M⟩:=(py ok.fY _<|Ý ho).mQ hz hb hG m n hl hr Q;let⟨N,O⟩:=KM D;cases H with
  |sR _ sV=>
   have:=bL (main:=main) (b:=base f) (k:=k) (cs:=p.map (λx=>fm x.1 x.2.1 x.2.2)++cs) (rest:=rest) ho hw (by simp[base]) N;rw[cS _ hf KN]at this;rename_i WQ;refine⟨C,⟨g,WQ++ń (fn.ntmps-WQ.size) ň,[ĕ c],Â,(f,r,ã ops (i::rest)::k)::p⟩,E,_,this,⟨U,?_,U,U,.wG ⟨U,m.I z,U⟩ (KL z q)⟩,z,F,I,J,λe B=>K e (by have:=cQ B;rwa[O]at this),M⟩;rw[sV.r];exact sV.G<|WN _
 |@Er f t k L _ ops i rest ho=>exact .r (s1':=⟨f,r,ã ops rest::k,Â,p⟩) n (by simp[St.r,fm,base,G,Ü,Ì,Frame.at,ho,bk]) ⟨U,m,U,U,q⟩
 |@wS f t k L _ g t2' ops i rest k3 v fn _ hf hr=>
  cases q with
  |wG hx q=>
   rename_i y WR;let⟨g',t2,k2⟩:=y;let⟨S,KO,T⟩:=hx;simp only at S T KO;subst S T;let⟨C,v',E,es,z,F,D,H,I,J,K,M⟩:=(WO fn m).gi n hl hr #[];let⟨N,O⟩:=KM D;refine⟨C,⟨g,pv t2 ((ops[i]?).bind (·.dst)) v',ã ops rest::k3,Â,WR⟩,E,seen P f es,?_,⟨U,pv.r (KO.I z) _ H,U,U,KL z q⟩,z,F,I,J,λe B=>K e<|mem_seen B,M⟩;have AF:=υ (base g) ⟨t2,[]⟩ ops i rest k3 v';rw[sT]at AF;have ny:=Hf (main:=main) (k:=k) (c:=fm g t2<|ã ops (i::rest)::k3) (cs:=WR.map (λx=>fm x.1 x.2.1 x.2.2)++cs) hf D;unfold fm at ny;rwa[AF,ē]at ny
end
inductive pZ(P:Ø)(kn:Ã->Æ->Prop):St->Æ->Prop
 |jL {f:â} {t:Array Ã} {k:List Ũ} {u:Æ} {fn:Func} {v:Ã} (hf:P.funcs[f]?=À fn) (hr:∀tp d,(ı fn t).run P {u with tape:=tp,drawn:=d}=Ĭ v {u with tape:=tp,drawn:=d}) (hp:kn v u):pZ P kn ⟨f,t,k,È,[]⟩ u
 |jM {s:St} {u:Æ} (S:az->Nat->St) (U:az->Nat->Æ) (h:∀tp d,LS P s {u with tape:=tp,drawn:=d} (S tp d)<|U tp d) (hc:∀tp d,El u<|U tp d) (ih:∀tp d,pZ P kn (S tp d)<|U tp d):pZ P kn s u
structure yz(M:Nat->Prop)(w w₁:Æ):Prop where
 r:w.heap.size<=w₁.heap.size
 C:∀j,M j->w₁.heap[j]?=w.heap[j]?
def KP(O b:Nat->Prop)(e:Ă):Prop:=
 (∃a:Û,e.loc=Ā a/\e.sync=Â/\(O a.block\/(b a.block/\e.write=Â)))\/e.loc=ž ε\/∃f,e.loc=ž (.extern f)
structure KQ(Rd O O':Nat->Prop)(w w':Æ)(es:Array Ă):Prop where
 r:w.heap.size<=w'.heap.size
 M:∀j,O j->O' j
 I:∀j,O' j->O j\/w.heap.size<=j
 fv:∀j,O' j->j<w'.heap.size
 jT:∀j,j<w.heap.size->¬O j->w'.heap[j]?=w.heap[j]?
 N:w'.os=w.os
 S:w'.output=w.output
 Y:w'.tape=w.tape
 C:∀e∈es,KP O' Rd e
inductive vn(P:Ø)(main:Bool)(Rd:Nat->Prop)(Stop:(Nat->Prop)->Ó->Æ->Prop):(Nat->Prop)->Ó->Æ->Prop
 |fy {O:Nat->Prop} {g:Ó} {w:Æ} (h:∀w₁,yz (λj=>O j\/Rd j) w w₁->Stop O g w₁):vn P main Rd Stop O g w
 |jM {O:Nat->Prop} {g:Ó} {w:Æ} (G':Æ->Ó) (W':Æ->Æ) (E':Æ->Array Ă) (O':Æ->Nat->Prop) (iH:g.status=Ð)
  (h:∀w₁,yz (λj=>O j\/Rd j) w w₁->Ü P main g w₁=bj (G' w₁) (W' w₁) (E' w₁))
  (hd:∀w₁,yz (λj=>O j\/Rd j) w w₁->KQ Rd O (O' w₁) w₁ (W' w₁) (E' w₁))
  (ih:∀w₁,yz (λj=>O j\/Rd j) w w₁->vn P main Rd Stop (O' w₁) (G' w₁) (W' w₁)):vn P main Rd Stop O g w
instance:Nonempty fl:=⟨⟨λ_ _=>False,0⟩⟩
instance:Nonempty St:=⟨⟨0,#[],[],Â,[]⟩⟩
instance:Nonempty (Goroutine×World×Array Event×(Nat->Prop)):=⟨(default,default,#[],λ_=>False)⟩
section
variable{Y:fl}{b Rd:Nat->Prop}{l:â->Prop}{main:Bool}{Stop:(Nat->Prop)->Ó->Æ->Prop}
def vn.mk(i:g.status=Ð) (h:∀a,yz (λj=>X j\/Rd j) w a->∃c b d e,Ü P main g a=bj c b d/\KQ Rd X e a b d/\vn P main Rd Stop e c b):vn P main Rd Stop X g w:=by
 let p:=λ(a:Æ) (x:Goroutine×World×Array Event×(Nat->Prop))=>Ü P main g a=bj x.1 x.2.1 x.2.2.1/\KQ Rd X x.2.2.2 a x.2.1 x.2.2.1/\vn P main Rd Stop x.2.2.2 x.1 x.2.1
 have f:∀a,yz (λj=>X j\/Rd j) w a->p a (Classical.epsilon<|p a):=λa r=>Classical.epsilon_spec (let⟨c,b,d,e,h⟩:=h a r;⟨(c,b,d,e),h⟩);exact .jM (λa=>(Classical.epsilon<|p a).1) (λa=>(Classical.epsilon<|p a).2.1) (λa=>(Classical.epsilon<|p a).2.2.1) (λa=>(Classical.epsilon<|p a).2.2.2) i (λa r=>(f a r).1) (λa r=>(f a r).2.1) λa r=>(f a r).2.2
def rN(Y:fl)(b:Nat->Prop)(u w:Æ):Prop:=jh Y b {u with tape:=w.tape,drawn:=w.drawn} w
def fj(Y:fl)(b:Nat->Prop)(j:Nat):Prop:=(∃i,Y i j)/\¬b j
theorem rN.j4{w₁:Æ}(h:rN Y b u w)(p:∀i j,Y i j->b j->Rd j)(r:yz (λj=>fj Y b j\/Rd j) w w₁):rN Y b u w₁:=by
 refine⟨U,U,h.C,h.I,û h.M r.r,λi j a=> ?_⟩;let⟨c,d,e,f,g,k,l,m,n,o⟩:=h.r i j a;refine⟨c,d,e,f,g,k,?_,m,n,o⟩;rw[r.C j ?_]
 .exact l
 .by_cases s:b j
  .grind
  .exact Ç ⟨⟨i,a⟩,s⟩
def jh.to0(h:jh Y b u w):rN Y b u w:=⟨U,U,h.C,h.I,h.M,h.r⟩
def jh.vo(h:jh Y b u w)(tp:az)(d:Nat):rN Y b {u with tape:=tp,drawn:=d} w:=⟨U,U,h.C,h.I,h.M,h.r⟩
theorem afl{c:fl}(k:∀i j,c i j->b j->Rd j){e:Ă}(h:As c b e):KP (fj c b) Rd e:=by
 rcases h with⟨a,i,d,f,g,l⟩|h|h
 .by_cases s:b a.block
  .refine Ç ⟨a,d,g,Î ⟨k _ _ f s,?_⟩⟩;grind
  .exact Ç ⟨a,d,g,Ç ⟨⟨i,f⟩,s⟩⟩
 .exact Î<|Ç h
 .exact Î<|Î h
def WS{c:fl}(f:Y.r c)(g:∀i j,c i j->Y i j\/(u.heap.size<=i/\w.heap.size<=j))(k:jh c b W jX)(d:nT Y b w jX)(l:∀e∈V,As c b e)(m:∀i j,c i j->b j->Rd j): KQ Rd (fj Y b) (fj c b) w jX V where
 r:=d.r;M j h:=⟨let⟨i,a⟩:=h.1;⟨i,f.1 _ _ a⟩,h.2⟩;I j h:=by
  let⟨⟨i,a⟩,s⟩:=h;rcases g i j a with x|x
  .exact Ç ⟨⟨i,x⟩,s⟩
  .exact Î x.2
 fv j h:=by let⟨⟨i,a⟩,_⟩:=h;let⟨_,_,_,_,_,_,x,_⟩:=k.r i j a;exact(Ë.1 x).1
 jT j hj hn:=by
  by_cases x:∃i,Y i j
  .by_cases s:b j
   .exact d.N j s hj
   .exact absurd ⟨x,s⟩ hn
  .exact d.C j hj λi a=>x ⟨i,a⟩
 N:=d.I;S:=d.M;Y:=d.S;C e he:=afl m<|l e he
def Hg(Y:fl)(b:Nat->Prop)(f:Ã->Æ->Prop)(c:Ğ)(h:List Ğ)(O:Nat->Prop)(g:Ó)(w:Æ):Prop:=
 ∃(a:fl) (d:Æ) (v e:Ã),Y.r a/\O=fj a b/\rN a b d w/\fh a v e/\f v d/\g=G (c.finish e) h
def pZ.Pv(hz:nU P)(hP:pw P X l){s:St}(h:pZ P vQ s u):∀{Y Hh:fl} {s':St} {w:Æ},Hh.r Y->Y.C=P.globals.size->(∀g,X g->Y g g)->KJ Y s s'->lE P X l s->rN Y b u w->(∀j,b j->j<w.heap.size)->(∀i j,Y i j->b j->Rd j)->∀(c:Ğ) (cs:List Ğ),vn P main Rd (Hg Hh b vQ c cs) (fj Y b) (s'.r<|c::cs) w:=by
 have hE:∀o a u f F G,mP P X l o->(î (ç a) o).run P u=Ĭ (Ź f F) G->l f:=by exact λo a u f F G d H=>d.C a u f F G H
 induction h with
 |@jL f t k u fn v hf H hp=>
  intro Y Hh s' w I J K L M N O n c cs;let⟨f',t',k',ret',L'⟩:=s';let⟨V,W,e2,e3,hL⟩:=L;simp only at V e2 e3 W hL;subst V e2 e3;cases hL;refine .mk rfl λp r=> ?_;have d:=λj s=>Ô (O j s) r.r;let⟨z,v',w',es,B,C,m,D,q,E,Q,h8⟩:=(WO fn W).gi (N.j4 n r) d (H _ _) #[];have y:=λi j T s=>(C i j T).elim (λx=>n i j x s) λx=>absurd (d j s) Z;refine⟨_,w',_,fj z b,Hf hf m,WS B C q E (λe he=>Q e (by have:=mem_seen he;simpa using this)) y,.fy λpz e=>⟨z,u,v,v',fl.I I B,rfl,rN.j4 (q.vo _ _) y e,D,hp,rfl⟩⟩
 |@jM s u S U h hc _ ih=>
  intro Y Hh s' w I J K L M N O n c cs;refine .mk rfl λp r=> ?_;have d:=λj s=>Ô (O j s) r.r;let⟨z,H,e,es,B,C,m,D,q,E,Q,h8⟩:=(h p.tape p.drawn).mQ hz J K L M (N.j4 n r) d (hc p.tape p.drawn) main<|c::cs;have y:=λi j T s=>(D i j T).elim (λx=>n i j x s) λx=>absurd (d j s) Z;refine⟨_,e,es,fj z b,B,WS m D q E Q y,ih _ _ (fl.I I m) (m.2.2.trans J) (λg x=>m.1 _ _<|K g x) C ((h _ _).ok hP hE M) q.to0 (λj s=>Ô (d j s) E.r) y c cs⟩
end
def p6:Ğ:={(default:Ğ)with fn:=0,todo:=[ĕ<|dD ""],defers:=[{target:=.nil,args:=#[]}],mode:=.run,kind:=.normal}
def St.I(s:St):Ğ:=if s.C then{fm s.f s.t s.k with mode:=.returning}else fm s.f s.t s.k
def fv(L:List (FuncId×Array Value×List Ũ)):List Ğ:=L.map (λx=>fm x.1 x.2.1 x.2.2)++[p6]
def LM(s:St)(u:Æ):b9:=bl s.I (fv s.L) u
section
variable{GL:Nat->Prop}{e7:â->Prop}{Q:Ã->Æ->Prop}
def Et{cs:List Ğ}{a:Ğ}{es:Array Ă}(h:Ü P È (G f cs) w=bj (G a qX) u es):dY P (bl f cs w)=œ (bl a qX u):= step_lone_go<|by show(Ü P È (G f cs) w).bare=_;rw[h];rfl
def KR{fr:Ğ}{cs:List Ğ}{o:Outcome}{es:Array Ă}(h:Ü P È (G fr cs) w=.ended o u es):dY P (bl fr cs w)=.ended o u:= step_lone_ended<|by show(Ü P È (G fr cs) w).bare=_;rw[h];rfl
def mR(P:Ø)(Q:Ã->Æ->Prop)(n:Nat)(m:b9):Prop:=∃b v a,dF P n m=œ (bl b [p6] a)/\b.leaving P a (.returned v)/\Q v a
def mR.r{m a:b9}(h:mR P Q (n+1) m)(b:dY P m=œ a):mR P Q n a:=by let⟨c,v,d,e,f⟩:=h;exact⟨c,v,d,by simpa only[dF,b]using e,f⟩
def mR.M{m:b9}{o:Outcome}(h:mR P Q (n+1) m)(b:dY P m=.ended o w):False:=by let⟨c,v,d,a,e⟩:=h;simp only[dF,b]at a;cases a
theorem WT{fr:Ğ}{cs:List Ğ}(h:bl fr cs w=bl f qX u):fr=f/\cs=qX/\w=u:=by simp only[bl,Machine.mk.injEq,Array.mk.injEq,List.cons.injEq,Goroutine.mk.injEq]at h;grind
theorem mR.C{cs:List Ğ}(h:mR P Q 0 (bl f cs w)):cs=[p6]/\∃v,f.leaving P w (.returned v)/\Q v w:=by let⟨b,v,c,a,d,e⟩:=h;simp only[dF,Stepped.next.injEq]at a;grind [WT]
def afm(h:mR P Q n (bl p6 [] u)):False:=by
 cases n with
 |zero=>let⟨a,_⟩:=h.C;cases a
 |succ n=>exact h.M<|KR (es:=#[])<|by simp[G,Ü,Ì,p6];exact⟨U,U⟩
def afn{a:List ez}(h:mR P Q n (bl (p6.raise a) [] u)):False:=by
 cases n with
 |zero=>let⟨b,_⟩:=h.C;cases b
 |succ n=>exact h.M<|KR (es:=#[])<|by simp[G,Ü,p6,Ţ,dE,callDeferred];exact⟨U,U⟩
def afo(b:List ez):∀(L:List (FuncId×Array Value×List Ũ)) (f:â) (t:Array Ã) (k:List Ũ) (u:Æ) (n:Nat),(∃a,P.funcs[f]?=À a)->(∀x∈L,∃a,P.funcs[x.1]?=À a)->¬mR P Q n (bl ((fm f t k).raise b) (fv L) u):=by
 intro L
 induction L with
 |nil=>
  intro f t k u n ⟨a,c⟩ _ h;cases n with
  |zero=>let⟨_,v,y,_⟩:=h.C;exact absurd y.1<|by simp[Ţ,fm,Frame.at]
  |succ n=>
   have d:dY P (bl ((fm f t k).raise b) (fv []) u)=œ (bl (p6.raise b) [] u):=Et (es:=#[]) (by simp[G,Ü,fm,base,Frame.at,Ţ,dE,di,c,fv]);exact afn<|h.r d
 |cons x L e=>
  intro f t k u n ⟨a,c⟩ d h;cases n with
  |zero=>let⟨_,v,y,_⟩:=h.C;exact absurd y.1<|by simp[Ţ,fm,Frame.at]
  |succ n=>
   exact e x.1 x.2.1 x.2.2 u n (d x<|ð ..) (λy v=>d y<|ô _ v)<|h.r<|Et (es:=#[])<|by simp[G,Ü,fm,base,Frame.at,Ţ,dE,di,c,fv]
structure Ok(P:Ø)(GL:Nat->Prop)(e7:â->Prop)(s:St):Prop where
 r:lE P GL e7 s
 I:e7 s.f
 C:∀x∈s.L,e7 x.1/\∃ops i rest k,x.2.2=ã ops (i::rest)::k
def tV(P:Ø)(e7:â->Prop):Prop:=∀f,e7 f->∃a c,P.funcs[f]?=À a/\a.body=À c
theorem Px{t:Array Ã}:fB P (ı s t):=by unfold ı;grind [gk,V7,gD,VX,VS]
def afp(k:km P xX o.op){n:ξ}(d:(î xX o).run P u=Ĭ n W):(∃v,n=ñ v)\/n=aT\/∃f c,n=Ź f c:=by
 have i:∀{m:Ę Ã} {x:ξ} {j l:Æ},(m>>=λv=>pure (ñ v):Ę ξ).run P j=Ĭ x l->∃v,x=ñ v:=by
  intro m x j l e;rw[Ä]at e;cases g:m.run P j with
  |ok a w=>rw[g]at e;cases e;exact⟨a,U⟩
  |halt z w=>rw[g]at e;cases e
 let⟨p,e,q,s,B,guard⟩:=o;simp only at k;unfold î at d;simp only[]at d;cases k with
 |Aw x=>cases d;exact Ç ⟨_,U⟩
 |G1 x=>cases d;exact Ç ⟨_,U⟩
 |wH c a b=>
  rw[Ä]at d;cases g:(cu<|xX c).run P u with
  |ok a w=>rw[g]at d;cases d;exact Ç ⟨_,U⟩
  |halt z w=>rw[g]at d;cases d
 |jc t a x=>
  rw[Ä]at d;cases g:(ļ t (xX a)<|xX x).run P u with
  |ok a w=>rw[g]at d;cases d;exact Î<|Ç U
  |halt z w=>rw[g]at d;cases d
 |G2 x=>
  simp only[]at d;split at d;all_goals first
   |(cases d;exact Ç ⟨_,U⟩)
   |exact absurd d<|rH _ _ _ _
   |(
    split at d;all_goals first
     |(cases d;exact Ç ⟨_,U⟩)
     |exact absurd d<|rH _ _ _ _
     |(
      rw[Ä,Ĉ]at d;simp only[É]at d;rw[Ä]at d;revert d;generalize å P (bh _ _ _ _) u=z;intro d;cases z with
      |halt z w=>cases d
      |ok a w=>
       simp only[É]at d;split at d
       .rw[Ä]at d;cases d
       .cases d;exact Ç ⟨_,U⟩))
 |G3 x a=>simp only[þ,Ē,ė,pure_bind,Ú,ä,æ]at d;exact Ç<|i d
 |G4 x a=>simp only[þ,Ē,ė,pure_bind,Ú,ä,æ]at d;exact Ç<|i d
 |G5 x y a=>simp only[þ,Ē,ė,pure_bind,Ú,ä,æ]at d;exact Ç<|i d
 |G6 x y b g h=>simp only[þ,Ē,ė,pure_bind,Ú,ä,æ]at d;exact Ç<|i d
 |jK g C a b h=>
  let⟨D,r,w,z⟩:=h;simp only[þ,b,Ĺ,Ē,pure_bind,ē,Ĕ,ľ]at d;rw[Ä,Ĉ]at d;simp only[É,r,w,z,Å,if_false]at d;cases d;exact Î<|Î ⟨_,_,U⟩
 |En e t x y r h=>exact Ç<|i d
 |_=>exact Ç<|i d
def mR.I(_hP:pw P GL e7)(hF:tV P e7){n:Nat}{s:St}{u:Æ}(ok:Ok P GL e7 s)(hu:qO u)(h:mR P Q n (LM s u)): (n=0/\s.C=È/\s.L=[]/\∃fn v,P.funcs[s.f]?=À fn/\(ı fn s.t).run P u=Ĭ v u/\Q v u)\/∃m s' u',n=m+1/\LS P s u s' u'/\mR P Q m (LM s' u'):=by
 let⟨f,t,k,ret,L⟩:=s;let⟨⟨top,lw⟩,fs,ls⟩:=ok;simp only at top lw fs ls;let⟨fn,c,hfn,hbody⟩:=hF f fs;cases n with
 |zero=>
  let⟨h1,v,h2,h3⟩:=h.C;have hL:L=[]:=by simp only[fv]at h1;simp_all
  subst hL;let⟨m1,_,_,fn',m4,m5⟩:=h2;have afq:ret=È:=by
   cases ret with
   |true=>rfl
   |false=>simp[St.I,fm,Frame.at]at m1
  subst afq;exact Ç ⟨U,U,U,fn',v,m4,m5,h3⟩
 |succ n=>
  have go:∀{s':St} {u':Æ},LS P ⟨f,t,k,ret,L⟩ u s' u'->(∃es,Ü P È ((⟨f,t,k,ret,L⟩:St).r [p6]) u=bj (s'.r [p6]) u' es)->(n+1=0/\ret=È/\L=[]/\∃fn v,P.funcs[f]?=À fn/\(ı fn t).run P u=Ĭ v u/\Q v u)\/∃m s' u',n+1=m+1/\LS P ⟨f,t,k,ret,L⟩ u s' u'/\mR P Q m (LM s' u'):=by intro s' u' hl ⟨es,he⟩;exact Î ⟨n,s',u',U,hl,h.r<|Et he⟩
  have bad:(∃o w es,Ü P È ((⟨f,t,k,ret,L⟩:St).r [p6]) u=.ended o w es)->False:=λ⟨_,_,_,he⟩=>h.M<|KR he;cases ret with
  |true=>
   cases hr:(ı fn t).runT P u #[]with
   |mk r es=>
    cases r with
    |halt z w=>
     refine absurd ?_ id;cases z<;>exact bad ⟨_,_,_,by simp[St.r,fm,base,G,Ü,dE,Frame.at,hfn,hr,Θ,-Ι];exact⟨U,U,U⟩⟩
    |ok v u'=>
     cases L with
     |nil=>
      exact absurd (h.r<|Et<|Hf hfn hr) afm
     |cons x L=>
      let⟨g,t',k'⟩:=x;let⟨_,ops,i,rest,k2,e⟩:=ls _<|ð ..;simp only at e;subst e;refine go (.wS hfn (by rw[<-ο P (ı fn t) u #[],hr])) ⟨seen P f es,?_⟩;have ny:=Hf (main:=È) (k:=k) (c:=fm g t'<|ã ops (i::rest)::k2) (cs:=fv L) hfn hr;have AF:=υ (base g) ⟨t',[]⟩ ops i rest k2 v;rw[sT]at AF;unfold fm at ny;rwa[AF]at ny
  |false=>
   cases k with
   |nil=>exact go .pn ⟨_,by simp[St.r,fm,base,G,Ü,Ì,Frame.at];rfl⟩
   |cons it k=>
    have ti:=top it<|ð ..;cases ti with
    |yx id=>exact go .yx ⟨_,by simp[St.r,fm,base,G,Ü,Ì,Frame.at];rfl⟩
    |vm _=>exact go .vm ⟨_,by simp[St.r,fm,base,G,Ü,Ì,Frame.at];rfl⟩
    |wN _=>exact go .wN ⟨_,by simp[St.r,fm,base,G,Ü,Ì,Frame.at];rfl⟩
    |rM hc=>
     cases hc with
     |vl=>exact go .vl ⟨_,by simp[St.r,fm,base,G,Ü,Ì,Frame.at];rfl⟩
     |sQ=>exact go .sQ ⟨_,by simp[St.r,fm,base,G,Ü,Ì,Frame.at];rfl⟩
     |wL l=>exact go .wL ⟨_,by simp[St.r,fm,base,G,Ü,Ì,Frame.at];rfl⟩
     |rK hx hy=>exact go .rK ⟨_,by simp[St.r,fm,base,G,Ü,Ì,Frame.at];rfl⟩
     |rL id _=>exact go .rL ⟨_,by simp[St.r,fm,base,G,Ü,Ì,Frame.at];rfl⟩
     |wM _=>exact go .wM ⟨_,by simp[St.r,fm,base,G,Ü,Ì,Frame.at];rfl⟩
     |wO _=>exact go .wO ⟨_,by simp[St.r,fm,base,G,Ü,Ì,Frame.at];rfl⟩
     |nW WM=>exact(bad ⟨_,_,_,by simp[St.r,fm,base,G,Ü,Ì,Frame.at];exact⟨U,U,U⟩⟩).elim
     |wP id=>
      cases he:cN id k with
      |none=>exact(bad ⟨_,_,_,by simp[St.r,fm,base,G,Ü,Ì,Frame.at,he];exact⟨U,U,U⟩⟩).elim
      |some k'=>exact go (.wP he) ⟨_,by simp[St.r,fm,base,G,Ü,Ì,Frame.at,he];rfl⟩
     |wR l=>
      cases he:cO l k with
      |none=>exact(bad ⟨_,_,_,by simp[St.r,fm,base,G,Ü,Ì,Frame.at,he];exact⟨U,U,U⟩⟩).elim
      |some k'=>exact go (.wR he) ⟨_,by simp[St.r,fm,base,G,Ü,Ì,Frame.at,he];rfl⟩
     |@tT c x y _ _ _=>
      by_cases hb:∃b,ç ⟨t,[]⟩ c=Ň b
      .let⟨b,hb⟩:=hb;exact go (.tT hb) ⟨_,cP hb⟩
      .refine(bad ⟨.stuck "cond: bool expected" ((fm f t<|ĕ (bJ c x y)::k).pos P),u,#[],?_⟩).elim;have VE:(fm f t<|ĕ (bJ c x y)::k).eval c=ç ⟨t,[]⟩ c:=Frame.eval_at _ _ _ _;have hx:Ü P È (G (fm f t<|ĕ (bJ c x y)::k)<|fv L) u=(match(fm f t<|ĕ (bJ c x y)::k).eval c with
        |Ň b=>bj (G (fm f t<|ĕ (if b then x else y)::k)<|fv L) u
        |_=>.ended (.stuck "cond: bool expected" ((fm f t (ĕ (bJ c x y)::k)).pos P)) u):=by
        simp only[G,Ü,Ì,fm,Frame.at];rfl
       refine hx.trans ?_;rw[VE];generalize ç ⟨t,[]⟩ c=v at hb;cases v<;>first|exact absurd ⟨_,U⟩ hb|rfl
     |tU id draw _=>
      cases draw with
      |false=>exact go .tU ⟨_,by simp[St.r,fm,base,G,Ü,Ì,Frame.at];rfl⟩
      |true=>exact go .Az ⟨_,Κ⟩
    |wT is hO=>
     rename_i ops;cases is with
     |nil=>exact go .He ⟨_,by simp[St.r,fm,base,G,Ü,Ì,Frame.at];rfl⟩
     |cons i rest=>
      cases ho:ops[i]? with
      |none=>exact go (.Er ho) ⟨_,by simp[St.r,fm,base,G,Ü,Ì,Frame.at,ho,bk];rfl⟩
      |some o=>
       cases hw:ĭ o (ō ops t)with
       |false=>
        have:=av (P:=P) (main:=È) (b:=base f) (a:=⟨t,[]⟩) (k:=k) (cs:=fv L) (w:=u) (rest:=rest) ho hw;rw[sT]at this;exact go (.Ep ho hw) ⟨_,this⟩
       |true=>
        have oo:=hO o<|Ý ho;have qR:=stepG_oper (P:=P) (main:=È) (b:=base f) (a:=⟨t,[]⟩) (k:=k) (cs:=fv L) (w:=u) (rest:=rest) ho hw;cases hr:(î (ç ⟨t,[]⟩) o).runT P u #[]with
        |mk r es=>
         have pj:(î (ç ⟨t,[]⟩) o).run P u=r:=by rw[<-ο P _ u #[],hr]
         cases r with
         |halt z w=>
          have hz:=((oo.r ⟨t,[]⟩).1 u hu).2 z w pj;cases z with
          |panic v=>
           have hs:dY P (LM ⟨f,t,ã ops (i::rest)::k,Â,L⟩ u)=œ (bl ((fm f t<|ã ops (i::rest)::k).raise [{v,recovered:=Â}]) (fv L) w):= Et (es:=seen P f es) (qR.trans<|by simp[bM,hr,G,Frame.at,fm,base,Θ,Ţ,-Ι]);exact absurd (h.r hs) (afo _ L f t _ w n ⟨fn,hfn⟩ λx hx=>let⟨fn',_,h1,_⟩:=hF x.1 (ls x hx).1;⟨fn',h1⟩)
          |stuck s=>exact(bad ⟨_,_,_,qR.trans<|by simp[bM,hr,Frame.at,base,Θ,-Ι];exact⟨U,U,U⟩⟩).elim
          |unsupported un=>
           cases un<;>first|(cases hz;done)|exact(bad ⟨_,_,_,qR.trans<|by simp[bM,hr,Frame.at,base,Θ,-Ι];exact⟨U,U,U⟩⟩).elim
          |_=>cases hz
         |ok nx u'=>
          rcases oo.I ⟨t,[]⟩ u nx u' pj with⟨v,rfl⟩|rfl|⟨g,args,rfl⟩
          .have:=bK (main:=È) (b:=base f) (k:=k) (cs:=fv L) (rest:=rest) ho hw (by simp[base]) pj;rw[sT]at this;exact go (.nV ho hw pj) ⟨_,this⟩
          .have:=cR (main:=È) (b:=base f) (k:=k) (cs:=fv L) (rest:=rest) ho hw (by simp[base]) pj;rw[sT]at this;exact go (.AA ho hw pj) ⟨_,this⟩
          .let⟨fn',c',h1,h2⟩:=hF g<|oo.C ⟨t,[]⟩ u g args u' pj;have:=bL (main:=È) (b:=base f) (k:=k) (cs:=fv L) (rest:=rest) ho hw (by simp[base]) pj;rw[cS _ h1 h2]at this;exact go (.sR ho hw pj h1 h2) ⟨_,this⟩
end
def ko(u:Æ):Prop:=∀(i:Nat) (o:Obj),u.heap[i]?=À o->¬yw o
def ko.qO(h:ko u):qO u:=λi _ _ a=>h i _ a trivial
def wV(a:Ã->Æ->Prop):Prop:=∀v u T D,a v u->a v ((World.tp u T D))
section
variable{GL:Nat->Prop}{e7:â->Prop}{kn:Ã->Æ->Prop}
def LS.Pv{s s':St}(h:LS P s u s' W)(cs:List Ğ):∃j,Ü P È (s.r cs) u=bj (s'.r cs) W j:=by
 cases h with
 |@tT f t k L _ c x y b hc=>exact⟨_,cP hc⟩
 |wP e=>exact⟨_,by simp[St.r,fm,base,G,Ü,Ì,Frame.at,e];rfl⟩
 |wR e=>exact⟨_,by simp[St.r,fm,base,G,Ü,Ì,Frame.at,e];rfl⟩
 |@Az f t k L _ id ops=>exact⟨_,Κ⟩
 |@Er f t k L _ ops i rest ho=>exact⟨_,by simp[St.r,fm,base,G,Ü,Ì,Frame.at,ho,bk];rfl⟩
 |@Ep f t k L _ ops i rest o ho hw=>
  have:=av (P:=P) (main:=È) (b:=base f) (a:=⟨t,[]⟩) (k:=k) (cs:=L.map (λx=>fm x.1 x.2.1 x.2.2)++cs) (w:=u) (rest:=rest) ho hw;rw[sT]at this;exact⟨_,this⟩
 |@nV f t k L _ ops i rest o v _ ho hw hr=>
  have:=bK (main:=È) (b:=base f) (k:=k) (cs:=L.map (λx=>fm x.1 x.2.1 x.2.2)++cs) (rest:=rest) ho hw (by simp[base]) hr;rw[sT]at this;exact⟨_,this⟩
 |@AA f t k L _ ops i rest o _ ho hw hr=>
  have:=cR (main:=È) (b:=base f) (k:=k) (cs:=L.map (λx=>fm x.1 x.2.1 x.2.2)++cs) (rest:=rest) ho hw (by simp[base]) hr;rw[sT]at this;exact⟨_,this⟩
 |@sR f t k L _ ops i rest o g args fn c _ ho hw hr hf hb=>
  have:=bL (main:=È) (b:=base f) (k:=k) (cs:=L.map (λx=>fm x.1 x.2.1 x.2.2)++cs) (rest:=rest) ho hw (by simp[base]) hr;rw[cS _ hf hb]at this;exact⟨_,this⟩
 |@wS f t k L _ g t' ops i rest k' v fn _ hf hr=>
  cases l:(ı fn t).runT P u #[]with
  |mk r j=>
   have e:r=Ĭ v W:=by rw[<-hr,<-ο P (ı fn t) u #[],l]
   subst e;have d:=Hf (main:=È) (k:=k) (c:=fm g t'<|ã ops (i::rest)::k') (cs:=L.map (λx=>fm x.1 x.2.1 x.2.2)++cs) hf l;have x:=υ (base g) ⟨t',[]⟩ ops i rest k' v;rw[sT]at x;unfold fm at d;rw[x]at d;exact⟨_,d⟩
 |_=>exact⟨_,by simp[St.r,fm,base,G,Ü,Ì,Frame.at];rfl⟩
def LS.vp{s a:St}(h:LS P s u a w):dY P (LM s u)=œ (LM a w):= let⟨_,b⟩:=h.Pv [p6];Et b
def LS.Py(j:pw P GL e7){s g:St}(h:LS P s u g w)(ok:Ok P GL e7 s):Ok P GL e7 g:=by
 have i:∀o a u f e w,mP P GL e7 o->(î (ç a) o).run P u=Ĭ (Ź f e) w->e7 f:=by exact λo a u f e w c d=>c.C a u f e w d
 refine⟨h.ok j i ok.r,?_,?_⟩
 .cases h with
  |sR c _ d _ _=>exact i _ _ _ _ _ _ (py ok.r.fY _<|Ý c) d
  |wS=>exact(ok.C _<|ð ..).1
  |_=>exact ok.I
 .cases h with
  |sR c _ d _ _=>
   intro x b;rcases ş.1 b with rfl|b
   .exact⟨ok.I,_,_,_,_,U⟩
   .exact ok.C x b
  |wS=>exact λx b=>ok.C x<|ô _ b
  |_=>exact ok.C
def LS.kd{s c:St}{u b:Æ}(h:LS P s u c b)(ok:lE P GL e7 s)(a:qO u):Kd u b:=by
 cases h with
 |nV k _ i=>exact(((py ok.fY _<|Ý k).r _).1 u a).1 _ _ i
 |AA k _ i=>exact(((py ok.fY _<|Ý k).r _).1 u a).1 _ _ i
 |sR k _ i _ _=>exact(((py ok.fY _<|Ý k).r _).1 u a).1 _ _ i
 |wS _ i=>exact(Px.1 u a).1 _ _ i
 |Az=>exact⟨id,λi o h k=>⟨o,h,k⟩⟩
 |_=>exact Kd.fU u
def LS.afr{s o:St}{u p:Æ}{T:az}{D:Nat}(h:LS P s ((World.tp u T D)) o p)(ok:lE P GL e7 s):∃n v,p=(World.tp v T<|D+n)/\∀a b,vj T D a b n->LS P s ((World.tp u a b)) o ((World.tp v a<|b+n)):=by
 cases h with
 |nV c e g=>
  obtain⟨n,v,i⟩:=((py ok.fY _<|Ý c).r ⟨_,[]⟩).2 u T D;obtain⟨j,l⟩:=i _ _ g;exact⟨n,v,j,λa b d=> .nV c e (l a b d)⟩
 |AA c e g=>
  obtain⟨n,v,i⟩:=((py ok.fY _<|Ý c).r ⟨_,[]⟩).2 u T D;obtain⟨j,l⟩:=i _ _ g;exact⟨n,v,j,λa b d=> .AA c e (l a b d)⟩
 |sR c e g m q=>
  obtain⟨n,v,i⟩:=((py ok.fY _<|Ý c).r ⟨_,[]⟩).2 u T D;obtain⟨j,l⟩:=i _ _ g;exact⟨n,v,j,λa b d=> .sR c e (l a b d) m q⟩
 |wS m g=>
  obtain⟨n,v,i⟩:=(Px).2 u T D;obtain⟨j,l⟩:=i _ _ g;exact⟨n,v,j,λa b d=> .wS m (l a b d)⟩
 |@Az f t k L _ id ops=>
  refine⟨1,u,U,λa b d=> ?_⟩;have g:=LS.Az (P:=P) (f:=f) (t:=t) (k:=k) (L:=L) (u:=(World.tp u a b)) (id:=id) (ops:=ops);have i:((World.tp u a b)).tape ((World.tp u a b)).drawn=((World.tp u T D)).tape ((World.tp u T D)).drawn:=d.lU;rwa[i]at g
 |pn=>exact⟨0,u,U,λ_ _ _=> .pn⟩
 |vl=>exact⟨0,u,U,λ_ _ _=> .vl⟩
 |sQ=>exact⟨0,u,U,λ_ _ _=> .sQ⟩
 |wL=>exact⟨0,u,U,λ_ _ _=> .wL⟩
 |yx=>exact⟨0,u,U,λ_ _ _=> .yx⟩
 |vm=>exact⟨0,u,U,λ_ _ _=> .vm⟩
 |rK=>exact⟨0,u,U,λ_ _ _=> .rK⟩
 |tT h=>exact⟨0,u,U,λ_ _ _=> .tT h⟩
 |rL=>exact⟨0,u,U,λ_ _ _=> .rL⟩
 |wM=>exact⟨0,u,U,λ_ _ _=> .wM⟩
 |wN=>exact⟨0,u,U,λ_ _ _=> .wN⟩
 |wO=>exact⟨0,u,U,λ_ _ _=> .wO⟩
 |wP h=>exact⟨0,u,U,λ_ _ _=> .wP h⟩
 |wR h=>exact⟨0,u,U,λ_ _ _=> .wR h⟩
 |tU=>exact⟨0,u,U,λ_ _ _=> .tU⟩
 |He=>exact⟨0,u,U,λ_ _ _=> .He⟩
 |Ep c e=>exact⟨0,u,U,λ_ _ _=> .Ep c e⟩
 |Er c=>exact⟨0,u,U,λ_ _ _=> .Er c⟩
def mR.gT(c:pw P GL e7)(hF:tV P e7)(g:∀v u,vQ v u->ko u):∀(n:Nat) {s:St} {u:Æ},Ok P GL e7 s->qO u->mR P vQ n (LM s u)->ko u:=by
 intro n
 induction n with
 |zero=>
  intro s u a b h;rcases h.I c hF a b with⟨_,_,_,_,v,_,_,d⟩|⟨m,_,_,e,_⟩
  .exact g v u d
  .cases e
 |succ n j=>
  intro s u a b h;rcases h.I c hF a b with⟨e,_⟩|⟨m,w,x,e,d,k⟩
  .cases e
  .cases e;have f:=d.kd a.r b;intro i o l p;let⟨q,r,t⟩:=f.C i o l p;exact j (d.Py c a) (f.r b) k i q r t
def pZ.afs(b:wV kn){s:St}(h:pZ P kn s u)(T:az)(D:Nat):pZ P kn s ((World.tp u T D)):=by
 cases h with
 |jL a S c=>exact .jL a S (b _ _ T D c)
 |jM S a h c d=>exact .jM S a h c d
def WU(m:wV kn)(o:∀v u,vQ v u->kn v u){s:St}(c:s.C=È)(b:s.L=[])(e:∃g v,P.funcs[s.f]?=À g/\(ı g s.t).run P ((World.tp u xQ i))=Ĭ v ((World.tp u xQ i))/\vQ v ((World.tp u xQ i))):pZ P kn s u:=by
 obtain⟨f,t,k,z,L⟩:=s;simp only at c b;subst c b;obtain⟨g,v,p,q,r⟩:=e;refine .jL (v:=v) p (λh d=> ?_) ?_
 .obtain⟨n,w,c⟩:=(Px).2 u xQ i;obtain⟨b,e⟩:=c _ _ q;have x:n=0:=by
   have:((World.tp u xQ i)).drawn=((World.tp w xQ<|i+n)).drawn:=by rw[<-b]
   simp only[World.tp]at this;omega
  subst x;have y:(World.tp w h d)=(World.tp u h d):=by
   have a:((World.tp u xQ i)).heap=((World.tp w xQ<|i+0)).heap:=by rw[<-b]
   have j:((World.tp u xQ i)).os=((World.tp w xQ<|i+0)).os:=by rw[<-b]
   have l:((World.tp u xQ i)).output=((World.tp w xQ<|i+0)).output:=by rw[<-b]
   simp only[World.tp]at a j l|-;rw[a,j,l]
  have:=e h d (λa j=>by omega);rwa[show d+0=d from rfl,y]at this
 .have:=m v _ u.tape u.drawn<|o v _ r;exact this
structure KS where
 s:St
 u:Æ
 D:Nat
 T:az
 n:Nat
structure KT(P:Ø)(GL:Nat->Prop)(e7:â->Prop)(kn:Ã->Æ->Prop)(s0:St)(u0:Æ)(x:KS):Prop where
 ok:Ok P GL e7 x.s
 afu:qO x.u
 afv:¬pZ P kn x.s x.u
 oO:∀T',(∀i,i<x.D->T' i=x.T i)->dF P x.n (LM s0<|(World.tp u0 T' 0))=œ (LM x.s<|(World.tp x.u T' x.D))
def WV{m:b9}{s:St}{N:Nat}(a:dF P n m=œ (LM s u))(e:mR P vQ N m):∃k,N=n+k/\mR P vQ k (LM s u):=by
 by_cases f:n<=N
 .obtain⟨k,rfl⟩:=Υ f;refine⟨k,U,?_⟩;let⟨g,v,c,b,d⟩:=e;rw[dR,a]at b;exact⟨g,v,c,b,d⟩
 .obtain⟨k,rfl⟩:=Nat.exists_eq_add_of_lt<|Nat.lt_of_not_le f;let⟨g,v,c,b,d,_⟩:=e;rw[show N+k+1=N+(k+1) by omega,dR,b]at a;simp only[dF,step_leave_returned d]at a;cases k with
  |zero=>
   simp only[dF,Stepped.next.injEq]at a;have:=(WT a).2.1;simp[fv]at this
  |succ k=>
   simp only[dF,(KR (P:=P) (fr:=p6) (cs:=[]) (w:=c) (es:=#[])<|by simp[G,Ü,Ì,p6];exact⟨U,U⟩)]at a;cases a
theorem Pz(f:pw P GL e7)(hF:tV P e7)(t:wV kn)(C:∀v u,vQ v u->ko u)(E:∀v u,vQ v u->kn v u){j:St}(F:∀T,∃n,mR P vQ n<|LM j<|(World.tp w T 0)){x:KS}(G:KT P GL e7 kn j w x): ∃y:KS,KT P GL e7 kn j w y/\y.n=x.n+1/\x.D<=y.D/\∀i,i<x.D->y.T i=x.T i:=by
 let⟨s,u,D,T,n⟩:=x;let⟨ok,pend,l,q⟩:=G;simp only at ok pend l q;have H:∃y d,∀a g,LS P s ((World.tp u y d)) a g->El u g->¬pZ P kn a g:=by
  refine Classical.byContradiction λo=>l ?_;have c:∀y d,∃p:St×World,LS P s ((World.tp u y d)) p.1 p.2/\El u p.2/\pZ P kn p.1 p.2:=by simp_all
  exact .jM (λy d=>(Classical.choose<|c y d).1) (λy d=>(Classical.choose<|c y d).2) (λy d=>(Classical.choose_spec<|c y d).1) (λy d=>(Classical.choose_spec<|c y d).2.1) λy d=>(Classical.choose_spec<|c y d).2.2
 let⟨y,d,I⟩:=H;let p:az:=λi=>if i<D then T i else y (d+(i-D))
 have r:∀i,i<D->p i=T i:=λi h=>if_pos h;have J:=λi=>by show(if D+i<D then T (D+i)else y (d+(D+i-D)))=y (d+i);grind
 let⟨N,K⟩:=F p;let⟨k,_,L⟩:=WV (q p r) K;have b:qO ((World.tp u p D)):=pend;rcases L.I f hF ok b with⟨_,M,O,S⟩|⟨m,a,g,_,e,V⟩
 .exact absurd (WU t E M O S) l
 .obtain⟨c,v,rfl,z⟩:=e.afr ok.r;have W:¬pZ P kn a v:=λX=>I a _ (z y d λi _=>(J i).symm) (λi o _ B=>(mR.gT f hF C m (e.Py f ok) ((e.kd ok.r b).r b) V) i o B)<|X.afs t y<|d+c;refine⟨⟨a,v,D+c,p,n+1⟩,⟨e.Py f ok,(e.kd ok.r b).r b,W,λo B=> ?_⟩,U,fi,r⟩;rw[dR,(q o λi h=>(B i<|by simp only;omega).trans<|r i h)];simp only[dF,(z o D λi h=>B (D+i)<|by simp only;omega).vp]
theorem afw(b:pw P GL e7)(hF:tV P e7)(c:wV kn){Q:Ã->Æ->Prop}(g:∀v u,Q v u->ko u)(d:∀v u,Q v u->kn v u){a:St}(ok:Ok P GL e7 a)(q:qO w)(f:∀T,∃n,mR P Q n<|LM a<|(World.tp w T 0)):pZ P kn a w:=by
 refine Classical.byContradiction λr=> ?_;have s:KT P GL e7 kn a w ⟨a,w,0,λ_ _=>0,0⟩:=⟨ok,q,r,λI _=>rfl⟩;let F:Nat->{x:KS//KT P GL e7 kn a w x}:=λk=>Nat.rec ⟨_,s⟩ (λ_ x=>⟨Classical.choose<|Pz b hF c g d f x.2,(Classical.choose_spec<|Pz b hF c g d f x.2).1⟩) k
 have l:=λk=>(Classical.choose_spec<|Pz b hF c g d f (F k).2).2;have t:∀k,(F k).1.n=k:=by
  intro k
  induction k with
  |zero=>rfl
  |succ k e=>rw[(l k).1,e]
 have J:∀j k,(F j).1.D<=(F<|j+k).1.D/\∀i,i<(F j).1.D->(F<|j+k).1.T i=(F j).1.T i:=by
  intro j k
  induction k with
  |zero=>exact⟨á _,λ_ _=>rfl⟩
  |succ k e=>
   have:=(l<|j+k).2;exact⟨û e.1 this.1,λi m=>(this.2 i<|Ô m e.1).trans<|e.2 i m⟩
 have K:∀j k i,i<(F j).1.D->i<(F k).1.D->(F j).1.T i=(F k).1.T i:=by intro j k i e o;rcases Nat.le_total j k with h|h;all_goals grind [Υ]
 let T:az:=λi=>open Classical in if h:∃k,i<(F k).1.D then(F<|Classical.choose h).1.T i else λ_=>0
 have y:∀k i,i<(F k).1.D->T i=(F k).1.T i:=by intro k i m;have e:∃k,i<(F k).1.D:=⟨k,m⟩;show(open Classical in if h:∃k,i<(F k).1.D then(F<|Classical.choose h).1.T i else λ_=>0)=_;rw[dif_pos e];grind
 let⟨N,z⟩:=f T;have p:=(F N).2.oO T<|y N;rw[t N]at p;let⟨k,e,o⟩:=WV p z;have B:k=0:=Z
 subst B;have C:qO ((World.tp (F N).1.u T<|(F N).1.D)):=(F N).2.afu;rcases o.I b hF (F N).2.ok C with⟨_,E,G,H⟩|⟨m,_,_,e,_⟩
 .exact(F N).2.afv<|WU c d E G H
 .cases e
end
section
variable{m:â->Prop}
def PE(f:â)(b:Func)(c:aF)(a:Array Ã):St:=⟨f,a++ń (b.ntmps-a.size) ň,[ĕ c],Â,[]⟩
def WW(a:Array Ã)(b:P.funcs[F]?=À s)(d:s.body=À wX):dS P F a .normal=(PE F s wX a).I:=cS a b d
def afx(b:pw P X m)(hF:tV P m)(l:wV vQ)(g:m F)(j:P.funcs[F]?=À s)(k:s.body=À wX)(o:ko u) (p:∀T,Calls P F d ((World.tp u T 0)) fun|.returned v,u'=>vQ v u'/\ko u'|_,_=>False):pZ P vQ (PE F s wX d) u:=by
 refine afw b hF l (Q:=λv u=>vQ v u/\ko u) (λv u h=>h.2) (λv u h=>h.1) ⟨⟨λi q=> ?_,λx h=>by cases h⟩,g,λx h=>by cases h⟩ o.qO λT=> ?_
 .rw[ź.1 q];exact .rM (b F g s wX j k)
 .let⟨e,r,t,a,w,_,y⟩:=p T [p6];cases e with
  |returned v=>
   let⟨n,z⟩:=w;refine⟨n,t,v,r,?_,y,a⟩;rw[<-z,WW d j k];rfl
  |panicked n=>exact a.elim
  |outgrown=>exact a.elim
def afy(r:nU P)(b:pw P X m)(hF:tV P m)(t:wV vQ)(n:m F)(e:P.funcs[F]?=À s)(h:s.body=À wX)(y:ko u) (z:∀T,Calls P F d ((World.tp u T 0)) fun|.returned v,u'=>vQ v u'/\ko u'|_,_=>False) {Y:fl} {a o:Nat->Prop} (B:Y.C=P.globals.size) (C:∀g,X g->Y g g) (p:fR Y d q) (D:rN Y a u w) (E:∀j,a j->j<w.heap.size) (H:∀i j,Y i j->a j->o j) (main:Bool) (k:Ğ) (l:List Ğ): vn P main o (Hg Y a vQ k l) (fj Y a) (G (dS P F q .normal)<|k::l) w:=by
 have:=(afx b hF t n e h y z).Pv (main:=main) r b (Y:=Y) (Hh:=Y) (s':=PE F s wX q) (fl.M _) B C ⟨U,?_,U,U,.pn⟩ ⟨λi I=> ?_,λx J=>by cases J⟩ D E H k l
 .rw[WW q e h];exact this
 .show fR Y (d++_) (q++_);rw[p.r];exact p.G<|WN _
 .rw[ź.1 I];exact .rM (b F n s wX e h)
def yA:Ã->Bool
 |Ň _|ċ _ _|Į _|Ö ë|õ ë _ _|cg|bn|eD ë|.map ë=>È
 |_=>Â
def PF:Ã->Bool
 |.agg a=>a.all yA
 |Ξ a=>a.all yA
 |v=>yA v
def Hi(h:yA v=È):jS v:=by
 cases v with
 |bool b=>exact .mC b
 |int k n=>exact .iC k n
 |string s=>exact .kJ s
 |pointer p=>cases p with
  |none=>exact .lS
  |some a=>cases h
 |slice p n c=>cases p with
  |none=>exact .nR n c
  |some a=>cases h
 |nilFunc=>exact .vd
 |nilIface=>exact .ve
 |chan p=>cases p with
  |none=>exact .vf
  |some a=>cases h
 |map p=>cases p with
  |none=>exact .vg
  |some a=>cases h
 |_=>cases h
def afz(h:PF v=È):jS v:=by
 cases v with
 |agg b=>exact .oK λi a=>Hi<|(Ŏ.1 h) i a
 |tuple b=>exact .nS λi a=>Hi<|(Ŏ.1 h) i a
 |_=>exact Hi h
def wW(X:Nat->Bool):Ù->Bool
 |.tmp _=>È
 |eh v=>PF v
 |eG g=>X g
 |aZ _=>È
theorem KU{g:Nat->Bool}(h:wW g qQ=È):mD (λj=>g j=È) qQ:=by
 cases qQ with
 |tmp t=>exact .WH t
 |const v=>exact .WI (afz h)
 |global j=>exact .WJ h
 |func f=>exact .WK f
def PG(P:Ø)(t:Á):Bool:=match P.underlying t with
 |some .bool=>È
 |some (Ρ _)=>È
 |some ğ=>È
 |_=>Â
def afA(h:PG P t=È):tO P t:=by
 unfold PG at h;split at h
 .rename_i e;exact Ç e
 .rename_i k e;exact Î<|Ç ⟨k,e⟩
 .rename_i e;exact Î<|Î e
 .cases h
def KV:Ù->Bool
 |eh (Ö ë)=>È
 |_=>Â
def WX(h:KV qQ=È):np (y.eval qQ):=by
 unfold KV at h;split at h
 .trivial
 .cases h
def PH(P:Ø)(t:Á)(x y:Ù):Bool:=PG P t||((match P.underlying t with|some (ò _)=>È|_=>Â)&&(KV x||KV y))
theorem afB{a:bP}{y:Ù}(h:PH P t qQ y=È):tO P t\/((∃e,P.underlying t=À (ò e))/\(np (a.eval qQ)\/np (a.eval y))):=by
 unfold PH at h;rcases ũ.1 h with h|h
 .exact Ç<|afA h
 .let⟨b,e⟩:=ß.1 h;refine Î ⟨?_,(ũ.1 e).imp WX WX⟩;grind
def PK(P:Ø)(s d:Á):Bool:=match P.underlying s,P.underlying d with
 |some (Ρ _),À (Ρ _)=>È
 |some ğ,À ğ=>È
 |_,_=>Â
theorem afC(h:PK P e t=È):(∃k a,P.underlying e=À (Ρ k)/\P.underlying t=À (Ρ a))\/(P.underlying e=À ğ/\P.underlying t=À ğ):=by unfold PK at h;grind
def PL(P:Ø)(s:Á)(n:Nat):Bool:=match P.underlying s with
 |some (dx fields)=>match fields[n]? with
  |some f=>match P.info? f.type with
   |some i=>i.size !=0
   |none=>Â
  |none=>Â
 |_=>Â
def afD(h:PL P e n=È):∀a f i,P.underlying e=À (dx a)->a[n]?=À f->P.info? f.type=À i->i.size≠0:=by intro a f i b c d;simp only[PL,b,c,d]at h;simpa using h
def PN(P:Ø)(m:â->Bool)(f:â):Bool:=m f&&(match P.funcs[f]? with
 |some a=> !(a.name== "runtime.NumGoroutine")&&!a.body.isNone
 |none=>Â)
theorem WY{g:â->Bool}(h:PN P g F=È):g F=È/\∃a,P.funcs[F]?=À a/\(a.name== "runtime.NumGoroutine")=Â/\a.body.isNone=Â:=by let⟨b,c⟩:=ß.1 h;grind
def WZ(P:Ø):List Á->Bool
 |[_,t1]=>(match P.underlying t1 with|some (dy _)=>È|some ğ=>È|_=>Â)
 |_=>Â
def W0(P:Ø)(m:â->Bool)(b:Callee)(a:List Ù)(c:List Á):Bool:=match b with
 |Ĥ .len=>a.length==1
 |Ĥ .cap=>a.length==1
 |Ĥ .copy=>a.length==2
 |Ĥ .append=>a.length==2&&WZ P c
 |cD (aZ f)=>PN P m f
 |_=>Â
def Eu(P:Ø)(m:â->Bool):Op->Bool
 |.move _|.assign _|.pick _ _ _|.alloc _|.box _ _|.build _ _|dL _ _ _|.load _ _|.store _ _ _|eK _|.unOp _ _ _|ec _ _ _|.slice _ _ _ _ _|.field _ _ _|eg _ _ _|.index _ _ _|.extract _ _=>È
 |eb c t x y _=>if c==aL||c==aX then PH P t x y else È
 |aY s d _=>PK P s d
 |ef s _ n=>PL P s n
 |σ c=>W0 P m c.callee c.args.toList c.argTypes.toList
 |_=>Â
def KW{a:Array Ù}(h:(a.toList.length==1)=È):∃x,a=#[x]:=by
 let⟨l⟩:=a;match l,h with
 |[x],_=>exact⟨x,U⟩
def PO{a:Array Ù}(h:(a.toList.length==2)=È):∃x y,a=#[x,y]:=by
 let⟨l⟩:=a;match l,h with
 |[x,y],_=>exact⟨x,y,U⟩
def afE{g:â->Bool}{k:Op}(h:Eu P g k=È)(a:bP):km P a.eval k:=by
 cases k with
 |binOp o t x y r=>
  refine .En o t x y r λe=> ?_;have:(o==aL||o==aX)=È:=by rcases e with rfl|rfl<;>rfl
  simp only[Eu,if_pos this]at h;exact afB h
 |convert s d x=>exact .O4 _ _ _ (afC h)
 |fieldAddr s x n=>exact .O6 _ _ _ (afD h)
 |call c=>
  let⟨z,B,j⟩:=c;simp only[Eu]at h;unfold W0 at h;split at h
  .obtain⟨x,rfl⟩:=KW h;exact .G3 x j
  .obtain⟨x,rfl⟩:=KW h;exact .G4 x j
  .obtain⟨x,y,rfl⟩:=PO h;exact .G5 x y j
  .let⟨q,f⟩:=ß.1 h;obtain⟨x,y,rfl⟩:=PO q;let⟨l⟩:=j;match l,f with
   |[t0,t1],f=>
    refine .G6 x y t0 t1 ?_;simp only[WZ]at f;split at f
    .rename_i e m;exact Ç ⟨e,m⟩
    .rename_i m;exact Î m
    .cases f
  .exact .jK _ _ _ U (WY h).2
  .cases h
 |move x=>exact .Aw x
 |assign x=>exact .G1 x
 |pick c a b=>exact .wH c a b
 |alloc t=>exact .gE t
 |box t x=>exact .O0 t x
 |build t p=>exact .O1 t p
 |buildSlice t n p=>exact .O2 t n p
 |load t a=>exact .gy t a
 |store t a x=>exact .jc t a x
 |nilCheck x=>exact .G2 x
 |unOp o t x=>exact .O3 o t x
 |makeSlice t l c=>exact .O5 t l c
 |slice t x u v w=>exact .kU t x u v w
 |field t x n=>exact .O7 t x n
 |indexAddr t x i=>exact .O8 t x i
 |index t x i=>exact .O9 t x i
 |extract x n=>exact .GM x n
 |_=>simp[Eu]at h
def PQ(P:Ø)(X:Nat->Bool)(m:â->Bool)(o:aI):Bool:=Eu P m o.op&&o.op.operands.all (wW X)
def afF{X:Nat->Prop}{m:â->Prop}{o:aI}(op:∀a:bP,km P a.eval o.op)(opd:∀x∈o.op.operands,mD X x)(calls:∀f args ts,o.op=σ {callee:=cD<|aZ f,args:=args,argTypes:=ts}->m f):mP P X m o where
 mQ hz hb hG ht hW hl x u' hr hc:=(VI hz hW.C hb (λf=>rfl) (op _) λx hx=>wU hG ht<|opd x hx).gi hW hl hr hc #[];r a:=aff<|op a;I a u n u' hr:=afp (op a) hr;C a u f c u' hr:=let⟨as,ts,e⟩:=afk (op a) hr;calls f as ts e
theorem afG{g:Nat->Bool}{k:â->Bool}(h:PQ P g k o=È):mP P (λj=>g j=È) (λf=>k f=È) o:=by
 let⟨j,b⟩:=ß.1 h;refine afF (λa=>afE j a) (λx a=>KU ?_) λf a x e=> ?_
 .grind [Ŕ]
 .rw[e]at j;exact(WY<|show PN P k f=È from j).1
end
section
variable{Y:fl}{g:â->Prop}{α:Type}
def Ev(m:(Ù->Ã)->Ę Ã)(e:∀b,î b o=m b>>=λv=>pure<|ñ v) (i:∀(Y:fl) (b h:Ù->Ã),nU P->Bi Y->Y.C=P.globals.size->(∀x∈o.op.operands,fh Y (b x)<|h x)->kK P fh Y (m b) (m h)) (j:∀b,fB P<|m b) (k:∀x∈o.op.operands,mD X x):mP P X g o where
 mQ hz hb hG ht hW hl x u' hr hc:=by rw[e]at hr|-;exact(VD<|i _ _ _ hz hW.C hb λx d=>wU hG ht<|k x d).gi hW hl hr hc #[]
 r a:=by rw[e];exact lV<|j _
 I a u n u' hr:=by
  rw[e,Ä]at hr;cases d:(m a.eval).run P u with
  |ok v w=>rw[d]at hr;cases hr;exact Ç ⟨v,U⟩
  |halt z w=>rw[d]at hr;cases hr
 C a u f c u' hr:=by
  rw[e,Ä]at hr;cases d:(m a.eval).run P u with
  |ok v w=>rw[d]at hr;cases hr
  |halt z w=>rw[d]at hr;cases hr
theorem afH(a:o.op=cU t qQ)(b:∀y∈o.op.operands,mD X y):mP P X g o:=by
 refine Ev (λd=>Ū t<|d qQ) (λd=> ?_) (λY d c _ _ _ h=> .gl ?_) (λd=> ?_) b
 .unfold î;rw[a]
 .unfold Ū;apply fD (jd t);rintro e d _ c ⟨rfl,_⟩;split
  .exact .fQ
  .exact .fC (.yp t ((h qQ<|by rw[a];simp[Ê]).fN c))
 .unfold Ū;grind [gD,je,rJ,gk]
theorem afI(c:Sys):oM P (sys c):=by
 intro u hu;refine⟨λx u' e=> ?_,λz u' e=>by cases e⟩;have:u'.heap=u.heap:=by
  simp only[sys,å]at e;cases e;unfold World.sys;have ask:∀{γ:Type} (b:Ask γ) (w:Æ),(w.ask b).2.heap=w.heap:=by
   intro γ b
   induction b with
   |done a=>intro w;rfl
   |ask what range k ih=>
    intro w;simp only[World.ask];split
    .exact ih 0 w
    .exact ih _ _
  grind
 exact⟨λh i c e he=>h i c e (by rwa[<-this]),λi o he ho=>⟨o,by rwa[this],ho⟩⟩
theorem W3(x:Ã):∀u y a,(Λ x).run P u≠Ĭ y a:=by
 unfold Λ;cases x<;>simp only[]<;>first|exact OZ|skip
 grind [GY,Vr,rH]
def afJ(x:Ã):fB P (Λ x):=by
 refine⟨?_,Pe<|W3 x⟩;unfold Λ;cases x<;>simp only[]<;>first|exact G9 U|skip
 refine KA ?_ λa=> ?_
 .unfold Instr.panicnil;refine KA (afI _) λr=> ?_;cases r<;>first|exact G9 U|skip
  exact KA VK λ_=>VJ _
 .split
  .exact G9 U
  .exact(wI _).1
def afK(b:o.op=.panic qQ)(c:∀y∈o.op.operands,mD X y):mP P X g o:=by refine Ev (λa=>Λ<|a qQ) (λa=> ?_) (λY a d _ _ _ h=> .gl (.oL (W3 _))) (λa=>afJ _) c;unfold î;rw[b]
def afL(c:fh Y x v)(d:fh Y z jQ):fE P fh Y (Ļ x z) (Ļ v jQ):=by
 cases c<;>cases d<;>first|exact .fQ|exact .fC (.iC _ _)|skip
 refine fD (V:=fh) (.fC (.mC _)) λf a g _ e=> ?_;apply fD (Vp e);rintro h b _ _ rfl;exact .fC (.kJ _)
def afM(x y:Ã):fB P (Ļ x y):=by unfold Ļ;repeat' (first|(with_reducible first|exact gD _|exact je _|exact sS _|exact KG _|exact Pu _ _ _|refine gk ?_ (λ_=> ?_)|refine nt _ ?_)|split|rfl)
def afN:∀{l b:List Ã} {Y:fl} {x c:Ã},fh Y x c->fR Y l.toArray b.toArray->fE P fh Y (l.foldlM Ļ x) (b.foldlM Ļ c):=by
 intro l
 induction l with
 |nil=>
  intro b Y x c d a;have:b=[]:=by have:=a.r;simp at this;exact ą this.symm
  subst this;rw[φ,φ];exact .fC d
 |cons v l e=>
  intro b Y x c d a;match b,a with
  |[],a=>have:=a.r;simp at this
  |v'::b,a=>
   rw[Χ,Χ];refine fD (afL d (by have:=a.C 0 fi fi;simpa using this)) ?_;intro k y m f g;refine e g ⟨by have:=a.r;simpa using this,λj h i=> ?_⟩;have:=a.C (j+1) (by simp at h|-;omega) (by simp at i|-;omega);exact(by simpa using this:fh Y _ _).fN f
theorem W4:∀(l:List Ã) (x:Ã),fB P<|l.foldlM Ļ x
 |[],x=>by rw[φ];exact gD _
 |v::l,x=>by rw[Χ];exact gk (afM _ _) λy=>W4 l y
def afO(a:Array Á)(t:Á)(h:fR Y d q):fE P fh Y (ŏ a t d) (ŏ a t q):=by
 let⟨l⟩:=d;let⟨b⟩:=q;unfold ŏ;match l,b,h with
 |[],_,_=>exact .fQ
 |v::l,[],h=>have:=h.r;simp at this
 |v::l,v'::b,h=>
  refine afN (by have:=h.C 0 fi fi;simpa using this) ⟨by have:=h.r;simpa using this,λj e f=> ?_⟩;have:=h.C (j+1) (by simp at e|-;omega) (by simp at f|-;omega);exact(by simpa using this:fh Y _ _)
theorem afP(a:Array Á)(t:Á)(c:Array Ã):fB P (ŏ a t c):=by let⟨l⟩:=c;unfold ŏ;grind [je,W4]
def afQ{b:Array Ù}{c:Array Á}(d:o.op=σ {callee:=Ĥ .min,args:=b,argTypes:=c})(e:∀y∈o.op.operands,mD X y):mP P X g o:=by refine Ev (λa=>ŏ c o.type<|b.map a) (λa=> ?_) (λY a i _ _ _ h=> .gl (afO _ _<|VG b λz f=>h z<|by rw[d];simp[Ê,ú,f])) (λa=>afP _ _ _) e;unfold î;rw[d];simp only[þ,Ē,ė,pure_bind]
def afR{β:Type}{f g:Ã->β->Ę (ForInStep β)}(k:∀a v e b,Y.r a->fh a v e->fE P jr a (f v b) (g e b)):∀{l d:List Ã} {a:fl} (b:β),Y.r a->fR a l.toArray d.toArray->fE P jr a (forIn l b f) (forIn d b g):=by
 intro l
 induction l with
 |nil=>
  intro d a b _ c;have:d=[]:=by have:=c.r;simp at this;exact ą this.symm
  subst this;rw[ax,ax];exact .fC U
 |cons v l m=>
  intro d a b h c;match d,c with
  |[],c=>have:=c.r;simp at this
  |e::d,c=>
   rw[χ,χ];refine fD (k a v e b h (by have:=c.C 0 fi fi;simpa using this)) ?_;rintro p r _ i rfl;cases r with
   |done b=>exact .fC U
   |yield b=>
    apply m b (fl.I h i);refine⟨by have:=c.r;simpa using this,λj n o=> ?_⟩;have:=c.C (j+1) (by simp at n|-;omega) (by simp at o|-;omega);exact(by simpa using this:fh a _ _).fN i
theorem W5{β:Type}{f:Ã->β->Ę (ForInStep β)}(a:∀v b,fB P<|f v b):∀(l:List Ã) (b:β),fB P<|forIn l b f
 |[],b=>by rw[ax];exact gD _
 |v::l,b=>by
  rw[χ];refine gk (a v b) λr=> ?_;cases r with
  |done b=>exact gD _
  |yield b=>exact W5 a l b
def afS(d:fh Y x v):fE P fh Y (ā x) (ā v):=by
 cases d<;>first|exact .fQ|exact .fC (.kJ _)|skip
 rename_i h n c;unfold ā;apply fD (OT h n);intro e j l m f;simp only[<-aQ];refine fD (afR (Y:=e) ?_ _ (fl.M _) f) ?_
 .intro g a o b _ i;cases i<;>first|exact .fQ|skip
  rename_i k n;cases k<;>first|exact .fQ|exact .fC U
 .rintro g s _ _ rfl;exact .fC (.kJ _)
theorem afT(x:Ã):fB P (ā x):=by
 unfold ā;split
 .exact gD _
 .refine gk (Pm _ _) λa=> ?_;simp only[<-aQ];grind [gk,W5,gD,je]
 .exact je _
theorem afU(i:o.op=aY t T qQ)(k:P.underlying t=À (dy e))(l:P.underlying T=À ğ)(m:P.underlying e=À (Ρ .u8))(n:∀y∈o.op.operands,mD X y):mP P X g o:=by
 refine Ev (λa=>Ş t T<|a qQ) (λa=> ?_) (λY a f _ _ _ h=> .gl ?_) (λa=> ?_) n
 .unfold î;rw[i]
 .unfold Ş;refine fD (jd t) ?_;rintro z B _ p ⟨rfl,b⟩;rw[k]at b;injection b with b;subst b;refine fD (jd T) ?_;rintro q C _ r ⟨rfl,c⟩;rw[l]at c;injection c with c;subst c;have j:=((h qQ<|by rw[i];simp[Ê]).fN p).fN r;have u:fE P fh q (ö e>>=λy=>match y with|Ρ .u8=>ā (a qQ)|Ρ .i32=>aR (a qQ)|_=>stuck "Convert: a slice of what to string?") (ö e>>=λy=>match y with|Ρ .u8=>ā (f qQ)|Ρ .i32=>aR (f qQ)|_=>stuck "Convert: a slice of what to string?"):=by
   apply fD (jd e);rintro D E _ w ⟨rfl,h⟩;rw[m]at h;injection h with h;subst h;exact afS<|j.fN w
  generalize a qQ=v at*;generalize f qQ=v' at*;cases j<;>first|exact u|exact .fQ|exact .fC (.kJ _)|skip
 .unfold Ş;grind [wK,afT,WC,gD]
end
section
variable{Y:fl}{b:â->Prop}{α:Type}
def W6(i:∀(Y:fl) (a g:bP),nU P->Bi Y->Y.C=P.globals.size->(∀x∈o.op.operands,fh Y (a.eval x)<|g.eval x)->kK P po Y (î a.eval o) (î g.eval o)) (j:∀a:bP,fB P<|î a.eval o) (h:∀(a:bP) (u:Æ) (n:ξ) (d:Æ),(î a.eval o).run P u=Ĭ n d->∃v,n=ñ v) (k:∀x∈o.op.operands,mD X x):mP P X b o where
 mQ hz hb hG ht hW hl x d hr hc:=(i _ ⟨_,[]⟩ ⟨_,[]⟩ hz hW.C hb λx e=>wU hG ht<|k x e).gi hW hl hr hc #[];r a:=j a;I a u n d hr:=Ç<|h a u n d hr;C a u f c d hr:=by let⟨v,e⟩:=h a u _ d hr;cases e
def afV{e:Array Ã->Ę Ã}{k:Array Á}(g:o.op=σ {callee:=cD<|aZ F,args:=#[qQ],argTypes:=k})(l:P.funcs[F]?=À s)(m:(s.name== "runtime.NumGoroutine")=Â)(q:s.body.isNone=È)(r:Extern.findNext s=ë)(t:Extern.find s=À e) (B:∀(Y:fl) (v i:Ã),fh Y v i->fE P fh Y (e #[v]) (e #[i])) (C:∀v,fB P<|e #[v]) (D:∀y∈o.op.operands,mD X y):mP P X b o:=by
 have c:∀a:bP,î a.eval o=ľ F #[a.eval qQ]:=by intro a;unfold î;rw[g];simp only[þ,ç,Ĺ,Ē,pure_bind,ē,Ĕ,Ú,ä,æ]
 have j:∀(v:Ã) (u:Æ),(ľ F #[v]).run P u=(ea (.extern F)>>=λ_=>e #[v]>>=λy=>pure (ñ y):Ę ξ).run P u:=by intro v u;unfold ľ;simp_all
 refine W6 (λY a w _ _ _ h=> ?_) (λa=> ?_) (λa u n E d=> ?_) D
 .rw[c,c];unfold ľ;refine .gl (fD rF ?_);rintro I p J w ⟨z,G⟩;rw[z,G];simp only[l,m,q,r,t,Å,if_false,if_true];apply fD (V:=jr) (.Eg (Î ⟨F,U⟩) (.fC U));exact λK _ _ H _=>mO<|B _ _ _<|((h qQ<|by rw[g];simp[Ê,ú]).fN w).fN H
 .rw[c];exact KC (j _)<|gk (Ha _) λ_=>lV<|C _
 .rw[c,j,Ä]at d;simp only[ea,å,É]at d;have:å P (e #[a.eval qQ]>>=λy=>pure (ñ y):Ę ξ) u=Ĭ n E:=d;rw[Ä]at this;cases h:(e #[a.eval qQ]).run P u with
  |ok v w=>rw[h]at this;cases this;exact⟨v,U⟩
  |halt z w=>rw[h]at this;cases this
def afW(x a:Ã)(h:fh Y x a):fE P fh Y (ŉ #[x]) (ŉ #[a]):=.fC h
def afX(x:Ã):fB P (ŉ #[x]):=gD _
def W7:∀(n t:Nat) {c a:Array Ã},fR Y c a->fR Y (ő n t c) (ő n t a)
 |0,_,_,_,h=>h
 |n+1,t,_,_,h=>W7 n (t/256)<|h.Ve<|.iC _ _
def afY(b:Array Á)(t:Á)(v c:Ã)(h:fh Y v c):fE P fh Y (ď b #[t] #[v]) (ď b #[t] #[c]):=by
 cases h<;>first|exact .fQ|skip
 rename_i k n;cases k<;>first|exact .fQ|skip
 refine fD (jd t) ?_;rintro j d _ l ⟨rfl,_⟩;cases d<;>first|exact .fQ|skip
 rename_i e _;simp only[];split
 .exact .oL (wD<|rH _)
 .apply sP (.Ar λn=> .fC U);intro m f _;apply sP (OY _);intro o _ _;apply sP (.Ar λn=> .fC U);intro p g _;apply fD (GR e<|W7 f g<|fR.N _);exact λq a r _ i=> .fC (.kU i _ _)
def afZ(a:Array Á)(t:Á)(v:Ã):fB P (ď a #[t] #[v]):=by
 cases v<;>first|exact je _|skip
 rename_i k n;cases k<;>first|exact je _|skip
 refine gk (rJ t) λd=> ?_;cases d<;>first|exact je _|skip
 repeat' (first|(with_reducible first|exact gD _|exact je _|exact sS _|exact Hc _ _|exact rJ _|exact wI _|exact Pn _|refine gk ?_ λ_=> ?_)|split)
def Hj(t:Á)(a:Û)(c:Nat):Ę Ã:=
 if c≠0 then pure (Ö<|À a)else do
  if(<-cA a.block).isSome then pure (Ö<|À a)
  else pure (Ö<|À ⟨<-ei (.view a<|<-ŧ t),0,ë⟩)
def af0(g:Array Á)(t:Á)(j:fh Y x v):kK P fh Y (ĝ g t #[x]) (ĝ g t #[v]):=by
 cases j<;>first|exact .gl .fQ|exact .gl (.fC .lS)|skip
 rename_i a f h n c;show kK P fh Y (Hj t a c) (Hj t f c);unfold Hj;by_cases i:c≠0
 .simp only[if_pos i];exact .gl (.fC (.j0 h))
 .simp only[if_neg i];apply lb (Kw h.1);rintro l b m o ⟨rfl,rfl⟩;simp only[Option.isSome_none,Å,if_false];refine lb (V0:=λ_ a f=>a=f) ?_ ?_
  .unfold ŧ;refine fD (jd t) ?_;rintro k d _ p ⟨rfl,_⟩;cases d<;>first|exact .fQ|exact .fC U
  .rintro k e _ _ rfl;exact .Ej trivial
def af2(b:Array Á)(t:Á)(x:Ã):fB P (ĝ b t #[x]):=by
 cases x<;>first|exact je _|skip
 rename_i p n c;cases p with
 |none=>exact gD _
 |some a=>
  show fB P (Hj t a c);unfold Hj;repeat' (first|(with_reducible first|exact gD _|exact je _|exact KD _|exact KH _|refine gk ?_ (λ_=> ?_)|refine KB _ ?_)|split|(intro _ _ h;cases h;done))
def af3{c:Array Á}(d:o.op=σ {callee:=Ĥ bC,args:=#[qQ],argTypes:=c})(e:∀y∈o.op.operands,mD X y):mP P X b o:=by refine Ev (λa=>ĝ c o.type #[a qQ]) (λa=> ?_) (λY a f _ _ _ h=>af0 _ _<|h qQ<|by rw[d];simp[Ê,ú]) (λa=>af2 _ _ _) e;unfold î;rw[d];simp only[þ,Ē,ė,pure_bind,Ú,ä,æ]
end
section
variable{Y:fl}{f:Nat->Prop}{g:â->Prop}{α:Type}
def W8(h:gZ Y a p):fE P gZ Y (Μ a) (Μ p):=by unfold Μ;apply fD (Kw h.1);rintro c x d b ⟨rfl,rfl⟩;exact .fC (h.r b)
def af4{r:Nat}(h:Y r i):fE P (λ_ c q=>∃n a,c=À n/\q=À a/\n<=a) Y (dG r) (dG i):=.vh h λ_ n a c=> .fC ⟨n,a,U,U,c.elim (λq=>by omega) λq=>q.1⟩
def W9(h:gZ Y a p)(t:Á)(n:Nat):fE P (λ_ b e=>b=È->e=È) Y (ĉ a t n) (ĉ p t n):=by unfold ĉ;apply fD rF;rintro i b j c ⟨d,f⟩;rw[d,f];refine .vh (c.1 _ _ h.1) λe m k g=> ?_;rw[h.2.1];exact .fC λq=>Vy (aj<|g.elim (λq=>by omega) λq=>q.1) q
def af5(a:Û):fB P (Μ a):=by unfold Μ;repeat' (first|(with_reducible first|exact gD _|exact qP|exact tP _|exact KH _|refine gk ?_ (λ_=> ?_)|refine nt _ ?_)|split|rfl)
theorem af6(r:Nat):fB P (dG r):=by unfold dG;grind [gD,tP,VQ,gk]
theorem Xa(a:Û)(t:Á)(n:Nat):fB P (ĉ a t n):=by unfold ĉ;grind [gD,qP,tP,gk]
theorem af7(l:P.underlying e=À (ò t))(m:P.underlying T=À Ė)(o:fh Y x v):kK P fh Y (ü e T x) (ü e T v):=by
 unfold ü;refine lb (jd e) ?_;rintro z B _ p ⟨rfl,f⟩;rw[l]at f;injection f with f;subst f;refine lb (jd T) ?_;rintro C D _ q ⟨rfl,g⟩;rw[m]at g;injection g with g;subst g;have r:=(o.fN p).fN q;cases r<;>first|exact .gl .fQ|exact .gl (.fC .lS)|skip
 rename_i a E h;refine lb (W8 h) ?_;intro F b j G i;refine lb (af4 i.1) ?_;rintro H c I u ⟨w,J,rfl,rfl,K⟩;refine lb (nn t) ?_;rintro L n _ y ⟨rfl,_⟩;rw[i.2.1,i.2.2];simp only[];by_cases k:(decide (n=0)||(decide (j.off≥w)&&j.spot.isNone))=È
 .rw[if_pos k];exact .Ej trivial
 .rw[if_neg k,if_neg]
  .exact .gl (.fC (.j0 ((i.r u).r y)))
  .grind
theorem af8{d:Á}(l:P.underlying T=À Ė)(o:P.underlying d=À (ò t))(q:fh Y x z):kK P fh Y (ü T d x) (ü T d z):=by
 unfold ü;refine lb (jd T) ?_;rintro F G _ r ⟨rfl,f⟩;rw[l]at f;injection f with f;subst f;refine lb (jd d) ?_;rintro H I _ w ⟨rfl,g⟩;rw[o]at g;injection g with g;subst g;have y:=(q.fN r).fN w;cases y<;>first|exact .gl .fQ|exact .gl (.fC .lS)|skip
 rename_i a J h;refine lb (W8 h) ?_;intro K b B L i;refine lb (nn t) ?_;rintro M n _ j ⟨rfl,_⟩;refine lb (W9 (i.r j) t 1) ?_;rintro C v N D O;have Q:kK P fh C (pure<|Ö<|À b) (pure<|Ö<|À B):=.gl (.fC (.j0 ((i.r j).r D)));by_cases E:(decide (n=0)||v)=È
 .grind
 .rw[if_neg E];refine .Ek λu x S c=> ?_;rw[Ä]at c;simp only[cG,å,É]at c;cases k:u.shape? b.block with
  |none=>rw[k]at c;cases c
  |some p=>
   let⟨e,m⟩:=p;rw[k]at c;simp only[Ä,Ĉ,É]at c;split at c
   .cases c
   .cases c;exact⟨u.heap.size,.view b t,á _,fi,trivial⟩
theorem af9(h:(P.underlying e=À (ò t)/\P.underlying T=À Ė)\/(P.underlying e=À Ė/\P.underlying T=À (ò t)))(x:Ã):fB P (ü e T x):=by
 unfold ü;rcases h with⟨b,c⟩|⟨b,c⟩<;>refine wK b<|wK c ?_;all_goals
  cases x<;>first|exact je _|skip
  rename_i p;cases p with
  |none=>exact gD _
  |some a=>
   repeat' (first|(with_reducible first|exact af5 _|exact af6 _|exact Xa _ _ _|exact gD _|exact je _|exact qP|exact tP _|exact tS _|refine gk ?_ (λ_=> ?_)|refine nt _ ?_|refine KB _ ?_)|split|(intro _ _ h;cases h;done)|rfl)
theorem Xb(b:o.op=aY e T qQ)(h:(P.underlying e=À (ò t)/\P.underlying T=À Ė)\/(P.underlying e=À Ė/\P.underlying T=À (ò t)))(c:∀y∈o.op.operands,mD X y):mP P X g o:=by
 refine Ev (λa=>Ş e T<|a qQ) (λa=> ?_) (λY a i _ _ _ f=> ?_) (λa=> ?_) c
 .unfold î;rw[b]
 .unfold Ş;apply lb (jd e);rintro j k _ a ⟨rfl,l⟩;apply lb (jd T);rintro m n _ i ⟨rfl,p⟩;have q:=((f qQ<|by rw[b];simp[Ê]).fN a).fN i;grind [af7,af8]
 .unfold Ş;grind [af9,wK]
theorem aga(a:Û)(n:Nat):oM P (freeze a n):=by
 intro u f;refine⟨λx b e=> ?_,λz b e=>by cases e⟩;cases e;unfold Ĝ;split
 .exact Kd.fU u
 .refine VL (λo d=> ?_) λo c e h=> ?_
  .cases o<;>first|exact d.elim|trivial
  .grind
def agb(a:Û)(n:Nat):fB P (freeze a n):=by
 refine⟨aga a n,λu T D=>⟨0,u.freeze a n,λx b e=> ?_⟩⟩;have c:∀T D,(World.tp u T D).freeze a n=World.tp (u.freeze a n) T D:=by intro T D;unfold Ĝ;split<;>rfl
 simp_all
def Xc:∀(n:Nat) {Y:fl} {a c:Û} (d:ByteArray),gZ Y a c->fE P jr Y (ě a d n) (ě c d n)
 |0,_,_,_,_,_=> .fC U
 |n+1,Y,a,c,d,h=>by
  unfold ě;refine fD (Ks h) ?_;intro g v i e f;cases f<;>first|exact .fQ|skip
  rename_i k b;cases k<;>first|exact .fQ|exact Xc n _<|(h.r e).C 1
def Xd:∀(n:Nat) (a:Û) (b:ByteArray),fB P<|ě a b n
 |0,_,_=>gD _
 |n+1,a,b=>by
  unfold ě;refine gk (Hb _ _) λv=> ?_;split
  .exact Xd n _ _
  .exact je _
def jG(pt:Á)(a:Û)(n:Nat):Ę ByteArray:=do
 if<-ĉ a (<-ŧ pt) n then ě a .empty n else unsupported (Ų "String: not so many bytes at ptr")
def agc(pt:Á)(h:gZ Y a p)(n:Nat):fE P jr Y (jG pt a n) (jG pt p n):=by
 unfold jG;refine fD (V:=jr) ?_ ?_
 .unfold ŧ;refine fD (jd pt) ?_;rintro f d _ c ⟨rfl,_⟩;cases d<;>first|exact .fQ|exact .fC U
 .rintro i e _ d rfl;apply fD (W9 (h.r d) e n);rintro f b j c g;cases b with
  |true=>rw[g U];exact Xc n _<|(h.r d).r c
  |false=>exact .fQ
def agd[Ap P](F:jh Y f u w)(h:gZ Y a p){pt:Á}(G:∀u l j,(ŧ pt).run P u=Ĭ l j->∃k,P.underlying l=À (Ρ k))(g:(jG pt a<|n+1).run P u=Ĭ B W):¬f p.block:=by
 intro H;let⟨c,L,e,M,N,r,O,Q,t,_⟩:=F.r _ _ h.1;let⟨_,_,_,_,o⟩:=t H;unfold jG at g;rw[Ä]at g;cases i:(ŧ pt).run P u with
 |halt z x=>rw[i]at g;cases g
 |ok l j=>
  have I:j=u:=by
   unfold ŧ at i;rw[Ä]at i;unfold ö at i;rw[Ä,Ĉ]at i;simp only[É]at i;cases D:P.underlying pt with
   |none=>rw[D]at i;cases i
   |some d=>
    rw[D]at i;cases d<;>cases i<;>rfl
  subst I;rw[i]at g;simp only[É]at g;rw[Ä]at g;have y:∃b,(ĉ a l<|n+1).run P j=Ĭ b j:=by unfold ĉ;rw[Ä,Ĉ];simp only[É];rw[Ä];simp only[cG,å,É];split<;>exact⟨_,U⟩
  rcases o with o|o;rotate_left
  .let⟨k,J⟩:=G _ _ _ i;have K:(ĉ a l<|n+1).run P j=Ĭ Â j:=by
    unfold ĉ;rw[Ä,Ĉ];simp only[É];rw[Ä];simp only[cG,å,É];have t:j.shape? a.block=À (e,c.size):=by simp[ζ,r]
    rw[t];simp only[Nat.div_eq_of_lt<|Ap.lt e c.size o,ad8 J];rfl
   rw[K]at g;cases g
  let⟨b,y⟩:=y;rw[y]at g;simp only[É]at g;split at g
  .unfold ě at g;rw[Ä]at g;simp only[bq,å]at g;cases C:j.cell? a with
   |none=>
    rw[C]at g;simp only[ŗ,r]at g;cases g
   |some v=>
    rw[C]at g;simp only[É]at g;have q:=C;rw[At r]at q;cases E:a.spot with
    |some x=>rw[E]at q;cases q
    |none=>
     rw[E]at q;have:=o _ _ (by simpa using q);cases v<;>first|(cases g;done)|skip
     rename_i k m;cases k<;>first|(cases g;done)|cases this
  .cases g
end
section
variable{Y:fl}{d:Nat->Prop}{f:â->Prop}{α:Type}
def yB(a:Á)(p:Option Û)(n:Int):Ę Ã:=í #[a] a #[Ö p,ċ Þ n]
def yC(pt a t:Á)(p:Option Û)(k:ÿ)(n:Int):í #[pt,a] t #[Ö p,ċ k n]=yB pt p n:=by cases p<;>rfl
section
variable{pt:Á}{p:Option Û}
def Xe(a:h<0):∃c,∃k:PUnit->Ę Ã,yB pt p h=(runtimePanic c>>=k):=⟨_,_,if_pos a⟩
def Xf(a:¬h<0)(b:h>Þ.max):∃c,yB pt p h=unsupported (Ų c):=⟨_,(if_neg a).trans<|if_pos b⟩
def PU(a:¬h<0)(b:¬h>Þ.max)(c:h=0):yB pt p h=pure (Į .empty):=by cases p<;>exact(if_neg a).trans<|(if_neg b).trans<|if_pos c
def agf(a:¬h<0)(b:¬h>Þ.max)(d:¬h=0):∃c,yB pt ë h=runtimePanic c:=⟨_,(if_neg a).trans<|(if_neg b).trans<|if_neg d⟩
end
def Xg(pt:Á)(a:Û)(c:¬h<0)(d:¬h>Þ.max)(e:¬h=0): yB pt (À a) h=(jG pt a h.toNat>>=λs=>freeze a h.toNat>>=λ_=>pure<|Į s):=by refine((if_neg c).trans<|(if_neg d).trans<|if_neg e).trans ?_;unfold jG;show _=é (é _ _) _;rw[ť];congr 1;funext et;show é _ _=é (é _ _) _;rw[ť];congr 1;funext b;cases b<;>rfl
def agh(pt:Á)(p:Option Û)(n:Int):fB P (yB pt p n):=by cases p<;>show fB P (if n<0 then _ else _)<;>repeat' (first|(with_reducible first|exact Xa _ _ _|exact Xd _ _ _|exact agb _ _|exact gD _|exact KD _|exact wI _|refine gk ?_ (λ_=> ?_)|refine nt _ ?_)|split|rfl)
theorem agi(_hW:jh Y d u w):∀(n:Nat) {a i:Û} {j s:ByteArray},gZ Y a i->a.spot=ë->(ě a j n).run P u=Ĭ s W->∀c e f,u.heap[a.block]?=À (đ c e f)->a.off<=c.size->a.off+n<=c.size:=by
 intro n
 induction n with
 |zero=>intro a i j s _ _ _ c e f _ r;exact r
 |succ n t=>
  intro a i j s h p b c e f l _;unfold ě at b;rw[Ä]at b;simp only[bq,å]at b;cases o:u.cell? a with
  |none=>
   rw[o]at b;simp only[ŗ,l]at b;cases b
  |some v=>
   rw[o]at b;simp only[É]at b;have q:=o;rw[At l,p]at q;have y:=(Ë.1<|by simpa using q).1;cases v<;>first|(cases b;done)|skip
   rename_i k m;cases k<;>first|(cases b;done)|skip
   have g:a.add 1={a with off:=a.off+1}:=by unfold Addr.add;grind
   have x:=h.C 1;have:=t x (by rwa[g]) b c e f (by rwa[g]) (by rw[g];simp only;omega);rw[g]at this;simp only at this;omega
end
section
variable{Y:fl}{g:Nat->Prop}{r:â->Prop}{α:Type}
def PV(pt a t:Á)(p:Option Û)(y:Ã):í #[pt,a] t #[Ö p,y]=(dK y>>=λn=>yB pt p n):=by cases p<;>rfl
def Xh:∀(n:Nat) {a:Û} {f s:ByteArray} {u c:Æ},(ě a f n).run P u=Ĭ s c->c=u
 |0,_,_,_,_,_,h=>by cases h;rfl
 |n+1,a,f,s,u,c,h=>by
  unfold ě at h;rw[Ä]at h;have g:∀v b,(bq a).run P u=Ĭ v b->b=u:=by
   intro v b e;simp only[bq,å]at e;split at e
   .cases e;rfl
   .split at e<;>cases e;rfl
  cases d:(bq a).run P u with
  |halt z w=>rw[d]at h;cases h
  |ok v b=>
   have:=g v b d;subst this;rw[d]at h;simp only[É]at h;cases v<;>first|(cases h;done)|skip
   rename_i k m;cases k<;>first|(cases h;done)|exact Xh n h
def agj{pt:Á}(c:(jG pt a n).run P u=Ĭ B w):w=u/\(ě a .empty n).run P u=Ĭ B u:=by
 unfold jG at c;rw[Ä]at c;cases e:(ŧ pt).run P u with
 |halt z x=>rw[e]at c;cases c
 |ok z x=>
  have f:x=u:=by
   unfold ŧ at e;rw[Ä]at e;unfold ö at e;rw[Ä,Ĉ]at e;simp only[É]at e;cases b:P.underlying pt with
   |none=>rw[b]at e;cases e
   |some d=>
    rw[b]at e;cases d<;>cases e<;>rfl
  subst f;rw[e]at c;simp only[É]at c;rw[Ä]at c;have d:∃b,(ĉ a z n).run P x=Ĭ b x:=by unfold ĉ;rw[Ä,Ĉ];simp only[É];rw[Ä];simp only[cG,å,É];split<;>exact⟨_,U⟩
  let⟨b,d⟩:=d;rw[d]at c;simp only[É]at c;split at c
  .have:=Xh n c;subst this;exact⟨U,c⟩
  .cases c
def KX(P:Ø)(t:Á):Bool:=match P.underlying t with
 |some (ò e)=>(match P.underlying e with|some (Ρ _)=>È|_=>Â)
 |_=>Â
theorem agk{P:Ø}{pt:Á}(h:KX P pt=È):∀u b c,(ŧ pt).run P u=Ĭ b c->∃k,P.underlying b=À (Ρ k):=by
 intro u b c a;unfold ŧ ö at a;rw[Ä,Ä,Ĉ]at a;simp only[É]at a;unfold KX at h;split at h
 .rename_i e d;rw[d]at a;cases a;grind
 .cases h
def agl[Ap P]{y:Ù}{pt:Á}(W:o.op=σ {callee:=Ĥ dj,args:=#[qQ,y],argTypes:=#[pt,T]})(hpt:KX P pt=È)(KY:∀z∈o.op.operands,mD X z):mP P X r o:=by
 have he:∀M:Ù->Ã,î M o=(í #[pt,T] o.type #[M qQ,M y]>>=λv=>pure<|ñ v):=by intro M;unfold î;rw[W];simp only[þ,Ē,ė,pure_bind,Ú,ä,æ]
 have N:∀v w:Ã,fB P (í #[pt,T] o.type #[v,w]):=by
  intro v w;cases v<;>first|exact je _|skip
  rw[PV];exact gk (Hd _) λn=>agh _ _ _
 have hk:∀(a:bP) (u:Æ) (n:ξ) (C:Æ),(î a.eval o).run P u=Ĭ n C->∃v,n=ñ v:=by
  intro a u n C b;rw[he,Ä]at b;cases O:(í #[pt,T] o.type #[a.eval qQ,a.eval y]).run P u with
  |ok v w=>rw[O]at b;cases b;exact⟨v,U⟩
  |halt z w=>rw[O]at b;cases b
 refine⟨?_,λa=>by rw[he];exact lV<|N _ _,λa u n C b=>Ç<|hk a u n C b,λa u f c C b=>by let⟨v,e⟩:=hk a u _ C b;cases e⟩;intro Y g t t' u w hz hb hG ht J hl z C b hc;have hx:=wU hG ht (KY qQ<|by rw[W];simp[Ê,ú]);have Q:=wU hG ht (KY y<|by rw[W];simp[Ê,ú]);rw[he]at b|-;generalize ç ⟨t,[]⟩ qQ=v at hx b;generalize ç ⟨t',[]⟩ qQ=v' at hx|-;generalize ç ⟨t,[]⟩ y=l at Q b;generalize ç ⟨t',[]⟩ y=l' at Q|-;have E:fE P fh Y (í #[pt,T] o.type #[v,l]) (í #[pt,T] o.type #[v',l'])->∃(K:fl) (x':ξ) (w':Æ) (S:Array Ă),Y.r K/\(∀i j,K i j->Y i j\/(u.heap.size<=i/\w.heap.size<=j))/\(í #[pt,T] o.type #[v',l']>>=λv=>pure (ñ v):Ę ξ).runT P w #[]=(Ĭ x' w',#[]++S)/\po K z x'/\jh K g C w'/\nT Y g w w'/\(∀e∈S,As K g e)/\u.heap.size<=C.heap.size:= λh=>(mO h).gi J hl b #[];cases hx with
 |lS=>
  apply E;rw[PV,PV];apply fD (OV Q);rintro Xi n _ _ rfl;by_cases B:n<0
  .let⟨c,k,q⟩:=Xe (pt:=pt) (p:=ë) B;rw[q];exact .oL (wD<|rH _)
  .by_cases d:n>Þ.max
   .let⟨c,q⟩:=Xf (pt:=pt) (p:=ë) B d;rw[q];exact .fQ
   .by_cases D:n=0
    .rw[PU B d D];exact .fC (.kJ _)
    .let⟨c,q⟩:=agf (pt:=pt) B d D;rw[q];apply Kv
 |j0 F=>
  rename_i a a';cases Q with
  |iC k n=>
   by_cases B:n<0
   .apply E;let⟨c,k,q⟩:=Xe (pt:=pt) (p:=À a) B;rw[yC,yC,q];exact .oL (wD<|rH _)
   .by_cases d:n>Þ.max
    .apply E;let⟨c,q⟩:=Xf (pt:=pt) (p:=À a) B d;rw[yC,yC,q];exact .fQ
    .by_cases D:n=0
     .apply E;rw[yC,yC,PU B d D,PU B d D];exact .fC (.kJ _)
     .rw[yC,Xg pt a B d D]at b;rw[yC,Xg pt a' B d D];obtain⟨m,O⟩:∃m,n.toNat=m+1:=⟨n.toNat-1,Z⟩;rw[O]at b|-;cases L:(jG pt a<|m+1).run P u with
      |halt z w=>
       rw[Ä,Ä,L]at b;cases b
      |ok s u1=>
       obtain⟨rfl,Xj⟩:=agj L;rw[Ä,Ä,L]at b;have AG:=b;cases AG;let⟨Xi,s',w1,es,k1,k2,k3,k4,k5,G,k7,k8⟩:=(agc pt F<|m+1).gi J hl L #[];have S:=k4;subst S;let⟨c,c',e,fr,wE,V,hw,sV,_⟩:=J.r _ _ F.1;have Xk:a.spot=ë/\a.off<c.size:=by
        have H:=Xj;unfold ě at H;rw[Ä]at H;simp only[bq,å]at H;cases I:u1.cell? a with
        |none=>
         rw[I]at H;simp only[ŗ,V]at H;cases H
        |some v=>
         rw[At V]at I;cases oP:a.spot with
         |some qQ=>rw[oP]at I;cases I
         |none=>rw[oP]at I;exact⟨U,(Ë.1<|by simpa using I).1⟩
       have fits:∀c e fr,u1.heap[a.block]?=À (đ c e fr)->a.off+(m+1)<=c.size:=by intro c2 e2 qS d;rw[V]at d;injection d with d;injection d with q1 q2 q3;subst q1;exact agi J (m+1) F Xk.1 Xj c e fr V<|Nat.le_of_lt Xk.2
       refine⟨Xi,ñ<|Į s,w1.freeze a'<|m+1,es,k1,k2,?_,.nV (.kJ s),k5.adu (F.r k1) (m+1) fits,?_,k7,by rw[Kq];exact á _⟩
       .show ì P (é (é _ _) _) w #[]=_;rw[Ñ,Ñ,k3];rfl
       .refine⟨by rw[Kq];exact G.r,adq.trans G.I,adr.trans G.M,OP.trans G.S,λj hj N=> ?_,λj hs hj=> ?_⟩
        .rw[Kr (λe=>N a.block<|by rw[<-e];exact F.1)];exact G.C j hj N
        .rw[Kr (λe=>(agd J F (agk hpt) L)<|by rwa[e])];exact G.N j hs hj
  |_=>exact E .fQ
 |_=>exact E .fQ
end
section
variable{Y:fl}{g:Nat->Prop}{i:â->Prop}{α:Type}
theorem agm(a:Û):fB P (bD a):=by unfold bD;grind [gD,tP,Pk,gk]
theorem agn(a b:Û):fB P (cV a b):=by unfold cV;grind [agm,gD,tP,gk]
def agp(a b:Û):fB P (Ż a b):=by unfold Ż;repeat' (first|(with_reducible first|exact agn _ _|exact gD _|exact sS _|exact Pk _|exact V9 _|refine gk ?_ (λ_=> ?_)|refine nt _ ?_)|split|rfl)
def Xl(h:P.underlying t=À (ò e))(x y:Ã):fB P (ù t x y):=by unfold ù Ć θ;refine wK h ?_;repeat' (first|(with_reducible first|exact agp _ _|exact gD _|exact je _|exact sS _|exact tS _|refine gk ?_ λ_=> ?_)|contradiction|split)
def agq{a:Ĩ}(b:a=aL\/a=aX)(h:P.underlying t=À (ò e))(x y:Ã):fB P (Ÿ a t x y):=by
 have c:=Xl h x y;rcases b with rfl|rfl;all_goals
  unfold Ÿ;repeat' (first|(with_reducible first|exact Xl h _ _|exact gD _|exact je _|exact Pp _ _ _ _|exact Ww _ _ _ _ _ _|exact Wx _ _ _|exact Pu _ _ _|refine gk ?_ λ_=> ?_)|contradiction|split)
def yD(u:Æ)(r:Nat):Prop:=∃c e a,u.heap[r]?=À (đ c e a)/\a.2<=c.size
def KZ(a:Û)(u:Æ)(b:Array Ă):(eW a).runT P u b=(Ĭ (u.frozen? a) u,b):=rfl
def K0{r:Nat}(h:u.heap[r]?=À (đ d e xJ))(a:Array Ă):(cG r).runT P u a=(Ĭ (À (e,d.size)) u,a):=by simp only[cG,ì,ζ,h]
def Xm(h:yD u a.block)(b:Array Ă):(bD a).runT P u b=(Ĭ (u.frozen? a) u,b):=by
 let⟨c,e,f,d,g⟩:=h;unfold bD;show ì P (é _ _) u b=_;rw[Ñ,KZ];cases i:u.frozen? a with
 |true=>rfl
 |false=>
  simp only[Å,if_false];show ì P (é _ _) u b=_;rw[Ñ,K0 d];simp only[];rw[KZ];have:u.frozen? {block:=a.block,off:=c.size}=Â:=by simp only[č,d];simp;omega
  rw[this]
def Xn(f:u.heap[a.block]?=À (đ d e xJ))(g:xJ.2<=d.size)(b:u.frozen? a=È):d.size≠0:=by simp only[č,f]at b;simp at b;omega
def agr(i:yD u a.block)(j:yD u p.block)(k:(u.frozen? a&&u.frozen? p)=Â)(g:Array Ă):(cV a p).runT P u g=(Ĭ Â u,g):=by
 have q:=i;have r:=j;let⟨c,e,w,l,s⟩:=q;let⟨d,f,x,m,t⟩:=r;unfold cV;show ì P (é _ _) u g=_;rw[Ñ,Xm i];simp only[];show ì P (é _ _) u g=_;rw[Ñ,Xm j];simp only[];show ì P (é (é _ _) _) u g=_;rw[Ñ,Ñ,K0 l];simp only[];show ì P (é (é _ _) _) u g=_;rw[Ñ,Ñ,K0 m];simp only[];congr 2;cases o:u.frozen? a with
 |true=>
  rw[o]at k;have h:u.frozen? p=Â:=by simpa using k
  have:=Xn l s o;simp only[h];cases v:c.size with
  |zero=>exact absurd v this
  |succ n=>rfl
 |false=>
  cases h:u.frozen? p with
  |true=>
   have:=Xn m t h;cases v:d.size with
   |zero=>exact absurd v this
   |succ n=>rfl
  |false=>rfl
def Xo(h:yD u a.block)(b:Array Ă):(br a).runT P u b=(Ĭ () u,b):=by let⟨c,e,f,d,g⟩:=h;unfold br cA;show ì P (é (é _ _) _) u b=_;rw[Ñ,Ñ,K0 d];rfl
def Xp(e:yD u a.block)(f:yD u p.block)(c:Array Ă):(Ż a p).runT P u c= if(a.block==p.block)=È then(Ĭ (a==p) u,c)else if(u.frozen? a&&u.frozen? p)=È then(cm (Ŋ .addressObserved) u,c)else(Ĭ Â u,c):=by
 unfold Ż;by_cases h:(a.block==p.block)=È
 .simp_all
 .rw[if_neg h,if_neg h];show ì P (é _ _) u c=_;rw[Ñ,KZ];simp only[];show ì P (é _ _) u c=_;rw[Ñ,KZ];simp only[];by_cases d:(u.frozen? a&&u.frozen? p)=È
  .simp_all
  .rw[if_neg d,if_neg d];show ì P (é _ _) u c=_;rw[Ñ,Xo e];simp only[];show ì P (é _ _) u c=_;rw[Ñ,Xo f];simp only[];show ì P (é _ _) u c=_;rw[Ñ,agr e f (by simpa using d)];rfl
end
section
variable{Y:fl}{g:Nat->Prop}{j:â->Prop}
def agt{d:dO}(h:P.underlying t=À d)(u:Æ)(a:Array Ă):(ö t).runT P u a=(Ĭ d u,a):=by unfold ö;simp_all
theorem agu(h:P.info? t=À zJ)(u:Æ)(a:Array Ă):(ŕ t).runT P u a=(Ĭ zJ.size u,a):=by
 unfold ŕ;show ì P (é _ _) u a=_;rw[Ñ];have:(ý t).runT P u a=(Ĭ zJ u,a):=by unfold ý;simp_all
 rw[this];rfl
theorem Xq(h:P.underlying t=À (ò e))(d:P.info? e=À zJ)(f:zJ.size≠0)(a b:Û)(u:Æ)(c:Array Ă):(ù t (Ö<|À a)<|Ö<|À b).runT P u c=(Ż a b).runT P u c:=by unfold ù Ć θ;show ì P (é _ _) u c=_;rw[Ñ,agt h];simp only[];show ì P (é _ _) u c=_;grind [Ñ,agu]
def iw(a:Ĩ)(r:Bool):Bool:=if a=aL then r else !r
def Xr{d:Ĩ}(k:d=aL\/d=aX)(h:P.underlying t=À (ò e))(g:P.info? e=À zJ)(j:zJ.size≠0)(x y:Ù)(a b:Û)(u:Æ)(c:Array Ă): ((Ζ d t x y (Ö<|À a) (Ö<|À b)>>=λ_=>Ÿ d t (Ö<|À a)<|Ö<|À b)>>=λv=>pure (ñ v):Ę ξ).runT P u c= match(Ż a b).runT P u c with
 |(Ĭ r u',f)=>(Ĭ (ñ<|Ň<|iw d r) u',f)
 |(cm z u',f)=>(cm z u',f):=by
 rcases k with rfl|rfl
 .show ì P (é (é (ù t (Ö<|À a)<|Ö<|À b) λr=>aU<|Ň r) λv=>aU<|ñ v) u c=_;rw[Ñ,Ñ,Xq h g j];cases(Ż a b).runT P u c with
  |mk r f=>cases r<;>rfl
 .show ì P (é (é (ù t (Ö<|À a)<|Ö<|À b) λr=>aU<|Ň !r) λv=>aU<|ñ v) u c=_;rw[Ñ,Ñ,Xq h g j];cases(Ż a b).runT P u c with
  |mk r f=>cases r<;>rfl
theorem agv{m:Ĩ}{r:Á}{y:Ù}(E:o.op=eb m t qQ y r)(H:m=aL\/m=aX)(h:P.underlying t=À (ò e))(T:P.info? e=À zJ)(V:zJ.size≠0)(I:∀z∈o.op.operands,mD X z):mP P X j o:=by
 have J:∀B:Ù->Ã,î B o=((Ζ m t qQ y (B qQ) (B y)>>=λ_=>Ÿ m t (B qQ)<|B y)>>=λv=>pure<|ñ v):=by intro B;unfold î;rw[E]
 have W:∀(a:bP) (u:Æ) (n:ξ) (s:Æ),(î a.eval o).run P u=Ĭ n s->∃v,n=ñ v:=by
  intro a u n s k;rw[J,Ä]at k;cases C:(Ζ m t qQ y (a.eval qQ) (a.eval y)>>=λ_=>Ÿ m t (a.eval qQ)<|a.eval y).run P u with
  |ok v w=>rw[C]at k;cases k;exact⟨v,U⟩
  |halt z w=>rw[C]at k;cases k
 refine⟨?_,λa=> ?_,λa u n s k=>Ç<|W a u n s k,λa u f c s k=>by let⟨v,e⟩:=W a u _ s k;cases e⟩
 .intro Y g D Xs u w K hb L M p hl z s k hc;have N:=wU L M (I qQ<|by rw[E];simp[Ê]);have O:=wU L M (I y<|by rw[E];simp[Ê]);by_cases Q:np (ç ⟨D,[]⟩ qQ)\/np (ç ⟨D,[]⟩ y)
  .have hOk:km P (ç ⟨D,[]⟩) o.op:=by
    rw[E];exact .En m t qQ y r λ_=>Î ⟨⟨e,h⟩,Q⟩
   exact(VI K p.C hb (λf=>rfl) hOk λz K=>wU L M<|I z K).gi p hl k hc #[]
  .have n1:=λq=>Q<|Ç q;have n2:=λq=>Q<|Î q;rw[J]at k|-;generalize ç ⟨D,[]⟩ qQ=v at N k n1;generalize ç ⟨Xs,[]⟩ qQ=v' at N|-;generalize ç ⟨D,[]⟩ y=l at O k n2;generalize ç ⟨Xs,[]⟩ y=l' at O|-;cases N<;>first|exact absurd trivial n1|skip
   cases O<;>first|exact absurd trivial n2|skip
   rename_i a a' F b b' G;have fit:∀{c S:Û},gZ Y c S->yD u c.block/\yD w S.block:=by intro c S hcc;let⟨d,d',e2,fr,wE,hu,hw,sV,p7,Ew,hfr⟩:=p.r _ _ hcc.1;refine⟨⟨d,e2,fr,hu,hfr⟩,d',e2,wE,hw,?_⟩;refine û ?_ sV.I;grind
   let⟨fa,fa'⟩:=fit F;let⟨fb,fb'⟩:=fit G;rw[<-ο P _ u #[],Xr H h T V,Xp fa fb]at k;rw[Xr H h T V,Xp fa' fb'];rw[<-(Kx p.C F G),<-(Vv p.C F G)];by_cases q:(a.block==b.block)=È
   .rw[if_pos q]at k|-;cases k;exact⟨Y,_,w,#[],fl.M _,λ_ _ q=>Ç q,U,.nV (.mC _),p,nT.fU _ _ _,λ_ C=>absurd C fi,á _⟩
   .rw[if_neg q]at k|-;by_cases q2:(u.frozen? a&&u.frozen? b)=È
    .grind
    .rw[if_neg q2]at k;have q3:¬(w.frozen? a'&&w.frozen? b')=È:=by
      intro q4;let⟨z1,z2⟩:=ß.1 q4;exact q2<|ß.2 ⟨p.G F z1,p.G G z2⟩
     rw[if_neg q3];cases k;exact⟨Y,_,w,#[],fl.M _,λ_ _ q=>Ç q,U,.nV (.mC _),p,nT.fU _ _ _,λ_ C=>absurd C fi,á _⟩
 .rw[J];exact lV<|gk (WB m t (λ_=>Î ⟨e,h⟩) qQ y _ _) λ_=>agq H h _ _
end
def PW(P:Ø)(s d:Á):Bool:=match P.underlying s,P.underlying d with
 |some (dy e),À ğ=>(match P.underlying e with|some (Ρ .u8)=>È|_=>Â)
 |some (ò _),À Ė=>È
 |some Ė,À (ò _)=>È
 |_,_=>Â
def PX(P:Ø)(t:Á):Bool:=match P.underlying t with
 |some (ò e)=>(match P.info? e with|some i=>i.size !=0|none=>Â)
 |_=>Â
def PY(P:Ø)(b:â->Bool)(c:Callee)(a:List Ù)(d:List Á):Bool:=match c with
 |Ĥ .min=>a.length !=0
 |Ĥ bC=>a.length==1
 |Ĥ dj=>a.length==2&&(match d with|[t,_]=>KX P t|_=>Â)
 |cD (aZ f)=>b f&&a.length==1
 |_=>Â
def PZ(P:Ø)(a:â->Bool):Op->Bool
 |cU _ _|.panic _=>È
 |eb c t _ _ _=>(c==aL||c==aX)&&PX P t
 |aY s d _=>PW P s d
 |σ c=>PY P a c.callee c.args.toList c.argTypes.toList
 |_=>Â
def Ex(P:Ø)(a:Nat->Bool)(b c:â->Bool)(o:aI):Bool:=PQ P a b o||(PZ P c o.op&&o.op.operands.all (wW a))
def Hk(P:Ø)(c:â->Bool):Prop:=∀f,c f=È->∃a e,P.funcs[f]?=À a/\(a.name== "runtime.NumGoroutine")=Â/\a.body.isNone=È/\Extern.findNext a=ë/\Extern.find a=À e/\
 (∀(Y:fl) (v b:Ã),fh Y v b->fE P fh Y (e #[v]) (e #[b]))/\∀v,fB P<|e #[v]
theorem K1[Ap P]{g:Nat->Bool}{k x:â->Bool}(C:Hk P x)(h:Ex P g k x o=È):mP P (λj=>g j=È) (λf=>k f=È) o:=by
 rcases ũ.1 h with h|h
 .exact afG h
 .let⟨v,S⟩:=ß.1 h;have q:∀z∈o.op.operands,mD (λj=>g j=È) z:=by
   grind [Ŕ,KU,Ŏ]
  cases n:o.op with
  |makeInterface t y=>exact afH n q
  |panic y=>exact afK n q
  |binOp w t a b r=>
   rw[n]at v;let⟨T,m⟩:=ß.1 (show((w==aL||w==aX)&&PX P t)=È from v);have D:w=aL\/w=aX:=by grind
   unfold PX at m;split at m
   .rename_i e E;split at m
    .rename_i i F;exact agv n D E F (by simpa using m) q
    .cases m
   .cases m
  |convert s d y=>
   rw[n]at v;have m:PW P s d=È:=v;unfold PW at m;split at m
   .rename_i e u p;split at m
    .rename_i G;exact afU n u p G q
    .cases m
   .rename_i t u p;exact Xb n (Ç ⟨u,p⟩) q
   .rename_i t u p;exact Xb n (Î ⟨u,p⟩) q
   .cases m
  |call c=>
   rw[n]at v;let⟨H,I,B⟩:=c;have m:PY P x H I.toList B.toList=È:=v;unfold PY at m;split at m
   .exact afQ n q
   .obtain⟨y,rfl⟩:=KW m;exact af3 n q
   .let⟨u,p⟩:=ß.1 m;obtain⟨y,z,rfl⟩:=PO u;let⟨l⟩:=B;match l,p with
    |[t1,t2],p=>exact agl n p q
   .rename_i f;let⟨u,p⟩:=ß.1 m;obtain⟨y,rfl⟩:=KW p;let⟨V,e,J,K,L,M,N,O,Q⟩:=C f u;exact afV n J K L M N O Q q
   .cases m
  |_=>rw[n]at v;simp[PZ]at v
def nY(P:Ø)(a:Nat->Bool)(b d:â->Bool):aF->Bool
 |.ret|eX|ep _|eZ _|.goto _=>È
 |.seq x y=>nY P a b d x&&nY P a b d y
 |bJ c x y=>wW a c&&nY P a b d x&&nY P a b d y
 |eu _ c|eY c|ew c=>nY P a b d c
 |bZ _ c _=>c.all<|Ex P a b d
 |dD _=>È
 |_=>Â
def vq[Ap P]{g:Nat->Bool}{k x:â->Bool}(a:Hk P x):∀{c:aF},nY P g k x c=È->kL P (λj=>g j=È) (λf=>k f=È) c
 |.ret,_=> .vl
 |eX,_=> .sQ
 |ep l,_=> .wL l
 |eZ l,_=> .wP l
 |.goto l,_=> .wR l
 |.seq y z,h=>by let⟨f,i⟩:=ß.1 (show(nY P g k x y&&nY P g k x z)=È from h);exact .rK (vq a f) (vq a i)
 |bJ c y z,h=>by let⟨f,i⟩:=ß.1 (show(wW g c&&nY P g k x y&&nY P g k x z)=È from h);let⟨j,f⟩:=ß.1 f;exact .tT (KU j) (vq a f) (vq a i)
 |eu id c,h=> .rL id (vq a<|show nY P g k x c=È from h)
 |eY c,h=> .wM (vq a<|show nY P g k x c=È from h)
 |ew c,h=> .wO (vq a<|show nY P g k x c=È from h)
 |bZ id ops d,h=> .tU id d λo f=>by obtain⟨i,j,rfl⟩:=Ŕ.1 f;exact K1 a<|Ŏ.1 (show ops.all (Ex P g k x)=È from h) i j
 |.rangeFunc _ _ _ _,h=>by simp[nY]at h
 |dD w,_=> .nW w
end Go.Proofs.Y.Lift
namespace Go.Proofs.Y.fq
open Go Go.Conc Go.Proofs.Y.Lift
def qT(t:Ħ)(g:Nat)(l:dZ):Prop:=∀p a,Ġ t p=À a->a.loc=l->bN t g p
def pA(t:Ħ)(g:Nat)(l:dZ):Prop:=∀p a,Ġ t p=À a->a.loc=l->a.write=È->bN t g p
def qT.r{t:Ħ}{l:dZ}(h:qT t i l):pA t i l:=λp a b c _=>h p a b c
section
variable{t u:Ħ}{g:Nat}{l:dZ}
theorem mS{a:dU}(h:Ġ (t++u) i=À a):(i<t.size/\Ġ t i=À a)\/(t.size<=i/\∃x∈u,x.act.touch?=À a/\(t++u)[i]?=À x):=by
 let⟨x,c,d⟩:=dV h;rcases getElem?_append_cases c with⟨b,e⟩|⟨b,f⟩
 .exact Ç ⟨b,by rwa[touchAt_of e]⟩
 .grind
theorem qT.C(h:qT t g l)(j:∀c∈u,∀b,c.act.touch?=À b->b.loc=l->c.g=g):qT (t++u) g l:=by
 intro p a e f;rcases mS e with⟨_,d⟩|⟨_,c,d,k,i⟩
 .exact(h p a d f).app u
 .have:=bE i;grind
theorem pA.r(h:pA t g l)(k:∀c∈u,∀b,c.act.touch?=À b->b.loc=l->b.write=È->c.g=g):pA (t++u) g l:=by
 intro p a e f i;rcases mS e with⟨_,d⟩|⟨_,c,d,m,j⟩
 .exact(h p a d f i).app u
 .have:=bE j;grind
def qT.yr(h:∀p a,Ġ t p=À a->a.loc≠l):qT t g l:=λp a b c=>absurd c<|h p a b
theorem P0(h:∀c,¬eN c t)(l:∀d∈u,d.g=g)(m:∀d∈u,∀b,d.act.touch?=À b->(b.write=Â/\pA t g b.loc)\/qT t g b.loc\/(b.kind=Š/\∀p a,Ġ t p=À a->a.loc=b.loc->a.kind=.plain->bN t g p)):∀c,¬eN c (t++u):=by
 intro c;refine noRace_append (h c) l λi a f d n b o r=> ?_;let⟨j,v,e,w⟩:=r;rcases m d n b o with⟨s,k⟩|q|⟨s,k⟩
 .rcases e with e|e
  .exact k i a f j e
  .grind
 .exact q i a f j
 .grind
theorem AH(f:∀c,¬eN c t)(r:∀d∈u,d.act.touch?=ë):∀c,¬eN c (t++u):=by
 intro c;rintro⟨i,j,g,⟨a,b,h,k,l⟩,m,n⟩;rcases mS k with⟨s,e⟩|⟨_,d,e,v,_⟩
 .rcases mS h with⟨o,p⟩|⟨o,_⟩
  .exact f c ⟨i,j,g,⟨a,b,p,e,l⟩,λq=>m<|eA u q,λq=>n<|eA u q⟩
  .omega
 .grind
end
structure e9 where
 O:Nat->Prop
 I:Nat->Prop
 r:Û->Prop
 N:Û->Prop
 K:Û->Prop
 d:Nat
 q:Prop
 w:Æ
def e9.M(l:e9):Nat->Prop:=λj=>l.O j\/l.I j
def e9.C(l:e9):Û->Prop:=λa=>l.r a\/l.N a
structure fF(l:e9)(w w₁:Æ):Prop where
 r:w.heap.size<=w₁.heap.size
 I:∀j,l.M j->w₁.heap[j]?=w.heap[j]?
 N:∀a,l.C a->w₁.cell? a=w.cell? a
 Y:∀a,l.C a->w₁.frozen? a=w.frozen? a
 S:∀a,l.K a->(w.cell? a).isSome=È->(w₁.cell? a).isSome=È
theorem fF.fU(l:e9)(w:Æ):fF l w w:=⟨á _,λ_ _=>rfl,λ_ _=>rfl,λ_ _=>rfl,λ_ _ h=>h⟩
def fF.fe{l:e9}{c:Æ}(h:fF l w u)(k:fF l u c):fF l w c:= ⟨û h.r k.r,λj d=>(k.I j d).trans<|h.I j d,λj d=>(k.N j d).trans<|h.N j d,λj d=>(k.Y j d).trans<|h.Y j d,λw e q=>k.S w e<|h.S w e q⟩
def kV(w:Æ)(b:Nat):Option (Nat×Nat):=match w.heap[b]? with
 |some (đ _ _ fr)=>À fr
 |_=>ë
def wY{w':Æ}(h:w'.heap[b]?=w.heap[b]?):kV w' b=kV w b:=by unfold kV;rw[h]
theorem Xt(w:Æ)(a:Û):w.frozen? a=match kV w a.block with
 |some (lo,hi)=>decide (lo<=a.off)&&decide (a.off<hi)
 |none=>Â:=by
 unfold č kV;grind
def K2(h:kV u a.block=kV w a.block):u.frozen? a=w.frozen? a:=by rw[Xt,Xt,h]
def yE(l:e9)(e:Ă):Prop:=
 (∃a:Û,e.loc=Ā a/\(l.O a.block\/l.r a\/((l.I a.block\/l.N a)/\e.write=Â/\e.sync=Â)))\/e.loc=ž ε\/(∃f,e.loc=ž (.extern f))\/e.loc=ž cW\/e.loc=ž dH\/
 ∃a:Û,l.O a.block/\(e.loc=ž (.read a)\/e.loc=ž (.write a)\/e.loc=ž (Ŀ a)\/e.loc=ž (cX a))
structure mE(l l':e9)(w w':Æ)(es:Array Ă):Prop where
 C:w.heap.size<=w'.heap.size
 N:∀j,l'.O j->l.O j\/w.heap.size<=j
 fv:∀j,l'.O j->j<w'.heap.size
 rd:l'.I=l.I
 r:l'.r=l.r
 I:l'.N=l.N
 k:l'.K=l.K
 jT:∀j,j<w.heap.size->¬l.O j->(∀a:Û,a.block=j->¬l.r a)->w'.heap[j]?=w.heap[j]?
 M:∀a:Û,a.block<w.heap.size->¬l.O a.block->¬l.r a->w'.cell? a=w.cell? a
 S:∀a:Û,a.block<w.heap.size->¬l.O a.block->kV w' a.block=kV w a.block
 c:w'.os=w.os
 f:w'.output=w.output
 i:w'.tape=w.tape
 b:∀e∈es,yE l' e
 g:l'.d=ż l.d es
 q:l'.q=l.q
 h:l.q->w'=w/\(∀e∈es,e.mute=È)/\l'.O=l.O
 Y:l'.w=w'
structure P1(t:Ħ)(g:Nat)(l:e9):Prop where
 fj:∀a:Û,l.O a.block->qT t g (Ā a)
 rd:∀a:Û,l.I a.block->pA t g (Ā a)
 C:∀a:Û,l.r a->qT t g (Ā a)
 r:∀a:Û,l.N a->pA t g (Ā a)
theorem Xu{l:e9}{e:Ă}(h:yE l e){b:dU}(c:(ê e).touch?=À b):∃a:Û,b.loc=Ā a/\(l.O a.block\/l.r a\/((l.I a.block\/l.N a)/\b.write=Â)):=by
 let⟨k,i,j⟩:=e;rcases h with⟨a,g,d⟩|h|⟨f,h⟩|h|h|⟨a,g,d⟩
 .simp only at g d;subst g;have:(ê ⟨Ā a,i,j⟩).touch?=À ⟨Ā a,i,if j then Š else .plain⟩:=U;grind
 .simp only at h;subst h;simp[ê,Ą]at c
 .simp only at h;subst h;simp[ê,Ą]at c
 .simp only at h;subst h;simp[ê,Ą]at c
 .simp only at h;subst h;simp[ê,Ą]at c
 .simp only at d;rcases d with rfl|rfl|rfl|rfl<;>simp[ê,Ą]at c<;>subst c;all_goals grind
def agw{l:e9}(d:∀j,l.O j->j<i)(k:∀j,l.I j->j<i)(g:∀a:Û,l.C a->a.block<i){e:Ă}(h:yE l e):(ê e).low i:=by
 let⟨m,n,o⟩:=e;rcases h with⟨a,c,b⟩|h|⟨f,h⟩|h|h|⟨a,c,b⟩
 .simp only at c b;subst c;rcases b with h|h|⟨h|h,_⟩
  .exact d _ h
  .exact g _<|Ç h
  .exact k _ h
  .exact g _<|Î h
 .simp only at h;subst h;trivial
 .simp only at h;subst h;trivial
 .simp only at h;subst h;trivial
 .simp only at h;subst h;trivial
 .simp only at b;rcases b with rfl|rfl|rfl|rfl<;>exact d _ c
def Xv(B:Nat)(t:Ħ):Prop:=∀a∈t,a.act.low B
def Xw(h:Xv i qJ){a:dU}(g:Ġ qJ n=À a){x:Û}(d:a.loc=Ā x):x.block<i:=by
 let⟨f,j,b⟩:=dV g;have c:=h f<|Ý j;revert b c;cases f.act with
 |access e=>
  intro b c;simp only[Ą,Ν]at b;subst b;simp only at d;simp only[MemAct.low,d,Loc.low]at c;exact c
 |mark m=>
  intro b c;cases m<;>simp[Ą]at b;all_goals
   subst b;simp only[Loc.cell.injEq]at d;subst d;exact c
 |_=>intro b _;simp[Ą]at b
theorem ov{a:String}:∀op∈Í i F a V,op.g=i:=λop b=>by obtain⟨e,_,rfl⟩:=ï (op:=op) b;rfl
structure iQ(B0:Nat)(Live:Nat->Prop)(Y:Nat->Prop)(lot:Nat->e9)(w:Æ)(t:Ħ):Prop where
 o:∀i j,Live i->Live j->i≠j->∀b,(lot i).O b->¬(lot j).M b
 h:∀i j,Live i->Live j->i≠j->∀a,(lot i).r a->¬(lot j).C a
 m:∀i,Live i->∀b,(lot i).O b->¬(lot i).I b
 g:∀i,Live i->∀a,(lot i).r a->¬(lot i).N a
 I:∀i,Live i->∀b,(lot i).M b->¬Y b
 e:∀i,Live i->∀a,(lot i).C a->Y a.block
 fv:∀i,Live i->∀b,(lot i).M b->b<w.heap.size
 N:∀b,Y b->b<w.heap.size
 r:∀i,Live i->fF (lot i) (lot i).w w
 S:∀i,Live i->P1 t i (lot i)
 f:∀i,Live i->π t i=(lot i).d
 l:∀said,¬eN said t
 q:Xv w.heap.size t
 s:∀p a c,Ġ t p=À a->a.loc=.obj c->a.kind=.plain->c<B0
 n:∀i,Live i->∀a,(lot i).K a->Y a.block/\∀k,Live k->¬(lot k).r a
def gp(lot:Nat->e9)(i:Nat)(l:e9):Nat->e9:=λk=>if k=i then l else lot k
theorem gU(a:Nat->e9)(i:Nat)(l:e9):gp a i l i=l:=if_pos U
theorem gF(a:Nat->e9)(l:e9)(h:k≠i):gp a i l k=a k:=if_neg h
section
variable{B0:Nat}{Live Y:Nat->Prop}{lot:Nat->e9}{w':Æ}{t u:Ħ}
def P3{g:Nat}(a:k≠g)(t:Ħ){u:Ħ}(b:∀c∈u,c.g=g):π (t++u) k=π t k:= Deaf_other t (g:=k) (g':=g) (Ċ a) _ b
def iQ.at(h:iQ B0 Live Y lot w t)(d:Nat):iQ B0 Live Y lot (w.at d) t:= ⟨h.o,h.h,h.m,h.g,h.I,h.e,h.fv,h.N,λi a=>⟨(h.r i a).r,(h.r i a).I,(h.r i a).N,(h.r i a).Y,(h.r i a).S⟩,h.S,h.f,h.l,h.q,h.s,h.n⟩
def iQ.agx(h:iQ B0 Live Y lot w t)(r:Live i){s:e9}(l:mE (lot i) s w w' V)(E:â)(F:String): iQ B0 Live Y (gp lot i s) w' (t++Í i E F V):=by
 have G:=l.N;have Q:∀b,s.M b->(lot i).M b\/w.heap.size<=b:=λb g=>g.elim (λq=>(G b q).imp Ç id) (λq=>Ç<|Î<|by rwa[<-l.rd]);have J:∀a,s.C a↔(lot i).C a:=λa=>by unfold e9.C;rw[l.r,l.I]
 have I:=λk f a d=>h.N _<|h.e k f a d;have L:∀k,Live k->k≠i->∀b,(lot k).M b->¬s.O b:=by
  intro k f y b g c;rcases G b c with q|q
  .exact h.o i k r f (Ċ y) b q g
  .have:=h.fv k f b g;omega
 have H:∀m∈Í i E F V,∀b,m.act.touch?=À b->∃a:Û,b.loc=Ā a/\(s.O a.block\/s.r a\/((s.I a.block\/s.N a)/\b.write=Â)):=by intro m o b g;obtain⟨e,N,rfl⟩:=ï o;exact Xu (l.b e N) g
 have T:∀a:Û,s.O a.block->qT t i (Ā a):=by
  intro a d;rcases G _ d with q|q
  .exact(h.S i r).fj a q
  .exact .yr λp x P n=>by have:=Xw h.q P n;omega
 have D:P1 t i s:=⟨T,λa d=>(h.S i r).rd a (by rwa[<-l.rd]),λa d=>(h.S i r).C a (by rwa[<-l.r]),λa d=>(h.S i r).r a<|by rwa[<-l.I]⟩;refine⟨?_,?_,?_,?_,?_,?_,?_,λb g=>Ô (h.N b g) l.C,?_,?_,?_,?_,?_,?_,?_⟩
 .intro k j f u y b g;by_cases c:k=i
  .subst c;rw[gU]at g;rw[gF lot _<|Ċ y];exact λq=>L j u (Ċ y) b q g
  .rw[gF lot _ c]at g;by_cases v:j=i
   .subst v;rw[gU];intro q;rcases Q b q with z|z
    .exact h.o k j f u y b g z
    .have:=h.fv k f b<|Ç g;omega
   .rw[gF lot _ v];exact h.o k j f u y b g
 .intro k j f u y a d;by_cases c:k=i
  .subst c;rw[gU,l.r]at d;rw[gF lot _<|Ċ y];exact h.h k j f u y a d
  .rw[gF lot _ c]at d;by_cases v:j=i
   .subst v;rw[gU,J];exact h.h k j f u y a d
   .rw[gF lot _ v];exact h.h k j f u y a d
 .intro k f b g;by_cases c:k=i
  .subst c;rw[gU]at g|-;rw[l.rd];rcases G b g with z|z
   .exact h.m k f b z
   .intro q;have:=h.fv k f b<|Î q;omega
  .rw[gF lot _ c]at g|-;exact h.m k f b g
 .intro k f a d;by_cases c:k=i
  .subst c;rw[gU]at d|-;rw[l.I];rw[l.r]at d;exact h.g k f a d
  .rw[gF lot _ c]at d|-;exact h.g k f a d
 .intro k f b g;by_cases c:k=i
  .subst c;rw[gU]at g;rcases Q b g with z|z
   .exact h.I k f b z
   .intro y;have:=h.N b y;omega
  .rw[gF lot _ c]at g;exact h.I k f b g
 .intro k f a d;by_cases c:k=i
  .subst c;rw[gU,J]at d;exact h.e k f a d
  .rw[gF lot _ c]at d;exact h.e k f a d
 .intro k f b g;by_cases c:k=i
  .subst c;rw[gU]at g;exact g.elim (l.fv b) λq=>Ô (h.fv k f b<|Î<|by rwa[<-l.rd]) l.C
  .rw[gF lot _ c]at g;exact Ô (h.fv k f b g) l.C
 .intro k f;by_cases c:k=i
  .subst c;rw[gU,l.Y];exact fF.fU _ _
  .rw[gF lot _ c];refine(h.r k f).fe ⟨l.C,λb g=>l.jT b (h.fv k f b g) (λq=>h.o i k r f (Ċ c) b q g) (λa d q=>h.I k f b g<|by rw[<-d];exact h.e i r a<|Ç q),λa d=>l.M a (I k f a d) (λq=>h.I i r _ (Ç q)<|h.e k f a d) λq=>h.h i k r f (Ċ c) a q d,λa d=>K2 (l.S a (I k f a d) λq=>h.I i r _ (Ç q)<|h.e k f a d),λa d q=> ?_⟩;let⟨y,v⟩:=h.n k f a d;rwa[l.M a (h.N _ y) (λq=>h.I i r _ (Ç q) y)<|v i r]
 .intro k f;by_cases c:k=i
  .subst c;rw[gU];exact⟨λa d=>(D.fj a d).C λm o _ _ _=>ov m o,λa d=>(D.rd a d).r λm o _ _ _ _=>ov m o,λa d=>(D.C a d).C λm o _ _ _=>ov m o,λa d=>(D.r a d).r λm o _ _ _ _=>ov m o⟩
  .rw[gF lot _ c];have W:∀a:Û,(lot k).O a.block->∀m∈Í i E F V,∀b,m.act.touch?=À b->b.loc=Ā a->False:=by
    intro a d m o b g n;let⟨x,y,v⟩:=H m o b g;rw[y]at n;injection n with n;subst n;rcases v with q|q|⟨q|q,_⟩
    .exact L k f c _ (Ç d) q
    .exact h.I k f _ (Ç d)<|h.e i r x<|Ç<|by rwa[<-l.r]
    .exact h.o k i f r c _ d<|Î<|by rwa[<-l.rd]
    .exact h.I k f _ (Ç d)<|h.e i r x<|Î<|by rwa[<-l.I]
   have X:∀a:Û,(lot k).I a.block->∀m∈Í i E F V,∀b,m.act.touch?=À b->b.loc=Ā a->b.write=È->False:=by
    intro a d m o b g n B;let⟨x,y,v⟩:=H m o b g;rw[y]at n;injection n with n;subst n;rcases v with q|q|⟨_,q⟩
    .exact L k f c _ (Î d) q
    .exact h.I k f _ (Î d)<|h.e i r x<|Ç<|by rwa[<-l.r]
    .rw[q]at B;cases B
   have S:∀a:Û,(lot k).C a->∀m∈Í i E F V,∀b,m.act.touch?=À b->b.loc=Ā a->(s.I a.block\/s.N a)/\b.write=Â:=by
    intro a d m o b g n;let⟨x,y,v⟩:=H m o b g;rw[y]at n;injection n with n;subst n;rcases v with q|q|q
    .exfalso;rcases G _ q with z|z
     .exact h.I i r _ (Ç z)<|h.e k f x d
     .have:=I k f x d;omega
    .exact absurd d<|h.h i k r f (Ċ c) x<|by rwa[<-l.r]
    .exact q
   refine⟨λa d=>((h.S k f).fj a d).C λm o b g n=>(W a d m o b g n).elim,λa d=>((h.S k f).rd a d).r λm o b g n B=>(X a d m o b g n B).elim,λa d=>((h.S k f).C a d).C λm o b g n=> ?_,λa d=>((h.S k f).r a d).r λm o b g n B=> ?_⟩
   .exfalso;obtain⟨q|q,_⟩:=S a (Ç d) m o b g n
    .exact h.I i r _ (Î<|by rwa[<-l.rd])<|h.e k f a<|Ç d
    .exact h.h k i f r c a d<|Î<|by rwa[<-l.I]
   .have:=(S a (Î d) m o b g n).2;rw[this]at B;cases B
 .intro k f;by_cases c:k=i
  .subst c;rw[gU,l.g,Deaf_own,h.f k f]
  .rw[gF lot _ c,P3 c t ov];exact h.f k f
 .refine P0 h.l ov λm o b g=> ?_;let⟨a,y,v⟩:=H m o b g;rw[y];rcases v with q|q|⟨q,B⟩
  .exact Î<|Ç<|D.fj a q
  .exact Î<|Ç<|D.C a q
  .exact Ç ⟨B,q.elim (D.rd a)<|D.r a⟩
 .intro m o;rcases Ģ.1 o with q|q
  .exact MemAct.low_mono l.C<|h.q m q
  .obtain⟨e,N,rfl⟩:=ï q;refine agw l.fv (λj u=>Ô (h.fv i r j<|Î<|by rwa[<-l.rd]) l.C) (λa d=> ?_)<|l.b e N;rw[J]at d;exact Ô (I i r a d) l.C
 .intro p a c d n f;rcases mS d with⟨_,y⟩|⟨_,m,y,v,_⟩
  .exact h.s p a c y n f
  .let⟨x,P,_⟩:=H m y a v;rw[P]at n;cases n
 .intro k f a d;have y:∀j,(gp lot i s j).r=(lot j).r:=λj=>by
   by_cases e:j=i
   .subst e;rw[gU,l.r]
   .rw[gF lot _ e]
  have c:(gp lot i s k).K=(lot k).K:=by
   by_cases e:k=i
   .subst e;rw[gU,l.k]
   .rw[gF lot _ e]
  rw[c]at d;exact⟨(h.n k f a d).1,λj u=>by rw[y];exact(h.n k f a d).2 j u⟩
end
def Hl(Live Y:Nat->Prop)(d:Nat->e9)(b:dU):Prop:=(∃a:Û,b.loc=Ā a/\Y a.block/\∀k,Live k->¬(d k).C a)\/∃c,b.loc=.obj c/\Y c/\b.kind=Š
structure p8(Live Y:Nat->Prop)(lot:Nat->e9)(w w':Æ):Prop where
 r:w'.heap.size=w.heap.size
 jT:∀j,¬Y j->w'.heap[j]?=w.heap[j]?
 M:∀k,Live k->∀a,(lot k).C a->w'.cell? a=w.cell? a
 N:∀k,Live k->∀a,(lot k).C a->w'.frozen? a=w.frozen? a
 I:∀a,(w.cell? a).isSome=È->(w'.cell? a).isSome=È
theorem p8.fU(Live Y:Nat->Prop)(a:Nat->e9)(w:Æ):p8 Live Y a w w:=⟨U,λ_ _=>rfl,λ_ _ _ _=>rfl,λ_ _ _ _=>rfl,λ_ h=>h⟩
structure vr(w':Æ)(l l':e9):Prop where
 O:l'.O=l.O
 N:l'.I=l.I
 r:l'.r=l.r
 I:l'.N=l.N
 K:l'.K=l.K
 w:l'.w=l.w\/l'.w=w'
theorem vr.fU(w':Æ)(l:e9):vr w' l l:=⟨U,U,U,U,U,Ç U⟩
def vr.M{w':Æ}{l a:e9}(h:vr w' l a):a.M=l.M:=by unfold e9.M;rw[h.O,h.N]
def vr.C{w':Æ}{l a:e9}(h:vr w' l a):a.C=l.C:=by unfold e9.C;rw[h.r,h.I]
def fF.agy{l c:e9}(h:vr w l c)(r:fF l u W):fF c u W:= ⟨r.r,by rw[h.M];exact r.I,by rw[h.C];exact r.N,by rw[h.C];exact r.Y,by rw[h.K];exact r.S⟩
section
variable{Live Y:Nat->Prop}{lot o:Nat->e9}{w':Æ}{t u:Ħ}
def iQ.G(h:iQ n Live Y lot w t)(m:∀k,vr w' (lot k)<|o k)(s:p8 Live Y lot w w')(B:∀l∈u,∀b,l.act.touch?=À b->Hl Live Y lot b)(g:∀l∈u,l.act.low w.heap.size)(E:∀F,¬eN F (t++u))(G:∀k,Live k->π (t++u) k=(o k).d):iQ n Live Y o w' (t++u) where
 o i j hi v lr b q:=by rw[(m j).M];exact h.o i j hi v lr b<|by rwa[<-(m i).O]
 h i j hi v lr a f:=by rw[(m j).C];exact h.h i j hi v lr a<|by rwa[<-(m i).r]
 m i hi b q:=by rw[(m i).N];exact h.m i hi b<|by rwa[<-(m i).O]
 g i hi a f:=by rw[(m i).I];exact h.g i hi a<|by rwa[<-(m i).r]
 I i hi b q:=h.I i hi b (by rwa[<-(m i).M]);e i hi a f:=h.e i hi a (by rwa[<-(m i).C]);fv i hi b q:=by rw[s.r];exact h.fv i hi b<|by rwa[<-(m i).M]
 N b q:=by rw[s.r];exact h.N b q
 r i hi:=by
  rcases(m i).w with e|e
  .rw[e];refine((h.r i hi).fe ⟨dI s.r.symm,λj v=>s.jT j<|h.I i hi j v,λa f=>s.M i hi a f,λa f=>s.N i hi a f,λa _=>s.I a⟩).agy<|m i
  .rw[e];exact fF.fU _ _
 S i hi:=by
  have z:∀a:Û,(lot i).M a.block->∀l∈u,∀b,l.act.touch?=À b->b.loc=Ā a->False:=by
   intro a f l e b q g;rcases B l e b q with⟨x,r,y,_⟩|⟨c,r,_⟩
   .rw[r]at g;injection g with g;subst g;exact h.I i hi _ f y
   .rw[r]at g;cases g
  have D:∀a:Û,(lot i).C a->∀l∈u,∀b,l.act.touch?=À b->b.loc=Ā a->False:=by
   intro a f l e b q g;rcases B l e b q with⟨x,r,_,y⟩|⟨c,r,_⟩
   .rw[r]at g;injection g with g;subst g;exact y i hi f
   .rw[r]at g;cases g
  exact⟨λa f=>((h.S i hi).fj a<|by rwa[<-(m i).O]).C λl e b q g=>(z a (Ç<|by rwa[<-(m i).O]) l e b q g).elim,λa f=>((h.S i hi).rd a<|by rwa[<-(m i).N]).r λl e b q g _=>(z a (Î<|by rwa[<-(m i).N]) l e b q g).elim,λa f=>((h.S i hi).C a<|by rwa[<-(m i).r]).C λl e b q g=>(D a (Ç<|by rwa[<-(m i).r]) l e b q g).elim,λa f=>((h.S i hi).r a<|by rwa[<-(m i).I]).r λl e b q g _=>(D a (Î<|by rwa[<-(m i).I]) l e b q g).elim⟩
 f:=G;l:=E;q l e:=by rw[s.r];exact(Ģ.1 e).elim (h.q l)<|g l
 s p a c f g z:=by
  rcases mS f with⟨_,r⟩|⟨_,l,r,y,_⟩
  .exact h.s p a c r g z
  .rcases B l r a y with⟨x,D,_⟩|⟨x,_,_,D⟩
   .rw[D]at g;cases g
   .rw[D]at z;cases z
 n i hi a f:=by rw[(m i).K]at f;exact⟨(h.n i hi a f).1,λk z=>by rw[(m k).r];exact(h.n i hi a f).2 k z⟩
end
structure gu(l:e9):Prop where
 c:∀b,l.O b->¬l.I b
 Y:∀a,l.r a->¬l.N a
 N:∀a,l.C a->¬l.M a.block
 fv:∀b,l.M b->b<l.w.heap.size
 I:∀a,l.C a->a.block<l.w.heap.size
 S:∀a,l.K a->¬l.M a.block/\a.block<l.w.heap.size/\¬l.r a
def iQ.M{Live Y:Nat->Prop}{c:Nat->e9}(h:iQ n Live Y c w qJ)(b:Live i):gu {c i with w:=w} where
 c:=h.m i b;Y:=h.g i b;N a ha hb:=h.I i b _ hb<|h.e i b a ha;fv:=h.fv i b;I a ha:=h.N _<|h.e i b a ha;S a ha:=⟨λq=>h.I i b _ q (h.n i b a ha).1,h.N _ (h.n i b a ha).1,(h.n i b a ha).2 i b⟩
abbrev Jd:=e9->Ó->Prop
inductive fg(P:Ø)(main:Bool)(Stop:Jd):Jd
 |fy {l:e9} {g:Ó} (h:∀w₁,fF l l.w w₁->Stop {l with w:=w₁} g):fg P main Stop l g
 |jM {l:e9} {g:Ó} (G':Æ->Ó) (W':Æ->Æ) (E':Æ->Array Ă) (L':Æ->e9) (iH:g.status=Ð)
  (h:∀w₁,fF l l.w w₁->Ü P main g w₁=bj (G' w₁) (W' w₁) (E' w₁)) (hd:∀w₁,fF l l.w w₁->mE l (L' w₁) w₁ (W' w₁) (E' w₁))
  (ih:∀w₁,fF l l.w w₁->fg P main Stop (L' w₁) (G' w₁)):fg P main Stop l g
instance:Nonempty e9:=⟨⟨λ_=>False,λ_=>False,λ_=>False,λ_=>False,λ_=>False,0,False,default⟩⟩
instance:Nonempty (Goroutine×World×Array Event×e9):=⟨(default,default,#[],Classical.choice inferInstance)⟩
section
variable{main:Bool}{Stop m:Jd}
def fg.mk{l:e9}(i:g.status=Ð) (h:∀a,fF l l.w a->∃b c d e,Ü P main g a=bj b c d/\mE l e a c d/\fg P main Stop e b):fg P main Stop l g:=by
 let p:=λ(a:Æ) (x:Goroutine×World×Array Event×e9)=>Ü P main g a=bj x.1 x.2.1 x.2.2.1/\mE l x.2.2.2 a x.2.1 x.2.2.1/\fg P main Stop x.2.2.2 x.1
 have f:∀a,fF l l.w a->p a (Classical.epsilon<|p a):=λa r=>Classical.epsilon_spec (let⟨b,c,d,e,h⟩:=h a r;⟨(b,c,d,e),h⟩);exact .jM (λa=>(Classical.epsilon<|p a).1) (λa=>(Classical.epsilon<|p a).2.1) (λa=>(Classical.epsilon<|p a).2.2.1) (λa=>(Classical.epsilon<|p a).2.2.2) i (λa r=>(f a r).1) (λa r=>(f a r).2.1) λa r=>(f a r).2.2
def fg.j4{l:e9}{w₁:Æ}(h:fg P main Stop l g)(r:fF l l.w w₁):fg P main Stop {l with w:=w₁} g:=by
 have e:∀{a b:Æ},fF {l with w:=w₁} a b->fF l a b:=λq=>⟨q.r,q.I,q.N,q.Y,q.S⟩;cases h with
 |fy h=>exact .fy λc d=>h c<|r.fe<|e d
 |jM f i j m n h o p=>
  exact .jM f i j m n (λc d=>h c<|r.fe<|e d) (λc d=>let q:=o c<|r.fe<|e d;⟨q.C,q.N,q.fv,q.rd,q.r,q.I,q.k,q.jT,q.M,q.S,q.c,q.f,q.i,q.b,q.g,q.q,q.h,q.Y⟩) λc d=>p c<|r.fe<|e d
def fg.fN(a:∀l g,Stop l g->m l g){l:e9}(h:fg P main Stop l g):fg P main m l g:=by
 induction h with
 |fy h=>exact .fy λb r=>a _ _<|h b r
 |jM b r c d e h f _ i=>exact .jM b r c d e h f i
def fg.fe{l:e9}(h:fg P main (fg P main Stop) l g):fg P main Stop l g:=by
 induction h with
 |fy h=>exact h _<|fF.fU _ _
 |jM a b c d e h f _ i=>exact .jM a b c d e h f i
def fg.lD(a:∀l g,Stop l g->fg P main m l g){l:e9}(h:fg P main Stop l g):fg P main m l g:=(h.fN a).fe
end
inductive gq where
 |fy:gq
 |jM (k:Æ->gq):gq
def Xx(x:gq):gq->Prop
 |.fy=>False
 |.jM k=>∃w,x=k w
def Xy:WellFounded Xx:=⟨λa=>by
 induction a with
 |fy=>exact⟨_,λy h=>h.elim⟩
 |jM k b=>exact⟨_,λy ⟨w,h⟩=>h▸b w⟩⟩
def lh(P:Ø)(b:Bool)(c:Jd):gq->Jd
 |.fy,l,g=>∀a,fF l l.w a->c {l with w:=a} g
 |.jM k,l,g=>g.status=Ð/\∀a,fF l l.w a->∃d e f h,Ü P b g a=bj d e f/\mE l h a e f/\lh P b c (k a) h d
section
variable{main:Bool}{Stop:Jd}
theorem jl{l:e9}(h:fg P main Stop l g):∃tr,lh P main Stop tr l g:=by
 induction h with
 |fy h=>exact⟨.fy,h⟩
 |@jM l g G' W' E' L' iH h hd _ ih=>
  have b:∀a,∃tr,fF l l.w a->lh P main Stop tr (L' a) (G' a):=by
   intro a;by_cases r:fF l l.w a
   .grind
   .exact⟨.fy,λq=>absurd q r⟩
  refine⟨.jM λa=>Classical.choose<|b a,iH,λa r=>⟨G' a,W' a,E' a,L' a,h a r,hd a r,Classical.choose_spec (b a) r⟩⟩
end
theorem agz{l:e9}{b:Nat->Prop}(d:∀j,X j->l.O j)(f:∀j,b j->l.I j){e:Ă}(h:KP X b e):yE l e:=by
 rcases h with⟨a,c,g,i⟩|h|h
 .refine Ç ⟨a,c,?_⟩;grind
 .exact Î<|Ç h
 .exact Î<|Î<|Ç h
theorem agA{b:Nat->Prop}(h:∀e∈V,KP X b e)(d:Nat):ż d V=d:=by refine bF (λe c=> ?_) d;rcases h e c with⟨a,g,_⟩|h|⟨f,h⟩;all_goals grind
theorem gM{w':Æ}(h:w'.heap[a.block]?=w.heap[a.block]?):w'.cell? a=w.cell? a:=by unfold ħ;rw[h]
def wZ(h:u.heap[a.block]?=w.heap[a.block]?):u.frozen? a=w.frozen? a:=by unfold č;rw[h]
def agB{t:(Nat->Prop)->Ó->Æ->Prop}{O:Nat->Prop}(h:vn P yQ X t O g w):∀l:e9,l.w=w->(∀j,O j->l.O j)->(∀j,X j->l.I j)->(∀j,l.O j->j<w.heap.size)->¬l.q-> fg P yQ (λa b=>∃f,t f b a.w/\(∀j,O j->f j)/\(∀j,f j->a.O j)/\(∀j,l.O j->a.O j)/\(∀j,a.O j->l.O j\/f j)/\(∀j,a.O j->l.O j\/w.heap.size<=j)/\a.I=l.I/\a.r=l.r/\a.N=l.N/\a.d=l.d/\a.q=l.q/\a.K=l.K) l g:=by
 induction h with
 |@fy O g w h=>
  intro l e i m _ _;refine .fy λb r=>⟨O,h b ⟨by rw[<-e];exact r.r,λj c=>by rw[r.I j (c.elim (λq=>Ç<|i j q) λq=>Î<|m j q),e]⟩,λ_ q=>q,i,λ_ q=>q,λ_ q=>Ç q,λ_ q=>Ç q,U,U,U,U,U,U⟩
 |@jM O g w G' W' E' f iH h hd _ ih=>
  intro l e i m C u;refine .mk iH λb r=> ?_;have n:yz (λj=>O j\/X j) w b:=⟨by rw[<-e];exact r.r,λj c=>by rw[r.I j (c.elim (λq=>Ç<|i j q) λq=>Î<|m j q),e]⟩;have D:=hd b n;have o:=n.r;have v:∀j,(l.O j\/f b j)->j<(W' b).heap.size:=λj c=>c.elim (λq=>Ô (C j q)<|û o D.r)<|D.fv j;have p:∀j,j<b.heap.size->¬l.O j->(W' b).heap[j]?=b.heap[j]?:=λj c k=>D.jT j c λq=>k<|i j q;refine⟨G' b,W' b,E' b,{l with O:=λj=>l.O j\/f b j,w:=W' b},h b n,⟨D.r,λj c=>c.elim Ç λq=>(D.I j q).imp (i j) id,v,U,U,U,U,λj c k _=>p j c k,λa s k _=>gM<|p _ s k,λa s k=>wY<|p _ s k,D.N,D.S,D.Y,λx E=>agz (l:={l with O:=λj=>l.O j\/f b j,w:=W' b}) (λj q=>Î q) m<|D.C x E,(agA D.C _).symm,U,λq=>absurd q u,U⟩,?_⟩;have:=ih b n {l with O:=λj=>l.O j\/f b j,w:=W' b} U (λj q=>Î q) m v u;apply this.fN;rintro N Q ⟨F,G,B,H,I,J,L,M⟩;refine⟨F,G,λj q=>B j<|D.M j q,H,λj q=>I j<|Ç q,λj q=> ?_,λj q=> ?_,M⟩
  .rcases J j q with(z|z)|z
   .exact Ç z
   .exact Î<|B j z
   .exact Î z
  .rcases L j q with(z|z)|z
   .exact Ç z
   .rcases D.I j z with y|y
    .exact Ç<|i j y
    .exact Î<|û o y
   .exact Î<|û (û o D.r) z
def kA(a:Û):Ă:=⟨Ā a,Â,È⟩
def mU(a:Û):Ă:=⟨Ā a,È,È⟩
def jy(m:Mark):Ă:=⟨ž m,Â,È⟩
def fX:Int:=4294967296
def Ey(c:Nat):Array Ă:=#[⟨.obj c,Â,È⟩,⟨.obj c,È,È⟩]
section
variable(P:Ø)(main:Bool)
def Hm(m:Mark)(N:Jd):Jd:=λl g=>g.status=Ð/\∃a,(∀b,Ü P main g b=bj a b #[jy m])/\fg P main N l a
def Xz(a:Û)(N:Int->Jd):Jd:=λl g=>g.status=Ð/\∀v,∃c,(∀b:Æ,b.cell? a=À (ċ è v)->Ü P main g b=bj c b #[kA a])/\fg P main (N v) l c
def P4(a:Û)(d:Int)(N:Int->Jd):Jd:=λl g=>g.status=Ð/\∀v,∃c,(∀b:Æ,b.cell? a=À (ċ è v)->b.frozen? a=Â->Ü P main g b=bj c (b.setCell a<|ċ è<|è.wrap<|v+d) #[kA a,mU a])/\N (è.wrap<|v+d) l c
def agC(a:Û)(v:Int)(N:Jd):Jd:=λl g=>g.status=Ð/\∃c,(∀(b:Æ) (x:Int),b.cell? a=À (ċ è x)->b.frozen? a=Â->Ü P main g b=bj c (b.setCell a<|ċ è v) #[mU a])/\fg P main N l c
def agD(a:Û)(N:Jd):Jd:=λl g=>g.status=Ð/\g.offers=ë/\(∀b:Æ,b.cell? a=À (ċ ţ 0)->Ü P main g b=bj {g with status:=Ž} b #[])/\
 ∃c,(∀(b:Æ) (n:Int),n≠0->b.cell? a=À (ċ ţ n)->b.frozen? a=Â->Ü P main g b=bj c (b.setCell a<|ċ ţ<|n-1) (semEvents a))/\fg P main N l c
def agE(a:Û)(N:Jd):Jd:=λl g=>g.status=Ð/\mayWake P g=È/\∃c,c.status=Ð/\(∀(b:Æ) (n:Int),b.cell? a=À (ċ ţ n)->b.frozen? a=Â->Ü P main g b=bj c (b.setCell a<|ċ ţ<|ţ.wrap<|n+1) (semEvents a))/\N l c
def w7(c:Nat)(z:Ã)(N:Option Ã->Jd):Jd:=λl g=>g.status=Ð/\g.offers=ë/\(∀x,Ü P main g x=.comm g #[ψ c z] È (.recv È) x #[])/\
 ∀x:Option Ã,fg P main (N x) l {g with frame:=g.frame.finish (Ξ #[x.getD z,Ň x.isSome])}
def AJ(c:Nat)(v:Ã)(N:Jd):Jd:=λl g=>g.status=Ð/\g.offers=ë/\(∀a,∃b,Ü P main g a=.comm g #[scase c v b] È .send a #[])/\fg P main N l {g with frame:=g.frame.finish ň}
def K3(c:Nat)(N:Jd):Jd:=λl g=>g.status=Ð/\mayWake P g=È/\∃a,a.status=Ð/\(∀(b:Æ) cap buf s r tm,b.heap[c]?=À (ay cap buf Â s r tm)->Ü P main g b=bj a (b.setChan c cap buf È s r tm) (Ey c))/\fg P main N l a
def pB(n:Nat):Jd:=λl g=>QuitsD P n l.d g
inductive SP where
 |fY (n:Nat)
 |ld (v:Int) (m:Nat)
def Ez(a:Û)(B:Nat)(d e:Int->Jd)(p:SP):Jd:=λl g=>∃T:SP->Ó->Prop,T p g/\∀p g,T p g->g.status=Ð/\match p with
 |.fY (n+1)=>n+1<=B/\(T (.fY 0) g\/∀b,∃c,Ü P main g b=bj c b #[]/\T (.fY n) c)
 |.fY 0=>∀v,∃c,(∀b:Æ,b.cell? a=À (ċ è v)->Ü P main g b=bj c b #[kA a])/\(if 0<=v/\v<fX then v<1000000->fg P main (d v) l c else(fX<=v/\v<fX*2147483648/\v%fX<1000000)->∃m,m<=B/\T (.ld v m) c)
 |.ld v (m+1)=>fX<=v/\m+1<=B/\(T (.ld v 0) g\/∀b,∃c,Ü P main g b=bj c b #[]/\T (.ld v m) c)
 |.ld v 0=>fX<=v/\(∃c,(∀b:Æ,b.cell? a=À (ċ è v)->b.frozen? a=Â->Ü P main g b=bj c (b.setCell a<|ċ è<|è.wrap<|v+1) #[kA a,mU a])/\fg P main (e v) l c)/\
  ∃c,(∀(b:Æ) (x:Int),x≠v->b.cell? a=À (ċ è x)->b.frozen? a=Â->Ü P main g b=bj c b #[kA a])/\∃n,n<=B/\T (.fY n) c
end
section
variable{P:Ø}{main:Bool}
def K4{e f:Int->Jd}{p:SP}{l:e9}{w₁:Æ}(h:Ez P main a i e f p l g)(r:fF l l.w w₁):Ez P main a i e f p {l with w:=w₁} g:=by
 let⟨T,o,h⟩:=h;refine⟨T,o,λp g j=>⟨(h p g j).1,?_⟩⟩;have:=(h p g j).2;match p,this with
 |.fY (n+1),q=>exact q
 |.fY 0,q=>
  intro v;let⟨c,d,b⟩:=q v;refine⟨c,d,?_⟩;by_cases k:0<=v/\v<fX
  .rw[if_pos k]at b|-;exact λq=>(b q).j4 r
  .rw[if_neg k]at b|-;exact b
 |.ld v (m+1),q=>exact q
 |.ld v 0,⟨q0,⟨c,d,b⟩,q⟩=>exact⟨q0,⟨c,d,b.j4 r⟩,q⟩
end
inductive iz where
 |no|iA|sW (c:Nat) (z:Ã)
inductive xa(g0:Ó):iz->Ó->Prop
 |gi {k:iz}:xa g0 k g0
 |nZ (h:g0.status=Ð) (ho:g0.offers=ë):xa g0 .iA {g0 with status:=Ž}
 |tW (c:Nat) (z:Ã) (h:g0.status=Ð):xa g0 (.sW c z) (Τ g0 #[ψ c z]<|.recv È)
 |nz (c:Nat) (z:Ã) (h:g0.status=Ð):xa g0 (.sW c z) {Τ g0 #[ψ c z] (.recv È)with status:=Ð}
section
variable{P:Ø}
theorem agF(h:g.status=Ð\/g.status=ĥ)(w:Æ):g.again w=g:=by unfold ω;grind
theorem P5{a o:Ó}(h:o.status=Ð\/o.status=ĥ):Ű P g a w o=o:=by unfold Ű;grind [agF]
def xa.Hn{g0 a b:Ó}{k:iz}(h:xa g0 k g)(d:g0.status=Ð\/g0.status=ĥ):xa g0 k (Ű P a b w g):=by
 cases h with
 |gi=>rw[P5 d];exact .gi
 |nZ h c=>
  unfold Ű;split
  .have:ω w {g0 with status:=Ž}=g0:=by
    let⟨z,e,st,f,i⟩:=g0;simp only at h c;subst h c;rfl
   rw[this];exact .gi
  .exact .nZ h c
 |tW c z h=>
  unfold Ű;split
  .unfold ω Τ;simp only[];split
   .exact .nz c z h
   .exact .tW c z h
  .exact .tW c z h
 |nz c z h=>
  rw[P5<|Ç U];exact .nz c z h
end
structure gN(P:Ø)(B0:Nat)(Y:Nat->Prop)(S:Nat->Jd)(tr:Nat->gq)(kp:Nat->iz)(lot:Nat->e9)(gs:Array Ó)(w:Æ)(t:Ħ):Prop where
 r:iQ B0 (λi=>i<gs.size) Y lot w t
 C:∀i g,gs[i]?=À g->∃g0,lh P (i==0) (S i) (tr i) (lot i) g0/\xa g0 (kp i) g/\(g0.status=Ð\/g0.status=ĥ)/\(g=g0\/tr i=.fy)
 I:∀j,gs.size<=j->π t j=0
def fw{α:Type}(f:Nat->α)(i:Nat)(x:α):Nat->α:=λk=>if k=i then x else f k
theorem gC{α:Type}(f:Nat->α)(i:Nat)(x:α):fw f i x i=x:=if_pos U
theorem fG{α:Type}(f:Nat->α)(x:α)(h:k≠i):fw f i x k=f k:=if_neg h
section
variable{P:Ø}{B0:Nat}{Y:Nat->Prop}{S:Nat->Jd}{tr:Nat->gq}{kp:Nat->iz}{lot:Nat->e9}{gs:Array Ó}{w':Æ}{t:Ħ}{sl:Option (Nat×Nat)}
theorem P7{a:Ó}(b:gs[i]?=À g)(h:Ü P (i==0) g w=bj a w' V): ∃gs',dm P (ŀ gs w sl) i=(œ<|ŀ gs' w' sl,Í i g.frame.fn g.frame.place V)/\gs'.size=gs.size/\gs'[i]?=À a/\∀k,k≠i->gs'[k]?=gs[k]?.map (Ű P g a w'):=by refine⟨_,runT_crowd_go b h,fi,by simp[(Ë.1 b).1],λk c=> ?_⟩;grind
def gN.at(a:gN P B0 Y S tr kp lot gs w t)(d:Nat):gN P B0 Y S tr kp lot gs (w.at d) t:=⟨a.r.at d,a.C,a.I⟩
theorem gN.XA(f:gN P B0 Y S tr kp lot gs w t){a:Ó}{J:Jd}{T:gq}{K:iz}{d:e9}(h:gs[i]?=À g)(o:Ü P (i==0) g w=bj a w' V) (B:iQ B0 (λi=>i<gs.size) Y (gp lot i d) w' (t++Í i g.frame.fn g.frame.place V)) (hF:lh P (i==0) J T d a) (p:a.status=Ð\/a.status=ĥ): ∃b,dm P (ŀ gs w sl) i=(œ<|ŀ b w' sl,Í i g.frame.fn g.frame.place V)/\b.size=gs.size/\b[i]?=À a/\(∀k,k≠i->b[k]?=gs[k]?.map (Ű P g a w'))/\ gN P B0 Y (fw S i J) (fw tr i T) (fw kp i K) (gp lot i d) b w' (t++Í i g.frame.fn g.frame.place V):=by
 obtain⟨b,q,r,l,m⟩:=P7 h o;have C:=(Ë.1 h).1;refine⟨b,q,r,l,m,?_,λk x c=> ?_,λj D=> ?_⟩
 .grind
 .by_cases e:k=i
  .subst e;rw[l]at c;obtain rfl:=ī c;rw[gC,gC,gC,gU];exact⟨a,hF,.gi,p,Ç U⟩
  .rw[m k e]at c;obtain⟨y,s,rfl⟩:=Ī.1 c;rw[fG S _ e,fG tr _ e,fG kp _ e,gF lot _ e];let⟨g0,u,v,n,z⟩:=f.C k y s;refine⟨g0,u,v.Hn n,n,z.imp (λe=> ?_) id⟩;grind [P5]
 .rw[P3 Z t ov];exact f.I j Z
theorem agG{J:Jd}{k:Æ->gq}{l:e9}(h:lh P yQ J (.jM k) l g):g.status=Ð:=h.1
def gN.fj(f:gN P B0 Y S tr kp lot gs w t){k:Æ->gq}(m:gs[i]?=À g)(n:tr i=.jM k)(s:∀l g,S i l g->g.status=Ð\/g.status=ĥ): ∃c w' d h,dm P (ŀ gs w sl) i=(œ<|ŀ c w' sl,Í i g.frame.fn g.frame.place d)/\c.size=gs.size/\(∃b,c[i]?=À b/\(b.status=Ð\/b.status=ĥ))/\(∀k,k≠i->∃a j:Ó,c[k]?=gs[k]?.map (Ű P a j w'))/\mE (lot i) h w w' d/\ gN P B0 Y S (fw tr i<|k w) kp (gp lot i h) c w' (t++Í i g.frame.fn g.frame.place d):=by
 have o:=(Ë.1 m).1;let⟨g0,hF,F,_,u⟩:=f.C i g m;obtain rfl:g=g0:=u.resolve_right (by rw[n];simp);rw[n]at hF;let⟨G,hF⟩:=hF;let⟨b,w',d,h,v,p,e⟩:=hF w<|f.r.r i o;have q:b.status=Ð\/b.status=ĥ:=by
  cases j:k w with
  |fy=>rw[j]at e;exact s _ _<|e _<|fF.fU _ _
  |jM r=>rw[j]at e;exact Ç e.1
 obtain⟨c,x,y,z,B,r⟩:=f.XA m v (f.r.agx o p _ _) e q;refine⟨c,w',d,h,x,y,⟨b,z,q⟩,λj C=>⟨g,b,B j C⟩,p,?_⟩;have D:fw S i (S i)=S:=by funext j;unfold fw;split<;>simp[*]
 have E:fw kp i (kp i)=kp:=by funext j;unfold fw;split<;>simp[*]
 rwa[D,E]at r
theorem gN.qU(c:gN P B0 Y S tr kp lot gs w t){a:Ó}{J:Jd}{K:iz}{T:gq}(l:gs[i]?=À g)(m:Ü P (i==0) g w=bj a w' V)(n:p8 (λi=>i<gs.size) Y lot w w') (hF:lh P (i==0) J T {lot i with d:=ż (lot i).d V,w:=w'} a) (o:a.status=Ð\/a.status=ĥ) (p:∀e∈V,(∀b,(ê e).touch?=À b->Hl (λi=>i<gs.size) Y lot b)/\(ê e).low w.heap.size) (q:∀r,¬eN r (t++Í i g.frame.fn g.frame.place V)): ∃gs',dm P (ŀ gs w sl) i=(œ<|ŀ gs' w' sl,Í i g.frame.fn g.frame.place V)/\gs'.size=gs.size/\gs'[i]?=À a/\(∀k,k≠i->gs'[k]?=gs[k]?.map (Ű P g a w'))/\ gN P B0 Y (fw S i J) (fw tr i T) (fw kp i K) (gp lot i {lot i with d:=ż (lot i).d V,w:=w'}) gs' w' (t++Í i g.frame.fn g.frame.place V):=by
 refine c.XA l m (c.r.G (λk=> ?_) n (λh f b j=> ?_) (λh f=> ?_) q λk h=> ?_) hF o
 .by_cases e:k=i
  .subst e;rw[gU];exact⟨U,U,U,U,U,Î U⟩
  .grind [gF,vr.fU]
 .obtain⟨e,j,rfl⟩:=ï f;grind
 .obtain⟨e,j,rfl⟩:=ï f;exact(p e j).2
 .by_cases e:k=i
  .subst e;rw[gU,Deaf_own,c.r.f k h]
  .rw[gF lot _ e,P3 e t ov];exact c.r.f k h
def gN.P8(h:gN P B0 Y S tr kp lot gs w t)(p:gs[i]?=À g)(x:i≠0)(l:g.status=Ð)(q:kp i=.no)(y:tr i=.fy)(z:S i=pB P n): ∃c f b,n=b+1/\dm P (ŀ gs w sl) i=(œ<|ŀ c w sl,Í i g.frame.fn g.frame.place f)/\c.size=gs.size/\(∀k,k≠i->∃a e:Ó,c[k]?=gs[k]?.map (Ű P a e w))/\(∀e∈f,e.mute=È)/\ gN P B0 Y (fw S i<|pB P b) tr kp (gp lot i {lot i with d:=ż (lot i).d f,w:=w}) c w (t++Í i g.frame.fn g.frame.place f):=by
 let⟨g0,hF,r,L,_⟩:=h.C i g p;have B:g=g0:=by
  rw[q]at r;cases r with
  |gi=>rfl
 subst B;rw[y,z]at hF;have s:=hF w<|h.r.r i<|(Ë.1 p).1;cases n with
 |zero=>rw[s.1]at l;cases l
 |succ n=>
  rcases s with⟨C,_⟩|⟨_,D,f,a,E,u⟩
  .rw[C]at l;cases l
  have m:(i==0)=Â:=by simpa using x
  have F:fw kp i .no=kp:=by funext j;unfold fw;split<;>simp[*]
  have G:fw tr i .fy=tr:=by funext j;unfold fw;split<;>simp[*]
  obtain⟨c,H,I,_,K,v⟩:=h.qU (J:=pB P n) (T:=.fy) p (by rw[m];exact E w) (p8.fU _ _ _ _) (λ_ _=>u) u.status (λe o=>⟨λb m=>(by rw[eB<|a e o]at m;cases m),low_mute (a e o) _⟩) (AH h.r.l λM b=>by obtain⟨e,o,rfl⟩:=ï b;exact eB<|a e o);rw[F,G]at v;exact⟨c,f,n,U,H,I,λk q=>⟨g,D,K k q⟩,a,v⟩
end
def xb(u:Ħ):Prop:=∀a∈u,a.act.touch?=ë/\∀m,a.act≠Ť m
theorem agH(t:Ħ)(a:dp)(b:a.act≠Ť cW)(c:a.act≠Ť dH)(j:Nat):π (t.push a) j=π t j:=by
 have d:t.push a=t++#[a]:=fi
 unfold π;rw[d,show(t++#[a]).size=t.size+1 by simp];show(match(t++#[a])[t.size]? with
  |some {g:=h,act:=Ť cW, .. }=>if h=j then(t++#[a]).deaf j t.size+1 else(t++#[a]).deaf j t.size
  |some {g:=h,act:=Ť dH, .. }=>if h=j then(t++#[a]).deaf j t.size-1 else(t++#[a]).deaf j t.size
  |_=>(t++#[a]).deaf j t.size)=_
 have e:(t++#[a])[t.size]?=À a:=fi
 rw[e];let⟨g,f,i,k⟩:=a;simp only at b c;split
 .grind
 .grind
 .exact c8<|á _
def XB(t:Ħ):∀(u:List dp),(∀a∈u,a.act≠Ť cW/\a.act≠Ť dH)->∀j,π (t++u.toArray) j=π t j
 |[],_,j=>by simp
 |a::u,h,j=>by
  have e:t++(a::u).toArray=(t.push a)++u.toArray:=by apply Array.ext';simp
  rw[e,XB (t.push a) u (λx b=>h x<|by simp[b]) j];exact agH t a (h a fi).1 (h a fi).2 j
def K5{u:Ħ}(h:xb u)(j:Nat):π (qJ++u) j=π qJ j:=by have:=XB qJ u.toList (λa b=>⟨(h a<|by simpa using b).2 _,(h a<|by simpa using b).2 _⟩) j;simpa using this
section
variable{S:Nat->Jd}{C:Nat->gq}{B:Nat->iz}{lot:Nat->e9}{u:Ħ}{sl:Option (Nat×Nat)}
def iQ.agI{Live:Nat->Prop}(h:iQ i Live X lot w qJ)(f:p8 Live X lot w W)(c:xb u)(g:∀a∈u,a.act.low w.heap.size):iQ i Live X lot W (qJ++u):= h.G (λk=>vr.fU _ _) f (λa d b e=>by rw[(c a d).1]at e;cases e) g (AH h.l λa d=>(c a d).1) λk b=>by rw[K5 c];exact h.f k b
def K6{Live:Nat->Prop}{r:Nat}{x:Bool}(y:X i)(p:w.heap[i]?=À (ay n d yQ j r x))(f g h:Nat)(l:Array Ã)(m o:Bool):p8 Live X lot w (w.setChan i f l m g h o):=by
 have q:∀b,b≠i->(w.setChan i f l m g h o).heap[b]?=w.heap[b]?:=λb u=>by unfold aH;simp only;exact Ï<|Ċ u
 have v:(w.setChan i f l m g h o).heap[i]?=À (ay f l m g h o):=by unfold aH;simp[(Ë.1 p).1]
 refine⟨by unfold aH;simp,λb u=>q b λe=>u<|e▸y,λk _ a _=> ?_,λk _ a _=> ?_,λa t=> ?_⟩
 .by_cases e:a.block=i
  .unfold ħ;rw[e,v,p]
  .unfold ħ;rw[q _ e]
 .by_cases e:a.block=i
  .unfold č;rw[e,v,p]
  .unfold č;rw[q _ e]
 .by_cases e:a.block=i
  .unfold ħ at t;rw[e,p]at t;cases t
  .have:(w.setChan i f l m g h o).cell? a=w.cell? a:=by unfold ħ;rw[q _ e]
   rwa[this]
def gN.G(b:gN P i X S C B lot E w qJ){J:Jd}{T:gq}{K:iz}(d:n<E.size)(f:p8 (λn=>n<E.size) X lot w W)(c:xb u)(h:∀l∈u,l.act.low w.heap.size) (hF:lh P (n==0) J T (lot n) g) (m:g.status=Ð\/g.status=ĥ): gN P i X (fw S n J) (fw C n T) (fw B n K) lot (E.setIfInBounds n g) W (qJ++u):=by
 refine⟨?_,λk x a=> ?_,λj o=> ?_⟩
 .rw[show(λj=>j<(E.setIfInBounds n g).size)=(λj=>j<E.size) by simp];exact b.r.agI f c h
 .by_cases e:k=n
  .subst e;rw[Ò d]at a;obtain rfl:=ī a;rw[gC,gC,gC];exact⟨_,hF,.gi,m,Ç U⟩
  .rw[Ï<|Ċ e]at a;rw[fG S _ e,fG C _ e,fG B _ e];exact b.C k x a
 .rw[K5 c];exact b.I j<|by simpa using o
def P9{γ δ:Type}{f:γ->List δ}:∀{l:List γ},(∀x∈l,f x=[])->l.flatMap f=[]
 |[],_=>rfl
 |x::l,h=>by rw[bm,h x fi,P9 λy a=>h y (by simp[a])];rfl
def yF(r:Nat)(b:Bool)(g:Ó):Prop:=g.status=Ž/\∃a d,g.offers=À (a,d)/\∃c∈a,(c.send.isSome==b)=È/\(match c.chan with|eD (À r')=>r'==r|_=>Â)=È
theorem XC{r:Nat}{E:Array Ó}(h:∀(i:Nat) (g:Ó),E[i]?=À g->¬yF r yQ g):Ω E r yQ=[]:=by
 unfold Ω;refine P9 λx m=> ?_;let⟨g,i⟩:=x;have d:E[i]?=À g:=by grind
 simp only[];split
 .rename_i b e f j;rw[aE,ρ];intro y n a;let⟨c,k⟩:=y;have l:c∈b:=by
   grind
  simp only[ġ]at a;exact h i g d ⟨f,b,e,j,c,l,a.1,by have:=a.2;revert this;cases c.chan<;>first|exact id|(rename_i q;cases q<;>exact id)⟩
 .rfl
def XD{γ δ:Type}(f:γ×Nat->List δ):∀(L:List γ) (n h:Nat) (x:γ),(∀y k,k≠h->(y,k)∈L.zipIdx n->f (y,k)=[])->n<=h->L[h-n]?=À x->(L.zipIdx n).flatMap f=f (x,h)
 |[],n,h,x,_,_,hx=>by simp at hx
 |a::L,n,h,x,hf,hn,hx=>by
  rw[ĵ,bm];by_cases e:h=n
  .subst e;have:a=x:=by simpa using hx
   subst this;rw[P9 ?_,List.append_nil];intro y b;let⟨y,k⟩:=y;refine hf y k ?_ (by rw[ĵ];exact ô _ b);have:=List.le_snd_of_mem_zipIdx b;simp only at this;omega
  .rw[hf a n Z (by rw[ĵ];exact ð ..),List.nil_append];refine XD f L (n+1) h x (λy k c b=>hf y k c<|by rw[ĵ];exact ô _ b) Z ?_;have b:h-n=(h-(n+1))+1:=Z
   rw[b]at hx;simpa using hx
theorem agJ{E:Array Ó}(l:E[n]?=À g)(m:g.status=Ž)(o:g.offers=À (#[ψ i z],.recv È))(p:∀(a:Nat) (b:Ó),a≠n->E[a]?=À b->¬yF i Â b):Ω E i Â=[(n,0)]:=by
 unfold Ω;have e:E.zipIdx.toList=E.toList.zipIdx:=fi
 rw[e];rw[XD _ E.toList 0 n g (λy k r B=> ?_) (dJ _) (by simpa using l)]
 .simp[m,o,ψ]
 .have s:E[k]?=À y:=by
   grind
  simp only[];split
  .rename_i j t u v;rw[aE,ρ];intro x C d;let⟨f,D⟩:=x;have w:f∈j:=by
    grind
   simp only[ġ]at d;exact p k y r s ⟨u,j,t,v,f,w,d.1,by have:=d.2;revert this;cases f.chan<;>first|exact id|(rename_i q;cases q<;>exact id)⟩
  .rfl
theorem Qa(h:(E.setIfInBounds i ph)[k]?=À g):g.status=ĥ\/(k≠i/\E[k]?=À g):=by
 by_cases e:k=i
 .subst e;rw[Ŧ]at h;simp only[if_true]at h;split at h
  .left;obtain rfl:=ī h;rfl
  .cases h
 .grind
theorem gN.Qb(l:gN P i X S C B lot E w qJ)(c a:Nat):Ω (E.setIfInBounds a ph) c È=[]:=by
 refine XC λk x m=> ?_;rintro⟨d,p,r,b,n,f,o,_⟩;rcases Qa m with q|⟨_,q⟩
 .grind
 .let⟨g0,_,g,j,_⟩:=l.C k x q;generalize B k=K at g;cases g with
  |gi=>rw[d]at j;rcases j with e|e<;>cases e
  |nZ h e=>simp only[e]at b;cases b
  |tW e z h=>
   simp only[Τ,Ν,Prod.mk.injEq]at b;rw[<-b.1]at f;have:n=ψ e z:=by simpa using f
   subst this;cases o
  |nz e z h=>cases d
def gN.Qc(e:gN P i X S C B lot E w qJ){N:Option Ã->Jd}(f:E[n]?=À g)(k:g.status=Ð)(l:B n=.sW j z)(m:C n=.fy)(o:S n=w7 P (n==0) j z N): ∃a,lh P (n==0) (S n) (C n) (lot n) a/\a.status=Ð/\a.offers=ë/\Ü P (n==0) g w=.comm a #[ψ j z] È (.recv È) w #[]/\∀x:Option Ã,fg P (n==0) (N x) (lot n) {a with frame:=a.frame.finish (Ξ #[x.getD z,Ň x.isSome])}:=by
 let⟨a,hF,b,_,_⟩:=e.C n g f;have p:=hF;rw[o,m]at hF;let⟨x,q,d,r⟩:=hF _<|fF.fU _ _;rw[l]at b;refine⟨a,p,x,q,?_,r⟩;cases b with
 |gi=>exact d w
 |tW j z h=>cases k
 |nz j z h=>rw[stepG_tries];rw[show({a with status:=Ð}:Ó)=a by cases a;simp only at x;subst x;rfl];exact d w
def yH{g0:Ó}{a:Array CommCase}{b:CommShape}{ok:Bool}(c:g0.status=Ð)(d:g0.offers=ë):g0.finishComm P a b h v ok={g0 with frame:=g0.frame.finish (commResult a b h v ok)}:=by let⟨f,a,st,e,o⟩:=g0;simp only at c d;subst c d;rfl
def gN.nA(e:gN P i X S C B lot E w qJ){N:Option Ã->Jd}(h:E[n]?=À g)(G:g.status=Ð)(l:B n=.sW j z)(H:C n=.fy)(I:S n=w7 P (n==0) j z N)(p:X j){r:Nat}{o:Bool}(q:w.heap[j]?=À (ay b d yQ m r o))(t:d[0]?=À v)(K:iz): ∃a u T f,dm P (ŀ E w sl) n=(œ<|ŀ a (w.setChan j b (d.extract 1 d.size) yQ m (r+1) o) sl,u)/\a.size=E.size/\a[n]?=À f/\f.status=Ð/\(∀k,k≠n->a[k]?=E[k]?)/\xb u/\ gN P i X (fw S n<|N<|À v) (fw C n T) (fw B n K) lot a (w.setChan j b (d.extract 1 d.size) yQ m (r+1) o) (qJ++u):=by
 have x:=(Ë.1 h).1;let⟨g0,_,f,y,J,L⟩:=e.Qc h G l H I;have D:d.getD 0 ň=v:=by simp[İ,t]
 have M:=crowd_recv_buf (sl:=sl) h J q ((Ë.1 t).1)<|e.Qb j n;let⟨T,O⟩:=jl<|L<|À v;refine⟨_,_,T,{g0 with frame:=g0.frame.finish (Ξ #[v,Ň È])},M,fi,?_,f,λk l=>Ï<|Ċ l,?_,?_⟩
 .rw[yH f y,D,Ò x];rfl
 .intro F a;simp[Í]at a;rcases a with rfl|rfl<;>exact⟨U,fi⟩
 .rw[yH f y,D];refine e.G x (K6 p q _ _ _ _ _ _) ?_ ?_ O<|Ç f
  .intro F a;simp[Í]at a;rcases a with rfl|rfl<;>exact⟨U,fi⟩
  .intro F a;simp[Í]at a;rcases a with rfl|rfl<;>exact e.r.N j p
def gN.jf(e:gN P i X S C B lot E w qJ){N:Option Ã->Jd}(h:E[n]?=À g)(q:g.status=Ð)(l:B n=.sW j z)(t:C n=.fy)(v:S n=w7 P (n==0) j z N)(x:X j){r:Nat}(y:w.heap[j]?=À (ay b #[] È k r yQ))(K:iz): ∃d u T f,dm P (ŀ E w sl) n=(œ<|ŀ d w sl,u)/\d.size=E.size/\d[n]?=À f/\f.status=Ð/\(∀a,a≠n->d[a]?=E[a]?)/\xb u/\ gN P i X (fw S n<|N ë) (fw C n T) (fw B n K) lot d w (qJ++u):=by
 have m:=(Ë.1 h).1;let⟨g0,_,f,o,D,F⟩:=e.Qc h q l t v;let⟨T,G⟩:=jl<|F ë;refine⟨_,_,T,{g0 with frame:=g0.frame.finish (Ξ #[z,Ň Â])},crowd_recv_closed (sl:=sl) h D y<|e.Qb j n,fi,?_,f,λa l=>Ï<|Ċ l,?_,?_⟩
 .rw[yH f o,Ò m];rfl
 .intro p d;simp[Í]at d;subst d;exact⟨U,fi⟩
 .rw[yH f o];refine e.G m (p8.fU _ _ _ _) ?_ ?_ G<|Ç f
  .intro p d;simp[Í]at d;subst d;exact⟨U,fi⟩
  .intro p d;simp[Í]at d;subst d;exact e.r.N j x
def gN.agK(f:gN P i X S C B lot E w qJ){N:Option Ã->Jd}(m:E[n]?=À g)(u:g.status=Ð)(h:B n=.sW j z)(o:C n=.fy)(v:S n=w7 P (n==0) j z N){r:Nat}(p:w.heap[j]?=À (ay b #[] Â k r yQ)): ∃d e,dm P (ŀ E w sl) n=(œ<|ŀ d w sl,#[])/\d.size=E.size/\d[n]?=À e/\e.status=Ž/\(∀a,a≠n->d[a]?=E[a]?)/\gN P i X S C B lot d w qJ:=by
 have q:=(Ë.1 m).1;let⟨g0,hF,t,G,y,H⟩:=f.Qc m u h o v;have D:=crowd_waits (sl:=sl) m y (λd e=>by
  have:d=ψ j z:=by simpa using e
  subst this;exact⟨by simp[illMade,ψ,p],by simp[ways,ψ,p,f.Qb j n]⟩)
 refine⟨_,Τ g0 #[ψ j z]<|.recv È,?_,fi,Ò q,U,λa h=>Ï<|Ċ h,?_,λa x l=> ?_,λd F=>f.I d<|by simpa using F⟩
 .rw[D];rfl
 .rw[show(λd=>d<(E.setIfInBounds n<|Τ g0 #[ψ j z]<|.recv È).size)=(λd=>d<E.size) by simp];exact f.r
 .by_cases e:a=n
  .subst e;rw[Ò q]at l;obtain rfl:=ī l;refine⟨g0,hF,?_,Ç t,Î o⟩;rw[h];exact .tW j z t
  .rw[Ï<|Ċ e]at l;exact f.C a x l
def gN.iI(f:gN P i X S C B lot E w qJ){N:Jd}(h:E[n]?=À g)(l:B n=.no)(F:C n=.fy)(G:S n=AJ P (n==0) b v N)(p:X b){r:Nat}(t:w.heap[b]?=À (ay m d Â J r yQ))(H:d.size<m) (I:∀(k:Nat) (x:Ó),E[k]?=À x->¬yF b Â x): ∃e u T a,dm P (ŀ E w sl) n=(œ<|ŀ e (w.setChan b m (d.push v) Â (J+1) r yQ) sl,u)/\e.size=E.size/\e[n]?=À a/\a.status=Ð/\(∀k,k≠n->e[k]?=E[k]?)/\xb u/\ gN P i X (fw S n N) (fw C n T) B lot e (w.setChan b m (d.push v) Â (J+1) r yQ) (qJ++u):=by
 have y:=(Ë.1 h).1;let⟨g0,hF,z,_,_⟩:=f.C n g h;rw[l]at z;cases z with
 |gi=>
  rw[G,F]at hF;let⟨a,D,o,K⟩:=hF _<|fF.fU _ _;let⟨V,o⟩:=o w;have L:Ω (E.setIfInBounds n ph) b Â=[]:=XC λk x M=>by
   rcases Qa M with q|⟨_,q⟩
   .rintro⟨e,_⟩;rw[q]at e;cases e
   .exact I k x q
  let⟨T,O⟩:=jl K;have Q:fw B n .no=B:=by funext j;unfold fw;split<;>simp[*]
  refine⟨_,_,T,{g with frame:=g.frame.finish ň},crowd_send_room (sl:=sl) h o t H L,fi,?_,a,λk l=>Ï<|Ċ l,?_,?_⟩
  .rw[yH a D,Ò y];rfl
  .intro q e;simp[Í]at e;rcases e with rfl|rfl<;>exact⟨U,fi⟩
  .rw[yH a D,<-Q];refine f.G y (K6 p t _ _ _ _ _ _) ?_ ?_ O<|Ç a
   .intro q e;simp[Í]at e;rcases e with rfl|rfl<;>exact⟨U,fi⟩
   .intro q e;simp[Í]at e;rcases e with rfl|rfl<;>exact f.r.N b p
def gN.agL(o:gN P i X S C B lot E w qJ){p:Ó}{N:Jd}{D:Option Ã->Jd}(F:E[n]?=À g)(f:B n=.no)(ht:C n=.fy)(hs:S n=AJ P (n==0) b v N)(L:X b){r:Nat}(M:w.heap[b]?=À (ay J d Â j9 r yQ)) (G:j≠n) (t:E[j]?=À p) (O:p.status=Ž) (K7:B j=.sW b z) (Qd:C j=.fy) (K8:S j=w7 P (j==0) b z D) (K:iz) (hp:∀(k:Nat) (x:Ó),k≠j->E[k]?=À x->¬yF b Â x): ∃e u T y h q,dm P (ŀ E w sl) n=(œ<|ŀ e (w.setChan b J d Â (j9+1) (r+1) yQ) sl,u)/\e.size=E.size/\e[n]?=À h/\h.status=Ð/\e[j]?=À q/\q.status=Ð/\(∀k,k≠n->k≠j->e[k]?=E[k]?)/\xb u/\ gN P i X (fw (fw S j<|D<|À v) n N) (fw (fw C j y) n T) (fw (fw B j K) n .no) lot e (w.setChan b J d Â (j9+1) (r+1) yQ) (qJ++u):=by
 have Q:=(Ë.1 F).1;have V:=(Ë.1 t).1;let⟨g0,hF,W,_,_⟩:=o.C n g F;let⟨a,Y,XF,auJ,_⟩:=o.C j p t;rw[f]at W;rw[K7]at XF;cases W with
 |gi=>
  rw[hs,ht]at hF;let⟨H,h2,I,h4⟩:=hF _<|fF.fU _ _;let⟨z',I⟩:=I w;rw[K8,Qd]at Y;let⟨l,k2,k3,k4⟩:=Y _<|fF.fU _ _;have EA:p=Τ a #[ψ b z] (.recv È):=by
   cases XF with
   |gi=>rw[O]at l;cases l
   |tW _ _ h=>rfl
   |nz _ _ h=>cases O
  subst EA;have hpn:Ω (E.setIfInBounds n ph) b Â=[(j,0)]:=agJ (by rwa[Ï<|Ċ G]) U U λk x f hx=>by
   rcases Qa hx with q|⟨_,q⟩
   .rintro⟨e,_⟩;rw[q]at e;cases e
   .exact hp k x f q
  have Qe:=crowd_send_meets (sl:=sl) F I M G t hpn;let⟨T,hT⟩:=jl h4;let⟨y,hTj⟩:=jl<|k4<|À v;rw[yH H h2,yH l k2]at Qe;have q:∀{h:dp},h∈Í n g.frame.fn g.frame.place #[]++#[{g:=n,fn:=g.frame.fn,pos:=g.frame.place,act:=.send b j9},{g:=j,fn:=a.frame.fn,pos:=a.frame.place,act:=.recv b r J},{g:=n,fn:=g.frame.fn,pos:=g.frame.place,act:=.sendDone b j9},{g:=j,fn:=a.frame.fn,pos:=a.frame.place,act:=.recvDone b r}]->(h.act.touch?=ë/\∀m,h.act≠Ť m)/\h.act.low w.heap.size:=by intro h e;simp[Í]at e;rcases e with rfl|rfl|rfl|rfl<;>exact⟨⟨U,fi⟩,o.r.N b L⟩
  refine⟨_,_,T,y,{g with frame:=g.frame.finish ň},{a with frame:=a.frame.finish (Ξ #[v,Ň È])},Qe,fi,?_,H,?_,l,λk f tX=> ?_,λh e=>(q e).1,?_⟩
  .rw[Ò (by simpa using Q)];rfl
  .rw[Ï<|Ċ G,Ò V];rfl
  .rw[Ï<|Ċ f,Ï<|Ċ tX]
  .have m:gN P i X (fw S j<|D<|À v) (fw C j y) (fw B j K) lot (E.setIfInBounds j {a with frame:=a.frame.finish (Ξ #[v,Ň È])}) w (qJ++#[]):=o.G V (p8.fU _ _ _ _) (λh e=>by simp at e) (λh e=>by simp at e) hTj<|Ç l;rw[Ĕ]at m;refine m.G (by simpa using Q) (K6 L M _ _ _ _ _ _) (λh e=>(q e).1) (λh e=>(q e).2) hT<|Ç H
theorem gN.kX(o:gN P i X S C B lot E w qJ){N:Jd}(I:E[n]?=À g)(K:B n=.no)(ht:C n=.fy)(hs:S n=K3 P (n==0) J N)(L:X J)(hB:i<=J){r:Nat}(O:w.heap[J]?=À (ay j9 q Â j7 r yQ)): ∃t u T G,dm P (ŀ E w sl) n=(œ<|ŀ t (w.setChan J j9 q È j7 r yQ) sl,u)/\t.size=E.size/\t[n]?=À G/\G.status=Ð/\(∀k x,k≠n->E[k]?=À x->t[k]?=À (x.again<|w.setChan J j9 q È j7 r yQ))/\(∀l∈u,l.g=n)/\(∀l∈u,∀b,l.act.touch?=À b->b.loc=.obj J/\b.kind=Š)/\(∀l∈u,∀m,l.act≠Ť m)/\ gN P i X (fw S n N) (fw C n T) B (gp lot n {lot n with w:=w.setChan J j9 q È j7 r yQ}) t (w.setChan J j9 q È j7 r yQ) (qJ++u):=by
 have H:=(Ë.1 I).1;have Q:=o.r.N J L;let⟨g0,hF,V,_,_⟩:=o.C n g I;rw[K]at V;cases V with
 |gi=>
  rw[hs,ht]at hF;let⟨h1,h2,G,M,h4,h5⟩:=hF w<|o.r.r n H;have v:=K6 (lot:=lot) (Live:=λn=>n<E.size) L O j9 j7 r q È yQ;have y:fF (lot n) w (w.setChan J j9 q È j7 r yQ):=⟨dI v.r.symm,λj hj=>v.jT j<|o.r.I n H j hj,λa z=>v.M n H a z,λa z=>v.N n H a z,λa _=>v.I a⟩;let⟨T,hT⟩:=jl<|h5.j4 ⟨y.r,y.I,y.N,y.Y,y.S⟩;have W:ż (lot n).d (Ey J)=(lot n).d:=bF (λe f=>by simp[Ey]at f;grind) _;have D:∀e∈Ey J,(∀b,(ê e).touch?=À b->b.loc=.obj J/\b.kind=Š)/\(ê e).low w.heap.size:=by
   intro e f;simp[Ey]at f;rcases f with rfl|rfl
   .exact⟨λb h=>by simp[ê,Ą]at h;subst h;exact⟨U,U⟩,Q⟩
   .exact⟨λb h=>by simp[ê,Ą]at h,Q⟩
  have e2:fw B n .no=B:=by funext j;unfold fw;split<;>simp[*]
  obtain⟨t,q1,q2,q3,q4,Y⟩:=o.qU I (h4 w j9 q j7 r yQ O) v (by rwa[W]) (Ç M) (λe f=>⟨λb h=>Î ⟨J,((D e f).1 b h).1,L,((D e f).1 b h).2⟩,(D e f).2⟩) (P0 o.r.l ov λl F b h=>by obtain⟨e,f,rfl⟩:=ï F;let⟨z1,z2⟩:=(D e f).1 b h;refine Î (Î ⟨z2,λp a z hl rO=> ?_⟩);have:=o.r.s p a J z (by rw[hl,z1]) rO;omega);rw[W,e2]at Y;refine⟨t,_,T,G,q1,q2,q3,M,λk x K p=> ?_,ov,λl F b h=> ?_,λl F=> ?_,Y⟩
  .rw[q4 k K,p];simp only[bR,Ν];unfold Ű;rw[if_pos (by simp[h2,M])]
  .obtain⟨e,f,rfl⟩:=ï F;exact(D e f).1 b h
  .obtain⟨e,f,rfl⟩:=ï F;simp[Ey]at f;intro m;rcases f with rfl|rfl<;>simp[ê]
end
def fL(b:Nat):Û:=⟨b,0,ë⟩
def gR(b:Nat):Û:=⟨b,1,ë⟩
inductive GS where
 |cl (c reg:Nat)
 |jG (reg:Nat)
 |gW (r s:Nat)
def GS.st:GS->Int
 |.cl c a=>c*fX+a
 |.jG a=>a
 |.gW _ _=>0
def GS.sm:GS->Int
 |.gW _ s=>s
 |_=>0
def GS.ok:GS->Prop
 |.cl c r=>c<1000000/\r<1000000/\(c=0->r=0)
 |.jG r=>0<r/\r<1000000
 |.gW r s=>r+s<1000000
structure ia(w:Æ)(b:Nat)(G:GS):Prop where
 C:w.cell? (fL b)=À (ċ è G.st)
 M:w.cell? (gR b)=À (ċ ţ G.sm)
 I:w.frozen? (fL b)=Â
 N:w.frozen? (gR b)=Â
 r:G.ok
theorem AK(h:w.cell? a=À x):(w.setCell a v).cell? a=À v:=by unfold ħ at h|-;unfold Ď;grind
theorem yI(h:a.block≠p.block\/a.off≠p.off):(w.setCell a v).cell? p=w.cell? p:=by unfold ħ Ď;grind
theorem Qf:kV (w.setCell a v) b=kV w b:=by unfold kV Ď;grind
def sX:(w.setCell a v).frozen? p=w.frozen? p:=by simp_all
theorem lu(h:j≠a.block):(w.setCell a v).heap[j]?=w.heap[j]?:=by unfold Ď;grind
def j1:(w.setCell a v).heap.size=w.heap.size:=by simp_all
theorem yJ(h:(w.cell? p).isSome=È):((w.setCell a v).cell? p).isSome=È:=by unfold ħ Ď at*;grind
theorem agM{Live Y:Nat->Prop}{c:Nat->e9}(f:Y a.block)(l:a.spot=ë)(m:∀k,Live k->¬(c k).C a)(g:∀k,Live k->∀b,(c k).C b->b.spot=ë):p8 Live Y c w (w.setCell a v):=by
 refine⟨j1,λj h=>lu λe=>h<|e▸f,λk i b d=>yI ?_,λ_ _ _ _=>sX,λb d=>yJ d⟩;by_cases e:a.block=b.block
 .right;intro n;have:=g k i b d;let⟨o,p,q⟩:=b;let⟨r,s,t⟩:=a;grind
 .exact Ç e
section
variable{b:Nat}{G:GS}
def ia.vt(h:ia w b G)(a:u.cell? (fL b)=w.cell? (fL b))(c:u.cell? (gR b)=w.cell? (gR b))(d:u.frozen? (fL b)=w.frozen? (fL b))(e:u.frozen? (gR b)=w.frozen? (gR b)):ia u b G:= ⟨a.trans h.C,c.trans h.M,d.trans h.I,e.trans h.N,h.r⟩
def ia.iR(h:ia w b G)(c:a.block≠b):ia (w.setCell a v) b G:= h.vt (yI<|Ç c) (yI<|Ç c) sX sX
def ia.K9{G':GS}(h:ia w b G)(a:G'.sm=G.sm)(d:G'.ok)(e:c=G'.st):ia (w.setCell (fL b)<|ċ è c) b G':= ⟨by rw[AK h.C,e],by rw[yI (Î<|by simp[fL,gR]),h.M,a],by rw[sX,h.I],by rw[sX,h.N],d⟩
def ia.XG{G':GS}(h:ia w b G)(a:G'.st=G.st)(d:G'.ok)(e:c=G'.sm):ia (w.setCell (gR b)<|ċ ţ c) b G':= ⟨by rw[yI (Î<|by simp[fL,gR]),h.C,a],by rw[AK h.M,e],by rw[sX,h.I],by rw[sX,h.N],d⟩
end
theorem La(a:0<=h)(b:h<18446744073709551616):è.wrap h=h:=by have:è.wrap h=h%18446744073709551616:=rfl;rw[this];omega
def agN(a:4294967296<=h)(b:h<18446744073709551616):è.wrap (h+18446744069414584320)=h-4294967296:=by have:è.wrap (h+18446744069414584320)=(h+18446744069414584320)%18446744073709551616:=rfl;rw[this];omega
theorem agO(a:0<=h)(b:h<4294967296):ţ.wrap h=h:=by have:ţ.wrap h=h%4294967296:=rfl;rw[this];omega
def qV:Int:=18446744069414584320
def GS.jL:GS->GS
 |.cl (c+1) reg=>if c=0/\0<reg then .jG reg else .cl c reg
 |G=>G
section
variable{b:Nat}
theorem ia.agP(h:ia w b (.cl i 0))(a:i+1<1000000):è.wrap ((GS.cl i 0).st+fX)=(GS.cl (i+1) 0).st/\ia (w.setCell (fL b)<|ċ è<|è.wrap<|(GS.cl i 0).st+fX) b (.cl (i+1) 0):=by
 have e:è.wrap ((GS.cl i 0).st+fX)=(GS.cl (i+1) 0).st:=by simp only[GS.st,fX];grind [La]
 exact⟨e,h.K9 (G':=.cl (i+1) 0) U ⟨a,Z,Z⟩ e⟩
def ia.jL(h:ia w b (.cl (i+1) n)):è.wrap ((GS.cl (i+1) n).st+qV)=(GS.jL<|.cl (i+1) n).st/\ia (w.setCell (fL b)<|ċ è<|è.wrap<|(GS.cl (i+1) n).st+qV) b (GS.jL<|.cl (i+1) n):=by
 let⟨f,a,g⟩:=h.r;have d:è.wrap ((GS.cl (i+1) n).st+qV)=(i:Int)*fX+n:=by simp only[GS.st,fX,qV];rw[agN Z Z];omega
 have e:è.wrap ((GS.cl (i+1) n).st+qV)=(GS.jL<|.cl (i+1) n).st:=by
  rw[d];simp only[GS.jL];by_cases q:i=0/\0<n
  .rw[if_pos q];obtain⟨rfl,_⟩:=q;simp[GS.st]
  .rw[if_neg q];rfl
 refine⟨e,h.K9 ?_ ?_ e⟩
 .simp only[GS.jL];split<;>rfl
 .simp only[GS.jL];by_cases q:i=0/\0<n
  .rw[if_pos q];exact⟨q.2,a⟩
  .rw[if_neg q];exact⟨Z,a,λe=>by omega⟩
theorem ia.XH(h:ia w b (.cl i n))(f:0<i)(a:n+1<1000000):è.wrap ((GS.cl i n).st+1)=(GS.cl i<|n+1).st/\ia (w.setCell (fL b)<|ċ è<|è.wrap<|(GS.cl i n).st+1) b (.cl i (n+1)):=by
 let⟨d,g,j⟩:=h.r;have e:è.wrap ((GS.cl i n).st+1)=(GS.cl i<|n+1).st:=by simp only[GS.st,fX];grind [La]
 exact⟨e,h.K9 (G':=.cl i (n+1)) U ⟨d,a,λe=>by omega⟩ e⟩
def ia.XJ(h:ia w b (.jG i)):ia (w.setCell (fL b)<|ċ è 0) b (.gW i 0):= h.K9 (G':=.gW i 0) U (by have:=h.r;simp only[GS.ok]at this|-;omega) U
theorem ia.jF{r:Nat}(h:ia w b (.gW (r+1) i)):ia (w.setCell (gR b)<|ċ ţ<|ţ.wrap<|(GS.gW (r+1) i).sm+1) b (.gW r (i+1)):=by have:=h.r;simp only[GS.ok]at this;refine h.XG (G':=.gW r (i+1)) U (by simp only[GS.ok];omega) ?_;simp only[GS.sm];grind [agO]
def ia.kB{r:Nat}(h:ia w b (.gW r (i+1))):ia (w.setCell (gR b)<|ċ ţ<|(GS.gW r<|i+1).sm-1) b (.gW r i):=by have:=h.r;simp only[GS.ok]at this;refine h.XG (G':=.gW r i) U (by simp only[GS.ok];omega) ?_;simp only[GS.sm];omega
def ia.agQ{G:GS}(h:ia w b G):(0<=G.st/\G.st<fX)↔∀c a,G=.cl c a->c=0:=by
 have d:=h.r;cases G with
 |cl c a=>
  let⟨r,s,f⟩:=d;simp only[GS.st,fX];constructor
  .intro q g i e;cases e;omega
  .intro q;have:=q c a U;subst this;omega
 |jG a=>simp only[GS.ok]at d;simp only[GS.st,fX];exact⟨λ_ _ _ e=>(by cases e),λ_=>by omega⟩
 |gW r s=>simp only[GS.st,fX];exact⟨λ_ _ _ e=>(by cases e),λ_=>by omega⟩
end
inductive jH where
 |jF|iE|gy (W:Nat)|jc (W:Nat)|iA (r:Nat)
inductive jv where
 |iX|mb (p:SP)|wr|kB|gy|lj
section
variable(P:Ø)(main:Bool)(B:Nat)(b:Nat)(J:Jd)
def Ho:Nat->Jd
 |0=>J
 |r+1=>λl g=>l.d=1/\agE P main (gR b) (match r with|0=>J|_=>fg P main<|Ho r) l g
def Lb(W:Nat):Jd:=λl g=>l.d=1/\agC P main (fL b) 0 (Ho P main b J W) l g
def Lc(W:Nat):Jd:=λl g=>l.d=1/\Xz P main (fL b) (λv=>if v=(W:Int)then Lb P main b J W else λ_ _=>True) l g
def Qg:Jd:=λl g=>l.d=1/\P4 P main (fL b) qV (λs=>if s=0\/(fX<=s/\s<1000000*fX/\s%fX<1000000)then J else if 0<s/\s<1000000 then fg P main (Lc P main b J s.toNat)else λ_ _=>True) l g
def yK:Jd:=λl g=>l.d=0/\Hm P main (Ŀ<|fL b) (Qg P main b J) l g
def EB:jH->Jd
 |.jF=>yK P main b J
 |.iE=>Qg P main b J
 |.gy W=>Lc P main b J W
 |.jc W=>Lb P main b J W
 |.iA r=>Ho P main b J r
def EC:Jd:=λl g=>l.d=0/\Hm P main (cX<|fL b) J l g
def XK:Jd:=λl g=>l.d=1/\Xz P main (fL b) (λv=>if v=0 then EC P main b J else λ_ _=>True) l g
def Ld:Jd:=λl g=>l.d=1/\agD P main (gR b) (XK P main b J) l g
def Qh:Jd:=λl g=>l.d=1/\Hm P main (.write<|gR b) (Ld P main b J) l g
def Qi(p:SP):Jd:=λl g=>l.d=1/\Ez P main (fL b) B (λ_=>EC P main b J) (λv=>if v%fX=0 then Qh P main b J else Ld P main b J) p l g
def qW:jv->Jd
 |.iX=>λl g=>∃k,k<=B/\Qi P main B b J (.fY k) l g
 |.mb p=>Qi P main B b J p
 |.wr=>Qh P main b J
 |.kB=>Ld P main b J
 |.gy=>XK P main b J
 |.lj=>EC P main b J
end
section
variable{P:Ø}{Y:Nat->Prop}{S:Nat->Jd}{tr:Nat->gq}{f:Nat->iz}{lot:Nat->e9}{gs:Array Ó}{t:Ħ}
theorem iQ.C{Live:Nat->Prop}(h:iQ n Live Y lot w t)(E:Live i){l:e9}(s:∀b,l.O b->(lot i).O b) (x:∀b,l.I b->(lot i).M b\/(b<w.heap.size/\¬Y b/\(∀k,Live k->¬(lot k).O b)/\∀a:Û,a.block=b->pA t i (Ā a))) (u:∀a,l.r a->(lot i).r a) (y:∀a,l.N a->(lot i).C a\/(Y a.block/\(∀k,Live k->¬(lot k).r a)/\pA t i (Ā a))) (F:l.K=(lot i).K) (D:l.d=(lot i).d) (G:l.w=w) (H:∀b,l.O b->¬l.I b) (I:∀a,l.r a->¬l.N a):iQ n Live Y (gp lot i l) w t:=by
 have v:∀b,l.M b->(lot i).M b\/(b<w.heap.size/\¬Y b/\(∀k,Live k->¬(lot k).O b)/\∀a:Û,a.block=b->pA t i (Ā a)):=λb g=>g.elim (λq=>Ç<|Ç<|s b q)<|x b;have B:∀a,l.C a->(lot i).C a\/(Y a.block/\(∀k,Live k->¬(lot k).r a)/\pA t i (Ā a)):=λa f=>f.elim (λq=>Ç<|Ç<|u a q)<|y a;refine⟨λk j c o m b g=> ?_,λk j c o m a f=> ?_,λk c b g=> ?_,λk c a f=> ?_,λk c b g=> ?_,λk c a f=> ?_,λk c b g=> ?_,h.N,λk c=> ?_,λk c=> ?_,λk c=> ?_,h.l,h.q,h.s,λk c a f=> ?_⟩
 .by_cases e:k=i
  .subst e;rw[gU]at g;rw[gF lot _<|Ċ m];exact h.o k j c o m b<|s b g
  .rw[gF lot _ e]at g;by_cases p:j=i
   .subst p;rw[gU];intro q;rcases v b q with z|⟨_,_,z,_⟩
    .exact h.o k j c o m b g z
    .exact z k c g
   .rw[gF lot _ p];exact h.o k j c o m b g
 .by_cases e:k=i
  .subst e;rw[gU]at f;rw[gF lot _<|Ċ m];exact h.h k j c o m a<|u a f
  .rw[gF lot _ e]at f;by_cases p:j=i
   .subst p;rw[gU];intro q;rcases B a q with z|⟨_,z,_⟩
    .exact h.h k j c o m a f z
    .exact z k c f
   .rw[gF lot _ p];exact h.h k j c o m a f
 .by_cases e:k=i
  .grind [gU]
  .rw[gF lot _ e]at g|-;exact h.m k c b g
 .by_cases e:k=i
  .grind [gU]
  .rw[gF lot _ e]at f|-;exact h.g k c a f
 .by_cases e:k=i
  .subst e;rw[gU]at g;exact(v b g).elim (h.I k c b) λz=>z.2.1
  .rw[gF lot _ e]at g;exact h.I k c b g
 .by_cases e:k=i
  .subst e;rw[gU]at f;exact(B a f).elim (h.e k c a) λz=>z.1
  .rw[gF lot _ e]at f;exact h.e k c a f
 .by_cases e:k=i
  .subst e;rw[gU]at g;exact(v b g).elim (h.fv k c b) λz=>z.1
  .rw[gF lot _ e]at g;exact h.fv k c b g
 .by_cases e:k=i
  .grind [gU,fF.fU]
  .rw[gF lot _ e];exact h.r k c
 .by_cases e:k=i
  .subst e;rw[gU];refine⟨λa f=>(h.S k c).fj a<|s _ f,λa f=> ?_,λa f=>(h.S k c).C a<|u a f,λa f=> ?_⟩
   .rcases x _ f with(z|z)|⟨_,_,_,z⟩
    .exact((h.S k c).fj a z).r
    .exact(h.S k c).rd a z
    .exact z a U
   .rcases y _ f with(z|z)|⟨_,_,z⟩
    .exact((h.S k c).C a z).r
    .exact(h.S k c).r a z
    .exact z
  .rw[gF lot _ e];exact h.S k c
 .by_cases e:k=i
  .subst e;rw[gU,D];exact h.f k c
  .rw[gF lot _ e];exact h.f k c
 .have e:(lot k).K a:=by
   grind [gU,gF]
  let⟨p,q⟩:=h.n k c a e;grind [gU,gF]
def gN.M(b:gN P n Y S tr f lot gs w t){J:Jd}{T:gq}{K:iz}{l:e9}(c:gs[i]?=À g)(d:g.status=Ð\/g.status=ĥ)(h:iQ n (λi=>i<gs.size) Y (gp lot i l) w t)(hF:lh P (i==0) J T l g): gN P n Y (fw S i J) (fw tr i T) (fw f i K) (gp lot i l) gs w t:=by
 refine⟨h,λk x a=> ?_,b.I⟩;by_cases e:k=i
 .subst e;rw[c]at a;obtain rfl:=ī a;rw[gC,gC,gC,gU];exact⟨g,hF,.gi,d,Ç U⟩
 .rw[fG S _ e,fG tr _ e,fG f _ e,gF lot _ e];exact b.C k x a
end
end Go.Proofs.Y.fq
namespace Go.Proofs.Y.fq
open Go Go.Conc Go.Proofs.Y.Lift
open Go.ConcN (RelBy fork_knows)
def AL(t:Ħ)(p:Nat)(l:dZ):Prop:=∀q a,Ġ t q=À a->a.loc=l->a.write=È->Before t q p
theorem AL.Qj{u:Ħ}{l:dZ}(h:AL qJ i l)(j:∀c∈u,∀b,c.act.touch?=À b->b.loc=l->b.write=È->False):AL (qJ++u) i l:=by
 intro q a e f g;rcases mS e with⟨_,d⟩|⟨_,c,d,k,_⟩
 .exact(h q a d f g).app u
 .grind
def AL.agR{l:dZ}(h:AL qJ i l)(b:bN qJ n i):pA qJ n l:=λq a c d e=>Knows.of_before (h q a c d e) b
theorem agS{l:dZ}(h:pA qJ i l)(c:wQ.g=i)(j:wQ.act.touch?=ë):AL (qJ++#[wQ]) qJ.size l:=by
 intro q a d e f;rcases mS d with⟨_,b⟩|⟨_,k,b,m,_⟩
 .exact Î<|(h q a b e f).hb_new (á _) (by rw[Č<|á _];simp) c
 .grind
structure Fx where
 L:Nat
 m:Nat
 C:Nat
 I:Nat->Nat
def Fx.M(F:Fx)(b:Nat):Prop:=b=F.C\/∃k,k<=F.m/\b=F.I k
def Fx.G(F:Fx)(x:Û):Prop:=∃b,F.M b/\(x=fL b\/x=gR b)
def jg(F:Fx)(k:Nat):Û:=⟨F.I k,2,ë⟩
def Fx.Qk(F:Fx)(a:Nat->Option Nat)(x:Û)(g:Option Nat):Prop:=(x=gR F.C/\g=À 0)\/∃k j,k<=F.m/\x=gR (F.I k)/\a k=À j/\g=À (F.L+1+j)
structure TI(F:Fx)(t0:Nat)(jm:dZ->Prop)(sp rl:Nat)(V:Nat->Nat->Prop)(pk:Nat->Nat)(fs:Nat->Option Nat)(rx:Nat->Prop)(ql:Nat->Nat)(t:Ħ):Prop where
 N:t0<=t.size
 M:∀p a x,Ġ t p=À a->a.loc=Ā x->F.G x->(p<t0/\t.g? p=À 0)\/a.kind=Š\/(a.kind=.said/\F.Qk fs x (t.g? p))
 AN:∀x,x<sp->∀p,p<t0->t.g? p=À 0->bN t (F.L+x) p
 Y:∀k,1<=k->k<=rl->t.act? (pk k)=À (Ť<|Ŀ<|fL<|F.I k)/\t.g? (pk k)=À F.L/\t.heard (pk k)
 I:∀k,1<=k->k<=rl->∀a:Û,(V k a.block\/a=jg F k)->AL t (pk k) (Ā a)
 c:∀b,F.M b->NoRelease (fL b) t
 r:∀x,x<sp->rx x->RelBy (fL F.C) t (F.L+x) (ql x)/\∀p a,Ġ t p=À a->t.g? p=À (F.L+x)->p<=ql x\/((∃y:Û,a.loc=Ā y/\y.block=F.C)/\a.kind=Š)
 S:∀p a,t0<=p->Ġ t p=À a->t.g? p=À 0\/∃x,x<sp/\t.g? p=À (F.L+x)
 e:∀p a,p<t0->Ġ t p=À a->a.loc.isMemory=È->bN t 0 p\/(jm a.loc/\a.kind=Š)
 d:∀p g,p<t0->t.g? p=À g->g≠0->t.counts p->∃j,t.g? j=À 0/\HappensBefore t p j
section
variable{F:Fx}{t0:Nat}{jm:dZ->Prop}{sp rl:Nat}{V:Nat->Nat->Prop}{pk:Nat->Nat}{fs:Nat->Option Nat}{rx:Nat->Prop}{ql:Nat->Nat}{t u:Ħ}
theorem Le(h:t.g? i=À n):i<t.size:=by unfold Ő at h;grind
def Hp(h:t.g? i=À n):(t++u).g? i=À n:=by rwa[aS<|Le h]
theorem Ql{a:dU}(h:Ġ t i=À a):i<t.size:=by let⟨b,c,_⟩:=dV h;grind
structure Lf(F:Fx)(sp rl:Nat)(V:Nat->Nat->Prop)(fs:Nat->Option Nat)(rx:Nat->Prop)(t u:Ħ)(i:Nat):Prop where
 C:∀op∈u,∀a,op.act.touch?=À a->op.g=i
 S:i=0\/(∃x,x<sp/\i=F.L+x)\/∀op∈u,op.act.touch?=ë
 M:∀op∈u,∀a x,op.act.touch?=À a->a.loc=Ā x->F.G x->a.kind=Š\/(a.kind=.said/\F.Qk fs x (À i))
 fK:∀op∈u,∀(a:dU) (y:Û),op.act.touch?=À a->a.write=È->a.loc=Ā y->∀k,1<=k->k<=rl->¬V k y.block/\y≠jg F k
 N:∀op∈u,∀b,F.M b->op.act≠Ť (dW<|fL b)
 I:∀x,x<sp->rx x->(∀r,RelBy (fL F.C) t (F.L+x) r->RelBy (fL F.C) (t++u) (F.L+x) r)/\(F.L+x=i->∀op∈u,∀a,op.act.touch?=À a->(∃y:Û,a.loc=Ā y/\y.block=F.C)/\a.kind=Š)
def TI.C(h:TI F t0 jm sp rl V pk fs rx ql t)(f:Lf F sp rl V fs rx t u i):TI F t0 jm sp rl V pk fs rx ql (t++u) where
 N:=by rw[Array.size_append];have:=h.N;omega
 M p a x n y hc:=by
  rcases mS n with⟨d,c⟩|⟨d,m,c,l,j⟩
  .rw[aS d];exact h.M p a x c y hc
  .refine Î ((f.M m c a x l y hc).imp id λq=>⟨q.1,?_⟩);have:(t++u).g? p=À i:=by unfold Ő;rw[j];simp[f.C m c a l]
   rw[this];exact q.2
 AN x r p d o:=(h.AN x r p d<|by rwa[aS<|Ô d h.N]at o).app u;Y k c l:=by let⟨v,s,b⟩:=h.Y k c l;have w:=Le s;exact⟨by rwa[dX w],Hp s,(heard_old w).2 b⟩
 I k c l a n:=(h.I k c l a n).Qj λm B b z y C=>by have:=f.fK m B b a z C y k c l;exact n.elim this.1 this.2
 c b z:=(h.c b z).app λm B=>f.N m B b z;r x r hr:=by
  let⟨v,s⟩:=h.r x r hr;let⟨D,E⟩:=f.I x r hr;refine⟨D _ v,λp a n o=> ?_⟩;rcases mS n with⟨d,c⟩|⟨d,m,c,l,j⟩
  .exact s p a c<|by rwa[aS d]at o
  .have e:(t++u).g? p=À i:=by unfold Ő;rw[j];simp[f.C m c a l]
   rw[e]at o;exact Î<|E (ī o).symm m c a l
 S p a d n:=by
  rcases mS n with⟨D,c⟩|⟨_,m,c,l,j⟩
  .rw[aS D];exact h.S p a d c
  .have e:(t++u).g? p=À i:=by unfold Ő;rw[j];simp[f.C m c a l]
   rw[e];rcases f.S with q|⟨x,r,q⟩|q
   .exact Ç<|by rw[q]
   .exact Î ⟨x,r,by rw[q]⟩
   .rw[q m c]at l;cases l
 e p a d n hm:=by rw[touchAt_old<|Ô d h.N]at n;exact(h.e p a d n hm).imp (·.app u) id
 d p g d o lr hc:=by have w:=Ô d h.N;rw[aS w]at o;rw[eC w]at hc;let⟨j,v,s⟩:=h.d p g d o lr hc;exact⟨j,Hp v,eA u s⟩
theorem yL(f:∀c∈u,c.act.touch?=ë)(h:∀c∈u,∀b,F.M b->c.act≠Ť (dW<|fL b)):Lf F sp rl V fs rx t u 0 where
 C c e a d:=by rw[f c e]at d;cases d
 S:=Ç U;M c e a x d:=by rw[f c e]at d;cases d
 fK c e a y d:=by rw[f c e]at d;cases d
 N:=h;I x hx g:=by refine⟨λr g=>g.app λj l m i=> ?_,λ_ c e a d=>by rw[f c e]at d;cases d⟩;let⟨z,k,_⟩:=i;rcases mS k with⟨q,_⟩|⟨_,c,n,o,_⟩;all_goals grind
def TI.agT(h:TI F t0 jm sp rl V pk fs rx ql t){b:Nat->Option Nat}(c:∀k y,fs k=À y->b k=À y):TI F t0 jm sp rl V pk b rx ql t:= {h with M:=λp a x d e f=>(h.M p a x d e f).imp id (Or.imp id λq=>⟨q.1,q.2.imp id λ⟨k,j,g,i,l,m⟩=>⟨k,j,g,i,c k j l,m⟩⟩)}
theorem TI.Hq(h:TI F t0 jm sp rl V pk fs rx ql t){y:dp}(j:wQ.g=0/\wQ.act=.go (F.L+sp))(k:y.g=F.L+sp/\y.act=.start)(m:π t 0=0)(n:π t (F.L+sp)=0)(B:¬rx sp)(o:∀wQ,rx wQ->wQ<sp):TI F t0 jm (sp+1) rl V pk fs rx ql (t++#[wQ,y]):=by
 have q:∀c∈#[wQ,y],c.act.touch?=ë:=by
  intro c a;simp at a;rcases a with rfl|rfl
  .rw[j.2];rfl
  .rw[k.2];rfl
 have r:∀c∈#[wQ,y],∀b,F.M b->c.act≠Ť (dW<|fL b):=by grind
 have d:=h.C<|yL q r;refine{d with AN:=λz s p f i=> ?_,r:=λz s l=>d.r z (o z l) l,S:=λp a f u=>((d.S p a f u).imp id λ⟨z,v,e⟩=>⟨z,Z,e⟩)}
 .by_cases e:z<sp
  .exact d.AN z e p f i
  .obtain rfl:z=sp:=Z
   rw[aS<|Ô f h.N]at i;let⟨c,v,w⟩:=Ī.1 i;have:=bE v;rw[w]at this;exact c9 j k m n this
theorem agU{y:dp}(d:wQ.g=0/\wQ.act=.go k)(e:y.g=k/\y.act=.start)(j:π t 0=0)(m:π t k=0){l:dZ}:(qT t 0 l->qT (t++#[wQ,y]) k l)/\(pA t 0 l->pA (t++#[wQ,y]) k l):=by
 have q:∀c∈#[wQ,y],c.act.touch?=ë:=by
  intro c a;simp at a;rcases a with rfl|rfl
  .rw[d.2];rfl
  .rw[e.2];rfl
 refine⟨λh p a f i=> ?_,λh p a f i n=> ?_⟩
 .rcases mS f with⟨_,b⟩|⟨_,c,b,o,_⟩
  .exact c9 d e j m<|h p a b i
  .grind
 .rcases mS f with⟨_,b⟩|⟨_,c,b,o,_⟩
  .exact c9 d e j m<|h p a b i n
  .grind
theorem TI.agV(h:TI F t0 jm sp rl V pk fs rx ql t)(f:wQ.g=F.L)(i:wQ.act=Ť (Ŀ<|fL<|F.I<|rl+1))(l:π t F.L=0)(q:∀a:Û,(V (rl+1) a.block\/a=jg F (rl+1))->pA t F.L (Ā a)): TI F t0 jm sp (rl+1) V (fw pk (rl+1) t.size) fs rx ql (t++#[wQ]):=by
 have m:∀c∈#[wQ],c.act.touch?=ë:=by
  intro c e;have:c=wQ:=by simpa using e
  rw[this,i];rfl
 have d:=h.C (yL m λc e b _=>by grind);have n:(t++#[wQ])[t.size]?=À wQ:=by rw[Č<|á _];simp
 have j:∀k,k<=rl->fw pk (rl+1) t.size k=pk k:=λk r=>fG pk _ Z;refine{d with Y:=λk b o=> ?_,I:=λk b o a p=> ?_}
 .by_cases e:k=rl+1
  .subst e;rw[gC];exact⟨by rw[eJ n,i],by simp[Ő,f],⟨F.L,by simp[Ő,f],by rwa[c8<|á _]⟩⟩
  .rw[j k Z];exact d.Y k b Z
 .by_cases e:k=rl+1
  .grind [gC,agS]
  .rw[j k Z];exact d.I k b Z a p
theorem TI.agW(h:TI F t0 jm sp rl V pk fs rx ql t){x:Nat}(r:x<sp)(d:wQ.g=F.L+x)(f:wQ.act=Ť (Ŀ<|fL F.C))(k:π t (F.L+x)=0)(s:¬rx x): TI F t0 jm sp rl V pk fs (λz=>rx z\/z=x) (fw ql x t.size) (t++#[wQ]):=by
 have l:∀c∈#[wQ],c.act.touch?=ë:=by
  intro c a;have:c=wQ:=by simpa using a
  rw[this,f];rfl
 have j:=h.C (yL l λc a b _=>by grind);have b:(t++#[wQ])[t.size]?=À wQ:=by rw[Č<|á _];simp
 refine{j with r:=λz m n=> ?_};by_cases e:z=x
 .subst e;rw[gC];refine⟨⟨by rw[eJ b,f],by simp[Ő,d],⟨F.L+z,by simp[Ő,d],by rwa[c8<|á _]⟩,λi u o=> ?_⟩,λp a q _=>Ç ?_⟩
  .have:=Le o;simp at this;omega
  .have:=Ql q;simp at this;omega
 .rw[fG ql _ e];exact j.r z m<|n.resolve_right e
def XL(e:t.act? i=À (Ť<|Ŀ a))(f:t.g? i=À k)(h:t.heard i)(l:NoRelease a t)(c:wQ.g=n)(m:wQ.act=Ť (cX a))(o:π t n=0):bN (t++#[wQ]) n i:=by
 have b:=Le f;have d:(t++#[wQ])[t.size]?=À wQ:=by rw[Č<|á _];simp
 refine⟨t.size,wQ,d,c,Î<|.single<|Î ⟨.marked b (Î<|by rwa[dX b]) (by rw[eJ d,m]) λj _ q=> ?_,(heard_old b).2 h,⟨n,by simp[Ő,c],by rwa[c8<|á _]⟩⟩⟩;rw[dX q];exact l j
theorem TI.kX(h:TI F t0 jm sp rl V pk fs rx ql t)(G:wQ.g=0)(o:wQ.act=Ť (cX<|fL F.C))(H:π t 0=0)(k:∀x,x<sp->rx x): (∀p a,Ġ (t++#[wQ]) p=À a->a.loc.isMemory=È->bN (t++#[wQ]) 0 p\/((jm a.loc\/∃x:Û,a.loc=Ā x/\x.block=F.C)/\a.kind=Š))/\(t++#[wQ]).HandedOver:=by
 have Q:wQ.act.touch?=ë:=by rw[o];rfl
 have s:=λx c=>by let⟨b,_⟩:=h.r x c<|k x c;exact XL b.act b.g b.heard (h.c _<|Ç U) G o H
 have u:∀p a,Ġ (t++#[wQ]) p=À a->p<t.size/\Ġ t p=À a:=λp a l=>by rcases mS l with q|⟨_,v,d,w,_⟩;all_goals grind
 have B:∀p q x,t.g? p=À (F.L+x)->t.g? q=À (F.L+x)->p<=q->Before (t++#[wQ]) p q:=λp q x d w S=>by
  rcases Nat.lt_or_ge p q with f|i
  .exact Î<|.single<|Ç ⟨f,_,Hp d,Hp w⟩
  .exact Ç Z
 refine⟨λp a l I=> ?_,λp g C J K=> ?_⟩
 .let⟨f,d⟩:=u p a l;by_cases e:p<t0
  .rcases h.e p a e d I with q|⟨b,i⟩
   .exact Ç<|q.app _
   .grind
  .rcases h.S p a Z d with q|⟨x,c,q⟩
   .let⟨v,m,n⟩:=Ī.1 q;have:=bE m;rw[n]at this;exact Ç<|this.app _
   .let⟨b,i⟩:=h.r x c<|k x c;rcases i p a d q with z|⟨j,P⟩
    .exact Ç<|Knows.of_before (B p (ql x) x q b.g z)<|s x c
    .grind
 .let⟨z,D,M,N⟩:=K;let⟨f,d⟩:=u p z D;have O:t.g? p=À g:=by rwa[aS f]at C
  have E:=(eC f).1 ⟨z,D,M,N⟩;by_cases e:p<t0
  .let⟨j,b,i⟩:=h.d p g e O J E;exact⟨j,Hp b,eA _ i⟩
  .rcases h.S p z Z d with q|⟨x,c,q⟩
   .grind
   .let⟨b,_⟩:=h.r x c<|k x c;let⟨r,v,m,n,i⟩:=s x c;have j:(t++#[wQ]).g? r=À 0:=by unfold Ő;rw[m];simp[n]
    refine⟨r,j,?_⟩;rcases(B p (ql x) x q b.g<|Nat.le_of_not_lt λP=>b.after p P q E).trans i with P|P;all_goals grind
end
end Go.Proofs.Y.fq
namespace Go.Proofs.Y.fq
open Go Go.Conc Go.Proofs.Y.Lift
open Go.ConcN (sumTo)
structure Ph extends Fx where
 P:Ø
 S:Nat
 n:Nat
 q:Nat
 Y:Nat
 f:Nat
 r:Nat->Nat
 a:Nat->Nat
 b:Nat->Nat
 c:Nat->Ã
 z:Ã
 B:Nat
 γ:Type
 l:γ
 i:Nat->Prop
 p:Nat->γ->γ->Prop
 d:Nat->γ->(Nat->Prop)->Æ->Prop
 o:Nat->ByteArray
 k:Nat->ByteArray
 g:Nat->(Nat->Nat)->Jd
 h:Nat->Jd
 e:Nat->Nat->Jd
 j:(Nat->Nat)->Jd
inductive nD(F:Ph):Nat->F.γ->Prop
 |vo:nD F 0 F.l
 |ED {k:Nat} {s s':F.γ} (h:nD F k s) (hn:F.p k s s'):nD F (k+1) s'
def jo(F:Ph)(p:Nat):Û:=⟨F.Y,p,ë⟩
inductive fV where
 |go (j:Nat)|lF (j:Nat)|rd (j:Nat)|iE (j:Nat)|iI (r:Nat)|kX (r:Nat)|fx (p:jv)|fZ
inductive jz where
 |kN (k:Nat)|mk (k:Nat)|dn (k:Nat) (p:jH)
inductive gO where
 |nA (r:Nat)|fx (r:Nat) (p:jv)|jK (r:Nat)|oO (r:Nat)
inductive ij where
 |oQ|fZ (p:jH)|ju (N:Nat)
section
variable(F:Ph)
def Hr:Jd:=λl g=>∃N,QuitsD F.P N l.d g
def kC(l:e9):e9:={l with O:=λ_=>False,I:=λ_=>False,r:=λ_=>False,N:=λ_=>False,q:=True}
def AO:Jd:=λl g=>EB F.P Â F.C (Hr F) .jF (kC l) g
def EE(c j r:Nat):Jd:=w7 F.P Â c F.z λx=>match x with
 |some v=>λl g=>v=F.c (j+r*F.n)->qW F.P Â F.B (F.I<|F.r<|j+r*F.n) (F.e c<|j+r*F.n) .iX l g
 |none=>AO F
def vu(l:e9)(i:Nat):e9:={l with r:=λa=>l.r a/\a≠jo F (F.a i),N:=λa=>l.N a\/a=jo F (F.a i)}
def p9(l:e9)(k:Nat):e9:={l with O:=λ_=>False,I:=l.M,r:=λa=>l.r a/\a≠jo F (F.b k)/\a≠jg F.toFx k,N:=λa=>l.N a\/a=jo F (F.b k)\/a=jg F.toFx k}
def JW(c j:Nat):gO->Jd
 |.nA r=>EE F c j r
 |.fx r p=>qW F.P Â F.B (F.I<|F.r<|j+r*F.n) (F.e c<|j+r*F.n) p
 |.jK r=>F.e c<|j+r*F.n
 |.oO r=>λl g=>l.w.cell? (jo F<|F.a<|j+r*F.n)=À (Į<|F.k<|j+r*F.n)/\EE F c j (r+1) (vu F l<|j+r*F.n) g
def JI(sg:Nat->F.γ):jz->Jd
 |.kN k=>F.h k
 |.mk k=>λl g=>∃p V,F.p (k-1) (sg<|k-1) p/\F.d k p V l.w/\(∀b,V b->l.M b)/\l.w.cell? (jo F<|F.b k)=À (Į<|F.o k)/\EB F.P Â (F.I k) (fg F.P Â<|F.h k) .jF (p9 F l k) g
 |.dn k p=>EB F.P Â (F.I k) (fg F.P Â<|F.h k) p
def JE:ij->Jd
 |.oQ=>AO F
 |.fZ p=>EB F.P Â F.C (Hr F) p
 |.ju N=>pB F.P N
def Lg(j:Nat)(a:Nat->Nat):Jd:=λl g=>∃c,F.g j (fw a (j-1) c) l g
def XM(j:Nat)(a:Nat->Nat):Jd:=λl g=>l.d=1/\Hm F.P È (.read<|gR F.C) (Lg F j a) l g
def Qm(j:Nat)(a:Nat->Nat):Jd:=λl g=>l.d=1/\P4 F.P È (fL F.C) fX (λs=>if s=fX then fg F.P È (XM F j a)else if fX<s/\s<1000000*fX/\s%fX=0 then fg F.P È (Lg F j a)else λ_ _=>True) l g
def AP(a:Nat->Nat):Nat->Jd
 |0=>qW F.P È F.B F.C (F.j a) .iX
 |r+1=>K3 F.P È (a<|F.n-(r+1))<|AP a r
def Hs(a:Nat->Nat):Nat->Jd
 |0=>AP F a F.n
 |r+1=>AJ F.P È (a<|(F.q-(r+1))%F.n) (F.c<|F.q-(r+1))<|Hs a r
def JM(dk:Nat->Nat):fV->Jd
 |.go j=>F.g j dk
 |.lF j=>Lg F j dk
 |.rd j=>XM F j dk
 |.iE j=>Qm F j dk
 |.iI r=>Hs F dk r
 |.kX r=>AP F dk r
 |.fx p=>qW F.P È F.B F.C (F.j dk) p
 |.fZ=>F.j dk
def lW(x:Nat)(a:Û):Prop:=if x=0 then(∃k,1<=k/\k<=F.m/\(a=jg F.toFx k\/a=jo F (F.b k)))else∃i,i<F.q/\i%F.n=x-1/\a=jo F (F.a i)
end
def fV.sp(n:Nat):fV->Nat
 |.go j|.lF j|.rd j|.iE j=>j
 |_=>n+1
def fV.ad(n:Nat):fV->Nat
 |.iE j=>j
 |.go j|.lF j|.rd j=>j+1
 |_=>n+1
def fV.mF(q:Nat):fV->Nat
 |.go _|.lF _|.rd _|.iE _=>0
 |.iI r=>q-r
 |_=>q
def fV.jf(n:Nat):fV->Nat
 |.kX r=>n-r
 |.fx _|.fZ=>n
 |_=>0
def jv.sY:jv->Nat
 |.wr|.kB=>1
 |_=>0
def fV.gB:fV->Nat
 |.fx p=>p.sY
 |_=>0
def jH.kO:jH->Nat
 |.jF|.iE=>1
 |_=>0
def ij.kO:ij->Nat
 |.oQ=>1
 |.fZ p=>p.kO
 |_=>0
def ij.ow:ij->Prop
 |.oQ=>False
 |_=>True
def me:Option ij->Nat
 |none=>1
 |some e=>e.kO
def jH.iw:jH->Prop
 |.jF=>False
 |_=>True
def ij.iw:ij->Prop
 |.oQ=>False
 |.fZ p=>p.iw
 |_=>True
def jz.md:jz->Nat
 |.kN k=>k
 |.mk k=>k-1
 |.dn k _=>k
def jz.rl:jz->Nat
 |.kN k=>k
 |.mk k=>k-1
 |.dn k .jF=>k-1
 |.dn k _=>k
def jz.od:jz->Nat
 |.kN k=>k
 |.mk k=>k-1
 |.dn k .jF|.dn k .iE=>k-1
 |.dn k _=>k
def gO.iM:gO->Nat
 |.nA r=>r
 |.fx r _|.jK r|.oO r=>r+1
def gO.kD:gO->Nat
 |.nA r|.fx r _|.jK r|.oO r=>r
def gO.gB(F:Ph)(j:Nat)(k:Nat):gO->Nat
 |.fx r p=>if F.r (j+r*F.n)=k then p.sY else 0
 |_=>0
structure fT(F:Ph) where
 M:fV
 S:jz
 C:Nat->gO
 N:Nat->Option ij
 I:Nat->Nat
 c:Nat->F.γ
 V:Nat->Nat->Prop
 e:Nat->Nat
 d:Nat->Option Nat
 f:Nat->Nat
 b:GS
 a:Nat->GS
 g:Option Nat
 h:Nat->Nat
section
variable{F:Ph}
def fT.r(E:fT F):Nat:=E.M.sp F.n
def fT.G(E:fT F)(x:Nat):Nat:=if x<E.M.ad F.n then me (E.N x)else 0
def fT.iw(E:fT F)(x:Nat):Prop:=∃e,E.N x=À e/\e.iw
def fT.ow(E:fT F)(x:Nat):Prop:=∃e,E.N x=À e/\e.ow
def fT.Y(E:fT F)(b:Nat):Prop:=F.M b\/b=F.Y\/∃j,j+2<=E.r/\b=E.I j
def tY(n j Q s:Nat):Prop:=∀i,i<s↔j+i*n<Q
def kM:fV->iz
 |.fx .kB=> .iA
 |_=> .no
def kW(F:Ph)(c:Nat):gO->iz
 |.nA _=> .sW c F.z
 |.fx _ .kB=> .iA
 |_=> .no
end
structure Ph.Ok(F:Ph):Prop where
 N:1<=F.n
 r:1<=F.L
 gd:F.n+F.q+F.m<1000
 I:∀i,i<F.q->F.r i<=F.m
 M:∀k,k<=F.m->F.I k≠F.C
 S:∀k k',k<=F.m->k'<=F.m->F.I k=F.I k'->k=k'
 C:¬F.M F.Y
 a:∀i i',i<F.q->i'<F.q->F.a i=F.a i'->i=i'
 pi:∀k k',1<=k->k<=F.m->1<=k'->k'<=F.m->F.b k=F.b k'->k=k'
 Qo:∀i k,i<F.q->1<=k->k<=F.m->F.a i≠F.b k
 gl:∀b,F.M b\/b=F.Y->F.S<=b
 Y:(∀k,1<=k->k<=F.m->F.b k≠F.f)/\∀i,i<F.q->F.a i≠F.f
structure iG(F:Ph)(E:fT F)(lot:Nat->e9)(sz:Nat)(w:Æ):Prop where
 gT:∀i,i<sz->∀a,(lot i).C a->(∃k,k<=F.m/\a=jg F.toFx k)\/∃p,p≠F.f/\a=jo F p
 o:∀x,E.r<=x->x<=F.n->∀a,lW F x a->(lot 0).r a
 lU:E.r<=F.n->(lot 0).N (jg F.toFx 0)/\∀b,F.i b->(lot 0).I b
 e:0<E.r->∀k,E.S.md<k->k<=F.m->(lot F.L).r (jg F.toFx k)/\(lot F.L).r (jo F<|F.b k)
 f:0<E.r->E.N 0=ë->(lot F.L).N (jg F.toFx E.S.md)/\∀b,E.V E.S.md b->(lot F.L).I b
 h:∀j,j+2<=E.r->E.N (j+1)=ë->∀r,j+r*F.n<F.q->(E.C j).kD<=r->(lot<|F.L+1+j).r (jo F<|F.a<|j+r*F.n)
 l:∀j,j+2<=E.r->E.N (j+1)=ë->(lot<|F.L+1+j).N (jg F.toFx 0)/\∀b,F.i b->(lot<|F.L+1+j).I b
 S:∀x,E.ow x->lot (F.L+x)=kC (lot<|F.L+x)
 M:∀i,(i=0\/∃x,x<E.r/\i=F.L+x/\¬E.ow x)->¬(lot i).q
 c:∀i,0<i->i<F.L->lot i=kC (lot i)
 I:∀k,k<=E.S.md->∀b,E.V k b->b<w.heap.size/\¬E.Y b/\∀i,i<sz->¬(lot i).O b
 N:∀k,k<=E.S.md->∀i,i<sz->¬(lot i).r (jg F.toFx k)
 g:∀k,1<=k->k<=E.S.md->∀i,i<sz->¬(lot i).r (jo F<|F.b k)
 d:∀j,j+2<=E.r->∀r,j+r*F.n<F.q->r<(E.C j).kD->∀i,i<sz->¬(lot i).r (jo F<|F.a<|j+r*F.n)
structure Wd(F:Ph)(E:fT F)(w:Æ):Prop where
 C:ia w F.C E.b
 I:∀k,k<=F.m->ia w (F.I k) (E.a k)
 jI:∀j,j+2<=E.r->∃buf s,w.heap[E.I j]?=À (ay F.q buf (decide<|j<E.M.jf F.n) s (E.C j).iM Â)/\tY F.n j (E.M.mF F.q) s/\(E.C j).iM<=s/\buf.size=s-(E.C j).iM/\∀i,i<s-(E.C j).iM->buf[i]?=À (F.c<|j+((E.C j).iM+i)*F.n)
 M:∀k,k<=E.S.md->nD F k (E.c k)/\F.d k (E.c k) (E.V k) w
 S:∀k,1<=k->k<=E.S.md->w.cell? (jo F<|F.b k)=À (Į<|F.o k)
 N:∀j,j+2<=E.r->∀r,j+r*F.n<F.q->r<(E.C j).kD->w.cell? (jo F<|F.a<|j+r*F.n)=À (Į<|F.k<|j+r*F.n)
structure Ps(F:Ph)(E:fT F):Prop where
 v:E.V 0=F.i
 C:∀j,E.M=.go j\/E.M=.lF j\/E.M=.rd j\/E.M=.iE j->j<=F.n
 K:∀j,E.M=.lF j\/E.M=.rd j\/E.M=.iE j->1<=j
 L:∀r,(E.M=.iI r->r<=F.q)/\(E.M=.kX r->r<=F.n)
 J:E.r=0->E.S=.kN 0
 I:∀k,(E.S=.kN k->k<=F.m)/\(E.S=.mk k->1<=k/\k<=F.m)/\(∀p,E.S=.dn k p->1<=k/\k<=F.m)
 z:∀j,E.r<j+2->E.C j=.nA 0
 d:∀j r,j+2<=E.r->((∃p,E.C j=.fx r p)\/E.C j=.jK r\/E.C j=.oO r)->j+r*F.n<F.q
 l:∀j,j+2<=E.r->E.N (j+1)≠ë->j<E.M.jf F.n/\∃r,E.C j=.nA r/\∀i,j+i*F.n<F.q->i<r
 f:E.N 0≠ë->E.S=.kN F.m
 h:∀x,E.r<=x->E.N x=ë
 M:∀j j',j+2<=E.r->j'+2<=E.r->E.I j=E.I j'->j=j'
 o:∀j,j+2<=E.r->¬F.M (E.I j)/\E.I j≠F.Y/\F.S<=E.I j
 t:∀c reg,E.b=.cl c reg->c=bO (F.n+1) E.G/\reg=E.M.gB
 g:∀reg,E.b=.jG reg->bO (F.n+1) E.G=0/\reg=E.M.gB/\∃x,x<E.r/\E.g=À x/\(E.N x=À (.fZ (.gy reg))\/E.N x=À (.fZ (.jc reg)))
 u:∀r s,E.b=.gW r s->bO (F.n+1) E.G=0/\r+s=E.M.gB/\(0<r->∃x,x<E.r/\E.g=À x/\E.N x=À (.fZ (.iA r)))
 N:∀x p,E.N x=À (.fZ p)->(∀W,p=.gy W\/p=.jc W->E.g=À x/\E.b=.jG W)/\(∀r,p=.iA r->0<r/\E.g=À x/\∃s,E.b=.gW r s)
 B:E.M=.fx .gy\/E.M=.fx .lj\/E.M=.fZ->bO (F.n+1) E.G=0
 e:∀k,1<=k->k<=F.m->E.S.od<k->E.a k=.cl 1 (bO F.n λj=>(E.C j).gB F j k)
 Y:∀k,k<=F.m->k<=E.S.od->(∃W,(E.S=.dn k (.gy W)\/E.S=.dn k (.jc W))/\E.a k=.jG W/\W=bO F.n λj=>(E.C j).gB F j k)\/(∃r s,E.S=.dn k (.iA r)/\0<r/\E.a k=.gW r s/\r+s=bO F.n λj=>(E.C j).gB F j k)\/((∀p,E.S≠ .dn k p)/\((E.a k=.cl 0 0/\(bO F.n λj=>(E.C j).gB F j k)=0)\/∃s,E.a k=.gW 0 s/\s=bO F.n λj=>(E.C j).gB F j k))
 w:∀j r,j+2<=E.r->(E.C j=.fx r .gy\/E.C j=.fx r .lj\/E.C j=.jK r)->F.r (j+r*F.n)<=E.S.od
 H:∀j r,j+2<=E.r->E.C j=.fx r .gy->∃a b,E.a (F.r<|j+r*F.n)=.gW a b
 O:E.M=.fx .gy->∃a b,E.b=.gW a b
 S:(∀p,E.M≠ .fx p)->E.M≠ .fZ->∃c,E.b=.cl c 0
 y:∀k,k<=F.m->E.a k=.cl 1 0->E.d k=ë
 D:∀j r,j+2<=E.r->E.C j=.fx r .wr->E.d (F.r<|j+r*F.n)=À j
def ff(F:Ph)(E:fT F)(a:Array Ó)(w:Æ):Prop:=∀i g,a[i]?=À g->g.status=Ž->
 (i=0/\E.M=.fx .kB/\E.b.sm=0)\/(∃j,j+2<=E.r/\E.N (j+1)=ë/\i=F.L+1+j/\((∃r,E.C j=.fx r .kB/\(E.a<|F.r<|j+r*F.n).sm=0)\/∃r b s c,E.C j=.nA r/\w.heap[E.I j]?=À (ay b #[] Â s c Â)))
structure PI(F:Ph)(t0:Nat)(jm:dZ->Prop)(E:fT F)(S:Nat->Jd)(tr:Nat->gq)(kp:Nat->iz)(lot:Nat->e9)(gs:Array Ó)(w:Æ)(t:Ħ):Prop where
 b:gs.size=F.L+E.r
 I:gN F.P F.S E.Y S tr kp lot gs w t
 h:S 0=JM F E.I E.M/\kp 0=kM E.M
 m:0<E.r->E.N 0=ë->S F.L=JI F E.c E.S/\kp F.L=.no
 g:∀j,j+2<=E.r->E.N (j+1)=ë->S (F.L+1+j)=JW F (E.I j) j (E.C j)/\kp (F.L+1+j)=kW F (E.I j) (E.C j)
 k:∀x e,x<E.r->E.N x=À e->S (F.L+x)=JE F e/\kp (F.L+x)=.no/\((∃N,e=.ju N)->tr (F.L+x)=.fy)
 l:∀i,0<i->i<F.L->S i=pB F.P (E.h i)/\tr i=.fy/\kp i=.no
 a:iG F E lot gs.size w
 M:Wd F E w
 C:Ps F E
 d:TI F.toFx t0 jm E.r (E.S.rl) E.V E.e E.d E.iw E.f t
 c:ff F E gs w
 f:∀j r,j+2<=E.r->E.C j=.jK r->1<=F.r (j+r*F.n)->bN t (F.L+1+j) (E.e<|F.r<|j+r*F.n)
structure gS(F:Ph):Prop where
 C:F.Ok
 S:∀k s V w w',F.d k s V w->(∀b,V b->w'.heap[b]?=w.heap[b]?)->w'.cell? (jg F.toFx k)=w.cell? (jg F.toFx k)->w'.cell? (jo F F.f)=w.cell? (jo F F.f)->kV w' F.Y=kV w F.Y->(w'.os=w.os/\w'.output=w.output)->F.d k s V w'
 Ht:∀j dk l g w₁,F.g j dk l g->fF l l.w w₁->F.g j dk {l with w:=w₁} g
 I:∀j dk l g,F.g j dk l g->g.status=Ð
 N:∀k l g,F.h k l g->g.status=Ð
 Y:∀c i l g,F.e c i l g->g.status=Ð
 M:∀dk l g,F.j dk l g->g.status=Ð
 go:∀j dk l g,j<=F.n->F.g j dk l g->gu l->l.d=0/\∃(g' child:Ó) (X:Nat->Prop),g'.status=Ð/\child.status=Ð/\(∀w₁,Ü F.P È g w₁=.spawn g' child w₁ #[])/\(∀b,X b->l.O b)/\
  (1<=j->l.O (dk<|j-1)/\¬X (dk<|j-1)/\l.w.heap[dk<|j-1]?=À (ay F.q #[] Â 0 0 Â)/\F.S<=dk (j-1))/\
  (∀l':e9,gu l'->(∀b,X b\/l.I b->l'.I b)->l'.w=l.w->l'.d=0->¬l'.q->(∀b,¬l'.O b)->l'.K=l.K->l'.N=l.N->(∀a,l'.r a->l.r a)->fg F.P Â (if j=0 then F.h 0 else EE F (dk<|j-1) (j-1) 0) l' child)/\
  (∀l':e9,gu l'->l'.O=(λb=>l.O b/\¬X b/\(1<=j->b≠dk (j-1)))->(∀b,X b\/l.I b->l'.I b)->l'.w=l.w->l'.d=0->l'.q=l.q->l'.K=l.K->l'.N=l.N->(∀a,l'.r a->l.r a)->fg F.P È (JM F dk<|if j<F.n then .iE (j+1)else .iI F.q) l' g')
 f:∀k s V l g,k<F.m->F.h k l g->gu l->nD F k s->F.d k s V l.w->(∀b,V b->l.I b)->l.N (jg F.toFx k)->l.r (jg F.toFx<|k+1)->l.r (jo F<|F.b<|k+1)->∀sg:Nat->F.γ,sg k=s->fg F.P Â (JI F sg<|.mk (k+1)) l g
 h:∀l g,F.h F.m l g->gu l->fg F.P Â (AO F) l g
 e:∀c j r s V l g,j+r*F.n<F.q->F.e c (j+r*F.n) l g->∀l':e9,gu l'->l'.O=l.O->(∀b,l.I b\/V b->l'.I b)->l'.w=l.w->l'.d=l.d->l'.q=l.q->l'.r=l.r->l'.K=l.K->nD F (F.r<|j+r*F.n) s->F.d (F.r<|j+r*F.n) s V l.w->l'.N (jg F.toFx<|F.r<|j+r*F.n)->l'.r (jo F<|F.a<|j+r*F.n)->fg F.P Â (JW F c j<|.oO r) l' g
end Go.Proofs.Y.fq
