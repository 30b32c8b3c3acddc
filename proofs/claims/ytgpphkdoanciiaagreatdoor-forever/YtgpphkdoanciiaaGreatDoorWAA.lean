/- Refused: the texts of the proof, packed by program out of some 218: remarks struck, names and blanks shortened, for the sake of a claim's size alone. -/
import Derived.KernelRfl
import Derived.Conc.Own
import Derived.Conc.Events
import Derived.Laws.Sem
import Derived.Conc.Own5
import Derived.Conc.CompanyDraw
import Derived.Conc.Know
import Derived.Conc.Beside
import Derived.Conc.MarkLaws
import Derived.Conc.CrowdComm
import Derived.Conc.CrowdTrace
import Derived.Conc.CrowdBase
set_option linter.all false
set_option maxRecDepth 1000000
set_option maxHeartbeats 8000000
open Option renaming some->À,none->í,map_eq_some_iff->đ,map_some->Ů
open Go renaming TypeId->Á,Value->Ã,World->È,Goroutine->Ô,Program->Ù,Operand->Ú,Addr->Ü,stepG->Ý,FuncId->ã,execOp->î,underlying->ù,typeInfo->þ,run_program->ÿ,resolve->Ă,variablesAt->Ą,IntKind->Ć,Event->ĉ,loadBytes->Ė,invoke->Ę,builtin->ĝ,Sem->Ğ,zeroValue->Ġ,Frame->ģ,Trace->ħ,BinOp->ĭ,results->İ,behindNumber->Ļ,FloatKind->ľ,callFunc->Ń,askRoom->Ň,newRow->ō,undef->ŏ,choose->Ŗ,yielded->ŗ,sizeOf->Ŝ,storeCells->ŝ,elemOf->Ş,loadCellsFrom->Š,convert->Ŧ,movedNumber->ũ,Item->ű,movedPointer->ŷ,binOp->Α,sameAddr->Δ,deafBehind->Ε,lone->Η,eqGuard->Ο,partners->ο,RuntimeError->υ,Next->ae,cellAtBytes->ay,Tape->aG,loadVar->aH,Code->aQ,store->aR,Oper->aT,BoundsCode->aU,storeVar->bm,nilAhead->bA,load->bF,noView->bG,liesAt->bH,findLabel->bK,stringish->bN,Unsupported->bQ,followBlind->bS,Act->bZ,step->cu,Machine->cz,Question->cB,asBool->cD,asAddr->cE,fieldPlace->cF,viewAt->cI,numberAt->cJ,asNumber->cK,getObj->cN,shape->cO,exitTo->cV,gotoIn->cW,freeze->de,mayBeOne->df,runT->dz,MemOp->dA,loadCells->dB,rowAt->dC,program->dE,asIntOf->dF,byteOf->dI,unwind->dN,runN->dO,cellsIn->dP,asInt->dU,TypeDesc->dY,runN_add->ef,Touch->ei,Loc->ew,mark->ey,newObj->eE,PanicEntry->eK,isAgg->eR,Race->eZ
open Bool renaming false->Â,false_eq_true->Ç,true->Ë,and_eq_true_iff->Þ,not_true->ċ,not_false->ď,and_eq_true->ĕ,or_eq_true_iff->ŀ,eq_iff_iff->Ŋ,or_eq_true->ů
open Array renaming getElem?_eq_some_iff->Ä,getElem?_setIfInBounds_ne->É,getElem?_setIfInBounds_self_of_lt->Ó,mem_of_getElem?->Ø,getElem?_eq_getElem->ß,getElem?_modify->à,getElem?_append_right->Ā,getElem?_setIfInBounds->Đ,empty_append->ę,append_empty->Ě,mapM_eq_mapM_toList->ğ,mem_append->Ĩ,mem_zipIdx_iff_getElem?->Į,getElem?_push_lt->į,getD_eq_getD_getElem?->Ĵ,all_eq_true->ĵ,range->Ķ,replicate->ŋ,append_assoc->Ō,getElem?_eq_none->Œ,append_singleton->ŕ,mem_iff_getElem->ś,mem_toList_iff->ŭ,getElem_map->Ξ,getElem_extract->av,toList_zipIdx->aK,getElem?_push->aL,foldl_toList->aW,forIn_toList->bg
open Go.Sem renaming run_bind->Å,runT_bind'->Ð,run->ä,runT->ç,bind->è,run_bind'->ł,bind_assoc'->Ű,runT_fst->Ÿ,runT_eq->Υ,pure->bl,store->dD,halt->eP
open Or renaming inl->Æ,inr->Í
open Go.Result renaming andThen_ok->Ê,ok->ı,halt->cC
open Go.Op renaming operands->Ì,equal->û,maxDepth->Ď,eqGuardIn->ļ,twoPlaces->Ŷ,equalIn->φ,addrSub->χ,addrCmp->ψ,addrMod->ω,call->ah,intDiv->aJ,shift->bn,convert->br,stringOp->bR,unary->cH,makeInterface->dc,floatArith->du,complexOp->dJ,buildSlice->dV,intArith->dW,floatCmp->dX,binOp->ez,makeSlice->eA,fieldAddr->eB,indexAddr->eC,intBits->eF,nilCheck->eW,intCmp->eX
open Go.stepG renaming exec->Î,apply->bW
open Go.MemOp renaming ofEvents->Ï
open Go.GoStatus renaming running->Ñ,finished->ī,blocked->Ζ
open Go.Value renaming pointer->Ò,slice->ø,int->ē,string->Ĥ,bool->Ŏ,tuple->η,nilIface->bE,nilFunc->cA,chan->eO
open Nat renaming lt_of_lt_of_le->Õ,le_refl->á,le_trans->ö,exists_eq_add_of_le->Ő,div_le_div_right->az,add_assoc->dq,le_of_eq->dS,zero_le->dT
open Go.Builtin renaming firstCells->Ö,unsafeString_->ò,unsafeAdd_->ô,zeroCells->ú,unsafeSliceData_->Ģ,mayShare->ĩ,nextslicecap->ķ,min2->Ŀ,append_->ň,min_->Ř,copy_->ť,len_->Ŵ,cap_->ŵ,lenOf->ι,holdsCells->aY,unsafeSliceData->bM,unsafeString->dy
open List renaming map_toArray->Û,map_cons->æ,map_nil->é,mem_cons_self->ð,mem_cons_of_mem->õ,eq_nil_of_length_eq_zero->č,zipIdx_cons->Ĺ,mem_cons->ŧ,mem_singleton->Γ,foldlM_cons->ξ,filter_eq_nil_iff->ag,foldlM_nil->aj,forIn_cons->ak,mapM_cons->ax,forIn_nil->aE,map_eq_nil_iff->aO,flatMap_cons->bD,mapM_nil->dt
open Go.IntKind renaming i64->â,u64->ë,u32->ū
open Go.Item renaming inRegion->å,code->ě,inLoop->dK,inBlock->dZ,inScope->ec
open Go.Act renaming eval->ê
open Go.MemAct renaming ofEvent->ì,touch?->Č,mark->Ŭ
open Go.Conc renaming mem_ofEvents->ï,touchAt->Ħ,crowd->ņ,woken->Ź,stepG_region_draw->Χ,parked->ν,Deaf->af,rcase->ar,stepG_unwanted->aD,lt_size_of_getElem?->aP,g?_old->bj,knows_own->bO,deafBehind_still->bP,stepG_value->bU,stepG_enter->bV,Knows->bX,stepG_cond->cX,mem_listed->cZ,stepG_none->c9,enter_at->da,deaf_old->dm,touch_of->ek,act?_old->eu,hb_app->eL,touch_mute->eM,counts_old->eN,act?_of->eV
open Go.Next renaming value->ñ,enter->Β,skip->bk
open Go.TypeDesc renaming pointer->ó,unsafePointer->Ĝ,string->ĥ,int->κ,struct->dG,slice->dH
open Go.Call renaming operands->ü
open Go.Conv renaming unsafePointer->ý,bytesToString->Ĉ,seenAt->ε,runesToString->bh,floatToFloat->bz,intToString->bJ,floatToInt->cj,intToInt->dw
open Go.World renaming setCell->ā,frozen?->Ċ,freeze->ġ,cell?->Ĭ,farLoad->ş,farStore->Ż,shape?->ς,setChan->aS,noCell->bx,viewStore->cg
open Ne renaming symm->ă
open Option.some renaming inj->ą,injEq->ζ
open Go.Loc renaming cell->ć,mark->Θ
open Go.Extern.BytealgMakeNoZero renaming makeNoZero->Ē,digits->Ś
open Go.Mode renaming atomic->Ĕ,plain->ź
open Go.Obj renaming cells->ė,pending->Ρ,chan->aF
open Go.Callee renaming builtin->Ī,value->cL
open Go.Region renaming wanted->Ĳ,schedule->cm,Mode->ZnI
open Go.Instr renaming sliceBounds->ĳ,sliceBound->ĸ,buildSlice->ĺ,storeAt->Ł,makeSlice->ŉ,extract->š,fieldAt->Ţ,indexAt->ţ,sliceAt->Ť,makeInterface->Ų,loadAt->ų,sureAddr->ż,fill->Ž,alloc->Ι,field->Κ,slice->Λ,index->Μ,build->Ν,panic->Ω,box->aI
open Go.Deferred renaming ofValue->Ľ
open Go.Stepped renaming next->ń
open Go.Mark renaming releaseMerge->Ņ,noRoom->π,disable->dh,acquire->di,enable->dR,release->ep
open Go.Extern.AbiNoEscape renaming same->ő
open Go.Halt renaming unsupported->œ
open Go.Unsupported renaming unsafePointer->Ŕ,resourceLimit->ſ,noEntry->cG
open Go.Trace renaming g?->ř
open Go.Touch.Kind renaming atomic->Ũ
open Go.Frame renaming raise->Ū,finish_at->ai,finish->bC,catches->dx,enter->eg
open Go.Question renaming appendCap->ž
open Go.GStep renaming after->Τ,go->bB
open Go.RuntimeError renaming error->θ
open Go.Goroutine renaming again->au
open Except renaming bind->aA,pure->aB,error->b9,map->cM
open Go.Op.Complex renaming corrected->aC,quotient->aN,product->aZ,arith->bI,conv->ck,cmp->cP,mul->cQ,add->cR,sub->cS,quo->cT
open Go.BinOp renaming eql->aX,neq->bq
open Go.Operand renaming func->bu,const->eD,global->eS
open Go.Code renaming cond->bT,region->cy,refuse->dM,label->eG,block->eH,scope->eI
open Go.ConcN renaming sumTo->bY,fork_knows->dp
variable{i n j b k m J j9 j7 j6:Nat}{w u W jX:È}{v x z jQ:Ã}{g:Ô}{a p:Ü}{h c:Int}{e t T:Á}{d q:Array Ã}{P:Ù}{y:bZ}{B:ByteArray}{X:Nat->Prop}{O:Option Ü}{l:List Ã}{yQ:Bool}{K H:bZ->È->Prop}{o:aT}{D:Nat->Nat}{E:Array Ô}{L:List ű}{jJ:List Nat}{qX:List ģ}{qQ:Ú}{qJ:ħ}{zX:ew->Prop}{zQ:List Int}{zJ:Go.TypeInfo}{xX:Ú->Ã}{xQ:aG}{xJ:Nat×Nat}{wX:aQ}{wQ:dA}{wJ:Array Bool}{vX:List ByteArray}{vQ:Ã->È->Prop}{vJ:Go.Exit->bZ->È->Prop}{yX:ZnI}{Q:Array aT}{f:ģ}{V:Array ĉ}{F:ã}{s:Go.Func}
namespace Go.Proofs
theorem U{A:Sort _}{a:A}:a=a:=rfl
theorem Z{p:Prop}(h:p:=by omega):p:=h
theorem A{p:Prop}(h:p:=by decide):p:=h
theorem fB{p:Prop}(h:p:=by simp):p:=h
theorem fF{p:Prop}(h:p:=by kernel_rfl):p:=h
theorem gG{p:Prop}(h:p:=by rfl):p:=h
end Go.Proofs
namespace Go.Proofs.Y.Lift
open Go
structure fE where
 gy:Nat->Nat->Prop
 gd:Nat
instance:CoeFun fE λ_=>Nat->Nat->Prop:=⟨fE.gy⟩
def Bi(ρ:fE):Prop:=(∀i j a,ρ i j->ρ i a->j=a)/\(∀i a j,ρ i j->ρ a j->i=a)/\(∀i j,ρ i j->(i<ρ.gd↔j<ρ.gd))
def fE.le(ρ a:fE):Prop:=(∀i j,ρ i j->a i j)/\(Bi ρ->Bi a)/\a.gd=ρ.gd
def fE.J6(ρ:fE)(r a:Nat):fE:=⟨λi j=>ρ i j\/(i=r/\j=a),ρ.gd⟩
def fE.zd(ρ:fE):ρ.le ρ:=⟨λ_ _ h=>h,id,U⟩
def fE.pH{a b c:fE}(h:a.le b)(k:b.le c):a.le c:=⟨λi j x=>k.1 i j<|h.1 i j x,λx=>k.2.1<|h.2.1 x,k.2.2.trans h.2.2⟩
def fE.Sp{ρ:fE}{r:Nat}(c:∀j,¬ρ r j)(d:∀a,¬ρ a i)(f:ρ.gd<=r)(g:ρ.gd<=i):ρ.le (ρ.J6 r i):=by
 refine⟨λ_ _ h=>Æ h,λb=>⟨?_,?_,?_⟩,U⟩
 .rintro a j k (x|⟨rfl,rfl⟩) (y|⟨e,rfl⟩)
  .exact b.1 _ _ _ x y
  .subst e;exact absurd x<|c _
  .exact absurd y<|c _
  .rfl
 .rintro a k j (x|⟨rfl,rfl⟩) (y|⟨rfl,e⟩)
  .exact b.2.1 _ _ _ x y
  .subst e;exact absurd x<|d _
  .exact absurd y<|d _
  .rfl
 .rintro a j (x|⟨rfl,rfl⟩)
  .exact b.2.2 _ _ x
  .show(a<ρ.gd↔j<ρ.gd);omega
def iZ(ρ:fE)(a b:Ü):Prop:=ρ a.block b.block/\a.off=b.off/\a.spot=b.spot
def iZ.ft{ρ b:fE}(h:ρ.le b)(r:iZ ρ a p):iZ b a p:=⟨h.1 _ _ r.1,r.2⟩
def iZ.iX{ρ:fE}(r:iZ ρ a p)(n:Nat):iZ ρ (a.add n) (p.add n):=by
 let⟨b,c,d⟩:=r;unfold Addr.add;by_cases e:n=0
 .rw[if_pos e,if_pos e];exact⟨b,c,d⟩
 .rw[if_neg e,if_neg e];exact⟨b,by simp[c],U⟩
inductive fy(ρ:fE):Ã->Ã->Prop
 |oL (b:Bool):fy ρ (Ŏ b) (Ŏ b)
 |iL (k:Ć) (n:Int):fy ρ (ē k n) (ē k n)
 |mO (s:ByteArray):fy ρ (Ĥ s) (Ĥ s)
 |nY:fy ρ (Ò í) (Ò í)
 |lB {a a':Ü} (h:iZ ρ a a'):fy ρ (Ò<|À a) (Ò<|À a')
 |qd (n c:Nat):fy ρ (ø í n c) (ø í n c)
 |mP {a a':Ü} (h:iZ ρ a a') (n c:Nat):fy ρ (ø (À a) n c) (ø (À a') n c)
 |ze:fy ρ cA cA
 |fn (f:Fn):fy ρ (.func f #[] #[]) (.func f #[] #[])
 |zf:fy ρ bE bE
 |zg:fy ρ (eO í) (eO í)
 |zh:fy ρ (.map í) (.map í)
 |BM (t:Á) {v v':Ã} (h:fy ρ v v'):fy ρ (.iface t v) (.iface t v')
 |re {cs nZ:Array Ã} (hs:cs.size=nZ.size) (h:∀i (h1:i<cs.size) (h2:i<nZ.size),fy ρ cs[i] nZ[i]):fy ρ (.agg cs) (.agg nZ)
 |qe {cs nZ:Array Ã} (hs:cs.size=nZ.size) (h:∀i (h1:i<cs.size) (h2:i<nZ.size),fy ρ cs[i] nZ[i]):fy ρ (η cs) (η nZ)
def fy.ft{ρ a:fE}(h:ρ.le a)(r:fy ρ v x):fy a v x:=by
 induction r with
 |oL b=>exact .oL b
 |iL k n=>exact .iL k n
 |mO s=>exact .mO s
 |nY=>exact .nY
 |lB b=>exact .lB (b.ft h)
 |qd n c=>exact .qd n c
 |mP b n c=>exact .mP (b.ft h) n c
 |ze=>exact .ze
 |fn f=>exact .fn f
 |zf=>exact .zf
 |zg=>exact .zg
 |zh=>exact .zh
 |BM t _ b=>exact .BM t b
 |re c _ b=>exact .re c b
 |qe c _ b=>exact .qe c b
structure gA(ρ:fE)(cs nZ:Array Ã):Prop where
 fh:cs.size=nZ.size
 kt:∀i (h1:i<cs.size) (h2:i<nZ.size),fy ρ cs[i] nZ[i]
def gA.ft{ρ a:fE}(h:ρ.le a){cs:Array Ã}(r:gA ρ cs d):gA a cs d:=⟨r.fh,λi b c=>(r.kt i b c).ft h⟩
def gA.mQ{ρ:fE}(r:gA ρ d q)(i:Nat):(d[i]?=í/\q[i]?=í)\/∃v b,d[i]?=À v/\q[i]?=À b/\fy ρ v b:=by
 by_cases h:i<d.size
 .have a:i<q.size:=by rwa[<-r.fh]
  exact Í ⟨d[i],q[i],ß h,ß a,r.kt i h a⟩
 .have a:¬i<q.size:=by rwa[<-r.fh]
  exact Æ ⟨Œ Z,Œ Z⟩
def gA.He(ρ:fE):gA ρ #[] #[]:=⟨U,λi h=>absurd h fB⟩
def gA.Ys{ρ:fE}(r:gA ρ d q)(h:fy ρ v x):gA ρ (d.push v) (q.push x):=by
 refine⟨by simp[r.fh],λi b c=> ?_⟩;simp only[Array.getElem_push];have e:=r.fh;by_cases a:i<d.size
 .rw[dif_pos a,dif_pos Z];exact r.kt i a Z
 .rwa[dif_neg a,dif_neg Z]
def gA.iB{ρ:fE}{cs:Array Ã}(r:gA ρ cs d)(n:Nat)(h:fy ρ v x):gA ρ (cs.setIfInBounds n v) (d.setIfInBounds n x):=by
 refine⟨by simp[r.fh],λi c f=> ?_⟩;have g:i<cs.size:=by simpa using c
 have j:i<d.size:=by simpa using f
 have a:(cs.setIfInBounds n v)[i]?=if n=i then À v else cs[i]?:=by
  rw[Đ];by_cases e:n=i
  .rw[if_pos e,if_pos e,if_pos Z]
  .rw[if_neg e,if_neg e]
 have b:(d.setIfInBounds n x)[i]?=if n=i then À x else d[i]?:=by
  rw[Đ];by_cases e:n=i
  .rw[if_pos e,if_pos e,if_pos Z]
  .rw[if_neg e,if_neg e]
 rw[ß c]at a;rw[ß f]at b;by_cases e:n=i
 .rw[if_pos e]at a b;injection a with a;injection b with b;rwa[a,b]
 .rw[if_neg e]at a b;rw[ß g]at a;rw[ß j]at b;injection a with a;injection b with b;rw[a,b];exact r.kt i g j
def gA.xy{ρ:fE}{cs b:Array Ã}(r:gA ρ cs d)(t:gA ρ q b):gA ρ (cs++q) (d++b):=by
 refine⟨by simp[r.fh,t.fh],λi c g=> ?_⟩;have e:=r.fh;have f:=t.fh;simp only[Array.getElem_append];by_cases a:i<cs.size
 .rw[dif_pos a,dif_pos Z];exact r.kt i a Z
 .rw[dif_neg a,dif_neg Z];have:=t.kt (i-cs.size) (by simp at c;omega) (by simp at c;omega);simpa[e]using this
def gA.J7{ρ:fE}(r:gA ρ d q)(a b:Nat):gA ρ (d.extract a b) (q.extract a b):=by have e:=r.fh;refine⟨by simp[e],λi c f=> ?_⟩;have g:(d.extract a b)[i]=d[a+i]'(by simp at c;omega):=av ..;have h:(q.extract a b)[i]=q[a+i]'(by simp at f;omega):=av ..;rw[g,h];exact r.kt _ _ _
def gA.n5{ρ:fE}(h:fy ρ v x):gA ρ #[v] #[x]:= ⟨U,λi a b=>by have:i=0:=(by simpa using a);subst this;exact h⟩
def fy.iU{ρ:fE}(h:fy ρ v x):gA ρ v.cells x.cells:=by
 cases h with
 |re a h=>exact⟨a,h⟩
 |oL b=>exact gA.n5<|.oL b
 |iL k n=>exact gA.n5<|.iL k n
 |mO s=>exact gA.n5<|.mO s
 |nY=>exact gA.n5 .nY
 |lB b=>exact gA.n5<|.lB b
 |qd n c=>exact gA.n5<|.qd n c
 |mP b n c=>exact gA.n5<|.mP b n c
 |ze=>exact gA.n5 .ze
 |fn f=>exact gA.n5<|.fn f
 |zf=>exact gA.n5 .zf
 |zg=>exact gA.n5 .zg
 |zh=>exact gA.n5 .zh
 |BM t b=>exact gA.n5<|.BM t b
 |qe a h=>exact gA.n5<|.qe a h
def n5:Ã->Bool
 |.agg _|η _=>Â
 |_=>Ë
def J8(e:Á)(n:Nat):Prop:=(e=304\/e=305)/\n<=16
class Dx (P:Ù):Prop where
 lt:∀e n,J8 e n->n<P.cellsOf e
def Hf(e:Á)(n a:Nat):Prop:=n=a\/(n<=a/\J8 e n)
structure rX(ρ:fE)(s:Prop)(e:Á)(c c':Array Ã):Prop where
 kt:∀i (_:i<c.size) (_:i<c'.size),fy ρ c[i] c'[i]
 le:c.size<=c'.size
 eq:c.size=c'.size\/(s/\J8 e c.size)
section
variable{ρ d:fE}{s:Prop}{c c':Array Ã}
def rX.of(h:gA ρ c c'):rX ρ s e c c':=⟨h.kt,by rw[h.fh];exact á _,Æ h.fh⟩
def rX.jf(h:rX ρ s e c c')(a:¬s):gA ρ c c':=⟨h.eq.resolve_right λq=>a q.1,h.kt⟩
def rX.ft(h:rX ρ s e c c')(l:ρ.le d):rX d s e c c':=⟨λi a b=>(h.kt i a b).ft l,h.le,h.eq⟩
def rX.mQ(h:rX ρ s e c c')(i:Nat):(c[i]?=í/\True)\/∃v a,c[i]?=À v/\c'[i]?=À a/\fy ρ v a:=by
 by_cases q:i<c.size
 .have b:=Õ q h.le;exact Í ⟨c[i],c'[i],ß q,ß b,h.kt i q b⟩
 .exact Æ ⟨Œ Z,trivial⟩
def rX.aeX(h:rX ρ s e c c'):Hf e c.size c'.size:=h.eq.imp id λq=>⟨h.le,q.2⟩
end
inductive fT(P:Ù){α:Type}(V:fE->α->α->Prop):fE->Ğ α->Ğ α->Prop
 |fQ {ρ:fE} {a a':α} (h:V ρ a a'):fT P V ρ (bl a) (bl a')
 |ig {ρ:fE} {a a':Ü} {k k':Ã->Ğ α} (ha:iZ ρ a a') (hk:∀v v',fy ρ v v'->fT P V ρ (k v) (k' v')):fT P V ρ (.load ź a k) (.load ź a' k')
 |j1 {ρ:fE} {a a':Ü} {v v':Ã} {k k':Ğ α} (ha:iZ ρ a a') (hv:fy ρ v v') (hk:fT P V ρ k k'):fT P V ρ (dD ź a v k) (dD ź a' v' k')
 |fN {ρ:fE} {c c':Array Ã} {e:Á} {k k':Nat->Ğ α} (hc:gA ρ c c') (hk:∀r r',(∀j,¬ρ r j)->(∀i,¬ρ i r')->ρ.gd<=r->ρ.gd<=r'->fT P V (ρ.J6 r r') (k r) (k' r')):fT P V ρ (.new (ė c e) k) (.new (ė c' e) k')
 |kB {ρ:fE} {r r':Nat} {k k':Option (TypeId×Nat)->Ğ α} (hr:ρ r r') (hk:∀e n n',Hf e n n'->fT P V ρ (k<|À (e,n)) (k'<|À (e,n'))):fT P V ρ (.shape r k) (.shape r' k')
 |Sq {ρ:fE} {a a':Ü} {k k':Bool->Ğ α} (ha:iZ ρ a a') (hk:∀b b',(b'=Ë->b=Ë)->fT P V ρ (k b) (k' b')):fT P V ρ (.frozen a k) (.frozen a' k')
 |Dy {ρ:fE} {q:cB} {k k':Nat->Ğ α} (hk:∀n,fT P V ρ (k n)<|k' n):fT P V ρ (.choose q k) (.choose q k')
 |Nv {ρ:fE} {k k':Ù->Ğ α} (hk:fT P V ρ (k P) (k' P)):fT P V ρ (.program k) (.program k')
 |Hg {ρ:fE} {m:Mark} {k k':Ğ α} (hm:m=π\/∃f,m=.extern f) (hk:fT P V ρ k k'):fT P V ρ (.mark m k) (.mark m k')
 |gB {ρ:fE} {h:Halt} {m:Ğ α}:fT P V ρ (eP h) m
 |rf {ρ:fE} {m m':Ğ α} (h:∀u x u',m.run P u≠ı x u'):fT P V ρ m m'
def zi{α β:Type}{m:Ğ α}{f:α->Ğ β}(h:∀u x b,m.run P u≠ı x b):∀u x b,(m.bind f).run P u≠ı x b:=by
 intro u x b e;have c:(m>>=f).run P u=ı x b:=e;rw[Å]at c;cases d:m.run P u with
 |ok a w=>exact h _ _ _ d
 |halt z w=>rw[d]at c;cases c
def fT.oM{α β:Type}{V:fE->α->α->Prop}{l:fE->β->β->Prop}{ρ:fE}{m o:Ğ α}{f p:α->Ğ β}(h:fT P V ρ m o) (g:∀i a k,ρ.le i->V i a k->fT P l i (f a) (p k)):fT P l ρ (m.bind f) (o.bind p):=by
 induction h with
 |fQ h=>exact g _ _ _ (fE.zd _) h
 |ig j _ d=>exact .ig j λv c b=>d v c b g
 |j1 j b _ d=>exact .j1 j b (d g)
 |fN q _ d=>exact .fN q λr s c e n v=>d r s c e n v λi a k t b=>g i a k (fE.pH (fE.Sp c e n v) t) b
 |kB b _ d=>exact .kB b λe n v c=>d e n v c g
 |Sq j _ d=>exact .Sq j λb c v=>d b c v g
 |Dy _ d=>exact .Dy λn=>d n g
 |Nv _ d=>exact .Nv (d g)
 |Hg c _ d=>exact .Hg c (d g)
 |gB=>exact .gB
 |rf h=>exact .rf (zi h)
def BN:Ã->Bool
 |ē .u8 _=>Ë
 |_=>Â
def Hh(c:Array Ã):Prop:=∀(k:Nat) (v:Ã),c[k]?=À v->BN v=Â
structure km(ρ:fE)(Sh:Nat->Prop)(u w:È):Prop where
 lU:u.tape=w.tape
 BO:u.drawn=w.drawn
 bi:Bi ρ
 xA:ρ.gd<=u.heap.size
 xB:ρ.gd<=w.heap.size
 fu:∀i j,ρ i j->∃c c' e fr Ak,u.heap[i]?=À (ė c e fr)/\w.heap[j]?=À (ė c' e Ak)/\rX ρ (Sh j) e c c'/\(Sh j->fr.1=0/\c.size<=fr.2/\Ak.2<=fr.2/\0<c.size/\(Hh c\/J8 e c.size))/\(¬Sh j->fr=Ak)/\fr.2<=c.size
structure qf(ρ:fE)(Sh:Nat->Prop)(w w':È):Prop where
 fh:w.heap.size<=w'.heap.size
 os:w'.os=w.os
 mR:w'.output=w.output
 lU:w'.tape=w.tape
 fu:∀j,j<w.heap.size->(∀i,¬ρ i j)->w'.heap[j]?=w.heap[j]?
 sh:∀j,Sh j->j<w.heap.size->w'.heap[j]?=w.heap[j]?
def Dz(ρ:fE)(b:Nat->Prop)(e:ĉ):Prop:=
 (∃(a:Ü) (i:Nat),e.loc=ć a/\ρ i a.block/\e.sync=Â/\(e.write=Ë->¬b a.block))\/e.loc=Θ π\/∃f,e.loc=Θ (.extern f)
def Al{α:Type}{m:Mode}{k:Ğ α}(h:n5 v=Ë): ä P (dD m a v k) w=(match w.cell? a with
 |some _=>if w.frozen? a then cC (œ<|Ŕ "a write to bytes that a string shares") w else k.run P (w.setCell a v)
 |none=>match w.farStore P a v (m==Ĕ)with
  |.ok (w,_)=>k.run P w
  |b9 h=>cC h w):=by
 cases v<;>first|rfl|cases h
def aeY{α:Type}{m:Mode}{k:Ğ α}(h:n5 v=Ë): ç P (dD m a v k) w V=(match w.cell? a with
 |some _=>
  if w.frozen? a then(cC (œ<|Ŕ "a write to bytes that a string shares") w,V)
  else k.runT P (w.setCell a v) (V.push ⟨ć a,Ë,m==Ĕ⟩)
 |none=>match w.farStore P a v (m==Ĕ)with
  |.ok (w,touched)=>k.runT P w (V++touched.toArray.map (⟨.cell ·,Ë,m==.atomic⟩))
  |b9 h=>(cC h w,V)):=by
 cases v<;>first|rfl|cases h
def aeZ{α:Type}{m:Mode}{k:Ğ α}(h:n5 v=Â){x:α}:ä P (dD m a v k) w≠ı x u:=by cases v<;>first|exact Bool.noConfusion h|(intro e;simp[ä]at e)
def ae0{ρ:fE}(h:fy ρ v x):n5 x=n5 v:=by cases h<;>rfl
section
variable{ρ:fE}
def DC(h:u.heap[a.block]?=À (ė d e xJ)):u.cell? a=if a.spot.isSome then í else d[a.off]?:=by simp[Ĭ,h]
def ae1(h:u.heap[a.block]?=À (ė d e xJ))(b:Bool):∃x,u.farLoad P a b=b9 x:=by simp[ş,h]
def ae2(h:u.heap[a.block]?=À (ė d e xJ))(b:Bool):∃x,u.farStore P a v b=b9 x:=by simp[Ż,h]
def km.ig(h:km ρ X u w){a':Ü}(i:iZ ρ a a')(b:u.cell? a=À v):∃f,w.cell? a'=À f/\fy ρ v f:=by
 let⟨j,k,l⟩:=i;let⟨c,s,e,t,y,m,n,o,_⟩:=h.fu _ _ j;rw[DC m]at b;rw[DC n,<-k,<-l];cases g:a.spot with
 |some x=>rw[g]at b;cases b
 |none=>
  rw[g]at b;rcases o.mQ a.off with⟨d,_⟩|⟨x,p,d,q,r⟩
  .simp[d]at b
  .simp[d]at b;subst b;exact⟨p,by simp[q],r⟩
def km.ae3(h:km ρ X u w)(i:iZ ρ a p)(b:u.cell? a=À v)(j:u.frozen? a=Â):¬X p.block/\w.frozen? p=Â:=by
 let⟨k,l,r⟩:=i;let⟨c,t,e,d,y,f,m,z,n,o,B⟩:=h.fu _ _ k;rw[DC f]at b;have C:a.off<c.size:=by
  cases s:a.spot with
  |some x=>rw[s]at b;cases b
  |none=>rw[s]at b;exact(Ä.1<|by simpa using b).1
 have x:(decide (d.1<=a.off)&&decide (a.off<d.2))=Â:=by simpa[Ċ,f]using j
 have g:¬X p.block:=by intro s;let⟨q,D,_⟩:=n s;simp[q]at x;omega
 refine⟨g,?_⟩;have:=o g;subst this;simp only[Ċ,m,<-l];exact x
def Yt{w:È}(h:w.heap[a.block]?=À (ė d e xJ))(b:a.spot=í): (w.setCell a v).heap[a.block]?=À (ė (d.setIfInBounds a.off v) e xJ):=by simp[ā,à,h,b]
def ln{w:È}:(w.setCell a v).heap.size=w.heap.size:=by simp[ā]
def Nw{w:È}(h:a.block≠j):(w.setCell a v).heap[j]?=w.heap[j]?:=by simp[ā,à,h]
def km.j1(h:km ρ X u w)(C:iZ ρ a p)(D:fy ρ v z)(d:u.cell? a=À x)(n:¬X p.block):km ρ X (u.setCell a v) (w.setCell p z):=by
 let⟨f,E,F⟩:=C;have o:a.spot=í:=by
  let⟨c,q,e,g,k,b,_⟩:=h.fu _ _ f;rw[DC b]at d;cases i:a.spot with
  |some x=>rw[i]at d;cases d
  |none=>rfl
 have G:p.spot=í:=by rw[<-F,o]
 refine⟨h.lU,h.BO,h.bi,by rw[ln];exact h.xA,by rw[ln];exact h.xB,λi j l=> ?_⟩;let⟨c,q,e,g,k,b,r,t,H,y,B⟩:=h.fu i j l;by_cases m:a.block=i
 .subst m;have:j=p.block:=h.bi.1 _ _ _ l f;subst this;exact⟨_,_,e,g,k,Yt b o,Yt r G,by rw[<-E];exact rX.of<|(t.jf n).iB _ D,λs=>absurd s n,y,by simpa using B⟩
 .have s:p.block≠j:=λe=>m<|h.bi.2.1 _ _ _ f<|e▸l;exact⟨c,q,e,g,k,by rwa[Nw m],by rwa[Nw s],t,H,y,B⟩
def km.fN(h:km ρ X u w)(l:∀j,X j->j<w.heap.size){c c':Array Ã}(m:gA ρ c c'): km (ρ.J6 u.heap.size w.heap.size) X {u with heap:=u.heap.push (ė c e)} {w with heap:=w.heap.push (ė c' e)}:=by
 have a:∀i j,ρ i j->i<u.heap.size/\j<w.heap.size:=by intro i j d;let⟨_,_,_,_,_,s,b,_⟩:=h.fu i j d;exact⟨(Ä.1 s).1,(Ä.1 b).1⟩
 have f:=fE.Sp (ρ:=ρ) (λj x=>absurd (a _ _ x).1 Z) (λi x=>absurd (a _ _ x).2 Z) h.xA h.xB;refine⟨h.lU,h.BO,f.2.1 h.bi,by have:=h.xA;simp[fE.J6];omega,by have:=h.xB;simp[fE.J6];omega,?_⟩
 .rintro i j (x|⟨rfl,rfl⟩)
  .let⟨d,n,o,p,q,s,b,r,t,v,y⟩:=h.fu i j x;let⟨g,k⟩:=a i j x;exact⟨d,n,o,p,q,by simp only[į g];rw[<-s,ß g],by simp only[į k];rw[<-b,ß k],r.ft f,t,v,y⟩
  .exact⟨c,c',e,(0,0),(0,0),fB,fB,rX.of<|m.ft f,λs=>absurd (l _ s) Z,λ_=>rfl,dT _⟩
def qf.fY(ρ:fE)(X:Nat->Prop)(w:È):qf ρ X w w:=⟨á _,U,U,U,λ_ _ _=>rfl,λ_ _ _=>rfl⟩
def qf.fl{b:fE}{w₁:È}(h:qf ρ X w w₁)(k:qf b X w₁ u)(d:∀i j,b i j->ρ i j\/w.heap.size<=j):qf ρ X w u:= ⟨ö h.fh k.fh,k.os.trans h.os,k.mR.trans h.mR,k.lU.trans h.lU,λj a c=>(k.fu j (Õ a h.fh) λi y=>(d i j y).elim (c i) λz=>by omega).trans<|h.fu j a c,λj s a=>(k.sh j s<|Õ a h.fh).trans<|h.sh j s a⟩
def Nx{w:È}:(w.freeze a n).heap.size=w.heap.size:=by unfold ġ;split<;>simp
def ae4{w:È}:(w.freeze a n).os=w.os:=by unfold ġ;split<;>rfl
def ae5{w:È}:(w.freeze a n).output=w.output:=by unfold ġ;split<;>rfl
def Sr{w:È}:(w.freeze a n).tape=w.tape:=by unfold ġ;split<;>rfl
def Yu{w:È}:(w.freeze a n).drawn=w.drawn:=by unfold ġ;split<;>rfl
def Ny{w:È}(h:a.block≠j):(w.freeze a n).heap[j]?=w.heap[j]?:=by
 unfold ġ;split
 .rfl
 .simp[à,h]
def wH(a:Ü)(n:Nat)(b:Nat×Nat):Nat×Nat:=if n=0 then b else if b.1==b.2 then(a.off,a.off+n)else(min b.1 a.off,max b.2<|a.off+n)
def Yv{w:È}(h:w.heap[a.block]?=À (ė d e xJ)):(w.freeze a n).heap[a.block]?=À (ė d e<|wH a n xJ):=by
 unfold ġ wH;by_cases b:n=0
 .rwa[if_pos b,if_pos b]
 .rw[if_neg b,if_neg b];simp[à,h]
def Yw(h:a.off=p.off)(n:Nat)(b:Nat×Nat):wH a n b=wH p n b:=by unfold wH;rw[h]
def ae6(h:a.off+n<=i)(b:xJ.2<=i):(wH a n xJ).2<=i:=by
 unfold wH;split
 .exact b
 .split
  .exact h
  .exact Nat.max_le.2 ⟨b,h⟩
def ae7{b:Nat×Nat}(h:0<i)(c:xJ.1=0)(f:i<=xJ.2)(g:b.2<=xJ.2):(wH a n xJ).1=0/\i<=(wH a n xJ).2/\(wH a n b).2<=(wH a n xJ).2:=by
 unfold wH;by_cases d:n=0
 .simp only[if_pos d];exact⟨c,f,g⟩
 .have e:(xJ.1==xJ.2)=Â:=by rw[beq_eq_false_iff_ne];omega
  simp only[if_neg d,e,Ç,if_false];refine⟨by simp[c],Z,?_⟩;split<;>simp only<;>omega
def km.Nz(h:km ρ X u w)(y:iZ ρ a p)(n:Nat)(z:∀c e b,u.heap[a.block]?=À (ė c e b)->a.off+n<=c.size):km ρ X (u.freeze a n) (w.freeze p n):=by
 obtain⟨k,l,I⟩:=y;refine⟨Sr.trans<|h.lU.trans Sr.symm,Yu.trans<|h.BO.trans Yu.symm,h.bi,by rw[Nx];exact h.xA,by rw[Nx];exact h.xB,λi j d=> ?_⟩;obtain⟨c,m,e,b,B,f,o,q,r,t,v⟩:=h.fu i j d;by_cases g:a.block=i
 .subst g;have:j=p.block:=h.bi.1 _ _ _ d k;subst this;refine⟨c,m,e,_,_,Yv f,Yv o,q,λs=> ?_,λs=> ?_,ae6 (z _ _ _ f) v⟩
  .obtain⟨C,D,E,x⟩:=r s;rw[<-Yw l];obtain⟨F,G,H⟩:=ae7 x.1 C D E;exact⟨F,G,H,x⟩
  .rw[t s,Yw l]
 .have s:p.block≠j:=λe=>g<|h.bi.2.1 _ _ _ k<|e▸d;exact⟨c,m,e,b,B,by rwa[Ny g],by rwa[Ny s],q,r,t,v⟩
def km.fC(h:km ρ X u w)(b:iZ ρ a p):w.frozen? p=Ë->u.frozen? a=Ë:=by
 let⟨d,f,l⟩:=b;let⟨c,m,e,n,o,g,i,q,j,k,r⟩:=h.fu _ _ d;simp only[Ċ,g,i,<-f,ĕ,decide_eq_true_eq];rintro⟨x,y⟩;by_cases s:X p.block
 .let⟨t,v,z⟩:=j s;exact⟨Z,Z⟩
 .rw[k s];exact⟨x,y⟩
def fT.gR{α:Type}{V:fE->α->α->Prop}{ρ:fE}{m m':Ğ α}(h:fT P V ρ m m'):∀{u w:È},km ρ X u w->(∀j,X j->j<w.heap.size)->∀{x:α} {E:È},m.run P u=ı x E->∀n:Array ĉ,∃(l:fE) (t:α) (p:È) (B:Array ĉ),ρ.le l/\(∀i j,l i j->ρ i j\/(u.heap.size<=i/\w.heap.size<=j))/\m'.runT P w n=(ı t p,n++B)/\V l x t/\km l X E p/\qf ρ X w p/\(∀e∈B,Dz l X e)/\u.heap.size<=E.heap.size:=by
 induction h with
 |fQ h=>
  intro u w d _ x E b n;simp only[ä]at b;cases b;exact⟨_,_,w,#[],fE.zd _,λ_ _ h=>Æ h,by simp[ç],h,d,qf.fY _ _ _,λe o=>by simp at o,á _⟩
 |@ig ρ a a' k k' ha hk D=>
  intro u w d C x E b n;simp only[ä]at b;cases f:u.cell? a with
  |none=>
   let⟨c,Q,e,fr,Ak,N,_⟩:=d.fu _ _ ha.1;let⟨z,s⟩:=ae1 (P:=P) N<|ź==Ĕ;rw[f]at b;simp only[s]at b;cases b
  |some v=>
   rw[f]at b;let⟨Y,T,y⟩:=d.ig ha f;let⟨l,t,p,B,F,G,I,J,K,g,L,H⟩:=D v Y y d C b<|n.push ⟨ć a',Â,Â⟩;refine⟨l,t,p,#[⟨ć a',Â,Â⟩]++B,F,G,?_,J,K,g,λe o=> ?_,H⟩
   .simp only[ç,T];rw[show((ź==Ĕ)=Â)from U,I];rw[<-Ō,ŕ]
   .rcases Ĩ.1 o with o|o
    .simp at o;subst o;exact Æ ⟨a',_,U,F.1 _ _ ha.1,U,λe=>by cases e⟩
    .exact L e o
 |@j1 ρ a a' v Y k k' ha hv _ D=>
  intro u w d C x E b n;cases ho:n5 v with
  |false=>exact absurd b<|aeZ ho
  |true=>
   have ho':=(ae0 hv).trans ho;rw[Al ho]at b;cases f:u.cell? a with
   |none=>
    let⟨c,Q,e,fr,Ak,N,_⟩:=d.fu _ _ ha.1;let⟨z,s⟩:=ae2 (P:=P) (v:=v) N<|ź==Ĕ;rw[f]at b;simp only[s]at b;cases b
   |some y=>
    rw[f]at b;cases M:u.frozen? a with
    |true=>rw[M]at b;simp at b
    |false=>
     simp only[M,Ç,if_false]at b;let⟨ns,hf'⟩:=d.ae3 ha f M;let⟨y',Ss,_⟩:=d.ig ha f;let⟨l,t,p,B,F,G,I,J,K,g,L,H⟩:=D (d.j1 ha hv f ns) (by rwa[ln]) b<|n.push ⟨ć a',Ë,Â⟩;have T:(w.setCell a' Y).heap.size=w.heap.size:=ln;have Yx:(u.setCell a v).heap.size=u.heap.size:=ln;refine⟨l,t,p,#[⟨ć a',Ë,Â⟩]++B,F,by rwa[T,Yx]at G,?_,J,K,?_,λe o=> ?_,by rwa[Yx]at H⟩
     .rw[aeY ho',Ss];simp only[hf',Ç,if_false];rw[show((ź==Ĕ)=Â)from U,I];rw[<-Ō,ŕ]
     .refine⟨by rw[<-T];exact g.fh,g.os,g.mR,g.lU,λj O W=> ?_,λj s O=>(g.sh j s<|by rwa[T]).trans<|Nw λe=>ns<|e▸s⟩;rw[g.fu j (by rwa[T]) W];exact Nw λe=>W a.block<|e▸ha.1
     .rcases Ĩ.1 o with o|o
      .simp at o;subst o;exact Æ ⟨a',_,U,F.1 _ _ ha.1,U,λ_=>ns⟩
      .exact L e o
 |@fN ρ c Q e k k' f _ D=>
  intro u w d C x E b n;simp only[ä]at b;have lo:∀i j,ρ i j->i<u.heap.size/\j<w.heap.size:=by intro i j T;let⟨_,_,_,_,_,N,Y,_⟩:=d.fu i j T;exact⟨(Ä.1 N).1,(Ä.1 Y).1⟩
  have n1:∀j,¬ρ u.heap.size j:=λj y=>absurd (lo _ _ y).1 Z;have n2:∀i,¬ρ i w.heap.size:=λi y=>absurd (lo _ _ y).2 Z;let⟨l,t,p,B,F,G,I,J,K,g,L,H⟩:=D u.heap.size w.heap.size n1 n2 d.xA d.xB (d.fN C f) (λj s=>by have:=C j s;simp;omega) b n;have le:=fE.Sp n1 n2 d.xA d.xB;refine⟨l,t,p,B,fE.pH le F,λi j T=> ?_,by simp only[ç];exact I,J,K,?_,L,by simp at H;omega⟩
  .rcases G i j T with(y|⟨rfl,rfl⟩)|y
   .exact Æ y
   .exact Í ⟨á _,á _⟩
   .simp at y;exact Í ⟨Z,Z⟩
  .have hs:=g.fh;simp at hs;refine⟨Z,g.os,g.mR,g.lU,λj O W=> ?_,λj s O=>(g.sh j s<|by simp;omega).trans ?_⟩
   .rw[g.fu j (by simp;omega) (λi z=>z.elim (W i) λz=>by omega)];simp[į O]
   .simp[į O]
 |@kB ρ r r' k k' qG _ D=>
  intro u w d C x E b n;simp only[ä]at b;let⟨c,Q,e,fr,Ak,N,Y,T,_⟩:=d.fu _ _ qG;have f:u.shape? r=À (e,c.size):=by simp[ς,N]
  have s:w.shape? r'=À (e,Q.size):=by simp[ς,Y]
  rw[f]at b;let⟨l,t,p,B,h⟩:=D e c.size Q.size T.aeX d C b n;exact⟨l,t,p,B,by simp only[ç,s];exact h⟩
 |@Sq ρ a a' k k' ha _ D=>
  intro u w d C x E b n;simp only[ä]at b;let⟨l,t,p,B,h⟩:=D (u.frozen? a) (w.frozen? a') (d.fC ha) d C b n;exact⟨l,t,p,B,by simpa only[ç]using h⟩
 |@Dy ρ q k k' _ D=>
  intro u w d C x E b n;simp only[ä]at b;cases M:q.forced with
  |true=>
   rw[M]at b;simp only[if_true]at b;let⟨l,t,p,B,h⟩:=D 0 d C b n;exact⟨l,t,p,B,by simpa only[ç,M,if_true]using h⟩
  |false=>
   rw[M]at b;simp only[Ç,if_false]at b;have T:km ρ X {u with drawn:=u.drawn+1} {w with drawn:=w.drawn+1}:=⟨d.lU,by simp[d.BO],d.bi,d.xA,d.xB,d.fu⟩;rw[d.lU,d.BO]at b;obtain⟨l,t,p,B,F,G,I,J,K,g,L,H⟩:=D (q.cut<|w.tape w.drawn q) T C (by rwa[d.lU,d.BO]) n;exact⟨l,t,p,B,F,G,by simp only[ç,M,Ç,if_false];exact I,J,K,⟨g.fh,g.os,g.mR,g.lU,g.fu,g.sh⟩,L,H⟩
 |Nv _ D=>
  intro u w d C x E b n;simp only[ä]at b;let⟨l,t,p,B,h⟩:=D d C b n;exact⟨l,t,p,B,by simpa only[ç]using h⟩
 |@Hg ρ mk k k' hm _ D=>
  intro u w d C x E b n;simp only[ä]at b;let⟨l,t,p,B,F,G,I,J,K,g,L,H⟩:=D d C b<|n.push ⟨Θ mk,Â,Ë⟩;refine⟨l,t,p,#[⟨Θ mk,Â,Ë⟩]++B,F,G,?_,J,K,g,λe o=> ?_,H⟩
  .simp only[ç];rw[I];rw[<-Ō,ŕ]
  .rcases Ĩ.1 o with o|o
   .simp at o;subst o;rcases hm with rfl|⟨f,rfl⟩
    .exact Í<|Æ U
    .exact Í<|Í ⟨f,U⟩
   .exact L e o
 |gB=>
  intro u w _ _ x E b n;simp only[ä]at b;cases b
 |rf h=>
  intro u w _ _ x E b n;exact absurd b<|h _ _ _
end
inductive lq:Ã->Prop
 |oL (b:Bool):lq (Ŏ b)
 |iL (k:Ć) (n:Int):lq (ē k n)
 |mO (s:ByteArray):lq (Ĥ s)
 |nY:lq (Ò í)
 |qd (n c:Nat):lq (ø í n c)
 |ze:lq cA
 |zf:lq bE
 |zg:lq (eO í)
 |zh:lq (.map í)
 |re {cs:Array Ã} (h:∀i (h:i<cs.size),lq cs[i]):lq (.agg cs)
 |qe {cs:Array Ã} (h:∀i (h:i<cs.size),lq cs[i]):lq (η cs)
def lq.gy(h:lq v)(ρ:fE):fy ρ v v:=by
 induction h with
 |oL b=>exact .oL b
 |iL k n=>exact .iL k n
 |mO s=>exact .mO s
 |nY=>exact .nY
 |qd n c=>exact .qd n c
 |ze=>exact .ze
 |zf=>exact .zf
 |zg=>exact .zg
 |zh=>exact .zh
 |re _ b=>exact .re U λi c _=>b i c
 |qe _ b=>exact .qe U λi c _=>b i c
def qg(P:Ù):Prop:=∀t i z,P.info? t=À i->i.zero=À z->lq z
def kC{α:Type}:fE->α->α->Prop:=λ_ a b=>a=b
section
variable{ρ:fE}
def fR{α β:Type}{V:fE->α->α->Prop}{V':fE->β->β->Prop}{m c:Ğ α}{f d:α->Ğ β}(h:fT P V ρ m c) (g:∀b a e,ρ.le b->V b a e->fT P V' b (f a) (d e)):fT P V' ρ (m>>=f) (c>>=d):=fT.oM h g
def wI{α β:Type}{c:fE->β->β->Prop}{m:Ğ α}{f d:α->Ğ β}(h:fT P kC ρ m m) (g:∀b a,ρ.le b->fT P c b (f a) (d a)):fT P c ρ (m>>=f) (m>>=d):= fT.oM h λb a i j (e:a=i)=>by subst e;exact g b a j
def uZ:fT P (λ_ a b=>a=P/\b=P) ρ dE dE:=.Nv (.fQ ⟨U,U⟩)
def Sv{α:Type}{V:fE->α->α->Prop}{e:υ}(h:(∃x y s c,e=.bounds x y s c)\/(∃m,e=θ m)\/(∃m,e=.plain m)\/e=.nilDeref):fT P V ρ (runtimePanic e) (runtimePanic e):=by unfold runtimePanic;refine fR uZ ?_;rintro f a g _ ⟨b,d⟩;rw[b,d];rcases h with⟨x,y,s,c,rfl⟩|⟨m,rfl⟩|⟨m,rfl⟩|rfl<;>exact .gB
def J9{α:Type}{V:fE->α->α->Prop}{k:Ć}{y:Int}{c:aU}:fT P V ρ (boundsPanic k h y c) (boundsPanic k h y c):=by
 unfold boundsPanic;simp only[];split
 .apply wI (.Dy λn=> .fQ U);intro n a _;exact Sv<|Æ ⟨_,_,_,_,U⟩
 .exact Sv<|Æ ⟨_,_,_,_,U⟩
def BP(t:Á):fT P (λ_ a b=>a=b/\P.info? t=À a) ρ (þ t) (þ t):=by
 unfold þ;apply fR uZ;rintro e a b _ ⟨c,d⟩;rw[c,d];cases h:P.info? t with
 |some i=>exact .fQ ⟨U,U⟩
 |none=>exact .gB
def j2(t:Á):fT P (λ_ a b=>a=b/\P.underlying t=À a) ρ (ù t) (ù t):=by
 unfold ù;apply fR uZ;rintro e a b _ ⟨c,d⟩;rw[c,d];cases h:P.underlying t with
 |some i=>exact .fQ ⟨U,U⟩
 |none=>exact .gB
def Ka(b:qg P)(t:Á):fT P fy ρ (Ġ t) (Ġ t):=by
 unfold Ġ;apply fR (BP t);rintro d a e _ ⟨rfl,h⟩;cases c:a.zero with
 |some z=>exact .fQ ((b t a z h c).gy _)
 |none=>exact .gB
def pI(t:Á):fT P (λ_ a b=>a=b/\∃i,P.info? t=À i/\i.size=a) ρ (Ŝ t) (Ŝ t):=by unfold Ŝ;apply fR (BP t);rintro i a b _ ⟨rfl,h⟩;exact .fQ ⟨U,_,h,U⟩
def Yy(t:Á):fT P kC ρ (eR t) (eR t):=by unfold eR;apply fR (j2 t);rintro b a c _ ⟨rfl,_⟩;split<;>exact .fQ U
def NA(h:iZ ρ a p):fT P fy ρ (bF a) (bF p):=.ig h λ_ _ b=> .fQ b
def ae8(h:iZ ρ a p)(b:fy ρ v x):fT P kC ρ (aR a v) (aR p x):=.j1 h b (.fQ U)
def ae9:∀{ρ:fE} {a b:Ü} {i:Nat} {c d:Array Ã},iZ ρ a b->gA ρ c d->fT P gA ρ (Š a i n c) (Š b i n d):=by
 induction n with
 |zero=>intro ρ a b i c d _ e;exact .fQ e
 |succ n h=>
  intro ρ a b i c d f e;unfold Š;apply fR (NA<|f.iX i);intro k v l g j;exact h (f.ft g)<|(e.ft g).Ys j
def Sw(h:iZ ρ a p)(n:Nat):fT P gA ρ (dB a n) (dB p n):=ae9 h<|gA.He ρ
def Sx:∀{d c:List Ã} {ρ:fE} {a e:Ü} {i:Nat},iZ ρ a e->gA ρ d.toArray c.toArray->fT P kC ρ (ŝ a d i) (ŝ e c i):=by
 intro d
 induction d with
 |nil=>
  intro c ρ a e i _ b;have:c=[]:=by have:=b.fh;simp at this;exact č this.symm
  subst this;exact .fQ U
 |cons v d h=>
  intro c ρ a e i f b;match c,b with
  |[],b=>have:=b.fh;simp at this
  |v'::c,b=>
   unfold ŝ;have k:fy ρ v v':=by have:=b.kt 0 fB fB;simpa using this
   apply fR (ae8 (f.iX i) k);intro n _ _ g _;apply h (f.ft g);refine⟨by have:=b.fh;simpa using this,λj l m=> ?_⟩;have:=b.kt (j+1) (by simp at l|-;omega) (by simp at m|-;omega);exact(by simpa using this:fy ρ _ _).ft g
def Yz(h:iZ ρ a p)(t:Á):fT P fy ρ (aH t a) (aH t p):=by
 unfold aH;apply wI (Yy t);intro g b d;split
 .apply fR (pI t);rintro i n _ f ⟨rfl,_⟩;apply fR (Sw ((h.ft d).ft f) n);intro j c k _ e;exact .fQ (.re e.fh e.kt)
 .exact NA<|h.ft d
def afa(h:iZ ρ a p)(t:Á)(d:fy ρ v x):fT P kC ρ (bm t a v) (bm t p x):=by
 unfold bm;apply fR (pI t);rintro f n _ b ⟨rfl,_⟩;have c:=(d.ft b).iU;by_cases e:v.cells.size≠n
 .rw[if_pos e];exact .gB
 .rw[if_neg e,if_neg (by rwa[<-c.fh])];exact Sx (h.ft b) c
def Kb(e:Á)(h:gA ρ d q):fT P iZ ρ (ō e d) (ō e q):= .fN h λ_ _ _ _ _ _=> .fQ ⟨Í ⟨U,U⟩,U,U⟩
def YA(t:Á)(h:fy ρ v x):fT P iZ ρ (newVar t v) (newVar t x):=Kb t h.iU
def YB(t:Á)(h:gA ρ d q)(a:Nat):fT P fy ρ (part t d a) (part t q a):=by
 unfold part;apply wI (Yy t);intro i b e;split
 .apply fR (pI t);rintro g n _ f ⟨rfl,_⟩;have:=((h.ft e).ft f).J7 a<|a+n;exact .fQ (.re this.fh this.kt)
 .rcases(h.ft e).mQ a with⟨n,f⟩|⟨v,j,n,f,g⟩
  .rw[n];exact .gB
  .rw[n,f];exact .fQ g
def Ke(h:fy ρ v x):fT P iZ ρ (ż v) (ż x):=by cases h<;>first|exact .gB|(rename_i a;exact .fQ a)
def NB(h:fy ρ v x):fT P kC ρ (dF v) (dF x):=by cases h<;>first|exact .fQ U|exact .gB
def Sy(h:fy ρ v x):fT P kC ρ (dU v) (dU x):=by unfold dU;apply fR (NB h);rintro b a _ _ rfl;exact .fQ U
def YC(h:fy ρ v x):fT P kC ρ (cD v) (cD x):=by cases h<;>first|exact .fQ U|exact .gB
def afb(h:fy ρ v x):fT P gA ρ (asAgg v) (asAgg x):=by cases h<;>first|exact .gB|(rename_i a y;exact .fQ ⟨a,y⟩)
def YD(h:fy ρ v x):fT P iZ ρ (cE v) (cE x):=by cases h<;>first|exact Sv (Í<|Í<|Í U)|(rename_i a;exact .fQ a)|exact .gB
def afc(b:qg P)(t:Á)(v:Ã):fT P fy ρ (Ι t Ë v) (Ι t Ë v):=by unfold Ι;apply fR (Ka b t);intro d z e _ h;apply fR (YA t h);intro f a g _ c;exact .fQ (.lB c)
def afd(t:Á)(h:fy ρ v x):fT P fy ρ (aI t v) (aI t x):=by unfold aI;apply fR (YA t h);intro c a d _ b;exact .fQ (.lB b)
def afe(t:Á)(h:fy ρ v x):fT P fy ρ (ų t v) (ų t x):=by unfold ų;apply fR (Ke h);intro c a d _ b;exact Yz b t
def aff(t:Á)(b:fy ρ x z)(h:fy ρ v jQ):fT P kC ρ (Ł t x v) (Ł t z jQ):=by unfold Ł;apply fR (Ke b);intro d x z c b;exact afa b t<|h.ft c
def afg(h:fy ρ v x)(n:Nat):fT P fy ρ (š v n) (š x n):=by
 cases h<;>first|exact .gB|skip
 rename_i e f c h;simp only[š];rcases(gA.mk c h).mQ n with⟨a,b⟩|⟨v,x,a,b,d⟩
 .rw[a];exact .gB
 .rw[a,b];exact .fQ d
def afh(t:Á)(h:fy ρ v x)(n:Nat):fT P fy ρ (Κ t v n) (Κ t x n):=by
 unfold Κ;apply fR (j2 t);rintro g d _ a ⟨rfl,_⟩;split
 .rename_i b _;cases i:b[n]? with
  |none=>exact .gB
  |some f=>
   apply fR (afb<|h.ft a);intro j c k _ e;exact YB f.type e f.offset
 .exact .gB
end
section
variable{ρ:fE}
def DF{α β:Type}{V:fE->β->β->Prop}{a b:α}{f c:α->Ğ β}(h:fT P V ρ (f a) (c b)):fT P V ρ (pure a>>=f) (pure b>>=c):=h
def afi(s:Á)(h:fy ρ v x)(n:Nat)(e:∀c f i,P.underlying s=À (dG c)->c[n]?=À f->P.info? f.type=À i->i.size≠0): fT P fy ρ (Ţ s v n) (Ţ s x n):=by
 unfold Ţ;apply fR (j2 s);rintro r d _ g ⟨rfl,j⟩;cases d<;>try exact .gB
 .rename_i c;simp only[];cases k:c[n]? with
  |none=>exact .gB
  |some f=>
   apply fR (Ke<|h.ft g);intro t a u _ l;unfold cF;refine fR (fR (V':=iZ) (pI f.type) ?_) ?_
   .rintro w z _ m ⟨rfl,i,o,p⟩;have:¬z=0:=by rw[<-p];exact e c f i j k o
    rw[if_neg this,if_neg this];exact .fQ ((l.ft m).iX _)
   .intro y b B _ q;exact .fQ (.lB q)
def afj(t:Á){s:Ã}(w:fy ρ x v)(y:fy ρ jQ s):fT P fy ρ (ţ t x jQ) (ţ t v s):=by
 unfold ţ;apply fR (NB y);rintro I ⟨k,n⟩ _ B rfl;apply fR (j2 t);rintro J d _ C ⟨rfl,K⟩;have u:=(w.ft B).ft C;have D:∀{j:fE} {b g:Option Ü} (f:Nat) (e:Á),((b=í/\g=í)\/∃a h,b=À a/\g=À h/\iZ j a h)->∀(o:Bool),fT P fy j (match b with
   |some a=>if 0<=n/\n<f then do pure (Ò<|À<|a.add<|n.toNat*(<-Ŝ e))else if o=Ë then unsupported (cG "op/indexAddr.an index out of range at an array of length 0 or 1 (ledger 616)")else boundsPanic k n f .index
   |none=>boundsPanic k n 0 .index)
  (match g with
   |some a=>if 0<=n/\n<f then do pure (Ò<|À<|a.add<|n.toNat*(<-Ŝ e))else if o=Ë then unsupported (cG "op/indexAddr.an index out of range at an array of length 0 or 1 (ledger 616)")else boundsPanic k n f .index
   |none=>boundsPanic k n 0 .index):=by
  intro j b g f e p o;rcases p with⟨rfl,rfl⟩|⟨a,h,rfl,rfl,l⟩
  .exact J9
  .simp only[];split
   .apply fR (pI e);rintro E z _ q ⟨rfl,_⟩;exact .fQ (.lB ((l.ft q).iX _))
   .split
    .exact .gB
    .exact J9
 have r:∀{j:fE} {b g:Option Ü} (f:Nat) (e:Á),((b=í/\g=í)\/∃a h,b=À a/\g=À h/\iZ j a h)->fT P fy j (ù t>>=λd=>match b with
   |some a=>if 0<=n/\n<f then do pure (Ò<|À<|a.add<|n.toNat*(<-Ŝ e))else if(decide (f<=1)&&(match d with|.array .. =>Ë|_=>Â))=Ë then unsupported (cG "op/indexAddr.an index out of range at an array of length 0 or 1 (ledger 616)")else boundsPanic k n f .index
   |none=>boundsPanic k n 0 .index)
  (ù t>>=λd=>match g with
   |some a=>if 0<=n/\n<f then do pure (Ò<|À<|a.add<|n.toNat*(<-Ŝ e))else if(decide (f<=1)&&(match d with|.array .. =>Ë|_=>Â))=Ë then unsupported (cG "op/indexAddr.an index out of range at an array of length 0 or 1 (ledger 616)")else boundsPanic k n f .index
   |none=>boundsPanic k n 0 .index):=by
  intro j b g f e p;apply fR (j2 t);rintro E d _ q ⟨rfl,_⟩;exact D f e (p.imp id λ⟨a,h,F,G,H⟩=>⟨a,h,F,G,H.ft q⟩) _
 cases d<;>try exact .gB
 .rename_i e;cases u<;>first|exact .gB|skip
  .rename_i m c;exact r m e<|Æ ⟨U,U⟩
  .rename_i l m c;exact r m e<|Í ⟨_,_,U,U,l⟩
 .rename_i f e;apply fR (Ke u);intro j a h _ l;exact r f e<|Í ⟨_,_,U,U,l⟩
def Hi(h:fy ρ x v)(y:Nat)(c:aU):fT P kC ρ (ĸ x y c) (ĸ v y c):=by
 unfold ĸ;apply fR (NB h);rintro a ⟨k,n⟩ _ b rfl;simp only[];split
 .exact .fQ U
 .exact J9
def u5(ρ:fE)(x a:Option Ã):Prop:=(x=í/\a=í)\/∃v b,x=À v/\a=À b/\fy ρ v b
def u5.ft{ρ a:fE}(h:ρ.le a){x b:Option Ã}(r:u5 ρ x b):u5 a x b:=r.imp id λ⟨v,c,d,e,f⟩=>⟨v,c,d,e,f.ft h⟩
def Kf(g:Bool)(i j:Nat){l k h n m o:Option Ã}(d:u5 ρ l k)(p:u5 ρ h n)(u:u5 ρ m o):fT P kC ρ (ĳ g i j l h m) (ĳ g i j k n o):=by
 unfold ĳ;rcases u with⟨rfl,rfl⟩|⟨C,D,rfl,rfl,w⟩
 .refine DF ?_;rcases p with⟨rfl,rfl⟩|⟨x,y,rfl,rfl,e⟩
  .refine DF ?_;have b:=d;rcases b with⟨rfl,rfl⟩|⟨v,r,rfl,rfl,c⟩
   .exact .fQ U
   .apply fR (Hi c _ _);rintro s q _ _ rfl;exact .fQ U
  .refine fR (Hi e _ _) ?_;rintro B a _ f rfl;have b:=(d.ft f);rcases b with⟨rfl,rfl⟩|⟨v,r,rfl,rfl,c⟩
   .exact .fQ U
   .apply fR (Hi c _ _);rintro s q _ _ rfl;exact .fQ U
 .refine fR (Hi w _ _) ?_;rintro E a _ t rfl;rcases p with⟨rfl,rfl⟩|⟨x,y,rfl,rfl,e⟩
  .exact .gB
  .refine fR (Hi (e.ft t) _ _) ?_;rintro B z _ f rfl;have b:=((d.ft t).ft f);rcases b with⟨rfl,rfl⟩|⟨v,r,rfl,rfl,c⟩
   .exact .fQ U
   .apply fR (Hi c _ _);rintro s q _ _ rfl;exact .fQ U
def afk(t:Á)(k:fy ρ x v){l C h D m u:Option Ã}(g:u5 ρ l C)(i:u5 ρ h D)(j:u5 ρ m u):fT P fy ρ (Λ t x l h m) (Λ t v C D u):=by
 unfold Λ;apply fR (j2 t);rintro I d _ o ⟨rfl,J⟩;have k:=k.ft o;have g:=g.ft o;have i:=i.ft o;have j:=j.ft o;cases d<;>try exact .gB
 .cases k<;>first|exact .gB|skip
  rename_i s;have e:m.isSome=u.isSome:=by rcases j with⟨rfl,rfl⟩|⟨_,_,rfl,rfl,_⟩<;>rfl
  simp only[e];split
  .exact .gB
  .apply fR (Kf Â s.size s.size g i<|Æ ⟨U,U⟩);rintro G ⟨a,b,c⟩ _ _ rfl;exact .fQ (.mO _)
 .rename_i H;apply fR (YD k);intro G a K B f;apply fR (j2 H);rintro L d _ p ⟨rfl,_⟩;have g:=(g.ft B).ft p;have i:=(i.ft B).ft p;have j:=(j.ft B).ft p;have f:=f.ft p;cases d<;>try exact .gB
  rename_i n e _;apply fR (Kf Â n n g i j);rintro E ⟨x,y,z⟩ _ q rfl;apply fR (pI e);rintro F w _ r ⟨rfl,_⟩;have f:=(f.ft q).ft r;refine .fQ (.mP ?_ _ _);split
  .exact f
  .exact f.iX _
 .rename_i e;cases k<;>first|exact .gB|skip
  .rename_i n c;apply fR (Kf Ë n c g i j);rintro E ⟨x,y,z⟩ _ q rfl;apply fR (pI e);rintro F w _ r ⟨rfl,_⟩;simp only[Option.map_none,ite_self];exact .fQ (.qd _ _)
  .rename_i f n c;apply fR (Kf Ë n c g i j);rintro E ⟨x,y,z⟩ _ q rfl;apply fR (pI e);rintro F w _ r ⟨rfl,_⟩;have f:=(f.ft q).ft r;by_cases e:z=x
   .simp only[e,if_true];exact .fQ (.mP f _ _)
   .simp only[e,if_false,Ů];exact .fQ (.mP (f.iX _) _ _)
def afl(t:Á)(b:fy ρ x v){l o h p m q:Option Ã}(c:u5 ρ l o)(f:u5 ρ h p)(g:u5 ρ m q):fT P fy ρ (Ť t x l h m) (Ť t v o p q):=by
 unfold Ť;apply fR (j2 t);rintro u d _ i ⟨rfl,B⟩;have b:=b.ft i;have c:=c.ft i;have f:=f.ft i;have g:=g.ft i;cases d<;>try exact afk t b c f g
 rename_i n e;apply fR (Ke b);intro C a D k j;apply fR (Kf Â n n (c.ft k) (f.ft k)<|g.ft k);rintro E ⟨x,y,z⟩ _ r rfl;apply fR (pI e);rintro F w _ s ⟨rfl,_⟩;have j:=(j.ft r).ft s;refine .fQ (.mP ?_ _ _);split
 .exact j
 .exact j.iX _
def afm(t:Á)(a:fy ρ x v)(b:fy ρ z jQ):fT P fy ρ (Μ t x z) (Μ t v jQ):=by
 unfold Μ;apply fR (NB b);rintro l ⟨k,n⟩ _ c rfl;apply fR (j2 t);rintro m d _ f ⟨rfl,o⟩;have a:=(a.ft c).ft f;cases d<;>try exact .gB
 .cases a<;>first|exact .gB|skip
  simp only[];split
  .exact .fQ (.iL _ _)
  .exact J9
 .rename_i p e;cases a<;>first|exact .gB|skip
  rename_i g h;simp only[];split
  .apply fR (pI e);rintro q w _ j ⟨rfl,_⟩;exact YB e ((gA.mk g h).ft j) _
  .exact J9
def afn(a:UnOp)(b:fy ρ x v):fT P fy ρ (cH a x) (cH a v):=by cases b<;>cases a<;>first|exact .gB|exact .fQ (.iL _ _)|exact .fQ (.oL _)
end
section
variable{ρ:fE}
def afo{α β:Type}{g:α->Ğ β}(d:∀{ρ:fE} (a:α),fT P kC ρ (g a)<|g a):∀{ρ:fE} (l:List α),fT P kC ρ (l.mapM g) (l.mapM g):=by
 intro ρ l
 induction l generalizing ρ with
 |nil=>exact .fQ U
 |cons a l e=>
  rw[ax];apply wI (d a);intro f b _;apply wI e;intro h c _;exact .fQ U
def afp{α β:Type}{g:α->Ğ β}(b:∀{ρ:fE} (a:α),fT P kC ρ (g a)<|g a)(l:Array α):fT P kC ρ (l.mapM g) (l.mapM g):=by rw[ğ];have:=afo b (ρ:=ρ) l.toList;apply fT.oM this;intro d a c _ (e:a=c);subst e;exact .fQ U
def afq(ρ:fE)(p a:Nat×Value):Prop:=p.1=a.1/\fy ρ p.2 a.2
inductive zj(ρ:fE):List (Nat×Value)->List (Nat×Value)->Prop
 |mX:zj ρ [] []
 |Am {p p':Nat×Value} {l l':List (Nat×Value)} (h:afq ρ p p') (t:zj ρ l l'):zj ρ (p::l) (p'::l')
def zj.ft{ρ a:fE}(h:ρ.le a){l b:List (Nat×Value)}(r:zj ρ l b):zj a l b:=by
 induction r with
 |mX=>exact .mX
 |Am x _ c=>exact .Am ⟨x.1,x.2.ft h⟩ c
def afr(f:Nat):∀(c a:List Ã) (k:Nat) (b d:Array Ã),gA ρ c.toArray a.toArray->gA ρ b d-> gA ρ ((c.zipIdx k).foldl (λb (p:Value×Nat)=>b.setIfInBounds (f+p.2) p.1) b) ((a.zipIdx k).foldl (λb (p:Value×Nat)=>b.setIfInBounds (f+p.2) p.1) d):=by
 intro c
 induction c with
 |nil=>
  intro a k b d p e;have:a=[]:=by have:=p.fh;simp at this;exact č this.symm
  subst this;exact e
 |cons x c g=>
  intro a k b d p e;match a,p with
  |[],p=>have:=p.fh;simp at this
  |x'::a,p=>
   simp only[Ĺ,List.foldl_cons];have h:fy ρ x x':=by have:=p.kt 0 fB fB;simpa using this
   refine g a (k+1) _ _ ⟨by have:=p.fh;simpa using this,λj i l=> ?_⟩<|e.iB _ h;have:=p.kt (j+1) (by simp at i|-;omega) (by simp at l|-;omega);simpa using this
def afs(b:Nat){a c:Array Ã}(e:gA ρ d q)(f:gA ρ a c): gA ρ (d.zipIdx.foldl (λa (p:Value×Nat)=>a.setIfInBounds (b+p.2) p.1) a) (q.zipIdx.foldl (λa (p:Value×Nat)=>a.setIfInBounds (b+p.2) p.1) c):=by have:=afr b d.toList q.toList 0 a c (by simpa using e) f;rw[<-aW,<-aW,aK,aK];exact this
def Sz(d:Nat->Option (Nat×Nat)):∀{l e:List (Nat×Value)} {a b:Array Ã},zj ρ l e->gA ρ a b-> (Ž d a l=í)\/∃c h,Ž d a l=À c/\Ž d b e=À h/\gA ρ c h:=by
 intro l e a b h
 induction h generalizing a b with
 |mX=>intro c;exact Í ⟨a,b,U,U,c⟩
 |@Am p p' l e hp _ ih=>
  intro c;let⟨i,v⟩:=p;let⟨k,m⟩:=p';obtain⟨rfl,g⟩:=hp;unfold Ž;cases d i with
  |none=>exact Æ U
  |some q=>
   let⟨j,n⟩:=q;have f:=g.iU;simp only[<-f.fh,<-c.fh];split
   .exact Æ U
   .exact ih<|afs j f c
def afu(q:qg P)(t:Á){l m:Array (Nat×Value)}(h:zj ρ l.toList m.toList):fT P fy ρ (Ν t l) (Ν t m):=by
 unfold Ν;apply fR (Ka q t);intro C z D r s;apply fR (j2 t);rintro E d _ o ⟨rfl,F⟩;have p:=(s.ft o).iU;have h:=(h.ft r).ft o;cases d<;>try exact .gB
 .rename_i n e;refine fR (pI e) ?_;rintro u w _ b ⟨rfl,_⟩;rcases Sz (λi=>À (i*w,w)) (h.ft b) (p.ft b)with e|⟨c,v,j,k,g⟩
  .simp only[e];exact .gB
  .simp only[j,k];exact .fQ (.re g.fh g.kt)
 .rename_i x;refine wI (afp (λ{ρ} (f:Field)=>fR (pI f.type) λG a H _ y=> ?_) x) ?_
  .obtain⟨rfl,_⟩:=y;exact .fQ U
  .intro u B b;rcases Sz (B[·]?) (h.ft b) (p.ft b)with e|⟨c,v,j,k,g⟩
   .simp only[e];exact .gB
   .simp only[j,k];exact .fQ (.re g.fh g.kt)
end
section
variable{ρ:fE}
def afv(ρ:fE):fy ρ (default:Ã) default:=.oL _
def gA.afw{ρ:fE}(r:gA ρ d q)(i:Nat):fy ρ d[i]! q[i]!:=by
 by_cases h:i<d.size
 .have a:i<q.size:=by rwa[<-r.fh]
  rw[getElem!_pos d i h,getElem!_pos q i a];exact r.kt i h a
 .have a:¬i<q.size:=by rwa[<-r.fh]
  rw[getElem!_neg d i h,getElem!_neg q i a];exact afv ρ
def gA.SA{ρ:fE}(r:gA ρ d q)(n:Nat):gA ρ ((Ķ n).map (d[· %d.size]!)) ((Ķ n).map (q[· %q.size]!)):=by refine⟨fB,λi a b=> ?_⟩;simp only[Ξ,<-r.fh];exact r.afw _
def gA.BQ{ρ:fE}(r:gA ρ d q)(n:Nat):gA ρ (ú d n) (ú q n):=by
 unfold ú;have e:n*d.size=n*q.size:=by rw[r.fh]
 rw[<-e];exact r.SA _
def afx(p:qg P)(t:Á)(b:Nat){j k:Array (Nat×Value)}(h:zj ρ j.toList k.toList):fT P fy ρ (ĺ t b j) (ĺ t b k):=by
 unfold ĺ;apply fR (j2 t);rintro B d _ q ⟨rfl,C⟩;have h:=h.ft q;cases d<;>try exact .gB
 rename_i e;apply fR (pI e);rintro r w _ s ⟨rfl,_⟩;have h:=h.ft s;simp only[];split
 .exact .gB
 have o:∀{f:fE} {z g:Array Ã},r.le f->gA f z g->fT P fy f (match Ž (λi=>À (i*w,w)) ((Ķ<|b*w).map (z[· %z.size]!)) j.toList with
   |some l=>do pure (ø (À<|<-ō e l) b b)
   |_=>stuck "buildSlice: a part of the wrong size")
  (match Ž (λi=>À (i*w,w)) ((Ķ<|b*w).map (g[· %g.size]!)) k.toList with
   |some l=>do pure (ø (À<|<-ō e l) b b)
   |_=>stuck "buildSlice: a part of the wrong size"):=by
  intro f z g m n;rcases Sz (λi=>À (i*w,w)) (h.ft m) (n.SA<|b*w)with e0|⟨c,D,u,v,x⟩
  .rw[e0];exact .gB
  .rw[u,v];apply fR (Kb e x);intro E a F _ y;exact .fQ (.mP y _ _)
 split
 .exact o (fE.zd _)<|gA.He _
 .apply fR (Ka p e);intro f z g m n;exact o m n.iU
def NC(h:fy ρ x v):fT P kC ρ (ι x) (ι v):=by cases h<;>first|exact .gB|exact .fQ U
def gA.afy(ρ:fE)(b:Array UInt8):gA ρ (b.map λb=>ē .u8 b.toNat) (b.map λb=>ē .u8 b.toNat):= ⟨U,λi a _=>by simp only[Ξ];exact .iL _ _⟩
def Kg(a n:Nat)(h:fy ρ x v):fT P gA ρ (Ö a n x) (Ö a n v):=by
 cases h<;>first|exact .gB|exact .fQ (gA.He _)|exact .fQ (gA.afy _ _)|skip
 rename_i b _ _;exact Sw b _
def SB(n:Nat):fT P kC ρ (Ň n) (Ň n):=by
 unfold Ň;split
 .exact .Hg (Æ U) (.fQ U)
 .exact .fQ U
def afz(a:Array Á)(t:Á)(h:fy ρ x v):fT P fy ρ (Ŵ a t #[x]) (Ŵ a t #[v]):=by
 unfold Ŵ;cases a[0]? with
 |none=>exact .gB
 |some b=>
  apply fR (j2 b);rintro f d _ c ⟨rfl,g⟩;have h:=h.ft c;cases d<;>try exact .gB
  .cases h<;>first|exact .gB|exact .fQ (.iL _ _)
  .rename_i e;refine fR (j2 e) ?_;rintro i d _ j ⟨rfl,_⟩;cases d<;>first|exact .gB|exact .fQ (.iL _ _)
  .cases h<;>first|exact .gB|exact .fQ (.iL _ _)
  .exact .fQ (.iL _ _)
  all_goals cases h<;>first|exact .gB|exact .fQ (.iL _ _)
def afA(a:Array Á)(t:Á)(h:fy ρ x v):fT P fy ρ (ŵ a t #[x]) (ŵ a t #[v]):=by
 unfold ŵ;cases a[0]? with
 |none=>exact .gB
 |some b=>
  apply fR (j2 b);rintro f d _ c ⟨rfl,g⟩;have h:=h.ft c;cases d<;>try exact .gB
  .rename_i e;refine fR (j2 e) ?_;rintro i d _ j ⟨rfl,_⟩;cases d<;>first|exact .gB|exact .fQ (.iL _ _)
  .cases h<;>first|exact .gB|exact .fQ (.iL _ _)
  .exact .fQ (.iL _ _)
  all_goals cases h<;>first|exact .gB|exact .fQ (.iL _ _)
def afB(g:Array Á)(t:Á)(h:fy ρ x v)(a:fy ρ z jQ):fT P fy ρ (ť g t #[x,z]) (ť g t #[v,jQ]):=by
 unfold ť;cases g[0]? with
 |none=>exact .gB
 |some l=>
  apply fR (j2 l);rintro u d _ i ⟨rfl,B⟩;have h:=h.ft i;have a:=a.ft i;cases d<;>try exact .gB
  rename_i e;cases h<;>first|exact .gB|skip
  .rename_i n c;apply fR (NC a);rintro o m _ b rfl;apply fR (pI e);rintro p w _ f ⟨rfl,_⟩;apply fR (Kg w _<|(a.ft b).ft f);intro q c r j k;exact .fQ (.iL _ _)
  .rename_i s n c;apply fR (NC a);rintro o m _ b rfl;apply fR (pI e);rintro p w _ f ⟨rfl,_⟩;apply fR (Kg w _<|(a.ft b).ft f);intro q c r j k;apply fR (Sx (((s.ft b).ft f).ft j)<|by simpa using k);intro C _ _ _ _;exact .fQ (.iL _ _)
end
section
variable{ρ:fE}
def SC{α:Type}{h:Halt}:∀u x a,(eP h:Ğ α).run P u≠ı x a:=by intro u x a e;cases e
def BR{α β:Type}{m:Ğ α}{f:α->Ğ β}(h:∀a u x b,(f a).run P u≠ı x b):∀u x b,(m>>=f).run P u≠ı x b:=by
 intro u x b e;rw[Å]at e;cases c:m.run P u with
 |ok a w=>rw[c]at e;exact h a _ _ _ e
 |halt z w=>rw[c]at e;cases e
def SF{α:Type}:∀u x a,(goPanic v:Ğ α).run P u≠ı x a:=SC
def DG{α:Type}{v:bQ}:∀u x a,(unsupported v:Ğ α).run P u≠ı x a:=SC
def u6{α:Type}(e:υ):∀u x a,(runtimePanic e:Ğ α).run P u≠ı x a:=by
 unfold runtimePanic;refine BR λp=> ?_;cases e<;>simp only[]<;>first|exact SF|skip
 all_goals
  refine BR λ_=> ?_;refine BR λ_=> ?_;exact SF
def ND{α:Type}{V:fE->α->α->Prop}{e:υ}{m:Ğ α}:fT P V ρ (runtimePanic e) m:=.rf (u6 e)
def afC(Q:qg P)(K D t:Á)(y:(∃e,P.underlying D=À (dH e))\/P.underlying D=À ĥ){B:Ã}(p:fy ρ v jQ)(E:fy ρ x B): fT P fy ρ (ň #[K,D] t #[v,x]) (ň #[K,D] t #[jQ,B]):=by
 unfold ň;apply fR (j2 K);rintro F d _ M ⟨rfl,hd⟩;have p:=p.ft M;have E:=E.ft M;cases d<;>try exact .gB
 rename_i e;have T:∀{g:fE} (z:Bool) (w n c m:Nat) {b f:Option Ü},F.le g->fy g (ø b n c) (ø f n c)->fT P fy g (do
   let newCap<-Ŗ (ž (n+m) c e)
   Ň<|newCap*(<-þ e).bytes;let old<-Ö w n (ø b n c)
   let h<-Ö w m x
   let j:=ú (<-Ġ e).cells<|newCap-(n+m)
   pure (ø (À (<-ō e (old++h++j))) (n+m) newCap))
  (do
   let newCap<-Ŗ (ž (n+m) c e)
   Ň<|newCap*(<-þ e).bytes;let old<-Ö w n (ø f n c)
   let h<-Ö w m B
   let j:=ú (<-Ġ e).cells<|newCap-(n+m)
   pure (ø (À (<-ō e (old++h++j))) (n+m) newCap)):=by
  intro g _ w n c m b f i p;apply wI (.Dy λ_=> .fQ U);intro H nc k;apply fR (BP e);rintro I l _ r ⟨rfl,_⟩;apply wI (SB _);intro ρ5 _ V;have G:=fE.pH (fE.pH k r) V;apply fR (Kg w n<|p.ft G);intro ρ6 o o' W X;apply fR (Kg w m<|E.ft<|fE.pH i<|fE.pH G W);intro ρ7 q Y hl7 L;apply fR (Ka Q e);intro ρ8 z z' N hzz;apply fR (Kb e<|(((X.ft hl7).ft N).xy<|L.ft N).xy<|hzz.iU.BQ _);intro ρ9 a J _ C;exact .fQ (.mP C _ _)
 have j:∀{g:fE} (w n c m:Nat) {b f:Option Ü},F.le g->fy g (ø b n c) (ø f n c)->fT P fy g (do
   let l<-þ e
   if((n+m:Nat):Int)>â.max/\(Â=Ë\/l.bytes=0)then runtimePanic (θ "growslice: len out of range")
   if ķ (n+m) c*(<-þ e).bytes>2^48 then(if Â=Ë then runtimePanic (θ "growslice: len out of range")else do
    if !(<-ĩ w n m b x)then ey π
    unsupported (ſ "append: a slice or a string whose bytes no memory bears"))
   let newCap<-Ŗ (ž (n+m) c e)
   Ň<|newCap*(<-þ e).bytes;let old<-Ö w n (ø b n c)
   let h<-Ö w m x
   let j:=ú (<-Ġ e).cells<|newCap-(n+m)
   pure (ø (À (<-ō e (old++h++j))) (n+m) newCap))
  (do
   let l<-þ e
   if((n+m:Nat):Int)>â.max/\(Â=Ë\/l.bytes=0)then runtimePanic (θ "growslice: len out of range")
   if ķ (n+m) c*(<-þ e).bytes>2^48 then(if Â=Ë then runtimePanic (θ "growslice: len out of range")else do
    if !(<-ĩ w n m f B)then ey π
    unsupported (ſ "append: a slice or a string whose bytes no memory bears"))
   let newCap<-Ŗ (ž (n+m) c e)
   Ň<|newCap*(<-þ e).bytes;let old<-Ö w n (ø f n c)
   let h<-Ö w m B
   let j:=ú (<-Ġ e).cells<|newCap-(n+m)
   pure (ø (À (<-ō e (old++h++j))) (n+m) newCap)):=by
  intro g w n c m b f i p;apply fR (BP e);rintro H l _ k ⟨rfl,_⟩;simp only[];split
  .exact .rf (zi<|u6 _)
  .apply fR (BP e);rintro I l _ r ⟨rfl,_⟩;have G:=fE.pH k r;split
   .refine .rf (zi ?_);simp only[Ç,if_false];refine BR λb=> ?_;split
    .exact BR λ_=>DG
    .exact DG
   .exact T Â w n c m (fE.pH i G)<|p.ft G
 have O:∀{b f:Option Ü} (n c:Nat),((b=í/\f=í)\/∃a J,b=À a/\f=À J/\iZ F a J)->fy F (ø b n c) (ø f n c)->∀{g:fE} (w m:Nat),F.le g->fT P fy g (if n+m<=c then(Ö w m x>>=λh=>match b with
   |some a=>ŝ (a.add<|n*w) h.toList>>=λ_=>pure<|ø b (n+m) c
   |_=>pure (ø b (n+m) c))else(do
   let l<-þ e
   if((n+m:Nat):Int)>â.max/\(Â=Ë\/l.bytes=0)then runtimePanic (θ "growslice: len out of range")
   if ķ (n+m) c*(<-þ e).bytes>2^48 then(if Â=Ë then runtimePanic (θ "growslice: len out of range")else do
    if !(<-ĩ w n m b x)then ey π
    unsupported (ſ "append: a slice or a string whose bytes no memory bears"))
   let newCap<-Ŗ (ž (n+m) c e)
   Ň<|newCap*(<-þ e).bytes;let old<-Ö w n (ø b n c)
   let h<-Ö w m x
   let j:=ú (<-Ġ e).cells<|newCap-(n+m)
   pure (ø (À (<-ō e (old++h++j))) (n+m) newCap)))
  (if n+m<=c then(Ö w m B>>=λh=>match f with
   |some a=>ŝ (a.add<|n*w) h.toList>>=λ_=>pure<|ø f (n+m) c
   |_=>pure (ø f (n+m) c))else(do
   let l<-þ e
   if((n+m:Nat):Int)>â.max/\(Â=Ë\/l.bytes=0)then runtimePanic (θ "growslice: len out of range")
   if ķ (n+m) c*(<-þ e).bytes>2^48 then(if Â=Ë then runtimePanic (θ "growslice: len out of range")else do
    if !(<-ĩ w n m f B)then ey π
    unsupported (ſ "append: a slice or a string whose bytes no memory bears"))
   let newCap<-Ŗ (ž (n+m) c e)
   Ň<|newCap*(<-þ e).bytes;let old<-Ö w n (ø f n c)
   let h<-Ö w m B
   let j:=ú (<-Ġ e).cells<|newCap-(n+m)
   pure (ø (À (<-ō e (old++h++j))) (n+m) newCap))):=by
  intro b f n c hb p g w m i;split
  .refine fR (Kg w m<|E.ft i) ?_;intro H q Y k L;rcases hb with⟨rfl,rfl⟩|⟨a,J,rfl,rfl,C⟩
   .exact .fQ (.qd _ _)
   .apply fR (Sx (((C.ft i).ft k).iX _)<|by simpa using L);intro I _ _ r _;exact .fQ (.mP (((C.ft i).ft k).ft r) _ _)
  .exact j w n c m i<|p.ft i
 cases p<;>first|exact .gB|skip
 .rename_i n c;refine fR (pI e) ?_;rintro g w _ i ⟨rfl,_⟩;refine fR (j2 D) ?_;rintro H d1 _ k ⟨rfl,u⟩;rcases y with⟨e1,y⟩|y;all_goals
   rw[y]at u;injection u with u;subst u;apply DF;apply fR (NC<|E.ft<|fE.pH i k);rintro I m _ r rfl;exact O n c (Æ ⟨U,U⟩) (.qd _ _) w m<|fE.pH (fE.pH i k) r
 .rename_i C n c;refine fR (pI e) ?_;rintro g w _ i ⟨rfl,_⟩;refine fR (j2 D) ?_;rintro H d1 _ k ⟨rfl,u⟩;rcases y with⟨e1,y⟩|y;all_goals
   rw[y]at u;injection u with u;subst u;apply DF;apply fR (NC<|E.ft<|fE.pH i k);rintro I m _ r rfl;exact O n c (Í ⟨_,_,U,U,C⟩) (.mP C _ _) w m<|fE.pH (fE.pH i k) r
end
section
variable{ρ:fE}
def afD(p:qg P)(t:Á){j:Ã}(q:fy ρ v x)(r:fy ρ jQ j):fT P fy ρ (ŉ t v jQ) (ŉ t x j):=by
 unfold ŉ;apply fR (j2 t);rintro B d _ k ⟨rfl,C⟩;cases d<;>try exact .gB
 rename_i e;apply fR (Sy<|q.ft k);rintro D g _ s rfl;apply fR (Sy<|(r.ft k).ft s);rintro E b _ F rfl;apply fR (BP e);rintro G m _ H ⟨rfl,_⟩;have u:∀{n:fE},fT P fy n (do
   Ň<|(â.wrap b).toNat*m.bytes;let w<-Ŝ e
   let zero<-if(â.wrap b).toNat*w=0 then pure #[]else do pure (<-Ġ e).cells
   let a<-ō e ((Ķ<|(â.wrap b).toNat*w).map (zero[· %zero.size]!))
   pure (ø (À a) (â.wrap g).toNat (â.wrap b).toNat))
  (do
   Ň<|(â.wrap b).toNat*m.bytes;let w<-Ŝ e
   let zero<-if(â.wrap b).toNat*w=0 then pure #[]else do pure (<-Ġ e).cells
   let a<-ō e ((Ķ<|(â.wrap b).toNat*w).map (zero[· %zero.size]!))
   pure (ø (À a) (â.wrap g).toNat (â.wrap b).toNat)):=by
  intro n;apply wI (SB _);intro I _ J;apply fR (pI e);rintro K w _ L ⟨rfl,_⟩;have o:∀{h:fE} {z f:Array Ã},gA h z f->fT P fy h (ō e ((Ķ<|(â.wrap b).toNat*w).map (z[· %z.size]!))>>=λa=>pure<|ø (À a) (â.wrap g).toNat (â.wrap b).toNat) (ō e ((Ķ<|(â.wrap b).toNat*w).map (f[· %f.size]!))>>=λa=>pure<|ø (À a) (â.wrap g).toNat (â.wrap b).toNat):=by intro h z f i;apply fR (Kb e<|i.SA _);intro M a N _ y;exact .fQ (.mP y _ _)
  simp only[];split
  .exact o<|gA.He _
  .apply fR (Ka p e);intro h z f _ i;exact o i.iU
 simp only[];split
 .split
  .exact .rf (zi<|u6 _)
  .split
   .exact .rf (zi<|u6 _)
   .exact .rf (BR λ_=>zi<|u6 _)
 .exact u
def xC(P:Ù)(t:Á):Prop:=P.underlying t=À .bool\/(∃k,P.underlying t=À (κ k))\/P.underlying t=À ĥ
def pJ:Ã->Prop
 |Ò (À _)=>False
 |_=>True
def YE(t:Á)(i:xC P t\/∃e,P.underlying t=À (ó e))(b:fy ρ x v)(c:fy ρ z jQ)(j:pJ x\/pJ z):fT P kC ρ (û t x z) (û t v jQ):=by
 unfold û Ď φ;refine fR (j2 t) ?_;rintro o d _ g ⟨rfl,a⟩;have b:=b.ft g;have c:=c.ft g;rcases i with(h|⟨k,h⟩|h)|⟨e,h⟩;all_goals
  rw[h]at a;injection a with a;subst a;cases b<;>cases c<;>first|exact .gB|exact .fQ U|(simp[pJ]at j;done)|skip
 .simp only[];split<;>first|exact .fQ U|exact .gB
 .rename_i l n _ _ _;by_cases f:n=0
  .subst f;exact .fQ U
  .refine .rf λu x m e=> ?_;split at e<;>first|(exact DG _ _ _ e)|(simp_all;done)
 .rename_i l n;by_cases f:n=0
  .subst f;exact .fQ U
  .refine .rf λu x m e=> ?_;split at e<;>first|(exact DG _ _ _ e)|(simp_all;done)
end
section
variable{ρ:fE}
def NG{r:Nat}(h:ρ r i):fT P (λ_ a b=>a=í/\b=í) ρ (cI r) (cI i):=.kB h λ_ _ _ _=> .fQ ⟨U,U⟩
def YF{r:Nat}(h:ρ r i):fT P (λ_ a b=>a=í/\b=í) ρ (cJ r) (cJ i):=.kB h λ_ _ _ _=> .fQ ⟨U,U⟩
def DK(h:iZ ρ a p):fT P (λc x b=>iZ c x.1 b.1/\x.2=b.2/\x=(a,Â)/\b=(p,Â)) ρ (Ļ a) (Ļ p):=by unfold Ļ;apply fR (YF h.1);rintro c x d b ⟨rfl,rfl⟩;exact .fQ ⟨h.ft b,U,U,U⟩
def afE(h:iZ ρ a p):fT P kC ρ (bG a) (bG p):=by unfold bG;apply fR (NG h.1);rintro b x c d ⟨rfl,rfl⟩;exact .fQ U
def Kh(h:iZ ρ a p):fT P kC ρ (dI a) (dI p):=by
 have f:=h;let⟨g,i,b⟩:=f;unfold dI;cases c:a.spot with
 |some s=>
  rw[c]at b;rw[<-b];exact .fQ U
 |none=>
  rw[c]at b;rw[<-b];apply fR uZ;rintro k s l d ⟨rfl,e⟩;subst e;apply fR (afE<|h.ft d);intro m _ _ j _;refine .kB (j.1 _ _<|d.1 _ _ g) λe n o q=> ?_;simp only[<-i,è];split
  .exact .fQ U
  .split
   .exact .fQ U
   .exact .gB
def NH(c:Bi ρ){b d:Ü}(f:iZ ρ a p)(g:iZ ρ b d):(a.block==b.block)=(p.block==d.block):=by
 rw[Ŋ,beq_iff_eq,beq_iff_eq];constructor
 .intro e;exact c.1 _ _ _ f.1<|e▸g.1
 .intro e;exact c.2.1 _ _ _ f.1<|e▸g.1
def YG(k:Bi ρ){b c:Ü}(d:iZ ρ a p)(f:iZ ρ b c):(a==b)=(p==c):=by have e:=NH k d f;rw[Ŋ,beq_iff_eq,beq_iff_eq]at e;rw[Ŋ,beq_iff_eq,beq_iff_eq];let⟨l,m,n⟩:=a;let⟨o,q,r⟩:=p;let⟨s,t,u⟩:=b;let⟨v,w,x⟩:=c;let⟨_,g,h⟩:=d;let⟨_,i,j⟩:=f;simp only at g h i j e;subst g h i j;simp only[Addr.mk.injEq,e]
def YH(f:Bi ρ)(i:ρ.gd=P.globals.size){b d:Ü}(e:iZ ρ a p)(g:iZ ρ b d):fT P kC ρ (Ŷ a b) (Ŷ p d):=by
 unfold Ŷ;apply fR uZ;rintro o c q h ⟨j,k⟩;rw[j,k];have l:(a.block !=b.block)=(p.block !=d.block):=by simp only[bne];rw[NH f e g]
 have m:(decide<|a.block≥P.globals.size)=(decide<|p.block≥P.globals.size):=by have:=f.2.2 _ _ e.1;rw[i]at this;rw[Ŋ,decide_eq_true_iff,decide_eq_true_iff];omega
 rw[l,m];split
 .exact .gB
 .apply fR (Kh<|e.ft h);rintro r x _ n rfl;apply fR (Kh<|(g.ft h).ft n);rintro s y _ t rfl;exact .fQ U
def afF(d:Bi ρ)(e:ρ.gd=P.globals.size)(k:Ć){b c:Ü}(f:iZ ρ a p)(g:iZ ρ b c):fT P fy ρ (χ k a b) (χ k p c):=by unfold χ;apply fR (YH d e f g);rintro h ⟨x,y⟩ _ _ rfl;exact .fQ (.iL _ _)
def afG(e:Bi ρ)(f:ρ.gd=P.globals.size)(c:ĭ){b d:Ü}(g:iZ ρ a p)(h:iZ ρ b d):fT P fy ρ (ψ c a b) (ψ c p d):=by unfold ψ;refine fR (YH e f g h) ?_;rintro i ⟨x,y⟩ _ _ rfl;cases c<;>first|exact .fQ (.oL _)|exact .gB
def YI(k:Ć)(b:iZ ρ a p)(n:Int):fT P fy ρ (ω k a n) (ω k p n):=by
 unfold ω;refine .kB b.1 λe m d f=> ?_;apply DF;apply fR (BP e);rintro g h _ c ⟨rfl,_⟩;simp only[];split
 .exact .gB
 .apply fR (Kh<|b.ft c);rintro i x _ _ rfl;exact .fQ (.iL _ _)
def afH{n:Int}(h:j<=b)(a:ay P i e j k n=À m):ay P i e b k n=À m:=by
 have f:=λw=>Nat.mul_le_mul_right w h;unfold ay at a|-;simp only[bind,Option.bind]at a|-;split at a
 .cases a
 .rename_i g;rw[if_neg g];split at a
  .cases a
  .rename_i l;simp only[l];dsimp only at a;split at a
   .cases a
   .rename_i o;rw[if_neg]
    .exact a
    .intro q;apply o;have:=f<|P.bytesOf e;simp at q|-;omega
def afI{i:Á->Bool}:∀{d:Nat} {e:Á} {c a b n:Nat},c<=a->dC P i d e c b n=Ë->dC P i d e a b n=Ë
 |0,_,_,_,_,_,_,h=>by simp[dC]at h
 |d+1,e,c,a,b,n,hc,h=>by
  unfold dC at h|-;simp only at h|-;split at h
  .cases h
  .rename_i j;rw[if_neg j];rw[ů,ĕ,ĕ,ĕ]at h|-;rcases h with⟨⟨f,g⟩,k⟩|⟨f,g⟩
   .exact Æ ⟨⟨f,by simp at g|-;omega⟩,k⟩
   .exact Í ⟨by simp at f|-;omega,g⟩
def YJ:∀{d:Nat} {e:Á} {c a b:Nat} {u:Á} {n:Nat},c<=a->bH P d e c b u n=Ë->bH P d e a b u n=Ë
 |0,_,_,_,_,_,_,_,h=>by simp[bH]at h
 |d+1,e,c,a,b,u,n,hc,h=>by
  unfold bH at h|-;rw[ů]at h|-;rcases h with h|h
  .exact Æ<|afI hc h
  .right;split at h
   .rename_i f;first|rw[f]|skip
    exact YJ hc h
   .cases h
def afJ{a:Á->Bool}:dC P a i e 0 j (n+1)=Â:=by
 cases i with
 |zero=>simp[dC]
 |succ i=>
  unfold dC;simp
def afK{k:Ć}(a:P.underlying t=À (κ k)):bH P i e 0 j t (n+1)=Â:=by
 cases i with
 |zero=>simp[bH]
 |succ i=>
  unfold bH;rw[afJ];simp[a]
def YK(t:Á)(d:iZ ρ a p)(k:Ć)(n:Int):fT P fy ρ (ô #[] t #[Ò<|À a,ē k n]) (ô #[] t #[Ò<|À p,ē k n]):=by
 have f:=d;let⟨c,g,h⟩:=f;unfold ô;apply DF;simp only[];split
 .apply fR (NG c);rintro i x q b ⟨rfl,rfl⟩;exact .fQ (.lB (d.ft b))
 .split
  .exact .gB
  .refine .kB c λe m j l=> ?_;apply DF;apply fR uZ;rintro i b v o ⟨r,s⟩;rw[r,s,<-g];have u:m/P.cellsOf e<=j/P.cellsOf e:=az (l.elim (λq=>by omega) λq=>q.1);cases q:ay P P.depth e (m/P.cellsOf e) a.off n with
   |none=>exact .gB
   |some x=>
    rw[afH u q];exact .fQ (.lB ⟨o.1 _ _ c,U,h⟩)
end
def BS:Obj->Prop
 |ė .. =>False
 |_=>True
inductive me(P:Ù){α:Type}(V:fE->α->α->Prop):fE->Ğ α->Ğ α->Prop
 |gd {ρ:fE} {m m':Ğ α} (h:fT P V ρ m m'):me P V ρ m m'
 |oM {ρ:fE} {β:Type} {V0:fE->β->β->Prop} {m m':Ğ β} {f f':β->Ğ α} (h:fT P V0 ρ m m') (hf:∀An a a',ρ.le An->V0 An a a'->me P V An (f a) (f' a')):me P V ρ (m.bind f) (m'.bind f')
 |zk {ρ:fE} {o:Obj} {g:Nat->α} {m':Ğ α} (ho:BS o):me P V ρ (.new o λr=>bl<|g r) m'
 |kJ {ρ:fE} {m m':Ğ α} (h:∀u x u',m.run P u=ı x u'->∃i o,u.heap.size<=i/\u'.heap[i]?=À o/\BS o):me P V ρ m m'
section
variable{ρ:fE}
def me.afL{α β:Type}{V:fE->α->α->Prop}{i:fE->β->β->Prop}{m e:Ğ α}{f j:α->β}(h:me P V ρ m e)(k:∀c a d,ρ.le c->V c a d->i c (f a) (j d)): me P i ρ (m.bind λa=>bl<|f a) (e.bind λa=>bl<|j a):=by
 induction h with
 |gd h=>exact .gd (h.oM λc a d u w=> .fQ (k c a d u w))
 |oM h _ g=>
  rw[Ű,Ű];exact .oM h λc a d u w=>g c a d u w λx b z l n=>k x b z (fE.pH u l) n
 |zk b=>exact .zk b
 |@kJ ρ m e h=>
  refine .kJ λu x l b=> ?_;rw[ł]at b;cases g:m.run P u with
  |halt z w=>rw[g]at b;cases b
  |ok a w=>
   rw[g]at b;simp only[ä]at b;cases b;exact h u a _ g
def Hj(u a:È):Prop:=∀i o,u.heap.size<=i->a.heap[i]?=À o->¬BS o
def me.gR{α:Type}{V:fE->α->α->Prop}{ρ:fE}{m t:Ğ α}(h:me P V ρ m t):∀{u w:È},km ρ X u w->(∀j,X j->j<w.heap.size)->∀{x:α} {c:È},m.run P u=ı x c->Hj u c->∀d:Array ĉ,∃(a:fE) (p:α) (b:È) (g:Array ĉ),ρ.le a/\(∀i j,a i j->ρ i j\/(u.heap.size<=i/\w.heap.size<=j))/\t.runT P w d=(ı p b,d++g)/\V a x p/\km a X c b/\qf ρ X w b/\(∀e∈g,Dz a X e)/\u.heap.size<=c.heap.size:=by
 induction h with
 |gd h=>intro u w k g x c b _ d;exact h.gR k g b d
 |@oM ρ β V0 m t f f' h _ ih=>
  intro u w k g x c b l d;rw[ł]at b;cases v:m.run P u with
  |halt z w=>rw[v]at b;cases b
  |ok a u1=>
   rw[v]at b;let⟨H,I,w1,F,q,r,B,J,K,C,L,D⟩:=h.gR k g v d;have M:=λj s=>Õ (g j s) C.fh;let⟨N,p,O,Q,G,T,W,Y,k5,k6,k7,k8⟩:=ih H a I q J K M b (λi o n=>l i o<|ö D n)<|d++F;refine⟨N,p,O,F++Q,fE.pH q G,λi j E=> ?_,?_,Y,k5,C.fl k6 λi j E=>(r i j E).imp id λy=>y.2,λe n=> ?_,ö D k8⟩
   .rcases T i j E with y|⟨y1,y2⟩
    .exact r i j y
    .exact Í ⟨ö D y1,ö C.fh y2⟩
   .rw[Ð,B];simp only[];rw[W,Ō]
   .rcases Ĩ.1 n with n|n
    .rcases L e n with⟨a,i,y,z2,z3,z4⟩|z
     .exact Æ ⟨a,i,y,G.1 _ _ z2,z3,z4⟩
     .exact Í z
    .exact k7 e n
 |zk a=>
  intro u w k g x c b l d;simp only[ä]at b;cases b;exact absurd a<|l u.heap.size _ (á _) fB
 |kJ h=>
  intro u w k g x c b l d;let⟨i,o,q,r,B⟩:=h u x c b;exact absurd B<|l i o q r
end
section
variable{ρ:fE}
def afM(i:Bi ρ)(s:ρ.gd=P.globals.size)(t:Á)(u:xC P t){j b m:Ü}(e:iZ ρ a j)(f:iZ ρ b m):fT P kC ρ (û t (Ò<|À a)<|Ò<|À b) (û t (Ò<|À j)<|Ò<|À m):=by
 unfold û Ď φ;refine fR (j2 t) ?_;rintro G d _ g ⟨rfl,c⟩;rcases u with h|⟨k,h⟩|h
 .rw[h]at c;injection c with c;subst c;exact .gB
 .rw[h]at c;injection c with c;subst c;apply fR (DK<|e.ft g);rintro H p v l ⟨_,_,rfl,rfl⟩;apply fR (DK<|(f.ft g).ft l);rintro I q J n ⟨_,_,rfl,rfl⟩;apply fR uZ;rintro K p v o ⟨w,z⟩;rw[w,z];have B:=(((e.ft g).ft l).ft n).ft o;have C:=(((f.ft g).ft l).ft n).ft o;have D:=NH i e f;have E:(decide<|a.block<P.globals.size)=(decide<|j.block<P.globals.size):=by
   have:=i.2.2 _ _ e.1;rw[s]at this;rw[Ŋ,decide_eq_true_iff,decide_eq_true_iff];exact this
  simp only[D,E];split
  .apply fR (Kh B);rintro F x _ r rfl;apply fR (Kh<|C.ft r);rintro L y _ M rfl;exact .fQ U
  .apply fR (BP t);rintro F x _ r ⟨rfl,_⟩;split
   .rw[YG i e f];split
    .exact .fQ U
    .exact .gB
   .exact .gB
 .rw[h]at c;injection c with c;subst c;exact .gB
def afN(e:Bi ρ)(f:ρ.gd=P.globals.size)(t:Á)(b:xC P t)(c:fy ρ x v)(d:fy ρ z jQ):fT P kC ρ (û t x z) (û t v jQ):=by
 by_cases a:pJ x\/pJ z
 .exact YE t (Æ b) c d a
 .have g:=λh=>a<|Æ h;have i:=λh=>a<|Í h;cases c<;>first|exact absurd trivial g|skip
  cases d<;>first|exact absurd trivial i|skip
  rename_i j _ _ k;exact afM e f t b j k
def afO(a:ĭ)(k:Ć)(x y:Int):fT P fy ρ (aJ a k x y) (aJ a k x y):=by
 unfold aJ;split
 .exact ND
 .cases a<;>first|exact .gB|exact .fQ (.iL _ _)
def afP(a:ĭ)(k b:Ć)(x y:Int):fT P fy ρ (bn a k x b y) (bn a k x b y):=by
 unfold bn;split
 .exact ND
 .cases a<;>first|exact .gB|exact .fQ (.iL _ _)
def afQ(a:ĭ)(t:Á)(k b:Ć)(x y:Int):fT P fy ρ (Α a t (ē k x)<|ē b y) (Α a t (ē k x)<|ē b y):=by
 cases a<;>simp only[Α]<;>first|exact afP _ _ _ _ _|skip
 all_goals
  split
  .exact .gB
  .first|exact .fQ (.iL _ _)|exact .fQ (.oL _)|exact afO _ _ _ _
def afR(a:ĭ)(t:Á)(x y:ByteArray):fT P fy ρ (Α a t (Ĥ x)<|Ĥ y) (Α a t (Ĥ x)<|Ĥ y):=by
 cases a<;>simp only[Α,bR]<;>first|exact .gB|exact .fQ (.oL _)|skip
 split
 .exact .gB
 .exact .fQ (.mO _)
end
section
variable{ρ:fE}
def mY{α β:Type}{V0:fE->β->β->Prop}{V:fE->α->α->Prop}{m c:Ğ β}{f d:β->Ğ α}(h:fT P V0 ρ m c) (g:∀b a e,ρ.le b->V0 b a e->me P V b (f a) (d e)):me P V ρ (m>>=f) (c>>=d):=.oM h g
def afS{α β:Type}{V:fE->α->α->Prop}{c:fE->β->β->Prop}{m d:Ğ α}{f e:α->β}(h:me P V ρ m d)(i:∀b a g,ρ.le b->V b a g->c b (f a) (e g)): me P c ρ (m>>=λa=>pure<|f a) (d>>=λa=>pure<|e a):=me.afL h i
def YL(t:Á)(y:Ã):∀u x a,(ô #[] t #[Ò í,y]).run P u≠ı x a:=by
 unfold ô;refine BR λn=> ?_;simp only[];split
 .exact DG
 .split
  .exact zi DG
  .exact DG
def Hk(t:Á)(i:fy ρ x v)(j:∃p,x=Ò p)(k:Ć)(n:Int):me P fy ρ (ũ t x<|ē k n) (ũ t v<|ē k n):=by
 obtain⟨p,rfl⟩:=j;cases i with
 |nY=>
  unfold ũ;refine mY (j2 t) ?_;rintro e d _ h ⟨rfl,_⟩;cases d<;>simp only[Ç,if_false,if_true]<;>first|exact .gd .gB|exact .gd (.rf (YL t _))
 |lB f=>
  unfold ũ;refine mY (j2 t) ?_;rintro e d _ h ⟨rfl,_⟩;have l:∀{a g:Ü},iZ e a g->me P fy e (Ļ a>>=λp=>ô #[] t #[Ò<|À p.1,ē k n]>>=λc=>match c with|Ò (À b)=>cK b p.2|c=>pure c) (Ļ g>>=λp=>ô #[] t #[Ò<|À p.1,ē k n]>>=λc=>match c with|Ò (À b)=>cK b p.2|c=>pure c):=by intro a g f;refine mY (DK f) ?_;rintro q p r s ⟨m,u,rfl,rfl⟩;refine mY (YK t m k n) ?_;intro w c y z o;cases o<;>first|exact .zk trivial|exact .gd (.fQ (by constructor<;>assumption))
  have c:=l<|f.ft h;cases d<;>simp only[Ç,if_false,if_true]<;>first|exact .gd .gB|exact c
def YM(t:Á)(b:fy ρ x v)(c:∃p,x=Ò p)(k:Ć)(n:Int):me P fy ρ (ŷ t x<|ē k n) (ŷ t v<|ē k n):=by
 unfold ŷ;obtain⟨p,rfl⟩:=c;cases b with
 |nY=>exact .gd (.rf (YL t _))
 |lB a=>
  apply mY (YF a.1);rintro e p f d ⟨rfl,rfl⟩;exact .gd (YK t (a.ft d) k n)
def afT(P:Ù)(a:ĭ)(t:Á)(x y:Ã):Prop:=a=aX\/a=bq->(xC P t\/((∃e,P.underlying t=À (ó e))/\(pJ x\/pJ y)))
def YN(c:Bi ρ)(d:ρ.gd=P.globals.size)(t:Á)(f:xC P t\/((∃e,P.underlying t=À (ó e))/\(pJ x\/pJ z)))(a:fy ρ x v)(b:fy ρ z jQ):fT P kC ρ (û t x z) (û t v jQ):=by
 rcases f with h|⟨g,i⟩
 .exact afN c d t h a b
 .exact YE t (Í g) a b i
def afU(m:Bi ρ)(n:ρ.gd=P.globals.size)(c:ĭ)(t:Á)(r:afT P c t x z)(o:fy ρ x v)(h:fy ρ z jQ):me P fy ρ (Α c t x z) (Α c t v jQ):=by
 have f:c=aX->fT P fy ρ (û t x z>>=λb=>pure<|Ŏ b) (û t v jQ>>=λb=>pure<|Ŏ b):=by intro e;apply fR (YN m n t (r<|Æ e) o h);rintro i b _ _ rfl;exact .fQ (.oL _)
 have g:c=bq->fT P fy ρ (û t x z>>=λb=>pure<|Ŏ !b) (û t v jQ>>=λb=>pure<|Ŏ !b):=by intro e;apply fR (YN m n t (r<|Í e) o h);rintro i b _ _ rfl;exact .fQ (.oL _)
 cases o with
 |iL k a=>
  cases h with
  |iL d b=>exact .gd (afQ c t k d a b)
  |lB l=>
   cases c<;>first|exact .gd .gB|exact .gd (f U)|exact .gd (g U)|exact Hk t (.lB l) ⟨_,U⟩ _ _|skip
   apply mY (DK l);rintro i p s e ⟨j,_,_,_⟩;exact .gd (YI _ j _)
  |nY=>cases c<;>first|exact .gd .gB|exact .gd (f U)|exact .gd (g U)|exact Hk t .nY ⟨_,U⟩ _ _
  |_=>cases c<;>first|exact .gd .gB|exact .gd (f U)|exact .gd (g U)
 |mO a=>
  cases h with
  |mO b=>exact .gd (afR c t a b)
  |_=>cases c<;>first|exact .gd .gB|exact .gd (f U)|exact .gd (g U)
 |nY=>
  cases h with
  |iL k b=>
   cases c<;>first|exact .gd .gB|exact .gd (f U)|exact .gd (g U)|exact Hk t .nY ⟨_,U⟩ _ _|skip
   refine mY (j2 t) ?_;rintro i d _ e ⟨rfl,_⟩;cases d<;>simp only[Ç,if_false,if_true]<;>first|exact YM t .nY ⟨_,U⟩ _ _|exact Hk t .nY ⟨_,U⟩ _ _
  |_=>cases c<;>first|exact .gd .gB|exact .gd (f U)|exact .gd (g U)
 |lB a=>
  cases h with
  |iL k b=>
   cases c<;>first|exact .gd .gB|exact .gd (f U)|exact .gd (g U)|exact Hk t (.lB a) ⟨_,U⟩ _ _|skip
   .refine mY (j2 t) ?_;rintro i d _ e ⟨rfl,_⟩;have a:=a.ft e;cases d<;>simp only[Ç,if_false,if_true]<;>first|exact YM t (.lB a) ⟨_,U⟩ _ _|exact Hk t (.lB a) ⟨_,U⟩ _ _
   all_goals
    apply mY (DK a);rintro i p s e ⟨j,_,_,_⟩;exact .gd (YI _ j _)
  |lB l=>
   cases c<;>first|exact .gd .gB|exact .gd (f U)|exact .gd (g U)|skip
   all_goals
    refine mY (DK a) ?_;rintro i p s e ⟨j,_,rfl,rfl⟩;refine mY (DK<|l.ft e) ?_;rintro w q B b ⟨d,_,rfl,rfl⟩;have k:=b.2.1<|e.2.1 m;have u:=b.2.2.trans<|e.2.2.trans n;first|exact .gd (afF k u _ (j.ft b) d)|exact .gd (afG k u _ (j.ft b) d)
  |_=>cases c<;>first|exact .gd .gB|exact .gd (f U)|exact .gd (g U)
 |_=>
  cases h<;>cases c<;>first|exact .gd .gB|exact .gd (f U)|exact .gd (g U)
end
section
variable{ρ:fE}
def afV(a b:Á)(h:(∃k g,P.underlying a=À (κ k)/\P.underlying b=À (κ g))\/(P.underlying a=À ĥ/\P.underlying b=À ĥ))(f:fy ρ x v):fT P fy ρ (Ŧ a b x) (Ŧ a b v):=by
 unfold Ŧ;refine fR (j2 a) ?_;rintro n d _ l ⟨rfl,c⟩;refine fR (j2 b) ?_;rintro o p _ m ⟨rfl,e⟩;have f:=(f.ft l).ft m;rcases h with⟨k,g,i,j⟩|⟨i,j⟩;all_goals
  rw[i]at c;rw[j]at e;injection c with c;injection e with e;subst c e;cases f<;>first|exact .gB|exact .fQ (.iL _ _)|exact .fQ (.mO _)
inductive rY(ρ:fE):ae->ae->Prop
 |qh {v v':Ã} (h:fy ρ v v'):rY ρ (ñ v) (ñ v')
 |wK:rY ρ bk bk
 |wL (f:ã) {c c':Array Ã} (h:gA ρ c c'):rY ρ (Β f c) (Β f c')
def Ki(P:Ù)(t:Á):Prop:=xC P t\/∃e,P.underlying t=À (ó e)
def afW(t:Á)(f:Ki P t)(a g b i:Ã):fT P kC ρ (ļ Ď t a b) (ļ Ď t g i):=by
 unfold Ď ļ;refine fR (j2 t) ?_;rintro j d _ l ⟨rfl,c⟩;rcases f with(h|⟨k,h⟩|h)|⟨e,h⟩;all_goals
  rw[h]at c;injection c with c;subst c;exact .fQ U
def afX(e:ĭ)(t:Á)(c:e=aX\/e=bq->Ki P t)(x y:Ú){d:Ã}(h:fy ρ v z)(i:fy ρ jQ d):fT P kC ρ (Ο e t x y v jQ) (Ο e t x y z d):=by
 have g:Ki P t->∀{f:fE} (s:bQ) (v z jQ d:Ã),fT P kC f (ļ Ď t v jQ>>=λr=>if r=Ë then unsupported s else pure ()) (ļ Ď t z d>>=λr=>if r=Ë then unsupported s else pure ()):=by
  intro c f s v z jQ d;apply fR (afW t c v z jQ d);rintro j r _ _ rfl;split
  .exact .gB
  .exact .fQ U
 unfold Ο;cases e<;>first|exact .fQ U|skip
 all_goals
  have c:=c (by first|exact Æ U|exact Í U);cases h<;>cases i<;>first|exact .fQ U|skip
 all_goals first
  |(cases x<;>cases y<;>first|exact .fQ U|exact g c _ _ _ _ _)
  |(
   simp only[ċ,Ç,if_false];apply fR uZ;rintro f p m n ⟨r,s⟩;rw[r,s];apply fR uZ;rintro j q o u ⟨k,l⟩;rw[k,l];split
   .exact .fQ U
   .exact g c _ _ _ _ _)
def pj{m a:Ğ Ã}(h:fT P fy ρ m a):fT P rY ρ (m>>=λv=>pure<|ñ v) (a>>=λv=>pure<|ñ v):=h.oM λ_ _ _ _ v=> .fQ (.qh v)
def YO{m a:Ğ Ã}(h:me P fy ρ m a):me P rY ρ (m>>=λv=>pure<|ñ v) (a>>=λv=>pure<|ñ v):=afS h λ_ _ _ _ v=> .qh v
def afY{m a:Ğ Unit}(h:fT P kC ρ m a):fT P rY ρ (m>>=λ_=>pure bk) (a>>=λ_=>pure bk):=h.oM λ_ _ _ _ _=> .fQ .wK
def afZ(f:ã)(b:∃a,P.funcs[f]?=À a/\(a.name== "runtime.NumGoroutine")=Â/\a.body.isNone=Â)(e:gA ρ d q):fT P rY ρ (Ń f d) (Ń f q):=by let⟨a,g,h,i⟩:=b;unfold Ń;apply fR uZ;rintro m p n j ⟨k,l⟩;rw[k,l,g];simp only[h,i,Ç,if_false];exact .fQ (.wL f (e.ft j))
end
inductive lM(P:Ù)(ev:Ú->Ã):Op->Prop
 |DL (x:Ú):lM P ev (.move x)
 |Kj (x:Ú):lM P ev (.assign x)
 |Ao (c a b:Ú):lM P ev (.pick c a b)
 |gT (t:Á):lM P ev (.alloc t)
 |fq (t:Á) (x:Ú):lM P ev (.box t x)
 |SG (t:Á) (ps:Array (Nat×Operand)):lM P ev (.build t ps)
 |SH (t:Á) (n:Nat) (ps:Array (Nat×Operand)):lM P ev (dV t n ps)
 |ig (t:Á) (a:Ú):lM P ev (.load t a)
 |j1 (t:Á) (a x:Ú):lM P ev (.store t a x)
 |Kk (x:Ú):lM P ev (eW x)
 |Hl (op:ĭ) (t:Á) (x y:Ú) (r:Á) (h:op=aX\/op=bq->(xC P t\/((∃e,P.underlying t=À (ó e))/\(pJ (ev x)\/pJ (ev y))))):lM P ev (ez op t x y r)
 |SJ (op:UnOp) (t:Á) (x:Ú):lM P ev (.unOp op t x)
 |SK (s d:Á) (x:Ú) (h:(∃k k',P.underlying s=À (κ k)/\P.underlying d=À (κ k'))\/(P.underlying s=À ĥ/\P.underlying d=À ĥ)):lM P ev (br s d x)
 |SL (t:Á) (l c:Ú):lM P ev (eA t l c)
 |mP (t:Á) (x:Ú) (lo hi mx:Option Ú):lM P ev (.slice t x lo hi mx)
 |SN (s:Á) (x:Ú) (n:Nat) (h:∀fields f i,P.underlying s=À (dG fields)->fields[n]?=À f->P.info? f.type=À i->i.size≠0):lM P ev (eB s x n)
 |SO (t:Á) (x:Ú) (n:Nat):lM P ev (.field t x n)
 |SQ (t:Á) (x i:Ú):lM P ev (eC t x i)
 |SR (t:Á) (x i:Ú):lM P ev (.index t x i)
 |J7 (x:Ú) (n:Nat):lM P ev (.extract x n)
 |iw (x:Ú) (ts:Array Á):lM P ev (ah {callee:=Ī .len,args:=#[x],argTypes:=ts})
 |Kl (x:Ú) (ts:Array Á):lM P ev (ah {callee:=Ī .cap,args:=#[x],argTypes:=ts})
 |Km (x y:Ú) (ts:Array Á):lM P ev (ah {callee:=Ī .copy,args:=#[x,y],argTypes:=ts})
 |xy (x y:Ú) (t0 t1:Á) (h:(∃e,P.underlying t1=À (dH e))\/P.underlying t1=À ĥ):lM P ev (ah {callee:=Ī .append,args:=#[x,y],argTypes:=#[t0,t1]})
 |j5 (f:ã) (args:Array Ú) (ts:Array Á) (Hm:ev (bu f)=.func (.func f) #[] #[]) (h:∃fn,P.funcs[f]?=À fn/\(fn.name== "runtime.NumGoroutine")=Â/\fn.body.isNone=Â):lM P ev (ah {callee:=cL<|bu f,args:=args,argTypes:=ts})
end Go.Proofs.Y.Lift
namespace Go.Proofs.Y.Lift
open Go Go.Conc
section
variable{ρ:fE}
def YP(ρ:fE):Ú->Prop
 |eD v=>fy ρ v v
 |eS g=>ρ g g
 |_=>True
def Kn(ρ:fE):fy ρ ŏ ŏ:=.qe U λi h=>absurd h fB
def af0{a a':bZ}(h:gA ρ a.tmps a'.tmps)(b:YP ρ qQ):fy ρ (a.eval qQ) (a'.eval qQ):=by
 cases qQ with
 |tmp t=>
  simp only[ê,Ĵ];rcases h.mQ t with⟨f,g⟩|⟨v,d,f,g,c⟩
  .rw[f,g];exact Kn ρ
  .rwa[f,g]
 |const v=>exact b
 |global g=>exact .lB ⟨b,U,U⟩
 |func f=>exact .fn _
def af2(b:Array aT)(h:gA ρ d q)(j:Nat):ŗ b d j=ŗ b q j:=by
 unfold ŗ;cases(b[j]?).bind (·.dst)with
 |none=>rfl
 |some a=>
  simp only[Option.bind_some];rcases h.mQ a with⟨c,e⟩|⟨v,g,c,e,f⟩
  .rw[c,e]
  .rw[c,e];cases f<;>rfl
def NJ(a:Array aT)(o:aT)(h:gA ρ d q):Ĳ o (ŗ a d)=Ĳ o (ŗ a q):=by have:ŗ a d=ŗ a q:=funext<|af2 a h;rw[this]
def af3{a a':bZ}(h:gA ρ a.tmps a'.tmps)(d:Option Tmp)(b:fy ρ v x):gA ρ (a.put d v).tmps (a'.put d x).tmps:=by
 cases d with
 |none=>exact h
 |some d=>exact h.iB d b
end
section
variable{ρ:fE}
def YQ{b:Ú->Ã}(a:Array Ú)(h:∀x∈a,fy ρ (xX x)<|b x):gA ρ (a.map xX) (a.map b):= ⟨fB,λi c d=>by simp only[Ξ];exact h _<|Array.getElem_mem _⟩
def YR{c:Ú->Ã}(a:Array (Nat×Operand))(h:∀x∈(a.toList.map (·.2)).toArray,fy ρ (xX x)<|c x):zj ρ (a.map λp=>(p.1,xX p.2)).toList (a.map λp=>(p.1,c p.2)).toList:=by
 simp only[Array.toList_map];have d:∀x∈a.toList.map (·.2),fy ρ (xX x) (c x):=λx b=>h x (by simpa using b);generalize a.toList=l at d
 induction l with
 |nil=>exact .mX
 |cons p l e=>exact .Am ⟨U,d _ fB⟩ (e λx b=>d x<|by simp at b|-;exact Í b)
def SS{a:Ú->Ã}(x:Option Ú)(h:∀y,x=À y->fy ρ (xX y) (a y)):u5 ρ (x.map xX) (x.map a):=by
 cases x with
 |none=>exact Æ ⟨U,U⟩
 |some x=>exact Í ⟨_,_,U,U,h x U⟩
def YS(p:qg P)(D:Bi ρ)(E:ρ.gd=P.globals.size){w:Ú->Ã}(F:∀f,w (bu f)=.func (.func f) #[] #[])(B:lM P xX o.op)(g:∀x∈o.op.operands,fy ρ (xX x)<|w x):me P rY ρ (î xX o) (î w o):=by
 let⟨O,u,Q,T,V,guard⟩:=o;simp only at B g;unfold î;simp only[];cases B with
 |DL x=>exact .gd (.fQ (rY.qh<|g x<|by simp[Ì]))
 |Kj x=>exact .gd (.fQ (rY.qh<|g x<|by simp[Ì]))
 |Ao c a b=>
  apply mY (YC<|g c<|by simp[Ì]);rintro G r _ k rfl;refine .gd (.fQ (rY.qh ?_));split
  .exact(g a<|by simp[Ì]).ft k
  .exact(g b<|by simp[Ì]).ft k
 |gT t=>exact .gd (pj<|afc p t _)
 |fq t x=>exact .gd (pj<|afd t<|g x<|by simp[Ì])
 |SG t z=>exact .gd (pj<|afu p t<|YR z g)
 |SH t n z=>exact .gd (pj<|afx p t n<|YR z g)
 |ig t a=>exact .gd (pj<|afe t<|g a<|by simp[Ì])
 |j1 t a x=>exact .gd (afY<|aff t (g a<|by simp[Ì])<|g x<|by simp[Ì])
 |Kk x=>
  simp only[];have j:=g x (by simp[Ì]);generalize xX x=v at j;generalize w x=v' at j;cases j<;>first|exact .gd ND|exact .gd (.fQ (rY.qh<|by constructor<;>assumption))|skip
  rename_i f;cases f<;>exact .gd (.fQ (rY.qh<|.fn _))
 |Hl u t x y r h=>
  have j:=g x (by simp[Ì]);have C:=g y (by simp[Ì]);apply YO;apply mY (afX u t (λe=>(h e).imp id λq=>q.1) x y j C);intro G _ _ k _;exact afU (k.2.1 D) (k.2.2.trans E) u t h (j.ft k)<|C.ft k
 |SJ u t x=>exact .gd (pj<|afn u<|g x<|by simp[Ì])
 |SK s d x h=>exact .gd (pj<|afV s d h<|g x<|by simp[Ì])
 |SL t l c=>exact .gd (pj<|afD p t (g l<|by simp[Ì])<|g c<|by simp[Ì])
 |mP t x H I J=>exact .gd (pj<|afl t (g x<|by simp[Ì]) (SS H λy e=>g y<|by simp[Ì,e]) (SS I λy e=>g y<|by simp[Ì,e])<|SS J λy e=>g y<|by simp[Ì,e])
 |SN s x n h=>exact .gd (pj<|afi s (g x<|by simp[Ì]) n h)
 |SO t x n=>exact .gd (pj<|afh t (g x<|by simp[Ì]) n)
 |SQ t x i=>exact .gd (pj<|afj t (g x<|by simp[Ì])<|g i<|by simp[Ì])
 |SR t x i=>exact .gd (pj<|afm t (g x<|by simp[Ì])<|g i<|by simp[Ì])
 |J7 x n=>exact .gd (pj<|afg (g x<|by simp[Ì]) n)
 |iw x m=>
  simp only[Ă,Ę,ĝ,pure_bind,Û,æ,é];exact .gd (pj<|afz m _<|g x<|by simp[Ì,ü])
 |Kl x m=>
  simp only[Ă,Ę,ĝ,pure_bind,Û,æ,é];exact .gd (pj<|afA m _<|g x<|by simp[Ì,ü])
 |Km x y m=>
  simp only[Ă,Ę,ĝ,pure_bind,Û,æ,é];exact .gd (pj<|afB m _ (g x<|by simp[Ì,ü])<|g y<|by simp[Ì,ü])
 |xy x y K L h=>
  simp only[Ă,Ę,ĝ,pure_bind,Û,æ,é];exact .gd (pj<|afC p K L _ h (g x<|by simp[Ì,ü])<|g y<|by simp[Ì,ü])
 |j5 f M m N h=>
  simp only[Ă,N,F f,Ľ,Ę,pure_bind,ę,Ě];exact .gd (afZ f h<|YQ M λx j=>g x<|by simp[Ì,ü,j])
end
def World.tp(u:È)(T:aG)(D:Nat):È:={u with tape:=T,drawn:=D}
def zm(T:aG)(D:Nat)(a:aG)(b n:Nat):Prop:=∀i,i<n->a (b+i)=T (D+i)
def zm.n7{T:aG}(h:zm T i xQ j (n+1)):xQ j=T i:=h 0 Z
def zm.ko{T:aG}(h:zm T i xQ j (n+m)):zm T i xQ j n:=λa b=>h a Z
def zm.af4{b:aG}(h:zm xQ i b j (n+m)):zm xQ (i+n) b (j+n) m:=λa c=>by have:=h (n+a) Z;rw[show j+n+a=j+(n+a) by omega,show i+n+a=i+(n+a) by omega];exact this
def u7{α:Type}(P:Ù)(m:Ğ α):Prop:=∀(u:È) (T:aG) (D:Nat),∃(n:Nat) (v:È),
 ∀x c,m.run P ((World.tp u T D))=ı x c->c=(World.tp v T<|D+n)/\∀a b,zm T D a b n->m.run P ((World.tp u a b))=ı x ((World.tp v a<|b+n))
section
variable{α β:Type}
def DN{m:Ğ α}(h:∀u x a,m.run P u=ı x a->a=u/\∀b c,m.run P ((World.tp u b c))=ı x ((World.tp u b c))):u7 P m:=λu T D=>⟨0,u,λx a e=>by let⟨d,f⟩:=h _ x a e;exact⟨d,λb c _=>f b c⟩⟩
def SU{m:Ğ α}(h:∀u x a,m.run P u≠ı x a):u7 P m:=λu T D=>⟨0,u,λx a e=>absurd e<|h _ _ _⟩
def af5{m:Ğ α}{f:α->Ğ β}(h:u7 P m)(i:∀a,u7 P<|f a):u7 P (m.bind f):=by
 intro u T D;let⟨n,v,j⟩:=h u T D;cases b:m.run P ((World.tp u T D))with
 |halt z w=>exact⟨0,u,λx c e=>by rw[ł,b]at e;cases e⟩
 |ok a k=>
  obtain⟨rfl,l⟩:=j a k b;let⟨o,w,p⟩:=i a v T<|D+n;refine⟨n+o,w,λx c e=> ?_⟩;rw[ł,b]at e;let⟨q,r⟩:=p x c e;refine⟨by rw[q,dq],λz d g=> ?_⟩;rw[ł,l z d g.ko,<-dq];exact r z (d+n) g.af4
def af6{m a:Ğ α}(h:∀u,m.run P u=a.run P u)(b:u7 P a):u7 P m:=by intro u T D;let⟨n,v,c⟩:=b u T D;exact⟨n,v,λx d e=>by let⟨f,g⟩:=c x d<|(h _).symm.trans e;exact⟨f,λi j k=>(h _).trans<|g i j k⟩⟩
def af7(q:cB):u7 P (Ŗ q):=by
 intro u T D;cases a:q.forced with
 |true=>exact⟨0,u,λx d e=>by simp only[Ŗ,ä,a,if_true]at e;cases e;exact⟨U,λb c _=>by simp only[Ŗ,ä,a,if_true];rfl⟩⟩
 |false=>
  refine⟨1,u,λx d e=> ?_⟩;simp only[Ŗ,ä,a,Ç,if_false]at e;cases e;refine⟨U,λb c f=> ?_⟩;simp only[Ŗ,ä,a,Ç,if_false];have g:(World.tp u b c).tape (World.tp u b c).drawn q=T D q:=congrFun f.n7 q;rw[g];rfl
def NK{γ:Type}(s:String):(MonadExcept.throw s:Except String γ)=b9 s:=rfl
def af8(a:Ü)(md:Mode):u7 P (bF a md):=by
 refine DN λu x f e=> ?_;simp only[bF,ä]at e|-;cases b:u.cell? a with
 |some v=>
  rw[b]at e;cases e;exact⟨U,λc d=>by simp only[show((World.tp u c d)).cell? a=À x from b]⟩
 |none=>
  rw[b]at e;cases v:u.farLoad P a (md==Ĕ)with
  |error z=>simp only[v]at e;cases e
  |ok p=>
   simp only[v]at e;cases e;exact⟨U,λc d=>by simp only[show((World.tp u c d)).cell? a=í from b,show((World.tp u c d)).farLoad P a (md==Ĕ)=.ok p from v]⟩
def SV(u:È)(a:Ü)(v:Ã)(md:Mode):∀T D,((World.tp u T D)).farStore P a v (md==Ĕ)=(u.farStore P a v<|md==Ĕ).map λp=>((World.tp p.1 T D),p.2):=by
 intro T D;have c:∀b t,((World.tp u T D)).viewStore P b t a v (md==Ĕ)=(u.viewStore P b t a v<|md==Ĕ).map λp=>((World.tp p.1 T D),p.2):=by
  intro b t;unfold cg;have o:((World.tp u T D)).seen P b t a (md==Ĕ)=u.seen P b t a (md==Ĕ):=U;rw[o];simp only[bind,aA,pure,aB,NK];cases u.seen P b t a (md==Ĕ)with
  |error e=>simp only[];split<;>rfl
  |ok r=>
   simp only[];repeat' (first|rfl|split)
 unfold Ż;have e:((World.tp u T D)).heap=u.heap:=U;cases r:u.heap[a.block]? with
 |none=>simp only[bx,e,r];rfl
 |some o=>
  cases o<;>first
   |(simp only[bx,e,r];rfl)
   |skip
  simp only[e,r,c];cases u.viewStore P _ _ a v (md==Ĕ)<;>rfl
def af9(a:Ü)(v:Ã)(md:Mode):u7 P (aR a v md):=by
 by_cases b:n5 v=Ë
 .intro u T D;cases d:u.cell? a with
  |some y=>
   cases c:u.frozen? a with
   |true=>exact⟨0,u,λx h e=>by simp only[aR]at e;rw[Al b,show((World.tp u T D)).cell? a=À y from d]at e;simp only[show((World.tp u T D)).frozen? a=Ë from c,if_true]at e;cases e⟩
   |false=>
    refine⟨0,u.setCell a v,λx h e=> ?_⟩;simp only[aR]at e|-;rw[Al b,show((World.tp u T D)).cell? a=À y from d]at e;simp only[show((World.tp u T D)).frozen? a=Â from c,Ç,if_false]at e;cases e;refine⟨U,λf g i=> ?_⟩;rw[Al b,show((World.tp u f g)).cell? a=À y from d];simp only[show((World.tp u f g)).frozen? a=Â from c,Ç,if_false];rfl
  |none=>
   cases c:u.farStore P a v (md==Ĕ)with
   |error z=>exact⟨0,u,λx h e=>by simp only[aR]at e;rw[Al b,show((World.tp u T D)).cell? a=í from d]at e;simp only[SV u a v md T D,c,cM]at e;cases e⟩
   |ok p=>
    refine⟨0,p.1,λx h e=> ?_⟩;simp only[aR]at e|-;rw[Al b,show((World.tp u T D)).cell? a=í from d]at e;simp only[SV u a v md T D,c,cM]at e;cases e;refine⟨U,λf g i=> ?_⟩;rw[Al b,show((World.tp u f g)).cell? a=í from d];simp only[SV u a v md f g,c,cM];rfl
 .exact SU λu x h e=>by cases v<;>first|exact absurd U b|cases e
def aga(o:Obj):u7 P (eE o):=λu T D=>⟨0,{u with heap:=u.heap.push o},λx a e=>by cases e;exact⟨U,λb c _=>rfl⟩⟩
def agb(r:Nat):u7 P (cN r):=by
 refine DN λu x d e=> ?_;simp only[cN,ä]at e|-;cases a:u.heap[r]? with
 |none=>rw[a]at e;cases e
 |some o=>
  rw[a]at e;cases o<;>first
   |(cases e;done)
   |(cases e;exact⟨U,λb c=>by simp only[show((World.tp u b c)).heap[r]?=_ from a]⟩)
end
def ui(u:È):Prop:=∀(i:Nat) (c:Array Ã) (e:Á),u.heap[i]?≠À (Ρ c e)
structure Kd(u u':È):Prop where
 Ap:ui u->ui u'
 zk:∀(i:Nat) (o:Obj),u.heap[i]?=À o->BS o->∃o',u'.heap[i]?=À o'/\BS o'
def Kd.fY(u:È):Kd u u:=⟨id,λ_ o h k=>⟨o,h,k⟩⟩
def Kd.fl{c:È}(h:Kd w u)(k:Kd u c):Kd w c:=⟨λx=>k.Ap<|h.Ap x,λi o x y=>by let⟨d,e,f⟩:=h.zk i o x y;exact k.zk i d e f⟩
def Ko:Halt->Bool
 |.panic _=>Ë
 |.stuck _=>Ë
 |œ (.initOrder _)=>Â
 |œ _=>Ë
 |_=>Â
def rh{α:Type}(P:Ù)(m:Ğ α):Prop:=∀u,ui u->(∀x a,m.run P u=ı x a->Kd u a)/\(∀z a,m.run P u=cC z a->Ko z=Ë)
section
variable{α β:Type}
def YT(a:α):rh P (bl a):=λu _=>⟨λx b h=>by cases h;exact Kd.fY u,λz b h=>by cases h⟩
def Kp{z:Halt}(h:Ko z=Ë):rh P (eP z:Ğ α):=λu _=>⟨λx a e=>(by cases e),λb a e=>(by cases e;exact h)⟩
def NL{m:Ğ α}{f:α->Ğ β}(h:rh P m)(j:∀a,rh P<|f a):rh P (m.bind f):=by
 intro u d;let⟨g,k⟩:=h u d;refine⟨λx i e=> ?_,λz i e=> ?_⟩<;>rw[ł]at e
 .cases b:m.run P u with
  |ok a c=>
   rw[b]at e;exact(g a c b).fl<|(j a c<|(g a c b).Ap d).1 x i e
  |halt z w=>rw[b]at e;cases e
 .cases b:m.run P u with
  |ok a c=>
   rw[b]at e;exact(j a c<|(g a c b).Ap d).2 z i e
  |halt c w=>rw[b]at e;cases e;exact k _ _ b
def YU:rh P dE:=λu _=>⟨λx a h=>by cases h;exact Kd.fY u,λz a h=>by cases h⟩
def agc(q:cB):rh P (Ŗ q):=by
 intro u b;constructor
 .intro x a e;simp only[Ŗ,ä]at e;split at e<;>cases e
  .exact Kd.fY u
  .exact⟨id,λi o h k=>⟨o,h,k⟩⟩
 .intro z a e;simp only[Ŗ,ä]at e;split at e<;>cases e
def agd(m:Mark):rh P (ey m):=λu _=>⟨λx a h=>by cases h;exact Kd.fY u,λz a h=>by cases h⟩
def agf(r:Nat):rh P (cO r):=λu _=>⟨λx a h=>by cases h;exact Kd.fY u,λz a h=>by cases h⟩
def agh(a:Ü):rh P (frozen a):=λu _=>⟨λx b h=>by cases h;exact Kd.fY u,λz b h=>by cases h⟩
def agi(o:Obj)(h:∀c e,o≠Ρ c e):rh P (eE o):=by
 intro u b;refine⟨λx d e=> ?_,λz d e=>by cases e⟩;cases e;refine⟨λ_ i c e a=> ?_,λi f a g=>⟨f,?_,g⟩⟩
 .simp only[aL]at a;split at a
  .injection a with a;exact h c e a
  .exact b i c e a
 .simp only[aL];have:i<u.heap.size:=(Ä.1 a).1;rwa[if_neg Z]
def YV{f:Obj->Obj}(k:∀o,BS o->BS (f o))(l:∀o c e,f o=Ρ c e->∃d g,o=Ρ d g):Kd u {u with heap:=u.heap.modify b f}:=by
 refine⟨λh i c e a=> ?_,λi o a j=> ?_⟩
 .simp only[à]at a;split at a
  .let⟨o,m,n⟩:=đ.1 a;let⟨d,g,p⟩:=l o c e n;exact h i d g<|p▸m
  .exact h i c e a
 .simp only[à];split
  .exact⟨f o,by rw[a];rfl,k o j⟩
  .exact⟨o,a,j⟩
def agj(a:Ü)(v:Ã):Kd u (u.setCell a v):=by
 unfold ā;refine YV (λo b=> ?_) λo c e h=> ?_
 .cases o<;>first|exact b.elim|trivial
 .cases o<;>first|(cases h;done)|exact⟨_,_,U⟩
def YW(b:ui u)(a:Ü)(s:String):Ko (u.noCell a s)=Ë:=by
 unfold bx;split
 .rename_i h;exact absurd h<|b _ _ _
 .rfl
 .rfl
def agk(a:Ü)(m:Mode):rh P (bF a m):=by
 intro u c;constructor
 .intro x d e;simp only[bF,ä]at e;split at e
  .cases e;exact Kd.fY u
  .split at e<;>cases e;exact Kd.fY u
 .intro z d e;simp only[bF,ä]at e;split at e
  .cases e
  .split at e
   .cases e
   .rename_i b;cases e;unfold ş at b;split at b
    .split at b<;>cases b;rfl
    .cases b;exact YW c _ _
def agl{k:Ü}{r:Array Value×TypeId×(Nat×Nat)×Nat×Value×List (Nat×Nat×List UInt8)}(h:w.seen P a t k yQ=.ok r):∃c e f,w.heap[a.block]?=À (ė c e f):=by
 unfold World.seen at h;simp only[bind,aA,pure,aB,NK]at h;cases d:w.heap[a.block]? with
 |none=>
  rw[d]at h;repeat' (first|contradiction|split at h)
 |some o=>
  cases o<;>first|exact⟨_,_,_,U⟩|(rw[d]at h;repeat' (first|contradiction|split at h))
def agm{k:Ü}{l:List Ü}(h:w.viewStore P a t k v yQ=.ok (u,l)):Kd w u:=by
 have s:∃c e n d f g,w.heap[a.block]?=À (ė d f g)/\u={w with heap:=w.heap.setIfInBounds a.block (ė c e n)}:=by
  unfold cg at h;cases i:w.seen P a t k yQ with
  |error e=>
   rw[i]at h;simp only[bind,aA,pure,aB,NK]at h;repeat' (first|contradiction|split at h)
  |ok r=>
   let⟨d,f,g,m⟩:=agl i;rw[i]at h;simp only[bind,aA,pure,aB,NK]at h;repeat' (first|contradiction|split at h)
   all_goals(simp only[Except.ok.injEq,Prod.mk.injEq]at h;obtain⟨rfl,_⟩:=h;exact⟨_,_,_,d,f,g,m,U⟩)
 obtain⟨c,e,n,d,f,g,m,rfl⟩:=s;refine⟨λx i y j r=> ?_,λi o r q=> ?_⟩
 .rw[Đ]at r;split at r
  .split at r<;>cases r
  .exact x i y j r
 .by_cases j:a.block=i
  .subst j;rw[m]at r;cases r;exact q.elim
  .exact⟨o,by simp only[É j];exact r,q⟩
def agn(a:Ü)(v:Ã)(m:Mode):rh P (aR a v m):=by
 intro u d;by_cases c:n5 v=Ë
 .constructor
  .intro x f e;simp only[aR]at e;rw[Al c]at e;split at e
   .split at e
    .cases e
    .cases e;exact agj a v
   .split at e
    .rename_i b;cases e;unfold Ż at b;split at b
     .split at b<;>cases b;rename_i g;exact agm g
     .cases b
    .cases e
  .intro z f e;simp only[aR]at e;rw[Al c]at e;split at e
   .split at e
    .cases e;rfl
    .cases e
   .split at e
    .cases e
    .rename_i b;cases e;unfold Ż at b;split at b
     .split at b<;>cases b;rfl
     .cases b;exact YW d _ _
 .cases v<;>first|exact absurd U c|exact Kp (P:=P) U u d
def fP(P:Ù)(m:Ğ α):Prop:=rh P m/\u7 P m
def ij(a:α):fP P (pure a):=⟨YT a,DN λu x b e=>by cases e;exact⟨U,λ_ _=>rfl⟩⟩
def SY{z:Halt}(h:Ko z=Ë):fP P (eP z:Ğ α):=⟨Kp h,SU λu x a e=>by cases e⟩
def gW{m:Ğ α}{f:α->Ğ β}(h:fP P m)(b:∀a,fP P<|f a):fP P (m>>=f):=⟨NL h.1 λa=>(b a).1,af5 h.2 λa=>(b a).2⟩
def SZ{m:Ğ α}{f:α->β}(h:fP P m):fP P (f<$>m):=gW h λ_=>ij _
def kg(s:String):fP P (stuck s:Ğ α):=SY U
def YX(v:Ã):fP P (goPanic v:Ğ α):=SY U
def uj:fP P dE:=⟨YU,DN λu x a e=>by cases e;exact⟨U,λ_ _=>rfl⟩⟩
def wM(q:cB):fP P (Ŗ q):=⟨agc q,af7 q⟩
def Kq(m:Mark):fP P (ey m):=⟨agd m,DN λu x a e=>by cases e;exact⟨U,λ_ _=>rfl⟩⟩
def xD(r:Nat):fP P (cO r):=⟨agf r,DN λu x a e=>by cases e;exact⟨U,λ_ _=>rfl⟩⟩
def S0(a:Ü):fP P (frozen a):=⟨agh a,DN λu x b e=>by cases e;exact⟨U,λ_ _=>rfl⟩⟩
def NM(o:Obj)(h:∀c e,o≠Ρ c e):fP P (eE o):=⟨agi o h,aga o⟩
def Kr(a:Ü)(m:Mode):fP P (bF a m):=⟨agk a m,af8 a m⟩
def agp(a:Ü)(v:Ã)(m:Mode):fP P (aR a v m):=⟨agn a v m,af9 a v m⟩
def NN{m m':Ğ α}(h:∀u,m.run P u=m'.run P u)(a:fP P m'):fP P m:=⟨λu b=>by have:=a.1 u b;rwa[<-h u]at this,af6 h a.2⟩
end
section
variable{α:Type}
def pK(u:bQ)(h:Ko (œ u)=Ë):fP P (unsupported u:Ğ α):=SY h
def Ks(e:Á)(c:Array Ã):fP P (ō e c):=by unfold ō;exact gW (NM _<|by intro _ _ h;cases h) λ_=>ij _
def YY(t:Á)(v:Ã):fP P (newVar t v):=Ks _ _
def zn(t:Á):fP P (þ t):=by unfold þ;repeat' (first|(with_reducible first|exact ij _|exact kg _|exact uj|refine gW ?_ λ_=> ?_)|split)
def u9(t:Á):fP P (ù t):=by unfold ù;repeat' (first|(with_reducible first|exact ij _|exact kg _|exact uj|refine gW ?_ λ_=> ?_)|split)
def xE{p:Prop}(h:p:=by repeat' (first|(with_reducible first|exact ij _|exact kg _|exact uj|exact u9 _|exact YX _|exact YY _ _|exact wM _|exact zn _|exact Kr _ _|exact xD _|exact Kq _|refine gW ?_ (λ_=> ?_)|refine SZ ?_|refine pK _ ?_)|split|rfl)):p:=h
def NO(t:Á):fP P (Ş t):=by unfold Ş;exact xE
def Aq(e:υ):fP P (runtimePanic e:Ğ α):=by unfold runtimePanic;repeat' (first|(with_reducible first|exact NO _|refine gW ?_ λ_=> ?_)|split|exact xE)
def YZ(k:Ć)(x y:Int)(c:aU):fP P (boundsPanic k x y c:Ğ α):=by unfold boundsPanic;simp only[];repeat' (first|(with_reducible first|exact Aq _|refine gW ?_ λ_=> ?_)|split|exact xE)
def agq(r:Nat):rh P (cN r):=by
 intro u b;constructor
 .intro x a e;simp only[cN,ä]at e;split at e<;>first|(cases e;done)|(cases e;exact Kd.fY u)
 .intro z a e;simp only[cN,ä]at e;split at e<;>first|(cases e;done)|(cases e;rfl)
def Y0(r:Nat):fP P (cN r):=⟨agq r,agb r⟩
def NP(t:Á):fP P (Ġ t):=by unfold Ġ;exact xE
def xF(t:Á):fP P (Ŝ t):=by unfold Ŝ;exact xE
def S2(t:Á):fP P (eR t):=by unfold eR;exact xE
def Y1(a:Ü):∀(n i:Nat) (b:Array Ã),fP P<|Š a i n b
 |0,i,b=>ij _
 |n+1,i,b=>by unfold Š;exact gW (Kr _ _) λ_=>Y1 a n _ _
def S3(a:Ü)(n:Nat):fP P (dB a n):=Y1 a n _ _
def NQ(a:Ü):∀(b:List Ã) (i:Nat),fP P<|ŝ a b i
 |[],i=>ij _
 |v::b,i=>by unfold ŝ;exact gW (agp _ _ _) λ_=>NQ a b _
def Y2(t:Á)(a:Ü):fP P (aH t a):=by unfold aH;repeat' (first|(with_reducible first|exact xF _|exact S2 _|exact S3 _ _|refine gW ?_ λ_=> ?_)|split|exact xE)
def agr(t:Á)(a:Ü)(v:Ã):fP P (bm t a v):=by unfold bm;repeat' (first|(with_reducible first|exact xF _|exact NQ _ _ _|refine gW ?_ λ_=> ?_)|split|exact xE)
def Y3(t:Á)(c:Array Ã)(o:Nat):fP P (part t c o):=by unfold part;repeat' (first|(with_reducible first|exact xF _|exact S2 _|refine gW ?_ λ_=> ?_)|split|exact xE)
def Y4(v:Ã):fP P (ż v):=by unfold ż;exact xE
def Y5(v:Ã):fP P (dF v):=by unfold dF;exact xE
def lC{p:Prop}(h:p:=by repeat' (first|(with_reducible first|exact ij _|exact kg _|exact uj|exact u9 _|exact YX _|exact YY _ _|exact NO _|exact wM _|exact Aq _|exact zn _|exact Kr _ _|exact xF _|exact S2 _|exact S3 _ _|exact NQ _ _ _|exact Y5 _|exact NP _|exact agr _ _ _|exact Y2 _ _|exact Y4 _|exact Y3 _ _ _|exact xD _|exact Y0 _|exact YZ _ _ _ _|exact Kq _|refine gW ?_ (λ_=> ?_)|refine SZ ?_|refine pK _ ?_)|split|rfl)):p:=h
def Kt(v:Ã):fP P (dU v):=by unfold dU;exact lC
def NS(v:Ã):fP P (cD v):=by unfold cD;exact lC
def ags(v:Ã):fP P (asAgg v):=by unfold asAgg;exact lC
def Y6(v:Ã):fP P (cE v):=by unfold cE;exact lC
def Y7(t:Á)(b:Bool)(v:Ã):fP P (Ι t b v):=by unfold Ι;exact lC
def Y8(t:Á)(v:Ã):fP P (aI t v):=by unfold aI;exact lC
def Y9(t:Á)(v:Ã):fP P (ų t v):=by unfold ų;exact lC
def Za(t:Á)(a v:Ã):fP P (Ł t a v):=by unfold Ł;exact lC
def Zb(v:Ã)(n:Nat):fP P (š v n):=by unfold š;exact lC
def Zc(t:Á)(v:Ã)(n:Nat):fP P (Κ t v n):=by unfold Κ;repeat' (first|(with_reducible first|exact ags _|refine gW ?_ λ_=> ?_)|split|exact lC)
def Zd{γ δ:Type}(f:γ->Ğ δ)(a:∀x,fP P<|f x):∀l:List γ,fP P<|l.mapM f
 |[]=>by rw[dt];exact ij _
 |x::l=>by rw[ax];exact gW (a x) λ_=>gW (Zd f a l) λ_=>ij _
def Ze{γ δ:Type}(f:γ->Ğ δ)(a:∀x,fP P<|f x)(l:Array γ):fP P (l.mapM f):=by rw[ğ];exact SZ<|Zd f a _
def agt(l:Array Field):fP P (l.mapM λf=>do pure (f.offset,<-Ŝ f.type)):=Ze _ (λ_=>gW (xF _) λ_=>ij _) l
def NT(r:Nat):fP P (cI r):=by unfold cI;exact lC
def Zf(r:Nat):fP P (cJ r):=by unfold cJ;exact lC
def Zg(a:Ü):fP P (bG a):=by unfold bG;repeat' (first|(with_reducible first|exact NT _|refine gW ?_ λ_=> ?_)|split|exact lC)
def DR(a:Ü):fP P (dI a):=by unfold dI;repeat' (first|(with_reducible first|exact ij _|exact kg _|exact uj|exact xD _|exact Zg _|refine gW ?_ λ_=> ?_)|split|simp only[]|(rename_i b;cases b<;>simp only[Ç,if_false,if_true,ċ,ď]))
def Hn(a:Ü):fP P (Ļ a):=by unfold Ļ;repeat' (first|(with_reducible first|exact Zf _|refine gW ?_ λ_=> ?_)|split|exact lC)
def agu(a:Ü)(x y:Nat):fP P (partAt a x y):=by unfold partAt;repeat' (first|(with_reducible first|exact DR _|refine gW ?_ λ_=> ?_)|split|exact lC)
def agv(a:Ü)(f:Field):fP P (cF a f):=by unfold cF;repeat' (first|(with_reducible first|exact agu _ _ _|refine gW ?_ λ_=> ?_)|split|exact lC)
def Zh(s:Á)(v:Ã)(n:Nat):fP P (Ţ s v n):=by unfold Ţ;repeat' (first|(with_reducible first|exact agv _ _|refine gW ?_ λ_=> ?_)|split|exact lC)
def Zi(t:Á)(x i:Ã):fP P (ţ t x i):=by unfold ţ;repeat' (first|(with_reducible first|exact ij _|exact kg _|exact u9 _|exact YZ _ _ _ _|exact xF _|exact Y4 _|exact Y5 _|refine gW ?_ (λ_=> ?_)|refine pK _ ?_)|split|rfl|simp only[])
def agw(x:Ã)(y:Nat)(c:aU):fP P (ĸ x y c):=by unfold ĸ;exact lC
def Zj(b:Bool)(l c:Nat)(x y z:Option Ã):fP P (ĳ b l c x y z):=by unfold ĳ;repeat' (first|(with_reducible first|exact agw _ _ _|refine gW ?_ λ_=> ?_)|split|exact lC)
def agx(t:Á)(v:Ã)(x y z:Option Ã):fP P (Λ t v x y z):=by unfold Λ;repeat' (first|(with_reducible first|exact Y6 _|exact Zj _ _ _ _ _ _|refine gW ?_ λ_=> ?_)|split|exact lC)
def Zk(t:Á)(v:Ã)(x y z:Option Ã):fP P (Ť t v x y z):=by unfold Ť;repeat' (first|(with_reducible first|exact Zj _ _ _ _ _ _|exact agx _ _ _ _ _|refine gW ?_ λ_=> ?_)|split|exact lC)
def Zl(t:Á)(x i:Ã):fP P (Μ t x i):=by unfold Μ;exact lC
def Zm(o:ĭ)(k:Ć)(x y:Int):fP P (dW o k x y):=by unfold dW;exact lC
def Zn(o:ĭ)(k:Ć)(x y:Int):fP P (eF o k x y):=by unfold eF;exact lC
def Zo(o:UnOp)(v:Ã):fP P (cH o v):=by unfold cH;repeat' (first|(with_reducible first|exact Zm _ _ _ _|exact Zn _ _ _ _)|split|exact lC)
def Zp(t:Á)(a:Array (Nat×Value)):fP P (Ν t a):=by unfold Ν;repeat' (first|(with_reducible first|exact agt _|refine gW ?_ λ_=> ?_)|split|exact lC)
def Zq(t:Á)(n:Nat)(a:Array (Nat×Value)):fP P (ĺ t n a):=by unfold ĺ;repeat' (first|(with_reducible first|exact ij _|exact kg _|exact Ks _ _|exact u9 _|exact NP _|exact xF _|refine gW ?_ (λ_=> ?_)|refine pK _ ?_)|split|rfl|simp only[]|(rename_i b;cases b<;>simp only[Ç,if_false,if_true,ċ,ď]))
def S4(n:Nat):fP P (Ň n):=by unfold Ň;exact lC
def Zr(t:Á)(x y:Ã):fP P (ŉ t x y):=by unfold ŉ;repeat' (first|(with_reducible first|exact ij _|exact kg _|exact wM _|exact Ks _ _|exact zn _|exact u9 _|exact Aq _|exact NP _|exact xF _|exact Kt _|exact S4 _|refine gW ?_ λ_=> ?_)|split|simp only[]|(rename_i b;cases b<;>simp only[Ç,if_false,if_true,ċ,ď]))
def Zs(v:Ã):fP P (ι v):=by unfold ι;exact lC
def Zt(s n:Nat)(v:Ã):fP P (Ö s n v):=by unfold Ö;exact lC
def agy(a:Ü)(n:Nat):fP P (aY a n):=by unfold aY;exact lC
def agz(s l n:Nat)(b:Option Ü)(v:Ã):fP P (ĩ s l n b v):=by unfold ĩ;repeat' (first|(with_reducible first|exact ij _|exact S0 _|exact agy _ _|refine gW ?_ λ_=> ?_)|split|simp only[]|(rename_i b;cases b<;>simp only[Ç,if_false,if_true,ċ,ď]))
def Zu(a:Array Á)(t:Á)(x:Array Ã):fP P (Ŵ a t x):=by unfold Ŵ;exact lC
def Zv(a:Array Á)(t:Á)(x:Array Ã):fP P (ŵ a t x):=by unfold ŵ;exact lC
def Zw(a:Array Á)(t:Á)(x:Array Ã):fP P (ť a t x):=by unfold ť;repeat' (first|(with_reducible first|exact Zs _|exact Zt _ _ _|refine gW ?_ λ_=> ?_)|split|exact lC)
def Zx(a:Array Á)(t:Á)(x:Array Ã):fP P (ň a t x):=by unfold ň;repeat' (first|(with_reducible first|exact ij _|exact kg _|exact wM _|exact Kq _|exact Ks _ _|exact zn _|exact u9 _|exact Aq _|exact NP _|exact xF _|exact NQ _ _ _|exact Kt _|exact S4 _|exact Zs _|exact Zt _ _ _|exact agz _ _ _ _ _|refine gW ?_ (λ_=> ?_)|refine pK _ ?_)|split|rfl|(rename_i b;cases b<;>simp only[Ç,if_false,if_true,ċ,ď]))
end
section
variable{α:Type}
def S5(o:ĭ)(k:ľ)(x y:Nat):fP P (du o k x y):=by unfold du;repeat' (first|(with_reducible first|exact ij _|exact kg _|exact wM _|refine gW ?_ λ_=> ?_)|split|simp only[]|(rename_i b;cases b<;>simp only[Ç,if_false,if_true,ċ,ď]))
def S6(o:ĭ)(k:ľ)(x y:Nat):fP P (dX o k x y):=by unfold dX;repeat' (first|(with_reducible first|exact ij _|exact kg _)|split)
def agA(s:ľ)(b:Nat)(d:ľ):fP P (bz s b d):=by unfold bz;repeat' (first|(with_reducible first|exact ij _|exact wM _|refine gW ?_ λ_=> ?_)|split|simp only[])
def Zy(s:ľ)(b:Nat)(d:Ć):fP P (cj s b d):=by unfold cj;repeat' (first|(with_reducible first|exact ij _|exact wM _|refine gW ?_ λ_=> ?_)|split)
def agB(o:ĭ)(k:ľ)(x y:Nat):fP P (bI o k x y):=by unfold bI;repeat' (first|(with_reducible first|exact ij _|exact kg _|exact S5 _ _ _ _|refine gW ?_ λ_=> ?_)|split)
def pL{p:Prop}(h:p:=by repeat' (first|(with_reducible first|exact ij _|exact kg _|exact wM _|exact S5 _ _ _ _|exact NS _|exact S6 _ _ _ _|exact agA _ _ _|exact agB _ _ _ _|exact Aq _|exact uj|exact DR _|exact xD _|exact Kt _|exact NT _|exact u9 _|exact Hn _|exact Zf _|refine gW ?_ (λ_=> ?_)|refine pK _ ?_)|split|rfl)):p:=h
def Zz(o:ĭ)(k:ľ)(x y:Nat):fP P (cP o k x y):=by unfold cP;exact pL
def agC(s:ľ)(b:Nat)(d:ľ):fP P (ck s b d):=by unfold ck;exact pL
def S7(x y:Nat):fP P (cQ x y):=by unfold cQ;exact pL
def S8(x y:Nat):fP P (cR x y):=by unfold cR;exact pL
def S9(x y:Nat):fP P (cS x y):=by unfold cS;exact pL
def agD(x y:Nat):fP P (cT x y):=by unfold cT;exact pL
def agE(a b c d:Nat):fP P (aZ a b c d):=by unfold aZ;repeat' (first|(with_reducible first|exact S7 _ _|exact S8 _ _|exact S9 _ _|refine gW ?_ λ_=> ?_)|split|exact pL)
def agF(s a b c d:Nat):fP P (aC s a b c d):=by unfold aC;repeat' (first|(with_reducible first|exact S7 _ _|exact S8 _ _|exact S9 _ _|refine gW ?_ λ_=> ?_)|split|exact pL)
def agG(a b c d:Nat):fP P (aN a b c d):=by unfold aN;repeat' (first|(with_reducible first|exact ij _|exact Zz _ _ _ _|exact S7 _ _|exact S8 _ _|exact S9 _ _|exact agD _ _|exact agF _ _ _ _ _|refine gW ?_ λ_=> ?_)|split|simp only[])
def ZA(o:ĭ)(k:ľ)(a b c d:Nat):fP P (dJ o k a b c d):=by unfold dJ;repeat' (first|(with_reducible first|exact Zz _ _ _ _|exact agC _ _ _|exact agE _ _ _ _|exact agG _ _ _ _|refine gW ?_ λ_=> ?_)|split|exact pL)
def agH(o:ĭ)(k:Ć)(x y:Int):fP P (aJ o k x y):=by unfold aJ;exact pL
def ZB(o:ĭ)(x y:Int):fP P (eX o x y):=by unfold eX;exact pL
def agI(o:ĭ)(k:Ć)(x:Int)(a:Ć)(y:Int):fP P (bn o k x a y):=by unfold bn;exact pL
def Ta(o:ĭ)(x y:ByteArray):fP P (bR o x y):=by unfold bR;exact pL
def ZC(a b:Ü):fP P (Ŷ a b):=by unfold Ŷ;exact pL
def agJ(k:Ć)(a b:Ü):fP P (χ k a b):=by unfold χ;repeat' (first|(with_reducible first|exact ZC _ _|refine gW ?_ λ_=> ?_)|split|exact pL)
def agK(o:ĭ)(a b:Ü):fP P (ψ o a b):=by unfold ψ;repeat' (first|(with_reducible first|exact ZC _ _|refine gW ?_ λ_=> ?_)|split|exact pL)
def agL(k:Ć)(a:Ü)(n:Int):fP P (ω k a n):=by unfold ω;repeat' (first|(with_reducible first|exact ij _|exact xD _|exact zn _|exact DR _|refine gW ?_ (λ_=> ?_)|refine pK _ ?_)|split|rfl|simp only[]|(rename_i b;cases b<;>simp only[Ç,if_false,if_true,ċ,ď]))
def ZD(a:Array Á)(t:Á)(x y:Ã):fP P (ô a t #[x,y]):=by
 unfold ô;cases x<;>first|exact kg _|skip
 refine gW (Kt y) λn=> ?_;exact pL
def agM(a:Ü)(b:Bool):fP P (cK a b):=by unfold cK;repeat' (first|(with_reducible first|exact ij _|refine gW ?_ (λ_=> ?_)|refine NM _ ?_)|split|(intro _ _ h;cases h;done))
def agN(t:Á)(x y:Ã):fP P (ũ t x y):=by unfold ũ;repeat' (first|(with_reducible first|exact ZD _ _ _ _|exact agM _ _|refine gW ?_ λ_=> ?_)|split|exact pL)
def agO(t:Á)(x y:Ã):fP P (ŷ t x y):=by unfold ŷ;repeat' (first|(with_reducible first|exact ZD _ _ _ _|refine gW ?_ λ_=> ?_)|split|exact pL)
def wN{γ:Type}{d:dY}(h:P.underlying t=À d){f:dY->Ğ γ}(a:fP P (f d)):fP P (ù t>>=f):=by
 have e:∀u,(ù t).run P u=ı d u:=by intro u;unfold ù;rw[Å,ÿ];simp only[Ê,h];rfl
 exact NN (λu=>by rw[Å,e,Ê]) a
def ZE(t:Á)(x y:Ã)(a:xC P t\/((∃e,P.underlying t=À (ó e))/\(pJ x\/pJ y))):fP P (û t x y):=by
 unfold û Ď φ;rcases a with(h|⟨k,h⟩|h)|⟨⟨e,h⟩,k⟩<;>refine wN h ?_
 .repeat' (first|(with_reducible first|exact ij _|exact kg _|exact uj|exact zn _|exact DR _|exact Hn _|refine gW ?_ (λ_=> ?_)|refine pK _ ?_)|contradiction|split)
 .repeat' (first|(with_reducible first|exact ij _|exact kg _|exact uj|exact zn _|exact DR _|exact Hn _|refine gW ?_ (λ_=> ?_)|refine pK _ ?_)|contradiction|split|rfl)
 .repeat' (first|(with_reducible first|exact ij _|exact kg _|exact uj|exact zn _|exact DR _|exact Hn _|refine gW ?_ (λ_=> ?_)|refine pK _ ?_)|contradiction|split)
 .repeat' (first|(with_reducible first|exact ij _|exact kg _|exact uj|exact zn _|exact DR _|exact Hn _|refine gW ?_ (λ_=> ?_)|refine pK _ ?_)|contradiction|exact(Or.elim k id id:False).elim|split)
def agP(t:Á)(a:Ki P t)(x y:Ã):fP P (ļ Ď t x y):=by unfold Ď ļ;rcases a with(h|⟨k,h⟩|h)|⟨e,h⟩<;>refine wN h ?_<;>(cases x<;>cases y<;>exact ij _)
def ZF(c:ĭ)(t:Á)(d:c=aX\/c=bq->Ki P t)(x y:Ú)(a b:Ã):fP P (Ο c t x y a b):=by
 unfold Ο;by_cases e:c=aX\/c=bq
 .have f:=d e;rcases e with rfl|rfl;all_goals
   repeat' (first|(with_reducible first|exact agP _ f _ _|refine gW ?_ λ_=> ?_)|split|exact pL)
 .cases c<;>first|exact absurd (Æ U) e|exact absurd (Í U) e|exact ij _
end
section
variable{α:Type}
def agQ(k:Ć)(n:Int):fP P (dw k n):=by unfold dw;repeat' (first|(with_reducible first|exact ij _)|split)
def ZG(n:Int):fP P (bJ n):=by unfold bJ;repeat' (first|(with_reducible first|exact ij _)|split)
def agR(a:ĭ)(t:Á)(x y:Ã)(h:a=aX\/a=bq->(xC P t\/((∃e,P.underlying t=À (ó e))/\(pJ x\/pJ y)))):fP P (Α a t x y):=by unfold Α;repeat' (first|(with_reducible first|exact ZE _ _ _ (h<|Æ U)|exact ZE _ _ _ (h<|Í U)|exact ij _|exact kg _|exact u9 _|exact Hn _|exact Zm _ _ _ _|exact Zn _ _ _ _|exact S5 _ _ _ _|exact S6 _ _ _ _|exact ZA _ _ _ _ _ _|exact agH _ _ _ _|exact ZB _ _ _|exact agI _ _ _ _ _|exact Ta _ _ _|exact agJ _ _ _|exact agK _ _ _|exact agL _ _ _|exact agN _ _ _|exact agO _ _ _|refine gW ?_ (λ_=> ?_)|refine pK _ ?_)|contradiction|split|rfl)
def agS(s d:Á)(x:Ã)(h:(∃k a,P.underlying s=À (κ k)/\P.underlying d=À (κ a))\/(P.underlying s=À ĥ/\P.underlying d=À ĥ)):fP P (Ŧ s d x):=by
 unfold Ŧ;rcases h with⟨k,a,b,c⟩|⟨b,c⟩<;>refine wN b<|wN c ?_
 .repeat' (first|(with_reducible first|exact agQ _ _|exact ij _|exact Zy _ _ _|refine pK _ ?_)|contradiction|split|rfl)
 .repeat' (first|(with_reducible first|exact ZG _|exact ij _|exact Zy _ _ _|refine pK _ ?_)|contradiction|split|rfl)
def ZH:∀(l:List FieldStep) (t:Á) (x:Option Ã),fP P<|bS l t x
 |[],t,x=>by unfold bS;exact ij _
 |s::l,t,x=>by unfold bS;repeat' (first|(with_reducible first|exact ZH l _ _|exact ij _|exact kg _|exact u9 _|exact Y3 _ _ _|refine gW ?_ λ_=> ?_)|split|(intro _ _ h;cases h;done)|rfl|simp only[]|(rename_i b;cases b<;>simp only[Ç,if_false,if_true,ċ,ď]))
def ZI:∀(n:Nat) (t:Á) (v:Ã) (s:String),fP P<|bA n t v s
 |0,t,v,s=>by unfold bA;exact ij _
 |n+1,t,v,s=>by unfold bA;repeat' (first|(with_reducible first|exact ZI n _ _ _|exact ZH _ _ _|exact ij _|exact kg _|exact zn _|exact u9 _|refine gW ?_ λ_=> ?_)|split|(intro _ _ h;cases h;done)|rfl|simp only[]|(rename_i b;cases b<;>simp only[Ç,if_false,if_true,ċ,ď]))
def n9{m:Ğ Ã}(h:fP P m):fP P (m>>=λv=>pure<|ñ v):=gW h λ_=>ij _
def agT(f:ã)(b:∃a,P.funcs[f]?=À a/\(a.name== "runtime.NumGoroutine")=Â/\a.body.isNone=Â)(c:Array Ã):fP P (Ń f c):=by let⟨a,d,e,g⟩:=b;refine NN (m':=pure<|Β f c) (λu=> ?_)<|ij _;unfold Ń;rw[Å,ÿ];simp only[Ê,d,e,g,Ç,if_false]
def agU(j:lM P xX o.op):fP P (î xX o):=by
 let⟨k,g,m,p,u,guard⟩:=o;simp only at j;unfold î;simp only[];cases j with
 |DL x=>exact ij _
 |Kj x=>exact ij _
 |Ao c a b=>exact gW (NS _) λ_=>ij _
 |gT t=>exact n9<|Y7 _ _ _
 |fq t x=>exact n9<|Y8 _ _
 |SG t b=>exact n9<|Zp _ _
 |SH t n b=>exact n9<|Zq _ _ _
 |ig t a=>exact n9<|Y9 _ _
 |j1 t a x=>exact gW (Za _ _ _) λ_=>ij _
 |Kk x=>
  simp only[];repeat' (first|(with_reducible first|exact ZI _ _ _ _|exact ij _|exact uj|exact Aq _|exact NS _|exact Y7 _ _ _|exact Y8 _ _|exact Y9 _ _|exact Za _ _ _|exact Zb _ _|exact Zc _ _ _|exact Zh _ _ _|exact Zi _ _ _|exact Zk _ _ _ _ _|exact Zl _ _ _|exact Zo _ _|exact Zp _ _|exact Zq _ _ _|exact Zr _ _ _|exact Zu _ _ _|exact Zv _ _ _|exact Zw _ _ _|exact Zx _ _ _|refine gW ?_ (λ_=> ?_)|refine pK _ ?_)|split|rfl)
 |Hl g t x y r h=>exact n9<|gW (ZF g t (λe=>(h e).imp id λq=>q.1) x y _ _) λ_=>agR g t _ _ h
 |SJ g t x=>exact n9<|Zo _ _
 |SK s d x h=>exact n9<|agS s d _ h
 |SL t l c=>exact n9<|Zr _ _ _
 |mP t x b a c=>exact n9<|Zk _ _ _ _ _
 |SN s x n h=>exact n9<|Zh _ _ _
 |SO t x n=>exact n9<|Zc _ _ _
 |SQ t x i=>exact n9<|Zi _ _ _
 |SR t x i=>exact n9<|Zl _ _ _
 |J7 x n=>exact n9<|Zb _ _
 |iw x a=>
  simp only[Ă,Ę,ĝ,pure_bind,Û,æ,é];exact n9<|Zu _ _ _
 |Kl x a=>
  simp only[Ă,Ę,ĝ,pure_bind,Û,æ,é];exact n9<|Zv _ _ _
 |Km x y a=>
  simp only[Ă,Ę,ĝ,pure_bind,Û,æ,é];exact n9<|Zw _ _ _
 |xy x y b c h=>
  simp only[Ă,Ę,ĝ,pure_bind,Û,æ,é];exact n9<|Zx _ _ _
 |j5 f c a b h=>
  simp only[Ă,b,Ľ,Ę,pure_bind,ę,Ě];exact agT f h _
end
def fm(f:ã)(t:Array Ã)(k:List ű):ģ:=(base f).at ⟨t,[]⟩ k
structure St where
 f:ã
 t:Array Ã
 k:List ű
 ri:Bool
 L:List (FuncId×Array Value×List ű)
def St.jD(s:St)(cs:List ģ):Ô:=G (if s.ri then{fm s.f s.t s.k with mode:=.returning}else fm s.f s.t s.k)<|s.L.map (λx=>fm x.1 x.2.1 x.2.2)++cs
def rZ(t:Array Ã)(d:Option Tmp)(v:Ã):Array Ã:=(Act.put ⟨t,[]⟩ d v).tmps
def wO(t:Array Ã)(d:Option Tmp)(v:Ã):Act.put ⟨t,[]⟩ d v=⟨rZ t d v,[]⟩:=by cases d<;>rfl
inductive LS(P:Ù):St->È->St->È->Prop
 |mX {f t L u:_}:LS P ⟨f,t,[],Â,L⟩ u ⟨f,t,[],Ë,L⟩ u
 |ri {f t k L u:_}:LS P ⟨f,t,ě .ret::k,Â,L⟩ u ⟨f,t,ě .ret::k,Ë,L⟩ u
 |wK {f t k L u:_}:LS P ⟨f,t,ě .skip::k,Â,L⟩ u ⟨f,t,k,Â,L⟩ u
 |Ar {f t k L u l:_}:LS P ⟨f,t,ě (eG l)::k,Â,L⟩ u ⟨f,t,k,Â,L⟩ u
 |BT {f t k L u id:_}:LS P ⟨f,t,dZ id::k,Â,L⟩ u ⟨f,t,k,Â,L⟩ u
 |zo {f t k L u c:_}:LS P ⟨f,t,ec c::k,Â,L⟩ u ⟨f,t,k,Â,L⟩ u
 |va {f t k L u x y:_}:LS P ⟨f,t,ě (.seq x y)::k,Â,L⟩ u ⟨f,t,ě x::ě y::k,Â,L⟩ u
 |xG {f t k L u c x y b:_} (h:ê ⟨t,[]⟩ c=Ŏ b):LS P ⟨f,t,ě (bT c x y)::k,Â,L⟩ u ⟨f,t,ě (if b then x else y)::k,Â,L⟩ u
 |vd {f t k L u id c:_}:LS P ⟨f,t,ě (eH id c)::k,Â,L⟩ u ⟨f,t,ě c::dZ id::k,Â,L⟩ u
 |As {f t k L u c:_}:LS P ⟨f,t,ě (.loop c)::k,Â,L⟩ u ⟨f,t,ě c::dK c::k,Â,L⟩ u
 |At {f t k L u c:_}:LS P ⟨f,t,dK c::k,Â,L⟩ u ⟨f,t,ě c::dK c::k,Â,L⟩ u
 |Au {f t k L u c:_}:LS P ⟨f,t,ě (eI c)::k,Â,L⟩ u ⟨f,t,ě c::ec c::k,Â,L⟩ u
 |Av {f t k L u id k':_} (h:cV id k=À k'):LS P ⟨f,t,ě (.exit id)::k,Â,L⟩ u ⟨f,t,k',Â,L⟩ u
 |Aw {f t k L u l k':_} (h:cW l k=À k'):LS P ⟨f,t,ě (.goto l)::k,Â,L⟩ u ⟨f,t,k',Â,L⟩ u
 |xH {f t k L u id ops:_}:LS P ⟨f,t,ě (cy id ops Â)::k,Â,L⟩ u ⟨f,t,å ops (List.range ops.size)::k,Â,L⟩ u
 |DU {f t k L u id ops:_}:LS P ⟨f,t,ě (cy id ops Ë)::k,Â,L⟩ u ⟨f,t,å ops (cm (P.follows .mixedOrders) ops<|u.tape u.drawn<|.order f id)::k,Â,L⟩ {u with drawn:=u.drawn+1}
 |Ku {f t k L u ops:_}:LS P ⟨f,t,å ops []::k,Â,L⟩ u ⟨f,t,k,Â,L⟩ u
 |Ho {f t k L u ops i rest o:_} (ho:ops[i]?=À o) (hw:Ĳ o (ŗ ops t)=Â):LS P ⟨f,t,å ops (i::rest)::k,Â,L⟩ u ⟨f,rZ t o.dst ŏ,å ops rest::k,Â,L⟩ u
 |qh {f t k L u ops i rest o v u':_} (ho:ops[i]?=À o) (hw:Ĳ o (ŗ ops t)=Ë) (hr:(î (ê ⟨t,[]⟩) o).run P u=ı (ñ v) u'):LS P ⟨f,t,å ops (i::rest)::k,Â,L⟩ u ⟨f,rZ t o.dst v,å ops rest::k,Â,L⟩ u'
 |DV {f t k L u ops i rest o u':_} (ho:ops[i]?=À o) (hw:Ĳ o (ŗ ops t)=Ë) (hr:(î (ê ⟨t,[]⟩) o).run P u=ı bk u'):LS P ⟨f,t,å ops (i::rest)::k,Â,L⟩ u ⟨f,rZ t o.dst ŏ,å ops rest::k,Â,L⟩ u'
 |wL {f t k L u ops i rest o g args fn c u':_} (ho:ops[i]?=À o) (hw:Ĳ o (ŗ ops t)=Ë) (hr:(î (ê ⟨t,[]⟩) o).run P u=ı (Β g args) u') (hf:P.funcs[g]?=À fn) (hb:fn.body=À c):LS P ⟨f,t,å ops (i::rest)::k,Â,L⟩ u ⟨g,args++ŋ (fn.ntmps-args.size) ŏ,[ě c],Â,(f,t,å ops (i::rest)::k)::L⟩ u'
 |Hp {f t k L u ops i rest:_} (ho:(ops:Array aT)[(i:Nat)]?=í):LS P ⟨f,t,å ops (i::rest)::k,Â,L⟩ u ⟨f,t,å ops rest::k,Â,L⟩ u
 |Ax {f t k L u g t' ops i rest k' v fn u':_} (hf:P.funcs[f]?=À fn) (hr:(İ fn t).run P u=ı v u'):LS P ⟨f,t,k,Ë,(g,t',å ops (i::rest)::k')::L⟩ u ⟨g,rZ t' ((ops[i]?).bind (·.dst)) v,å ops rest::k',Â,L⟩ u'
inductive oN(GL:Nat->Prop):Ú->Prop
 |ZJ (t:Tmp):oN GL (.tmp t)
 |ZK {v:Ã} (h:lq v):oN GL (eD v)
 |ZL {g:Nat} (h:GL g):oN GL (eS g)
 |ZM (f:ã):oN GL (bu f)
structure pn(P:Ù)(GL:Nat->Prop)(fe:ã->Prop)(o:aT):Prop where
 po:∀{ρ:fE} {Sh:Nat->Prop} {t t':Array Ã} {u w:È},qg P->ρ.gd=P.globals.size->(∀g,GL g->ρ g g)->gA ρ t t'->km ρ Sh u w->(∀j,Sh j->j<w.heap.size)->∀{x:ae} {u':È},(î (ê ⟨t,[]⟩) o).run P u=ı x u'->Hj u u'->
  ∃(An:fE) (x':ae) (w':È) (ZN:Array ĉ),ρ.le An/\(∀i j,An i j->ρ i j\/(u.heap.size<=i/\w.heap.size<=j))/\(î (ê ⟨t',[]⟩) o).runT P w #[]=(ı x' w',#[]++ZN)/\rY An x x'/\km An Sh u' w'/\qf ρ Sh w w'/\(∀e∈ZN,Dz An Sh e)/\u.heap.size<=u'.heap.size
 zp:∀a:bZ,fP P<|î a.eval o
 NU:∀(a:bZ) (u:È) (n:ae) (u':È),(î a.eval o).run P u=ı n u'->(∃v,n=ñ v)\/n=bk\/∃f c,n=Β f c
 zq:∀(a:bZ) (u:È) (f:ã) (c:Array Ã) (u':È),(î a.eval o).run P u=ı (Β f c) u'->fe f
inductive mF(P:Ù)(GL:Nat->Prop)(fe:ã->Prop):aQ->Prop
 |ri:mF P GL fe .ret
 |wK:mF P GL fe .skip
 |Ar (l:Nat):mF P GL fe (eG l)
 |Av (id:Nat):mF P GL fe (.exit id)
 |Aw (l:Nat):mF P GL fe (.goto l)
 |va {x y:aQ} (hx:mF P GL fe x) (hy:mF P GL fe y):mF P GL fe (.seq x y)
 |xG {c:Ú} {x y:aQ} (hc:oN GL c) (hx:mF P GL fe x) (hy:mF P GL fe y):mF P GL fe (bT c x y)
 |vd (id:Nat) {c:aQ} (h:mF P GL fe c):mF P GL fe (eH id c)
 |As {c:aQ} (h:mF P GL fe c):mF P GL fe (.loop c)
 |Au {c:aQ} (h:mF P GL fe c):mF P GL fe (eI c)
 |xH (id:Nat) {ops:Array aT} (draw:Bool) (h:∀o∈ops,pn P GL fe o):mF P GL fe (cy id ops draw)
 |sd (ZO:String):mF P GL fe (dM ZO)
inductive DW(P:Ù)(GL:Nat->Prop)(fe:ã->Prop):ű->Prop
 |ve {c:aQ} (h:mF P GL fe c):DW P GL fe (ě c)
 |BT (id:Nat):DW P GL fe (dZ id)
 |zo {c:aQ} (h:mF P GL fe c):DW P GL fe (ec c)
 |At {c:aQ} (h:mF P GL fe c):DW P GL fe (dK c)
 |Ay {ops:Array aT} (is:List Nat) (h:∀o∈ops,pn P GL fe o):DW P GL fe (å ops is)
def wP(P:Ù)(a:Nat->Prop)(b:ã->Prop)(k:List ű):Prop:=∀i∈k,DW P a b i
structure ow(P:Ù)(GL:Nat->Prop)(fe:ã->Prop)(s:St):Prop where
 gN:wP P GL fe s.k
 fG:∀x∈s.L,wP P GL fe x.2.2
def se(P:Ù)(d:Nat->Prop)(a:ã->Prop):Prop:=∀f,a f->∀b c,P.funcs[f]?=À b->b.body=À c->mF P d a c
section
variable{GL:Nat->Prop}{fe:ã->Prop}
def agV{a:aQ}(h:mF P GL fe wX):bK wX i=À a->mF P GL fe a:=by
 induction h generalizing a with
 |va j b d f=>
  intro e;simp only[bK]at e;split at e
  .rename_i r g;cases e;exact .va (d g) b
  .exact f e
 |Ar k=>
  intro e;simp only[bK]at e;split at e<;>cases e;exact .wK
 |_=>intro e;simp only[bK]at e;cases e
def agW{id:Nat}:∀{k a:List ű},wP P GL fe k->cV id k=À a->wP P GL fe a:=by
 intro k
 induction k with
 |nil=>intro a _ e;simp[cV]at e
 |cons i k c=>
  intro a h e;have b:=λj d=>h j<|õ _ d;cases i with
  |inBlock f=>
   simp only[cV]at e;split at e
   .cases e;exact b
   .exact c b e
  |_=>simp only[cV]at e;exact c b e
def agX:∀{k c:List ű},wP P GL fe k->cW i k=À c->wP P GL fe c:=by
 intro k
 induction k with
 |nil=>intro c _ e;simp[cW]at e
 |cons a k f=>
  intro c h e;have d:=λj b=>h j<|õ _ b;cases a with
  |inScope m=>
   simp only[cW]at e;have g:mF P GL fe m:=by cases h _ (ð ..)with|zo h=>exact h
   split at e
   .rename_i r n;cases e;intro j b;rcases ŧ.1 b with rfl|b
    .exact .ve (agV g n)
    .rcases ŧ.1 b with rfl|b
     .exact .zo g
     .exact d j b
   .exact f d e
  |_=>simp only[cW]at e;exact f d e
def qi{i:ű}(h:wP P GL fe (i::L)):wP P GL fe L:=λj a=>h j<|õ _ a
def rj{i:ű}(b:DW P GL fe i)(h:wP P GL fe L):wP P GL fe (i::L):=λj a=>by
 rcases ŧ.1 a with rfl|a
 .exact b
 .exact h j a
def BU{c:aQ}{k:List ű}(h:wP P GL fe (ě c::k)):mF P GL fe c:=by cases h _ (ð ..)with|ve h=>exact h
def sf{ops:Array aT}{k:List ű}(h:wP P GL fe (å ops jJ::k)):∀o∈ops,pn P GL fe o:=by cases h _ (ð ..)with|Ay _ h=>exact h
def LS.ok(i:se P GL fe)(k:∀o a u f l w,pn P GL fe o->(î (ê a) o).run P u=ı (Β f l) w->fe f){s g:St}(h:LS P s u g w)(ok:ow P GL fe s):ow P GL fe g:=by
 let⟨c,d⟩:=ok;cases h with
 |mX=>exact⟨c,d⟩
 |ri=>exact⟨c,d⟩
 |wK=>exact⟨qi c,d⟩
 |Ar=>exact⟨qi c,d⟩
 |BT=>exact⟨qi c,d⟩
 |zo=>exact⟨qi c,d⟩
 |va=>
  cases BU c with
  |va e j=>exact⟨rj (.ve e)<|rj (.ve j)<|qi c,d⟩
 |@xG _ _ _ _ _ _ _ _ b _=>
  cases BU c with
  |xG _ e j=>exact⟨rj (.ve (by cases b<;>simp[e,j]))<|qi c,d⟩
 |vd=>
  cases BU c with
  |vd _ h=>exact⟨rj (.ve h)<|rj (.BT _)<|qi c,d⟩
 |As=>
  cases BU c with
  |As h=>exact⟨rj (.ve h)<|rj (.At h)<|qi c,d⟩
 |At=>
  cases c _ (ð ..)with
  |At h=>exact⟨rj (.ve h) c,d⟩
 |Au=>
  cases BU c with
  |Au h=>exact⟨rj (.ve h)<|rj (.zo h)<|qi c,d⟩
 |Av h=>exact⟨agW (qi c) h,d⟩
 |Aw h=>exact⟨agX (qi c) h,d⟩
 |xH=>
  cases BU c with
  |xH _ _ h=>exact⟨rj (.Ay _ h)<|qi c,d⟩
 |DU=>
  cases BU c with
  |xH _ _ h=>exact⟨rj (.Ay _ h)<|qi c,d⟩
 |Ku=>exact⟨qi c,d⟩
 |Ho=>exact⟨rj (.Ay _ (sf c))<|qi c,d⟩
 |qh=>exact⟨rj (.Ay _ (sf c))<|qi c,d⟩
 |DV=>exact⟨rj (.Ay _ (sf c))<|qi c,d⟩
 |wL m _ n p q=>
  have r:=k _ _ _ _ _ _ (sf c _<|Ø m) n;refine⟨λj t=> ?_,λx e=> ?_⟩
  .have:=Γ.1 t;rw[this];exact .ve (i _ r _ _ p q)
  .rcases ŧ.1 e with rfl|e
   .exact c
   .exact d x e
 |Hp=>exact⟨rj (.Ay _ (sf c))<|qi c,d⟩
 |Ax=>
  have j:=d _<|ð ..;exact⟨rj (.Ay _ (sf j))<|qi j,λx e=>d x<|õ _ e⟩
end
structure NV(ρ:fE)(x y:FuncId×Array Value×List ű):Prop where
 f:x.1=y.1
 t:gA ρ x.2.1 y.2.1
 k:x.2.2=y.2.2
inductive Hq(ρ:fE):List (FuncId×Array Value×List ű)->List (FuncId×Array Value×List ű)->Prop
 |mX:Hq ρ [] []
 |Am {x y:FuncId×Array Value×List ű} {L L':List (FuncId×Array Value×List ű)} (h:NV ρ x y) (hs:Hq ρ L L'):Hq ρ (x::L) (y::L')
structure NW(ρ:fE)(s s':St):Prop where
 f:s.f=s'.f
 t:gA ρ s.t s'.t
 k:s.k=s'.k
 ri:s.ri=s'.ri
 L:Hq ρ s.L s'.L
def NV.ft{ρ a:fE}(h:ρ.le a){x y:FuncId×Array Value×List ű}(r:NV ρ x y):NV a x y:=⟨r.f,r.t.ft h,r.k⟩
def NY{ρ b:fE}(h:ρ.le b){L c:List (FuncId×Array Value×List ű)}(r:Hq ρ L c):Hq b L c:=by
 induction r with
 |mX=>exact .mX
 |Am a _ d=>exact .Am (a.ft h) d
section
variable{ρ:fE}{j:Nat->Prop}{p:ã->Prop}
def agY(a:∀g,X g->ρ g g)(h:oN X qQ):YP ρ qQ:=by
 cases h with
 |ZJ t=>trivial
 |ZK h=>exact h.gy ρ
 |ZL h=>exact a _ h
 |ZM f=>trivial
def Az(b:∀g,X g->ρ g g)(h:gA ρ d q)(c:oN X qQ):fy ρ (ê ⟨d,[]⟩ qQ) (ê ⟨q,[]⟩ qQ):= af0 (a:=⟨d,[]⟩) (a':=⟨q,[]⟩) h<|agY b c
def rZ.gy{t:Array Ã}(h:gA ρ t q)(d:Option Tmp)(b:fy ρ v x):gA ρ (rZ t d v) (rZ q d x):= af3 (a:=⟨t,[]⟩) (a':=⟨q,[]⟩) h d b
def ZQ(n:Nat):gA ρ (ŋ n ŏ) (ŋ n ŏ):=⟨U,λi a b=>by simp only[Array.getElem_replicate];exact Kn ρ⟩
def agZ(B:lM P xX o.op)(i:(î xX o).run P u=ı (Β F d) W):∃q l,o.op=ah {callee:=cL<|bu F,args:=q,argTypes:=l}:=by
 have n:∀{m:Ğ Ã} {x:ae} {k p:È},(m>>=λv=>pure (ñ v):Ğ ae).run P k=ı x p->∃v,x=ñ v:=by
  intro m x k p e;rw[Å]at e;cases j:m.run P k with
  |ok a w=>rw[j]at e;cases e;exact⟨a,U⟩
  |halt z w=>rw[j]at e;cases e
 have C:∀{m:Ğ Unit} {x:ae} {k p:È},(m>>=λ_=>pure bk:Ğ ae).run P k=ı x p->x=bk:=by
  intro m x k p e;rw[Å]at e;cases j:m.run P k with
  |ok a w=>rw[j]at e;cases e;rfl
  |halt z w=>rw[j]at e;cases e
 let⟨E,s,G,H,I,guard⟩:=o;simp only at B|-;unfold î at i;simp only[]at i;cases B with
 |DL x=>cases i
 |Kj x=>cases i
 |Ao c a b=>
  rw[Å]at i;cases j:(cD<|xX c).run P u with
  |ok a w=>rw[j]at i;cases i
  |halt z w=>rw[j]at i;cases i
 |j1 t a x=>exact absurd (C i) fB
 |Kk x=>
  simp only[]at i;split at i;all_goals first
   |(cases i;done)
   |exact absurd i<|u6 _ _ _ _
   |(
    split at i;all_goals first
     |(cases i;done)
     |exact absurd i<|u6 _ _ _ _
     |(
      rw[Å,ÿ]at i;simp only[Ê]at i;rw[Å]at i;revert i;generalize ä P (bA _ _ _ _) u=z;intro i;cases z with
      |halt z w=>cases i
      |ok a w=>
       simp only[Ê]at i;split at i
       .rw[Å]at i;cases i
       .cases i))
 |iw x l=>simp only[Ă,Ę,ĝ,pure_bind,Û,æ,é]at i;let⟨v,e⟩:=n i;cases e
 |Kl x l=>simp only[Ă,Ę,ĝ,pure_bind,Û,æ,é]at i;let⟨v,e⟩:=n i;cases e
 |Km x y l=>simp only[Ă,Ę,ĝ,pure_bind,Û,æ,é]at i;let⟨v,e⟩:=n i;cases e
 |xy x y b c h=>simp only[Ă,Ę,ĝ,pure_bind,Û,æ,é]at i;let⟨v,e⟩:=n i;cases e
 |j5 g q l b h=>
  let⟨J,c,r,D⟩:=h;simp only[Ă,b,Ľ,Ę,pure_bind,ę,Ě,Ń]at i;rw[Å,ÿ]at i;simp only[Ê,c,r,D,Ç,if_false]at i;cases i;exact⟨q,l,U⟩
 |Hl s t x y r h=>
  rw[Å]at i;cases j:ä P (Ο s t x y (xX x) (xX y)>>=λ_=>Α s t (xX x)<|xX y) u with
  |ok a w=>rw[j]at i;cases i
  |halt z w=>rw[j]at i;cases i
 |_=>let⟨v,e⟩:=n i;cases e
def ZR(k:Func)(h:gA ρ d q):fT P fy ρ (İ k d) (İ k q):=by
 have m:∀(c:fE),ρ.le c->∀n,fy c (d.getD n ŏ) (q.getD n ŏ):=by
  intro c a n;simp only[Ĵ];rcases(h.ft a).mQ n with⟨b,e⟩|⟨v,u,b,e,g⟩
  .rw[b,e];exact Kn c
  .rwa[b,e]
 unfold İ;refine fR (V:=gA) ?_ ?_
 .rw[ğ,ğ];have w:∀(l:List ResultVar) (f:fE),ρ.le f->fT P (λc (a o:List Ã)=>gA c a.toArray o.toArray) f (l.mapM fun|ResultVar.tmp n=>pure (d.getD n ŏ)|ResultVar.cell a e=>do aH e (<-cE (d.getD a ŏ))) (l.mapM fun|ResultVar.tmp n=>pure (q.getD n ŏ)|ResultVar.cell a e=>do aH e (<-cE (q.getD a ŏ))):=by
   intro l
   induction l with
   |nil=>intro f _;simp only[dt];exact .fQ (gA.He _)
   |cons r l x=>
    intro f i;simp only[ax];refine fR (V:=fy) ?_ ?_
    .cases r with
     |tmp n=>exact .fQ (m f i n)
     |cell a e=>
      apply fR (YD<|m f i a);intro p b s _ j;exact Yz j e
    .intro p v u e g;apply fR (x p<|fE.pH i e);intro z s j y b;refine .fQ ?_;have:=(gA.n5<|g.ft y).xy b;simpa using this
  exact fT.oM (w _ ρ<|fE.zd _) λc a o _ e=> .fQ e
 .intro f s j _ b;refine .fQ ?_;by_cases e:s.size=1
  .have a:j.size=1:=by rwa[<-b.fh]
   rw[dif_pos e,dif_pos a];exact b.kt 0 _ _
  .have a:¬j.size=1:=by rwa[<-b.fh]
   rw[dif_neg e,dif_neg a];exact .qe b.fh b.kt
end
section
variable{ρ:fE}{d:Nat->Prop}{l:ã->Prop}
def jU(P:Ù)(ρ:fE)(d:Nat->Prop)(main:Bool)(cs:List ģ)(h:St)(u w:È)(k:St)(c:È):Prop:=
 ∃(a:fE) (f:St) (b:È) (g:Array ĉ),Ý P main (h.jD cs) w=bB (f.jD cs) b g/\NW a k f/\ρ.le a/\(∀i j,a i j->ρ i j\/(u.heap.size<=i/\w.heap.size<=j))/\km a d c b/\qf ρ d w b/\(∀e∈g,Dz a d e)/\u.heap.size<=c.heap.size
def jU.qH{main:Bool}{cs:List ģ}{a b s1':St}(c:km ρ d u w)(h:Ý P main (a.jD cs) w=bB (s1'.jD cs) w #[])(f:NW ρ b s1'):jU P ρ d main cs a u w b u:= ⟨ρ,s1',w,#[],h,f,fE.zd _,λ_ _ h=>Æ h,c,qf.fY _ _ w,λe g=>absurd g fB,á _⟩
def NZ{α:Type}{m:Ğ α}{x:α}(h:m.runT P w #[]=(ı x u,#[]++V)):m.run P w=ı x u/\m.events P w #[]=V:=by
 constructor
 .rw[<-Ÿ P m w #[],h]
 .unfold Sem.events;rw[h];simp
def Kv{main:Bool}{k:List ű}{c:ģ}{cs:List ģ}{es:Array ĉ}(a:P.funcs[F]?=À s)(b:(İ s q).runT P w #[]=(ı v u,es)): Ý P main (G {fm F q k with mode:=.returning}<|c::cs) w=bB (G (c.finish v) cs) u (seen P F es):=by simp[G,Ý,dN,doReturn,fm,Frame.at,base,a,b,Τ,-Υ]
def LS.po(hz:qg P)(hb:ρ.gd=P.globals.size)(hG:∀g,X g->ρ g g){s s1 s':St}(h:LS P s u s1 W)(hs:NW ρ s s')(ok:ow P X l s)(n:km ρ d u w)(hl:∀j,d j->j<w.heap.size)(Q:Hj u W)(main:Bool)(cs:List ģ): jU P ρ d main cs s' u w s1 W:=by
 let⟨f',r,k',ret',p⟩:=s';let⟨T,m,V,e3,q⟩:=hs;simp only at T V e3 m q;subst T V e3;cases h with
 |mX=>exact .qH (s1':=⟨_,r,_,Ë,p⟩) n (by simp[St.jD,fm,base,G,Ý,Î,Frame.at]) ⟨U,m,U,U,q⟩
 |ri=>exact .qH (s1':=⟨_,r,_,Ë,p⟩) n (by simp[St.jD,fm,base,G,Ý,Î,Frame.at]) ⟨U,m,U,U,q⟩
 |wK=>exact .qH (s1':=⟨_,r,_,Â,p⟩) n (by simp[St.jD,fm,base,G,Ý,Î,Frame.at]) ⟨U,m,U,U,q⟩
 |Ar=>exact .qH (s1':=⟨_,r,_,Â,p⟩) n (by simp[St.jD,fm,base,G,Ý,Î,Frame.at]) ⟨U,m,U,U,q⟩
 |BT=>exact .qH (s1':=⟨_,r,_,Â,p⟩) n (by simp[St.jD,fm,base,G,Ý,Î,Frame.at]) ⟨U,m,U,U,q⟩
 |zo=>exact .qH (s1':=⟨_,r,_,Â,p⟩) n (by simp[St.jD,fm,base,G,Ý,Î,Frame.at]) ⟨U,m,U,U,q⟩
 |va=>exact .qH (s1':=⟨_,r,_,Â,p⟩) n (by simp[St.jD,fm,base,G,Ý,Î,Frame.at]) ⟨U,m,U,U,q⟩
 |@xG _ _ _ _ _ c _ _ b hc'=>
  have Y:=Az hG m (by cases BU ok.gN with|xG Q _ _=>exact Q);rw[hc']at Y;have e:ê ⟨r,[]⟩ c=Ŏ b:=by generalize ê ⟨r,[]⟩ c=v' at Y;cases Y;rfl
  exact .qH (s1':=⟨_,r,_,Â,p⟩) n (cX e) ⟨U,m,U,U,q⟩
 |vd=>exact .qH (s1':=⟨_,r,_,Â,p⟩) n (by simp[St.jD,fm,base,G,Ý,Î,Frame.at]) ⟨U,m,U,U,q⟩
 |As=>exact .qH (s1':=⟨_,r,_,Â,p⟩) n (by simp[St.jD,fm,base,G,Ý,Î,Frame.at]) ⟨U,m,U,U,q⟩
 |At=>exact .qH (s1':=⟨_,r,_,Â,p⟩) n (by simp[St.jD,fm,base,G,Ý,Î,Frame.at]) ⟨U,m,U,U,q⟩
 |Au=>exact .qH (s1':=⟨_,r,_,Â,p⟩) n (by simp[St.jD,fm,base,G,Ý,Î,Frame.at]) ⟨U,m,U,U,q⟩
 |Av B=>exact .qH (s1':=⟨_,r,_,Â,p⟩) n (by simp[St.jD,fm,base,G,Ý,Î,Frame.at,B]) ⟨U,m,U,U,q⟩
 |Aw B=>exact .qH (s1':=⟨_,r,_,Â,p⟩) n (by simp[St.jD,fm,base,G,Ý,Î,Frame.at,B]) ⟨U,m,U,U,q⟩
 |xH=>exact .qH (s1':=⟨_,r,_,Â,p⟩) n (by simp[St.jD,fm,base,G,Ý,Î,Frame.at]) ⟨U,m,U,U,q⟩
 |@DU f t k L _ id ops=>
  refine⟨ρ,⟨f,r,å ops (cm (P.follows .mixedOrders) ops<|w.tape w.drawn<|.order f id)::k,Â,p⟩,{w with drawn:=w.drawn+1},#[],Χ,⟨U,m,?_,U,q⟩,fE.zd _,λ_ _ h=>Æ h,⟨n.lU,by simp[n.BO],n.bi,n.xA,n.xB,n.fu⟩,⟨á _,U,U,U,λ_ _ _=>rfl,λ_ _ _=>rfl⟩,λe B=>absurd B fB,á _⟩;simp only[n.lU,n.BO]
 |Ku=>exact .qH (s1':=⟨_,r,_,Â,p⟩) n (by simp[St.jD,fm,base,G,Ý,Î,Frame.at]) ⟨U,m,U,U,q⟩
 |@Ho f t k L _ ops i rest o ho hw=>
  rw[NJ _ _ m]at hw;have:=aD (P:=P) (main:=main) (b:=base f) (a:=⟨r,[]⟩) (k:=k) (cs:=p.map (λx=>fm x.1 x.2.1 x.2.2)++cs) (w:=w) (rest:=rest) ho hw;rw[wO]at this;exact .qH (s1':=⟨f,rZ r o.dst ŏ,å ops rest::k,Â,p⟩) n this ⟨U,rZ.gy m _<|Kn ρ,U,U,q⟩
 |@qh f t k L _ ops i rest o v _ ho hw hr=>
  rw[NJ _ _ m]at hw;have hO:=sf ok.gN _<|Ø ho;let⟨C,x',E,es,z,F,D,H,I,J,K,M⟩:=hO.po hz hb hG m n hl hr Q;let⟨N,O⟩:=NZ D;cases H with
  |qh Y=>
   have:=bU (main:=main) (b:=base f) (k:=k) (cs:=p.map (λx=>fm x.1 x.2.1 x.2.2)++cs) (rest:=rest) ho hw (by simp[base]) N;rw[wO]at this;rename_i v';exact⟨C,⟨f,rZ r o.dst v',å ops rest::k,Â,p⟩,E,_,this,⟨U,rZ.gy (m.ft z) _ Y,U,U,NY z q⟩,z,F,I,J,λe B=>K e (by have:=cZ B;rwa[O]at this),M⟩
 |@DV f t k L _ ops i rest o _ ho hw hr=>
  rw[NJ _ _ m]at hw;have hO:=sf ok.gN _<|Ø ho;let⟨C,x',E,es,z,F,D,H,I,J,K,M⟩:=hO.po hz hb hG m n hl hr Q;let⟨N,O⟩:=NZ D;cases H with
  |wK=>
   have:=c9 (main:=main) (b:=base f) (k:=k) (cs:=p.map (λx=>fm x.1 x.2.1 x.2.2)++cs) (rest:=rest) ho hw (by simp[base]) N;rw[wO]at this;exact⟨C,⟨f,rZ r o.dst ŏ,å ops rest::k,Â,p⟩,E,_,this,⟨U,rZ.gy (m.ft z) _<|Kn C,U,U,NY z q⟩,z,F,I,J,λe B=>K e (by have:=cZ B;rwa[O]at this),M⟩
 |@wL f t k L _ ops i rest o g args fn c _ ho hw hr hf N0=>
  rw[NJ _ _ m]at hw;have hO:=sf ok.gN _<|Ø ho;let⟨C,x',E,es,z,F,D,H,I,J,K,M⟩:=hO.po hz hb hG m n hl hr Q;let⟨N,O⟩:=NZ D;cases H with
  |wL _ wR=>
   have:=bV (main:=main) (b:=base f) (k:=k) (cs:=p.map (λx=>fm x.1 x.2.1 x.2.2)++cs) (rest:=rest) ho hw (by simp[base]) N;rw[da _ hf N0]at this;rename_i ZS;refine⟨C,⟨g,ZS++ŋ (fn.ntmps-ZS.size) ŏ,[ě c],Â,(f,r,å ops (i::rest)::k)::p⟩,E,_,this,⟨U,?_,U,U,.Am ⟨U,m.ft z,U⟩ (NY z q)⟩,z,F,I,J,λe B=>K e (by have:=cZ B;rwa[O]at this),M⟩;rw[wR.fh];exact wR.xy<|ZQ _
 |@Hp f t k L _ ops i rest ho=>exact .qH (s1':=⟨f,r,å ops rest::k,Â,p⟩) n (by simp[St.jD,fm,base,G,Ý,Î,Frame.at,ho,bC]) ⟨U,m,U,U,q⟩
 |@Ax f t k L _ g t2' ops i rest k3 v fn _ hf hr=>
  cases q with
  |Am hx q=>
   rename_i y ZT;let⟨g',t2,k2⟩:=y;let⟨T,N4,V⟩:=hx;simp only at T V N4;subst T V;let⟨C,v',E,es,z,F,D,H,I,J,K,M⟩:=(ZR fn m).gR n hl hr #[];let⟨N,O⟩:=NZ D;refine⟨C,⟨g,rZ t2 ((ops[i]?).bind (·.dst)) v',å ops rest::k3,Â,ZT⟩,E,seen P f es,?_,⟨U,rZ.gy (N4.ft z) _ H,U,U,NY z q⟩,z,F,I,J,λe B=>K e<|mem_seen B,M⟩;have DX:=ai (base g) ⟨t2,[]⟩ ops i rest k3 v';rw[wO]at DX;have oa:=Kv (main:=main) (k:=k) (c:=fm g t2<|å ops (i::rest)::k3) (cs:=ZT.map (λx=>fm x.1 x.2.1 x.2.2)++cs) hf D;unfold fm at oa;rwa[DX,ę]at oa
end
inductive sZ(P:Ù)(mZ:Ã->È->Prop):St->È->Prop
 |jA {f:ã} {t:Array Ã} {k:List ű} {u:È} {fn:Func} {v:Ã} (hf:P.funcs[f]?=À fn) (hr:∀tp d,(İ fn t).run P {u with tape:=tp,drawn:=d}=ı v {u with tape:=tp,drawn:=d}) (hp:mZ v u):sZ P mZ ⟨f,t,k,Ë,[]⟩ u
 |kD {s:St} {u:È} (S:aG->Nat->St) (U:aG->Nat->È) (h:∀tp d,LS P s {u with tape:=tp,drawn:=d} (S tp d)<|U tp d) (hc:∀tp d,Hj u<|U tp d) (ih:∀tp d,sZ P mZ (S tp d)<|U tp d):sZ P mZ s u
structure BV(M:Nat->Prop)(w w₁:È):Prop where
 fh:w.heap.size<=w₁.heap.size
 fu:∀j,M j->w₁.heap[j]?=w.heap[j]?
def N5(O b:Nat->Prop)(e:ĉ):Prop:=
 (∃a:Ü,e.loc=ć a/\e.sync=Â/\(O a.block\/(b a.block/\e.write=Â)))\/e.loc=Θ π\/∃f,e.loc=Θ (.extern f)
structure N6(Rd O O':Nat->Prop)(w w':È)(es:Array ĉ):Prop where
 fh:w.heap.size<=w'.heap.size
 N7:∀j,O j->O' j
 fN:∀j,O' j->O j\/w.heap.size<=j
 fG:∀j,O' j->j<w'.heap.size
 lr:∀j,j<w.heap.size->¬O j->w'.heap[j]?=w.heap[j]?
 os:w'.os=w.os
 mR:w'.output=w.output
 lU:w'.tape=w.tape
 wS:∀e∈es,N5 O' Rd e
inductive zr(P:Ù)(main:Bool)(Rd:Nat->Prop)(Stop:(Nat->Prop)->Ô->È->Prop):(Nat->Prop)->Ô->È->Prop
 |fO {O:Nat->Prop} {g:Ô} {w:È} (h:∀w₁,BV (λj=>O j\/Rd j) w w₁->Stop O g w₁):zr P main Rd Stop O g w
 |kD {O:Nat->Prop} {g:Ô} {w:È} (G':È->Ô) (W':È->È) (E':È->Array ĉ) (O':È->Nat->Prop) (jE:g.status=Ñ)
  (h:∀w₁,BV (λj=>O j\/Rd j) w w₁->Ý P main g w₁=bB (G' w₁) (W' w₁) (E' w₁))
  (hd:∀w₁,BV (λj=>O j\/Rd j) w w₁->N6 Rd O (O' w₁) w₁ (W' w₁) (E' w₁))
  (ih:∀w₁,BV (λj=>O j\/Rd j) w w₁->zr P main Rd Stop (O' w₁) (G' w₁) (W' w₁)):zr P main Rd Stop O g w
instance:Nonempty fE:=⟨⟨λ_ _=>False,0⟩⟩
instance:Nonempty St:=⟨⟨0,#[],[],Â,[]⟩⟩
instance:Nonempty (Goroutine×World×Array Event×(Nat->Prop)):=⟨(default,default,#[],λ_=>False)⟩
section
variable{ρ:fE}{b Rd:Nat->Prop}{l:ã->Prop}{main:Bool}{Stop:(Nat->Prop)->Ô->È->Prop}
def zr.mk(i:g.status=Ñ) (h:∀a,BV (λj=>X j\/Rd j) w a->∃c b d e,Ý P main g a=bB c b d/\N6 Rd X e a b d/\zr P main Rd Stop e c b):zr P main Rd Stop X g w:=by
 let p:=λ(a:È) (x:Goroutine×World×Array Event×(Nat->Prop))=>Ý P main g a=bB x.1 x.2.1 x.2.2.1/\N6 Rd X x.2.2.2 a x.2.1 x.2.2.1/\zr P main Rd Stop x.2.2.2 x.1 x.2.1
 have f:∀a,BV (λj=>X j\/Rd j) w a->p a (Classical.epsilon<|p a):=λa r=>Classical.epsilon_spec (let⟨c,b,d,e,h⟩:=h a r;⟨(c,b,d,e),h⟩);exact .kD (λa=>(Classical.epsilon<|p a).1) (λa=>(Classical.epsilon<|p a).2.1) (λa=>(Classical.epsilon<|p a).2.2.1) (λa=>(Classical.epsilon<|p a).2.2.2) i (λa r=>(f a r).1) (λa r=>(f a r).2.1) λa r=>(f a r).2.2
def vf(ρ:fE)(b:Nat->Prop)(u w:È):Prop:=km ρ b {u with tape:=w.tape,drawn:=w.drawn} w
def fD(ρ:fE)(b:Nat->Prop)(j:Nat):Prop:=(∃i,ρ i j)/\¬b j
def vf.fZ{w₁:È}(h:vf ρ b u w)(d:∀i j,ρ i j->b j->Rd j)(r:BV (λj=>fD ρ b j\/Rd j) w w₁):vf ρ b u w₁:=by
 refine⟨U,U,h.bi,h.xA,ö h.xB r.fh,λi j a=> ?_⟩;let⟨c,f,e,g,k,l,m,n,o,p⟩:=h.fu i j a;refine⟨c,f,e,g,k,l,?_,n,o,p⟩;rw[r.fu j ?_]
 .exact m
 .by_cases s:b j
  .exact Í<|d i j a s
  .exact Æ ⟨⟨i,a⟩,s⟩
def km.to0(h:km ρ b u w):vf ρ b u w:=⟨U,U,h.bi,h.xA,h.xB,h.fu⟩
def km.si(h:km ρ b u w)(tp:aG)(d:Nat):vf ρ b {u with tape:=tp,drawn:=d} w:=⟨U,U,h.bi,h.xA,h.xB,h.fu⟩
def ag0{c:fE}(k:∀i j,c i j->b j->Rd j){e:ĉ}(h:Dz c b e):N5 (fD c b) Rd e:=by
 rcases h with⟨a,i,d,f,g,l⟩|h|h
 .by_cases s:b a.block
  .refine Æ ⟨a,d,g,Í ⟨k _ _ f s,?_⟩⟩;cases m:e.write with
   |false=>rfl
   |true=>exact absurd s<|l m
  .exact Æ ⟨a,d,g,Æ ⟨⟨i,f⟩,s⟩⟩
 .exact Í<|Æ h
 .exact Í<|Í h
def ZU{c:fE}(f:ρ.le c)(g:∀i j,c i j->ρ i j\/(u.heap.size<=i/\w.heap.size<=j))(k:km c b W jX)(d:qf ρ b w jX)(l:∀e∈V,Dz c b e)(m:∀i j,c i j->b j->Rd j): N6 Rd (fD ρ b) (fD c b) w jX V where
 fh:=d.fh;N7 j h:=⟨let⟨i,a⟩:=h.1;⟨i,f.1 _ _ a⟩,h.2⟩;fN j h:=by
  let⟨⟨i,a⟩,s⟩:=h;rcases g i j a with x|x
  .exact Æ ⟨⟨i,x⟩,s⟩
  .exact Í x.2
 fG j h:=by let⟨⟨i,a⟩,_⟩:=h;let⟨_,_,_,_,_,_,x,_⟩:=k.fu i j a;exact(Ä.1 x).1
 lr j hj hn:=by
  by_cases x:∃i,ρ i j
  .by_cases s:b j
   .exact d.sh j s hj
   .exact absurd ⟨x,s⟩ hn
  .exact d.fu j hj λi a=>x ⟨i,a⟩
 os:=d.os;mR:=d.mR;lU:=d.lU;wS e he:=ag0 m<|l e he
def Kw(ρ:fE)(b:Nat->Prop)(f:Ã->È->Prop)(c:ģ)(h:List ģ)(O:Nat->Prop)(g:Ô)(w:È):Prop:=
 ∃(a:fE) (d:È) (v e:Ã),ρ.le a/\O=fD a b/\vf a b d w/\fy a v e/\f v d/\g=G (c.finish e) h
def sZ.Tb(hz:qg P)(hP:se P X l){s:St}(h:sZ P vQ s u):∀{ρ Kx:fE} {s':St} {w:È},Kx.le ρ->ρ.gd=P.globals.size->(∀g,X g->ρ g g)->NW ρ s s'->ow P X l s->vf ρ b u w->(∀j,b j->j<w.heap.size)->(∀i j,ρ i j->b j->Rd j)->∀(c:ģ) (cs:List ģ),zr P main Rd (Kw Kx b vQ c cs) (fD ρ b) (s'.jD<|c::cs) w:=by
 have hE:∀o a u f F G,pn P X l o->(î (ê a) o).run P u=ı (Β f F) G->l f:=by intro o a u f F G d H;exact d.zq a u f F G H
 induction h with
 |@jA f t k u fn v hf H hp=>
  intro ρ Kx s' w I J K L M N O n c cs;let⟨f',t',k',ret',L'⟩:=s';let⟨W,Y,e2,e3,hL⟩:=L;simp only at W e2 e3 Y hL;subst W e2 e3;cases hL;refine .mk rfl λp r=> ?_;have Q:=N.fZ n r;have d:=λj s=>Õ (O j s) r.fh;let⟨z,v',w',es,B,C,m,D,q,E,T,h8⟩:=(ZR fn Y).gR Q d (H _ _) #[];have y:=λi j V s=>(C i j V).elim (λx=>n i j x s) λx=>absurd (d j s) Z;refine⟨_,w',_,fD z b,Kv hf m,ZU B C q E (λe he=>T e (by have:=mem_seen he;simpa using this)) y,.fO λs5 e=> ?_⟩;exact⟨z,u,v,v',fE.pH I B,rfl,vf.fZ (q.si _ _) y e,D,hp,rfl⟩
 |@kD s u S U h hc _ ih=>
  intro ρ Kx s' w I J K L M N O n c cs;refine .mk rfl λp r=> ?_;have Q:=N.fZ n r;have d:=λj s=>Õ (O j s) r.fh;let⟨z,H,e,es,B,C,m,D,q,E,T,h8⟩:=(h p.tape p.drawn).po hz J K L M Q d (hc p.tape p.drawn) main<|c::cs;have y:=λi j V s=>(D i j V).elim (λx=>n i j x s) λx=>absurd (d j s) Z;refine⟨_,e,es,fD z b,B,ZU m D q E T y,?_⟩;exact ih _ _ (fE.pH I m) (m.2.2.trans J) (λg x=>m.1 _ _<|K g x) C ((h _ _).ok hP hE M) q.to0 (λj s=>Õ (d j s) E.fh) y c cs
end
def qI:ģ:={(default:ģ)with fn:=0,todo:=[ě<|dM ""],defers:=[{target:=.nil,args:=#[]}],mode:=.run,kind:=.normal}
def St.gN(s:St):ģ:=if s.ri then{fm s.f s.t s.k with mode:=.returning}else fm s.f s.t s.k
def fG(L:List (FuncId×Array Value×List ű)):List ģ:=L.map (λx=>fm x.1 x.2.1 x.2.2)++[qI]
def LM(s:St)(u:È):cz:=Η s.gN (fG s.L) u
section
variable{GL:Nat->Prop}{fe:ã->Prop}{Q:Ã->È->Prop}
def Hr{cs:List ģ}{a:ģ}{es:Array ĉ}(h:Ý P Ë (G f cs) w=bB (G a qX) u es):cu P (Η f cs w)=ń (Η a qX u):= step_lone_go<|by show(Ý P Ë (G f cs) w).bare=_;rw[h];rfl
def N8{fr:ģ}{cs:List ģ}{o:Outcome}{es:Array ĉ}(h:Ý P Ë (G fr cs) w=.ended o u es):cu P (Η fr cs w)=.ended o u:= step_lone_ended<|by show(Ý P Ë (G fr cs) w).bare=_;rw[h];rfl
def pv(P:Ù)(Q:Ã->È->Prop)(n:Nat)(m:cz):Prop:=∃b v a,dO P n m=ń (Η b [qI] a)/\b.leaving P a (.returned v)/\Q v a
def pv.BW{m a:cz}(h:pv P Q (n+1) m)(b:cu P m=ń a):pv P Q n a:=by let⟨c,v,d,e,f⟩:=h;exact⟨c,v,d,by simpa only[dO,b]using e,f⟩
def pv.kJ{m:cz}{o:Outcome}(h:pv P Q (n+1) m)(b:cu P m=.ended o w):False:=by let⟨c,v,d,a,e⟩:=h;simp only[dO,b]at a;cases a
def ZV{fr:ģ}{cs:List ģ}(h:Η fr cs w=Η f qX u):fr=f/\cs=qX/\w=u:=by simp only[Η,Machine.mk.injEq,Array.mk.injEq,List.cons.injEq,Goroutine.mk.injEq]at h;exact⟨h.2.1.1.1,h.2.1.1.2.1,h.1⟩
def pv.si{cs:List ģ}(h:pv P Q 0 (Η f cs w)):cs=[qI]/\∃v,f.leaving P w (.returned v)/\Q v w:=by let⟨d,v,e,a,b,c⟩:=h;simp only[dO,Stepped.next.injEq]at a;obtain⟨rfl,rfl,rfl⟩:=ZV a;exact⟨U,v,b,c⟩
def ag1(h:pv P Q n (Η qI [] u)):False:=by
 cases n with
 |zero=>let⟨a,_⟩:=h.si;cases a
 |succ n=>exact h.kJ<|N8 (es:=#[])<|by simp[G,Ý,Î,qI];exact⟨U,U⟩
def ag2{a:List eK}(h:pv P Q n (Η (qI.raise a) [] u)):False:=by
 cases n with
 |zero=>let⟨b,_⟩:=h.si;cases b
 |succ n=>exact h.kJ<|N8 (es:=#[])<|by simp[G,Ý,qI,Ū,dN,callDeferred];exact⟨U,U⟩
def ag3(a:List eK):∀(L:List (FuncId×Array Value×List ű)) (f:ã) (t:Array Ã) (k:List ű) (u:È) (n:Nat),(∃b,P.funcs[f]?=À b)->(∀x∈L,∃b,P.funcs[x.1]?=À b)->¬pv P Q n (Η ((fm f t k).raise a) (fG L) u):=by
 intro L
 induction L with
 |nil=>
  intro f t k u n ⟨b,c⟩ _ h;cases n with
  |zero=>let⟨_,v,y,_⟩:=h.si;exact absurd y.1<|by simp[Ū,fm,Frame.at]
  |succ n=>
   have d:cu P (Η ((fm f t k).raise a) (fG []) u)=ń (Η (qI.raise a) [] u):=Hr (es:=#[]) (by simp[G,Ý,fm,base,Frame.at,Ū,dN,dx,c,fG]);exact ag2<|h.BW d
 |cons x L g=>
  intro f t k u n ⟨b,c⟩ e h;cases n with
  |zero=>let⟨_,v,y,_⟩:=h.si;exact absurd y.1<|by simp[Ū,fm,Frame.at]
  |succ n=>
   have d:cu P (Η ((fm f t k).raise a) (fG<|x::L) u)=ń (Η ((fm x.1 x.2.1 x.2.2).raise a) (fG L) u):=Hr (es:=#[]) (by simp[G,Ý,fm,base,Frame.at,Ū,dN,dx,c,fG]);exact g x.1 x.2.1 x.2.2 u n (e x<|ð ..) (λy v=>e y<|õ _ v)<|h.BW d
structure Ok(P:Ù)(GL:Nat->Prop)(fe:ã->Prop)(s:St):Prop where
 st:ow P GL fe s
 fs:fe s.f
 ls:∀x∈s.L,fe x.1/\∃ops i rest k,x.2.2=å ops (i::rest)::k
def xI(P:Ù)(fe:ã->Prop):Prop:=∀f,fe f->∃a c,P.funcs[f]?=À a/\a.body=À c
def Td{t:Array Ã}:fP P (İ s t):=by
 unfold İ;refine gW (Ze _ (λr=> ?_) _) λ_=>ij _;cases r with
 |tmp n=>exact ij _
 |cell a n=>exact gW (Y6 _) λ_=>Y2 _ _
def ag4(k:lM P xX o.op){n:ae}(d:(î xX o).run P u=ı n W):(∃v,n=ñ v)\/n=bk\/∃f c,n=Β f c:=by
 have i:∀{m:Ğ Ã} {x:ae} {j l:È},(m>>=λv=>pure (ñ v):Ğ ae).run P j=ı x l->∃v,x=ñ v:=by
  intro m x j l e;rw[Å]at e;cases g:m.run P j with
  |ok a w=>rw[g]at e;cases e;exact⟨a,U⟩
  |halt z w=>rw[g]at e;cases e
 let⟨p,e,q,s,B,guard⟩:=o;simp only at k;unfold î at d;simp only[]at d;cases k with
 |DL x=>cases d;exact Æ ⟨_,U⟩
 |Kj x=>cases d;exact Æ ⟨_,U⟩
 |Ao c a b=>
  rw[Å]at d;cases g:(cD<|xX c).run P u with
  |ok a w=>rw[g]at d;cases d;exact Æ ⟨_,U⟩
  |halt z w=>rw[g]at d;cases d
 |j1 t a x=>
  rw[Å]at d;cases g:(Ł t (xX a)<|xX x).run P u with
  |ok a w=>rw[g]at d;cases d;exact Í<|Æ U
  |halt z w=>rw[g]at d;cases d
 |Kk x=>
  simp only[]at d;split at d;all_goals first
   |(cases d;exact Æ ⟨_,U⟩)
   |exact absurd d<|u6 _ _ _ _
   |(
    split at d;all_goals first
     |(cases d;exact Æ ⟨_,U⟩)
     |exact absurd d<|u6 _ _ _ _
     |(
      rw[Å,ÿ]at d;simp only[Ê]at d;rw[Å]at d;revert d;generalize ä P (bA _ _ _ _) u=z;intro d;cases z with
      |halt z w=>cases d
      |ok a w=>
       simp only[Ê]at d;split at d
       .rw[Å]at d;cases d
       .cases d;exact Æ ⟨_,U⟩))
 |iw x a=>simp only[Ă,Ę,ĝ,pure_bind,Û,æ,é]at d;exact Æ<|i d
 |Kl x a=>simp only[Ă,Ę,ĝ,pure_bind,Û,æ,é]at d;exact Æ<|i d
 |Km x y a=>simp only[Ă,Ę,ĝ,pure_bind,Û,æ,é]at d;exact Æ<|i d
 |xy x y b g h=>simp only[Ă,Ę,ĝ,pure_bind,Û,æ,é]at d;exact Æ<|i d
 |j5 g C a b h=>
  let⟨D,r,w,z⟩:=h;simp only[Ă,b,Ľ,Ę,pure_bind,ę,Ě,Ń]at d;rw[Å,ÿ]at d;simp only[Ê,r,w,z,Ç,if_false]at d;cases d;exact Í<|Í ⟨_,_,U⟩
 |Hl e t x y r h=>exact Æ<|i d
 |_=>exact Æ<|i d
def pv.N9(_hP:se P GL fe)(hF:xI P fe){n:Nat}{s:St}{u:È}(ok:Ok P GL fe s)(hu:ui u)(h:pv P Q n (LM s u)): (n=0/\s.ri=Ë/\s.L=[]/\∃fn v,P.funcs[s.f]?=À fn/\(İ fn s.t).run P u=ı v u/\Q v u)\/∃m s' u',n=m+1/\LS P s u s' u'/\pv P Q m (LM s' u'):=by
 let⟨f,t,k,ret,L⟩:=s;let⟨⟨top,lw⟩,fs,ls⟩:=ok;simp only at top lw fs ls;let⟨fn,c,hfn,hbody⟩:=hF f fs;cases n with
 |zero=>
  let⟨h1,v,h2,h3⟩:=h.si;have hL:L=[]:=by
   simp only[fG]at h1;cases L with
   |nil=>rfl
   |cons x L=>simp at h1
  subst hL;let⟨m1,_,_,fn',m4,m5⟩:=h2;have ag5:ret=Ë:=by
   cases ret with
   |true=>rfl
   |false=>simp[St.gN,fm,Frame.at]at m1
  subst ag5;exact Æ ⟨U,U,U,fn',v,m4,m5,h3⟩
 |succ n=>
  have go:∀{s':St} {u':È},LS P ⟨f,t,k,ret,L⟩ u s' u'->(∃es,Ý P Ë ((⟨f,t,k,ret,L⟩:St).jD [qI]) u=bB (s'.jD [qI]) u' es)->(n+1=0/\ret=Ë/\L=[]/\∃fn v,P.funcs[f]?=À fn/\(İ fn t).run P u=ı v u/\Q v u)\/∃m s' u',n+1=m+1/\LS P ⟨f,t,k,ret,L⟩ u s' u'/\pv P Q m (LM s' u'):=by intro s' u' hl ⟨es,he⟩;exact Í ⟨n,s',u',U,hl,h.BW<|Hr he⟩
  have bad:(∃o w es,Ý P Ë ((⟨f,t,k,ret,L⟩:St).jD [qI]) u=.ended o w es)->False:=λ⟨_,_,_,he⟩=>h.kJ<|N8 he;cases ret with
  |true=>
   cases hr:(İ fn t).runT P u #[]with
   |mk r es=>
    have qG:(İ fn t).run P u=r:=by rw[<-Ÿ P (İ fn t) u #[],hr]
    cases r with
    |halt z w=>
     refine absurd ?_ id;cases z<;>exact bad ⟨_,_,_,by simp[St.jD,fm,base,G,Ý,dN,Frame.at,hfn,hr,Τ,-Υ];exact⟨U,U,U⟩⟩
    |ok v u'=>
     cases L with
     |nil=>
      have hs:cu P (LM ⟨f,t,k,Ë,[]⟩ u)=ń (Η qI [] u'):=Hr<|Kv hfn hr;exact absurd (h.BW hs) ag1
     |cons x L=>
      let⟨g,t',k'⟩:=x;let⟨_,ops,i,rest,k2,e⟩:=ls _<|ð ..;simp only at e;subst e;refine go (.Ax hfn qG) ⟨seen P f es,?_⟩;have oa:=Kv (main:=Ë) (k:=k) (c:=fm g t'<|å ops (i::rest)::k2) (cs:=fG L) hfn hr;have DX:=ai (base g) ⟨t',[]⟩ ops i rest k2 v;rw[wO]at DX;unfold fm at oa;rwa[DX]at oa
  |false=>
   cases k with
   |nil=>exact go .mX ⟨_,by simp[St.jD,fm,base,G,Ý,Î,Frame.at];rfl⟩
   |cons it k=>
    have ti:=top it<|ð ..;cases ti with
    |BT id=>exact go .BT ⟨_,by simp[St.jD,fm,base,G,Ý,Î,Frame.at];rfl⟩
    |zo _=>exact go .zo ⟨_,by simp[St.jD,fm,base,G,Ý,Î,Frame.at];rfl⟩
    |At _=>exact go .At ⟨_,by simp[St.jD,fm,base,G,Ý,Î,Frame.at];rfl⟩
    |ve hc=>
     cases hc with
     |ri=>exact go .ri ⟨_,by simp[St.jD,fm,base,G,Ý,Î,Frame.at];rfl⟩
     |wK=>exact go .wK ⟨_,by simp[St.jD,fm,base,G,Ý,Î,Frame.at];rfl⟩
     |Ar l=>exact go .Ar ⟨_,by simp[St.jD,fm,base,G,Ý,Î,Frame.at];rfl⟩
     |va hx hy=>exact go .va ⟨_,by simp[St.jD,fm,base,G,Ý,Î,Frame.at];rfl⟩
     |vd id _=>exact go .vd ⟨_,by simp[St.jD,fm,base,G,Ý,Î,Frame.at];rfl⟩
     |As _=>exact go .As ⟨_,by simp[St.jD,fm,base,G,Ý,Î,Frame.at];rfl⟩
     |Au _=>exact go .Au ⟨_,by simp[St.jD,fm,base,G,Ý,Î,Frame.at];rfl⟩
     |sd ZO=>exact(bad ⟨_,_,_,by simp[St.jD,fm,base,G,Ý,Î,Frame.at];exact⟨U,U,U⟩⟩).elim
     |Av id=>
      cases he:cV id k with
      |none=>exact(bad ⟨_,_,_,by simp[St.jD,fm,base,G,Ý,Î,Frame.at,he];exact⟨U,U,U⟩⟩).elim
      |some k'=>exact go (.Av he) ⟨_,by simp[St.jD,fm,base,G,Ý,Î,Frame.at,he];rfl⟩
     |Aw l=>
      cases he:cW l k with
      |none=>exact(bad ⟨_,_,_,by simp[St.jD,fm,base,G,Ý,Î,Frame.at,he];exact⟨U,U,U⟩⟩).elim
      |some k'=>exact go (.Aw he) ⟨_,by simp[St.jD,fm,base,G,Ý,Î,Frame.at,he];rfl⟩
     |@xG c x y _ _ _=>
      by_cases hb:∃b,ê ⟨t,[]⟩ c=Ŏ b
      .let⟨b,hb⟩:=hb;exact go (.xG hb) ⟨_,cX hb⟩
      .refine(bad ⟨.stuck "cond: bool expected" ((fm f t<|ě (bT c x y)::k).pos P),u,#[],?_⟩).elim;have Hm:(fm f t<|ě (bT c x y)::k).eval c=ê ⟨t,[]⟩ c:=Frame.eval_at _ _ _ _;have hx:Ý P Ë (G (fm f t<|ě (bT c x y)::k)<|fG L) u=(match(fm f t<|ě (bT c x y)::k).eval c with
        |Ŏ b=>bB (G (fm f t<|ě (if b then x else y)::k)<|fG L) u
        |_=>.ended (.stuck "cond: bool expected" ((fm f t (ě (bT c x y)::k)).pos P)) u):=by
        simp only[G,Ý,Î,fm,Frame.at];rfl
       refine hx.trans ?_;rw[Hm];generalize ê ⟨t,[]⟩ c=v at hb;cases v<;>first|exact absurd ⟨_,U⟩ hb|rfl
     |xH id draw _=>
      cases draw with
      |false=>exact go .xH ⟨_,by simp[St.jD,fm,base,G,Ý,Î,Frame.at];rfl⟩
      |true=>exact go .DU ⟨_,Χ⟩
    |Ay is hO=>
     rename_i ops;cases is with
     |nil=>exact go .Ku ⟨_,by simp[St.jD,fm,base,G,Ý,Î,Frame.at];rfl⟩
     |cons i rest=>
      cases ho:ops[i]? with
      |none=>exact go (.Hp ho) ⟨_,by simp[St.jD,fm,base,G,Ý,Î,Frame.at,ho,bC];rfl⟩
      |some o=>
       cases hw:Ĳ o (ŗ ops t)with
       |false=>
        have:=aD (P:=P) (main:=Ë) (b:=base f) (a:=⟨t,[]⟩) (k:=k) (cs:=fG L) (w:=u) (rest:=rest) ho hw;rw[wO]at this;exact go (.Ho ho hw) ⟨_,this⟩
       |true=>
        have oo:=hO o<|Ø ho;have nc:=oo.zp ⟨t,[]⟩;have Ky:=stepG_oper (P:=P) (main:=Ë) (b:=base f) (a:=⟨t,[]⟩) (k:=k) (cs:=fG L) (w:=u) (rest:=rest) ho hw;cases hr:(î (ê ⟨t,[]⟩) o).runT P u #[]with
        |mk r es=>
         have qG:(î (ê ⟨t,[]⟩) o).run P u=r:=by rw[<-Ÿ P _ u #[],hr]
         cases r with
         |halt z w=>
          have hz:=(nc.1 u hu).2 z w qG;cases z with
          |panic v=>
           have hs:cu P (LM ⟨f,t,å ops (i::rest)::k,Â,L⟩ u)=ń (Η ((fm f t<|å ops (i::rest)::k).raise [{v,recovered:=Â}]) (fG L) w):= Hr (es:=seen P f es) (Ky.trans<|by simp[bW,hr,G,Frame.at,fm,base,Τ,Ū,-Υ]);exact absurd (h.BW hs) (ag3 _ L f t _ w n ⟨fn,hfn⟩ λx hx=>let⟨fn',_,h1,_⟩:=hF x.1 (ls x hx).1;⟨fn',h1⟩)
          |stuck s=>exact(bad ⟨_,_,_,Ky.trans<|by simp[bW,hr,Frame.at,base,Τ,-Υ];exact⟨U,U,U⟩⟩).elim
          |unsupported un=>
           cases un<;>first|(cases hz;done)|exact(bad ⟨_,_,_,Ky.trans<|by simp[bW,hr,Frame.at,base,Τ,-Υ];exact⟨U,U,U⟩⟩).elim
          |_=>cases hz
         |ok nx u'=>
          rcases oo.NU ⟨t,[]⟩ u nx u' qG with⟨v,rfl⟩|rfl|⟨g,args,rfl⟩
          .have:=bU (main:=Ë) (b:=base f) (k:=k) (cs:=fG L) (rest:=rest) ho hw (by simp[base]) qG;rw[wO]at this;exact go (.qh ho hw qG) ⟨_,this⟩
          .have:=c9 (main:=Ë) (b:=base f) (k:=k) (cs:=fG L) (rest:=rest) ho hw (by simp[base]) qG;rw[wO]at this;exact go (.DV ho hw qG) ⟨_,this⟩
          .let⟨fn',c',h1,h2⟩:=hF g<|oo.zq ⟨t,[]⟩ u g args u' qG;have:=bV (main:=Ë) (b:=base f) (k:=k) (cs:=fG L) (rest:=rest) ho hw (by simp[base]) qG;rw[da _ h1 h2]at this;exact go (.wL ho hw qG h1 h2) ⟨_,this⟩
end
def lN(u:È):Prop:=∀(i:Nat) (o:Obj),u.heap[i]?=À o->¬BS o
def lN.ui(h:lN u):ui u:=λi _ _ a=>h i _ a trivial
def AA(a:Ã->È->Prop):Prop:=∀v u T D,a v u->a v ((World.tp u T D))
section
variable{GL:Nat->Prop}{fe:ã->Prop}{mZ:Ã->È->Prop}
def LS.Tb{s s':St}(h:LS P s u s' W)(cs:List ģ):∃j,Ý P Ë (s.jD cs) u=bB (s'.jD cs) W j:=by
 cases h with
 |@xG f t k L _ c x y b hc=>exact⟨_,cX hc⟩
 |Av e=>exact⟨_,by simp[St.jD,fm,base,G,Ý,Î,Frame.at,e];rfl⟩
 |Aw e=>exact⟨_,by simp[St.jD,fm,base,G,Ý,Î,Frame.at,e];rfl⟩
 |@DU f t k L _ id ops=>exact⟨_,Χ⟩
 |@Hp f t k L _ ops i rest ho=>exact⟨_,by simp[St.jD,fm,base,G,Ý,Î,Frame.at,ho,bC];rfl⟩
 |@Ho f t k L _ ops i rest o ho hw=>
  have:=aD (P:=P) (main:=Ë) (b:=base f) (a:=⟨t,[]⟩) (k:=k) (cs:=L.map (λx=>fm x.1 x.2.1 x.2.2)++cs) (w:=u) (rest:=rest) ho hw;rw[wO]at this;exact⟨_,this⟩
 |@qh f t k L _ ops i rest o v _ ho hw hr=>
  have:=bU (main:=Ë) (b:=base f) (k:=k) (cs:=L.map (λx=>fm x.1 x.2.1 x.2.2)++cs) (rest:=rest) ho hw (by simp[base]) hr;rw[wO]at this;exact⟨_,this⟩
 |@DV f t k L _ ops i rest o _ ho hw hr=>
  have:=c9 (main:=Ë) (b:=base f) (k:=k) (cs:=L.map (λx=>fm x.1 x.2.1 x.2.2)++cs) (rest:=rest) ho hw (by simp[base]) hr;rw[wO]at this;exact⟨_,this⟩
 |@wL f t k L _ ops i rest o g args fn c _ ho hw hr hf hb=>
  have:=bV (main:=Ë) (b:=base f) (k:=k) (cs:=L.map (λx=>fm x.1 x.2.1 x.2.2)++cs) (rest:=rest) ho hw (by simp[base]) hr;rw[da _ hf hb]at this;exact⟨_,this⟩
 |@Ax f t k L _ g t' ops i rest k' v fn _ hf hr=>
  cases l:(İ fn t).runT P u #[]with
  |mk r j=>
   have e:r=ı v W:=by rw[<-hr,<-Ÿ P (İ fn t) u #[],l]
   subst e;have d:=Kv (main:=Ë) (k:=k) (c:=fm g t'<|å ops (i::rest)::k') (cs:=L.map (λx=>fm x.1 x.2.1 x.2.2)++cs) hf l;have x:=ai (base g) ⟨t',[]⟩ ops i rest k' v;rw[wO]at x;unfold fm at d;rw[x]at d;exact⟨_,d⟩
 |_=>exact⟨_,by simp[St.jD,fm,base,G,Ý,Î,Frame.at];rfl⟩
def LS.vg{s a:St}(h:LS P s u a w):cu P (LM s u)=ń (LM a w):= let⟨_,b⟩:=h.Tb [qI];Hr b
def LS.Te(j:se P GL fe){s g:St}(h:LS P s u g w)(ok:Ok P GL fe s):Ok P GL fe g:=by
 have i:∀o a u f e w,pn P GL fe o->(î (ê a) o).run P u=ı (Β f e) w->fe f:=by intro o a u f e w c d;exact c.zq a u f e w d
 refine⟨h.ok j i ok.st,?_,?_⟩
 .cases h with
  |wL c _ d _ _=>exact i _ _ _ _ _ _ (sf ok.st.gN _<|Ø c) d
  |Ax=>exact(ok.ls _<|ð ..).1
  |_=>exact ok.fs
 .cases h with
  |wL c _ d _ _=>
   intro x b;rcases ŧ.1 b with rfl|b
   .exact⟨ok.fs,_,_,_,_,U⟩
   .exact ok.ls x b
  |Ax=>exact λx b=>ok.ls x<|õ _ b
  |_=>exact ok.ls
def LS.kd{s c:St}{u b:È}(h:LS P s u c b)(ok:ow P GL fe s)(a:ui u):Kd u b:=by
 cases h with
 |qh k _ i=>exact(((sf ok.gN _<|Ø k).zp _).1 u a).1 _ _ i
 |DV k _ i=>exact(((sf ok.gN _<|Ø k).zp _).1 u a).1 _ _ i
 |wL k _ i _ _=>exact(((sf ok.gN _<|Ø k).zp _).1 u a).1 _ _ i
 |Ax _ i=>exact(Td.1 u a).1 _ _ i
 |DU=>exact⟨id,λi o h k=>⟨o,h,k⟩⟩
 |_=>exact Kd.fY u
def LS.ag6{s o:St}{u p:È}{T:aG}{D:Nat}(h:LS P s ((World.tp u T D)) o p)(ok:ow P GL fe s):∃n v,p=(World.tp v T<|D+n)/\∀a b,zm T D a b n->LS P s ((World.tp u a b)) o ((World.tp v a<|b+n)):=by
 cases h with
 |qh c g e=>
  obtain⟨n,v,i⟩:=((sf ok.gN _<|Ø c).zp ⟨_,[]⟩).2 u T D;obtain⟨j,l⟩:=i _ _ e;exact⟨n,v,j,λa b d=> .qh c g (l a b d)⟩
 |DV c g e=>
  obtain⟨n,v,i⟩:=((sf ok.gN _<|Ø c).zp ⟨_,[]⟩).2 u T D;obtain⟨j,l⟩:=i _ _ e;exact⟨n,v,j,λa b d=> .DV c g (l a b d)⟩
 |wL c g e m q=>
  obtain⟨n,v,i⟩:=((sf ok.gN _<|Ø c).zp ⟨_,[]⟩).2 u T D;obtain⟨j,l⟩:=i _ _ e;exact⟨n,v,j,λa b d=> .wL c g (l a b d) m q⟩
 |Ax m e=>
  obtain⟨n,v,i⟩:=(Td).2 u T D;obtain⟨j,l⟩:=i _ _ e;exact⟨n,v,j,λa b d=> .Ax m (l a b d)⟩
 |@DU f t k L _ id ops=>
  refine⟨1,u,U,λa b d=> ?_⟩;have e:=d.n7;have i:=LS.DU (P:=P) (f:=f) (t:=t) (k:=k) (L:=L) (u:=(World.tp u a b)) (id:=id) (ops:=ops);have j:((World.tp u a b)).tape ((World.tp u a b)).drawn=((World.tp u T D)).tape ((World.tp u T D)).drawn:=e;rwa[j]at i
 |mX=>exact⟨0,u,U,λ_ _ _=> .mX⟩
 |ri=>exact⟨0,u,U,λ_ _ _=> .ri⟩
 |wK=>exact⟨0,u,U,λ_ _ _=> .wK⟩
 |Ar=>exact⟨0,u,U,λ_ _ _=> .Ar⟩
 |BT=>exact⟨0,u,U,λ_ _ _=> .BT⟩
 |zo=>exact⟨0,u,U,λ_ _ _=> .zo⟩
 |va=>exact⟨0,u,U,λ_ _ _=> .va⟩
 |xG h=>exact⟨0,u,U,λ_ _ _=> .xG h⟩
 |vd=>exact⟨0,u,U,λ_ _ _=> .vd⟩
 |As=>exact⟨0,u,U,λ_ _ _=> .As⟩
 |At=>exact⟨0,u,U,λ_ _ _=> .At⟩
 |Au=>exact⟨0,u,U,λ_ _ _=> .Au⟩
 |Av h=>exact⟨0,u,U,λ_ _ _=> .Av h⟩
 |Aw h=>exact⟨0,u,U,λ_ _ _=> .Aw h⟩
 |xH=>exact⟨0,u,U,λ_ _ _=> .xH⟩
 |Ku=>exact⟨0,u,U,λ_ _ _=> .Ku⟩
 |Ho c g=>exact⟨0,u,U,λ_ _ _=> .Ho c g⟩
 |Hp c=>exact⟨0,u,U,λ_ _ _=> .Hp c⟩
def pv.iU(c:se P GL fe)(hF:xI P fe)(g:∀v u,vQ v u->lN u):∀(n:Nat) {s:St} {u:È},Ok P GL fe s->ui u->pv P vQ n (LM s u)->lN u:=by
 intro n
 induction n with
 |zero=>
  intro s u a b h;rcases h.N9 c hF a b with⟨_,_,_,_,v,_,_,d⟩|⟨m,_,_,e,_⟩
  .exact g v u d
  .cases e
 |succ n j=>
  intro s u a b h;rcases h.N9 c hF a b with⟨e,_⟩|⟨m,w,x,e,d,k⟩
  .cases e
  .cases e;have f:=d.kd a.st b;intro i o l p;let⟨q,r,t⟩:=f.zk i o l p;exact j (d.Te c a) (f.Ap b) k i q r t
def sZ.lU(b:AA mZ){s:St}(h:sZ P mZ s u)(T:aG)(D:Nat):sZ P mZ s ((World.tp u T D)):=by
 cases h with
 |jA a c d=>exact .jA a c (b _ _ T D d)
 |kD S a h c d=>exact .kD S a h c d
def ZW(m:AA mZ)(o:∀v u,vQ v u->mZ v u){s:St}(c:s.ri=Ë)(b:s.L=[])(e:∃g v,P.funcs[s.f]?=À g/\(İ g s.t).run P ((World.tp u xQ i))=ı v ((World.tp u xQ i))/\vQ v ((World.tp u xQ i))):sZ P mZ s u:=by
 obtain⟨f,t,k,z,L⟩:=s;simp only at c b;subst c b;obtain⟨g,v,p,q,r⟩:=e;refine .jA (v:=v) p (λh d=> ?_) ?_
 .obtain⟨n,w,c⟩:=(Td).2 u xQ i;obtain⟨b,e⟩:=c _ _ q;have x:n=0:=by
   have:((World.tp u xQ i)).drawn=((World.tp w xQ<|i+n)).drawn:=by rw[<-b]
   simp only[World.tp]at this;omega
  subst x;have y:(World.tp w h d)=(World.tp u h d):=by
   have a:((World.tp u xQ i)).heap=((World.tp w xQ<|i+0)).heap:=by rw[<-b]
   have j:((World.tp u xQ i)).os=((World.tp w xQ<|i+0)).os:=by rw[<-b]
   have l:((World.tp u xQ i)).output=((World.tp w xQ<|i+0)).output:=by rw[<-b]
   simp only[World.tp]at a j l|-;rw[a,j,l]
  have:=e h d (λa j=>by omega);rwa[show d+0=d from rfl,y]at this
 .have:=m v _ u.tape u.drawn<|o v _ r;exact this
structure Oa where
 s:St
 u:È
 D:Nat
 T:aG
 n:Nat
structure Ob(P:Ù)(GL:Nat->Prop)(fe:ã->Prop)(mZ:Ã->È->Prop)(s0:St)(u0:È)(x:Oa):Prop where
 ok:Ok P GL fe x.s
 Ap:ui x.u
 ag7:¬sZ P mZ x.s x.u
 mf:∀T',(∀i,i<x.D->T' i=x.T i)->dO P x.n (LM s0<|(World.tp u0 T' 0))=ń (LM x.s<|(World.tp x.u T' x.D))
def ZX{m:cz}{s:St}{N:Nat}(a:dO P n m=ń (LM s u))(f:pv P vQ N m):∃k,N=n+k/\pv P vQ k (LM s u):=by
 by_cases g:n<=N
 .obtain⟨k,rfl⟩:=Ő g;refine⟨k,U,?_⟩;let⟨d,v,b,c,e⟩:=f;rw[ef,a]at c;exact⟨d,v,b,c,e⟩
 .obtain⟨k,rfl⟩:=Nat.exists_eq_add_of_lt<|Nat.lt_of_not_le g;let⟨d,v,b,c,e,_⟩:=f;rw[show N+k+1=N+(k+1) by omega,ef,c]at a;have h:cu P (Η d [qI] b)=ń (Η qI [] b):=step_leave_returned e;simp only[dO,h]at a;cases k with
  |zero=>
   simp only[dO,Stepped.next.injEq]at a;have:=(ZV a).2.1;simp[fG]at this
  |succ k=>
   have i:=N8 (P:=P) (fr:=qI) (cs:=[]) (w:=b) (es:=#[]) (by simp[G,Ý,Î,qI];exact⟨U,U⟩);simp only[dO,i]at a;cases a
def Tf(g:se P GL fe)(hF:xI P fe)(C:AA mZ)(G:∀v u,vQ v u->lN u)(H:∀v u,vQ v u->mZ v u){j:St}(I:∀T,∃n,pv P vQ n<|LM j<|(World.tp w T 0)){x:Oa}(J:Ob P GL fe mZ j w x): ∃y:Oa,Ob P GL fe mZ j w y/\y.n=x.n+1/\x.D<=y.D/\∀i,i<x.D->y.T i=x.T i:=by
 let⟨s,u,D,T,n⟩:=x;let⟨ok,pend,l,q⟩:=J;simp only at ok pend l q;have K:∃y d,∀a b,LS P s ((World.tp u y d)) a b->Hj u b->¬sZ P mZ a b:=by
  refine Classical.byContradiction λo=>l ?_;have c:∀y d,∃p:St×World,LS P s ((World.tp u y d)) p.1 p.2/\Hj u p.2/\sZ P mZ p.1 p.2:=by intro y d;refine Classical.byContradiction λe=>o ⟨y,d,λa b r t z=>e ⟨(a,b),r,t,z⟩⟩
  exact .kD (λy d=>(Classical.choose<|c y d).1) (λy d=>(Classical.choose<|c y d).2) (λy d=>(Classical.choose_spec<|c y d).1) (λy d=>(Classical.choose_spec<|c y d).2.1) λy d=>(Classical.choose_spec<|c y d).2.2
 let⟨y,d,L⟩:=K;let p:aG:=λi=>if i<D then T i else y (d+(i-D))
 have B:∀i,i<D->p i=T i:=λi h=>if_pos h;have M:=λi=>by show(if D+i<D then T (D+i)else y (d+(D+i-D)))=y (d+i);rw[if_neg Z,show D+i-D=i by omega]
 let⟨N,O⟩:=I p;let⟨k,_,V⟩:=ZX (q p B) O;have e:ui ((World.tp u p D)):=pend;rcases V.N9 g hF ok e with⟨_,r,t,z⟩|⟨m,a,b,_,f,W⟩
 .exact absurd (ZW C H r t z) l
 .obtain⟨c,v,rfl,E⟩:=f.ag6 ok.st;have X:=pv.iU g hF G m (f.Te g ok) ((f.kd ok.st e).Ap e) W;have Y:=E y d λi _=>(M i).symm;have hbv:¬sZ P mZ a v:=λhv=>L a _ Y (λi o _ F=>X i o F)<|hv.lU C y<|d+c;refine⟨⟨a,v,D+c,p,n+1⟩,⟨f.Te g ok,(f.kd ok.st e).Ap e,hbv,λo F=> ?_⟩,U,fB,B⟩;have h0:=q o λi h=>(F i<|by simp only;omega).trans<|B i h;have hl3:=E o D λi h=>F (D+i) (by simp only;omega);rw[ef,h0];simp only[dO,hl3.vg]
def ag8(b:se P GL fe)(hF:xI P fe)(d:AA mZ){Q:Ã->È->Prop}(l:∀v u,Q v u->lN u)(f:∀v u,Q v u->mZ v u){a:St}(ok:Ok P GL fe a)(r:ui w)(g:∀T,∃n,pv P Q n<|LM a<|(World.tp w T 0)):sZ P mZ a w:=by
 refine Classical.byContradiction λs=> ?_;have t:Ob P GL fe mZ a w ⟨a,w,0,λ_ _=>0,0⟩:=⟨ok,r,s,λK _=>rfl⟩;let F:Nat->{x:Oa//Ob P GL fe mZ a w x}:=λk=>Nat.rec ⟨_,t⟩ (λ_ x=>⟨Classical.choose<|Tf b hF d l f g x.2,(Classical.choose_spec<|Tf b hF d l f g x.2).1⟩) k
 have p:=λk=>(Classical.choose_spec<|Tf b hF d l f g (F k).2).2;have y:∀k,(F k).1.n=k:=by
  intro k
  induction k with
  |zero=>rfl
  |succ k c=>rw[(p k).1,c]
 have q:∀j k,(F j).1.D<=(F<|j+k).1.D/\∀i,i<(F j).1.D->(F<|j+k).1.T i=(F j).1.T i:=by
  intro j k
  induction k with
  |zero=>exact⟨á _,λ_ _=>rfl⟩
  |succ k c=>
   have:=(p<|j+k).2;exact⟨ö c.1 this.1,λi e=>(this.2 i<|Õ e c.1).trans<|c.2 i e⟩
 have z:∀j k i,i<(F j).1.D->i<(F k).1.D->(F j).1.T i=(F k).1.T i:=by
  intro j k i m o;rcases Nat.le_total j k with h|h
  .obtain⟨c,rfl⟩:=Ő h;exact((q j c).2 i m).symm
  .obtain⟨c,rfl⟩:=Ő h;exact(q k c).2 i o
 let T:aG:=λi=>open Classical in if h:∃k,i<(F k).1.D then(F<|Classical.choose h).1.T i else λ_=>0
 have B:∀k i,i<(F k).1.D->T i=(F k).1.T i:=by intro k i e;have c:∃k,i<(F k).1.D:=⟨k,e⟩;show(open Classical in if h:∃k,i<(F k).1.D then(F<|Classical.choose h).1.T i else λ_=>0)=_;rw[dif_pos c];exact z _ _ i (Classical.choose_spec c) e
 let⟨N,C⟩:=g T;have c:=(F N).2.mf T<|B N;rw[y N]at c;let⟨k,e,o⟩:=ZX c C;have E:k=0:=Z
 subst E;have G:ui ((World.tp (F N).1.u T<|(F N).1.D)):=(F N).2.Ap;rcases o.N9 b hF (F N).2.ok G with⟨_,H,I,J⟩|⟨m,_,_,e,_⟩
 .exact(F N).2.ag7<|ZW d f H I J
 .cases e
end
section
variable{m:ã->Prop}
def Tg(f:ã)(b:Func)(c:aQ)(a:Array Ã):St:=⟨f,a++ŋ (b.ntmps-a.size) ŏ,[ě c],Â,[]⟩
def ZY(a:Array Ã)(b:P.funcs[F]?=À s)(d:s.body=À wX):eg P F a .normal=(Tg F s wX a).gN:=da a b d
def ag9(b:se P X m)(hF:xI P m)(l:AA vQ)(g:m F)(j:P.funcs[F]?=À s)(k:s.body=À wX)(o:lN u) (p:∀T,Calls P F d ((World.tp u T 0)) fun|.returned v,u'=>vQ v u'/\lN u'|_,_=>False):sZ P vQ (Tg F s wX d) u:=by
 refine ag8 b hF l (Q:=λv u=>vQ v u/\lN u) (λv u h=>h.2) (λv u h=>h.1) ⟨⟨λi q=> ?_,λx h=>by cases h⟩,g,λx h=>by cases h⟩ o.ui λT=> ?_
 .rw[Γ.1 q];exact .ve (b F g s wX j k)
 .let⟨e,r,t,a,w,_,y⟩:=p T [qI];cases e with
  |returned v=>
   let⟨n,z⟩:=w;refine⟨n,t,v,r,?_,y,a⟩;rw[<-z,ZY d j k];rfl
  |panicked n=>exact a.elim
  |outgrown=>exact a.elim
def aha(t:qg P)(b:se P X m)(hF:xI P m)(y:AA vQ)(o:m F)(e:P.funcs[F]?=À s)(k:s.body=À wX)(z:lN u) (B:∀T,Calls P F d ((World.tp u T 0)) fun|.returned v,u'=>vQ v u'/\lN u'|_,_=>False) {ρ:fE} {a p:Nat->Prop} (C:ρ.gd=P.globals.size) (D:∀g,X g->ρ g g) (r:gA ρ d q) (E:vf ρ a u w) (H:∀j,a j->j<w.heap.size) (I:∀i j,ρ i j->a j->p j) (main:Bool) (l:ģ) (n:List ģ): zr P main p (Kw ρ a vQ l n) (fD ρ a) (G (eg P F q .normal)<|l::n) w:=by
 have h:=ag9 b hF y o e k z B;have:=h.Tb (main:=main) t b (ρ:=ρ) (Kx:=ρ) (s':=Tg F s wX q) (fE.zd _) C D ⟨U,?_,U,U,.mX⟩ ⟨λi J=> ?_,λx K=>by cases K⟩ E H I l n
 .rw[ZY q e k];exact this
 .show gA ρ (d++_) (q++_);rw[r.fh];exact r.xy<|ZQ _
 .rw[Γ.1 J];exact .ve (b F o s wX e k)
def BX:Ã->Bool
 |Ŏ _|ē _ _|Ĥ _|Ò í|ø í _ _|cA|bE|eO í|.map í=>Ë
 |_=>Â
def Ti:Ã->Bool
 |.agg a=>a.all BX
 |η a=>a.all BX
 |v=>BX v
def Kz(h:BX v=Ë):lq v:=by
 cases v with
 |bool b=>exact .oL b
 |int k n=>exact .iL k n
 |string s=>exact .mO s
 |pointer p=>cases p with
  |none=>exact .nY
  |some a=>cases h
 |slice p n c=>cases p with
  |none=>exact .qd n c
  |some a=>cases h
 |nilFunc=>exact .ze
 |nilIface=>exact .zf
 |chan p=>cases p with
  |none=>exact .zg
  |some a=>cases h
 |map p=>cases p with
  |none=>exact .zh
  |some a=>cases h
 |_=>cases h
def ahb(h:Ti v=Ë):lq v:=by
 cases v with
 |agg b=>exact .re λi a=>Kz<|(ĵ.1 h) i a
 |tuple b=>exact .qe λi a=>Kz<|(ĵ.1 h) i a
 |_=>exact Kz h
def AB(X:Nat->Bool):Ú->Bool
 |.tmp _=>Ë
 |eD v=>Ti v
 |eS g=>X g
 |bu _=>Ë
def Od{g:Nat->Bool}(h:AB g qQ=Ë):oN (λj=>g j=Ë) qQ:=by
 cases qQ with
 |tmp t=>exact .ZJ t
 |const v=>exact .ZK (ahb h)
 |global j=>exact .ZL h
 |func f=>exact .ZM f
def Tk(P:Ù)(t:Á):Bool:=match P.underlying t with
 |some .bool=>Ë
 |some (κ _)=>Ë
 |some ĥ=>Ë
 |_=>Â
def ahc(h:Tk P t=Ë):xC P t:=by
 unfold Tk at h;split at h
 .rename_i e;exact Æ e
 .rename_i k e;exact Í<|Æ ⟨k,e⟩
 .rename_i e;exact Í<|Í e
 .cases h
def Oe:Ú->Bool
 |eD (Ò í)=>Ë
 |_=>Â
def ZZ(h:Oe qQ=Ë):pJ (y.eval qQ):=by
 unfold Oe at h;split at h
 .trivial
 .cases h
def Tl(P:Ù)(t:Á)(x y:Ú):Bool:=Tk P t||((match P.underlying t with|some (ó _)=>Ë|_=>Â)&&(Oe x||Oe y))
def ahd{a:bZ}{y:Ú}(h:Tl P t qQ y=Ë):xC P t\/((∃e,P.underlying t=À (ó e))/\(pJ (a.eval qQ)\/pJ (a.eval y))):=by
 unfold Tl at h;rcases ŀ.1 h with h|h
 .exact Æ<|ahc h
 .let⟨b,c⟩:=Þ.1 h;refine Í ⟨?_,(ŀ.1 c).imp ZZ ZZ⟩;split at b
  .rename_i e d;exact⟨e,d⟩
  .cases b
def Tm(P:Ù)(s d:Á):Bool:=match P.underlying s,P.underlying d with
 |some (κ _),À (κ _)=>Ë
 |some ĥ,À ĥ=>Ë
 |_,_=>Â
def ahe(h:Tm P e t=Ë):(∃k a,P.underlying e=À (κ k)/\P.underlying t=À (κ a))\/(P.underlying e=À ĥ/\P.underlying t=À ĥ):=by
 unfold Tm at h;split at h
 .rename_i k a b c;exact Æ ⟨k,a,b,c⟩
 .rename_i b c;exact Í ⟨b,c⟩
 .cases h
def Tn(P:Ù)(s:Á)(n:Nat):Bool:=match P.underlying s with
 |some (dG fields)=>match fields[n]? with
  |some f=>match P.info? f.type with
   |some i=>i.size !=0
   |none=>Â
  |none=>Â
 |_=>Â
def ahf(h:Tn P e n=Ë):∀a f i,P.underlying e=À (dG a)->a[n]?=À f->P.info? f.type=À i->i.size≠0:=by intro a f i b c d;simp only[Tn,b,c,d]at h;simpa using h
def To(P:Ù)(m:ã->Bool)(f:ã):Bool:=m f&&(match P.funcs[f]? with
 |some a=> !(a.name== "runtime.NumGoroutine")&&!a.body.isNone
 |none=>Â)
def Z0{g:ã->Bool}(h:To P g F=Ë):g F=Ë/\∃a,P.funcs[F]?=À a/\(a.name== "runtime.NumGoroutine")=Â/\a.body.isNone=Â:=by
 let⟨c,b⟩:=Þ.1 h;refine⟨c,?_⟩;split at b
 .rename_i a e;let⟨d,i⟩:=Þ.1 b;exact⟨a,e,by simpa using d,by simpa using i⟩
 .cases b
def Z1(P:Ù):List Á->Bool
 |[_,t1]=>(match P.underlying t1 with|some (dH _)=>Ë|some ĥ=>Ë|_=>Â)
 |_=>Â
def Z2(P:Ù)(m:ã->Bool)(b:Callee)(a:List Ú)(c:List Á):Bool:=match b with
 |Ī .len=>a.length==1
 |Ī .cap=>a.length==1
 |Ī .copy=>a.length==2
 |Ī .append=>a.length==2&&Z1 P c
 |cL (bu f)=>To P m f
 |_=>Â
def Hs(P:Ù)(m:ã->Bool):Op->Bool
 |.move _|.assign _|.pick _ _ _|.alloc _|.box _ _|.build _ _|dV _ _ _|.load _ _|.store _ _ _|eW _|.unOp _ _ _|eA _ _ _|.slice _ _ _ _ _|.field _ _ _|eC _ _ _|.index _ _ _|.extract _ _=>Ë
 |ez c t x y _=>if c==aX||c==bq then Tl P t x y else Ë
 |br s d _=>Tm P s d
 |eB s _ n=>Tn P s n
 |ah c=>Z2 P m c.callee c.args.toList c.argTypes.toList
 |_=>Â
def Og{a:Array Ú}(h:(a.toList.length==1)=Ë):∃x,a=#[x]:=by
 let⟨l⟩:=a;match l,h with
 |[x],_=>exact⟨x,U⟩
def Tp{a:Array Ú}(h:(a.toList.length==2)=Ë):∃x y,a=#[x,y]:=by
 let⟨l⟩:=a;match l,h with
 |[x,y],_=>exact⟨x,y,U⟩
def ahg{g:ã->Bool}{k:Op}(h:Hs P g k=Ë)(a:bZ):lM P a.eval k:=by
 cases k with
 |binOp o t x y r=>
  refine .Hl o t x y r λe=> ?_;have:(o==aX||o==bq)=Ë:=by rcases e with rfl|rfl<;>rfl
  simp only[Hs,if_pos this]at h;exact ahd h
 |convert s d x=>exact .SK _ _ _ (ahe h)
 |fieldAddr s x n=>exact .SN _ _ _ (ahf h)
 |call c=>
  let⟨z,B,j⟩:=c;simp only[Hs]at h;unfold Z2 at h;split at h
  .obtain⟨x,rfl⟩:=Og h;exact .iw x j
  .obtain⟨x,rfl⟩:=Og h;exact .Kl x j
  .obtain⟨x,y,rfl⟩:=Tp h;exact .Km x y j
  .let⟨q,f⟩:=Þ.1 h;obtain⟨x,y,rfl⟩:=Tp q;let⟨l⟩:=j;match l,f with
   |[t0,t1],f=>
    refine .xy x y t0 t1 ?_;simp only[Z1]at f;split at f
    .rename_i e m;exact Æ ⟨e,m⟩
    .rename_i m;exact Í m
    .cases f
  .exact .j5 _ _ _ U (Z0 h).2
  .cases h
 |move x=>exact .DL x
 |assign x=>exact .Kj x
 |pick c a b=>exact .Ao c a b
 |alloc t=>exact .gT t
 |box t x=>exact .fq t x
 |build t p=>exact .SG t p
 |buildSlice t n p=>exact .SH t n p
 |load t a=>exact .ig t a
 |store t a x=>exact .j1 t a x
 |nilCheck x=>exact .Kk x
 |unOp o t x=>exact .SJ o t x
 |makeSlice t l c=>exact .SL t l c
 |slice t x u v w=>exact .mP t x u v w
 |field t x n=>exact .SO t x n
 |indexAddr t x i=>exact .SQ t x i
 |index t x i=>exact .SR t x i
 |extract x n=>exact .J7 x n
 |_=>simp[Hs]at h
def Tq(P:Ù)(X:Nat->Bool)(m:ã->Bool)(o:aT):Bool:=Hs P m o.op&&o.op.operands.all (AB X)
def ahh{X:Nat->Prop}{m:ã->Prop}{o:aT}(op:∀a:bZ,lM P a.eval o.op)(opd:∀x∈o.op.operands,oN X x)(calls:∀f args ts,o.op=ah {callee:=cL<|bu f,args:=args,argTypes:=ts}->m f):pn P X m o where
 po hz hb hG ht hW hl x u' hr hc:=(YS hz hW.bi hb (λf=>rfl) (op _) λx hx=>Az hG ht<|opd x hx).gR hW hl hr hc #[];zp a:=agU<|op a;NU a u n u' hr:=ag4 (op a) hr;zq a u f c u' hr:=let⟨as,ts,e⟩:=agZ (op a) hr;calls f as ts e
def ahi{g:Nat->Bool}{k:ã->Bool}(h:Tq P g k o=Ë):pn P (λj=>g j=Ë) (λf=>k f=Ë) o:=by
 let⟨j,b⟩:=Þ.1 h;refine ahh (λa=>ahg j a) (λx a=>Od ?_) λf x i e=> ?_
 .obtain⟨i,x,rfl⟩:=ś.1 a;exact ĵ.1 b i x
 .rw[e]at j;exact(Z0<|show To P k f=Ë from j).1
end
section
variable{ρ:fE}{g:ã->Prop}{α:Type}
def Ht(m:(Ú->Ã)->Ğ Ã)(e:∀b,î b o=m b>>=λv=>pure<|ñ v) (i:∀(ρ:fE) (b h:Ú->Ã),qg P->Bi ρ->ρ.gd=P.globals.size->(∀x∈o.op.operands,fy ρ (b x)<|h x)->me P fy ρ (m b) (m h)) (j:∀b,fP P<|m b) (k:∀x∈o.op.operands,oN X x):pn P X g o where
 po hz hb hG ht hW hl x u' hr hc:=by rw[e]at hr|-;exact(YO<|i _ _ _ hz hW.bi hb λx d=>Az hG ht<|k x d).gR hW hl hr hc #[]
 zp a:=by rw[e];exact n9<|j _
 NU a u n u' hr:=by
  rw[e,Å]at hr;cases d:(m a.eval).run P u with
  |ok v w=>rw[d]at hr;cases hr;exact Æ ⟨v,U⟩
  |halt z w=>rw[d]at hr;cases hr
 zq a u f c u' hr:=by
  rw[e,Å]at hr;cases d:(m a.eval).run P u with
  |ok v w=>rw[d]at hr;cases hr
  |halt z w=>rw[d]at hr;cases hr
def ahj(a:o.op=dc t qQ)(b:∀y∈o.op.operands,oN X y):pn P X g o:=by
 refine Ht (λd=>Ų t<|d qQ) (λd=> ?_) (λρ d c _ _ _ h=> .gd ?_) (λd=> ?_) b
 .unfold î;rw[a]
 .have c:=h qQ (by rw[a];simp[Ì]);unfold Ų;apply fR (j2 t);rintro f d _ e ⟨rfl,_⟩;split
  .exact .gB
  .exact .fQ (.BM t (c.ft e))
 .unfold Ų;repeat' (first|(with_reducible first|exact ij _|exact kg _|exact u9 _|refine gW ?_ λ_=> ?_)|split)
def ahk(c:Sys):rh P (sys c):=by
 intro u hu;refine⟨λx u' e=> ?_,λz u' e=>by cases e⟩;have:u'.heap=u.heap:=by
  simp only[sys,ä]at e;cases e;unfold World.sys;have ask:∀{γ:Type} (b:Ask γ) (w:È),(w.ask b).2.heap=w.heap:=by
   intro γ b
   induction b with
   |done a=>intro w;rfl
   |ask what range k ih=>
    intro w;simp only[World.ask];split
    .exact ih 0 w
    .exact ih _ _
  have:=ask (Kernel.perform c u.os) u;split
  .rfl
  .rename_i r os w nD heq;rwa[heq]at this
 exact⟨λh i c e he=>h i c e (by rwa[<-this]),λi o he ho=>⟨o,by rwa[this],ho⟩⟩
def Z3(x:Ã):∀u y b,(Ω x).run P u≠ı y b:=by
 unfold Ω;cases x<;>simp only[]<;>first|exact SC|skip
 refine BR λa=> ?_;split
 .exact SF
 .exact u6 _
def ahl(x:Ã):fP P (Ω x):=by
 refine⟨?_,SU<|Z3 x⟩;unfold Ω;cases x<;>simp only[]<;>first|exact Kp U|skip
 refine NL ?_ λa=> ?_
 .unfold Instr.panicnil;refine NL (ahk _) λr=> ?_;cases r<;>first|exact Kp U|skip
  exact NL YU λ_=>YT _
 .split
  .exact Kp U
  .exact(Aq _).1
def ahm(b:o.op=.panic qQ)(c:∀y∈o.op.operands,oN X y):pn P X g o:=by refine Ht (λa=>Ω<|a qQ) (λa=> ?_) (λρ a d _ _ _ h=> .gd (.rf (Z3 _))) (λa=>ahl _) c;unfold î;rw[b]
def ahn(c:fy ρ x v)(d:fy ρ z jQ):fT P fy ρ (Ŀ x z) (Ŀ v jQ):=by
 cases c<;>cases d<;>first|exact .gB|exact .fQ (.iL _ _)|skip
 refine fR (V:=fy) (.fQ (.oL _)) λf a g _ e=> ?_;apply fR (YC e);rintro h b _ _ rfl;exact .fQ (.mO _)
def aho(x y:Ã):fP P (Ŀ x y):=by unfold Ŀ;repeat' (first|(with_reducible first|exact ij _|exact kg _|exact wM _|exact NS _|exact Ta _ _ _|refine gW ?_ (λ_=> ?_)|refine pK _ ?_)|split|rfl)
def ahp:∀{l b:List Ã} {ρ:fE} {x c:Ã},fy ρ x c->gA ρ l.toArray b.toArray->fT P fy ρ (l.foldlM Ŀ x) (b.foldlM Ŀ c):=by
 intro l
 induction l with
 |nil=>
  intro b ρ x c d a;have:b=[]:=by have:=a.fh;simp at this;exact č this.symm
  subst this;rw[aj,aj];exact .fQ d
 |cons v l e=>
  intro b ρ x c d a;match b,a with
  |[],a=>have:=a.fh;simp at this
  |v'::b,a=>
   rw[ξ,ξ];have f:fy ρ v v':=by have:=a.kt 0 fB fB;simpa using this
   apply fR (ahn d f);intro m y n g h;refine e h ⟨by have:=a.fh;simpa using this,λj i k=> ?_⟩;have:=a.kt (j+1) (by simp at i|-;omega) (by simp at k|-;omega);exact(by simpa using this:fy ρ _ _).ft g
def Z4:∀(l:List Ã) (x:Ã),fP P<|l.foldlM Ŀ x
 |[],x=>by rw[aj];exact ij _
 |v::l,x=>by rw[ξ];exact gW (aho _ _) λy=>Z4 l y
def ahq(a:Array Á)(t:Á)(h:gA ρ d q):fT P fy ρ (Ř a t d) (Ř a t q):=by
 let⟨l⟩:=d;let⟨b⟩:=q;unfold Ř;match l,b,h with
 |[],_,_=>exact .gB
 |v::l,[],h=>have:=h.fh;simp at this
 |v::l,v'::b,h=>
  have e:fy ρ v v':=by have:=h.kt 0 fB fB;simpa using this
  refine ahp e ⟨by have:=h.fh;simpa using this,λj f g=> ?_⟩;have:=h.kt (j+1) (by simp at f|-;omega) (by simp at g|-;omega);exact(by simpa using this:fy ρ _ _)
def ahr(a:Array Á)(t:Á)(c:Array Ã):fP P (Ř a t c):=by
 let⟨l⟩:=c;unfold Ř;match l with
 |[]=>exact kg _
 |v::l=>exact Z4 l v
def ahs{b:Array Ú}{c:Array Á}(d:o.op=ah {callee:=Ī .min,args:=b,argTypes:=c})(e:∀y∈o.op.operands,oN X y):pn P X g o:=by refine Ht (λa=>Ř c o.type<|b.map a) (λa=> ?_) (λρ a i _ _ _ h=> .gd (ahq _ _<|YQ b λz f=>h z<|by rw[d];simp[Ì,ü,f])) (λa=>ahr _ _ _) e;unfold î;rw[d];simp only[Ă,Ę,ĝ,pure_bind]
def aht{β:Type}{f g:Ã->β->Ğ (ForInStep β)}(k:∀a v e b,ρ.le a->fy a v e->fT P kC a (f v b) (g e b)):∀{l d:List Ã} {a:fE} (b:β),ρ.le a->gA a l.toArray d.toArray->fT P kC a (forIn l b f) (forIn d b g):=by
 intro l
 induction l with
 |nil=>
  intro d a b _ c;have:d=[]:=by have:=c.fh;simp at this;exact č this.symm
  subst this;rw[aE,aE];exact .fQ U
 |cons v l m=>
  intro d a b h c;match d,c with
  |[],c=>have:=c.fh;simp at this
  |e::d,c=>
   rw[ak,ak];have n:fy a v e:=by have:=c.kt 0 fB fB;simpa using this
   apply fR (k a v e b h n);rintro q r _ i rfl;cases r with
   |done b=>exact .fQ U
   |yield b=>
    apply m b (fE.pH h i);refine⟨by have:=c.fh;simpa using this,λj o p=> ?_⟩;have:=c.kt (j+1) (by simp at o|-;omega) (by simp at p|-;omega);exact(by simpa using this:fy a _ _).ft i
def Z5{β:Type}{f:Ã->β->Ğ (ForInStep β)}(a:∀v b,fP P<|f v b):∀(l:List Ã) (b:β),fP P<|forIn l b f
 |[],b=>by rw[aE];exact ij _
 |v::l,b=>by
  rw[ak];refine gW (a v b) λr=> ?_;cases r with
  |done b=>exact ij _
  |yield b=>exact Z5 a l b
def ahu(d:fy ρ x v):fT P fy ρ (Ĉ x) (Ĉ v):=by
 cases d<;>first|exact .gB|exact .fQ (.mO _)|skip
 rename_i h n c;unfold Ĉ;apply fR (Sw h n);intro e j l m f;simp only[<-bg];refine fR (aht (ρ:=e) ?_ _ (fE.zd _) f) ?_
 .intro g a o b _ i;cases i<;>first|exact .gB|skip
  rename_i k n;cases k<;>first|exact .gB|exact .fQ U
 .rintro g s _ _ rfl;exact .fQ (.mO _)
def ahv(x:Ã):fP P (Ĉ x):=by
 unfold Ĉ;split
 .exact ij _
 .refine gW (S3 _ _) λa=> ?_;simp only[<-bg];refine gW (Z5 (λv b=> ?_) _ _) λ_=>ij _;split
  .exact ij _
  .exact kg _
 .exact kg _
def ahw(j:o.op=br t T qQ)(k:P.underlying t=À (dH e))(l:P.underlying T=À ĥ)(m:P.underlying e=À (κ .u8))(p:∀y∈o.op.operands,oN X y):pn P X g o:=by
 refine Ht (λa=>Ŧ t T<|a qQ) (λa=> ?_) (λρ a i _ _ _ h=> .gd ?_) (λa=> ?_) p
 .unfold î;rw[j]
 .have q:=h qQ (by rw[j];simp[Ì]);unfold Ŧ;refine fR (j2 t) ?_;rintro C D _ r ⟨rfl,b⟩;rw[k]at b;injection b with b;subst b;refine fR (j2 T) ?_;rintro u E _ w ⟨rfl,c⟩;rw[l]at c;injection c with c;subst c;have n:=(q.ft r).ft w;have z:fT P fy u (ù e>>=λy=>match y with|κ .u8=>Ĉ (a qQ)|κ .i32=>bh (a qQ)|_=>stuck "Convert: a slice of what to string?") (ù e>>=λy=>match y with|κ .u8=>Ĉ (i qQ)|κ .i32=>bh (i qQ)|_=>stuck "Convert: a slice of what to string?"):=by
   apply fR (j2 e);rintro F G _ B ⟨rfl,f⟩;rw[m]at f;injection f with f;subst f;exact ahu<|n.ft B
  generalize a qQ=v at*;generalize i qQ=v' at*;cases n<;>first|exact z|exact .gB|exact .fQ (.mO _)|skip
 .unfold Ŧ;refine wN k<|wN l ?_;generalize a qQ=v;cases v<;>first|exact wN m (ahv _)|exact ZG _|exact ij _
end
section
variable{ρ:fE}{b:ã->Prop}{α:Type}
def Z6(i:∀(ρ:fE) (a g:bZ),qg P->Bi ρ->ρ.gd=P.globals.size->(∀x∈o.op.operands,fy ρ (a.eval x)<|g.eval x)->me P rY ρ (î a.eval o) (î g.eval o)) (j:∀a:bZ,fP P<|î a.eval o) (h:∀(a:bZ) (u:È) (n:ae) (d:È),(î a.eval o).run P u=ı n d->∃v,n=ñ v) (k:∀x∈o.op.operands,oN X x):pn P X b o where
 po hz hb hG ht hW hl x d hr hc:=(i _ ⟨_,[]⟩ ⟨_,[]⟩ hz hW.bi hb λx e=>Az hG ht<|k x e).gR hW hl hr hc #[];zp a:=j a;NU a u n d hr:=Æ<|h a u n d hr;zq a u f c d hr:=by let⟨v,e⟩:=h a u _ d hr;cases e
def ahx{e:Array Ã->Ğ Ã}{t:Array Á}(g:o.op=ah {callee:=cL<|bu F,args:=#[qQ],argTypes:=t})(i:P.funcs[F]?=À s)(j:(s.name== "runtime.NumGoroutine")=Â)(k:s.body.isNone=Ë)(l:Extern.findNext s=í)(m:Extern.find s=À e) (B:∀(ρ:fE) (v q:Ã),fy ρ v q->fT P fy ρ (e #[v]) (e #[q])) (C:∀v,fP P<|e #[v]) (D:∀y∈o.op.operands,oN X y):pn P X b o:=by
 have c:∀a:bZ,î a.eval o=Ń F #[a.eval qQ]:=by intro a;unfold î;rw[g];simp only[Ă,ê,Ľ,Ę,pure_bind,ę,Ě,Û,æ,é]
 have r:∀(v:Ã) (u:È),(Ń F #[v]).run P u=(ey (.extern F)>>=λ_=>e #[v]>>=λy=>pure (ñ y):Ğ ae).run P u:=by intro v u;unfold Ń;rw[Å,ÿ];simp only[Ê,i,j,k,l,m,Ç,if_false,if_true]
 refine Z6 (λρ a w _ _ _ h=> ?_) (λa=> ?_) (λa u n E d=> ?_) D
 .rw[c,c];have w:=h qQ (by rw[g];simp[Ì,ü]);unfold Ń;refine .gd (fR uZ ?_);rintro J p K z ⟨G,H⟩;rw[G,H];simp only[i,j,k,l,m,Ç,if_false,if_true];apply fR (V:=kC) (.Hg (Í ⟨F,U⟩) (.fQ U));intro L _ _ I _;exact pj<|B _ _ _<|(w.ft z).ft I
 .rw[c];exact NN (r _)<|gW (Kq _) λ_=>n9<|C _
 .rw[c,r,Å]at d;simp only[ey,ä,Ê]at d;have:ä P (e #[a.eval qQ]>>=λy=>pure (ñ y):Ğ ae) u=ı n E:=d;rw[Å]at this;cases h:(e #[a.eval qQ]).run P u with
  |ok v w=>rw[h]at this;cases this;exact⟨v,U⟩
  |halt z w=>rw[h]at this;cases this
def ahy(x a:Ã)(h:fy ρ x a):fT P fy ρ (ő #[x]) (ő #[a]):=.fQ h
def ahz(x:Ã):fP P (ő #[x]):=ij _
def Z7:∀(n t:Nat) {c a:Array Ã},gA ρ c a->gA ρ (Ś n t c) (Ś n t a)
 |0,_,_,_,h=>h
 |n+1,t,_,_,h=>Z7 n (t/256)<|h.Ys<|.iL _ _
def ahA(b:Array Á)(t:Á)(v c:Ã)(h:fy ρ v c):fT P fy ρ (Ē b #[t] #[v]) (Ē b #[t] #[c]):=by
 cases h<;>first|exact .gB|skip
 rename_i k n;cases k<;>first|exact .gB|skip
 refine fR (j2 t) ?_;rintro j d _ l ⟨rfl,_⟩;cases d<;>first|exact .gB|skip
 rename_i e _;simp only[];split
 .exact .rf (zi<|u6 _)
 .apply wI (.Dy λn=> .fQ U);intro m f _;apply wI (SB _);intro o _ _;apply wI (.Dy λn=> .fQ U);intro p g _;apply fR (Kb e<|Z7 f g<|gA.He _);intro q a r _ i;exact .fQ (.mP i _ _)
def ahB(a:Array Á)(t:Á)(v:Ã):fP P (Ē a #[t] #[v]):=by
 cases v<;>first|exact kg _|skip
 rename_i k n;cases k<;>first|exact kg _|skip
 refine gW (u9 t) λd=> ?_;cases d<;>first|exact kg _|skip
 repeat' (first|(with_reducible first|exact ij _|exact kg _|exact wM _|exact Ks _ _|exact u9 _|exact Aq _|exact S4 _|refine gW ?_ λ_=> ?_)|split)
def KA(t:Á)(a:Ü)(c:Nat):Ğ Ã:=
 if c≠0 then pure (Ò<|À a)else do
  if(<-cI a.block).isSome then pure (Ò<|À a)
  else pure (Ò<|À ⟨<-eE (.view a<|<-Ş t),0,í⟩)
def ahC(g:Array Á)(t:Á)(j:fy ρ x v):me P fy ρ (Ģ g t #[x]) (Ģ g t #[v]):=by
 cases j<;>first|exact .gd .gB|exact .gd (.fQ .nY)|skip
 rename_i a f h n c;show me P fy ρ (KA t a c) (KA t f c);unfold KA;by_cases i:c≠0
 .simp only[if_pos i];exact .gd (.fQ (.lB h))
 .simp only[if_neg i];apply mY (NG h.1);rintro l b m o ⟨rfl,rfl⟩;simp only[Option.isSome_none,Ç,if_false];refine mY (V0:=λ_ a f=>a=f) ?_ ?_
  .unfold Ş;refine fR (j2 t) ?_;rintro k d _ p ⟨rfl,_⟩;cases d<;>first|exact .gB|exact .fQ U
  .rintro k e _ _ rfl;exact .zk trivial
def ahD(b:Array Á)(t:Á)(x:Ã):fP P (Ģ b t #[x]):=by
 cases x<;>first|exact kg _|skip
 rename_i p n c;cases p with
 |none=>exact ij _
 |some a=>
  show fP P (KA t a c);unfold KA;repeat' (first|(with_reducible first|exact ij _|exact kg _|exact NO _|exact NT _|refine gW ?_ (λ_=> ?_)|refine NM _ ?_)|split|(intro _ _ h;cases h;done))
def ahE{c:Array Á}(d:o.op=ah {callee:=Ī bM,args:=#[qQ],argTypes:=c})(e:∀y∈o.op.operands,oN X y):pn P X b o:=by refine Ht (λa=>Ģ c o.type #[a qQ]) (λa=> ?_) (λρ a f _ _ _ h=>ahC _ _<|h qQ<|by rw[d];simp[Ì,ü]) (λa=>ahD _ _ _) e;unfold î;rw[d];simp only[Ă,Ę,ĝ,pure_bind,Û,æ,é]
end
section
variable{ρ:fE}{f:Nat->Prop}{g:ã->Prop}{α:Type}
def Z8(h:iZ ρ a p):fT P iZ ρ (ε a) (ε p):=by unfold ε;apply fR (NG h.1);rintro c x d b ⟨rfl,rfl⟩;exact .fQ (h.ft b)
def ahF{r:Nat}(h:ρ r i):fT P (λ_ c q=>∃n a,c=À n/\q=À a/\n<=a) ρ (dP r) (dP i):=.kB h λ_ n a c=> .fQ ⟨n,a,U,U,c.elim (λq=>by omega) λq=>q.1⟩
def Z9(h:iZ ρ a p)(t:Á)(n:Nat):fT P (λ_ b e=>b=Ë->e=Ë) ρ (Ą a t n) (Ą p t n):=by unfold Ą;apply fR uZ;rintro i b j c ⟨d,f⟩;rw[d,f];refine .kB (c.1 _ _ h.1) λe m k g=> ?_;rw[h.2.1];exact .fQ λq=>YJ (az<|g.elim (λq=>by omega) λq=>q.1) q
def ahG(a:Ü):fP P (ε a):=by unfold ε;repeat' (first|(with_reducible first|exact ij _|exact uj|exact xD _|exact NT _|refine gW ?_ (λ_=> ?_)|refine pK _ ?_)|split|rfl)
def ahH(r:Nat):fP P (dP r):=by unfold dP;repeat' (first|(with_reducible first|exact ij _|exact xD _|exact Y0 _|refine gW ?_ λ_=> ?_)|split)
def a_(a:Ü)(t:Á)(n:Nat):fP P (Ą a t n):=by unfold Ą;repeat' (first|(with_reducible first|exact ij _|exact uj|exact xD _|refine gW ?_ λ_=> ?_)|split)
def ahI(l:P.underlying e=À (ó t))(m:P.underlying T=À Ĝ)(o:fy ρ x v):me P fy ρ (ý e T x) (ý e T v):=by
 unfold ý;refine mY (j2 e) ?_;rintro G H _ p ⟨rfl,f⟩;rw[l]at f;injection f with f;subst f;refine mY (j2 T) ?_;rintro I J _ r ⟨rfl,g⟩;rw[m]at g;injection g with g;subst g;have u:=(o.ft p).ft r;cases u<;>first|exact .gd .gB|exact .gd (.fQ .nY)|skip
 rename_i a K h;refine mY (Z8 h) ?_;intro L b j M i;refine mY (ahF i.1) ?_;rintro N c O w ⟨z,Q,rfl,rfl,V⟩;refine mY (pI t) ?_;rintro B n _ C ⟨rfl,_⟩;have D:=i.2.1;have E:=i.2.2;rw[D,E];have F:me P fy B (pure<|Ò<|À b) (pure<|Ò<|À j):=.gd (.fQ (.lB ((i.ft w).ft C)));simp only[];by_cases k:(decide (n=0)||(decide (j.off≥z)&&j.spot.isNone))=Ë
 .rw[if_pos k];exact .zk trivial
 .rw[if_neg k,if_neg]
  .exact F
  .intro q;apply k;simp only[ů,ĕ,decide_eq_true_eq]at q|-;exact q.imp id λy=>⟨Z,y.2⟩
def ahJ{d:Á}(o:P.underlying T=À Ĝ)(q:P.underlying d=À (ó t))(r:fy ρ x z):me P fy ρ (ý T d x) (ý T d z):=by
 unfold ý;refine mY (j2 T) ?_;rintro I J _ w ⟨rfl,f⟩;rw[o]at f;injection f with f;subst f;refine mY (j2 d) ?_;rintro K L _ y ⟨rfl,g⟩;rw[q]at g;injection g with g;subst g;have B:=(r.ft w).ft y;cases B<;>first|exact .gd .gB|exact .gd (.fQ .nY)|skip
 rename_i a M h;refine mY (Z8 h) ?_;intro N b C O j;refine mY (pI t) ?_;rintro Q n _ k ⟨rfl,_⟩;refine mY (Z9 (j.ft k) t 1) ?_;rintro D v V E F;have G:=(j.ft k).ft E;have H:me P fy D (pure<|Ò<|À b) (pure<|Ò<|À C):=.gd (.fQ (.lB G));by_cases i:(decide (n=0)||v)=Ë
 .rw[if_pos i,if_pos]
  .exact H
  .simp only[ů,decide_eq_true_eq]at i|-;exact i.imp id F
 .rw[if_neg i];refine .kJ λu x W c=> ?_;rw[Å]at c;simp only[cO,ä,Ê]at c;cases l:u.shape? b.block with
  |none=>rw[l]at c;cases c
  |some p=>
   let⟨e,m⟩:=p;rw[l]at c;simp only[Å,ÿ,Ê]at c;split at c
   .cases c
   .cases c;exact⟨u.heap.size,.view b t,á _,fB,trivial⟩
def ahK(h:(P.underlying e=À (ó t)/\P.underlying T=À Ĝ)\/(P.underlying e=À Ĝ/\P.underlying T=À (ó t)))(x:Ã):fP P (ý e T x):=by
 unfold ý;rcases h with⟨b,c⟩|⟨b,c⟩<;>refine wN b<|wN c ?_;all_goals
  cases x<;>first|exact kg _|skip
  rename_i p;cases p with
  |none=>exact ij _
  |some a=>
   repeat' (first|(with_reducible first|exact ahG _|exact ahH _|exact a_ _ _ _|exact ij _|exact kg _|exact uj|exact xD _|exact xF _|refine gW ?_ (λ_=> ?_)|refine pK _ ?_|refine NM _ ?_)|split|(intro _ _ h;cases h;done)|rfl)
def b_(l:o.op=br e T qQ)(h:(P.underlying e=À (ó t)/\P.underlying T=À Ĝ)\/(P.underlying e=À Ĝ/\P.underlying T=À (ó t)))(m:∀y∈o.op.operands,oN X y):pn P X g o:=by
 refine Ht (λi=>Ŧ e T<|i qQ) (λi=> ?_) (λρ i n _ _ _ p=> ?_) (λi=> ?_) m
 .unfold î;rw[l]
 .have q:=p qQ (by rw[l];simp[Ì]);unfold Ŧ;refine mY (j2 e) ?_;rintro w z _ r ⟨rfl,a⟩;refine mY (j2 T) ?_;rintro B C _ u ⟨rfl,b⟩;have j:=(q.ft r).ft u;generalize i qQ=v at j;generalize n qQ=v' at j;rcases h with⟨c,f⟩|⟨c,f⟩
  .rw[c]at a;injection a with a;subst a;rw[f]at b;injection b with b;subst b;have k:=ahI c f j;cases j<;>first|exact k|exact .base .halt
  .rw[c]at a;injection a with a;subst a;rw[f]at b;injection b with b;subst b;have k:=ahJ c f j;cases j<;>first|exact k|exact .base .halt
 .unfold Ŧ;have k:=λv=>ahK h v;rcases h with⟨c,f⟩|⟨c,f⟩;all_goals
   refine wN c<|wN f ?_;generalize i qQ=v;cases v<;>exact k _
def ahL(a:Ü)(n:Nat):rh P (de a n):=by
 intro u f;refine⟨λx b e=> ?_,λz b e=>by cases e⟩;cases e;unfold ġ;split
 .exact Kd.fY u
 .refine YV (λo d=> ?_) λo c e h=> ?_
  .cases o<;>first|exact d.elim|trivial
  .cases o<;>first|(cases h;done)|exact⟨_,_,U⟩
def ahM(a:Ü)(n:Nat):fP P (de a n):=by
 refine⟨ahL a n,λu T D=>⟨0,u.freeze a n,λx c e=> ?_⟩⟩;have b:∀T D,(World.tp u T D).freeze a n=World.tp (u.freeze a n) T D:=by intro T D;unfold ġ;split<;>rfl
 simp only[de,ä,b]at e;cases e;exact⟨U,λd f _=>by simp only[de,ä,b];rfl⟩
def c_:∀(n:Nat) {ρ:fE} {a c:Ü} (d:ByteArray),iZ ρ a c->fT P kC ρ (Ė a d n) (Ė c d n)
 |0,_,_,_,_,_=> .fQ U
 |n+1,ρ,a,c,d,h=>by
  unfold Ė;refine fR (NA h) ?_;intro g v i e f;cases f<;>first|exact .gB|skip
  rename_i k b;cases k<;>first|exact .gB|exact c_ n _<|(h.ft e).iX 1
def d_:∀(n:Nat) (a:Ü) (b:ByteArray),fP P<|Ė a b n
 |0,_,_=>ij _
 |n+1,a,b=>by
  unfold Ė;refine gW (Kr _ _) λv=> ?_;split
  .exact d_ n _ _
  .exact kg _
def kS(b:Á)(a:Ü)(n:Nat):Ğ ByteArray:=do
 if<-Ą a (<-Ş b) n then Ė a .empty n else unsupported (Ŕ "String: not so many bytes at ptr")
def ahN(c:Á)(h:iZ ρ a p)(n:Nat):fT P kC ρ (kS c a n) (kS c p n):=by
 unfold kS;refine fR (V:=kC) ?_ ?_
 .unfold Ş;refine fR (j2 c) ?_;rintro g d _ f ⟨rfl,_⟩;cases d<;>first|exact .gB|exact .fQ U
 .rintro j e _ d rfl;apply fR (Z9 (h.ft d) e n);rintro g b k f i;cases b with
  |true=>rw[i U];exact c_ n _<|(h.ft d).ft f
  |false=>exact .gB
def ahO[Dx P](G:km ρ f u w)(h:iZ ρ a p)(H:∀u l j,(Ş t).run P u=ı l j->∃k,P.underlying l=À (κ k))(g:(kS t a<|n+1).run P u=ı B W):¬f p.block:=by
 intro I;let⟨c,N,e,O,Q,r,T,V,y,_⟩:=G.fu _ _ h.1;let⟨_,_,_,_,o⟩:=y I;unfold kS at g;rw[Å]at g;cases i:(Ş t).run P u with
 |halt z x=>rw[i]at g;cases g
 |ok l j=>
  have J:j=u:=by
   unfold Ş at i;rw[Å]at i;unfold ù at i;rw[Å,ÿ]at i;simp only[Ê]at i;cases E:P.underlying t with
   |none=>rw[E]at i;cases i
   |some d=>
    rw[E]at i;cases d<;>cases i<;>rfl
  subst J;rw[i]at g;simp only[Ê]at g;rw[Å]at g;have C:∃b,(Ą a l<|n+1).run P j=ı b j:=by unfold Ą;rw[Å,ÿ];simp only[Ê];rw[Å];simp only[cO,ä,Ê];split<;>exact⟨_,U⟩
  rcases o with o|o;rotate_left
  .let⟨k,K⟩:=H _ _ _ i;have L:(Ą a l<|n+1).run P j=ı Â j:=by
    unfold Ą;rw[Å,ÿ];simp only[Ê];rw[Å];simp only[cO,ä,Ê];have y:j.shape? a.block=À (e,c.size):=by simp[ς,r]
    rw[y];simp only[Nat.div_eq_of_lt<|Dx.lt e c.size o,afK K];rfl
   rw[L]at g;cases g
  let⟨b,C⟩:=C;rw[C]at g;simp only[Ê]at g;split at g
  .unfold Ė at g;rw[Å]at g;simp only[bF,ä]at g;cases D:j.cell? a with
   |none=>
    rw[D]at g;simp only[ş,r]at g;cases g
   |some v=>
    rw[D]at g;simp only[Ê]at g;have q:=D;rw[DC r]at q;cases F:a.spot with
    |some x=>rw[F]at q;cases q
    |none=>
     rw[F]at q;have M:c[a.off]?=À v:=by simpa using q
     have:=o _ _ M;cases v<;>first|(cases g;done)|skip
     rename_i k m;cases k<;>first|(cases g;done)|cases this
  .cases g
end
section
variable{ρ:fE}{d:Nat->Prop}{f:ã->Prop}{α:Type}
def zt(b:Á)(p:Option Ü)(n:Int):Ğ Ã:=do
 if n<0 then runtimePanic (θ "unsafe.String: len out of range")
 if n>â.max then unsupported (Ŕ "String: a length above the largest int")
 match p with
 |none=>
  if n=0 then pure (Ĥ .empty)
  else runtimePanic (θ "unsafe.String: ptr is nil and len is not zero")
 |some a=>
  if n=0 then pure (Ĥ .empty)
  else if<-Ą a (<-Ş b) n.toNat then do
   let s<-Ė a .empty n.toNat
   de a n.toNat
   pure<|Ĥ s
  else unsupported (Ŕ "String: not so many bytes at ptr")
def BY(a b t:Á)(p:Option Ü)(k:Ć)(n:Int):ò #[a,b] t #[Ò p,ē k n]=zt a p n:=by cases p<;>rfl
def f_(c:Á)(a:Ü)(d:¬h<0)(e:¬h>â.max)(f:¬h=0): zt c (À a) h=(kS c a h.toNat>>=λs=>de a h.toNat>>=λ_=>pure<|Ĥ s):=by unfold zt;simp only[if_neg d,if_neg e,if_neg f];unfold kS;show _=è (è _ _) _;rw[Ű];congr 1;funext et;show è _ _=è (è _ _) _;rw[Ű];congr 1;funext b;cases b<;>rfl
def ahP(a:Á)(p:Option Ü)(n:Int):fP P (zt a p n):=by unfold zt;repeat' (first|(with_reducible first|exact a_ _ _ _|exact d_ _ _ _|exact ahM _ _|exact ij _|exact NO _|exact Aq _|refine gW ?_ (λ_=> ?_)|refine pK _ ?_)|split|rfl)
def ahQ(_hW:km ρ d u w):∀(n:Nat) {a i:Ü} {j s:ByteArray},iZ ρ a i->a.spot=í->(Ė a j n).run P u=ı s W->∀c e f,u.heap[a.block]?=À (ė c e f)->a.off<=c.size->a.off+n<=c.size:=by
 intro n
 induction n with
 |zero=>intro a i j s _ _ _ c e f _ r;exact r
 |succ n t=>
  intro a i j s h l b c e f o _;unfold Ė at b;rw[Å]at b;simp only[bF,ä]at b;cases p:u.cell? a with
  |none=>
   rw[p]at b;simp only[ş,o]at b;cases b
  |some v=>
   rw[p]at b;simp only[Ê]at b;have q:=p;rw[DC o,l]at q;have y:=(Ä.1<|by simpa using q).1;cases v<;>first|(cases b;done)|skip
   rename_i k m;cases k<;>first|(cases b;done)|skip
   have g:a.add 1={a with off:=a.off+1}:=by unfold Addr.add;rw[if_neg A];simp[l]
   have x:=h.iX 1;have:=t x (by rwa[g]) b c e f (by rwa[g]) (by rw[g];simp only;omega);rw[g]at this;simp only at this;omega
end
section
variable{ρ:fE}{g:Nat->Prop}{q:ã->Prop}{α:Type}
def Ts(a b t:Á)(p:Option Ü)(y:Ã):ò #[a,b] t #[Ò p,y]=(dU y>>=λn=>zt a p n):=by cases p<;>rfl
def g_:∀(n:Nat) {a:Ü} {f s:ByteArray} {u c:È},(Ė a f n).run P u=ı s c->c=u
 |0,_,_,_,_,_,h=>by cases h;rfl
 |n+1,a,f,s,u,c,h=>by
  unfold Ė at h;rw[Å]at h;have g:∀v b,(bF a).run P u=ı v b->b=u:=by
   intro v b e;simp only[bF,ä]at e;split at e
   .cases e;rfl
   .split at e<;>cases e;rfl
  cases d:(bF a).run P u with
  |halt z w=>rw[d]at h;cases h
  |ok v b=>
   have:=g v b d;subst this;rw[d]at h;simp only[Ê]at h;cases v<;>first|(cases h;done)|skip
   rename_i k m;cases k<;>first|(cases h;done)|exact g_ n h
def ahR(c:(kS e a n).run P u=ı B w):w=u/\(Ė a .empty n).run P u=ı B u:=by
 unfold kS at c;rw[Å]at c;cases f:(Ş e).run P u with
 |halt z x=>rw[f]at c;cases c
 |ok z x=>
  have g:x=u:=by
   unfold Ş at f;rw[Å]at f;unfold ù at f;rw[Å,ÿ]at f;simp only[Ê]at f;cases b:P.underlying e with
   |none=>rw[b]at f;cases f
   |some d=>
    rw[b]at f;cases d<;>cases f<;>rfl
  subst g;rw[f]at c;simp only[Ê]at c;rw[Å]at c;have d:∃b,(Ą a z n).run P x=ı b x:=by unfold Ą;rw[Å,ÿ];simp only[Ê];rw[Å];simp only[cO,ä,Ê];split<;>exact⟨_,U⟩
  let⟨b,d⟩:=d;rw[d]at c;simp only[Ê]at c;split at c
  .have:=g_ n c;subst this;exact⟨U,c⟩
  .cases c
def Oh(P:Ù)(t:Á):Bool:=match P.underlying t with
 |some (ó e)=>(match P.underlying e with|some (κ _)=>Ë|_=>Â)
 |_=>Â
def ahS{P:Ù}(h:Oh P e=Ë):∀u c d,(Ş e).run P u=ı c d->∃k,P.underlying c=À (κ k):=by
 intro u c d b;unfold Ş ù at b;rw[Å,Å,ÿ]at b;simp only[Ê]at b;unfold Oh at h;split at h
 .rename_i a f;rw[f]at b;cases b;split at h
  .rename_i k g;exact⟨k,g⟩
  .cases h
 .cases h
def ahT[Dx P]{y:Ú}{B:Á}(V:o.op=ah {callee:=Ī dy,args:=#[qQ,y],argTypes:=#[T,B]})(hpt:Oh P T=Ë)(h_:∀z∈o.op.operands,oN X z):pn P X q o:=by
 have W:∀K:Ú->Ã,î K o=(ò #[T,B] o.type #[K qQ,K y]>>=λv=>pure<|ñ v):=by intro K;unfold î;rw[V];simp only[Ă,Ę,ĝ,pure_bind,Û,æ,é]
 have L:∀v w:Ã,fP P (ò #[T,B] o.type #[v,w]):=by
  intro v w;cases v<;>first|exact kg _|skip
  rw[Ts];exact gW (Kt _) λn=>ahP _ _ _
 have hk:∀(a:bZ) (u:È) (n:ae) (p:È),(î a.eval o).run P u=ı n p->∃v,n=ñ v:=by
  intro a u n p b;rw[W,Å]at b;cases M:(ò #[T,B] o.type #[a.eval qQ,a.eval y]).run P u with
  |ok v w=>rw[M]at b;cases b;exact⟨v,U⟩
  |halt z w=>rw[M]at b;cases b
 refine⟨?_,λa=>by rw[W];exact n9<|L _ _,λa u n p b=>Æ<|hk a u n p b,λa u f c p b=>by let⟨v,e⟩:=hk a u _ p b;cases e⟩;intro ρ g t t' u w hz hb hG ht H hl z p b hc;have Y:=Az hG ht (h_ qQ<|by rw[V];simp[Ì,ü]);have N:=Az hG ht (h_ y<|by rw[V];simp[Ì,ü]);rw[W]at b|-;generalize ê ⟨t,[]⟩ qQ=v at Y b;generalize ê ⟨t',[]⟩ qQ=v' at Y|-;generalize ê ⟨t,[]⟩ y=l at N b;generalize ê ⟨t',[]⟩ y=l' at N|-;have C:fT P fy ρ (ò #[T,B] o.type #[v,l]) (ò #[T,B] o.type #[v',l'])->∃(I:fE) (x':ae) (w':È) (O:Array ĉ),ρ.le I/\(∀i j,I i j->ρ i j\/(u.heap.size<=i/\w.heap.size<=j))/\(ò #[T,B] o.type #[v',l']>>=λv=>pure (ñ v):Ğ ae).runT P w #[]=(ı x' w',#[]++O)/\rY I z x'/\km I g p w'/\qf ρ g w w'/\(∀e∈O,Dz I g e)/\u.heap.size<=p.heap.size:= λh=>(pj h).gR H hl b #[];cases Y with
 |nY=>
  apply C;rw[Ts,Ts];apply fR (Sy N);rintro i_ n _ _ rfl;unfold zt;by_cases r:n<0
  .simp only[if_pos r];exact .rf (zi<|u6 _)
  .by_cases d:n>â.max
   .simp only[if_neg r,if_pos d];exact .gB
   .simp only[if_neg r,if_neg d];split
    .exact .fQ (.mO _)
    .exact ND
 |lB D=>
  rename_i a a';cases N with
  |iL k n=>
   by_cases r:n<0
   .apply C;rw[BY,BY];unfold zt;simp only[if_pos r];exact .rf (zi<|u6 _)
   .by_cases d:n>â.max
    .apply C;rw[BY,BY];unfold zt;simp only[if_neg r,if_pos d];exact .gB
    .by_cases h3:n=0
     .apply C;rw[BY,BY];unfold zt;simp only[if_neg r,if_neg d,if_pos h3];exact .fQ (.mO _)
     .rw[BY,f_ T a r d h3]at b;rw[BY,f_ T a' r d h3];obtain⟨m,M⟩:∃m,n.toNat=m+1:=⟨n.toNat-1,Z⟩;rw[M]at b|-;cases J:(kS T a<|m+1).run P u with
      |halt z w=>
       rw[Å,Å,J]at b;cases b
      |ok s u1=>
       obtain⟨rfl,j_⟩:=ahR J;rw[Å,Å,J]at b;have DY:=b;cases DY;have ns:=ahO H D (ahS hpt) J;let⟨i_,s',w1,es,k1,k2,k3,k4,k5,E,k7,k8⟩:=(ahN T D<|m+1).gR H hl J #[];have O:=k4;subst O;let⟨c,c',e,fr,Ak,Q,hw,wR,_⟩:=H.fu _ _ D.1;have k_:a.spot=í/\a.off<c.size:=by
        have F:=j_;unfold Ė at F;rw[Å]at F;simp only[bF,ä]at F;cases G:u1.cell? a with
        |none=>
         rw[G]at F;simp only[ş,Q]at F;cases F
        |some v=>
         rw[DC Q]at G;cases rm:a.spot with
         |some qQ=>rw[rm]at G;cases G
         |none=>rw[rm]at G;exact⟨U,(Ä.1<|by simpa using G).1⟩
       have fits:∀c e fr,u1.heap[a.block]?=À (ė c e fr)->a.off+(m+1)<=c.size:=by intro c2 e2 s6 d;rw[Q]at d;injection d with d;injection d with q1 q2 q3;subst q1;exact ahQ H (m+1) D k_.1 j_ c e fr Q<|Nat.le_of_lt k_.2
       refine⟨i_,ñ<|Ĥ s,w1.freeze a'<|m+1,es,k1,k2,?_,.qh (.mO s),k5.Nz (D.ft k1) (m+1) fits,?_,k7,by rw[Nx];exact á _⟩
       .show ç P (è (è _ _) _) w #[]=_;rw[Ð,Ð,k3];rfl
       .refine⟨by rw[Nx];exact E.fh,ae4.trans E.os,ae5.trans E.mR,Sr.trans E.lU,λj hj L=> ?_,λj hs hj=> ?_⟩
        .rw[Ny (λe=>L a.block<|by rw[<-e];exact D.1)];exact E.fu j hj L
        .rw[Ny (λe=>ns<|by rwa[e])];exact E.sh j hs hj
  |_=>exact C .gB
 |_=>exact C .gB
end
section
variable{ρ:fE}{g:Nat->Prop}{i:ã->Prop}{α:Type}
def ahU(a:Ü):fP P (bN a):=by unfold bN;repeat' (first|(with_reducible first|exact ij _|exact xD _|exact S0 _|refine gW ?_ λ_=> ?_)|split)
def ahV(a b:Ü):fP P (df a b):=by unfold df;repeat' (first|(with_reducible first|exact ahU _|exact ij _|exact xD _|refine gW ?_ λ_=> ?_)|split)
def ahW(a b:Ü):fP P (Δ a b):=by unfold Δ;repeat' (first|(with_reducible first|exact ahV _ _|exact ij _|exact wM _|exact S0 _|exact Zg _|refine gW ?_ (λ_=> ?_)|refine pK _ ?_)|split|rfl)
def m_(h:P.underlying t=À (ó e))(x y:Ã):fP P (û t x y):=by unfold û Ď φ;refine wN h ?_;repeat' (first|(with_reducible first|exact ahW _ _|exact ij _|exact kg _|exact wM _|exact xF _|refine gW ?_ λ_=> ?_)|contradiction|split)
def ahX{a:ĭ}(b:a=aX\/a=bq)(h:P.underlying t=À (ó e))(x y:Ã):fP P (Α a t x y):=by
 have c:=m_ h x y;rcases b with rfl|rfl;all_goals
  unfold Α;repeat' (first|(with_reducible first|exact m_ h _ _|exact ij _|exact kg _|exact S6 _ _ _ _|exact ZA _ _ _ _ _ _|exact ZB _ _ _|exact Ta _ _ _|refine gW ?_ λ_=> ?_)|contradiction|split)
def BZ(u:È)(r:Nat):Prop:=∃c e a,u.heap[r]?=À (ė c e a)/\a.2<=c.size
def Oi(a:Ü)(u:È)(b:Array ĉ):(frozen a).runT P u b=(ı (u.frozen? a) u,b):=rfl
def Oj{r:Nat}(h:u.heap[r]?=À (ė d e xJ))(a:Array ĉ):(cO r).runT P u a=(ı (À (e,d.size)) u,a):=by simp only[cO,ç,ς,h]
def n_(h:BZ u a.block)(b:Array ĉ):(bN a).runT P u b=(ı (u.frozen? a) u,b):=by
 let⟨c,e,f,d,g⟩:=h;unfold bN;show ç P (è _ _) u b=_;rw[Ð,Oi];cases i:u.frozen? a with
 |true=>rfl
 |false=>
  simp only[Ç,if_false];show ç P (è _ _) u b=_;rw[Ð,Oj d];simp only[];rw[Oi];have:u.frozen? {block:=a.block,off:=c.size}=Â:=by simp only[Ċ,d];simp;omega
  rw[this]
def o_(f:u.heap[a.block]?=À (ė d e xJ))(g:xJ.2<=d.size)(b:u.frozen? a=Ë):d.size≠0:=by simp only[Ċ,f]at b;simp at b;omega
def ahY(i:BZ u a.block)(j:BZ u p.block)(k:(u.frozen? a&&u.frozen? p)=Â)(g:Array ĉ):(df a p).runT P u g=(ı Â u,g):=by
 have q:=i;have r:=j;let⟨c,e,w,l,s⟩:=q;let⟨d,f,x,m,t⟩:=r;unfold df;show ç P (è _ _) u g=_;rw[Ð,n_ i];simp only[];show ç P (è _ _) u g=_;rw[Ð,n_ j];simp only[];show ç P (è (è _ _) _) u g=_;rw[Ð,Ð,Oj l];simp only[];show ç P (è (è _ _) _) u g=_;rw[Ð,Ð,Oj m];simp only[];congr 2;cases o:u.frozen? a with
 |true=>
  rw[o]at k;have h:u.frozen? p=Â:=by simpa using k
  have:=o_ l s o;simp only[h];cases v:c.size with
  |zero=>exact absurd v this
  |succ n=>rfl
 |false=>
  cases h:u.frozen? p with
  |true=>
   have:=o_ m t h;cases v:d.size with
   |zero=>exact absurd v this
   |succ n=>rfl
  |false=>rfl
def p_(h:BZ u a.block)(b:Array ĉ):(bG a).runT P u b=(ı () u,b):=by let⟨c,e,f,d,g⟩:=h;unfold bG cI;show ç P (è (è _ _) _) u b=_;rw[Ð,Ð,Oj d];rfl
def q_(e:BZ u a.block)(f:BZ u p.block)(c:Array ĉ):(Δ a p).runT P u c= if(a.block==p.block)=Ë then(ı (a==p) u,c)else if(u.frozen? a&&u.frozen? p)=Ë then(cC (œ .addressObserved) u,c)else(ı Â u,c):=by
 unfold Δ;by_cases h:(a.block==p.block)=Ë
 .rw[if_pos h,if_pos h];rfl
 .rw[if_neg h,if_neg h];show ç P (è _ _) u c=_;rw[Ð,Oi];simp only[];show ç P (è _ _) u c=_;rw[Ð,Oi];simp only[];by_cases d:(u.frozen? a&&u.frozen? p)=Ë
  .rw[if_pos d,if_pos d];rfl
  .rw[if_neg d,if_neg d];show ç P (è _ _) u c=_;rw[Ð,p_ e];simp only[];show ç P (è _ _) u c=_;rw[Ð,p_ f];simp only[];show ç P (è _ _) u c=_;rw[Ð,ahY e f (by simpa using d)];rfl
end
section
variable{ρ:fE}{g:Nat->Prop}{j:ã->Prop}
def ahZ{d:dY}(h:P.underlying t=À d)(u:È)(a:Array ĉ):(ù t).runT P u a=(ı d u,a):=by unfold ù;show ç P (è _ _) u a=_;rw[Ð];show ç P (match P.underlying t with|some d=>pure d|none=>stuck _) u a=_;rw[h];rfl
def ah0(h:P.info? t=À zJ)(u:È)(a:Array ĉ):(Ŝ t).runT P u a=(ı zJ.size u,a):=by
 unfold Ŝ;show ç P (è _ _) u a=_;rw[Ð];have:(þ t).runT P u a=(ı zJ u,a):=by unfold þ;show ç P (è _ _) u a=_;rw[Ð];show ç P (match P.info? t with|some d=>pure d|none=>stuck _) u a=_;rw[h];rfl
 rw[this];rfl
def q'(h:P.underlying t=À (ó e))(d:P.info? e=À zJ)(f:zJ.size≠0)(a b:Ü)(u:È)(c:Array ĉ):(û t (Ò<|À a)<|Ò<|À b).runT P u c=(Δ a b).runT P u c:=by unfold û Ď φ;show ç P (è _ _) u c=_;rw[Ð,ahZ h];simp only[];show ç P (è _ _) u c=_;rw[Ð,ah0 d];simp only[];rw[if_pos f]
def jb(a:ĭ)(r:Bool):Bool:=if a=aX then r else !r
def r_{d:ĭ}(k:d=aX\/d=bq)(h:P.underlying t=À (ó e))(g:P.info? e=À zJ)(j:zJ.size≠0)(x y:Ú)(a b:Ü)(u:È)(c:Array ĉ): ((Ο d t x y (Ò<|À a) (Ò<|À b)>>=λ_=>Α d t (Ò<|À a)<|Ò<|À b)>>=λv=>pure (ñ v):Ğ ae).runT P u c= match(Δ a b).runT P u c with
 |(ı r u',f)=>(ı (ñ<|Ŏ<|jb d r) u',f)
 |(cC z u',f)=>(cC z u',f):=by
 rcases k with rfl|rfl
 .show ç P (è (è (û t (Ò<|À a)<|Ò<|À b) λr=>bl<|Ŏ r) λv=>bl<|ñ v) u c=_;rw[Ð,Ð,q' h g j];cases(Δ a b).runT P u c with
  |mk r f=>cases r<;>rfl
 .show ç P (è (è (û t (Ò<|À a)<|Ò<|À b) λr=>bl<|Ŏ !r) λv=>bl<|ñ v) u c=_;rw[Ð,Ð,q' h g j];cases(Δ a b).runT P u c with
  |mk r f=>cases r<;>rfl
def ah1{m:ĭ}{r:Á}{y:Ú}(E:o.op=ez m t qQ y r)(I:m=aX\/m=bq)(h:P.underlying t=À (ó e))(Y:P.info? e=À zJ)(hs:zJ.size≠0)(J:∀z∈o.op.operands,oN X z):pn P X j o:=by
 have K:∀B:Ú->Ã,î B o=((Ο m t qQ y (B qQ) (B y)>>=λ_=>Α m t (B qQ)<|B y)>>=λv=>pure<|ñ v):=by intro B;unfold î;rw[E]
 have hk:∀(a:bZ) (u:È) (n:ae) (s:È),(î a.eval o).run P u=ı n s->∃v,n=ñ v:=by
  intro a u n s k;rw[K,Å]at k;cases C:(Ο m t qQ y (a.eval qQ) (a.eval y)>>=λ_=>Α m t (a.eval qQ)<|a.eval y).run P u with
  |ok v w=>rw[C]at k;cases k;exact⟨v,U⟩
  |halt z w=>rw[C]at k;cases k
 refine⟨?_,λa=> ?_,λa u n s k=>Æ<|hk a u n s k,λa u f c s k=>by let⟨v,e⟩:=hk a u _ s k;cases e⟩
 .intro ρ g D t_ u w L hb M N p hl z s k hc;have O:=Az M N (J qQ<|by rw[E];simp[Ì]);have Q:=Az M N (J y<|by rw[E];simp[Ì]);by_cases T:pJ (ê ⟨D,[]⟩ qQ)\/pJ (ê ⟨D,[]⟩ y)
  .have hOk:lM P (ê ⟨D,[]⟩) o.op:=by
    rw[E];exact .Hl m t qQ y r λ_=>Í ⟨⟨e,h⟩,T⟩
   exact(YS L p.bi hb (λf=>rfl) hOk λz L=>Az M N<|J z L).gR p hl k hc #[]
  .have n1:=λq=>T<|Æ q;have n2:=λq=>T<|Í q;rw[K]at k|-;generalize ê ⟨D,[]⟩ qQ=v at O k n1;generalize ê ⟨t_,[]⟩ qQ=v' at O|-;generalize ê ⟨D,[]⟩ y=l at Q k n2;generalize ê ⟨t_,[]⟩ y=l' at Q|-;cases O<;>first|exact absurd trivial n1|skip
   cases Q<;>first|exact absurd trivial n2|skip
   rename_i a a' F b b' G;have fit:∀{c H:Ü},iZ ρ c H->BZ u c.block/\BZ w H.block:=by
    intro c H hcc;let⟨d,d',e2,fr,Ak,hu,hw,wR,pM,Tt,V⟩:=p.fu _ _ hcc.1;refine⟨⟨d,e2,fr,hu,V⟩,d',e2,Ak,hw,?_⟩;refine ö ?_ wR.le;by_cases q:g H.block
    .exact ö (pM q).2.2.1 V
    .rwa[<-Tt q]
   let⟨fa,fa'⟩:=fit F;let⟨fb,fb'⟩:=fit G;rw[<-Ÿ P _ u #[],r_ I h Y hs,q_ fa fb]at k;rw[r_ I h Y hs,q_ fa' fb'];have eb:=NH p.bi F G;have ea:=YG p.bi F G;rw[<-eb,<-ea];by_cases q:(a.block==b.block)=Ë
   .rw[if_pos q]at k|-;cases k;exact⟨ρ,_,w,#[],fE.zd _,λ_ _ q=>Æ q,U,.qh (.oL _),p,qf.fY _ _ _,λ_ C=>absurd C fB,á _⟩
   .rw[if_neg q]at k|-;by_cases W:(u.frozen? a&&u.frozen? b)=Ë
    .rw[if_pos W]at k;cases k
    .rw[if_neg W]at k;have q3:¬(w.frozen? a'&&w.frozen? b')=Ë:=by
      intro q4;let⟨z1,z2⟩:=Þ.1 q4;exact W<|Þ.2 ⟨p.fC F z1,p.fC G z2⟩
     rw[if_neg q3];cases k;exact⟨ρ,_,w,#[],fE.zd _,λ_ _ q=>Æ q,U,.qh (.oL _),p,qf.fY _ _ _,λ_ C=>absurd C fB,á _⟩
 .rw[K];exact n9<|gW (ZF m t (λ_=>Í ⟨e,h⟩) qQ y _ _) λ_=>ahX I h _ _
end
def Tv(P:Ù)(s d:Á):Bool:=match P.underlying s,P.underlying d with
 |some (dH e),À ĥ=>(match P.underlying e with|some (κ .u8)=>Ë|_=>Â)
 |some (ó _),À Ĝ=>Ë
 |some Ĝ,À (ó _)=>Ë
 |_,_=>Â
def Tw(P:Ù)(t:Á):Bool:=match P.underlying t with
 |some (ó e)=>(match P.info? e with|some i=>i.size !=0|none=>Â)
 |_=>Â
def Ty(P:Ù)(b:ã->Bool)(c:Callee)(a:List Ú)(d:List Á):Bool:=match c with
 |Ī .min=>a.length !=0
 |Ī bM=>a.length==1
 |Ī dy=>a.length==2&&(match d with|[t,_]=>Oh P t|_=>Â)
 |cL (bu f)=>b f&&a.length==1
 |_=>Â
def Tz(P:Ù)(a:ã->Bool):Op->Bool
 |dc _ _|.panic _=>Ë
 |ez c t _ _ _=>(c==aX||c==bq)&&Tw P t
 |br s d _=>Tv P s d
 |ah c=>Ty P a c.callee c.args.toList c.argTypes.toList
 |_=>Â
def Hu(P:Ù)(a:Nat->Bool)(b c:ã->Bool)(o:aT):Bool:=Tq P a b o||(Tz P c o.op&&o.op.operands.all (AB a))
def KB(P:Ù)(c:ã->Bool):Prop:=∀f,c f=Ë->∃a e,P.funcs[f]?=À a/\(a.name== "runtime.NumGoroutine")=Â/\a.body.isNone=Ë/\Extern.findNext a=í/\Extern.find a=À e/\
 (∀(ρ:fE) (v b:Ã),fy ρ v b->fT P fy ρ (e #[v]) (e #[b]))/\∀v,fP P<|e #[v]
def Ol[Dx P]{g:Nat->Bool}{k x:ã->Bool}(E:KB P x)(h:Hu P g k x o=Ë):pn P (λj=>g j=Ë) (λf=>k f=Ë) o:=by
 rcases ŀ.1 h with h|h
 .exact ahi h
 .let⟨w,F⟩:=Þ.1 h;have u:∀z∈o.op.operands,oN (λj=>g j=Ë) z:=by
   intro z G;obtain⟨i,C,rfl⟩:=ś.1 G;exact Od<|ĵ.1 F i C
  cases n:o.op with
  |makeInterface t y=>exact ahj n u
  |panic y=>exact ahm n u
  |binOp B t a b r=>
   rw[n]at w;let⟨H,m⟩:=Þ.1 (show((B==aX||B==bq)&&Tw P t)=Ë from w);have I:B=aX\/B=bq:=by
    rcases ŀ.1 H with q|q
    .exact Æ (by cases B<;>first|rfl|cases q)
    .exact Í (by cases B<;>first|rfl|cases q)
   unfold Tw at m;split at m
   .rename_i e J;split at m
    .rename_i i C;exact ah1 n I J C (by simpa using m) u
    .cases m
   .cases m
  |convert s d y=>
   rw[n]at w;have m:Tv P s d=Ë:=w;unfold Tv at m;split at m
   .rename_i e v p;split at m
    .rename_i K;exact ahw n v p K u
    .cases m
   .rename_i t v p;exact b_ n (Æ ⟨v,p⟩) u
   .rename_i t v p;exact b_ n (Í ⟨v,p⟩) u
   .cases m
  |call c=>
   rw[n]at w;let⟨L,M,D⟩:=c;have m:Ty P x L M.toList D.toList=Ë:=w;unfold Ty at m;split at m
   .exact ahs n u
   .obtain⟨y,rfl⟩:=Og m;exact ahE n u
   .let⟨v,p⟩:=Þ.1 m;obtain⟨y,z,rfl⟩:=Tp v;let⟨l⟩:=D;match l,p with
    |[t1,t2],p=>exact ahT n p u
   .rename_i f;let⟨v,p⟩:=Þ.1 m;obtain⟨y,rfl⟩:=Og p;let⟨Y,e,N,O,Q,T,V,W,X⟩:=E f v;exact ahx n N O Q T V W X u
   .cases m
  |_=>rw[n]at w;simp[Tz]at w
def qj(P:Ù)(a:Nat->Bool)(b d:ã->Bool):aQ->Bool
 |.ret|.skip|eG _|.exit _|.goto _=>Ë
 |.seq x y=>qj P a b d x&&qj P a b d y
 |bT c x y=>AB a c&&qj P a b d x&&qj P a b d y
 |eH _ c|.loop c|eI c=>qj P a b d c
 |cy _ c _=>c.all<|Hu P a b d
 |dM _=>Ë
 |_=>Â
def zu[Dx P]{g:Nat->Bool}{k x:ã->Bool}(a:KB P x):∀{c:aQ},qj P g k x c=Ë->mF P (λj=>g j=Ë) (λf=>k f=Ë) c
 |.ret,_=> .ri
 |.skip,_=> .wK
 |eG l,_=> .Ar l
 |.exit l,_=> .Av l
 |.goto l,_=> .Aw l
 |.seq y z,h=>by let⟨f,i⟩:=Þ.1 (show(qj P g k x y&&qj P g k x z)=Ë from h);exact .va (zu a f) (zu a i)
 |bT c y z,h=>by let⟨f,i⟩:=Þ.1 (show(AB g c&&qj P g k x y&&qj P g k x z)=Ë from h);let⟨j,f⟩:=Þ.1 f;exact .xG (Od j) (zu a f) (zu a i)
 |eH id c,h=> .vd id (zu a<|show qj P g k x c=Ë from h)
 |.loop c,h=> .As (zu a<|show qj P g k x c=Ë from h)
 |eI c,h=> .Au (zu a<|show qj P g k x c=Ë from h)
 |cy id ops d,h=> .xH id d λo f=>by obtain⟨i,j,rfl⟩:=ś.1 f;exact Ol a<|ĵ.1 (show ops.all (Hu P g k x)=Ë from h) i j
 |.rangeFunc _ _ _ _,h=>by simp[qj]at h
 |dM w,_=> .sd w
end Go.Proofs.Y.Lift
namespace Go.Proofs.Y.fK
open Go Go.Conc Go.Proofs.Y.Lift
def uk(t:ħ)(g:Nat)(l:ew):Prop:=∀p a,Ħ t p=À a->a.loc=l->bX t g p
def sj(t:ħ)(g:Nat)(l:ew):Prop:=∀p a,Ħ t p=À a->a.loc=l->a.write=Ë->bX t g p
def uk.r{t:ħ}{l:ew}(h:uk t i l):sj t i l:=λp a b c _=>h p a b c
section
variable{t u:ħ}{g:Nat}{l:ew}
def pw{a:ei}(h:Ħ (t++u) i=À a):(i<t.size/\Ħ t i=À a)\/(t.size<=i/\∃b∈u,b.act.touch?=À a/\(t++u)[i]?=À b):=by
 let⟨x,c,d⟩:=ek h;rcases getElem?_append_cases c with⟨b,e⟩|⟨b,f⟩
 .exact Æ ⟨b,by rwa[touchAt_of e]⟩
 .exact Í ⟨b,x,f,d,c⟩
def uk.jV(h:uk t g l)(f:∀c∈u,∀b,c.act.touch?=À b->b.loc=l->c.g=g):uk (t++u) g l:=by
 intro p a i e;rcases pw i with⟨_,d⟩|⟨_,c,d,j,k⟩
 .exact(h p a d e).app u
 .have:=bO k;rwa[f c d a j e]at this
def sj.jV(h:sj t g l)(i:∀c∈u,∀b,c.act.touch?=À b->b.loc=l->b.write=Ë->c.g=g):sj (t++u) g l:=by
 intro p a j e f;rcases pw j with⟨_,d⟩|⟨_,c,d,k,m⟩
 .exact(h p a d e f).app u
 .have:=bO m;rwa[i c d a k e f]at this
def uk.fN(h:∀p a,Ħ t p=À a->a.loc≠l):uk t g l:=λp a b c=>absurd c<|h p a b
def TA(h:∀e,¬eZ e t)(n:∀f∈u,f.g=g)(o:∀f∈u,∀b,f.act.touch?=À b->(b.write=Â/\sj t g b.loc)\/uk t g b.loc\/(b.kind=Ũ/\∀p a,Ħ t p=À a->a.loc=b.loc->a.kind=.plain->bX t g p)):∀e,¬eZ e (t++u):=by
 intro e;refine noRace_append (h e) n λi a j f r b s v=> ?_;let⟨k,w,d,c⟩:=v;rcases o f r b s with⟨l,m⟩|q|⟨l,m⟩
 .rcases d with d|d
  .exact m i a j k d
  .rw[l]at d;cases d
 .exact q i a j k
 .rw[l]at c;rcases c with c|c|⟨_,_,c⟩
  .exact m i a j k c
  .cases c
  .cases c
def DZ(g:∀c,¬eZ c t)(h:∀d∈u,d.act.touch?=í):∀c,¬eZ c (t++u):=by
 intro c;rintro⟨i,j,k,⟨a,b,l,m,n⟩,o,p⟩;have r:=m;have s:=l;rcases pw r with⟨x,e⟩|⟨_,d,e,f,_⟩
 .rcases pw s with⟨v,w⟩|⟨v,_⟩
  .exact g c ⟨i,j,k,⟨a,b,w,e,n⟩,λq=>o<|eL u q,λq=>p<|eL u q⟩
  .omega
 .rw[h d e]at f;cases f
end
structure fj where
 O:Nat->Prop
 Rd:Nat->Prop
 Oc:Ü->Prop
 Rc:Ü->Prop
 K:Ü->Prop
 d:Nat
 q:Prop
 w:È
def fj.M(l:fj):Nat->Prop:=λj=>l.O j\/l.Rd j
def fj.C(l:fj):Ü->Prop:=λa=>l.Oc a\/l.Rc a
structure fU(l:fj)(w w₁:È):Prop where
 fh:w.heap.size<=w₁.heap.size
 fu:∀j,l.M j->w₁.heap[j]?=w.heap[j]?
 fg:∀a,l.C a->w₁.cell? a=w.cell? a
 fC:∀a,l.C a->w₁.frozen? a=w.frozen? a
 ia:∀a,l.K a->(w.cell? a).isSome=Ë->(w₁.cell? a).isSome=Ë
def fU.fY(l:fj)(w:È):fU l w w:=⟨á _,λ_ _=>rfl,λ_ _=>rfl,λ_ _=>rfl,λ_ _ h=>h⟩
def fU.fl{l:fj}{c:È}(h:fU l w u)(k:fU l u c):fU l w c:= ⟨ö h.fh k.fh,λj d=>(k.fu j d).trans<|h.fu j d,λj d=>(k.fg j d).trans<|h.fg j d,λj d=>(k.fC j d).trans<|h.fC j d,λw e q=>k.ia w e<|h.ia w e q⟩
def mS(w:È)(b:Nat):Option (Nat×Nat):=match w.heap[b]? with
 |some (ė _ _ fr)=>À fr
 |_=>í
def zv{w':È}(h:w'.heap[b]?=w.heap[b]?):mS w' b=mS w b:=by unfold mS;rw[h]
def u_(w:È)(a:Ü):w.frozen? a=match mS w a.block with
 |some (lo,hi)=>decide (lo<=a.off)&&decide (a.off<hi)
 |none=>Â:=by
 unfold Ċ mS;cases w.heap[a.block]? with
 |none=>rfl
 |some o=>cases o<;>rfl
def Om(h:mS u a.block=mS w a.block):u.frozen? a=w.frozen? a:=by rw[u_,u_,h]
def B1(l:fj)(e:ĉ):Prop:=
 (∃a:Ü,e.loc=ć a/\(l.O a.block\/l.Oc a\/((l.Rd a.block\/l.Rc a)/\e.write=Â/\e.sync=Â)))\/e.loc=Θ π\/(∃f,e.loc=Θ (.extern f))\/e.loc=Θ dh\/e.loc=Θ dR\/
 ∃a:Ü,l.O a.block/\(e.loc=Θ (.read a)\/e.loc=Θ (.write a)\/e.loc=Θ (Ņ a)\/e.loc=Θ (di a))
structure oO(l l':fj)(w w':È)(es:Array ĉ):Prop where
 fh:w.heap.size<=w'.heap.size
 fN:∀j,l'.O j->l.O j\/w.heap.size<=j
 fG:∀j,l'.O j->j<w'.heap.size
 rd:l'.Rd=l.Rd
 oc:l'.Oc=l.Oc
 rc:l'.Rc=l.Rc
 k:l'.K=l.K
 lr:∀j,j<w.heap.size->¬l.O j->(∀a:Ü,a.block=j->¬l.Oc a)->w'.heap[j]?=w.heap[j]?
 fg:∀a:Ü,a.block<w.heap.size->¬l.O a.block->¬l.Oc a->w'.cell? a=w.cell? a
 fC:∀a:Ü,a.block<w.heap.size->¬l.O a.block->mS w' a.block=mS w a.block
 os:w'.os=w.os
 mR:w'.output=w.output
 lU:w'.tape=w.tape
 wS:∀e∈es,B1 l' e
 mT:l'.d=Ε l.d es
 q:l'.q=l.q
 On:l.q->w'=w/\(∀e∈es,e.mute=Ë)/\l'.O=l.O
 AF:l'.w=w'
structure TB(t:ħ)(g:Nat)(l:fj):Prop where
 fD:∀a:Ü,l.O a.block->uk t g (ć a)
 rd:∀a:Ü,l.Rd a.block->sj t g (ć a)
 oc:∀a:Ü,l.Oc a->uk t g (ć a)
 rc:∀a:Ü,l.Rc a->sj t g (ć a)
def w_{l:fj}{e:ĉ}(h:B1 l e){b:ei}(c:(ì e).touch?=À b):∃a:Ü,b.loc=ć a/\(l.O a.block\/l.Oc a\/((l.Rd a.block\/l.Rc a)/\b.write=Â)):=by
 let⟨j,wr,i⟩:=e;rcases h with⟨a,d,g⟩|h|⟨f,h⟩|h|h|⟨a,d,g⟩
 .simp only at d g;subst d;have:(ì ⟨ć a,wr,i⟩).touch?=À ⟨ć a,wr,if i then Ũ else .plain⟩:=U;rw[this]at c;obtain rfl:=ą c;exact⟨a,U,g.imp id<|Or.imp id λx=>⟨x.1,x.2.1⟩⟩
 .simp only at h;subst h;simp[ì,Č]at c
 .simp only at h;subst h;simp[ì,Č]at c
 .simp only at h;subst h;simp[ì,Č]at c
 .simp only at h;subst h;simp[ì,Č]at c
 .simp only at g;rcases g with rfl|rfl|rfl|rfl<;>simp[ì,Č]at c<;>subst c
  .exact⟨a,U,Æ d⟩
  .exact⟨a,U,Æ d⟩
def ah2{l:fj}(d:∀j,l.O j->j<i)(k:∀j,l.Rd j->j<i)(g:∀a:Ü,l.C a->a.block<i){e:ĉ}(h:B1 l e):(ì e).low i:=by
 let⟨m,wr,n⟩:=e;rcases h with⟨a,c,b⟩|h|⟨f,h⟩|h|h|⟨a,c,b⟩
 .simp only at c b;subst c;rcases b with h|h|⟨h|h,_⟩
  .exact d _ h
  .exact g _<|Æ h
  .exact k _ h
  .exact g _<|Í h
 .simp only at h;subst h;trivial
 .simp only at h;subst h;trivial
 .simp only at h;subst h;trivial
 .simp only at h;subst h;trivial
 .simp only at b;rcases b with rfl|rfl|rfl|rfl<;>exact d _ c
def y_(B:Nat)(t:ħ):Prop:=∀a∈t,a.act.low B
def z_(h:y_ i qJ){a:ei}(g:Ħ qJ n=À a){x:Ü}(d:a.loc=ć x):x.block<i:=by
 let⟨f,j,b⟩:=ek g;have c:=h f<|Ø j;revert b c;cases f.act with
 |access e=>
  intro b c;simp only[Č,ζ]at b;subst b;simp only at d;simp only[MemAct.low,d,Loc.low]at c;exact c
 |mark m=>
  intro b c;cases m<;>simp[Č]at b;all_goals
   subst b;simp only[Loc.cell.injEq]at d;subst d;exact c
 |_=>intro b _;simp[Č]at b
def qK{a:String}:∀op∈Ï i F a V,op.g=i:=λop b=>by obtain⟨e,_,rfl⟩:=ï (op:=op) b;rfl
structure jR(B0:Nat)(Live:Nat->Prop)(Y:Nat->Prop)(lot:Nat->fj)(w:È)(t:ħ):Prop where
 s7:∀i j,Live i->Live j->i≠j->∀b,(lot i).O b->¬(lot j).M b
 rn:∀i j,Live i->Live j->i≠j->∀a,(lot i).Oc a->¬(lot j).C a
 lD:∀i,Live i->∀b,(lot i).O b->¬(lot i).Rd b
 lE:∀i,Live i->∀a,(lot i).Oc a->¬(lot i).Rc a
 fX:∀i,Live i->∀b,(lot i).M b->¬Y b
 ju:∀i,Live i->∀a,(lot i).C a->Y a.block
 fG:∀i,Live i->∀b,(lot i).M b->b<w.heap.size
 kE:∀b,Y b->b<w.heap.size
 gy:∀i,Live i->fU (lot i) (lot i).w w
 lu:∀i,Live i->TB t i (lot i)
 mT:∀i,Live i->af t i=(lot i).d
 rp:∀said,¬eZ said t
 xK:y_ w.heap.size t
 AG:∀p a c,Ħ t p=À a->a.loc=.obj c->a.kind=.plain->c<B0
 k9:∀i,Live i->∀a,(lot i).K a->Y a.block/\∀k,Live k->¬(lot k).Oc a
def gX(lot:Nat->fj)(i:Nat)(l:fj):Nat->fj:=λk=>if k=i then l else lot k
def iV(a:Nat->fj)(i:Nat)(l:fj):gX a i l i=l:=if_pos U
def iC(a:Nat->fj)(l:fj)(h:k≠i):gX a i l k=a k:=if_neg h
section
variable{B0:Nat}{Live Y:Nat->Prop}{lot:Nat->fj}{w':È}{t u:ħ}
def TC{g:Nat}(a:k≠g)(t:ħ){u:ħ}(b:∀c∈u,c.g=g):af (t++u) k=af t k:= Deaf_other t (g:=k) (g':=g) (ă a) _ b
def jR.at(h:jR B0 Live Y lot w t)(d:Nat):jR B0 Live Y lot (w.at d) t:= ⟨h.s7,h.rn,h.lD,h.lE,h.fX,h.ju,h.fG,h.kE,λi a=>⟨(h.gy i a).fh,(h.gy i a).fu,(h.gy i a).fg,(h.gy i a).fC,(h.gy i a).ia⟩,h.lu,h.mT,h.rp,h.xK,h.AG,h.k9⟩
def jR.ah3(h:jR B0 Live Y lot w t)(r:Live i){s:fj}(l:oO (lot i) s w w' V)(E:ã)(F:String): jR B0 Live Y (gX lot i s) w' (t++Ï i E F V):=by
 have G:=l.fN;have Q:∀b,s.M b->(lot i).M b\/w.heap.size<=b:=λb g=>g.elim (λq=>(G b q).imp Æ id) (λq=>Æ<|Í<|by rwa[<-l.rd]);have J:∀a,s.C a↔(lot i).C a:=λa=>by unfold fj.C;rw[l.oc,l.rc]
 have I:=λk f a d=>h.kE _<|h.ju k f a d;have L:∀k,Live k->k≠i->∀b,(lot k).M b->¬s.O b:=by
  intro k f y b g c;rcases G b c with q|q
  .exact h.s7 i k r f (ă y) b q g
  .have:=h.fG k f b g;omega
 have H:∀m∈Ï i E F V,∀b,m.act.touch?=À b->∃a:Ü,b.loc=ć a/\(s.O a.block\/s.Oc a\/((s.Rd a.block\/s.Rc a)/\b.write=Â)):=by intro m o b g;obtain⟨e,N,rfl⟩:=ï o;exact w_ (l.wS e N) g
 have W:∀a:Ü,s.O a.block->uk t i (ć a):=by
  intro a d;rcases G _ d with q|q
  .exact(h.lu i r).fD a q
  .exact .fN λp x P n=>by have:=z_ h.xK P n;omega
 have D:TB t i s:=⟨W,λa d=>(h.lu i r).rd a (by rwa[<-l.rd]),λa d=>(h.lu i r).oc a (by rwa[<-l.oc]),λa d=>(h.lu i r).rc a<|by rwa[<-l.rc]⟩;refine⟨?_,?_,?_,?_,?_,?_,?_,λb g=>Õ (h.kE b g) l.fh,?_,?_,?_,?_,?_,?_,?_⟩
 .intro k j f u y b g;by_cases c:k=i
  .subst c;rw[iV]at g;rw[iC lot _<|ă y];exact λq=>L j u (ă y) b q g
  .rw[iC lot _ c]at g;by_cases v:j=i
   .subst v;rw[iV];intro q;rcases Q b q with z|z
    .exact h.s7 k j f u y b g z
    .have:=h.fG k f b<|Æ g;omega
   .rw[iC lot _ v];exact h.s7 k j f u y b g
 .intro k j f u y a d;by_cases c:k=i
  .subst c;rw[iV,l.oc]at d;rw[iC lot _<|ă y];exact h.rn k j f u y a d
  .rw[iC lot _ c]at d;by_cases v:j=i
   .subst v;rw[iV,J];exact h.rn k j f u y a d
   .rw[iC lot _ v];exact h.rn k j f u y a d
 .intro k f b g;by_cases c:k=i
  .subst c;rw[iV]at g|-;rw[l.rd];rcases G b g with z|z
   .exact h.lD k f b z
   .intro q;have:=h.fG k f b<|Í q;omega
  .rw[iC lot _ c]at g|-;exact h.lD k f b g
 .intro k f a d;by_cases c:k=i
  .subst c;rw[iV]at d|-;rw[l.rc];rw[l.oc]at d;exact h.lE k f a d
  .rw[iC lot _ c]at d|-;exact h.lE k f a d
 .intro k f b g;by_cases c:k=i
  .subst c;rw[iV]at g;rcases Q b g with z|z
   .exact h.fX k f b z
   .intro y;have:=h.kE b y;omega
  .rw[iC lot _ c]at g;exact h.fX k f b g
 .intro k f a d;by_cases c:k=i
  .subst c;rw[iV,J]at d;exact h.ju k f a d
  .rw[iC lot _ c]at d;exact h.ju k f a d
 .intro k f b g;by_cases c:k=i
  .subst c;rw[iV]at g;exact g.elim (l.fG b) λq=>Õ (h.fG k f b<|Í<|by rwa[<-l.rd]) l.fh
  .rw[iC lot _ c]at g;exact Õ (h.fG k f b g) l.fh
 .intro k f;by_cases c:k=i
  .subst c;rw[iV,l.AF];exact fU.fY _ _
  .rw[iC lot _ c];refine(h.gy k f).fl ⟨l.fh,λb g=>l.lr b (h.fG k f b g) (λq=>h.s7 i k r f (ă c) b q g) (λa d q=>h.fX k f b g<|by rw[<-d];exact h.ju i r a<|Æ q),λa d=>l.fg a (I k f a d) (λq=>h.fX i r _ (Æ q)<|h.ju k f a d) λq=>h.rn i k r f (ă c) a q d,λa d=>Om (l.fC a (I k f a d) λq=>h.fX i r _ (Æ q)<|h.ju k f a d),λa d q=> ?_⟩;let⟨y,v⟩:=h.k9 k f a d;rwa[l.fg a (h.kE _ y) (λq=>h.fX i r _ (Æ q) y)<|v i r]
 .intro k f;by_cases c:k=i
  .subst c;rw[iV];exact⟨λa d=>(D.fD a d).jV λm o _ _ _=>qK m o,λa d=>(D.rd a d).jV λm o _ _ _ _=>qK m o,λa d=>(D.oc a d).jV λm o _ _ _=>qK m o,λa d=>(D.rc a d).jV λm o _ _ _ _=>qK m o⟩
  .rw[iC lot _ c];have X:∀a:Ü,(lot k).O a.block->∀m∈Ï i E F V,∀b,m.act.touch?=À b->b.loc=ć a->False:=by
    intro a d m o b g n;let⟨x,y,v⟩:=H m o b g;rw[y]at n;injection n with n;subst n;rcases v with q|q|⟨q|q,_⟩
    .exact L k f c _ (Æ d) q
    .exact h.fX k f _ (Æ d)<|h.ju i r x<|Æ<|by rwa[<-l.oc]
    .exact h.s7 k i f r c _ d<|Í<|by rwa[<-l.rd]
    .exact h.fX k f _ (Æ d)<|h.ju i r x<|Í<|by rwa[<-l.rc]
   have um:∀a:Ü,(lot k).Rd a.block->∀m∈Ï i E F V,∀b,m.act.touch?=À b->b.loc=ć a->b.write=Ë->False:=by
    intro a d m o b g n B;let⟨x,y,v⟩:=H m o b g;rw[y]at n;injection n with n;subst n;rcases v with q|q|⟨_,q⟩
    .exact L k f c _ (Í d) q
    .exact h.fX k f _ (Í d)<|h.ju i r x<|Æ<|by rwa[<-l.oc]
    .rw[q]at B;cases B
   have T:∀a:Ü,(lot k).C a->∀m∈Ï i E F V,∀b,m.act.touch?=À b->b.loc=ć a->(s.Rd a.block\/s.Rc a)/\b.write=Â:=by
    intro a d m o b g n;let⟨x,y,v⟩:=H m o b g;rw[y]at n;injection n with n;subst n;rcases v with q|q|q
    .exfalso;rcases G _ q with z|z
     .exact h.fX i r _ (Æ z)<|h.ju k f x d
     .have:=I k f x d;omega
    .exact absurd d<|h.rn i k r f (ă c) x<|by rwa[<-l.oc]
    .exact q
   refine⟨λa d=>((h.lu k f).fD a d).jV λm o b g n=>(X a d m o b g n).elim,λa d=>((h.lu k f).rd a d).jV λm o b g n B=>(um a d m o b g n B).elim,λa d=>((h.lu k f).oc a d).jV λm o b g n=> ?_,λa d=>((h.lu k f).rc a d).jV λm o b g n B=> ?_⟩
   .exfalso;obtain⟨q|q,_⟩:=T a (Æ d) m o b g n
    .exact h.fX i r _ (Í<|by rwa[<-l.rd])<|h.ju k f a<|Æ d
    .exact h.rn k i f r c a d<|Í<|by rwa[<-l.rc]
   .have:=(T a (Í d) m o b g n).2;rw[this]at B;cases B
 .intro k f;by_cases c:k=i
  .subst c;rw[iV,l.mT,Deaf_own,h.mT k f]
  .rw[iC lot _ c,TC c t qK];exact h.mT k f
 .refine TA h.rp qK λm o b g=> ?_;let⟨a,y,v⟩:=H m o b g;rw[y];rcases v with q|q|⟨q,B⟩
  .exact Í<|Æ<|D.fD a q
  .exact Í<|Æ<|D.oc a q
  .exact Æ ⟨B,q.elim (D.rd a)<|D.rc a⟩
 .intro m o;rcases Ĩ.1 o with q|q
  .exact MemAct.low_mono l.fh<|h.xK m q
  .obtain⟨e,N,rfl⟩:=ï q;refine ah2 l.fG (λj u=>Õ (h.fG i r j<|Í<|by rwa[<-l.rd]) l.fh) (λa d=> ?_)<|l.wS e N;rw[J]at d;exact Õ (I i r a d) l.fh
 .intro p a c d n f;rcases pw d with⟨_,y⟩|⟨_,m,y,v,_⟩
  .exact h.AG p a c y n f
  .let⟨x,P,_⟩:=H m y a v;rw[P]at n;cases n
 .intro k f a d;have y:∀j,(gX lot i s j).Oc=(lot j).Oc:=λj=>by
   by_cases e:j=i
   .subst e;rw[iV,l.oc]
   .rw[iC lot _ e]
  have c:(gX lot i s k).K=(lot k).K:=by
   by_cases e:k=i
   .subst e;rw[iV,l.k]
   .rw[iC lot _ e]
  rw[c]at d;exact⟨(h.k9 k f a d).1,λj u=>by rw[y];exact(h.k9 k f a d).2 j u⟩
end
def KC(Live Y:Nat->Prop)(d:Nat->fj)(b:ei):Prop:=(∃a:Ü,b.loc=ć a/\Y a.block/\∀k,Live k->¬(d k).C a)\/∃c,b.loc=.obj c/\Y c/\b.kind=Ũ
structure s8(Live Y:Nat->Prop)(lot:Nat->fj)(w w':È):Prop where
 fh:w'.heap.size=w.heap.size
 lr:∀j,¬Y j->w'.heap[j]?=w.heap[j]?
 fg:∀k,Live k->∀a,(lot k).C a->w'.cell? a=w.cell? a
 fC:∀k,Live k->∀a,(lot k).C a->w'.frozen? a=w.frozen? a
 ia:∀a,(w.cell? a).isSome=Ë->(w'.cell? a).isSome=Ë
def s8.fY(Live Y:Nat->Prop)(a:Nat->fj)(w:È):s8 Live Y a w w:=⟨U,λ_ _=>rfl,λ_ _ _ _=>rfl,λ_ _ _ _=>rfl,λ_ h=>h⟩
structure zw(w':È)(l l':fj):Prop where
 O:l'.O=l.O
 Rd:l'.Rd=l.Rd
 Oc:l'.Oc=l.Oc
 Rc:l'.Rc=l.Rc
 K:l'.K=l.K
 w:l'.w=l.w\/l'.w=w'
def zw.fY(w':È)(l:fj):zw w' l l:=⟨U,U,U,U,U,Æ U⟩
def zw.M{w':È}{l a:fj}(h:zw w' l a):a.M=l.M:=by unfold fj.M;rw[h.O,h.Rd]
def zw.C{w':È}{l a:fj}(h:zw w' l a):a.C=l.C:=by unfold fj.C;rw[h.Oc,h.Rc]
def fU.ah4{l c:fj}(h:zw w l c)(r:fU l u W):fU c u W:= ⟨r.fh,by rw[h.M];exact r.fu,by rw[h.C];exact r.fg,by rw[h.C];exact r.fC,by rw[h.K];exact r.ia⟩
section
variable{Live Y:Nat->Prop}{lot o:Nat->fj}{w':È}{t u:ħ}
def jR.nF(h:jR n Live Y lot w t)(m:∀k,zw w' (lot k)<|o k)(s:s8 Live Y lot w w')(B:∀l∈u,∀b,l.act.touch?=À b->KC Live Y lot b)(g:∀l∈u,l.act.low w.heap.size)(E:∀F,¬eZ F (t++u))(G:∀k,Live k->af (t++u) k=(o k).d):jR n Live Y o w' (t++u) where
 s7 i j hi v nD b q:=by rw[(m j).M];exact h.s7 i j hi v nD b<|by rwa[<-(m i).O]
 rn i j hi v nD a f:=by rw[(m j).C];exact h.rn i j hi v nD a<|by rwa[<-(m i).Oc]
 lD i hi b q:=by rw[(m i).Rd];exact h.lD i hi b<|by rwa[<-(m i).O]
 lE i hi a f:=by rw[(m i).Rc];exact h.lE i hi a<|by rwa[<-(m i).Oc]
 fX i hi b q:=h.fX i hi b (by rwa[<-(m i).M]);ju i hi a f:=h.ju i hi a (by rwa[<-(m i).C]);fG i hi b q:=by rw[s.fh];exact h.fG i hi b<|by rwa[<-(m i).M]
 kE b q:=by rw[s.fh];exact h.kE b q
 gy i hi:=by
  rcases(m i).w with e|e
  .rw[e];refine((h.gy i hi).fl ⟨dS s.fh.symm,λj v=>s.lr j<|h.fX i hi j v,λa f=>s.fg i hi a f,λa f=>s.fC i hi a f,λa _=>s.ia a⟩).ah4<|m i
  .rw[e];exact fU.fY _ _
 lu i hi:=by
  have z:∀a:Ü,(lot i).M a.block->∀l∈u,∀b,l.act.touch?=À b->b.loc=ć a->False:=by
   intro a f l e b q g;rcases B l e b q with⟨x,r,y,_⟩|⟨c,r,_⟩
   .rw[r]at g;injection g with g;subst g;exact h.fX i hi _ f y
   .rw[r]at g;cases g
  have D:∀a:Ü,(lot i).C a->∀l∈u,∀b,l.act.touch?=À b->b.loc=ć a->False:=by
   intro a f l e b q g;rcases B l e b q with⟨x,r,_,y⟩|⟨c,r,_⟩
   .rw[r]at g;injection g with g;subst g;exact y i hi f
   .rw[r]at g;cases g
  exact⟨λa f=>((h.lu i hi).fD a<|by rwa[<-(m i).O]).jV λl e b q g=>(z a (Æ<|by rwa[<-(m i).O]) l e b q g).elim,λa f=>((h.lu i hi).rd a<|by rwa[<-(m i).Rd]).jV λl e b q g _=>(z a (Í<|by rwa[<-(m i).Rd]) l e b q g).elim,λa f=>((h.lu i hi).oc a<|by rwa[<-(m i).Oc]).jV λl e b q g=>(D a (Æ<|by rwa[<-(m i).Oc]) l e b q g).elim,λa f=>((h.lu i hi).rc a<|by rwa[<-(m i).Rc]).jV λl e b q g _=>(D a (Í<|by rwa[<-(m i).Rc]) l e b q g).elim⟩
 mT:=G;rp:=E;xK l e:=by rw[s.fh];exact(Ĩ.1 e).elim (h.xK l)<|g l
 AG p a c f g z:=by
  rcases pw f with⟨_,r⟩|⟨_,l,r,y,_⟩
  .exact h.AG p a c r g z
  .rcases B l r a y with⟨x,D,_⟩|⟨x,_,_,D⟩
   .rw[D]at g;cases g
   .rw[D]at z;cases z
 k9 i hi a f:=by rw[(m i).K]at f;exact⟨(h.k9 i hi a f).1,λk z=>by rw[(m k).Oc];exact(h.k9 i hi a f).2 k z⟩
end
structure ic(l:fj):Prop where
 lD:∀b,l.O b->¬l.Rd b
 lE:∀a,l.Oc a->¬l.Rc a
 fX:∀a,l.C a->¬l.M a.block
 fG:∀b,l.M b->b<l.w.heap.size
 nK:∀a,l.C a->a.block<l.w.heap.size
 k9:∀a,l.K a->¬l.M a.block/\a.block<l.w.heap.size/\¬l.Oc a
def jR.gk{Live Y:Nat->Prop}{c:Nat->fj}{t:ħ}(h:jR n Live Y c w t)(b:Live i):ic {c i with w:=w} where
 lD:=h.lD i b;lE:=h.lE i b;fX a ha hb:=h.fX i b _ hb<|h.ju i b a ha;fG:=h.fG i b;nK a ha:=h.kE _<|h.ju i b a ha;k9 a ha:=⟨λq=>h.fX i b _ q (h.k9 i b a ha).1,h.kE _ (h.k9 i b a ha).1,(h.k9 i b a ha).2 i b⟩
abbrev Jd:=fj->Ô->Prop
inductive fA(P:Ù)(main:Bool)(Stop:Jd):Jd
 |fO {l:fj} {g:Ô} (h:∀w₁,fU l l.w w₁->Stop {l with w:=w₁} g):fA P main Stop l g
 |kD {l:fj} {g:Ô} (G':È->Ô) (W':È->È) (E':È->Array ĉ) (L':È->fj) (jE:g.status=Ñ)
  (h:∀w₁,fU l l.w w₁->Ý P main g w₁=bB (G' w₁) (W' w₁) (E' w₁)) (hd:∀w₁,fU l l.w w₁->oO l (L' w₁) w₁ (W' w₁) (E' w₁))
  (ih:∀w₁,fU l l.w w₁->fA P main Stop (L' w₁) (G' w₁)):fA P main Stop l g
instance:Nonempty fj:=⟨⟨λ_=>False,λ_=>False,λ_=>False,λ_=>False,λ_=>False,0,False,default⟩⟩
instance:Nonempty (Goroutine×World×Array Event×fj):=⟨(default,default,#[],Classical.choice inferInstance)⟩
section
variable{main:Bool}{Stop m:Jd}
def fA.mk{l:fj}(i:g.status=Ñ) (h:∀a,fU l l.w a->∃b c d e,Ý P main g a=bB b c d/\oO l e a c d/\fA P main Stop e b):fA P main Stop l g:=by
 let p:=λ(a:È) (x:Goroutine×World×Array Event×fj)=>Ý P main g a=bB x.1 x.2.1 x.2.2.1/\oO l x.2.2.2 a x.2.1 x.2.2.1/\fA P main Stop x.2.2.2 x.1
 have f:∀a,fU l l.w a->p a (Classical.epsilon<|p a):=λa r=>Classical.epsilon_spec (let⟨b,c,d,e,h⟩:=h a r;⟨(b,c,d,e),h⟩);exact .kD (λa=>(Classical.epsilon<|p a).1) (λa=>(Classical.epsilon<|p a).2.1) (λa=>(Classical.epsilon<|p a).2.2.1) (λa=>(Classical.epsilon<|p a).2.2.2) i (λa r=>(f a r).1) (λa r=>(f a r).2.1) λa r=>(f a r).2.2
def fA.fZ{l:fj}{w₁:È}(h:fA P main Stop l g)(r:fU l l.w w₁):fA P main Stop {l with w:=w₁} g:=by
 have e:∀{a b:È},fU {l with w:=w₁} a b->fU l a b:=λq=>⟨q.fh,q.fu,q.fg,q.fC,q.ia⟩;cases h with
 |fO h=>exact .fO λc d=>h c<|r.fl<|e d
 |kD f i j m n h o p=>
  exact .kD f i j m n (λc d=>h c<|r.fl<|e d) (λc d=>let q:=o c<|r.fl<|e d;⟨q.fh,q.fN,q.fG,q.rd,q.oc,q.rc,q.k,q.lr,q.fg,q.fC,q.os,q.mR,q.lU,q.wS,q.mT,q.q,q.On,q.AF⟩) λc d=>p c<|r.fl<|e d
def fA.ft(a:∀l g,Stop l g->m l g){l:fj}(h:fA P main Stop l g):fA P main m l g:=by
 induction h with
 |fO h=>exact .fO λb r=>a _ _<|h b r
 |kD b r c d e h f _ i=>exact .kD b r c d e h f i
def fA.fl{l:fj}(h:fA P main (fA P main Stop) l g):fA P main Stop l g:=by
 induction h with
 |fO h=>exact h _<|fU.fY _ _
 |kD a b c d e h f _ i=>exact .kD a b c d e h f i
def fA.oM(a:∀l g,Stop l g->fA P main m l g){l:fj}(h:fA P main Stop l g):fA P main m l g:=(h.ft a).fl
end
inductive gY where
 |fO:gY
 |kD (k:È->gY):gY
def A_(x:gY):gY->Prop
 |.fO=>False
 |.kD k=>∃w,x=k w
def A':WellFounded A_:=⟨λa=>by
 induction a with
 |fO=>exact⟨_,λy h=>h.elim⟩
 |kD k b=>exact⟨_,λy ⟨w,h⟩=>h▸b w⟩⟩
def na(P:Ù)(b:Bool)(c:Jd):gY->Jd
 |.fO,l,g=>∀a,fU l l.w a->c {l with w:=a} g
 |.kD k,l,g=>g.status=Ñ/\∀a,fU l l.w a->∃d e f h,Ý P b g a=bB d e f/\oO l h a e f/\na P b c (k a) h d
section
variable{main:Bool}{Stop:Jd}
def ku{l:fj}(h:fA P main Stop l g):∃tr,na P main Stop tr l g:=by
 induction h with
 |fO h=>exact⟨.fO,h⟩
 |@kD l g G' W' E' L' jE h hd _ ih=>
  have b:∀a,∃tr,fU l l.w a->na P main Stop tr (L' a) (G' a):=by
   intro a;by_cases r:fU l l.w a
   .let⟨tr,q⟩:=ih a r;exact⟨tr,λ_=>q⟩
   .exact⟨.fO,λq=>absurd q r⟩
  refine⟨.kD λa=>Classical.choose<|b a,jE,λa r=>⟨G' a,W' a,E' a,L' a,h a r,hd a r,Classical.choose_spec (b a) r⟩⟩
end
def ah5{l:fj}{c:Nat->Prop}(d:∀j,X j->l.O j)(f:∀j,c j->l.Rd j){e:ĉ}(h:N5 X c e):B1 l e:=by
 rcases h with⟨a,g,i,b⟩|h|h
 .refine Æ ⟨a,g,?_⟩;rcases b with b|⟨b,k⟩
  .exact Æ<|d _ b
  .exact Í<|Í ⟨Æ<|f _ b,k,i⟩
 .exact Í<|Æ h
 .exact Í<|Í<|Æ h
def ah6{b:Nat->Prop}(h:∀e∈V,N5 X b e)(d:Nat):Ε d V=d:=by
 refine bP (λe c=> ?_) d;rcases h e c with⟨a,g,_⟩|h|⟨f,h⟩
 .rw[g];exact⟨fB,fB⟩
 .rw[h];exact⟨fB,fB⟩
 .rw[h];exact⟨fB,fB⟩
def iF{w':È}(h:w'.heap[a.block]?=w.heap[a.block]?):w'.cell? a=w.cell? a:=by unfold Ĭ;rw[h]
def AH(h:u.heap[a.block]?=w.heap[a.block]?):u.frozen? a=w.frozen? a:=by unfold Ċ;rw[h]
def ah7{t:(Nat->Prop)->Ô->È->Prop}{O:Nat->Prop}(h:zr P yQ X t O g w):∀l:fj,l.w=w->(∀j,O j->l.O j)->(∀j,X j->l.Rd j)->(∀j,l.O j->j<w.heap.size)->¬l.q-> fA P yQ (λa b=>∃f,t f b a.w/\(∀j,O j->f j)/\(∀j,f j->a.O j)/\(∀j,l.O j->a.O j)/\(∀j,a.O j->l.O j\/f j)/\(∀j,a.O j->l.O j\/w.heap.size<=j)/\a.Rd=l.Rd/\a.Oc=l.Oc/\a.Rc=l.Rc/\a.d=l.d/\a.q=l.q/\a.K=l.K) l g:=by
 induction h with
 |@fO O g w h=>
  intro l e i m _ _;refine .fO λb r=>⟨O,h b ⟨by rw[<-e];exact r.fh,λj c=>by rw[r.fu j (c.elim (λq=>Æ<|i j q) λq=>Í<|m j q),e]⟩,λ_ q=>q,i,λ_ q=>q,λ_ q=>Æ q,λ_ q=>Æ q,U,U,U,U,U,U⟩
 |@kD O g w G' W' E' f jE h hd _ ih=>
  intro l e i m C u;refine .mk jE λb r=> ?_;have n:BV (λj=>O j\/X j) w b:=⟨by rw[<-e];exact r.fh,λj c=>by rw[r.fu j (c.elim (λq=>Æ<|i j q) λq=>Í<|m j q),e]⟩;have D:=hd b n;have o:=n.fh;have v:∀j,(l.O j\/f b j)->j<(W' b).heap.size:=λj c=>c.elim (λq=>Õ (C j q)<|ö o D.fh)<|D.fG j;have p:∀j,j<b.heap.size->¬l.O j->(W' b).heap[j]?=b.heap[j]?:=λj c k=>D.lr j c λq=>k<|i j q;refine⟨G' b,W' b,E' b,{l with O:=λj=>l.O j\/f b j,w:=W' b},h b n,⟨D.fh,λj c=>c.elim Æ λq=>(D.fN j q).imp (i j) id,v,U,U,U,U,λj c k _=>p j c k,λa s k _=>iF<|p _ s k,λa s k=>zv<|p _ s k,D.os,D.mR,D.lU,λx E=>ah5 (l:={l with O:=λj=>l.O j\/f b j,w:=W' b}) (λj q=>Í q) m<|D.wS x E,(ah6 D.wS _).symm,U,λq=>absurd q u,U⟩,?_⟩;have:=ih b n {l with O:=λj=>l.O j\/f b j,w:=W' b} U (λj q=>Í q) m v u;apply this.ft;rintro N Q ⟨F,G,B,H,I,J,L,M⟩;refine⟨F,G,λj q=>B j<|D.N7 j q,H,λj q=>I j<|Æ q,λj q=> ?_,λj q=> ?_,M⟩
  .rcases J j q with(z|z)|z
   .exact Æ z
   .exact Í<|B j z
   .exact Í z
  .rcases L j q with(z|z)|z
   .exact Æ z
   .rcases D.fN j z with y|y
    .exact Æ<|i j y
    .exact Í<|ö o y
   .exact Í<|ö (ö o D.fh) z
def mg(a:Ü):ĉ:=⟨ć a,Â,Ë⟩
def py(a:Ü):ĉ:=⟨ć a,Ë,Ë⟩
def kK(m:Mark):ĉ:=⟨Θ m,Â,Ë⟩
def gO:Int:=4294967296
def Hv(c:Nat):Array ĉ:=#[⟨.obj c,Â,Ë⟩,⟨.obj c,Ë,Ë⟩]
section
variable(P:Ù)(main:Bool)
def KD(m:Mark)(N:Jd):Jd:=λl g=>g.status=Ñ/\∃a,(∀b,Ý P main g b=bB a b #[kK m])/\fA P main N l a
def B_(a:Ü)(N:Int->Jd):Jd:=λl g=>g.status=Ñ/\∀v,∃c,(∀b:È,b.cell? a=À (ē ë v)->Ý P main g b=bB c b #[mg a])/\fA P main (N v) l c
def TD(a:Ü)(d:Int)(N:Int->Jd):Jd:=λl g=>g.status=Ñ/\∀v,∃c,(∀b:È,b.cell? a=À (ē ë v)->b.frozen? a=Â->Ý P main g b=bB c (b.setCell a<|ē ë<|ë.wrap<|v+d) #[mg a,py a])/\N (ë.wrap<|v+d) l c
def ah8(a:Ü)(v:Int)(N:Jd):Jd:=λl g=>g.status=Ñ/\∃c,(∀(b:È) (x:Int),b.cell? a=À (ē ë x)->b.frozen? a=Â->Ý P main g b=bB c (b.setCell a<|ē ë v) #[py a])/\fA P main N l c
def ah9(a:Ü)(N:Jd):Jd:=λl g=>g.status=Ñ/\g.offers=í/\(∀b:È,b.cell? a=À (ē ū 0)->Ý P main g b=bB {g with status:=Ζ} b #[])/\
 ∃c,(∀(b:È) (n:Int),n≠0->b.cell? a=À (ē ū n)->b.frozen? a=Â->Ý P main g b=bB c (b.setCell a<|ē ū<|n-1) (semEvents a))/\fA P main N l c
def aia(a:Ü)(N:Jd):Jd:=λl g=>g.status=Ñ/\mayWake P g=Ë/\∃c,c.status=Ñ/\(∀(b:È) (n:Int),b.cell? a=À (ē ū n)->b.frozen? a=Â->Ý P main g b=bB c (b.setCell a<|ē ū<|ū.wrap<|n+1) (semEvents a))/\N l c
def AJ(c:Nat)(z:Ã)(N:Option Ã->Jd):Jd:=λl g=>g.status=Ñ/\g.offers=í/\(∀x,Ý P main g x=.comm g #[ar c z] Ë (.recv Ë) x #[])/\
 ∀x:Option Ã,fA P main (N x) l {g with frame:=g.frame.finish (η #[x.getD z,Ŏ x.isSome])}
def D1(c:Nat)(v:Ã)(N:Jd):Jd:=λl g=>g.status=Ñ/\g.offers=í/\(∀a,∃b,Ý P main g a=.comm g #[scase c v b] Ë .send a #[])/\fA P main N l {g with frame:=g.frame.finish ŏ}
def Oo(c:Nat)(N:Jd):Jd:=λl g=>g.status=Ñ/\mayWake P g=Ë/\∃a,a.status=Ñ/\(∀(b:È) cap buf s r tm,b.heap[c]?=À (aF cap buf Â s r tm)->Ý P main g b=bB a (b.setChan c cap buf Ë s r tm) (Hv c))/\fA P main N l a
def ru(n:Nat):Jd:=λl g=>QuitsD P n l.d g
inductive SP where
 |gN (n:Nat)
 |ld (v:Int) (m:Nat)
def Hw(a:Ü)(B:Nat)(d e:Int->Jd)(p:SP):Jd:=λl g=>∃T:SP->Ô->Prop,T p g/\∀p g,T p g->g.status=Ñ/\match p with
 |.gN (n+1)=>n+1<=B/\(T (.gN 0) g\/∀b,∃c,Ý P main g b=bB c b #[]/\T (.gN n) c)
 |.gN 0=>∀v,∃c,(∀b:È,b.cell? a=À (ē ë v)->Ý P main g b=bB c b #[mg a])/\(if 0<=v/\v<gO then v<1000000->fA P main (d v) l c else(gO<=v/\v<gO*2147483648/\v%gO<1000000)->∃m,m<=B/\T (.ld v m) c)
 |.ld v (m+1)=>gO<=v/\m+1<=B/\(T (.ld v 0) g\/∀b,∃c,Ý P main g b=bB c b #[]/\T (.ld v m) c)
 |.ld v 0=>gO<=v/\(∃c,(∀b:È,b.cell? a=À (ē ë v)->b.frozen? a=Â->Ý P main g b=bB c (b.setCell a<|ē ë<|ë.wrap<|v+1) #[mg a,py a])/\fA P main (e v) l c)/\
  ∃c,(∀(b:È) (x:Int),x≠v->b.cell? a=À (ē ë x)->b.frozen? a=Â->Ý P main g b=bB c b #[mg a])/\∃n,n<=B/\T (.gN n) c
end
section
variable{P:Ù}{main:Bool}
def Oq{e f:Int->Jd}{p:SP}{l:fj}{w₁:È}(h:Hw P main a i e f p l g)(r:fU l l.w w₁):Hw P main a i e f p {l with w:=w₁} g:=by
 let⟨T,o,h⟩:=h;refine⟨T,o,λp g j=>⟨(h p g j).1,?_⟩⟩;have:=(h p g j).2;match p,this with
 |.gN (n+1),q=>exact q
 |.gN 0,q=>
  intro v;let⟨c,d,b⟩:=q v;refine⟨c,d,?_⟩;by_cases k:0<=v/\v<gO
  .rw[if_pos k]at b|-;exact λq=>(b q).fZ r
  .rw[if_neg k]at b|-;exact b
 |.ld v (m+1),q=>exact q
 |.ld v 0,⟨q0,⟨c,d,b⟩,q⟩=>exact⟨q0,⟨c,d,b.fZ r⟩,q⟩
end
inductive jw where
 |no|jx|mh (c:Nat) (z:Ã)
inductive AK(g0:Ô):jw->Ô->Prop
 |gR {k:jw}:AK g0 k g0
 |qk (h:g0.status=Ñ) (ho:g0.offers=í):AK g0 .jx {g0 with status:=Ζ}
 |xL (c:Nat) (z:Ã) (h:g0.status=Ñ):AK g0 (.mh c z) (ν g0 #[ar c z]<|.recv Ë)
 |pN (c:Nat) (z:Ã) (h:g0.status=Ñ):AK g0 (.mh c z) {ν g0 #[ar c z] (.recv Ë)with status:=Ñ}
section
variable{P:Ù}
def aib(h:g.status=Ñ\/g.status=ī)(w:È):g.again w=g:=by unfold au;rcases h with h|h<;>rw[h]
def TG{a o:Ô}(h:o.status=Ñ\/o.status=ī):Ź P g a w o=o:=by
 unfold Ź;split
 .exact aib h _
 .rfl
def AK.KE{g0 a b:Ô}{k:jw}(h:AK g0 k g)(d:g0.status=Ñ\/g0.status=ī):AK g0 k (Ź P a b w g):=by
 cases h with
 |gR=>rw[TG d];exact .gR
 |qk h c=>
  unfold Ź;split
  .have:au w {g0 with status:=Ζ}=g0:=by
    let⟨z,e,st,f,i⟩:=g0;simp only at h c;subst h c;rfl
   rw[this];exact .gR
  .exact .qk h c
 |xL c z h=>
  unfold Ź;split
  .unfold au ν;simp only[];split
   .exact .pN c z h
   .exact .xL c z h
  .exact .xL c z h
 |pN c z h=>
  rw[TG<|Æ U];exact .pN c z h
end
structure iI(P:Ù)(B0:Nat)(Y:Nat->Prop)(S:Nat->Jd)(tr:Nat->gY)(kp:Nat->jw)(lot:Nat->fj)(gs:Array Ô)(w:È)(t:ħ):Prop where
 ie:jR B0 (λi=>i<gs.size) Y lot w t
 kv:∀i g,gs[i]?=À g->∃g0,na P (i==0) (S i) (tr i) (lot i) g0/\AK g0 (kp i) g/\(g0.status=Ñ\/g0.status=ī)/\(g=g0\/tr i=.fO)
 vh:∀j,gs.size<=j->af t j=0
def fI{α:Type}(f:Nat->α)(i:Nat)(x:α):Nat->α:=λk=>if k=i then x else f k
def il{α:Type}(f:Nat->α)(i:Nat)(x:α):fI f i x i=x:=if_pos U
def fW{α:Type}(f:Nat->α)(x:α)(h:k≠i):fI f i x k=f k:=if_neg h
section
variable{P:Ù}{B0:Nat}{Y:Nat->Prop}{S:Nat->Jd}{tr:Nat->gY}{kp:Nat->jw}{lot:Nat->fj}{gs:Array Ô}{w':È}{t:ħ}{sl:Option (Nat×Nat)}
def TH{a:Ô}(b:gs[i]?=À g)(h:Ý P (i==0) g w=bB a w' V): ∃gs',dz P (ņ gs w sl) i=(ń<|ņ gs' w' sl,Ï i g.frame.fn g.frame.place V)/\gs'.size=gs.size/\gs'[i]?=À a/\∀k,k≠i->gs'[k]?=gs[k]?.map (Ź P g a w'):=by have c:=(Ä.1 b).1;refine⟨_,runT_crowd_go b h,fB,by simp[c],λk d=> ?_⟩;rw[É<|ă d,Array.getElem?_map]
def iI.at(a:iI P B0 Y S tr kp lot gs w t)(d:Nat):iI P B0 Y S tr kp lot gs (w.at d) t:=⟨a.ie.at d,a.kv,a.vh⟩
def iI.B'(h:iI P B0 Y S tr kp lot gs w t){b:Ô}{J:Jd}{T:gY}{K:jw}{d:fj}(l:gs[i]?=À g)(p:Ý P (i==0) g w=bB b w' V) (q:jR B0 (λi=>i<gs.size) Y (gX lot i d) w' (t++Ï i g.frame.fn g.frame.place V)) (hF:na P (i==0) J T d b) (r:b.status=Ñ\/b.status=ī): ∃a,dz P (ņ gs w sl) i=(ń<|ņ a w' sl,Ï i g.frame.fn g.frame.place V)/\a.size=gs.size/\a[i]?=À b/\(∀k,k≠i->a[k]?=gs[k]?.map (Ź P g b w'))/\ iI P B0 Y (fI S i J) (fI tr i T) (fI kp i K) (gX lot i d) a w' (t++Ï i g.frame.fn g.frame.place V):=by
 obtain⟨a,s,m,n,o⟩:=TH l p;have C:=(Ä.1 l).1;refine⟨a,s,m,n,o,?_,λk x c=> ?_,λj D=> ?_⟩
 .rwa[show(λi=>i<a.size)=(λi=>i<gs.size) by rw[m]]
 .by_cases e:k=i
  .subst e;rw[n]at c;obtain rfl:=ą c;rw[il,il,il,iV];exact⟨b,hF,.gR,r,Æ U⟩
  .rw[o k e]at c;obtain⟨y,u,rfl⟩:=đ.1 c;rw[fW S _ e,fW tr _ e,fW kp _ e,iC lot _ e];let⟨g0,v,z,f,B⟩:=h.kv k y u;refine⟨g0,v,z.KE f,f,B.imp (λe=> ?_) id⟩;subst e;exact TG f
 .rw[TC Z t qK];exact h.vh j Z
def aic{J:Jd}{k:È->gY}{l:fj}(h:na P yQ J (.kD k) l g):g.status=Ñ:=h.1
def iI.fD(f:iI P B0 Y S tr kp lot gs w t){k:È->gY}(m:gs[i]?=À g)(n:tr i=.kD k)(s:∀l g,S i l g->g.status=Ñ\/g.status=ī): ∃c w' d h,dz P (ņ gs w sl) i=(ń<|ņ c w' sl,Ï i g.frame.fn g.frame.place d)/\c.size=gs.size/\(∃b,c[i]?=À b/\(b.status=Ñ\/b.status=ī))/\(∀k,k≠i->∃a j:Ô,c[k]?=gs[k]?.map (Ź P a j w'))/\oO (lot i) h w w' d/\ iI P B0 Y S (fI tr i<|k w) kp (gX lot i h) c w' (t++Ï i g.frame.fn g.frame.place d):=by
 have o:=(Ä.1 m).1;let⟨g0,hF,F,_,u⟩:=f.kv i g m;obtain rfl:g=g0:=u.resolve_right (by rw[n];simp);rw[n]at hF;let⟨G,hF⟩:=hF;let⟨b,w',d,h,v,p,e⟩:=hF w<|f.ie.gy i o;have q:b.status=Ñ\/b.status=ī:=by
  cases j:k w with
  |fO=>rw[j]at e;exact s _ _<|e _<|fU.fY _ _
  |kD r=>rw[j]at e;exact Æ e.1
 obtain⟨c,x,y,z,B,r⟩:=f.B' m v (f.ie.ah3 o p _ _) e q;refine⟨c,w',d,h,x,y,⟨b,z,q⟩,λj C=>⟨g,b,B j C⟩,p,?_⟩;have D:fI S i (S i)=S:=by funext j;unfold fI;split<;>simp[*]
 have E:fI kp i (kp i)=kp:=by funext j;unfold fI;split<;>simp[*]
 rwa[D,E]at r
def iI.nF(c:iI P B0 Y S tr kp lot gs w t){a:Ô}{J:Jd}{K:jw}{T:gY}(m:gs[i]?=À g)(n:Ý P (i==0) g w=bB a w' V)(o:s8 (λi=>i<gs.size) Y lot w w') (hF:na P (i==0) J T {lot i with d:=Ε (lot i).d V,w:=w'} a) (p:a.status=Ñ\/a.status=ī) (j:∀e∈V,(∀b,(ì e).touch?=À b->KC (λi=>i<gs.size) Y lot b)/\(ì e).low w.heap.size) (q:∀r,¬eZ r (t++Ï i g.frame.fn g.frame.place V)): ∃gs',dz P (ņ gs w sl) i=(ń<|ņ gs' w' sl,Ï i g.frame.fn g.frame.place V)/\gs'.size=gs.size/\gs'[i]?=À a/\(∀k,k≠i->gs'[k]?=gs[k]?.map (Ź P g a w'))/\ iI P B0 Y (fI S i J) (fI tr i T) (fI kp i K) (gX lot i {lot i with d:=Ε (lot i).d V,w:=w'}) gs' w' (t++Ï i g.frame.fn g.frame.place V):=by
 refine c.B' m n (c.ie.nF (λk=> ?_) o (λh f b s=> ?_) (λh f=> ?_) q λk l=> ?_) hF p
 .by_cases e:k=i
  .subst e;rw[iV];exact⟨U,U,U,U,U,Í U⟩
  .rw[iC lot _ e];exact zw.fY _ _
 .obtain⟨e,h,rfl⟩:=ï f;exact(j e h).1 b s
 .obtain⟨e,h,rfl⟩:=ï f;exact(j e h).2
 .by_cases e:k=i
  .subst e;rw[iV,Deaf_own,c.ie.mT k l]
  .rw[iC lot _ e,TC e t qK];exact c.ie.mT k l
def iI.TJ(h:iI P B0 Y S tr kp lot gs w t)(p:gs[i]?=À g)(x:i≠0)(l:g.status=Ñ)(q:kp i=.no)(y:tr i=.fO)(z:S i=ru P n): ∃c f b,n=b+1/\dz P (ņ gs w sl) i=(ń<|ņ c w sl,Ï i g.frame.fn g.frame.place f)/\c.size=gs.size/\(∀k,k≠i->∃a e:Ô,c[k]?=gs[k]?.map (Ź P a e w))/\(∀e∈f,e.mute=Ë)/\ iI P B0 Y (fI S i<|ru P b) tr kp (gX lot i {lot i with d:=Ε (lot i).d f,w:=w}) c w (t++Ï i g.frame.fn g.frame.place f):=by
 have B:=(Ä.1 p).1;let⟨g0,hF,r,M,_⟩:=h.kv i g p;have C:g=g0:=by
  rw[q]at r;cases r with
  |gR=>rfl
 subst C;rw[y,z]at hF;have s:=hF w<|h.ie.gy i B;cases n with
 |zero=>rw[s.1]at l;cases l
 |succ n=>
  rcases s with⟨D,_⟩|⟨_,E,f,a,F,u⟩
  .rw[D]at l;cases l
  have m:(i==0)=Â:=by simpa using x
  have G:fI kp i .no=kp:=by funext j;unfold fI;split<;>simp[*]
  have H:fI tr i .fO=tr:=by funext j;unfold fI;split<;>simp[*]
  obtain⟨c,I,K,_,L,v⟩:=h.nF (J:=ru P n) (T:=.fO) p (by rw[m];exact F w) (s8.fY _ _ _ _) (λ_ _=>u) u.status (λe o=>⟨λb m=>(by rw[eM<|a e o]at m;cases m),low_mute (a e o) _⟩) (DZ h.ie.rp λN b=>by obtain⟨e,o,rfl⟩:=ï b;exact eM<|a e o);rw[G,H]at v;exact⟨c,f,n,U,I,K,λk q=>⟨g,E,L k q⟩,a,v⟩
end
def AL(u:ħ):Prop:=∀a∈u,a.act.touch?=í/\∀m,a.act≠Ŭ m
def aie(t:ħ)(a:dA)(c:a.act≠Ŭ dh)(d:a.act≠Ŭ dR)(j:Nat):af (t.push a) j=af t j:=by
 have e:t.push a=t++#[a]:=fB
 have f:(t++#[a]).deaf j t.size=t.deaf j t.size:=dm<|á _;unfold af;rw[e,show(t++#[a]).size=t.size+1 by simp];show(match(t++#[a])[t.size]? with
  |some {g:=h,act:=Ŭ dh, .. }=>if h=j then(t++#[a]).deaf j t.size+1 else(t++#[a]).deaf j t.size
  |some {g:=h,act:=Ŭ dR, .. }=>if h=j then(t++#[a]).deaf j t.size-1 else(t++#[a]).deaf j t.size
  |_=>(t++#[a]).deaf j t.size)=_
 have i:(t++#[a])[t.size]?=À a:=fB
 rw[i];let⟨g,k,l,m⟩:=a;simp only at c d;split
 .rename_i b;cases b;exact absurd U c
 .rename_i b;cases b;exact absurd U d
 .exact f
def C_(t:ħ):∀(u:List dA),(∀a∈u,a.act≠Ŭ dh/\a.act≠Ŭ dR)->∀j,af (t++u.toArray) j=af t j
 |[],_,j=>by simp
 |a::u,h,j=>by
  have e:t++(a::u).toArray=(t.push a)++u.toArray:=by apply Array.ext';simp
  rw[e,C_ (t.push a) u (λx b=>h x<|by simp[b]) j];exact aie t a (h a fB).1 (h a fB).2 j
def Ot{u:ħ}(h:AL u)(j:Nat):af (qJ++u) j=af qJ j:=by have:=C_ qJ u.toList (λa b=>⟨(h a<|by simpa using b).2 _,(h a<|by simpa using b).2 _⟩) j;simpa using this
section
variable{S:Nat->Jd}{C:Nat->gY}{B:Nat->jw}{lot:Nat->fj}{u:ħ}{sl:Option (Nat×Nat)}
def jR.aif{Live:Nat->Prop}(h:jR i Live X lot w qJ)(f:s8 Live X lot w W)(c:AL u)(g:∀a∈u,a.act.low w.heap.size):jR i Live X lot W (qJ++u):= h.nF (λk=>zw.fY _ _) f (λa d b e=>by rw[(c a d).1]at e;cases e) g (DZ h.rp λa d=>(c a d).1) λk b=>by rw[Ot c];exact h.mT k b
def Ou{Live:Nat->Prop}{r:Nat}{x:Bool}(y:X i)(p:w.heap[i]?=À (aF n d yQ j r x))(f g h:Nat)(l:Array Ã)(m o:Bool):s8 Live X lot w (w.setChan i f l m g h o):=by
 have z:=(Ä.1 p).1;have q:∀b,b≠i->(w.setChan i f l m g h o).heap[b]?=w.heap[b]?:=λb u=>by unfold aS;simp only;exact É<|ă u
 have v:(w.setChan i f l m g h o).heap[i]?=À (aF f l m g h o):=by unfold aS;simp[z]
 refine⟨by unfold aS;simp,λb u=>q b λe=>u<|e▸y,λk _ a _=> ?_,λk _ a _=> ?_,λa t=> ?_⟩
 .by_cases e:a.block=i
  .unfold Ĭ;rw[e,v,p]
  .unfold Ĭ;rw[q _ e]
 .by_cases e:a.block=i
  .unfold Ċ;rw[e,v,p]
  .unfold Ċ;rw[q _ e]
 .by_cases e:a.block=i
  .unfold Ĭ at t;rw[e,p]at t;cases t
  .have:(w.setChan i f l m g h o).cell? a=w.cell? a:=by unfold Ĭ;rw[q _ e]
   rwa[this]
def iI.D2(b:iI P i X S C B lot E w qJ){J:Jd}{T:gY}{K:jw}(d:n<E.size)(f:s8 (λn=>n<E.size) X lot w W)(c:AL u)(h:∀l∈u,l.act.low w.heap.size) (hF:na P (n==0) J T (lot n) g) (m:g.status=Ñ\/g.status=ī): iI P i X (fI S n J) (fI C n T) (fI B n K) lot (E.setIfInBounds n g) W (qJ++u):=by
 refine⟨?_,λk x a=> ?_,λj o=> ?_⟩
 .rw[show(λj=>j<(E.setIfInBounds n g).size)=(λj=>j<E.size) by simp];exact b.ie.aif f c h
 .by_cases e:k=n
  .subst e;rw[Ó d]at a;obtain rfl:=ą a;rw[il,il,il];exact⟨_,hF,.gR,m,Æ U⟩
  .rw[É<|ă e]at a;rw[fW S _ e,fW C _ e,fW B _ e];exact b.kv k x a
 .rw[Ot c];exact b.vh j<|by simpa using o
def TK{γ δ:Type}{f:γ->List δ}:∀{l:List γ},(∀x∈l,f x=[])->l.flatMap f=[]
 |[],_=>rfl
 |x::l,h=>by rw[bD,h x fB,TK λy a=>h y (by simp[a])];rfl
def B2(r:Nat)(b:Bool)(g:Ô):Prop:=g.status=Ζ/\∃a d,g.offers=À (a,d)/\∃c∈a,(c.send.isSome==b)=Ë/\(match c.chan with|eO (À r')=>r'==r|_=>Â)=Ë
def C'{r:Nat}{E:Array Ô}(h:∀(i:Nat) (g:Ô),E[i]?=À g->¬B2 r yQ g):ο E r yQ=[]:=by
 unfold ο;refine TK λx f=> ?_;let⟨g,i⟩:=x;have j:E[i]?=À g:=by have b:=ŭ.1 f;rwa[Į]at b
 simp only[];split
 .rename_i d l m n;rw[aO,ag];intro y o a;let⟨c,k⟩:=y;have p:c∈d:=by
   have e:=ŭ.1 o;rw[Į]at e;exact Ø e
  simp only[ĕ]at a;exact h i g j ⟨m,d,l,n,c,p,a.1,by have:=a.2;revert this;cases c.chan<;>first|exact id|(rename_i q;cases q<;>exact id)⟩
 .rfl
def D_{γ δ:Type}(f:γ×Nat->List δ):∀(L:List γ) (n h:Nat) (x:γ),(∀y k,k≠h->(y,k)∈L.zipIdx n->f (y,k)=[])->n<=h->L[h-n]?=À x->(L.zipIdx n).flatMap f=f (x,h)
 |[],n,h,x,_,_,hx=>by simp at hx
 |a::L,n,h,x,hf,hn,hx=>by
  rw[Ĺ,bD];by_cases e:h=n
  .subst e;have:a=x:=by simpa using hx
   subst this;rw[TK ?_,List.append_nil];intro y b;let⟨y,k⟩:=y;refine hf y k ?_ (by rw[Ĺ];exact õ _ b);have:=List.le_snd_of_mem_zipIdx b;simp only at this;omega
  .rw[hf a n Z (by rw[Ĺ];exact ð ..),List.nil_append];refine D_ f L (n+1) h x (λy k c b=>hf y k c<|by rw[Ĺ];exact õ _ b) Z ?_;have b:h-n=(h-(n+1))+1:=Z
   rw[b]at hx;simpa using hx
def aii{E:Array Ô}(o:E[n]?=À g)(p:g.status=Ζ)(r:g.offers=À (#[ar i z],.recv Ë))(s:∀(a:Nat) (b:Ô),a≠n->E[a]?=À b->¬B2 i Â b):ο E i Â=[(n,0)]:=by
 unfold ο;have e:E.zipIdx.toList=E.toList.zipIdx:=fB
 rw[e];rw[D_ _ E.toList 0 n g (λy k t j=> ?_) (dT _) (by simpa using o)]
 .simp[p,r,ar]
 .have u:E[k]?=À y:=by
   rw[List.mem_zipIdx_iff_getElem?]at j;simpa using j
  simp only[];split
  .rename_i l v w B;rw[aO,ag];intro x C d;let⟨f,F⟩:=x;have D:f∈l:=by
    have m:=ŭ.1 C;rw[Į]at m;exact Ø m
   simp only[ĕ]at d;exact s k y t u ⟨w,l,v,B,f,D,d.1,by have:=d.2;revert this;cases f.chan<;>first|exact id|(rename_i q;cases q<;>exact id)⟩
  .rfl
def TL(h:(E.setIfInBounds i ph)[k]?=À g):g.status=ī\/(k≠i/\E[k]?=À g):=by
 by_cases e:k=i
 .subst e;rw[Đ]at h;simp only[if_true]at h;split at h
  .left;obtain rfl:=ą h;rfl
  .cases h
 .rw[É<|ă e]at h;exact Í ⟨e,h⟩
def iI.TM(l:iI P i X S C B lot E w qJ)(c a:Nat):ο (E.setIfInBounds a ph) c Ë=[]:=by
 refine C' λk x m=> ?_;rintro⟨b,p,r,d,n,f,o,_⟩;rcases TL m with q|⟨_,q⟩
 .rw[q]at b;cases b
 .let⟨g0,_,g,j,_⟩:=l.kv k x q;generalize B k=K at g;cases g with
  |gR=>rw[b]at j;rcases j with e|e<;>cases e
  |qk h e=>simp only[e]at d;cases d
  |xL e z h=>
   simp only[ν,ζ,Prod.mk.injEq]at d;rw[<-d.1]at f;have:n=ar e z:=by simpa using f
   subst this;cases o
  |pN e z h=>cases b
def iI.TN(f:iI P i X S C B lot E w qJ){N:Option Ã->Jd}(b:E[n]?=À g)(k:g.status=Ñ)(l:B n=.mh j z)(m:C n=.fO)(o:S n=AJ P (n==0) j z N): ∃a,na P (n==0) (S n) (C n) (lot n) a/\a.status=Ñ/\a.offers=í/\Ý P (n==0) g w=.comm a #[ar j z] Ë (.recv Ë) w #[]/\∀x:Option Ã,fA P (n==0) (N x) (lot n) {a with frame:=a.frame.finish (η #[x.getD z,Ŏ x.isSome])}:=by
 have t:=(Ä.1 b).1;let⟨a,hF,d,_,_⟩:=f.kv n g b;have p:=hF;rw[o,m]at hF;have q:=hF _<|fU.fY _ _;let⟨x,r,e,s⟩:=q;rw[l]at d;refine⟨a,p,x,r,?_,s⟩;cases d with
 |gR=>exact e w
 |xL j z h=>cases k
 |pN j z h=>rw[stepG_tries];rw[show({a with status:=Ñ}:Ô)=a by cases a;simp only at x;subst x;rfl];exact e w
def B3{g0:Ô}{a:Array CommCase}{b:CommShape}{ok:Bool}(c:g0.status=Ñ)(d:g0.offers=í):g0.finishComm P a b h v ok={g0 with frame:=g0.frame.finish (commResult a b h v ok)}:=by let⟨f,a,st,e,o⟩:=g0;simp only at c d;subst c d;rfl
def iI.pO(e:iI P i X S C B lot E w qJ){N:Option Ã->Jd}(h:E[n]?=À g)(G:g.status=Ñ)(l:B n=.mh j z)(H:C n=.fO)(I:S n=AJ P (n==0) j z N)(p:X j){r:Nat}{o:Bool}(q:w.heap[j]?=À (aF b d yQ m r o))(t:d[0]?=À v)(K:jw): ∃a u T f,dz P (ņ E w sl) n=(ń<|ņ a (w.setChan j b (d.extract 1 d.size) yQ m (r+1) o) sl,u)/\a.size=E.size/\a[n]?=À f/\f.status=Ñ/\(∀k,k≠n->a[k]?=E[k]?)/\AL u/\ iI P i X (fI S n<|N<|À v) (fI C n T) (fI B n K) lot a (w.setChan j b (d.extract 1 d.size) yQ m (r+1) o) (qJ++u):=by
 have x:=(Ä.1 h).1;have J:=e.ie.kE j p;let⟨g0,_,f,y,L,M⟩:=e.TN h G l H I;have O:=(Ä.1 t).1;have D:d.getD 0 ŏ=v:=by simp[Ĵ,t]
 have Q:=crowd_recv_buf (sl:=sl) h L q O<|e.TM j n;let⟨T,V⟩:=ku<|M<|À v;refine⟨_,_,T,{g0 with frame:=g0.frame.finish (η #[v,Ŏ Ë])},Q,fB,?_,f,λk l=>É<|ă l,?_,?_⟩
 .rw[B3 f y,D,Ó x];rfl
 .intro F a;simp[Ï]at a;rcases a with rfl|rfl<;>exact⟨U,fB⟩
 .rw[B3 f y,D];refine e.D2 x (Ou p q _ _ _ _ _ _) ?_ ?_ V<|Æ f
  .intro F a;simp[Ï]at a;rcases a with rfl|rfl<;>exact⟨U,fB⟩
  .intro F a;simp[Ï]at a;rcases a with rfl|rfl<;>exact J
def iI.kh(e:iI P i X S C B lot E w qJ){N:Option Ã->Jd}(h:E[n]?=À g)(q:g.status=Ñ)(l:B n=.mh j z)(t:C n=.fO)(v:S n=AJ P (n==0) j z N)(x:X j){r:Nat}(y:w.heap[j]?=À (aF b #[] Ë k r yQ))(K:jw): ∃d u T f,dz P (ņ E w sl) n=(ń<|ņ d w sl,u)/\d.size=E.size/\d[n]?=À f/\f.status=Ñ/\(∀a,a≠n->d[a]?=E[a]?)/\AL u/\ iI P i X (fI S n<|N í) (fI C n T) (fI B n K) lot d w (qJ++u):=by
 have m:=(Ä.1 h).1;have D:=e.ie.kE j x;let⟨g0,_,f,o,F,G⟩:=e.TN h q l t v;have H:=crowd_recv_closed (sl:=sl) h F y<|e.TM j n;let⟨T,I⟩:=ku<|G í;refine⟨_,_,T,{g0 with frame:=g0.frame.finish (η #[z,Ŏ Â])},H,fB,?_,f,λa l=>É<|ă l,?_,?_⟩
 .rw[B3 f o,Ó m];rfl
 .intro p d;simp[Ï]at d;subst d;exact⟨U,fB⟩
 .rw[B3 f o];refine e.D2 m (s8.fY _ _ _ _) ?_ ?_ I<|Æ f
  .intro p d;simp[Ï]at d;subst d;exact⟨U,fB⟩
  .intro p d;simp[Ï]at d;subst d;exact D
def iI.aij(f:iI P i X S C B lot E w qJ){N:Option Ã->Jd}(m:E[n]?=À g)(u:g.status=Ñ)(h:B n=.mh j z)(o:C n=.fO)(v:S n=AJ P (n==0) j z N){r:Nat}(p:w.heap[j]?=À (aF b #[] Â k r yQ)): ∃d e,dz P (ņ E w sl) n=(ń<|ņ d w sl,#[])/\d.size=E.size/\d[n]?=À e/\e.status=Ζ/\(∀a,a≠n->d[a]?=E[a]?)/\iI P i X S C B lot d w qJ:=by
 have q:=(Ä.1 m).1;let⟨g0,hF,t,H,y,I⟩:=f.TN m u h o v;have D:=f.TM j n;have F:=crowd_waits (sl:=sl) m y (λd e=>by
  have:d=ar j z:=by simpa using e
  subst this;exact⟨by simp[illMade,ar,p],by simp[ways,ar,p,D]⟩)
 refine⟨_,ν g0 #[ar j z]<|.recv Ë,?_,fB,Ó q,U,λa h=>É<|ă h,?_,λa x l=> ?_,λd G=>f.vh d<|by simpa using G⟩
 .rw[F];rfl
 .rw[show(λd=>d<(E.setIfInBounds n<|ν g0 #[ar j z]<|.recv Ë).size)=(λd=>d<E.size) by simp];exact f.ie
 .by_cases e:a=n
  .subst e;rw[Ó q]at l;obtain rfl:=ą l;refine⟨g0,hF,?_,Æ t,Í o⟩;rw[h];exact .xL j z t
  .rw[É<|ă e]at l;exact f.kv a x l
def iI.jH(f:iI P i X S C B lot E w qJ){N:Jd}(h:E[n]?=À g)(l:B n=.no)(F:C n=.fO)(G:S n=D1 P (n==0) b v N)(p:X b){r:Nat}(t:w.heap[b]?=À (aF m d Â J r yQ))(H:d.size<m) (I:∀(k:Nat) (x:Ô),E[k]?=À x->¬B2 b Â x): ∃e u T a,dz P (ņ E w sl) n=(ń<|ņ e (w.setChan b m (d.push v) Â (J+1) r yQ) sl,u)/\e.size=E.size/\e[n]?=À a/\a.status=Ñ/\(∀k,k≠n->e[k]?=E[k]?)/\AL u/\ iI P i X (fI S n N) (fI C n T) B lot e (w.setChan b m (d.push v) Â (J+1) r yQ) (qJ++u):=by
 have y:=(Ä.1 h).1;have K:=f.ie.kE b p;let⟨g0,hF,z,_,_⟩:=f.kv n g h;rw[l]at z;cases z with
 |gR=>
  rw[G,F]at hF;let⟨a,D,o,L⟩:=hF _<|fU.fY _ _;let⟨Y,o⟩:=o w;have M:ο (E.setIfInBounds n ph) b Â=[]:=C' λk x O=>by
   rcases TL O with q|⟨_,q⟩
   .rintro⟨e,_⟩;rw[q]at e;cases e
   .exact I k x q
  have Q:=crowd_send_room (sl:=sl) h o t H M;let⟨T,V⟩:=ku L;have W:fI B n .no=B:=by funext j;unfold fI;split<;>simp[*]
  refine⟨_,_,T,{g with frame:=g.frame.finish ŏ},Q,fB,?_,a,λk l=>É<|ă l,?_,?_⟩
  .rw[B3 a D,Ó y];rfl
  .intro q e;simp[Ï]at e;rcases e with rfl|rfl<;>exact⟨U,fB⟩
  .rw[B3 a D,<-W];refine f.D2 y (Ou p t _ _ _ _ _ _) ?_ ?_ V<|Æ a
   .intro q e;simp[Ï]at e;rcases e with rfl|rfl<;>exact⟨U,fB⟩
   .intro q e;simp[Ï]at e;rcases e with rfl|rfl<;>exact K
def iI.aik(o:iI P i X S C B lot E w qJ){p:Ô}{N:Jd}{D:Option Ã->Jd}(F:E[n]?=À g)(f:B n=.no)(ht:C n=.fO)(hs:S n=D1 P (n==0) b v N)(L:X b){r:Nat}(M:w.heap[b]?=À (aF J d Â j9 r yQ)) (G:j≠n) (t:E[j]?=À p) (O:p.status=Ζ) (Ov:B j=.mh b z) (TO:C j=.fO) (Ow:S j=AJ P (j==0) b z D) (K:jw) (hp:∀(k:Nat) (x:Ô),k≠j->E[k]?=À x->¬B2 b Â x): ∃e u T y h q,dz P (ņ E w sl) n=(ń<|ņ e (w.setChan b J d Â (j9+1) (r+1) yQ) sl,u)/\e.size=E.size/\e[n]?=À h/\h.status=Ñ/\e[j]?=À q/\q.status=Ñ/\(∀k,k≠n->k≠j->e[k]?=E[k]?)/\AL u/\ iI P i X (fI (fI S j<|D<|À v) n N) (fI (fI C j y) n T) (fI (fI B j K) n .no) lot e (w.setChan b J d Â (j9+1) (r+1) yQ) (qJ++u):=by
 have Q:=(Ä.1 F).1;have V:=(Ä.1 t).1;have D3:=o.ie.kE b L;let⟨g0,hF,W,_,_⟩:=o.kv n g F;let⟨a,Y,D',ave,_⟩:=o.kv j p t;rw[f]at W;rw[Ov]at D';cases W with
 |gR=>
  rw[hs,ht]at hF;let⟨H,h2,I,h4⟩:=hF _<|fU.fY _ _;let⟨z',I⟩:=I w;rw[Ow,TO]at Y;let⟨l,k2,k3,k4⟩:=Y _<|fU.fY _ _;have Hx:p=ν a #[ar b z] (.recv Ë):=by
   cases D' with
   |gR=>rw[O]at l;cases l
   |xL _ _ h=>rfl
   |pN _ _ h=>cases O
  subst Hx;have hpn:ο (E.setIfInBounds n ph) b Â=[(j,0)]:=aii (by rwa[É<|ă G]) U U λk x f hx=>by
   rcases TL hx with q|⟨_,q⟩
   .rintro⟨e,_⟩;rw[q]at e;cases e
   .exact hp k x f q
  have TP:=crowd_send_meets (sl:=sl) F I M G t hpn;let⟨T,hT⟩:=ku h4;let⟨y,hTj⟩:=ku<|k4<|À v;rw[B3 H h2,B3 l k2]at TP;have q:∀{h:dA},h∈Ï n g.frame.fn g.frame.place #[]++#[{g:=n,fn:=g.frame.fn,pos:=g.frame.place,act:=.send b j9},{g:=j,fn:=a.frame.fn,pos:=a.frame.place,act:=.recv b r J},{g:=n,fn:=g.frame.fn,pos:=g.frame.place,act:=.sendDone b j9},{g:=j,fn:=a.frame.fn,pos:=a.frame.place,act:=.recvDone b r}]->(h.act.touch?=í/\∀m,h.act≠Ŭ m)/\h.act.low w.heap.size:=by intro h e;simp[Ï]at e;rcases e with rfl|rfl|rfl|rfl<;>exact⟨⟨U,fB⟩,D3⟩
  refine⟨_,_,T,y,{g with frame:=g.frame.finish ŏ},{a with frame:=a.frame.finish (η #[v,Ŏ Ë])},TP,fB,?_,H,?_,l,λk f xM=> ?_,λh e=>(q e).1,?_⟩
  .rw[Ó (by simpa using Q)];rfl
  .rw[É<|ă G,Ó V];rfl
  .rw[É<|ă f,É<|ă xM]
  .have m:iI P i X (fI S j<|D<|À v) (fI C j y) (fI B j K) lot (E.setIfInBounds j {a with frame:=a.frame.finish (η #[v,Ŏ Ë])}) w (qJ++#[]):=o.D2 V (s8.fY _ _ _ _) (λh e=>by simp at e) (λh e=>by simp at e) hTj<|Æ l;rw[Ě]at m;refine m.D2 (by simpa using Q) ?_ (λh e=>(q e).1) (λh e=>(q e).2) hT<|Æ H;exact Ou L M _ _ _ _ _ _
def iI.mU(o:iI P i X S C B lot E w qJ){N:Jd}(I:E[n]?=À g)(K:B n=.no)(ht:C n=.fO)(hs:S n=Oo P (n==0) J N)(L:X J)(hB:i<=J){r:Nat}(O:w.heap[J]?=À (aF j9 q Â j7 r yQ)): ∃t u T G,dz P (ņ E w sl) n=(ń<|ņ t (w.setChan J j9 q Ë j7 r yQ) sl,u)/\t.size=E.size/\t[n]?=À G/\G.status=Ñ/\(∀k x,k≠n->E[k]?=À x->t[k]?=À (x.again<|w.setChan J j9 q Ë j7 r yQ))/\(∀l∈u,l.g=n)/\(∀l∈u,∀b,l.act.touch?=À b->b.loc=.obj J/\b.kind=Ũ)/\(∀l∈u,∀m,l.act≠Ŭ m)/\ iI P i X (fI S n N) (fI C n T) B (gX lot n {lot n with w:=w.setChan J j9 q Ë j7 r yQ}) t (w.setChan J j9 q Ë j7 r yQ) (qJ++u):=by
 have H:=(Ä.1 I).1;have Q:=o.ie.kE J L;let⟨g0,hF,V,_,_⟩:=o.kv n g I;rw[K]at V;cases V with
 |gR=>
  rw[hs,ht]at hF;let⟨h1,h2,G,M,h4,h5⟩:=hF w<|o.ie.gy n H;have oa:=h4 w j9 q j7 r yQ O;have v:=Ou (lot:=lot) (Live:=λn=>n<E.size) L O j9 j7 r q Ë yQ;have y:fU (lot n) w (w.setChan J j9 q Ë j7 r yQ):=⟨dS v.fh.symm,λj hj=>v.lr j<|o.ie.fX n H j hj,λa z=>v.fg n H a z,λa z=>v.fC n H a z,λa _=>v.ia a⟩;let⟨T,hT⟩:=ku<|h5.fZ ⟨y.fh,y.fu,y.fg,y.fC,y.ia⟩;have W:Ε (lot n).d (Hv J)=(lot n).d:=bP (λe f=>by simp[Hv]at f;rcases f with rfl|rfl<;>exact⟨fB,fB⟩) _;have D:∀e∈Hv J,(∀b,(ì e).touch?=À b->b.loc=.obj J/\b.kind=Ũ)/\(ì e).low w.heap.size:=by
   intro e f;simp[Hv]at f;rcases f with rfl|rfl
   .exact⟨λb h=>by simp[ì,Č]at h;subst h;exact⟨U,U⟩,Q⟩
   .exact⟨λb h=>by simp[ì,Č]at h,Q⟩
  have e2:fI B n .no=B:=by funext j;unfold fI;split<;>simp[*]
  obtain⟨t,q1,q2,q3,q4,Y⟩:=o.nF I oa v (by rwa[W]) (Æ M) (λe f=>⟨λb h=>Í ⟨J,((D e f).1 b h).1,L,((D e f).1 b h).2⟩,(D e f).2⟩) (TA o.ie.rp qK λl F b h=>by obtain⟨e,f,rfl⟩:=ï F;let⟨z1,z2⟩:=(D e f).1 b h;refine Í (Í ⟨z2,λp a z hl vi=> ?_⟩);have:=o.ie.AG p a J z (by rw[hl,z1]) vi;omega);rw[W,e2]at Y;refine⟨t,_,T,G,q1,q2,q3,M,λk x K p=> ?_,qK,λl F b h=> ?_,λl F=> ?_,Y⟩
  .rw[q4 k K,p];simp only[Ů,ζ];unfold Ź;rw[if_pos (by simp[h2,M])]
  .obtain⟨e,f,rfl⟩:=ï F;exact(D e f).1 b h
  .obtain⟨e,f,rfl⟩:=ï F;simp[Hv]at f;intro m;rcases f with rfl|rfl<;>simp[ì]
end
def gp(b:Nat):Ü:=⟨b,0,í⟩
def iP(b:Nat):Ü:=⟨b,1,í⟩
inductive GS where
 |cl (c reg:Nat)
 |kS (reg:Nat)
 |iQ (r s:Nat)
def GS.st:GS->Int
 |.cl c a=>c*gO+a
 |.kS a=>a
 |.iQ _ _=>0
def GS.sm:GS->Int
 |.iQ _ s=>s
 |_=>0
def GS.ok:GS->Prop
 |.cl c a=>c<1000000/\a<1000000/\(c=0->a=0)
 |.kS a=>0<a/\a<1000000
 |.iQ r s=>r+s<1000000
structure jc(w:È)(b:Nat)(G:GS):Prop where
 st:w.cell? (gp b)=À (ē ë G.st)
 sm:w.cell? (iP b)=À (ē ū G.sm)
 vj:w.frozen? (gp b)=Â
 zx:w.frozen? (iP b)=Â
 ok:G.ok
def xN(h:w.cell? a=À x):(w.setCell a v).cell? a=À v:=by
 unfold Ĭ at h|-;unfold ā;cases b:w.heap[a.block]? with
 |none=>rw[b]at h;cases h
 |some o=>
  rw[b]at h;cases o with
  |cells c e f=>
   simp only at h;by_cases d:a.spot.isSome
   .simp[d]at h
   .simp only[d]at h;have g:=(Ä.1<|by simpa using h).1;simp[à,b,d,g]
  |_=>cases h
def B4(h:a.block≠p.block\/a.off≠p.off):(w.setCell a v).cell? p=w.cell? p:=by
 unfold Ĭ ā;simp only[à];by_cases e:a.block=p.block
 .simp only[e,if_true];have d:=h.resolve_left λq=>q e;cases g:w.heap[p.block]? with
  |none=>rfl
  |some o=>
   cases o with
   |cells c t f=>
    simp only[Ů];by_cases q:a.spot.isSome
    .simp[q]
    .simp[q,É d]
   |_=>rfl
 .simp[e]
def TQ:mS (w.setCell a v) b=mS w b:=by
 unfold mS ā;simp only[à];by_cases e:a.block=b
 .rw[if_pos e];cases w.heap[b]? with
  |none=>rfl
  |some o=>cases o<;>rfl
 .rw[if_neg e]
def wT:(w.setCell a v).frozen? p=w.frozen? p:=by
 unfold Ċ ā;simp only[à];by_cases e:a.block=p.block
 .simp only[e,if_true];cases c:w.heap[p.block]? with
  |none=>rfl
  |some o=>cases o<;>rfl
 .simp[e]
def nG(h:j≠a.block):(w.setCell a v).heap[j]?=w.heap[j]?:=by unfold ā;simp only[à];rw[if_neg<|ă h]
def ln:(w.setCell a v).heap.size=w.heap.size:=by unfold ā;simp
def B5(h:(w.cell? p).isSome=Ë):((w.setCell a v).cell? p).isSome=Ë:=by
 unfold Ĭ ā at*;simp only[à];by_cases e:a.block=p.block
 .simp only[e,if_true];cases d:w.heap[p.block]? with
  |none=>rw[d]at h;cases h
  |some o=>
   rw[d]at h;cases o with
   |cells c t f=>
    simp only[Ů];by_cases g:p.spot.isSome
    .simp[g]at h
    .simp only[g]at h|-;by_cases i:a.spot.isSome
     .simp_all
     .simp_all
   |_=>cases h
 .simp only[e,if_false];exact h
def ail{Live Y:Nat->Prop}{d:Nat->fj}(i:Y a.block)(f:a.spot=í)(l:∀k,Live k->¬(d k).C a)(m:∀k,Live k->∀b,(d k).C b->b.spot=í):s8 Live Y d w (w.setCell a v):=by
 refine⟨ln,λj n=>nG λe=>n<|e▸i,λk g b c=>B4 ?_,λ_ _ _ _=>wT,λb c=>B5 c⟩;by_cases e:a.block=b.block
 .right;intro h;have:=m k g b c;let⟨o,p,q⟩:=b;let⟨r,s,t⟩:=a;simp only at e h this f;subst e h this f;exact l k g c
 .exact Æ e
section
variable{b:Nat}{G:GS}
def jc.fi{w':È}(h:jc w b G)(a:w'.cell? (gp b)=w.cell? (gp b))(c:w'.cell? (iP b)=w.cell? (iP b))(d:w'.frozen? (gp b)=w.frozen? (gp b))(e:w'.frozen? (iP b)=w.frozen? (iP b)):jc w' b G:= ⟨a.trans h.st,c.trans h.sm,d.trans h.vj,e.trans h.zx,h.ok⟩
def jc.fX(h:jc w b G)(c:a.block≠b):jc (w.setCell a v) b G:= h.fi (B4<|Æ c) (B4<|Æ c) wT wT
def jc.Ox{G':GS}(h:jc w b G)(a:G'.sm=G.sm)(d:G'.ok)(e:c=G'.st):jc (w.setCell (gp b)<|ē ë c) b G':= ⟨by rw[xN h.st,e],by rw[B4 (Í<|by simp[gp,iP]),h.sm,a],by rw[wT,h.vj],by rw[wT,h.zx],d⟩
def jc.E_{G':GS}(h:jc w b G)(a:G'.st=G.st)(d:G'.ok)(e:c=G'.sm):jc (w.setCell (iP b)<|ē ū c) b G':= ⟨by rw[B4 (Í<|by simp[gp,iP]),h.st,a],by rw[xN h.sm,e],by rw[wT,h.vj],by rw[wT,h.zx],d⟩
end
def Oy(a:0<=h)(b:h<18446744073709551616):ë.wrap h=h:=by have:ë.wrap h=h%18446744073709551616:=rfl;rw[this];omega
def ain(a:4294967296<=h)(b:h<18446744073709551616):ë.wrap (h+18446744069414584320)=h-4294967296:=by have:ë.wrap (h+18446744069414584320)=(h+18446744069414584320)%18446744073709551616:=rfl;rw[this];omega
def aio(a:0<=h)(b:h<4294967296):ū.wrap h=h:=by have:ū.wrap h=h%4294967296:=rfl;rw[this];omega
def uo:Int:=18446744069414584320
def GS.jA:GS->GS
 |.cl (c+1) reg=>if c=0/\0<reg then .kS reg else .cl c reg
 |G=>G
section
variable{b:Nat}
def jc.aip(h:jc w b (.cl i 0))(a:i+1<1000000):ë.wrap ((GS.cl i 0).st+gO)=(GS.cl (i+1) 0).st/\jc (w.setCell (gp b)<|ē ë<|ë.wrap<|(GS.cl i 0).st+gO) b (.cl (i+1) 0):=by
 have e:ë.wrap ((GS.cl i 0).st+gO)=(GS.cl (i+1) 0).st:=by simp only[GS.st,gO];rw[Oy Z Z];omega
 exact⟨e,h.Ox (G':=.cl (i+1) 0) U ⟨a,Z,Z⟩ e⟩
def jc.jA(h:jc w b (.cl (i+1) n)):ë.wrap ((GS.cl (i+1) n).st+uo)=(GS.jA<|.cl (i+1) n).st/\jc (w.setCell (gp b)<|ē ë<|ë.wrap<|(GS.cl (i+1) n).st+uo) b (GS.jA<|.cl (i+1) n):=by
 let⟨f,a,g⟩:=h.ok;have d:ë.wrap ((GS.cl (i+1) n).st+uo)=(i:Int)*gO+n:=by simp only[GS.st,gO,uo];rw[ain Z Z];omega
 have e:ë.wrap ((GS.cl (i+1) n).st+uo)=(GS.jA<|.cl (i+1) n).st:=by
  rw[d];simp only[GS.jA];by_cases q:i=0/\0<n
  .rw[if_pos q];obtain⟨rfl,_⟩:=q;simp[GS.st]
  .rw[if_neg q];rfl
 refine⟨e,h.Ox ?_ ?_ e⟩
 .simp only[GS.jA];split<;>rfl
 .simp only[GS.jA];by_cases q:i=0/\0<n
  .rw[if_pos q];exact⟨q.2,a⟩
  .rw[if_neg q];exact⟨Z,a,λe=>by omega⟩
def jc.F_(h:jc w b (.cl i n))(f:0<i)(a:n+1<1000000):ë.wrap ((GS.cl i n).st+1)=(GS.cl i<|n+1).st/\jc (w.setCell (gp b)<|ē ë<|ë.wrap<|(GS.cl i n).st+1) b (.cl i (n+1)):=by
 let⟨d,g,j⟩:=h.ok;have e:ë.wrap ((GS.cl i n).st+1)=(GS.cl i<|n+1).st:=by simp only[GS.st,gO];rw[Oy Z Z];omega
 exact⟨e,h.Ox (G':=.cl i (n+1)) U ⟨d,a,λe=>by omega⟩ e⟩
def jc.F'(h:jc w b (.kS i)):jc (w.setCell (gp b)<|ē ë 0) b (.iQ i 0):= h.Ox (G':=.iQ i 0) U (by have:=h.ok;simp only[GS.ok]at this|-;omega) U
def jc.gy{r:Nat}(h:jc w b (.iQ (r+1) i)):jc (w.setCell (iP b)<|ē ū<|ū.wrap<|(GS.iQ (r+1) i).sm+1) b (.iQ r (i+1)):=by have:=h.ok;simp only[GS.ok]at this;refine h.E_ (G':=.iQ r (i+1)) U (by simp only[GS.ok];omega) ?_;simp only[GS.sm];rw[aio Z Z];omega
def jc.ml{r:Nat}(h:jc w b (.iQ r (i+1))):jc (w.setCell (iP b)<|ē ū<|(GS.iQ r<|i+1).sm-1) b (.iQ r i):=by have:=h.ok;simp only[GS.ok]at this;refine h.E_ (G':=.iQ r i) U (by simp only[GS.ok];omega) ?_;simp only[GS.sm];omega
def jc.aiq{G:GS}(h:jc w b G):(0<=G.st/\G.st<gO)↔∀c a,G=.cl c a->c=0:=by
 have d:=h.ok;cases G with
 |cl c a=>
  let⟨r,s,f⟩:=d;simp only[GS.st,gO];constructor
  .intro q g i e;cases e;omega
  .intro q;have:=q c a U;subst this;omega
 |kS a=>simp only[GS.ok]at d;simp only[GS.st,gO];exact⟨λ_ _ _ e=>(by cases e),λ_=>by omega⟩
 |iQ r s=>simp only[GS.st,gO];exact⟨λ_ _ _ e=>(by cases e),λ_=>by omega⟩
end
inductive kT where
 |gy|iX|ig (W:Nat)|j1 (W:Nat)|jx (r:Nat)
inductive kx where
 |jy|ox (p:SP)|wr|ml|ig|nh
section
variable(P:Ù)(main:Bool)(B:Nat)(b:Nat)(J:Jd)
def KF:Nat->Jd
 |0=>J
 |r+1=>λl g=>l.d=1/\aia P main (iP b) (match r with|0=>J|_=>fA P main<|KF r) l g
def Oz(W:Nat):Jd:=λl g=>l.d=1/\ah8 P main (gp b) 0 (KF P main b J W) l g
def OA(W:Nat):Jd:=λl g=>l.d=1/\B_ P main (gp b) (λv=>if v=(W:Int)then Oz P main b J W else λ_ _=>True) l g
def TR:Jd:=λl g=>l.d=1/\TD P main (gp b) uo (λs=>if s=0\/(gO<=s/\s<1000000*gO/\s%gO<1000000)then J else if 0<s/\s<1000000 then fA P main (OA P main b J s.toNat)else λ_ _=>True) l g
def B6:Jd:=λl g=>l.d=0/\KD P main (Ņ<|gp b) (TR P main b J) l g
def Hz:kT->Jd
 |.gy=>B6 P main b J
 |.iX=>TR P main b J
 |.ig W=>OA P main b J W
 |.j1 W=>Oz P main b J W
 |.jx r=>KF P main b J r
def HA:Jd:=λl g=>l.d=0/\KD P main (di<|gp b) J l g
def G_:Jd:=λl g=>l.d=1/\B_ P main (gp b) (λv=>if v=0 then HA P main b J else λ_ _=>True) l g
def OB:Jd:=λl g=>l.d=1/\ah9 P main (iP b) (G_ P main b J) l g
def TS:Jd:=λl g=>l.d=1/\KD P main (.write<|iP b) (OB P main b J) l g
def TT(p:SP):Jd:=λl g=>l.d=1/\Hw P main (gp b) B (λ_=>HA P main b J) (λv=>if v%gO=0 then TS P main b J else OB P main b J) p l g
def uq:kx->Jd
 |.jy=>λl g=>∃k,k<=B/\TT P main B b J (.gN k) l g
 |.ox p=>TT P main B b J p
 |.wr=>TS P main b J
 |.ml=>OB P main b J
 |.ig=>G_ P main b J
 |.nh=>HA P main b J
end
section
variable{P:Ù}{Y:Nat->Prop}{S:Nat->Jd}{tr:Nat->gY}{m:Nat->jw}{lot:Nat->fj}{gs:Array Ô}{t:ħ}
def jR.rv{Live:Nat->Prop}(h:jR n Live Y lot w t)(J:Live i){l:fj}(u:∀b,l.O b->(lot i).O b) (x:∀b,l.Rd b->(lot i).M b\/(b<w.heap.size/\¬Y b/\(∀k,Live k->¬(lot k).O b)/\∀a:Ü,a.block=b->sj t i (ć a))) (s:∀a,l.Oc a->(lot i).Oc a) (y:∀a,l.Rc a->(lot i).C a\/(Y a.block/\(∀k,Live k->¬(lot k).Oc a)/\sj t i (ć a))) (D:l.K=(lot i).K) (E:l.d=(lot i).d) (F:l.w=w) (G:∀b,l.O b->¬l.Rd b) (H:∀a,l.Oc a->¬l.Rc a):jR n Live Y (gX lot i l) w t:=by
 have v:∀b,l.M b->(lot i).M b\/(b<w.heap.size/\¬Y b/\(∀k,Live k->¬(lot k).O b)/\∀a:Ü,a.block=b->sj t i (ć a)):=λb g=>g.elim (λq=>Æ<|Æ<|u b q)<|x b;have B:∀a,l.C a->(lot i).C a\/(Y a.block/\(∀k,Live k->¬(lot k).Oc a)/\sj t i (ć a)):=λa f=>f.elim (λq=>Æ<|Æ<|s a q)<|y a;refine⟨λk j c m o b g=> ?_,λk j c m o a f=> ?_,λk c b g=> ?_,λk c a f=> ?_,λk c b g=> ?_,λk c a f=> ?_,λk c b g=> ?_,h.kE,λk c=> ?_,λk c=> ?_,λk c=> ?_,h.rp,h.xK,h.AG,λk c a f=> ?_⟩
 .by_cases e:k=i
  .subst e;rw[iV]at g;rw[iC lot _<|ă o];exact h.s7 k j c m o b<|u b g
  .rw[iC lot _ e]at g;by_cases p:j=i
   .subst p;rw[iV];intro q;rcases v b q with z|⟨_,_,z,_⟩
    .exact h.s7 k j c m o b g z
    .exact z k c g
   .rw[iC lot _ p];exact h.s7 k j c m o b g
 .by_cases e:k=i
  .subst e;rw[iV]at f;rw[iC lot _<|ă o];exact h.rn k j c m o a<|s a f
  .rw[iC lot _ e]at f;by_cases p:j=i
   .subst p;rw[iV];intro q;rcases B a q with z|⟨_,z,_⟩
    .exact h.rn k j c m o a f z
    .exact z k c f
   .rw[iC lot _ p];exact h.rn k j c m o a f
 .by_cases e:k=i
  .subst e;rw[iV]at g|-;exact G b g
  .rw[iC lot _ e]at g|-;exact h.lD k c b g
 .by_cases e:k=i
  .subst e;rw[iV]at f|-;exact H a f
  .rw[iC lot _ e]at f|-;exact h.lE k c a f
 .by_cases e:k=i
  .subst e;rw[iV]at g;exact(v b g).elim (h.fX k c b) λz=>z.2.1
  .rw[iC lot _ e]at g;exact h.fX k c b g
 .by_cases e:k=i
  .subst e;rw[iV]at f;exact(B a f).elim (h.ju k c a) λz=>z.1
  .rw[iC lot _ e]at f;exact h.ju k c a f
 .by_cases e:k=i
  .subst e;rw[iV]at g;exact(v b g).elim (h.fG k c b) λz=>z.1
  .rw[iC lot _ e]at g;exact h.fG k c b g
 .by_cases e:k=i
  .subst e;rw[iV,F];exact fU.fY _ _
  .rw[iC lot _ e];exact h.gy k c
 .by_cases e:k=i
  .subst e;rw[iV];refine⟨λa f=>(h.lu k c).fD a<|u _ f,λa f=> ?_,λa f=>(h.lu k c).oc a<|s a f,λa f=> ?_⟩
   .rcases x _ f with(z|z)|⟨_,_,_,z⟩
    .exact((h.lu k c).fD a z).r
    .exact(h.lu k c).rd a z
    .exact z a U
   .rcases y _ f with(z|z)|⟨_,_,z⟩
    .exact((h.lu k c).oc a z).r
    .exact(h.lu k c).rc a z
    .exact z
  .rw[iC lot _ e];exact h.lu k c
 .by_cases e:k=i
  .subst e;rw[iV,E];exact h.mT k c
  .rw[iC lot _ e];exact h.mT k c
 .have z:(lot k).K a:=by
   by_cases e:k=i
   .subst e;rwa[iV,D]at f
   .rwa[iC lot _ e]at f
  let⟨I,p⟩:=h.k9 k c a z;refine⟨I,λj m q=> ?_⟩;by_cases e:j=i
  .subst e;rw[iV]at q;exact p j m<|s a q
  .rw[iC lot _ e]at q;exact p j m q
def iI.rv(b:iI P n Y S tr m lot gs w t){J:Jd}{T:gY}{K:jw}{l:fj}(c:gs[i]?=À g)(d:g.status=Ñ\/g.status=ī)(f:jR n (λi=>i<gs.size) Y (gX lot i l) w t)(hF:na P (i==0) J T l g): iI P n Y (fI S i J) (fI tr i T) (fI m i K) (gX lot i l) gs w t:=by
 refine⟨f,λk x a=> ?_,b.vh⟩;by_cases e:k=i
 .subst e;rw[c]at a;obtain rfl:=ą a;rw[il,il,il,iV];exact⟨g,hF,.gR,d,Æ U⟩
 .rw[fW S _ e,fW tr _ e,fW m _ e,iC lot _ e];exact b.kv k x a
end
end Go.Proofs.Y.fK
namespace Go.Proofs.Y.fK
open Go Go.Conc Go.Proofs.Y.Lift
open Go.ConcN (RelBy fork_knows)
def D4(t:ħ)(p:Nat)(l:ew):Prop:=∀q a,Ħ t q=À a->a.loc=l->a.write=Ë->Before t q p
def D4.jV{u:ħ}{l:ew}(h:D4 qJ i l)(g:∀c∈u,∀b,c.act.touch?=À b->b.loc=l->b.write=Ë->False):D4 (qJ++u) i l:=by
 intro q a j e f;rcases pw j with⟨_,d⟩|⟨_,c,d,k,_⟩
 .exact(h q a d e f).app u
 .exact(g c d a k e f).elim
def D4.air{l:ew}(h:D4 qJ i l)(b:bX qJ n i):sj qJ n l:=λq a c d e=>Knows.of_before (h q a c d e) b
def ais{l:ew}(h:sj qJ i l)(d:wQ.g=i)(e:wQ.act.touch?=í):D4 (qJ++#[wQ]) qJ.size l:=by
 intro q a f j k;have m:(qJ++#[wQ])[qJ.size]?=À wQ:=by rw[Ā<|á _];simp
 rcases pw f with⟨_,b⟩|⟨_,n,b,c,_⟩
 .exact Í<|(h q a b j k).hb_new (á _) m d
 .have:n=wQ:=by simpa using b
  rw[this,e]at c;cases c
structure Fx where
 L:Nat
 m:Nat
 fL:Nat
 gK:Nat->Nat
def Fx.jg(F:Fx)(b:Nat):Prop:=b=F.fL\/∃k,k<=F.m/\b=F.gK k
def Fx.vk(F:Fx)(x:Ü):Prop:=∃b,F.jg b/\(x=gp b\/x=iP b)
def ki(F:Fx)(k:Nat):Ü:=⟨F.gK k,2,í⟩
def Fx.TU(F:Fx)(a:Nat->Option Nat)(x:Ü)(g:Option Nat):Prop:=(x=iP F.fL/\g=À 0)\/∃k j,k<=F.m/\x=iP (F.gK k)/\a k=À j/\g=À (F.L+1+j)
structure TI(F:Fx)(t0:Nat)(ky:ew->Prop)(sp rl:Nat)(V:Nat->Nat->Prop)(pk:Nat->Nat)(fs:Nat->Option Nat)(rx:Nat->Prop)(ql:Nat->Nat)(t:ħ):Prop where
 HB:t0<=t.size
 wU:∀p a x,Ħ t p=À a->a.loc=ć x->F.vk x->(p<t0/\t.g? p=À 0)\/a.kind=Ũ\/(a.kind=.said/\F.TU fs x (t.g? p))
 D5:∀x,x<sp->∀p,p<t0->t.g? p=À 0->bX t (F.L+x) p
 gy:∀k,1<=k->k<=rl->t.act? (pk k)=À (Ŭ<|Ņ<|gp<|F.gK k)/\t.g? (pk k)=À F.L/\t.heard (pk k)
 D6:∀k,1<=k->k<=rl->∀a:Ü,(V k a.block\/a=ki F k)->D4 t (pk k) (ć a)
 vl:∀b,F.jg b->NoRelease (gp b) t
 jA:∀x,x<sp->rx x->RelBy (gp F.fL) t (F.L+x) (ql x)/\∀p a,Ħ t p=À a->t.g? p=À (F.L+x)->p<=ql x\/((∃y:Ü,a.loc=ć y/\y.block=F.fL)/\a.kind=Ũ)
 AN:∀p a,t0<=p->Ħ t p=À a->t.g? p=À 0\/∃x,x<sp/\t.g? p=À (F.L+x)
 TV:∀p a,p<t0->Ħ t p=À a->a.loc.isMemory=Ë->bX t 0 p\/(ky a.loc/\a.kind=Ũ)
 zy:∀p g,p<t0->t.g? p=À g->g≠0->t.counts p->∃j,t.g? j=À 0/\HappensBefore t p j
section
variable{F:Fx}{t0:Nat}{ky:ew->Prop}{sp rl:Nat}{V:Nat->Nat->Prop}{pk:Nat->Nat}{fs:Nat->Option Nat}{rx:Nat->Prop}{ql:Nat->Nat}{t u:ħ}
def OC(h:t.g? i=À n):i<t.size:=by unfold ř at h;let⟨z,a,_⟩:=đ.1 h;exact aP a
def KG(h:t.g? i=À n):(t++u).g? i=À n:=by rwa[bj<|OC h]
def TW{a:ei}(h:Ħ t i=À a):i<t.size:=by let⟨c,b,_⟩:=ek h;exact aP b
structure OD(F:Fx)(sp rl:Nat)(V:Nat->Nat->Prop)(fs:Nat->Option Nat)(rx:Nat->Prop)(t u:ħ)(i:Nat):Prop where
 OG:∀op∈u,∀a,op.act.touch?=À a->op.g=i
 AN:i=0\/(∃x,x<sp/\i=F.L+x)\/∀op∈u,op.act.touch?=í
 wU:∀op∈u,∀a x,op.act.touch?=À a->a.loc=ć x->F.vk x->a.kind=Ũ\/(a.kind=.said/\F.TU fs x (À i))
 gu:∀op∈u,∀(a:ei) (y:Ü),op.act.touch?=À a->a.write=Ë->a.loc=ć y->∀k,1<=k->k<=rl->¬V k y.block/\y≠ki F k
 vl:∀op∈u,∀b,F.jg b->op.act≠Ŭ (ep<|gp b)
 jA:∀x,x<sp->rx x->(∀r,RelBy (gp F.fL) t (F.L+x) r->RelBy (gp F.fL) (t++u) (F.L+x) r)/\(F.L+x=i->∀op∈u,∀a,op.act.touch?=À a->(∃y:Ü,a.loc=ć y/\y.block=F.fL)/\a.kind=Ũ)
def TI.jV(h:TI F t0 ky sp rl V pk fs rx ql t)(f:OD F sp rl V fs rx t u i):TI F t0 ky sp rl V pk fs rx ql (t++u) where
 HB:=by rw[Array.size_append];have:=h.HB;omega
 wU p a x n y hc:=by
  rcases pw n with⟨d,c⟩|⟨d,m,c,l,j⟩
  .rw[bj d];exact h.wU p a x c y hc
  .refine Í ((f.wU m c a x l y hc).imp id λq=>⟨q.1,?_⟩);have:(t++u).g? p=À i:=by unfold ř;rw[j];simp[f.OG m c a l]
   rw[this];exact q.2
 D5 x s p d o:=(h.D5 x s p d<|by rwa[bj<|Õ d h.HB]at o).app u;gy k c l:=by let⟨w,v,b⟩:=h.gy k c l;have r:=OC v;exact⟨by rwa[eu r],KG v,(heard_old r).2 b⟩
 D6 k c l a n:=(h.D6 k c l a n).jV λm B b z y C=>by have:=f.gu m B b a z C y k c l;exact n.elim this.1 this.2
 vl b z:=(h.vl b z).app λm B=>f.vl m B b z;jA x s hr:=by
  let⟨w,v⟩:=h.jA x s hr;let⟨D,E⟩:=f.jA x s hr;refine⟨D _ w,λp a n o=> ?_⟩;rcases pw n with⟨d,c⟩|⟨d,m,c,l,j⟩
  .exact v p a c<|by rwa[bj d]at o
  .have e:(t++u).g? p=À i:=by unfold ř;rw[j];simp[f.OG m c a l]
   rw[e]at o;exact Í<|E (ą o).symm m c a l
 AN p a d n:=by
  rcases pw n with⟨D,c⟩|⟨_,m,c,l,j⟩
  .rw[bj D];exact h.AN p a d c
  .have e:(t++u).g? p=À i:=by unfold ř;rw[j];simp[f.OG m c a l]
   rw[e];rcases f.AN with q|⟨x,s,q⟩|q
   .exact Æ<|by rw[q]
   .exact Í ⟨x,s,by rw[q]⟩
   .rw[q m c]at l;cases l
 TV p a d n hm:=by have r:=Õ d h.HB;rw[touchAt_old r]at n;exact(h.TV p a d n hm).imp (·.app u) id
 zy p g d o nD hc:=by have r:=Õ d h.HB;rw[bj r]at o;rw[eN r]at hc;let⟨j,w,v⟩:=h.zy p g d o nD hc;exact⟨j,KG w,eL u v⟩
def B7(f:∀c∈u,c.act.touch?=í)(i:∀c∈u,∀b,F.jg b->c.act≠Ŭ (ep<|gp b)):OD F sp rl V fs rx t u 0 where
 OG c e a d:=by rw[f c e]at d;cases d
 AN:=Æ U;wU c e a x d:=by rw[f c e]at d;cases d
 gu c e a y d:=by rw[f c e]at d;cases d
 vl:=i;jA x hx g:=by
  refine⟨λr g=>g.app λj o p k=> ?_,λ_ c e a d=>by rw[f c e]at d;cases d⟩;let⟨z,l,_⟩:=k;have m:=l;rcases pw m with⟨q,_⟩|⟨_,c,n,h,_⟩
  .omega
  .rw[f c n]at h;cases h
def TI.ait(h:TI F t0 ky sp rl V pk fs rx ql t){b:Nat->Option Nat}(c:∀k y,fs k=À y->b k=À y):TI F t0 ky sp rl V pk b rx ql t:= {h with wU:=λp a x d e f=>(h.wU p a x d e f).imp id (Or.imp id λq=>⟨q.1,q.2.imp id λ⟨k,j,g,i,l,m⟩=>⟨k,j,g,i,c k j l,m⟩⟩)}
def TI.KH(h:TI F t0 ky sp rl V pk fs rx ql t){y:dA}(i:wQ.g=0/\wQ.act=.go (F.L+sp))(j:y.g=F.L+sp/\y.act=.start)(m:af t 0=0)(n:af t (F.L+sp)=0)(C:¬rx sp)(o:∀wQ,rx wQ->wQ<sp):TI F t0 ky (sp+1) rl V pk fs rx ql (t++#[wQ,y]):=by
 have q:∀c∈#[wQ,y],c.act.touch?=í:=by
  intro c a;simp at a;rcases a with rfl|rfl
  .rw[i.2];rfl
  .rw[j.2];rfl
 have r:∀c∈#[wQ,y],∀b,F.jg b->c.act≠Ŭ (ep<|gp b):=by
  intro c a b _;simp at a;rcases a with rfl|rfl
  .rw[i.2];simp
  .rw[j.2];simp
 have d:=h.jV<|B7 q r;refine{d with D5:=λz s p f k=> ?_,jA:=λz s l=> ?_,AN:=λp a f u=> ?_}
 .by_cases e:z<sp
  .exact d.D5 z e p f k
  .obtain rfl:z=sp:=Z
   have v:=Õ f h.HB;rw[bj v]at k;let⟨c,w,B⟩:=đ.1 k;have:=bO w;rw[B]at this;exact dp i j m n this
 .exact d.jA z (o z l) l
 .exact(d.AN p a f u).imp id λ⟨z,v,e⟩=>⟨z,Z,e⟩
def aiu{y:dA}(e:wQ.g=0/\wQ.act=.go k)(f:y.g=k/\y.act=.start)(m:af t 0=0)(n:af t k=0){l:ew}:(uk t 0 l->uk (t++#[wQ,y]) k l)/\(sj t 0 l->sj (t++#[wQ,y]) k l):=by
 have o:∀c∈#[wQ,y],c.act.touch?=í:=by
  intro c a;simp at a;rcases a with rfl|rfl
  .rw[e.2];rfl
  .rw[f.2];rfl
 refine⟨λh p a i j=> ?_,λh p a i j q=> ?_⟩
 .rcases pw i with⟨_,b⟩|⟨_,c,b,d,_⟩
  .exact dp e f m n<|h p a b j
  .rw[o c b]at d;cases d
 .rcases pw i with⟨_,b⟩|⟨_,c,b,d,_⟩
  .exact dp e f m n<|h p a b j q
  .rw[o c b]at d;cases d
def TI.aiv(h:TI F t0 ky sp rl V pk fs rx ql t)(f:wQ.g=F.L)(d:wQ.act=Ŭ (Ņ<|gp<|F.gK<|rl+1))(m:af t F.L=0)(n:∀a:Ü,(V (rl+1) a.block\/a=ki F (rl+1))->sj t F.L (ć a)): TI F t0 ky sp (rl+1) V (fI pk (rl+1) t.size) fs rx ql (t++#[wQ]):=by
 have o:∀c∈#[wQ],c.act.touch?=í:=by
  intro c e;have:c=wQ:=by simpa using e
  rw[this,d];rfl
 have i:=h.jV (B7 o (λc e b _=>by
  have:c=wQ:=by simpa using e
  rw[this,d];simp))
 have p:(t++#[wQ])[t.size]?=À wQ:=by rw[Ā<|á _];simp
 have j:∀k,k<=rl->fI pk (rl+1) t.size k=pk k:=λk r=>fW pk _ Z;refine{i with gy:=λk b q=> ?_,D6:=λk b q a l=> ?_}
 .by_cases e:k=rl+1
  .subst e;rw[il];exact⟨by rw[eV p,d],by simp[ř,f],⟨F.L,by simp[ř,f],by rwa[dm<|á _]⟩⟩
  .rw[j k Z];exact i.gy k b Z
 .by_cases e:k=rl+1
  .subst e;rw[il];exact ais (n a l) f<|by rw[d];rfl
  .rw[j k Z];exact i.D6 k b Z a l
def TI.aiw(h:TI F t0 ky sp rl V pk fs rx ql t){x:Nat}(r:x<sp)(f:wQ.g=F.L+x)(d:wQ.act=Ŭ (Ņ<|gp F.fL))(k:af t (F.L+x)=0)(s:¬rx x): TI F t0 ky sp rl V pk fs (λz=>rx z\/z=x) (fI ql x t.size) (t++#[wQ]):=by
 have l:∀c∈#[wQ],c.act.touch?=í:=by
  intro c a;have:c=wQ:=by simpa using a
  rw[this,d];rfl
 have j:=h.jV (B7 l (λc a b _=>by
  have:c=wQ:=by simpa using a
  rw[this,d];simp))
 have b:(t++#[wQ])[t.size]?=À wQ:=by rw[Ā<|á _];simp
 refine{j with jA:=λz m n=> ?_};by_cases e:z=x
 .subst e;rw[il];refine⟨⟨by rw[eV b,d],by simp[ř,f],⟨F.L+z,by simp[ř,f],by rwa[dm<|á _]⟩,λi u o=> ?_⟩,λp a q _=>Æ ?_⟩
  .have:=OC o;simp at this;omega
  .have:=TW q;simp at this;omega
 .rw[fW ql _ e];exact j.jA z m<|n.resolve_right e
def H_(e:t.act? i=À (Ŭ<|Ņ a))(f:t.g? i=À k)(h:t.heard i)(l:NoRelease a t)(c:wQ.g=n)(m:wQ.act=Ŭ (di a))(o:af t n=0):bX (t++#[wQ]) n i:=by
 have b:=OC f;have d:(t++#[wQ])[t.size]?=À wQ:=by rw[Ā<|á _];simp
 refine⟨t.size,wQ,d,c,Í<|.single<|Í ⟨.marked b (Í<|by rwa[eu b]) (by rw[eV d,m]) λj _ q=> ?_,(heard_old b).2 h,⟨n,by simp[ř,c],by rwa[dm<|á _]⟩⟩⟩;rw[eu q];exact l j
def TI.mU(h:TI F t0 ky sp rl V pk fs rx ql t)(J:wQ.g=0)(w:wQ.act=Ŭ (di<|gp F.fL))(K:af t 0=0)(l:∀x,x<sp->rx x): (∀p a,Ħ (t++#[wQ]) p=À a->a.loc.isMemory=Ë->bX (t++#[wQ]) 0 p\/((ky a.loc\/∃x:Ü,a.loc=ć x/\x.block=F.fL)/\a.kind=Ũ))/\(t++#[wQ]).HandedOver:=by
 have M:wQ.act.touch?=í:=by rw[w];rfl
 have Y:(t++#[wQ])[t.size]?=À wQ:=by rw[Ā<|á _];simp
 have N:F.jg F.fL:=Æ U;have B:=λx c=>by let⟨b,_⟩:=h.jA x c<|l x c;exact H_ b.act b.g b.heard (h.vl _ N) J w K
 have C:∀p a,Ħ (t++#[wQ]) p=À a->p<t.size/\Ħ t p=À a:=λp a m=>by
  rcases pw m with q|⟨_,n,d,k,_⟩
  .exact q
  .have:n=wQ:=by simpa using d
   rw[this,M]at k;cases k
 have D:∀p q x,t.g? p=À (F.L+x)->t.g? q=À (F.L+x)->p<=q->Before (t++#[wQ]) p q:=λp q x d k E=>by
  rcases Nat.lt_or_ge p q with f|j
  .exact Í<|.single<|Æ ⟨f,_,KG d,KG k⟩
  .exact Æ Z
 refine⟨λp a m O=> ?_,λp g o s P=> ?_⟩
 .let⟨f,d⟩:=C p a m;by_cases e:p<t0
  .rcases h.TV p a e d O with q|⟨b,i⟩
   .exact Æ<|q.app _
   .exact Í ⟨Æ b,i⟩
  .rcases h.AN p a Z d with q|⟨x,c,q⟩
   .let⟨n,u,v⟩:=đ.1 q;have:=bO u;rw[v]at this;exact Æ<|this.app _
   .let⟨b,i⟩:=h.jA x c<|l x c;rcases i p a d q with z|⟨j,G⟩
    .exact Æ<|Knows.of_before (D p (ql x) x q b.g z)<|B x c
    .exact Í ⟨Í j,G⟩
 .let⟨z,G,Q,T⟩:=P;let⟨f,d⟩:=C p z G;have H:t.g? p=À g:=by rwa[bj f]at o
  have I:=(eN f).1 ⟨z,G,Q,T⟩;by_cases e:p<t0
  .let⟨j,b,i⟩:=h.zy p g e H s I;exact⟨j,KG b,eL _ i⟩
  .rcases h.AN p z Z d with q|⟨x,c,q⟩
   .rw[H]at q;exact absurd (ą q) s
   .let⟨b,_⟩:=h.jA x c<|l x c;have E:=Nat.le_of_not_lt λW=>b.after p W q I;let⟨r,n,u,v,X⟩:=B x c;have i:(t++#[wQ]).g? r=À 0:=by unfold ř;rw[u];simp[v]
    refine⟨r,i,?_⟩;rcases(D p (ql x) x q b.g E).trans X with j|j
    .subst j;rw[o]at i;exact absurd (ą i) s
    .exact j
end
end Go.Proofs.Y.fK
namespace Go.Proofs.Y.fK
open Go Go.Conc Go.Proofs.Y.Lift
open Go.ConcN (sumTo)
structure Ph extends Fx where
 P:Ù
 B0:Nat
 n:Nat
 q:Nat
 iG:Nat
 kJ:Nat
 gq:Nat->Nat
 pq:Nat->Nat
 pi:Nat->Nat
 sk:Nat->Ã
 z:Ã
 B:Nat
 γ:Type
 s0:γ
 V0:Nat->Prop
 uu:Nat->γ->γ->Prop
 vm:Nat->γ->(Nat->Prop)->È->Prop
 vn:Nat->ByteArray
 wV:Nat->ByteArray
 xO:Nat->(Nat->Nat)->Jd
 xP:Nat->Jd
 xR:Nat->Nat->Jd
 HC:(Nat->Nat)->Jd
inductive pP(F:Ph):Nat->F.γ->Prop
 |si:pP F 0 F.s0
 |HF {k:Nat} {s s':F.γ} (h:pP F k s) (hn:F.uu k s s'):pP F (k+1) s'
def kz(F:Ph)(p:Nat):Ü:=⟨F.iG,p,í⟩
inductive gH where
 |go (j:Nat)|nL (j:Nat)|rd (j:Nat)|iX (j:Nat)|jH (r:Nat)|mU (r:Nat)|fJ (p:kx)|gC
inductive kL where
 |lO (k:Nat)|mk (k:Nat)|dn (k:Nat) (p:kT)
inductive iJ where
 |pO (r:Nat)|fJ (r:Nat) (p:kx)|j5 (r:Nat)|mf (r:Nat)
inductive jd where
 |ry|gC (p:kT)|ko (N:Nat)
section
variable(F:Ph)
def HJ:Jd:=λl g=>∃N,QuitsD F.P N l.d g
def mo(l:fj):fj:={l with O:=λ_=>False,Rd:=λ_=>False,Oc:=λ_=>False,Rc:=λ_=>False,q:=True}
def D7:Jd:=λl g=>Hz F.P Â F.fL (HJ F) .gy (mo l) g
def HL(c j r:Nat):Jd:=AJ F.P Â c F.z λx=>match x with
 |some v=>λl g=>v=F.sk (j+r*F.n)->uq F.P Â F.B (F.gK<|F.gq<|j+r*F.n) (F.xR c<|j+r*F.n) .jy l g
 |none=>D7 F
def zz(l:fj)(i:Nat):fj:={l with Oc:=λa=>l.Oc a/\a≠kz F (F.pq i),Rc:=λa=>l.Rc a\/a=kz F (F.pq i)}
def s9(l:fj)(k:Nat):fj:={l with O:=λ_=>False,Rd:=l.M,Oc:=λa=>l.Oc a/\a≠kz F (F.pi k)/\a≠ki F.toFx k,Rc:=λa=>l.Rc a\/a=kz F (F.pi k)\/a=ki F.toFx k}
def JW(c j:Nat):iJ->Jd
 |.pO r=>HL F c j r
 |.fJ r p=>uq F.P Â F.B (F.gK<|F.gq<|j+r*F.n) (F.xR c<|j+r*F.n) p
 |.j5 r=>F.xR c<|j+r*F.n
 |.mf r=>λl g=>l.w.cell? (kz F<|F.pq<|j+r*F.n)=À (Ĥ<|F.wV<|j+r*F.n)/\HL F c j (r+1) (zz F l<|j+r*F.n) g
def JI(sg:Nat->F.γ):kL->Jd
 |.lO k=>F.xP k
 |.mk k=>λl g=>∃p V,F.uu (k-1) (sg<|k-1) p/\F.vm k p V l.w/\(∀b,V b->l.M b)/\l.w.cell? (kz F<|F.pi k)=À (Ĥ<|F.vn k)/\Hz F.P Â (F.gK k) (fA F.P Â<|F.xP k) .gy (s9 F l k) g
 |.dn k p=>Hz F.P Â (F.gK k) (fA F.P Â<|F.xP k) p
def JE:jd->Jd
 |.ry=>D7 F
 |.gC p=>Hz F.P Â F.fL (HJ F) p
 |.ko N=>ru F.P N
def OH(j:Nat)(a:Nat->Nat):Jd:=λl g=>∃c,F.xO j (fI a (j-1) c) l g
def I_(j:Nat)(a:Nat->Nat):Jd:=λl g=>l.d=1/\KD F.P Ë (.read<|iP F.fL) (OH F j a) l g
def TX(j:Nat)(a:Nat->Nat):Jd:=λl g=>l.d=1/\TD F.P Ë (gp F.fL) gO (λs=>if s=gO then fA F.P Ë (I_ F j a)else if gO<s/\s<1000000*gO/\s%gO=0 then fA F.P Ë (OH F j a)else λ_ _=>True) l g
def D8(a:Nat->Nat):Nat->Jd
 |0=>uq F.P Ë F.B F.fL (F.HC a) .jy
 |r+1=>Oo F.P Ë (a<|F.n-(r+1))<|D8 a r
def KI(a:Nat->Nat):Nat->Jd
 |0=>D8 F a F.n
 |r+1=>D1 F.P Ë (a<|(F.q-(r+1))%F.n) (F.sk<|F.q-(r+1))<|KI a r
def JM(dk:Nat->Nat):gH->Jd
 |.go j=>F.xO j dk
 |.nL j=>OH F j dk
 |.rd j=>I_ F j dk
 |.iX j=>TX F j dk
 |.jH r=>KI F dk r
 |.mU r=>D8 F dk r
 |.fJ p=>uq F.P Ë F.B F.fL (F.HC dk) p
 |.gC=>F.HC dk
def oe(x:Nat)(a:Ü):Prop:=if x=0 then(∃k,1<=k/\k<=F.m/\(a=ki F.toFx k\/a=kz F (F.pi k)))else∃i,i<F.q/\i%F.n=x-1/\a=kz F (F.pq i)
end
def gH.sp(n:Nat):gH->Nat
 |.go j|.nL j|.rd j|.iX j=>j
 |_=>n+1
def gH.ad(n:Nat):gH->Nat
 |.iX j=>j
 |.go j|.nL j|.rd j=>j+1
 |_=>n+1
def gH.oP(q:Nat):gH->Nat
 |.go _|.nL _|.rd _|.iX _=>0
 |.jH r=>q-r
 |_=>q
def gH.kh(n:Nat):gH->Nat
 |.mU r=>n-r
 |.fJ _|.gC=>n
 |_=>0
def kx.vo:kx->Nat
 |.wr|.ml=>1
 |_=>0
def gH.iq:gH->Nat
 |.fJ p=>p.vo
 |_=>0
def kT.hD:kT->Nat
 |.gy|.iX=>1
 |_=>0
def jd.hD:jd->Nat
 |.ry=>1
 |.gC p=>p.hD
 |_=>0
def jd.oh:jd->Prop
 |.ry=>False
 |_=>True
def oy:Option jd->Nat
 |none=>1
 |some e=>e.hD
def kT.jb:kT->Prop
 |.gy=>False
 |_=>True
def jd.jb:jd->Prop
 |.ry=>False
 |.gC p=>p.jb
 |_=>True
def kL.md:kL->Nat
 |.lO k=>k
 |.mk k=>k-1
 |.dn k _=>k
def kL.rl:kL->Nat
 |.lO k=>k
 |.mk k=>k-1
 |.dn k .gy=>k-1
 |.dn k _=>k
def kL.od:kL->Nat
 |.lO k=>k
 |.mk k=>k-1
 |.dn k .gy|.dn k .iX=>k-1
 |.dn k _=>k
def iJ.jL:iJ->Nat
 |.pO r=>r
 |.fJ r _|.j5 r|.mf r=>r+1
def iJ.iG:iJ->Nat
 |.pO r|.fJ r _|.j5 r|.mf r=>r
def iJ.iq(F:Ph)(j:Nat)(k:Nat):iJ->Nat
 |.fJ r p=>if F.gq (j+r*F.n)=k then p.vo else 0
 |_=>0
structure gF(F:Ph) where
 mp:gH
 ip:kL
 wp:Nat->iJ
 ed:Nat->Option jd
 dk:Nat->Nat
 sg:Nat->F.γ
 V:Nat->Nat->Prop
 pk:Nat->Nat
 fs:Nat->Option Nat
 ql:Nat->Nat
 Ga:GS
 Gg:Nat->GS
 la:Option Nat
 lv:Nat->Nat
section
variable{F:Ph}
def gF.sp(σ:gF F):Nat:=σ.mp.sp F.n
def gF.hD(σ:gF F)(x:Nat):Nat:=if x<σ.mp.ad F.n then oy (σ.ed x)else 0
def gF.jb(σ:gF F)(x:Nat):Prop:=∃e,σ.ed x=À e/\e.jb
def gF.oh(σ:gF F)(x:Nat):Prop:=∃e,σ.ed x=À e/\e.oh
def gF.Y(σ:gF F)(b:Nat):Prop:=F.jg b\/b=F.iG\/∃j,j+2<=σ.sp/\b=σ.dk j
def xS(n j Q s:Nat):Prop:=∀i,i<s↔j+i*n<Q
def kM:gH->jw
 |.fJ .ml=> .jx
 |_=> .no
def kW(F:Ph)(c:Nat):iJ->jw
 |.pO _=> .mh c F.z
 |.fJ _ .ml=> .jx
 |_=> .no
end
structure Ph.Ok(F:Ph):Prop where
 n1:1<=F.n
 L1:1<=F.L
 gP:F.n+F.q+F.m<1000
 gq:∀i,i<F.q->F.gq i<=F.m
 AO:∀k,k<=F.m->F.gK k≠F.fL
 j4:∀k k',k<=F.m->k'<=F.m->F.gK k=F.gK k'->k=k'
 xT:¬F.jg F.iG
 pq:∀i i',i<F.q->i'<F.q->F.pq i=F.pq i'->i=i'
 pi:∀k k',1<=k->k<=F.m->1<=k'->k'<=F.m->F.pi k=F.pi k'->k=k'
 TY:∀i k,i<F.q->1<=k->k<=F.m->F.pq i≠F.pi k
 gd:∀b,F.jg b\/b=F.iG->F.B0<=b
 kJ:(∀k,1<=k->k<=F.m->F.pi k≠F.kJ)/\∀i,i<F.q->F.pq i≠F.kJ
structure jF(F:Ph)(σ:gF F)(lot:Nat->fj)(sz:Nat)(w:È):Prop where
 iU:∀i,i<sz->∀a,(lot i).C a->(∃k,k<=F.m/\a=ki F.toFx k)\/∃p,p≠F.kJ/\a=kz F p
 ni:∀x,σ.sp<=x->x<=F.n->∀a,oe F x a->(lot 0).Oc a
 n7:σ.sp<=F.n->(lot 0).Rc (ki F.toFx 0)/\∀b,F.V0 b->(lot 0).Rd b
 oQ:0<σ.sp->∀k,σ.ip.md<k->k<=F.m->(lot F.L).Oc (ki F.toFx k)/\(lot F.L).Oc (kz F<|F.pi k)
 mV:0<σ.sp->σ.ed 0=í->(lot F.L).Rc (ki F.toFx σ.ip.md)/\∀b,σ.V σ.ip.md b->(lot F.L).Rd b
 oR:∀j,j+2<=σ.sp->σ.ed (j+1)=í->∀r,j+r*F.n<F.q->(σ.wp j).iG<=r->(lot<|F.L+1+j).Oc (kz F<|F.pq<|j+r*F.n)
 oS:∀j,j+2<=σ.sp->σ.ed (j+1)=í->(lot<|F.L+1+j).Rc (ki F.toFx 0)/\∀b,F.V0 b->(lot<|F.L+1+j).Rd b
 kq:∀x,σ.oh x->lot (F.L+x)=mo (lot<|F.L+x)
 mG:∀i,(i=0\/∃x,x<σ.sp/\i=F.L+x/\¬σ.oh x)->¬(lot i).q
 ja:∀i,0<i->i<F.L->lot i=mo (lot i)
 kF:∀k,k<=σ.ip.md->∀b,σ.V k b->b<w.heap.size/\¬σ.Y b/\∀i,i<sz->¬(lot i).O b
 nN:∀k,k<=σ.ip.md->∀i,i<sz->¬(lot i).Oc (ki F.toFx k)
 oT:∀k,1<=k->k<=σ.ip.md->∀i,i<sz->¬(lot i).Oc (kz F<|F.pi k)
 oz:∀j,j+2<=σ.sp->∀r,j+r*F.n<F.q->r<(σ.wp j).iG->∀i,i<sz->¬(lot i).Oc (kz F<|F.pq<|j+r*F.n)
structure Wd(F:Ph)(σ:gF F)(w:È):Prop where
 fL:jc w F.fL σ.Ga
 j4:∀k,k<=F.m->jc w (F.gK k) (σ.Gg k)
 kU:∀j,j+2<=σ.sp->∃buf s,w.heap[σ.dk j]?=À (aF F.q buf (decide<|j<σ.mp.kh F.n) s (σ.wp j).jL Â)/\xS F.n j (σ.mp.oP F.q) s/\(σ.wp j).jL<=s/\buf.size=s-(σ.wp j).jL/\∀i,i<s-(σ.wp j).jL->buf[i]?=À (F.sk<|j+((σ.wp j).jL+i)*F.n)
 nj:∀k,k<=σ.ip.md->pP F k (σ.sg k)/\F.vm k (σ.sg k) (σ.V k) w
 qm:∀k,1<=k->k<=σ.ip.md->w.cell? (kz F<|F.pi k)=À (Ĥ<|F.vn k)
 pQ:∀j,j+2<=σ.sp->∀r,j+r*F.n<F.q->r<(σ.wp j).iG->w.cell? (kz F<|F.pq<|j+r*F.n)=À (Ĥ<|F.wV<|j+r*F.n)
structure Ps(F:Ph)(σ:gF F):Prop where
 v0:σ.V 0=F.V0
 mj:∀j,σ.mp=.go j\/σ.mp=.nL j\/σ.mp=.rd j\/σ.mp=.iX j->j<=F.n
 xU:∀j,σ.mp=.nL j\/σ.mp=.rd j\/σ.mp=.iX j->1<=j
 mr:∀r,(σ.mp=.jH r->r<=F.q)/\(σ.mp=.mU r->r<=F.n)
 zA:σ.sp=0->σ.ip=.lO 0
 ik:∀k,(σ.ip=.lO k->k<=F.m)/\(σ.ip=.mk k->1<=k/\k<=F.m)/\(∀p,σ.ip=.dn k p->1<=k/\k<=F.m)
 oU:∀j,σ.sp<j+2->σ.wp j=.pO 0
 wr:∀j r,j+2<=σ.sp->((∃p,σ.wp j=.fJ r p)\/σ.wp j=.j5 r\/σ.wp j=.mf r)->j+r*F.n<F.q
 sr:∀j,j+2<=σ.sp->σ.ed (j+1)≠í->j<σ.mp.kh F.n/\∃r,σ.wp j=.pO r/\∀i,j+i*F.n<F.q->i<r
 rz:σ.ed 0≠í->σ.ip=.lO F.m
 su:∀x,σ.sp<=x->σ.ed x=í
 pR:∀j j',j+2<=σ.sp->j'+2<=σ.sp->σ.dk j=σ.dk j'->j=j'
 td:∀j,j+2<=σ.sp->¬F.jg (σ.dk j)/\σ.dk j≠F.iG/\F.B0<=σ.dk j
 tf:∀c reg,σ.Ga=.cl c reg->c=bY (F.n+1) σ.hD/\reg=σ.mp.iq
 sw:∀reg,σ.Ga=.kS reg->bY (F.n+1) σ.hD=0/\reg=σ.mp.iq/\∃x,x<σ.sp/\σ.la=À x/\(σ.ed x=À (.gC (.ig reg))\/σ.ed x=À (.gC (.j1 reg)))
 tg:∀r s,σ.Ga=.iQ r s->bY (F.n+1) σ.hD=0/\r+s=σ.mp.iq/\(0<r->∃x,x<σ.sp/\σ.la=À x/\σ.ed x=À (.gC (.jx r)))
 qo:∀x p,σ.ed x=À (.gC p)->(∀W,p=.ig W\/p=.j1 W->σ.la=À x/\σ.Ga=.kS W)/\(∀r,p=.jx r->0<r/\σ.la=À x/\∃s,σ.Ga=.iQ r s)
 xV:σ.mp=.fJ .ig\/σ.mp=.fJ .nh\/σ.mp=.gC->bY (F.n+1) σ.hD=0
 rA:∀k,1<=k->k<=F.m->σ.ip.od<k->σ.Gg k=.cl 1 (bY F.n λj=>(σ.wp j).iq F j k)
 qp:∀k,k<=F.m->k<=σ.ip.od->(∃W,(σ.ip=.dn k (.ig W)\/σ.ip=.dn k (.j1 W))/\σ.Gg k=.kS W/\W=bY F.n λj=>(σ.wp j).iq F j k)\/(∃r s,σ.ip=.dn k (.jx r)/\0<r/\σ.Gg k=.iQ r s/\r+s=bY F.n λj=>(σ.wp j).iq F j k)\/((∀p,σ.ip≠ .dn k p)/\((σ.Gg k=.cl 0 0/\(bY F.n λj=>(σ.wp j).iq F j k)=0)\/∃s,σ.Gg k=.iQ 0 s/\s=bY F.n λj=>(σ.wp j).iq F j k))
 tj:∀j r,j+2<=σ.sp->(σ.wp j=.fJ r .ig\/σ.wp j=.fJ r .nh\/σ.wp j=.j5 r)->F.gq (j+r*F.n)<=σ.ip.od
 xW:∀j r,j+2<=σ.sp->σ.wp j=.fJ r .ig->∃a b,σ.Gg (F.gq<|j+r*F.n)=.iQ a b
 AP:σ.mp=.fJ .ig->∃a b,σ.Ga=.iQ a b
 aM:(∀p,σ.mp≠ .fJ p)->σ.mp≠ .gC->∃c,σ.Ga=.cl c 0
 uw:∀k,k<=F.m->σ.Gg k=.cl 1 0->σ.fs k=í
 xY:∀j r,j+2<=σ.sp->σ.wp j=.fJ r .wr->σ.fs (F.gq<|j+r*F.n)=À j
def fw(F:Ph)(σ:gF F)(a:Array Ô)(w:È):Prop:=∀i g,a[i]?=À g->g.status=Ζ->
 (i=0/\σ.mp=.fJ .ml/\σ.Ga.sm=0)\/(∃j,j+2<=σ.sp/\σ.ed (j+1)=í/\i=F.L+1+j/\((∃r,σ.wp j=.fJ r .ml/\(σ.Gg<|F.gq<|j+r*F.n).sm=0)\/∃r b s c,σ.wp j=.pO r/\w.heap[σ.dk j]?=À (aF b #[] Â s c Â)))
structure PI(F:Ph)(t0:Nat)(ky:ew->Prop)(σ:gF F)(S:Nat->Jd)(tr:Nat->gY)(kp:Nat->jw)(lot:Nat->fj)(gs:Array Ô)(w:È)(t:ħ):Prop where
 fh:gs.size=F.L+σ.sp
 gw:iI F.P F.B0 σ.Y S tr kp lot gs w t
 s0:S 0=JM F σ.dk σ.mp/\kp 0=kM σ.mp
 sI:0<σ.sp->σ.ed 0=í->S F.L=JI F σ.sg σ.ip/\kp F.L=.no
 sW:∀j,j+2<=σ.sp->σ.ed (j+1)=í->S (F.L+1+j)=JW F (σ.dk j) j (σ.wp j)/\kp (F.L+1+j)=kW F (σ.dk j) (σ.wp j)
 sE:∀x e,x<σ.sp->σ.ed x=À e->S (F.L+x)=JE F e/\kp (F.L+x)=.no/\((∃N,e=.ko N)->tr (F.L+x)=.fO)
 sO:∀i,0<i->i<F.L->S i=ru F.P (σ.lv i)/\tr i=.fO/\kp i=.no
 iD:jF F σ lot gs.size w
 wd:Wd F σ w
 ps:Ps F σ
 ti:TI F.toFx t0 ky σ.sp (σ.ip.rl) σ.V σ.pk σ.fs σ.jb σ.ql t
 fu:fw F σ gs w
 kn:∀j r,j+2<=σ.sp->σ.wp j=.j5 r->1<=F.gq (j+r*F.n)->bX t (F.L+1+j) (σ.pk<|F.gq<|j+r*F.n)
structure iT(F:Ph):Prop where
 ok:F.Ok
 OJ:∀k s V w w',F.vm k s V w->(∀b,V b->w'.heap[b]?=w.heap[b]?)->w'.cell? (ki F.toFx k)=w.cell? (ki F.toFx k)->w'.cell? (kz F F.kJ)=w.cell? (kz F F.kJ)->mS w' F.iG=mS w F.iG->(w'.os=w.os/\w'.output=w.output)->F.vm k s V w'
 KJ:∀j dk l g w₁,F.xO j dk l g->fU l l.w w₁->F.xO j dk {l with w:=w₁} g
 B8:∀j dk l g,F.xO j dk l g->g.status=Ñ
 mV:∀k l g,F.xP k l g->g.status=Ñ
 OL:∀c i l g,F.xR c i l g->g.status=Ñ
 HM:∀dk l g,F.HC dk l g->g.status=Ñ
 go:∀j dk l g,j<=F.n->F.xO j dk l g->ic l->l.d=0/\∃(g' child:Ô) (X:Nat->Prop),g'.status=Ñ/\child.status=Ñ/\(∀w₁,Ý F.P Ë g w₁=.spawn g' child w₁ #[])/\(∀b,X b->l.O b)/\
  (1<=j->l.O (dk<|j-1)/\¬X (dk<|j-1)/\l.w.heap[dk<|j-1]?=À (aF F.q #[] Â 0 0 Â)/\F.B0<=dk (j-1))/\
  (∀l':fj,ic l'->(∀b,X b\/l.Rd b->l'.Rd b)->l'.w=l.w->l'.d=0->¬l'.q->(∀b,¬l'.O b)->l'.K=l.K->l'.Rc=l.Rc->(∀a,l'.Oc a->l.Oc a)->fA F.P Â (if j=0 then F.xP 0 else HL F (dk<|j-1) (j-1) 0) l' child)/\
  (∀l':fj,ic l'->l'.O=(λb=>l.O b/\¬X b/\(1<=j->b≠dk (j-1)))->(∀b,X b\/l.Rd b->l'.Rd b)->l'.w=l.w->l'.d=0->l'.q=l.q->l'.K=l.K->l'.Rc=l.Rc->(∀a,l'.Oc a->l.Oc a)->fA F.P Ë (JM F dk<|if j<F.n then .iX (j+1)else .jH F.q) l' g')
 lO:∀k s V l g,k<F.m->F.xP k l g->ic l->pP F k s->F.vm k s V l.w->(∀b,V b->l.Rd b)->l.Rc (ki F.toFx k)->l.Oc (ki F.toFx<|k+1)->l.Oc (kz F<|F.pi<|k+1)->∀sg:Nat->F.γ,sg k=s->fA F.P Â (JI F sg<|.mk (k+1)) l g
 I':∀l g,F.xP F.m l g->ic l->fA F.P Â (D7 F) l g
 j5:∀c j r s V l g,j+r*F.n<F.q->F.xR c (j+r*F.n) l g->∀l':fj,ic l'->l'.O=l.O->(∀b,l.Rd b\/V b->l'.Rd b)->l'.w=l.w->l'.d=l.d->l'.q=l.q->l'.Oc=l.Oc->l'.K=l.K->pP F (F.gq<|j+r*F.n) s->F.vm (F.gq<|j+r*F.n) s V l.w->l'.Rc (ki F.toFx<|F.gq<|j+r*F.n)->l'.Oc (kz F<|F.pq<|j+r*F.n)->fA F.P Â (JW F c j<|.mf r) l' g
end Go.Proofs.Y.fK
