/- Twice: the texts of the proof, packed by program out of some 237: remarks struck, names and blanks shortened, for the sake of a claim's size alone. -/
import Derived.KernelRfl
import Derived.Conc.Own
import Derived.Conc.Events
import Derived.Laws.Sem
import Derived.Conc.Own5
import Derived.Conc.CompanyDraw
import Derived.Conc.Know
import Derived.Conc.Beside
import Derived.Conc.MarkLaws
import Derived.Conc.CrowdComm
import Derived.Conc.CrowdTrace
import Derived.Conc.CrowdBase
set_option linter.all false
set_option maxRecDepth 1000000
set_option maxHeartbeats 8000000
open Option renaming some->À,none->í,map_eq_some_iff->Đ,map_some->Ů
open Go renaming TypeId->Á,Value->Ã,World->È,Goroutine->Ó,Program->Ø,Operand->Ú,Addr->Ü,stepG->Ý,FuncId->ã,execOp->î,underlying->ù,typeInfo->þ,run_program->ÿ,resolve->ā,variablesAt->ă,IntKind->ą,Event->Ĉ,loadBytes->Ė,invoke->Ę,builtin->ĝ,Sem->Ğ,zeroValue->Ġ,Frame->ģ,Trace->ī,BinOp->ĭ,results->Ĵ,behindNumber->Ļ,FloatKind->ľ,callFunc->Ń,askRoom->ņ,newRow->Ō,undef->Ŏ,choose->ŕ,yielded->Ŗ,sizeOf->Ŝ,storeCells->ŝ,elemOf->Ş,loadCellsFrom->Š,convert->Ŧ,movedNumber->ũ,Item->ű,movedPointer->ŷ,binOp->Α,sameAddr->Δ,deafBehind->Ε,eqGuard->Ξ,partners->ξ,RuntimeError->ρ,Next->χ,cellAtBytes->av,Tape->aE,loadVar->aF,Code->aO,store->aP,Oper->aR,BoundsCode->aS,storeVar->bk,nilAhead->bx,lone->bB,load->bE,noView->bF,liesAt->bG,findLabel->bJ,stringish->bM,Unsupported->bP,followBlind->bR,Act->bY,Machine->cy,Question->cA,asBool->cE,asAddr->cF,fieldPlace->cG,viewAt->cJ,numberAt->cK,asNumber->cL,getObj->cO,shape->cP,exitTo->cW,gotoIn->cX,freeze->de,mayBeOne->df,runT->dz,MemOp->dA,loadCells->dB,rowAt->dC,program->dE,asIntOf->dF,byteOf->dI,unwind->dN,runN->dO,cellsIn->dP,asInt->dU,TypeDesc->dY,runN_add->eb,Touch->eg,step->ep,Loc->eu,mark->ew,newObj->eD,PanicEntry->eJ,isAgg->eP,Race->eY
open Bool renaming false->Â,false_eq_true->Ç,true->Ë,and_eq_true_iff->Þ,not_true->Ċ,not_false->Ď,and_eq_true->ĕ,or_eq_true_iff->ŀ,eq_iff_iff->ŉ,or_eq_true->ů
open Array renaming getElem?_eq_some_iff->Ä,getElem?_setIfInBounds_ne->É,getElem?_setIfInBounds_self_of_lt->Ò,mem_of_getElem?->Ö,getElem?_eq_getElem->ß,getElem?_modify->à,getElem?_setIfInBounds->ď,getElem?_append_right->đ,empty_append->ę,append_empty->Ě,mapM_eq_mapM_toList->ğ,mem_append->ħ,mem_zipIdx_iff_getElem?->Į,getElem?_push_lt->į,getD_eq_getD_getElem?->ĳ,all_eq_true->ĵ,range->Ķ,replicate->Ŋ,append_assoc->ŋ,getElem?_eq_none->ő,append_singleton->Ŕ,mem_iff_getElem->ś,mem_toList_iff->ŭ,getElem_map->Ν,getElem_extract->ar,toList_zipIdx->aI,getElem?_push->aJ,foldl_toList->aU,forIn_toList->aZ
open Go.Sem renaming run_bind->Å,runT_bind'->Ð,run->ä,runT->ç,bind->è,run_bind'->ł,bind_assoc'->Ű,runT_fst->Ÿ,runT_eq->Τ,pure->bj,store->dD,halt->eO
open Or renaming inl->Æ,inr->Í
open Go.Result renaming andThen_ok->Ê,ok->İ,halt->cD
open Go.Op renaming operands->Ì,equal->û,maxDepth->č,eqGuardIn->ļ,twoPlaces->Ŷ,equalIn->ς,addrSub->σ,addrCmp->υ,addrMod->φ,call->ae,intDiv->aH,shift->bl,convert->bn,stringOp->bQ,unary->cI,makeInterface->dc,floatArith->du,complexOp->dJ,buildSlice->dV,intArith->dW,floatCmp->dX,binOp->ey,makeSlice->ez,fieldAddr->eA,indexAddr->eB,intBits->eE,nilCheck->eV,intCmp->eW
open Go.stepG renaming exec->Î,apply->bV
open Go.MemOp renaming ofEvents->Ï
open Go.GoStatus renaming running->Ñ,finished->Ī,blocked->Ζ
open Nat renaming lt_of_lt_of_le->Ô,le_refl->á,le_trans->ö,exists_eq_add_of_le->ŏ,div_le_div_right->ax,add_assoc->dq,le_of_eq->dS,zero_le->dT
open Go.Builtin renaming firstCells->Õ,unsafeString_->ò,unsafeAdd_->ô,zeroCells->ú,unsafeSliceData_->Ģ,mayShare->Ĩ,nextslicecap->ķ,min2->Ŀ,append_->Ň,min_->ŗ,copy_->ť,len_->Ŵ,cap_->ŵ,lenOf->θ,holdsCells->aW,unsafeSliceData->bL,unsafeString->dy
open Go.Value renaming pointer->Ù,slice->ø,int->ē,string->Ĥ,bool->ō,tuple->ζ,nilIface->bD,nilFunc->cz,chan->eN
open List renaming map_toArray->Û,map_cons->æ,map_nil->é,mem_cons_self->ð,mem_cons_of_mem->õ,eq_nil_of_length_eq_zero->Č,zipIdx_cons->Ĺ,mem_cons->ŧ,mem_singleton->Γ,foldlM_cons->ν,filter_eq_nil_iff->ω,foldlM_nil->ah,forIn_cons->ai,mapM_cons->au,forIn_nil->aC,map_eq_nil_iff->aL,flatMap_cons->bC,mapM_nil->dt
open Go.IntKind renaming i64->â,u64->ë,u32->ū
open Go.Item renaming inRegion->å,code->ě,inLoop->dK,inBlock->dZ,inScope->ea
open Go.Act renaming eval->ê
open Go.MemAct renaming ofEvent->ì,touch?->ċ,mark->Ŭ
open Go.Conc renaming mem_ofEvents->ï,touchAt->Ħ,crowd->Ņ,woken->Ź,stepG_region_draw->Υ,parked->κ,Deaf->ψ,rcase->aj,stepG_unwanted->aB,lt_size_of_getElem?->aN,g?_old->bg,knows_own->bN,deafBehind_still->bO,stepG_value->bT,stepG_enter->bU,Knows->bW,stepG_cond->cZ,mem_listed->c8,stepG_none->c9,enter_at->da,deaf_old->dm,touch_of->eh,act?_old->ek,hb_app->eK,touch_mute->eL,counts_old->eM,act?_of->eU
open Go.Next renaming value->ñ,enter->Β,skip->bh
open Go.TypeDesc renaming pointer->ó,unsafePointer->Ĝ,string->ĥ,int->ι,struct->dG,slice->dH
open Go.Call renaming operands->ü
open Go.Conv renaming unsafePointer->ý,bytesToString->ć,seenAt->Ω,runesToString->bb,floatToFloat->bu,intToString->bI,floatToInt->cg,intToInt->dw
open Go.World renaming setCell->Ā,frozen?->ĉ,freeze->ġ,cell?->Ĭ,farLoad->ş,farStore->Ż,shape?->π,setChan->aQ,noCell->br,viewStore->b9
open Ne renaming symm->Ă
open Option.some renaming inj->Ą,injEq->ε
open Go.Loc renaming cell->Ć,mark->Η
open Go.Extern.BytealgMakeNoZero renaming makeNoZero->Ē,digits->ř
open Go.Mode renaming atomic->Ĕ,plain->ź
open Go.Obj renaming cells->ė,pending->Ο,chan->aD
open Go.Callee renaming builtin->ĩ,value->cM
open Go.Region renaming wanted->ı,schedule->cm,Mode->ZnI
open Go.Instr renaming sliceBounds->Ĳ,sliceBound->ĸ,buildSlice->ĺ,storeAt->Ł,makeSlice->ň,extract->š,fieldAt->Ţ,indexAt->ţ,sliceAt->Ť,makeInterface->Ų,loadAt->ų,sureAddr->ż,fill->Ž,alloc->Θ,field->Ι,slice->Κ,index->Λ,build->Μ,panic->Χ,box->aG
open Go.Deferred renaming ofValue->Ľ
open Go.Mark renaming releaseMerge->ń,noRoom->ο,disable->dh,acquire->di,enable->dR,release->ei
open Go.Extern.AbiNoEscape renaming same->Ő
open Go.Halt renaming unsupported->Œ
open Go.Unsupported renaming unsafePointer->œ,resourceLimit->ſ,noEntry->cH
open Go.Trace renaming g?->Ř
open Go.Stepped renaming next->Ś
open Go.Touch.Kind renaming atomic->Ũ
open Go.Frame renaming raise->Ū,finish_at->ag,finish->bA,catches->dx,enter->ec
open Go.Question renaming appendCap->ž
open Go.GStep renaming after->Ρ,go->bz
open Go.RuntimeError renaming error->η
open Go.Goroutine renaming again->ak
open Except renaming bind->ay,pure->az,error->bZ,map->cN
open Go.Op.Complex renaming corrected->aA,quotient->aK,product->aX,arith->bH,conv->cj,cmp->cQ,mul->cR,add->cS,sub->cT,quo->cU
open Go.BinOp renaming eql->aV,neq->bm
open Go.Operand renaming func->bq,const->eC,global->eR
open Go.Code renaming cond->bS,region->cx,refuse->dM,label->eF,block->eG,scope->eH
open Go.ConcN renaming sumTo->bX,fork_knows->dp
variable{i n j b k m J j9 j7 j6:Nat}{w u W jX:È}{v x z jQ:Ã}{g:Ó}{a p:Ü}{h c:Int}{e t T:Á}{d q:Array Ã}{P:Ø}{y:bY}{B:ByteArray}{X:Nat->Prop}{O:Option Ü}{l:List Ã}{yQ:Bool}{K H:bY->È->Prop}{o:aR}{D:Nat->Nat}{E:Array Ó}{L:List ű}{jJ:List Nat}{qX:List ģ}{qQ:Ú}{qJ:ī}{zX:eu->Prop}{zQ:List Int}{zJ:Go.TypeInfo}{xX:Ú->Ã}{xQ:aE}{xJ:Nat×Nat}{wX:aO}{wQ:dA}{wJ:Array Bool}{vX:List ByteArray}{vQ:Ã->È->Prop}{vJ:Go.Exit->bY->È->Prop}{yX:ZnI}{Q:Array aR}{f:ģ}{V:Array Ĉ}{F:ã}{s:Go.Func}
namespace Go.Proofs
theorem U{A:Sort _}{a:A}:a=a:=rfl
theorem Z{p:Prop}(h:p:=by omega):p:=h
theorem A{p:Prop}(h:p:=by decide):p:=h
theorem fj{p:Prop}(h:p:=by simp):p:=h
theorem ft{p:Prop}(h:p:=by kernel_rfl):p:=h
theorem fP{p:Prop}(h:p:=by rfl):p:=h
end Go.Proofs
namespace Go.Proofs.Y.Lift
open Go
structure fp where
 jD:Nat->Nat->Prop
 C:Nat
instance:CoeFun fp λ_=>Nat->Nat->Prop:=⟨fp.jD⟩
def Bi(Y:fp):Prop:=(∀i j a,Y i j->Y i a->j=a)/\(∀i a j,Y i j->Y a j->i=a)/\(∀i j,Y i j->(i<Y.C↔j<Y.C))
def fp.r(Y a:fp):Prop:=(∀i j,Y i j->a i j)/\(Bi Y->Bi a)/\a.C=Y.C
def fp.N(Y:fp)(r a:Nat):fp:=⟨λi j=>Y i j\/(i=r/\j=a),Y.C⟩
def fp.M(Y:fp):Y.r Y:=⟨λ_ _ h=>h,id,U⟩
def fp.I{a b c:fp}(h:a.r b)(k:b.r c):a.r c:=⟨λi j x=>k.1 i j<|h.1 i j x,λx=>k.2.1<|h.2.1 x,k.2.2.trans h.2.2⟩
def fp.S{Y:fp}{r:Nat}(c:∀j,¬Y r j)(d:∀a,¬Y a i)(f:Y.C<=r)(g:Y.C<=i):Y.r (Y.N r i):=by
 refine⟨λ_ _ h=>Æ h,λb=>⟨?_,?_,?_⟩,U⟩
 .rintro a j k (x|⟨rfl,rfl⟩) (y|⟨e,rfl⟩)
  .exact b.1 _ _ _ x y
  .subst e;exact absurd x<|c _
  .exact absurd y<|c _
  .rfl
 .rintro a k j (x|⟨rfl,rfl⟩) (y|⟨rfl,e⟩)
  .exact b.2.1 _ _ _ x y
  .subst e;exact absurd x<|d _
  .exact absurd y<|d _
  .rfl
 .rintro a j (x|⟨rfl,rfl⟩)
  .exact b.2.2 _ _ x
  .show(a<Y.C↔j<Y.C);omega
def gY(Y:fp)(a b:Ü):Prop:=Y a.block b.block/\a.off=b.off/\a.spot=b.spot
def gY.r{Y b:fp}(h:Y.r b)(r:gY Y a p):gY b a p:=⟨h.1 _ _ r.1,r.2⟩
def gY.C{Y:fp}(r:gY Y a p)(n:Nat):gY Y (a.add n) (p.add n):=by
 let⟨b,c,d⟩:=r;unfold Addr.add;by_cases e:n=0
 .rw[if_pos e,if_pos e];exact⟨b,c,d⟩
 .rw[if_neg e,if_neg e];exact⟨b,by simp[c],U⟩
inductive fl(Y:fp):Ã->Ã->Prop
 |mo (b:Bool):fl Y (ō b) (ō b)
 |iF (k:ą) (n:Int):fl Y (ē k n) (ē k n)
 |kE (s:ByteArray):fl Y (Ĥ s) (Ĥ s)
 |lL:fl Y (Ù í) (Ù í)
 |jV {a a':Ü} (h:gY Y a a'):fl Y (Ù<|À a) (Ù<|À a')
 |nK (n c:Nat):fl Y (ø í n c) (ø í n c)
 |kO {a a':Ü} (h:gY Y a a') (n c:Nat):fl Y (ø (À a) n c) (ø (À a') n c)
 |uZ:fl Y cz cz
 |fn (f:Fn):fl Y (.func f #[] #[]) (.func f #[] #[])
 |u9:fl Y bD bD
 |va:fl Y (eN í) (eN í)
 |vd:fl Y (.map í) (.map í)
 |yk (t:Á) {v v':Ã} (h:fl Y v v'):fl Y (.iface t v) (.iface t v')
 |oy {cs lM:Array Ã} (hs:cs.size=lM.size) (h:∀i (h1:i<cs.size) (h2:i<lM.size),fl Y cs[i] lM[i]):fl Y (.agg cs) (.agg lM)
 |nL {cs lM:Array Ã} (hs:cs.size=lM.size) (h:∀i (h1:i<cs.size) (h2:i<lM.size),fl Y cs[i] lM[i]):fl Y (ζ cs) (ζ lM)
def fl.fN{Y a:fp}(h:Y.r a)(r:fl Y v x):fl a v x:=by
 induction r with
 |mo b=>exact .mo b
 |iF k n=>exact .iF k n
 |kE s=>exact .kE s
 |lL=>exact .lL
 |jV b=>exact .jV (b.r h)
 |nK n c=>exact .nK n c
 |kO b n c=>exact .kO (b.r h) n c
 |uZ=>exact .uZ
 |fn f=>exact .fn f
 |u9=>exact .u9
 |va=>exact .va
 |vd=>exact .vd
 |yk t _ b=>exact .yk t b
 |oy c _ b=>exact .oy c b
 |nL c _ b=>exact .nL c b
structure fQ(Y:fp)(cs lM:Array Ã):Prop where
 r:cs.size=lM.size
 C:∀i (h1:i<cs.size) (h2:i<lM.size),fl Y cs[i] lM[i]
def fQ.I{Y a:fp}(h:Y.r a){cs:Array Ã}(r:fQ Y cs d):fQ a cs d:=⟨r.r,λi b c=>(r.C i b c).fN h⟩
def fQ.S{Y:fp}(r:fQ Y d q)(i:Nat):(d[i]?=í/\q[i]?=í)\/∃v b,d[i]?=À v/\q[i]?=À b/\fl Y v b:=by
 by_cases h:i<d.size
 .have a:i<q.size:=by rwa[<-r.r]
  exact Í ⟨d[i],q[i],ß h,ß a,r.C i h a⟩
 .have a:¬i<q.size:=by rwa[<-r.r]
  exact Æ ⟨ő Z,ő Z⟩
def fQ.N(Y:fp):fQ Y #[] #[]:=⟨U,λi h=>absurd h fj⟩
def fQ.U6{Y:fp}(r:fQ Y d q)(h:fl Y v x):fQ Y (d.push v) (q.push x):=by
 refine⟨by simp[r.r],λi b c=> ?_⟩;simp only[Array.getElem_push];have e:=r.r;by_cases a:i<d.size
 .rw[dif_pos a,dif_pos Z];exact r.C i a Z
 .rwa[dif_neg a,dif_neg Z]
def fQ.qC{Y:fp}(r:fQ Y d q)(n:Nat)(h:fl Y v x):fQ Y (d.setIfInBounds n v) (q.setIfInBounds n x):=by
 refine⟨by simp[r.r],λi c f=> ?_⟩;have g:i<d.size:=by simpa using c
 have j:i<q.size:=by simpa using f
 have a:(d.setIfInBounds n v)[i]?=if n=i then À v else d[i]?:=by
  rw[ď];by_cases e:n=i
  .rw[if_pos e,if_pos e,if_pos Z]
  .rw[if_neg e,if_neg e]
 have b:(q.setIfInBounds n x)[i]?=if n=i then À x else q[i]?:=by
  rw[ď];by_cases e:n=i
  .rw[if_pos e,if_pos e,if_pos Z]
  .rw[if_neg e,if_neg e]
 rw[ß c]at a;rw[ß f]at b;by_cases e:n=i
 .rw[if_pos e]at a b;injection a with a;injection b with b;rwa[a,b]
 .rw[if_neg e]at a b;rw[ß g]at a;rw[ß j]at b;injection a with a;injection b with b;rw[a,b];exact r.C i g j
def fQ.G{Y:fp}{cs b:Array Ã}(r:fQ Y cs d)(t:fQ Y q b):fQ Y (cs++q) (d++b):=by
 refine⟨by simp[r.r,t.r],λi c g=> ?_⟩;have e:=r.r;have f:=t.r;simp only[Array.getElem_append];by_cases a:i<cs.size
 .rw[dif_pos a,dif_pos Z];exact r.C i a Z
 .rw[dif_neg a,dif_neg Z];have:=t.C (i-cs.size) (by simp at c;omega) (by simp at c;omega);simpa[e]using this
def fQ.GD{Y:fp}(r:fQ Y d q)(a b:Nat):fQ Y (d.extract a b) (q.extract a b):=by refine⟨by simp[r.r],λi c e=> ?_⟩;rw[ar ..,ar ..];exact r.C _ _ _
def fQ.M{Y:fp}(h:fl Y v x):fQ Y #[v] #[x]:= ⟨U,λi a b=>by have:i=0:=(by simpa using a);subst this;exact h⟩
def fl.gS{Y:fp}(h:fl Y v x):fQ Y v.cells x.cells:=by
 cases h with
 |oy a h=>exact⟨a,h⟩
 |mo b=>exact fQ.M<|.mo b
 |iF k n=>exact fQ.M<|.iF k n
 |kE s=>exact fQ.M<|.kE s
 |lL=>exact fQ.M .lL
 |jV b=>exact fQ.M<|.jV b
 |nK n c=>exact fQ.M<|.nK n c
 |kO b n c=>exact fQ.M<|.kO b n c
 |uZ=>exact fQ.M .uZ
 |fn f=>exact fQ.M<|.fn f
 |u9=>exact fQ.M .u9
 |va=>exact fQ.M .va
 |vd=>exact fQ.M .vd
 |yk t b=>exact fQ.M<|.yk t b
 |nL a h=>exact fQ.M<|.nL a h
def yl:Ã->Bool
 |.agg _|ζ _=>Â
 |_=>Ë
def GF(e:Á)(n:Nat):Prop:=(e=304\/e=305)/\n<=16
class Aq (P:Ø):Prop where
 lt:∀e n,GF e n->n<P.cellsOf e
def Ef(e:Á)(n a:Nat):Prop:=n=a\/(n<=a/\GF e n)
structure oX(Y:fp)(s:Prop)(e:Á)(c c':Array Ã):Prop where
 r:∀i (_:i<c.size) (_:i<c'.size),fl Y c[i] c'[i]
 I:c.size<=c'.size
 C:c.size=c'.size\/(s/\GF e c.size)
section
variable{Y d:fp}{s:Prop}{c c':Array Ã}
def oX.M(h:fQ Y c c'):oX Y s e c c':=⟨h.C,by rw[h.r];exact á _,Æ h.r⟩
def oX.N(h:oX Y s e c c')(a:¬s):fQ Y c c':=⟨h.C.resolve_right λq=>a q.1,h.r⟩
def oX.fN(h:oX Y s e c c')(l:Y.r d):oX d s e c c':=⟨λi a b=>(h.r i a b).fN l,h.I,h.C⟩
def oX.GG(h:oX Y s e c c')(i:Nat):(c[i]?=í/\True)\/∃v a,c[i]?=À v/\c'[i]?=À a/\fl Y v a:=by
 by_cases q:i<c.size
 .have b:=Ô q h.I;exact Í ⟨c[i],c'[i],ß q,ß b,h.r i q b⟩
 .exact Æ ⟨ő Z,trivial⟩
def oX.acB(h:oX Y s e c c'):Ef e c.size c'.size:=h.C.imp id λq=>⟨h.I,q.2⟩
end
inductive fG(P:Ø){α:Type}(V:fp->α->α->Prop):fp->Ğ α->Ğ α->Prop
 |fE {Y:fp} {a a':α} (h:V Y a a'):fG P V Y (bj a) (bj a')
 |gy {Y:fp} {a a':Ü} {k k':Ã->Ğ α} (ha:gY Y a a') (hk:∀v v',fl Y v v'->fG P V Y (k v) (k' v')):fG P V Y (.load ź a k) (.load ź a' k')
 |jb {Y:fp} {a a':Ü} {v v':Ã} {k k':Ğ α} (ha:gY Y a a') (hv:fl Y v v') (hk:fG P V Y k k'):fG P V Y (dD ź a v k) (dD ź a' v' k')
 |ym {Y:fp} {c c':Array Ã} {e:Á} {k k':Nat->Ğ α} (hc:fQ Y c c') (hk:∀r r',(∀j,¬Y r j)->(∀i,¬Y i r')->Y.C<=r->Y.C<=r'->fG P V (Y.N r r') (k r) (k' r')):fG P V Y (.new (ė c e) k) (.new (ė c' e) k')
 |ve {Y:fp} {r r':Nat} {k k':Option (TypeId×Nat)->Ğ α} (hr:Y r r') (hk:∀e n n',Ef e n n'->fG P V Y (k<|À (e,n)) (k'<|À (e,n'))):fG P V Y (.shape r k) (.shape r' k')
 |OA {Y:fp} {a a':Ü} {k k':Bool->Ğ α} (ha:gY Y a a') (hk:∀b b',(b'=Ë->b=Ë)->fG P V Y (k b) (k' b')):fG P V Y (.frozen a k) (.frozen a' k')
 |Ar {Y:fp} {q:cA} {k k':Nat->Ğ α} (hk:∀n,fG P V Y (k n)<|k' n):fG P V Y (.choose q k) (.choose q k')
 |Kf {Y:fp} {k k':Ø->Ğ α} (hk:fG P V Y (k P) (k' P)):fG P V Y (.program k) (.program k')
 |Eg {Y:fp} {m:Mark} {k k':Ğ α} (hm:m=ο\/∃f,m=.extern f) (hk:fG P V Y k k'):fG P V Y (.mark m k) (.mark m k')
 |fO {Y:fp} {h:Halt} {m:Ğ α}:fG P V Y (eO h) m
 |oz {Y:fp} {m m':Ğ α} (h:∀u x u',m.run P u≠İ x u'):fG P V Y m m'
def vf{α β:Type}{m:Ğ α}{f:α->Ğ β}(h:∀u x b,m.run P u≠İ x b):∀u x b,(m.bind f).run P u≠İ x b:=by
 intro u x b e;have c:(m>>=f).run P u=İ x b:=e;rw[Å]at c;cases d:m.run P u with
 |ok a w=>exact h _ _ _ d
 |halt z w=>rw[d]at c;cases c
def fG.lN{α β:Type}{V:fp->α->α->Prop}{l:fp->β->β->Prop}{Y:fp}{m o:Ğ α}{f p:α->Ğ β}(h:fG P V Y m o) (g:∀i a k,Y.r i->V i a k->fG P l i (f a) (p k)):fG P l Y (m.bind f) (o.bind p):=by
 induction h with
 |fE h=>exact g _ _ _ (fp.M _) h
 |gy j _ d=>exact .gy j λv c b=>d v c b g
 |jb j b _ d=>exact .jb j b (d g)
 |ym q _ d=>exact .ym q λr s c e n v=>d r s c e n v λi a k t b=>g i a k (fp.I (fp.S c e n v) t) b
 |ve b _ d=>exact .ve b λe n v c=>d e n v c g
 |OA j _ d=>exact .OA j λb c v=>d b c v g
 |Ar _ d=>exact .Ar λn=>d n g
 |Kf _ d=>exact .Kf (d g)
 |Eg c _ d=>exact .Eg c (d g)
 |fO=>exact .fO
 |oz h=>exact .oz (vf h)
def yn:Ã->Bool
 |ē .u8 _=>Ë
 |_=>Â
def Eh(c:Array Ã):Prop:=∀(k:Nat) (v:Ã),c[k]?=À v->yn v=Â
structure jg(Y:fp)(Sh:Nat->Prop)(u w:È):Prop where
 S:u.tape=w.tape
 N:u.drawn=w.drawn
 C:Bi Y
 I:Y.C<=u.heap.size
 M:Y.C<=w.heap.size
 r:∀i j,Y i j->∃c c' e fr wA,u.heap[i]?=À (ė c e fr)/\w.heap[j]?=À (ė c' e wA)/\oX Y (Sh j) e c c'/\(Sh j->fr.1=0/\c.size<=fr.2/\wA.2<=fr.2/\0<c.size/\(Eh c\/GF e c.size))/\(¬Sh j->fr=wA)/\fr.2<=c.size
structure nN(Y:fp)(Sh:Nat->Prop)(w w':È):Prop where
 r:w.heap.size<=w'.heap.size
 I:w'.os=w.os
 M:w'.output=w.output
 S:w'.tape=w.tape
 C:∀j,j<w.heap.size->(∀i,¬Y i j)->w'.heap[j]?=w.heap[j]?
 N:∀j,Sh j->j<w.heap.size->w'.heap[j]?=w.heap[j]?
def As(Y:fp)(b:Nat->Prop)(e:Ĉ):Prop:=
 (∃(a:Ü) (i:Nat),e.loc=Ć a/\Y i a.block/\e.sync=Â/\(e.write=Ë->¬b a.block))\/e.loc=Η ο\/∃f,e.loc=Η (.extern f)
def wB{α:Type}{m:Mode}{k:Ğ α}(h:yl v=Ë): ä P (dD m a v k) w=(match w.cell? a with
 |some _=>if w.frozen? a then cD (Œ<|œ "a write to bytes that a string shares") w else k.run P (w.setCell a v)
 |none=>match w.farStore P a v (m==Ĕ)with
  |.ok (w,_)=>k.run P w
  |bZ h=>cD h w):=by
 cases v<;>first|rfl|cases h
def acC{α:Type}{m:Mode}{k:Ğ α}(h:yl v=Ë): ç P (dD m a v k) w V=(match w.cell? a with
 |some _=>
  if w.frozen? a then(cD (Œ<|œ "a write to bytes that a string shares") w,V)
  else k.runT P (w.setCell a v) (V.push ⟨Ć a,Ë,m==Ĕ⟩)
 |none=>match w.farStore P a v (m==Ĕ)with
  |.ok (w,touched)=>k.runT P w (V++touched.toArray.map (⟨.cell ·,Ë,m==.atomic⟩))
  |bZ h=>(cD h w,V)):=by
 cases v<;>first|rfl|cases h
def acD{α:Type}{m:Mode}{k:Ğ α}(h:yl v=Â){x:α}:ä P (dD m a v k) w≠İ x u:=by cases v<;>first|exact Bool.noConfusion h|(intro e;simp[ä]at e)
def acE{Y:fp}(h:fl Y v x):yl x=yl v:=by cases h<;>rfl
section
variable{Y:fp}
def At(h:u.heap[a.block]?=À (ė d e xJ)):u.cell? a=if a.spot.isSome then í else d[a.off]?:=by simp[Ĭ,h]
def acG(h:u.heap[a.block]?=À (ė d e xJ))(b:Bool):∃x,u.farLoad P a b=bZ x:=by simp[ş,h]
def acH(h:u.heap[a.block]?=À (ė d e xJ))(b:Bool):∃x,u.farStore P a v b=bZ x:=by simp[Ż,h]
def jg.gy(h:jg Y X u w){a':Ü}(i:gY Y a a')(b:u.cell? a=À v):∃f,w.cell? a'=À f/\fl Y v f:=by
 let⟨j,k,l⟩:=i;let⟨c,s,e,t,y,m,n,o,_⟩:=h.r _ _ j;rw[At m]at b;rw[At n,<-k,<-l];cases g:a.spot with
 |some x=>rw[g]at b;cases b
 |none=>
  rw[g]at b;rcases o.GG a.off with⟨d,_⟩|⟨x,p,d,q,r⟩
  .simp[d]at b
  .simp[d]at b;subst b;exact⟨p,by simp[q],r⟩
def jg.acI(h:jg Y X u w)(i:gY Y a p)(b:u.cell? a=À v)(j:u.frozen? a=Â):¬X p.block/\w.frozen? p=Â:=by
 let⟨k,l,r⟩:=i;let⟨c,t,e,d,y,f,m,z,n,o,B⟩:=h.r _ _ k;rw[At f]at b;have C:a.off<c.size:=by
  cases s:a.spot with
  |some x=>rw[s]at b;cases b
  |none=>rw[s]at b;exact(Ä.1<|by simpa using b).1
 have x:(decide (d.1<=a.off)&&decide (a.off<d.2))=Â:=by simpa[ĉ,f]using j
 have g:¬X p.block:=by intro s;let⟨q,D,_⟩:=n s;simp[q]at x;omega
 refine⟨g,?_⟩;have:=o g;subst this;simp only[ĉ,m,<-l];exact x
def U7{w:È}(h:w.heap[a.block]?=À (ė d e xJ))(b:a.spot=í): (w.setCell a v).heap[a.block]?=À (ė (d.setIfInBounds a.off v) e xJ):=by simp[Ā,à,h,b]
def jO{w:È}:(w.setCell a v).heap.size=w.heap.size:=by simp[Ā]
def Kg{w:È}(h:a.block≠j):(w.setCell a v).heap[j]?=w.heap[j]?:=by simp[Ā,à,h]
def jg.jb(h:jg Y X u w)(C:gY Y a p)(D:fl Y v z)(d:u.cell? a=À x)(n:¬X p.block):jg Y X (u.setCell a v) (w.setCell p z):=by
 let⟨f,E,F⟩:=C;have o:a.spot=í:=by
  let⟨c,q,e,g,k,b,_⟩:=h.r _ _ f;rw[At b]at d;cases i:a.spot with
  |some x=>rw[i]at d;cases d
  |none=>rfl
 refine⟨h.S,h.N,h.C,by rw[jO];exact h.I,by rw[jO];exact h.M,λi j l=> ?_⟩;let⟨c,q,e,g,k,b,r,t,G,y,B⟩:=h.r i j l;by_cases m:a.block=i
 .subst m;have:j=p.block:=h.C.1 _ _ _ l f;subst this;exact⟨_,_,e,g,k,U7 b o,U7 r (by rw[<-F,o]),by rw[<-E];exact oX.M<|(t.N n).qC _ D,λs=>absurd s n,y,by simpa using B⟩
 .exact⟨c,q,e,g,k,by rwa[Kg m],by rwa[Kg λe=>m<|h.C.2.1 _ _ _ f<|e▸l],t,G,y,B⟩
def jg.ym(h:jg Y X u w)(m:∀j,X j->j<w.heap.size)(n:fQ Y d q): jg (Y.N u.heap.size w.heap.size) X {u with heap:=u.heap.push (ė d e)} {w with heap:=w.heap.push (ė q e)}:=by
 have a:∀i j,Y i j->i<u.heap.size/\j<w.heap.size:=by intro i j s;let⟨_,_,_,_,_,b,f,_⟩:=h.r i j s;exact⟨(Ä.1 b).1,(Ä.1 f).1⟩
 have g:=fp.S (Y:=Y) (λj x=>absurd (a _ _ x).1 Z) (λi x=>absurd (a _ _ x).2 Z) h.I h.M;refine⟨h.S,h.N,g.2.1 h.C,by have:=h.I;simp[fp.N];omega,by have:=h.M;simp[fp.N];omega,?_⟩
 .rintro i j (x|⟨rfl,rfl⟩)
  .let⟨s,o,p,r,t,b,f,v,y,z,B⟩:=h.r i j x;let⟨k,l⟩:=a i j x;exact⟨s,o,p,r,t,by simp only[į k];rw[<-b,ß k],by simp only[į l];rw[<-f,ß l],v.fN g,y,z,B⟩
  .exact⟨d,q,e,(0,0),(0,0),fj,fj,oX.M<|n.I g,λs=>absurd (m _ s) Z,λ_=>rfl,dT _⟩
def nN.fT(Y:fp)(X:Nat->Prop)(w:È):nN Y X w w:=⟨á _,U,U,U,λ_ _ _=>rfl,λ_ _ _=>rfl⟩
def nN.fg{b:fp}{w₁:È}(h:nN Y X w w₁)(k:nN b X w₁ u)(d:∀i j,b i j->Y i j\/w.heap.size<=j):nN Y X w u:= ⟨ö h.r k.r,k.I.trans h.I,k.M.trans h.M,k.S.trans h.S,λj a c=>(k.C j (Ô a h.r) λi y=>(d i j y).elim (c i) λz=>by omega).trans<|h.C j a c,λj s a=>(k.N j s<|Ô a h.r).trans<|h.N j s a⟩
def Kh{w:È}:(w.freeze a n).heap.size=w.heap.size:=by unfold ġ;split<;>simp
def acJ{w:È}:(w.freeze a n).os=w.os:=by unfold ġ;split<;>rfl
def acK{w:È}:(w.freeze a n).output=w.output:=by unfold ġ;split<;>rfl
def OB{w:È}:(w.freeze a n).tape=w.tape:=by unfold ġ;split<;>rfl
def U8{w:È}:(w.freeze a n).drawn=w.drawn:=by unfold ġ;split<;>rfl
def Ki{w:È}(h:a.block≠j):(w.freeze a n).heap[j]?=w.heap[j]?:=by
 unfold ġ;split
 .rfl
 .simp[à,h]
def sE(a:Ü)(n:Nat)(b:Nat×Nat):Nat×Nat:=if n=0 then b else if b.1==b.2 then(a.off,a.off+n)else(min b.1 a.off,max b.2<|a.off+n)
def U9{w:È}(h:w.heap[a.block]?=À (ė d e xJ)):(w.freeze a n).heap[a.block]?=À (ė d e<|sE a n xJ):=by
 unfold ġ sE;by_cases b:n=0
 .rwa[if_pos b,if_pos b]
 .rw[if_neg b,if_neg b];simp[à,h]
def Va(h:a.off=p.off)(n:Nat)(b:Nat×Nat):sE a n b=sE p n b:=by unfold sE;rw[h]
def acM(h:a.off+n<=i)(b:xJ.2<=i):(sE a n xJ).2<=i:=by
 unfold sE;split
 .exact b
 .split
  .exact h
  .exact Nat.max_le.2 ⟨b,h⟩
def acN{b:Nat×Nat}(h:0<i)(c:xJ.1=0)(f:i<=xJ.2)(g:b.2<=xJ.2):(sE a n xJ).1=0/\i<=(sE a n xJ).2/\(sE a n b).2<=(sE a n xJ).2:=by
 unfold sE;by_cases d:n=0
 .simp only[if_pos d];exact⟨c,f,g⟩
 .have e:(xJ.1==xJ.2)=Â:=by rw[beq_eq_false_iff_ne];omega
  simp only[if_neg d,e,Ç,if_false];refine⟨by simp[c],Z,?_⟩;split<;>simp only<;>omega
def jg.acO(h:jg Y X u w)(y:gY Y a p)(n:Nat)(z:∀c e b,u.heap[a.block]?=À (ė c e b)->a.off+n<=c.size):jg Y X (u.freeze a n) (w.freeze p n):=by
 obtain⟨k,l,I⟩:=y;refine⟨OB.trans<|h.S.trans OB.symm,U8.trans<|h.N.trans U8.symm,h.C,by rw[Kh];exact h.I,by rw[Kh];exact h.M,λi j d=> ?_⟩;obtain⟨c,m,e,b,B,f,o,q,r,t,v⟩:=h.r i j d;by_cases g:a.block=i
 .subst g;have:j=p.block:=h.C.1 _ _ _ d k;subst this;refine⟨c,m,e,_,_,U9 f,U9 o,q,λs=> ?_,λs=> ?_,acM (z _ _ _ f) v⟩
  .obtain⟨C,D,E,x⟩:=r s;rw[<-Va l];obtain⟨F,G,H⟩:=acN x.1 C D E;exact⟨F,G,H,x⟩
  .rw[t s,Va l]
 .exact⟨c,m,e,b,B,by rwa[Ki g],by rwa[Ki λe=>g<|h.C.2.1 _ _ _ k<|e▸d],q,r,t,v⟩
def jg.G(h:jg Y X u w)(b:gY Y a p):w.frozen? p=Ë->u.frozen? a=Ë:=by
 let⟨d,f,l⟩:=b;let⟨c,m,e,n,o,g,i,q,j,k,r⟩:=h.r _ _ d;simp only[ĉ,g,i,<-f,ĕ,decide_eq_true_eq];rintro⟨x,y⟩;by_cases s:X p.block
 .let⟨t,v,z⟩:=j s;exact⟨Z,Z⟩
 .rw[k s];exact⟨x,y⟩
def fG.gk{α:Type}{V:fp->α->α->Prop}{Y:fp}{m m':Ğ α}(h:fG P V Y m m'):∀{u w:È},jg Y X u w->(∀j,X j->j<w.heap.size)->∀{x:α} {E:È},m.run P u=İ x E->∀n:Array Ĉ,∃(l:fp) (t:α) (p:È) (B:Array Ĉ),Y.r l/\(∀i j,l i j->Y i j\/(u.heap.size<=i/\w.heap.size<=j))/\m'.runT P w n=(İ t p,n++B)/\V l x t/\jg l X E p/\nN Y X w p/\(∀e∈B,As l X e)/\u.heap.size<=E.heap.size:=by
 induction h with
 |fE h=>
  intro u w d _ x E b n;simp only[ä]at b;cases b;exact⟨_,_,w,#[],fp.M _,λ_ _ h=>Æ h,by simp[ç],h,d,nN.fT _ _ _,λe o=>by simp at o,á _⟩
 |@gy Y a a' k k' ha hk D=>
  intro u w d C x E b n;simp only[ä]at b;cases f:u.cell? a with
  |none=>
   let⟨c,Q,e,fr,wA,N,_⟩:=d.r _ _ ha.1;let⟨z,s⟩:=acG (P:=P) N<|ź==Ĕ;rw[f]at b;simp only[s]at b;cases b
  |some v=>
   rw[f]at b;let⟨W,S,y⟩:=d.gy ha f;let⟨l,t,p,B,F,G,I,J,K,g,L,H⟩:=D v W y d C b<|n.push ⟨Ć a',Â,Â⟩;refine⟨l,t,p,#[⟨Ć a',Â,Â⟩]++B,F,G,?_,J,K,g,λe o=> ?_,H⟩
   .simp only[ç,S];rw[show((ź==Ĕ)=Â)from U,I];rw[<-ŋ,Ŕ]
   .rcases ħ.1 o with o|o
    .simp at o;subst o;exact Æ ⟨a',_,U,F.1 _ _ ha.1,U,λe=>by cases e⟩
    .exact L e o
 |@jb Y a a' v W k k' ha hv _ D=>
  intro u w d C x E b n;cases ho:yl v with
  |false=>exact absurd b<|acD ho
  |true=>
   rw[wB ho]at b;cases f:u.cell? a with
   |none=>
    let⟨c,Q,e,fr,wA,N,_⟩:=d.r _ _ ha.1;let⟨z,s⟩:=acH (P:=P) (v:=v) N<|ź==Ĕ;rw[f]at b;simp only[s]at b;cases b
   |some y=>
    rw[f]at b;cases M:u.frozen? a with
    |true=>rw[M]at b;simp at b
    |false=>
     simp only[M,Ç,if_false]at b;let⟨ns,hf'⟩:=d.acI ha f M;let⟨y',OC,_⟩:=d.gy ha f;let⟨l,t,p,B,F,G,I,J,K,g,L,H⟩:=D (d.jb ha hv f ns) (by rwa[jO]) b<|n.push ⟨Ć a',Ë,Â⟩;have S:(w.setCell a' W).heap.size=w.heap.size:=jO;have Vb:(u.setCell a v).heap.size=u.heap.size:=jO;refine⟨l,t,p,#[⟨Ć a',Ë,Â⟩]++B,F,by rwa[S,Vb]at G,?_,J,K,?_,λe o=> ?_,by rwa[Vb]at H⟩
     .rw[acC<|(acE hv).trans ho,OC];simp only[hf',Ç,if_false];rw[show((ź==Ĕ)=Â)from U,I];rw[<-ŋ,Ŕ]
     .refine⟨by rw[<-S];exact g.r,g.I,g.M,g.S,λj O T=> ?_,λj s O=>(g.N j s<|by rwa[S]).trans<|Kg λe=>ns<|e▸s⟩;rw[g.C j (by rwa[S]) T];exact Kg λe=>T a.block<|e▸ha.1
     .rcases ħ.1 o with o|o
      .simp at o;subst o;exact Æ ⟨a',_,U,F.1 _ _ ha.1,U,λ_=>ns⟩
      .exact L e o
 |@ym Y c Q e k k' f _ D=>
  intro u w d C x E b n;simp only[ä]at b;have lo:∀i j,Y i j->i<u.heap.size/\j<w.heap.size:=by intro i j S;let⟨_,_,_,_,_,N,W,_⟩:=d.r i j S;exact⟨(Ä.1 N).1,(Ä.1 W).1⟩
  have n1:∀j,¬Y u.heap.size j:=λj y=>absurd (lo _ _ y).1 Z;have n2:∀i,¬Y i w.heap.size:=λi y=>absurd (lo _ _ y).2 Z;let⟨l,t,p,B,F,G,I,J,K,g,L,H⟩:=D u.heap.size w.heap.size n1 n2 d.I d.M (d.ym C f) (λj s=>by have:=C j s;simp;omega) b n;refine⟨l,t,p,B,fp.I (fp.S n1 n2 d.I d.M) F,λi j S=> ?_,by simp only[ç];exact I,J,K,?_,L,by simp at H;omega⟩
  .rcases G i j S with(y|⟨rfl,rfl⟩)|y
   .exact Æ y
   .exact Í ⟨á _,á _⟩
   .simp at y;exact Í ⟨Z,Z⟩
  .have hs:=g.r;simp at hs;refine⟨Z,g.I,g.M,g.S,λj O T=> ?_,λj s O=>(g.N j s<|by simp;omega).trans ?_⟩
   .rw[g.C j (by simp;omega) (λi z=>z.elim (T i) λz=>by omega)];simp[į O]
   .simp[į O]
 |@ve Y r r' k k' oY _ D=>
  intro u w d C x E b n;simp only[ä]at b;let⟨c,Q,e,fr,wA,N,W,S,_⟩:=d.r _ _ oY;have f:u.shape? r=À (e,c.size):=by simp[π,N]
  have s:w.shape? r'=À (e,Q.size):=by simp[π,W]
  rw[f]at b;let⟨l,t,p,B,h⟩:=D e c.size Q.size S.acB d C b n;exact⟨l,t,p,B,by simp only[ç,s];exact h⟩
 |@OA Y a a' k k' ha _ D=>
  intro u w d C x E b n;simp only[ä]at b;let⟨l,t,p,B,h⟩:=D (u.frozen? a) (w.frozen? a') (d.G ha) d C b n;exact⟨l,t,p,B,by simpa only[ç]using h⟩
 |@Ar Y q k k' _ D=>
  intro u w d C x E b n;simp only[ä]at b;cases M:q.forced with
  |true=>
   rw[M]at b;simp only[if_true]at b;let⟨l,t,p,B,h⟩:=D 0 d C b n;exact⟨l,t,p,B,by simpa only[ç,M,if_true]using h⟩
  |false=>
   rw[M]at b;simp only[Ç,if_false]at b;have S:jg Y X {u with drawn:=u.drawn+1} {w with drawn:=w.drawn+1}:=⟨d.S,by simp[d.N],d.C,d.I,d.M,d.r⟩;rw[d.S,d.N]at b;obtain⟨l,t,p,B,F,G,I,J,K,g,L,H⟩:=D (q.cut<|w.tape w.drawn q) S C (by rwa[d.S,d.N]) n;exact⟨l,t,p,B,F,G,by simp only[ç,M,Ç,if_false];exact I,J,K,⟨g.r,g.I,g.M,g.S,g.C,g.N⟩,L,H⟩
 |Kf _ D=>
  intro u w d C x E b n;simp only[ä]at b;let⟨l,t,p,B,h⟩:=D d C b n;exact⟨l,t,p,B,by simpa only[ç]using h⟩
 |@Eg Y mk k k' hm _ D=>
  intro u w d C x E b n;simp only[ä]at b;let⟨l,t,p,B,F,G,I,J,K,g,L,H⟩:=D d C b<|n.push ⟨Η mk,Â,Ë⟩;refine⟨l,t,p,#[⟨Η mk,Â,Ë⟩]++B,F,G,?_,J,K,g,λe o=> ?_,H⟩
  .simp only[ç];rw[I];rw[<-ŋ,Ŕ]
  .rcases ħ.1 o with o|o
   .simp at o;subst o;rcases hm with rfl|⟨f,rfl⟩
    .exact Í<|Æ U
    .exact Í<|Í ⟨f,U⟩
   .exact L e o
 |fO=>
  intro u w _ _ x E b n;simp only[ä]at b;cases b
 |oz h=>
  intro u w _ _ x E b n;exact absurd b<|h _ _ _
end
inductive jP:Ã->Prop
 |mo (b:Bool):jP (ō b)
 |iF (k:ą) (n:Int):jP (ē k n)
 |kE (s:ByteArray):jP (Ĥ s)
 |lL:jP (Ù í)
 |nK (n c:Nat):jP (ø í n c)
 |uZ:jP cz
 |u9:jP bD
 |va:jP (eN í)
 |vd:jP (.map í)
 |oy {cs:Array Ã} (h:∀i (h:i<cs.size),jP cs[i]):jP (.agg cs)
 |nL {cs:Array Ã} (h:∀i (h:i<cs.size),jP cs[i]):jP (ζ cs)
def jP.jD(h:jP v)(Y:fp):fl Y v v:=by
 induction h with
 |mo b=>exact .mo b
 |iF k n=>exact .iF k n
 |kE s=>exact .kE s
 |lL=>exact .lL
 |nK n c=>exact .nK n c
 |uZ=>exact .uZ
 |u9=>exact .u9
 |va=>exact .va
 |vd=>exact .vd
 |oy _ b=>exact .oy U λi c _=>b i c
 |nL _ b=>exact .nL U λi c _=>b i c
def nO(P:Ø):Prop:=∀t i z,P.info? t=À i->i.zero=À z->jP z
def jq{α:Type}:fp->α->α->Prop:=λ_ a b=>a=b
section
variable{Y:fp}
def fF{α β:Type}{V:fp->α->α->Prop}{V':fp->β->β->Prop}{m c:Ğ α}{f d:α->Ğ β}(h:fG P V Y m c) (g:∀b a e,Y.r b->V b a e->fG P V' b (f a) (d e)):fG P V' Y (m>>=f) (c>>=d):=fG.lN h g
def sF{α β:Type}{c:fp->β->β->Prop}{m:Ğ α}{f d:α->Ğ β}(h:fG P jq Y m m) (g:∀b a,Y.r b->fG P c b (f a) (d a)):fG P c Y (m>>=f) (m>>=d):= fG.lN h λb a i j (e:a=i)=>by subst e;exact g b a j
def rm:fG P (λ_ a b=>a=P/\b=P) Y dE dE:=.Kf (.fE ⟨U,U⟩)
def OD{α:Type}{V:fp->α->α->Prop}{e:ρ}(h:(∃x y s c,e=.bounds x y s c)\/(∃m,e=η m)\/(∃m,e=.plain m)\/e=.nilDeref):fG P V Y (runtimePanic e) (runtimePanic e):=by unfold runtimePanic;refine fF rm ?_;rintro f a g _ ⟨b,d⟩;rw[b,d];rcases h with⟨x,y,s,c,rfl⟩|⟨m,rfl⟩|⟨m,rfl⟩|rfl<;>exact .fO
def GH{α:Type}{V:fp->α->α->Prop}{k:ą}{y:Int}{c:aS}:fG P V Y (boundsPanic k h y c) (boundsPanic k h y c):=by
 unfold boundsPanic;simp only[];split
 .apply sF (.Ar λn=> .fE U);exact λn a _=>OD<|Æ ⟨_,_,_,_,U⟩
 .exact OD<|Æ ⟨_,_,_,_,U⟩
def yo(t:Á):fG P (λ_ a b=>a=b/\P.info? t=À a) Y (þ t) (þ t):=by
 unfold þ;apply fF rm;rintro e a b _ ⟨c,d⟩;rw[c,d];cases h:P.info? t with
 |some i=>exact .fE ⟨U,U⟩
 |none=>exact .fO
def jc(t:Á):fG P (λ_ a b=>a=b/\P.underlying t=À a) Y (ù t) (ù t):=by
 unfold ù;apply fF rm;rintro e a b _ ⟨c,d⟩;rw[c,d];cases h:P.underlying t with
 |some i=>exact .fE ⟨U,U⟩
 |none=>exact .fO
def GI(b:nO P)(t:Á):fG P fl Y (Ġ t) (Ġ t):=by
 unfold Ġ;apply fF (yo t);rintro d a e _ ⟨rfl,h⟩;cases c:a.zero with
 |some z=>exact .fE ((b t a z h c).jD _)
 |none=>exact .fO
def na(t:Á):fG P (λ_ a b=>a=b/\∃i,P.info? t=À i/\i.size=a) Y (Ŝ t) (Ŝ t):=by unfold Ŝ;apply fF (yo t);rintro i a b _ ⟨rfl,h⟩;exact .fE ⟨U,_,h,U⟩
def Vd(t:Á):fG P jq Y (eP t) (eP t):=by unfold eP;apply fF (jc t);rintro b a c _ ⟨rfl,_⟩;split<;>exact .fE U
def Kj(h:gY Y a p):fG P fl Y (bE a) (bE p):=.gy h λ_ _ b=> .fE b
def acP(h:gY Y a p)(b:fl Y v x):fG P jq Y (aP a v) (aP p x):=.jb h b (.fE U)
def acQ:∀{Y:fp} {a b:Ü} {i:Nat} {c d:Array Ã},gY Y a b->fQ Y c d->fG P fQ Y (Š a i n c) (Š b i n d):=by
 induction n with
 |zero=>intro Y a b i c d _ e;exact .fE e
 |succ n h=>
  intro Y a b i c d f e;unfold Š;apply fF (Kj<|f.C i);exact λk v l g j=>h (f.r g)<|(e.I g).U6 j
def OG(h:gY Y a p)(n:Nat):fG P fQ Y (dB a n) (dB p n):=acQ h<|fQ.N Y
def OH:∀{d c:List Ã} {Y:fp} {a e:Ü} {i:Nat},gY Y a e->fQ Y d.toArray c.toArray->fG P jq Y (ŝ a d i) (ŝ e c i):=by
 intro d
 induction d with
 |nil=>
  intro c Y a e i _ b;have:c=[]:=by have:=b.r;simp at this;exact Č this.symm
  subst this;exact .fE U
 |cons v d h=>
  intro c Y a e i f b;match c,b with
  |[],b=>have:=b.r;simp at this
  |v'::c,b=>
   unfold ŝ;refine fF (acP (f.C i) (by have:=b.C 0 fj fj;simpa using this)) ?_;intro m _ _ g _;apply h (f.r g);refine⟨by have:=b.r;simpa using this,λj k l=> ?_⟩;have:=b.C (j+1) (by simp at k|-;omega) (by simp at l|-;omega);exact(by simpa using this:fl Y _ _).fN g
def Ve(h:gY Y a p)(t:Á):fG P fl Y (aF t a) (aF t p):=by
 unfold aF;apply sF (Vd t);intro g b d;split
 .apply fF (na t);rintro i n _ f ⟨rfl,_⟩;apply fF (OG ((h.r d).r f) n);exact λj c k _ e=> .fE (.oy e.r e.C)
 .exact Kj<|h.r d
def acR(h:gY Y a p)(t:Á)(d:fl Y v x):fG P jq Y (bk t a v) (bk t p x):=by
 unfold bk;apply fF (na t);rintro f n _ b ⟨rfl,_⟩;have c:=(d.fN b).gS;by_cases e:v.cells.size≠n
 .rw[if_pos e];exact .fO
 .rw[if_neg e,if_neg (by rwa[<-c.r])];exact OH (h.r b) c
def GJ(e:Á)(h:fQ Y d q):fG P gY Y (Ō e d) (Ō e q):= .ym h λ_ _ _ _ _ _=> .fE ⟨Í ⟨U,U⟩,U,U⟩
def Vf(t:Á)(h:fl Y v x):fG P gY Y (newVar t v) (newVar t x):=GJ t h.gS
def Vg(t:Á)(h:fQ Y d q)(a:Nat):fG P fl Y (part t d a) (part t q a):=by
 unfold part;apply sF (Vd t);intro i b e;split
 .apply fF (na t);rintro g n _ f ⟨rfl,_⟩;have:=((h.I e).I f).GD a<|a+n;exact .fE (.oy this.r this.C)
 .rcases(h.I e).S a with⟨n,f⟩|⟨v,j,n,f,g⟩
  .rw[n];exact .fO
  .rw[n,f];exact .fE g
def GK(h:fl Y v x):fG P gY Y (ż v) (ż x):=by cases h<;>first|exact .fO|(rename_i a;exact .fE a)
def Kk(h:fl Y v x):fG P jq Y (dF v) (dF x):=by cases h<;>first|exact .fE U|exact .fO
def OJ(h:fl Y v x):fG P jq Y (dU v) (dU x):=by unfold dU;apply fF (Kk h);rintro b a _ _ rfl;exact .fE U
def Vh(h:fl Y v x):fG P jq Y (cE v) (cE x):=by cases h<;>first|exact .fE U|exact .fO
def acS(h:fl Y v x):fG P fQ Y (asAgg v) (asAgg x):=by cases h<;>first|exact .fO|(rename_i a y;exact .fE ⟨a,y⟩)
def Vi(h:fl Y v x):fG P gY Y (cF v) (cF x):=by cases h<;>first|exact OD (Í<|Í<|Í U)|(rename_i a;exact .fE a)|exact .fO
def acT(b:nO P)(t:Á)(v:Ã):fG P fl Y (Θ t Ë v) (Θ t Ë v):=by unfold Θ;apply fF (GI b t);intro d z e _ h;apply fF (Vf t h);exact λf a g _ c=> .fE (.jV c)
def acU(t:Á)(h:fl Y v x):fG P fl Y (aG t v) (aG t x):=by unfold aG;apply fF (Vf t h);exact λc a d _ b=> .fE (.jV b)
def acV(t:Á)(h:fl Y v x):fG P fl Y (ų t v) (ų t x):=by unfold ų;apply fF (GK h);exact λc a d _ b=>Ve b t
def acW(t:Á)(b:fl Y x z)(h:fl Y v jQ):fG P jq Y (Ł t x v) (Ł t z jQ):=by unfold Ł;apply fF (GK b);exact λd x z c b=>acR b t<|h.fN c
def acX(h:fl Y v x)(n:Nat):fG P fl Y (š v n) (š x n):=by
 cases h<;>first|exact .fO|skip
 rename_i e f c h;simp only[š];rcases(fQ.mk c h).S n with⟨a,b⟩|⟨v,x,a,b,d⟩
 .rw[a];exact .fO
 .rw[a,b];exact .fE d
def acY(t:Á)(h:fl Y v x)(n:Nat):fG P fl Y (Ι t v n) (Ι t x n):=by
 unfold Ι;apply fF (jc t);rintro g d _ a ⟨rfl,_⟩;split
 .rename_i b _;cases i:b[n]? with
  |none=>exact .fO
  |some f=>
   apply fF (acS<|h.fN a);exact λj c k _ e=>Vg f.type e f.offset
 .exact .fO
end
section
variable{Y:fp}
def Au{α β:Type}{V:fp->β->β->Prop}{a b:α}{f c:α->Ğ β}(h:fG P V Y (f a) (c b)):fG P V Y (pure a>>=f) (pure b>>=c):=h
def acZ(s:Á)(h:fl Y v x)(n:Nat)(e:∀c f i,P.underlying s=À (dG c)->c[n]?=À f->P.info? f.type=À i->i.size≠0): fG P fl Y (Ţ s v n) (Ţ s x n):=by
 unfold Ţ;apply fF (jc s);rintro r d _ g ⟨rfl,j⟩;cases d<;>try exact .fO
 .rename_i c;simp only[];cases k:c[n]? with
  |none=>exact .fO
  |some f=>
   apply fF (GK<|h.fN g);intro t a u _ l;unfold cG;refine fF (fF (V':=gY) (na f.type) ?_) ?_
   .rintro w z _ m ⟨rfl,i,o,p⟩;have:¬z=0:=by rw[<-p];exact e c f i j k o
    rw[if_neg this,if_neg this];exact .fE ((l.r m).C _)
   .exact λy b B _ q=> .fE (.jV q)
def ac0(t:Á){s:Ã}(w:fl Y x v)(y:fl Y jQ s):fG P fl Y (ţ t x jQ) (ţ t v s):=by
 unfold ţ;apply fF (Kk y);rintro I ⟨k,n⟩ _ B rfl;apply fF (jc t);rintro J d _ C ⟨rfl,K⟩;have u:=(w.fN B).fN C;have D:∀{j:fp} {b g:Option Ü} (f:Nat) (e:Á),((b=í/\g=í)\/∃a h,b=À a/\g=À h/\gY j a h)->∀(o:Bool),fG P fl j (match b with
   |some a=>if 0<=n/\n<f then do pure (Ù<|À<|a.add<|n.toNat*(<-Ŝ e))else if o=Ë then unsupported (cH "op/indexAddr.an index out of range at an array of length 0 or 1 (ledger 616)")else boundsPanic k n f .index
   |none=>boundsPanic k n 0 .index)
  (match g with
   |some a=>if 0<=n/\n<f then do pure (Ù<|À<|a.add<|n.toNat*(<-Ŝ e))else if o=Ë then unsupported (cH "op/indexAddr.an index out of range at an array of length 0 or 1 (ledger 616)")else boundsPanic k n f .index
   |none=>boundsPanic k n 0 .index):=by
  intro j b g f e p o;rcases p with⟨rfl,rfl⟩|⟨a,h,rfl,rfl,l⟩
  .exact GH
  .simp only[];split
   .apply fF (na e);rintro E z _ q ⟨rfl,_⟩;exact .fE (.jV ((l.r q).C _))
   .split
    .exact .fO
    .exact GH
 have r:∀{j:fp} {b g:Option Ü} (f:Nat) (e:Á),((b=í/\g=í)\/∃a h,b=À a/\g=À h/\gY j a h)->fG P fl j (ù t>>=λd=>match b with
   |some a=>if 0<=n/\n<f then do pure (Ù<|À<|a.add<|n.toNat*(<-Ŝ e))else if(decide (f<=1)&&(match d with|.array .. =>Ë|_=>Â))=Ë then unsupported (cH "op/indexAddr.an index out of range at an array of length 0 or 1 (ledger 616)")else boundsPanic k n f .index
   |none=>boundsPanic k n 0 .index)
  (ù t>>=λd=>match g with
   |some a=>if 0<=n/\n<f then do pure (Ù<|À<|a.add<|n.toNat*(<-Ŝ e))else if(decide (f<=1)&&(match d with|.array .. =>Ë|_=>Â))=Ë then unsupported (cH "op/indexAddr.an index out of range at an array of length 0 or 1 (ledger 616)")else boundsPanic k n f .index
   |none=>boundsPanic k n 0 .index):=by
  intro j b g f e p;apply fF (jc t);rintro E d _ q ⟨rfl,_⟩;exact D f e (p.imp id λ⟨a,h,F,G,H⟩=>⟨a,h,F,G,H.r q⟩) _
 cases d<;>try exact .fO
 .rename_i e;cases u<;>first|exact .fO|skip
  .rename_i m c;exact r m e<|Æ ⟨U,U⟩
  .rename_i l m c;exact r m e<|Í ⟨_,_,U,U,l⟩
 .rename_i f e;apply fF (GK u);exact λj a h _ l=>r f e<|Í ⟨_,_,U,U,l⟩
def Ei(h:fl Y x v)(y:Nat)(c:aS):fG P jq Y (ĸ x y c) (ĸ v y c):=by
 unfold ĸ;apply fF (Kk h);rintro a ⟨k,n⟩ _ b rfl;simp only[];split
 .exact .fE U
 .exact GH
def rn(Y:fp)(x a:Option Ã):Prop:=(x=í/\a=í)\/∃v b,x=À v/\a=À b/\fl Y v b
def rn.r{Y a:fp}(h:Y.r a){x b:Option Ã}(r:rn Y x b):rn a x b:=r.imp id λ⟨v,c,d,e,f⟩=>⟨v,c,d,e,f.fN h⟩
def GM(f:Bool)(g i:Nat){l j h k m n:Option Ã}(c:rn Y l j)(o:rn Y h k)(t:rn Y m n):fG P jq Y (Ĳ f g i l h m) (Ĳ f g i j k n):=by
 unfold Ĳ;rcases t with⟨rfl,rfl⟩|⟨B,C,rfl,rfl,u⟩
 .refine Au ?_;rcases o with⟨rfl,rfl⟩|⟨w,x,rfl,rfl,d⟩
  .refine Au ?_;rcases c with⟨rfl,rfl⟩|⟨v,p,rfl,rfl,b⟩
   .exact .fE U
   .apply fF (Ei b _ _);rintro r q _ _ rfl;exact .fE U
  .refine fF (Ei d _ _) ?_;rintro y a _ e rfl;rcases(c.r e)with⟨rfl,rfl⟩|⟨v,p,rfl,rfl,b⟩
   .exact .fE U
   .apply fF (Ei b _ _);rintro r q _ _ rfl;exact .fE U
 .refine fF (Ei u _ _) ?_;rintro D a _ s rfl;rcases o with⟨rfl,rfl⟩|⟨w,x,rfl,rfl,d⟩
  .exact .fO
  .refine fF (Ei (d.fN s) _ _) ?_;rintro y z _ e rfl;rcases(((c.r s).r e))with⟨rfl,rfl⟩|⟨v,p,rfl,rfl,b⟩
   .exact .fE U
   .apply fF (Ei b _ _);rintro r q _ _ rfl;exact .fE U
def ac1(t:Á)(k:fl Y x v){l C h D m u:Option Ã}(g:rn Y l C)(i:rn Y h D)(j:rn Y m u):fG P fl Y (Κ t x l h m) (Κ t v C D u):=by
 unfold Κ;apply fF (jc t);rintro I d _ o ⟨rfl,J⟩;have k:=k.fN o;have g:=g.r o;have i:=i.r o;have j:=j.r o;cases d<;>try exact .fO
 .cases k<;>first|exact .fO|skip
  rename_i s;have e:m.isSome=u.isSome:=by rcases j with⟨rfl,rfl⟩|⟨_,_,rfl,rfl,_⟩<;>rfl
  simp only[e];split
  .exact .fO
  .apply fF (GM Â s.size s.size g i<|Æ ⟨U,U⟩);rintro G ⟨a,b,c⟩ _ _ rfl;exact .fE (.kE _)
 .rename_i H;apply fF (Vi k);intro G a K B f;apply fF (jc H);rintro L d _ p ⟨rfl,_⟩;have f:=f.r p;cases d<;>try exact .fO
  rename_i n e _;apply fF (GM Â n n ((g.r B).r p) ((i.r B).r p)<|(j.r B).r p);rintro E ⟨x,y,z⟩ _ q rfl;apply fF (na e);rintro F w _ r ⟨rfl,_⟩;have f:=(f.r q).r r;refine .fE (.kO ?_ _ _);split
  .exact f
  .exact f.C _
 .rename_i e;cases k<;>first|exact .fO|skip
  .rename_i n c;apply fF (GM Ë n c g i j);rintro E ⟨x,y,z⟩ _ q rfl;apply fF (na e);rintro F w _ r ⟨rfl,_⟩;simp only[Option.map_none,ite_self];exact .fE (.nK _ _)
  .rename_i f n c;apply fF (GM Ë n c g i j);rintro E ⟨x,y,z⟩ _ q rfl;apply fF (na e);rintro F w _ r ⟨rfl,_⟩;have f:=(f.r q).r r;by_cases e:z=x
   .simp only[e,if_true];exact .fE (.kO f _ _)
   .simp only[e,if_false,Ů];exact .fE (.kO (f.C _) _ _)
def ac2(t:Á)(b:fl Y x v){l o h p m q:Option Ã}(c:rn Y l o)(f:rn Y h p)(g:rn Y m q):fG P fl Y (Ť t x l h m) (Ť t v o p q):=by
 unfold Ť;apply fF (jc t);rintro u d _ i ⟨rfl,B⟩;have b:=b.fN i;have c:=c.r i;have f:=f.r i;have g:=g.r i;cases d<;>try exact ac1 t b c f g
 rename_i n e;apply fF (GK b);intro C a D k j;apply fF (GM Â n n (c.r k) (f.r k)<|g.r k);rintro E ⟨x,y,z⟩ _ r rfl;apply fF (na e);rintro F w _ s ⟨rfl,_⟩;have j:=(j.r r).r s;refine .fE (.kO ?_ _ _);split
 .exact j
 .exact j.C _
def ac3(t:Á)(a:fl Y x v)(b:fl Y z jQ):fG P fl Y (Λ t x z) (Λ t v jQ):=by
 unfold Λ;apply fF (Kk b);rintro l ⟨k,n⟩ _ c rfl;apply fF (jc t);rintro m d _ f ⟨rfl,o⟩;have a:=(a.fN c).fN f;cases d<;>try exact .fO
 .cases a<;>first|exact .fO|skip
  simp only[];split
  .exact .fE (.iF _ _)
  .exact GH
 .rename_i p e;cases a<;>first|exact .fO|skip
  rename_i g h;simp only[];split
  .apply fF (na e);rintro q w _ j ⟨rfl,_⟩;exact Vg e ((fQ.mk g h).I j) _
  .exact GH
def ac4(a:UnOp)(b:fl Y x v):fG P fl Y (cI a x) (cI a v):=by cases b<;>cases a<;>first|exact .fO|exact .fE (.iF _ _)|exact .fE (.mo _)
end
section
variable{Y:fp}
def ac5{α β:Type}{g:α->Ğ β}(d:∀{Y:fp} (a:α),fG P jq Y (g a)<|g a):∀{Y:fp} (l:List α),fG P jq Y (l.mapM g) (l.mapM g):=by
 intro Y l
 induction l generalizing Y with
 |nil=>exact .fE U
 |cons a l e=>
  rw[au];apply sF (d a);intro f b _;apply sF e;exact λh c _=> .fE U
def ac6{α β:Type}{g:α->Ğ β}(b:∀{Y:fp} (a:α),fG P jq Y (g a)<|g a)(l:Array α):fG P jq Y (l.mapM g) (l.mapM g):=by rw[ğ];have:=ac5 b (Y:=Y) l.toList;apply fG.lN this;intro d a c _ (e:a=c);subst e;exact .fE U
def ac7(Y:fp)(p a:Nat×Value):Prop:=p.1=a.1/\fl Y p.2 a.2
inductive vg(Y:fp):List (Nat×Value)->List (Nat×Value)->Prop
 |oZ:vg Y [] []
 |wC {p p':Nat×Value} {l l':List (Nat×Value)} (h:ac7 Y p p') (t:vg Y l l'):vg Y (p::l) (p'::l')
def vg.fN{Y a:fp}(h:Y.r a){l b:List (Nat×Value)}(r:vg Y l b):vg a l b:=by
 induction r with
 |oZ=>exact .oZ
 |wC x _ c=>exact .wC ⟨x.1,x.2.fN h⟩ c
def ac8(f:Nat):∀(c a:List Ã) (k:Nat) (b d:Array Ã),fQ Y c.toArray a.toArray->fQ Y b d-> fQ Y ((c.zipIdx k).foldl (λb (p:Value×Nat)=>b.setIfInBounds (f+p.2) p.1) b) ((a.zipIdx k).foldl (λb (p:Value×Nat)=>b.setIfInBounds (f+p.2) p.1) d):=by
 intro c
 induction c with
 |nil=>
  intro a k b d p e;have:a=[]:=by have:=p.r;simp at this;exact Č this.symm
  subst this;exact e
 |cons x c g=>
  intro a k b d p e;match a,p with
  |[],p=>have:=p.r;simp at this
  |x'::a,p=>
   simp only[Ĺ,List.foldl_cons];refine g a (k+1) _ _ ⟨by have:=p.r;simpa using this,λj h i=> ?_⟩ (e.qC _ (by have:=p.C 0 fj fj;simpa using this));have:=p.C (j+1) (by simp at h|-;omega) (by simp at i|-;omega);simpa using this
def ac9(b:Nat){a c:Array Ã}(e:fQ Y d q)(f:fQ Y a c): fQ Y (d.zipIdx.foldl (λa (p:Value×Nat)=>a.setIfInBounds (b+p.2) p.1) a) (q.zipIdx.foldl (λa (p:Value×Nat)=>a.setIfInBounds (b+p.2) p.1) c):=by have:=ac8 b d.toList q.toList 0 a c (by simpa using e) f;rw[<-aU,<-aU,aI,aI];exact this
def OL(d:Nat->Option (Nat×Nat)):∀{l e:List (Nat×Value)} {a b:Array Ã},vg Y l e->fQ Y a b-> (Ž d a l=í)\/∃c h,Ž d a l=À c/\Ž d b e=À h/\fQ Y c h:=by
 intro l e a b h
 induction h generalizing a b with
 |oZ=>intro c;exact Í ⟨a,b,U,U,c⟩
 |@wC p p' l e hp _ ih=>
  intro c;let⟨i,v⟩:=p;let⟨k,m⟩:=p';obtain⟨rfl,g⟩:=hp;unfold Ž;cases d i with
  |none=>exact Æ U
  |some q=>
   let⟨j,n⟩:=q;have f:=g.gS;simp only[<-f.r,<-c.r];split
   .exact Æ U
   .exact ih<|ac9 j f c
def ada(q:nO P)(t:Á){l m:Array (Nat×Value)}(h:vg Y l.toList m.toList):fG P fl Y (Μ t l) (Μ t m):=by
 unfold Μ;apply fF (GI q t);intro C z D r s;apply fF (jc t);rintro E d _ o ⟨rfl,F⟩;have p:=(s.fN o).gS;have h:=(h.fN r).fN o;cases d<;>try exact .fO
 .rename_i n e;refine fF (na e) ?_;rintro u w _ b ⟨rfl,_⟩;rcases OL (λi=>À (i*w,w)) (h.fN b) (p.I b)with e|⟨c,v,j,k,g⟩
  .simp only[e];exact .fO
  .simp only[j,k];exact .fE (.oy g.r g.C)
 .rename_i x;refine sF (ac6 (λ{Y} (f:Field)=>fF (na f.type) λG a H _ y=> ?_) x) ?_
  .obtain⟨rfl,_⟩:=y;exact .fE U
  .intro u B b;rcases OL (B[·]?) (h.fN b) (p.I b)with e|⟨c,v,j,k,g⟩
   .simp only[e];exact .fO
   .simp only[j,k];exact .fE (.oy g.r g.C)
end
section
variable{Y:fp}
def adb(Y:fp):fl Y (default:Ã) default:=.mo _
def fQ.ade{Y:fp}(r:fQ Y d q)(i:Nat):fl Y d[i]! q[i]!:=by
 by_cases h:i<d.size
 .have a:i<q.size:=by rwa[<-r.r]
  rw[getElem!_pos d i h,getElem!_pos q i a];exact r.C i h a
 .have a:¬i<q.size:=by rwa[<-r.r]
  rw[getElem!_neg d i h,getElem!_neg q i a];exact adb Y
def fQ.OM{Y:fp}(r:fQ Y d q)(n:Nat):fQ Y ((Ķ n).map (d[· %d.size]!)) ((Ķ n).map (q[· %q.size]!)):=by refine⟨fj,λi a b=> ?_⟩;simp only[Ν,<-r.r];exact r.ade _
def fQ.yp{Y:fp}(r:fQ Y d q)(n:Nat):fQ Y (ú d n) (ú q n):=by
 unfold ú;have e:n*d.size=n*q.size:=by rw[r.r]
 rw[<-e];exact r.OM _
def adf(p:nO P)(t:Á)(b:Nat){j k:Array (Nat×Value)}(h:vg Y j.toList k.toList):fG P fl Y (ĺ t b j) (ĺ t b k):=by
 unfold ĺ;apply fF (jc t);rintro B d _ q ⟨rfl,C⟩;have h:=h.fN q;cases d<;>try exact .fO
 rename_i e;apply fF (na e);rintro r w _ s ⟨rfl,_⟩;simp only[];split
 .exact .fO
 have o:∀{f:fp} {z g:Array Ã},r.r f->fQ f z g->fG P fl f (match Ž (λi=>À (i*w,w)) ((Ķ<|b*w).map (z[· %z.size]!)) j.toList with
   |some l=>do pure (ø (À<|<-Ō e l) b b)
   |_=>stuck "buildSlice: a part of the wrong size")
  (match Ž (λi=>À (i*w,w)) ((Ķ<|b*w).map (g[· %g.size]!)) k.toList with
   |some l=>do pure (ø (À<|<-Ō e l) b b)
   |_=>stuck "buildSlice: a part of the wrong size"):=by
  intro f z g m n;rcases OL (λi=>À (i*w,w)) ((h.fN s).fN m) (n.OM<|b*w)with e0|⟨c,D,u,v,x⟩
  .rw[e0];exact .fO
  .rw[u,v];apply fF (GJ e x);exact λE a F _ y=> .fE (.kO y _ _)
 split
 .exact o (fp.M _)<|fQ.N _
 .apply fF (GI p e);exact λf z g m n=>o m n.gS
def Kl(h:fl Y x v):fG P jq Y (θ x) (θ v):=by cases h<;>first|exact .fO|exact .fE U
def fQ.adg(Y:fp)(b:Array UInt8):fQ Y (b.map λb=>ē .u8 b.toNat) (b.map λb=>ē .u8 b.toNat):= ⟨U,λi a _=>by simp only[Ν];exact .iF _ _⟩
def GN(a n:Nat)(h:fl Y x v):fG P fQ Y (Õ a n x) (Õ a n v):=by
 cases h<;>first|exact .fO|exact .fE (fQ.N _)|exact .fE (fQ.adg _ _)|skip
 rename_i b _ _;exact OG b _
def ON(n:Nat):fG P jq Y (ņ n) (ņ n):=by
 unfold ņ;split
 .exact .Eg (Æ U) (.fE U)
 .exact .fE U
def adh(a:Array Á)(t:Á)(h:fl Y x v):fG P fl Y (Ŵ a t #[x]) (Ŵ a t #[v]):=by
 unfold Ŵ;cases a[0]? with
 |none=>exact .fO
 |some b=>
  apply fF (jc b);rintro f d _ c ⟨rfl,g⟩;have h:=h.fN c;cases d<;>try exact .fO
  .cases h<;>first|exact .fO|exact .fE (.iF _ _)
  .rename_i e;refine fF (jc e) ?_;rintro i d _ j ⟨rfl,_⟩;cases d<;>first|exact .fO|exact .fE (.iF _ _)
  .cases h<;>first|exact .fO|exact .fE (.iF _ _)
  .exact .fE (.iF _ _)
  all_goals cases h<;>first|exact .fO|exact .fE (.iF _ _)
def adi(a:Array Á)(t:Á)(h:fl Y x v):fG P fl Y (ŵ a t #[x]) (ŵ a t #[v]):=by
 unfold ŵ;cases a[0]? with
 |none=>exact .fO
 |some b=>
  apply fF (jc b);rintro f d _ c ⟨rfl,g⟩;have h:=h.fN c;cases d<;>try exact .fO
  .rename_i e;refine fF (jc e) ?_;rintro i d _ j ⟨rfl,_⟩;cases d<;>first|exact .fO|exact .fE (.iF _ _)
  .cases h<;>first|exact .fO|exact .fE (.iF _ _)
  .exact .fE (.iF _ _)
  all_goals cases h<;>first|exact .fO|exact .fE (.iF _ _)
def adj(g:Array Á)(t:Á)(h:fl Y x v)(a:fl Y z jQ):fG P fl Y (ť g t #[x,z]) (ť g t #[v,jQ]):=by
 unfold ť;cases g[0]? with
 |none=>exact .fO
 |some l=>
  apply fF (jc l);rintro u d _ i ⟨rfl,B⟩;have h:=h.fN i;have a:=a.fN i;cases d<;>try exact .fO
  rename_i e;cases h<;>first|exact .fO|skip
  .rename_i n c;apply fF (Kl a);rintro o m _ b rfl;apply fF (na e);rintro p w _ f ⟨rfl,_⟩;apply fF (GN w _<|(a.fN b).fN f);exact λq c r j k=> .fE (.iF _ _)
  .rename_i s n c;apply fF (Kl a);rintro o m _ b rfl;apply fF (na e);rintro p w _ f ⟨rfl,_⟩;apply fF (GN w _<|(a.fN b).fN f);intro q c r j k;apply fF (OH (((s.r b).r f).r j)<|by simpa using k);exact λC _ _ _ _=> .fE (.iF _ _)
end
section
variable{Y:fp}
def OO{α:Type}{h:Halt}:∀u x a,(eO h:Ğ α).run P u≠İ x a:=by intro u x a e;cases e
def yq{α β:Type}{m:Ğ α}{f:α->Ğ β}(h:∀a u x b,(f a).run P u≠İ x b):∀u x b,(m>>=f).run P u≠İ x b:=by
 intro u x b e;rw[Å]at e;cases c:m.run P u with
 |ok a w=>rw[c]at e;exact h a _ _ _ e
 |halt z w=>rw[c]at e;cases e
def OP{α:Type}:∀u x a,(goPanic v:Ğ α).run P u≠İ x a:=OO
def Av{α:Type}{v:bP}:∀u x a,(unsupported v:Ğ α).run P u≠İ x a:=OO
def rp{α:Type}(e:ρ):∀u x a,(runtimePanic e:Ğ α).run P u≠İ x a:=by
 unfold runtimePanic;refine yq λp=> ?_;cases e<;>simp only[]<;>first|exact OP|skip
 all_goals
  refine yq λ_=> ?_;refine yq λ_=>OP
def Km{α:Type}{V:fp->α->α->Prop}{e:ρ}{m:Ğ α}:fG P V Y (runtimePanic e) m:=.oz (rp e)
def adk(Q:nO P)(K D t:Á)(y:(∃e,P.underlying D=À (dH e))\/P.underlying D=À ĥ){B:Ã}(p:fl Y v jQ)(E:fl Y x B): fG P fl Y (Ň #[K,D] t #[v,x]) (Ň #[K,D] t #[jQ,B]):=by
 unfold Ň;apply fF (jc K);rintro F d _ M ⟨rfl,hd⟩;have p:=p.fN M;have E:=E.fN M;cases d<;>try exact .fO
 rename_i e;have S:∀{g:fp} (z:Bool) (w n c m:Nat) {b f:Option Ü},F.r g->fl g (ø b n c) (ø f n c)->fG P fl g (do
   let newCap<-ŕ (ž (n+m) c e)
   ņ<|newCap*(<-þ e).bytes;let old<-Õ w n (ø b n c)
   let h<-Õ w m x
   let j:=ú (<-Ġ e).cells<|newCap-(n+m)
   pure (ø (À (<-Ō e (old++h++j))) (n+m) newCap))
  (do
   let newCap<-ŕ (ž (n+m) c e)
   ņ<|newCap*(<-þ e).bytes;let old<-Õ w n (ø f n c)
   let h<-Õ w m B
   let j:=ú (<-Ġ e).cells<|newCap-(n+m)
   pure (ø (À (<-Ō e (old++h++j))) (n+m) newCap)):=by
  intro g _ w n c m b f i p;apply sF (.Ar λ_=> .fE U);intro H nc k;apply fF (yo e);rintro I l _ r ⟨rfl,_⟩;apply sF (ON _);intro ρ5 _ T;have G:=fp.I (fp.I k r) T;apply fF (GN w n<|p.fN G);intro ρ6 o o' V W;apply fF (GN w m<|E.fN<|fp.I i<|fp.I G V);intro ρ7 q X hl7 L;apply fF (GI Q e);intro ρ8 z z' N hzz;apply fF (GJ e<|(((W.I hl7).I N).G<|L.I N).G<|hzz.gS.yp _);exact λρ9 a J _ C=> .fE (.kO C _ _)
 have j:∀{g:fp} (w n c m:Nat) {b f:Option Ü},F.r g->fl g (ø b n c) (ø f n c)->fG P fl g (do
   let l<-þ e
   if((n+m:Nat):Int)>â.max/\(Â=Ë\/l.bytes=0)then runtimePanic (η "growslice: len out of range")
   if ķ (n+m) c*(<-þ e).bytes>2^48 then(if Â=Ë then runtimePanic (η "growslice: len out of range")else do
    if !(<-Ĩ w n m b x)then ew ο
    unsupported (ſ "append: a slice or a string whose bytes no memory bears"))
   let newCap<-ŕ (ž (n+m) c e)
   ņ<|newCap*(<-þ e).bytes;let old<-Õ w n (ø b n c)
   let h<-Õ w m x
   let j:=ú (<-Ġ e).cells<|newCap-(n+m)
   pure (ø (À (<-Ō e (old++h++j))) (n+m) newCap))
  (do
   let l<-þ e
   if((n+m:Nat):Int)>â.max/\(Â=Ë\/l.bytes=0)then runtimePanic (η "growslice: len out of range")
   if ķ (n+m) c*(<-þ e).bytes>2^48 then(if Â=Ë then runtimePanic (η "growslice: len out of range")else do
    if !(<-Ĩ w n m f B)then ew ο
    unsupported (ſ "append: a slice or a string whose bytes no memory bears"))
   let newCap<-ŕ (ž (n+m) c e)
   ņ<|newCap*(<-þ e).bytes;let old<-Õ w n (ø f n c)
   let h<-Õ w m B
   let j:=ú (<-Ġ e).cells<|newCap-(n+m)
   pure (ø (À (<-Ō e (old++h++j))) (n+m) newCap)):=by
  intro g w n c m b f i p;apply fF (yo e);rintro H l _ k ⟨rfl,_⟩;simp only[];split
  .exact .oz (vf<|rp _)
  .apply fF (yo e);rintro I l _ r ⟨rfl,_⟩;have G:=fp.I k r;split
   .refine .oz (vf ?_);simp only[Ç,if_false];refine yq λb=> ?_;split
    .exact yq λ_=>Av
    .exact Av
   .exact S Â w n c m (fp.I i G)<|p.fN G
 have O:∀{b f:Option Ü} (n c:Nat),((b=í/\f=í)\/∃a J,b=À a/\f=À J/\gY F a J)->fl F (ø b n c) (ø f n c)->∀{g:fp} (w m:Nat),F.r g->fG P fl g (if n+m<=c then(Õ w m x>>=λh=>match b with
   |some a=>ŝ (a.add<|n*w) h.toList>>=λ_=>pure<|ø b (n+m) c
   |_=>pure (ø b (n+m) c))else(do
   let l<-þ e
   if((n+m:Nat):Int)>â.max/\(Â=Ë\/l.bytes=0)then runtimePanic (η "growslice: len out of range")
   if ķ (n+m) c*(<-þ e).bytes>2^48 then(if Â=Ë then runtimePanic (η "growslice: len out of range")else do
    if !(<-Ĩ w n m b x)then ew ο
    unsupported (ſ "append: a slice or a string whose bytes no memory bears"))
   let newCap<-ŕ (ž (n+m) c e)
   ņ<|newCap*(<-þ e).bytes;let old<-Õ w n (ø b n c)
   let h<-Õ w m x
   let j:=ú (<-Ġ e).cells<|newCap-(n+m)
   pure (ø (À (<-Ō e (old++h++j))) (n+m) newCap)))
  (if n+m<=c then(Õ w m B>>=λh=>match f with
   |some a=>ŝ (a.add<|n*w) h.toList>>=λ_=>pure<|ø f (n+m) c
   |_=>pure (ø f (n+m) c))else(do
   let l<-þ e
   if((n+m:Nat):Int)>â.max/\(Â=Ë\/l.bytes=0)then runtimePanic (η "growslice: len out of range")
   if ķ (n+m) c*(<-þ e).bytes>2^48 then(if Â=Ë then runtimePanic (η "growslice: len out of range")else do
    if !(<-Ĩ w n m f B)then ew ο
    unsupported (ſ "append: a slice or a string whose bytes no memory bears"))
   let newCap<-ŕ (ž (n+m) c e)
   ņ<|newCap*(<-þ e).bytes;let old<-Õ w n (ø f n c)
   let h<-Õ w m B
   let j:=ú (<-Ġ e).cells<|newCap-(n+m)
   pure (ø (À (<-Ō e (old++h++j))) (n+m) newCap))):=by
  intro b f n c hb p g w m i;split
  .refine fF (GN w m<|E.fN i) ?_;intro H q X k L;rcases hb with⟨rfl,rfl⟩|⟨a,J,rfl,rfl,C⟩
   .exact .fE (.nK _ _)
   .apply fF (OH (((C.r i).r k).C _)<|by simpa using L);exact λI _ _ r _=> .fE (.kO (((C.r i).r k).r r) _ _)
  .exact j w n c m i<|p.fN i
 cases p<;>first|exact .fO|skip
 .rename_i n c;refine fF (na e) ?_;rintro g w _ i ⟨rfl,_⟩;refine fF (jc D) ?_;rintro H d1 _ k ⟨rfl,u⟩;rcases y with⟨e1,y⟩|y;all_goals
   rw[y]at u;injection u with u;subst u;apply Au;apply fF (Kl<|E.fN<|fp.I i k);rintro I m _ r rfl;exact O n c (Æ ⟨U,U⟩) (.nK _ _) w m<|fp.I (fp.I i k) r
 .rename_i C n c;refine fF (na e) ?_;rintro g w _ i ⟨rfl,_⟩;refine fF (jc D) ?_;rintro H d1 _ k ⟨rfl,u⟩;rcases y with⟨e1,y⟩|y;all_goals
   rw[y]at u;injection u with u;subst u;apply Au;apply fF (Kl<|E.fN<|fp.I i k);rintro I m _ r rfl;exact O n c (Í ⟨_,_,U,U,C⟩) (.kO C _ _) w m<|fp.I (fp.I i k) r
end
section
variable{Y:fp}
def adl(p:nO P)(t:Á){j:Ã}(q:fl Y v x)(r:fl Y jQ j):fG P fl Y (ň t v jQ) (ň t x j):=by
 unfold ň;apply fF (jc t);rintro B d _ k ⟨rfl,C⟩;cases d<;>try exact .fO
 rename_i e;apply fF (OJ<|q.fN k);rintro D g _ s rfl;apply fF (OJ<|(r.fN k).fN s);rintro E b _ F rfl;apply fF (yo e);rintro G m _ H ⟨rfl,_⟩;have u:∀{n:fp},fG P fl n (do
   ņ<|(â.wrap b).toNat*m.bytes;let w<-Ŝ e
   let zero<-if(â.wrap b).toNat*w=0 then pure #[]else do pure (<-Ġ e).cells
   let a<-Ō e ((Ķ<|(â.wrap b).toNat*w).map (zero[· %zero.size]!))
   pure (ø (À a) (â.wrap g).toNat (â.wrap b).toNat))
  (do
   ņ<|(â.wrap b).toNat*m.bytes;let w<-Ŝ e
   let zero<-if(â.wrap b).toNat*w=0 then pure #[]else do pure (<-Ġ e).cells
   let a<-Ō e ((Ķ<|(â.wrap b).toNat*w).map (zero[· %zero.size]!))
   pure (ø (À a) (â.wrap g).toNat (â.wrap b).toNat)):=by
  intro n;apply sF (ON _);intro I _ J;apply fF (na e);rintro K w _ L ⟨rfl,_⟩;have o:∀{h:fp} {z f:Array Ã},fQ h z f->fG P fl h (Ō e ((Ķ<|(â.wrap b).toNat*w).map (z[· %z.size]!))>>=λa=>pure<|ø (À a) (â.wrap g).toNat (â.wrap b).toNat) (Ō e ((Ķ<|(â.wrap b).toNat*w).map (f[· %f.size]!))>>=λa=>pure<|ø (À a) (â.wrap g).toNat (â.wrap b).toNat):=by intro h z f i;apply fF (GJ e<|i.OM _);intro M a N _ y;exact .fE (.kO y _ _)
  simp only[];split
  .exact o<|fQ.N _
  .apply fF (GI p e);intro h z f _ i;exact o i.gS
 simp only[];split
 .split
  .exact .oz (vf<|rp _)
  .split
   .exact .oz (vf<|rp _)
   .exact .oz (yq λ_=>vf<|rp _)
 .exact u
def tD(P:Ø)(t:Á):Prop:=P.underlying t=À .bool\/(∃k,P.underlying t=À (ι k))\/P.underlying t=À ĥ
def ng:Ã->Prop
 |Ù (À _)=>False
 |_=>True
def Vj(t:Á)(i:tD P t\/∃e,P.underlying t=À (ó e))(b:fl Y x v)(c:fl Y z jQ)(j:ng x\/ng z):fG P jq Y (û t x z) (û t v jQ):=by
 unfold û č ς;refine fF (jc t) ?_;rintro o d _ g ⟨rfl,a⟩;have b:=b.fN g;have c:=c.fN g;rcases i with(h|⟨k,h⟩|h)|⟨e,h⟩;all_goals
  rw[h]at a;injection a with a;subst a;cases b<;>cases c<;>first|exact .fO|exact .fE U|(simp[ng]at j;done)|skip
 .simp only[];split<;>first|exact .fE U|exact .fO
 .rename_i l n _ _ _;by_cases f:n=0
  .subst f;exact .fE U
  .refine .oz λu x m e=> ?_;split at e<;>first|(exact Av _ _ _ e)|(simp_all;done)
 .rename_i l n;by_cases f:n=0
  .subst f;exact .fE U
  .refine .oz λu x m e=> ?_;split at e<;>first|(exact Av _ _ _ e)|(simp_all;done)
end
section
variable{Y:fp}
def Kn{r:Nat}(h:Y r i):fG P (λ_ a b=>a=í/\b=í) Y (cJ r) (cJ i):=.ve h λ_ _ _ _=> .fE ⟨U,U⟩
def Vk{r:Nat}(h:Y r i):fG P (λ_ a b=>a=í/\b=í) Y (cK r) (cK i):=.ve h λ_ _ _ _=> .fE ⟨U,U⟩
def Aw(h:gY Y a p):fG P (λc x b=>gY c x.1 b.1/\x.2=b.2/\x=(a,Â)/\b=(p,Â)) Y (Ļ a) (Ļ p):=by unfold Ļ;apply fF (Vk h.1);rintro c x d b ⟨rfl,rfl⟩;exact .fE ⟨h.r b,U,U,U⟩
def adn(h:gY Y a p):fG P jq Y (bF a) (bF p):=by unfold bF;apply fF (Kn h.1);rintro b x c d ⟨rfl,rfl⟩;exact .fE U
def GO(h:gY Y a p):fG P jq Y (dI a) (dI p):=by
 have f:=h;let⟨g,i,b⟩:=f;unfold dI;cases c:a.spot with
 |some s=>
  rw[c]at b;rw[<-b];exact .fE U
 |none=>
  rw[c]at b;rw[<-b];apply fF rm;rintro k s l d ⟨rfl,e⟩;subst e;apply fF (adn<|h.r d);intro m _ _ j _;refine .ve (j.1 _ _<|d.1 _ _ g) λe n o q=> ?_;simp only[<-i,è];split
  .exact .fE U
  .split
   .exact .fE U
   .exact .fO
def Ko(c:Bi Y){b d:Ü}(f:gY Y a p)(g:gY Y b d):(a.block==b.block)=(p.block==d.block):=by
 rw[ŉ,beq_iff_eq,beq_iff_eq];constructor
 .intro e;exact c.1 _ _ _ f.1<|e▸g.1
 .intro e;exact c.2.1 _ _ _ f.1<|e▸g.1
def Vl(k:Bi Y){b c:Ü}(d:gY Y a p)(f:gY Y b c):(a==b)=(p==c):=by have e:=Ko k d f;rw[ŉ,beq_iff_eq,beq_iff_eq]at e;rw[ŉ,beq_iff_eq,beq_iff_eq];let⟨l,m,n⟩:=a;let⟨o,q,r⟩:=p;let⟨s,t,u⟩:=b;let⟨v,w,x⟩:=c;let⟨_,g,h⟩:=d;let⟨_,i,j⟩:=f;simp only at g h i j e;subst g h i j;simp only[Addr.mk.injEq,e]
def Vm(f:Bi Y)(i:Y.C=P.globals.size){b d:Ü}(e:gY Y a p)(g:gY Y b d):fG P jq Y (Ŷ a b) (Ŷ p d):=by
 unfold Ŷ;apply fF rm;rintro o c q h ⟨j,k⟩;rw[j,k];have l:(a.block !=b.block)=(p.block !=d.block):=by simp only[bne];rw[Ko f e g]
 have m:(decide<|a.block≥P.globals.size)=(decide<|p.block≥P.globals.size):=by have:=f.2.2 _ _ e.1;rw[i]at this;rw[ŉ,decide_eq_true_iff,decide_eq_true_iff];omega
 rw[l,m];split
 .exact .fO
 .apply fF (GO<|e.r h);rintro r x _ n rfl;apply fF (GO<|(g.r h).r n);rintro s y _ t rfl;exact .fE U
def ado(d:Bi Y)(e:Y.C=P.globals.size)(k:ą){b c:Ü}(f:gY Y a p)(g:gY Y b c):fG P fl Y (σ k a b) (σ k p c):=by unfold σ;apply fF (Vm d e f g);rintro h ⟨x,y⟩ _ _ rfl;exact .fE (.iF _ _)
def adp(e:Bi Y)(f:Y.C=P.globals.size)(c:ĭ){b d:Ü}(g:gY Y a p)(h:gY Y b d):fG P fl Y (υ c a b) (υ c p d):=by unfold υ;refine fF (Vm e f g h) ?_;rintro i ⟨x,y⟩ _ _ rfl;cases c<;>first|exact .fE (.mo _)|exact .fO
def Vo(k:ą)(b:gY Y a p)(n:Int):fG P fl Y (φ k a n) (φ k p n):=by
 unfold φ;refine .ve b.1 λe m d f=> ?_;apply Au;apply fF (yo e);rintro g h _ c ⟨rfl,_⟩;simp only[];split
 .exact .fO
 .apply fF (GO<|b.r c);rintro i x _ _ rfl;exact .fE (.iF _ _)
def adq{n:Int}(h:j<=b)(a:av P i e j k n=À m):av P i e b k n=À m:=by
 unfold av at a|-;simp only[bind,Option.bind]at a|-;split at a
 .cases a
 .rename_i f;rw[if_neg f];split at a
  .cases a
  .rename_i g;simp only[g];dsimp only at a;split at a
   .cases a
   .rename_i l;rw[if_neg]
    .exact a
    .intro o;apply l;have:=(λw=>Nat.mul_le_mul_right w h)<|P.bytesOf e;simp at o|-;omega
def adr{i:Á->Bool}:∀{d:Nat} {e:Á} {c a b n:Nat},c<=a->dC P i d e c b n=Ë->dC P i d e a b n=Ë
 |0,_,_,_,_,_,_,h=>by simp[dC]at h
 |d+1,e,c,a,b,n,hc,h=>by
  unfold dC at h|-;simp only at h|-;split at h
  .cases h
  .rename_i j;rw[if_neg j];rw[ů,ĕ,ĕ,ĕ]at h|-;rcases h with⟨⟨f,g⟩,k⟩|⟨f,g⟩
   .exact Æ ⟨⟨f,by simp at g|-;omega⟩,k⟩
   .exact Í ⟨by simp at f|-;omega,g⟩
def Vp:∀{d:Nat} {e:Á} {c a b:Nat} {u:Á} {n:Nat},c<=a->bG P d e c b u n=Ë->bG P d e a b u n=Ë
 |0,_,_,_,_,_,_,_,h=>by simp[bG]at h
 |d+1,e,c,a,b,u,n,hc,h=>by
  unfold bG at h|-;rw[ů]at h|-;rcases h with h|h
  .exact Æ<|adr hc h
  .right;split at h
   .rename_i f;first|rw[f]|skip
    exact Vp hc h
   .cases h
def ads{a:Á->Bool}:dC P a i e 0 j (n+1)=Â:=by
 cases i with
 |zero=>simp[dC]
 |succ i=>
  unfold dC;simp
def adt{k:ą}(a:P.underlying t=À (ι k)):bG P i e 0 j t (n+1)=Â:=by
 cases i with
 |zero=>simp[bG]
 |succ i=>
  unfold bG;rw[ads];simp[a]
def Vq(t:Á)(d:gY Y a p)(k:ą)(n:Int):fG P fl Y (ô #[] t #[Ù<|À a,ē k n]) (ô #[] t #[Ù<|À p,ē k n]):=by
 have f:=d;let⟨c,g,h⟩:=f;unfold ô;apply Au;simp only[];split
 .apply fF (Kn c);rintro i x e b ⟨rfl,rfl⟩;exact .fE (.jV (d.r b))
 .split
  .exact .fO
  .refine .ve c λe m u j=> ?_;apply Au;apply fF rm;rintro i b v l ⟨o,r⟩;rw[o,r,<-g];cases s:av P P.depth e (m/P.cellsOf e) a.off n with
   |none=>exact .fO
   |some x=>
    rw[adq (ax<|j.elim (λq=>by omega) λq=>q.1) s];exact .fE (.jV ⟨l.1 _ _ c,U,h⟩)
end
def yr:Obj->Prop
 |ė .. =>False
 |_=>True
inductive kF(P:Ø){α:Type}(V:fp->α->α->Prop):fp->Ğ α->Ğ α->Prop
 |gp {Y:fp} {m m':Ğ α} (h:fG P V Y m m'):kF P V Y m m'
 |lN {Y:fp} {β:Type} {V0:fp->β->β->Prop} {m m':Ğ β} {f f':β->Ğ α} (h:fG P V0 Y m m') (hf:∀Y' a a',Y.r Y'->V0 Y' a a'->kF P V Y' (f a) (f' a')):kF P V Y (m.bind f) (m'.bind f')
 |Ej {Y:fp} {o:Obj} {g:Nat->α} {m':Ğ α} (ho:yr o):kF P V Y (.new o λr=>bj<|g r) m'
 |Ek {Y:fp} {m m':Ğ α} (h:∀u x u',m.run P u=İ x u'->∃i o,u.heap.size<=i/\u'.heap[i]?=À o/\yr o):kF P V Y m m'
section
variable{Y:fp}
def kF.adu{α β:Type}{V:fp->α->α->Prop}{i:fp->β->β->Prop}{m e:Ğ α}{f j:α->β}(h:kF P V Y m e)(k:∀c a d,Y.r c->V c a d->i c (f a) (j d)): kF P i Y (m.bind λa=>bj<|f a) (e.bind λa=>bj<|j a):=by
 induction h with
 |gp h=>exact .gp (h.lN λc a d u w=> .fE (k c a d u w))
 |lN h _ g=>
  rw[Ű,Ű];exact .lN h λc a d u w=>g c a d u w λx b z l n=>k x b z (fp.I u l) n
 |Ej b=>exact .Ej b
 |@Ek Y m e h=>
  refine .Ek λu x l b=> ?_;rw[ł]at b;cases g:m.run P u with
  |halt z w=>rw[g]at b;cases b
  |ok a w=>
   rw[g]at b;simp only[ä]at b;cases b;exact h u a _ g
def El(u a:È):Prop:=∀i o,u.heap.size<=i->a.heap[i]?=À o->¬yr o
def kF.gk{α:Type}{V:fp->α->α->Prop}{Y:fp}{m r:Ğ α}(h:kF P V Y m r):∀{u w:È},jg Y X u w->(∀j,X j->j<w.heap.size)->∀{x:α} {c:È},m.run P u=İ x c->El u c->∀d:Array Ĉ,∃(a:fp) (n:α) (s:È) (b:Array Ĉ),Y.r a/\(∀i j,a i j->Y i j\/(u.heap.size<=i/\w.heap.size<=j))/\r.runT P w d=(İ n s,d++b)/\V a x n/\jg a X c s/\nN Y X w s/\(∀e∈b,As a X e)/\u.heap.size<=c.heap.size:=by
 induction h with
 |gp h=>intro u w k g x c b _ d;exact h.gk k g b d
 |@lN Y β V0 m r f f' h _ ih=>
  intro u w k g x c b l d;rw[ł]at b;cases t:m.run P u with
  |halt z w=>rw[t]at b;cases b
  |ok a u1=>
   rw[t]at b;let⟨G,H,w1,E,p,q,v,I,J,B,K,C⟩:=h.gk k g t d;let⟨L,n,M,N,F,O,Q,S,T,W,k7,k8⟩:=ih G a H p I J (λj s=>Ô (g j s) B.r) b (λi o s=>l i o<|ö C s)<|d++E;refine⟨L,n,M,E++N,fp.I p F,λi j D=> ?_,?_,S,T,B.fg W λi j D=>(q i j D).imp id λy=>y.2,λe s=> ?_,ö C k8⟩
   .rcases O i j D with y|⟨y1,y2⟩
    .exact q i j y
    .exact Í ⟨ö C y1,ö B.r y2⟩
   .rw[Ð,v];simp only[];rw[Q,ŋ]
   .rcases ħ.1 s with s|s
    .rcases K e s with⟨a,i,y,z2,z3,z4⟩|z
     .exact Æ ⟨a,i,y,F.1 _ _ z2,z3,z4⟩
     .exact Í z
    .exact k7 e s
 |Ej s=>
  intro u w k g x c b l d;simp only[ä]at b;cases b;exact absurd s<|l u.heap.size _ (á _) fj
 |Ek h=>
  intro u w k g x c b l d;let⟨i,o,p,q,v⟩:=h u x c b;exact absurd v<|l i o p q
end
section
variable{Y:fp}
def adv(i:Bi Y)(s:Y.C=P.globals.size)(t:Á)(u:tD P t){j b m:Ü}(e:gY Y a j)(f:gY Y b m):fG P jq Y (û t (Ù<|À a)<|Ù<|À b) (û t (Ù<|À j)<|Ù<|À m):=by
 unfold û č ς;refine fF (jc t) ?_;rintro G d _ g ⟨rfl,c⟩;rcases u with h|⟨k,h⟩|h
 .rw[h]at c;injection c with c;subst c;exact .fO
 .rw[h]at c;injection c with c;subst c;apply fF (Aw<|e.r g);rintro H p v l ⟨_,_,rfl,rfl⟩;apply fF (Aw<|(f.r g).r l);rintro I q J n ⟨_,_,rfl,rfl⟩;apply fF rm;rintro K p v o ⟨w,z⟩;rw[w,z];have B:=(((e.r g).r l).r n).r o;have C:=(((f.r g).r l).r n).r o;have D:=Ko i e f;have E:(decide<|a.block<P.globals.size)=(decide<|j.block<P.globals.size):=by
   have:=i.2.2 _ _ e.1;rw[s]at this;rw[ŉ,decide_eq_true_iff,decide_eq_true_iff];exact this
  simp only[D,E];split
  .apply fF (GO B);rintro F x _ r rfl;apply fF (GO<|C.r r);rintro L y _ M rfl;exact .fE U
  .apply fF (yo t);rintro F x _ r ⟨rfl,_⟩;split
   .rw[Vl i e f];split
    .exact .fE U
    .exact .fO
   .exact .fO
 .rw[h]at c;injection c with c;subst c;exact .fO
def adw(e:Bi Y)(f:Y.C=P.globals.size)(t:Á)(b:tD P t)(c:fl Y x v)(d:fl Y z jQ):fG P jq Y (û t x z) (û t v jQ):=by
 by_cases a:ng x\/ng z
 .exact Vj t (Æ b) c d a
 .have g:=λh=>a<|Æ h;have i:=λh=>a<|Í h;cases c<;>first|exact absurd trivial g|skip
  cases d<;>first|exact absurd trivial i|skip
  rename_i j _ _ k;exact adv e f t b j k
def adx(a:ĭ)(k:ą)(x y:Int):fG P fl Y (aH a k x y) (aH a k x y):=by
 unfold aH;split
 .exact Km
 .cases a<;>first|exact .fO|exact .fE (.iF _ _)
def ady(a:ĭ)(k b:ą)(x y:Int):fG P fl Y (bl a k x b y) (bl a k x b y):=by
 unfold bl;split
 .exact Km
 .cases a<;>first|exact .fO|exact .fE (.iF _ _)
def adz(a:ĭ)(t:Á)(k b:ą)(x y:Int):fG P fl Y (Α a t (ē k x)<|ē b y) (Α a t (ē k x)<|ē b y):=by
 cases a<;>simp only[Α]<;>first|exact ady _ _ _ _ _|skip
 all_goals
  split
  .exact .fO
  .first|exact .fE (.iF _ _)|exact .fE (.mo _)|exact adx _ _ _ _
def adA(a:ĭ)(t:Á)(x y:ByteArray):fG P fl Y (Α a t (Ĥ x)<|Ĥ y) (Α a t (Ĥ x)<|Ĥ y):=by
 cases a<;>simp only[Α,bQ]<;>first|exact .fO|exact .fE (.mo _)|skip
 split
 .exact .fO
 .exact .fE (.kE _)
end
section
variable{Y:fp}
def kT{α β:Type}{V0:fp->β->β->Prop}{V:fp->α->α->Prop}{m c:Ğ β}{f d:β->Ğ α}(h:fG P V0 Y m c) (g:∀b a e,Y.r b->V0 b a e->kF P V b (f a) (d e)):kF P V Y (m>>=f) (c>>=d):=.lN h g
def adB{α β:Type}{V:fp->α->α->Prop}{c:fp->β->β->Prop}{m d:Ğ α}{f e:α->β}(h:kF P V Y m d)(i:∀b a g,Y.r b->V b a g->c b (f a) (e g)): kF P c Y (m>>=λa=>pure<|f a) (d>>=λa=>pure<|e a):=kF.adu h i
def Vr(t:Á)(y:Ã):∀u x a,(ô #[] t #[Ù í,y]).run P u≠İ x a:=by
 unfold ô;refine yq λn=> ?_;simp only[];split
 .exact Av
 .split
  .exact vf Av
  .exact Av
def Em(t:Á)(i:fl Y x v)(j:∃p,x=Ù p)(k:ą)(n:Int):kF P fl Y (ũ t x<|ē k n) (ũ t v<|ē k n):=by
 obtain⟨p,rfl⟩:=j;cases i with
 |lL=>
  unfold ũ;refine kT (jc t) ?_;rintro e d _ h ⟨rfl,_⟩;cases d<;>simp only[Ç,if_false,if_true]<;>first|exact .gp .fO|exact .gp (.oz (Vr t _))
 |jV f=>
  unfold ũ;refine kT (jc t) ?_;rintro e d _ h ⟨rfl,_⟩;have l:∀{a g:Ü},gY e a g->kF P fl e (Ļ a>>=λp=>ô #[] t #[Ù<|À p.1,ē k n]>>=λc=>match c with|Ù (À b)=>cL b p.2|c=>pure c) (Ļ g>>=λp=>ô #[] t #[Ù<|À p.1,ē k n]>>=λc=>match c with|Ù (À b)=>cL b p.2|c=>pure c):=by intro a g f;refine kT (Aw f) ?_;rintro q p r s ⟨m,u,rfl,rfl⟩;refine kT (Vq t m k n) ?_;intro w c y z o;cases o<;>first|exact .Ej trivial|exact .gp (.fE (by constructor<;>assumption))
  cases d<;>simp only[Ç,if_false,if_true]<;>first|exact .gp .fO|exact l<|f.r h
def Vt(t:Á)(b:fl Y x v)(c:∃p,x=Ù p)(k:ą)(n:Int):kF P fl Y (ŷ t x<|ē k n) (ŷ t v<|ē k n):=by
 unfold ŷ;obtain⟨p,rfl⟩:=c;cases b with
 |lL=>exact .gp (.oz (Vr t _))
 |jV a=>
  apply kT (Vk a.1);rintro e p f d ⟨rfl,rfl⟩;exact .gp (Vq t (a.r d) k n)
def adC(P:Ø)(a:ĭ)(t:Á)(x y:Ã):Prop:=a=aV\/a=bm->(tD P t\/((∃e,P.underlying t=À (ó e))/\(ng x\/ng y)))
def Vu(c:Bi Y)(d:Y.C=P.globals.size)(t:Á)(f:tD P t\/((∃e,P.underlying t=À (ó e))/\(ng x\/ng z)))(a:fl Y x v)(b:fl Y z jQ):fG P jq Y (û t x z) (û t v jQ):=by
 rcases f with h|⟨g,i⟩
 .exact adw c d t h a b
 .exact Vj t (Í g) a b i
def adD(m:Bi Y)(n:Y.C=P.globals.size)(c:ĭ)(t:Á)(r:adC P c t x z)(o:fl Y x v)(h:fl Y z jQ):kF P fl Y (Α c t x z) (Α c t v jQ):=by
 have f:c=aV->fG P fl Y (û t x z>>=λb=>pure<|ō b) (û t v jQ>>=λb=>pure<|ō b):=by intro e;apply fF (Vu m n t (r<|Æ e) o h);rintro i b _ _ rfl;exact .fE (.mo _)
 have g:c=bm->fG P fl Y (û t x z>>=λb=>pure<|ō !b) (û t v jQ>>=λb=>pure<|ō !b):=by intro e;apply fF (Vu m n t (r<|Í e) o h);rintro i b _ _ rfl;exact .fE (.mo _)
 cases o with
 |iF k a=>
  cases h with
  |iF d b=>exact .gp (adz c t k d a b)
  |jV l=>
   cases c<;>first|exact .gp .fO|exact .gp (f U)|exact .gp (g U)|exact Em t (.jV l) ⟨_,U⟩ _ _|skip
   apply kT (Aw l);rintro i p s e ⟨j,_,_,_⟩;exact .gp (Vo _ j _)
  |lL=>cases c<;>first|exact .gp .fO|exact .gp (f U)|exact .gp (g U)|exact Em t .lL ⟨_,U⟩ _ _
  |_=>cases c<;>first|exact .gp .fO|exact .gp (f U)|exact .gp (g U)
 |kE a=>
  cases h with
  |kE b=>exact .gp (adA c t a b)
  |_=>cases c<;>first|exact .gp .fO|exact .gp (f U)|exact .gp (g U)
 |lL=>
  cases h with
  |iF k b=>
   cases c<;>first|exact .gp .fO|exact .gp (f U)|exact .gp (g U)|exact Em t .lL ⟨_,U⟩ _ _|skip
   refine kT (jc t) ?_;rintro i d _ e ⟨rfl,_⟩;cases d<;>simp only[Ç,if_false,if_true]<;>first|exact Vt t .lL ⟨_,U⟩ _ _|exact Em t .lL ⟨_,U⟩ _ _
  |_=>cases c<;>first|exact .gp .fO|exact .gp (f U)|exact .gp (g U)
 |jV a=>
  cases h with
  |iF k b=>
   cases c<;>first|exact .gp .fO|exact .gp (f U)|exact .gp (g U)|exact Em t (.jV a) ⟨_,U⟩ _ _|skip
   .refine kT (jc t) ?_;rintro i d _ e ⟨rfl,_⟩;have a:=a.r e;cases d<;>simp only[Ç,if_false,if_true]<;>first|exact Vt t (.jV a) ⟨_,U⟩ _ _|exact Em t (.jV a) ⟨_,U⟩ _ _
   all_goals
    apply kT (Aw a);rintro i p s e ⟨j,_,_,_⟩;exact .gp (Vo _ j _)
  |jV l=>
   cases c<;>first|exact .gp .fO|exact .gp (f U)|exact .gp (g U)|skip
   all_goals
    refine kT (Aw a) ?_;rintro i p s e ⟨j,_,rfl,rfl⟩;refine kT (Aw<|l.r e) ?_;rintro w q B b ⟨d,_,rfl,rfl⟩;have k:=b.2.1<|e.2.1 m;have u:=b.2.2.trans<|e.2.2.trans n;first|exact .gp (ado k u _ (j.r b) d)|exact .gp (adp k u _ (j.r b) d)
  |_=>cases c<;>first|exact .gp .fO|exact .gp (f U)|exact .gp (g U)
 |_=>
  cases h<;>cases c<;>first|exact .gp .fO|exact .gp (f U)|exact .gp (g U)
end
section
variable{Y:fp}
def adE(a b:Á)(h:(∃k g,P.underlying a=À (ι k)/\P.underlying b=À (ι g))\/(P.underlying a=À ĥ/\P.underlying b=À ĥ))(f:fl Y x v):fG P fl Y (Ŧ a b x) (Ŧ a b v):=by
 unfold Ŧ;refine fF (jc a) ?_;rintro n d _ l ⟨rfl,c⟩;refine fF (jc b) ?_;rintro o p _ m ⟨rfl,e⟩;have f:=(f.fN l).fN m;rcases h with⟨k,g,i,j⟩|⟨i,j⟩;all_goals
  rw[i]at c;rw[j]at e;injection c with c;injection e with e;subst c e;cases f<;>first|exact .fO|exact .fE (.iF _ _)|exact .fE (.kE _)
inductive o0(Y:fp):χ->χ->Prop
 |nP {v v':Ã} (h:fl Y v v'):o0 Y (ñ v) (ñ v')
 |sG:o0 Y bh bh
 |sH (f:ã) {c c':Array Ã} (h:fQ Y c c'):o0 Y (Β f c) (Β f c')
def GQ(P:Ø)(t:Á):Prop:=tD P t\/∃e,P.underlying t=À (ó e)
def adF(t:Á)(f:GQ P t)(a g b i:Ã):fG P jq Y (ļ č t a b) (ļ č t g i):=by
 unfold č ļ;refine fF (jc t) ?_;rintro j d _ l ⟨rfl,c⟩;rcases f with(h|⟨k,h⟩|h)|⟨e,h⟩;all_goals
  rw[h]at c;injection c with c;subst c;exact .fE U
def adG(e:ĭ)(t:Á)(c:e=aV\/e=bm->GQ P t)(x y:Ú){d:Ã}(h:fl Y v z)(i:fl Y jQ d):fG P jq Y (Ξ e t x y v jQ) (Ξ e t x y z d):=by
 have g:GQ P t->∀{f:fp} (s:bP) (v z jQ d:Ã),fG P jq f (ļ č t v jQ>>=λr=>if r=Ë then unsupported s else pure ()) (ļ č t z d>>=λr=>if r=Ë then unsupported s else pure ()):=by
  intro c f s v z jQ d;apply fF (adF t c v z jQ d);rintro j r _ _ rfl;split
  .exact .fO
  .exact .fE U
 unfold Ξ;cases e<;>first|exact .fE U|skip
 all_goals
  have c:=c (by first|exact Æ U|exact Í U);cases h<;>cases i<;>first|exact .fE U|skip
 all_goals first
  |(cases x<;>cases y<;>first|exact .fE U|exact g c _ _ _ _ _)
  |(
   simp only[Ċ,Ç,if_false];apply fF rm;rintro f p m n ⟨r,s⟩;rw[r,s];apply fF rm;rintro j q o u ⟨k,l⟩;rw[k,l];split
   .exact .fE U
   .exact g c _ _ _ _ _)
def mJ{m a:Ğ Ã}(h:fG P fl Y m a):fG P o0 Y (m>>=λv=>pure<|ñ v) (a>>=λv=>pure<|ñ v):=h.lN λ_ _ _ _ v=> .fE (.nP v)
def Vv{m a:Ğ Ã}(h:kF P fl Y m a):kF P o0 Y (m>>=λv=>pure<|ñ v) (a>>=λv=>pure<|ñ v):=adB h λ_ _ _ _ v=> .nP v
def adH{m a:Ğ Unit}(h:fG P jq Y m a):fG P o0 Y (m>>=λ_=>pure bh) (a>>=λ_=>pure bh):=h.lN λ_ _ _ _ _=> .fE .sG
def adI(f:ã)(b:∃a,P.funcs[f]?=À a/\(a.name== "runtime.NumGoroutine")=Â/\a.body.isNone=Â)(e:fQ Y d q):fG P o0 Y (Ń f d) (Ń f q):=by let⟨a,g,h,i⟩:=b;unfold Ń;apply fF rm;rintro m p n j ⟨k,l⟩;rw[k,l,g];simp only[h,i,Ç,if_false];exact .fE (.sH f (e.I j))
end
inductive j4(P:Ø)(ev:Ú->Ã):Op->Prop
 |Ax (x:Ú):j4 P ev (.move x)
 |GR (x:Ú):j4 P ev (.assign x)
 |wD (c a b:Ú):j4 P ev (.pick c a b)
 |gE (t:Á):j4 P ev (.alloc t)
 |OQ (t:Á) (x:Ú):j4 P ev (.box t x)
 |OS (t:Á) (ps:Array (Nat×Operand)):j4 P ev (.build t ps)
 |OT (t:Á) (n:Nat) (ps:Array (Nat×Operand)):j4 P ev (dV t n ps)
 |gy (t:Á) (a:Ú):j4 P ev (.load t a)
 |jb (t:Á) (a x:Ú):j4 P ev (.store t a x)
 |GU (x:Ú):j4 P ev (eV x)
 |En (op:ĭ) (t:Á) (x y:Ú) (r:Á) (h:op=aV\/op=bm->(tD P t\/((∃e,P.underlying t=À (ó e))/\(ng (ev x)\/ng (ev y))))):j4 P ev (ey op t x y r)
 |OU (op:UnOp) (t:Á) (x:Ú):j4 P ev (.unOp op t x)
 |OV (s d:Á) (x:Ú) (h:(∃k k',P.underlying s=À (ι k)/\P.underlying d=À (ι k'))\/(P.underlying s=À ĥ/\P.underlying d=À ĥ)):j4 P ev (bn s d x)
 |OW (t:Á) (l c:Ú):j4 P ev (ez t l c)
 |kO (t:Á) (x:Ú) (lo hi mx:Option Ú):j4 P ev (.slice t x lo hi mx)
 |OX (s:Á) (x:Ú) (n:Nat) (h:∀fields f i,P.underlying s=À (dG fields)->fields[n]?=À f->P.info? f.type=À i->i.size≠0):j4 P ev (eA s x n)
 |OY (t:Á) (x:Ú) (n:Nat):j4 P ev (.field t x n)
 |OZ (t:Á) (x i:Ú):j4 P ev (eB t x i)
 |O0 (t:Á) (x i:Ú):j4 P ev (.index t x i)
 |GD (x:Ú) (n:Nat):j4 P ev (.extract x n)
 |GV (x:Ú) (ts:Array Á):j4 P ev (ae {callee:=ĩ .len,args:=#[x],argTypes:=ts})
 |GX (x:Ú) (ts:Array Á):j4 P ev (ae {callee:=ĩ .cap,args:=#[x],argTypes:=ts})
 |GY (x y:Ú) (ts:Array Á):j4 P ev (ae {callee:=ĩ .copy,args:=#[x,y],argTypes:=ts})
 |GZ (x y:Ú) (t0 t1:Á) (h:(∃e,P.underlying t1=À (dH e))\/P.underlying t1=À ĥ):j4 P ev (ae {callee:=ĩ .append,args:=#[x,y],argTypes:=#[t0,t1]})
 |jI (f:ã) (args:Array Ú) (ts:Array Á) (Vw:ev (bq f)=.func (.func f) #[] #[]) (h:∃fn,P.funcs[f]?=À fn/\(fn.name== "runtime.NumGoroutine")=Â/\fn.body.isNone=Â):j4 P ev (ae {callee:=cM<|bq f,args:=args,argTypes:=ts})
end Go.Proofs.Y.Lift
namespace Go.Proofs.Y.Lift
open Go Go.Conc
section
variable{Y:fp}
def Vx(Y:fp):Ú->Prop
 |eC v=>fl Y v v
 |eR g=>Y g g
 |_=>True
def G0(Y:fp):fl Y Ŏ Ŏ:=.nL U λi h=>absurd h fj
def adJ{a a':bY}(h:fQ Y a.tmps a'.tmps)(b:Vx Y qQ):fl Y (a.eval qQ) (a'.eval qQ):=by
 cases qQ with
 |tmp t=>
  simp only[ê,ĳ];rcases h.S t with⟨f,g⟩|⟨v,d,f,g,c⟩
  .rw[f,g];exact G0 Y
  .rwa[f,g]
 |const v=>exact b
 |global g=>exact .jV ⟨b,U,U⟩
 |func f=>exact .fn _
def adK(b:Array aR)(h:fQ Y d q)(j:Nat):Ŗ b d j=Ŗ b q j:=by
 unfold Ŗ;cases(b[j]?).bind (·.dst)with
 |none=>rfl
 |some a=>
  simp only[Option.bind_some];rcases h.S a with⟨c,e⟩|⟨v,g,c,e,f⟩
  .rw[c,e]
  .rw[c,e];cases f<;>rfl
def Kp(a:Array aR)(o:aR)(h:fQ Y d q):ı o (Ŗ a d)=ı o (Ŗ a q):=by have:Ŗ a d=Ŗ a q:=funext<|adK a h;rw[this]
def adL{a a':bY}(h:fQ Y a.tmps a'.tmps)(d:Option Tmp)(b:fl Y v x):fQ Y (a.put d v).tmps (a'.put d x).tmps:=by
 cases d with
 |none=>exact h
 |some d=>exact h.qC d b
end
section
variable{Y:fp}
def Vy{b:Ú->Ã}(a:Array Ú)(h:∀x∈a,fl Y (xX x)<|b x):fQ Y (a.map xX) (a.map b):= ⟨fj,λi c d=>by simp only[Ν];exact h _<|Array.getElem_mem _⟩
def Vz{c:Ú->Ã}(a:Array (Nat×Operand))(h:∀x∈(a.toList.map (·.2)).toArray,fl Y (xX x)<|c x):vg Y (a.map λp=>(p.1,xX p.2)).toList (a.map λp=>(p.1,c p.2)).toList:=by
 simp only[Array.toList_map];have d:∀x∈a.toList.map (·.2),fl Y (xX x) (c x):=λx b=>h x (by simpa using b);generalize a.toList=l at d
 induction l with
 |nil=>exact .oZ
 |cons p l e=>exact .wC ⟨U,d _ fj⟩ (e λx b=>d x<|by simp at b|-;exact Í b)
def O1{a:Ú->Ã}(x:Option Ú)(h:∀y,x=À y->fl Y (xX y) (a y)):rn Y (x.map xX) (x.map a):=by
 cases x with
 |none=>exact Æ ⟨U,U⟩
 |some x=>exact Í ⟨_,_,U,U,h x U⟩
def VA(p:nO P)(D:Bi Y)(E:Y.C=P.globals.size){w:Ú->Ã}(F:∀f,w (bq f)=.func (.func f) #[] #[])(B:j4 P xX o.op)(g:∀x∈o.op.operands,fl Y (xX x)<|w x):kF P o0 Y (î xX o) (î w o):=by
 let⟨O,u,Q,S,T,guard⟩:=o;simp only at B g;unfold î;simp only[];cases B with
 |Ax x=>exact .gp (.fE (o0.nP<|g x<|by simp[Ì]))
 |GR x=>exact .gp (.fE (o0.nP<|g x<|by simp[Ì]))
 |wD c a b=>
  apply kT (Vh<|g c<|by simp[Ì]);rintro G r _ k rfl;refine .gp (.fE (o0.nP ?_));split
  .exact(g a<|by simp[Ì]).fN k
  .exact(g b<|by simp[Ì]).fN k
 |gE t=>exact .gp (mJ<|acT p t _)
 |OQ t x=>exact .gp (mJ<|acU t<|g x<|by simp[Ì])
 |OS t z=>exact .gp (mJ<|ada p t<|Vz z g)
 |OT t n z=>exact .gp (mJ<|adf p t n<|Vz z g)
 |gy t a=>exact .gp (mJ<|acV t<|g a<|by simp[Ì])
 |jb t a x=>exact .gp (adH<|acW t (g a<|by simp[Ì])<|g x<|by simp[Ì])
 |GU x=>
  simp only[];have j:=g x (by simp[Ì]);generalize xX x=v at j;generalize w x=v' at j;cases j<;>first|exact .gp Km|exact .gp (.fE (o0.nP<|by constructor<;>assumption))|skip
  rename_i f;cases f<;>exact .gp (.fE (o0.nP<|.fn _))
 |En u t x y r h=>
  have j:=g x (by simp[Ì]);have C:=g y (by simp[Ì]);apply Vv;apply kT (adG u t (λe=>(h e).imp id λq=>q.1) x y j C);exact λG _ _ k _=>adD (k.2.1 D) (k.2.2.trans E) u t h (j.fN k)<|C.fN k
 |OU u t x=>exact .gp (mJ<|ac4 u<|g x<|by simp[Ì])
 |OV s d x h=>exact .gp (mJ<|adE s d h<|g x<|by simp[Ì])
 |OW t l c=>exact .gp (mJ<|adl p t (g l<|by simp[Ì])<|g c<|by simp[Ì])
 |kO t x H I J=>exact .gp (mJ<|ac2 t (g x<|by simp[Ì]) (O1 H λy e=>g y<|by simp[Ì,e]) (O1 I λy e=>g y<|by simp[Ì,e])<|O1 J λy e=>g y<|by simp[Ì,e])
 |OX s x n h=>exact .gp (mJ<|acZ s (g x<|by simp[Ì]) n h)
 |OY t x n=>exact .gp (mJ<|acY t (g x<|by simp[Ì]) n)
 |OZ t x i=>exact .gp (mJ<|ac0 t (g x<|by simp[Ì])<|g i<|by simp[Ì])
 |O0 t x i=>exact .gp (mJ<|ac3 t (g x<|by simp[Ì])<|g i<|by simp[Ì])
 |GD x n=>exact .gp (mJ<|acX (g x<|by simp[Ì]) n)
 |GV x m=>
  simp only[ā,Ę,ĝ,pure_bind,Û,æ,é];exact .gp (mJ<|adh m _<|g x<|by simp[Ì,ü])
 |GX x m=>
  simp only[ā,Ę,ĝ,pure_bind,Û,æ,é];exact .gp (mJ<|adi m _<|g x<|by simp[Ì,ü])
 |GY x y m=>
  simp only[ā,Ę,ĝ,pure_bind,Û,æ,é];exact .gp (mJ<|adj m _ (g x<|by simp[Ì,ü])<|g y<|by simp[Ì,ü])
 |GZ x y K L h=>
  simp only[ā,Ę,ĝ,pure_bind,Û,æ,é];exact .gp (mJ<|adk p K L _ h (g x<|by simp[Ì,ü])<|g y<|by simp[Ì,ü])
 |jI f M m N h=>
  simp only[ā,N,F f,Ľ,Ę,pure_bind,ę,Ě];exact .gp (adI f h<|Vy M λx j=>g x<|by simp[Ì,ü,j])
end
def World.tp(u:È)(T:aE)(D:Nat):È:={u with tape:=T,drawn:=D}
def vh(T:aE)(D:Nat)(a:aE)(b n:Nat):Prop:=∀i,i<n->a (b+i)=T (D+i)
def vh.lO{T:aE}(h:vh T i xQ j (n+1)):xQ j=T i:=h 0 Z
def vh.jr{T:aE}(h:vh T i xQ j (n+m)):vh T i xQ j n:=λa b=>h a Z
def vh.adM{b:aE}(h:vh xQ i b j (n+m)):vh xQ (i+n) b (j+n) m:=λa c=>by have:=h (n+a) Z;rw[show j+n+a=j+(n+a) by omega,show i+n+a=i+(n+a) by omega];exact this
def ru{α:Type}(P:Ø)(m:Ğ α):Prop:=∀(u:È) (T:aE) (D:Nat),∃(n:Nat) (v:È),
 ∀x c,m.run P ((World.tp u T D))=İ x c->c=(World.tp v T<|D+n)/\∀a b,vh T D a b n->m.run P ((World.tp u a b))=İ x ((World.tp v a<|b+n))
section
variable{α β:Type}
def Ay{m:Ğ α}(h:∀u x a,m.run P u=İ x a->a=u/\∀b c,m.run P ((World.tp u b c))=İ x ((World.tp u b c))):ru P m:=λu T D=>⟨0,u,λx a e=>by let⟨d,f⟩:=h _ x a e;exact⟨d,λb c _=>f b c⟩⟩
def O2{m:Ğ α}(h:∀u x a,m.run P u≠İ x a):ru P m:=λu T D=>⟨0,u,λx a e=>absurd e<|h _ _ _⟩
def adN{m:Ğ α}{f:α->Ğ β}(h:ru P m)(i:∀a,ru P<|f a):ru P (m.bind f):=by
 intro u T D;let⟨n,v,j⟩:=h u T D;cases b:m.run P ((World.tp u T D))with
 |halt z w=>exact⟨0,u,λx c e=>by rw[ł,b]at e;cases e⟩
 |ok a k=>
  obtain⟨rfl,l⟩:=j a k b;let⟨o,w,p⟩:=i a v T<|D+n;refine⟨n+o,w,λx c e=> ?_⟩;rw[ł,b]at e;let⟨q,r⟩:=p x c e;refine⟨by rw[q,dq],λz d g=> ?_⟩;rw[ł,l z d g.jr,<-dq];exact r z (d+n) g.adM
def adO{m a:Ğ α}(h:∀u,m.run P u=a.run P u)(b:ru P a):ru P m:=by intro u T D;let⟨n,v,c⟩:=b u T D;exact⟨n,v,λx d e=>by let⟨f,g⟩:=c x d<|(h _).symm.trans e;exact⟨f,λi j k=>(h _).trans<|g i j k⟩⟩
def adP(q:cA):ru P (ŕ q):=by
 intro u T D;cases a:q.forced with
 |true=>exact⟨0,u,λx d e=>by simp only[ŕ,ä,a,if_true]at e;cases e;exact⟨U,λb c _=>by simp only[ŕ,ä,a,if_true];rfl⟩⟩
 |false=>
  refine⟨1,u,λx d e=> ?_⟩;simp only[ŕ,ä,a,Ç,if_false]at e;cases e;refine⟨U,λb c f=> ?_⟩;simp only[ŕ,ä,a,Ç,if_false];have g:(World.tp u b c).tape (World.tp u b c).drawn q=T D q:=congrFun f.lO q;rw[g];rfl
def Kq{γ:Type}(s:String):(MonadExcept.throw s:Except String γ)=bZ s:=rfl
def adQ(a:Ü)(md:Mode):ru P (bE a md):=by
 refine Ay λu x f e=> ?_;simp only[bE,ä]at e|-;cases b:u.cell? a with
 |some v=>
  rw[b]at e;cases e;exact⟨U,λc d=>by simp only[show((World.tp u c d)).cell? a=À x from b]⟩
 |none=>
  rw[b]at e;cases v:u.farLoad P a (md==Ĕ)with
  |error z=>simp only[v]at e;cases e
  |ok p=>
   simp only[v]at e;cases e;exact⟨U,λc d=>by simp only[show((World.tp u c d)).cell? a=í from b,show((World.tp u c d)).farLoad P a (md==Ĕ)=.ok p from v]⟩
def O3(u:È)(a:Ü)(v:Ã)(md:Mode):∀T D,((World.tp u T D)).farStore P a v (md==Ĕ)=(u.farStore P a v<|md==Ĕ).map λp=>((World.tp p.1 T D),p.2):=by
 intro T D;have c:∀b t,((World.tp u T D)).viewStore P b t a v (md==Ĕ)=(u.viewStore P b t a v<|md==Ĕ).map λp=>((World.tp p.1 T D),p.2):=by
  intro b t;unfold b9;have o:((World.tp u T D)).seen P b t a (md==Ĕ)=u.seen P b t a (md==Ĕ):=U;rw[o];simp only[bind,ay,pure,az,Kq];cases u.seen P b t a (md==Ĕ)with
  |error e=>simp only[];split<;>rfl
  |ok r=>
   simp only[];repeat' (first|rfl|split)
 unfold Ż;have e:((World.tp u T D)).heap=u.heap:=U;cases r:u.heap[a.block]? with
 |none=>simp only[br,e,r];rfl
 |some o=>
  cases o<;>first
   |(simp only[br,e,r];rfl)
   |skip
  simp only[e,r,c];cases u.viewStore P _ _ a v (md==Ĕ)<;>rfl
def adR(a:Ü)(v:Ã)(md:Mode):ru P (aP a v md):=by
 by_cases b:yl v=Ë
 .intro u T D;cases d:u.cell? a with
  |some y=>
   cases c:u.frozen? a with
   |true=>exact⟨0,u,λx h e=>by simp only[aP]at e;rw[wB b,show((World.tp u T D)).cell? a=À y from d]at e;simp only[show((World.tp u T D)).frozen? a=Ë from c,if_true]at e;cases e⟩
   |false=>
    refine⟨0,u.setCell a v,λx h e=> ?_⟩;simp only[aP]at e|-;rw[wB b,show((World.tp u T D)).cell? a=À y from d]at e;simp only[show((World.tp u T D)).frozen? a=Â from c,Ç,if_false]at e;cases e;refine⟨U,λf g i=> ?_⟩;rw[wB b,show((World.tp u f g)).cell? a=À y from d];simp only[show((World.tp u f g)).frozen? a=Â from c,Ç,if_false];rfl
  |none=>
   cases c:u.farStore P a v (md==Ĕ)with
   |error z=>exact⟨0,u,λx h e=>by simp only[aP]at e;rw[wB b,show((World.tp u T D)).cell? a=í from d]at e;simp only[O3 u a v md T D,c,cN]at e;cases e⟩
   |ok p=>
    refine⟨0,p.1,λx h e=> ?_⟩;simp only[aP]at e|-;rw[wB b,show((World.tp u T D)).cell? a=í from d]at e;simp only[O3 u a v md T D,c,cN]at e;cases e;refine⟨U,λf g i=> ?_⟩;rw[wB b,show((World.tp u f g)).cell? a=í from d];simp only[O3 u a v md f g,c,cN];rfl
 .exact O2 λu x h e=>by cases v<;>first|exact absurd U b|cases e
def adS(o:Obj):ru P (eD o):=λu T D=>⟨0,{u with heap:=u.heap.push o},λx a e=>by cases e;exact⟨U,λb c _=>rfl⟩⟩
def adT(r:Nat):ru P (cO r):=by
 refine Ay λu x d e=> ?_;simp only[cO,ä]at e|-;cases a:u.heap[r]? with
 |none=>rw[a]at e;cases e
 |some o=>
  rw[a]at e;cases o<;>first
   |(cases e;done)
   |(cases e;exact⟨U,λb c=>by simp only[show((World.tp u b c)).heap[r]?=_ from a]⟩)
end
def qD(u:È):Prop:=∀(i:Nat) (c:Array Ã) (e:Á),u.heap[i]?≠À (Ο c e)
structure Kd(u u':È):Prop where
 r:qD u->qD u'
 C:∀(i:Nat) (o:Obj),u.heap[i]?=À o->yr o->∃o',u'.heap[i]?=À o'/\yr o'
def Kd.fT(u:È):Kd u u:=⟨id,λ_ o h k=>⟨o,h,k⟩⟩
def Kd.fg{c:È}(h:Kd w u)(k:Kd u c):Kd w c:=⟨λx=>k.r<|h.r x,λi o x y=>by let⟨d,e,f⟩:=h.C i o x y;exact k.C i d e f⟩
def G1:Halt->Bool
 |.panic _=>Ë
 |.stuck _=>Ë
 |Œ (.initOrder _)=>Â
 |Œ _=>Ë
 |_=>Â
def oA{α:Type}(P:Ø)(m:Ğ α):Prop:=∀u,qD u->(∀x a,m.run P u=İ x a->Kd u a)/\(∀z a,m.run P u=cD z a->G1 z=Ë)
section
variable{α β:Type}
def VB(a:α):oA P (bj a):=λu _=>⟨λx b h=>by cases h;exact Kd.fT u,λz b h=>by cases h⟩
def G2{z:Halt}(h:G1 z=Ë):oA P (eO z:Ğ α):=λu _=>⟨λx a e=>(by cases e),λb a e=>(by cases e;exact h)⟩
def Kr{m:Ğ α}{f:α->Ğ β}(h:oA P m)(j:∀a,oA P<|f a):oA P (m.bind f):=by
 intro u d;let⟨g,k⟩:=h u d;refine⟨λx i e=> ?_,λz i e=> ?_⟩<;>rw[ł]at e
 .cases b:m.run P u with
  |ok a c=>
   rw[b]at e;exact(g a c b).fg<|(j a c<|(g a c b).r d).1 x i e
  |halt z w=>rw[b]at e;cases e
 .cases b:m.run P u with
  |ok a c=>
   rw[b]at e;exact(j a c<|(g a c b).r d).2 z i e
  |halt c w=>rw[b]at e;cases e;exact k _ _ b
def VC:oA P dE:=λu _=>⟨λx a h=>by cases h;exact Kd.fT u,λz a h=>by cases h⟩
def adU(q:cA):oA P (ŕ q):=by
 intro u b;constructor
 .intro x a e;simp only[ŕ,ä]at e;split at e<;>cases e
  .exact Kd.fT u
  .exact⟨id,λi o h k=>⟨o,h,k⟩⟩
 .intro z a e;simp only[ŕ,ä]at e;split at e<;>cases e
def adV(m:Mark):oA P (ew m):=λu _=>⟨λx a h=>by cases h;exact Kd.fT u,λz a h=>by cases h⟩
def adW(r:Nat):oA P (cP r):=λu _=>⟨λx a h=>by cases h;exact Kd.fT u,λz a h=>by cases h⟩
def adX(a:Ü):oA P (frozen a):=λu _=>⟨λx b h=>by cases h;exact Kd.fT u,λz b h=>by cases h⟩
def adY(o:Obj)(h:∀c e,o≠Ο c e):oA P (eD o):=by
 intro u b;refine⟨λx d e=> ?_,λz d e=>by cases e⟩;cases e;refine⟨λ_ i c e a=> ?_,λi f a g=>⟨f,?_,g⟩⟩
 .simp only[aJ]at a;split at a
  .injection a with a;exact h c e a
  .exact b i c e a
 .simp only[aJ];have:i<u.heap.size:=(Ä.1 a).1;rwa[if_neg Z]
def VD{f:Obj->Obj}(k:∀o,yr o->yr (f o))(l:∀o c e,f o=Ο c e->∃d g,o=Ο d g):Kd u {u with heap:=u.heap.modify b f}:=by
 refine⟨λh i c e a=> ?_,λi o a j=> ?_⟩
 .simp only[à]at a;split at a
  .let⟨o,m,n⟩:=Đ.1 a;let⟨d,g,p⟩:=l o c e n;exact h i d g<|p▸m
  .exact h i c e a
 .simp only[à];split
  .exact⟨f o,by rw[a];rfl,k o j⟩
  .exact⟨o,a,j⟩
def adZ(a:Ü)(v:Ã):Kd u (u.setCell a v):=by
 unfold Ā;refine VD (λo b=> ?_) λo c e h=> ?_
 .cases o<;>first|exact b.elim|trivial
 .cases o<;>first|(cases h;done)|exact⟨_,_,U⟩
def VE(b:qD u)(a:Ü)(s:String):G1 (u.noCell a s)=Ë:=by
 unfold br;split
 .rename_i h;exact absurd h<|b _ _ _
 .rfl
 .rfl
def ad1(a:Ü)(m:Mode):oA P (bE a m):=by
 intro u c;constructor
 .intro x d e;simp only[bE,ä]at e;split at e
  .cases e;exact Kd.fT u
  .split at e<;>cases e;exact Kd.fT u
 .intro z d e;simp only[bE,ä]at e;split at e
  .cases e
  .split at e
   .cases e
   .rename_i b;cases e;unfold ş at b;split at b
    .split at b<;>cases b;rfl
    .cases b;exact VE c _ _
def ad2{k:Ü}{r:Array Value×TypeId×(Nat×Nat)×Nat×Value×List (Nat×Nat×List UInt8)}(h:w.seen P a t k yQ=.ok r):∃c e f,w.heap[a.block]?=À (ė c e f):=by
 unfold World.seen at h;simp only[bind,ay,pure,az,Kq]at h;cases d:w.heap[a.block]? with
 |none=>
  rw[d]at h;repeat' (first|contradiction|split at h)
 |some o=>
  cases o<;>first|exact⟨_,_,_,U⟩|(rw[d]at h;repeat' (first|contradiction|split at h))
def ad3{k:Ü}{l:List Ü}(h:w.viewStore P a t k v yQ=.ok (u,l)):Kd w u:=by
 have s:∃c e n d f g,w.heap[a.block]?=À (ė d f g)/\u={w with heap:=w.heap.setIfInBounds a.block (ė c e n)}:=by
  unfold b9 at h;cases i:w.seen P a t k yQ with
  |error e=>
   rw[i]at h;simp only[bind,ay,pure,az,Kq]at h;repeat' (first|contradiction|split at h)
  |ok r=>
   let⟨d,f,g,m⟩:=ad2 i;rw[i]at h;simp only[bind,ay,pure,az,Kq]at h;repeat' (first|contradiction|split at h)
   all_goals(simp only[Except.ok.injEq,Prod.mk.injEq]at h;obtain⟨rfl,_⟩:=h;exact⟨_,_,_,d,f,g,m,U⟩)
 obtain⟨c,e,n,d,f,g,m,rfl⟩:=s;refine⟨λx i y j r=> ?_,λi o r q=> ?_⟩
 .rw[ď]at r;split at r
  .split at r<;>cases r
  .exact x i y j r
 .by_cases j:a.block=i
  .subst j;rw[m]at r;cases r;exact q.elim
  .exact⟨o,by simp only[É j];exact r,q⟩
def ad4(a:Ü)(v:Ã)(m:Mode):oA P (aP a v m):=by
 intro u d;by_cases c:yl v=Ë
 .constructor
  .intro x f e;simp only[aP]at e;rw[wB c]at e;split at e
   .split at e
    .cases e
    .cases e;exact adZ a v
   .split at e
    .rename_i b;cases e;unfold Ż at b;split at b
     .split at b<;>cases b;rename_i g;exact ad3 g
     .cases b
    .cases e
  .intro z f e;simp only[aP]at e;rw[wB c]at e;split at e
   .split at e
    .cases e;rfl
    .cases e
   .split at e
    .cases e
    .rename_i b;cases e;unfold Ż at b;split at b
     .split at b<;>cases b;rfl
     .cases b;exact VE d _ _
 .cases v<;>first|exact absurd U c|exact G2 (P:=P) U u d
def fD(P:Ø)(m:Ğ α):Prop:=oA P m/\ru P m
def gA(a:α):fD P (pure a):=⟨VB a,Ay λu x b e=>by cases e;exact⟨U,λ_ _=>rfl⟩⟩
def O4{z:Halt}(h:G1 z=Ë):fD P (eO z:Ğ α):=⟨G2 h,O2 λu x a e=>by cases e⟩
def gl{m:Ğ α}{f:α->Ğ β}(h:fD P m)(b:∀a,fD P<|f a):fD P (m>>=f):=⟨Kr h.1 λa=>(b a).1,adN h.2 λa=>(b a).2⟩
def O5{m:Ğ α}{f:α->β}(h:fD P m):fD P (f<$>m):=gl h λ_=>gA _
def jd(s:String):fD P (stuck s:Ğ α):=O4 U
def VF(v:Ã):fD P (goPanic v:Ğ α):=O4 U
def qE:fD P dE:=⟨VC,Ay λu x a e=>by cases e;exact⟨U,λ_ _=>rfl⟩⟩
def sI(q:cA):fD P (ŕ q):=⟨adU q,adP q⟩
def G3(m:Mark):fD P (ew m):=⟨adV m,Ay λu x a e=>by cases e;exact⟨U,λ_ _=>rfl⟩⟩
def tE(r:Nat):fD P (cP r):=⟨adW r,Ay λu x a e=>by cases e;exact⟨U,λ_ _=>rfl⟩⟩
def O6(a:Ü):fD P (frozen a):=⟨adX a,Ay λu x b e=>by cases e;exact⟨U,λ_ _=>rfl⟩⟩
def Ks(o:Obj)(h:∀c e,o≠Ο c e):fD P (eD o):=⟨adY o h,adS o⟩
def G4(a:Ü)(m:Mode):fD P (bE a m):=⟨ad1 a m,adQ a m⟩
def ad5(a:Ü)(v:Ã)(m:Mode):fD P (aP a v m):=⟨ad4 a v m,adR a v m⟩
def Kt{m m':Ğ α}(h:∀u,m.run P u=m'.run P u)(a:fD P m'):fD P m:=⟨λu b=>by have:=a.1 u b;rwa[<-h u]at this,adO h a.2⟩
end
section
variable{α:Type}
def nh(u:bP)(h:G1 (Œ u)=Ë):fD P (unsupported u:Ğ α):=O4 h
def G5(e:Á)(c:Array Ã):fD P (Ō e c):=by unfold Ō;exact gl (Ks _<|by intro _ _ h;cases h) λ_=>gA _
def VG(t:Á)(v:Ã):fD P (newVar t v):=G5 _ _
def vi(t:Á):fD P (þ t):=by unfold þ;repeat' (first|(with_reducible first|exact gA _|exact jd _|exact qE|refine gl ?_ λ_=> ?_)|split)
def rv(t:Á):fD P (ù t):=by unfold ù;repeat' (first|(with_reducible first|exact gA _|exact jd _|exact qE|refine gl ?_ λ_=> ?_)|split)
def tF{p:Prop}(h:p:=by repeat' (first|(with_reducible first|exact gA _|exact jd _|exact qE|exact rv _|exact VF _|exact VG _ _|exact sI _|exact vi _|exact G4 _ _|exact tE _|exact G3 _|refine gl ?_ (λ_=> ?_)|refine O5 ?_|refine nh _ ?_)|split|rfl)):p:=h
def Ku(t:Á):fD P (Ş t):=by unfold Ş;exact tF
def wE(e:ρ):fD P (runtimePanic e:Ğ α):=by unfold runtimePanic;repeat' (first|(with_reducible first|exact Ku _|refine gl ?_ λ_=> ?_)|split|exact tF)
def VH(k:ą)(x y:Int)(c:aS):fD P (boundsPanic k x y c:Ğ α):=by unfold boundsPanic;simp only[];repeat' (first|(with_reducible first|exact wE _|refine gl ?_ λ_=> ?_)|split|exact tF)
def ad6(r:Nat):oA P (cO r):=by
 intro u b;constructor
 .intro x a e;simp only[cO,ä]at e;split at e<;>first|(cases e;done)|(cases e;exact Kd.fT u)
 .intro z a e;simp only[cO,ä]at e;split at e<;>first|(cases e;done)|(cases e;rfl)
def VI(r:Nat):fD P (cO r):=⟨ad6 r,adT r⟩
def Kv(t:Á):fD P (Ġ t):=by unfold Ġ;exact tF
def tH(t:Á):fD P (Ŝ t):=by unfold Ŝ;exact tF
def O7(t:Á):fD P (eP t):=by unfold eP;exact tF
def VJ(a:Ü):∀(n i:Nat) (b:Array Ã),fD P<|Š a i n b
 |0,i,b=>gA _
 |n+1,i,b=>by unfold Š;exact gl (G4 _ _) λ_=>VJ a n _ _
def O8(a:Ü)(n:Nat):fD P (dB a n):=VJ a n _ _
def Kw(a:Ü):∀(b:List Ã) (i:Nat),fD P<|ŝ a b i
 |[],i=>gA _
 |v::b,i=>by unfold ŝ;exact gl (ad5 _ _ _) λ_=>Kw a b _
def VK(t:Á)(a:Ü):fD P (aF t a):=by unfold aF;repeat' (first|(with_reducible first|exact tH _|exact O7 _|exact O8 _ _|refine gl ?_ λ_=> ?_)|split|exact tF)
def ad7(t:Á)(a:Ü)(v:Ã):fD P (bk t a v):=by unfold bk;repeat' (first|(with_reducible first|exact tH _|exact Kw _ _ _|refine gl ?_ λ_=> ?_)|split|exact tF)
def VL(t:Á)(c:Array Ã)(o:Nat):fD P (part t c o):=by unfold part;repeat' (first|(with_reducible first|exact tH _|exact O7 _|refine gl ?_ λ_=> ?_)|split|exact tF)
def VM(v:Ã):fD P (ż v):=by unfold ż;exact tF
def VN(v:Ã):fD P (dF v):=by unfold dF;exact tF
def jW{p:Prop}(h:p:=by repeat' (first|(with_reducible first|exact gA _|exact jd _|exact qE|exact rv _|exact VF _|exact VG _ _|exact Ku _|exact sI _|exact wE _|exact vi _|exact G4 _ _|exact tH _|exact O7 _|exact O8 _ _|exact Kw _ _ _|exact VN _|exact Kv _|exact ad7 _ _ _|exact VK _ _|exact VM _|exact VL _ _ _|exact tE _|exact VI _|exact VH _ _ _ _|exact G3 _|refine gl ?_ (λ_=> ?_)|refine O5 ?_|refine nh _ ?_)|split|rfl)):p:=h
def G6(v:Ã):fD P (dU v):=by unfold dU;exact jW
def Kx(v:Ã):fD P (cE v):=by unfold cE;exact jW
def ad8(v:Ã):fD P (asAgg v):=by unfold asAgg;exact jW
def VO(v:Ã):fD P (cF v):=by unfold cF;exact jW
def VP(t:Á)(b:Bool)(v:Ã):fD P (Θ t b v):=by unfold Θ;exact jW
def VQ(t:Á)(v:Ã):fD P (aG t v):=by unfold aG;exact jW
def VR(t:Á)(v:Ã):fD P (ų t v):=by unfold ų;exact jW
def VS(t:Á)(a v:Ã):fD P (Ł t a v):=by unfold Ł;exact jW
def VT(v:Ã)(n:Nat):fD P (š v n):=by unfold š;exact jW
def VU(t:Á)(v:Ã)(n:Nat):fD P (Ι t v n):=by unfold Ι;repeat' (first|(with_reducible first|exact ad8 _|refine gl ?_ λ_=> ?_)|split|exact jW)
def VW{γ δ:Type}(f:γ->Ğ δ)(a:∀x,fD P<|f x):∀l:List γ,fD P<|l.mapM f
 |[]=>by rw[dt];exact gA _
 |x::l=>by rw[au];exact gl (a x) λ_=>gl (VW f a l) λ_=>gA _
def VX{γ δ:Type}(f:γ->Ğ δ)(a:∀x,fD P<|f x)(l:Array γ):fD P (l.mapM f):=by rw[ğ];exact O5<|VW f a _
def ad9(l:Array Field):fD P (l.mapM λf=>do pure (f.offset,<-Ŝ f.type)):=VX _ (λ_=>gl (tH _) λ_=>gA _) l
def Ky(r:Nat):fD P (cJ r):=by unfold cJ;exact jW
def VY(r:Nat):fD P (cK r):=by unfold cK;exact jW
def VZ(a:Ü):fD P (bF a):=by unfold bF;repeat' (first|(with_reducible first|exact Ky _|refine gl ?_ λ_=> ?_)|split|exact jW)
def Az(a:Ü):fD P (dI a):=by unfold dI;repeat' (first|(with_reducible first|exact gA _|exact jd _|exact qE|exact tE _|exact VZ _|refine gl ?_ λ_=> ?_)|split|simp only[]|(rename_i b;cases b<;>simp only[Ç,if_false,if_true,Ċ,Ď]))
def Eo(a:Ü):fD P (Ļ a):=by unfold Ļ;repeat' (first|(with_reducible first|exact VY _|refine gl ?_ λ_=> ?_)|split|exact jW)
def aea(a:Ü)(x y:Nat):fD P (partAt a x y):=by unfold partAt;repeat' (first|(with_reducible first|exact Az _|refine gl ?_ λ_=> ?_)|split|exact jW)
def aeb(a:Ü)(f:Field):fD P (cG a f):=by unfold cG;repeat' (first|(with_reducible first|exact aea _ _ _|refine gl ?_ λ_=> ?_)|split|exact jW)
def V1(s:Á)(v:Ã)(n:Nat):fD P (Ţ s v n):=by unfold Ţ;repeat' (first|(with_reducible first|exact aeb _ _|refine gl ?_ λ_=> ?_)|split|exact jW)
def V2(t:Á)(x i:Ã):fD P (ţ t x i):=by unfold ţ;repeat' (first|(with_reducible first|exact gA _|exact jd _|exact rv _|exact VH _ _ _ _|exact tH _|exact VM _|exact VN _|refine gl ?_ (λ_=> ?_)|refine nh _ ?_)|split|rfl|simp only[])
def aec(x:Ã)(y:Nat)(c:aS):fD P (ĸ x y c):=by unfold ĸ;exact jW
def V3(b:Bool)(l c:Nat)(x y z:Option Ã):fD P (Ĳ b l c x y z):=by unfold Ĳ;repeat' (first|(with_reducible first|exact aec _ _ _|refine gl ?_ λ_=> ?_)|split|exact jW)
def aed(t:Á)(v:Ã)(x y z:Option Ã):fD P (Κ t v x y z):=by unfold Κ;repeat' (first|(with_reducible first|exact VO _|exact V3 _ _ _ _ _ _|refine gl ?_ λ_=> ?_)|split|exact jW)
def V4(t:Á)(v:Ã)(x y z:Option Ã):fD P (Ť t v x y z):=by unfold Ť;repeat' (first|(with_reducible first|exact V3 _ _ _ _ _ _|exact aed _ _ _ _ _|refine gl ?_ λ_=> ?_)|split|exact jW)
def V5(t:Á)(x i:Ã):fD P (Λ t x i):=by unfold Λ;exact jW
def V7(o:ĭ)(k:ą)(x y:Int):fD P (dW o k x y):=by unfold dW;exact jW
def V8(o:ĭ)(k:ą)(x y:Int):fD P (eE o k x y):=by unfold eE;exact jW
def V9(o:UnOp)(v:Ã):fD P (cI o v):=by unfold cI;repeat' (first|(with_reducible first|exact V7 _ _ _ _|exact V8 _ _ _ _)|split|exact jW)
def Wa(t:Á)(a:Array (Nat×Value)):fD P (Μ t a):=by unfold Μ;repeat' (first|(with_reducible first|exact ad9 _|refine gl ?_ λ_=> ?_)|split|exact jW)
def Wb(t:Á)(n:Nat)(a:Array (Nat×Value)):fD P (ĺ t n a):=by unfold ĺ;repeat' (first|(with_reducible first|exact gA _|exact jd _|exact G5 _ _|exact rv _|exact Kv _|exact tH _|refine gl ?_ (λ_=> ?_)|refine nh _ ?_)|split|rfl|simp only[]|(rename_i b;cases b<;>simp only[Ç,if_false,if_true,Ċ,Ď]))
def O9(n:Nat):fD P (ņ n):=by unfold ņ;exact jW
def Wc(t:Á)(x y:Ã):fD P (ň t x y):=by unfold ň;repeat' (first|(with_reducible first|exact gA _|exact jd _|exact sI _|exact G5 _ _|exact vi _|exact rv _|exact wE _|exact Kv _|exact tH _|exact G6 _|exact O9 _|refine gl ?_ λ_=> ?_)|split|simp only[]|(rename_i b;cases b<;>simp only[Ç,if_false,if_true,Ċ,Ď]))
def Wg(v:Ã):fD P (θ v):=by unfold θ;exact jW
def Wh(s n:Nat)(v:Ã):fD P (Õ s n v):=by unfold Õ;exact jW
def aee(a:Ü)(n:Nat):fD P (aW a n):=by unfold aW;exact jW
def aef(s l n:Nat)(b:Option Ü)(v:Ã):fD P (Ĩ s l n b v):=by unfold Ĩ;repeat' (first|(with_reducible first|exact gA _|exact O6 _|exact aee _ _|refine gl ?_ λ_=> ?_)|split|simp only[]|(rename_i b;cases b<;>simp only[Ç,if_false,if_true,Ċ,Ď]))
def Wi(a:Array Á)(t:Á)(x:Array Ã):fD P (Ŵ a t x):=by unfold Ŵ;exact jW
def Wj(a:Array Á)(t:Á)(x:Array Ã):fD P (ŵ a t x):=by unfold ŵ;exact jW
def Wk(a:Array Á)(t:Á)(x:Array Ã):fD P (ť a t x):=by unfold ť;repeat' (first|(with_reducible first|exact Wg _|exact Wh _ _ _|refine gl ?_ λ_=> ?_)|split|exact jW)
def Wl(a:Array Á)(t:Á)(x:Array Ã):fD P (Ň a t x):=by unfold Ň;repeat' (first|(with_reducible first|exact gA _|exact jd _|exact sI _|exact G3 _|exact G5 _ _|exact vi _|exact rv _|exact wE _|exact Kv _|exact tH _|exact Kw _ _ _|exact G6 _|exact O9 _|exact Wg _|exact Wh _ _ _|exact aef _ _ _ _ _|refine gl ?_ (λ_=> ?_)|refine nh _ ?_)|split|rfl|(rename_i b;cases b<;>simp only[Ç,if_false,if_true,Ċ,Ď]))
end
section
variable{α:Type}
def Pa(o:ĭ)(k:ľ)(x y:Nat):fD P (du o k x y):=by unfold du;repeat' (first|(with_reducible first|exact gA _|exact jd _|exact sI _|refine gl ?_ λ_=> ?_)|split|simp only[]|(rename_i b;cases b<;>simp only[Ç,if_false,if_true,Ċ,Ď]))
def Pd(o:ĭ)(k:ľ)(x y:Nat):fD P (dX o k x y):=by unfold dX;repeat' (first|(with_reducible first|exact gA _|exact jd _)|split)
def aeg(s:ľ)(b:Nat)(d:ľ):fD P (bu s b d):=by unfold bu;repeat' (first|(with_reducible first|exact gA _|exact sI _|refine gl ?_ λ_=> ?_)|split|simp only[])
def Wm(s:ľ)(b:Nat)(d:ą):fD P (cg s b d):=by unfold cg;repeat' (first|(with_reducible first|exact gA _|exact sI _|refine gl ?_ λ_=> ?_)|split)
def aeh(o:ĭ)(k:ľ)(x y:Nat):fD P (bH o k x y):=by unfold bH;repeat' (first|(with_reducible first|exact gA _|exact jd _|exact Pa _ _ _ _|refine gl ?_ λ_=> ?_)|split)
def ni{p:Prop}(h:p:=by repeat' (first|(with_reducible first|exact gA _|exact jd _|exact sI _|exact Pa _ _ _ _|exact Kx _|exact Pd _ _ _ _|exact aeg _ _ _|exact aeh _ _ _ _|exact wE _|exact qE|exact Az _|exact tE _|exact G6 _|exact Ky _|exact rv _|exact Eo _|exact VY _|refine gl ?_ (λ_=> ?_)|refine nh _ ?_)|split|rfl)):p:=h
def Wn(o:ĭ)(k:ľ)(x y:Nat):fD P (cQ o k x y):=by unfold cQ;exact ni
def aei(s:ľ)(b:Nat)(d:ľ):fD P (cj s b d):=by unfold cj;exact ni
def Pe(x y:Nat):fD P (cR x y):=by unfold cR;exact ni
def Pf(x y:Nat):fD P (cS x y):=by unfold cS;exact ni
def Pg(x y:Nat):fD P (cT x y):=by unfold cT;exact ni
def aej(x y:Nat):fD P (cU x y):=by unfold cU;exact ni
def aek(a b c d:Nat):fD P (aX a b c d):=by unfold aX;repeat' (first|(with_reducible first|exact Pe _ _|exact Pf _ _|exact Pg _ _|refine gl ?_ λ_=> ?_)|split|exact ni)
def ael(s a b c d:Nat):fD P (aA s a b c d):=by unfold aA;repeat' (first|(with_reducible first|exact Pe _ _|exact Pf _ _|exact Pg _ _|refine gl ?_ λ_=> ?_)|split|exact ni)
def aem(a b c d:Nat):fD P (aK a b c d):=by unfold aK;repeat' (first|(with_reducible first|exact gA _|exact Wn _ _ _ _|exact Pe _ _|exact Pf _ _|exact Pg _ _|exact aej _ _|exact ael _ _ _ _ _|refine gl ?_ λ_=> ?_)|split|simp only[])
def Wo(o:ĭ)(k:ľ)(a b c d:Nat):fD P (dJ o k a b c d):=by unfold dJ;repeat' (first|(with_reducible first|exact Wn _ _ _ _|exact aei _ _ _|exact aek _ _ _ _|exact aem _ _ _ _|refine gl ?_ λ_=> ?_)|split|exact ni)
def aen(o:ĭ)(k:ą)(x y:Int):fD P (aH o k x y):=by unfold aH;exact ni
def Wp(o:ĭ)(x y:Int):fD P (eW o x y):=by unfold eW;exact ni
def aeo(o:ĭ)(k:ą)(x:Int)(a:ą)(y:Int):fD P (bl o k x a y):=by unfold bl;exact ni
def Pj(o:ĭ)(x y:ByteArray):fD P (bQ o x y):=by unfold bQ;exact ni
def Wq(a b:Ü):fD P (Ŷ a b):=by unfold Ŷ;exact ni
def aep(k:ą)(a b:Ü):fD P (σ k a b):=by unfold σ;repeat' (first|(with_reducible first|exact Wq _ _|refine gl ?_ λ_=> ?_)|split|exact ni)
def aer(o:ĭ)(a b:Ü):fD P (υ o a b):=by unfold υ;repeat' (first|(with_reducible first|exact Wq _ _|refine gl ?_ λ_=> ?_)|split|exact ni)
def aes(k:ą)(a:Ü)(n:Int):fD P (φ k a n):=by unfold φ;repeat' (first|(with_reducible first|exact gA _|exact tE _|exact vi _|exact Az _|refine gl ?_ (λ_=> ?_)|refine nh _ ?_)|split|rfl|simp only[]|(rename_i b;cases b<;>simp only[Ç,if_false,if_true,Ċ,Ď]))
def Wr(a:Array Á)(t:Á)(x y:Ã):fD P (ô a t #[x,y]):=by
 unfold ô;cases x<;>first|exact jd _|skip
 refine gl (G6 y) λn=> ?_;exact ni
def aeu(a:Ü)(b:Bool):fD P (cL a b):=by unfold cL;repeat' (first|(with_reducible first|exact gA _|refine gl ?_ (λ_=> ?_)|refine Ks _ ?_)|split|(intro _ _ h;cases h;done))
def aev(t:Á)(x y:Ã):fD P (ũ t x y):=by unfold ũ;repeat' (first|(with_reducible first|exact Wr _ _ _ _|exact aeu _ _|refine gl ?_ λ_=> ?_)|split|exact ni)
def aew(t:Á)(x y:Ã):fD P (ŷ t x y):=by unfold ŷ;repeat' (first|(with_reducible first|exact Wr _ _ _ _|refine gl ?_ λ_=> ?_)|split|exact ni)
def sJ{γ:Type}{d:dY}(h:P.underlying t=À d){f:dY->Ğ γ}(a:fD P (f d)):fD P (ù t>>=f):=by
 have e:∀u,(ù t).run P u=İ d u:=by intro u;unfold ù;rw[Å,ÿ];simp only[Ê,h];rfl
 exact Kt (λu=>by rw[Å,e,Ê]) a
def Ws(t:Á)(x y:Ã)(a:tD P t\/((∃e,P.underlying t=À (ó e))/\(ng x\/ng y))):fD P (û t x y):=by
 unfold û č ς;rcases a with(h|⟨k,h⟩|h)|⟨⟨e,h⟩,k⟩<;>refine sJ h ?_
 .repeat' (first|(with_reducible first|exact gA _|exact jd _|exact qE|exact vi _|exact Az _|exact Eo _|refine gl ?_ (λ_=> ?_)|refine nh _ ?_)|contradiction|split)
 .repeat' (first|(with_reducible first|exact gA _|exact jd _|exact qE|exact vi _|exact Az _|exact Eo _|refine gl ?_ (λ_=> ?_)|refine nh _ ?_)|contradiction|split|rfl)
 .repeat' (first|(with_reducible first|exact gA _|exact jd _|exact qE|exact vi _|exact Az _|exact Eo _|refine gl ?_ (λ_=> ?_)|refine nh _ ?_)|contradiction|split)
 .repeat' (first|(with_reducible first|exact gA _|exact jd _|exact qE|exact vi _|exact Az _|exact Eo _|refine gl ?_ (λ_=> ?_)|refine nh _ ?_)|contradiction|exact(Or.elim k id id:False).elim|split)
def aex(t:Á)(a:GQ P t)(x y:Ã):fD P (ļ č t x y):=by unfold č ļ;rcases a with(h|⟨k,h⟩|h)|⟨e,h⟩<;>refine sJ h ?_<;>(cases x<;>cases y<;>exact gA _)
def Wt(c:ĭ)(t:Á)(d:c=aV\/c=bm->GQ P t)(x y:Ú)(a b:Ã):fD P (Ξ c t x y a b):=by
 unfold Ξ;by_cases e:c=aV\/c=bm
 .have f:=d e;rcases e with rfl|rfl;all_goals
   repeat' (first|(with_reducible first|exact aex _ f _ _|refine gl ?_ λ_=> ?_)|split|exact ni)
 .cases c<;>first|exact absurd (Æ U) e|exact absurd (Í U) e|exact gA _
end
section
variable{α:Type}
def aey(k:ą)(n:Int):fD P (dw k n):=by unfold dw;repeat' (first|(with_reducible first|exact gA _)|split)
def Wu(n:Int):fD P (bI n):=by unfold bI;repeat' (first|(with_reducible first|exact gA _)|split)
def aez(a:ĭ)(t:Á)(x y:Ã)(h:a=aV\/a=bm->(tD P t\/((∃e,P.underlying t=À (ó e))/\(ng x\/ng y)))):fD P (Α a t x y):=by unfold Α;repeat' (first|(with_reducible first|exact Ws _ _ _ (h<|Æ U)|exact Ws _ _ _ (h<|Í U)|exact gA _|exact jd _|exact rv _|exact Eo _|exact V7 _ _ _ _|exact V8 _ _ _ _|exact Pa _ _ _ _|exact Pd _ _ _ _|exact Wo _ _ _ _ _ _|exact aen _ _ _ _|exact Wp _ _ _|exact aeo _ _ _ _ _|exact Pj _ _ _|exact aep _ _ _|exact aer _ _ _|exact aes _ _ _|exact aev _ _ _|exact aew _ _ _|refine gl ?_ (λ_=> ?_)|refine nh _ ?_)|contradiction|split|rfl)
def aeA(s d:Á)(x:Ã)(h:(∃k a,P.underlying s=À (ι k)/\P.underlying d=À (ι a))\/(P.underlying s=À ĥ/\P.underlying d=À ĥ)):fD P (Ŧ s d x):=by
 unfold Ŧ;rcases h with⟨k,a,b,c⟩|⟨b,c⟩<;>refine sJ b<|sJ c ?_
 .repeat' (first|(with_reducible first|exact aey _ _|exact gA _|exact Wm _ _ _|refine nh _ ?_)|contradiction|split|rfl)
 .repeat' (first|(with_reducible first|exact Wu _|exact gA _|exact Wm _ _ _|refine nh _ ?_)|contradiction|split|rfl)
def Wv:∀(l:List FieldStep) (t:Á) (x:Option Ã),fD P<|bR l t x
 |[],t,x=>by unfold bR;exact gA _
 |s::l,t,x=>by unfold bR;repeat' (first|(with_reducible first|exact Wv l _ _|exact gA _|exact jd _|exact rv _|exact VL _ _ _|refine gl ?_ λ_=> ?_)|split|(intro _ _ h;cases h;done)|rfl|simp only[]|(rename_i b;cases b<;>simp only[Ç,if_false,if_true,Ċ,Ď]))
def Ww:∀(n:Nat) (t:Á) (v:Ã) (s:String),fD P<|bx n t v s
 |0,t,v,s=>by unfold bx;exact gA _
 |n+1,t,v,s=>by unfold bx;repeat' (first|(with_reducible first|exact Ww n _ _ _|exact Wv _ _ _|exact gA _|exact jd _|exact vi _|exact rv _|refine gl ?_ λ_=> ?_)|split|(intro _ _ h;cases h;done)|rfl|simp only[]|(rename_i b;cases b<;>simp only[Ç,if_false,if_true,Ċ,Ď]))
def lP{m:Ğ Ã}(h:fD P m):fD P (m>>=λv=>pure<|ñ v):=gl h λ_=>gA _
def aeB(f:ã)(b:∃a,P.funcs[f]?=À a/\(a.name== "runtime.NumGoroutine")=Â/\a.body.isNone=Â)(c:Array Ã):fD P (Ń f c):=by let⟨a,d,e,g⟩:=b;refine Kt (m':=pure<|Β f c) (λu=> ?_)<|gA _;unfold Ń;rw[Å,ÿ];simp only[Ê,d,e,g,Ç,if_false]
def aeC(j:j4 P xX o.op):fD P (î xX o):=by
 let⟨k,g,m,p,u,guard⟩:=o;simp only at j;unfold î;simp only[];cases j with
 |Ax x=>exact gA _
 |GR x=>exact gA _
 |wD c a b=>exact gl (Kx _) λ_=>gA _
 |gE t=>exact lP<|VP _ _ _
 |OQ t x=>exact lP<|VQ _ _
 |OS t b=>exact lP<|Wa _ _
 |OT t n b=>exact lP<|Wb _ _ _
 |gy t a=>exact lP<|VR _ _
 |jb t a x=>exact gl (VS _ _ _) λ_=>gA _
 |GU x=>
  simp only[];repeat' (first|(with_reducible first|exact Ww _ _ _ _|exact gA _|exact qE|exact wE _|exact Kx _|exact VP _ _ _|exact VQ _ _|exact VR _ _|exact VS _ _ _|exact VT _ _|exact VU _ _ _|exact V1 _ _ _|exact V2 _ _ _|exact V4 _ _ _ _ _|exact V5 _ _ _|exact V9 _ _|exact Wa _ _|exact Wb _ _ _|exact Wc _ _ _|exact Wi _ _ _|exact Wj _ _ _|exact Wk _ _ _|exact Wl _ _ _|refine gl ?_ (λ_=> ?_)|refine nh _ ?_)|split|rfl)
 |En g t x y r h=>exact lP<|gl (Wt g t (λe=>(h e).imp id λq=>q.1) x y _ _) λ_=>aez g t _ _ h
 |OU g t x=>exact lP<|V9 _ _
 |OV s d x h=>exact lP<|aeA s d _ h
 |OW t l c=>exact lP<|Wc _ _ _
 |kO t x b a c=>exact lP<|V4 _ _ _ _ _
 |OX s x n h=>exact lP<|V1 _ _ _
 |OY t x n=>exact lP<|VU _ _ _
 |OZ t x i=>exact lP<|V2 _ _ _
 |O0 t x i=>exact lP<|V5 _ _ _
 |GD x n=>exact lP<|VT _ _
 |GV x a=>
  simp only[ā,Ę,ĝ,pure_bind,Û,æ,é];exact lP<|Wi _ _ _
 |GX x a=>
  simp only[ā,Ę,ĝ,pure_bind,Û,æ,é];exact lP<|Wj _ _ _
 |GY x y a=>
  simp only[ā,Ę,ĝ,pure_bind,Û,æ,é];exact lP<|Wk _ _ _
 |GZ x y b c h=>
  simp only[ā,Ę,ĝ,pure_bind,Û,æ,é];exact lP<|Wl _ _ _
 |jI f c a b h=>
  simp only[ā,b,Ľ,Ę,pure_bind,ę,Ě];exact aeB f h _
end
def fm(f:ã)(t:Array Ã)(k:List ű):ģ:=(base f).at ⟨t,[]⟩ k
structure St where
 f:ã
 t:Array Ã
 k:List ű
 C:Bool
 L:List (FuncId×Array Value×List ű)
def St.r(s:St)(cs:List ģ):Ó:=G (if s.C then{fm s.f s.t s.k with mode:=.returning}else fm s.f s.t s.k)<|s.L.map (λx=>fm x.1 x.2.1 x.2.2)++cs
def o5(t:Array Ã)(d:Option Tmp)(v:Ã):Array Ã:=(Act.put ⟨t,[]⟩ d v).tmps
def sK(t:Array Ã)(d:Option Tmp)(v:Ã):Act.put ⟨t,[]⟩ d v=⟨o5 t d v,[]⟩:=by cases d<;>rfl
inductive LS(P:Ø):St->È->St->È->Prop
 |oZ {f t L u:_}:LS P ⟨f,t,[],Â,L⟩ u ⟨f,t,[],Ë,L⟩ u
 |vj {f t k L u:_}:LS P ⟨f,t,ě .ret::k,Â,L⟩ u ⟨f,t,ě .ret::k,Ë,L⟩ u
 |sG {f t k L u:_}:LS P ⟨f,t,ě .skip::k,Â,L⟩ u ⟨f,t,k,Â,L⟩ u
 |wF {f t k L u l:_}:LS P ⟨f,t,ě (eF l)::k,Â,L⟩ u ⟨f,t,k,Â,L⟩ u
 |yt {f t k L u id:_}:LS P ⟨f,t,dZ id::k,Â,L⟩ u ⟨f,t,k,Â,L⟩ u
 |vk {f t k L u c:_}:LS P ⟨f,t,ea c::k,Â,L⟩ u ⟨f,t,k,Â,L⟩ u
 |ry {f t k L u x y:_}:LS P ⟨f,t,ě (.seq x y)::k,Â,L⟩ u ⟨f,t,ě x::ě y::k,Â,L⟩ u
 |tJ {f t k L u c x y b:_} (h:ê ⟨t,[]⟩ c=ō b):LS P ⟨f,t,ě (bS c x y)::k,Â,L⟩ u ⟨f,t,ě (if b then x else y)::k,Â,L⟩ u
 |rz {f t k L u id c:_}:LS P ⟨f,t,ě (eG id c)::k,Â,L⟩ u ⟨f,t,ě c::dZ id::k,Â,L⟩ u
 |wG {f t k L u c:_}:LS P ⟨f,t,ě (.loop c)::k,Â,L⟩ u ⟨f,t,ě c::dK c::k,Â,L⟩ u
 |wH {f t k L u c:_}:LS P ⟨f,t,dK c::k,Â,L⟩ u ⟨f,t,ě c::dK c::k,Â,L⟩ u
 |wI {f t k L u c:_}:LS P ⟨f,t,ě (eH c)::k,Â,L⟩ u ⟨f,t,ě c::ea c::k,Â,L⟩ u
 |wK {f t k L u id k':_} (h:cW id k=À k'):LS P ⟨f,t,ě (.exit id)::k,Â,L⟩ u ⟨f,t,k',Â,L⟩ u
 |wL {f t k L u l k':_} (h:cX l k=À k'):LS P ⟨f,t,ě (.goto l)::k,Â,L⟩ u ⟨f,t,k',Â,L⟩ u
 |tK {f t k L u id ops:_}:LS P ⟨f,t,ě (cx id ops Â)::k,Â,L⟩ u ⟨f,t,å ops (List.range ops.size)::k,Â,L⟩ u
 |AA {f t k L u id ops:_}:LS P ⟨f,t,ě (cx id ops Ë)::k,Â,L⟩ u ⟨f,t,å ops (cm (P.follows .mixedOrders) ops<|u.tape u.drawn<|.order f id)::k,Â,L⟩ {u with drawn:=u.drawn+1}
 |G7 {f t k L u ops:_}:LS P ⟨f,t,å ops []::k,Â,L⟩ u ⟨f,t,k,Â,L⟩ u
 |Ep {f t k L u ops i rest o:_} (ho:ops[i]?=À o) (hw:ı o (Ŗ ops t)=Â):LS P ⟨f,t,å ops (i::rest)::k,Â,L⟩ u ⟨f,o5 t o.dst Ŏ,å ops rest::k,Â,L⟩ u
 |nP {f t k L u ops i rest o v u':_} (ho:ops[i]?=À o) (hw:ı o (Ŗ ops t)=Ë) (hr:(î (ê ⟨t,[]⟩) o).run P u=İ (ñ v) u'):LS P ⟨f,t,å ops (i::rest)::k,Â,L⟩ u ⟨f,o5 t o.dst v,å ops rest::k,Â,L⟩ u'
 |AB {f t k L u ops i rest o u':_} (ho:ops[i]?=À o) (hw:ı o (Ŗ ops t)=Ë) (hr:(î (ê ⟨t,[]⟩) o).run P u=İ bh u'):LS P ⟨f,t,å ops (i::rest)::k,Â,L⟩ u ⟨f,o5 t o.dst Ŏ,å ops rest::k,Â,L⟩ u'
 |sH {f t k L u ops i rest o g args fn c u':_} (ho:ops[i]?=À o) (hw:ı o (Ŗ ops t)=Ë) (hr:(î (ê ⟨t,[]⟩) o).run P u=İ (Β g args) u') (hf:P.funcs[g]?=À fn) (hb:fn.body=À c):LS P ⟨f,t,å ops (i::rest)::k,Â,L⟩ u ⟨g,args++Ŋ (fn.ntmps-args.size) Ŏ,[ě c],Â,(f,t,å ops (i::rest)::k)::L⟩ u'
 |Er {f t k L u ops i rest:_} (ho:(ops:Array aR)[(i:Nat)]?=í):LS P ⟨f,t,å ops (i::rest)::k,Â,L⟩ u ⟨f,t,å ops rest::k,Â,L⟩ u
 |wM {f t k L u g t' ops i rest k' v fn u':_} (hf:P.funcs[f]?=À fn) (hr:(Ĵ fn t).run P u=İ v u'):LS P ⟨f,t,k,Ë,(g,t',å ops (i::rest)::k')::L⟩ u ⟨g,o5 t' ((ops[i]?).bind (·.dst)) v,å ops rest::k',Â,L⟩ u'
inductive mq(GL:Nat->Prop):Ú->Prop
 |Wx (t:Tmp):mq GL (.tmp t)
 |Wy {v:Ã} (h:jP v):mq GL (eC v)
 |Wz {g:Nat} (h:GL g):mq GL (eR g)
 |WA (f:ã):mq GL (bq f)
structure mK(P:Ø)(GL:Nat->Prop)(e9:ã->Prop)(o:aR):Prop where
 mL:∀{Y:fp} {Sh:Nat->Prop} {t t':Array Ã} {u w:È},nO P->Y.C=P.globals.size->(∀g,GL g->Y g g)->fQ Y t t'->jg Y Sh u w->(∀j,Sh j->j<w.heap.size)->∀{x:χ} {u':È},(î (ê ⟨t,[]⟩) o).run P u=İ x u'->El u u'->
  ∃(Y':fp) (x':χ) (w':È) (WB:Array Ĉ),Y.r Y'/\(∀i j,Y' i j->Y i j\/(u.heap.size<=i/\w.heap.size<=j))/\(î (ê ⟨t',[]⟩) o).runT P w #[]=(İ x' w',#[]++WB)/\o0 Y' x x'/\jg Y' Sh u' w'/\nN Y Sh w w'/\(∀e∈WB,As Y' Sh e)/\u.heap.size<=u'.heap.size
 r:∀a:bY,fD P<|î a.eval o
 I:∀(a:bY) (u:È) (n:χ) (u':È),(î a.eval o).run P u=İ n u'->(∃v,n=ñ v)\/n=bh\/∃f c,n=Β f c
 C:∀(a:bY) (u:È) (f:ã) (c:Array Ã) (u':È),(î a.eval o).run P u=İ (Β f c) u'->e9 f
inductive kG(P:Ø)(GL:Nat->Prop)(e9:ã->Prop):aO->Prop
 |vj:kG P GL e9 .ret
 |sG:kG P GL e9 .skip
 |wF (l:Nat):kG P GL e9 (eF l)
 |wK (id:Nat):kG P GL e9 (.exit id)
 |wL (l:Nat):kG P GL e9 (.goto l)
 |ry {x y:aO} (hx:kG P GL e9 x) (hy:kG P GL e9 y):kG P GL e9 (.seq x y)
 |tJ {c:Ú} {x y:aO} (hc:mq GL c) (hx:kG P GL e9 x) (hy:kG P GL e9 y):kG P GL e9 (bS c x y)
 |rz (id:Nat) {c:aO} (h:kG P GL e9 c):kG P GL e9 (eG id c)
 |wG {c:aO} (h:kG P GL e9 c):kG P GL e9 (.loop c)
 |wI {c:aO} (h:kG P GL e9 c):kG P GL e9 (eH c)
 |tK (id:Nat) {ops:Array aR} (draw:Bool) (h:∀o∈ops,mK P GL e9 o):kG P GL e9 (cx id ops draw)
 |n9 (WC:String):kG P GL e9 (dM WC)
inductive AF(P:Ø)(GL:Nat->Prop)(e9:ã->Prop):ű->Prop
 |rA {c:aO} (h:kG P GL e9 c):AF P GL e9 (ě c)
 |yt (id:Nat):AF P GL e9 (dZ id)
 |vk {c:aO} (h:kG P GL e9 c):AF P GL e9 (ea c)
 |wH {c:aO} (h:kG P GL e9 c):AF P GL e9 (dK c)
 |wN {ops:Array aR} (is:List Nat) (h:∀o∈ops,mK P GL e9 o):AF P GL e9 (å ops is)
def sL(P:Ø)(a:Nat->Prop)(b:ã->Prop)(k:List ű):Prop:=∀i∈k,AF P a b i
structure lz(P:Ø)(GL:Nat->Prop)(e9:ã->Prop)(s:St):Prop where
 gd:sL P GL e9 s.k
 fx:∀x∈s.L,sL P GL e9 x.2.2
def o6(P:Ø)(d:Nat->Prop)(a:ã->Prop):Prop:=∀f,a f->∀b c,P.funcs[f]?=À b->b.body=À c->kG P d a c
section
variable{GL:Nat->Prop}{e9:ã->Prop}
def aeD{a:aO}(h:kG P GL e9 wX):bJ wX i=À a->kG P GL e9 a:=by
 induction h generalizing a with
 |ry j b d f=>
  intro e;simp only[bJ]at e;split at e
  .rename_i r g;cases e;exact .ry (d g) b
  .exact f e
 |wF k=>
  intro e;simp only[bJ]at e;split at e<;>cases e;exact .sG
 |_=>intro e;simp only[bJ]at e;cases e
def aeE{id:Nat}:∀{k a:List ű},sL P GL e9 k->cW id k=À a->sL P GL e9 a:=by
 intro k
 induction k with
 |nil=>intro a _ e;simp[cW]at e
 |cons i k c=>
  intro a h e;have b:=λj d=>h j<|õ _ d;cases i with
  |inBlock f=>
   simp only[cW]at e;split at e
   .cases e;exact b
   .exact c b e
  |_=>simp only[cW]at e;exact c b e
def aeF:∀{k c:List ű},sL P GL e9 k->cX i k=À c->sL P GL e9 c:=by
 intro k
 induction k with
 |nil=>intro c _ e;simp[cX]at e
 |cons a k f=>
  intro c h e;have d:=λj b=>h j<|õ _ b;cases a with
  |inScope m=>
   simp only[cX]at e;have g:kG P GL e9 m:=by cases h _ (ð ..)with|vk h=>exact h
   split at e
   .rename_i r n;cases e;intro j b;rcases ŧ.1 b with rfl|b
    .exact .rA (aeD g n)
    .rcases ŧ.1 b with rfl|b
     .exact .vk g
     .exact d j b
   .exact f d e
  |_=>simp only[cX]at e;exact f d e
def nQ{i:ű}(h:sL P GL e9 (i::L)):sL P GL e9 L:=λj a=>h j<|õ _ a
def oB{i:ű}(b:AF P GL e9 i)(h:sL P GL e9 L):sL P GL e9 (i::L):=λj a=>by
 rcases ŧ.1 a with rfl|a
 .exact b
 .exact h j a
def yu{c:aO}{k:List ű}(h:sL P GL e9 (ě c::k)):kG P GL e9 c:=by cases h _ (ð ..)with|rA h=>exact h
def o7{ops:Array aR}{k:List ű}(h:sL P GL e9 (å ops jJ::k)):∀o∈ops,mK P GL e9 o:=by cases h _ (ð ..)with|wN _ h=>exact h
def LS.ok(i:o6 P GL e9)(k:∀o a u f l w,mK P GL e9 o->(î (ê a) o).run P u=İ (Β f l) w->e9 f){s g:St}(h:LS P s u g w)(ok:lz P GL e9 s):lz P GL e9 g:=by
 let⟨c,d⟩:=ok;cases h with
 |oZ=>exact⟨c,d⟩
 |vj=>exact⟨c,d⟩
 |sG=>exact⟨nQ c,d⟩
 |wF=>exact⟨nQ c,d⟩
 |yt=>exact⟨nQ c,d⟩
 |vk=>exact⟨nQ c,d⟩
 |ry=>
  cases yu c with
  |ry e j=>exact⟨oB (.rA e)<|oB (.rA j)<|nQ c,d⟩
 |@tJ _ _ _ _ _ _ _ _ b _=>
  cases yu c with
  |tJ _ e j=>exact⟨oB (.rA (by cases b<;>simp[e,j]))<|nQ c,d⟩
 |rz=>
  cases yu c with
  |rz _ h=>exact⟨oB (.rA h)<|oB (.yt _)<|nQ c,d⟩
 |wG=>
  cases yu c with
  |wG h=>exact⟨oB (.rA h)<|oB (.wH h)<|nQ c,d⟩
 |wH=>
  cases c _ (ð ..)with
  |wH h=>exact⟨oB (.rA h) c,d⟩
 |wI=>
  cases yu c with
  |wI h=>exact⟨oB (.rA h)<|oB (.vk h)<|nQ c,d⟩
 |wK h=>exact⟨aeE (nQ c) h,d⟩
 |wL h=>exact⟨aeF (nQ c) h,d⟩
 |tK=>
  cases yu c with
  |tK _ _ h=>exact⟨oB (.wN _ h)<|nQ c,d⟩
 |AA=>
  cases yu c with
  |tK _ _ h=>exact⟨oB (.wN _ h)<|nQ c,d⟩
 |G7=>exact⟨nQ c,d⟩
 |Ep=>exact⟨oB (.wN _ (o7 c))<|nQ c,d⟩
 |nP=>exact⟨oB (.wN _ (o7 c))<|nQ c,d⟩
 |AB=>exact⟨oB (.wN _ (o7 c))<|nQ c,d⟩
 |sH m _ n p q=>
  refine⟨λj r=> ?_,λx e=> ?_⟩
  .have:=Γ.1 r;rw[this];exact .rA (i _ (k _ _ _ _ _ _ (o7 c _<|Ö m) n) _ _ p q)
  .rcases ŧ.1 e with rfl|e
   .exact c
   .exact d x e
 |Er=>exact⟨oB (.wN _ (o7 c))<|nQ c,d⟩
 |wM=>
  have j:=d _<|ð ..;exact⟨oB (.wN _ (o7 j))<|nQ j,λx e=>d x<|õ _ e⟩
end
structure Kz(Y:fp)(x y:FuncId×Array Value×List ű):Prop where
 f:x.1=y.1
 t:fQ Y x.2.1 y.2.1
 k:x.2.2=y.2.2
inductive Es(Y:fp):List (FuncId×Array Value×List ű)->List (FuncId×Array Value×List ű)->Prop
 |oZ:Es Y [] []
 |wC {x y:FuncId×Array Value×List ű} {L L':List (FuncId×Array Value×List ű)} (h:Kz Y x y) (hs:Es Y L L'):Es Y (x::L) (y::L')
structure KA(Y:fp)(s s':St):Prop where
 f:s.f=s'.f
 t:fQ Y s.t s'.t
 k:s.k=s'.k
 vj:s.C=s'.C
 L:Es Y s.L s'.L
def Kz.fN{Y a:fp}(h:Y.r a){x y:FuncId×Array Value×List ű}(r:Kz Y x y):Kz a x y:=⟨r.f,r.t.I h,r.k⟩
def KB{Y b:fp}(h:Y.r b){L c:List (FuncId×Array Value×List ű)}(r:Es Y L c):Es b L c:=by
 induction r with
 |oZ=>exact .oZ
 |wC a _ d=>exact .wC (a.fN h) d
section
variable{Y:fp}{j:Nat->Prop}{p:ã->Prop}
def aeG(a:∀g,X g->Y g g)(h:mq X qQ):Vx Y qQ:=by
 cases h with
 |Wx t=>trivial
 |Wy h=>exact h.jD Y
 |Wz h=>exact a _ h
 |WA f=>trivial
def wO(b:∀g,X g->Y g g)(h:fQ Y d q)(c:mq X qQ):fl Y (ê ⟨d,[]⟩ qQ) (ê ⟨q,[]⟩ qQ):= adJ (a:=⟨d,[]⟩) (a':=⟨q,[]⟩) h<|aeG b c
def o5.r{b:Array Ã}(h:fQ Y q b)(d:Option Tmp)(c:fl Y v x):fQ Y (o5 q d v) (o5 b d x):= adL (a:=⟨q,[]⟩) (a':=⟨b,[]⟩) h d c
def WE(n:Nat):fQ Y (Ŋ n Ŏ) (Ŋ n Ŏ):=⟨U,λi a b=>by simp only[Array.getElem_replicate];exact G0 Y⟩
def aeH(B:j4 P xX o.op)(i:(î xX o).run P u=İ (Β F d) W):∃q l,o.op=ae {callee:=cM<|bq F,args:=q,argTypes:=l}:=by
 have n:∀{m:Ğ Ã} {x:χ} {k p:È},(m>>=λv=>pure (ñ v):Ğ χ).run P k=İ x p->∃v,x=ñ v:=by
  intro m x k p e;rw[Å]at e;cases j:m.run P k with
  |ok a w=>rw[j]at e;cases e;exact⟨a,U⟩
  |halt z w=>rw[j]at e;cases e
 have C:∀{m:Ğ Unit} {x:χ} {k p:È},(m>>=λ_=>pure bh:Ğ χ).run P k=İ x p->x=bh:=by
  intro m x k p e;rw[Å]at e;cases j:m.run P k with
  |ok a w=>rw[j]at e;cases e;rfl
  |halt z w=>rw[j]at e;cases e
 let⟨E,s,G,H,I,guard⟩:=o;simp only at B|-;unfold î at i;simp only[]at i;cases B with
 |Ax x=>cases i
 |GR x=>cases i
 |wD c a b=>
  rw[Å]at i;cases j:(cE<|xX c).run P u with
  |ok a w=>rw[j]at i;cases i
  |halt z w=>rw[j]at i;cases i
 |jb t a x=>exact absurd (C i) fj
 |GU x=>
  simp only[]at i;split at i;all_goals first
   |(cases i;done)
   |exact absurd i<|rp _ _ _ _
   |(
    split at i;all_goals first
     |(cases i;done)
     |exact absurd i<|rp _ _ _ _
     |(
      rw[Å,ÿ]at i;simp only[Ê]at i;rw[Å]at i;revert i;generalize ä P (bx _ _ _ _) u=z;intro i;cases z with
      |halt z w=>cases i
      |ok a w=>
       simp only[Ê]at i;split at i
       .rw[Å]at i;cases i
       .cases i))
 |GV x l=>simp only[ā,Ę,ĝ,pure_bind,Û,æ,é]at i;let⟨v,e⟩:=n i;cases e
 |GX x l=>simp only[ā,Ę,ĝ,pure_bind,Û,æ,é]at i;let⟨v,e⟩:=n i;cases e
 |GY x y l=>simp only[ā,Ę,ĝ,pure_bind,Û,æ,é]at i;let⟨v,e⟩:=n i;cases e
 |GZ x y b c h=>simp only[ā,Ę,ĝ,pure_bind,Û,æ,é]at i;let⟨v,e⟩:=n i;cases e
 |jI g q l b h=>
  let⟨J,c,r,D⟩:=h;simp only[ā,b,Ľ,Ę,pure_bind,ę,Ě,Ń]at i;rw[Å,ÿ]at i;simp only[Ê,c,r,D,Ç,if_false]at i;cases i;exact⟨q,l,U⟩
 |En s t x y r h=>
  rw[Å]at i;cases j:ä P (Ξ s t x y (xX x) (xX y)>>=λ_=>Α s t (xX x)<|xX y) u with
  |ok a w=>rw[j]at i;cases i
  |halt z w=>rw[j]at i;cases i
 |_=>let⟨v,e⟩:=n i;cases e
def WG(k:Func)(h:fQ Y d q):fG P fl Y (Ĵ k d) (Ĵ k q):=by
 have m:∀(c:fp),Y.r c->∀n,fl c (d.getD n Ŏ) (q.getD n Ŏ):=by
  intro c a n;simp only[ĳ];rcases(h.I a).S n with⟨b,e⟩|⟨v,u,b,e,g⟩
  .rw[b,e];exact G0 c
  .rwa[b,e]
 unfold Ĵ;refine fF (V:=fQ) ?_ ?_
 .rw[ğ,ğ];have w:∀(l:List ResultVar) (f:fp),Y.r f->fG P (λc (a o:List Ã)=>fQ c a.toArray o.toArray) f (l.mapM fun|ResultVar.tmp n=>pure (d.getD n Ŏ)|ResultVar.cell a e=>do aF e (<-cF (d.getD a Ŏ))) (l.mapM fun|ResultVar.tmp n=>pure (q.getD n Ŏ)|ResultVar.cell a e=>do aF e (<-cF (q.getD a Ŏ))):=by
   intro l
   induction l with
   |nil=>intro f _;simp only[dt];exact .fE (fQ.N _)
   |cons r l x=>
    intro f i;simp only[au];refine fF (V:=fl) ?_ ?_
    .cases r with
     |tmp n=>exact .fE (m f i n)
     |cell a e=>
      apply fF (Vi<|m f i a);exact λp b s _ j=>Ve j e
    .intro p v u e g;apply fF (x p<|fp.I i e);intro z s j y b;refine .fE ?_;have:=(fQ.M<|g.fN y).G b;simpa using this
  exact fG.lN (w _ Y<|fp.M _) λc a o _ e=> .fE e
 .intro f s j _ b;refine .fE ?_;by_cases e:s.size=1
  .have a:j.size=1:=by rwa[<-b.r]
   rw[dif_pos e,dif_pos a];exact b.C 0 _ _
  .have a:¬j.size=1:=by rwa[<-b.r]
   rw[dif_neg e,dif_neg a];exact .nL b.r b.C
end
section
variable{Y:fp}{d:Nat->Prop}{l:ã->Prop}
def iV(P:Ø)(Y:fp)(d:Nat->Prop)(main:Bool)(cs:List ģ)(h:St)(u w:È)(k:St)(c:È):Prop:=
 ∃(a:fp) (f:St) (b:È) (g:Array Ĉ),Ý P main (h.r cs) w=bz (f.r cs) b g/\KA a k f/\Y.r a/\(∀i j,a i j->Y i j\/(u.heap.size<=i/\w.heap.size<=j))/\jg a d c b/\nN Y d w b/\(∀e∈g,As a d e)/\u.heap.size<=c.heap.size
def iV.r{main:Bool}{cs:List ģ}{a b s1':St}(c:jg Y d u w)(h:Ý P main (a.r cs) w=bz (s1'.r cs) w #[])(f:KA Y b s1'):iV P Y d main cs a u w b u:= ⟨Y,s1',w,#[],h,f,fp.M _,λ_ _ h=>Æ h,c,nN.fT _ _ w,λe g=>absurd g fj,á _⟩
def KC{α:Type}{m:Ğ α}{x:α}(h:m.runT P w #[]=(İ x u,#[]++V)):m.run P w=İ x u/\m.events P w #[]=V:=by
 constructor
 .rw[<-Ÿ P m w #[],h]
 .unfold Sem.events;rw[h];simp
def G8{main:Bool}{k:List ű}{c:ģ}{cs:List ģ}{es:Array Ĉ}(a:P.funcs[F]?=À s)(b:(Ĵ s q).runT P w #[]=(İ v u,es)): Ý P main (G {fm F q k with mode:=.returning}<|c::cs) w=bz (G (c.finish v) cs) u (seen P F es):=by simp[G,Ý,dN,doReturn,fm,Frame.at,base,a,b,Ρ,-Τ]
def LS.mL(hz:nO P)(hb:Y.C=P.globals.size)(hG:∀g,X g->Y g g){s s1 s':St}(h:LS P s u s1 W)(hs:KA Y s s')(ok:lz P X l s)(n:jg Y d u w)(hl:∀j,d j->j<w.heap.size)(Q:El u W)(main:Bool)(cs:List ģ): iV P Y d main cs s' u w s1 W:=by
 let⟨f',r,k',ret',p⟩:=s';let⟨S,m,T,e3,q⟩:=hs;simp only at S T e3 m q;subst S T e3;cases h with
 |oZ=>exact .r (s1':=⟨_,r,_,Ë,p⟩) n (by simp[St.r,fm,base,G,Ý,Î,Frame.at]) ⟨U,m,U,U,q⟩
 |vj=>exact .r (s1':=⟨_,r,_,Ë,p⟩) n (by simp[St.r,fm,base,G,Ý,Î,Frame.at]) ⟨U,m,U,U,q⟩
 |sG=>exact .r (s1':=⟨_,r,_,Â,p⟩) n (by simp[St.r,fm,base,G,Ý,Î,Frame.at]) ⟨U,m,U,U,q⟩
 |wF=>exact .r (s1':=⟨_,r,_,Â,p⟩) n (by simp[St.r,fm,base,G,Ý,Î,Frame.at]) ⟨U,m,U,U,q⟩
 |yt=>exact .r (s1':=⟨_,r,_,Â,p⟩) n (by simp[St.r,fm,base,G,Ý,Î,Frame.at]) ⟨U,m,U,U,q⟩
 |vk=>exact .r (s1':=⟨_,r,_,Â,p⟩) n (by simp[St.r,fm,base,G,Ý,Î,Frame.at]) ⟨U,m,U,U,q⟩
 |ry=>exact .r (s1':=⟨_,r,_,Â,p⟩) n (by simp[St.r,fm,base,G,Ý,Î,Frame.at]) ⟨U,m,U,U,q⟩
 |@tJ _ _ _ _ _ c _ _ b hc'=>
  have V:=wO hG m (by cases yu ok.gd with|tJ Q _ _=>exact Q);rw[hc']at V;have e:ê ⟨r,[]⟩ c=ō b:=by generalize ê ⟨r,[]⟩ c=v' at V;cases V;rfl
  exact .r (s1':=⟨_,r,_,Â,p⟩) n (cZ e) ⟨U,m,U,U,q⟩
 |rz=>exact .r (s1':=⟨_,r,_,Â,p⟩) n (by simp[St.r,fm,base,G,Ý,Î,Frame.at]) ⟨U,m,U,U,q⟩
 |wG=>exact .r (s1':=⟨_,r,_,Â,p⟩) n (by simp[St.r,fm,base,G,Ý,Î,Frame.at]) ⟨U,m,U,U,q⟩
 |wH=>exact .r (s1':=⟨_,r,_,Â,p⟩) n (by simp[St.r,fm,base,G,Ý,Î,Frame.at]) ⟨U,m,U,U,q⟩
 |wI=>exact .r (s1':=⟨_,r,_,Â,p⟩) n (by simp[St.r,fm,base,G,Ý,Î,Frame.at]) ⟨U,m,U,U,q⟩
 |wK B=>exact .r (s1':=⟨_,r,_,Â,p⟩) n (by simp[St.r,fm,base,G,Ý,Î,Frame.at,B]) ⟨U,m,U,U,q⟩
 |wL B=>exact .r (s1':=⟨_,r,_,Â,p⟩) n (by simp[St.r,fm,base,G,Ý,Î,Frame.at,B]) ⟨U,m,U,U,q⟩
 |tK=>exact .r (s1':=⟨_,r,_,Â,p⟩) n (by simp[St.r,fm,base,G,Ý,Î,Frame.at]) ⟨U,m,U,U,q⟩
 |@AA f t k L _ id ops=>
  refine⟨Y,⟨f,r,å ops (cm (P.follows .mixedOrders) ops<|w.tape w.drawn<|.order f id)::k,Â,p⟩,{w with drawn:=w.drawn+1},#[],Υ,⟨U,m,?_,U,q⟩,fp.M _,λ_ _ h=>Æ h,⟨n.S,by simp[n.N],n.C,n.I,n.M,n.r⟩,⟨á _,U,U,U,λ_ _ _=>rfl,λ_ _ _=>rfl⟩,λe B=>absurd B fj,á _⟩;simp only[n.S,n.N]
 |G7=>exact .r (s1':=⟨_,r,_,Â,p⟩) n (by simp[St.r,fm,base,G,Ý,Î,Frame.at]) ⟨U,m,U,U,q⟩
 |@Ep f t k L _ ops i rest o ho hw=>
  rw[Kp _ _ m]at hw;have:=aB (P:=P) (main:=main) (b:=base f) (a:=⟨r,[]⟩) (k:=k) (cs:=p.map (λx=>fm x.1 x.2.1 x.2.2)++cs) (w:=w) (rest:=rest) ho hw;rw[sK]at this;exact .r (s1':=⟨f,o5 r o.dst Ŏ,å ops rest::k,Â,p⟩) n this ⟨U,o5.r m _<|G0 Y,U,U,q⟩
 |@nP f t k L _ ops i rest o v _ ho hw hr=>
  rw[Kp _ _ m]at hw;let⟨C,x',E,es,z,F,D,H,I,J,K,M⟩:=(o7 ok.gd _<|Ö ho).mL hz hb hG m n hl hr Q;let⟨N,O⟩:=KC D;cases H with
  |nP V=>
   have:=bT (main:=main) (b:=base f) (k:=k) (cs:=p.map (λx=>fm x.1 x.2.1 x.2.2)++cs) (rest:=rest) ho hw (by simp[base]) N;rw[sK]at this;rename_i v';exact⟨C,⟨f,o5 r o.dst v',å ops rest::k,Â,p⟩,E,_,this,⟨U,o5.r (m.I z) _ V,U,U,KB z q⟩,z,F,I,J,λe B=>K e (by have:=c8 B;rwa[O]at this),M⟩
 |@AB f t k L _ ops i rest o _ ho hw hr=>
  rw[Kp _ _ m]at hw;let⟨C,x',E,es,z,F,D,H,I,J,K,M⟩:=(o7 ok.gd _<|Ö ho).mL hz hb hG m n hl hr Q;let⟨N,O⟩:=KC D;cases H with
  |sG=>
   have:=c9 (main:=main) (b:=base f) (k:=k) (cs:=p.map (λx=>fm x.1 x.2.1 x.2.2)++cs) (rest:=rest) ho hw (by simp[base]) N;rw[sK]at this;exact⟨C,⟨f,o5 r o.dst Ŏ,å ops rest::k,Â,p⟩,E,_,this,⟨U,o5.r (m.I z) _<|G0 C,U,U,KB z q⟩,z,F,I,J,λe B=>K e (by have:=c8 B;rwa[O]at this),M⟩
 |@sH f t k L _ ops i rest o g args fn c _ ho hw hr hf KD=>
  rw[Kp _ _ m]at hw;let⟨C,x',E,es,z,F,D,H,I,J,K,M⟩:=(o7 ok.gd _<|Ö ho).mL hz hb hG m n hl hr Q;let⟨N,O⟩:=KC D;cases H with
  |sH _ sM=>
   have:=bU (main:=main) (b:=base f) (k:=k) (cs:=p.map (λx=>fm x.1 x.2.1 x.2.2)++cs) (rest:=rest) ho hw (by simp[base]) N;rw[da _ hf KD]at this;rename_i WH;refine⟨C,⟨g,WH++Ŋ (fn.ntmps-WH.size) Ŏ,[ě c],Â,(f,r,å ops (i::rest)::k)::p⟩,E,_,this,⟨U,?_,U,U,.wC ⟨U,m.I z,U⟩ (KB z q)⟩,z,F,I,J,λe B=>K e (by have:=c8 B;rwa[O]at this),M⟩;rw[sM.r];exact sM.G<|WE _
 |@Er f t k L _ ops i rest ho=>exact .r (s1':=⟨f,r,å ops rest::k,Â,p⟩) n (by simp[St.r,fm,base,G,Ý,Î,Frame.at,ho,bA]) ⟨U,m,U,U,q⟩
 |@wM f t k L _ g t2' ops i rest k3 v fn _ hf hr=>
  cases q with
  |wC hx q=>
   rename_i y WI;let⟨g',t2,k2⟩:=y;let⟨S,KE,T⟩:=hx;simp only at S T KE;subst S T;let⟨C,v',E,es,z,F,D,H,I,J,K,M⟩:=(WG fn m).gk n hl hr #[];let⟨N,O⟩:=KC D;refine⟨C,⟨g,o5 t2 ((ops[i]?).bind (·.dst)) v',å ops rest::k3,Â,WI⟩,E,seen P f es,?_,⟨U,o5.r (KE.I z) _ H,U,U,KB z q⟩,z,F,I,J,λe B=>K e<|mem_seen B,M⟩;have AG:=ag (base g) ⟨t2,[]⟩ ops i rest k3 v';rw[sK]at AG;have nR:=G8 (main:=main) (k:=k) (c:=fm g t2<|å ops (i::rest)::k3) (cs:=WI.map (λx=>fm x.1 x.2.1 x.2.2)++cs) hf D;unfold fm at nR;rwa[AG,ę]at nR
end
inductive pQ(P:Ø)(kU:Ã->È->Prop):St->È->Prop
 |jK {f:ã} {t:Array Ã} {k:List ű} {u:È} {fn:Func} {v:Ã} (hf:P.funcs[f]?=À fn) (hr:∀tp d,(Ĵ fn t).run P {u with tape:=tp,drawn:=d}=İ v {u with tape:=tp,drawn:=d}) (hp:kU v u):pQ P kU ⟨f,t,k,Ë,[]⟩ u
 |jv {s:St} {u:È} (S:aE->Nat->St) (U:aE->Nat->È) (h:∀tp d,LS P s {u with tape:=tp,drawn:=d} (S tp d)<|U tp d) (hc:∀tp d,El u<|U tp d) (ih:∀tp d,pQ P kU (S tp d)<|U tp d):pQ P kU s u
structure yv(M:Nat->Prop)(w w₁:È):Prop where
 r:w.heap.size<=w₁.heap.size
 C:∀j,M j->w₁.heap[j]?=w.heap[j]?
def KF(O b:Nat->Prop)(e:Ĉ):Prop:=
 (∃a:Ü,e.loc=Ć a/\e.sync=Â/\(O a.block\/(b a.block/\e.write=Â)))\/e.loc=Η ο\/∃f,e.loc=Η (.extern f)
structure KG(Rd O O':Nat->Prop)(w w':È)(es:Array Ĉ):Prop where
 r:w.heap.size<=w'.heap.size
 M:∀j,O j->O' j
 I:∀j,O' j->O j\/w.heap.size<=j
 fx:∀j,O' j->j<w'.heap.size
 jR:∀j,j<w.heap.size->¬O j->w'.heap[j]?=w.heap[j]?
 N:w'.os=w.os
 S:w'.output=w.output
 Y:w'.tape=w.tape
 C:∀e∈es,KF O' Rd e
inductive vl(P:Ø)(main:Bool)(Rd:Nat->Prop)(Stop:(Nat->Prop)->Ó->È->Prop):(Nat->Prop)->Ó->È->Prop
 |fB {O:Nat->Prop} {g:Ó} {w:È} (h:∀w₁,yv (λj=>O j\/Rd j) w w₁->Stop O g w₁):vl P main Rd Stop O g w
 |jv {O:Nat->Prop} {g:Ó} {w:È} (G':È->Ó) (W':È->È) (E':È->Array Ĉ) (O':È->Nat->Prop) (iH:g.status=Ñ)
  (h:∀w₁,yv (λj=>O j\/Rd j) w w₁->Ý P main g w₁=bz (G' w₁) (W' w₁) (E' w₁))
  (hd:∀w₁,yv (λj=>O j\/Rd j) w w₁->KG Rd O (O' w₁) w₁ (W' w₁) (E' w₁))
  (ih:∀w₁,yv (λj=>O j\/Rd j) w w₁->vl P main Rd Stop (O' w₁) (G' w₁) (W' w₁)):vl P main Rd Stop O g w
instance:Nonempty fp:=⟨⟨λ_ _=>False,0⟩⟩
instance:Nonempty St:=⟨⟨0,#[],[],Â,[]⟩⟩
instance:Nonempty (Goroutine×World×Array Event×(Nat->Prop)):=⟨(default,default,#[],λ_=>False)⟩
section
variable{Y:fp}{b Rd:Nat->Prop}{l:ã->Prop}{main:Bool}{Stop:(Nat->Prop)->Ó->È->Prop}
def vl.mk(i:g.status=Ñ) (h:∀a,yv (λj=>X j\/Rd j) w a->∃c b d e,Ý P main g a=bz c b d/\KG Rd X e a b d/\vl P main Rd Stop e c b):vl P main Rd Stop X g w:=by
 let p:=λ(a:È) (x:Goroutine×World×Array Event×(Nat->Prop))=>Ý P main g a=bz x.1 x.2.1 x.2.2.1/\KG Rd X x.2.2.2 a x.2.1 x.2.2.1/\vl P main Rd Stop x.2.2.2 x.1 x.2.1
 have f:∀a,yv (λj=>X j\/Rd j) w a->p a (Classical.epsilon<|p a):=λa r=>Classical.epsilon_spec (let⟨c,b,d,e,h⟩:=h a r;⟨(c,b,d,e),h⟩);exact .jv (λa=>(Classical.epsilon<|p a).1) (λa=>(Classical.epsilon<|p a).2.1) (λa=>(Classical.epsilon<|p a).2.2.1) (λa=>(Classical.epsilon<|p a).2.2.2) i (λa r=>(f a r).1) (λa r=>(f a r).2.1) λa r=>(f a r).2.2
def rB(Y:fp)(b:Nat->Prop)(u w:È):Prop:=jg Y b {u with tape:=w.tape,drawn:=w.drawn} w
def fq(Y:fp)(b:Nat->Prop)(j:Nat):Prop:=(∃i,Y i j)/\¬b j
def rB.jL{w₁:È}(h:rB Y b u w)(d:∀i j,Y i j->b j->Rd j)(r:yv (λj=>fq Y b j\/Rd j) w w₁):rB Y b u w₁:=by
 refine⟨U,U,h.C,h.I,ö h.M r.r,λi j a=> ?_⟩;let⟨c,f,e,g,k,l,m,n,o,p⟩:=h.r i j a;refine⟨c,f,e,g,k,l,?_,n,o,p⟩;rw[r.C j ?_]
 .exact m
 .by_cases s:b j
  .exact Í<|d i j a s
  .exact Æ ⟨⟨i,a⟩,s⟩
def jg.to0(h:jg Y b u w):rB Y b u w:=⟨U,U,h.C,h.I,h.M,h.r⟩
def jg.vm(h:jg Y b u w)(tp:aE)(d:Nat):rB Y b {u with tape:=tp,drawn:=d} w:=⟨U,U,h.C,h.I,h.M,h.r⟩
def aeI{c:fp}(k:∀i j,c i j->b j->Rd j){e:Ĉ}(h:As c b e):KF (fq c b) Rd e:=by
 rcases h with⟨a,i,d,f,g,l⟩|h|h
 .by_cases s:b a.block
  .refine Æ ⟨a,d,g,Í ⟨k _ _ f s,?_⟩⟩;cases m:e.write with
   |false=>rfl
   |true=>exact absurd s<|l m
  .exact Æ ⟨a,d,g,Æ ⟨⟨i,f⟩,s⟩⟩
 .exact Í<|Æ h
 .exact Í<|Í h
def WJ{c:fp}(f:Y.r c)(g:∀i j,c i j->Y i j\/(u.heap.size<=i/\w.heap.size<=j))(k:jg c b W jX)(d:nN Y b w jX)(l:∀e∈V,As c b e)(m:∀i j,c i j->b j->Rd j): KG Rd (fq Y b) (fq c b) w jX V where
 r:=d.r;M j h:=⟨let⟨i,a⟩:=h.1;⟨i,f.1 _ _ a⟩,h.2⟩;I j h:=by
  let⟨⟨i,a⟩,s⟩:=h;rcases g i j a with x|x
  .exact Æ ⟨⟨i,x⟩,s⟩
  .exact Í x.2
 fx j h:=by let⟨⟨i,a⟩,_⟩:=h;let⟨_,_,_,_,_,_,x,_⟩:=k.r i j a;exact(Ä.1 x).1
 jR j hj hn:=by
  by_cases x:∃i,Y i j
  .by_cases s:b j
   .exact d.N j s hj
   .exact absurd ⟨x,s⟩ hn
  .exact d.C j hj λi a=>x ⟨i,a⟩
 N:=d.I;S:=d.M;Y:=d.S;C e he:=aeI m<|l e he
def G9(Y:fp)(b:Nat->Prop)(f:Ã->È->Prop)(c:ģ)(h:List ģ)(O:Nat->Prop)(g:Ó)(w:È):Prop:=
 ∃(a:fp) (d:È) (v e:Ã),Y.r a/\O=fq a b/\rB a b d w/\fl a v e/\f v d/\g=G (c.finish e) h
def pQ.Pk(hz:nO P)(hP:o6 P X l){s:St}(h:pQ P vQ s u):∀{Y Ha:fp} {s':St} {w:È},Ha.r Y->Y.C=P.globals.size->(∀g,X g->Y g g)->KA Y s s'->lz P X l s->rB Y b u w->(∀j,b j->j<w.heap.size)->(∀i j,Y i j->b j->Rd j)->∀(c:ģ) (cs:List ģ),vl P main Rd (G9 Ha b vQ c cs) (fq Y b) (s'.r<|c::cs) w:=by
 have hE:∀o a u f F G,mK P X l o->(î (ê a) o).run P u=İ (Β f F) G->l f:=by exact λo a u f F G d H=>d.C a u f F G H
 induction h with
 |@jK f t k u fn v hf H hp=>
  intro Y Ha s' w I J K L M N O n c cs;let⟨f',t',k',ret',L'⟩:=s';let⟨V,W,e2,e3,hL⟩:=L;simp only at V e2 e3 W hL;subst V e2 e3;cases hL;refine .mk rfl λp r=> ?_;have d:=λj s=>Ô (O j s) r.r;let⟨z,v',w',es,B,C,m,D,q,E,Q,h8⟩:=(WG fn W).gk (N.jL n r) d (H _ _) #[];have y:=λi j T s=>(C i j T).elim (λx=>n i j x s) λx=>absurd (d j s) Z;refine⟨_,w',_,fq z b,G8 hf m,WJ B C q E (λe he=>Q e (by have:=mem_seen he;simpa using this)) y,.fB λpb e=>⟨z,u,v,v',fp.I I B,rfl,rB.jL (q.vm _ _) y e,D,hp,rfl⟩⟩
 |@jv s u S U h hc _ ih=>
  intro Y Ha s' w I J K L M N O n c cs;refine .mk rfl λp r=> ?_;have d:=λj s=>Ô (O j s) r.r;let⟨z,H,e,es,B,C,m,D,q,E,Q,h8⟩:=(h p.tape p.drawn).mL hz J K L M (N.jL n r) d (hc p.tape p.drawn) main<|c::cs;have y:=λi j T s=>(D i j T).elim (λx=>n i j x s) λx=>absurd (d j s) Z;refine⟨_,e,es,fq z b,B,WJ m D q E Q y,ih _ _ (fp.I I m) (m.2.2.trans J) (λg x=>m.1 _ _<|K g x) C ((h _ _).ok hP hE M) q.to0 (λj s=>Ô (d j s) E.r) y c cs⟩
end
def pR:ģ:={(default:ģ)with fn:=0,todo:=[ě<|dM ""],defers:=[{target:=.nil,args:=#[]}],mode:=.run,kind:=.normal}
def St.I(s:St):ģ:=if s.C then{fm s.f s.t s.k with mode:=.returning}else fm s.f s.t s.k
def fx(L:List (FuncId×Array Value×List ű)):List ģ:=L.map (λx=>fm x.1 x.2.1 x.2.2)++[pR]
def LM(s:St)(u:È):cy:=bB s.I (fx s.L) u
section
variable{GL:Nat->Prop}{e9:ã->Prop}{Q:Ã->È->Prop}
def Et{cs:List ģ}{a:ģ}{es:Array Ĉ}(h:Ý P Ë (G f cs) w=bz (G a qX) u es):ep P (bB f cs w)=Ś (bB a qX u):= step_lone_go<|by show(Ý P Ë (G f cs) w).bare=_;rw[h];rfl
def KH{fr:ģ}{cs:List ģ}{o:Outcome}{es:Array Ĉ}(h:Ý P Ë (G fr cs) w=.ended o u es):ep P (bB fr cs w)=.ended o u:= step_lone_ended<|by show(Ý P Ë (G fr cs) w).bare=_;rw[h];rfl
def mM(P:Ø)(Q:Ã->È->Prop)(n:Nat)(m:cy):Prop:=∃b v a,dO P n m=Ś (bB b [pR] a)/\b.leaving P a (.returned v)/\Q v a
def mM.r{m a:cy}(h:mM P Q (n+1) m)(b:ep P m=Ś a):mM P Q n a:=by let⟨c,v,d,e,f⟩:=h;exact⟨c,v,d,by simpa only[dO,b]using e,f⟩
def mM.M{m:cy}{o:Outcome}(h:mM P Q (n+1) m)(b:ep P m=.ended o w):False:=by let⟨c,v,d,a,e⟩:=h;simp only[dO,b]at a;cases a
def WK{fr:ģ}{cs:List ģ}(h:bB fr cs w=bB f qX u):fr=f/\cs=qX/\w=u:=by simp only[bB,Machine.mk.injEq,Array.mk.injEq,List.cons.injEq,Goroutine.mk.injEq]at h;exact⟨h.2.1.1.1,h.2.1.1.2.1,h.1⟩
def mM.C{cs:List ģ}(h:mM P Q 0 (bB f cs w)):cs=[pR]/\∃v,f.leaving P w (.returned v)/\Q v w:=by let⟨d,v,e,a,b,c⟩:=h;simp only[dO,Stepped.next.injEq]at a;obtain⟨rfl,rfl,rfl⟩:=WK a;exact⟨U,v,b,c⟩
def aeJ(h:mM P Q n (bB pR [] u)):False:=by
 cases n with
 |zero=>let⟨a,_⟩:=h.C;cases a
 |succ n=>exact h.M<|KH (es:=#[])<|by simp[G,Ý,Î,pR];exact⟨U,U⟩
def aeK{a:List eJ}(h:mM P Q n (bB (pR.raise a) [] u)):False:=by
 cases n with
 |zero=>let⟨b,_⟩:=h.C;cases b
 |succ n=>exact h.M<|KH (es:=#[])<|by simp[G,Ý,pR,Ū,dN,callDeferred];exact⟨U,U⟩
def aeL(b:List eJ):∀(L:List (FuncId×Array Value×List ű)) (f:ã) (t:Array Ã) (k:List ű) (u:È) (n:Nat),(∃a,P.funcs[f]?=À a)->(∀x∈L,∃a,P.funcs[x.1]?=À a)->¬mM P Q n (bB ((fm f t k).raise b) (fx L) u):=by
 intro L
 induction L with
 |nil=>
  intro f t k u n ⟨a,c⟩ _ h;cases n with
  |zero=>let⟨_,v,y,_⟩:=h.C;exact absurd y.1<|by simp[Ū,fm,Frame.at]
  |succ n=>
   have d:ep P (bB ((fm f t k).raise b) (fx []) u)=Ś (bB (pR.raise b) [] u):=Et (es:=#[]) (by simp[G,Ý,fm,base,Frame.at,Ū,dN,dx,c,fx]);exact aeK<|h.r d
 |cons x L e=>
  intro f t k u n ⟨a,c⟩ d h;cases n with
  |zero=>let⟨_,v,y,_⟩:=h.C;exact absurd y.1<|by simp[Ū,fm,Frame.at]
  |succ n=>
   exact e x.1 x.2.1 x.2.2 u n (d x<|ð ..) (λy v=>d y<|õ _ v)<|h.r<|Et (es:=#[])<|by simp[G,Ý,fm,base,Frame.at,Ū,dN,dx,c,fx]
structure Ok(P:Ø)(GL:Nat->Prop)(e9:ã->Prop)(s:St):Prop where
 r:lz P GL e9 s
 I:e9 s.f
 C:∀x∈s.L,e9 x.1/\∃ops i rest k,x.2.2=å ops (i::rest)::k
def tL(P:Ø)(e9:ã->Prop):Prop:=∀f,e9 f->∃a c,P.funcs[f]?=À a/\a.body=À c
def Pl{t:Array Ã}:fD P (Ĵ s t):=by
 unfold Ĵ;refine gl (VX _ (λr=> ?_) _) λ_=>gA _;cases r with
 |tmp n=>exact gA _
 |cell a n=>exact gl (VO _) λ_=>VK _ _
def aeM(k:j4 P xX o.op){n:χ}(d:(î xX o).run P u=İ n W):(∃v,n=ñ v)\/n=bh\/∃f c,n=Β f c:=by
 have i:∀{m:Ğ Ã} {x:χ} {j l:È},(m>>=λv=>pure (ñ v):Ğ χ).run P j=İ x l->∃v,x=ñ v:=by
  intro m x j l e;rw[Å]at e;cases g:m.run P j with
  |ok a w=>rw[g]at e;cases e;exact⟨a,U⟩
  |halt z w=>rw[g]at e;cases e
 let⟨p,e,q,s,B,guard⟩:=o;simp only at k;unfold î at d;simp only[]at d;cases k with
 |Ax x=>cases d;exact Æ ⟨_,U⟩
 |GR x=>cases d;exact Æ ⟨_,U⟩
 |wD c a b=>
  rw[Å]at d;cases g:(cE<|xX c).run P u with
  |ok a w=>rw[g]at d;cases d;exact Æ ⟨_,U⟩
  |halt z w=>rw[g]at d;cases d
 |jb t a x=>
  rw[Å]at d;cases g:(Ł t (xX a)<|xX x).run P u with
  |ok a w=>rw[g]at d;cases d;exact Í<|Æ U
  |halt z w=>rw[g]at d;cases d
 |GU x=>
  simp only[]at d;split at d;all_goals first
   |(cases d;exact Æ ⟨_,U⟩)
   |exact absurd d<|rp _ _ _ _
   |(
    split at d;all_goals first
     |(cases d;exact Æ ⟨_,U⟩)
     |exact absurd d<|rp _ _ _ _
     |(
      rw[Å,ÿ]at d;simp only[Ê]at d;rw[Å]at d;revert d;generalize ä P (bx _ _ _ _) u=z;intro d;cases z with
      |halt z w=>cases d
      |ok a w=>
       simp only[Ê]at d;split at d
       .rw[Å]at d;cases d
       .cases d;exact Æ ⟨_,U⟩))
 |GV x a=>simp only[ā,Ę,ĝ,pure_bind,Û,æ,é]at d;exact Æ<|i d
 |GX x a=>simp only[ā,Ę,ĝ,pure_bind,Û,æ,é]at d;exact Æ<|i d
 |GY x y a=>simp only[ā,Ę,ĝ,pure_bind,Û,æ,é]at d;exact Æ<|i d
 |GZ x y b g h=>simp only[ā,Ę,ĝ,pure_bind,Û,æ,é]at d;exact Æ<|i d
 |jI g C a b h=>
  let⟨D,r,w,z⟩:=h;simp only[ā,b,Ľ,Ę,pure_bind,ę,Ě,Ń]at d;rw[Å,ÿ]at d;simp only[Ê,r,w,z,Ç,if_false]at d;cases d;exact Í<|Í ⟨_,_,U⟩
 |En e t x y r h=>exact Æ<|i d
 |_=>exact Æ<|i d
def mM.I(_hP:o6 P GL e9)(hF:tL P e9){n:Nat}{s:St}{u:È}(ok:Ok P GL e9 s)(hu:qD u)(h:mM P Q n (LM s u)): (n=0/\s.C=Ë/\s.L=[]/\∃fn v,P.funcs[s.f]?=À fn/\(Ĵ fn s.t).run P u=İ v u/\Q v u)\/∃m s' u',n=m+1/\LS P s u s' u'/\mM P Q m (LM s' u'):=by
 let⟨f,t,k,ret,L⟩:=s;let⟨⟨top,lw⟩,fs,ls⟩:=ok;simp only at top lw fs ls;let⟨fn,c,hfn,hbody⟩:=hF f fs;cases n with
 |zero=>
  let⟨h1,v,h2,h3⟩:=h.C;have hL:L=[]:=by
   simp only[fx]at h1;cases L with
   |nil=>rfl
   |cons x L=>simp at h1
  subst hL;let⟨m1,_,_,fn',m4,m5⟩:=h2;have aeN:ret=Ë:=by
   cases ret with
   |true=>rfl
   |false=>simp[St.I,fm,Frame.at]at m1
  subst aeN;exact Æ ⟨U,U,U,fn',v,m4,m5,h3⟩
 |succ n=>
  have go:∀{s':St} {u':È},LS P ⟨f,t,k,ret,L⟩ u s' u'->(∃es,Ý P Ë ((⟨f,t,k,ret,L⟩:St).r [pR]) u=bz (s'.r [pR]) u' es)->(n+1=0/\ret=Ë/\L=[]/\∃fn v,P.funcs[f]?=À fn/\(Ĵ fn t).run P u=İ v u/\Q v u)\/∃m s' u',n+1=m+1/\LS P ⟨f,t,k,ret,L⟩ u s' u'/\mM P Q m (LM s' u'):=by intro s' u' hl ⟨es,he⟩;exact Í ⟨n,s',u',U,hl,h.r<|Et he⟩
  have bad:(∃o w es,Ý P Ë ((⟨f,t,k,ret,L⟩:St).r [pR]) u=.ended o w es)->False:=λ⟨_,_,_,he⟩=>h.M<|KH he;cases ret with
  |true=>
   cases hr:(Ĵ fn t).runT P u #[]with
   |mk r es=>
    cases r with
    |halt z w=>
     refine absurd ?_ id;cases z<;>exact bad ⟨_,_,_,by simp[St.r,fm,base,G,Ý,dN,Frame.at,hfn,hr,Ρ,-Τ];exact⟨U,U,U⟩⟩
    |ok v u'=>
     cases L with
     |nil=>
      exact absurd (h.r<|Et<|G8 hfn hr) aeJ
     |cons x L=>
      let⟨g,t',k'⟩:=x;let⟨_,ops,i,rest,k2,e⟩:=ls _<|ð ..;simp only at e;subst e;refine go (.wM hfn (by rw[<-Ÿ P (Ĵ fn t) u #[],hr])) ⟨seen P f es,?_⟩;have nR:=G8 (main:=Ë) (k:=k) (c:=fm g t'<|å ops (i::rest)::k2) (cs:=fx L) hfn hr;have AG:=ag (base g) ⟨t',[]⟩ ops i rest k2 v;rw[sK]at AG;unfold fm at nR;rwa[AG]at nR
  |false=>
   cases k with
   |nil=>exact go .oZ ⟨_,by simp[St.r,fm,base,G,Ý,Î,Frame.at];rfl⟩
   |cons it k=>
    have ti:=top it<|ð ..;cases ti with
    |yt id=>exact go .yt ⟨_,by simp[St.r,fm,base,G,Ý,Î,Frame.at];rfl⟩
    |vk _=>exact go .vk ⟨_,by simp[St.r,fm,base,G,Ý,Î,Frame.at];rfl⟩
    |wH _=>exact go .wH ⟨_,by simp[St.r,fm,base,G,Ý,Î,Frame.at];rfl⟩
    |rA hc=>
     cases hc with
     |vj=>exact go .vj ⟨_,by simp[St.r,fm,base,G,Ý,Î,Frame.at];rfl⟩
     |sG=>exact go .sG ⟨_,by simp[St.r,fm,base,G,Ý,Î,Frame.at];rfl⟩
     |wF l=>exact go .wF ⟨_,by simp[St.r,fm,base,G,Ý,Î,Frame.at];rfl⟩
     |ry hx hy=>exact go .ry ⟨_,by simp[St.r,fm,base,G,Ý,Î,Frame.at];rfl⟩
     |rz id _=>exact go .rz ⟨_,by simp[St.r,fm,base,G,Ý,Î,Frame.at];rfl⟩
     |wG _=>exact go .wG ⟨_,by simp[St.r,fm,base,G,Ý,Î,Frame.at];rfl⟩
     |wI _=>exact go .wI ⟨_,by simp[St.r,fm,base,G,Ý,Î,Frame.at];rfl⟩
     |n9 WC=>exact(bad ⟨_,_,_,by simp[St.r,fm,base,G,Ý,Î,Frame.at];exact⟨U,U,U⟩⟩).elim
     |wK id=>
      cases he:cW id k with
      |none=>exact(bad ⟨_,_,_,by simp[St.r,fm,base,G,Ý,Î,Frame.at,he];exact⟨U,U,U⟩⟩).elim
      |some k'=>exact go (.wK he) ⟨_,by simp[St.r,fm,base,G,Ý,Î,Frame.at,he];rfl⟩
     |wL l=>
      cases he:cX l k with
      |none=>exact(bad ⟨_,_,_,by simp[St.r,fm,base,G,Ý,Î,Frame.at,he];exact⟨U,U,U⟩⟩).elim
      |some k'=>exact go (.wL he) ⟨_,by simp[St.r,fm,base,G,Ý,Î,Frame.at,he];rfl⟩
     |@tJ c x y _ _ _=>
      by_cases hb:∃b,ê ⟨t,[]⟩ c=ō b
      .let⟨b,hb⟩:=hb;exact go (.tJ hb) ⟨_,cZ hb⟩
      .refine(bad ⟨.stuck "cond: bool expected" ((fm f t<|ě (bS c x y)::k).pos P),u,#[],?_⟩).elim;have Vw:(fm f t<|ě (bS c x y)::k).eval c=ê ⟨t,[]⟩ c:=Frame.eval_at _ _ _ _;have hx:Ý P Ë (G (fm f t<|ě (bS c x y)::k)<|fx L) u=(match(fm f t<|ě (bS c x y)::k).eval c with
        |ō b=>bz (G (fm f t<|ě (if b then x else y)::k)<|fx L) u
        |_=>.ended (.stuck "cond: bool expected" ((fm f t (ě (bS c x y)::k)).pos P)) u):=by
        simp only[G,Ý,Î,fm,Frame.at];rfl
       refine hx.trans ?_;rw[Vw];generalize ê ⟨t,[]⟩ c=v at hb;cases v<;>first|exact absurd ⟨_,U⟩ hb|rfl
     |tK id draw _=>
      cases draw with
      |false=>exact go .tK ⟨_,by simp[St.r,fm,base,G,Ý,Î,Frame.at];rfl⟩
      |true=>exact go .AA ⟨_,Υ⟩
    |wN is hO=>
     rename_i ops;cases is with
     |nil=>exact go .G7 ⟨_,by simp[St.r,fm,base,G,Ý,Î,Frame.at];rfl⟩
     |cons i rest=>
      cases ho:ops[i]? with
      |none=>exact go (.Er ho) ⟨_,by simp[St.r,fm,base,G,Ý,Î,Frame.at,ho,bA];rfl⟩
      |some o=>
       cases hw:ı o (Ŗ ops t)with
       |false=>
        have:=aB (P:=P) (main:=Ë) (b:=base f) (a:=⟨t,[]⟩) (k:=k) (cs:=fx L) (w:=u) (rest:=rest) ho hw;rw[sK]at this;exact go (.Ep ho hw) ⟨_,this⟩
       |true=>
        have oo:=hO o<|Ö ho;have vn:=stepG_oper (P:=P) (main:=Ë) (b:=base f) (a:=⟨t,[]⟩) (k:=k) (cs:=fx L) (w:=u) (rest:=rest) ho hw;cases hr:(î (ê ⟨t,[]⟩) o).runT P u #[]with
        |mk r es=>
         have oY:(î (ê ⟨t,[]⟩) o).run P u=r:=by rw[<-Ÿ P _ u #[],hr]
         cases r with
         |halt z w=>
          have hz:=((oo.r ⟨t,[]⟩).1 u hu).2 z w oY;cases z with
          |panic v=>
           have hs:ep P (LM ⟨f,t,å ops (i::rest)::k,Â,L⟩ u)=Ś (bB ((fm f t<|å ops (i::rest)::k).raise [{v,recovered:=Â}]) (fx L) w):= Et (es:=seen P f es) (vn.trans<|by simp[bV,hr,G,Frame.at,fm,base,Ρ,Ū,-Τ]);exact absurd (h.r hs) (aeL _ L f t _ w n ⟨fn,hfn⟩ λx hx=>let⟨fn',_,h1,_⟩:=hF x.1 (ls x hx).1;⟨fn',h1⟩)
          |stuck s=>exact(bad ⟨_,_,_,vn.trans<|by simp[bV,hr,Frame.at,base,Ρ,-Τ];exact⟨U,U,U⟩⟩).elim
          |unsupported un=>
           cases un<;>first|(cases hz;done)|exact(bad ⟨_,_,_,vn.trans<|by simp[bV,hr,Frame.at,base,Ρ,-Τ];exact⟨U,U,U⟩⟩).elim
          |_=>cases hz
         |ok nx u'=>
          rcases oo.I ⟨t,[]⟩ u nx u' oY with⟨v,rfl⟩|rfl|⟨g,args,rfl⟩
          .have:=bT (main:=Ë) (b:=base f) (k:=k) (cs:=fx L) (rest:=rest) ho hw (by simp[base]) oY;rw[sK]at this;exact go (.nP ho hw oY) ⟨_,this⟩
          .have:=c9 (main:=Ë) (b:=base f) (k:=k) (cs:=fx L) (rest:=rest) ho hw (by simp[base]) oY;rw[sK]at this;exact go (.AB ho hw oY) ⟨_,this⟩
          .let⟨fn',c',h1,h2⟩:=hF g<|oo.C ⟨t,[]⟩ u g args u' oY;have:=bU (main:=Ë) (b:=base f) (k:=k) (cs:=fx L) (rest:=rest) ho hw (by simp[base]) oY;rw[da _ h1 h2]at this;exact go (.sH ho hw oY h1 h2) ⟨_,this⟩
end
def j5(u:È):Prop:=∀(i:Nat) (o:Obj),u.heap[i]?=À o->¬yr o
def j5.qD(h:j5 u):qD u:=λi _ _ a=>h i _ a trivial
def wP(a:Ã->È->Prop):Prop:=∀v u T D,a v u->a v ((World.tp u T D))
section
variable{GL:Nat->Prop}{e9:ã->Prop}{kU:Ã->È->Prop}
def LS.Pk{s s':St}(h:LS P s u s' W)(cs:List ģ):∃j,Ý P Ë (s.r cs) u=bz (s'.r cs) W j:=by
 cases h with
 |@tJ f t k L _ c x y b hc=>exact⟨_,cZ hc⟩
 |wK e=>exact⟨_,by simp[St.r,fm,base,G,Ý,Î,Frame.at,e];rfl⟩
 |wL e=>exact⟨_,by simp[St.r,fm,base,G,Ý,Î,Frame.at,e];rfl⟩
 |@AA f t k L _ id ops=>exact⟨_,Υ⟩
 |@Er f t k L _ ops i rest ho=>exact⟨_,by simp[St.r,fm,base,G,Ý,Î,Frame.at,ho,bA];rfl⟩
 |@Ep f t k L _ ops i rest o ho hw=>
  have:=aB (P:=P) (main:=Ë) (b:=base f) (a:=⟨t,[]⟩) (k:=k) (cs:=L.map (λx=>fm x.1 x.2.1 x.2.2)++cs) (w:=u) (rest:=rest) ho hw;rw[sK]at this;exact⟨_,this⟩
 |@nP f t k L _ ops i rest o v _ ho hw hr=>
  have:=bT (main:=Ë) (b:=base f) (k:=k) (cs:=L.map (λx=>fm x.1 x.2.1 x.2.2)++cs) (rest:=rest) ho hw (by simp[base]) hr;rw[sK]at this;exact⟨_,this⟩
 |@AB f t k L _ ops i rest o _ ho hw hr=>
  have:=c9 (main:=Ë) (b:=base f) (k:=k) (cs:=L.map (λx=>fm x.1 x.2.1 x.2.2)++cs) (rest:=rest) ho hw (by simp[base]) hr;rw[sK]at this;exact⟨_,this⟩
 |@sH f t k L _ ops i rest o g args fn c _ ho hw hr hf hb=>
  have:=bU (main:=Ë) (b:=base f) (k:=k) (cs:=L.map (λx=>fm x.1 x.2.1 x.2.2)++cs) (rest:=rest) ho hw (by simp[base]) hr;rw[da _ hf hb]at this;exact⟨_,this⟩
 |@wM f t k L _ g t' ops i rest k' v fn _ hf hr=>
  cases l:(Ĵ fn t).runT P u #[]with
  |mk r j=>
   have e:r=İ v W:=by rw[<-hr,<-Ÿ P (Ĵ fn t) u #[],l]
   subst e;have d:=G8 (main:=Ë) (k:=k) (c:=fm g t'<|å ops (i::rest)::k') (cs:=L.map (λx=>fm x.1 x.2.1 x.2.2)++cs) hf l;have x:=ag (base g) ⟨t',[]⟩ ops i rest k' v;rw[sK]at x;unfold fm at d;rw[x]at d;exact⟨_,d⟩
 |_=>exact⟨_,by simp[St.r,fm,base,G,Ý,Î,Frame.at];rfl⟩
def LS.vo{s a:St}(h:LS P s u a w):ep P (LM s u)=Ś (LM a w):= let⟨_,b⟩:=h.Pk [pR];Et b
def LS.Pm(j:o6 P GL e9){s g:St}(h:LS P s u g w)(ok:Ok P GL e9 s):Ok P GL e9 g:=by
 have i:∀o a u f e w,mK P GL e9 o->(î (ê a) o).run P u=İ (Β f e) w->e9 f:=by exact λo a u f e w c d=>c.C a u f e w d
 refine⟨h.ok j i ok.r,?_,?_⟩
 .cases h with
  |sH c _ d _ _=>exact i _ _ _ _ _ _ (o7 ok.r.gd _<|Ö c) d
  |wM=>exact(ok.C _<|ð ..).1
  |_=>exact ok.I
 .cases h with
  |sH c _ d _ _=>
   intro x b;rcases ŧ.1 b with rfl|b
   .exact⟨ok.I,_,_,_,_,U⟩
   .exact ok.C x b
  |wM=>exact λx b=>ok.C x<|õ _ b
  |_=>exact ok.C
def LS.kd{s c:St}{u b:È}(h:LS P s u c b)(ok:lz P GL e9 s)(a:qD u):Kd u b:=by
 cases h with
 |nP k _ i=>exact(((o7 ok.gd _<|Ö k).r _).1 u a).1 _ _ i
 |AB k _ i=>exact(((o7 ok.gd _<|Ö k).r _).1 u a).1 _ _ i
 |sH k _ i _ _=>exact(((o7 ok.gd _<|Ö k).r _).1 u a).1 _ _ i
 |wM _ i=>exact(Pl.1 u a).1 _ _ i
 |AA=>exact⟨id,λi o h k=>⟨o,h,k⟩⟩
 |_=>exact Kd.fT u
def LS.aeO{s o:St}{u p:È}{T:aE}{D:Nat}(h:LS P s ((World.tp u T D)) o p)(ok:lz P GL e9 s):∃n v,p=(World.tp v T<|D+n)/\∀a b,vh T D a b n->LS P s ((World.tp u a b)) o ((World.tp v a<|b+n)):=by
 cases h with
 |nP c e g=>
  obtain⟨n,v,i⟩:=((o7 ok.gd _<|Ö c).r ⟨_,[]⟩).2 u T D;obtain⟨j,l⟩:=i _ _ g;exact⟨n,v,j,λa b d=> .nP c e (l a b d)⟩
 |AB c e g=>
  obtain⟨n,v,i⟩:=((o7 ok.gd _<|Ö c).r ⟨_,[]⟩).2 u T D;obtain⟨j,l⟩:=i _ _ g;exact⟨n,v,j,λa b d=> .AB c e (l a b d)⟩
 |sH c e g m q=>
  obtain⟨n,v,i⟩:=((o7 ok.gd _<|Ö c).r ⟨_,[]⟩).2 u T D;obtain⟨j,l⟩:=i _ _ g;exact⟨n,v,j,λa b d=> .sH c e (l a b d) m q⟩
 |wM m g=>
  obtain⟨n,v,i⟩:=(Pl).2 u T D;obtain⟨j,l⟩:=i _ _ g;exact⟨n,v,j,λa b d=> .wM m (l a b d)⟩
 |@AA f t k L _ id ops=>
  refine⟨1,u,U,λa b d=> ?_⟩;have g:=LS.AA (P:=P) (f:=f) (t:=t) (k:=k) (L:=L) (u:=(World.tp u a b)) (id:=id) (ops:=ops);have i:((World.tp u a b)).tape ((World.tp u a b)).drawn=((World.tp u T D)).tape ((World.tp u T D)).drawn:=d.lO;rwa[i]at g
 |oZ=>exact⟨0,u,U,λ_ _ _=> .oZ⟩
 |vj=>exact⟨0,u,U,λ_ _ _=> .vj⟩
 |sG=>exact⟨0,u,U,λ_ _ _=> .sG⟩
 |wF=>exact⟨0,u,U,λ_ _ _=> .wF⟩
 |yt=>exact⟨0,u,U,λ_ _ _=> .yt⟩
 |vk=>exact⟨0,u,U,λ_ _ _=> .vk⟩
 |ry=>exact⟨0,u,U,λ_ _ _=> .ry⟩
 |tJ h=>exact⟨0,u,U,λ_ _ _=> .tJ h⟩
 |rz=>exact⟨0,u,U,λ_ _ _=> .rz⟩
 |wG=>exact⟨0,u,U,λ_ _ _=> .wG⟩
 |wH=>exact⟨0,u,U,λ_ _ _=> .wH⟩
 |wI=>exact⟨0,u,U,λ_ _ _=> .wI⟩
 |wK h=>exact⟨0,u,U,λ_ _ _=> .wK h⟩
 |wL h=>exact⟨0,u,U,λ_ _ _=> .wL h⟩
 |tK=>exact⟨0,u,U,λ_ _ _=> .tK⟩
 |G7=>exact⟨0,u,U,λ_ _ _=> .G7⟩
 |Ep c e=>exact⟨0,u,U,λ_ _ _=> .Ep c e⟩
 |Er c=>exact⟨0,u,U,λ_ _ _=> .Er c⟩
def mM.gS(c:o6 P GL e9)(hF:tL P e9)(g:∀v u,vQ v u->j5 u):∀(n:Nat) {s:St} {u:È},Ok P GL e9 s->qD u->mM P vQ n (LM s u)->j5 u:=by
 intro n
 induction n with
 |zero=>
  intro s u a b h;rcases h.I c hF a b with⟨_,_,_,_,v,_,_,d⟩|⟨m,_,_,e,_⟩
  .exact g v u d
  .cases e
 |succ n j=>
  intro s u a b h;rcases h.I c hF a b with⟨e,_⟩|⟨m,w,x,e,d,k⟩
  .cases e
  .cases e;have f:=d.kd a.r b;intro i o l p;let⟨q,r,t⟩:=f.C i o l p;exact j (d.Pm c a) (f.r b) k i q r t
def pQ.aeP(b:wP kU){s:St}(h:pQ P kU s u)(T:aE)(D:Nat):pQ P kU s ((World.tp u T D)):=by
 cases h with
 |jK a S c=>exact .jK a S (b _ _ T D c)
 |jv S a h c d=>exact .jv S a h c d
def WL(m:wP kU)(o:∀v u,vQ v u->kU v u){s:St}(c:s.C=Ë)(b:s.L=[])(e:∃g v,P.funcs[s.f]?=À g/\(Ĵ g s.t).run P ((World.tp u xQ i))=İ v ((World.tp u xQ i))/\vQ v ((World.tp u xQ i))):pQ P kU s u:=by
 obtain⟨f,t,k,z,L⟩:=s;simp only at c b;subst c b;obtain⟨g,v,p,q,r⟩:=e;refine .jK (v:=v) p (λh d=> ?_) ?_
 .obtain⟨n,w,c⟩:=(Pl).2 u xQ i;obtain⟨b,e⟩:=c _ _ q;have x:n=0:=by
   have:((World.tp u xQ i)).drawn=((World.tp w xQ<|i+n)).drawn:=by rw[<-b]
   simp only[World.tp]at this;omega
  subst x;have y:(World.tp w h d)=(World.tp u h d):=by
   have a:((World.tp u xQ i)).heap=((World.tp w xQ<|i+0)).heap:=by rw[<-b]
   have j:((World.tp u xQ i)).os=((World.tp w xQ<|i+0)).os:=by rw[<-b]
   have l:((World.tp u xQ i)).output=((World.tp w xQ<|i+0)).output:=by rw[<-b]
   simp only[World.tp]at a j l|-;rw[a,j,l]
  have:=e h d (λa j=>by omega);rwa[show d+0=d from rfl,y]at this
 .have:=m v _ u.tape u.drawn<|o v _ r;exact this
structure KI where
 s:St
 u:È
 D:Nat
 T:aE
 n:Nat
structure KJ(P:Ø)(GL:Nat->Prop)(e9:ã->Prop)(kU:Ã->È->Prop)(s0:St)(u0:È)(x:KI):Prop where
 ok:Ok P GL e9 x.s
 aeQ:qD x.u
 aeR:¬pQ P kU x.s x.u
 nj:∀T',(∀i,i<x.D->T' i=x.T i)->dO P x.n (LM s0<|(World.tp u0 T' 0))=Ś (LM x.s<|(World.tp x.u T' x.D))
def WM{m:cy}{s:St}{N:Nat}(a:dO P n m=Ś (LM s u))(e:mM P vQ N m):∃k,N=n+k/\mM P vQ k (LM s u):=by
 by_cases f:n<=N
 .obtain⟨k,rfl⟩:=ŏ f;refine⟨k,U,?_⟩;let⟨g,v,c,b,d⟩:=e;rw[eb,a]at b;exact⟨g,v,c,b,d⟩
 .obtain⟨k,rfl⟩:=Nat.exists_eq_add_of_lt<|Nat.lt_of_not_le f;let⟨g,v,c,b,d,_⟩:=e;rw[show N+k+1=N+(k+1) by omega,eb,b]at a;simp only[dO,step_leave_returned d]at a;cases k with
  |zero=>
   simp only[dO,Stepped.next.injEq]at a;have:=(WK a).2.1;simp[fx]at this
  |succ k=>
   simp only[dO,(KH (P:=P) (fr:=pR) (cs:=[]) (w:=c) (es:=#[])<|by simp[G,Ý,Î,pR];exact⟨U,U⟩)]at a;cases a
def Pn(g:o6 P GL e9)(hF:tL P e9)(C:wP kU)(G:∀v u,vQ v u->j5 u)(H:∀v u,vQ v u->kU v u){j:St}(I:∀T,∃n,mM P vQ n<|LM j<|(World.tp w T 0)){x:KI}(J:KJ P GL e9 kU j w x): ∃y:KI,KJ P GL e9 kU j w y/\y.n=x.n+1/\x.D<=y.D/\∀i,i<x.D->y.T i=x.T i:=by
 let⟨s,u,D,T,n⟩:=x;let⟨ok,pend,l,q⟩:=J;simp only at ok pend l q;have K:∃y d,∀a b,LS P s ((World.tp u y d)) a b->El u b->¬pQ P kU a b:=by
  refine Classical.byContradiction λo=>l ?_;have c:∀y d,∃p:St×World,LS P s ((World.tp u y d)) p.1 p.2/\El u p.2/\pQ P kU p.1 p.2:=by intro y d;refine Classical.byContradiction λe=>o ⟨y,d,λa b r t z=>e ⟨(a,b),r,t,z⟩⟩
  exact .jv (λy d=>(Classical.choose<|c y d).1) (λy d=>(Classical.choose<|c y d).2) (λy d=>(Classical.choose_spec<|c y d).1) (λy d=>(Classical.choose_spec<|c y d).2.1) λy d=>(Classical.choose_spec<|c y d).2.2
 let⟨y,d,L⟩:=K;let p:aE:=λi=>if i<D then T i else y (d+(i-D))
 have B:∀i,i<D->p i=T i:=λi h=>if_pos h;have M:=λi=>by show(if D+i<D then T (D+i)else y (d+(D+i-D)))=y (d+i);rw[if_neg Z,show D+i-D=i by omega]
 let⟨N,O⟩:=I p;let⟨k,_,S⟩:=WM (q p B) O;have e:qD ((World.tp u p D)):=pend;rcases S.I g hF ok e with⟨_,r,t,z⟩|⟨m,a,b,_,f,V⟩
 .exact absurd (WL C H r t z) l
 .obtain⟨c,v,rfl,E⟩:=f.aeO ok.r;have W:¬pQ P kU a v:=λX=>L a _ (E y d λi _=>(M i).symm) (λi o _ F=>(mM.gS g hF G m (f.Pm g ok) ((f.kd ok.r e).r e) V) i o F)<|X.aeP C y<|d+c;refine⟨⟨a,v,D+c,p,n+1⟩,⟨f.Pm g ok,(f.kd ok.r e).r e,W,λo F=> ?_⟩,U,fj,B⟩;rw[eb,(q o λi h=>(F i<|by simp only;omega).trans<|B i h)];simp only[dO,(E o D λi h=>F (D+i)<|by simp only;omega).vo]
def aeS(b:o6 P GL e9)(hF:tL P e9)(d:wP kU){Q:Ã->È->Prop}(l:∀v u,Q v u->j5 u)(f:∀v u,Q v u->kU v u){a:St}(ok:Ok P GL e9 a)(r:qD w)(g:∀T,∃n,mM P Q n<|LM a<|(World.tp w T 0)):pQ P kU a w:=by
 refine Classical.byContradiction λs=> ?_;have t:KJ P GL e9 kU a w ⟨a,w,0,λ_ _=>0,0⟩:=⟨ok,r,s,λK _=>rfl⟩;let F:Nat->{x:KI//KJ P GL e9 kU a w x}:=λk=>Nat.rec ⟨_,t⟩ (λ_ x=>⟨Classical.choose<|Pn b hF d l f g x.2,(Classical.choose_spec<|Pn b hF d l f g x.2).1⟩) k
 have p:=λk=>(Classical.choose_spec<|Pn b hF d l f g (F k).2).2;have y:∀k,(F k).1.n=k:=by
  intro k
  induction k with
  |zero=>rfl
  |succ k c=>rw[(p k).1,c]
 have q:∀j k,(F j).1.D<=(F<|j+k).1.D/\∀i,i<(F j).1.D->(F<|j+k).1.T i=(F j).1.T i:=by
  intro j k
  induction k with
  |zero=>exact⟨á _,λ_ _=>rfl⟩
  |succ k c=>
   have:=(p<|j+k).2;exact⟨ö c.1 this.1,λi e=>(this.2 i<|Ô e c.1).trans<|c.2 i e⟩
 have z:∀j k i,i<(F j).1.D->i<(F k).1.D->(F j).1.T i=(F k).1.T i:=by
  intro j k i m o;rcases Nat.le_total j k with h|h
  .obtain⟨c,rfl⟩:=ŏ h;exact((q j c).2 i m).symm
  .obtain⟨c,rfl⟩:=ŏ h;exact(q k c).2 i o
 let T:aE:=λi=>open Classical in if h:∃k,i<(F k).1.D then(F<|Classical.choose h).1.T i else λ_=>0
 have B:∀k i,i<(F k).1.D->T i=(F k).1.T i:=by intro k i e;have c:∃k,i<(F k).1.D:=⟨k,e⟩;show(open Classical in if h:∃k,i<(F k).1.D then(F<|Classical.choose h).1.T i else λ_=>0)=_;rw[dif_pos c];exact z _ _ i (Classical.choose_spec c) e
 let⟨N,C⟩:=g T;have c:=(F N).2.nj T<|B N;rw[y N]at c;let⟨k,e,o⟩:=WM c C;have E:k=0:=Z
 subst E;have G:qD ((World.tp (F N).1.u T<|(F N).1.D)):=(F N).2.aeQ;rcases o.I b hF (F N).2.ok G with⟨_,H,I,J⟩|⟨m,_,_,e,_⟩
 .exact(F N).2.aeR<|WL d f H I J
 .cases e
end
section
variable{m:ã->Prop}
def Po(f:ã)(b:Func)(c:aO)(a:Array Ã):St:=⟨f,a++Ŋ (b.ntmps-a.size) Ŏ,[ě c],Â,[]⟩
def WN(a:Array Ã)(b:P.funcs[F]?=À s)(d:s.body=À wX):ec P F a .normal=(Po F s wX a).I:=da a b d
def aeT(b:o6 P X m)(hF:tL P m)(l:wP vQ)(g:m F)(j:P.funcs[F]?=À s)(k:s.body=À wX)(o:j5 u) (p:∀T,Calls P F d ((World.tp u T 0)) fun|.returned v,u'=>vQ v u'/\j5 u'|_,_=>False):pQ P vQ (Po F s wX d) u:=by
 refine aeS b hF l (Q:=λv u=>vQ v u/\j5 u) (λv u h=>h.2) (λv u h=>h.1) ⟨⟨λi q=> ?_,λx h=>by cases h⟩,g,λx h=>by cases h⟩ o.qD λT=> ?_
 .rw[Γ.1 q];exact .rA (b F g s wX j k)
 .let⟨e,r,t,a,w,_,y⟩:=p T [pR];cases e with
  |returned v=>
   let⟨n,z⟩:=w;refine⟨n,t,v,r,?_,y,a⟩;rw[<-z,WN d j k];rfl
  |panicked n=>exact a.elim
  |outgrown=>exact a.elim
def aeU(r:nO P)(b:o6 P X m)(hF:tL P m)(t:wP vQ)(n:m F)(e:P.funcs[F]?=À s)(h:s.body=À wX)(y:j5 u) (z:∀T,Calls P F d ((World.tp u T 0)) fun|.returned v,u'=>vQ v u'/\j5 u'|_,_=>False) {Y:fp} {a o:Nat->Prop} (B:Y.C=P.globals.size) (C:∀g,X g->Y g g) (p:fQ Y d q) (D:rB Y a u w) (E:∀j,a j->j<w.heap.size) (H:∀i j,Y i j->a j->o j) (main:Bool) (k:ģ) (l:List ģ): vl P main o (G9 Y a vQ k l) (fq Y a) (G (ec P F q .normal)<|k::l) w:=by
 have:=(aeT b hF t n e h y z).Pk (main:=main) r b (Y:=Y) (Ha:=Y) (s':=Po F s wX q) (fp.M _) B C ⟨U,?_,U,U,.oZ⟩ ⟨λi I=> ?_,λx J=>by cases J⟩ D E H k l
 .rw[WN q e h];exact this
 .show fQ Y (d++_) (q++_);rw[p.r];exact p.G<|WE _
 .rw[Γ.1 I];exact .rA (b F n s wX e h)
def yw:Ã->Bool
 |ō _|ē _ _|Ĥ _|Ù í|ø í _ _|cz|bD|eN í|.map í=>Ë
 |_=>Â
def Pp:Ã->Bool
 |.agg a=>a.all yw
 |ζ a=>a.all yw
 |v=>yw v
def Hb(h:yw v=Ë):jP v:=by
 cases v with
 |bool b=>exact .mo b
 |int k n=>exact .iF k n
 |string s=>exact .kE s
 |pointer p=>cases p with
  |none=>exact .lL
  |some a=>cases h
 |slice p n c=>cases p with
  |none=>exact .nK n c
  |some a=>cases h
 |nilFunc=>exact .uZ
 |nilIface=>exact .u9
 |chan p=>cases p with
  |none=>exact .va
  |some a=>cases h
 |map p=>cases p with
  |none=>exact .vd
  |some a=>cases h
 |_=>cases h
def aeV(h:Pp v=Ë):jP v:=by
 cases v with
 |agg b=>exact .oy λi a=>Hb<|(ĵ.1 h) i a
 |tuple b=>exact .nL λi a=>Hb<|(ĵ.1 h) i a
 |_=>exact Hb h
def wR(X:Nat->Bool):Ú->Bool
 |.tmp _=>Ë
 |eC v=>Pp v
 |eR g=>X g
 |bq _=>Ë
def KL{g:Nat->Bool}(h:wR g qQ=Ë):mq (λj=>g j=Ë) qQ:=by
 cases qQ with
 |tmp t=>exact .Wx t
 |const v=>exact .Wy (aeV h)
 |global j=>exact .Wz h
 |func f=>exact .WA f
def Pq(P:Ø)(t:Á):Bool:=match P.underlying t with
 |some .bool=>Ë
 |some (ι _)=>Ë
 |some ĥ=>Ë
 |_=>Â
def aeW(h:Pq P t=Ë):tD P t:=by
 unfold Pq at h;split at h
 .rename_i e;exact Æ e
 .rename_i k e;exact Í<|Æ ⟨k,e⟩
 .rename_i e;exact Í<|Í e
 .cases h
def KM:Ú->Bool
 |eC (Ù í)=>Ë
 |_=>Â
def WO(h:KM qQ=Ë):ng (y.eval qQ):=by
 unfold KM at h;split at h
 .trivial
 .cases h
def Pr(P:Ø)(t:Á)(x y:Ú):Bool:=Pq P t||((match P.underlying t with|some (ó _)=>Ë|_=>Â)&&(KM x||KM y))
def aeX{a:bY}{y:Ú}(h:Pr P t qQ y=Ë):tD P t\/((∃e,P.underlying t=À (ó e))/\(ng (a.eval qQ)\/ng (a.eval y))):=by
 unfold Pr at h;rcases ŀ.1 h with h|h
 .exact Æ<|aeW h
 .let⟨b,c⟩:=Þ.1 h;refine Í ⟨?_,(ŀ.1 c).imp WO WO⟩;split at b
  .rename_i e d;exact⟨e,d⟩
  .cases b
def Pt(P:Ø)(s d:Á):Bool:=match P.underlying s,P.underlying d with
 |some (ι _),À (ι _)=>Ë
 |some ĥ,À ĥ=>Ë
 |_,_=>Â
def aeY(h:Pt P e t=Ë):(∃k a,P.underlying e=À (ι k)/\P.underlying t=À (ι a))\/(P.underlying e=À ĥ/\P.underlying t=À ĥ):=by
 unfold Pt at h;split at h
 .rename_i k a b c;exact Æ ⟨k,a,b,c⟩
 .rename_i b c;exact Í ⟨b,c⟩
 .cases h
def Pu(P:Ø)(s:Á)(n:Nat):Bool:=match P.underlying s with
 |some (dG fields)=>match fields[n]? with
  |some f=>match P.info? f.type with
   |some i=>i.size !=0
   |none=>Â
  |none=>Â
 |_=>Â
def aeZ(h:Pu P e n=Ë):∀a f i,P.underlying e=À (dG a)->a[n]?=À f->P.info? f.type=À i->i.size≠0:=by intro a f i b c d;simp only[Pu,b,c,d]at h;simpa using h
def Pv(P:Ø)(m:ã->Bool)(f:ã):Bool:=m f&&(match P.funcs[f]? with
 |some a=> !(a.name== "runtime.NumGoroutine")&&!a.body.isNone
 |none=>Â)
def WQ{g:ã->Bool}(h:Pv P g F=Ë):g F=Ë/\∃a,P.funcs[F]?=À a/\(a.name== "runtime.NumGoroutine")=Â/\a.body.isNone=Â:=by
 let⟨c,b⟩:=Þ.1 h;refine⟨c,?_⟩;split at b
 .rename_i a e;let⟨d,i⟩:=Þ.1 b;exact⟨a,e,by simpa using d,by simpa using i⟩
 .cases b
def WR(P:Ø):List Á->Bool
 |[_,t1]=>(match P.underlying t1 with|some (dH _)=>Ë|some ĥ=>Ë|_=>Â)
 |_=>Â
def WS(P:Ø)(m:ã->Bool)(b:Callee)(a:List Ú)(c:List Á):Bool:=match b with
 |ĩ .len=>a.length==1
 |ĩ .cap=>a.length==1
 |ĩ .copy=>a.length==2
 |ĩ .append=>a.length==2&&WR P c
 |cM (bq f)=>Pv P m f
 |_=>Â
def Eu(P:Ø)(m:ã->Bool):Op->Bool
 |.move _|.assign _|.pick _ _ _|.alloc _|.box _ _|.build _ _|dV _ _ _|.load _ _|.store _ _ _|eV _|.unOp _ _ _|ez _ _ _|.slice _ _ _ _ _|.field _ _ _|eB _ _ _|.index _ _ _|.extract _ _=>Ë
 |ey c t x y _=>if c==aV||c==bm then Pr P t x y else Ë
 |bn s d _=>Pt P s d
 |eA s _ n=>Pu P s n
 |ae c=>WS P m c.callee c.args.toList c.argTypes.toList
 |_=>Â
def KN{a:Array Ú}(h:(a.toList.length==1)=Ë):∃x,a=#[x]:=by
 let⟨l⟩:=a;match l,h with
 |[x],_=>exact⟨x,U⟩
def Px{a:Array Ú}(h:(a.toList.length==2)=Ë):∃x y,a=#[x,y]:=by
 let⟨l⟩:=a;match l,h with
 |[x,y],_=>exact⟨x,y,U⟩
def ae0{g:ã->Bool}{k:Op}(h:Eu P g k=Ë)(a:bY):j4 P a.eval k:=by
 cases k with
 |binOp o t x y r=>
  refine .En o t x y r λe=> ?_;have:(o==aV||o==bm)=Ë:=by rcases e with rfl|rfl<;>rfl
  simp only[Eu,if_pos this]at h;exact aeX h
 |convert s d x=>exact .OV _ _ _ (aeY h)
 |fieldAddr s x n=>exact .OX _ _ _ (aeZ h)
 |call c=>
  let⟨z,B,j⟩:=c;simp only[Eu]at h;unfold WS at h;split at h
  .obtain⟨x,rfl⟩:=KN h;exact .GV x j
  .obtain⟨x,rfl⟩:=KN h;exact .GX x j
  .obtain⟨x,y,rfl⟩:=Px h;exact .GY x y j
  .let⟨q,f⟩:=Þ.1 h;obtain⟨x,y,rfl⟩:=Px q;let⟨l⟩:=j;match l,f with
   |[t0,t1],f=>
    refine .GZ x y t0 t1 ?_;simp only[WR]at f;split at f
    .rename_i e m;exact Æ ⟨e,m⟩
    .rename_i m;exact Í m
    .cases f
  .exact .jI _ _ _ U (WQ h).2
  .cases h
 |move x=>exact .Ax x
 |assign x=>exact .GR x
 |pick c a b=>exact .wD c a b
 |alloc t=>exact .gE t
 |box t x=>exact .OQ t x
 |build t p=>exact .OS t p
 |buildSlice t n p=>exact .OT t n p
 |load t a=>exact .gy t a
 |store t a x=>exact .jb t a x
 |nilCheck x=>exact .GU x
 |unOp o t x=>exact .OU o t x
 |makeSlice t l c=>exact .OW t l c
 |slice t x u v w=>exact .kO t x u v w
 |field t x n=>exact .OY t x n
 |indexAddr t x i=>exact .OZ t x i
 |index t x i=>exact .O0 t x i
 |extract x n=>exact .GD x n
 |_=>simp[Eu]at h
def Py(P:Ø)(X:Nat->Bool)(m:ã->Bool)(o:aR):Bool:=Eu P m o.op&&o.op.operands.all (wR X)
def ae1{X:Nat->Prop}{m:ã->Prop}{o:aR}(op:∀a:bY,j4 P a.eval o.op)(opd:∀x∈o.op.operands,mq X x)(calls:∀f args ts,o.op=ae {callee:=cM<|bq f,args:=args,argTypes:=ts}->m f):mK P X m o where
 mL hz hb hG ht hW hl x u' hr hc:=(VA hz hW.C hb (λf=>rfl) (op _) λx hx=>wO hG ht<|opd x hx).gk hW hl hr hc #[];r a:=aeC<|op a;I a u n u' hr:=aeM (op a) hr;C a u f c u' hr:=let⟨as,ts,e⟩:=aeH (op a) hr;calls f as ts e
def ae2{g:Nat->Bool}{k:ã->Bool}(h:Py P g k o=Ë):mK P (λj=>g j=Ë) (λf=>k f=Ë) o:=by
 let⟨j,b⟩:=Þ.1 h;refine ae1 (λa=>ae0 j a) (λx a=>KL ?_) λf x i e=> ?_
 .obtain⟨i,x,rfl⟩:=ś.1 a;exact ĵ.1 b i x
 .rw[e]at j;exact(WQ<|show Pv P k f=Ë from j).1
end
section
variable{Y:fp}{g:ã->Prop}{α:Type}
def Ev(m:(Ú->Ã)->Ğ Ã)(e:∀b,î b o=m b>>=λv=>pure<|ñ v) (i:∀(Y:fp) (b h:Ú->Ã),nO P->Bi Y->Y.C=P.globals.size->(∀x∈o.op.operands,fl Y (b x)<|h x)->kF P fl Y (m b) (m h)) (j:∀b,fD P<|m b) (k:∀x∈o.op.operands,mq X x):mK P X g o where
 mL hz hb hG ht hW hl x u' hr hc:=by rw[e]at hr|-;exact(Vv<|i _ _ _ hz hW.C hb λx d=>wO hG ht<|k x d).gk hW hl hr hc #[]
 r a:=by rw[e];exact lP<|j _
 I a u n u' hr:=by
  rw[e,Å]at hr;cases d:(m a.eval).run P u with
  |ok v w=>rw[d]at hr;cases hr;exact Æ ⟨v,U⟩
  |halt z w=>rw[d]at hr;cases hr
 C a u f c u' hr:=by
  rw[e,Å]at hr;cases d:(m a.eval).run P u with
  |ok v w=>rw[d]at hr;cases hr
  |halt z w=>rw[d]at hr;cases hr
def ae3(a:o.op=dc t qQ)(b:∀y∈o.op.operands,mq X y):mK P X g o:=by
 refine Ev (λd=>Ų t<|d qQ) (λd=> ?_) (λY d c _ _ _ h=> .gp ?_) (λd=> ?_) b
 .unfold î;rw[a]
 .unfold Ų;apply fF (jc t);rintro e d _ c ⟨rfl,_⟩;split
  .exact .fO
  .exact .fE (.yk t ((h qQ<|by rw[a];simp[Ì]).fN c))
 .unfold Ų;repeat' (first|(with_reducible first|exact gA _|exact jd _|exact rv _|refine gl ?_ λ_=> ?_)|split)
def ae4(c:Sys):oA P (sys c):=by
 intro u hu;refine⟨λx u' e=> ?_,λz u' e=>by cases e⟩;have:u'.heap=u.heap:=by
  simp only[sys,ä]at e;cases e;unfold World.sys;have ask:∀{γ:Type} (b:Ask γ) (w:È),(w.ask b).2.heap=w.heap:=by
   intro γ b
   induction b with
   |done a=>intro w;rfl
   |ask what range k ih=>
    intro w;simp only[World.ask];split
    .exact ih 0 w
    .exact ih _ _
  have:=ask (Kernel.perform c u.os) u;split
  .rfl
  .rename_i r os w lk heq;rwa[heq]at this
 exact⟨λh i c e he=>h i c e (by rwa[<-this]),λi o he ho=>⟨o,by rwa[this],ho⟩⟩
def WT(x:Ã):∀u y b,(Χ x).run P u≠İ y b:=by
 unfold Χ;cases x<;>simp only[]<;>first|exact OO|skip
 refine yq λa=> ?_;split
 .exact OP
 .exact rp _
def ae5(x:Ã):fD P (Χ x):=by
 refine⟨?_,O2<|WT x⟩;unfold Χ;cases x<;>simp only[]<;>first|exact G2 U|skip
 refine Kr ?_ λa=> ?_
 .unfold Instr.panicnil;refine Kr (ae4 _) λr=> ?_;cases r<;>first|exact G2 U|skip
  exact Kr VC λ_=>VB _
 .split
  .exact G2 U
  .exact(wE _).1
def ae6(b:o.op=.panic qQ)(c:∀y∈o.op.operands,mq X y):mK P X g o:=by refine Ev (λa=>Χ<|a qQ) (λa=> ?_) (λY a d _ _ _ h=> .gp (.oz (WT _))) (λa=>ae5 _) c;unfold î;rw[b]
def ae7(c:fl Y x v)(d:fl Y z jQ):fG P fl Y (Ŀ x z) (Ŀ v jQ):=by
 cases c<;>cases d<;>first|exact .fO|exact .fE (.iF _ _)|skip
 refine fF (V:=fl) (.fE (.mo _)) λf a g _ e=> ?_;apply fF (Vh e);rintro h b _ _ rfl;exact .fE (.kE _)
def ae8(x y:Ã):fD P (Ŀ x y):=by unfold Ŀ;repeat' (first|(with_reducible first|exact gA _|exact jd _|exact sI _|exact Kx _|exact Pj _ _ _|refine gl ?_ (λ_=> ?_)|refine nh _ ?_)|split|rfl)
def ae9:∀{l b:List Ã} {Y:fp} {x c:Ã},fl Y x c->fQ Y l.toArray b.toArray->fG P fl Y (l.foldlM Ŀ x) (b.foldlM Ŀ c):=by
 intro l
 induction l with
 |nil=>
  intro b Y x c d a;have:b=[]:=by have:=a.r;simp at this;exact Č this.symm
  subst this;rw[ah,ah];exact .fE d
 |cons v l e=>
  intro b Y x c d a;match b,a with
  |[],a=>have:=a.r;simp at this
  |v'::b,a=>
   rw[ν,ν];refine fF (ae7 d (by have:=a.C 0 fj fj;simpa using this)) ?_;intro k y m f g;refine e g ⟨by have:=a.r;simpa using this,λj h i=> ?_⟩;have:=a.C (j+1) (by simp at h|-;omega) (by simp at i|-;omega);exact(by simpa using this:fl Y _ _).fN f
def WU:∀(l:List Ã) (x:Ã),fD P<|l.foldlM Ŀ x
 |[],x=>by rw[ah];exact gA _
 |v::l,x=>by rw[ν];exact gl (ae8 _ _) λy=>WU l y
def afa(a:Array Á)(t:Á)(h:fQ Y d q):fG P fl Y (ŗ a t d) (ŗ a t q):=by
 let⟨l⟩:=d;let⟨b⟩:=q;unfold ŗ;match l,b,h with
 |[],_,_=>exact .fO
 |v::l,[],h=>have:=h.r;simp at this
 |v::l,v'::b,h=>
  refine ae9 (by have:=h.C 0 fj fj;simpa using this) ⟨by have:=h.r;simpa using this,λj e f=> ?_⟩;have:=h.C (j+1) (by simp at e|-;omega) (by simp at f|-;omega);exact(by simpa using this:fl Y _ _)
def afb(a:Array Á)(t:Á)(c:Array Ã):fD P (ŗ a t c):=by
 let⟨l⟩:=c;unfold ŗ;match l with
 |[]=>exact jd _
 |v::l=>exact WU l v
def afc{b:Array Ú}{c:Array Á}(d:o.op=ae {callee:=ĩ .min,args:=b,argTypes:=c})(e:∀y∈o.op.operands,mq X y):mK P X g o:=by refine Ev (λa=>ŗ c o.type<|b.map a) (λa=> ?_) (λY a i _ _ _ h=> .gp (afa _ _<|Vy b λz f=>h z<|by rw[d];simp[Ì,ü,f])) (λa=>afb _ _ _) e;unfold î;rw[d];simp only[ā,Ę,ĝ,pure_bind]
def afd{β:Type}{f g:Ã->β->Ğ (ForInStep β)}(k:∀a v e b,Y.r a->fl a v e->fG P jq a (f v b) (g e b)):∀{l d:List Ã} {a:fp} (b:β),Y.r a->fQ a l.toArray d.toArray->fG P jq a (forIn l b f) (forIn d b g):=by
 intro l
 induction l with
 |nil=>
  intro d a b _ c;have:d=[]:=by have:=c.r;simp at this;exact Č this.symm
  subst this;rw[aC,aC];exact .fE U
 |cons v l m=>
  intro d a b h c;match d,c with
  |[],c=>have:=c.r;simp at this
  |e::d,c=>
   rw[ai,ai];refine fF (k a v e b h (by have:=c.C 0 fj fj;simpa using this)) ?_;rintro p r _ i rfl;cases r with
   |done b=>exact .fE U
   |yield b=>
    apply m b (fp.I h i);refine⟨by have:=c.r;simpa using this,λj n o=> ?_⟩;have:=c.C (j+1) (by simp at n|-;omega) (by simp at o|-;omega);exact(by simpa using this:fl a _ _).fN i
def WV{β:Type}{f:Ã->β->Ğ (ForInStep β)}(a:∀v b,fD P<|f v b):∀(l:List Ã) (b:β),fD P<|forIn l b f
 |[],b=>by rw[aC];exact gA _
 |v::l,b=>by
  rw[ai];refine gl (a v b) λr=> ?_;cases r with
  |done b=>exact gA _
  |yield b=>exact WV a l b
def afe(d:fl Y x v):fG P fl Y (ć x) (ć v):=by
 cases d<;>first|exact .fO|exact .fE (.kE _)|skip
 rename_i h n c;unfold ć;apply fF (OG h n);intro e j l m f;simp only[<-aZ];refine fF (afd (Y:=e) ?_ _ (fp.M _) f) ?_
 .intro g a o b _ i;cases i<;>first|exact .fO|skip
  rename_i k n;cases k<;>first|exact .fO|exact .fE U
 .rintro g s _ _ rfl;exact .fE (.kE _)
def aff(x:Ã):fD P (ć x):=by
 unfold ć;split
 .exact gA _
 .refine gl (O8 _ _) λa=> ?_;simp only[<-aZ];refine gl (WV (λv b=> ?_) _ _) λ_=>gA _;split
  .exact gA _
  .exact jd _
 .exact jd _
def afg(i:o.op=bn t T qQ)(j:P.underlying t=À (dH e))(k:P.underlying T=À ĥ)(l:P.underlying e=À (ι .u8))(n:∀y∈o.op.operands,mq X y):mK P X g o:=by
 refine Ev (λa=>Ŧ t T<|a qQ) (λa=> ?_) (λY a f _ _ _ h=> .gp ?_) (λa=> ?_) n
 .unfold î;rw[i]
 .unfold Ŧ;refine fF (jc t) ?_;rintro z B _ p ⟨rfl,b⟩;rw[j]at b;injection b with b;subst b;refine fF (jc T) ?_;rintro q C _ r ⟨rfl,c⟩;rw[k]at c;injection c with c;subst c;have m:=((h qQ<|by rw[i];simp[Ì]).fN p).fN r;have u:fG P fl q (ù e>>=λy=>match y with|ι .u8=>ć (a qQ)|ι .i32=>bb (a qQ)|_=>stuck "Convert: a slice of what to string?") (ù e>>=λy=>match y with|ι .u8=>ć (f qQ)|ι .i32=>bb (f qQ)|_=>stuck "Convert: a slice of what to string?"):=by
   apply fF (jc e);rintro D E _ w ⟨rfl,h⟩;rw[l]at h;injection h with h;subst h;exact afe<|m.fN w
  generalize a qQ=v at*;generalize f qQ=v' at*;cases m<;>first|exact u|exact .fO|exact .fE (.kE _)|skip
 .unfold Ŧ;refine sJ j<|sJ k ?_;generalize a qQ=v;cases v<;>first|exact sJ l (aff _)|exact Wu _|exact gA _
end
section
variable{Y:fp}{b:ã->Prop}{α:Type}
def WW(i:∀(Y:fp) (a g:bY),nO P->Bi Y->Y.C=P.globals.size->(∀x∈o.op.operands,fl Y (a.eval x)<|g.eval x)->kF P o0 Y (î a.eval o) (î g.eval o)) (j:∀a:bY,fD P<|î a.eval o) (h:∀(a:bY) (u:È) (n:χ) (d:È),(î a.eval o).run P u=İ n d->∃v,n=ñ v) (k:∀x∈o.op.operands,mq X x):mK P X b o where
 mL hz hb hG ht hW hl x d hr hc:=(i _ ⟨_,[]⟩ ⟨_,[]⟩ hz hW.C hb λx e=>wO hG ht<|k x e).gk hW hl hr hc #[];r a:=j a;I a u n d hr:=Æ<|h a u n d hr;C a u f c d hr:=by let⟨v,e⟩:=h a u _ d hr;cases e
def afh{e:Array Ã->Ğ Ã}{t:Array Á}(g:o.op=ae {callee:=cM<|bq F,args:=#[qQ],argTypes:=t})(i:P.funcs[F]?=À s)(j:(s.name== "runtime.NumGoroutine")=Â)(k:s.body.isNone=Ë)(l:Extern.findNext s=í)(m:Extern.find s=À e) (B:∀(Y:fp) (v q:Ã),fl Y v q->fG P fl Y (e #[v]) (e #[q])) (C:∀v,fD P<|e #[v]) (D:∀y∈o.op.operands,mq X y):mK P X b o:=by
 have c:∀a:bY,î a.eval o=Ń F #[a.eval qQ]:=by intro a;unfold î;rw[g];simp only[ā,ê,Ľ,Ę,pure_bind,ę,Ě,Û,æ,é]
 have r:∀(v:Ã) (u:È),(Ń F #[v]).run P u=(ew (.extern F)>>=λ_=>e #[v]>>=λy=>pure (ñ y):Ğ χ).run P u:=by intro v u;unfold Ń;rw[Å,ÿ];simp only[Ê,i,j,k,l,m,Ç,if_false,if_true]
 refine WW (λY a w _ _ _ h=> ?_) (λa=> ?_) (λa u n E d=> ?_) D
 .rw[c,c];unfold Ń;refine .gp (fF rm ?_);rintro I p J w ⟨z,G⟩;rw[z,G];simp only[i,j,k,l,m,Ç,if_false,if_true];apply fF (V:=jq) (.Eg (Í ⟨F,U⟩) (.fE U));exact λK _ _ H _=>mJ<|B _ _ _<|((h qQ<|by rw[g];simp[Ì,ü]).fN w).fN H
 .rw[c];exact Kt (r _)<|gl (G3 _) λ_=>lP<|C _
 .rw[c,r,Å]at d;simp only[ew,ä,Ê]at d;have:ä P (e #[a.eval qQ]>>=λy=>pure (ñ y):Ğ χ) u=İ n E:=d;rw[Å]at this;cases h:(e #[a.eval qQ]).run P u with
  |ok v w=>rw[h]at this;cases this;exact⟨v,U⟩
  |halt z w=>rw[h]at this;cases this
def afi(x a:Ã)(h:fl Y x a):fG P fl Y (Ő #[x]) (Ő #[a]):=.fE h
def afj(x:Ã):fD P (Ő #[x]):=gA _
def WX:∀(n t:Nat) {c a:Array Ã},fQ Y c a->fQ Y (ř n t c) (ř n t a)
 |0,_,_,_,h=>h
 |n+1,t,_,_,h=>WX n (t/256)<|h.U6<|.iF _ _
def afk(b:Array Á)(t:Á)(v c:Ã)(h:fl Y v c):fG P fl Y (Ē b #[t] #[v]) (Ē b #[t] #[c]):=by
 cases h<;>first|exact .fO|skip
 rename_i k n;cases k<;>first|exact .fO|skip
 refine fF (jc t) ?_;rintro j d _ l ⟨rfl,_⟩;cases d<;>first|exact .fO|skip
 rename_i e _;simp only[];split
 .exact .oz (vf<|rp _)
 .apply sF (.Ar λn=> .fE U);intro m f _;apply sF (ON _);intro o _ _;apply sF (.Ar λn=> .fE U);intro p g _;apply fF (GJ e<|WX f g<|fQ.N _);exact λq a r _ i=> .fE (.kO i _ _)
def afl(a:Array Á)(t:Á)(v:Ã):fD P (Ē a #[t] #[v]):=by
 cases v<;>first|exact jd _|skip
 rename_i k n;cases k<;>first|exact jd _|skip
 refine gl (rv t) λd=> ?_;cases d<;>first|exact jd _|skip
 repeat' (first|(with_reducible first|exact gA _|exact jd _|exact sI _|exact G5 _ _|exact rv _|exact wE _|exact O9 _|refine gl ?_ λ_=> ?_)|split)
def Hc(t:Á)(a:Ü)(c:Nat):Ğ Ã:=
 if c≠0 then pure (Ù<|À a)else do
  if(<-cJ a.block).isSome then pure (Ù<|À a)
  else pure (Ù<|À ⟨<-eD (.view a<|<-Ş t),0,í⟩)
def afm(g:Array Á)(t:Á)(j:fl Y x v):kF P fl Y (Ģ g t #[x]) (Ģ g t #[v]):=by
 cases j<;>first|exact .gp .fO|exact .gp (.fE .lL)|skip
 rename_i a f h n c;show kF P fl Y (Hc t a c) (Hc t f c);unfold Hc;by_cases i:c≠0
 .simp only[if_pos i];exact .gp (.fE (.jV h))
 .simp only[if_neg i];apply kT (Kn h.1);rintro l b m o ⟨rfl,rfl⟩;simp only[Option.isSome_none,Ç,if_false];refine kT (V0:=λ_ a f=>a=f) ?_ ?_
  .unfold Ş;refine fF (jc t) ?_;rintro k d _ p ⟨rfl,_⟩;cases d<;>first|exact .fO|exact .fE U
  .rintro k e _ _ rfl;exact .Ej trivial
def afn(b:Array Á)(t:Á)(x:Ã):fD P (Ģ b t #[x]):=by
 cases x<;>first|exact jd _|skip
 rename_i p n c;cases p with
 |none=>exact gA _
 |some a=>
  show fD P (Hc t a c);unfold Hc;repeat' (first|(with_reducible first|exact gA _|exact jd _|exact Ku _|exact Ky _|refine gl ?_ (λ_=> ?_)|refine Ks _ ?_)|split|(intro _ _ h;cases h;done))
def afo{c:Array Á}(d:o.op=ae {callee:=ĩ bL,args:=#[qQ],argTypes:=c})(e:∀y∈o.op.operands,mq X y):mK P X b o:=by refine Ev (λa=>Ģ c o.type #[a qQ]) (λa=> ?_) (λY a f _ _ _ h=>afm _ _<|h qQ<|by rw[d];simp[Ì,ü]) (λa=>afn _ _ _) e;unfold î;rw[d];simp only[ā,Ę,ĝ,pure_bind,Û,æ,é]
end
section
variable{Y:fp}{f:Nat->Prop}{g:ã->Prop}{α:Type}
def WY(h:gY Y a p):fG P gY Y (Ω a) (Ω p):=by unfold Ω;apply fF (Kn h.1);rintro c x d b ⟨rfl,rfl⟩;exact .fE (h.r b)
def afp{r:Nat}(h:Y r i):fG P (λ_ c q=>∃n a,c=À n/\q=À a/\n<=a) Y (dP r) (dP i):=.ve h λ_ n a c=> .fE ⟨n,a,U,U,c.elim (λq=>by omega) λq=>q.1⟩
def WZ(h:gY Y a p)(t:Á)(n:Nat):fG P (λ_ b e=>b=Ë->e=Ë) Y (ă a t n) (ă p t n):=by unfold ă;apply fF rm;rintro i b j c ⟨d,f⟩;rw[d,f];refine .ve (c.1 _ _ h.1) λe m k g=> ?_;rw[h.2.1];exact .fE λq=>Vp (ax<|g.elim (λq=>by omega) λq=>q.1) q
def afq(a:Ü):fD P (Ω a):=by unfold Ω;repeat' (first|(with_reducible first|exact gA _|exact qE|exact tE _|exact Ky _|refine gl ?_ (λ_=> ?_)|refine nh _ ?_)|split|rfl)
def afr(r:Nat):fD P (dP r):=by unfold dP;repeat' (first|(with_reducible first|exact gA _|exact tE _|exact VI _|refine gl ?_ λ_=> ?_)|split)
def W0(a:Ü)(t:Á)(n:Nat):fD P (ă a t n):=by unfold ă;repeat' (first|(with_reducible first|exact gA _|exact qE|exact tE _|refine gl ?_ λ_=> ?_)|split)
def afs(l:P.underlying e=À (ó t))(m:P.underlying T=À Ĝ)(o:fl Y x v):kF P fl Y (ý e T x) (ý e T v):=by
 unfold ý;refine kT (jc e) ?_;rintro C D _ p ⟨rfl,f⟩;rw[l]at f;injection f with f;subst f;refine kT (jc T) ?_;rintro E F _ r ⟨rfl,g⟩;rw[m]at g;injection g with g;subst g;have u:=(o.fN p).fN r;cases u<;>first|exact .gp .fO|exact .gp (.fE .lL)|skip
 rename_i a G h;refine kT (WY h) ?_;intro H b k I i;refine kT (afp i.1) ?_;rintro J c K w ⟨z,L,rfl,rfl,M⟩;refine kT (na t) ?_;rintro N n _ B ⟨rfl,_⟩;rw[i.2.1,i.2.2];simp only[];by_cases j:(decide (n=0)||(decide (k.off≥z)&&k.spot.isNone))=Ë
 .rw[if_pos j];exact .Ej trivial
 .rw[if_neg j,if_neg]
  .exact .gp (.fE (.jV ((i.r w).r B)))
  .intro q;apply j;simp only[ů,ĕ,decide_eq_true_eq]at q|-;exact q.imp id λy=>⟨Z,y.2⟩
def afu{d:Á}(o:P.underlying T=À Ĝ)(q:P.underlying d=À (ó t))(r:fl Y x z):kF P fl Y (ý T d x) (ý T d z):=by
 unfold ý;refine kT (jc T) ?_;rintro H I _ w ⟨rfl,f⟩;rw[o]at f;injection f with f;subst f;refine kT (jc d) ?_;rintro J K _ y ⟨rfl,g⟩;rw[q]at g;injection g with g;subst g;have B:=(r.fN w).fN y;cases B<;>first|exact .gp .fO|exact .gp (.fE .lL)|skip
 rename_i a L h;refine kT (WY h) ?_;intro M b C N j;refine kT (na t) ?_;rintro O n _ k ⟨rfl,_⟩;refine kT (WZ (j.r k) t 1) ?_;rintro D v Q E F;have G:kF P fl D (pure<|Ù<|À b) (pure<|Ù<|À C):=.gp (.fE (.jV ((j.r k).r E)));by_cases i:(decide (n=0)||v)=Ë
 .rw[if_pos i,if_pos]
  .exact G
  .simp only[ů,decide_eq_true_eq]at i|-;exact i.imp id F
 .rw[if_neg i];refine .Ek λu x S c=> ?_;rw[Å]at c;simp only[cP,ä,Ê]at c;cases l:u.shape? b.block with
  |none=>rw[l]at c;cases c
  |some p=>
   let⟨e,m⟩:=p;rw[l]at c;simp only[Å,ÿ,Ê]at c;split at c
   .cases c
   .cases c;exact⟨u.heap.size,.view b t,á _,fj,trivial⟩
def afv(h:(P.underlying e=À (ó t)/\P.underlying T=À Ĝ)\/(P.underlying e=À Ĝ/\P.underlying T=À (ó t)))(x:Ã):fD P (ý e T x):=by
 unfold ý;rcases h with⟨b,c⟩|⟨b,c⟩<;>refine sJ b<|sJ c ?_;all_goals
  cases x<;>first|exact jd _|skip
  rename_i p;cases p with
  |none=>exact gA _
  |some a=>
   repeat' (first|(with_reducible first|exact afq _|exact afr _|exact W0 _ _ _|exact gA _|exact jd _|exact qE|exact tE _|exact tH _|refine gl ?_ (λ_=> ?_)|refine nh _ ?_|refine Ks _ ?_)|split|(intro _ _ h;cases h;done)|rfl)
def W3(l:o.op=bn e T qQ)(h:(P.underlying e=À (ó t)/\P.underlying T=À Ĝ)\/(P.underlying e=À Ĝ/\P.underlying T=À (ó t)))(m:∀y∈o.op.operands,mq X y):mK P X g o:=by
 refine Ev (λi=>Ŧ e T<|i qQ) (λi=> ?_) (λY i n _ _ _ c=> ?_) (λi=> ?_) m
 .unfold î;rw[l]
 .unfold Ŧ;refine kT (jc e) ?_;rintro r u _ p ⟨rfl,a⟩;refine kT (jc T) ?_;rintro w z _ q ⟨rfl,b⟩;have j:=((c qQ<|by rw[l];simp[Ì]).fN p).fN q;generalize i qQ=v at j;generalize n qQ=v' at j;rcases h with⟨c,f⟩|⟨c,f⟩
  .rw[c]at a;injection a with a;subst a;rw[f]at b;injection b with b;subst b;have k:=afs c f j;cases j<;>first|exact k|exact .base .halt
  .rw[c]at a;injection a with a;subst a;rw[f]at b;injection b with b;subst b;have k:=afu c f j;cases j<;>first|exact k|exact .base .halt
 .unfold Ŧ;have k:=λv=>afv h v;rcases h with⟨c,f⟩|⟨c,f⟩;all_goals
   refine sJ c<|sJ f ?_;generalize i qQ=v;cases v<;>exact k _
def afw(a:Ü)(n:Nat):oA P (de a n):=by
 intro u f;refine⟨λx b e=> ?_,λz b e=>by cases e⟩;cases e;unfold ġ;split
 .exact Kd.fT u
 .refine VD (λo d=> ?_) λo c e h=> ?_
  .cases o<;>first|exact d.elim|trivial
  .cases o<;>first|(cases h;done)|exact⟨_,_,U⟩
def afx(a:Ü)(n:Nat):fD P (de a n):=by
 refine⟨afw a n,λu T D=>⟨0,u.freeze a n,λx c e=> ?_⟩⟩;have b:∀T D,(World.tp u T D).freeze a n=World.tp (u.freeze a n) T D:=by intro T D;unfold ġ;split<;>rfl
 simp only[de,ä,b]at e;cases e;exact⟨U,λd f _=>by simp only[de,ä,b];rfl⟩
def W4:∀(n:Nat) {Y:fp} {a c:Ü} (d:ByteArray),gY Y a c->fG P jq Y (Ė a d n) (Ė c d n)
 |0,_,_,_,_,_=> .fE U
 |n+1,Y,a,c,d,h=>by
  unfold Ė;refine fF (Kj h) ?_;intro g v i e f;cases f<;>first|exact .fO|skip
  rename_i k b;cases k<;>first|exact .fO|exact W4 n _<|(h.r e).C 1
def W5:∀(n:Nat) (a:Ü) (b:ByteArray),fD P<|Ė a b n
 |0,_,_=>gA _
 |n+1,a,b=>by
  unfold Ė;refine gl (G4 _ _) λv=> ?_;split
  .exact W5 n _ _
  .exact jd _
def jE(b:Á)(a:Ü)(n:Nat):Ğ ByteArray:=do
 if<-ă a (<-Ş b) n then Ė a .empty n else unsupported (œ "String: not so many bytes at ptr")
def afy(c:Á)(h:gY Y a p)(n:Nat):fG P jq Y (jE c a n) (jE c p n):=by
 unfold jE;refine fF (V:=jq) ?_ ?_
 .unfold Ş;refine fF (jc c) ?_;rintro g d _ f ⟨rfl,_⟩;cases d<;>first|exact .fO|exact .fE U
 .rintro j e _ d rfl;apply fF (WZ (h.r d) e n);rintro g b k f i;cases b with
  |true=>rw[i U];exact W4 n _<|(h.r d).r f
  |false=>exact .fO
def afz[Aq P](G:jg Y f u w)(h:gY Y a p)(H:∀u l j,(Ş t).run P u=İ l j->∃k,P.underlying l=À (ι k))(g:(jE t a<|n+1).run P u=İ B W):¬f p.block:=by
 intro I;let⟨c,M,e,N,O,r,Q,S,y,_⟩:=G.r _ _ h.1;let⟨_,_,_,_,o⟩:=y I;unfold jE at g;rw[Å]at g;cases i:(Ş t).run P u with
 |halt z x=>rw[i]at g;cases g
 |ok l j=>
  have J:j=u:=by
   unfold Ş at i;rw[Å]at i;unfold ù at i;rw[Å,ÿ]at i;simp only[Ê]at i;cases E:P.underlying t with
   |none=>rw[E]at i;cases i
   |some d=>
    rw[E]at i;cases d<;>cases i<;>rfl
  subst J;rw[i]at g;simp only[Ê]at g;rw[Å]at g;have C:∃b,(ă a l<|n+1).run P j=İ b j:=by unfold ă;rw[Å,ÿ];simp only[Ê];rw[Å];simp only[cP,ä,Ê];split<;>exact⟨_,U⟩
  rcases o with o|o;rotate_left
  .let⟨k,K⟩:=H _ _ _ i;have L:(ă a l<|n+1).run P j=İ Â j:=by
    unfold ă;rw[Å,ÿ];simp only[Ê];rw[Å];simp only[cP,ä,Ê];have y:j.shape? a.block=À (e,c.size):=by simp[π,r]
    rw[y];simp only[Nat.div_eq_of_lt<|Aq.lt e c.size o,adt K];rfl
   rw[L]at g;cases g
  let⟨b,C⟩:=C;rw[C]at g;simp only[Ê]at g;split at g
  .unfold Ė at g;rw[Å]at g;simp only[bE,ä]at g;cases D:j.cell? a with
   |none=>
    rw[D]at g;simp only[ş,r]at g;cases g
   |some v=>
    rw[D]at g;simp only[Ê]at g;have q:=D;rw[At r]at q;cases F:a.spot with
    |some x=>rw[F]at q;cases q
    |none=>
     rw[F]at q;have:=o _ _ (by simpa using q);cases v<;>first|(cases g;done)|skip
     rename_i k m;cases k<;>first|(cases g;done)|cases this
  .cases g
end
section
variable{Y:fp}{d:Nat->Prop}{f:ã->Prop}{α:Type}
def vp(b:Á)(p:Option Ü)(n:Int):Ğ Ã:=do
 if n<0 then runtimePanic (η "unsafe.String: len out of range")
 if n>â.max then unsupported (œ "String: a length above the largest int")
 match p with
 |none=>
  if n=0 then pure (Ĥ .empty)
  else runtimePanic (η "unsafe.String: ptr is nil and len is not zero")
 |some a=>
  if n=0 then pure (Ĥ .empty)
  else if<-ă a (<-Ş b) n.toNat then do
   let s<-Ė a .empty n.toNat
   de a n.toNat
   pure<|Ĥ s
  else unsupported (œ "String: not so many bytes at ptr")
def yx(a b t:Á)(p:Option Ü)(k:ą)(n:Int):ò #[a,b] t #[Ù p,ē k n]=vp a p n:=by cases p<;>rfl
def W6(c:Á)(a:Ü)(d:¬h<0)(e:¬h>â.max)(f:¬h=0): vp c (À a) h=(jE c a h.toNat>>=λs=>de a h.toNat>>=λ_=>pure<|Ĥ s):=by unfold vp;simp only[if_neg d,if_neg e,if_neg f];unfold jE;show _=è (è _ _) _;rw[Ű];congr 1;funext et;show è _ _=è (è _ _) _;rw[Ű];congr 1;funext b;cases b<;>rfl
def afA(a:Á)(p:Option Ü)(n:Int):fD P (vp a p n):=by unfold vp;repeat' (first|(with_reducible first|exact W0 _ _ _|exact W5 _ _ _|exact afx _ _|exact gA _|exact Ku _|exact wE _|refine gl ?_ (λ_=> ?_)|refine nh _ ?_)|split|rfl)
def afB(_hW:jg Y d u w):∀(n:Nat) {a i:Ü} {j s:ByteArray},gY Y a i->a.spot=í->(Ė a j n).run P u=İ s W->∀c e f,u.heap[a.block]?=À (ė c e f)->a.off<=c.size->a.off+n<=c.size:=by
 intro n
 induction n with
 |zero=>intro a i j s _ _ _ c e f _ r;exact r
 |succ n t=>
  intro a i j s h l b c e f o _;unfold Ė at b;rw[Å]at b;simp only[bE,ä]at b;cases p:u.cell? a with
  |none=>
   rw[p]at b;simp only[ş,o]at b;cases b
  |some v=>
   rw[p]at b;simp only[Ê]at b;have q:=p;rw[At o,l]at q;have y:=(Ä.1<|by simpa using q).1;cases v<;>first|(cases b;done)|skip
   rename_i k m;cases k<;>first|(cases b;done)|skip
   have g:a.add 1={a with off:=a.off+1}:=by unfold Addr.add;rw[if_neg A];simp[l]
   have x:=h.C 1;have:=t x (by rwa[g]) b c e f (by rwa[g]) (by rw[g];simp only;omega);rw[g]at this;simp only at this;omega
end
section
variable{Y:fp}{g:Nat->Prop}{q:ã->Prop}{α:Type}
def Pz(a b t:Á)(p:Option Ü)(y:Ã):ò #[a,b] t #[Ù p,y]=(dU y>>=λn=>vp a p n):=by cases p<;>rfl
def W7:∀(n:Nat) {a:Ü} {f s:ByteArray} {u c:È},(Ė a f n).run P u=İ s c->c=u
 |0,_,_,_,_,_,h=>by cases h;rfl
 |n+1,a,f,s,u,c,h=>by
  unfold Ė at h;rw[Å]at h;have g:∀v b,(bE a).run P u=İ v b->b=u:=by
   intro v b e;simp only[bE,ä]at e;split at e
   .cases e;rfl
   .split at e<;>cases e;rfl
  cases d:(bE a).run P u with
  |halt z w=>rw[d]at h;cases h
  |ok v b=>
   have:=g v b d;subst this;rw[d]at h;simp only[Ê]at h;cases v<;>first|(cases h;done)|skip
   rename_i k m;cases k<;>first|(cases h;done)|exact W7 n h
def afC(c:(jE e a n).run P u=İ B w):w=u/\(Ė a .empty n).run P u=İ B u:=by
 unfold jE at c;rw[Å]at c;cases f:(Ş e).run P u with
 |halt z x=>rw[f]at c;cases c
 |ok z x=>
  have g:x=u:=by
   unfold Ş at f;rw[Å]at f;unfold ù at f;rw[Å,ÿ]at f;simp only[Ê]at f;cases b:P.underlying e with
   |none=>rw[b]at f;cases f
   |some d=>
    rw[b]at f;cases d<;>cases f<;>rfl
  subst g;rw[f]at c;simp only[Ê]at c;rw[Å]at c;have d:∃b,(ă a z n).run P x=İ b x:=by unfold ă;rw[Å,ÿ];simp only[Ê];rw[Å];simp only[cP,ä,Ê];split<;>exact⟨_,U⟩
  let⟨b,d⟩:=d;rw[d]at c;simp only[Ê]at c;split at c
  .have:=W7 n c;subst this;exact⟨U,c⟩
  .cases c
def KO(P:Ø)(t:Á):Bool:=match P.underlying t with
 |some (ó e)=>(match P.underlying e with|some (ι _)=>Ë|_=>Â)
 |_=>Â
def afD{P:Ø}(h:KO P e=Ë):∀u c d,(Ş e).run P u=İ c d->∃k,P.underlying c=À (ι k):=by
 intro u c d b;unfold Ş ù at b;rw[Å,Å,ÿ]at b;simp only[Ê]at b;unfold KO at h;split at h
 .rename_i a f;rw[f]at b;cases b;split at h
  .rename_i k g;exact⟨k,g⟩
  .cases h
 .cases h
def afE[Aq P]{y:Ú}{B:Á}(S:o.op=ae {callee:=ĩ dy,args:=#[qQ,y],argTypes:=#[T,B]})(hpt:KO P T=Ë)(W8:∀z∈o.op.operands,mq X z):mK P X q o:=by
 have V:∀K:Ú->Ã,î K o=(ò #[T,B] o.type #[K qQ,K y]>>=λv=>pure<|ñ v):=by intro K;unfold î;rw[S];simp only[ā,Ę,ĝ,pure_bind,Û,æ,é]
 have L:∀v w:Ã,fD P (ò #[T,B] o.type #[v,w]):=by
  intro v w;cases v<;>first|exact jd _|skip
  rw[Pz];exact gl (G6 _) λn=>afA _ _ _
 have hk:∀(a:bY) (u:È) (n:χ) (p:È),(î a.eval o).run P u=İ n p->∃v,n=ñ v:=by
  intro a u n p b;rw[V,Å]at b;cases M:(ò #[T,B] o.type #[a.eval qQ,a.eval y]).run P u with
  |ok v w=>rw[M]at b;cases b;exact⟨v,U⟩
  |halt z w=>rw[M]at b;cases b
 refine⟨?_,λa=>by rw[V];exact lP<|L _ _,λa u n p b=>Æ<|hk a u n p b,λa u f c p b=>by let⟨v,e⟩:=hk a u _ p b;cases e⟩;intro Y g t t' u w hz hb hG ht H hl z p b hc;have W:=wO hG ht (W8 qQ<|by rw[S];simp[Ì,ü]);have N:=wO hG ht (W8 y<|by rw[S];simp[Ì,ü]);rw[V]at b|-;generalize ê ⟨t,[]⟩ qQ=v at W b;generalize ê ⟨t',[]⟩ qQ=v' at W|-;generalize ê ⟨t,[]⟩ y=l at N b;generalize ê ⟨t',[]⟩ y=l' at N|-;have C:fG P fl Y (ò #[T,B] o.type #[v,l]) (ò #[T,B] o.type #[v',l'])->∃(I:fp) (x':χ) (w':È) (O:Array Ĉ),Y.r I/\(∀i j,I i j->Y i j\/(u.heap.size<=i/\w.heap.size<=j))/\(ò #[T,B] o.type #[v',l']>>=λv=>pure (ñ v):Ğ χ).runT P w #[]=(İ x' w',#[]++O)/\o0 I z x'/\jg I g p w'/\nN Y g w w'/\(∀e∈O,As I g e)/\u.heap.size<=p.heap.size:= λh=>(mJ h).gk H hl b #[];cases W with
 |lL=>
  apply C;rw[Pz,Pz];apply fF (OJ N);rintro W9 n _ _ rfl;unfold vp;by_cases r:n<0
  .simp only[if_pos r];exact .oz (vf<|rp _)
  .by_cases d:n>â.max
   .simp only[if_neg r,if_pos d];exact .fO
   .simp only[if_neg r,if_neg d];split
    .exact .fE (.kE _)
    .exact Km
 |jV D=>
  rename_i a a';cases N with
  |iF k n=>
   by_cases r:n<0
   .apply C;rw[yx,yx];unfold vp;simp only[if_pos r];exact .oz (vf<|rp _)
   .by_cases d:n>â.max
    .apply C;rw[yx,yx];unfold vp;simp only[if_neg r,if_pos d];exact .fO
    .by_cases h3:n=0
     .apply C;rw[yx,yx];unfold vp;simp only[if_neg r,if_neg d,if_pos h3];exact .fE (.kE _)
     .rw[yx,W6 T a r d h3]at b;rw[yx,W6 T a' r d h3];obtain⟨m,M⟩:∃m,n.toNat=m+1:=⟨n.toNat-1,Z⟩;rw[M]at b|-;cases J:(jE T a<|m+1).run P u with
      |halt z w=>
       rw[Å,Å,J]at b;cases b
      |ok s u1=>
       obtain⟨rfl,Xa⟩:=afC J;rw[Å,Å,J]at b;have AH:=b;cases AH;let⟨W9,s',w1,es,k1,k2,k3,k4,k5,E,k7,k8⟩:=(afy T D<|m+1).gk H hl J #[];have O:=k4;subst O;let⟨c,c',e,fr,wA,Q,hw,sM,_⟩:=H.r _ _ D.1;have Xb:a.spot=í/\a.off<c.size:=by
        have F:=Xa;unfold Ė at F;rw[Å]at F;simp only[bE,ä]at F;cases G:u1.cell? a with
        |none=>
         rw[G]at F;simp only[ş,Q]at F;cases F
        |some v=>
         rw[At Q]at G;cases oC:a.spot with
         |some qQ=>rw[oC]at G;cases G
         |none=>rw[oC]at G;exact⟨U,(Ä.1<|by simpa using G).1⟩
       have fits:∀c e fr,u1.heap[a.block]?=À (ė c e fr)->a.off+(m+1)<=c.size:=by intro c2 e2 pS d;rw[Q]at d;injection d with d;injection d with q1 q2 q3;subst q1;exact afB H (m+1) D Xb.1 Xa c e fr Q<|Nat.le_of_lt Xb.2
       refine⟨W9,ñ<|Ĥ s,w1.freeze a'<|m+1,es,k1,k2,?_,.nP (.kE s),k5.acO (D.r k1) (m+1) fits,?_,k7,by rw[Kh];exact á _⟩
       .show ç P (è (è _ _) _) w #[]=_;rw[Ð,Ð,k3];rfl
       .refine⟨by rw[Kh];exact E.r,acJ.trans E.I,acK.trans E.M,OB.trans E.S,λj hj L=> ?_,λj hs hj=> ?_⟩
        .rw[Ki (λe=>L a.block<|by rw[<-e];exact D.1)];exact E.C j hj L
        .rw[Ki (λe=>(afz H D (afD hpt) J)<|by rwa[e])];exact E.N j hs hj
  |_=>exact C .fO
 |_=>exact C .fO
end
section
variable{Y:fp}{g:Nat->Prop}{i:ã->Prop}{α:Type}
def afF(a:Ü):fD P (bM a):=by unfold bM;repeat' (first|(with_reducible first|exact gA _|exact tE _|exact O6 _|refine gl ?_ λ_=> ?_)|split)
def afG(a b:Ü):fD P (df a b):=by unfold df;repeat' (first|(with_reducible first|exact afF _|exact gA _|exact tE _|refine gl ?_ λ_=> ?_)|split)
def afH(a b:Ü):fD P (Δ a b):=by unfold Δ;repeat' (first|(with_reducible first|exact afG _ _|exact gA _|exact sI _|exact O6 _|exact VZ _|refine gl ?_ (λ_=> ?_)|refine nh _ ?_)|split|rfl)
def Xc(h:P.underlying t=À (ó e))(x y:Ã):fD P (û t x y):=by unfold û č ς;refine sJ h ?_;repeat' (first|(with_reducible first|exact afH _ _|exact gA _|exact jd _|exact sI _|exact tH _|refine gl ?_ λ_=> ?_)|contradiction|split)
def afI{a:ĭ}(b:a=aV\/a=bm)(h:P.underlying t=À (ó e))(x y:Ã):fD P (Α a t x y):=by
 have c:=Xc h x y;rcases b with rfl|rfl;all_goals
  unfold Α;repeat' (first|(with_reducible first|exact Xc h _ _|exact gA _|exact jd _|exact Pd _ _ _ _|exact Wo _ _ _ _ _ _|exact Wp _ _ _|exact Pj _ _ _|refine gl ?_ λ_=> ?_)|contradiction|split)
def yy(u:È)(r:Nat):Prop:=∃c e a,u.heap[r]?=À (ė c e a)/\a.2<=c.size
def KP(a:Ü)(u:È)(b:Array Ĉ):(frozen a).runT P u b=(İ (u.frozen? a) u,b):=rfl
def KQ{r:Nat}(h:u.heap[r]?=À (ė d e xJ))(a:Array Ĉ):(cP r).runT P u a=(İ (À (e,d.size)) u,a):=by simp only[cP,ç,π,h]
def Xd(h:yy u a.block)(b:Array Ĉ):(bM a).runT P u b=(İ (u.frozen? a) u,b):=by
 let⟨c,e,f,d,g⟩:=h;unfold bM;show ç P (è _ _) u b=_;rw[Ð,KP];cases i:u.frozen? a with
 |true=>rfl
 |false=>
  simp only[Ç,if_false];show ç P (è _ _) u b=_;rw[Ð,KQ d];simp only[];rw[KP];have:u.frozen? {block:=a.block,off:=c.size}=Â:=by simp only[ĉ,d];simp;omega
  rw[this]
def Xe(f:u.heap[a.block]?=À (ė d e xJ))(g:xJ.2<=d.size)(b:u.frozen? a=Ë):d.size≠0:=by simp only[ĉ,f]at b;simp at b;omega
def afJ(i:yy u a.block)(j:yy u p.block)(k:(u.frozen? a&&u.frozen? p)=Â)(g:Array Ĉ):(df a p).runT P u g=(İ Â u,g):=by
 have q:=i;have r:=j;let⟨c,e,w,l,s⟩:=q;let⟨d,f,x,m,t⟩:=r;unfold df;show ç P (è _ _) u g=_;rw[Ð,Xd i];simp only[];show ç P (è _ _) u g=_;rw[Ð,Xd j];simp only[];show ç P (è (è _ _) _) u g=_;rw[Ð,Ð,KQ l];simp only[];show ç P (è (è _ _) _) u g=_;rw[Ð,Ð,KQ m];simp only[];congr 2;cases o:u.frozen? a with
 |true=>
  rw[o]at k;have h:u.frozen? p=Â:=by simpa using k
  have:=Xe l s o;simp only[h];cases v:c.size with
  |zero=>exact absurd v this
  |succ n=>rfl
 |false=>
  cases h:u.frozen? p with
  |true=>
   have:=Xe m t h;cases v:d.size with
   |zero=>exact absurd v this
   |succ n=>rfl
  |false=>rfl
def Xf(h:yy u a.block)(b:Array Ĉ):(bF a).runT P u b=(İ () u,b):=by let⟨c,e,f,d,g⟩:=h;unfold bF cJ;show ç P (è (è _ _) _) u b=_;rw[Ð,Ð,KQ d];rfl
def Xg(e:yy u a.block)(f:yy u p.block)(c:Array Ĉ):(Δ a p).runT P u c= if(a.block==p.block)=Ë then(İ (a==p) u,c)else if(u.frozen? a&&u.frozen? p)=Ë then(cD (Œ .addressObserved) u,c)else(İ Â u,c):=by
 unfold Δ;by_cases h:(a.block==p.block)=Ë
 .rw[if_pos h,if_pos h];rfl
 .rw[if_neg h,if_neg h];show ç P (è _ _) u c=_;rw[Ð,KP];simp only[];show ç P (è _ _) u c=_;rw[Ð,KP];simp only[];by_cases d:(u.frozen? a&&u.frozen? p)=Ë
  .rw[if_pos d,if_pos d];rfl
  .rw[if_neg d,if_neg d];show ç P (è _ _) u c=_;rw[Ð,Xf e];simp only[];show ç P (è _ _) u c=_;rw[Ð,Xf f];simp only[];show ç P (è _ _) u c=_;rw[Ð,afJ e f (by simpa using d)];rfl
end
section
variable{Y:fp}{g:Nat->Prop}{j:ã->Prop}
def afK{d:dY}(h:P.underlying t=À d)(u:È)(a:Array Ĉ):(ù t).runT P u a=(İ d u,a):=by unfold ù;show ç P (è _ _) u a=_;rw[Ð];show ç P (match P.underlying t with|some d=>pure d|none=>stuck _) u a=_;rw[h];rfl
def afL(h:P.info? t=À zJ)(u:È)(a:Array Ĉ):(Ŝ t).runT P u a=(İ zJ.size u,a):=by
 unfold Ŝ;show ç P (è _ _) u a=_;rw[Ð];have:(þ t).runT P u a=(İ zJ u,a):=by unfold þ;show ç P (è _ _) u a=_;rw[Ð];show ç P (match P.info? t with|some d=>pure d|none=>stuck _) u a=_;rw[h];rfl
 rw[this];rfl
def Xh(h:P.underlying t=À (ó e))(d:P.info? e=À zJ)(f:zJ.size≠0)(a b:Ü)(u:È)(c:Array Ĉ):(û t (Ù<|À a)<|Ù<|À b).runT P u c=(Δ a b).runT P u c:=by unfold û č ς;show ç P (è _ _) u c=_;rw[Ð,afK h];simp only[];show ç P (è _ _) u c=_;rw[Ð,afL d];simp only[];rw[if_pos f]
def iu(a:ĭ)(r:Bool):Bool:=if a=aV then r else !r
def Xi{d:ĭ}(k:d=aV\/d=bm)(h:P.underlying t=À (ó e))(g:P.info? e=À zJ)(j:zJ.size≠0)(x y:Ú)(a b:Ü)(u:È)(c:Array Ĉ): ((Ξ d t x y (Ù<|À a) (Ù<|À b)>>=λ_=>Α d t (Ù<|À a)<|Ù<|À b)>>=λv=>pure (ñ v):Ğ χ).runT P u c= match(Δ a b).runT P u c with
 |(İ r u',f)=>(İ (ñ<|ō<|iu d r) u',f)
 |(cD z u',f)=>(cD z u',f):=by
 rcases k with rfl|rfl
 .show ç P (è (è (û t (Ù<|À a)<|Ù<|À b) λr=>bj<|ō r) λv=>bj<|ñ v) u c=_;rw[Ð,Ð,Xh h g j];cases(Δ a b).runT P u c with
  |mk r f=>cases r<;>rfl
 .show ç P (è (è (û t (Ù<|À a)<|Ù<|À b) λr=>bj<|ō !r) λv=>bj<|ñ v) u c=_;rw[Ð,Ð,Xh h g j];cases(Δ a b).runT P u c with
  |mk r f=>cases r<;>rfl
def afM{m:ĭ}{r:Á}{y:Ú}(E:o.op=ey m t qQ y r)(I:m=aV\/m=bm)(h:P.underlying t=À (ó e))(W:P.info? e=À zJ)(hs:zJ.size≠0)(J:∀z∈o.op.operands,mq X z):mK P X j o:=by
 have K:∀B:Ú->Ã,î B o=((Ξ m t qQ y (B qQ) (B y)>>=λ_=>Α m t (B qQ)<|B y)>>=λv=>pure<|ñ v):=by intro B;unfold î;rw[E]
 have hk:∀(a:bY) (u:È) (n:χ) (s:È),(î a.eval o).run P u=İ n s->∃v,n=ñ v:=by
  intro a u n s k;rw[K,Å]at k;cases C:(Ξ m t qQ y (a.eval qQ) (a.eval y)>>=λ_=>Α m t (a.eval qQ)<|a.eval y).run P u with
  |ok v w=>rw[C]at k;cases k;exact⟨v,U⟩
  |halt z w=>rw[C]at k;cases k
 refine⟨?_,λa=> ?_,λa u n s k=>Æ<|hk a u n s k,λa u f c s k=>by let⟨v,e⟩:=hk a u _ s k;cases e⟩
 .intro Y g D Xj u w L hb M N p hl z s k hc;have O:=wO M N (J qQ<|by rw[E];simp[Ì]);have Q:=wO M N (J y<|by rw[E];simp[Ì]);by_cases S:ng (ê ⟨D,[]⟩ qQ)\/ng (ê ⟨D,[]⟩ y)
  .have hOk:j4 P (ê ⟨D,[]⟩) o.op:=by
    rw[E];exact .En m t qQ y r λ_=>Í ⟨⟨e,h⟩,S⟩
   exact(VA L p.C hb (λf=>rfl) hOk λz L=>wO M N<|J z L).gk p hl k hc #[]
  .have n1:=λq=>S<|Æ q;have n2:=λq=>S<|Í q;rw[K]at k|-;generalize ê ⟨D,[]⟩ qQ=v at O k n1;generalize ê ⟨Xj,[]⟩ qQ=v' at O|-;generalize ê ⟨D,[]⟩ y=l at Q k n2;generalize ê ⟨Xj,[]⟩ y=l' at Q|-;cases O<;>first|exact absurd trivial n1|skip
   cases Q<;>first|exact absurd trivial n2|skip
   rename_i a a' F b b' G;have fit:∀{c H:Ü},gY Y c H->yy u c.block/\yy w H.block:=by
    intro c H hcc;let⟨d,d',e2,fr,wA,hu,hw,sM,nk,PE,T⟩:=p.r _ _ hcc.1;refine⟨⟨d,e2,fr,hu,T⟩,d',e2,wA,hw,?_⟩;refine ö ?_ sM.I;by_cases q:g H.block
    .exact ö (nk q).2.2.1 T
    .rwa[<-PE q]
   let⟨fa,fa'⟩:=fit F;let⟨fb,fb'⟩:=fit G;rw[<-Ÿ P _ u #[],Xi I h W hs,Xg fa fb]at k;rw[Xi I h W hs,Xg fa' fb'];rw[<-(Ko p.C F G),<-(Vl p.C F G)];by_cases q:(a.block==b.block)=Ë
   .rw[if_pos q]at k|-;cases k;exact⟨Y,_,w,#[],fp.M _,λ_ _ q=>Æ q,U,.nP (.mo _),p,nN.fT _ _ _,λ_ C=>absurd C fj,á _⟩
   .rw[if_neg q]at k|-;by_cases V:(u.frozen? a&&u.frozen? b)=Ë
    .rw[if_pos V]at k;cases k
    .rw[if_neg V]at k;have q3:¬(w.frozen? a'&&w.frozen? b')=Ë:=by
      intro q4;let⟨z1,z2⟩:=Þ.1 q4;exact V<|Þ.2 ⟨p.G F z1,p.G G z2⟩
     rw[if_neg q3];cases k;exact⟨Y,_,w,#[],fp.M _,λ_ _ q=>Æ q,U,.nP (.mo _),p,nN.fT _ _ _,λ_ C=>absurd C fj,á _⟩
 .rw[K];exact lP<|gl (Wt m t (λ_=>Í ⟨e,h⟩) qQ y _ _) λ_=>afI I h _ _
end
def PF(P:Ø)(s d:Á):Bool:=match P.underlying s,P.underlying d with
 |some (dH e),À ĥ=>(match P.underlying e with|some (ι .u8)=>Ë|_=>Â)
 |some (ó _),À Ĝ=>Ë
 |some Ĝ,À (ó _)=>Ë
 |_,_=>Â
def PG(P:Ø)(t:Á):Bool:=match P.underlying t with
 |some (ó e)=>(match P.info? e with|some i=>i.size !=0|none=>Â)
 |_=>Â
def PH(P:Ø)(b:ã->Bool)(c:Callee)(a:List Ú)(d:List Á):Bool:=match c with
 |ĩ .min=>a.length !=0
 |ĩ bL=>a.length==1
 |ĩ dy=>a.length==2&&(match d with|[t,_]=>KO P t|_=>Â)
 |cM (bq f)=>b f&&a.length==1
 |_=>Â
def PK(P:Ø)(a:ã->Bool):Op->Bool
 |dc _ _|.panic _=>Ë
 |ey c t _ _ _=>(c==aV||c==bm)&&PG P t
 |bn s d _=>PF P s d
 |ae c=>PH P a c.callee c.args.toList c.argTypes.toList
 |_=>Â
def Ew(P:Ø)(a:Nat->Bool)(b c:ã->Bool)(o:aR):Bool:=Py P a b o||(PK P c o.op&&o.op.operands.all (wR a))
def Hd(P:Ø)(c:ã->Bool):Prop:=∀f,c f=Ë->∃a e,P.funcs[f]?=À a/\(a.name== "runtime.NumGoroutine")=Â/\a.body.isNone=Ë/\Extern.findNext a=í/\Extern.find a=À e/\
 (∀(Y:fp) (v b:Ã),fl Y v b->fG P fl Y (e #[v]) (e #[b]))/\∀v,fD P<|e #[v]
def KR[Aq P]{g:Nat->Bool}{k x:ã->Bool}(E:Hd P x)(h:Ew P g k x o=Ë):mK P (λj=>g j=Ë) (λf=>k f=Ë) o:=by
 rcases ŀ.1 h with h|h
 .exact ae2 h
 .let⟨w,F⟩:=Þ.1 h;have u:∀z∈o.op.operands,mq (λj=>g j=Ë) z:=by
   intro z G;obtain⟨i,C,rfl⟩:=ś.1 G;exact KL<|ĵ.1 F i C
  cases n:o.op with
  |makeInterface t y=>exact ae3 n u
  |panic y=>exact ae6 n u
  |binOp B t a b r=>
   rw[n]at w;let⟨H,m⟩:=Þ.1 (show((B==aV||B==bm)&&PG P t)=Ë from w);have I:B=aV\/B=bm:=by
    rcases ŀ.1 H with q|q
    .exact Æ (by cases B<;>first|rfl|cases q)
    .exact Í (by cases B<;>first|rfl|cases q)
   unfold PG at m;split at m
   .rename_i e J;split at m
    .rename_i i C;exact afM n I J C (by simpa using m) u
    .cases m
   .cases m
  |convert s d y=>
   rw[n]at w;have m:PF P s d=Ë:=w;unfold PF at m;split at m
   .rename_i e v p;split at m
    .rename_i K;exact afg n v p K u
    .cases m
   .rename_i t v p;exact W3 n (Æ ⟨v,p⟩) u
   .rename_i t v p;exact W3 n (Í ⟨v,p⟩) u
   .cases m
  |call c=>
   rw[n]at w;let⟨L,M,D⟩:=c;have m:PH P x L M.toList D.toList=Ë:=w;unfold PH at m;split at m
   .exact afc n u
   .obtain⟨y,rfl⟩:=KN m;exact afo n u
   .let⟨v,p⟩:=Þ.1 m;obtain⟨y,z,rfl⟩:=Px v;let⟨l⟩:=D;match l,p with
    |[t1,t2],p=>exact afE n p u
   .rename_i f;let⟨v,p⟩:=Þ.1 m;obtain⟨y,rfl⟩:=KN p;let⟨X,e,N,O,Q,S,T,V,W⟩:=E f v;exact afh n N O Q S T V W u
   .cases m
  |_=>rw[n]at w;simp[PK]at w
def nS(P:Ø)(a:Nat->Bool)(b d:ã->Bool):aO->Bool
 |.ret|.skip|eF _|.exit _|.goto _=>Ë
 |.seq x y=>nS P a b d x&&nS P a b d y
 |bS c x y=>wR a c&&nS P a b d x&&nS P a b d y
 |eG _ c|.loop c|eH c=>nS P a b d c
 |cx _ c _=>c.all<|Ew P a b d
 |dM _=>Ë
 |_=>Â
def vq[Aq P]{g:Nat->Bool}{k x:ã->Bool}(a:Hd P x):∀{c:aO},nS P g k x c=Ë->kG P (λj=>g j=Ë) (λf=>k f=Ë) c
 |.ret,_=> .vj
 |.skip,_=> .sG
 |eF l,_=> .wF l
 |.exit l,_=> .wK l
 |.goto l,_=> .wL l
 |.seq y z,h=>by let⟨f,i⟩:=Þ.1 (show(nS P g k x y&&nS P g k x z)=Ë from h);exact .ry (vq a f) (vq a i)
 |bS c y z,h=>by let⟨f,i⟩:=Þ.1 (show(wR g c&&nS P g k x y&&nS P g k x z)=Ë from h);let⟨j,f⟩:=Þ.1 f;exact .tJ (KL j) (vq a f) (vq a i)
 |eG id c,h=> .rz id (vq a<|show nS P g k x c=Ë from h)
 |.loop c,h=> .wG (vq a<|show nS P g k x c=Ë from h)
 |eH c,h=> .wI (vq a<|show nS P g k x c=Ë from h)
 |cx id ops d,h=> .tK id d λo f=>by obtain⟨i,j,rfl⟩:=ś.1 f;exact KR a<|ĵ.1 (show ops.all (Ew P g k x)=Ë from h) i j
 |.rangeFunc _ _ _ _,h=>by simp[nS]at h
 |dM w,_=> .n9 w
end Go.Proofs.Y.Lift
namespace Go.Proofs.Y.fv
open Go Go.Conc Go.Proofs.Y.Lift
def qF(t:ī)(g:Nat)(l:eu):Prop:=∀p a,Ħ t p=À a->a.loc=l->bW t g p
def pd(t:ī)(g:Nat)(l:eu):Prop:=∀p a,Ħ t p=À a->a.loc=l->a.write=Ë->bW t g p
def qF.r{t:ī}{l:eu}(h:qF t i l):pd t i l:=λp a b c _=>h p a b c
section
variable{t u:ī}{g:Nat}{l:eu}
def mN{a:eg}(h:Ħ (t++u) i=À a):(i<t.size/\Ħ t i=À a)\/(t.size<=i/\∃b∈u,b.act.touch?=À a/\(t++u)[i]?=À b):=by
 let⟨x,c,d⟩:=eh h;rcases getElem?_append_cases c with⟨b,e⟩|⟨b,f⟩
 .exact Æ ⟨b,by rwa[touchAt_of e]⟩
 .exact Í ⟨b,x,f,d,c⟩
def qF.C(h:qF t g l)(f:∀c∈u,∀b,c.act.touch?=À b->b.loc=l->c.g=g):qF (t++u) g l:=by
 intro p a i e;rcases mN i with⟨_,d⟩|⟨_,c,d,j,k⟩
 .exact(h p a d e).app u
 .have:=bN k;rwa[f c d a j e]at this
def pd.r(h:pd t g l)(i:∀c∈u,∀b,c.act.touch?=À b->b.loc=l->b.write=Ë->c.g=g):pd (t++u) g l:=by
 intro p a j e f;rcases mN j with⟨_,d⟩|⟨_,c,d,k,m⟩
 .exact(h p a d e f).app u
 .have:=bN m;rwa[i c d a k e f]at this
def qF.ym(h:∀p a,Ħ t p=À a->a.loc≠l):qF t g l:=λp a b c=>absurd c<|h p a b
def PL(h:∀e,¬eY e t)(n:∀f∈u,f.g=g)(o:∀f∈u,∀b,f.act.touch?=À b->(b.write=Â/\pd t g b.loc)\/qF t g b.loc\/(b.kind=Ũ/\∀p a,Ħ t p=À a->a.loc=b.loc->a.kind=.plain->bW t g p)):∀e,¬eY e (t++u):=by
 intro e;refine noRace_append (h e) n λi a j f r b s v=> ?_;let⟨k,w,d,c⟩:=v;rcases o f r b s with⟨l,m⟩|q|⟨l,m⟩
 .rcases d with d|d
  .exact m i a j k d
  .rw[l]at d;cases d
 .exact q i a j k
 .rw[l]at c;rcases c with c|c|⟨_,_,c⟩
  .exact m i a j k c
  .cases c
  .cases c
def AJ(g:∀c,¬eY c t)(h:∀d∈u,d.act.touch?=í):∀c,¬eY c (t++u):=by
 intro c;rintro⟨i,j,k,⟨a,b,l,m,n⟩,o,p⟩;rcases mN m with⟨v,e⟩|⟨_,d,e,f,_⟩
 .rcases mN l with⟨r,s⟩|⟨r,_⟩
  .exact g c ⟨i,j,k,⟨a,b,s,e,n⟩,λq=>o<|eK u q,λq=>p<|eK u q⟩
  .omega
 .rw[h d e]at f;cases f
end
structure fe where
 O:Nat->Prop
 I:Nat->Prop
 r:Ü->Prop
 N:Ü->Prop
 K:Ü->Prop
 d:Nat
 q:Prop
 w:È
def fe.M(l:fe):Nat->Prop:=λj=>l.O j\/l.I j
def fe.C(l:fe):Ü->Prop:=λa=>l.r a\/l.N a
structure fH(l:fe)(w w₁:È):Prop where
 r:w.heap.size<=w₁.heap.size
 I:∀j,l.M j->w₁.heap[j]?=w.heap[j]?
 N:∀a,l.C a->w₁.cell? a=w.cell? a
 Y:∀a,l.C a->w₁.frozen? a=w.frozen? a
 S:∀a,l.K a->(w.cell? a).isSome=Ë->(w₁.cell? a).isSome=Ë
def fH.fT(l:fe)(w:È):fH l w w:=⟨á _,λ_ _=>rfl,λ_ _=>rfl,λ_ _=>rfl,λ_ _ h=>h⟩
def fH.fg{l:fe}{c:È}(h:fH l w u)(k:fH l u c):fH l w c:= ⟨ö h.r k.r,λj d=>(k.I j d).trans<|h.I j d,λj d=>(k.N j d).trans<|h.N j d,λj d=>(k.Y j d).trans<|h.Y j d,λw e q=>k.S w e<|h.S w e q⟩
def kP(w:È)(b:Nat):Option (Nat×Nat):=match w.heap[b]? with
 |some (ė _ _ fr)=>À fr
 |_=>í
def wS{w':È}(h:w'.heap[b]?=w.heap[b]?):kP w' b=kP w b:=by unfold kP;rw[h]
def Xk(w:È)(a:Ü):w.frozen? a=match kP w a.block with
 |some (lo,hi)=>decide (lo<=a.off)&&decide (a.off<hi)
 |none=>Â:=by
 unfold ĉ kP;cases w.heap[a.block]? with
 |none=>rfl
 |some o=>cases o<;>rfl
def KS(h:kP u a.block=kP w a.block):u.frozen? a=w.frozen? a:=by rw[Xk,Xk,h]
def yz(l:fe)(e:Ĉ):Prop:=
 (∃a:Ü,e.loc=Ć a/\(l.O a.block\/l.r a\/((l.I a.block\/l.N a)/\e.write=Â/\e.sync=Â)))\/e.loc=Η ο\/(∃f,e.loc=Η (.extern f))\/e.loc=Η dh\/e.loc=Η dR\/
 ∃a:Ü,l.O a.block/\(e.loc=Η (.read a)\/e.loc=Η (.write a)\/e.loc=Η (ń a)\/e.loc=Η (di a))
structure mr(l l':fe)(w w':È)(es:Array Ĉ):Prop where
 C:w.heap.size<=w'.heap.size
 S:∀j,l'.O j->l.O j\/w.heap.size<=j
 fx:∀j,l'.O j->j<w'.heap.size
 I:l'.I=l.I
 r:l'.r=l.r
 M:l'.N=l.N
 k:l'.K=l.K
 jR:∀j,j<w.heap.size->¬l.O j->(∀a:Ü,a.block=j->¬l.r a)->w'.heap[j]?=w.heap[j]?
 N:∀a:Ü,a.block<w.heap.size->¬l.O a.block->¬l.r a->w'.cell? a=w.cell? a
 Y:∀a:Ü,a.block<w.heap.size->¬l.O a.block->kP w' a.block=kP w a.block
 f:w'.os=w.os
 g:w'.output=w.output
 m:w'.tape=w.tape
 c:∀e∈es,yz l' e
 h:l'.d=Ε l.d es
 q:l'.q=l.q
 i:l.q->w'=w/\(∀e∈es,e.mute=Ë)/\l'.O=l.O
 b:l'.w=w'
structure PN(t:ī)(g:Nat)(l:fe):Prop where
 fq:∀a:Ü,l.O a.block->qF t g (Ć a)
 C:∀a:Ü,l.I a.block->pd t g (Ć a)
 I:∀a:Ü,l.r a->qF t g (Ć a)
 r:∀a:Ü,l.N a->pd t g (Ć a)
def Xl{l:fe}{e:Ĉ}(h:yz l e){b:eg}(c:(ì e).touch?=À b):∃a:Ü,b.loc=Ć a/\(l.O a.block\/l.r a\/((l.I a.block\/l.N a)/\b.write=Â)):=by
 let⟨k,i,j⟩:=e;rcases h with⟨a,d,g⟩|h|⟨f,h⟩|h|h|⟨a,d,g⟩
 .simp only at d g;subst d;have:(ì ⟨Ć a,i,j⟩).touch?=À ⟨Ć a,i,if j then Ũ else .plain⟩:=U;rw[this]at c;obtain rfl:=Ą c;exact⟨a,U,g.imp id<|Or.imp id λx=>⟨x.1,x.2.1⟩⟩
 .simp only at h;subst h;simp[ì,ċ]at c
 .simp only at h;subst h;simp[ì,ċ]at c
 .simp only at h;subst h;simp[ì,ċ]at c
 .simp only at h;subst h;simp[ì,ċ]at c
 .simp only at g;rcases g with rfl|rfl|rfl|rfl<;>simp[ì,ċ]at c<;>subst c
  .exact⟨a,U,Æ d⟩
  .exact⟨a,U,Æ d⟩
def afN{l:fe}(d:∀j,l.O j->j<i)(k:∀j,l.I j->j<i)(g:∀a:Ü,l.C a->a.block<i){e:Ĉ}(h:yz l e):(ì e).low i:=by
 let⟨m,n,o⟩:=e;rcases h with⟨a,c,b⟩|h|⟨f,h⟩|h|h|⟨a,c,b⟩
 .simp only at c b;subst c;rcases b with h|h|⟨h|h,_⟩
  .exact d _ h
  .exact g _<|Æ h
  .exact k _ h
  .exact g _<|Í h
 .simp only at h;subst h;trivial
 .simp only at h;subst h;trivial
 .simp only at h;subst h;trivial
 .simp only at h;subst h;trivial
 .simp only at b;rcases b with rfl|rfl|rfl|rfl<;>exact d _ c
def Xm(B:Nat)(t:ī):Prop:=∀a∈t,a.act.low B
def Xn(h:Xm i qJ){a:eg}(g:Ħ qJ n=À a){x:Ü}(d:a.loc=Ć x):x.block<i:=by
 let⟨f,j,b⟩:=eh g;have c:=h f<|Ö j;revert b c;cases f.act with
 |access e=>
  intro b c;simp only[ċ,ε]at b;subst b;simp only at d;simp only[MemAct.low,d,Loc.low]at c;exact c
 |mark m=>
  intro b c;cases m<;>simp[ċ]at b;all_goals
   subst b;simp only[Loc.cell.injEq]at d;subst d;exact c
 |_=>intro b _;simp[ċ]at b
def oa{a:String}:∀op∈Ï i F a V,op.g=i:=λop b=>by obtain⟨e,_,rfl⟩:=ï (op:=op) b;rfl
structure iQ(B0:Nat)(Live:Nat->Prop)(Y:Nat->Prop)(lot:Nat->fe)(w:È)(t:ī):Prop where
 o:∀i j,Live i->Live j->i≠j->∀b,(lot i).O b->¬(lot j).M b
 h:∀i j,Live i->Live j->i≠j->∀a,(lot i).r a->¬(lot j).C a
 m:∀i,Live i->∀b,(lot i).O b->¬(lot i).I b
 g:∀i,Live i->∀a,(lot i).r a->¬(lot i).N a
 I:∀i,Live i->∀b,(lot i).M b->¬Y b
 e:∀i,Live i->∀a,(lot i).C a->Y a.block
 fx:∀i,Live i->∀b,(lot i).M b->b<w.heap.size
 N:∀b,Y b->b<w.heap.size
 r:∀i,Live i->fH (lot i) (lot i).w w
 S:∀i,Live i->PN t i (lot i)
 f:∀i,Live i->ψ t i=(lot i).d
 l:∀said,¬eY said t
 q:Xm w.heap.size t
 s:∀p a c,Ħ t p=À a->a.loc=.obj c->a.kind=.plain->c<B0
 n:∀i,Live i->∀a,(lot i).K a->Y a.block/\∀k,Live k->¬(lot k).r a
def gq(lot:Nat->fe)(i:Nat)(l:fe):Nat->fe:=λk=>if k=i then l else lot k
def gT(a:Nat->fe)(i:Nat)(l:fe):gq a i l i=l:=if_pos U
def gF(a:Nat->fe)(l:fe)(h:k≠i):gq a i l k=a k:=if_neg h
section
variable{B0:Nat}{Live Y:Nat->Prop}{lot:Nat->fe}{w':È}{t u:ī}
def PO{g:Nat}(a:k≠g)(t:ī){u:ī}(b:∀c∈u,c.g=g):ψ (t++u) k=ψ t k:= Deaf_other t (g:=k) (g':=g) (Ă a) _ b
def iQ.at(h:iQ B0 Live Y lot w t)(d:Nat):iQ B0 Live Y lot (w.at d) t:= ⟨h.o,h.h,h.m,h.g,h.I,h.e,h.fx,h.N,λi a=>⟨(h.r i a).r,(h.r i a).I,(h.r i a).N,(h.r i a).Y,(h.r i a).S⟩,h.S,h.f,h.l,h.q,h.s,h.n⟩
def iQ.afO(h:iQ B0 Live Y lot w t)(r:Live i){s:fe}(l:mr (lot i) s w w' V)(E:ã)(F:String): iQ B0 Live Y (gq lot i s) w' (t++Ï i E F V):=by
 have G:=l.S;have Q:∀b,s.M b->(lot i).M b\/w.heap.size<=b:=λb g=>g.elim (λq=>(G b q).imp Æ id) (λq=>Æ<|Í<|by rwa[<-l.I]);have J:∀a,s.C a↔(lot i).C a:=λa=>by unfold fe.C;rw[l.r,l.M]
 have I:=λk f a d=>h.N _<|h.e k f a d;have L:∀k,Live k->k≠i->∀b,(lot k).M b->¬s.O b:=by
  intro k f y b g c;rcases G b c with q|q
  .exact h.o i k r f (Ă y) b q g
  .have:=h.fx k f b g;omega
 have H:∀m∈Ï i E F V,∀b,m.act.touch?=À b->∃a:Ü,b.loc=Ć a/\(s.O a.block\/s.r a\/((s.I a.block\/s.N a)/\b.write=Â)):=by intro m o b g;obtain⟨e,N,rfl⟩:=ï o;exact Xl (l.c e N) g
 have T:∀a:Ü,s.O a.block->qF t i (Ć a):=by
  intro a d;rcases G _ d with q|q
  .exact(h.S i r).fq a q
  .exact .ym λp x P n=>by have:=Xn h.q P n;omega
 have D:PN t i s:=⟨T,λa d=>(h.S i r).C a (by rwa[<-l.I]),λa d=>(h.S i r).I a (by rwa[<-l.r]),λa d=>(h.S i r).r a<|by rwa[<-l.M]⟩;refine⟨?_,?_,?_,?_,?_,?_,?_,λb g=>Ô (h.N b g) l.C,?_,?_,?_,?_,?_,?_,?_⟩
 .intro k j f u y b g;by_cases c:k=i
  .subst c;rw[gT]at g;rw[gF lot _<|Ă y];exact λq=>L j u (Ă y) b q g
  .rw[gF lot _ c]at g;by_cases v:j=i
   .subst v;rw[gT];intro q;rcases Q b q with z|z
    .exact h.o k j f u y b g z
    .have:=h.fx k f b<|Æ g;omega
   .rw[gF lot _ v];exact h.o k j f u y b g
 .intro k j f u y a d;by_cases c:k=i
  .subst c;rw[gT,l.r]at d;rw[gF lot _<|Ă y];exact h.h k j f u y a d
  .rw[gF lot _ c]at d;by_cases v:j=i
   .subst v;rw[gT,J];exact h.h k j f u y a d
   .rw[gF lot _ v];exact h.h k j f u y a d
 .intro k f b g;by_cases c:k=i
  .subst c;rw[gT]at g|-;rw[l.I];rcases G b g with z|z
   .exact h.m k f b z
   .intro q;have:=h.fx k f b<|Í q;omega
  .rw[gF lot _ c]at g|-;exact h.m k f b g
 .intro k f a d;by_cases c:k=i
  .subst c;rw[gT]at d|-;rw[l.M];rw[l.r]at d;exact h.g k f a d
  .rw[gF lot _ c]at d|-;exact h.g k f a d
 .intro k f b g;by_cases c:k=i
  .subst c;rw[gT]at g;rcases Q b g with z|z
   .exact h.I k f b z
   .intro y;have:=h.N b y;omega
  .rw[gF lot _ c]at g;exact h.I k f b g
 .intro k f a d;by_cases c:k=i
  .subst c;rw[gT,J]at d;exact h.e k f a d
  .rw[gF lot _ c]at d;exact h.e k f a d
 .intro k f b g;by_cases c:k=i
  .subst c;rw[gT]at g;exact g.elim (l.fx b) λq=>Ô (h.fx k f b<|Í<|by rwa[<-l.I]) l.C
  .rw[gF lot _ c]at g;exact Ô (h.fx k f b g) l.C
 .intro k f;by_cases c:k=i
  .subst c;rw[gT,l.b];exact fH.fT _ _
  .rw[gF lot _ c];refine(h.r k f).fg ⟨l.C,λb g=>l.jR b (h.fx k f b g) (λq=>h.o i k r f (Ă c) b q g) (λa d q=>h.I k f b g<|by rw[<-d];exact h.e i r a<|Æ q),λa d=>l.N a (I k f a d) (λq=>h.I i r _ (Æ q)<|h.e k f a d) λq=>h.h i k r f (Ă c) a q d,λa d=>KS (l.Y a (I k f a d) λq=>h.I i r _ (Æ q)<|h.e k f a d),λa d q=> ?_⟩;let⟨y,v⟩:=h.n k f a d;rwa[l.N a (h.N _ y) (λq=>h.I i r _ (Æ q) y)<|v i r]
 .intro k f;by_cases c:k=i
  .subst c;rw[gT];exact⟨λa d=>(D.fq a d).C λm o _ _ _=>oa m o,λa d=>(D.C a d).r λm o _ _ _ _=>oa m o,λa d=>(D.I a d).C λm o _ _ _=>oa m o,λa d=>(D.r a d).r λm o _ _ _ _=>oa m o⟩
  .rw[gF lot _ c];have W:∀a:Ü,(lot k).O a.block->∀m∈Ï i E F V,∀b,m.act.touch?=À b->b.loc=Ć a->False:=by
    intro a d m o b g n;let⟨x,y,v⟩:=H m o b g;rw[y]at n;injection n with n;subst n;rcases v with q|q|⟨q|q,_⟩
    .exact L k f c _ (Æ d) q
    .exact h.I k f _ (Æ d)<|h.e i r x<|Æ<|by rwa[<-l.r]
    .exact h.o k i f r c _ d<|Í<|by rwa[<-l.I]
    .exact h.I k f _ (Æ d)<|h.e i r x<|Í<|by rwa[<-l.M]
   have X:∀a:Ü,(lot k).I a.block->∀m∈Ï i E F V,∀b,m.act.touch?=À b->b.loc=Ć a->b.write=Ë->False:=by
    intro a d m o b g n B;let⟨x,y,v⟩:=H m o b g;rw[y]at n;injection n with n;subst n;rcases v with q|q|⟨_,q⟩
    .exact L k f c _ (Í d) q
    .exact h.I k f _ (Í d)<|h.e i r x<|Æ<|by rwa[<-l.r]
    .rw[q]at B;cases B
   have S:∀a:Ü,(lot k).C a->∀m∈Ï i E F V,∀b,m.act.touch?=À b->b.loc=Ć a->(s.I a.block\/s.N a)/\b.write=Â:=by
    intro a d m o b g n;let⟨x,y,v⟩:=H m o b g;rw[y]at n;injection n with n;subst n;rcases v with q|q|q
    .exfalso;rcases G _ q with z|z
     .exact h.I i r _ (Æ z)<|h.e k f x d
     .have:=I k f x d;omega
    .exact absurd d<|h.h i k r f (Ă c) x<|by rwa[<-l.r]
    .exact q
   refine⟨λa d=>((h.S k f).fq a d).C λm o b g n=>(W a d m o b g n).elim,λa d=>((h.S k f).C a d).r λm o b g n B=>(X a d m o b g n B).elim,λa d=>((h.S k f).I a d).C λm o b g n=> ?_,λa d=>((h.S k f).r a d).r λm o b g n B=> ?_⟩
   .exfalso;obtain⟨q|q,_⟩:=S a (Æ d) m o b g n
    .exact h.I i r _ (Í<|by rwa[<-l.I])<|h.e k f a<|Æ d
    .exact h.h k i f r c a d<|Í<|by rwa[<-l.M]
   .have:=(S a (Í d) m o b g n).2;rw[this]at B;cases B
 .intro k f;by_cases c:k=i
  .subst c;rw[gT,l.h,Deaf_own,h.f k f]
  .rw[gF lot _ c,PO c t oa];exact h.f k f
 .refine PL h.l oa λm o b g=> ?_;let⟨a,y,v⟩:=H m o b g;rw[y];rcases v with q|q|⟨q,B⟩
  .exact Í<|Æ<|D.fq a q
  .exact Í<|Æ<|D.I a q
  .exact Æ ⟨B,q.elim (D.C a)<|D.r a⟩
 .intro m o;rcases ħ.1 o with q|q
  .exact MemAct.low_mono l.C<|h.q m q
  .obtain⟨e,N,rfl⟩:=ï q;refine afN l.fx (λj u=>Ô (h.fx i r j<|Í<|by rwa[<-l.I]) l.C) (λa d=> ?_)<|l.c e N;rw[J]at d;exact Ô (I i r a d) l.C
 .intro p a c d n f;rcases mN d with⟨_,y⟩|⟨_,m,y,v,_⟩
  .exact h.s p a c y n f
  .let⟨x,P,_⟩:=H m y a v;rw[P]at n;cases n
 .intro k f a d;have y:∀j,(gq lot i s j).r=(lot j).r:=λj=>by
   by_cases e:j=i
   .subst e;rw[gT,l.r]
   .rw[gF lot _ e]
  have c:(gq lot i s k).K=(lot k).K:=by
   by_cases e:k=i
   .subst e;rw[gT,l.k]
   .rw[gF lot _ e]
  rw[c]at d;exact⟨(h.n k f a d).1,λj u=>by rw[y];exact(h.n k f a d).2 j u⟩
end
def He(Live Y:Nat->Prop)(d:Nat->fe)(b:eg):Prop:=(∃a:Ü,b.loc=Ć a/\Y a.block/\∀k,Live k->¬(d k).C a)\/∃c,b.loc=.obj c/\Y c/\b.kind=Ũ
structure pT(Live Y:Nat->Prop)(lot:Nat->fe)(w w':È):Prop where
 r:w'.heap.size=w.heap.size
 jR:∀j,¬Y j->w'.heap[j]?=w.heap[j]?
 M:∀k,Live k->∀a,(lot k).C a->w'.cell? a=w.cell? a
 N:∀k,Live k->∀a,(lot k).C a->w'.frozen? a=w.frozen? a
 I:∀a,(w.cell? a).isSome=Ë->(w'.cell? a).isSome=Ë
def pT.fT(Live Y:Nat->Prop)(a:Nat->fe)(w:È):pT Live Y a w w:=⟨U,λ_ _=>rfl,λ_ _ _ _=>rfl,λ_ _ _ _=>rfl,λ_ h=>h⟩
structure vr(w':È)(l l':fe):Prop where
 O:l'.O=l.O
 N:l'.I=l.I
 r:l'.r=l.r
 I:l'.N=l.N
 K:l'.K=l.K
 w:l'.w=l.w\/l'.w=w'
def vr.fT(w':È)(l:fe):vr w' l l:=⟨U,U,U,U,U,Æ U⟩
def vr.M{w':È}{l a:fe}(h:vr w' l a):a.M=l.M:=by unfold fe.M;rw[h.O,h.N]
def vr.C{w':È}{l a:fe}(h:vr w' l a):a.C=l.C:=by unfold fe.C;rw[h.r,h.I]
def fH.afP{l c:fe}(h:vr w l c)(r:fH l u W):fH c u W:= ⟨r.r,by rw[h.M];exact r.I,by rw[h.C];exact r.N,by rw[h.C];exact r.Y,by rw[h.K];exact r.S⟩
section
variable{Live Y:Nat->Prop}{lot o:Nat->fe}{w':È}{t u:ī}
def iQ.G(h:iQ n Live Y lot w t)(m:∀k,vr w' (lot k)<|o k)(s:pT Live Y lot w w')(B:∀l∈u,∀b,l.act.touch?=À b->He Live Y lot b)(g:∀l∈u,l.act.low w.heap.size)(E:∀F,¬eY F (t++u))(G:∀k,Live k->ψ (t++u) k=(o k).d):iQ n Live Y o w' (t++u) where
 o i j hi v lk b q:=by rw[(m j).M];exact h.o i j hi v lk b<|by rwa[<-(m i).O]
 h i j hi v lk a f:=by rw[(m j).C];exact h.h i j hi v lk a<|by rwa[<-(m i).r]
 m i hi b q:=by rw[(m i).N];exact h.m i hi b<|by rwa[<-(m i).O]
 g i hi a f:=by rw[(m i).I];exact h.g i hi a<|by rwa[<-(m i).r]
 I i hi b q:=h.I i hi b (by rwa[<-(m i).M]);e i hi a f:=h.e i hi a (by rwa[<-(m i).C]);fx i hi b q:=by rw[s.r];exact h.fx i hi b<|by rwa[<-(m i).M]
 N b q:=by rw[s.r];exact h.N b q
 r i hi:=by
  rcases(m i).w with e|e
  .rw[e];refine((h.r i hi).fg ⟨dS s.r.symm,λj v=>s.jR j<|h.I i hi j v,λa f=>s.M i hi a f,λa f=>s.N i hi a f,λa _=>s.I a⟩).afP<|m i
  .rw[e];exact fH.fT _ _
 S i hi:=by
  have z:∀a:Ü,(lot i).M a.block->∀l∈u,∀b,l.act.touch?=À b->b.loc=Ć a->False:=by
   intro a f l e b q g;rcases B l e b q with⟨x,r,y,_⟩|⟨c,r,_⟩
   .rw[r]at g;injection g with g;subst g;exact h.I i hi _ f y
   .rw[r]at g;cases g
  have D:∀a:Ü,(lot i).C a->∀l∈u,∀b,l.act.touch?=À b->b.loc=Ć a->False:=by
   intro a f l e b q g;rcases B l e b q with⟨x,r,_,y⟩|⟨c,r,_⟩
   .rw[r]at g;injection g with g;subst g;exact y i hi f
   .rw[r]at g;cases g
  exact⟨λa f=>((h.S i hi).fq a<|by rwa[<-(m i).O]).C λl e b q g=>(z a (Æ<|by rwa[<-(m i).O]) l e b q g).elim,λa f=>((h.S i hi).C a<|by rwa[<-(m i).N]).r λl e b q g _=>(z a (Í<|by rwa[<-(m i).N]) l e b q g).elim,λa f=>((h.S i hi).I a<|by rwa[<-(m i).r]).C λl e b q g=>(D a (Æ<|by rwa[<-(m i).r]) l e b q g).elim,λa f=>((h.S i hi).r a<|by rwa[<-(m i).I]).r λl e b q g _=>(D a (Í<|by rwa[<-(m i).I]) l e b q g).elim⟩
 f:=G;l:=E;q l e:=by rw[s.r];exact(ħ.1 e).elim (h.q l)<|g l
 s p a c f g z:=by
  rcases mN f with⟨_,r⟩|⟨_,l,r,y,_⟩
  .exact h.s p a c r g z
  .rcases B l r a y with⟨x,D,_⟩|⟨x,_,_,D⟩
   .rw[D]at g;cases g
   .rw[D]at z;cases z
 n i hi a f:=by rw[(m i).K]at f;exact⟨(h.n i hi a f).1,λk z=>by rw[(m k).r];exact(h.n i hi a f).2 k z⟩
end
structure gw(l:fe):Prop where
 c:∀b,l.O b->¬l.I b
 Y:∀a,l.r a->¬l.N a
 N:∀a,l.C a->¬l.M a.block
 fx:∀b,l.M b->b<l.w.heap.size
 I:∀a,l.C a->a.block<l.w.heap.size
 S:∀a,l.K a->¬l.M a.block/\a.block<l.w.heap.size/\¬l.r a
def iQ.M{Live Y:Nat->Prop}{c:Nat->fe}(h:iQ n Live Y c w qJ)(b:Live i):gw {c i with w:=w} where
 c:=h.m i b;Y:=h.g i b;N a ha hb:=h.I i b _ hb<|h.e i b a ha;fx:=h.fx i b;I a ha:=h.N _<|h.e i b a ha;S a ha:=⟨λq=>h.I i b _ q (h.n i b a ha).1,h.N _ (h.n i b a ha).1,(h.n i b a ha).2 i b⟩
abbrev Jd:=fe->Ó->Prop
inductive fi(P:Ø)(main:Bool)(Stop:Jd):Jd
 |fB {l:fe} {g:Ó} (h:∀w₁,fH l l.w w₁->Stop {l with w:=w₁} g):fi P main Stop l g
 |jv {l:fe} {g:Ó} (G':È->Ó) (W':È->È) (E':È->Array Ĉ) (L':È->fe) (iH:g.status=Ñ)
  (h:∀w₁,fH l l.w w₁->Ý P main g w₁=bz (G' w₁) (W' w₁) (E' w₁)) (hd:∀w₁,fH l l.w w₁->mr l (L' w₁) w₁ (W' w₁) (E' w₁))
  (ih:∀w₁,fH l l.w w₁->fi P main Stop (L' w₁) (G' w₁)):fi P main Stop l g
instance:Nonempty fe:=⟨⟨λ_=>False,λ_=>False,λ_=>False,λ_=>False,λ_=>False,0,False,default⟩⟩
instance:Nonempty (Goroutine×World×Array Event×fe):=⟨(default,default,#[],Classical.choice inferInstance)⟩
section
variable{main:Bool}{Stop m:Jd}
def fi.mk{l:fe}(i:g.status=Ñ) (h:∀a,fH l l.w a->∃b c d e,Ý P main g a=bz b c d/\mr l e a c d/\fi P main Stop e b):fi P main Stop l g:=by
 let p:=λ(a:È) (x:Goroutine×World×Array Event×fe)=>Ý P main g a=bz x.1 x.2.1 x.2.2.1/\mr l x.2.2.2 a x.2.1 x.2.2.1/\fi P main Stop x.2.2.2 x.1
 have f:∀a,fH l l.w a->p a (Classical.epsilon<|p a):=λa r=>Classical.epsilon_spec (let⟨b,c,d,e,h⟩:=h a r;⟨(b,c,d,e),h⟩);exact .jv (λa=>(Classical.epsilon<|p a).1) (λa=>(Classical.epsilon<|p a).2.1) (λa=>(Classical.epsilon<|p a).2.2.1) (λa=>(Classical.epsilon<|p a).2.2.2) i (λa r=>(f a r).1) (λa r=>(f a r).2.1) λa r=>(f a r).2.2
def fi.jL{l:fe}{w₁:È}(h:fi P main Stop l g)(r:fH l l.w w₁):fi P main Stop {l with w:=w₁} g:=by
 have e:∀{a b:È},fH {l with w:=w₁} a b->fH l a b:=λq=>⟨q.r,q.I,q.N,q.Y,q.S⟩;cases h with
 |fB h=>exact .fB λc d=>h c<|r.fg<|e d
 |jv f i j m n h o p=>
  exact .jv f i j m n (λc d=>h c<|r.fg<|e d) (λc d=>let q:=o c<|r.fg<|e d;⟨q.C,q.S,q.fx,q.I,q.r,q.M,q.k,q.jR,q.N,q.Y,q.f,q.g,q.m,q.c,q.h,q.q,q.i,q.b⟩) λc d=>p c<|r.fg<|e d
def fi.fN(a:∀l g,Stop l g->m l g){l:fe}(h:fi P main Stop l g):fi P main m l g:=by
 induction h with
 |fB h=>exact .fB λb r=>a _ _<|h b r
 |jv b r c d e h f _ i=>exact .jv b r c d e h f i
def fi.fg{l:fe}(h:fi P main (fi P main Stop) l g):fi P main Stop l g:=by
 induction h with
 |fB h=>exact h _<|fH.fT _ _
 |jv a b c d e h f _ i=>exact .jv a b c d e h f i
def fi.lN(a:∀l g,Stop l g->fi P main m l g){l:fe}(h:fi P main Stop l g):fi P main m l g:=(h.fN a).fg
end
inductive gu where
 |fB:gu
 |jv (k:È->gu):gu
def Xo(x:gu):gu->Prop
 |.fB=>False
 |.jv k=>∃w,x=k w
def Xp:WellFounded Xo:=⟨λa=>by
 induction a with
 |fB=>exact⟨_,λy h=>h.elim⟩
 |jv k b=>exact⟨_,λy ⟨w,h⟩=>h▸b w⟩⟩
def kV(P:Ø)(b:Bool)(c:Jd):gu->Jd
 |.fB,l,g=>∀a,fH l l.w a->c {l with w:=a} g
 |.jv k,l,g=>g.status=Ñ/\∀a,fH l l.w a->∃d e f h,Ý P b g a=bz d e f/\mr l h a e f/\kV P b c (k a) h d
section
variable{main:Bool}{Stop:Jd}
def jj{l:fe}(h:fi P main Stop l g):∃tr,kV P main Stop tr l g:=by
 induction h with
 |fB h=>exact⟨.fB,h⟩
 |@jv l g G' W' E' L' iH h hd _ ih=>
  have b:∀a,∃tr,fH l l.w a->kV P main Stop tr (L' a) (G' a):=by
   intro a;by_cases r:fH l l.w a
   .let⟨tr,q⟩:=ih a r;exact⟨tr,λ_=>q⟩
   .exact⟨.fB,λq=>absurd q r⟩
  refine⟨.jv λa=>Classical.choose<|b a,iH,λa r=>⟨G' a,W' a,E' a,L' a,h a r,hd a r,Classical.choose_spec (b a) r⟩⟩
end
def afQ{l:fe}{c:Nat->Prop}(d:∀j,X j->l.O j)(f:∀j,c j->l.I j){e:Ĉ}(h:KF X c e):yz l e:=by
 rcases h with⟨a,g,i,b⟩|h|h
 .refine Æ ⟨a,g,?_⟩;rcases b with b|⟨b,k⟩
  .exact Æ<|d _ b
  .exact Í<|Í ⟨Æ<|f _ b,k,i⟩
 .exact Í<|Æ h
 .exact Í<|Í<|Æ h
def afR{b:Nat->Prop}(h:∀e∈V,KF X b e)(d:Nat):Ε d V=d:=by
 refine bO (λe c=> ?_) d;rcases h e c with⟨a,g,_⟩|h|⟨f,h⟩
 .rw[g];exact⟨fj,fj⟩
 .rw[h];exact⟨fj,fj⟩
 .rw[h];exact⟨fj,fj⟩
def gK{w':È}(h:w'.heap[a.block]?=w.heap[a.block]?):w'.cell? a=w.cell? a:=by unfold Ĭ;rw[h]
def wT(h:u.heap[a.block]?=w.heap[a.block]?):u.frozen? a=w.frozen? a:=by unfold ĉ;rw[h]
def afS{t:(Nat->Prop)->Ó->È->Prop}{O:Nat->Prop}(h:vl P yQ X t O g w):∀l:fe,l.w=w->(∀j,O j->l.O j)->(∀j,X j->l.I j)->(∀j,l.O j->j<w.heap.size)->¬l.q-> fi P yQ (λa b=>∃f,t f b a.w/\(∀j,O j->f j)/\(∀j,f j->a.O j)/\(∀j,l.O j->a.O j)/\(∀j,a.O j->l.O j\/f j)/\(∀j,a.O j->l.O j\/w.heap.size<=j)/\a.I=l.I/\a.r=l.r/\a.N=l.N/\a.d=l.d/\a.q=l.q/\a.K=l.K) l g:=by
 induction h with
 |@fB O g w h=>
  intro l e i m _ _;refine .fB λb r=>⟨O,h b ⟨by rw[<-e];exact r.r,λj c=>by rw[r.I j (c.elim (λq=>Æ<|i j q) λq=>Í<|m j q),e]⟩,λ_ q=>q,i,λ_ q=>q,λ_ q=>Æ q,λ_ q=>Æ q,U,U,U,U,U,U⟩
 |@jv O g w G' W' E' f iH h hd _ ih=>
  intro l e i m C u;refine .mk iH λb r=> ?_;have n:yv (λj=>O j\/X j) w b:=⟨by rw[<-e];exact r.r,λj c=>by rw[r.I j (c.elim (λq=>Æ<|i j q) λq=>Í<|m j q),e]⟩;have D:=hd b n;have o:=n.r;have v:∀j,(l.O j\/f b j)->j<(W' b).heap.size:=λj c=>c.elim (λq=>Ô (C j q)<|ö o D.r)<|D.fx j;have p:∀j,j<b.heap.size->¬l.O j->(W' b).heap[j]?=b.heap[j]?:=λj c k=>D.jR j c λq=>k<|i j q;refine⟨G' b,W' b,E' b,{l with O:=λj=>l.O j\/f b j,w:=W' b},h b n,⟨D.r,λj c=>c.elim Æ λq=>(D.I j q).imp (i j) id,v,U,U,U,U,λj c k _=>p j c k,λa s k _=>gK<|p _ s k,λa s k=>wS<|p _ s k,D.N,D.S,D.Y,λx E=>afQ (l:={l with O:=λj=>l.O j\/f b j,w:=W' b}) (λj q=>Í q) m<|D.C x E,(afR D.C _).symm,U,λq=>absurd q u,U⟩,?_⟩;have:=ih b n {l with O:=λj=>l.O j\/f b j,w:=W' b} U (λj q=>Í q) m v u;apply this.fN;rintro N Q ⟨F,G,B,H,I,J,L,M⟩;refine⟨F,G,λj q=>B j<|D.M j q,H,λj q=>I j<|Æ q,λj q=> ?_,λj q=> ?_,M⟩
  .rcases J j q with(z|z)|z
   .exact Æ z
   .exact Í<|B j z
   .exact Í z
  .rcases L j q with(z|z)|z
   .exact Æ z
   .rcases D.I j z with y|y
    .exact Æ<|i j y
    .exact Í<|ö o y
   .exact Í<|ö (ö o D.r) z
def ku(a:Ü):Ĉ:=⟨Ć a,Â,Ë⟩
def mO(a:Ü):Ĉ:=⟨Ć a,Ë,Ë⟩
def jw(m:Mark):Ĉ:=⟨Η m,Â,Ë⟩
def fY:Int:=4294967296
def Ex(c:Nat):Array Ĉ:=#[⟨.obj c,Â,Ë⟩,⟨.obj c,Ë,Ë⟩]
section
variable(P:Ø)(main:Bool)
def Hf(m:Mark)(N:Jd):Jd:=λl g=>g.status=Ñ/\∃a,(∀b,Ý P main g b=bz a b #[jw m])/\fi P main N l a
def Xq(a:Ü)(N:Int->Jd):Jd:=λl g=>g.status=Ñ/\∀v,∃c,(∀b:È,b.cell? a=À (ē ë v)->Ý P main g b=bz c b #[ku a])/\fi P main (N v) l c
def PQ(a:Ü)(d:Int)(N:Int->Jd):Jd:=λl g=>g.status=Ñ/\∀v,∃c,(∀b:È,b.cell? a=À (ē ë v)->b.frozen? a=Â->Ý P main g b=bz c (b.setCell a<|ē ë<|ë.wrap<|v+d) #[ku a,mO a])/\N (ë.wrap<|v+d) l c
def afT(a:Ü)(v:Int)(N:Jd):Jd:=λl g=>g.status=Ñ/\∃c,(∀(b:È) (x:Int),b.cell? a=À (ē ë x)->b.frozen? a=Â->Ý P main g b=bz c (b.setCell a<|ē ë v) #[mO a])/\fi P main N l c
def afU(a:Ü)(N:Jd):Jd:=λl g=>g.status=Ñ/\g.offers=í/\(∀b:È,b.cell? a=À (ē ū 0)->Ý P main g b=bz {g with status:=Ζ} b #[])/\
 ∃c,(∀(b:È) (n:Int),n≠0->b.cell? a=À (ē ū n)->b.frozen? a=Â->Ý P main g b=bz c (b.setCell a<|ē ū<|n-1) (semEvents a))/\fi P main N l c
def afV(a:Ü)(N:Jd):Jd:=λl g=>g.status=Ñ/\mayWake P g=Ë/\∃c,c.status=Ñ/\(∀(b:È) (n:Int),b.cell? a=À (ē ū n)->b.frozen? a=Â->Ý P main g b=bz c (b.setCell a<|ē ū<|ū.wrap<|n+1) (semEvents a))/\N l c
def wU(c:Nat)(z:Ã)(N:Option Ã->Jd):Jd:=λl g=>g.status=Ñ/\g.offers=í/\(∀x,Ý P main g x=.comm g #[aj c z] Ë (.recv Ë) x #[])/\
 ∀x:Option Ã,fi P main (N x) l {g with frame:=g.frame.finish (ζ #[x.getD z,ō x.isSome])}
def AK(c:Nat)(v:Ã)(N:Jd):Jd:=λl g=>g.status=Ñ/\g.offers=í/\(∀a,∃b,Ý P main g a=.comm g #[scase c v b] Ë .send a #[])/\fi P main N l {g with frame:=g.frame.finish Ŏ}
def KT(c:Nat)(N:Jd):Jd:=λl g=>g.status=Ñ/\mayWake P g=Ë/\∃a,a.status=Ñ/\(∀(b:È) cap buf s r tm,b.heap[c]?=À (aD cap buf Â s r tm)->Ý P main g b=bz a (b.setChan c cap buf Ë s r tm) (Ex c))/\fi P main N l a
def oD(n:Nat):Jd:=λl g=>QuitsD P n l.d g
inductive SP where
 |gd (n:Nat)
 |ld (v:Int) (m:Nat)
def Ey(a:Ü)(B:Nat)(d e:Int->Jd)(p:SP):Jd:=λl g=>∃T:SP->Ó->Prop,T p g/\∀p g,T p g->g.status=Ñ/\match p with
 |.gd (n+1)=>n+1<=B/\(T (.gd 0) g\/∀b,∃c,Ý P main g b=bz c b #[]/\T (.gd n) c)
 |.gd 0=>∀v,∃c,(∀b:È,b.cell? a=À (ē ë v)->Ý P main g b=bz c b #[ku a])/\(if 0<=v/\v<fY then v<1000000->fi P main (d v) l c else(fY<=v/\v<fY*2147483648/\v%fY<1000000)->∃m,m<=B/\T (.ld v m) c)
 |.ld v (m+1)=>fY<=v/\m+1<=B/\(T (.ld v 0) g\/∀b,∃c,Ý P main g b=bz c b #[]/\T (.ld v m) c)
 |.ld v 0=>fY<=v/\(∃c,(∀b:È,b.cell? a=À (ē ë v)->b.frozen? a=Â->Ý P main g b=bz c (b.setCell a<|ē ë<|ë.wrap<|v+1) #[ku a,mO a])/\fi P main (e v) l c)/\
  ∃c,(∀(b:È) (x:Int),x≠v->b.cell? a=À (ē ë x)->b.frozen? a=Â->Ý P main g b=bz c b #[ku a])/\∃n,n<=B/\T (.gd n) c
end
section
variable{P:Ø}{main:Bool}
def KU{e f:Int->Jd}{p:SP}{l:fe}{w₁:È}(h:Ey P main a i e f p l g)(r:fH l l.w w₁):Ey P main a i e f p {l with w:=w₁} g:=by
 let⟨T,o,h⟩:=h;refine⟨T,o,λp g j=>⟨(h p g j).1,?_⟩⟩;have:=(h p g j).2;match p,this with
 |.gd (n+1),q=>exact q
 |.gd 0,q=>
  intro v;let⟨c,d,b⟩:=q v;refine⟨c,d,?_⟩;by_cases k:0<=v/\v<fY
  .rw[if_pos k]at b|-;exact λq=>(b q).jL r
  .rw[if_neg k]at b|-;exact b
 |.ld v (m+1),q=>exact q
 |.ld v 0,⟨q0,⟨c,d,b⟩,q⟩=>exact⟨q0,⟨c,d,b.jL r⟩,q⟩
end
inductive iz where
 |no|iA|sN (c:Nat) (z:Ã)
inductive wV(g0:Ó):iz->Ó->Prop
 |gk {k:iz}:wV g0 k g0
 |nT (h:g0.status=Ñ) (ho:g0.offers=í):wV g0 .iA {g0 with status:=Ζ}
 |tM (c:Nat) (z:Ã) (h:g0.status=Ñ):wV g0 (.sN c z) (κ g0 #[aj c z]<|.recv Ë)
 |nn (c:Nat) (z:Ã) (h:g0.status=Ñ):wV g0 (.sN c z) {κ g0 #[aj c z] (.recv Ë)with status:=Ñ}
section
variable{P:Ø}
def afW(h:g.status=Ñ\/g.status=Ī)(w:È):g.again w=g:=by unfold ak;rcases h with h|h<;>rw[h]
def PU{a o:Ó}(h:o.status=Ñ\/o.status=Ī):Ź P g a w o=o:=by
 unfold Ź;split
 .exact afW h _
 .rfl
def wV.Hg{g0 a b:Ó}{k:iz}(h:wV g0 k g)(d:g0.status=Ñ\/g0.status=Ī):wV g0 k (Ź P a b w g):=by
 cases h with
 |gk=>rw[PU d];exact .gk
 |nT h c=>
  unfold Ź;split
  .have:ak w {g0 with status:=Ζ}=g0:=by
    let⟨z,e,st,f,i⟩:=g0;simp only at h c;subst h c;rfl
   rw[this];exact .gk
  .exact .nT h c
 |tM c z h=>
  unfold Ź;split
  .unfold ak κ;simp only[];split
   .exact .nn c z h
   .exact .tM c z h
  .exact .tM c z h
 |nn c z h=>
  rw[PU<|Æ U];exact .nn c z h
end
structure gL(P:Ø)(B0:Nat)(Y:Nat->Prop)(S:Nat->Jd)(tr:Nat->gu)(kp:Nat->iz)(lot:Nat->fe)(gs:Array Ó)(w:È)(t:ī):Prop where
 r:iQ B0 (λi=>i<gs.size) Y lot w t
 C:∀i g,gs[i]?=À g->∃g0,kV P (i==0) (S i) (tr i) (lot i) g0/\wV g0 (kp i) g/\(g0.status=Ñ\/g0.status=Ī)/\(g=g0\/tr i=.fB)
 I:∀j,gs.size<=j->ψ t j=0
def fw{α:Type}(f:Nat->α)(i:Nat)(x:α):Nat->α:=λk=>if k=i then x else f k
def gB{α:Type}(f:Nat->α)(i:Nat)(x:α):fw f i x i=x:=if_pos U
def fI{α:Type}(f:Nat->α)(x:α)(h:k≠i):fw f i x k=f k:=if_neg h
section
variable{P:Ø}{B0:Nat}{Y:Nat->Prop}{S:Nat->Jd}{tr:Nat->gu}{kp:Nat->iz}{lot:Nat->fe}{gs:Array Ó}{w':È}{t:ī}{sl:Option (Nat×Nat)}
def PV{a:Ó}(b:gs[i]?=À g)(h:Ý P (i==0) g w=bz a w' V): ∃gs',dz P (Ņ gs w sl) i=(Ś<|Ņ gs' w' sl,Ï i g.frame.fn g.frame.place V)/\gs'.size=gs.size/\gs'[i]?=À a/\∀k,k≠i->gs'[k]?=gs[k]?.map (Ź P g a w'):=by refine⟨_,runT_crowd_go b h,fj,by simp[(Ä.1 b).1],λk c=> ?_⟩;rw[É<|Ă c,Array.getElem?_map]
def gL.at(a:gL P B0 Y S tr kp lot gs w t)(d:Nat):gL P B0 Y S tr kp lot gs (w.at d) t:=⟨a.r.at d,a.C,a.I⟩
def gL.Xr(h:gL P B0 Y S tr kp lot gs w t){b:Ó}{J:Jd}{T:gu}{K:iz}{d:fe}(l:gs[i]?=À g)(p:Ý P (i==0) g w=bz b w' V) (q:iQ B0 (λi=>i<gs.size) Y (gq lot i d) w' (t++Ï i g.frame.fn g.frame.place V)) (hF:kV P (i==0) J T d b) (r:b.status=Ñ\/b.status=Ī): ∃a,dz P (Ņ gs w sl) i=(Ś<|Ņ a w' sl,Ï i g.frame.fn g.frame.place V)/\a.size=gs.size/\a[i]?=À b/\(∀k,k≠i->a[k]?=gs[k]?.map (Ź P g b w'))/\ gL P B0 Y (fw S i J) (fw tr i T) (fw kp i K) (gq lot i d) a w' (t++Ï i g.frame.fn g.frame.place V):=by
 obtain⟨a,s,m,n,o⟩:=PV l p;have C:=(Ä.1 l).1;refine⟨a,s,m,n,o,?_,λk x c=> ?_,λj D=> ?_⟩
 .rwa[show(λi=>i<a.size)=(λi=>i<gs.size) by rw[m]]
 .by_cases e:k=i
  .subst e;rw[n]at c;obtain rfl:=Ą c;rw[gB,gB,gB,gT];exact⟨b,hF,.gk,r,Æ U⟩
  .rw[o k e]at c;obtain⟨y,u,rfl⟩:=Đ.1 c;rw[fI S _ e,fI tr _ e,fI kp _ e,gF lot _ e];let⟨g0,v,z,f,B⟩:=h.C k y u;refine⟨g0,v,z.Hg f,f,B.imp (λe=> ?_) id⟩;subst e;exact PU f
 .rw[PO Z t oa];exact h.I j Z
def afX{J:Jd}{k:È->gu}{l:fe}(h:kV P yQ J (.jv k) l g):g.status=Ñ:=h.1
def gL.fq(f:gL P B0 Y S tr kp lot gs w t){k:È->gu}(m:gs[i]?=À g)(n:tr i=.jv k)(s:∀l g,S i l g->g.status=Ñ\/g.status=Ī): ∃c w' d h,dz P (Ņ gs w sl) i=(Ś<|Ņ c w' sl,Ï i g.frame.fn g.frame.place d)/\c.size=gs.size/\(∃b,c[i]?=À b/\(b.status=Ñ\/b.status=Ī))/\(∀k,k≠i->∃a j:Ó,c[k]?=gs[k]?.map (Ź P a j w'))/\mr (lot i) h w w' d/\ gL P B0 Y S (fw tr i<|k w) kp (gq lot i h) c w' (t++Ï i g.frame.fn g.frame.place d):=by
 have o:=(Ä.1 m).1;let⟨g0,hF,F,_,u⟩:=f.C i g m;obtain rfl:g=g0:=u.resolve_right (by rw[n];simp);rw[n]at hF;let⟨G,hF⟩:=hF;let⟨b,w',d,h,v,p,e⟩:=hF w<|f.r.r i o;have q:b.status=Ñ\/b.status=Ī:=by
  cases j:k w with
  |fB=>rw[j]at e;exact s _ _<|e _<|fH.fT _ _
  |jv r=>rw[j]at e;exact Æ e.1
 obtain⟨c,x,y,z,B,r⟩:=f.Xr m v (f.r.afO o p _ _) e q;refine⟨c,w',d,h,x,y,⟨b,z,q⟩,λj C=>⟨g,b,B j C⟩,p,?_⟩;have D:fw S i (S i)=S:=by funext j;unfold fw;split<;>simp[*]
 have E:fw kp i (kp i)=kp:=by funext j;unfold fw;split<;>simp[*]
 rwa[D,E]at r
def gL.qG(c:gL P B0 Y S tr kp lot gs w t){a:Ó}{J:Jd}{K:iz}{T:gu}(m:gs[i]?=À g)(n:Ý P (i==0) g w=bz a w' V)(o:pT (λi=>i<gs.size) Y lot w w') (hF:kV P (i==0) J T {lot i with d:=Ε (lot i).d V,w:=w'} a) (p:a.status=Ñ\/a.status=Ī) (j:∀e∈V,(∀b,(ì e).touch?=À b->He (λi=>i<gs.size) Y lot b)/\(ì e).low w.heap.size) (q:∀r,¬eY r (t++Ï i g.frame.fn g.frame.place V)): ∃gs',dz P (Ņ gs w sl) i=(Ś<|Ņ gs' w' sl,Ï i g.frame.fn g.frame.place V)/\gs'.size=gs.size/\gs'[i]?=À a/\(∀k,k≠i->gs'[k]?=gs[k]?.map (Ź P g a w'))/\ gL P B0 Y (fw S i J) (fw tr i T) (fw kp i K) (gq lot i {lot i with d:=Ε (lot i).d V,w:=w'}) gs' w' (t++Ï i g.frame.fn g.frame.place V):=by
 refine c.Xr m n (c.r.G (λk=> ?_) o (λh f b s=> ?_) (λh f=> ?_) q λk l=> ?_) hF p
 .by_cases e:k=i
  .subst e;rw[gT];exact⟨U,U,U,U,U,Í U⟩
  .rw[gF lot _ e];exact vr.fT _ _
 .obtain⟨e,h,rfl⟩:=ï f;exact(j e h).1 b s
 .obtain⟨e,h,rfl⟩:=ï f;exact(j e h).2
 .by_cases e:k=i
  .subst e;rw[gT,Deaf_own,c.r.f k l]
  .rw[gF lot _ e,PO e t oa];exact c.r.f k l
def gL.PW(h:gL P B0 Y S tr kp lot gs w t)(p:gs[i]?=À g)(x:i≠0)(l:g.status=Ñ)(q:kp i=.no)(y:tr i=.fB)(z:S i=oD P n): ∃c f b,n=b+1/\dz P (Ņ gs w sl) i=(Ś<|Ņ c w sl,Ï i g.frame.fn g.frame.place f)/\c.size=gs.size/\(∀k,k≠i->∃a e:Ó,c[k]?=gs[k]?.map (Ź P a e w))/\(∀e∈f,e.mute=Ë)/\ gL P B0 Y (fw S i<|oD P b) tr kp (gq lot i {lot i with d:=Ε (lot i).d f,w:=w}) c w (t++Ï i g.frame.fn g.frame.place f):=by
 let⟨g0,hF,r,L,_⟩:=h.C i g p;have B:g=g0:=by
  rw[q]at r;cases r with
  |gk=>rfl
 subst B;rw[y,z]at hF;have s:=hF w<|h.r.r i<|(Ä.1 p).1;cases n with
 |zero=>rw[s.1]at l;cases l
 |succ n=>
  rcases s with⟨C,_⟩|⟨_,D,f,a,E,u⟩
  .rw[C]at l;cases l
  have m:(i==0)=Â:=by simpa using x
  have F:fw kp i .no=kp:=by funext j;unfold fw;split<;>simp[*]
  have G:fw tr i .fB=tr:=by funext j;unfold fw;split<;>simp[*]
  obtain⟨c,H,I,_,K,v⟩:=h.qG (J:=oD P n) (T:=.fB) p (by rw[m];exact E w) (pT.fT _ _ _ _) (λ_ _=>u) u.status (λe o=>⟨λb m=>(by rw[eL<|a e o]at m;cases m),low_mute (a e o) _⟩) (AJ h.r.l λM b=>by obtain⟨e,o,rfl⟩:=ï b;exact eL<|a e o);rw[F,G]at v;exact⟨c,f,n,U,H,I,λk q=>⟨g,D,K k q⟩,a,v⟩
end
def wW(u:ī):Prop:=∀a∈u,a.act.touch?=í/\∀m,a.act≠Ŭ m
def afY(t:ī)(a:dA)(c:a.act≠Ŭ dh)(d:a.act≠Ŭ dR)(j:Nat):ψ (t.push a) j=ψ t j:=by
 have e:t.push a=t++#[a]:=fj
 unfold ψ;rw[e,show(t++#[a]).size=t.size+1 by simp];show(match(t++#[a])[t.size]? with
  |some {g:=h,act:=Ŭ dh, .. }=>if h=j then(t++#[a]).deaf j t.size+1 else(t++#[a]).deaf j t.size
  |some {g:=h,act:=Ŭ dR, .. }=>if h=j then(t++#[a]).deaf j t.size-1 else(t++#[a]).deaf j t.size
  |_=>(t++#[a]).deaf j t.size)=_
 have f:(t++#[a])[t.size]?=À a:=fj
 rw[f];let⟨g,i,k,l⟩:=a;simp only at c d;split
 .rename_i b;cases b;exact absurd U c
 .rename_i b;cases b;exact absurd U d
 .exact dm<|á _
def Xs(t:ī):∀(u:List dA),(∀a∈u,a.act≠Ŭ dh/\a.act≠Ŭ dR)->∀j,ψ (t++u.toArray) j=ψ t j
 |[],_,j=>by simp
 |a::u,h,j=>by
  have e:t++(a::u).toArray=(t.push a)++u.toArray:=by apply Array.ext';simp
  rw[e,Xs (t.push a) u (λx b=>h x<|by simp[b]) j];exact afY t a (h a fj).1 (h a fj).2 j
def KV{u:ī}(h:wW u)(j:Nat):ψ (qJ++u) j=ψ qJ j:=by have:=Xs qJ u.toList (λa b=>⟨(h a<|by simpa using b).2 _,(h a<|by simpa using b).2 _⟩) j;simpa using this
section
variable{S:Nat->Jd}{C:Nat->gu}{B:Nat->iz}{lot:Nat->fe}{u:ī}{sl:Option (Nat×Nat)}
def iQ.afZ{Live:Nat->Prop}(h:iQ i Live X lot w qJ)(f:pT Live X lot w W)(c:wW u)(g:∀a∈u,a.act.low w.heap.size):iQ i Live X lot W (qJ++u):= h.G (λk=>vr.fT _ _) f (λa d b e=>by rw[(c a d).1]at e;cases e) g (AJ h.l λa d=>(c a d).1) λk b=>by rw[KV c];exact h.f k b
def KW{Live:Nat->Prop}{r:Nat}{x:Bool}(y:X i)(p:w.heap[i]?=À (aD n d yQ j r x))(f g h:Nat)(l:Array Ã)(m o:Bool):pT Live X lot w (w.setChan i f l m g h o):=by
 have q:∀b,b≠i->(w.setChan i f l m g h o).heap[b]?=w.heap[b]?:=λb u=>by unfold aQ;simp only;exact É<|Ă u
 have v:(w.setChan i f l m g h o).heap[i]?=À (aD f l m g h o):=by unfold aQ;simp[(Ä.1 p).1]
 refine⟨by unfold aQ;simp,λb u=>q b λe=>u<|e▸y,λk _ a _=> ?_,λk _ a _=> ?_,λa t=> ?_⟩
 .by_cases e:a.block=i
  .unfold Ĭ;rw[e,v,p]
  .unfold Ĭ;rw[q _ e]
 .by_cases e:a.block=i
  .unfold ĉ;rw[e,v,p]
  .unfold ĉ;rw[q _ e]
 .by_cases e:a.block=i
  .unfold Ĭ at t;rw[e,p]at t;cases t
  .have:(w.setChan i f l m g h o).cell? a=w.cell? a:=by unfold Ĭ;rw[q _ e]
   rwa[this]
def gL.G(b:gL P i X S C B lot E w qJ){J:Jd}{T:gu}{K:iz}(d:n<E.size)(f:pT (λn=>n<E.size) X lot w W)(c:wW u)(h:∀l∈u,l.act.low w.heap.size) (hF:kV P (n==0) J T (lot n) g) (m:g.status=Ñ\/g.status=Ī): gL P i X (fw S n J) (fw C n T) (fw B n K) lot (E.setIfInBounds n g) W (qJ++u):=by
 refine⟨?_,λk x a=> ?_,λj o=> ?_⟩
 .rw[show(λj=>j<(E.setIfInBounds n g).size)=(λj=>j<E.size) by simp];exact b.r.afZ f c h
 .by_cases e:k=n
  .subst e;rw[Ò d]at a;obtain rfl:=Ą a;rw[gB,gB,gB];exact⟨_,hF,.gk,m,Æ U⟩
  .rw[É<|Ă e]at a;rw[fI S _ e,fI C _ e,fI B _ e];exact b.C k x a
 .rw[KV c];exact b.I j<|by simpa using o
def PX{γ δ:Type}{f:γ->List δ}:∀{l:List γ},(∀x∈l,f x=[])->l.flatMap f=[]
 |[],_=>rfl
 |x::l,h=>by rw[bC,h x fj,PX λy a=>h y (by simp[a])];rfl
def yA(r:Nat)(b:Bool)(g:Ó):Prop:=g.status=Ζ/\∃a d,g.offers=À (a,d)/\∃c∈a,(c.send.isSome==b)=Ë/\(match c.chan with|eN (À r')=>r'==r|_=>Â)=Ë
def Xt{r:Nat}{E:Array Ó}(h:∀(i:Nat) (g:Ó),E[i]?=À g->¬yA r yQ g):ξ E r yQ=[]:=by
 unfold ξ;refine PX λx f=> ?_;let⟨g,i⟩:=x;have j:E[i]?=À g:=by have b:=ŭ.1 f;rwa[Į]at b
 simp only[];split
 .rename_i d l m n;rw[aL,ω];intro y o a;let⟨c,k⟩:=y;have p:c∈d:=by
   have e:=ŭ.1 o;rw[Į]at e;exact Ö e
  simp only[ĕ]at a;exact h i g j ⟨m,d,l,n,c,p,a.1,by have:=a.2;revert this;cases c.chan<;>first|exact id|(rename_i q;cases q<;>exact id)⟩
 .rfl
def Xu{γ δ:Type}(f:γ×Nat->List δ):∀(L:List γ) (n h:Nat) (x:γ),(∀y k,k≠h->(y,k)∈L.zipIdx n->f (y,k)=[])->n<=h->L[h-n]?=À x->(L.zipIdx n).flatMap f=f (x,h)
 |[],n,h,x,_,_,hx=>by simp at hx
 |a::L,n,h,x,hf,hn,hx=>by
  rw[Ĺ,bC];by_cases e:h=n
  .subst e;have:a=x:=by simpa using hx
   subst this;rw[PX ?_,List.append_nil];intro y b;let⟨y,k⟩:=y;refine hf y k ?_ (by rw[Ĺ];exact õ _ b);have:=List.le_snd_of_mem_zipIdx b;simp only at this;omega
  .rw[hf a n Z (by rw[Ĺ];exact ð ..),List.nil_append];refine Xu f L (n+1) h x (λy k c b=>hf y k c<|by rw[Ĺ];exact õ _ b) Z ?_;have b:h-n=(h-(n+1))+1:=Z
   rw[b]at hx;simpa using hx
def af0{E:Array Ó}(o:E[n]?=À g)(p:g.status=Ζ)(r:g.offers=À (#[aj i z],.recv Ë))(s:∀(a:Nat) (b:Ó),a≠n->E[a]?=À b->¬yA i Â b):ξ E i Â=[(n,0)]:=by
 unfold ξ;have e:E.zipIdx.toList=E.toList.zipIdx:=fj
 rw[e];rw[Xu _ E.toList 0 n g (λy k t j=> ?_) (dT _) (by simpa using o)]
 .simp[p,r,aj]
 .have u:E[k]?=À y:=by
   rw[List.mem_zipIdx_iff_getElem?]at j;simpa using j
  simp only[];split
  .rename_i l v w B;rw[aL,ω];intro x C d;let⟨f,F⟩:=x;have D:f∈l:=by
    have m:=ŭ.1 C;rw[Į]at m;exact Ö m
   simp only[ĕ]at d;exact s k y t u ⟨w,l,v,B,f,D,d.1,by have:=d.2;revert this;cases f.chan<;>first|exact id|(rename_i q;cases q<;>exact id)⟩
  .rfl
def PY(h:(E.setIfInBounds i ph)[k]?=À g):g.status=Ī\/(k≠i/\E[k]?=À g):=by
 by_cases e:k=i
 .subst e;rw[ď]at h;simp only[if_true]at h;split at h
  .left;obtain rfl:=Ą h;rfl
  .cases h
 .rw[É<|Ă e]at h;exact Í ⟨e,h⟩
def gL.PZ(l:gL P i X S C B lot E w qJ)(c a:Nat):ξ (E.setIfInBounds a ph) c Ë=[]:=by
 refine Xt λk x m=> ?_;rintro⟨b,p,r,d,n,f,o,_⟩;rcases PY m with q|⟨_,q⟩
 .rw[q]at b;cases b
 .let⟨g0,_,g,j,_⟩:=l.C k x q;generalize B k=K at g;cases g with
  |gk=>rw[b]at j;rcases j with e|e<;>cases e
  |nT h e=>simp only[e]at d;cases d
  |tM e z h=>
   simp only[κ,ε,Prod.mk.injEq]at d;rw[<-d.1]at f;have:n=aj e z:=by simpa using f
   subst this;cases o
  |nn e z h=>cases b
def gL.P0(e:gL P i X S C B lot E w qJ){N:Option Ã->Jd}(f:E[n]?=À g)(k:g.status=Ñ)(l:B n=.sN j z)(m:C n=.fB)(o:S n=wU P (n==0) j z N): ∃a,kV P (n==0) (S n) (C n) (lot n) a/\a.status=Ñ/\a.offers=í/\Ý P (n==0) g w=.comm a #[aj j z] Ë (.recv Ë) w #[]/\∀x:Option Ã,fi P (n==0) (N x) (lot n) {a with frame:=a.frame.finish (ζ #[x.getD z,ō x.isSome])}:=by
 let⟨a,hF,b,_,_⟩:=e.C n g f;have p:=hF;rw[o,m]at hF;let⟨x,q,d,r⟩:=hF _<|fH.fT _ _;rw[l]at b;refine⟨a,p,x,q,?_,r⟩;cases b with
 |gk=>exact d w
 |tM j z h=>cases k
 |nn j z h=>rw[stepG_tries];rw[show({a with status:=Ñ}:Ó)=a by cases a;simp only at x;subst x;rfl];exact d w
def yD{g0:Ó}{a:Array CommCase}{b:CommShape}{ok:Bool}(c:g0.status=Ñ)(d:g0.offers=í):g0.finishComm P a b h v ok={g0 with frame:=g0.frame.finish (commResult a b h v ok)}:=by let⟨f,a,st,e,o⟩:=g0;simp only at c d;subst c d;rfl
def gL.np(e:gL P i X S C B lot E w qJ){N:Option Ã->Jd}(h:E[n]?=À g)(G:g.status=Ñ)(l:B n=.sN j z)(H:C n=.fB)(I:S n=wU P (n==0) j z N)(p:X j){r:Nat}{o:Bool}(q:w.heap[j]?=À (aD b d yQ m r o))(t:d[0]?=À v)(K:iz): ∃a u T f,dz P (Ņ E w sl) n=(Ś<|Ņ a (w.setChan j b (d.extract 1 d.size) yQ m (r+1) o) sl,u)/\a.size=E.size/\a[n]?=À f/\f.status=Ñ/\(∀k,k≠n->a[k]?=E[k]?)/\wW u/\ gL P i X (fw S n<|N<|À v) (fw C n T) (fw B n K) lot a (w.setChan j b (d.extract 1 d.size) yQ m (r+1) o) (qJ++u):=by
 have x:=(Ä.1 h).1;let⟨g0,_,f,y,J,L⟩:=e.P0 h G l H I;have D:d.getD 0 Ŏ=v:=by simp[ĳ,t]
 have M:=crowd_recv_buf (sl:=sl) h J q ((Ä.1 t).1)<|e.PZ j n;let⟨T,O⟩:=jj<|L<|À v;refine⟨_,_,T,{g0 with frame:=g0.frame.finish (ζ #[v,ō Ë])},M,fj,?_,f,λk l=>É<|Ă l,?_,?_⟩
 .rw[yD f y,D,Ò x];rfl
 .intro F a;simp[Ï]at a;rcases a with rfl|rfl<;>exact⟨U,fj⟩
 .rw[yD f y,D];refine e.G x (KW p q _ _ _ _ _ _) ?_ ?_ O<|Æ f
  .intro F a;simp[Ï]at a;rcases a with rfl|rfl<;>exact⟨U,fj⟩
  .intro F a;simp[Ï]at a;rcases a with rfl|rfl<;>exact e.r.N j p
def gL.je(e:gL P i X S C B lot E w qJ){N:Option Ã->Jd}(h:E[n]?=À g)(q:g.status=Ñ)(l:B n=.sN j z)(t:C n=.fB)(v:S n=wU P (n==0) j z N)(x:X j){r:Nat}(y:w.heap[j]?=À (aD b #[] Ë k r yQ))(K:iz): ∃d u T f,dz P (Ņ E w sl) n=(Ś<|Ņ d w sl,u)/\d.size=E.size/\d[n]?=À f/\f.status=Ñ/\(∀a,a≠n->d[a]?=E[a]?)/\wW u/\ gL P i X (fw S n<|N í) (fw C n T) (fw B n K) lot d w (qJ++u):=by
 have m:=(Ä.1 h).1;let⟨g0,_,f,o,D,F⟩:=e.P0 h q l t v;let⟨T,G⟩:=jj<|F í;refine⟨_,_,T,{g0 with frame:=g0.frame.finish (ζ #[z,ō Â])},crowd_recv_closed (sl:=sl) h D y<|e.PZ j n,fj,?_,f,λa l=>É<|Ă l,?_,?_⟩
 .rw[yD f o,Ò m];rfl
 .intro p d;simp[Ï]at d;subst d;exact⟨U,fj⟩
 .rw[yD f o];refine e.G m (pT.fT _ _ _ _) ?_ ?_ G<|Æ f
  .intro p d;simp[Ï]at d;subst d;exact⟨U,fj⟩
  .intro p d;simp[Ï]at d;subst d;exact e.r.N j x
def gL.af2(f:gL P i X S C B lot E w qJ){N:Option Ã->Jd}(m:E[n]?=À g)(u:g.status=Ñ)(h:B n=.sN j z)(o:C n=.fB)(v:S n=wU P (n==0) j z N){r:Nat}(p:w.heap[j]?=À (aD b #[] Â k r yQ)): ∃d e,dz P (Ņ E w sl) n=(Ś<|Ņ d w sl,#[])/\d.size=E.size/\d[n]?=À e/\e.status=Ζ/\(∀a,a≠n->d[a]?=E[a]?)/\gL P i X S C B lot d w qJ:=by
 have q:=(Ä.1 m).1;let⟨g0,hF,t,G,y,H⟩:=f.P0 m u h o v;have D:=crowd_waits (sl:=sl) m y (λd e=>by
  have:d=aj j z:=by simpa using e
  subst this;exact⟨by simp[illMade,aj,p],by simp[ways,aj,p,f.PZ j n]⟩)
 refine⟨_,κ g0 #[aj j z]<|.recv Ë,?_,fj,Ò q,U,λa h=>É<|Ă h,?_,λa x l=> ?_,λd F=>f.I d<|by simpa using F⟩
 .rw[D];rfl
 .rw[show(λd=>d<(E.setIfInBounds n<|κ g0 #[aj j z]<|.recv Ë).size)=(λd=>d<E.size) by simp];exact f.r
 .by_cases e:a=n
  .subst e;rw[Ò q]at l;obtain rfl:=Ą l;refine⟨g0,hF,?_,Æ t,Í o⟩;rw[h];exact .tM j z t
  .rw[É<|Ă e]at l;exact f.C a x l
def gL.iI(f:gL P i X S C B lot E w qJ){N:Jd}(h:E[n]?=À g)(l:B n=.no)(F:C n=.fB)(G:S n=AK P (n==0) b v N)(p:X b){r:Nat}(t:w.heap[b]?=À (aD m d Â J r yQ))(H:d.size<m) (I:∀(k:Nat) (x:Ó),E[k]?=À x->¬yA b Â x): ∃e u T a,dz P (Ņ E w sl) n=(Ś<|Ņ e (w.setChan b m (d.push v) Â (J+1) r yQ) sl,u)/\e.size=E.size/\e[n]?=À a/\a.status=Ñ/\(∀k,k≠n->e[k]?=E[k]?)/\wW u/\ gL P i X (fw S n N) (fw C n T) B lot e (w.setChan b m (d.push v) Â (J+1) r yQ) (qJ++u):=by
 have y:=(Ä.1 h).1;let⟨g0,hF,z,_,_⟩:=f.C n g h;rw[l]at z;cases z with
 |gk=>
  rw[G,F]at hF;let⟨a,D,o,K⟩:=hF _<|fH.fT _ _;let⟨V,o⟩:=o w;have L:ξ (E.setIfInBounds n ph) b Â=[]:=Xt λk x M=>by
   rcases PY M with q|⟨_,q⟩
   .rintro⟨e,_⟩;rw[q]at e;cases e
   .exact I k x q
  let⟨T,O⟩:=jj K;have Q:fw B n .no=B:=by funext j;unfold fw;split<;>simp[*]
  refine⟨_,_,T,{g with frame:=g.frame.finish Ŏ},crowd_send_room (sl:=sl) h o t H L,fj,?_,a,λk l=>É<|Ă l,?_,?_⟩
  .rw[yD a D,Ò y];rfl
  .intro q e;simp[Ï]at e;rcases e with rfl|rfl<;>exact⟨U,fj⟩
  .rw[yD a D,<-Q];refine f.G y (KW p t _ _ _ _ _ _) ?_ ?_ O<|Æ a
   .intro q e;simp[Ï]at e;rcases e with rfl|rfl<;>exact⟨U,fj⟩
   .intro q e;simp[Ï]at e;rcases e with rfl|rfl<;>exact f.r.N b p
def gL.af3(o:gL P i X S C B lot E w qJ){p:Ó}{N:Jd}{D:Option Ã->Jd}(F:E[n]?=À g)(f:B n=.no)(ht:C n=.fB)(hs:S n=AK P (n==0) b v N)(L:X b){r:Nat}(M:w.heap[b]?=À (aD J d Â j9 r yQ)) (G:j≠n) (t:E[j]?=À p) (O:p.status=Ζ) (KX:B j=.sN b z) (P1:C j=.fB) (KY:S j=wU P (j==0) b z D) (K:iz) (hp:∀(k:Nat) (x:Ó),k≠j->E[k]?=À x->¬yA b Â x): ∃e u T y h q,dz P (Ņ E w sl) n=(Ś<|Ņ e (w.setChan b J d Â (j9+1) (r+1) yQ) sl,u)/\e.size=E.size/\e[n]?=À h/\h.status=Ñ/\e[j]?=À q/\q.status=Ñ/\(∀k,k≠n->k≠j->e[k]?=E[k]?)/\wW u/\ gL P i X (fw (fw S j<|D<|À v) n N) (fw (fw C j y) n T) (fw (fw B j K) n .no) lot e (w.setChan b J d Â (j9+1) (r+1) yQ) (qJ++u):=by
 have Q:=(Ä.1 F).1;have V:=(Ä.1 t).1;let⟨g0,hF,W,_,_⟩:=o.C n g F;let⟨a,Y,Xv,atl,_⟩:=o.C j p t;rw[f]at W;rw[KX]at Xv;cases W with
 |gk=>
  rw[hs,ht]at hF;let⟨H,h2,I,h4⟩:=hF _<|fH.fT _ _;let⟨z',I⟩:=I w;rw[KY,P1]at Y;let⟨l,k2,k3,k4⟩:=Y _<|fH.fT _ _;have Ez:p=κ a #[aj b z] (.recv Ë):=by
   cases Xv with
   |gk=>rw[O]at l;cases l
   |tM _ _ h=>rfl
   |nn _ _ h=>cases O
  subst Ez;have hpn:ξ (E.setIfInBounds n ph) b Â=[(j,0)]:=af0 (by rwa[É<|Ă G]) U U λk x f hx=>by
   rcases PY hx with q|⟨_,q⟩
   .rintro⟨e,_⟩;rw[q]at e;cases e
   .exact hp k x f q
  have P3:=crowd_send_meets (sl:=sl) F I M G t hpn;let⟨T,hT⟩:=jj h4;let⟨y,hTj⟩:=jj<|k4<|À v;rw[yD H h2,yD l k2]at P3;have q:∀{h:dA},h∈Ï n g.frame.fn g.frame.place #[]++#[{g:=n,fn:=g.frame.fn,pos:=g.frame.place,act:=.send b j9},{g:=j,fn:=a.frame.fn,pos:=a.frame.place,act:=.recv b r J},{g:=n,fn:=g.frame.fn,pos:=g.frame.place,act:=.sendDone b j9},{g:=j,fn:=a.frame.fn,pos:=a.frame.place,act:=.recvDone b r}]->(h.act.touch?=í/\∀m,h.act≠Ŭ m)/\h.act.low w.heap.size:=by intro h e;simp[Ï]at e;rcases e with rfl|rfl|rfl|rfl<;>exact⟨⟨U,fj⟩,o.r.N b L⟩
  refine⟨_,_,T,y,{g with frame:=g.frame.finish Ŏ},{a with frame:=a.frame.finish (ζ #[v,ō Ë])},P3,fj,?_,H,?_,l,λk f tN=> ?_,λh e=>(q e).1,?_⟩
  .rw[Ò (by simpa using Q)];rfl
  .rw[É<|Ă G,Ò V];rfl
  .rw[É<|Ă f,É<|Ă tN]
  .have m:gL P i X (fw S j<|D<|À v) (fw C j y) (fw B j K) lot (E.setIfInBounds j {a with frame:=a.frame.finish (ζ #[v,ō Ë])}) w (qJ++#[]):=o.G V (pT.fT _ _ _ _) (λh e=>by simp at e) (λh e=>by simp at e) hTj<|Æ l;rw[Ě]at m;refine m.G (by simpa using Q) (KW L M _ _ _ _ _ _) (λh e=>(q e).1) (λh e=>(q e).2) hT<|Æ H
def gL.kQ(o:gL P i X S C B lot E w qJ){N:Jd}(I:E[n]?=À g)(K:B n=.no)(ht:C n=.fB)(hs:S n=KT P (n==0) J N)(L:X J)(hB:i<=J){r:Nat}(O:w.heap[J]?=À (aD j9 q Â j7 r yQ)): ∃t u T G,dz P (Ņ E w sl) n=(Ś<|Ņ t (w.setChan J j9 q Ë j7 r yQ) sl,u)/\t.size=E.size/\t[n]?=À G/\G.status=Ñ/\(∀k x,k≠n->E[k]?=À x->t[k]?=À (x.again<|w.setChan J j9 q Ë j7 r yQ))/\(∀l∈u,l.g=n)/\(∀l∈u,∀b,l.act.touch?=À b->b.loc=.obj J/\b.kind=Ũ)/\(∀l∈u,∀m,l.act≠Ŭ m)/\ gL P i X (fw S n N) (fw C n T) B (gq lot n {lot n with w:=w.setChan J j9 q Ë j7 r yQ}) t (w.setChan J j9 q Ë j7 r yQ) (qJ++u):=by
 have H:=(Ä.1 I).1;have Q:=o.r.N J L;let⟨g0,hF,V,_,_⟩:=o.C n g I;rw[K]at V;cases V with
 |gk=>
  rw[hs,ht]at hF;let⟨h1,h2,G,M,h4,h5⟩:=hF w<|o.r.r n H;have v:=KW (lot:=lot) (Live:=λn=>n<E.size) L O j9 j7 r q Ë yQ;have y:fH (lot n) w (w.setChan J j9 q Ë j7 r yQ):=⟨dS v.r.symm,λj hj=>v.jR j<|o.r.I n H j hj,λa z=>v.M n H a z,λa z=>v.N n H a z,λa _=>v.I a⟩;let⟨T,hT⟩:=jj<|h5.jL ⟨y.r,y.I,y.N,y.Y,y.S⟩;have W:Ε (lot n).d (Ex J)=(lot n).d:=bO (λe f=>by simp[Ex]at f;rcases f with rfl|rfl<;>exact⟨fj,fj⟩) _;have D:∀e∈Ex J,(∀b,(ì e).touch?=À b->b.loc=.obj J/\b.kind=Ũ)/\(ì e).low w.heap.size:=by
   intro e f;simp[Ex]at f;rcases f with rfl|rfl
   .exact⟨λb h=>by simp[ì,ċ]at h;subst h;exact⟨U,U⟩,Q⟩
   .exact⟨λb h=>by simp[ì,ċ]at h,Q⟩
  have e2:fw B n .no=B:=by funext j;unfold fw;split<;>simp[*]
  obtain⟨t,q1,q2,q3,q4,Y⟩:=o.qG I (h4 w j9 q j7 r yQ O) v (by rwa[W]) (Æ M) (λe f=>⟨λb h=>Í ⟨J,((D e f).1 b h).1,L,((D e f).1 b h).2⟩,(D e f).2⟩) (PL o.r.l oa λl F b h=>by obtain⟨e,f,rfl⟩:=ï F;let⟨z1,z2⟩:=(D e f).1 b h;refine Í (Í ⟨z2,λp a z hl rC=> ?_⟩);have:=o.r.s p a J z (by rw[hl,z1]) rC;omega);rw[W,e2]at Y;refine⟨t,_,T,G,q1,q2,q3,M,λk x K p=> ?_,oa,λl F b h=> ?_,λl F=> ?_,Y⟩
  .rw[q4 k K,p];simp only[Ů,ε];unfold Ź;rw[if_pos (by simp[h2,M])]
  .obtain⟨e,f,rfl⟩:=ï F;exact(D e f).1 b h
  .obtain⟨e,f,rfl⟩:=ï F;simp[Ex]at f;intro m;rcases f with rfl|rfl<;>simp[ì]
end
def fM(b:Nat):Ü:=⟨b,0,í⟩
def gP(b:Nat):Ü:=⟨b,1,í⟩
inductive GS where
 |cl (c reg:Nat)
 |jE (reg:Nat)
 |gV (r s:Nat)
def GS.st:GS->Int
 |.cl c a=>c*fY+a
 |.jE a=>a
 |.gV _ _=>0
def GS.sm:GS->Int
 |.gV _ s=>s
 |_=>0
def GS.ok:GS->Prop
 |.cl c r=>c<1000000/\r<1000000/\(c=0->r=0)
 |.jE r=>0<r/\r<1000000
 |.gV r s=>r+s<1000000
structure hD(w:È)(b:Nat)(G:GS):Prop where
 C:w.cell? (fM b)=À (ē ë G.st)
 M:w.cell? (gP b)=À (ē ū G.sm)
 I:w.frozen? (fM b)=Â
 N:w.frozen? (gP b)=Â
 r:G.ok
def tO(h:w.cell? a=À x):(w.setCell a v).cell? a=À v:=by
 unfold Ĭ at h|-;unfold Ā;cases b:w.heap[a.block]? with
 |none=>rw[b]at h;cases h
 |some o=>
  rw[b]at h;cases o with
  |cells c e f=>
   simp only at h;by_cases d:a.spot.isSome
   .simp[d]at h
   .simp only[d]at h;simp[à,b,d,((Ä.1<|by simpa using h).1)]
  |_=>cases h
def yE(h:a.block≠p.block\/a.off≠p.off):(w.setCell a v).cell? p=w.cell? p:=by
 unfold Ĭ Ā;simp only[à];by_cases e:a.block=p.block
 .simp only[e,if_true];cases g:w.heap[p.block]? with
  |none=>rfl
  |some o=>
   cases o with
   |cells c t f=>
    simp only[Ů];by_cases d:a.spot.isSome
    .simp[d]
    .simp[d,É (h.resolve_left λq=>q e)]
   |_=>rfl
 .simp[e]
def P4:kP (w.setCell a v) b=kP w b:=by
 unfold kP Ā;simp only[à];by_cases e:a.block=b
 .rw[if_pos e];cases w.heap[b]? with
  |none=>rfl
  |some o=>cases o<;>rfl
 .rw[if_neg e]
def sP:(w.setCell a v).frozen? p=w.frozen? p:=by
 unfold ĉ Ā;simp only[à];by_cases e:a.block=p.block
 .simp only[e,if_true];cases c:w.heap[p.block]? with
  |none=>rfl
  |some o=>cases o<;>rfl
 .simp[e]
def ll(h:j≠a.block):(w.setCell a v).heap[j]?=w.heap[j]?:=by unfold Ā;simp only[à];rw[if_neg<|Ă h]
def jO:(w.setCell a v).heap.size=w.heap.size:=by unfold Ā;simp
def yF(h:(w.cell? p).isSome=Ë):((w.setCell a v).cell? p).isSome=Ë:=by
 unfold Ĭ Ā at*;simp only[à];by_cases e:a.block=p.block
 .simp only[e,if_true];cases d:w.heap[p.block]? with
  |none=>rw[d]at h;cases h
  |some o=>
   rw[d]at h;cases o with
   |cells c t f=>
    simp only[Ů];by_cases g:p.spot.isSome
    .simp[g]at h
    .simp only[g]at h|-;by_cases i:a.spot.isSome
     .simp_all
     .simp_all
   |_=>cases h
 .simp only[e,if_false];exact h
def af4{Live Y:Nat->Prop}{d:Nat->fe}(i:Y a.block)(f:a.spot=í)(l:∀k,Live k->¬(d k).C a)(m:∀k,Live k->∀b,(d k).C b->b.spot=í):pT Live Y d w (w.setCell a v):=by
 refine⟨jO,λj n=>ll λe=>n<|e▸i,λk g b c=>yE ?_,λ_ _ _ _=>sP,λb c=>yF c⟩;by_cases e:a.block=b.block
 .right;intro h;have:=m k g b c;let⟨o,p,q⟩:=b;let⟨r,s,t⟩:=a;simp only at e h this f;subst e h this f;exact l k g c
 .exact Æ e
section
variable{b:Nat}{G:GS}
def hD.vt(h:hD w b G)(a:u.cell? (fM b)=w.cell? (fM b))(c:u.cell? (gP b)=w.cell? (gP b))(d:u.frozen? (fM b)=w.frozen? (fM b))(e:u.frozen? (gP b)=w.frozen? (gP b)):hD u b G:= ⟨a.trans h.C,c.trans h.M,d.trans h.I,e.trans h.N,h.r⟩
def hD.iR(h:hD w b G)(c:a.block≠b):hD (w.setCell a v) b G:= h.vt (yE<|Æ c) (yE<|Æ c) sP sP
def hD.KZ{G':GS}(h:hD w b G)(a:G'.sm=G.sm)(d:G'.ok)(e:c=G'.st):hD (w.setCell (fM b)<|ē ë c) b G':= ⟨by rw[tO h.C,e],by rw[yE (Í<|by simp[fM,gP]),h.M,a],by rw[sP,h.I],by rw[sP,h.N],d⟩
def hD.Xw{G':GS}(h:hD w b G)(a:G'.st=G.st)(d:G'.ok)(e:c=G'.sm):hD (w.setCell (gP b)<|ē ū c) b G':= ⟨by rw[yE (Í<|by simp[fM,gP]),h.C,a],by rw[tO h.M,e],by rw[sP,h.I],by rw[sP,h.N],d⟩
end
def K0(a:0<=h)(b:h<18446744073709551616):ë.wrap h=h:=by have:ë.wrap h=h%18446744073709551616:=rfl;rw[this];omega
def af5(a:4294967296<=h)(b:h<18446744073709551616):ë.wrap (h+18446744069414584320)=h-4294967296:=by have:ë.wrap (h+18446744069414584320)=(h+18446744069414584320)%18446744073709551616:=rfl;rw[this];omega
def af6(a:0<=h)(b:h<4294967296):ū.wrap h=h:=by have:ū.wrap h=h%4294967296:=rfl;rw[this];omega
def qH:Int:=18446744069414584320
def GS.jK:GS->GS
 |.cl (c+1) reg=>if c=0/\0<reg then .jE reg else .cl c reg
 |G=>G
section
variable{b:Nat}
def hD.af7(h:hD w b (.cl i 0))(a:i+1<1000000):ë.wrap ((GS.cl i 0).st+fY)=(GS.cl (i+1) 0).st/\hD (w.setCell (fM b)<|ē ë<|ë.wrap<|(GS.cl i 0).st+fY) b (.cl (i+1) 0):=by
 have e:ë.wrap ((GS.cl i 0).st+fY)=(GS.cl (i+1) 0).st:=by simp only[GS.st,fY];rw[K0 Z Z];omega
 exact⟨e,h.KZ (G':=.cl (i+1) 0) U ⟨a,Z,Z⟩ e⟩
def hD.jK(h:hD w b (.cl (i+1) n)):ë.wrap ((GS.cl (i+1) n).st+qH)=(GS.jK<|.cl (i+1) n).st/\hD (w.setCell (fM b)<|ē ë<|ë.wrap<|(GS.cl (i+1) n).st+qH) b (GS.jK<|.cl (i+1) n):=by
 let⟨f,a,g⟩:=h.r;have d:ë.wrap ((GS.cl (i+1) n).st+qH)=(i:Int)*fY+n:=by simp only[GS.st,fY,qH];rw[af5 Z Z];omega
 have e:ë.wrap ((GS.cl (i+1) n).st+qH)=(GS.jK<|.cl (i+1) n).st:=by
  rw[d];simp only[GS.jK];by_cases q:i=0/\0<n
  .rw[if_pos q];obtain⟨rfl,_⟩:=q;simp[GS.st]
  .rw[if_neg q];rfl
 refine⟨e,h.KZ ?_ ?_ e⟩
 .simp only[GS.jK];split<;>rfl
 .simp only[GS.jK];by_cases q:i=0/\0<n
  .rw[if_pos q];exact⟨q.2,a⟩
  .rw[if_neg q];exact⟨Z,a,λe=>by omega⟩
def hD.Xx(h:hD w b (.cl i n))(f:0<i)(a:n+1<1000000):ë.wrap ((GS.cl i n).st+1)=(GS.cl i<|n+1).st/\hD (w.setCell (fM b)<|ē ë<|ë.wrap<|(GS.cl i n).st+1) b (.cl i (n+1)):=by
 let⟨d,g,j⟩:=h.r;have e:ë.wrap ((GS.cl i n).st+1)=(GS.cl i<|n+1).st:=by simp only[GS.st,fY];rw[K0 Z Z];omega
 exact⟨e,h.KZ (G':=.cl i (n+1)) U ⟨d,a,λe=>by omega⟩ e⟩
def hD.Xy(h:hD w b (.jE i)):hD (w.setCell (fM b)<|ē ë 0) b (.gV i 0):= h.KZ (G':=.gV i 0) U (by have:=h.r;simp only[GS.ok]at this|-;omega) U
def hD.jD{r:Nat}(h:hD w b (.gV (r+1) i)):hD (w.setCell (gP b)<|ē ū<|ū.wrap<|(GS.gV (r+1) i).sm+1) b (.gV r (i+1)):=by have:=h.r;simp only[GS.ok]at this;refine h.Xw (G':=.gV r (i+1)) U (by simp only[GS.ok];omega) ?_;simp only[GS.sm];rw[af6 Z Z];omega
def hD.kv{r:Nat}(h:hD w b (.gV r (i+1))):hD (w.setCell (gP b)<|ē ū<|(GS.gV r<|i+1).sm-1) b (.gV r i):=by have:=h.r;simp only[GS.ok]at this;refine h.Xw (G':=.gV r i) U (by simp only[GS.ok];omega) ?_;simp only[GS.sm];omega
def hD.af8{G:GS}(h:hD w b G):(0<=G.st/\G.st<fY)↔∀c a,G=.cl c a->c=0:=by
 have d:=h.r;cases G with
 |cl c a=>
  let⟨r,s,f⟩:=d;simp only[GS.st,fY];constructor
  .intro q g i e;cases e;omega
  .intro q;have:=q c a U;subst this;omega
 |jE a=>simp only[GS.ok]at d;simp only[GS.st,fY];exact⟨λ_ _ _ e=>(by cases e),λ_=>by omega⟩
 |gV r s=>simp only[GS.st,fY];exact⟨λ_ _ _ e=>(by cases e),λ_=>by omega⟩
end
inductive jF where
 |jD|iD|gy (W:Nat)|jb (W:Nat)|iA (r:Nat)
inductive jk where
 |iW|lV (p:SP)|wr|kv|gy|kX
section
variable(P:Ø)(main:Bool)(B:Nat)(b:Nat)(J:Jd)
def Hh:Nat->Jd
 |0=>J
 |r+1=>λl g=>l.d=1/\afV P main (gP b) (match r with|0=>J|_=>fi P main<|Hh r) l g
def K1(W:Nat):Jd:=λl g=>l.d=1/\afT P main (fM b) 0 (Hh P main b J W) l g
def K2(W:Nat):Jd:=λl g=>l.d=1/\Xq P main (fM b) (λv=>if v=(W:Int)then K1 P main b J W else λ_ _=>True) l g
def P5:Jd:=λl g=>l.d=1/\PQ P main (fM b) qH (λs=>if s=0\/(fY<=s/\s<1000000*fY/\s%fY<1000000)then J else if 0<s/\s<1000000 then fi P main (K2 P main b J s.toNat)else λ_ _=>True) l g
def yH:Jd:=λl g=>l.d=0/\Hf P main (ń<|fM b) (P5 P main b J) l g
def EA:jF->Jd
 |.jD=>yH P main b J
 |.iD=>P5 P main b J
 |.gy W=>K2 P main b J W
 |.jb W=>K1 P main b J W
 |.iA r=>Hh P main b J r
def EB:Jd:=λl g=>l.d=0/\Hf P main (di<|fM b) J l g
def Xz:Jd:=λl g=>l.d=1/\Xq P main (fM b) (λv=>if v=0 then EB P main b J else λ_ _=>True) l g
def K3:Jd:=λl g=>l.d=1/\afU P main (gP b) (Xz P main b J) l g
def P7:Jd:=λl g=>l.d=1/\Hf P main (.write<|gP b) (K3 P main b J) l g
def P8(p:SP):Jd:=λl g=>l.d=1/\Ey P main (fM b) B (λ_=>EB P main b J) (λv=>if v%fY=0 then P7 P main b J else K3 P main b J) p l g
def qI:jk->Jd
 |.iW=>λl g=>∃k,k<=B/\P8 P main B b J (.gd k) l g
 |.lV p=>P8 P main B b J p
 |.wr=>P7 P main b J
 |.kv=>K3 P main b J
 |.gy=>Xz P main b J
 |.kX=>EB P main b J
end
section
variable{P:Ø}{Y:Nat->Prop}{S:Nat->Jd}{tr:Nat->gu}{m:Nat->iz}{lot:Nat->fe}{gs:Array Ó}{t:ī}
def iQ.C{Live:Nat->Prop}(h:iQ n Live Y lot w t)(J:Live i){l:fe}(u:∀b,l.O b->(lot i).O b) (x:∀b,l.I b->(lot i).M b\/(b<w.heap.size/\¬Y b/\(∀k,Live k->¬(lot k).O b)/\∀a:Ü,a.block=b->pd t i (Ć a))) (s:∀a,l.r a->(lot i).r a) (y:∀a,l.N a->(lot i).C a\/(Y a.block/\(∀k,Live k->¬(lot k).r a)/\pd t i (Ć a))) (D:l.K=(lot i).K) (E:l.d=(lot i).d) (F:l.w=w) (G:∀b,l.O b->¬l.I b) (H:∀a,l.r a->¬l.N a):iQ n Live Y (gq lot i l) w t:=by
 have v:∀b,l.M b->(lot i).M b\/(b<w.heap.size/\¬Y b/\(∀k,Live k->¬(lot k).O b)/\∀a:Ü,a.block=b->pd t i (Ć a)):=λb g=>g.elim (λq=>Æ<|Æ<|u b q)<|x b;have B:∀a,l.C a->(lot i).C a\/(Y a.block/\(∀k,Live k->¬(lot k).r a)/\pd t i (Ć a)):=λa f=>f.elim (λq=>Æ<|Æ<|s a q)<|y a;refine⟨λk j c m o b g=> ?_,λk j c m o a f=> ?_,λk c b g=> ?_,λk c a f=> ?_,λk c b g=> ?_,λk c a f=> ?_,λk c b g=> ?_,h.N,λk c=> ?_,λk c=> ?_,λk c=> ?_,h.l,h.q,h.s,λk c a f=> ?_⟩
 .by_cases e:k=i
  .subst e;rw[gT]at g;rw[gF lot _<|Ă o];exact h.o k j c m o b<|u b g
  .rw[gF lot _ e]at g;by_cases p:j=i
   .subst p;rw[gT];intro q;rcases v b q with z|⟨_,_,z,_⟩
    .exact h.o k j c m o b g z
    .exact z k c g
   .rw[gF lot _ p];exact h.o k j c m o b g
 .by_cases e:k=i
  .subst e;rw[gT]at f;rw[gF lot _<|Ă o];exact h.h k j c m o a<|s a f
  .rw[gF lot _ e]at f;by_cases p:j=i
   .subst p;rw[gT];intro q;rcases B a q with z|⟨_,z,_⟩
    .exact h.h k j c m o a f z
    .exact z k c f
   .rw[gF lot _ p];exact h.h k j c m o a f
 .by_cases e:k=i
  .subst e;rw[gT]at g|-;exact G b g
  .rw[gF lot _ e]at g|-;exact h.m k c b g
 .by_cases e:k=i
  .subst e;rw[gT]at f|-;exact H a f
  .rw[gF lot _ e]at f|-;exact h.g k c a f
 .by_cases e:k=i
  .subst e;rw[gT]at g;exact(v b g).elim (h.I k c b) λz=>z.2.1
  .rw[gF lot _ e]at g;exact h.I k c b g
 .by_cases e:k=i
  .subst e;rw[gT]at f;exact(B a f).elim (h.e k c a) λz=>z.1
  .rw[gF lot _ e]at f;exact h.e k c a f
 .by_cases e:k=i
  .subst e;rw[gT]at g;exact(v b g).elim (h.fx k c b) λz=>z.1
  .rw[gF lot _ e]at g;exact h.fx k c b g
 .by_cases e:k=i
  .subst e;rw[gT,F];exact fH.fT _ _
  .rw[gF lot _ e];exact h.r k c
 .by_cases e:k=i
  .subst e;rw[gT];refine⟨λa f=>(h.S k c).fq a<|u _ f,λa f=> ?_,λa f=>(h.S k c).I a<|s a f,λa f=> ?_⟩
   .rcases x _ f with(z|z)|⟨_,_,_,z⟩
    .exact((h.S k c).fq a z).r
    .exact(h.S k c).C a z
    .exact z a U
   .rcases y _ f with(z|z)|⟨_,_,z⟩
    .exact((h.S k c).I a z).r
    .exact(h.S k c).r a z
    .exact z
  .rw[gF lot _ e];exact h.S k c
 .by_cases e:k=i
  .subst e;rw[gT,E];exact h.f k c
  .rw[gF lot _ e];exact h.f k c
 .have z:(lot k).K a:=by
   by_cases e:k=i
   .subst e;rwa[gT,D]at f
   .rwa[gF lot _ e]at f
  let⟨I,p⟩:=h.n k c a z;refine⟨I,λj m q=> ?_⟩;by_cases e:j=i
  .subst e;rw[gT]at q;exact p j m<|s a q
  .rw[gF lot _ e]at q;exact p j m q
def gL.M(b:gL P n Y S tr m lot gs w t){J:Jd}{T:gu}{K:iz}{l:fe}(c:gs[i]?=À g)(d:g.status=Ñ\/g.status=Ī)(f:iQ n (λi=>i<gs.size) Y (gq lot i l) w t)(hF:kV P (i==0) J T l g): gL P n Y (fw S i J) (fw tr i T) (fw m i K) (gq lot i l) gs w t:=by
 refine⟨f,λk x a=> ?_,b.I⟩;by_cases e:k=i
 .subst e;rw[c]at a;obtain rfl:=Ą a;rw[gB,gB,gB,gT];exact⟨g,hF,.gk,d,Æ U⟩
 .rw[fI S _ e,fI tr _ e,fI m _ e,gF lot _ e];exact b.C k x a
end
end Go.Proofs.Y.fv
namespace Go.Proofs.Y.fv
open Go Go.Conc Go.Proofs.Y.Lift
open Go.ConcN (RelBy fork_knows)
def AL(t:ī)(p:Nat)(l:eu):Prop:=∀q a,Ħ t q=À a->a.loc=l->a.write=Ë->Before t q p
def AL.Hi{u:ī}{l:eu}(h:AL qJ i l)(g:∀c∈u,∀b,c.act.touch?=À b->b.loc=l->b.write=Ë->False):AL (qJ++u) i l:=by
 intro q a j e f;rcases mN j with⟨_,d⟩|⟨_,c,d,k,_⟩
 .exact(h q a d e f).app u
 .exact(g c d a k e f).elim
def AL.af9{l:eu}(h:AL qJ i l)(b:bW qJ n i):pd qJ n l:=λq a c d e=>Knows.of_before (h q a c d e) b
def aga{l:eu}(h:pd qJ i l)(d:wQ.g=i)(e:wQ.act.touch?=í):AL (qJ++#[wQ]) qJ.size l:=by
 intro q a f j k;rcases mN f with⟨_,b⟩|⟨_,m,b,c,_⟩
 .exact Í<|(h q a b j k).hb_new (á _) (by rw[đ<|á _];simp) d
 .have:m=wQ:=by simpa using b
  rw[this,e]at c;cases c
structure Fx where
 L:Nat
 m:Nat
 C:Nat
 I:Nat->Nat
def Fx.M(F:Fx)(b:Nat):Prop:=b=F.C\/∃k,k<=F.m/\b=F.I k
def Fx.G(F:Fx)(x:Ü):Prop:=∃b,F.M b/\(x=fM b\/x=gP b)
def jf(F:Fx)(k:Nat):Ü:=⟨F.I k,2,í⟩
def Fx.P9(F:Fx)(a:Nat->Option Nat)(x:Ü)(g:Option Nat):Prop:=(x=gP F.C/\g=À 0)\/∃k j,k<=F.m/\x=gP (F.I k)/\a k=À j/\g=À (F.L+1+j)
structure TI(F:Fx)(t0:Nat)(jl:eu->Prop)(sp rl:Nat)(V:Nat->Nat->Prop)(pk:Nat->Nat)(fs:Nat->Option Nat)(rx:Nat->Prop)(ql:Nat->Nat)(t:ī):Prop where
 N:t0<=t.size
 M:∀p a x,Ħ t p=À a->a.loc=Ć x->F.G x->(p<t0/\t.g? p=À 0)\/a.kind=Ũ\/(a.kind=.said/\F.P9 fs x (t.g? p))
 AN:∀x,x<sp->∀p,p<t0->t.g? p=À 0->bW t (F.L+x) p
 Y:∀k,1<=k->k<=rl->t.act? (pk k)=À (Ŭ<|ń<|fM<|F.I k)/\t.g? (pk k)=À F.L/\t.heard (pk k)
 I:∀k,1<=k->k<=rl->∀a:Ü,(V k a.block\/a=jf F k)->AL t (pk k) (Ć a)
 c:∀b,F.M b->NoRelease (fM b) t
 r:∀x,x<sp->rx x->RelBy (fM F.C) t (F.L+x) (ql x)/\∀p a,Ħ t p=À a->t.g? p=À (F.L+x)->p<=ql x\/((∃y:Ü,a.loc=Ć y/\y.block=F.C)/\a.kind=Ũ)
 S:∀p a,t0<=p->Ħ t p=À a->t.g? p=À 0\/∃x,x<sp/\t.g? p=À (F.L+x)
 e:∀p a,p<t0->Ħ t p=À a->a.loc.isMemory=Ë->bW t 0 p\/(jl a.loc/\a.kind=Ũ)
 d:∀p g,p<t0->t.g? p=À g->g≠0->t.counts p->∃j,t.g? j=À 0/\HappensBefore t p j
section
variable{F:Fx}{t0:Nat}{jl:eu->Prop}{sp rl:Nat}{V:Nat->Nat->Prop}{pk:Nat->Nat}{fs:Nat->Option Nat}{rx:Nat->Prop}{ql:Nat->Nat}{t u:ī}
def K4(h:t.g? i=À n):i<t.size:=by unfold Ř at h;let⟨z,a,_⟩:=Đ.1 h;exact aN a
def Hj(h:t.g? i=À n):(t++u).g? i=À n:=by rwa[bg<|K4 h]
def Qa{a:eg}(h:Ħ t i=À a):i<t.size:=by let⟨c,b,_⟩:=eh h;exact aN b
structure K5(F:Fx)(sp rl:Nat)(V:Nat->Nat->Prop)(fs:Nat->Option Nat)(rx:Nat->Prop)(t u:ī)(i:Nat):Prop where
 C:∀op∈u,∀a,op.act.touch?=À a->op.g=i
 S:i=0\/(∃x,x<sp/\i=F.L+x)\/∀op∈u,op.act.touch?=í
 M:∀op∈u,∀a x,op.act.touch?=À a->a.loc=Ć x->F.G x->a.kind=Ũ\/(a.kind=.said/\F.P9 fs x (À i))
 fL:∀op∈u,∀(a:eg) (y:Ü),op.act.touch?=À a->a.write=Ë->a.loc=Ć y->∀k,1<=k->k<=rl->¬V k y.block/\y≠jf F k
 N:∀op∈u,∀b,F.M b->op.act≠Ŭ (ei<|fM b)
 I:∀x,x<sp->rx x->(∀r,RelBy (fM F.C) t (F.L+x) r->RelBy (fM F.C) (t++u) (F.L+x) r)/\(F.L+x=i->∀op∈u,∀a,op.act.touch?=À a->(∃y:Ü,a.loc=Ć y/\y.block=F.C)/\a.kind=Ũ)
def TI.C(h:TI F t0 jl sp rl V pk fs rx ql t)(f:K5 F sp rl V fs rx t u i):TI F t0 jl sp rl V pk fs rx ql (t++u) where
 N:=by rw[Array.size_append];have:=h.N;omega
 M p a x n y hc:=by
  rcases mN n with⟨d,c⟩|⟨d,m,c,l,j⟩
  .rw[bg d];exact h.M p a x c y hc
  .refine Í ((f.M m c a x l y hc).imp id λq=>⟨q.1,?_⟩);have:(t++u).g? p=À i:=by unfold Ř;rw[j];simp[f.C m c a l]
   rw[this];exact q.2
 AN x r p d o:=(h.AN x r p d<|by rwa[bg<|Ô d h.N]at o).app u;Y k c l:=by let⟨v,s,b⟩:=h.Y k c l;have w:=K4 s;exact⟨by rwa[ek w],Hj s,(heard_old w).2 b⟩
 I k c l a n:=(h.I k c l a n).Hi λm B b z y C=>by have:=f.fL m B b a z C y k c l;exact n.elim this.1 this.2
 c b z:=(h.c b z).app λm B=>f.N m B b z;r x r hr:=by
  let⟨v,s⟩:=h.r x r hr;let⟨D,E⟩:=f.I x r hr;refine⟨D _ v,λp a n o=> ?_⟩;rcases mN n with⟨d,c⟩|⟨d,m,c,l,j⟩
  .exact s p a c<|by rwa[bg d]at o
  .have e:(t++u).g? p=À i:=by unfold Ř;rw[j];simp[f.C m c a l]
   rw[e]at o;exact Í<|E (Ą o).symm m c a l
 S p a d n:=by
  rcases mN n with⟨D,c⟩|⟨_,m,c,l,j⟩
  .rw[bg D];exact h.S p a d c
  .have e:(t++u).g? p=À i:=by unfold Ř;rw[j];simp[f.C m c a l]
   rw[e];rcases f.S with q|⟨x,r,q⟩|q
   .exact Æ<|by rw[q]
   .exact Í ⟨x,r,by rw[q]⟩
   .rw[q m c]at l;cases l
 e p a d n hm:=by rw[touchAt_old<|Ô d h.N]at n;exact(h.e p a d n hm).imp (·.app u) id
 d p g d o lk hc:=by have w:=Ô d h.N;rw[bg w]at o;rw[eM w]at hc;let⟨j,v,s⟩:=h.d p g d o lk hc;exact⟨j,Hj v,eK u s⟩
def yI(f:∀c∈u,c.act.touch?=í)(i:∀c∈u,∀b,F.M b->c.act≠Ŭ (ei<|fM b)):K5 F sp rl V fs rx t u 0 where
 C c e a d:=by rw[f c e]at d;cases d
 S:=Æ U;M c e a x d:=by rw[f c e]at d;cases d
 fL c e a y d:=by rw[f c e]at d;cases d
 N:=i;I x hx g:=by
  refine⟨λr g=>g.app λj n o k=> ?_,λ_ c e a d=>by rw[f c e]at d;cases d⟩;let⟨z,l,_⟩:=k;rcases mN l with⟨q,_⟩|⟨_,c,m,h,_⟩
  .omega
  .rw[f c m]at h;cases h
def TI.agb(h:TI F t0 jl sp rl V pk fs rx ql t){b:Nat->Option Nat}(c:∀k y,fs k=À y->b k=À y):TI F t0 jl sp rl V pk b rx ql t:= {h with M:=λp a x d e f=>(h.M p a x d e f).imp id (Or.imp id λq=>⟨q.1,q.2.imp id λ⟨k,j,g,i,l,m⟩=>⟨k,j,g,i,c k j l,m⟩⟩)}
def TI.Hk(h:TI F t0 jl sp rl V pk fs rx ql t){y:dA}(i:wQ.g=0/\wQ.act=.go (F.L+sp))(j:y.g=F.L+sp/\y.act=.start)(m:ψ t 0=0)(n:ψ t (F.L+sp)=0)(B:¬rx sp)(o:∀wQ,rx wQ->wQ<sp):TI F t0 jl (sp+1) rl V pk fs rx ql (t++#[wQ,y]):=by
 have q:∀c∈#[wQ,y],c.act.touch?=í:=by
  intro c a;simp at a;rcases a with rfl|rfl
  .rw[i.2];rfl
  .rw[j.2];rfl
 have r:∀c∈#[wQ,y],∀b,F.M b->c.act≠Ŭ (ei<|fM b):=by
  intro c a b _;simp at a;rcases a with rfl|rfl
  .rw[i.2];simp
  .rw[j.2];simp
 have d:=h.C<|yI q r;refine{d with AN:=λz s p f k=> ?_,r:=λz s l=>d.r z (o z l) l,S:=λp a f u=>((d.S p a f u).imp id λ⟨z,v,e⟩=>⟨z,Z,e⟩)}
 .by_cases e:z<sp
  .exact d.AN z e p f k
  .obtain rfl:z=sp:=Z
   rw[bg<|Ô f h.N]at k;let⟨c,v,w⟩:=Đ.1 k;have:=bN v;rw[w]at this;exact dp i j m n this
def agc{y:dA}(e:wQ.g=0/\wQ.act=.go k)(f:y.g=k/\y.act=.start)(m:ψ t 0=0)(n:ψ t k=0){l:eu}:(qF t 0 l->qF (t++#[wQ,y]) k l)/\(pd t 0 l->pd (t++#[wQ,y]) k l):=by
 have o:∀c∈#[wQ,y],c.act.touch?=í:=by
  intro c a;simp at a;rcases a with rfl|rfl
  .rw[e.2];rfl
  .rw[f.2];rfl
 refine⟨λh p a i j=> ?_,λh p a i j q=> ?_⟩
 .rcases mN i with⟨_,b⟩|⟨_,c,b,d,_⟩
  .exact dp e f m n<|h p a b j
  .rw[o c b]at d;cases d
 .rcases mN i with⟨_,b⟩|⟨_,c,b,d,_⟩
  .exact dp e f m n<|h p a b j q
  .rw[o c b]at d;cases d
def TI.agd(h:TI F t0 jl sp rl V pk fs rx ql t)(f:wQ.g=F.L)(d:wQ.act=Ŭ (ń<|fM<|F.I<|rl+1))(m:ψ t F.L=0)(n:∀a:Ü,(V (rl+1) a.block\/a=jf F (rl+1))->pd t F.L (Ć a)): TI F t0 jl sp (rl+1) V (fw pk (rl+1) t.size) fs rx ql (t++#[wQ]):=by
 have o:∀c∈#[wQ],c.act.touch?=í:=by
  intro c e;have:c=wQ:=by simpa using e
  rw[this,d];rfl
 have i:=h.C (yI o (λc e b _=>by
  have:c=wQ:=by simpa using e
  rw[this,d];simp))
 have p:(t++#[wQ])[t.size]?=À wQ:=by rw[đ<|á _];simp
 have j:∀k,k<=rl->fw pk (rl+1) t.size k=pk k:=λk r=>fI pk _ Z;refine{i with Y:=λk b q=> ?_,I:=λk b q a l=> ?_}
 .by_cases e:k=rl+1
  .subst e;rw[gB];exact⟨by rw[eU p,d],by simp[Ř,f],⟨F.L,by simp[Ř,f],by rwa[dm<|á _]⟩⟩
  .rw[j k Z];exact i.Y k b Z
 .by_cases e:k=rl+1
  .subst e;rw[gB];exact aga (n a l) f<|by rw[d];rfl
  .rw[j k Z];exact i.I k b Z a l
def TI.agf(h:TI F t0 jl sp rl V pk fs rx ql t){x:Nat}(r:x<sp)(f:wQ.g=F.L+x)(d:wQ.act=Ŭ (ń<|fM F.C))(k:ψ t (F.L+x)=0)(s:¬rx x): TI F t0 jl sp rl V pk fs (λz=>rx z\/z=x) (fw ql x t.size) (t++#[wQ]):=by
 have l:∀c∈#[wQ],c.act.touch?=í:=by
  intro c a;have:c=wQ:=by simpa using a
  rw[this,d];rfl
 have j:=h.C (yI l (λc a b _=>by
  have:c=wQ:=by simpa using a
  rw[this,d];simp))
 have b:(t++#[wQ])[t.size]?=À wQ:=by rw[đ<|á _];simp
 refine{j with r:=λz m n=> ?_};by_cases e:z=x
 .subst e;rw[gB];refine⟨⟨by rw[eU b,d],by simp[Ř,f],⟨F.L+z,by simp[Ř,f],by rwa[dm<|á _]⟩,λi u o=> ?_⟩,λp a q _=>Æ ?_⟩
  .have:=K4 o;simp at this;omega
  .have:=Qa q;simp at this;omega
 .rw[fI ql _ e];exact j.r z m<|n.resolve_right e
def XA(e:t.act? i=À (Ŭ<|ń a))(f:t.g? i=À k)(h:t.heard i)(l:NoRelease a t)(c:wQ.g=n)(m:wQ.act=Ŭ (di a))(o:ψ t n=0):bW (t++#[wQ]) n i:=by
 have b:=K4 f;have d:(t++#[wQ])[t.size]?=À wQ:=by rw[đ<|á _];simp
 refine⟨t.size,wQ,d,c,Í<|.single<|Í ⟨.marked b (Í<|by rwa[ek b]) (by rw[eU d,m]) λj _ q=> ?_,(heard_old b).2 h,⟨n,by simp[Ř,c],by rwa[dm<|á _]⟩⟩⟩;rw[ek q];exact l j
def TI.kQ(h:TI F t0 jl sp rl V pk fs rx ql t)(I:wQ.g=0)(w:wQ.act=Ŭ (di<|fM F.C))(J:ψ t 0=0)(l:∀x,x<sp->rx x): (∀p a,Ħ (t++#[wQ]) p=À a->a.loc.isMemory=Ë->bW (t++#[wQ]) 0 p\/((jl a.loc\/∃x:Ü,a.loc=Ć x/\x.block=F.C)/\a.kind=Ũ))/\(t++#[wQ]).HandedOver:=by
 have K:wQ.act.touch?=í:=by rw[w];rfl
 have B:=λx c=>by let⟨b,_⟩:=h.r x c<|l x c;exact XA b.act b.g b.heard (h.c _<|Æ U) I w J
 have C:∀p a,Ħ (t++#[wQ]) p=À a->p<t.size/\Ħ t p=À a:=λp a m=>by
  rcases mN m with q|⟨_,n,d,k,_⟩
  .exact q
  .have:n=wQ:=by simpa using d
   rw[this,K]at k;cases k
 have D:∀p q x,t.g? p=À (F.L+x)->t.g? q=À (F.L+x)->p<=q->Before (t++#[wQ]) p q:=λp q x d k S=>by
  rcases Nat.lt_or_ge p q with f|j
  .exact Í<|.single<|Æ ⟨f,_,Hj d,Hj k⟩
  .exact Æ Z
 refine⟨λp a m M=> ?_,λp g o s N=> ?_⟩
 .let⟨f,d⟩:=C p a m;by_cases e:p<t0
  .rcases h.e p a e d M with q|⟨b,i⟩
   .exact Æ<|q.app _
   .exact Í ⟨Æ b,i⟩
  .rcases h.S p a Z d with q|⟨x,c,q⟩
   .let⟨n,u,v⟩:=Đ.1 q;have:=bN u;rw[v]at this;exact Æ<|this.app _
   .let⟨b,i⟩:=h.r x c<|l x c;rcases i p a d q with z|⟨j,E⟩
    .exact Æ<|Knows.of_before (D p (ql x) x q b.g z)<|B x c
    .exact Í ⟨Í j,E⟩
 .let⟨z,E,O,P⟩:=N;let⟨f,d⟩:=C p z E;have G:t.g? p=À g:=by rwa[bg f]at o
  have H:=(eM f).1 ⟨z,E,O,P⟩;by_cases e:p<t0
  .let⟨j,b,i⟩:=h.d p g e G s H;exact⟨j,Hj b,eK _ i⟩
  .rcases h.S p z Z d with q|⟨x,c,q⟩
   .rw[G]at q;exact absurd (Ą q) s
   .let⟨b,_⟩:=h.r x c<|l x c;let⟨r,n,u,v,Q⟩:=B x c;have i:(t++#[wQ]).g? r=À 0:=by unfold Ř;rw[u];simp[v]
    refine⟨r,i,?_⟩;rcases(D p (ql x) x q b.g<|Nat.le_of_not_lt λj=>b.after p j q H).trans Q with j|j
    .subst j;rw[o]at i;exact absurd (Ą i) s
    .exact j
end
end Go.Proofs.Y.fv
namespace Go.Proofs.Y.fv
open Go Go.Conc Go.Proofs.Y.Lift
open Go.ConcN (sumTo)
structure Ph extends Fx where
 P:Ø
 S:Nat
 n:Nat
 q:Nat
 Y:Nat
 f:Nat
 r:Nat->Nat
 a:Nat->Nat
 b:Nat->Nat
 c:Nat->Ã
 z:Ã
 B:Nat
 γ:Type
 l:γ
 i:Nat->Prop
 p:Nat->γ->γ->Prop
 d:Nat->γ->(Nat->Prop)->È->Prop
 o:Nat->ByteArray
 k:Nat->ByteArray
 g:Nat->(Nat->Nat)->Jd
 h:Nat->Jd
 e:Nat->Nat->Jd
 j:(Nat->Nat)->Jd
inductive nt(F:Ph):Nat->F.γ->Prop
 |vm:nt F 0 F.l
 |EC {k:Nat} {s s':F.γ} (h:nt F k s) (hn:F.p k s s'):nt F (k+1) s'
def jm(F:Ph)(p:Nat):Ü:=⟨F.Y,p,í⟩
inductive fU where
 |go (j:Nat)|lA (j:Nat)|rd (j:Nat)|iD (j:Nat)|iI (r:Nat)|kQ (r:Nat)|fy (p:jk)|gf
inductive jx where
 |kH (k:Nat)|mk (k:Nat)|dn (k:Nat) (p:jF)
inductive gM where
 |np (r:Nat)|fy (r:Nat) (p:jk)|jI (r:Nat)|nj (r:Nat)
inductive ij where
 |oE|gf (p:jF)|jr (N:Nat)
section
variable(F:Ph)
def Hl:Jd:=λl g=>∃N,QuitsD F.P N l.d g
def kx(l:fe):fe:={l with O:=λ_=>False,I:=λ_=>False,r:=λ_=>False,N:=λ_=>False,q:=True}
def AO:Jd:=λl g=>EA F.P Â F.C (Hl F) .jD (kx l) g
def ED(c j r:Nat):Jd:=wU F.P Â c F.z λx=>match x with
 |some v=>λl g=>v=F.c (j+r*F.n)->qI F.P Â F.B (F.I<|F.r<|j+r*F.n) (F.e c<|j+r*F.n) .iW l g
 |none=>AO F
def vu(l:fe)(i:Nat):fe:={l with r:=λa=>l.r a/\a≠jm F (F.a i),N:=λa=>l.N a\/a=jm F (F.a i)}
def pU(l:fe)(k:Nat):fe:={l with O:=λ_=>False,I:=l.M,r:=λa=>l.r a/\a≠jm F (F.b k)/\a≠jf F.toFx k,N:=λa=>l.N a\/a=jm F (F.b k)\/a=jf F.toFx k}
def JW(c j:Nat):gM->Jd
 |.np r=>ED F c j r
 |.fy r p=>qI F.P Â F.B (F.I<|F.r<|j+r*F.n) (F.e c<|j+r*F.n) p
 |.jI r=>F.e c<|j+r*F.n
 |.nj r=>λl g=>l.w.cell? (jm F<|F.a<|j+r*F.n)=À (Ĥ<|F.k<|j+r*F.n)/\ED F c j (r+1) (vu F l<|j+r*F.n) g
def JI(sg:Nat->F.γ):jx->Jd
 |.kH k=>F.h k
 |.mk k=>λl g=>∃p V,F.p (k-1) (sg<|k-1) p/\F.d k p V l.w/\(∀b,V b->l.M b)/\l.w.cell? (jm F<|F.b k)=À (Ĥ<|F.o k)/\EA F.P Â (F.I k) (fi F.P Â<|F.h k) .jD (pU F l k) g
 |.dn k p=>EA F.P Â (F.I k) (fi F.P Â<|F.h k) p
def JE:ij->Jd
 |.oE=>AO F
 |.gf p=>EA F.P Â F.C (Hl F) p
 |.jr N=>oD F.P N
def K6(j:Nat)(a:Nat->Nat):Jd:=λl g=>∃c,F.g j (fw a (j-1) c) l g
def XB(j:Nat)(a:Nat->Nat):Jd:=λl g=>l.d=1/\Hf F.P Ë (.read<|gP F.C) (K6 F j a) l g
def Qb(j:Nat)(a:Nat->Nat):Jd:=λl g=>l.d=1/\PQ F.P Ë (fM F.C) fY (λs=>if s=fY then fi F.P Ë (XB F j a)else if fY<s/\s<1000000*fY/\s%fY=0 then fi F.P Ë (K6 F j a)else λ_ _=>True) l g
def AP(a:Nat->Nat):Nat->Jd
 |0=>qI F.P Ë F.B F.C (F.j a) .iW
 |r+1=>KT F.P Ë (a<|F.n-(r+1))<|AP a r
def Hm(a:Nat->Nat):Nat->Jd
 |0=>AP F a F.n
 |r+1=>AK F.P Ë (a<|(F.q-(r+1))%F.n) (F.c<|F.q-(r+1))<|Hm a r
def JM(dk:Nat->Nat):fU->Jd
 |.go j=>F.g j dk
 |.lA j=>K6 F j dk
 |.rd j=>XB F j dk
 |.iD j=>Qb F j dk
 |.iI r=>Hm F dk r
 |.kQ r=>AP F dk r
 |.fy p=>qI F.P Ë F.B F.C (F.j dk) p
 |.gf=>F.j dk
def lQ(x:Nat)(a:Ü):Prop:=if x=0 then(∃k,1<=k/\k<=F.m/\(a=jf F.toFx k\/a=jm F (F.b k)))else∃i,i<F.q/\i%F.n=x-1/\a=jm F (F.a i)
end
def fU.sp(n:Nat):fU->Nat
 |.go j|.lA j|.rd j|.iD j=>j
 |_=>n+1
def fU.ad(n:Nat):fU->Nat
 |.iD j=>j
 |.go j|.lA j|.rd j=>j+1
 |_=>n+1
def fU.my(q:Nat):fU->Nat
 |.go _|.lA _|.rd _|.iD _=>0
 |.iI r=>q-r
 |_=>q
def fU.je(n:Nat):fU->Nat
 |.kQ r=>n-r
 |.fy _|.gf=>n
 |_=>0
def jk.rD:jk->Nat
 |.wr|.kv=>1
 |_=>0
def fU.gC:fU->Nat
 |.fy p=>p.rD
 |_=>0
def jF.kI:jF->Nat
 |.jD|.iD=>1
 |_=>0
def ij.kI:ij->Nat
 |.oE=>1
 |.gf p=>p.kI
 |_=>0
def ij.oc:ij->Prop
 |.oE=>False
 |_=>True
def lW:Option ij->Nat
 |none=>1
 |some e=>e.kI
def jF.iu:jF->Prop
 |.jD=>False
 |_=>True
def ij.iu:ij->Prop
 |.oE=>False
 |.gf p=>p.iu
 |_=>True
def jx.md:jx->Nat
 |.kH k=>k
 |.mk k=>k-1
 |.dn k _=>k
def jx.rl:jx->Nat
 |.kH k=>k
 |.mk k=>k-1
 |.dn k .jD=>k-1
 |.dn k _=>k
def jx.od:jx->Nat
 |.kH k=>k
 |.mk k=>k-1
 |.dn k .jD|.dn k .iD=>k-1
 |.dn k _=>k
def gM.iL:gM->Nat
 |.np r=>r
 |.fy r _|.jI r|.nj r=>r+1
def gM.ky:gM->Nat
 |.np r|.fy r _|.jI r|.nj r=>r
def gM.gC(F:Ph)(j:Nat)(k:Nat):gM->Nat
 |.fy r p=>if F.r (j+r*F.n)=k then p.rD else 0
 |_=>0
structure fS(F:Ph) where
 M:fU
 S:jx
 C:Nat->gM
 N:Nat->Option ij
 I:Nat->Nat
 c:Nat->F.γ
 V:Nat->Nat->Prop
 e:Nat->Nat
 d:Nat->Option Nat
 f:Nat->Nat
 b:GS
 a:Nat->GS
 g:Option Nat
 h:Nat->Nat
section
variable{F:Ph}
def fS.r(E:fS F):Nat:=E.M.sp F.n
def fS.G(E:fS F)(x:Nat):Nat:=if x<E.M.ad F.n then lW (E.N x)else 0
def fS.iu(E:fS F)(x:Nat):Prop:=∃e,E.N x=À e/\e.iu
def fS.oc(E:fS F)(x:Nat):Prop:=∃e,E.N x=À e/\e.oc
def fS.Y(E:fS F)(b:Nat):Prop:=F.M b\/b=F.Y\/∃j,j+2<=E.r/\b=E.I j
def tP(n j Q s:Nat):Prop:=∀i,i<s↔j+i*n<Q
def kM:fU->iz
 |.fy .kv=> .iA
 |_=> .no
def kW(F:Ph)(c:Nat):gM->iz
 |.np _=> .sN c F.z
 |.fy _ .kv=> .iA
 |_=> .no
end
structure Ph.Ok(F:Ph):Prop where
 N:1<=F.n
 r:1<=F.L
 fX:F.n+F.q+F.m<1000
 I:∀i,i<F.q->F.r i<=F.m
 M:∀k,k<=F.m->F.I k≠F.C
 S:∀k k',k<=F.m->k'<=F.m->F.I k=F.I k'->k=k'
 C:¬F.M F.Y
 a:∀i i',i<F.q->i'<F.q->F.a i=F.a i'->i=i'
 pi:∀k k',1<=k->k<=F.m->1<=k'->k'<=F.m->F.b k=F.b k'->k=k'
 Qc:∀i k,i<F.q->1<=k->k<=F.m->F.a i≠F.b k
 gp:∀b,F.M b\/b=F.Y->F.S<=b
 Y:(∀k,1<=k->k<=F.m->F.b k≠F.f)/\∀i,i<F.q->F.a i≠F.f
structure iG(F:Ph)(E:fS F)(lot:Nat->fe)(sz:Nat)(w:È):Prop where
 gS:∀i,i<sz->∀a,(lot i).C a->(∃k,k<=F.m/\a=jf F.toFx k)\/∃p,p≠F.f/\a=jm F p
 o:∀x,E.r<=x->x<=F.n->∀a,lQ F x a->(lot 0).r a
 lO:E.r<=F.n->(lot 0).N (jf F.toFx 0)/\∀b,F.i b->(lot 0).I b
 e:0<E.r->∀k,E.S.md<k->k<=F.m->(lot F.L).r (jf F.toFx k)/\(lot F.L).r (jm F<|F.b k)
 f:0<E.r->E.N 0=í->(lot F.L).N (jf F.toFx E.S.md)/\∀b,E.V E.S.md b->(lot F.L).I b
 h:∀j,j+2<=E.r->E.N (j+1)=í->∀r,j+r*F.n<F.q->(E.C j).ky<=r->(lot<|F.L+1+j).r (jm F<|F.a<|j+r*F.n)
 l:∀j,j+2<=E.r->E.N (j+1)=í->(lot<|F.L+1+j).N (jf F.toFx 0)/\∀b,F.i b->(lot<|F.L+1+j).I b
 S:∀x,E.oc x->lot (F.L+x)=kx (lot<|F.L+x)
 M:∀i,(i=0\/∃x,x<E.r/\i=F.L+x/\¬E.oc x)->¬(lot i).q
 c:∀i,0<i->i<F.L->lot i=kx (lot i)
 I:∀k,k<=E.S.md->∀b,E.V k b->b<w.heap.size/\¬E.Y b/\∀i,i<sz->¬(lot i).O b
 N:∀k,k<=E.S.md->∀i,i<sz->¬(lot i).r (jf F.toFx k)
 g:∀k,1<=k->k<=E.S.md->∀i,i<sz->¬(lot i).r (jm F<|F.b k)
 d:∀j,j+2<=E.r->∀r,j+r*F.n<F.q->r<(E.C j).ky->∀i,i<sz->¬(lot i).r (jm F<|F.a<|j+r*F.n)
structure Wd(F:Ph)(E:fS F)(w:È):Prop where
 C:hD w F.C E.b
 I:∀k,k<=F.m->hD w (F.I k) (E.a k)
 jG:∀j,j+2<=E.r->∃buf s,w.heap[E.I j]?=À (aD F.q buf (decide<|j<E.M.je F.n) s (E.C j).iL Â)/\tP F.n j (E.M.my F.q) s/\(E.C j).iL<=s/\buf.size=s-(E.C j).iL/\∀i,i<s-(E.C j).iL->buf[i]?=À (F.c<|j+((E.C j).iL+i)*F.n)
 M:∀k,k<=E.S.md->nt F k (E.c k)/\F.d k (E.c k) (E.V k) w
 S:∀k,1<=k->k<=E.S.md->w.cell? (jm F<|F.b k)=À (Ĥ<|F.o k)
 N:∀j,j+2<=E.r->∀r,j+r*F.n<F.q->r<(E.C j).ky->w.cell? (jm F<|F.a<|j+r*F.n)=À (Ĥ<|F.k<|j+r*F.n)
structure Ps(F:Ph)(E:fS F):Prop where
 v:E.V 0=F.i
 C:∀j,E.M=.go j\/E.M=.lA j\/E.M=.rd j\/E.M=.iD j->j<=F.n
 K:∀j,E.M=.lA j\/E.M=.rd j\/E.M=.iD j->1<=j
 L:∀r,(E.M=.iI r->r<=F.q)/\(E.M=.kQ r->r<=F.n)
 J:E.r=0->E.S=.kH 0
 I:∀k,(E.S=.kH k->k<=F.m)/\(E.S=.mk k->1<=k/\k<=F.m)/\(∀p,E.S=.dn k p->1<=k/\k<=F.m)
 z:∀j,E.r<j+2->E.C j=.np 0
 d:∀j r,j+2<=E.r->((∃p,E.C j=.fy r p)\/E.C j=.jI r\/E.C j=.nj r)->j+r*F.n<F.q
 l:∀j,j+2<=E.r->E.N (j+1)≠í->j<E.M.je F.n/\∃r,E.C j=.np r/\∀i,j+i*F.n<F.q->i<r
 f:E.N 0≠í->E.S=.kH F.m
 h:∀x,E.r<=x->E.N x=í
 M:∀j j',j+2<=E.r->j'+2<=E.r->E.I j=E.I j'->j=j'
 o:∀j,j+2<=E.r->¬F.M (E.I j)/\E.I j≠F.Y/\F.S<=E.I j
 t:∀c reg,E.b=.cl c reg->c=bX (F.n+1) E.G/\reg=E.M.gC
 g:∀reg,E.b=.jE reg->bX (F.n+1) E.G=0/\reg=E.M.gC/\∃x,x<E.r/\E.g=À x/\(E.N x=À (.gf (.gy reg))\/E.N x=À (.gf (.jb reg)))
 u:∀r s,E.b=.gV r s->bX (F.n+1) E.G=0/\r+s=E.M.gC/\(0<r->∃x,x<E.r/\E.g=À x/\E.N x=À (.gf (.iA r)))
 N:∀x p,E.N x=À (.gf p)->(∀W,p=.gy W\/p=.jb W->E.g=À x/\E.b=.jE W)/\(∀r,p=.iA r->0<r/\E.g=À x/\∃s,E.b=.gV r s)
 B:E.M=.fy .gy\/E.M=.fy .kX\/E.M=.gf->bX (F.n+1) E.G=0
 e:∀k,1<=k->k<=F.m->E.S.od<k->E.a k=.cl 1 (bX F.n λj=>(E.C j).gC F j k)
 Y:∀k,k<=F.m->k<=E.S.od->(∃W,(E.S=.dn k (.gy W)\/E.S=.dn k (.jb W))/\E.a k=.jE W/\W=bX F.n λj=>(E.C j).gC F j k)\/(∃r s,E.S=.dn k (.iA r)/\0<r/\E.a k=.gV r s/\r+s=bX F.n λj=>(E.C j).gC F j k)\/((∀p,E.S≠ .dn k p)/\((E.a k=.cl 0 0/\(bX F.n λj=>(E.C j).gC F j k)=0)\/∃s,E.a k=.gV 0 s/\s=bX F.n λj=>(E.C j).gC F j k))
 w:∀j r,j+2<=E.r->(E.C j=.fy r .gy\/E.C j=.fy r .kX\/E.C j=.jI r)->F.r (j+r*F.n)<=E.S.od
 H:∀j r,j+2<=E.r->E.C j=.fy r .gy->∃a b,E.a (F.r<|j+r*F.n)=.gV a b
 O:E.M=.fy .gy->∃a b,E.b=.gV a b
 S:(∀p,E.M≠ .fy p)->E.M≠ .gf->∃c,E.b=.cl c 0
 y:∀k,k<=F.m->E.a k=.cl 1 0->E.d k=í
 D:∀j r,j+2<=E.r->E.C j=.fy r .wr->E.d (F.r<|j+r*F.n)=À j
def fh(F:Ph)(E:fS F)(a:Array Ó)(w:È):Prop:=∀i g,a[i]?=À g->g.status=Ζ->
 (i=0/\E.M=.fy .kv/\E.b.sm=0)\/(∃j,j+2<=E.r/\E.N (j+1)=í/\i=F.L+1+j/\((∃r,E.C j=.fy r .kv/\(E.a<|F.r<|j+r*F.n).sm=0)\/∃r b s c,E.C j=.np r/\w.heap[E.I j]?=À (aD b #[] Â s c Â)))
structure PI(F:Ph)(t0:Nat)(jl:eu->Prop)(E:fS F)(S:Nat->Jd)(tr:Nat->gu)(kp:Nat->iz)(lot:Nat->fe)(gs:Array Ó)(w:È)(t:ī):Prop where
 b:gs.size=F.L+E.r
 I:gL F.P F.S E.Y S tr kp lot gs w t
 h:S 0=JM F E.I E.M/\kp 0=kM E.M
 m:0<E.r->E.N 0=í->S F.L=JI F E.c E.S/\kp F.L=.no
 g:∀j,j+2<=E.r->E.N (j+1)=í->S (F.L+1+j)=JW F (E.I j) j (E.C j)/\kp (F.L+1+j)=kW F (E.I j) (E.C j)
 k:∀x e,x<E.r->E.N x=À e->S (F.L+x)=JE F e/\kp (F.L+x)=.no/\((∃N,e=.jr N)->tr (F.L+x)=.fB)
 l:∀i,0<i->i<F.L->S i=oD F.P (E.h i)/\tr i=.fB/\kp i=.no
 a:iG F E lot gs.size w
 M:Wd F E w
 C:Ps F E
 d:TI F.toFx t0 jl E.r (E.S.rl) E.V E.e E.d E.iu E.f t
 c:fh F E gs w
 f:∀j r,j+2<=E.r->E.C j=.jI r->1<=F.r (j+r*F.n)->bW t (F.L+1+j) (E.e<|F.r<|j+r*F.n)
structure gQ(F:Ph):Prop where
 C:F.Ok
 S:∀k s V w w',F.d k s V w->(∀b,V b->w'.heap[b]?=w.heap[b]?)->w'.cell? (jf F.toFx k)=w.cell? (jf F.toFx k)->w'.cell? (jm F F.f)=w.cell? (jm F F.f)->kP w' F.Y=kP w F.Y->(w'.os=w.os/\w'.output=w.output)->F.d k s V w'
 Hn:∀j dk l g w₁,F.g j dk l g->fH l l.w w₁->F.g j dk {l with w:=w₁} g
 I:∀j dk l g,F.g j dk l g->g.status=Ñ
 N:∀k l g,F.h k l g->g.status=Ñ
 Y:∀c i l g,F.e c i l g->g.status=Ñ
 M:∀dk l g,F.j dk l g->g.status=Ñ
 go:∀j dk l g,j<=F.n->F.g j dk l g->gw l->l.d=0/\∃(g' child:Ó) (X:Nat->Prop),g'.status=Ñ/\child.status=Ñ/\(∀w₁,Ý F.P Ë g w₁=.spawn g' child w₁ #[])/\(∀b,X b->l.O b)/\
  (1<=j->l.O (dk<|j-1)/\¬X (dk<|j-1)/\l.w.heap[dk<|j-1]?=À (aD F.q #[] Â 0 0 Â)/\F.S<=dk (j-1))/\
  (∀l':fe,gw l'->(∀b,X b\/l.I b->l'.I b)->l'.w=l.w->l'.d=0->¬l'.q->(∀b,¬l'.O b)->l'.K=l.K->l'.N=l.N->(∀a,l'.r a->l.r a)->fi F.P Â (if j=0 then F.h 0 else ED F (dk<|j-1) (j-1) 0) l' child)/\
  (∀l':fe,gw l'->l'.O=(λb=>l.O b/\¬X b/\(1<=j->b≠dk (j-1)))->(∀b,X b\/l.I b->l'.I b)->l'.w=l.w->l'.d=0->l'.q=l.q->l'.K=l.K->l'.N=l.N->(∀a,l'.r a->l.r a)->fi F.P Ë (JM F dk<|if j<F.n then .iD (j+1)else .iI F.q) l' g')
 f:∀k s V l g,k<F.m->F.h k l g->gw l->nt F k s->F.d k s V l.w->(∀b,V b->l.I b)->l.N (jf F.toFx k)->l.r (jf F.toFx<|k+1)->l.r (jm F<|F.b<|k+1)->∀sg:Nat->F.γ,sg k=s->fi F.P Â (JI F sg<|.mk (k+1)) l g
 h:∀l g,F.h F.m l g->gw l->fi F.P Â (AO F) l g
 e:∀c j r s V l g,j+r*F.n<F.q->F.e c (j+r*F.n) l g->∀l':fe,gw l'->l'.O=l.O->(∀b,l.I b\/V b->l'.I b)->l'.w=l.w->l'.d=l.d->l'.q=l.q->l'.r=l.r->l'.K=l.K->nt F (F.r<|j+r*F.n) s->F.d (F.r<|j+r*F.n) s V l.w->l'.N (jf F.toFx<|F.r<|j+r*F.n)->l'.r (jm F<|F.a<|j+r*F.n)->fi F.P Â (JW F c j<|.nj r) l' g
end Go.Proofs.Y.fv
