/- Cut: the texts of the proof, packed by program out of some 250: remarks struck, names and blanks shortened, for the limit of a claim's size. -/
import Derived.KernelRfl
import Derived.Conc.Own
import Derived.Conc.Events
import Derived.Laws.Sem
import Derived.Conc.Own5
import Derived.Conc.CompanyDraw
import Derived.Conc.Know
import Derived.Conc.Beside
import Derived.Conc.MarkLaws
import Derived.Conc.CrowdComm
import Derived.Conc.CrowdTrace
import Derived.Conc.CrowdBase
set_option linter.all false
set_option maxRecDepth 1000000
set_option maxHeartbeats 8000000
open Option renaming some->À,none->ë,map_eq_some_iff->ģ,map_some->bG
open Go renaming TypeId->Á,Value->Â,World->Æ,Goroutine->Ó,Program->Õ,Operand->Ö,stepG->Ù,Addr->Ú,FuncId->à,execOp->ì,underlying->ø,resolve->ù,IntKind->ú,Event->ý,run_program->ă,variablesAt->Ą,invoke->č,builtin->Ē,Sem->ē,loadBytes->ĕ,Frame->Ę,Trace->ğ,BinOp->ġ,results->Ī,behindNumber->Į,FloatKind->ı,callFunc->ĵ,undef->ľ,yielded->ł,loadCellsFrom->Ō,convert->Œ,movedNumber->ŕ,Item->ś,movedPointer->Ţ,binOp->Ũ,elemOf->Ū,sameAddr->Ŭ,deafBehind->ŭ,eqGuard->ŷ,typeInfo->Δ,partners->Η,RuntimeError->Ι,storeCells->Κ,Next->Ο,cellAtBytes->ξ,choose->π,Tape->ψ,zeroValue->ω,loadVar->ae,Code->aj,store->ak,Oper->au,BoundsCode->av,sizeOf->ax,storeVar->aI,nilAhead->aQ,lone->aT,load->aW,noView->aX,liesAt->aY,findLabel->bh,stringish->bl,Unsupported->bq,followBlind->bu,Act->bE,askRoom->bO,Machine->bQ,Question->bT,asBool->bV,asAddr->bW,fieldPlace->bX,numberAt->bZ,asNumber->b9,getObj->cm,shape->cu,exitTo->cC,gotoIn->cD,mayBeOne->cJ,runT->cW,MemOp->cX,loadCells->cZ,rowAt->c8,program->dc,asIntOf->de,viewAt->di,byteOf->dj,unwind->dt,runN->du,cellsIn->dw,asInt->dA,TypeDesc->dF,runN_add->dI,Touch->dL,step->dP,Loc->dQ,newRow->dR,PanicEntry->ec,isAgg->ep,Race->eD,newVar->eJ,asAgg->eK,newObj->eL,frozen->eM,freeze->eU
open Bool renaming false->Ã,false_eq_true->Å,true->É,and_eq_true_iff->Ü,not_true->þ,not_false->Ă,and_eq_true->ě,or_eq_true_iff->Ŝ,eq_iff_iff->Χ,or_eq_true->bH
open Go.Sem renaming run_bind->Ä,runT_bind'->Ñ,run->ã,bind->ç,runT->é,run_bind'->Ĵ,bind_assoc'->ř,runT_eq->ź,runT_fst->Ρ,pure->aH,store->c9,halt->ek
open Or renaming inl->Ç,inr->Î
open Go.Result renaming andThen_ok->È,ok->ĥ,halt->bU
open Go.Op renaming operands->Ê,equal->ó,maxDepth->ā,eqGuardIn->į,twoPlaces->š,equalIn->Λ,addrSub->Μ,addrCmp->Ν,addrMod->Ξ,call->Ω,intDiv->ag,shift->aJ,convert->aL,stringOp->br,unary->bY,makeInterface->cI,floatArith->cS,complexOp->dm,buildSlice->dC,intArith->dD,floatCmp->dE,binOp->dS,makeSlice->dT,fieldAddr->dU,indexAddr->dV,intBits->dX,nilCheck->eA,intCmp->eB
open Array renaming getElem?_eq_some_iff->Ë,getElem?_setIfInBounds_ne->Ï,getElem?_setIfInBounds_self_of_lt->Ò,mem_of_getElem?->Û,getElem?_eq_getElem->Ý,getElem?_append_right->ć,empty_append->Ď,append_empty->ď,mapM_eq_mapM_toList->Ĕ,mem_append->Ĝ,getElem?_push_lt->Ģ,getD_eq_getD_getElem?->ĩ,replicate->ĺ,append_assoc->Ļ,append_singleton->Ł,all_eq_true->Ń,getElem?_modify->Ň,mem_iff_getElem->ŉ,getElem?_setIfInBounds->Ś,getElem_map->ŵ,getElem_extract->κ,forIn_toList->aD,range->dB
open Go.stepG renaming exec->Ì,apply->bB
open Go.MemOp renaming ofEvents->Í
open Go.GoStatus renaming running->Ð,finished->Ğ,blocked->Ů
open Nat renaming lt_of_lt_of_le->Ô,le_refl->ß,le_trans->õ,exists_eq_add_of_le->Ε,div_le_div_right->ο,add_assoc->cP,le_of_eq->dy,zero_le->dz
open List renaming map_toArray->Ø,map_cons->â,map_nil->ä,mem_cons_self->î,mem_cons_of_mem->ò,eq_nil_of_length_eq_zero->Ā,zipIdx_cons->Ĭ,mem_cons->œ,mem_singleton->ū,foldlM_cons->Ζ,filter_eq_nil_iff->Υ,foldlM_nil->ζ,forIn_cons->η,mapM_cons->ν,forIn_nil->φ,map_eq_nil_iff->ai,flatMap_cons->aU,mapM_nil->cR
open Go.Value renaming pointer->Þ,int->Ć,string->ħ,bool->Ľ,tuple->ſ,nilIface->aV,slice->bR,nilFunc->bS,chan->ei,func->eI
open Go.Item renaming inRegion->á,code->Đ,inLoop->dp,inBlock->dG,inScope->dH
open Go.Act renaming eval->å
open Go.IntKind renaming u64->æ,i64->Ŋ,u32->ŗ
open Go.MemAct renaming ofEvent->è,touch?->ÿ,mark->Ř
open Go.Builtin renaming unsafeString_->ê,unsafeAdd_->ñ,unsafeSliceData_->ė,min2->Ĳ,append_->ĸ,firstCells->ļ,min_->ń,copy_->ő,len_->ş,cap_->Š,zeroCells->Ŷ,lenOf->Α,holdsCells->aA,mayShare->aZ,unsafeSliceData->bk,unsafeString->cV
open Go.Conc renaming mem_ofEvents->í,touchAt->Ě,crowd->ķ,woken->ţ,stepG_region_draw->Ż,parked->Γ,Deaf->Τ,rcase->θ,stepG_unwanted->υ,g?_old->aF,knows_own->bm,deafBehind_still->bn,stepG_value->bz,stepG_enter->bA,Knows->bC,stepG_cond->cE,mem_listed->cF,stepG_none->cG,enter_at->cH,deaf_old->cN,touch_of->dM,act?_old->dO,hb_app->ef,touch_mute->eg,counts_old->eh,act?_of->ez
open Go.Next renaming value->ï,enter->ũ,skip->aG
open Go.TypeDesc renaming pointer->ð,unsafePointer->đ,string->ę,int->Β,struct->df,slice->dh
open Go.Call renaming operands->ô
open Go.Conv renaming unsafePointer->ö,bytesToString->ü,seenAt->Ž,runesToString->aE,floatToFloat->aP,intToString->bg,floatToInt->bJ,intToInt->cT
open Go.Loc renaming cell->û,mark->ů
open Ne renaming symm->ą
open Go.World renaming frozen?->Ĉ,setCell->ĉ,freeze->Ė,cell?->Ġ,farLoad->ŋ,farStore->Ŧ,shape?->Θ,setChan->ar,noCell->aO,viewStore->bI
open Go.Extern.BytealgMakeNoZero renaming makeNoZero->Ċ,digits->ņ
open Go.Mode renaming atomic->ċ,plain->Ť
open Go.Obj renaming cells->Č,pending->Ÿ,chan->χ
open Go.Callee renaming builtin->ĝ,value->cg
open Option.some renaming inj->Ĥ,injEq->ž
open Go.Region renaming wanted->Ħ,schedule->bL,Mode->eG
open Go.Instr renaming sliceBounds->Ĩ,sliceBound->ī,buildSlice->ĭ,storeAt->ĳ,makeSlice->Ĺ,extract->ō,fieldAt->Ŏ,indexAt->ŏ,sliceAt->Ő,makeInterface->ŝ,loadAt->Ş,sureAddr->ŧ,alloc->Ű,field->ű,slice->Ų,index->ų,build->Ŵ,panic->ż,box->af,fill->ay
open Go.Deferred renaming ofValue->İ
open Go.Mark renaming releaseMerge->Ķ,disable->cK,acquire->cL,noRoom->da,enable->dx,release->dN
open Go.Extern.AbiNoEscape renaming same->Ŀ
open Go.Halt renaming unsupported->ŀ
open Go.Trace renaming g?->Ņ
open Go.Stepped renaming next->ň
open Go.Touch.Kind renaming atomic->Ŕ,plain->eW
open Go.Frame renaming raise->Ŗ,finish_at->ε,finish->aS,catches->cU,enter->dJ
open Go.Unsupported renaming unsafePointer->ť
open Go.GStep renaming after->Ź,go->aR,ended->eS
open Go.Goroutine renaming again->ι
open Except renaming bind->ρ,pure->ς,error->bF,map->cj
open Go.Op.Complex renaming corrected->σ,quotient->ah,product->aB,arith->bb,conv->bK,cmp->cw,mul->cx,add->cy,sub->cz,quo->cA
open Go.BinOp renaming eql->az,neq->aK
open Go.Operand renaming func->aN,const->dW,global->eu
open Go.Code renaming cond->bx,region->bP,refuse->dr,label->dY,block->dZ,scope->ea,skip->eN,loop->eO,exit->eP,goto->eR
open Go.ConcN renaming sumTo->bD,fork_knows->cO
variable{i n j b k m J j9 j7 j6:Nat}{w u W jX:Æ}{v x z jQ:Â}{g:Ó}{a p:Ú}{h c:Int}{e t T:Á}{d q:Array Â}{P:Õ}{y:bE}{B:ByteArray}{X:Nat->Prop}{O:Option Ú}{l:List Â}{yQ:Bool}{K H:bE->Æ->Prop}{o:au}{D:Nat->Nat}{E:Array Ó}{L:List ś}{jJ:List Nat}{qX:List Ę}{qQ:Ö}{qJ:ğ}{zX:dQ->Prop}{zQ:List Int}{zJ:Go.TypeInfo}{xX:Ö->Â}{xQ:ψ}{xJ:Nat×Nat}{wX:aj}{wQ:cX}{wJ:Array Bool}{vX:List ByteArray}{vQ:Â->Æ->Prop}{vJ:Go.Exit->bE->Æ->Prop}{yX:eG}{Q:Array au}{f:Ę}{V:Array ý}{F:à}{s:Go.Func}
namespace Go.Proofs
theorem U{A:Sort _}{a:A}:a=a:=rfl
theorem Z{p:Prop}(h:p:=by omega):p:=h
theorem A{p:Prop}(h:p:=by decide):p:=h
theorem fp{p:Prop}(h:p:=by simp):p:=h
theorem ft{p:Prop}(h:p:=by kernel_rfl):p:=h
theorem fO{p:Prop}(h:p:=by rfl):p:=h
end Go.Proofs
namespace Go.Proofs.Y.Lift
open Go
abbrev ff{α:Type}:α->Prop:=λ_=>False
structure fq where
 jA:Nat->Nat->Prop
 C:Nat
instance:CoeFun fq λ_=>Nat->Nat->Prop:=⟨fq.jA⟩
def Bi(Y:fq):Prop:=(∀i j a,Y i j->Y i a->j=a)/\(∀i a j,Y i j->Y a j->i=a)/\(∀i j,Y i j->(i<Y.C↔j<Y.C))
def fq.r(Y a:fq):Prop:=(∀i j,Y i j->a i j)/\(Bi Y->Bi a)/\a.C=Y.C
def fq.N(Y:fq)(r a:Nat):fq:=⟨λi j=>Y i j\/(i=r/\j=a),Y.C⟩
def fq.M(Y:fq):Y.r Y:=⟨λ_ _ h=>h,id,U⟩
theorem fq.I{a b c:fq}(h:a.r b)(k:b.r c):a.r c:=⟨λi j x=>k.1 i j<|h.1 i j x,λx=>k.2.1<|h.2.1 x,k.2.2.trans h.2.2⟩
theorem fq.S{Y:fq}{r:Nat}(c:∀j,¬Y r j)(d:∀a,¬Y a i)(f:Y.C<=r)(g:Y.C<=i):Y.r (Y.N r i):=by
 refine⟨λ_ _ h=>Ç h,λb=>⟨?_,?_,?_⟩,U⟩
 .rintro a j k (x|⟨rfl,rfl⟩) (y|⟨e,rfl⟩)
  .exact b.1 _ _ _ x y
  .grind
  .grind
  .rfl
 .rintro a k j (x|⟨rfl,rfl⟩) (y|⟨rfl,e⟩)
  .exact b.2.1 _ _ _ x y
  .grind
  .grind
  .rfl
 .rintro a j (x|⟨rfl,rfl⟩)
  .exact b.2.2 _ _ x
  .show(a<Y.C↔j<Y.C);omega
def gY(Y:fq)(a b:Ú):Prop:=Y a.block b.block/\a.off=b.off/\a.spot=b.spot
def gY.r{Y b:fq}(h:Y.r b)(r:gY Y a p):gY b a p:=⟨h.1 _ _ r.1,r.2⟩
def gY.C{Y:fq}(r:gY Y a p)(n:Nat):gY Y (a.add n) (p.add n):=by
 let⟨b,c,d⟩:=r;unfold Addr.add;by_cases e:n=0
 .rw[if_pos e,if_pos e];exact⟨b,c,d⟩
 .rw[if_neg e,if_neg e];exact⟨b,by simp[c],U⟩
inductive fj(Y:fq):Â->Â->Prop
 |mf (b:Bool):fj Y (Ľ b) (Ľ b)
 |iI (k:ú) (n:Int):fj Y (Ć k n) (Ć k n)
 |kL (s:ByteArray):fj Y (ħ s) (ħ s)
 |lE:fj Y (Þ ë) (Þ ë)
 |jN {a a':Ú} (h:gY Y a a'):fj Y (Þ<|À a) (Þ<|À a')
 |nY (n c:Nat):fj Y (bR ë n c) (bR ë n c)
 |kC {a a':Ú} (h:gY Y a a') (n c:Nat):fj Y (bR (À a) n c) (bR (À a') n c)
 |uL:fj Y bS bS
 |fn (f:Fn):fj Y (eI f #[] #[]) (eI f #[] #[])
 |uM:fj Y aV aV
 |uN:fj Y (ei ë) (ei ë)
 |uO:fj Y (.map ë) (.map ë)
 |xI (t:Á) {v v':Â} (h:fj Y v v'):fj Y (.iface t v) (.iface t v')
 |ov {cs lF:Array Â} (hs:cs.size=lF.size) (h:∀i (h1:i<cs.size) (h2:i<lF.size),fj Y cs[i] lF[i]):fj Y (.agg cs) (.agg lF)
 |nF {cs lF:Array Â} (hs:cs.size=lF.size) (h:∀i (h1:i<cs.size) (h2:i<lF.size),fj Y cs[i] lF[i]):fj Y (ſ cs) (ſ lF)
def fj.fN{Y a:fq}(h:Y.r a)(r:fj Y v x):fj a v x:=by
 induction r with
 |mf b=>exact .mf b
 |iI k n=>exact .iI k n
 |kL s=>exact .kL s
 |lE=>exact .lE
 |jN b=>exact .jN (b.r h)
 |nY n c=>exact .nY n c
 |kC b n c=>exact .kC (b.r h) n c
 |uL=>exact .uL
 |fn f=>exact .fn f
 |uM=>exact .uM
 |uN=>exact .uN
 |uO=>exact .uO
 |xI t _ b=>exact .xI t b
 |ov c _ b=>exact .ov c b
 |nF c _ b=>exact .nF c b
structure fQ(Y:fq)(cs lF:Array Â):Prop where
 r:cs.size=lF.size
 C:∀i (h1:i<cs.size) (h2:i<lF.size),fj Y cs[i] lF[i]
def fQ.I{Y a:fq}(h:Y.r a){cs:Array Â}(r:fQ Y cs d):fQ a cs d:=⟨r.r,λi b c=>(r.C i b c).fN h⟩
theorem fQ.S{Y:fq}(r:fQ Y d q)(i:Nat):(d[i]?=ë/\q[i]?=ë)\/∃v b,d[i]?=À v/\q[i]?=À b/\fj Y v b:=by
 by_cases h:i<d.size
 .have a:i<q.size:=by rwa[<-r.r]
  exact Î ⟨d[i],q[i],Ý h,Ý a,r.C i h a⟩
 .have a:¬i<q.size:=by rwa[<-r.r]
  grind
def fQ.N(Y:fq):fQ Y #[] #[]:=⟨U,λi h=>absurd h fp⟩
theorem fQ.Uc{Y:fq}(r:fQ Y d q)(h:fj Y v x):fQ Y (d.push v) (q.push x):=by
 refine⟨by simp[r.r],λi b c=> ?_⟩;simp only[Array.getElem_push];have e:=r.r;by_cases a:i<d.size
 .rw[dif_pos a,dif_pos Z];exact r.C i a Z
 .grind
theorem fQ.qj{Y:fq}(r:fQ Y d q)(n:Nat)(h:fj Y v x):fQ Y (d.setIfInBounds n v) (q.setIfInBounds n x):=by
 refine⟨by simp[r.r],λi c e=> ?_⟩;have f:i<d.size:=by simpa using c
 have g:i<q.size:=by simpa using e
 have a:(d.setIfInBounds n v)[i]?=if n=i then À v else d[i]?:=by grind
 have b:(q.setIfInBounds n x)[i]?=if n=i then À x else q[i]?:=by grind
 rw[Ý c]at a;rw[Ý e]at b;by_cases j:n=i
 .grind
 .rw[if_neg j]at a b;rw[Ý f]at a;rw[Ý g]at b;injection a with a;injection b with b;rw[a,b];exact r.C i f g
def fQ.sX{Y:fq}{cs b:Array Â}(r:fQ Y cs d)(t:fQ Y q b):fQ Y (cs++q) (d++b):=by
 refine⟨by simp[r.r,t.r],λi c g=> ?_⟩;have e:=r.r;have f:=t.r;simp only[Array.getElem_append];by_cases a:i<cs.size
 .rw[dif_pos a,dif_pos Z];exact r.C i a Z
 .rw[dif_neg a,dif_neg Z];have:=t.C (i-cs.size) (by simp at c;omega) (by simp at c;omega);simpa[e]using this
def fQ.ER{Y:fq}(r:fQ Y d q)(a b:Nat):fQ Y (d.extract a b) (q.extract a b):=by refine⟨by simp[r.r],λi c e=> ?_⟩;rw[κ ..,κ ..];exact r.C _ _ _
def fQ.M{Y:fq}(h:fj Y v x):fQ Y #[v] #[x]:= ⟨U,λi a b=>by have:i=0:=(by simpa using a);subst this;exact h⟩
def fj.gR{Y:fq}(h:fj Y v x):fQ Y v.cells x.cells:=by
 cases h with
 |ov a h=>exact⟨a,h⟩
 |mf b=>exact fQ.M<|.mf b
 |iI k n=>exact fQ.M<|.iI k n
 |kL s=>exact fQ.M<|.kL s
 |lE=>exact fQ.M .lE
 |jN b=>exact fQ.M<|.jN b
 |nY n c=>exact fQ.M<|.nY n c
 |kC b n c=>exact fQ.M<|.kC b n c
 |uL=>exact fQ.M .uL
 |fn f=>exact fQ.M<|.fn f
 |uM=>exact fQ.M .uM
 |uN=>exact fQ.M .uN
 |uO=>exact fQ.M .uO
 |xI t b=>exact fQ.M<|.xI t b
 |nF a h=>exact fQ.M<|.nF a h
def xK:Â->Bool
 |.agg _|ſ _=>Ã
 |_=>É
def ES(e:Á)(n:Nat):Prop:=(e=304\/e=305)/\n<=16
class zN (P:Õ):Prop where
 lt:∀e n,ES e n->n<P.cellsOf e
def Cd(e:Á)(n a:Nat):Prop:=n=a\/(n<=a/\ES e n)
structure oP(Y:fq)(s:Prop)(e:Á)(c c':Array Â):Prop where
 r:∀i (_:i<c.size) (_:i<c'.size),fj Y c[i] c'[i]
 I:c.size<=c'.size
 C:c.size=c'.size\/(s/\ES e c.size)
section
variable{Y d:fq}{s:Prop}{c c':Array Â}
def oP.M(h:fQ Y c c'):oP Y s e c c':=⟨h.C,by rw[h.r];exact ß _,Ç h.r⟩
def oP.N(h:oP Y s e c c')(a:¬s):fQ Y c c':=⟨h.C.resolve_right λq=>a q.1,h.r⟩
def oP.fN(h:oP Y s e c c')(l:Y.r d):oP d s e c c':=⟨λi a b=>(h.r i a b).fN l,h.I,h.C⟩
theorem oP.zO(h:oP Y s e c c')(i:Nat):(c[i]?=ë/\True)\/∃v a,c[i]?=À v/\c'[i]?=À a/\fj Y v a:=by
 by_cases q:i<c.size
 .have b:=Ô q h.I;exact Î ⟨c[i],c'[i],Ý q,Ý b,h.r i q b⟩
 .grind
def oP.abX(h:oP Y s e c c'):Cd e c.size c'.size:=h.C.imp id λq=>⟨h.I,q.2⟩
end
inductive fF(P:Õ){α:Type}(V:fq->α->α->Prop):fq->ē α->ē α->Prop
 |fC {Y:fq} {a a':α} (h:V Y a a'):fF P V Y (aH a) (aH a')
 |gy {Y:fq} {a a':Ú} {k k':Â->ē α} (ha:gY Y a a') (hk:∀v v',fj Y v v'->fF P V Y (k v) (k' v')):fF P V Y (.load Ť a k) (.load Ť a' k')
 |jb {Y:fq} {a a':Ú} {v v':Â} {k k':ē α} (ha:gY Y a a') (hv:fj Y v v') (hk:fF P V Y k k'):fF P V Y (c9 Ť a v k) (c9 Ť a' v' k')
 |xL {Y:fq} {c c':Array Â} {e:Á} {k k':Nat->ē α} (hc:fQ Y c c') (hk:∀r r',(∀j,¬Y r j)->(∀i,¬Y i r')->Y.C<=r->Y.C<=r'->fF P V (Y.N r r') (k r) (k' r')):fF P V Y (.new (Č c e) k) (.new (Č c' e) k')
 |uP {Y:fq} {r r':Nat} {k k':Option (TypeId×Nat)->ē α} (hr:Y r r') (hk:∀e n n',Cd e n n'->fF P V Y (k<|À (e,n)) (k'<|À (e,n'))):fF P V Y (.shape r k) (.shape r' k')
 |My {Y:fq} {a a':Ú} {k k':Bool->ē α} (ha:gY Y a a') (hk:∀b b',(b'=É->b=É)->fF P V Y (k b) (k' b')):fF P V Y (.frozen a k) (.frozen a' k')
 |zP {Y:fq} {q:bT} {k k':Nat->ē α} (hk:∀n,fF P V Y (k n)<|k' n):fF P V Y (.choose q k) (.choose q k')
 |Ii {Y:fq} {k k':Õ->ē α} (hk:fF P V Y (k P) (k' P)):fF P V Y (.program k) (.program k')
 |Ce {Y:fq} {m:Mark} {k k':ē α} (hm:m=da\/∃f,m=.extern f) (hk:fF P V Y k k'):fF P V Y (.mark m k) (.mark m k')
 |fP {Y:fq} {h:Halt} {m:ē α}:fF P V Y (ek h) m
 |ow {Y:fq} {m m':ē α} (h:∀u x u',m.run P u≠ĥ x u'):fF P V Y m m'
def vK{α β:Type}{m:ē α}{f:α->ē β}(h:∀u x b,m.run P u≠ĥ x b):∀u x b,(m.bind f).run P u≠ĥ x b:=by
 intro u x b e;have c:(m>>=f).run P u=ĥ x b:=e;rw[Ä]at c;cases d:m.run P u with
 |ok a w=>exact h _ _ _ d
 |halt z w=>rw[d]at c;cases c
def fF.mg{α β:Type}{V:fq->α->α->Prop}{l:fq->β->β->Prop}{Y:fq}{m o:ē α}{f p:α->ē β}(h:fF P V Y m o) (g:∀i a k,Y.r i->V i a k->fF P l i (f a) (p k)):fF P l Y (m.bind f) (o.bind p):=by
 induction h with
 |fC h=>exact g _ _ _ (fq.M _) h
 |gy j _ d=>exact .gy j λv c b=>d v c b g
 |jb j b _ d=>exact .jb j b (d g)
 |xL q _ d=>exact .xL q λr s c e n v=>d r s c e n v λi a k t b=>g i a k (fq.I (fq.S c e n v) t) b
 |uP b _ d=>exact .uP b λe n v c=>d e n v c g
 |My j _ d=>exact .My j λb c v=>d b c v g
 |zP _ d=>exact .zP λn=>d n g
 |Ii _ d=>exact .Ii (d g)
 |Ce c _ d=>exact .Ce c (d g)
 |fP=>exact .fP
 |ow h=>exact .ow (vK h)
def xM:Â->Bool
 |Ć .u8 _=>É
 |_=>Ã
def Cf(c:Array Â):Prop:=∀(k:Nat) (v:Â),c[k]?=À v->xM v=Ã
structure jh(Y:fq)(Sh:Nat->Prop)(u w:Æ):Prop where
 S:u.tape=w.tape
 N:u.drawn=w.drawn
 C:Bi Y
 I:Y.C<=u.heap.size
 M:Y.C<=w.heap.size
 r:∀i j,Y i j->∃c c' e fr vL,u.heap[i]?=À (Č c e fr)/\w.heap[j]?=À (Č c' e vL)/\oP Y (Sh j) e c c'/\(Sh j->fr.1=0/\c.size<=fr.2/\vL.2<=fr.2/\0<c.size/\(Cf c\/ES e c.size))/\(¬Sh j->fr=vL)/\fr.2<=c.size
structure nG(Y:fq)(Sh:Nat->Prop)(w w':Æ):Prop where
 r:w.heap.size<=w'.heap.size
 I:w'.os=w.os
 M:w'.output=w.output
 S:w'.tape=w.tape
 C:∀j,j<w.heap.size->(∀i,¬Y i j)->w'.heap[j]?=w.heap[j]?
 N:∀j,Sh j->j<w.heap.size->w'.heap[j]?=w.heap[j]?
def zR(Y:fq)(b:Nat->Prop)(e:ý):Prop:=
 (∃(a:Ú) (i:Nat),e.loc=û a/\Y i a.block/\e.sync=Ã/\(e.write=É->¬b a.block))\/e.loc=ů da\/∃f,e.loc=ů (.extern f)
def vM{α:Type}{m:Mode}{k:ē α}(h:xK v=É): ã P (c9 m a v k) w=(match w.cell? a with
 |some _=>if w.frozen? a then bU (ŀ<|ť "a write to bytes that a string shares") w else k.run P (w.setCell a v)
 |none=>match w.farStore P a v (m==ċ)with
  |.ok (w,_)=>k.run P w
  |bF h=>bU h w):=by
 cases v<;>first|rfl|cases h
def abY{α:Type}{m:Mode}{k:ē α}(h:xK v=É): é P (c9 m a v k) w V=(match w.cell? a with
 |some _=>
  if w.frozen? a then(bU (ŀ<|ť "a write to bytes that a string shares") w,V)
  else k.runT P (w.setCell a v) (V.push ⟨û a,É,m==ċ⟩)
 |none=>match w.farStore P a v (m==ċ)with
  |.ok (w,touched)=>k.runT P w (V++touched.toArray.map (⟨.cell ·,É,m==.atomic⟩))
  |bF h=>(bU h w,V)):=by
 cases v<;>first|rfl|cases h
def abZ{α:Type}{m:Mode}{k:ē α}(h:xK v=Ã){x:α}:ã P (c9 m a v k) w≠ĥ x u:=by cases v<;>first|exact Bool.noConfusion h|(intro e;simp[ã]at e)
def ab0{Y:fq}(h:fj Y v x):xK x=xK v:=by cases h<;>rfl
section
variable{Y:fq}
def zS(h:u.heap[a.block]?=À (Č d e xJ)):u.cell? a=if a.spot.isSome then ë else d[a.off]?:=by simp[Ġ,h]
def ab1(h:u.heap[a.block]?=À (Č d e xJ))(b:Bool):∃x,u.farLoad P a b=bF x:=by simp[ŋ,h]
def ab2(h:u.heap[a.block]?=À (Č d e xJ))(b:Bool):∃x,u.farStore P a v b=bF x:=by simp[Ŧ,h]
def jh.gy(h:jh Y X u w){a':Ú}(i:gY Y a a')(b:u.cell? a=À v):∃f,w.cell? a'=À f/\fj Y v f:=by
 let⟨j,k,l⟩:=i;let⟨c,s,e,t,y,m,n,o,_⟩:=h.r _ _ j;rw[zS m]at b;rw[zS n,<-k,<-l];cases g:a.spot with
 |some x=>rw[g]at b;cases b
 |none=>
  rw[g]at b;rcases o.zO a.off with⟨d,_⟩|⟨x,p,d,q,r⟩
  .simp[d]at b
  .simp[d]at b;subst b;exact⟨p,by simp[q],r⟩
theorem jh.ab3(h:jh Y X u w)(g:gY Y a p)(i:u.cell? a=À v)(j:u.frozen? a=Ã):¬X p.block/\w.frozen? p=Ã:=by
 let⟨k,l,q⟩:=g;let⟨c,r,e,b,s,d,m,t,x,n,y⟩:=h.r _ _ k;rw[zS d]at i;have z:a.off<c.size:=by grind
 have o:(decide (b.1<=a.off)&&decide (a.off<b.2))=Ã:=by simpa[Ĉ,d]using j
 have f:¬X p.block:=by grind
 refine⟨f,?_⟩;have:=n f;subst this;simp only[Ĉ,m,<-l];exact o
def Ud{w:Æ}(h:w.heap[a.block]?=À (Č d e xJ))(b:a.spot=ë): (w.setCell a v).heap[a.block]?=À (Č (d.setIfInBounds a.off v) e xJ):=by simp[ĉ,Ň,h,b]
def jV{w:Æ}:(w.setCell a v).heap.size=w.heap.size:=by simp[ĉ]
def Ij{w:Æ}(h:a.block≠j):(w.setCell a v).heap[j]?=w.heap[j]?:=by simp[ĉ,Ň,h]
def jh.jb(h:jh Y X u w)(B:gY Y a p)(C:fj Y v z)(D:u.cell? a=À x)(m:¬X p.block):jh Y X (u.setCell a v) (w.setCell p z):=by
 let⟨d,E,F⟩:=B;have n:a.spot=ë:=by let⟨c,o,e,f,g,b,_⟩:=h.r _ _ d;rw[zS b]at D;simp_all
 refine⟨h.S,h.N,h.C,by rw[jV];exact h.I,by rw[jV];exact h.M,λi j k=> ?_⟩;let⟨c,o,e,f,g,b,q,r,G,t,y⟩:=h.r i j k;by_cases l:a.block=i
 .subst l;have:j=p.block:=h.C.1 _ _ _ k d;subst this;exact⟨_,_,e,f,g,Ud b n,Ud q (by rw[<-F,n]),by rw[<-E];exact oP.M<|(r.N m).qj _ C,λs=>absurd s m,t,by simpa using y⟩
 .exact⟨c,o,e,f,g,by rwa[Ij l],by rwa[Ij λe=>l<|h.C.2.1 _ _ _ d<|e▸k],r,G,t,y⟩
theorem jh.xL(h:jh Y X u w)(m:∀j,X j->j<w.heap.size)(n:fQ Y d q): jh (Y.N u.heap.size w.heap.size) X {u with heap:=u.heap.push (Č d e)} {w with heap:=w.heap.push (Č q e)}:=by
 have a:∀i j,Y i j->i<u.heap.size/\j<w.heap.size:=by intro i j s;let⟨_,_,_,_,_,f,g,_⟩:=h.r i j s;grind
 have b:=fq.S (Y:=Y) (λj x=>absurd (a _ _ x).1 Z) (λi x=>absurd (a _ _ x).2 Z) h.I h.M;refine⟨h.S,h.N,b.2.1 h.C,by have:=h.I;simp[fq.N];omega,by have:=h.M;simp[fq.N];omega,?_⟩
 .rintro i j (x|⟨rfl,rfl⟩)
  .let⟨s,o,p,r,t,f,g,v,y,z,B⟩:=h.r i j x;let⟨k,l⟩:=a i j x;exact⟨s,o,p,r,t,by simp only[Ģ k];rw[<-f,Ý k],by simp only[Ģ l];rw[<-g,Ý l],v.fN b,y,z,B⟩
  .exact⟨d,q,e,(0,0),(0,0),fp,fp,oP.M<|n.I b,λs=>absurd (m _ s) Z,λ_=>rfl,dz _⟩
theorem nG.fT(Y:fq)(X:Nat->Prop)(w:Æ):nG Y X w w:=⟨ß _,U,U,U,λ_ _ _=>rfl,λ_ _ _=>rfl⟩
def nG.fg{b:fq}{w₁:Æ}(h:nG Y X w w₁)(k:nG b X w₁ u)(d:∀i j,b i j->Y i j\/w.heap.size<=j):nG Y X w u:= ⟨õ h.r k.r,k.I.trans h.I,k.M.trans h.M,k.S.trans h.S,λj a c=>(k.C j (Ô a h.r) λi y=>(d i j y).elim (c i) λz=>by omega).trans<|h.C j a c,λj s a=>(k.N j s<|Ô a h.r).trans<|h.N j s a⟩
def Ik{w:Æ}:(w.freeze a n).heap.size=w.heap.size:=by unfold Ė;split<;>simp
def ab4{w:Æ}:(w.freeze a n).os=w.os:=by unfold Ė;split<;>rfl
def ab5{w:Æ}:(w.freeze a n).output=w.output:=by unfold Ė;split<;>rfl
def Mz{w:Æ}:(w.freeze a n).tape=w.tape:=by unfold Ė;split<;>rfl
def Ue{w:Æ}:(w.freeze a n).drawn=w.drawn:=by unfold Ė;split<;>rfl
theorem Il{w:Æ}(h:a.block≠j):(w.freeze a n).heap[j]?=w.heap[j]?:=by unfold Ė;split;all_goals grind
def rS(a:Ú)(n:Nat)(b:Nat×Nat):Nat×Nat:=if n=0 then b else if b.1==b.2 then(a.off,a.off+n)else(min b.1 a.off,max b.2<|a.off+n)
theorem Uf{w:Æ}(h:w.heap[a.block]?=À (Č d e xJ)):(w.freeze a n).heap[a.block]?=À (Č d e<|rS a n xJ):=by unfold Ė rS;grind
def Ug(h:a.off=p.off)(n:Nat)(b:Nat×Nat):rS a n b=rS p n b:=by unfold rS;rw[h]
theorem ab6(h:a.off+n<=i)(b:xJ.2<=i):(rS a n xJ).2<=i:=by unfold rS;grind
theorem ab7{b:Nat×Nat}(c:0<i)(d:xJ.1=0)(e:i<=xJ.2)(f:b.2<=xJ.2):(rS a n xJ).1=0/\i<=(rS a n xJ).2/\(rS a n b).2<=(rS a n xJ).2:=by unfold rS;grind
def jh.ab8(h:jh Y X u w)(y:gY Y a p)(n:Nat)(z:∀c e b,u.heap[a.block]?=À (Č c e b)->a.off+n<=c.size):jh Y X (u.freeze a n) (w.freeze p n):=by
 obtain⟨k,l,I⟩:=y;refine⟨Mz.trans<|h.S.trans Mz.symm,Ue.trans<|h.N.trans Ue.symm,h.C,by rw[Ik];exact h.I,by rw[Ik];exact h.M,λi j d=> ?_⟩;obtain⟨c,m,e,b,B,f,o,q,r,t,v⟩:=h.r i j d;by_cases g:a.block=i
 .subst g;have:j=p.block:=h.C.1 _ _ _ d k;subst this;refine⟨c,m,e,_,_,Uf f,Uf o,q,λs=> ?_,λs=> ?_,ab6 (z _ _ _ f) v⟩
  .obtain⟨C,D,E,x⟩:=r s;rw[<-Ug l];obtain⟨F,G,H⟩:=ab7 x.1 C D E;exact⟨F,G,H,x⟩
  .rw[t s,Ug l]
 .exact⟨c,m,e,b,B,by rwa[Il g],by rwa[Il λe=>g<|h.C.2.1 _ _ _ k<|e▸d],q,r,t,v⟩
theorem jh.G(h:jh Y X u w)(b:gY Y a p):w.frozen? p=É->u.frozen? a=É:=by let⟨d,f,j⟩:=b;let⟨c,k,e,l,m,g,i,n,o,q,r⟩:=h.r _ _ d;simp only[Ĉ,g,i,<-f,ě,decide_eq_true_eq];rintro⟨x,y⟩;by_cases s:X p.block;all_goals grind
theorem fF.gi{α:Type}{V:fq->α->α->Prop}{Y:fq}{m m':ē α}(h:fF P V Y m m'):∀{u w:Æ},jh Y X u w->(∀j,X j->j<w.heap.size)->∀{x:α} {E:Æ},m.run P u=ĥ x E->∀n:Array ý,∃(l:fq) (t:α) (p:Æ) (B:Array ý),Y.r l/\(∀i j,l i j->Y i j\/(u.heap.size<=i/\w.heap.size<=j))/\m'.runT P w n=(ĥ t p,n++B)/\V l x t/\jh l X E p/\nG Y X w p/\(∀e∈B,zR l X e)/\u.heap.size<=E.heap.size:=by
 induction h with
 |fC h=>
  intro u w d _ x E b n;simp only[ã]at b;cases b;exact⟨_,_,w,#[],fq.M _,λ_ _ h=>Ç h,by simp[é],h,d,nG.fT _ _ _,λe o=>by simp at o,ß _⟩
 |@gy Y a a' k k' ha hk D=>
  intro u w d C x E b n;simp only[ã]at b;cases f:u.cell? a with
  |none=>
   let⟨c,Q,e,fr,vL,O,_⟩:=d.r _ _ ha.1;let⟨z,s⟩:=ab1 (P:=P) O<|Ť==ċ;rw[f]at b;simp only[s]at b;cases b
  |some v=>
   rw[f]at b;let⟨W,S,y⟩:=d.gy ha f;let⟨l,t,p,B,F,G,I,J,K,g,L,H⟩:=D v W y d C b<|n.push ⟨û a',Ã,Ã⟩;refine⟨l,t,p,#[⟨û a',Ã,Ã⟩]++B,F,G,?_,J,K,g,λe o=> ?_,H⟩
   .simp only[é,S];rw[show((Ť==ċ)=Ã)from U,I];rw[<-Ļ,Ł]
   .rcases Ĝ.1 o with o|o
    .simp at o;subst o;exact Ç ⟨a',_,U,F.1 _ _ ha.1,U,λe=>by cases e⟩
    .exact L e o
 |@jb Y a a' v W k k' ha hv _ D=>
  intro u w d C x E b n;cases ho:xK v with
  |false=>exact absurd b<|abZ ho
  |true=>
   rw[vM ho]at b;cases f:u.cell? a with
   |none=>
    let⟨c,Q,e,fr,vL,O,_⟩:=d.r _ _ ha.1;let⟨z,s⟩:=ab2 (P:=P) (v:=v) O<|Ť==ċ;rw[f]at b;simp only[s]at b;cases b
   |some y=>
    rw[f]at b;cases M:u.frozen? a with
    |true=>rw[M]at b;simp at b
    |false=>
     simp only[M,Å,if_false]at b;let⟨ns,hf'⟩:=d.ab3 ha f M;let⟨y',MA,_⟩:=d.gy ha f;let⟨l,t,p,B,F,G,I,J,K,g,L,H⟩:=D (d.jb ha hv f ns) (by rwa[jV]) b<|n.push ⟨û a',É,Ã⟩;have S:(w.setCell a' W).heap.size=w.heap.size:=jV;have Uh:(u.setCell a v).heap.size=u.heap.size:=jV;refine⟨l,t,p,#[⟨û a',É,Ã⟩]++B,F,by rwa[S,Uh]at G,?_,J,K,?_,λe o=> ?_,by rwa[Uh]at H⟩
     .rw[abY<|(ab0 hv).trans ho,MA];simp only[hf',Å,if_false];rw[show((Ť==ċ)=Ã)from U,I];rw[<-Ļ,Ł]
     .refine⟨by rw[<-S];exact g.r,g.I,g.M,g.S,λj N T=> ?_,λj s N=>(g.N j s<|by rwa[S]).trans<|Ij λe=>ns<|e▸s⟩;rw[g.C j (by rwa[S]) T];exact Ij λe=>T a.block<|e▸ha.1
     .rcases Ĝ.1 o with o|o
      .simp at o;subst o;exact Ç ⟨a',_,U,F.1 _ _ ha.1,U,λ_=>ns⟩
      .exact L e o
 |@xL Y c Q e k k' f _ D=>
  intro u w d C x E b n;simp only[ã]at b;have W:∀i j,Y i j->i<u.heap.size/\j<w.heap.size:=by intro i j S;let⟨_,_,_,_,_,O,hw',_⟩:=d.r i j S;grind
  have n1:∀j,¬Y u.heap.size j:=λj y=>absurd (W _ _ y).1 Z;have n2:∀i,¬Y i w.heap.size:=λi y=>absurd (W _ _ y).2 Z;let⟨l,t,p,B,F,G,I,J,K,g,L,H⟩:=D u.heap.size w.heap.size n1 n2 d.I d.M (d.xL C f) (λj s=>by have:=C j s;simp;omega) b n;refine⟨l,t,p,B,fq.I (fq.S n1 n2 d.I d.M) F,λi j S=> ?_,by simp only[é];exact I,J,K,?_,L,by simp at H;omega⟩
  .rcases G i j S with(y|⟨rfl,rfl⟩)|y
   .exact Ç y
   .exact Î ⟨ß _,ß _⟩
   .simp at y;exact Î ⟨Z,Z⟩
  .have hs:=g.r;simp at hs;refine⟨Z,g.I,g.M,g.S,λj N T=> ?_,λj s N=>(g.N j s<|by simp;omega).trans ?_⟩
   .rw[g.C j (by simp;omega) (λi z=>z.elim (T i) λz=>by omega)];simp[Ģ N]
   .simp[Ģ N]
 |@uP Y r r' k k' oQ _ D=>
  intro u w d C x E b n;simp only[ã]at b;let⟨c,Q,e,fr,vL,O,hw',S,_⟩:=d.r _ _ oQ;have f:u.shape? r=À (e,c.size):=by simp[Θ,O]
  have s:w.shape? r'=À (e,Q.size):=by simp[Θ,hw']
  rw[f]at b;let⟨l,t,p,B,h⟩:=D e c.size Q.size S.abX d C b n;exact⟨l,t,p,B,by simp only[é,s];exact h⟩
 |@My Y a a' k k' ha _ D=>
  intro u w d C x E b n;simp only[ã]at b;let⟨l,t,p,B,h⟩:=D (u.frozen? a) (w.frozen? a') (d.G ha) d C b n;exact⟨l,t,p,B,by simpa only[é]using h⟩
 |@zP Y q k k' _ D=>
  intro u w d C x E b n;simp only[ã]at b;cases M:q.forced with
  |true=>
   rw[M]at b;simp only[if_true]at b;let⟨l,t,p,B,h⟩:=D 0 d C b n;exact⟨l,t,p,B,by simpa only[é,M,if_true]using h⟩
  |false=>
   rw[M]at b;simp only[Å,if_false]at b;have S:jh Y X {u with drawn:=u.drawn+1} {w with drawn:=w.drawn+1}:=⟨d.S,by simp[d.N],d.C,d.I,d.M,d.r⟩;rw[d.S,d.N]at b;obtain⟨l,t,p,B,F,G,I,J,K,g,L,H⟩:=D (q.cut<|w.tape w.drawn q) S C (by rwa[d.S,d.N]) n;exact⟨l,t,p,B,F,G,by simp only[é,M,Å,if_false];exact I,J,K,⟨g.r,g.I,g.M,g.S,g.C,g.N⟩,L,H⟩
 |Ii _ D=>
  intro u w d C x E b n;simp only[ã]at b;let⟨l,t,p,B,h⟩:=D d C b n;exact⟨l,t,p,B,by simpa only[é]using h⟩
 |@Ce Y mk k k' hm _ D=>
  intro u w d C x E b n;simp only[ã]at b;let⟨l,t,p,B,F,G,I,J,K,g,L,H⟩:=D d C b<|n.push ⟨ů mk,Ã,É⟩;refine⟨l,t,p,#[⟨ů mk,Ã,É⟩]++B,F,G,?_,J,K,g,λe o=> ?_,H⟩
  .simp only[é];rw[I];rw[<-Ļ,Ł]
  .rcases Ĝ.1 o with o|o
   .simp at o;subst o;rcases hm with rfl|⟨f,rfl⟩
    .exact Î<|Ç U
    .exact Î<|Î ⟨f,U⟩
   .exact L e o
 |fP=>
  intro u w _ _ x E b n;simp only[ã]at b;cases b
 |ow h=>
  intro u w _ _ x E b n;exact absurd b<|h _ _ _
end
inductive jO:Â->Prop
 |mf (b:Bool):jO (Ľ b)
 |iI (k:ú) (n:Int):jO (Ć k n)
 |kL (s:ByteArray):jO (ħ s)
 |lE:jO (Þ ë)
 |nY (n c:Nat):jO (bR ë n c)
 |uL:jO bS
 |uM:jO aV
 |uN:jO (ei ë)
 |uO:jO (.map ë)
 |ov {cs:Array Â} (h:∀i (h:i<cs.size),jO cs[i]):jO (.agg cs)
 |nF {cs:Array Â} (h:∀i (h:i<cs.size),jO cs[i]):jO (ſ cs)
def jO.jA(h:jO v)(Y:fq):fj Y v v:=by
 induction h with
 |mf b=>exact .mf b
 |iI k n=>exact .iI k n
 |kL s=>exact .kL s
 |lE=>exact .lE
 |nY n c=>exact .nY n c
 |uL=>exact .uL
 |uM=>exact .uM
 |uN=>exact .uN
 |uO=>exact .uO
 |ov _ b=>exact .ov U λi c _=>b i c
 |nF _ b=>exact .nF U λi c _=>b i c
def nH(P:Õ):Prop:=∀t i z,P.info? t=À i->i.zero=À z->jO z
def jo{α:Type}:fq->α->α->Prop:=λ_ a b=>a=b
section
variable{Y:fq}
def fE{α β:Type}{V:fq->α->α->Prop}{V':fq->β->β->Prop}{m c:ē α}{f d:α->ē β}(h:fF P V Y m c) (g:∀b a e,Y.r b->V b a e->fF P V' b (f a) (d e)):fF P V' Y (m>>=f) (c>>=d):=fF.mg h g
def rT{α β:Type}{c:fq->β->β->Prop}{m:ē α}{f d:α->ē β}(h:fF P jo Y m m) (g:∀b a,Y.r b->fF P c b (f a) (d a)):fF P c Y (m>>=f) (m>>=d):= fF.mg h λb a i j (e:a=i)=>by subst e;exact g b a j
def qM:fF P (λ_ a b=>a=P/\b=P) Y dc dc:=.Ii (.fC ⟨U,U⟩)
theorem MB{α:Type}{V:fq->α->α->Prop}{e:Ι}(h:(∃x y s c,e=.bounds x y s c)\/(∃m,e=.error m)\/(∃m,e=.plain m)\/e=.nilDeref):fF P V Y (runtimePanic e) (runtimePanic e):=by unfold runtimePanic;refine fE qM ?_;rintro f a g _ ⟨b,d⟩;rw[b,d];rcases h with⟨x,y,s,c,rfl⟩|⟨m,rfl⟩|⟨m,rfl⟩|rfl<;>exact .fP
theorem Cg{α:Type}{V:fq->α->α->Prop}{k:ú}{y:Int}{c:av}:fF P V Y (boundsPanic k h y c) (boundsPanic k h y c):=by
 unfold boundsPanic;simp only[];split
 .apply rT (.zP λn=> .fC U);grind [MB]
 .grind [MB]
def xN(t:Á):fF P (λ_ a b=>a=b/\P.info? t=À a) Y (Δ t) (Δ t):=by
 unfold Δ;apply fE qM;rintro e a b _ ⟨c,d⟩;rw[c,d];cases h:P.info? t with
 |some i=>exact .fC ⟨U,U⟩
 |none=>exact .fP
def ja(t:Á):fF P (λ_ a b=>a=b/\P.underlying t=À a) Y (ø t) (ø t):=by
 unfold ø;apply fE qM;rintro e a b _ ⟨c,d⟩;rw[c,d];cases h:P.underlying t with
 |some i=>exact .fC ⟨U,U⟩
 |none=>exact .fP
def EU(b:nH P)(t:Á):fF P fj Y (ω t) (ω t):=by
 unfold ω;apply fE (xN t);rintro d a e _ ⟨rfl,h⟩;cases c:a.zero with
 |some z=>exact .fC ((b t a z h c).jA _)
 |none=>exact .fP
def mR(t:Á):fF P (λ_ a b=>a=b/\∃i,P.info? t=À i/\i.size=a) Y (ax t) (ax t):=by unfold ax;apply fE (xN t);rintro i a b _ ⟨rfl,h⟩;exact .fC ⟨U,_,h,U⟩
def Ui(t:Á):fF P jo Y (ep t) (ep t):=by unfold ep;apply fE (ja t);rintro b a c _ ⟨rfl,_⟩;split<;>exact .fC U
def Im(h:gY Y a p):fF P fj Y (aW a) (aW p):=.gy h λ_ _ b=> .fC b
def ab9(h:gY Y a p)(b:fj Y v x):fF P jo Y (ak a v) (ak p x):=.jb h b (.fC U)
def acd:∀{Y:fq} {a b:Ú} {i:Nat} {c d:Array Â},gY Y a b->fQ Y c d->fF P fQ Y (Ō a i n c) (Ō b i n d):=by
 induction n with
 |zero=>intro Y a b i c d _ e;exact .fC e
 |succ n h=>
  intro Y a b i c d f e;unfold Ō;apply fE (Im<|f.C i);exact λk v l g j=>h (f.r g)<|(e.I g).Uc j
def MC(h:gY Y a p)(n:Nat):fF P fQ Y (cZ a n) (cZ p n):=acd h<|fQ.N Y
def MD:∀{d c:List Â} {Y:fq} {a e:Ú} {i:Nat},gY Y a e->fQ Y d.toArray c.toArray->fF P jo Y (Κ a d i) (Κ e c i):=by
 intro d
 induction d with
 |nil=>
  intro c Y a e i _ b;have:c=[]:=by have:=b.r;simp at this;exact Ā this.symm
  subst this;exact .fC U
 |cons v d h=>
  intro c Y a e i f b;match c,b with
  |[],b=>have:=b.r;simp at this
  |v'::c,b=>
   unfold Κ;refine fE (ab9 (f.C i) (by have:=b.C 0 fp fp;simpa using this)) ?_;intro m _ _ g _;apply h (f.r g);refine⟨by have:=b.r;simpa using this,λj k l=> ?_⟩;have:=b.C (j+1) (by simp at k|-;omega) (by simp at l|-;omega);exact(by simpa using this:fj Y _ _).fN g
theorem Uj(h:gY Y a p)(t:Á):fF P fj Y (ae t a) (ae t p):=by
 unfold ae;apply rT (Ui t);intro g b d;split
 .apply fE (mR t);rintro i n _ f ⟨rfl,_⟩;apply fE (MC ((h.r d).r f) n);exact λj c k _ e=> .fC (.ov e.r e.C)
 .exact Im<|h.r d
def ace(h:gY Y a p)(t:Á)(d:fj Y v x):fF P jo Y (aI t a v) (aI t p x):=by
 unfold aI;apply fE (mR t);rintro f n _ b ⟨rfl,_⟩;have c:=(d.fN b).gR;by_cases e:v.cells.size≠n
 .rw[if_pos e];exact .fP
 .rw[if_neg e,if_neg (by rwa[<-c.r])];exact MD (h.r b) c
def zU(e:Á)(h:fQ Y d q):fF P gY Y (dR e d) (dR e q):= .xL h λ_ _ _ _ _ _=> .fC ⟨Î ⟨U,U⟩,U,U⟩
def Uk(t:Á)(h:fj Y v x):fF P gY Y (eJ t v) (eJ t x):=zU t h.gR
def Ul(t:Á)(h:fQ Y d q)(a:Nat):fF P fj Y (part t d a) (part t q a):=by
 unfold part;apply rT (Ui t);intro i b e;split
 .apply fE (mR t);rintro g n _ f ⟨rfl,_⟩;have:=((h.I e).I f).ER a<|a+n;exact .fC (.ov this.r this.C)
 .rcases(h.I e).S a with⟨n,f⟩|⟨v,j,n,f,g⟩
  .rw[n];exact .fP
  .rw[n,f];exact .fC g
def EV(h:fj Y v x):fF P gY Y (ŧ v) (ŧ x):=by cases h<;>first|exact .fP|(rename_i a;exact .fC a)
def Io(h:fj Y v x):fF P jo Y (de v) (de x):=by cases h<;>first|exact .fC U|exact .fP
def ME(h:fj Y v x):fF P jo Y (dA v) (dA x):=by unfold dA;apply fE (Io h);rintro b a _ _ rfl;exact .fC U
def Um(h:fj Y v x):fF P jo Y (bV v) (bV x):=by cases h<;>first|exact .fC U|exact .fP
def acf(h:fj Y v x):fF P fQ Y (eK v) (eK x):=by cases h<;>first|exact .fP|(rename_i a y;exact .fC ⟨a,y⟩)
def Un(h:fj Y v x):fF P gY Y (bW v) (bW x):=by cases h<;>first|exact MB (Î<|Î<|Î U)|(rename_i a;exact .fC a)|exact .fP
def acg(b:nH P)(t:Á)(v:Â):fF P fj Y (Ű t É v) (Ű t É v):=by unfold Ű;apply fE (EU b t);intro d z e _ h;apply fE (Uk t h);exact λf a g _ c=> .fC (.jN c)
def ach(t:Á)(h:fj Y v x):fF P fj Y (af t v) (af t x):=by unfold af;apply fE (Uk t h);exact λc a d _ b=> .fC (.jN b)
theorem aci(t:Á)(h:fj Y v x):fF P fj Y (Ş t v) (Ş t x):=by unfold Ş;apply fE (EV h);grind [Uj]
def acj(t:Á)(b:fj Y x z)(h:fj Y v jQ):fF P jo Y (ĳ t x v) (ĳ t z jQ):=by unfold ĳ;apply fE (EV b);exact λd x z c b=>ace b t<|h.fN c
def acn(h:fj Y v x)(n:Nat):fF P fj Y (ō v n) (ō x n):=by
 cases h<;>first|exact .fP|skip
 rename_i e f c h;simp only[ō];rcases(fQ.mk c h).S n with⟨a,b⟩|⟨v,x,a,b,d⟩
 .rw[a];exact .fP
 .rw[a,b];exact .fC d
def aco(t:Á)(h:fj Y v x)(n:Nat):fF P fj Y (ű t v n) (ű t x n):=by
 unfold ű;apply fE (ja t);rintro g d _ a ⟨rfl,_⟩;split
 .rename_i b _;cases i:b[n]? with
  |none=>exact .fP
  |some f=>
   apply fE (acf<|h.fN a);exact λj c k _ e=>Ul f.type e f.offset
 .exact .fP
end
section
variable{Y:fq}
def qN{α β:Type}{V:fq->β->β->Prop}{a b:α}{f c:α->ē β}(h:fF P V Y (f a) (c b)):fF P V Y (pure a>>=f) (pure b>>=c):=h
def acp(s:Á)(h:fj Y v x)(n:Nat)(e:∀c f i,P.underlying s=À (df c)->c[n]?=À f->P.info? f.type=À i->i.size≠0): fF P fj Y (Ŏ s v n) (Ŏ s x n):=by
 unfold Ŏ;apply fE (ja s);rintro r d _ g ⟨rfl,j⟩;cases d<;>try exact .fP
 .rename_i c;simp only[];cases k:c[n]? with
  |none=>exact .fP
  |some f=>
   apply fE (EV<|h.fN g);intro t a u _ l;unfold bX;refine fE (fE (V':=gY) (mR f.type) ?_) ?_
   .rintro w z _ m ⟨rfl,i,o,p⟩;have:¬z=0:=by rw[<-p];exact e c f i j k o
    rw[if_neg this,if_neg this];exact .fC ((l.r m).C _)
   .exact λy b B _ q=> .fC (.jN q)
def acr(t:Á)(h:fj Y x v)(j:fj Y z jQ):fF P fj Y (ŏ t x z) (ŏ t v jQ):=by
 unfold ŏ;apply fE (Io j);rintro r ⟨k,n⟩ _ l rfl;apply fE (ja t);rintro f d _ m ⟨rfl,s⟩;have g:=(h.fN l).fN m;cases d<;>try exact .fP
 .cases g<;>first|exact .fP|skip
  .refine qN<|fE (ja t) ?_;exact λ_ _ _ _ _=>Cg
  refine qN<|fE (ja t) ?_;rintro o d _ c ⟨rfl,_⟩;simp only[];split
  .apply fE (mR _);rintro p b _ e ⟨rfl,_⟩;exact .fC (.jN (((‹gY f _ _›.r c).r e).C _))
  .repeat' (first|exact .fP|exact Cg|split)
 .apply fE (EV g);intro f a u _ q;refine qN<|fE (ja t) ?_;rintro o d _ c ⟨rfl,_⟩;simp only[];split
  .apply fE (mR _);rintro p b _ e ⟨rfl,_⟩;exact .fC (.jN (((q.r c).r e).C _))
  .repeat' (first|exact .fP|exact Cg|split)
def Ch(h:fj Y x v)(y:Nat)(c:av):fF P jo Y (ī x y c) (ī v y c):=by
 unfold ī;apply fE (Io h);rintro a ⟨k,n⟩ _ b rfl;simp only[];split
 .exact .fC U
 .exact Cg
def qO(Y:fq)(x a:Option Â):Prop:=(x=ë/\a=ë)\/∃v b,x=À v/\a=À b/\fj Y v b
def qO.r{Y a:fq}(h:Y.r a){x b:Option Â}(r:qO Y x b):qO a x b:=r.imp id λ⟨v,c,d,e,f⟩=>⟨v,c,d,e,f.fN h⟩
def EW(f:Bool)(g i:Nat){l j h k m n:Option Â}(c:qO Y l j)(o:qO Y h k)(t:qO Y m n):fF P jo Y (Ĩ f g i l h m) (Ĩ f g i j k n):=by
 unfold Ĩ;rcases t with⟨rfl,rfl⟩|⟨B,C,rfl,rfl,u⟩
 .refine qN ?_;rcases o with⟨rfl,rfl⟩|⟨w,x,rfl,rfl,d⟩
  .refine qN ?_;rcases c with⟨rfl,rfl⟩|⟨v,p,rfl,rfl,b⟩
   .exact .fC U
   .apply fE (Ch b _ _);rintro r q _ _ rfl;exact .fC U
  .refine fE (Ch d _ _) ?_;rintro y a _ e rfl;rcases(c.r e)with⟨rfl,rfl⟩|⟨v,p,rfl,rfl,b⟩
   .exact .fC U
   .apply fE (Ch b _ _);rintro r q _ _ rfl;exact .fC U
 .refine fE (Ch u _ _) ?_;rintro D a _ s rfl;rcases o with⟨rfl,rfl⟩|⟨w,x,rfl,rfl,d⟩
  .exact .fP
  .refine fE (Ch (d.fN s) _ _) ?_;rintro y z _ e rfl;rcases(((c.r s).r e))with⟨rfl,rfl⟩|⟨v,p,rfl,rfl,b⟩
   .exact .fC U
   .apply fE (Ch b _ _);rintro r q _ _ rfl;exact .fC U
def acs(t:Á)(k:fj Y x v){l C h D m u:Option Â}(g:qO Y l C)(i:qO Y h D)(j:qO Y m u):fF P fj Y (Ų t x l h m) (Ų t v C D u):=by
 unfold Ų;apply fE (ja t);rintro I d _ o ⟨rfl,J⟩;have k:=k.fN o;have g:=g.r o;have i:=i.r o;have j:=j.r o;cases d<;>try exact .fP
 .cases k<;>first|exact .fP|skip
  rename_i s;have e:m.isSome=u.isSome:=by rcases j with⟨rfl,rfl⟩|⟨_,_,rfl,rfl,_⟩<;>rfl
  simp only[e];split
  .exact .fP
  .apply fE (EW Ã s.size s.size g i<|Ç ⟨U,U⟩);rintro G ⟨a,b,c⟩ _ _ rfl;exact .fC (.kL _)
 .rename_i H;apply fE (Un k);intro G a K B f;apply fE (ja H);rintro L d _ p ⟨rfl,_⟩;have f:=f.r p;cases d<;>try exact .fP
  rename_i n e _;apply fE (EW Ã n n ((g.r B).r p) ((i.r B).r p)<|(j.r B).r p);rintro E ⟨x,y,z⟩ _ q rfl;apply fE (mR e);rintro F w _ r ⟨rfl,_⟩;have f:=(f.r q).r r;refine .fC (.kC ?_ _ _);split
  .exact f
  .exact f.C _
 .rename_i e;cases k<;>first|exact .fP|skip
  .rename_i n c;apply fE (EW É n c g i j);rintro E ⟨x,y,z⟩ _ q rfl;apply fE (mR e);rintro F w _ r ⟨rfl,_⟩;simp only[Option.map_none,ite_self];exact .fC (.nY _ _)
  .rename_i f n c;apply fE (EW É n c g i j);rintro E ⟨x,y,z⟩ _ q rfl;apply fE (mR e);rintro F w _ r ⟨rfl,_⟩;have f:=(f.r q).r r;by_cases e:z=x
   .simp only[e,if_true];exact .fC (.kC f _ _)
   .simp only[e,if_false,bG];exact .fC (.kC (f.C _) _ _)
def acu(t:Á)(b:fj Y x v){l o h p m q:Option Â}(c:qO Y l o)(f:qO Y h p)(g:qO Y m q):fF P fj Y (Ő t x l h m) (Ő t v o p q):=by
 unfold Ő;apply fE (ja t);rintro u d _ i ⟨rfl,B⟩;have b:=b.fN i;have c:=c.r i;have f:=f.r i;have g:=g.r i;cases d<;>try exact acs t b c f g
 rename_i n e;apply fE (EV b);intro C a D k j;apply fE (EW Ã n n (c.r k) (f.r k)<|g.r k);rintro E ⟨x,y,z⟩ _ r rfl;apply fE (mR e);rintro F w _ s ⟨rfl,_⟩;have j:=(j.r r).r s;refine .fC (.kC ?_ _ _);split
 .exact j
 .exact j.C _
def acv(t:Á)(a:fj Y x v)(b:fj Y z jQ):fF P fj Y (ų t x z) (ų t v jQ):=by
 unfold ų;apply fE (Io b);rintro l ⟨k,n⟩ _ c rfl;apply fE (ja t);rintro m d _ f ⟨rfl,o⟩;have a:=(a.fN c).fN f;cases d<;>try exact .fP
 .cases a<;>first|exact .fP|skip
  simp only[];split
  .exact .fC (.iI _ _)
  .exact Cg
 .rename_i p e;cases a<;>first|exact .fP|skip
  rename_i g h;simp only[];split
  .apply fE (mR e);rintro q w _ j ⟨rfl,_⟩;exact Ul e ((fQ.mk g h).I j) _
  .exact Cg
def acw(a:UnOp)(b:fj Y x v):fF P fj Y (bY a x) (bY a v):=by cases b<;>cases a<;>first|exact .fP|exact .fC (.iI _ _)|exact .fC (.mf _)
end
section
variable{Y:fq}
def acy{α β:Type}{g:α->ē β}(d:∀{Y:fq} (a:α),fF P jo Y (g a)<|g a):∀{Y:fq} (l:List α),fF P jo Y (l.mapM g) (l.mapM g):=by
 intro Y l
 induction l generalizing Y with
 |nil=>exact .fC U
 |cons a l e=>
  rw[ν];apply rT (d a);intro f b _;apply rT e;exact λh c _=> .fC U
def acz{α β:Type}{g:α->ē β}(b:∀{Y:fq} (a:α),fF P jo Y (g a)<|g a)(l:Array α):fF P jo Y (l.mapM g) (l.mapM g):=by rw[Ĕ];have:=acy b (Y:=Y) l.toList;apply fF.mg this;intro d a c _ (e:a=c);subst e;exact .fC U
def acA(Y:fq)(p a:Nat×Value):Prop:=p.1=a.1/\fj Y p.2 a.2
inductive uQ(Y:fq):List (Nat×Value)->List (Nat×Value)->Prop
 |oR:uQ Y [] []
 |vN {p p':Nat×Value} {l l':List (Nat×Value)} (h:acA Y p p') (t:uQ Y l l'):uQ Y (p::l) (p'::l')
def uQ.fN{Y a:fq}(h:Y.r a){l b:List (Nat×Value)}(r:uQ Y l b):uQ a l b:=by
 induction r with
 |oR=>exact .oR
 |vN x _ c=>exact .vN ⟨x.1,x.2.fN h⟩ c
def acB(f:Nat):∀(c a:List Â) (k:Nat) (b d:Array Â),fQ Y c.toArray a.toArray->fQ Y b d-> fQ Y ((c.zipIdx k).foldl (λb (p:Value×Nat)=>b.setIfInBounds (f+p.2) p.1) b) ((a.zipIdx k).foldl (λb (p:Value×Nat)=>b.setIfInBounds (f+p.2) p.1) d):=by
 intro c
 induction c with
 |nil=>
  intro a k b d p e;have:a=[]:=by have:=p.r;simp at this;exact Ā this.symm
  subst this;exact e
 |cons x c g=>
  intro a k b d p e;match a,p with
  |[],p=>have:=p.r;simp at this
  |x'::a,p=>
   simp only[Ĭ,List.foldl_cons];refine g a (k+1) _ _ ⟨by have:=p.r;simpa using this,λj h i=> ?_⟩ (e.qj _ (by have:=p.C 0 fp fp;simpa using this));have:=p.C (j+1) (by simp at h|-;omega) (by simp at i|-;omega);simpa using this
theorem acC(b:Nat){a c:Array Â}(e:fQ Y d q)(f:fQ Y a c): fQ Y (d.zipIdx.foldl (λa (p:Value×Nat)=>a.setIfInBounds (b+p.2) p.1) a) (q.zipIdx.foldl (λa (p:Value×Nat)=>a.setIfInBounds (b+p.2) p.1) c):=by have:=acB b d.toList q.toList 0 a c (by simpa using e) f;grind [Array.toList_zipIdx]
def Ip(d:Nat->Option (Nat×Nat)):∀{l e:List (Nat×Value)} {a b:Array Â},uQ Y l e->fQ Y a b-> (ay d a l=ë)\/∃c h,ay d a l=À c/\ay d b e=À h/\fQ Y c h:=by
 intro l e a b h
 induction h generalizing a b with
 |oR=>intro c;exact Î ⟨a,b,U,U,c⟩
 |@vN p p' l e hp _ ih=>
  intro c;let⟨i,v⟩:=p;let⟨k,m⟩:=p';obtain⟨rfl,g⟩:=hp;unfold ay;cases d i with
  |none=>exact Ç U
  |some q=>
   let⟨j,n⟩:=q;have f:=g.gR;simp only[<-f.r,<-c.r];split
   .exact Ç U
   .exact ih<|acC j f c
def acD(q:nH P)(t:Á){l m:Array (Nat×Value)}(h:uQ Y l.toList m.toList):fF P fj Y (Ŵ t l) (Ŵ t m):=by
 unfold Ŵ;apply fE (EU q t);intro C z D r s;apply fE (ja t);rintro E d _ o ⟨rfl,F⟩;have p:=(s.fN o).gR;have h:=(h.fN r).fN o;cases d<;>try exact .fP
 .rename_i n e;refine fE (mR e) ?_;rintro u w _ b ⟨rfl,_⟩;rcases Ip (λi=>À (i*w,w)) (h.fN b) (p.I b)with e|⟨c,v,j,k,g⟩
  .simp only[e];exact .fP
  .simp only[j,k];exact .fC (.ov g.r g.C)
 .rename_i x;refine rT (acz (λ{Y} (f:Field)=>fE (mR f.type) λG a H _ y=> ?_) x) ?_
  .obtain⟨rfl,_⟩:=y;exact .fC U
  .intro u B b;rcases Ip (B[·]?) (h.fN b) (p.I b)with e|⟨c,v,j,k,g⟩
   .simp only[e];exact .fP
   .simp only[j,k];exact .fC (.ov g.r g.C)
end
section
variable{Y:fq}
theorem acE(Y:fq):fj Y (default:Â) default:=.mf _
theorem fQ.acG{Y:fq}(r:fQ Y d q)(i:Nat):fj Y d[i]! q[i]!:=by
 by_cases h:i<d.size
 .have a:i<q.size:=by rwa[<-r.r]
  rw[getElem!_pos d i h,getElem!_pos q i a];exact r.C i h a
 .have a:¬i<q.size:=by rwa[<-r.r]
  grind [getElem,acE]
def fQ.G{Y:fq}(r:fQ Y d q)(n:Nat):fQ Y ((dB n).map (d[· %d.size]!)) ((dB n).map (q[· %q.size]!)):=by refine⟨fp,λi a b=> ?_⟩;simp only[ŵ,<-r.r];exact r.acG _
def fQ.xO{Y:fq}(r:fQ Y d q)(n:Nat):fQ Y (Ŷ d n) (Ŷ q n):=by
 unfold Ŷ;have e:n*d.size=n*q.size:=by rw[r.r]
 rw[<-e];exact r.G _
def acH(f:nH P)(t:Á)(b:Nat){m n:Array (Nat×Value)}(h:uQ Y m.toList n.toList):fF P fj Y (ĭ t b m) (ĭ t b n):=by
 unfold ĭ;apply fE (ja t);rintro v d _ p ⟨rfl,x⟩;have h:=h.fN p;cases d<;>try exact .fP
 rename_i e;apply fE (mR e);rintro y w _ o ⟨rfl,_⟩;simp only[];split
 .exact .fP
 split
 .refine qN ?_;rcases Ip (λi=>À (i*w,w)) (h.fN o) ((fQ.N _).G<|b*w)with e0|⟨c,q,g,j,k⟩
  .rw[e0];exact .fP
  .rw[g,j];exact fE (zU e k) λr a s _ l=> .fC (.kC l _ _)
 .refine fE (EU f e) λB z C u f=>qN ?_;rcases Ip (λi=>À (i*w,w)) ((h.fN o).fN u) (f.gR.G<|b*w)with e0|⟨c,q,g,j,k⟩
  .rw[e0];exact .fP
  .rw[g,j];exact fE (zU e k) λr a s _ l=> .fC (.kC l _ _)
def MG(h:fj Y x v):fF P jo Y (Α x) (Α v):=by cases h<;>first|exact .fP|exact .fC U
def fQ.acI(Y:fq)(b:Array UInt8):fQ Y (b.map λb=>Ć .u8 b.toNat) (b.map λb=>Ć .u8 b.toNat):= ⟨U,λi a _=>by simp only[ŵ];exact .iI _ _⟩
def EX(a n:Nat)(h:fj Y x v):fF P fQ Y (ļ a n x) (ļ a n v):=by
 cases h<;>first|exact .fP|exact .fC (fQ.N _)|exact .fC (fQ.acI _ _)|skip
 rename_i b _ _;exact MC b _
def MH(n:Nat):fF P jo Y (bO n) (bO n):=by
 unfold bO;split
 .exact .Ce (Ç U) (.fC U)
 .exact .fC U
def acJ(a:Array Á)(t:Á)(h:fj Y x v):fF P fj Y (ş a t #[x]) (ş a t #[v]):=by
 unfold ş;cases a[0]? with
 |none=>exact .fP
 |some b=>
  apply fE (ja b);rintro f d _ c ⟨rfl,g⟩;have h:=h.fN c;cases d<;>try exact .fP
  .cases h<;>first|exact .fP|exact .fC (.iI _ _)
  .rename_i e;refine fE (ja e) ?_;rintro i d _ j ⟨rfl,_⟩;cases d<;>first|exact .fP|exact .fC (.iI _ _)
  .cases h<;>first|exact .fP|exact .fC (.iI _ _)
  .exact .fC (.iI _ _)
  all_goals cases h<;>first|exact .fP|exact .fC (.iI _ _)
def acK(a:Array Á)(t:Á)(h:fj Y x v):fF P fj Y (Š a t #[x]) (Š a t #[v]):=by
 unfold Š;cases a[0]? with
 |none=>exact .fP
 |some b=>
  apply fE (ja b);rintro f d _ c ⟨rfl,g⟩;have h:=h.fN c;cases d<;>try exact .fP
  .rename_i e;refine fE (ja e) ?_;rintro i d _ j ⟨rfl,_⟩;cases d<;>first|exact .fP|exact .fC (.iI _ _)
  .cases h<;>first|exact .fP|exact .fC (.iI _ _)
  .exact .fC (.iI _ _)
  all_goals cases h<;>first|exact .fP|exact .fC (.iI _ _)
def acM(g:Array Á)(t:Á)(h:fj Y x v)(a:fj Y z jQ):fF P fj Y (ő g t #[x,z]) (ő g t #[v,jQ]):=by
 unfold ő;cases g[0]? with
 |none=>exact .fP
 |some l=>
  apply fE (ja l);rintro u d _ i ⟨rfl,B⟩;have h:=h.fN i;have a:=a.fN i;cases d<;>try exact .fP
  rename_i e;cases h<;>first|exact .fP|skip
  .rename_i n c;apply fE (MG a);rintro o m _ b rfl;apply fE (mR e);rintro p w _ f ⟨rfl,_⟩;apply fE (EX w _<|(a.fN b).fN f);exact λq c r j k=> .fC (.iI _ _)
  .rename_i s n c;apply fE (MG a);rintro o m _ b rfl;apply fE (mR e);rintro p w _ f ⟨rfl,_⟩;apply fE (EX w _<|(a.fN b).fN f);intro q c r j k;apply fE (MD (((s.r b).r f).r j)<|by simpa using k);exact λC _ _ _ _=> .fC (.iI _ _)
end
section
variable{Y:fq}
def MI{α:Type}{h:Halt}:∀u x a,(ek h:ē α).run P u≠ĥ x a:=by intro u x a e;cases e
theorem EY{α β:Type}{m:ē α}{f:α->ē β}(h:∀a u x b,(f a).run P u≠ĥ x b):∀u x b,(m>>=f).run P u≠ĥ x b:=by
 intro u x b e;rw[Ä]at e;cases c:m.run P u with
 |ok a w=>rw[c]at e;exact h a _ _ _ e
 |halt z w=>rw[c]at e;cases e
theorem Uo{α:Type}:∀u x a,(goPanic v:ē α).run P u≠ĥ x a:=MI
def acN{α:Type}{v:bq}:∀u x a,(unsupported v:ē α).run P u≠ĥ x a:=MI
theorem qP{α:Type}(e:Ι):∀u x a,(runtimePanic e:ē α).run P u≠ĥ x a:=by unfold runtimePanic;grind [EY,Uo]
def Iq{α:Type}{V:fq->α->α->Prop}{e:Ι}{m:ē α}:fF P V Y (runtimePanic e) m:=.ow (qP e)
def acO(H:nH P)(p g t:Á)(i:(∃e,P.underlying g=À (dh e))\/P.underlying g=À ę){B:Â}(j:fj Y v jQ)(c:fj Y x B): fF P fj Y (ĸ #[p,g] t #[v,x]) (ĸ #[p,g] t #[jQ,B]):=by
 unfold ĸ;apply fE (ja p);rintro C d _ D ⟨rfl,W⟩;have j:=j.fN D;have c:=c.fN D;cases d<;>try exact .fP
 rename_i e;have r:=j;cases j<;>first|exact .fP|skip
 all_goals
  refine fE (mR e) ?_;rintro X w _ E ⟨rfl,_⟩;refine fE (ja g) ?_;rintro ρ3 d1 _ F ⟨rfl,k⟩;rcases i with⟨e1,i⟩|i;all_goals
   rw[i]at k;injection k with k;subst k;refine qN<|fE (MG<|c.fN<|fq.I E F) ?_;rintro ρ4 m _ I rfl;have f:=fq.I (fq.I E F) I;have c:=c.fN f;have r:=r.fN f;simp only[];split
   .apply fE (EX w m c);intro J q K l u;first
     |exact .fC (.nY _ _)
     |exact fE (MD (((‹gY C _ _›.r f).r l).C _)<|by simpa using u) λL _ _ h _=> .fC (.kC (((‹gY C _ _›.r f).r l).r h) _ _)
   .apply fE (xN e);rintro J G _ l ⟨rfl,_⟩;split
    .exact .ow (vK<|qP _)
    .apply fE (xN e);rintro L G _ h ⟨rfl,_⟩;split
     .refine .ow (vK ?_);simp only[Å,if_false];refine EY λb=> ?_;simp_all
     .apply rT (.zP λ_=> .fC U);intro M nc y;apply fE (xN e);rintro N G _ n ⟨rfl,_⟩;apply rT (MH _);intro O _ Q;have f:=fq.I (fq.I (fq.I l h)<|fq.I y n) Q;apply fE (EX w _<|r.fN f);intro ρa o o' h S;apply fE (EX w m<|c.fN<|fq.I f h);intro M q K y u;apply fE (EU H e);intro N z z' n T;exact fE (zU e<|(((S.I y).I n).sX<|u.I n).sX<|T.gR.xO _) λO a a' _ V=> .fC (.kC V _ _)
end
section
variable{Y:fq}
def acP(g:nH P)(t:Á)(i:fj Y v x)(j:fj Y z jQ):fF P fj Y (Ĺ t v z) (Ĺ t x jQ):=by
 unfold Ĺ;apply fE (ja t);rintro o d _ f ⟨rfl,p⟩;cases d<;>try exact .fP
 rename_i e;apply fE (ME<|i.fN f);rintro q r _ k rfl;apply fE (ME<|(j.fN f).fN k);rintro s u _ y rfl;apply fE (xN e);rintro B C _ D ⟨rfl,_⟩;simp only[];split
 .split
  .exact .ow (vK<|qP _)
  .split
   .exact .ow (vK<|qP _)
   .exact .ow (EY λ_=>vK<|qP _)
 .apply rT (MH _);intro E _ F;apply fE (mR e);rintro G w _ H ⟨rfl,_⟩;split
  .exact qN<|fE (zU e<|(fQ.N _).G _) λm a n _ b=> .fC (.kC b _ _)
  .exact fE (EU g e) λ_ _ _ _ h=>qN<|fE (zU e<|h.gR.G _) λm a n _ b=> .fC (.kC b _ _)
def sY(P:Õ)(t:Á):Prop:=P.underlying t=À .bool\/(∃k,P.underlying t=À (Β k))\/P.underlying t=À ę
def mS:Â->Prop
 |Þ (À _)=>False
 |_=>True
def Up(t:Á)(i:sY P t\/∃e,P.underlying t=À (ð e))(b:fj Y x v)(c:fj Y z jQ)(j:mS x\/mS z):fF P jo Y (ó t x z) (ó t v jQ):=by
 unfold ó ā Λ;refine fE (ja t) ?_;rintro o d _ g ⟨rfl,a⟩;have b:=b.fN g;have c:=c.fN g;rcases i with(h|⟨k,h⟩|h)|⟨e,h⟩;all_goals
  rw[h]at a;injection a with a;subst a;cases b<;>cases c<;>first|exact .fP|exact .fC U|(simp[mS]at j;done)|skip
 .simp only[];split<;>first|exact .fC U|exact .fP
 .rename_i l n _ _ _;by_cases f:n=0
  .subst f;exact .fC U
  .refine .ow λu x m e=> ?_;simp_all
 .rename_i l n;by_cases f:n=0
  .subst f;exact .fC U
  .refine .ow λu x m e=> ?_;simp_all
end
section
variable{Y:fq}
def Ir{r:Nat}(h:Y r i):fF P (λ_ a b=>a=ë/\b=ë) Y (di r) (di i):=.uP h λ_ _ _ _=> .fC ⟨U,U⟩
def Uq{r:Nat}(h:Y r i):fF P (λ_ a b=>a=ë/\b=ë) Y (bZ r) (bZ i):=.uP h λ_ _ _ _=> .fC ⟨U,U⟩
def zV(h:gY Y a p):fF P (λc x b=>gY c x.1 b.1/\x.2=b.2/\x=(a,Ã)/\b=(p,Ã)) Y (Į a) (Į p):=by unfold Į;apply fE (Uq h.1);rintro c x d b ⟨rfl,rfl⟩;exact .fC ⟨h.r b,U,U,U⟩
def acQ(h:gY Y a p):fF P jo Y (aX a) (aX p):=by unfold aX;apply fE (Ir h.1);rintro b x c d ⟨rfl,rfl⟩;exact .fC U
def EZ(h:gY Y a p):fF P jo Y (dj a) (dj p):=by
 have f:=h;let⟨g,i,b⟩:=f;unfold dj;cases c:a.spot with
 |some s=>
  rw[c]at b;rw[<-b];exact .fC U
 |none=>
  rw[c]at b;rw[<-b];apply fE qM;rintro k s l d ⟨rfl,e⟩;subst e;apply fE (acQ<|h.r d);intro m _ _ j _;refine .uP (j.1 _ _<|d.1 _ _ g) λe n o q=> ?_;simp only[<-i,ç];split
  .exact .fC U
  .split
   .exact .fC U
   .exact .fP
def Is(c:Bi Y){b d:Ú}(f:gY Y a p)(g:gY Y b d):(a.block==b.block)=(p.block==d.block):=by
 rw[Χ,beq_iff_eq,beq_iff_eq];constructor
 .intro e;exact c.1 _ _ _ f.1<|e▸g.1
 .intro e;exact c.2.1 _ _ _ f.1<|e▸g.1
theorem Ur(g:Bi Y){b c:Ú}(d:gY Y a p)(f:gY Y b c):(a==b)=(p==c):=by have e:=Is g d f;rw[Χ,beq_iff_eq,beq_iff_eq]at e;rw[Χ,beq_iff_eq,beq_iff_eq];let⟨h,i,j⟩:=a;let⟨k,l,m⟩:=p;let⟨n,o,q⟩:=b;let⟨r,s,t⟩:=c;let⟨_,u,v⟩:=d;let⟨_,w,x⟩:=f;grind
theorem Us(f:Bi Y)(n:Y.C=P.globals.size){b d:Ú}(e:gY Y a p)(g:gY Y b d):fF P jo Y (š a b) (š p d):=by
 unfold š;apply fE qM;rintro o c q h ⟨i,j⟩;rw[i,j];have k:(a.block !=b.block)=(p.block !=d.block):=by simp only[bne];rw[Is f e g]
 have l:(decide<|a.block≥P.globals.size)=(decide<|p.block≥P.globals.size):=by have:=f.2.2 _ _ e.1;grind
 rw[k,l];split
 .exact .fP
 .apply fE (EZ<|e.r h);rintro r x _ m rfl;apply fE (EZ<|(g.r h).r m);rintro s y _ t rfl;exact .fC U
def acR(d:Bi Y)(e:Y.C=P.globals.size)(k:ú){b c:Ú}(f:gY Y a p)(g:gY Y b c):fF P fj Y (Μ k a b) (Μ k p c):=by unfold Μ;apply fE (Us d e f g);rintro h ⟨x,y⟩ _ _ rfl;exact .fC (.iI _ _)
def acS(e:Bi Y)(f:Y.C=P.globals.size)(c:ġ){b d:Ú}(g:gY Y a p)(h:gY Y b d):fF P fj Y (Ν c a b) (Ν c p d):=by unfold Ν;refine fE (Us e f g h) ?_;rintro i ⟨x,y⟩ _ _ rfl;cases c<;>first|exact .fC (.mf _)|exact .fP
def Ut(k:ú)(b:gY Y a p)(n:Int):fF P fj Y (Ξ k a n) (Ξ k p n):=by
 unfold Ξ;refine .uP b.1 λe m d f=> ?_;apply qN;apply fE (xN e);rintro g h _ c ⟨rfl,_⟩;simp only[];split
 .exact .fP
 .apply fE (EZ<|b.r c);rintro i x _ _ rfl;exact .fC (.iI _ _)
def acT{n:Int}(h:j<=b)(a:ξ P i e j k n=À m):ξ P i e b k n=À m:=by
 unfold ξ at a|-;simp only[bind,Option.bind]at a|-;split at a
 .cases a
 .rename_i f;rw[if_neg f];split at a
  .cases a
  .rename_i g;simp only[g];dsimp only at a;split at a
   .cases a
   .rename_i l;rw[if_neg]
    .exact a
    .intro o;apply l;have:=(λw=>Nat.mul_le_mul_right w h)<|P.bytesOf e;simp at o|-;omega
def acU{i:Á->Bool}:∀{d:Nat} {e:Á} {c a b n:Nat},c<=a->c8 P i d e c b n=É->c8 P i d e a b n=É
 |0,_,_,_,_,_,_,h=>by simp[c8]at h
 |d+1,e,c,a,b,n,hc,h=>by
  unfold c8 at h|-;simp only at h|-;split at h
  .cases h
  .rename_i j;rw[if_neg j];rw[bH,ě,ě,ě]at h|-;rcases h with⟨⟨f,g⟩,k⟩|⟨f,g⟩
   .exact Ç ⟨⟨f,by simp at g|-;omega⟩,k⟩
   .exact Î ⟨by simp at f|-;omega,g⟩
def Uu:∀{d:Nat} {e:Á} {c a b:Nat} {u:Á} {n:Nat},c<=a->aY P d e c b u n=É->aY P d e a b u n=É
 |0,_,_,_,_,_,_,_,h=>by simp[aY]at h
 |d+1,e,c,a,b,u,n,hc,h=>by
  unfold aY at h|-;rw[bH]at h|-;rcases h with h|h
  .exact Ç<|acU hc h
  .right;split at h
   .rename_i f;first|rw[f]|skip
    exact Uu hc h
   .cases h
def acV{a:Á->Bool}:c8 P a i e 0 j (n+1)=Ã:=by
 cases i with
 |zero=>simp[c8]
 |succ i=>
  unfold c8;simp
def acW{k:ú}(a:P.underlying t=À (Β k)):aY P i e 0 j t (n+1)=Ã:=by
 cases i with
 |zero=>simp[aY]
 |succ i=>
  unfold aY;rw[acV];simp[a]
def Uv(t:Á)(d:gY Y a p)(k:ú)(n:Int):fF P fj Y (ñ #[] t #[Þ<|À a,Ć k n]) (ñ #[] t #[Þ<|À p,Ć k n]):=by
 have f:=d;let⟨c,g,h⟩:=f;unfold ñ;apply qN;simp only[];split
 .apply fE (Ir c);rintro i x e b ⟨rfl,rfl⟩;exact .fC (.jN (d.r b))
 .split
  .exact .fP
  .refine .uP c λe m u j=> ?_;apply qN;apply fE qM;rintro i b v l ⟨o,r⟩;rw[o,r,<-g];cases s:ξ P P.depth e (m/P.cellsOf e) a.off n with
   |none=>exact .fP
   |some x=>
    rw[acT (ο<|j.elim (λq=>by omega) λq=>q.1) s];exact .fC (.jN ⟨l.1 _ _ c,U,h⟩)
end
def xP:Obj->Prop
 |Č .. =>False
 |_=>True
inductive kD(P:Õ){α:Type}(V:fq->α->α->Prop):fq->ē α->ē α->Prop
 |gl {Y:fq} {m m':ē α} (h:fF P V Y m m'):kD P V Y m m'
 |mg {Y:fq} {β:Type} {V0:fq->β->β->Prop} {m m':ē β} {f f':β->ē α} (h:fF P V0 Y m m') (hf:∀Y' a a',Y.r Y'->V0 Y' a a'->kD P V Y' (f a) (f' a')):kD P V Y (m.bind f) (m'.bind f')
 |Ci {Y:fq} {o:Obj} {g:Nat->α} {m':ē α} (ho:xP o):kD P V Y (.new o λr=>aH<|g r) m'
 |Cj {Y:fq} {m m':ē α} (h:∀u x u',m.run P u=ĥ x u'->∃i o,u.heap.size<=i/\u'.heap[i]?=À o/\xP o):kD P V Y m m'
section
variable{Y:fq}
def kD.acX{α β:Type}{V:fq->α->α->Prop}{i:fq->β->β->Prop}{m e:ē α}{f j:α->β}(h:kD P V Y m e)(k:∀c a d,Y.r c->V c a d->i c (f a) (j d)): kD P i Y (m.bind λa=>aH<|f a) (e.bind λa=>aH<|j a):=by
 induction h with
 |gl h=>exact .gl (h.mg λc a d u w=> .fC (k c a d u w))
 |mg h _ g=>
  rw[ř,ř];exact .mg h λc a d u w=>g c a d u w λx b z l n=>k x b z (fq.I u l) n
 |Ci b=>exact .Ci b
 |@Cj Y m e h=>
  refine .Cj λu x l b=> ?_;rw[Ĵ]at b;cases g:m.run P u with
  |halt z w=>rw[g]at b;cases b
  |ok a w=>
   rw[g]at b;simp only[ã]at b;cases b;exact h u a _ g
def Ck(u a:Æ):Prop:=∀i o,u.heap.size<=i->a.heap[i]?=À o->¬xP o
def kD.gi{α:Type}{V:fq->α->α->Prop}{Y:fq}{m r:ē α}(h:kD P V Y m r):∀{u w:Æ},jh Y X u w->(∀j,X j->j<w.heap.size)->∀{x:α} {c:Æ},m.run P u=ĥ x c->Ck u c->∀d:Array ý,∃(a:fq) (n:α) (s:Æ) (b:Array ý),Y.r a/\(∀i j,a i j->Y i j\/(u.heap.size<=i/\w.heap.size<=j))/\r.runT P w d=(ĥ n s,d++b)/\V a x n/\jh a X c s/\nG Y X w s/\(∀e∈b,zR a X e)/\u.heap.size<=c.heap.size:=by
 induction h with
 |gl h=>intro u w k g x c b _ d;exact h.gi k g b d
 |@mg Y β V0 m r f f' h _ ih=>
  intro u w k g x c b l d;rw[Ĵ]at b;cases t:m.run P u with
  |halt z w=>rw[t]at b;cases b
  |ok a u1=>
   rw[t]at b;let⟨G,H,w1,E,p,q,v,I,J,B,K,C⟩:=h.gi k g t d;let⟨L,n,M,N,F,O,Q,S,T,W,k7,k8⟩:=ih G a H p I J (λj s=>Ô (g j s) B.r) b (λi o s=>l i o<|õ C s)<|d++E;refine⟨L,n,M,E++N,fq.I p F,λi j D=> ?_,?_,S,T,B.fg W λi j D=>(q i j D).imp id λy=>y.2,λe s=> ?_,õ C k8⟩
   .rcases O i j D with y|⟨y1,y2⟩
    .exact q i j y
    .exact Î ⟨õ C y1,õ B.r y2⟩
   .rw[Ñ,v];simp only[];rw[Q,Ļ]
   .rcases Ĝ.1 s with s|s
    .rcases K e s with⟨a,i,y,z2,z3,z4⟩|z
     .exact Ç ⟨a,i,y,F.1 _ _ z2,z3,z4⟩
     .exact Î z
    .exact k7 e s
 |Ci s=>
  intro u w k g x c b l d;simp only[ã]at b;cases b;exact absurd s<|l u.heap.size _ (ß _) fp
 |Cj h=>
  intro u w k g x c b l d;let⟨i,o,p,q,v⟩:=h u x c b;exact absurd v<|l i o p q
end
section
variable{Y:fq}
theorem acY(i:Bi Y)(F:Y.C=P.globals.size)(t:Á)(s:sY P t){j b m:Ú}(e:gY Y a j)(f:gY Y b m):fF P jo Y (ó t (Þ<|À a)<|Þ<|À b) (ó t (Þ<|À j)<|Þ<|À m):=by
 unfold ó ā Λ;refine fE (ja t) ?_;rintro G d _ g ⟨rfl,c⟩;rcases s with h|⟨k,h⟩|h
 .rw[h]at c;injection c with c;subst c;exact .fP
 .rw[h]at c;injection c with c;subst c;apply fE (zV<|e.r g);rintro H p u l ⟨_,_,rfl,rfl⟩;apply fE (zV<|(f.r g).r l);rintro I q J n ⟨_,_,rfl,rfl⟩;apply fE qM;rintro K p u o ⟨v,w⟩;rw[v,w];have z:=(((e.r g).r l).r n).r o;have B:=(((f.r g).r l).r n).r o;have C:=Is i e f;have D:(decide<|a.block<P.globals.size)=(decide<|j.block<P.globals.size):=by
   have:=i.2.2 _ _ e.1;grind
  simp only[C,D];split
  .apply fE (EZ z);rintro E x _ r rfl;apply fE (EZ<|B.r r);rintro L y _ M rfl;exact .fC U
  .apply fE (xN t);rintro E x _ r ⟨rfl,_⟩;split
   .rw[Ur i e f];split
    .exact .fC U
    .exact .fP
   .exact .fP
 .rw[h]at c;injection c with c;subst c;exact .fP
def acZ(e:Bi Y)(f:Y.C=P.globals.size)(t:Á)(b:sY P t)(c:fj Y x v)(d:fj Y z jQ):fF P jo Y (ó t x z) (ó t v jQ):=by
 by_cases a:mS x\/mS z
 .exact Up t (Ç b) c d a
 .have g:=λh=>a<|Ç h;have i:=λh=>a<|Î h;cases c<;>first|exact absurd trivial g|skip
  cases d<;>first|exact absurd trivial i|skip
  rename_i j _ _ k;exact acY e f t b j k
def ac0(a:ġ)(k:ú)(x y:Int):fF P fj Y (ag a k x y) (ag a k x y):=by
 unfold ag;split
 .exact Iq
 .cases a<;>first|exact .fP|exact .fC (.iI _ _)
def ac1(a:ġ)(k b:ú)(x y:Int):fF P fj Y (aJ a k x b y) (aJ a k x b y):=by
 unfold aJ;split
 .exact Iq
 .cases a<;>first|exact .fP|exact .fC (.iI _ _)
def ac2(a:ġ)(t:Á)(k b:ú)(x y:Int):fF P fj Y (Ũ a t (Ć k x)<|Ć b y) (Ũ a t (Ć k x)<|Ć b y):=by
 cases a<;>simp only[Ũ]<;>first|exact ac1 _ _ _ _ _|skip
 all_goals
  split
  .exact .fP
  .first|exact .fC (.iI _ _)|exact .fC (.mf _)|exact ac0 _ _ _ _
def ac3(a:ġ)(t:Á)(x y:ByteArray):fF P fj Y (Ũ a t (ħ x)<|ħ y) (Ũ a t (ħ x)<|ħ y):=by
 cases a<;>simp only[Ũ,br]<;>first|exact .fP|exact .fC (.mf _)|skip
 split
 .exact .fP
 .exact .fC (.kL _)
end
section
variable{Y:fq}
def kS{α β:Type}{V0:fq->β->β->Prop}{V:fq->α->α->Prop}{m c:ē β}{f d:β->ē α}(h:fF P V0 Y m c) (g:∀b a e,Y.r b->V0 b a e->kD P V b (f a) (d e)):kD P V Y (m>>=f) (c>>=d):=.mg h g
def ac4{α β:Type}{V:fq->α->α->Prop}{c:fq->β->β->Prop}{m d:ē α}{f e:α->β}(h:kD P V Y m d)(i:∀b a g,Y.r b->V b a g->c b (f a) (e g)): kD P c Y (m>>=λa=>pure<|f a) (d>>=λa=>pure<|e a):=kD.acX h i
def Uw(t:Á)(y:Â):∀u x a,(ñ #[] t #[Þ ë,y]).run P u≠ĥ x a:=by
 unfold ñ;refine EY λn=> ?_;simp only[];split
 .exact acN
 .split;all_goals simp_all
def Cl(t:Á)(i:fj Y x v)(j:∃p,x=Þ p)(k:ú)(n:Int):kD P fj Y (ŕ t x<|Ć k n) (ŕ t v<|Ć k n):=by
 obtain⟨p,rfl⟩:=j;cases i with
 |lE=>
  unfold ŕ;refine kS (ja t) ?_;rintro e d _ h ⟨rfl,_⟩;cases d<;>simp only[Å,if_false,if_true]<;>first|exact .gl .fP|exact .gl (.ow (Uw t _))
 |jN f=>
  unfold ŕ;refine kS (ja t) ?_;rintro e d _ h ⟨rfl,_⟩;have l:∀{a g:Ú},gY e a g->kD P fj e (Į a>>=λp=>ñ #[] t #[Þ<|À p.1,Ć k n]>>=λc=>match c with|Þ (À b)=>b9 b p.2|c=>pure c) (Į g>>=λp=>ñ #[] t #[Þ<|À p.1,Ć k n]>>=λc=>match c with|Þ (À b)=>b9 b p.2|c=>pure c):=by intro a g f;refine kS (zV f) ?_;rintro q p r s ⟨m,u,rfl,rfl⟩;refine kS (Uv t m k n) ?_;intro w c y z o;cases o<;>first|exact .Ci trivial|exact .gl (.fC (by constructor<;>assumption))
  cases d<;>simp only[Å,if_false,if_true]<;>first|exact .gl .fP|exact l<|f.r h
def Ux(t:Á)(b:fj Y x v)(c:∃p,x=Þ p)(k:ú)(n:Int):kD P fj Y (Ţ t x<|Ć k n) (Ţ t v<|Ć k n):=by
 unfold Ţ;obtain⟨p,rfl⟩:=c;cases b with
 |lE=>exact .gl (.ow (Uw t _))
 |jN a=>
  apply kS (Uq a.1);rintro e p f d ⟨rfl,rfl⟩;exact .gl (Uv t (a.r d) k n)
def ac5(P:Õ)(a:ġ)(t:Á)(x y:Â):Prop:=a=az\/a=aK->(sY P t\/((∃e,P.underlying t=À (ð e))/\(mS x\/mS y)))
def Uy(c:Bi Y)(d:Y.C=P.globals.size)(t:Á)(f:sY P t\/((∃e,P.underlying t=À (ð e))/\(mS x\/mS z)))(a:fj Y x v)(b:fj Y z jQ):fF P jo Y (ó t x z) (ó t v jQ):=by
 rcases f with h|⟨g,i⟩
 .exact acZ c d t h a b
 .exact Up t (Î g) a b i
def ac6(m:Bi Y)(n:Y.C=P.globals.size)(c:ġ)(t:Á)(r:ac5 P c t x z)(o:fj Y x v)(h:fj Y z jQ):kD P fj Y (Ũ c t x z) (Ũ c t v jQ):=by
 have f:c=az->fF P fj Y (ó t x z>>=λb=>pure<|Ľ b) (ó t v jQ>>=λb=>pure<|Ľ b):=by intro e;apply fE (Uy m n t (r<|Ç e) o h);rintro i b _ _ rfl;exact .fC (.mf _)
 have g:c=aK->fF P fj Y (ó t x z>>=λb=>pure<|Ľ !b) (ó t v jQ>>=λb=>pure<|Ľ !b):=by intro e;apply fE (Uy m n t (r<|Î e) o h);rintro i b _ _ rfl;exact .fC (.mf _)
 cases o with
 |iI k a=>
  cases h with
  |iI d b=>exact .gl (ac2 c t k d a b)
  |jN l=>
   cases c<;>first|exact .gl .fP|exact .gl (f U)|exact .gl (g U)|exact Cl t (.jN l) ⟨_,U⟩ _ _|skip
   apply kS (zV l);rintro i p s e ⟨j,_,_,_⟩;exact .gl (Ut _ j _)
  |lE=>cases c<;>first|exact .gl .fP|exact .gl (f U)|exact .gl (g U)|exact Cl t .lE ⟨_,U⟩ _ _
  |_=>cases c<;>first|exact .gl .fP|exact .gl (f U)|exact .gl (g U)
 |kL a=>
  cases h with
  |kL b=>exact .gl (ac3 c t a b)
  |_=>cases c<;>first|exact .gl .fP|exact .gl (f U)|exact .gl (g U)
 |lE=>
  cases h with
  |iI k b=>
   cases c<;>first|exact .gl .fP|exact .gl (f U)|exact .gl (g U)|exact Cl t .lE ⟨_,U⟩ _ _|skip
   refine kS (ja t) ?_;rintro i d _ e ⟨rfl,_⟩;cases d<;>simp only[Å,if_false,if_true]<;>first|exact Ux t .lE ⟨_,U⟩ _ _|exact Cl t .lE ⟨_,U⟩ _ _
  |_=>cases c<;>first|exact .gl .fP|exact .gl (f U)|exact .gl (g U)
 |jN a=>
  cases h with
  |iI k b=>
   cases c<;>first|exact .gl .fP|exact .gl (f U)|exact .gl (g U)|exact Cl t (.jN a) ⟨_,U⟩ _ _|skip
   .refine kS (ja t) ?_;rintro i d _ e ⟨rfl,_⟩;have a:=a.r e;cases d<;>simp only[Å,if_false,if_true]<;>first|exact Ux t (.jN a) ⟨_,U⟩ _ _|exact Cl t (.jN a) ⟨_,U⟩ _ _
   all_goals
    apply kS (zV a);rintro i p s e ⟨j,_,_,_⟩;exact .gl (Ut _ j _)
  |jN l=>
   cases c<;>first|exact .gl .fP|exact .gl (f U)|exact .gl (g U)|skip
   all_goals
    refine kS (zV a) ?_;rintro i p s e ⟨j,_,rfl,rfl⟩;refine kS (zV<|l.r e) ?_;rintro w q B b ⟨d,_,rfl,rfl⟩;have k:=b.2.1<|e.2.1 m;have u:=b.2.2.trans<|e.2.2.trans n;first|exact .gl (acR k u _ (j.r b) d)|exact .gl (acS k u _ (j.r b) d)
  |_=>cases c<;>first|exact .gl .fP|exact .gl (f U)|exact .gl (g U)
 |_=>
  cases h<;>cases c<;>first|exact .gl .fP|exact .gl (f U)|exact .gl (g U)
end
section
variable{Y:fq}
def ac7(a b:Á)(h:(∃k g,P.underlying a=À (Β k)/\P.underlying b=À (Β g))\/(P.underlying a=À ę/\P.underlying b=À ę))(f:fj Y x v):fF P fj Y (Œ a b x) (Œ a b v):=by
 unfold Œ;refine fE (ja a) ?_;rintro n d _ l ⟨rfl,c⟩;refine fE (ja b) ?_;rintro o p _ m ⟨rfl,e⟩;have f:=(f.fN l).fN m;rcases h with⟨k,g,i,j⟩|⟨i,j⟩;all_goals
  rw[i]at c;rw[j]at e;injection c with c;injection e with e;subst c e;cases f<;>first|exact .fP|exact .fC (.iI _ _)|exact .fC (.kL _)
inductive oS(Y:fq):Ο->Ο->Prop
 |nI {v v':Â} (h:fj Y v v'):oS Y (ï v) (ï v')
 |rU:oS Y aG aG
 |rV (f:à) {c c':Array Â} (h:fQ Y c c'):oS Y (ũ f c) (ũ f c')
def E0(P:Õ)(t:Á):Prop:=sY P t\/∃e,P.underlying t=À (ð e)
def ac8(t:Á)(f:E0 P t)(a g b i:Â):fF P jo Y (į ā t a b) (į ā t g i):=by
 unfold ā į;refine fE (ja t) ?_;rintro j d _ l ⟨rfl,c⟩;rcases f with(h|⟨k,h⟩|h)|⟨e,h⟩;all_goals
  rw[h]at c;injection c with c;subst c;exact .fC U
def ac9(e:ġ)(t:Á)(c:e=az\/e=aK->E0 P t)(x y:Ö){d:Â}(h:fj Y v z)(i:fj Y jQ d):fF P jo Y (ŷ e t x y v jQ) (ŷ e t x y z d):=by
 have g:E0 P t->∀{f:fq} (s:bq) (v z jQ d:Â),fF P jo f (į ā t v jQ>>=λr=>if r=É then unsupported s else pure ()) (į ā t z d>>=λr=>if r=É then unsupported s else pure ()):=by
  intro c f s v z jQ d;apply fE (ac8 t c v z jQ d);rintro j r _ _ rfl;split
  .exact .fP
  .exact .fC U
 unfold ŷ;cases e<;>first|exact .fC U|skip
 all_goals
  have c:=c (by first|exact Ç U|exact Î U);cases h<;>cases i<;>first|exact .fC U|skip
 all_goals first
  |(cases x<;>cases y<;>first|exact .fC U|exact g c _ _ _ _ _)
  |(
   simp only[þ,Å,if_false];apply fE qM;rintro f p m n ⟨r,s⟩;rw[r,s];apply fE qM;rintro j q o u ⟨k,l⟩;rw[k,l];split
   .exact .fC U
   .exact g c _ _ _ _ _)
def mD{m a:ē Â}(h:fF P fj Y m a):fF P oS Y (m>>=λv=>pure<|ï v) (a>>=λv=>pure<|ï v):=h.mg λ_ _ _ _ v=> .fC (.nI v)
def Uz{m a:ē Â}(h:kD P fj Y m a):kD P oS Y (m>>=λv=>pure<|ï v) (a>>=λv=>pure<|ï v):=ac4 h λ_ _ _ _ v=> .nI v
def ada{m a:ē Unit}(h:fF P jo Y m a):fF P oS Y (m>>=λ_=>pure aG) (a>>=λ_=>pure aG):=h.mg λ_ _ _ _ _=> .fC .rU
def adb(f:à)(b:∃a,P.funcs[f]?=À a/\(a.name== "runtime.NumGoroutine")=Ã/\a.body.isNone=Ã)(e:fQ Y d q):fF P oS Y (ĵ f d) (ĵ f q):=by let⟨a,g,h,i⟩:=b;unfold ĵ;apply fE qM;rintro m p n j ⟨k,l⟩;rw[k,l,g];simp only[h,i,Å,if_false];exact .fC (.rV f (e.I j))
end
inductive j4(P:Õ)(ev:Ö->Â):Op->Prop
 |zW (x:Ö):j4 P ev (.move x)
 |E1 (x:Ö):j4 P ev (.assign x)
 |vO (c a b:Ö):j4 P ev (.pick c a b)
 |gG (t:Á):j4 P ev (.alloc t)
 |MJ (t:Á) (x:Ö):j4 P ev (.box t x)
 |MK (t:Á) (ps:Array (Nat×Operand)):j4 P ev (.build t ps)
 |ML (t:Á) (n:Nat) (ps:Array (Nat×Operand)):j4 P ev (dC t n ps)
 |gy (t:Á) (a:Ö):j4 P ev (.load t a)
 |jb (t:Á) (a x:Ö):j4 P ev (.store t a x)
 |E2 (x:Ö):j4 P ev (eA x)
 |Cm (op:ġ) (t:Á) (x y:Ö) (r:Á) (h:op=az\/op=aK->(sY P t\/((∃e,P.underlying t=À (ð e))/\(mS (ev x)\/mS (ev y))))):j4 P ev (dS op t x y r)
 |MN (op:UnOp) (t:Á) (x:Ö):j4 P ev (.unOp op t x)
 |MO (s d:Á) (x:Ö) (h:(∃k k',P.underlying s=À (Β k)/\P.underlying d=À (Β k'))\/(P.underlying s=À ę/\P.underlying d=À ę)):j4 P ev (aL s d x)
 |MP (t:Á) (l c:Ö):j4 P ev (dT t l c)
 |kC (t:Á) (x:Ö) (lo hi mx:Option Ö):j4 P ev (.slice t x lo hi mx)
 |MQ (s:Á) (x:Ö) (n:Nat) (h:∀fields f i,P.underlying s=À (df fields)->fields[n]?=À f->P.info? f.type=À i->i.size≠0):j4 P ev (dU s x n)
 |MR (t:Á) (x:Ö) (n:Nat):j4 P ev (.field t x n)
 |MS (t:Á) (x i:Ö):j4 P ev (dV t x i)
 |MU (t:Á) (x i:Ö):j4 P ev (.index t x i)
 |ER (x:Ö) (n:Nat):j4 P ev (.extract x n)
 |E3 (x:Ö) (ts:Array Á):j4 P ev (Ω {callee:=ĝ .len,args:=#[x],argTypes:=ts})
 |E4 (x:Ö) (ts:Array Á):j4 P ev (Ω {callee:=ĝ .cap,args:=#[x],argTypes:=ts})
 |E5 (x y:Ö) (ts:Array Á):j4 P ev (Ω {callee:=ĝ .copy,args:=#[x,y],argTypes:=ts})
 |sX (x y:Ö) (t0 t1:Á) (h:(∃e,P.underlying t1=À (dh e))\/P.underlying t1=À ę):j4 P ev (Ω {callee:=ĝ .append,args:=#[x,y],argTypes:=#[t0,t1]})
 |jF (f:à) (args:Array Ö) (ts:Array Á) (UA:ev (aN f)=eI (.func f) #[] #[]) (h:∃fn,P.funcs[f]?=À fn/\(fn.name== "runtime.NumGoroutine")=Ã/\fn.body.isNone=Ã):j4 P ev (Ω {callee:=cg<|aN f,args:=args,argTypes:=ts})
end Go.Proofs.Y.Lift
namespace Go.Proofs.Y.Lift
open Go Go.Conc
section
variable{Y:fq}
def UB(Y:fq):Ö->Prop
 |dW v=>fj Y v v
 |eu g=>Y g g
 |_=>True
theorem E6(Y:fq):fj Y ľ ľ:=.nF U λi h=>absurd h fp
def ade{a a':bE}(h:fQ Y a.tmps a'.tmps)(b:UB Y qQ):fj Y (a.eval qQ) (a'.eval qQ):=by
 cases qQ with
 |tmp t=>
  simp only[å,ĩ];rcases h.S t with⟨f,g⟩|⟨v,d,f,g,c⟩
  .rw[f,g];exact E6 Y
  .rwa[f,g]
 |const v=>exact b
 |global g=>exact .jN ⟨b,U,U⟩
 |func f=>exact .fn _
def adf(b:Array au)(h:fQ Y d q)(j:Nat):ł b d j=ł b q j:=by
 unfold ł;cases(b[j]?).bind (·.dst)with
 |none=>rfl
 |some a=>
  simp only[Option.bind_some];rcases h.S a with⟨c,e⟩|⟨v,g,c,e,f⟩
  .rw[c,e]
  .rw[c,e];cases f<;>rfl
def It(a:Array au)(o:au)(h:fQ Y d q):Ħ o (ł a d)=Ħ o (ł a q):=by have:ł a d=ł a q:=funext<|adf a h;rw[this]
def adg{a a':bE}(h:fQ Y a.tmps a'.tmps)(d:Option Tmp)(b:fj Y v x):fQ Y (a.put d v).tmps (a'.put d x).tmps:=by
 cases d with
 |none=>exact h
 |some d=>exact h.qj d b
end
section
variable{Y:fq}
def UC{b:Ö->Â}(a:Array Ö)(h:∀x∈a,fj Y (xX x)<|b x):fQ Y (a.map xX) (a.map b):= ⟨fp,λi c d=>by simp only[ŵ];exact h _<|Array.getElem_mem _⟩
def UD{c:Ö->Â}(a:Array (Nat×Operand))(h:∀x∈(a.toList.map (·.2)).toArray,fj Y (xX x)<|c x):uQ Y (a.map λp=>(p.1,xX p.2)).toList (a.map λp=>(p.1,c p.2)).toList:=by
 simp only[Array.toList_map];have d:∀x∈a.toList.map (·.2),fj Y (xX x) (c x):=λx b=>h x (by simpa using b);generalize a.toList=l at d
 induction l with
 |nil=>exact .oR
 |cons p l e=>exact .vN ⟨U,d _ fp⟩ (e λx b=>d x<|by simp at b|-;exact Î b)
def MV{a:Ö->Â}(x:Option Ö)(h:∀y,x=À y->fj Y (xX y) (a y)):qO Y (x.map xX) (x.map a):=by
 cases x with
 |none=>exact Ç ⟨U,U⟩
 |some x=>exact Î ⟨_,_,U,U,h x U⟩
def UE(p:nH P)(D:Bi Y)(E:Y.C=P.globals.size){w:Ö->Â}(F:∀f,w (aN f)=eI (.func f) #[] #[])(B:j4 P xX o.op)(g:∀x∈o.op.operands,fj Y (xX x)<|w x):kD P oS Y (ì xX o) (ì w o):=by
 let⟨O,u,Q,S,T,guard⟩:=o;simp only at B g;unfold ì;simp only[];cases B with
 |zW x=>exact .gl (.fC (oS.nI<|g x<|by simp[Ê]))
 |E1 x=>exact .gl (.fC (oS.nI<|g x<|by simp[Ê]))
 |vO c a b=>
  apply kS (Um<|g c<|by simp[Ê]);rintro G r _ k rfl;refine .gl (.fC (oS.nI ?_));split
  .exact(g a<|by simp[Ê]).fN k
  .exact(g b<|by simp[Ê]).fN k
 |gG t=>exact .gl (mD<|acg p t _)
 |MJ t x=>exact .gl (mD<|ach t<|g x<|by simp[Ê])
 |MK t z=>exact .gl (mD<|acD p t<|UD z g)
 |ML t n z=>exact .gl (mD<|acH p t n<|UD z g)
 |gy t a=>exact .gl (mD<|aci t<|g a<|by simp[Ê])
 |jb t a x=>exact .gl (ada<|acj t (g a<|by simp[Ê])<|g x<|by simp[Ê])
 |E2 x=>
  simp only[];have j:=g x (by simp[Ê]);generalize xX x=v at j;generalize w x=v' at j;cases j<;>first|exact .gl Iq|exact .gl (.fC (oS.nI<|by constructor<;>assumption))|skip
  rename_i f;cases f<;>exact .gl (.fC (oS.nI<|.fn _))
 |Cm u t x y r h=>
  have j:=g x (by simp[Ê]);have C:=g y (by simp[Ê]);apply Uz;apply kS (ac9 u t (λe=>(h e).imp id λq=>q.1) x y j C);exact λG _ _ k _=>ac6 (k.2.1 D) (k.2.2.trans E) u t h (j.fN k)<|C.fN k
 |MN u t x=>exact .gl (mD<|acw u<|g x<|by simp[Ê])
 |MO s d x h=>exact .gl (mD<|ac7 s d h<|g x<|by simp[Ê])
 |MP t l c=>exact .gl (mD<|acP p t (g l<|by simp[Ê])<|g c<|by simp[Ê])
 |kC t x H I J=>exact .gl (mD<|acu t (g x<|by simp[Ê]) (MV H λy e=>g y<|by simp[Ê,e]) (MV I λy e=>g y<|by simp[Ê,e])<|MV J λy e=>g y<|by simp[Ê,e])
 |MQ s x n h=>exact .gl (mD<|acp s (g x<|by simp[Ê]) n h)
 |MR t x n=>exact .gl (mD<|aco t (g x<|by simp[Ê]) n)
 |MS t x i=>exact .gl (mD<|acr t (g x<|by simp[Ê])<|g i<|by simp[Ê])
 |MU t x i=>exact .gl (mD<|acv t (g x<|by simp[Ê])<|g i<|by simp[Ê])
 |ER x n=>exact .gl (mD<|acn (g x<|by simp[Ê]) n)
 |E3 x m=>
  simp only[ù,č,Ē,pure_bind,Ø,â,ä];exact .gl (mD<|acJ m _<|g x<|by simp[Ê,ô])
 |E4 x m=>
  simp only[ù,č,Ē,pure_bind,Ø,â,ä];exact .gl (mD<|acK m _<|g x<|by simp[Ê,ô])
 |E5 x y m=>
  simp only[ù,č,Ē,pure_bind,Ø,â,ä];exact .gl (mD<|acM m _ (g x<|by simp[Ê,ô])<|g y<|by simp[Ê,ô])
 |sX x y K L h=>
  simp only[ù,č,Ē,pure_bind,Ø,â,ä];exact .gl (mD<|acO p K L _ h (g x<|by simp[Ê,ô])<|g y<|by simp[Ê,ô])
 |jF f M m N h=>
  simp only[ù,N,F f,İ,č,pure_bind,Ď,ď];exact .gl (adb f h<|UC M λx j=>g x<|by simp[Ê,ô,j])
end
def World.tp(u:Æ)(T:ψ)(D:Nat):Æ:={u with tape:=T,drawn:=D}
def uR(T:ψ)(D:Nat)(a:ψ)(b n:Nat):Prop:=∀i,i<n->a (b+i)=T (D+i)
def uR.lG{T:ψ}(h:uR T i xQ j (n+1)):xQ j=T i:=h 0 Z
def uR.ji{T:ψ}(h:uR T i xQ j (n+m)):uR T i xQ j n:=λa b=>h a Z
def uR.adh{b:ψ}(h:uR xQ i b j (n+m)):uR xQ (i+n) b (j+n) m:=λa c=>by have:=h (n+a) Z;rw[show j+n+a=j+(n+a) by omega,show i+n+a=i+(n+a) by omega];exact this
def qR{α:Type}(P:Õ)(m:ē α):Prop:=∀(u:Æ) (T:ψ) (D:Nat),∃(n:Nat) (v:Æ),
 ∀x c,m.run P ((World.tp u T D))=ĥ x c->c=(World.tp v T<|D+n)/\∀a b,uR T D a b n->m.run P ((World.tp u a b))=ĥ x ((World.tp v a<|b+n))
section
variable{α β:Type}
def zY{m:ē α}(h:∀u x a,m.run P u=ĥ x a->a=u/\∀b c,m.run P ((World.tp u b c))=ĥ x ((World.tp u b c))):qR P m:=λu T D=>⟨0,u,λx a e=>by let⟨d,f⟩:=h _ x a e;exact⟨d,λb c _=>f b c⟩⟩
def MW{m:ē α}(h:∀u x a,m.run P u≠ĥ x a):qR P m:=λu T D=>⟨0,u,λx a e=>absurd e<|h _ _ _⟩
def adi{m:ē α}{f:α->ē β}(h:qR P m)(i:∀a,qR P<|f a):qR P (m.bind f):=by
 intro u T D;let⟨n,v,j⟩:=h u T D;cases b:m.run P ((World.tp u T D))with
 |halt z w=>exact⟨0,u,λx c e=>by rw[Ĵ,b]at e;cases e⟩
 |ok a k=>
  obtain⟨rfl,l⟩:=j a k b;let⟨o,w,p⟩:=i a v T<|D+n;refine⟨n+o,w,λx c e=> ?_⟩;rw[Ĵ,b]at e;let⟨q,r⟩:=p x c e;refine⟨by rw[q,cP],λz d g=> ?_⟩;rw[Ĵ,l z d g.ji,<-cP];exact r z (d+n) g.adh
theorem adj{m a:ē α}(h:∀u,m.run P u=a.run P u)(b:qR P a):qR P m:=by intro u T D;let⟨n,v,c⟩:=b u T D;exact⟨n,v,λx d e=>by grind⟩
def adk(q:bT):qR P (π q):=by
 intro u T D;cases a:q.forced with
 |true=>exact⟨0,u,λx d e=>by simp only[π,ã,a,if_true]at e;cases e;exact⟨U,λb c _=>by simp only[π,ã,a,if_true];rfl⟩⟩
 |false=>
  refine⟨1,u,λx d e=> ?_⟩;simp only[π,ã,a,Å,if_false]at e;cases e;refine⟨U,λb c f=> ?_⟩;simp only[π,ã,a,Å,if_false];have g:(World.tp u b c).tape (World.tp u b c).drawn q=T D q:=congrFun f.lG q;rw[g];rfl
def Iu{γ:Type}(s:String):(MonadExcept.throw s:Except String γ)=bF s:=rfl
def adl(a:Ú)(md:Mode):qR P (aW a md):=by
 refine zY λu x f e=> ?_;simp only[aW,ã]at e|-;cases b:u.cell? a with
 |some v=>
  rw[b]at e;cases e;exact⟨U,λc d=>by simp only[show((World.tp u c d)).cell? a=À x from b]⟩
 |none=>
  rw[b]at e;cases v:u.farLoad P a (md==ċ)with
  |error z=>simp only[v]at e;cases e
  |ok p=>
   simp only[v]at e;cases e;exact⟨U,λc d=>by simp only[show((World.tp u c d)).cell? a=ë from b,show((World.tp u c d)).farLoad P a (md==ċ)=.ok p from v]⟩
def MX(u:Æ)(a:Ú)(v:Â)(md:Mode):∀T D,((World.tp u T D)).farStore P a v (md==ċ)=(u.farStore P a v<|md==ċ).map λp=>((World.tp p.1 T D),p.2):=by
 intro T D;have c:∀b t,((World.tp u T D)).viewStore P b t a v (md==ċ)=(u.viewStore P b t a v<|md==ċ).map λp=>((World.tp p.1 T D),p.2):=by
  intro b t;unfold bI;have o:((World.tp u T D)).seen P b t a (md==ċ)=u.seen P b t a (md==ċ):=U;rw[o];simp only[bind,ρ,pure,ς,Iu];cases u.seen P b t a (md==ċ)with
  |error e=>simp only[];split<;>rfl
  |ok r=>
   simp only[];repeat' (first|rfl|split)
 unfold Ŧ;have e:((World.tp u T D)).heap=u.heap:=U;cases r:u.heap[a.block]? with
 |none=>simp only[aO,e,r];rfl
 |some o=>
  cases o<;>first
   |(simp only[aO,e,r];rfl)
   |skip
  simp only[e,r,c];cases u.viewStore P _ _ a v (md==ċ)<;>rfl
def adn(a:Ú)(v:Â)(md:Mode):qR P (ak a v md):=by
 by_cases b:xK v=É
 .intro u T D;cases d:u.cell? a with
  |some y=>
   cases c:u.frozen? a with
   |true=>exact⟨0,u,λx h e=>by simp only[ak]at e;rw[vM b,show((World.tp u T D)).cell? a=À y from d]at e;simp only[show((World.tp u T D)).frozen? a=É from c,if_true]at e;cases e⟩
   |false=>
    refine⟨0,u.setCell a v,λx h e=> ?_⟩;simp only[ak]at e|-;rw[vM b,show((World.tp u T D)).cell? a=À y from d]at e;simp only[show((World.tp u T D)).frozen? a=Ã from c,Å,if_false]at e;cases e;refine⟨U,λf g i=> ?_⟩;rw[vM b,show((World.tp u f g)).cell? a=À y from d];simp only[show((World.tp u f g)).frozen? a=Ã from c,Å,if_false];rfl
  |none=>
   cases c:u.farStore P a v (md==ċ)with
   |error z=>exact⟨0,u,λx h e=>by simp only[ak]at e;rw[vM b,show((World.tp u T D)).cell? a=ë from d]at e;simp only[MX u a v md T D,c,cj]at e;cases e⟩
   |ok p=>
    refine⟨0,p.1,λx h e=> ?_⟩;simp only[ak]at e|-;rw[vM b,show((World.tp u T D)).cell? a=ë from d]at e;simp only[MX u a v md T D,c,cj]at e;cases e;refine⟨U,λf g i=> ?_⟩;rw[vM b,show((World.tp u f g)).cell? a=ë from d];simp only[MX u a v md f g,c,cj];rfl
 .exact MW λu x h e=>by cases v<;>first|exact absurd U b|cases e
def ado(o:Obj):qR P (eL o):=λu T D=>⟨0,{u with heap:=u.heap.push o},λx a e=>by cases e;exact⟨U,λb c _=>rfl⟩⟩
def adp(r:Nat):qR P (cm r):=by
 refine zY λu x d e=> ?_;simp only[cm,ã]at e|-;cases a:u.heap[r]? with
 |none=>rw[a]at e;cases e
 |some o=>
  rw[a]at e;cases o<;>first
   |(cases e;done)
   |(cases e;exact⟨U,λb c=>by simp only[show((World.tp u b c)).heap[r]?=_ from a]⟩)
end
def qk(u:Æ):Prop:=∀(i:Nat) (c:Array Â) (e:Á),u.heap[i]?≠À (Ÿ c e)
structure Kd(u u':Æ):Prop where
 r:qk u->qk u'
 C:∀(i:Nat) (o:Obj),u.heap[i]?=À o->xP o->∃o',u'.heap[i]?=À o'/\xP o'
theorem Kd.fT(u:Æ):Kd u u:=⟨id,λ_ o h k=>⟨o,h,k⟩⟩
def Kd.fg{c:Æ}(h:Kd w u)(k:Kd u c):Kd w c:=⟨λx=>k.r<|h.r x,λi o x y=>by let⟨d,e,f⟩:=h.C i o x y;exact k.C i d e f⟩
def E7:Halt->Bool
 |.panic _=>É
 |.stuck _=>É
 |ŀ (.initOrder _)=>Ã
 |ŀ _=>É
 |_=>Ã
def ox{α:Type}(P:Õ)(m:ē α):Prop:=∀u,qk u->(∀x a,m.run P u=ĥ x a->Kd u a)/\(∀z a,m.run P u=bU z a->E7 z=É)
section
variable{α β:Type}
def UF(a:α):ox P (aH a):=λu _=>⟨λx b h=>by cases h;exact Kd.fT u,λz b h=>by cases h⟩
def E8{z:Halt}(h:E7 z=É):ox P (ek z:ē α):=λu _=>⟨λx a e=>(by cases e),λb a e=>(by cases e;exact h)⟩
def Iv{m:ē α}{f:α->ē β}(h:ox P m)(j:∀a,ox P<|f a):ox P (m.bind f):=by
 intro u d;let⟨g,k⟩:=h u d;refine⟨λx i e=> ?_,λz i e=> ?_⟩<;>rw[Ĵ]at e
 .cases b:m.run P u with
  |ok a c=>
   rw[b]at e;exact(g a c b).fg<|(j a c<|(g a c b).r d).1 x i e
  |halt z w=>rw[b]at e;cases e
 .cases b:m.run P u with
  |ok a c=>
   rw[b]at e;exact(j a c<|(g a c b).r d).2 z i e
  |halt c w=>rw[b]at e;cases e;exact k _ _ b
def UG:ox P dc:=λu _=>⟨λx a h=>by cases h;exact Kd.fT u,λz a h=>by cases h⟩
theorem adq(q:bT):ox P (π q):=by
 intro u b;constructor
 .intro x a e;simp only[π,ã]at e;split at e<;>cases e
  .exact Kd.fT u
  .exact⟨id,λi o h k=>⟨o,h,k⟩⟩
 .intro z a e;simp only[π,ã]at e;grind
def adr(m:Mark):ox P (mark m):=λu _=>⟨λx a h=>by cases h;exact Kd.fT u,λz a h=>by cases h⟩
def ads(r:Nat):ox P (cu r):=λu _=>⟨λx a h=>by cases h;exact Kd.fT u,λz a h=>by cases h⟩
def adt(a:Ú):ox P (eM a):=λu _=>⟨λx b h=>by cases h;exact Kd.fT u,λz b h=>by cases h⟩
theorem adu(o:Obj)(h:∀c e,o≠Ÿ c e):ox P (eL o):=by
 intro u b;refine⟨λx d e=> ?_,λz d e=>by cases e⟩;cases e;refine⟨λ_ i c e a=> ?_,λi f a g=>⟨f,?_,g⟩⟩
 .simp only[Array.getElem?_push]at a;split at a
  .grind
  .exact b i c e a
 .grind
theorem UH{f:Obj->Obj}(n:∀o,xP o->xP (f o))(j:∀o c e,f o=Ÿ c e->∃d g,o=Ÿ d g):Kd u {u with heap:=u.heap.modify b f}:=by
 refine⟨λh i c e a=> ?_,λi o a p=> ?_⟩
 .simp only[Ň]at a;split at a
  .let⟨o,k,l⟩:=ģ.1 a;let⟨d,g,m⟩:=j o c e l;exact h i d g<|m▸k
  .exact h i c e a
 .grind
theorem adv(a:Ú)(v:Â):Kd u (u.setCell a v):=by
 unfold ĉ;refine UH (λo b=> ?_) λo c e h=> ?_
 .cases o<;>first|exact b.elim|trivial
 .grind
theorem UI(b:qk u)(a:Ú)(s:String):E7 (u.noCell a s)=É:=by
 unfold aO;split
 .rename_i h;exact absurd h<|b _ _ _
 .rfl
 .rfl
theorem adw(a:Ú)(m:Mode):ox P (aW a m):=by
 intro u d;constructor
 .intro x c e;simp only[aW,ã]at e;grind [Kd.fT]
 .intro z c e;simp only[aW,ã]at e;split at e
  .cases e
  .split at e
   .cases e
   .rename_i b;cases e;unfold ŋ at b;split at b
    .split at b<;>cases b;rfl
    .grind [UI]
theorem adx{k:Ú}{r:Array Value×TypeId×(Nat×Nat)×Nat×Value×List (Nat×Nat×List UInt8)}(h:w.seen P a t k yQ=.ok r):∃c e d,w.heap[a.block]?=À (Č c e d):=by unfold World.seen at h;simp only[bind,ρ,pure,ς,Iu]at h;grind
theorem ady{k:Ú}{l:List Ú}(h:w.viewStore P a t k v yQ=.ok (u,l)):Kd w u:=by
 have q:∃c e n d f g,w.heap[a.block]?=À (Č d f g)/\u={w with heap:=w.heap.setIfInBounds a.block (Č c e n)}:=by
  unfold bI at h;cases i:w.seen P a t k yQ with
  |error e=>
   rw[i]at h;simp only[bind,ρ,pure,ς,Iu]at h;repeat' (first|contradiction|split at h)
  |ok r=>
   let⟨d,f,g,j⟩:=adx i;rw[i]at h;simp only[bind,ρ,pure,ς,Iu]at h;repeat' (first|contradiction|split at h)
   all_goals(simp only[Except.ok.injEq,Prod.mk.injEq]at h;obtain⟨rfl,_⟩:=h;exact⟨_,_,_,d,f,g,j,U⟩)
 obtain⟨c,e,n,d,f,g,j,rfl⟩:=q;refine⟨λs i x m r=> ?_,λi o r y=> ?_⟩
 .rw[Ś]at r;split at r
  .grind
  .exact s i x m r
 .by_cases m:a.block=i
  .subst m;rw[j]at r;cases r;exact y.elim
  .grind
theorem adz(a:Ú)(v:Â)(m:Mode):ox P (ak a v m):=by
 intro u d;by_cases c:xK v=É
 .constructor
  .intro x f e;simp only[ak]at e;rw[vM c]at e;split at e
   .split at e
    .cases e
    .cases e;exact adv a v
   .split at e
    .rename_i b;cases e;unfold Ŧ at b;grind [ady]
    .cases e
  .intro z f e;simp only[ak]at e;rw[vM c]at e;split at e
   .split at e
    .cases e;rfl
    .cases e
   .split at e
    .cases e
    .rename_i b;cases e;unfold Ŧ at b;split at b
     .split at b<;>cases b;rfl
     .grind [UI]
 .cases v<;>first|exact absurd U c|exact E8 (P:=P) U u d
def fD(P:Õ)(m:ē α):Prop:=ox P m/\qR P m
theorem gD(a:α):fD P (pure a):=⟨UF a,zY λu x b e=>by cases e;exact⟨U,λ_ _=>rfl⟩⟩
def MY{z:Halt}(h:E7 z=É):fD P (ek z:ē α):=⟨E8 h,MW λu x a e=>by cases e⟩
theorem gk{m:ē α}{f:α->ē β}(h:fD P m)(b:∀a,fD P<|f a):fD P (m>>=f):=⟨Iv h.1 λa=>(b a).1,adi h.2 λa=>(b a).2⟩
def MZ{m:ē α}{f:α->β}(h:fD P m):fD P (f<$>m):=gk h λ_=>gD _
theorem jc(s:String):fD P (stuck s:ē α):=MY U
def UJ(v:Â):fD P (goPanic v:ē α):=MY U
theorem qm:fD P dc:=⟨UG,zY λu x a e=>by cases e;exact⟨U,λ_ _=>rfl⟩⟩
theorem rW(q:bT):fD P (π q):=⟨adq q,adk q⟩
def E9(m:Mark):fD P (mark m):=⟨adr m,zY λu x a e=>by cases e;exact⟨U,λ_ _=>rfl⟩⟩
theorem sZ(r:Nat):fD P (cu r):=⟨ads r,zY λu x a e=>by cases e;exact⟨U,λ_ _=>rfl⟩⟩
theorem M0(a:Ú):fD P (eM a):=⟨adt a,zY λu x b e=>by cases e;exact⟨U,λ_ _=>rfl⟩⟩
def Iw(o:Obj)(h:∀c e,o≠Ÿ c e):fD P (eL o):=⟨adu o h,ado o⟩
def Fa(a:Ú)(m:Mode):fD P (aW a m):=⟨adw a m,adl a m⟩
def adA(a:Ú)(v:Â)(m:Mode):fD P (ak a v m):=⟨adz a v m,adn a v m⟩
theorem Ix{m m':ē α}(h:∀u,m.run P u=m'.run P u)(a:fD P m'):fD P m:=⟨λu b=>by have:=a.1 u b;rwa[<-h u]at this,adj h a.2⟩
end
section
variable{α:Type}
def mT(u:bq)(h:E7 (ŀ u)=É):fD P (unsupported u:ē α):=MY h
def Fb(e:Á)(c:Array Â):fD P (dR e c):=by unfold dR;exact gk (Iw _<|by intro _ _ h;cases h) λ_=>gD _
def UK(t:Á)(v:Â):fD P (eJ t v):=Fb _ _
def uS(t:Á):fD P (Δ t):=by unfold Δ;repeat' (first|(with_reducible first|exact gD _|exact jc _|exact qm|refine gk ?_ λ_=> ?_)|split)
theorem qS(t:Á):fD P (ø t):=by unfold ø;repeat' (first|(with_reducible first|exact gD _|exact jc _|exact qm|refine gk ?_ λ_=> ?_)|split)
def s5{p:Prop}(h:p:=by repeat' (first|(with_reducible first|exact gD _|exact jc _|exact qm|exact qS _|exact UJ _|exact UK _ _|exact rW _|exact uS _|exact Fa _ _|exact sZ _|exact E9 _|refine gk ?_ (λ_=> ?_)|refine MZ ?_|refine mT _ ?_)|split|rfl)):p:=h
def Iy(t:Á):fD P (Ū t):=by unfold Ū;exact s5
def vP(e:Ι):fD P (runtimePanic e:ē α):=by unfold runtimePanic;repeat' (first|(with_reducible first|exact Iy _|refine gk ?_ λ_=> ?_)|split|exact s5)
def UL(k:ú)(x y:Int)(c:av):fD P (boundsPanic k x y c:ē α):=by unfold boundsPanic;simp only[];repeat' (first|(with_reducible first|exact vP _|refine gk ?_ λ_=> ?_)|split|exact s5)
def adB(r:Nat):ox P (cm r):=by
 intro u b;constructor
 .intro x a e;simp only[cm,ã]at e;split at e<;>first|(cases e;done)|(cases e;exact Kd.fT u)
 .intro z a e;simp only[cm,ã]at e;split at e<;>first|(cases e;done)|(cases e;rfl)
theorem UM(r:Nat):fD P (cm r):=⟨adB r,adp r⟩
def Iz(t:Á):fD P (ω t):=by unfold ω;exact s5
def s6(t:Á):fD P (ax t):=by unfold ax;exact s5
def M1(t:Á):fD P (ep t):=by unfold ep;exact s5
def UN(a:Ú):∀(n i:Nat) (b:Array Â),fD P<|Ō a i n b
 |0,i,b=>gD _
 |n+1,i,b=>by unfold Ō;exact gk (Fa _ _) λ_=>UN a n _ _
def M3(a:Ú)(n:Nat):fD P (cZ a n):=UN a n _ _
def IA(a:Ú):∀(b:List Â) (i:Nat),fD P<|Κ a b i
 |[],i=>gD _
 |v::b,i=>by unfold Κ;exact gk (adA _ _ _) λ_=>IA a b _
theorem UO(t:Á)(a:Ú):fD P (ae t a):=by unfold ae;repeat' (first|(with_reducible first|exact s6 _|exact M1 _|exact M3 _ _|refine gk ?_ λ_=> ?_)|split|exact s5)
def adC(t:Á)(a:Ú)(v:Â):fD P (aI t a v):=by unfold aI;repeat' (first|(with_reducible first|exact s6 _|exact IA _ _ _|refine gk ?_ λ_=> ?_)|split|exact s5)
def UP(t:Á)(c:Array Â)(o:Nat):fD P (part t c o):=by unfold part;repeat' (first|(with_reducible first|exact s6 _|exact M1 _|refine gk ?_ λ_=> ?_)|split|exact s5)
def UQ(v:Â):fD P (ŧ v):=by unfold ŧ;exact s5
def UR(v:Â):fD P (de v):=by unfold de;exact s5
def jW{p:Prop}(h:p:=by repeat' (first|(with_reducible first|exact gD _|exact jc _|exact qm|exact qS _|exact UJ _|exact UK _ _|exact Iy _|exact rW _|exact vP _|exact uS _|exact Fa _ _|exact s6 _|exact M1 _|exact M3 _ _|exact IA _ _ _|exact UR _|exact Iz _|exact adC _ _ _|exact UO _ _|exact UQ _|exact UP _ _ _|exact sZ _|exact UM _|exact UL _ _ _ _|exact E9 _|refine gk ?_ (λ_=> ?_)|refine MZ ?_|refine mT _ ?_)|split|rfl)):p:=h
def Fc(v:Â):fD P (dA v):=by unfold dA;exact jW
def IB(v:Â):fD P (bV v):=by unfold bV;exact jW
def adD(v:Â):fD P (eK v):=by unfold eK;exact jW
theorem US(v:Â):fD P (bW v):=by unfold bW;exact jW
def UT(t:Á)(b:Bool)(v:Â):fD P (Ű t b v):=by unfold Ű;exact jW
def UU(t:Á)(v:Â):fD P (af t v):=by unfold af;exact jW
def UW(t:Á)(v:Â):fD P (Ş t v):=by unfold Ş;exact jW
def UX(t:Á)(a v:Â):fD P (ĳ t a v):=by unfold ĳ;exact jW
def UY(v:Â)(n:Nat):fD P (ō v n):=by unfold ō;exact jW
def UZ(t:Á)(v:Â)(n:Nat):fD P (ű t v n):=by unfold ű;repeat' (first|(with_reducible first|exact adD _|refine gk ?_ λ_=> ?_)|split|exact jW)
def U0{γ δ:Type}(f:γ->ē δ)(a:∀x,fD P<|f x):∀l:List γ,fD P<|l.mapM f
 |[]=>by rw[cR];exact gD _
 |x::l=>by rw[ν];exact gk (a x) λ_=>gk (U0 f a l) λ_=>gD _
theorem U1{γ δ:Type}(f:γ->ē δ)(a:∀x,fD P<|f x)(l:Array γ):fD P (l.mapM f):=by rw[Ĕ];exact MZ<|U0 f a _
def adE(l:Array Field):fD P (l.mapM λf=>do pure (f.offset,<-ax f.type)):=U1 _ (λ_=>gk (s6 _) λ_=>gD _) l
def IC(r:Nat):fD P (di r):=by unfold di;exact jW
def U2(r:Nat):fD P (bZ r):=by unfold bZ;exact jW
def U3(a:Ú):fD P (aX a):=by unfold aX;repeat' (first|(with_reducible first|exact IC _|refine gk ?_ λ_=> ?_)|split|exact jW)
def zZ(a:Ú):fD P (dj a):=by unfold dj;repeat' (first|(with_reducible first|exact gD _|exact jc _|exact qm|exact sZ _|exact U3 _|refine gk ?_ λ_=> ?_)|split|simp only[]|(rename_i b;cases b<;>simp only[Å,if_false,if_true,þ,Ă]))
def Cn(a:Ú):fD P (Į a):=by unfold Į;repeat' (first|(with_reducible first|exact U2 _|refine gk ?_ λ_=> ?_)|split|exact jW)
def adF(a:Ú)(x y:Nat):fD P (partAt a x y):=by unfold partAt;repeat' (first|(with_reducible first|exact zZ _|refine gk ?_ λ_=> ?_)|split|exact jW)
def adG(a:Ú)(f:Field):fD P (bX a f):=by unfold bX;repeat' (first|(with_reducible first|exact adF _ _ _|refine gk ?_ λ_=> ?_)|split|exact jW)
def U4(s:Á)(v:Â)(n:Nat):fD P (Ŏ s v n):=by unfold Ŏ;repeat' (first|(with_reducible first|exact adG _ _|refine gk ?_ λ_=> ?_)|split|exact jW)
def U5(t:Á)(x i:Â):fD P (ŏ t x i):=by unfold ŏ;repeat' (first|(with_reducible first|exact gD _|exact jc _|exact qS _|exact UL _ _ _ _|exact s6 _|exact UQ _|exact UR _|refine gk ?_ (λ_=> ?_)|refine mT _ ?_)|split|rfl|simp only[])
def adH(x:Â)(y:Nat)(c:av):fD P (ī x y c):=by unfold ī;exact jW
def U6(b:Bool)(l c:Nat)(x y z:Option Â):fD P (Ĩ b l c x y z):=by unfold Ĩ;repeat' (first|(with_reducible first|exact adH _ _ _|refine gk ?_ λ_=> ?_)|split|exact jW)
def adI(t:Á)(v:Â)(x y z:Option Â):fD P (Ų t v x y z):=by unfold Ų;repeat' (first|(with_reducible first|exact US _|exact U6 _ _ _ _ _ _|refine gk ?_ λ_=> ?_)|split|exact jW)
def U7(t:Á)(v:Â)(x y z:Option Â):fD P (Ő t v x y z):=by unfold Ő;repeat' (first|(with_reducible first|exact U6 _ _ _ _ _ _|exact adI _ _ _ _ _|refine gk ?_ λ_=> ?_)|split|exact jW)
def U8(t:Á)(x i:Â):fD P (ų t x i):=by unfold ų;exact jW
def U9(o:ġ)(k:ú)(x y:Int):fD P (dD o k x y):=by unfold dD;exact jW
def Va(o:ġ)(k:ú)(x y:Int):fD P (dX o k x y):=by unfold dX;exact jW
def Vb(o:UnOp)(v:Â):fD P (bY o v):=by unfold bY;repeat' (first|(with_reducible first|exact U9 _ _ _ _|exact Va _ _ _ _)|split|exact jW)
def Vd(t:Á)(a:Array (Nat×Value)):fD P (Ŵ t a):=by unfold Ŵ;repeat' (first|(with_reducible first|exact adE _|refine gk ?_ λ_=> ?_)|split|exact jW)
def Ve(t:Á)(n:Nat)(a:Array (Nat×Value)):fD P (ĭ t n a):=by unfold ĭ;repeat' (first|(with_reducible first|exact gD _|exact jc _|exact Fb _ _|exact qS _|exact Iz _|exact s6 _|refine gk ?_ (λ_=> ?_)|refine mT _ ?_)|split|rfl|simp only[]|(rename_i b;cases b<;>simp only[Å,if_false,if_true,þ,Ă]))
def M4(n:Nat):fD P (bO n):=by unfold bO;exact jW
def Vf(t:Á)(x y:Â):fD P (Ĺ t x y):=by unfold Ĺ;repeat' (first|(with_reducible first|exact gD _|exact jc _|exact rW _|exact Fb _ _|exact uS _|exact qS _|exact vP _|exact Iz _|exact s6 _|exact Fc _|exact M4 _|refine gk ?_ λ_=> ?_)|split|simp only[]|(rename_i b;cases b<;>simp only[Å,if_false,if_true,þ,Ă]))
def Vg(v:Â):fD P (Α v):=by unfold Α;exact jW
def Vh(s n:Nat)(v:Â):fD P (ļ s n v):=by unfold ļ;exact jW
def adJ(a:Ú)(n:Nat):fD P (aA a n):=by unfold aA;exact jW
def adK(s l n:Nat)(b:Option Ú)(v:Â):fD P (aZ s l n b v):=by unfold aZ;repeat' (first|(with_reducible first|exact gD _|exact M0 _|exact adJ _ _|refine gk ?_ λ_=> ?_)|split|simp only[]|(rename_i b;cases b<;>simp only[Å,if_false,if_true,þ,Ă]))
def Vi(a:Array Á)(t:Á)(x:Array Â):fD P (ş a t x):=by unfold ş;exact jW
def Vj(a:Array Á)(t:Á)(x:Array Â):fD P (Š a t x):=by unfold Š;exact jW
def Vk(a:Array Á)(t:Á)(x:Array Â):fD P (ő a t x):=by unfold ő;repeat' (first|(with_reducible first|exact Vg _|exact Vh _ _ _|refine gk ?_ λ_=> ?_)|split|exact jW)
def Vl(a:Array Á)(t:Á)(x:Array Â):fD P (ĸ a t x):=by unfold ĸ;repeat' (first|(with_reducible first|exact gD _|exact jc _|exact rW _|exact E9 _|exact Fb _ _|exact uS _|exact qS _|exact vP _|exact Iz _|exact s6 _|exact IA _ _ _|exact Fc _|exact M4 _|exact Vg _|exact Vh _ _ _|exact adK _ _ _ _ _|refine gk ?_ (λ_=> ?_)|refine mT _ ?_)|split|rfl|(rename_i b;cases b<;>simp only[Å,if_false,if_true,þ,Ă]))
end
section
variable{α:Type}
theorem M5(o:ġ)(k:ı)(x y:Nat):fD P (cS o k x y):=by unfold cS;repeat' (first|(with_reducible first|exact gD _|exact jc _|exact rW _|refine gk ?_ λ_=> ?_)|split|simp only[]|(rename_i b;cases b<;>simp only[Å,if_false,if_true,þ,Ă]))
theorem M6(o:ġ)(k:ı)(x y:Nat):fD P (dE o k x y):=by unfold dE;grind [gD,jc]
theorem adL(s:ı)(b:Nat)(d:ı):fD P (aP s b d):=by unfold aP;grind [gD,rW,gk]
theorem Vm(s:ı)(b:Nat)(d:ú):fD P (bJ s b d):=by unfold bJ;grind [gD,rW,gk]
theorem adM(o:ġ)(k:ı)(x y:Nat):fD P (bb o k x y):=by unfold bb;grind [gD,jc,M5,gk]
def mU{p:Prop}(h:p:=by repeat' (first|(with_reducible first|exact gD _|exact jc _|exact rW _|exact M5 _ _ _ _|exact IB _|exact M6 _ _ _ _|exact adL _ _ _|exact adM _ _ _ _|exact vP _|exact qm|exact zZ _|exact sZ _|exact Fc _|exact IC _|exact qS _|exact Cn _|exact U2 _|refine gk ?_ (λ_=> ?_)|refine mT _ ?_)|split|rfl)):p:=h
def Vo(o:ġ)(k:ı)(x y:Nat):fD P (cw o k x y):=by unfold cw;exact mU
def adN(s:ı)(b:Nat)(d:ı):fD P (bK s b d):=by unfold bK;exact mU
def M7(x y:Nat):fD P (cx x y):=by unfold cx;exact mU
def M8(x y:Nat):fD P (cy x y):=by unfold cy;exact mU
def M9(x y:Nat):fD P (cz x y):=by unfold cz;exact mU
def adO(x y:Nat):fD P (cA x y):=by unfold cA;exact mU
def adP(a b c d:Nat):fD P (aB a b c d):=by unfold aB;repeat' (first|(with_reducible first|exact M7 _ _|exact M8 _ _|exact M9 _ _|refine gk ?_ λ_=> ?_)|split|exact mU)
def adQ(s a b c d:Nat):fD P (σ s a b c d):=by unfold σ;repeat' (first|(with_reducible first|exact M7 _ _|exact M8 _ _|exact M9 _ _|refine gk ?_ λ_=> ?_)|split|exact mU)
def adR(a b c d:Nat):fD P (ah a b c d):=by unfold ah;repeat' (first|(with_reducible first|exact gD _|exact Vo _ _ _ _|exact M7 _ _|exact M8 _ _|exact M9 _ _|exact adO _ _|exact adQ _ _ _ _ _|refine gk ?_ λ_=> ?_)|split|simp only[])
def Vp(o:ġ)(k:ı)(a b c d:Nat):fD P (dm o k a b c d):=by unfold dm;repeat' (first|(with_reducible first|exact Vo _ _ _ _|exact adN _ _ _|exact adP _ _ _ _|exact adR _ _ _ _|refine gk ?_ λ_=> ?_)|split|exact mU)
def adS(o:ġ)(k:ú)(x y:Int):fD P (ag o k x y):=by unfold ag;exact mU
def Vq(o:ġ)(x y:Int):fD P (eB o x y):=by unfold eB;exact mU
def adT(o:ġ)(k:ú)(x:Int)(a:ú)(y:Int):fD P (aJ o k x a y):=by unfold aJ;exact mU
def Na(o:ġ)(x y:ByteArray):fD P (br o x y):=by unfold br;exact mU
def Vr(a b:Ú):fD P (š a b):=by unfold š;exact mU
def adU(k:ú)(a b:Ú):fD P (Μ k a b):=by unfold Μ;repeat' (first|(with_reducible first|exact Vr _ _|refine gk ?_ λ_=> ?_)|split|exact mU)
def adV(o:ġ)(a b:Ú):fD P (Ν o a b):=by unfold Ν;repeat' (first|(with_reducible first|exact Vr _ _|refine gk ?_ λ_=> ?_)|split|exact mU)
def adW(k:ú)(a:Ú)(n:Int):fD P (Ξ k a n):=by unfold Ξ;repeat' (first|(with_reducible first|exact gD _|exact sZ _|exact uS _|exact zZ _|refine gk ?_ (λ_=> ?_)|refine mT _ ?_)|split|rfl|simp only[]|(rename_i b;cases b<;>simp only[Å,if_false,if_true,þ,Ă]))
def Vt(a:Array Á)(t:Á)(x y:Â):fD P (ñ a t #[x,y]):=by
 unfold ñ;cases x<;>first|exact jc _|skip
 refine gk (Fc y) λn=> ?_;exact mU
def adX(a:Ú)(b:Bool):fD P (b9 a b):=by unfold b9;repeat' (first|(with_reducible first|exact gD _|refine gk ?_ (λ_=> ?_)|refine Iw _ ?_)|split|(intro _ _ h;cases h;done))
def adY(t:Á)(x y:Â):fD P (ŕ t x y):=by unfold ŕ;repeat' (first|(with_reducible first|exact Vt _ _ _ _|exact adX _ _|refine gk ?_ λ_=> ?_)|split|exact mU)
def adZ(t:Á)(x y:Â):fD P (Ţ t x y):=by unfold Ţ;repeat' (first|(with_reducible first|exact Vt _ _ _ _|refine gk ?_ λ_=> ?_)|split|exact mU)
theorem vR{γ:Type}{d:dF}(h:P.underlying t=À d){f:dF->ē γ}(a:fD P (f d)):fD P (ø t>>=f):=by
 have e:∀u,(ø t).run P u=ĥ d u:=by intro u;unfold ø;simp_all
 grind [Ix,Ä,È]
def Vu(t:Á)(x y:Â)(a:sY P t\/((∃e,P.underlying t=À (ð e))/\(mS x\/mS y))):fD P (ó t x y):=by
 unfold ó ā Λ;rcases a with(h|⟨k,h⟩|h)|⟨⟨e,h⟩,k⟩<;>refine vR h ?_
 .repeat' (first|(with_reducible first|exact gD _|exact jc _|exact qm|exact uS _|exact zZ _|exact Cn _|refine gk ?_ (λ_=> ?_)|refine mT _ ?_)|contradiction|split)
 .repeat' (first|(with_reducible first|exact gD _|exact jc _|exact qm|exact uS _|exact zZ _|exact Cn _|refine gk ?_ (λ_=> ?_)|refine mT _ ?_)|contradiction|split|rfl)
 .repeat' (first|(with_reducible first|exact gD _|exact jc _|exact qm|exact uS _|exact zZ _|exact Cn _|refine gk ?_ (λ_=> ?_)|refine mT _ ?_)|contradiction|split)
 .repeat' (first|(with_reducible first|exact gD _|exact jc _|exact qm|exact uS _|exact zZ _|exact Cn _|refine gk ?_ (λ_=> ?_)|refine mT _ ?_)|contradiction|exact(Or.elim k id id:False).elim|split)
def ad1(t:Á)(a:E0 P t)(x y:Â):fD P (į ā t x y):=by unfold ā į;rcases a with(h|⟨k,h⟩|h)|⟨e,h⟩<;>refine vR h ?_<;>(cases x<;>cases y<;>exact gD _)
theorem Vv(c:ġ)(t:Á)(d:c=az\/c=aK->E0 P t)(x y:Ö)(a b:Â):fD P (ŷ c t x y a b):=by
 unfold ŷ;by_cases e:c=az\/c=aK
 .have f:=d e;rcases e with rfl|rfl;all_goals
   repeat' (first|(with_reducible first|exact ad1 _ f _ _|refine gk ?_ λ_=> ?_)|split|exact mU)
 .grind [gD]
end
section
variable{α:Type}
theorem ad2(k:ú)(n:Int):fD P (cT k n):=by unfold cT;grind [gD]
theorem Vw(n:Int):fD P (bg n):=by unfold bg;grind [gD]
def ad3(a:ġ)(t:Á)(x y:Â)(h:a=az\/a=aK->(sY P t\/((∃e,P.underlying t=À (ð e))/\(mS x\/mS y)))):fD P (Ũ a t x y):=by unfold Ũ;repeat' (first|(with_reducible first|exact Vu _ _ _ (h<|Ç U)|exact Vu _ _ _ (h<|Î U)|exact gD _|exact jc _|exact qS _|exact Cn _|exact U9 _ _ _ _|exact Va _ _ _ _|exact M5 _ _ _ _|exact M6 _ _ _ _|exact Vp _ _ _ _ _ _|exact adS _ _ _ _|exact Vq _ _ _|exact adT _ _ _ _ _|exact Na _ _ _|exact adU _ _ _|exact adV _ _ _|exact adW _ _ _|exact adY _ _ _|exact adZ _ _ _|refine gk ?_ (λ_=> ?_)|refine mT _ ?_)|contradiction|split|rfl)
def ad4(s d:Á)(x:Â)(h:(∃k a,P.underlying s=À (Β k)/\P.underlying d=À (Β a))\/(P.underlying s=À ę/\P.underlying d=À ę)):fD P (Œ s d x):=by
 unfold Œ;rcases h with⟨k,a,b,c⟩|⟨b,c⟩<;>refine vR b<|vR c ?_
 .repeat' (first|(with_reducible first|exact ad2 _ _|exact gD _|exact Vm _ _ _|refine mT _ ?_)|contradiction|split|rfl)
 .repeat' (first|(with_reducible first|exact Vw _|exact gD _|exact Vm _ _ _|refine mT _ ?_)|contradiction|split|rfl)
def Vx:∀(l:List FieldStep) (t:Á) (x:Option Â),fD P<|bu l t x
 |[],t,x=>by unfold bu;exact gD _
 |s::l,t,x=>by unfold bu;repeat' (first|(with_reducible first|exact Vx l _ _|exact gD _|exact jc _|exact qS _|exact UP _ _ _|refine gk ?_ λ_=> ?_)|split|(intro _ _ h;cases h;done)|rfl|simp only[]|(rename_i b;cases b<;>simp only[Å,if_false,if_true,þ,Ă]))
def Vy:∀(n:Nat) (t:Á) (v:Â) (s:String),fD P<|aQ n t v s
 |0,t,v,s=>by unfold aQ;exact gD _
 |n+1,t,v,s=>by unfold aQ;repeat' (first|(with_reducible first|exact Vy n _ _ _|exact Vx _ _ _|exact gD _|exact jc _|exact uS _|exact qS _|refine gk ?_ λ_=> ?_)|split|(intro _ _ h;cases h;done)|rfl|simp only[]|(rename_i b;cases b<;>simp only[Å,if_false,if_true,þ,Ă]))
def lH{m:ē Â}(h:fD P m):fD P (m>>=λv=>pure<|ï v):=gk h λ_=>gD _
theorem ad5(f:à)(b:∃a,P.funcs[f]?=À a/\(a.name== "runtime.NumGoroutine")=Ã/\a.body.isNone=Ã)(c:Array Â):fD P (ĵ f c):=by let⟨a,d,e,g⟩:=b;refine Ix (m':=pure<|ũ f c) (λu=> ?_)<|gD _;unfold ĵ;rw[Ä,ă];grind [È,Å]
def ad6(j:j4 P xX o.op):fD P (ì xX o):=by
 let⟨k,g,m,p,u,guard⟩:=o;simp only at j;unfold ì;simp only[];cases j with
 |zW x=>exact gD _
 |E1 x=>exact gD _
 |vO c a b=>exact gk (IB _) λ_=>gD _
 |gG t=>exact lH<|UT _ _ _
 |MJ t x=>exact lH<|UU _ _
 |MK t b=>exact lH<|Vd _ _
 |ML t n b=>exact lH<|Ve _ _ _
 |gy t a=>exact lH<|UW _ _
 |jb t a x=>exact gk (UX _ _ _) λ_=>gD _
 |E2 x=>
  simp only[];repeat' (first|(with_reducible first|exact Vy _ _ _ _|exact gD _|exact qm|exact vP _|exact IB _|exact UT _ _ _|exact UU _ _|exact UW _ _|exact UX _ _ _|exact UY _ _|exact UZ _ _ _|exact U4 _ _ _|exact U5 _ _ _|exact U7 _ _ _ _ _|exact U8 _ _ _|exact Vb _ _|exact Vd _ _|exact Ve _ _ _|exact Vf _ _ _|exact Vi _ _ _|exact Vj _ _ _|exact Vk _ _ _|exact Vl _ _ _|refine gk ?_ (λ_=> ?_)|refine mT _ ?_)|split|rfl)
 |Cm g t x y r h=>exact lH<|gk (Vv g t (λe=>(h e).imp id λq=>q.1) x y _ _) λ_=>ad3 g t _ _ h
 |MN g t x=>exact lH<|Vb _ _
 |MO s d x h=>exact lH<|ad4 s d _ h
 |MP t l c=>exact lH<|Vf _ _ _
 |kC t x b a c=>exact lH<|U7 _ _ _ _ _
 |MQ s x n h=>exact lH<|U4 _ _ _
 |MR t x n=>exact lH<|UZ _ _ _
 |MS t x i=>exact lH<|U5 _ _ _
 |MU t x i=>exact lH<|U8 _ _ _
 |ER x n=>exact lH<|UY _ _
 |E3 x a=>
  simp only[ù,č,Ē,pure_bind,Ø,â,ä];exact lH<|Vi _ _ _
 |E4 x a=>
  simp only[ù,č,Ē,pure_bind,Ø,â,ä];exact lH<|Vj _ _ _
 |E5 x y a=>
  simp only[ù,č,Ē,pure_bind,Ø,â,ä];exact lH<|Vk _ _ _
 |sX x y b c h=>
  simp only[ù,č,Ē,pure_bind,Ø,â,ä];exact lH<|Vl _ _ _
 |jF f c a b h=>
  simp only[ù,b,İ,č,pure_bind,Ď,ď];exact ad5 f h _
end
def fm(f:à)(t:Array Â)(k:List ś):Ę:=(base f).at ⟨t,[]⟩ k
structure St where
 f:à
 t:Array Â
 k:List ś
 C:Bool
 L:List (FuncId×Array Value×List ś)
def St.r(s:St)(cs:List Ę):Ó:=G (if s.C then{fm s.f s.t s.k with mode:=.returning}else fm s.f s.t s.k)<|s.L.map (λx=>fm x.1 x.2.1 x.2.2)++cs
def oT(t:Array Â)(d:Option Tmp)(v:Â):Array Â:=(Act.put ⟨t,[]⟩ d v).tmps
def rX(t:Array Â)(d:Option Tmp)(v:Â):Act.put ⟨t,[]⟩ d v=⟨oT t d v,[]⟩:=by cases d<;>rfl
inductive LS(P:Õ):St->Æ->St->Æ->Prop
 |oR {f t L u:_}:LS P ⟨f,t,[],Ã,L⟩ u ⟨f,t,[],É,L⟩ u
 |uT {f t k L u:_}:LS P ⟨f,t,Đ .ret::k,Ã,L⟩ u ⟨f,t,Đ .ret::k,É,L⟩ u
 |rU {f t k L u:_}:LS P ⟨f,t,Đ eN::k,Ã,L⟩ u ⟨f,t,k,Ã,L⟩ u
 |vS {f t k L u l:_}:LS P ⟨f,t,Đ (dY l)::k,Ã,L⟩ u ⟨f,t,k,Ã,L⟩ u
 |xR {f t k L u id:_}:LS P ⟨f,t,dG id::k,Ã,L⟩ u ⟨f,t,k,Ã,L⟩ u
 |uU {f t k L u c:_}:LS P ⟨f,t,dH c::k,Ã,L⟩ u ⟨f,t,k,Ã,L⟩ u
 |qT {f t k L u x y:_}:LS P ⟨f,t,Đ (.seq x y)::k,Ã,L⟩ u ⟨f,t,Đ x::Đ y::k,Ã,L⟩ u
 |s7 {f t k L u c x y b:_} (h:å ⟨t,[]⟩ c=Ľ b):LS P ⟨f,t,Đ (bx c x y)::k,Ã,L⟩ u ⟨f,t,Đ (if b then x else y)::k,Ã,L⟩ u
 |qU {f t k L u id c:_}:LS P ⟨f,t,Đ (dZ id c)::k,Ã,L⟩ u ⟨f,t,Đ c::dG id::k,Ã,L⟩ u
 |vT {f t k L u c:_}:LS P ⟨f,t,Đ (eO c)::k,Ã,L⟩ u ⟨f,t,Đ c::dp c::k,Ã,L⟩ u
 |vU {f t k L u c:_}:LS P ⟨f,t,dp c::k,Ã,L⟩ u ⟨f,t,Đ c::dp c::k,Ã,L⟩ u
 |vV {f t k L u c:_}:LS P ⟨f,t,Đ (ea c)::k,Ã,L⟩ u ⟨f,t,Đ c::dH c::k,Ã,L⟩ u
 |vW {f t k L u id k':_} (h:cC id k=À k'):LS P ⟨f,t,Đ (eP id)::k,Ã,L⟩ u ⟨f,t,k',Ã,L⟩ u
 |vY {f t k L u l k':_} (h:cD l k=À k'):LS P ⟨f,t,Đ (eR l)::k,Ã,L⟩ u ⟨f,t,k',Ã,L⟩ u
 |s8 {f t k L u id ops:_}:LS P ⟨f,t,Đ (bP id ops Ã)::k,Ã,L⟩ u ⟨f,t,á ops (List.range ops.size)::k,Ã,L⟩ u
 |z8 {f t k L u id ops:_}:LS P ⟨f,t,Đ (bP id ops É)::k,Ã,L⟩ u ⟨f,t,á ops (bL (P.follows .mixedOrders) ops<|u.tape u.drawn<|.order f id)::k,Ã,L⟩ {u with drawn:=u.drawn+1}
 |Fe {f t k L u ops:_}:LS P ⟨f,t,á ops []::k,Ã,L⟩ u ⟨f,t,k,Ã,L⟩ u
 |Co {f t k L u ops i rest o:_} (ho:ops[i]?=À o) (hw:Ħ o (ł ops t)=Ã):LS P ⟨f,t,á ops (i::rest)::k,Ã,L⟩ u ⟨f,oT t o.dst ľ,á ops rest::k,Ã,L⟩ u
 |nI {f t k L u ops i rest o v u':_} (ho:ops[i]?=À o) (hw:Ħ o (ł ops t)=É) (hr:(ì (å ⟨t,[]⟩) o).run P u=ĥ (ï v) u'):LS P ⟨f,t,á ops (i::rest)::k,Ã,L⟩ u ⟨f,oT t o.dst v,á ops rest::k,Ã,L⟩ u'
 |Aa {f t k L u ops i rest o u':_} (ho:ops[i]?=À o) (hw:Ħ o (ł ops t)=É) (hr:(ì (å ⟨t,[]⟩) o).run P u=ĥ aG u'):LS P ⟨f,t,á ops (i::rest)::k,Ã,L⟩ u ⟨f,oT t o.dst ľ,á ops rest::k,Ã,L⟩ u'
 |rV {f t k L u ops i rest o g args fn c u':_} (ho:ops[i]?=À o) (hw:Ħ o (ł ops t)=É) (hr:(ì (å ⟨t,[]⟩) o).run P u=ĥ (ũ g args) u') (hf:P.funcs[g]?=À fn) (hb:fn.body=À c):LS P ⟨f,t,á ops (i::rest)::k,Ã,L⟩ u ⟨g,args++ĺ (fn.ntmps-args.size) ľ,[Đ c],Ã,(f,t,á ops (i::rest)::k)::L⟩ u'
 |Cp {f t k L u ops i rest:_} (ho:(ops:Array au)[(i:Nat)]?=ë):LS P ⟨f,t,á ops (i::rest)::k,Ã,L⟩ u ⟨f,t,á ops rest::k,Ã,L⟩ u
 |vZ {f t k L u g t' ops i rest k' v fn u':_} (hf:P.funcs[f]?=À fn) (hr:(Ī fn t).run P u=ĥ v u'):LS P ⟨f,t,k,É,(g,t',á ops (i::rest)::k')::L⟩ u ⟨g,oT t' ((ops[i]?).bind (·.dst)) v,á ops rest::k',Ã,L⟩ u'
inductive mh(GL:Nat->Prop):Ö->Prop
 |Vz (t:Tmp):mh GL (.tmp t)
 |VA {v:Â} (h:jO v):mh GL (dW v)
 |VB {g:Nat} (h:GL g):mh GL (eu g)
 |VC (f:à):mh GL (aN f)
structure mE(P:Õ)(GL:Nat->Prop)(eZ:à->Prop)(o:au):Prop where
 mF:∀{Y:fq} {Sh:Nat->Prop} {t t':Array Â} {u w:Æ},nH P->Y.C=P.globals.size->(∀g,GL g->Y g g)->fQ Y t t'->jh Y Sh u w->(∀j,Sh j->j<w.heap.size)->∀{x:Ο} {u':Æ},(ì (å ⟨t,[]⟩) o).run P u=ĥ x u'->Ck u u'->
  ∃(Y':fq) (x':Ο) (w':Æ) (VD:Array ý),Y.r Y'/\(∀i j,Y' i j->Y i j\/(u.heap.size<=i/\w.heap.size<=j))/\(ì (å ⟨t',[]⟩) o).runT P w #[]=(ĥ x' w',#[]++VD)/\oS Y' x x'/\jh Y' Sh u' w'/\nG Y Sh w w'/\(∀e∈VD,zR Y' Sh e)/\u.heap.size<=u'.heap.size
 r:∀a:bE,fD P<|ì a.eval o
 I:∀(a:bE) (u:Æ) (n:Ο) (u':Æ),(ì a.eval o).run P u=ĥ n u'->(∃v,n=ï v)\/n=aG\/∃f c,n=ũ f c
 C:∀(a:bE) (u:Æ) (f:à) (c:Array Â) (u':Æ),(ì a.eval o).run P u=ĥ (ũ f c) u'->eZ f
inductive kE(P:Õ)(GL:Nat->Prop)(eZ:à->Prop):aj->Prop
 |uT:kE P GL eZ .ret
 |rU:kE P GL eZ eN
 |vS (l:Nat):kE P GL eZ (dY l)
 |vW (id:Nat):kE P GL eZ (eP id)
 |vY (l:Nat):kE P GL eZ (eR l)
 |qT {x y:aj} (hx:kE P GL eZ x) (hy:kE P GL eZ y):kE P GL eZ (.seq x y)
 |s7 {c:Ö} {x y:aj} (hc:mh GL c) (hx:kE P GL eZ x) (hy:kE P GL eZ y):kE P GL eZ (bx c x y)
 |qU (id:Nat) {c:aj} (h:kE P GL eZ c):kE P GL eZ (dZ id c)
 |vT {c:aj} (h:kE P GL eZ c):kE P GL eZ (eO c)
 |vV {c:aj} (h:kE P GL eZ c):kE P GL eZ (ea c)
 |s8 (id:Nat) {ops:Array au} (draw:Bool) (h:∀o∈ops,mE P GL eZ o):kE P GL eZ (bP id ops draw)
 |oU (VE:String):kE P GL eZ (dr VE)
inductive Ab(P:Õ)(GL:Nat->Prop)(eZ:à->Prop):ś->Prop
 |qV {c:aj} (h:kE P GL eZ c):Ab P GL eZ (Đ c)
 |xR (id:Nat):Ab P GL eZ (dG id)
 |uU {c:aj} (h:kE P GL eZ c):Ab P GL eZ (dH c)
 |vU {c:aj} (h:kE P GL eZ c):Ab P GL eZ (dp c)
 |we {ops:Array au} (is:List Nat) (h:∀o∈ops,mE P GL eZ o):Ab P GL eZ (á ops is)
def rY(P:Õ)(a:Nat->Prop)(b:à->Prop)(k:List ś):Prop:=∀i∈k,Ab P a b i
structure lq(P:Õ)(GL:Nat->Prop)(eZ:à->Prop)(s:St):Prop where
 fZ:rY P GL eZ s.k
 fu:∀x∈s.L,rY P GL eZ x.2.2
def oV(P:Õ)(d:Nat->Prop)(a:à->Prop):Prop:=∀f,a f->∀b c,P.funcs[f]?=À b->b.body=À c->kE P d a c
section
variable{GL:Nat->Prop}{eZ:à->Prop}
def ad7{a:aj}(h:kE P GL eZ wX):bh wX i=À a->kE P GL eZ a:=by
 induction h generalizing a with
 |qT j b d f=>
  intro e;simp only[bh]at e;split at e
  .rename_i r g;cases e;exact .qT (d g) b
  .exact f e
 |vS k=>
  intro e;simp only[bh]at e;split at e<;>cases e;exact .rU
 |_=>intro e;simp only[bh]at e;cases e
def ad8{id:Nat}:∀{k a:List ś},rY P GL eZ k->cC id k=À a->rY P GL eZ a:=by
 intro k
 induction k with
 |nil=>intro a _ e;simp[cC]at e
 |cons i k c=>
  intro a h e;have b:=λj d=>h j<|ò _ d;cases i with
  |inBlock f=>
   simp only[cC]at e;split at e
   .cases e;exact b
   .exact c b e
  |_=>simp only[cC]at e;exact c b e
def ad9:∀{k c:List ś},rY P GL eZ k->cD i k=À c->rY P GL eZ c:=by
 intro k
 induction k with
 |nil=>intro c _ e;simp[cD]at e
 |cons a k f=>
  intro c h e;have d:=λj b=>h j<|ò _ b;cases a with
  |inScope m=>
   simp only[cD]at e;have g:kE P GL eZ m:=by cases h _ (î ..)with|uU h=>exact h
   split at e
   .rename_i r n;cases e;intro j b;rcases œ.1 b with rfl|b
    .exact .qV (ad7 g n)
    .rcases œ.1 b with rfl|b
     .exact .uU g
     .exact d j b
   .exact f d e
  |_=>simp only[cD]at e;exact f d e
def nJ{i:ś}(h:rY P GL eZ (i::L)):rY P GL eZ L:=λj a=>h j<|ò _ a
def oy{i:ś}(b:Ab P GL eZ i)(h:rY P GL eZ L):rY P GL eZ (i::L):=λj a=>by
 rcases œ.1 a with rfl|a
 .exact b
 .exact h j a
def xS{c:aj}{k:List ś}(h:rY P GL eZ (Đ c::k)):kE P GL eZ c:=by cases h _ (î ..)with|qV h=>exact h
def oW{ops:Array au}{k:List ś}(h:rY P GL eZ (á ops jJ::k)):∀o∈ops,mE P GL eZ o:=by cases h _ (î ..)with|we _ h=>exact h
def LS.ok(i:oV P GL eZ)(k:∀o a u f l w,mE P GL eZ o->(ì (å a) o).run P u=ĥ (ũ f l) w->eZ f){s g:St}(h:LS P s u g w)(ok:lq P GL eZ s):lq P GL eZ g:=by
 let⟨c,d⟩:=ok;cases h with
 |oR=>exact⟨c,d⟩
 |uT=>exact⟨c,d⟩
 |rU=>exact⟨nJ c,d⟩
 |vS=>exact⟨nJ c,d⟩
 |xR=>exact⟨nJ c,d⟩
 |uU=>exact⟨nJ c,d⟩
 |qT=>
  cases xS c with
  |qT e j=>exact⟨oy (.qV e)<|oy (.qV j)<|nJ c,d⟩
 |@s7 _ _ _ _ _ _ _ _ b _=>
  cases xS c with
  |s7 _ e j=>exact⟨oy (.qV (by cases b<;>simp[e,j]))<|nJ c,d⟩
 |qU=>
  cases xS c with
  |qU _ h=>exact⟨oy (.qV h)<|oy (.xR _)<|nJ c,d⟩
 |vT=>
  cases xS c with
  |vT h=>exact⟨oy (.qV h)<|oy (.vU h)<|nJ c,d⟩
 |vU=>
  cases c _ (î ..)with
  |vU h=>exact⟨oy (.qV h) c,d⟩
 |vV=>
  cases xS c with
  |vV h=>exact⟨oy (.qV h)<|oy (.uU h)<|nJ c,d⟩
 |vW h=>exact⟨ad8 (nJ c) h,d⟩
 |vY h=>exact⟨ad9 (nJ c) h,d⟩
 |s8=>
  cases xS c with
  |s8 _ _ h=>exact⟨oy (.we _ h)<|nJ c,d⟩
 |z8=>
  cases xS c with
  |s8 _ _ h=>exact⟨oy (.we _ h)<|nJ c,d⟩
 |Fe=>exact⟨nJ c,d⟩
 |Co=>exact⟨oy (.we _ (oW c))<|nJ c,d⟩
 |nI=>exact⟨oy (.we _ (oW c))<|nJ c,d⟩
 |Aa=>exact⟨oy (.we _ (oW c))<|nJ c,d⟩
 |rV m _ n p q=>
  refine⟨λj r=> ?_,λx e=> ?_⟩
  .have:=ū.1 r;rw[this];exact .qV (i _ (k _ _ _ _ _ _ (oW c _<|Û m) n) _ _ p q)
  .rcases œ.1 e with rfl|e
   .exact c
   .exact d x e
 |Cp=>exact⟨oy (.we _ (oW c))<|nJ c,d⟩
 |vZ=>
  have j:=d _<|î ..;exact⟨oy (.we _ (oW j))<|nJ j,λx e=>d x<|ò _ e⟩
end
structure IF(Y:fq)(x y:FuncId×Array Value×List ś):Prop where
 f:x.1=y.1
 t:fQ Y x.2.1 y.2.1
 k:x.2.2=y.2.2
inductive Cq(Y:fq):List (FuncId×Array Value×List ś)->List (FuncId×Array Value×List ś)->Prop
 |oR:Cq Y [] []
 |vN {x y:FuncId×Array Value×List ś} {L L':List (FuncId×Array Value×List ś)} (h:IF Y x y) (hs:Cq Y L L'):Cq Y (x::L) (y::L')
structure IG(Y:fq)(s s':St):Prop where
 f:s.f=s'.f
 t:fQ Y s.t s'.t
 k:s.k=s'.k
 uT:s.C=s'.C
 L:Cq Y s.L s'.L
def IF.fN{Y a:fq}(h:Y.r a){x y:FuncId×Array Value×List ś}(r:IF Y x y):IF a x y:=⟨r.f,r.t.I h,r.k⟩
def IH{Y b:fq}(h:Y.r b){L c:List (FuncId×Array Value×List ś)}(r:Cq Y L c):Cq b L c:=by
 induction r with
 |oR=>exact .oR
 |vN a _ d=>exact .vN (a.fN h) d
section
variable{Y:fq}{j:Nat->Prop}{p:à->Prop}
def aea(a:∀g,X g->Y g g)(h:mh X qQ):UB Y qQ:=by
 cases h with
 |Vz t=>trivial
 |VA h=>exact h.jA Y
 |VB h=>exact a _ h
 |VC f=>trivial
def wh(b:∀g,X g->Y g g)(h:fQ Y d q)(c:mh X qQ):fj Y (å ⟨d,[]⟩ qQ) (å ⟨q,[]⟩ qQ):= ade (a:=⟨d,[]⟩) (a':=⟨q,[]⟩) h<|aea b c
def oT.r{b:Array Â}(h:fQ Y q b)(d:Option Tmp)(c:fj Y v x):fQ Y (oT q d v) (oT b d x):= adg (a:=⟨q,[]⟩) (a':=⟨b,[]⟩) h d c
def VF(n:Nat):fQ Y (ĺ n ľ) (ĺ n ľ):=⟨U,λi a b=>by simp only[Array.getElem_replicate];exact E6 Y⟩
def aeb(B:j4 P xX o.op)(i:(ì xX o).run P u=ĥ (ũ F d) W):∃q l,o.op=Ω {callee:=cg<|aN F,args:=q,argTypes:=l}:=by
 have n:∀{m:ē Â} {x:Ο} {k p:Æ},(m>>=λv=>pure (ï v):ē Ο).run P k=ĥ x p->∃v,x=ï v:=by
  intro m x k p e;rw[Ä]at e;cases j:m.run P k with
  |ok a w=>rw[j]at e;cases e;exact⟨a,U⟩
  |halt z w=>rw[j]at e;cases e
 have C:∀{m:ē Unit} {x:Ο} {k p:Æ},(m>>=λ_=>pure aG:ē Ο).run P k=ĥ x p->x=aG:=by
  intro m x k p e;rw[Ä]at e;cases j:m.run P k with
  |ok a w=>rw[j]at e;cases e;rfl
  |halt z w=>rw[j]at e;cases e
 let⟨E,s,G,H,I,guard⟩:=o;simp only at B|-;unfold ì at i;simp only[]at i;cases B with
 |zW x=>cases i
 |E1 x=>cases i
 |vO c a b=>
  rw[Ä]at i;cases j:(bV<|xX c).run P u with
  |ok a w=>rw[j]at i;cases i
  |halt z w=>rw[j]at i;cases i
 |jb t a x=>exact absurd (C i) fp
 |E2 x=>
  simp only[]at i;split at i;all_goals first
   |(cases i;done)
   |exact absurd i<|qP _ _ _ _
   |(
    split at i;all_goals first
     |(cases i;done)
     |exact absurd i<|qP _ _ _ _
     |(
      rw[Ä,ă]at i;simp only[È]at i;rw[Ä]at i;revert i;generalize ã P (aQ _ _ _ _) u=z;intro i;cases z with
      |halt z w=>cases i
      |ok a w=>
       simp only[È]at i;split at i
       .rw[Ä]at i;cases i
       .cases i))
 |E3 x l=>simp only[ù,č,Ē,pure_bind,Ø,â,ä]at i;let⟨v,e⟩:=n i;cases e
 |E4 x l=>simp only[ù,č,Ē,pure_bind,Ø,â,ä]at i;let⟨v,e⟩:=n i;cases e
 |E5 x y l=>simp only[ù,č,Ē,pure_bind,Ø,â,ä]at i;let⟨v,e⟩:=n i;cases e
 |sX x y b c h=>simp only[ù,č,Ē,pure_bind,Ø,â,ä]at i;let⟨v,e⟩:=n i;cases e
 |jF g q l b h=>
  let⟨J,c,r,D⟩:=h;simp only[ù,b,İ,č,pure_bind,Ď,ď,ĵ]at i;rw[Ä,ă]at i;simp only[È,c,r,D,Å,if_false]at i;cases i;exact⟨q,l,U⟩
 |Cm s t x y r h=>
  rw[Ä]at i;cases j:ã P (ŷ s t x y (xX x) (xX y)>>=λ_=>Ũ s t (xX x)<|xX y) u with
  |ok a w=>rw[j]at i;cases i
  |halt z w=>rw[j]at i;cases i
 |_=>let⟨v,e⟩:=n i;cases e
theorem VG(j:Func)(h:fQ Y d q):fF P fj Y (Ī j d) (Ī j q):=by
 have k:∀(f:fq),Y.r f->∀n,fj f (d.getD n ľ) (q.getD n ľ):=by intro f a n;simp only[ĩ];rcases(h.I a).S n with⟨b,e⟩|⟨v,u,b,e,m⟩;all_goals grind [E6]
 unfold Ī;refine fE (V:=fQ) ?_ ?_
 .rw[Ĕ,Ĕ];have w:∀(l:List ResultVar) (c:fq),Y.r c->fF P (λf (a o:List Â)=>fQ f a.toArray o.toArray) c (l.mapM fun|ResultVar.tmp n=>pure (d.getD n ľ)|ResultVar.cell a e=>do ae e (<-bW (d.getD a ľ))) (l.mapM fun|ResultVar.tmp n=>pure (q.getD n ľ)|ResultVar.cell a e=>do ae e (<-bW (q.getD a ľ))):=by
   intro l
   induction l with
   |nil=>intro c _;simp only[cR];exact .fC (fQ.N _)
   |cons r l x=>
    intro c g;simp only[ν];refine fE (V:=fj) ?_ ?_
    .cases r with
     |tmp n=>exact .fC (k c g n)
     |cell a e=>
      apply fE (Un<|k c g a);exact λp b s _ i=>Uj i e
    .intro p v u e m;apply fE (x p<|fq.I g e);intro z s i y b;refine .fC ?_;have:=(fQ.M<|m.fN y).sX b;simpa using this
  exact fF.mg (w _ Y<|fq.M _) λf a o _ e=> .fC e
 .intro c s i _ b;refine .fC ?_;by_cases e:s.size=1
  .have a:i.size=1:=by rwa[<-b.r]
   rw[dif_pos e,dif_pos a];exact b.C 0 _ _
  .have a:¬i.size=1:=by rwa[<-b.r]
   rw[dif_neg e,dif_neg a];exact .nF b.r b.C
end
section
variable{Y:fq}{d:Nat->Prop}{l:à->Prop}
def iW(P:Õ)(Y:fq)(d:Nat->Prop)(main:Bool)(cs:List Ę)(h:St)(u w:Æ)(k:St)(c:Æ):Prop:=
 ∃(a:fq) (f:St) (b:Æ) (g:Array ý),Ù P main (h.r cs) w=aR (f.r cs) b g/\IG a k f/\Y.r a/\(∀i j,a i j->Y i j\/(u.heap.size<=i/\w.heap.size<=j))/\jh a d c b/\nG Y d w b/\(∀e∈g,zR a d e)/\u.heap.size<=c.heap.size
def iW.r{main:Bool}{cs:List Ę}{a b s1':St}(c:jh Y d u w)(h:Ù P main (a.r cs) w=aR (s1'.r cs) w #[])(f:IG Y b s1'):iW P Y d main cs a u w b u:= ⟨Y,s1',w,#[],h,f,fq.M _,λ_ _ h=>Ç h,c,nG.fT _ _ w,λe g=>absurd g fp,ß _⟩
def IJ{α:Type}{m:ē α}{x:α}(h:m.runT P w #[]=(ĥ x u,#[]++V)):m.run P w=ĥ x u/\m.events P w #[]=V:=by simp_all
def Ff{main:Bool}{k:List ś}{c:Ę}{cs:List Ę}{es:Array ý}(a:P.funcs[F]?=À s)(b:(Ī s q).runT P w #[]=(ĥ v u,es)): Ù P main (G {fm F q k with mode:=.returning}<|c::cs) w=aR (G (c.finish v) cs) u (seen P F es):=by simp[G,Ù,dt,doReturn,fm,Frame.at,base,a,b,Ź,-ź]
def LS.mF(hz:nH P)(hb:Y.C=P.globals.size)(hG:∀g,X g->Y g g){s s1 s':St}(h:LS P s u s1 W)(hs:IG Y s s')(ok:lq P X l s)(n:jh Y d u w)(hl:∀j,d j->j<w.heap.size)(Q:Ck u W)(main:Bool)(cs:List Ę): iW P Y d main cs s' u w s1 W:=by
 let⟨f',r,k',ret',p⟩:=s';let⟨S,m,T,e3,q⟩:=hs;simp only at S T e3 m q;subst S T e3;cases h with
 |oR=>exact .r (s1':=⟨_,r,_,É,p⟩) n (by simp[St.r,fm,base,G,Ù,Ì,Frame.at]) ⟨U,m,U,U,q⟩
 |uT=>exact .r (s1':=⟨_,r,_,É,p⟩) n (by simp[St.r,fm,base,G,Ù,Ì,Frame.at]) ⟨U,m,U,U,q⟩
 |rU=>exact .r (s1':=⟨_,r,_,Ã,p⟩) n (by simp[St.r,fm,base,G,Ù,Ì,Frame.at]) ⟨U,m,U,U,q⟩
 |vS=>exact .r (s1':=⟨_,r,_,Ã,p⟩) n (by simp[St.r,fm,base,G,Ù,Ì,Frame.at]) ⟨U,m,U,U,q⟩
 |xR=>exact .r (s1':=⟨_,r,_,Ã,p⟩) n (by simp[St.r,fm,base,G,Ù,Ì,Frame.at]) ⟨U,m,U,U,q⟩
 |uU=>exact .r (s1':=⟨_,r,_,Ã,p⟩) n (by simp[St.r,fm,base,G,Ù,Ì,Frame.at]) ⟨U,m,U,U,q⟩
 |qT=>exact .r (s1':=⟨_,r,_,Ã,p⟩) n (by simp[St.r,fm,base,G,Ù,Ì,Frame.at]) ⟨U,m,U,U,q⟩
 |@s7 _ _ _ _ _ c _ _ b hc'=>
  have V:=wh hG m (by cases xS ok.fZ with|s7 Q _ _=>exact Q);rw[hc']at V;have e:å ⟨r,[]⟩ c=Ľ b:=by generalize å ⟨r,[]⟩ c=v' at V;cases V;rfl
  exact .r (s1':=⟨_,r,_,Ã,p⟩) n (cE e) ⟨U,m,U,U,q⟩
 |qU=>exact .r (s1':=⟨_,r,_,Ã,p⟩) n (by simp[St.r,fm,base,G,Ù,Ì,Frame.at]) ⟨U,m,U,U,q⟩
 |vT=>exact .r (s1':=⟨_,r,_,Ã,p⟩) n (by simp[St.r,fm,base,G,Ù,Ì,Frame.at]) ⟨U,m,U,U,q⟩
 |vU=>exact .r (s1':=⟨_,r,_,Ã,p⟩) n (by simp[St.r,fm,base,G,Ù,Ì,Frame.at]) ⟨U,m,U,U,q⟩
 |vV=>exact .r (s1':=⟨_,r,_,Ã,p⟩) n (by simp[St.r,fm,base,G,Ù,Ì,Frame.at]) ⟨U,m,U,U,q⟩
 |vW B=>exact .r (s1':=⟨_,r,_,Ã,p⟩) n (by simp[St.r,fm,base,G,Ù,Ì,Frame.at,B]) ⟨U,m,U,U,q⟩
 |vY B=>exact .r (s1':=⟨_,r,_,Ã,p⟩) n (by simp[St.r,fm,base,G,Ù,Ì,Frame.at,B]) ⟨U,m,U,U,q⟩
 |s8=>exact .r (s1':=⟨_,r,_,Ã,p⟩) n (by simp[St.r,fm,base,G,Ù,Ì,Frame.at]) ⟨U,m,U,U,q⟩
 |@z8 f t k L _ id ops=>
  refine⟨Y,⟨f,r,á ops (bL (P.follows .mixedOrders) ops<|w.tape w.drawn<|.order f id)::k,Ã,p⟩,{w with drawn:=w.drawn+1},#[],Ż,⟨U,m,?_,U,q⟩,fq.M _,λ_ _ h=>Ç h,⟨n.S,by simp[n.N],n.C,n.I,n.M,n.r⟩,⟨ß _,U,U,U,λ_ _ _=>rfl,λ_ _ _=>rfl⟩,λe B=>absurd B fp,ß _⟩;simp only[n.S,n.N]
 |Fe=>exact .r (s1':=⟨_,r,_,Ã,p⟩) n (by simp[St.r,fm,base,G,Ù,Ì,Frame.at]) ⟨U,m,U,U,q⟩
 |@Co f t k L _ ops i rest o ho hw=>
  rw[It _ _ m]at hw;have:=υ (P:=P) (main:=main) (b:=base f) (a:=⟨r,[]⟩) (k:=k) (cs:=p.map (λx=>fm x.1 x.2.1 x.2.2)++cs) (w:=w) (rest:=rest) ho hw;rw[rX]at this;exact .r (s1':=⟨f,oT r o.dst ľ,á ops rest::k,Ã,p⟩) n this ⟨U,oT.r m _<|E6 Y,U,U,q⟩
 |@nI f t k L _ ops i rest o v _ ho hw hr=>
  rw[It _ _ m]at hw;let⟨C,x',E,es,z,F,D,H,I,J,K,M⟩:=(oW ok.fZ _<|Û ho).mF hz hb hG m n hl hr Q;let⟨N,O⟩:=IJ D;cases H with
  |nI V=>
   have:=bz (main:=main) (b:=base f) (k:=k) (cs:=p.map (λx=>fm x.1 x.2.1 x.2.2)++cs) (rest:=rest) ho hw (by simp[base]) N;rw[rX]at this;rename_i v';exact⟨C,⟨f,oT r o.dst v',á ops rest::k,Ã,p⟩,E,_,this,⟨U,oT.r (m.I z) _ V,U,U,IH z q⟩,z,F,I,J,λe B=>K e (by have:=cF B;rwa[O]at this),M⟩
 |@Aa f t k L _ ops i rest o _ ho hw hr=>
  rw[It _ _ m]at hw;let⟨C,x',E,es,z,F,D,H,I,J,K,M⟩:=(oW ok.fZ _<|Û ho).mF hz hb hG m n hl hr Q;let⟨N,O⟩:=IJ D;cases H with
  |rU=>
   have:=cG (main:=main) (b:=base f) (k:=k) (cs:=p.map (λx=>fm x.1 x.2.1 x.2.2)++cs) (rest:=rest) ho hw (by simp[base]) N;rw[rX]at this;exact⟨C,⟨f,oT r o.dst ľ,á ops rest::k,Ã,p⟩,E,_,this,⟨U,oT.r (m.I z) _<|E6 C,U,U,IH z q⟩,z,F,I,J,λe B=>K e (by have:=cF B;rwa[O]at this),M⟩
 |@rV f t k L _ ops i rest o g args fn c _ ho hw hr hf IK=>
  rw[It _ _ m]at hw;let⟨C,x',E,es,z,F,D,H,I,J,K,M⟩:=(oW ok.fZ _<|Û ho).mF hz hb hG m n hl hr Q;let⟨N,O⟩:=IJ D;cases H with
  |rV _ pG=>
   have:=bA (main:=main) (b:=base f) (k:=k) (cs:=p.map (λx=>fm x.1 x.2.1 x.2.2)++cs) (rest:=rest) ho hw (by simp[base]) N;rw[cH _ hf IK]at this;rename_i VH;refine⟨C,⟨g,VH++ĺ (fn.ntmps-VH.size) ľ,[Đ c],Ã,(f,r,á ops (i::rest)::k)::p⟩,E,_,this,⟨U,?_,U,U,.vN ⟨U,m.I z,U⟩ (IH z q)⟩,z,F,I,J,λe B=>K e (by have:=cF B;rwa[O]at this),M⟩;rw[pG.r];exact pG.sX<|VF _
 |@Cp f t k L _ ops i rest ho=>exact .r (s1':=⟨f,r,á ops rest::k,Ã,p⟩) n (by simp[St.r,fm,base,G,Ù,Ì,Frame.at,ho,aS]) ⟨U,m,U,U,q⟩
 |@vZ f t k L _ g t2' ops i rest k3 v fn _ hf hr=>
  cases q with
  |vN hx q=>
   rename_i y VI;let⟨g',t2,k2⟩:=y;let⟨S,IL,T⟩:=hx;simp only at S T IL;subst S T;let⟨C,v',E,es,z,F,D,H,I,J,K,M⟩:=(VG fn m).gi n hl hr #[];let⟨N,O⟩:=IJ D;refine⟨C,⟨g,oT t2 ((ops[i]?).bind (·.dst)) v',á ops rest::k3,Ã,VI⟩,E,seen P f es,?_,⟨U,oT.r (IL.I z) _ H,U,U,IH z q⟩,z,F,I,J,λe B=>K e<|mem_seen B,M⟩;have Ac:=ε (base g) ⟨t2,[]⟩ ops i rest k3 v';rw[rX]at Ac;have mV:=Ff (main:=main) (k:=k) (c:=fm g t2<|á ops (i::rest)::k3) (cs:=VI.map (λx=>fm x.1 x.2.1 x.2.2)++cs) hf D;unfold fm at mV;rwa[Ac,Ď]at mV
end
inductive pH(P:Õ)(kT:Â->Æ->Prop):St->Æ->Prop
 |jG {f:à} {t:Array Â} {k:List ś} {u:Æ} {fn:Func} {v:Â} (hf:P.funcs[f]?=À fn) (hr:∀tp d,(Ī fn t).run P {u with tape:=tp,drawn:=d}=ĥ v {u with tape:=tp,drawn:=d}) (hp:kT v u):pH P kT ⟨f,t,k,É,[]⟩ u
 |jH {s:St} {u:Æ} (S:ψ->Nat->St) (U:ψ->Nat->Æ) (h:∀tp d,LS P s {u with tape:=tp,drawn:=d} (S tp d)<|U tp d) (hc:∀tp d,Ck u<|U tp d) (ih:∀tp d,pH P kT (S tp d)<|U tp d):pH P kT s u
structure xT(M:Nat->Prop)(w w₁:Æ):Prop where
 r:w.heap.size<=w₁.heap.size
 C:∀j,M j->w₁.heap[j]?=w.heap[j]?
def IN(O b:Nat->Prop)(e:ý):Prop:=
 (∃a:Ú,e.loc=û a/\e.sync=Ã/\(O a.block\/(b a.block/\e.write=Ã)))\/e.loc=ů da\/∃f,e.loc=ů (.extern f)
structure IP(Rd O O':Nat->Prop)(w w':Æ)(es:Array ý):Prop where
 r:w.heap.size<=w'.heap.size
 M:∀j,O j->O' j
 I:∀j,O' j->O j\/w.heap.size<=j
 fu:∀j,O' j->j<w'.heap.size
 jP:∀j,j<w.heap.size->¬O j->w'.heap[j]?=w.heap[j]?
 N:w'.os=w.os
 S:w'.output=w.output
 Y:w'.tape=w.tape
 C:∀e∈es,IN O' Rd e
inductive uV(P:Õ)(main:Bool)(Rd:Nat->Prop)(Stop:(Nat->Prop)->Ó->Æ->Prop):(Nat->Prop)->Ó->Æ->Prop
 |fB {O:Nat->Prop} {g:Ó} {w:Æ} (h:∀w₁,xT (λj=>O j\/Rd j) w w₁->Stop O g w₁):uV P main Rd Stop O g w
 |jH {O:Nat->Prop} {g:Ó} {w:Æ} (G':Æ->Ó) (W':Æ->Æ) (E':Æ->Array ý) (O':Æ->Nat->Prop) (iJ:g.status=Ð)
  (h:∀w₁,xT (λj=>O j\/Rd j) w w₁->Ù P main g w₁=aR (G' w₁) (W' w₁) (E' w₁))
  (hd:∀w₁,xT (λj=>O j\/Rd j) w w₁->IP Rd O (O' w₁) w₁ (W' w₁) (E' w₁))
  (ih:∀w₁,xT (λj=>O j\/Rd j) w w₁->uV P main Rd Stop (O' w₁) (G' w₁) (W' w₁)):uV P main Rd Stop O g w
instance:Nonempty fq:=⟨⟨λ_ _=>False,0⟩⟩
instance:Nonempty St:=⟨⟨0,#[],[],Ã,[]⟩⟩
instance:Nonempty (Goroutine×World×Array Event×(Nat->Prop)):=⟨(default,default,#[],λ_=>False)⟩
section
variable{Y:fq}{b Rd:Nat->Prop}{l:à->Prop}{main:Bool}{Stop:(Nat->Prop)->Ó->Æ->Prop}
def uV.mk(i:g.status=Ð) (h:∀a,xT (λj=>X j\/Rd j) w a->∃c b d e,Ù P main g a=aR c b d/\IP Rd X e a b d/\uV P main Rd Stop e c b):uV P main Rd Stop X g w:=by
 let p:=λ(a:Æ) (x:Goroutine×World×Array Event×(Nat->Prop))=>Ù P main g a=aR x.1 x.2.1 x.2.2.1/\IP Rd X x.2.2.2 a x.2.1 x.2.2.1/\uV P main Rd Stop x.2.2.2 x.1 x.2.1
 have f:∀a,xT (λj=>X j\/Rd j) w a->p a (Classical.epsilon<|p a):=λa r=>Classical.epsilon_spec (let⟨c,b,d,e,h⟩:=h a r;⟨(c,b,d,e),h⟩);exact .jH (λa=>(Classical.epsilon<|p a).1) (λa=>(Classical.epsilon<|p a).2.1) (λa=>(Classical.epsilon<|p a).2.2.1) (λa=>(Classical.epsilon<|p a).2.2.2) i (λa r=>(f a r).1) (λa r=>(f a r).2.1) λa r=>(f a r).2.2
def qW(Y:fq)(b:Nat->Prop)(u w:Æ):Prop:=jh Y b {u with tape:=w.tape,drawn:=w.drawn} w
def fl(Y:fq)(b:Nat->Prop)(j:Nat):Prop:=(∃i,Y i j)/\¬b j
theorem qW.jY{w₁:Æ}(h:qW Y b u w)(p:∀i j,Y i j->b j->Rd j)(r:xT (λj=>fl Y b j\/Rd j) w w₁):qW Y b u w₁:=by
 refine⟨U,U,h.C,h.I,õ h.M r.r,λi j a=> ?_⟩;let⟨c,d,e,f,g,k,l,m,n,o⟩:=h.r i j a;refine⟨c,d,e,f,g,k,?_,m,n,o⟩;rw[r.C j ?_]
 .exact l
 .by_cases s:b j
  .grind
  .exact Ç ⟨⟨i,a⟩,s⟩
def jh.to0(h:jh Y b u w):qW Y b u w:=⟨U,U,h.C,h.I,h.M,h.r⟩
def jh.uW(h:jh Y b u w)(tp:ψ)(d:Nat):qW Y b {u with tape:=tp,drawn:=d} w:=⟨U,U,h.C,h.I,h.M,h.r⟩
theorem aec{c:fq}(k:∀i j,c i j->b j->Rd j){e:ý}(h:zR c b e):IN (fl c b) Rd e:=by
 rcases h with⟨a,i,d,f,g,l⟩|h|h
 .by_cases s:b a.block
  .refine Ç ⟨a,d,g,Î ⟨k _ _ f s,?_⟩⟩;grind
  .exact Ç ⟨a,d,g,Ç ⟨⟨i,f⟩,s⟩⟩
 .exact Î<|Ç h
 .exact Î<|Î h
def VJ{c:fq}(f:Y.r c)(g:∀i j,c i j->Y i j\/(u.heap.size<=i/\w.heap.size<=j))(k:jh c b W jX)(d:nG Y b w jX)(l:∀e∈V,zR c b e)(m:∀i j,c i j->b j->Rd j): IP Rd (fl Y b) (fl c b) w jX V where
 r:=d.r;M j h:=⟨let⟨i,a⟩:=h.1;⟨i,f.1 _ _ a⟩,h.2⟩;I j h:=by
  let⟨⟨i,a⟩,s⟩:=h;rcases g i j a with x|x
  .exact Ç ⟨⟨i,x⟩,s⟩
  .exact Î x.2
 fu j h:=by let⟨⟨i,a⟩,_⟩:=h;let⟨_,_,_,_,_,_,x,_⟩:=k.r i j a;exact(Ë.1 x).1
 jP j hj hn:=by
  by_cases x:∃i,Y i j
  .by_cases s:b j
   .exact d.N j s hj
   .exact absurd ⟨x,s⟩ hn
  .exact d.C j hj λi a=>x ⟨i,a⟩
 N:=d.I;S:=d.M;Y:=d.S;C e he:=aec m<|l e he
def Fg(Y:fq)(b:Nat->Prop)(f:Â->Æ->Prop)(c:Ę)(h:List Ę)(O:Nat->Prop)(g:Ó)(w:Æ):Prop:=
 ∃(a:fq) (d:Æ) (v e:Â),Y.r a/\O=fl a b/\qW a b d w/\fj a v e/\f v d/\g=G (c.finish e) h
def pH.Nb(hz:nH P)(hP:oV P X l){s:St}(h:pH P vQ s u):∀{Y Fh:fq} {s':St} {w:Æ},Fh.r Y->Y.C=P.globals.size->(∀g,X g->Y g g)->IG Y s s'->lq P X l s->qW Y b u w->(∀j,b j->j<w.heap.size)->(∀i j,Y i j->b j->Rd j)->∀(c:Ę) (cs:List Ę),uV P main Rd (Fg Fh b vQ c cs) (fl Y b) (s'.r<|c::cs) w:=by
 have hE:∀o a u f F G,mE P X l o->(ì (å a) o).run P u=ĥ (ũ f F) G->l f:=by exact λo a u f F G d H=>d.C a u f F G H
 induction h with
 |@jG f t k u fn v hf H hp=>
  intro Y Fh s' w I J K L M N O n c cs;let⟨f',t',k',ret',L'⟩:=s';let⟨V,W,e2,e3,hL⟩:=L;simp only at V e2 e3 W hL;subst V e2 e3;cases hL;refine .mk rfl λp r=> ?_;have d:=λj s=>Ô (O j s) r.r;let⟨z,v',w',es,B,C,m,D,q,E,Q,h8⟩:=(VG fn W).gi (N.jY n r) d (H _ _) #[];have y:=λi j T s=>(C i j T).elim (λx=>n i j x s) λx=>absurd (d j s) Z;refine⟨_,w',_,fl z b,Ff hf m,VJ B C q E (λe he=>Q e (by have:=mem_seen he;simpa using this)) y,.fB λwi e=>⟨z,u,v,v',fq.I I B,rfl,qW.jY (q.uW _ _) y e,D,hp,rfl⟩⟩
 |@jH s u S U h hc _ ih=>
  intro Y Fh s' w I J K L M N O n c cs;refine .mk rfl λp r=> ?_;have d:=λj s=>Ô (O j s) r.r;let⟨z,H,e,es,B,C,m,D,q,E,Q,h8⟩:=(h p.tape p.drawn).mF hz J K L M (N.jY n r) d (hc p.tape p.drawn) main<|c::cs;have y:=λi j T s=>(D i j T).elim (λx=>n i j x s) λx=>absurd (d j s) Z;refine⟨_,e,es,fl z b,B,VJ m D q E Q y,ih _ _ (fq.I I m) (m.2.2.trans J) (λg x=>m.1 _ _<|K g x) C ((h _ _).ok hP hE M) q.to0 (λj s=>Ô (d j s) E.r) y c cs⟩
end
def pI:Ę:={(default:Ę)with fn:=0,todo:=[Đ<|dr ""],defers:=[{target:=.nil,args:=#[]}],mode:=.run,kind:=.normal}
def St.I(s:St):Ę:=if s.C then{fm s.f s.t s.k with mode:=.returning}else fm s.f s.t s.k
def fu(L:List (FuncId×Array Value×List ś)):List Ę:=L.map (λx=>fm x.1 x.2.1 x.2.2)++[pI]
def LM(s:St)(u:Æ):bQ:=aT s.I (fu s.L) u
section
variable{GL:Nat->Prop}{eZ:à->Prop}{Q:Â->Æ->Prop}
def Cr{cs:List Ę}{a:Ę}{es:Array ý}(h:Ù P É (G f cs) w=aR (G a qX) u es):dP P (aT f cs w)=ň (aT a qX u):= step_lone_go<|by show(Ù P É (G f cs) w).bare=_;rw[h];rfl
def IQ{fr:Ę}{cs:List Ę}{o:Outcome}{es:Array ý}(h:Ù P É (G fr cs) w=eS o u es):dP P (aT fr cs w)=.ended o u:= step_lone_ended<|by show(Ù P É (G fr cs) w).bare=_;rw[h];rfl
def mG(P:Õ)(Q:Â->Æ->Prop)(n:Nat)(m:bQ):Prop:=∃b v a,du P n m=ň (aT b [pI] a)/\b.leaving P a (.returned v)/\Q v a
def mG.r{m a:bQ}(h:mG P Q (n+1) m)(b:dP P m=ň a):mG P Q n a:=by let⟨c,v,d,e,f⟩:=h;exact⟨c,v,d,by simpa only[du,b]using e,f⟩
def mG.M{m:bQ}{o:Outcome}(h:mG P Q (n+1) m)(b:dP P m=.ended o w):False:=by let⟨c,v,d,a,e⟩:=h;simp only[du,b]at a;cases a
theorem VK{fr:Ę}{cs:List Ę}(h:aT fr cs w=aT f qX u):fr=f/\cs=qX/\w=u:=by simp only[aT,Machine.mk.injEq,Array.mk.injEq,List.cons.injEq,Goroutine.mk.injEq]at h;grind
theorem mG.C{cs:List Ę}(h:mG P Q 0 (aT f cs w)):cs=[pI]/\∃v,f.leaving P w (.returned v)/\Q v w:=by let⟨b,v,c,a,d,e⟩:=h;simp only[du,Stepped.next.injEq]at a;grind [VK]
def aed(h:mG P Q n (aT pI [] u)):False:=by
 cases n with
 |zero=>let⟨a,_⟩:=h.C;cases a
 |succ n=>exact h.M<|IQ (es:=#[])<|by simp[G,Ù,Ì,pI];exact⟨U,U⟩
def aee{a:List ec}(h:mG P Q n (aT (pI.raise a) [] u)):False:=by
 cases n with
 |zero=>let⟨b,_⟩:=h.C;cases b
 |succ n=>exact h.M<|IQ (es:=#[])<|by simp[G,Ù,pI,Ŗ,dt,callDeferred];exact⟨U,U⟩
def aef(b:List ec):∀(L:List (FuncId×Array Value×List ś)) (f:à) (t:Array Â) (k:List ś) (u:Æ) (n:Nat),(∃a,P.funcs[f]?=À a)->(∀x∈L,∃a,P.funcs[x.1]?=À a)->¬mG P Q n (aT ((fm f t k).raise b) (fu L) u):=by
 intro L
 induction L with
 |nil=>
  intro f t k u n ⟨a,c⟩ _ h;cases n with
  |zero=>let⟨_,v,y,_⟩:=h.C;exact absurd y.1<|by simp[Ŗ,fm,Frame.at]
  |succ n=>
   have d:dP P (aT ((fm f t k).raise b) (fu []) u)=ň (aT (pI.raise b) [] u):=Cr (es:=#[]) (by simp[G,Ù,fm,base,Frame.at,Ŗ,dt,cU,c,fu]);exact aee<|h.r d
 |cons x L e=>
  intro f t k u n ⟨a,c⟩ d h;cases n with
  |zero=>let⟨_,v,y,_⟩:=h.C;exact absurd y.1<|by simp[Ŗ,fm,Frame.at]
  |succ n=>
   exact e x.1 x.2.1 x.2.2 u n (d x<|î ..) (λy v=>d y<|ò _ v)<|h.r<|Cr (es:=#[])<|by simp[G,Ù,fm,base,Frame.at,Ŗ,dt,cU,c,fu]
structure Ok(P:Õ)(GL:Nat->Prop)(eZ:à->Prop)(s:St):Prop where
 r:lq P GL eZ s
 I:eZ s.f
 C:∀x∈s.L,eZ x.1/\∃ops i rest k,x.2.2=á ops (i::rest)::k
def s9(P:Õ)(eZ:à->Prop):Prop:=∀f,eZ f->∃a c,P.funcs[f]?=À a/\a.body=À c
theorem Nc{t:Array Â}:fD P (Ī s t):=by unfold Ī;grind [gk,U1,gD,US,UO]
def aeg(k:j4 P xX o.op){n:Ο}(d:(ì xX o).run P u=ĥ n W):(∃v,n=ï v)\/n=aG\/∃f c,n=ũ f c:=by
 have i:∀{m:ē Â} {x:Ο} {j l:Æ},(m>>=λv=>pure (ï v):ē Ο).run P j=ĥ x l->∃v,x=ï v:=by
  intro m x j l e;rw[Ä]at e;cases g:m.run P j with
  |ok a w=>rw[g]at e;cases e;exact⟨a,U⟩
  |halt z w=>rw[g]at e;cases e
 let⟨p,e,q,s,B,guard⟩:=o;simp only at k;unfold ì at d;simp only[]at d;cases k with
 |zW x=>cases d;exact Ç ⟨_,U⟩
 |E1 x=>cases d;exact Ç ⟨_,U⟩
 |vO c a b=>
  rw[Ä]at d;cases g:(bV<|xX c).run P u with
  |ok a w=>rw[g]at d;cases d;exact Ç ⟨_,U⟩
  |halt z w=>rw[g]at d;cases d
 |jb t a x=>
  rw[Ä]at d;cases g:(ĳ t (xX a)<|xX x).run P u with
  |ok a w=>rw[g]at d;cases d;exact Î<|Ç U
  |halt z w=>rw[g]at d;cases d
 |E2 x=>
  simp only[]at d;split at d;all_goals first
   |(cases d;exact Ç ⟨_,U⟩)
   |exact absurd d<|qP _ _ _ _
   |(
    split at d;all_goals first
     |(cases d;exact Ç ⟨_,U⟩)
     |exact absurd d<|qP _ _ _ _
     |(
      rw[Ä,ă]at d;simp only[È]at d;rw[Ä]at d;revert d;generalize ã P (aQ _ _ _ _) u=z;intro d;cases z with
      |halt z w=>cases d
      |ok a w=>
       simp only[È]at d;split at d
       .rw[Ä]at d;cases d
       .cases d;exact Ç ⟨_,U⟩))
 |E3 x a=>simp only[ù,č,Ē,pure_bind,Ø,â,ä]at d;exact Ç<|i d
 |E4 x a=>simp only[ù,č,Ē,pure_bind,Ø,â,ä]at d;exact Ç<|i d
 |E5 x y a=>simp only[ù,č,Ē,pure_bind,Ø,â,ä]at d;exact Ç<|i d
 |sX x y b g h=>simp only[ù,č,Ē,pure_bind,Ø,â,ä]at d;exact Ç<|i d
 |jF g C a b h=>
  let⟨D,r,w,z⟩:=h;simp only[ù,b,İ,č,pure_bind,Ď,ď,ĵ]at d;rw[Ä,ă]at d;simp only[È,r,w,z,Å,if_false]at d;cases d;exact Î<|Î ⟨_,_,U⟩
 |Cm e t x y r h=>exact Ç<|i d
 |_=>exact Ç<|i d
def mG.I(_hP:oV P GL eZ)(hF:s9 P eZ){n:Nat}{s:St}{u:Æ}(ok:Ok P GL eZ s)(hu:qk u)(h:mG P Q n (LM s u)): (n=0/\s.C=É/\s.L=[]/\∃fn v,P.funcs[s.f]?=À fn/\(Ī fn s.t).run P u=ĥ v u/\Q v u)\/∃m s' u',n=m+1/\LS P s u s' u'/\mG P Q m (LM s' u'):=by
 let⟨f,t,k,ret,L⟩:=s;let⟨⟨top,lw⟩,fs,ls⟩:=ok;simp only at top lw fs ls;let⟨fn,c,hfn,hbody⟩:=hF f fs;cases n with
 |zero=>
  let⟨h1,v,h2,h3⟩:=h.C;have hL:L=[]:=by simp only[fu]at h1;simp_all
  subst hL;let⟨m1,_,_,fn',m4,m5⟩:=h2;have aeh:ret=É:=by
   cases ret with
   |true=>rfl
   |false=>simp[St.I,fm,Frame.at]at m1
  subst aeh;exact Ç ⟨U,U,U,fn',v,m4,m5,h3⟩
 |succ n=>
  have go:∀{s':St} {u':Æ},LS P ⟨f,t,k,ret,L⟩ u s' u'->(∃es,Ù P É ((⟨f,t,k,ret,L⟩:St).r [pI]) u=aR (s'.r [pI]) u' es)->(n+1=0/\ret=É/\L=[]/\∃fn v,P.funcs[f]?=À fn/\(Ī fn t).run P u=ĥ v u/\Q v u)\/∃m s' u',n+1=m+1/\LS P ⟨f,t,k,ret,L⟩ u s' u'/\mG P Q m (LM s' u'):=by intro s' u' hl ⟨es,he⟩;exact Î ⟨n,s',u',U,hl,h.r<|Cr he⟩
  have bad:(∃o w es,Ù P É ((⟨f,t,k,ret,L⟩:St).r [pI]) u=eS o w es)->False:=λ⟨_,_,_,he⟩=>h.M<|IQ he;cases ret with
  |true=>
   cases hr:(Ī fn t).runT P u #[]with
   |mk r es=>
    cases r with
    |halt z w=>
     refine absurd ?_ id;cases z<;>exact bad ⟨_,_,_,by simp[St.r,fm,base,G,Ù,dt,Frame.at,hfn,hr,Ź,-ź];exact⟨U,U,U⟩⟩
    |ok v u'=>
     cases L with
     |nil=>
      exact absurd (h.r<|Cr<|Ff hfn hr) aed
     |cons x L=>
      let⟨g,t',k'⟩:=x;let⟨_,ops,i,rest,k2,e⟩:=ls _<|î ..;simp only at e;subst e;refine go (.vZ hfn (by rw[<-Ρ P (Ī fn t) u #[],hr])) ⟨seen P f es,?_⟩;have mV:=Ff (main:=É) (k:=k) (c:=fm g t'<|á ops (i::rest)::k2) (cs:=fu L) hfn hr;have Ac:=ε (base g) ⟨t',[]⟩ ops i rest k2 v;rw[rX]at Ac;unfold fm at mV;rwa[Ac]at mV
  |false=>
   cases k with
   |nil=>exact go .oR ⟨_,by simp[St.r,fm,base,G,Ù,Ì,Frame.at];rfl⟩
   |cons it k=>
    have ti:=top it<|î ..;cases ti with
    |xR id=>exact go .xR ⟨_,by simp[St.r,fm,base,G,Ù,Ì,Frame.at];rfl⟩
    |uU _=>exact go .uU ⟨_,by simp[St.r,fm,base,G,Ù,Ì,Frame.at];rfl⟩
    |vU _=>exact go .vU ⟨_,by simp[St.r,fm,base,G,Ù,Ì,Frame.at];rfl⟩
    |qV hc=>
     cases hc with
     |uT=>exact go .uT ⟨_,by simp[St.r,fm,base,G,Ù,Ì,Frame.at];rfl⟩
     |rU=>exact go .rU ⟨_,by simp[St.r,fm,base,G,Ù,Ì,Frame.at];rfl⟩
     |vS l=>exact go .vS ⟨_,by simp[St.r,fm,base,G,Ù,Ì,Frame.at];rfl⟩
     |qT hx hy=>exact go .qT ⟨_,by simp[St.r,fm,base,G,Ù,Ì,Frame.at];rfl⟩
     |qU id _=>exact go .qU ⟨_,by simp[St.r,fm,base,G,Ù,Ì,Frame.at];rfl⟩
     |vT _=>exact go .vT ⟨_,by simp[St.r,fm,base,G,Ù,Ì,Frame.at];rfl⟩
     |vV _=>exact go .vV ⟨_,by simp[St.r,fm,base,G,Ù,Ì,Frame.at];rfl⟩
     |oU VE=>exact(bad ⟨_,_,_,by simp[St.r,fm,base,G,Ù,Ì,Frame.at];exact⟨U,U,U⟩⟩).elim
     |vW id=>
      cases he:cC id k with
      |none=>exact(bad ⟨_,_,_,by simp[St.r,fm,base,G,Ù,Ì,Frame.at,he];exact⟨U,U,U⟩⟩).elim
      |some k'=>exact go (.vW he) ⟨_,by simp[St.r,fm,base,G,Ù,Ì,Frame.at,he];rfl⟩
     |vY l=>
      cases he:cD l k with
      |none=>exact(bad ⟨_,_,_,by simp[St.r,fm,base,G,Ù,Ì,Frame.at,he];exact⟨U,U,U⟩⟩).elim
      |some k'=>exact go (.vY he) ⟨_,by simp[St.r,fm,base,G,Ù,Ì,Frame.at,he];rfl⟩
     |@s7 c x y _ _ _=>
      by_cases hb:∃b,å ⟨t,[]⟩ c=Ľ b
      .let⟨b,hb⟩:=hb;exact go (.s7 hb) ⟨_,cE hb⟩
      .refine(bad ⟨.stuck "cond: bool expected" ((fm f t<|Đ (bx c x y)::k).pos P),u,#[],?_⟩).elim;have UA:(fm f t<|Đ (bx c x y)::k).eval c=å ⟨t,[]⟩ c:=Frame.eval_at _ _ _ _;have hx:Ù P É (G (fm f t<|Đ (bx c x y)::k)<|fu L) u=(match(fm f t<|Đ (bx c x y)::k).eval c with
        |Ľ b=>aR (G (fm f t<|Đ (if b then x else y)::k)<|fu L) u
        |_=>eS (.stuck "cond: bool expected" ((fm f t (Đ (bx c x y)::k)).pos P)) u):=by
        simp only[G,Ù,Ì,fm,Frame.at];rfl
       refine hx.trans ?_;rw[UA];generalize å ⟨t,[]⟩ c=v at hb;cases v<;>first|exact absurd ⟨_,U⟩ hb|rfl
     |s8 id draw _=>
      cases draw with
      |false=>exact go .s8 ⟨_,by simp[St.r,fm,base,G,Ù,Ì,Frame.at];rfl⟩
      |true=>exact go .z8 ⟨_,Ż⟩
    |we is hO=>
     rename_i ops;cases is with
     |nil=>exact go .Fe ⟨_,by simp[St.r,fm,base,G,Ù,Ì,Frame.at];rfl⟩
     |cons i rest=>
      cases ho:ops[i]? with
      |none=>exact go (.Cp ho) ⟨_,by simp[St.r,fm,base,G,Ù,Ì,Frame.at,ho,aS];rfl⟩
      |some o=>
       cases hw:Ħ o (ł ops t)with
       |false=>
        have:=υ (P:=P) (main:=É) (b:=base f) (a:=⟨t,[]⟩) (k:=k) (cs:=fu L) (w:=u) (rest:=rest) ho hw;rw[rX]at this;exact go (.Co ho hw) ⟨_,this⟩
       |true=>
        have oo:=hO o<|Û ho;have Fi:=stepG_oper (P:=P) (main:=É) (b:=base f) (a:=⟨t,[]⟩) (k:=k) (cs:=fu L) (w:=u) (rest:=rest) ho hw;cases hr:(ì (å ⟨t,[]⟩) o).runT P u #[]with
        |mk r es=>
         have oQ:(ì (å ⟨t,[]⟩) o).run P u=r:=by rw[<-Ρ P _ u #[],hr]
         cases r with
         |halt z w=>
          have hz:=((oo.r ⟨t,[]⟩).1 u hu).2 z w oQ;cases z with
          |panic v=>
           have hs:dP P (LM ⟨f,t,á ops (i::rest)::k,Ã,L⟩ u)=ň (aT ((fm f t<|á ops (i::rest)::k).raise [{v,recovered:=Ã}]) (fu L) w):= Cr (es:=seen P f es) (Fi.trans<|by simp[bB,hr,G,Frame.at,fm,base,Ź,Ŗ,-ź]);exact absurd (h.r hs) (aef _ L f t _ w n ⟨fn,hfn⟩ λx hx=>let⟨fn',_,h1,_⟩:=hF x.1 (ls x hx).1;⟨fn',h1⟩)
          |stuck s=>exact(bad ⟨_,_,_,Fi.trans<|by simp[bB,hr,Frame.at,base,Ź,-ź];exact⟨U,U,U⟩⟩).elim
          |unsupported un=>
           cases un<;>first|(cases hz;done)|exact(bad ⟨_,_,_,Fi.trans<|by simp[bB,hr,Frame.at,base,Ź,-ź];exact⟨U,U,U⟩⟩).elim
          |_=>cases hz
         |ok nx u'=>
          rcases oo.I ⟨t,[]⟩ u nx u' oQ with⟨v,rfl⟩|rfl|⟨g,args,rfl⟩
          .have:=bz (main:=É) (b:=base f) (k:=k) (cs:=fu L) (rest:=rest) ho hw (by simp[base]) oQ;rw[rX]at this;exact go (.nI ho hw oQ) ⟨_,this⟩
          .have:=cG (main:=É) (b:=base f) (k:=k) (cs:=fu L) (rest:=rest) ho hw (by simp[base]) oQ;rw[rX]at this;exact go (.Aa ho hw oQ) ⟨_,this⟩
          .let⟨fn',c',h1,h2⟩:=hF g<|oo.C ⟨t,[]⟩ u g args u' oQ;have:=bA (main:=É) (b:=base f) (k:=k) (cs:=fu L) (rest:=rest) ho hw (by simp[base]) oQ;rw[cH _ h1 h2]at this;exact go (.rV ho hw oQ h1 h2) ⟨_,this⟩
end
def j5(u:Æ):Prop:=∀(i:Nat) (o:Obj),u.heap[i]?=À o->¬xP o
def j5.qk(h:j5 u):qk u:=λi _ _ a=>h i _ a trivial
def wj(a:Â->Æ->Prop):Prop:=∀v u T D,a v u->a v ((World.tp u T D))
section
variable{GL:Nat->Prop}{eZ:à->Prop}{kT:Â->Æ->Prop}
def LS.Nb{s s':St}(h:LS P s u s' W)(cs:List Ę):∃j,Ù P É (s.r cs) u=aR (s'.r cs) W j:=by
 cases h with
 |@s7 f t k L _ c x y b hc=>exact⟨_,cE hc⟩
 |vW e=>exact⟨_,by simp[St.r,fm,base,G,Ù,Ì,Frame.at,e];rfl⟩
 |vY e=>exact⟨_,by simp[St.r,fm,base,G,Ù,Ì,Frame.at,e];rfl⟩
 |@z8 f t k L _ id ops=>exact⟨_,Ż⟩
 |@Cp f t k L _ ops i rest ho=>exact⟨_,by simp[St.r,fm,base,G,Ù,Ì,Frame.at,ho,aS];rfl⟩
 |@Co f t k L _ ops i rest o ho hw=>
  have:=υ (P:=P) (main:=É) (b:=base f) (a:=⟨t,[]⟩) (k:=k) (cs:=L.map (λx=>fm x.1 x.2.1 x.2.2)++cs) (w:=u) (rest:=rest) ho hw;rw[rX]at this;exact⟨_,this⟩
 |@nI f t k L _ ops i rest o v _ ho hw hr=>
  have:=bz (main:=É) (b:=base f) (k:=k) (cs:=L.map (λx=>fm x.1 x.2.1 x.2.2)++cs) (rest:=rest) ho hw (by simp[base]) hr;rw[rX]at this;exact⟨_,this⟩
 |@Aa f t k L _ ops i rest o _ ho hw hr=>
  have:=cG (main:=É) (b:=base f) (k:=k) (cs:=L.map (λx=>fm x.1 x.2.1 x.2.2)++cs) (rest:=rest) ho hw (by simp[base]) hr;rw[rX]at this;exact⟨_,this⟩
 |@rV f t k L _ ops i rest o g args fn c _ ho hw hr hf hb=>
  have:=bA (main:=É) (b:=base f) (k:=k) (cs:=L.map (λx=>fm x.1 x.2.1 x.2.2)++cs) (rest:=rest) ho hw (by simp[base]) hr;rw[cH _ hf hb]at this;exact⟨_,this⟩
 |@vZ f t k L _ g t' ops i rest k' v fn _ hf hr=>
  cases l:(Ī fn t).runT P u #[]with
  |mk r j=>
   have e:r=ĥ v W:=by rw[<-hr,<-Ρ P (Ī fn t) u #[],l]
   subst e;have d:=Ff (main:=É) (k:=k) (c:=fm g t'<|á ops (i::rest)::k') (cs:=L.map (λx=>fm x.1 x.2.1 x.2.2)++cs) hf l;have x:=ε (base g) ⟨t',[]⟩ ops i rest k' v;rw[rX]at x;unfold fm at d;rw[x]at d;exact⟨_,d⟩
 |_=>exact⟨_,by simp[St.r,fm,base,G,Ù,Ì,Frame.at];rfl⟩
def LS.uX{s a:St}(h:LS P s u a w):dP P (LM s u)=ň (LM a w):= let⟨_,b⟩:=h.Nb [pI];Cr b
def LS.Nd(j:oV P GL eZ){s g:St}(h:LS P s u g w)(ok:Ok P GL eZ s):Ok P GL eZ g:=by
 have i:∀o a u f e w,mE P GL eZ o->(ì (å a) o).run P u=ĥ (ũ f e) w->eZ f:=by exact λo a u f e w c d=>c.C a u f e w d
 refine⟨h.ok j i ok.r,?_,?_⟩
 .cases h with
  |rV c _ d _ _=>exact i _ _ _ _ _ _ (oW ok.r.fZ _<|Û c) d
  |vZ=>exact(ok.C _<|î ..).1
  |_=>exact ok.I
 .cases h with
  |rV c _ d _ _=>
   intro x b;rcases œ.1 b with rfl|b
   .exact⟨ok.I,_,_,_,_,U⟩
   .exact ok.C x b
  |vZ=>exact λx b=>ok.C x<|ò _ b
  |_=>exact ok.C
def LS.kd{s c:St}{u b:Æ}(h:LS P s u c b)(ok:lq P GL eZ s)(a:qk u):Kd u b:=by
 cases h with
 |nI k _ i=>exact(((oW ok.fZ _<|Û k).r _).1 u a).1 _ _ i
 |Aa k _ i=>exact(((oW ok.fZ _<|Û k).r _).1 u a).1 _ _ i
 |rV k _ i _ _=>exact(((oW ok.fZ _<|Û k).r _).1 u a).1 _ _ i
 |vZ _ i=>exact(Nc.1 u a).1 _ _ i
 |z8=>exact⟨id,λi o h k=>⟨o,h,k⟩⟩
 |_=>exact Kd.fT u
def LS.aei{s o:St}{u p:Æ}{T:ψ}{D:Nat}(h:LS P s ((World.tp u T D)) o p)(ok:lq P GL eZ s):∃n v,p=(World.tp v T<|D+n)/\∀a b,uR T D a b n->LS P s ((World.tp u a b)) o ((World.tp v a<|b+n)):=by
 cases h with
 |nI c e g=>
  obtain⟨n,v,i⟩:=((oW ok.fZ _<|Û c).r ⟨_,[]⟩).2 u T D;obtain⟨j,l⟩:=i _ _ g;exact⟨n,v,j,λa b d=> .nI c e (l a b d)⟩
 |Aa c e g=>
  obtain⟨n,v,i⟩:=((oW ok.fZ _<|Û c).r ⟨_,[]⟩).2 u T D;obtain⟨j,l⟩:=i _ _ g;exact⟨n,v,j,λa b d=> .Aa c e (l a b d)⟩
 |rV c e g m q=>
  obtain⟨n,v,i⟩:=((oW ok.fZ _<|Û c).r ⟨_,[]⟩).2 u T D;obtain⟨j,l⟩:=i _ _ g;exact⟨n,v,j,λa b d=> .rV c e (l a b d) m q⟩
 |vZ m g=>
  obtain⟨n,v,i⟩:=(Nc).2 u T D;obtain⟨j,l⟩:=i _ _ g;exact⟨n,v,j,λa b d=> .vZ m (l a b d)⟩
 |@z8 f t k L _ id ops=>
  refine⟨1,u,U,λa b d=> ?_⟩;have g:=LS.z8 (P:=P) (f:=f) (t:=t) (k:=k) (L:=L) (u:=(World.tp u a b)) (id:=id) (ops:=ops);have i:((World.tp u a b)).tape ((World.tp u a b)).drawn=((World.tp u T D)).tape ((World.tp u T D)).drawn:=d.lG;rwa[i]at g
 |oR=>exact⟨0,u,U,λ_ _ _=> .oR⟩
 |uT=>exact⟨0,u,U,λ_ _ _=> .uT⟩
 |rU=>exact⟨0,u,U,λ_ _ _=> .rU⟩
 |vS=>exact⟨0,u,U,λ_ _ _=> .vS⟩
 |xR=>exact⟨0,u,U,λ_ _ _=> .xR⟩
 |uU=>exact⟨0,u,U,λ_ _ _=> .uU⟩
 |qT=>exact⟨0,u,U,λ_ _ _=> .qT⟩
 |s7 h=>exact⟨0,u,U,λ_ _ _=> .s7 h⟩
 |qU=>exact⟨0,u,U,λ_ _ _=> .qU⟩
 |vT=>exact⟨0,u,U,λ_ _ _=> .vT⟩
 |vU=>exact⟨0,u,U,λ_ _ _=> .vU⟩
 |vV=>exact⟨0,u,U,λ_ _ _=> .vV⟩
 |vW h=>exact⟨0,u,U,λ_ _ _=> .vW h⟩
 |vY h=>exact⟨0,u,U,λ_ _ _=> .vY h⟩
 |s8=>exact⟨0,u,U,λ_ _ _=> .s8⟩
 |Fe=>exact⟨0,u,U,λ_ _ _=> .Fe⟩
 |Co c e=>exact⟨0,u,U,λ_ _ _=> .Co c e⟩
 |Cp c=>exact⟨0,u,U,λ_ _ _=> .Cp c⟩
def mG.gR(c:oV P GL eZ)(hF:s9 P eZ)(g:∀v u,vQ v u->j5 u):∀(n:Nat) {s:St} {u:Æ},Ok P GL eZ s->qk u->mG P vQ n (LM s u)->j5 u:=by
 intro n
 induction n with
 |zero=>
  intro s u a b h;rcases h.I c hF a b with⟨_,_,_,_,v,_,_,d⟩|⟨m,_,_,e,_⟩
  .exact g v u d
  .cases e
 |succ n j=>
  intro s u a b h;rcases h.I c hF a b with⟨e,_⟩|⟨m,w,x,e,d,k⟩
  .cases e
  .cases e;have f:=d.kd a.r b;intro i o l p;let⟨q,r,t⟩:=f.C i o l p;exact j (d.Nd c a) (f.r b) k i q r t
def pH.aej(b:wj kT){s:St}(h:pH P kT s u)(T:ψ)(D:Nat):pH P kT s ((World.tp u T D)):=by
 cases h with
 |jG a S c=>exact .jG a S (b _ _ T D c)
 |jH S a h c d=>exact .jH S a h c d
def VL(m:wj kT)(o:∀v u,vQ v u->kT v u){s:St}(c:s.C=É)(b:s.L=[])(e:∃g v,P.funcs[s.f]?=À g/\(Ī g s.t).run P ((World.tp u xQ i))=ĥ v ((World.tp u xQ i))/\vQ v ((World.tp u xQ i))):pH P kT s u:=by
 obtain⟨f,t,k,z,L⟩:=s;simp only at c b;subst c b;obtain⟨g,v,p,q,r⟩:=e;refine .jG (v:=v) p (λh d=> ?_) ?_
 .obtain⟨n,w,c⟩:=(Nc).2 u xQ i;obtain⟨b,e⟩:=c _ _ q;have x:n=0:=by
   have:((World.tp u xQ i)).drawn=((World.tp w xQ<|i+n)).drawn:=by rw[<-b]
   simp only[World.tp]at this;omega
  subst x;have y:(World.tp w h d)=(World.tp u h d):=by
   have a:((World.tp u xQ i)).heap=((World.tp w xQ<|i+0)).heap:=by rw[<-b]
   have j:((World.tp u xQ i)).os=((World.tp w xQ<|i+0)).os:=by rw[<-b]
   have l:((World.tp u xQ i)).output=((World.tp w xQ<|i+0)).output:=by rw[<-b]
   simp only[World.tp]at a j l|-;rw[a,j,l]
  have:=e h d (λa j=>by omega);rwa[show d+0=d from rfl,y]at this
 .have:=m v _ u.tape u.drawn<|o v _ r;exact this
structure IT where
 s:St
 u:Æ
 D:Nat
 T:ψ
 n:Nat
structure IU(P:Õ)(GL:Nat->Prop)(eZ:à->Prop)(kT:Â->Æ->Prop)(s0:St)(u0:Æ)(x:IT):Prop where
 ok:Ok P GL eZ x.s
 aek:qk x.u
 ael:¬pH P kT x.s x.u
 oz:∀T',(∀i,i<x.D->T' i=x.T i)->du P x.n (LM s0<|(World.tp u0 T' 0))=ň (LM x.s<|(World.tp x.u T' x.D))
def VM{m:bQ}{s:St}{N:Nat}(a:du P n m=ň (LM s u))(e:mG P vQ N m):∃k,N=n+k/\mG P vQ k (LM s u):=by
 by_cases f:n<=N
 .obtain⟨k,rfl⟩:=Ε f;refine⟨k,U,?_⟩;let⟨g,v,c,b,d⟩:=e;rw[dI,a]at b;exact⟨g,v,c,b,d⟩
 .obtain⟨k,rfl⟩:=Nat.exists_eq_add_of_lt<|Nat.lt_of_not_le f;let⟨g,v,c,b,d,_⟩:=e;rw[show N+k+1=N+(k+1) by omega,dI,b]at a;simp only[du,step_leave_returned d]at a;cases k with
  |zero=>
   simp only[du,Stepped.next.injEq]at a;have:=(VK a).2.1;simp[fu]at this
  |succ k=>
   simp only[du,(IQ (P:=P) (fr:=pI) (cs:=[]) (w:=c) (es:=#[])<|by simp[G,Ù,Ì,pI];exact⟨U,U⟩)]at a;cases a
theorem Nf(f:oV P GL eZ)(hF:s9 P eZ)(t:wj kT)(C:∀v u,vQ v u->j5 u)(E:∀v u,vQ v u->kT v u){j:St}(F:∀T,∃n,mG P vQ n<|LM j<|(World.tp w T 0)){x:IT}(G:IU P GL eZ kT j w x): ∃y:IT,IU P GL eZ kT j w y/\y.n=x.n+1/\x.D<=y.D/\∀i,i<x.D->y.T i=x.T i:=by
 let⟨s,u,D,T,n⟩:=x;let⟨ok,pend,l,q⟩:=G;simp only at ok pend l q;have H:∃y d,∀a g,LS P s ((World.tp u y d)) a g->Ck u g->¬pH P kT a g:=by
  refine Classical.byContradiction λo=>l ?_;have c:∀y d,∃p:St×World,LS P s ((World.tp u y d)) p.1 p.2/\Ck u p.2/\pH P kT p.1 p.2:=by simp_all
  exact .jH (λy d=>(Classical.choose<|c y d).1) (λy d=>(Classical.choose<|c y d).2) (λy d=>(Classical.choose_spec<|c y d).1) (λy d=>(Classical.choose_spec<|c y d).2.1) λy d=>(Classical.choose_spec<|c y d).2.2
 let⟨y,d,I⟩:=H;let p:ψ:=λi=>if i<D then T i else y (d+(i-D))
 have r:∀i,i<D->p i=T i:=λi h=>if_pos h;have J:=λi=>by show(if D+i<D then T (D+i)else y (d+(D+i-D)))=y (d+i);grind
 let⟨N,K⟩:=F p;let⟨k,_,L⟩:=VM (q p r) K;have b:qk ((World.tp u p D)):=pend;rcases L.I f hF ok b with⟨_,M,O,S⟩|⟨m,a,g,_,e,V⟩
 .exact absurd (VL t E M O S) l
 .obtain⟨c,v,rfl,z⟩:=e.aei ok.r;have W:¬pH P kT a v:=λX=>I a _ (z y d λi _=>(J i).symm) (λi o _ B=>(mG.gR f hF C m (e.Nd f ok) ((e.kd ok.r b).r b) V) i o B)<|X.aej t y<|d+c;refine⟨⟨a,v,D+c,p,n+1⟩,⟨e.Nd f ok,(e.kd ok.r b).r b,W,λo B=> ?_⟩,U,fp,r⟩;rw[dI,(q o λi h=>(B i<|by simp only;omega).trans<|r i h)];simp only[du,(z o D λi h=>B (D+i)<|by simp only;omega).uX]
theorem aem(b:oV P GL eZ)(hF:s9 P eZ)(c:wj kT){Q:Â->Æ->Prop}(g:∀v u,Q v u->j5 u)(d:∀v u,Q v u->kT v u){a:St}(ok:Ok P GL eZ a)(q:qk w)(f:∀T,∃n,mG P Q n<|LM a<|(World.tp w T 0)):pH P kT a w:=by
 refine Classical.byContradiction λr=> ?_;have s:IU P GL eZ kT a w ⟨a,w,0,λ_ _=>0,0⟩:=⟨ok,q,r,λI _=>rfl⟩;let F:Nat->{x:IT//IU P GL eZ kT a w x}:=λk=>Nat.rec ⟨_,s⟩ (λ_ x=>⟨Classical.choose<|Nf b hF c g d f x.2,(Classical.choose_spec<|Nf b hF c g d f x.2).1⟩) k
 have l:=λk=>(Classical.choose_spec<|Nf b hF c g d f (F k).2).2;have t:∀k,(F k).1.n=k:=by
  intro k
  induction k with
  |zero=>rfl
  |succ k e=>rw[(l k).1,e]
 have J:∀j k,(F j).1.D<=(F<|j+k).1.D/\∀i,i<(F j).1.D->(F<|j+k).1.T i=(F j).1.T i:=by
  intro j k
  induction k with
  |zero=>exact⟨ß _,λ_ _=>rfl⟩
  |succ k e=>
   have:=(l<|j+k).2;exact⟨õ e.1 this.1,λi m=>(this.2 i<|Ô m e.1).trans<|e.2 i m⟩
 have K:∀j k i,i<(F j).1.D->i<(F k).1.D->(F j).1.T i=(F k).1.T i:=by intro j k i e o;rcases Nat.le_total j k with h|h;all_goals grind [Ε]
 let T:ψ:=λi=>open Classical in if h:∃k,i<(F k).1.D then(F<|Classical.choose h).1.T i else λ_=>0
 have y:∀k i,i<(F k).1.D->T i=(F k).1.T i:=by intro k i m;have e:∃k,i<(F k).1.D:=⟨k,m⟩;show(open Classical in if h:∃k,i<(F k).1.D then(F<|Classical.choose h).1.T i else λ_=>0)=_;rw[dif_pos e];grind
 let⟨N,z⟩:=f T;have p:=(F N).2.oz T<|y N;rw[t N]at p;let⟨k,e,o⟩:=VM p z;have B:k=0:=Z
 subst B;have C:qk ((World.tp (F N).1.u T<|(F N).1.D)):=(F N).2.aek;rcases o.I b hF (F N).2.ok C with⟨_,E,G,H⟩|⟨m,_,_,e,_⟩
 .exact(F N).2.ael<|VL c d E G H
 .cases e
end
section
variable{m:à->Prop}
def Ng(f:à)(b:Func)(c:aj)(a:Array Â):St:=⟨f,a++ĺ (b.ntmps-a.size) ľ,[Đ c],Ã,[]⟩
def VN(a:Array Â)(b:P.funcs[F]?=À s)(d:s.body=À wX):dJ P F a .normal=(Ng F s wX a).I:=cH a b d
def aen(b:oV P X m)(hF:s9 P m)(l:wj vQ)(g:m F)(j:P.funcs[F]?=À s)(k:s.body=À wX)(o:j5 u) (p:∀T,Calls P F d ((World.tp u T 0)) fun|.returned v,u'=>vQ v u'/\j5 u'|_,_=>False):pH P vQ (Ng F s wX d) u:=by
 refine aem b hF l (Q:=λv u=>vQ v u/\j5 u) (λv u h=>h.2) (λv u h=>h.1) ⟨⟨λi q=> ?_,λx h=>by cases h⟩,g,λx h=>by cases h⟩ o.qk λT=> ?_
 .rw[ū.1 q];exact .qV (b F g s wX j k)
 .let⟨e,r,t,a,w,_,y⟩:=p T [pI];cases e with
  |returned v=>
   let⟨n,z⟩:=w;refine⟨n,t,v,r,?_,y,a⟩;rw[<-z,VN d j k];rfl
  |panicked n=>exact a.elim
  |outgrown=>exact a.elim
def aeo(r:nH P)(b:oV P X m)(hF:s9 P m)(t:wj vQ)(n:m F)(e:P.funcs[F]?=À s)(h:s.body=À wX)(y:j5 u) (z:∀T,Calls P F d ((World.tp u T 0)) fun|.returned v,u'=>vQ v u'/\j5 u'|_,_=>False) {Y:fq} {a o:Nat->Prop} (B:Y.C=P.globals.size) (C:∀g,X g->Y g g) (p:fQ Y d q) (D:qW Y a u w) (E:∀j,a j->j<w.heap.size) (H:∀i j,Y i j->a j->o j) (main:Bool) (k:Ę) (l:List Ę): uV P main o (Fg Y a vQ k l) (fl Y a) (G (dJ P F q .normal)<|k::l) w:=by
 have:=(aen b hF t n e h y z).Nb (main:=main) r b (Y:=Y) (Fh:=Y) (s':=Ng F s wX q) (fq.M _) B C ⟨U,?_,U,U,.oR⟩ ⟨λi I=> ?_,λx J=>by cases J⟩ D E H k l
 .rw[VN q e h];exact this
 .show fQ Y (d++_) (q++_);rw[p.r];exact p.sX<|VF _
 .rw[ū.1 I];exact .qV (b F n s wX e h)
def xU:Â->Bool
 |Ľ _|Ć _ _|ħ _|Þ ë|bR ë _ _|bS|aV|ei ë|.map ë=>É
 |_=>Ã
def Nh:Â->Bool
 |.agg a=>a.all xU
 |ſ a=>a.all xU
 |v=>xU v
def Fj(h:xU v=É):jO v:=by
 cases v with
 |bool b=>exact .mf b
 |int k n=>exact .iI k n
 |string s=>exact .kL s
 |pointer p=>cases p with
  |none=>exact .lE
  |some a=>cases h
 |slice p n c=>cases p with
  |none=>exact .nY n c
  |some a=>cases h
 |nilFunc=>exact .uL
 |nilIface=>exact .uM
 |chan p=>cases p with
  |none=>exact .uN
  |some a=>cases h
 |map p=>cases p with
  |none=>exact .uO
  |some a=>cases h
 |_=>cases h
def aep(h:Nh v=É):jO v:=by
 cases v with
 |agg b=>exact .ov λi a=>Fj<|(Ń.1 h) i a
 |tuple b=>exact .nF λi a=>Fj<|(Ń.1 h) i a
 |_=>exact Fj h
def wm(X:Nat->Bool):Ö->Bool
 |.tmp _=>É
 |dW v=>Nh v
 |eu g=>X g
 |aN _=>É
theorem IV{g:Nat->Bool}(h:wm g qQ=É):mh (λj=>g j=É) qQ:=by
 cases qQ with
 |tmp t=>exact .Vz t
 |const v=>exact .VA (aep h)
 |global j=>exact .VB h
 |func f=>exact .VC f
def Ni(P:Õ)(t:Á):Bool:=match P.underlying t with
 |some .bool=>É
 |some (Β _)=>É
 |some ę=>É
 |_=>Ã
def aer(h:Ni P t=É):sY P t:=by
 unfold Ni at h;split at h
 .rename_i e;exact Ç e
 .rename_i k e;exact Î<|Ç ⟨k,e⟩
 .rename_i e;exact Î<|Î e
 .cases h
def IW:Ö->Bool
 |dW (Þ ë)=>É
 |_=>Ã
def VO(h:IW qQ=É):mS (y.eval qQ):=by
 unfold IW at h;split at h
 .trivial
 .cases h
def Nj(P:Õ)(t:Á)(x y:Ö):Bool:=Ni P t||((match P.underlying t with|some (ð _)=>É|_=>Ã)&&(IW x||IW y))
theorem aes{a:bE}{y:Ö}(h:Nj P t qQ y=É):sY P t\/((∃e,P.underlying t=À (ð e))/\(mS (a.eval qQ)\/mS (a.eval y))):=by
 unfold Nj at h;rcases Ŝ.1 h with h|h
 .exact Ç<|aer h
 .let⟨b,e⟩:=Ü.1 h;refine Î ⟨?_,(Ŝ.1 e).imp VO VO⟩;grind
def Nk(P:Õ)(s d:Á):Bool:=match P.underlying s,P.underlying d with
 |some (Β _),À (Β _)=>É
 |some ę,À ę=>É
 |_,_=>Ã
theorem aeu(h:Nk P e t=É):(∃k a,P.underlying e=À (Β k)/\P.underlying t=À (Β a))\/(P.underlying e=À ę/\P.underlying t=À ę):=by unfold Nk at h;grind
def Nl(P:Õ)(s:Á)(n:Nat):Bool:=match P.underlying s with
 |some (df fields)=>match fields[n]? with
  |some f=>match P.info? f.type with
   |some i=>i.size !=0
   |none=>Ã
  |none=>Ã
 |_=>Ã
def aev(h:Nl P e n=É):∀a f i,P.underlying e=À (df a)->a[n]?=À f->P.info? f.type=À i->i.size≠0:=by intro a f i b c d;simp only[Nl,b,c,d]at h;simpa using h
def Nn(P:Õ)(m:à->Bool)(f:à):Bool:=m f&&(match P.funcs[f]? with
 |some a=> !(a.name== "runtime.NumGoroutine")&&!a.body.isNone
 |none=>Ã)
theorem VP{g:à->Bool}(h:Nn P g F=É):g F=É/\∃a,P.funcs[F]?=À a/\(a.name== "runtime.NumGoroutine")=Ã/\a.body.isNone=Ã:=by let⟨b,c⟩:=Ü.1 h;grind
def VQ(P:Õ):List Á->Bool
 |[_,t1]=>(match P.underlying t1 with|some (dh _)=>É|some ę=>É|_=>Ã)
 |_=>Ã
def VR(P:Õ)(m:à->Bool)(b:Callee)(a:List Ö)(c:List Á):Bool:=match b with
 |ĝ .len=>a.length==1
 |ĝ .cap=>a.length==1
 |ĝ .copy=>a.length==2
 |ĝ .append=>a.length==2&&VQ P c
 |cg (aN f)=>Nn P m f
 |_=>Ã
def Cs(P:Õ)(m:à->Bool):Op->Bool
 |.move _|.assign _|.pick _ _ _|.alloc _|.box _ _|.build _ _|dC _ _ _|.load _ _|.store _ _ _|eA _|.unOp _ _ _|dT _ _ _|.slice _ _ _ _ _|.field _ _ _|dV _ _ _|.index _ _ _|.extract _ _=>É
 |dS c t x y _=>if c==az||c==aK then Nj P t x y else É
 |aL s d _=>Nk P s d
 |dU s _ n=>Nl P s n
 |Ω c=>VR P m c.callee c.args.toList c.argTypes.toList
 |_=>Ã
def IX{a:Array Ö}(h:(a.toList.length==1)=É):∃x,a=#[x]:=by
 let⟨l⟩:=a;match l,h with
 |[x],_=>exact⟨x,U⟩
def Np{a:Array Ö}(h:(a.toList.length==2)=É):∃x y,a=#[x,y]:=by
 let⟨l⟩:=a;match l,h with
 |[x,y],_=>exact⟨x,y,U⟩
def aew{g:à->Bool}{k:Op}(h:Cs P g k=É)(a:bE):j4 P a.eval k:=by
 cases k with
 |binOp o t x y r=>
  refine .Cm o t x y r λe=> ?_;have:(o==az||o==aK)=É:=by rcases e with rfl|rfl<;>rfl
  simp only[Cs,if_pos this]at h;exact aes h
 |convert s d x=>exact .MO _ _ _ (aeu h)
 |fieldAddr s x n=>exact .MQ _ _ _ (aev h)
 |call c=>
  let⟨z,B,j⟩:=c;simp only[Cs]at h;unfold VR at h;split at h
  .obtain⟨x,rfl⟩:=IX h;exact .E3 x j
  .obtain⟨x,rfl⟩:=IX h;exact .E4 x j
  .obtain⟨x,y,rfl⟩:=Np h;exact .E5 x y j
  .let⟨q,f⟩:=Ü.1 h;obtain⟨x,y,rfl⟩:=Np q;let⟨l⟩:=j;match l,f with
   |[t0,t1],f=>
    refine .sX x y t0 t1 ?_;simp only[VQ]at f;split at f
    .rename_i e m;exact Ç ⟨e,m⟩
    .rename_i m;exact Î m
    .cases f
  .exact .jF _ _ _ U (VP h).2
  .cases h
 |move x=>exact .zW x
 |assign x=>exact .E1 x
 |pick c a b=>exact .vO c a b
 |alloc t=>exact .gG t
 |box t x=>exact .MJ t x
 |build t p=>exact .MK t p
 |buildSlice t n p=>exact .ML t n p
 |load t a=>exact .gy t a
 |store t a x=>exact .jb t a x
 |nilCheck x=>exact .E2 x
 |unOp o t x=>exact .MN o t x
 |makeSlice t l c=>exact .MP t l c
 |slice t x u v w=>exact .kC t x u v w
 |field t x n=>exact .MR t x n
 |indexAddr t x i=>exact .MS t x i
 |index t x i=>exact .MU t x i
 |extract x n=>exact .ER x n
 |_=>simp[Cs]at h
def Nq(P:Õ)(X:Nat->Bool)(m:à->Bool)(o:au):Bool:=Cs P m o.op&&o.op.operands.all (wm X)
def aex{X:Nat->Prop}{m:à->Prop}{o:au}(op:∀a:bE,j4 P a.eval o.op)(opd:∀x∈o.op.operands,mh X x)(calls:∀f args ts,o.op=Ω {callee:=cg<|aN f,args:=args,argTypes:=ts}->m f):mE P X m o where
 mF hz hb hG ht hW hl x u' hr hc:=(UE hz hW.C hb (λf=>rfl) (op _) λx hx=>wh hG ht<|opd x hx).gi hW hl hr hc #[];r a:=ad6<|op a;I a u n u' hr:=aeg (op a) hr;C a u f c u' hr:=let⟨as,ts,e⟩:=aeb (op a) hr;calls f as ts e
theorem aey{g:Nat->Bool}{k:à->Bool}(h:Nq P g k o=É):mE P (λj=>g j=É) (λf=>k f=É) o:=by
 let⟨j,b⟩:=Ü.1 h;refine aex (λa=>aew j a) (λx a=>IV ?_) λf a x e=> ?_
 .grind [ŉ]
 .rw[e]at j;exact(VP<|show Nn P k f=É from j).1
end
section
variable{Y:fq}{g:à->Prop}{α:Type}
def Ct(m:(Ö->Â)->ē Â)(e:∀b,ì b o=m b>>=λv=>pure<|ï v) (i:∀(Y:fq) (b h:Ö->Â),nH P->Bi Y->Y.C=P.globals.size->(∀x∈o.op.operands,fj Y (b x)<|h x)->kD P fj Y (m b) (m h)) (j:∀b,fD P<|m b) (k:∀x∈o.op.operands,mh X x):mE P X g o where
 mF hz hb hG ht hW hl x u' hr hc:=by rw[e]at hr|-;exact(Uz<|i _ _ _ hz hW.C hb λx d=>wh hG ht<|k x d).gi hW hl hr hc #[]
 r a:=by rw[e];exact lH<|j _
 I a u n u' hr:=by
  rw[e,Ä]at hr;cases d:(m a.eval).run P u with
  |ok v w=>rw[d]at hr;cases hr;exact Ç ⟨v,U⟩
  |halt z w=>rw[d]at hr;cases hr
 C a u f c u' hr:=by
  rw[e,Ä]at hr;cases d:(m a.eval).run P u with
  |ok v w=>rw[d]at hr;cases hr
  |halt z w=>rw[d]at hr;cases hr
theorem aez(a:o.op=cI t qQ)(b:∀y∈o.op.operands,mh X y):mE P X g o:=by
 refine Ct (λd=>ŝ t<|d qQ) (λd=> ?_) (λY d c _ _ _ h=> .gl ?_) (λd=> ?_) b
 .unfold ì;rw[a]
 .unfold ŝ;apply fE (ja t);rintro e d _ c ⟨rfl,_⟩;split
  .exact .fP
  .exact .fC (.xI t ((h qQ<|by rw[a];simp[Ê]).fN c))
 .unfold ŝ;grind [gD,jc,qS,gk]
theorem aeA(c:Sys):ox P (sys c):=by
 intro u hu;refine⟨λx u' e=> ?_,λz u' e=>by cases e⟩;have:u'.heap=u.heap:=by
  simp only[sys,ã]at e;cases e;unfold World.sys;have ask:∀{γ:Type} (b:Ask γ) (w:Æ),(w.ask b).2.heap=w.heap:=by
   intro γ b
   induction b with
   |done a=>intro w;rfl
   |ask what range k ih=>
    intro w;simp only[World.ask];split
    .exact ih 0 w
    .exact ih _ _
  grind
 exact⟨λh i c e he=>h i c e (by rwa[<-this]),λi o he ho=>⟨o,by rwa[this],ho⟩⟩
theorem VS(x:Â):∀u y a,(ż x).run P u≠ĥ y a:=by
 unfold ż;cases x<;>simp only[]<;>first|exact MI|skip
 grind [EY,Uo,qP]
def aeB(x:Â):fD P (ż x):=by
 refine⟨?_,MW<|VS x⟩;unfold ż;cases x<;>simp only[]<;>first|exact E8 U|skip
 refine Iv ?_ λa=> ?_
 .unfold Instr.panicnil;refine Iv (aeA _) λr=> ?_;cases r<;>first|exact E8 U|skip
  exact Iv UG λ_=>UF _
 .split
  .exact E8 U
  .exact(vP _).1
def aeC(b:o.op=.panic qQ)(c:∀y∈o.op.operands,mh X y):mE P X g o:=by refine Ct (λa=>ż<|a qQ) (λa=> ?_) (λY a d _ _ _ h=> .gl (.ow (VS _))) (λa=>aeB _) c;unfold ì;rw[b]
def aeD(c:fj Y x v)(d:fj Y z jQ):fF P fj Y (Ĳ x z) (Ĳ v jQ):=by
 cases c<;>cases d<;>first|exact .fP|exact .fC (.iI _ _)|skip
 refine fE (V:=fj) (.fC (.mf _)) λf a g _ e=> ?_;apply fE (Um e);rintro h b _ _ rfl;exact .fC (.kL _)
def aeE(x y:Â):fD P (Ĳ x y):=by unfold Ĳ;repeat' (first|(with_reducible first|exact gD _|exact jc _|exact rW _|exact IB _|exact Na _ _ _|refine gk ?_ (λ_=> ?_)|refine mT _ ?_)|split|rfl)
def aeF:∀{l b:List Â} {Y:fq} {x c:Â},fj Y x c->fQ Y l.toArray b.toArray->fF P fj Y (l.foldlM Ĳ x) (b.foldlM Ĳ c):=by
 intro l
 induction l with
 |nil=>
  intro b Y x c d a;have:b=[]:=by have:=a.r;simp at this;exact Ā this.symm
  subst this;rw[ζ,ζ];exact .fC d
 |cons v l e=>
  intro b Y x c d a;match b,a with
  |[],a=>have:=a.r;simp at this
  |v'::b,a=>
   rw[Ζ,Ζ];refine fE (aeD d (by have:=a.C 0 fp fp;simpa using this)) ?_;intro k y m f g;refine e g ⟨by have:=a.r;simpa using this,λj h i=> ?_⟩;have:=a.C (j+1) (by simp at h|-;omega) (by simp at i|-;omega);exact(by simpa using this:fj Y _ _).fN f
theorem VT:∀(l:List Â) (x:Â),fD P<|l.foldlM Ĳ x
 |[],x=>by rw[ζ];exact gD _
 |v::l,x=>by rw[Ζ];exact gk (aeE _ _) λy=>VT l y
def aeG(a:Array Á)(t:Á)(h:fQ Y d q):fF P fj Y (ń a t d) (ń a t q):=by
 let⟨l⟩:=d;let⟨b⟩:=q;unfold ń;match l,b,h with
 |[],_,_=>exact .fP
 |v::l,[],h=>have:=h.r;simp at this
 |v::l,v'::b,h=>
  refine aeF (by have:=h.C 0 fp fp;simpa using this) ⟨by have:=h.r;simpa using this,λj e f=> ?_⟩;have:=h.C (j+1) (by simp at e|-;omega) (by simp at f|-;omega);exact(by simpa using this:fj Y _ _)
theorem aeH(a:Array Á)(t:Á)(c:Array Â):fD P (ń a t c):=by let⟨l⟩:=c;unfold ń;grind [jc,VT]
def aeI{b:Array Ö}{c:Array Á}(d:o.op=Ω {callee:=ĝ .min,args:=b,argTypes:=c})(e:∀y∈o.op.operands,mh X y):mE P X g o:=by refine Ct (λa=>ń c o.type<|b.map a) (λa=> ?_) (λY a i _ _ _ h=> .gl (aeG _ _<|UC b λz f=>h z<|by rw[d];simp[Ê,ô,f])) (λa=>aeH _ _ _) e;unfold ì;rw[d];simp only[ù,č,Ē,pure_bind]
def aeJ{β:Type}{f g:Â->β->ē (ForInStep β)}(k:∀a v e b,Y.r a->fj a v e->fF P jo a (f v b) (g e b)):∀{l d:List Â} {a:fq} (b:β),Y.r a->fQ a l.toArray d.toArray->fF P jo a (forIn l b f) (forIn d b g):=by
 intro l
 induction l with
 |nil=>
  intro d a b _ c;have:d=[]:=by have:=c.r;simp at this;exact Ā this.symm
  subst this;rw[φ,φ];exact .fC U
 |cons v l m=>
  intro d a b h c;match d,c with
  |[],c=>have:=c.r;simp at this
  |e::d,c=>
   rw[η,η];refine fE (k a v e b h (by have:=c.C 0 fp fp;simpa using this)) ?_;rintro p r _ i rfl;cases r with
   |done b=>exact .fC U
   |yield b=>
    apply m b (fq.I h i);refine⟨by have:=c.r;simpa using this,λj n o=> ?_⟩;have:=c.C (j+1) (by simp at n|-;omega) (by simp at o|-;omega);exact(by simpa using this:fj a _ _).fN i
theorem VU{β:Type}{f:Â->β->ē (ForInStep β)}(a:∀v b,fD P<|f v b):∀(l:List Â) (b:β),fD P<|forIn l b f
 |[],b=>by rw[φ];exact gD _
 |v::l,b=>by
  rw[η];refine gk (a v b) λr=> ?_;cases r with
  |done b=>exact gD _
  |yield b=>exact VU a l b
def aeK(d:fj Y x v):fF P fj Y (ü x) (ü v):=by
 cases d<;>first|exact .fP|exact .fC (.kL _)|skip
 rename_i h n c;unfold ü;apply fE (MC h n);intro e j l m f;simp only[<-aD];refine fE (aeJ (Y:=e) ?_ _ (fq.M _) f) ?_
 .intro g a o b _ i;cases i<;>first|exact .fP|skip
  rename_i k n;cases k<;>first|exact .fP|exact .fC U
 .rintro g s _ _ rfl;exact .fC (.kL _)
theorem aeL(x:Â):fD P (ü x):=by
 unfold ü;split
 .exact gD _
 .refine gk (M3 _ _) λa=> ?_;simp only[<-aD];grind [gk,VU,gD,jc]
 .exact jc _
theorem aeM(i:o.op=aL t T qQ)(k:P.underlying t=À (dh e))(l:P.underlying T=À ę)(m:P.underlying e=À (Β .u8))(n:∀y∈o.op.operands,mh X y):mE P X g o:=by
 refine Ct (λa=>Œ t T<|a qQ) (λa=> ?_) (λY a f _ _ _ h=> .gl ?_) (λa=> ?_) n
 .unfold ì;rw[i]
 .unfold Œ;refine fE (ja t) ?_;rintro z B _ p ⟨rfl,b⟩;rw[k]at b;injection b with b;subst b;refine fE (ja T) ?_;rintro q C _ r ⟨rfl,c⟩;rw[l]at c;injection c with c;subst c;have j:=((h qQ<|by rw[i];simp[Ê]).fN p).fN r;have u:fF P fj q (ø e>>=λy=>match y with|Β .u8=>ü (a qQ)|Β .i32=>aE (a qQ)|_=>stuck "Convert: a slice of what to string?") (ø e>>=λy=>match y with|Β .u8=>ü (f qQ)|Β .i32=>aE (f qQ)|_=>stuck "Convert: a slice of what to string?"):=by
   apply fE (ja e);rintro D E _ w ⟨rfl,h⟩;rw[m]at h;injection h with h;subst h;exact aeK<|j.fN w
  generalize a qQ=v at*;generalize f qQ=v' at*;cases j<;>first|exact u|exact .fP|exact .fC (.kL _)|skip
 .unfold Œ;grind [vR,aeL,Vw,gD]
end
section
variable{Y:fq}{b:à->Prop}{α:Type}
def VW(i:∀(Y:fq) (a g:bE),nH P->Bi Y->Y.C=P.globals.size->(∀x∈o.op.operands,fj Y (a.eval x)<|g.eval x)->kD P oS Y (ì a.eval o) (ì g.eval o)) (j:∀a:bE,fD P<|ì a.eval o) (h:∀(a:bE) (u:Æ) (n:Ο) (d:Æ),(ì a.eval o).run P u=ĥ n d->∃v,n=ï v) (k:∀x∈o.op.operands,mh X x):mE P X b o where
 mF hz hb hG ht hW hl x d hr hc:=(i _ ⟨_,[]⟩ ⟨_,[]⟩ hz hW.C hb λx e=>wh hG ht<|k x e).gi hW hl hr hc #[];r a:=j a;I a u n d hr:=Ç<|h a u n d hr;C a u f c d hr:=by let⟨v,e⟩:=h a u _ d hr;cases e
def aeN{e:Array Â->ē Â}{k:Array Á}(g:o.op=Ω {callee:=cg<|aN F,args:=#[qQ],argTypes:=k})(l:P.funcs[F]?=À s)(m:(s.name== "runtime.NumGoroutine")=Ã)(q:s.body.isNone=É)(r:Extern.findNext s=ë)(t:Extern.find s=À e) (B:∀(Y:fq) (v i:Â),fj Y v i->fF P fj Y (e #[v]) (e #[i])) (C:∀v,fD P<|e #[v]) (D:∀y∈o.op.operands,mh X y):mE P X b o:=by
 have c:∀a:bE,ì a.eval o=ĵ F #[a.eval qQ]:=by intro a;unfold ì;rw[g];simp only[ù,å,İ,č,pure_bind,Ď,ď,Ø,â,ä]
 have j:∀(v:Â) (u:Æ),(ĵ F #[v]).run P u=(mark (.extern F)>>=λ_=>e #[v]>>=λy=>pure (ï y):ē Ο).run P u:=by intro v u;unfold ĵ;simp_all
 refine VW (λY a w _ _ _ h=> ?_) (λa=> ?_) (λa u n E d=> ?_) D
 .rw[c,c];unfold ĵ;refine .gl (fE qM ?_);rintro I p J w ⟨z,G⟩;rw[z,G];simp only[l,m,q,r,t,Å,if_false,if_true];apply fE (V:=jo) (.Ce (Î ⟨F,U⟩) (.fC U));exact λK _ _ H _=>mD<|B _ _ _<|((h qQ<|by rw[g];simp[Ê,ô]).fN w).fN H
 .rw[c];exact Ix (j _)<|gk (E9 _) λ_=>lH<|C _
 .rw[c,j,Ä]at d;simp only[mark,ã,È]at d;have:ã P (e #[a.eval qQ]>>=λy=>pure (ï y):ē Ο) u=ĥ n E:=d;rw[Ä]at this;cases h:(e #[a.eval qQ]).run P u with
  |ok v w=>rw[h]at this;cases this;exact⟨v,U⟩
  |halt z w=>rw[h]at this;cases this
def aeO(x a:Â)(h:fj Y x a):fF P fj Y (Ŀ #[x]) (Ŀ #[a]):=.fC h
def aeP(x:Â):fD P (Ŀ #[x]):=gD _
def VX:∀(n t:Nat) {c a:Array Â},fQ Y c a->fQ Y (ņ n t c) (ņ n t a)
 |0,_,_,_,h=>h
 |n+1,t,_,_,h=>VX n (t/256)<|h.Uc<|.iI _ _
def aeQ(b:Array Á)(t:Á)(v c:Â)(h:fj Y v c):fF P fj Y (Ċ b #[t] #[v]) (Ċ b #[t] #[c]):=by
 cases h<;>first|exact .fP|skip
 rename_i k n;cases k<;>first|exact .fP|skip
 refine fE (ja t) ?_;rintro j d _ l ⟨rfl,_⟩;cases d<;>first|exact .fP|skip
 rename_i e _;simp only[];split
 .exact .ow (vK<|qP _)
 .apply rT (.zP λn=> .fC U);intro m f _;apply rT (MH _);intro o _ _;apply rT (.zP λn=> .fC U);intro p g _;apply fE (zU e<|VX f g<|fQ.N _);exact λq a r _ i=> .fC (.kC i _ _)
def aeR(a:Array Á)(t:Á)(v:Â):fD P (Ċ a #[t] #[v]):=by
 cases v<;>first|exact jc _|skip
 rename_i k n;cases k<;>first|exact jc _|skip
 refine gk (qS t) λd=> ?_;cases d<;>first|exact jc _|skip
 repeat' (first|(with_reducible first|exact gD _|exact jc _|exact rW _|exact Fb _ _|exact qS _|exact vP _|exact M4 _|refine gk ?_ λ_=> ?_)|split)
def aeS(f:Array Á)(t:Á)(j:fj Y x v):kD P fj Y (ė f t #[x]) (ė f t #[v]):=by
 cases j<;>first|exact .gl .fP|exact .gl (.fC .lE)|skip
 rename_i a g h n c;change kD P fj Y (ite _ _ _) (ite _ _ _);by_cases i:c≠0
 .simp only[if_pos i];exact .gl (.fC (.jN h))
 .simp only[if_neg i];apply kS (Ir h.1);rintro l b m o ⟨rfl,rfl⟩;simp only[Option.isSome_none,Å,if_false];refine kS (V0:=λ_ a g=>a=g) ?_ ?_
  .unfold Ū;refine fE (ja t) ?_;rintro k d _ p ⟨rfl,_⟩;cases d<;>first|exact .fP|exact .fC U
  .rintro k e _ _ rfl;exact .Ci trivial
def aeT(b:Array Á)(t:Á)(x:Â):fD P (ė b t #[x]):=by
 cases x<;>first|exact jc _|skip
 rename_i p n c;cases p with
 |none=>exact gD _
 |some a=>
  change fD P (ite _ _ _);repeat' (first|(with_reducible first|exact gD _|exact jc _|exact Iy _|exact IC _|refine gk ?_ (λ_=> ?_)|refine Iw _ ?_)|split|(intro _ _ h;cases h;done))
def aeU{c:Array Á}(d:o.op=Ω {callee:=ĝ bk,args:=#[qQ],argTypes:=c})(e:∀y∈o.op.operands,mh X y):mE P X b o:=by refine Ct (λa=>ė c o.type #[a qQ]) (λa=> ?_) (λY a f _ _ _ h=>aeS _ _<|h qQ<|by rw[d];simp[Ê,ô]) (λa=>aeT _ _ _) e;unfold ì;rw[d];simp only[ù,č,Ē,pure_bind,Ø,â,ä]
end
section
variable{Y:fq}{f:Nat->Prop}{g:à->Prop}{α:Type}
def VY(h:gY Y a p):fF P gY Y (Ž a) (Ž p):=by unfold Ž;apply fE (Ir h.1);rintro c x d b ⟨rfl,rfl⟩;exact .fC (h.r b)
def aeV{r:Nat}(h:Y r i):fF P (λ_ c q=>∃n a,c=À n/\q=À a/\n<=a) Y (dw r) (dw i):=.uP h λ_ n a c=> .fC ⟨n,a,U,U,c.elim (λq=>by omega) λq=>q.1⟩
def VZ(h:gY Y a p)(t:Á)(n:Nat):fF P (λ_ b e=>b=É->e=É) Y (Ą a t n) (Ą p t n):=by unfold Ą;apply fE qM;rintro i b j c ⟨d,f⟩;rw[d,f];refine .uP (c.1 _ _ h.1) λe m k g=> ?_;rw[h.2.1];exact .fC λq=>Uu (ο<|g.elim (λq=>by omega) λq=>q.1) q
def aeW(a:Ú):fD P (Ž a):=by unfold Ž;repeat' (first|(with_reducible first|exact gD _|exact qm|exact sZ _|exact IC _|refine gk ?_ (λ_=> ?_)|refine mT _ ?_)|split|rfl)
theorem aeX(r:Nat):fD P (dw r):=by unfold dw;grind [gD,sZ,UM,gk]
theorem V1(a:Ú)(t:Á)(n:Nat):fD P (Ą a t n):=by unfold Ą;grind [gD,qm,sZ,gk]
theorem aeY(l:P.underlying e=À (ð t))(m:P.underlying T=À đ)(o:fj Y x v):kD P fj Y (ö e T x) (ö e T v):=by
 unfold ö;refine kS (ja e) ?_;rintro z B _ p ⟨rfl,f⟩;rw[l]at f;injection f with f;subst f;refine kS (ja T) ?_;rintro C D _ q ⟨rfl,g⟩;rw[m]at g;injection g with g;subst g;have r:=(o.fN p).fN q;cases r<;>first|exact .gl .fP|exact .gl (.fC .lE)|skip
 rename_i a E h;refine kS (VY h) ?_;intro F b j G i;refine kS (aeV i.1) ?_;rintro H c I u ⟨w,J,rfl,rfl,K⟩;refine kS (mR t) ?_;rintro L n _ y ⟨rfl,_⟩;rw[i.2.1,i.2.2];simp only[];by_cases k:(decide (n=0)||(decide (j.off≥w)&&j.spot.isNone))=É
 .rw[if_pos k];exact .Ci trivial
 .rw[if_neg k,if_neg]
  .exact .gl (.fC (.jN ((i.r u).r y)))
  .grind
theorem aeZ{d:Á}(l:P.underlying T=À đ)(o:P.underlying d=À (ð t))(q:fj Y x z):kD P fj Y (ö T d x) (ö T d z):=by
 unfold ö;refine kS (ja T) ?_;rintro F G _ r ⟨rfl,f⟩;rw[l]at f;injection f with f;subst f;refine kS (ja d) ?_;rintro H I _ w ⟨rfl,g⟩;rw[o]at g;injection g with g;subst g;have y:=(q.fN r).fN w;cases y<;>first|exact .gl .fP|exact .gl (.fC .lE)|skip
 rename_i a J h;refine kS (VY h) ?_;intro K b B L i;refine kS (mR t) ?_;rintro M n _ j ⟨rfl,_⟩;refine kS (VZ (i.r j) t 1) ?_;rintro C v N D O;have Q:kD P fj C (pure<|Þ<|À b) (pure<|Þ<|À B):=.gl (.fC (.jN ((i.r j).r D)));by_cases E:(decide (n=0)||v)=É
 .grind
 .rw[if_neg E];refine .Cj λu x S c=> ?_;rw[Ä]at c;simp only[cu,ã,È]at c;cases k:u.shape? b.block with
  |none=>rw[k]at c;cases c
  |some p=>
   let⟨e,m⟩:=p;rw[k]at c;simp only[Ä,ă,È]at c;split at c
   .cases c
   .cases c;exact⟨u.heap.size,.view b t,ß _,fp,trivial⟩
theorem ae0(h:(P.underlying e=À (ð t)/\P.underlying T=À đ)\/(P.underlying e=À đ/\P.underlying T=À (ð t)))(x:Â):fD P (ö e T x):=by
 unfold ö;rcases h with⟨b,c⟩|⟨b,c⟩<;>refine vR b<|vR c ?_;all_goals
  cases x<;>first|exact jc _|skip
  rename_i p;cases p with
  |none=>exact gD _
  |some a=>
   repeat' (first|(with_reducible first|exact aeW _|exact aeX _|exact V1 _ _ _|exact gD _|exact jc _|exact qm|exact sZ _|exact s6 _|refine gk ?_ (λ_=> ?_)|refine mT _ ?_|refine Iw _ ?_)|split|(intro _ _ h;cases h;done)|rfl)
theorem V3(b:o.op=aL e T qQ)(h:(P.underlying e=À (ð t)/\P.underlying T=À đ)\/(P.underlying e=À đ/\P.underlying T=À (ð t)))(c:∀y∈o.op.operands,mh X y):mE P X g o:=by
 refine Ct (λa=>Œ e T<|a qQ) (λa=> ?_) (λY a i _ _ _ f=> ?_) (λa=> ?_) c
 .unfold ì;rw[b]
 .unfold Œ;apply kS (ja e);rintro j k _ a ⟨rfl,l⟩;apply kS (ja T);rintro m n _ i ⟨rfl,p⟩;have q:=((f qQ<|by rw[b];simp[Ê]).fN a).fN i;grind [aeY,aeZ]
 .unfold Œ;grind [ae0,vR]
theorem ae1(a:Ú)(n:Nat):ox P (eU a n):=by
 intro u f;refine⟨λx b e=> ?_,λz b e=>by cases e⟩;cases e;unfold Ė;split
 .exact Kd.fT u
 .refine UH (λo d=> ?_) λo c e h=> ?_
  .cases o<;>first|exact d.elim|trivial
  .grind
def ae2(a:Ú)(n:Nat):fD P (eU a n):=by
 refine⟨ae1 a n,λu T D=>⟨0,u.freeze a n,λx b e=> ?_⟩⟩;have c:∀T D,(World.tp u T D).freeze a n=World.tp (u.freeze a n) T D:=by intro T D;unfold Ė;split<;>rfl
 simp_all
def V4:∀(n:Nat) {Y:fq} {a c:Ú} (d:ByteArray),gY Y a c->fF P jo Y (ĕ a d n) (ĕ c d n)
 |0,_,_,_,_,_=> .fC U
 |n+1,Y,a,c,d,h=>by
  unfold ĕ;refine fE (Im h) ?_;intro g v i e f;cases f<;>first|exact .fP|skip
  rename_i k b;cases k<;>first|exact .fP|exact V4 n _<|(h.r e).C 1
def V5:∀(n:Nat) (a:Ú) (b:ByteArray),fD P<|ĕ a b n
 |0,_,_=>gD _
 |n+1,a,b=>by
  unfold ĕ;refine gk (Fa _ _) λv=> ?_;split
  .exact V5 n _ _
  .exact jc _
def jB(pt:Á)(a:Ú)(n:Nat):ē ByteArray:=do
 if<-Ą a (<-Ū pt) n then ĕ a .empty n else unsupported (ť "String: not so many bytes at ptr")
def ae3(pt:Á)(h:gY Y a p)(n:Nat):fF P jo Y (jB pt a n) (jB pt p n):=by
 unfold jB;refine fE (V:=jo) ?_ ?_
 .unfold Ū;refine fE (ja pt) ?_;rintro f d _ c ⟨rfl,_⟩;cases d<;>first|exact .fP|exact .fC U
 .rintro i e _ d rfl;apply fE (VZ (h.r d) e n);rintro f b j c g;cases b with
  |true=>rw[g U];exact V4 n _<|(h.r d).r c
  |false=>exact .fP
def ae4[zN P](F:jh Y f u w)(h:gY Y a p){pt:Á}(G:∀u l j,(Ū pt).run P u=ĥ l j->∃k,P.underlying l=À (Β k))(g:(jB pt a<|n+1).run P u=ĥ B W):¬f p.block:=by
 intro H;let⟨c,L,e,M,N,r,O,Q,t,_⟩:=F.r _ _ h.1;let⟨_,_,_,_,o⟩:=t H;unfold jB at g;rw[Ä]at g;cases i:(Ū pt).run P u with
 |halt z x=>rw[i]at g;cases g
 |ok l j=>
  have I:j=u:=by
   unfold Ū at i;rw[Ä]at i;unfold ø at i;rw[Ä,ă]at i;simp only[È]at i;cases D:P.underlying pt with
   |none=>rw[D]at i;cases i
   |some d=>
    rw[D]at i;cases d<;>cases i<;>rfl
  subst I;rw[i]at g;simp only[È]at g;rw[Ä]at g;have y:∃b,(Ą a l<|n+1).run P j=ĥ b j:=by unfold Ą;rw[Ä,ă];simp only[È];rw[Ä];simp only[cu,ã,È];split<;>exact⟨_,U⟩
  rcases o with o|o;rotate_left
  .let⟨k,J⟩:=G _ _ _ i;have K:(Ą a l<|n+1).run P j=ĥ Ã j:=by
    unfold Ą;rw[Ä,ă];simp only[È];rw[Ä];simp only[cu,ã,È];have t:j.shape? a.block=À (e,c.size):=by simp[Θ,r]
    rw[t];simp only[Nat.div_eq_of_lt<|zN.lt e c.size o,acW J];rfl
   rw[K]at g;cases g
  let⟨b,y⟩:=y;rw[y]at g;simp only[È]at g;split at g
  .unfold ĕ at g;rw[Ä]at g;simp only[aW,ã]at g;cases C:j.cell? a with
   |none=>
    rw[C]at g;simp only[ŋ,r]at g;cases g
   |some v=>
    rw[C]at g;simp only[È]at g;have q:=C;rw[zS r]at q;cases E:a.spot with
    |some x=>rw[E]at q;cases q
    |none=>
     rw[E]at q;have:=o _ _ (by simpa using q);cases v<;>first|(cases g;done)|skip
     rename_i k m;cases k<;>first|(cases g;done)|cases this
  .cases g
end
section
variable{Y:fq}{d:Nat->Prop}{f:à->Prop}{α:Type}
def xV(a:Á)(p:Option Ú)(n:Int):ē Â:=ê #[a] a #[Þ p,Ć Ŋ n]
def xW(pt a t:Á)(p:Option Ú)(k:ú)(n:Int):ê #[pt,a] t #[Þ p,Ć k n]=xV pt p n:=by cases p<;>rfl
section
variable{pt:Á}{p:Option Ú}
def V7(a:h<0):∃c,∃k:PUnit->ē Â,xV pt p h=(runtimePanic c>>=k):=⟨_,_,if_pos a⟩
def V8(a:¬h<0)(b:h>Ŋ.max):∃c,xV pt p h=unsupported (ť c):=⟨_,(if_neg a).trans<|if_pos b⟩
def Nr(a:¬h<0)(b:¬h>Ŋ.max)(c:h=0):xV pt p h=pure (ħ .empty):=by cases p<;>exact(if_neg a).trans<|(if_neg b).trans<|if_pos c
def ae5(a:¬h<0)(b:¬h>Ŋ.max)(d:¬h=0):∃c,xV pt ë h=runtimePanic c:=⟨_,(if_neg a).trans<|(if_neg b).trans<|if_neg d⟩
end
def V9(pt:Á)(a:Ú)(c:¬h<0)(d:¬h>Ŋ.max)(e:¬h=0): xV pt (À a) h=(jB pt a h.toNat>>=λs=>eU a h.toNat>>=λ_=>pure<|ħ s):=by refine((if_neg c).trans<|(if_neg d).trans<|if_neg e).trans ?_;unfold jB;show _=ç (ç _ _) _;rw[ř];congr 1;funext et;show ç _ _=ç (ç _ _) _;rw[ř];congr 1;funext b;cases b<;>rfl
def ae6(pt:Á)(p:Option Ú)(n:Int):fD P (xV pt p n):=by cases p<;>show fD P (if n<0 then _ else _)<;>repeat' (first|(with_reducible first|exact V1 _ _ _|exact V5 _ _ _|exact ae2 _ _|exact gD _|exact Iy _|exact vP _|refine gk ?_ (λ_=> ?_)|refine mT _ ?_)|split|rfl)
theorem ae7(_hW:jh Y d u w):∀(n:Nat) {a i:Ú} {j s:ByteArray},gY Y a i->a.spot=ë->(ĕ a j n).run P u=ĥ s W->∀c e f,u.heap[a.block]?=À (Č c e f)->a.off<=c.size->a.off+n<=c.size:=by
 intro n
 induction n with
 |zero=>intro a i j s _ _ _ c e f _ r;exact r
 |succ n t=>
  intro a i j s h p b c e f l _;unfold ĕ at b;rw[Ä]at b;simp only[aW,ã]at b;cases o:u.cell? a with
  |none=>
   rw[o]at b;simp only[ŋ,l]at b;cases b
  |some v=>
   rw[o]at b;simp only[È]at b;have q:=o;rw[zS l,p]at q;have y:=(Ë.1<|by simpa using q).1;cases v<;>first|(cases b;done)|skip
   rename_i k m;cases k<;>first|(cases b;done)|skip
   have g:a.add 1={a with off:=a.off+1}:=by unfold Addr.add;grind
   have x:=h.C 1;have:=t x (by rwa[g]) b c e f (by rwa[g]) (by rw[g];simp only;omega);rw[g]at this;simp only at this;omega
end
section
variable{Y:fq}{g:Nat->Prop}{r:à->Prop}{α:Type}
def Ns(pt a t:Á)(p:Option Ú)(y:Â):ê #[pt,a] t #[Þ p,y]=(dA y>>=λn=>xV pt p n):=by cases p<;>rfl
def Wa:∀(n:Nat) {a:Ú} {f s:ByteArray} {u c:Æ},(ĕ a f n).run P u=ĥ s c->c=u
 |0,_,_,_,_,_,h=>by cases h;rfl
 |n+1,a,f,s,u,c,h=>by
  unfold ĕ at h;rw[Ä]at h;have g:∀v b,(aW a).run P u=ĥ v b->b=u:=by
   intro v b e;simp only[aW,ã]at e;split at e
   .cases e;rfl
   .split at e<;>cases e;rfl
  cases d:(aW a).run P u with
  |halt z w=>rw[d]at h;cases h
  |ok v b=>
   have:=g v b d;subst this;rw[d]at h;simp only[È]at h;cases v<;>first|(cases h;done)|skip
   rename_i k m;cases k<;>first|(cases h;done)|exact Wa n h
def ae8{pt:Á}(c:(jB pt a n).run P u=ĥ B w):w=u/\(ĕ a .empty n).run P u=ĥ B u:=by
 unfold jB at c;rw[Ä]at c;cases e:(Ū pt).run P u with
 |halt z x=>rw[e]at c;cases c
 |ok z x=>
  have f:x=u:=by
   unfold Ū at e;rw[Ä]at e;unfold ø at e;rw[Ä,ă]at e;simp only[È]at e;cases b:P.underlying pt with
   |none=>rw[b]at e;cases e
   |some d=>
    rw[b]at e;cases d<;>cases e<;>rfl
  subst f;rw[e]at c;simp only[È]at c;rw[Ä]at c;have d:∃b,(Ą a z n).run P x=ĥ b x:=by unfold Ą;rw[Ä,ă];simp only[È];rw[Ä];simp only[cu,ã,È];split<;>exact⟨_,U⟩
  let⟨b,d⟩:=d;rw[d]at c;simp only[È]at c;split at c
  .have:=Wa n c;subst this;exact⟨U,c⟩
  .cases c
def IY(P:Õ)(t:Á):Bool:=match P.underlying t with
 |some (ð e)=>(match P.underlying e with|some (Β _)=>É|_=>Ã)
 |_=>Ã
theorem ae9{P:Õ}{pt:Á}(h:IY P pt=É):∀u b c,(Ū pt).run P u=ĥ b c->∃k,P.underlying b=À (Β k):=by
 intro u b c a;unfold Ū ø at a;rw[Ä,Ä,ă]at a;simp only[È]at a;unfold IY at h;split at h
 .rename_i e d;rw[d]at a;cases a;grind
 .cases h
def afa[zN P]{y:Ö}{pt:Á}(W:o.op=Ω {callee:=ĝ cV,args:=#[qQ,y],argTypes:=#[pt,T]})(hpt:IY P pt=É)(Wb:∀z∈o.op.operands,mh X z):mE P X r o:=by
 have he:∀M:Ö->Â,ì M o=(ê #[pt,T] o.type #[M qQ,M y]>>=λv=>pure<|ï v):=by intro M;unfold ì;rw[W];simp only[ù,č,Ē,pure_bind,Ø,â,ä]
 have N:∀v w:Â,fD P (ê #[pt,T] o.type #[v,w]):=by
  intro v w;cases v<;>first|exact jc _|skip
  rw[Ns];exact gk (Fc _) λn=>ae6 _ _ _
 have hk:∀(a:bE) (u:Æ) (n:Ο) (C:Æ),(ì a.eval o).run P u=ĥ n C->∃v,n=ï v:=by
  intro a u n C b;rw[he,Ä]at b;cases O:(ê #[pt,T] o.type #[a.eval qQ,a.eval y]).run P u with
  |ok v w=>rw[O]at b;cases b;exact⟨v,U⟩
  |halt z w=>rw[O]at b;cases b
 refine⟨?_,λa=>by rw[he];exact lH<|N _ _,λa u n C b=>Ç<|hk a u n C b,λa u f c C b=>by let⟨v,e⟩:=hk a u _ C b;cases e⟩;intro Y g t t' u w hz hb hG ht J hl z C b hc;have hx:=wh hG ht (Wb qQ<|by rw[W];simp[Ê,ô]);have Q:=wh hG ht (Wb y<|by rw[W];simp[Ê,ô]);rw[he]at b|-;generalize å ⟨t,[]⟩ qQ=v at hx b;generalize å ⟨t',[]⟩ qQ=v' at hx|-;generalize å ⟨t,[]⟩ y=l at Q b;generalize å ⟨t',[]⟩ y=l' at Q|-;have E:fF P fj Y (ê #[pt,T] o.type #[v,l]) (ê #[pt,T] o.type #[v',l'])->∃(K:fq) (x':Ο) (w':Æ) (S:Array ý),Y.r K/\(∀i j,K i j->Y i j\/(u.heap.size<=i/\w.heap.size<=j))/\(ê #[pt,T] o.type #[v',l']>>=λv=>pure (ï v):ē Ο).runT P w #[]=(ĥ x' w',#[]++S)/\oS K z x'/\jh K g C w'/\nG Y g w w'/\(∀e∈S,zR K g e)/\u.heap.size<=C.heap.size:= λh=>(mD h).gi J hl b #[];cases hx with
 |lE=>
  apply E;rw[Ns,Ns];apply fE (ME Q);rintro Wc n _ _ rfl;by_cases B:n<0
  .let⟨c,k,q⟩:=V7 (pt:=pt) (p:=ë) B;rw[q];exact .ow (vK<|qP _)
  .by_cases d:n>Ŋ.max
   .let⟨c,q⟩:=V8 (pt:=pt) (p:=ë) B d;rw[q];exact .fP
   .by_cases D:n=0
    .rw[Nr B d D];exact .fC (.kL _)
    .let⟨c,q⟩:=ae5 (pt:=pt) B d D;rw[q];apply Iq
 |jN F=>
  rename_i a a';cases Q with
  |iI k n=>
   by_cases B:n<0
   .apply E;let⟨c,k,q⟩:=V7 (pt:=pt) (p:=À a) B;rw[xW,xW,q];exact .ow (vK<|qP _)
   .by_cases d:n>Ŋ.max
    .apply E;let⟨c,q⟩:=V8 (pt:=pt) (p:=À a) B d;rw[xW,xW,q];exact .fP
    .by_cases D:n=0
     .apply E;rw[xW,xW,Nr B d D,Nr B d D];exact .fC (.kL _)
     .rw[xW,V9 pt a B d D]at b;rw[xW,V9 pt a' B d D];obtain⟨m,O⟩:∃m,n.toNat=m+1:=⟨n.toNat-1,Z⟩;rw[O]at b|-;cases L:(jB pt a<|m+1).run P u with
      |halt z w=>
       rw[Ä,Ä,L]at b;cases b
      |ok s u1=>
       obtain⟨rfl,Wg⟩:=ae8 L;rw[Ä,Ä,L]at b;have Ad:=b;cases Ad;let⟨Wc,s',w1,es,k1,k2,k3,k4,k5,G,k7,k8⟩:=(ae3 pt F<|m+1).gi J hl L #[];have S:=k4;subst S;let⟨c,c',e,fr,vL,V,hw,pG,_⟩:=J.r _ _ F.1;have Wh:a.spot=ë/\a.off<c.size:=by
        have H:=Wg;unfold ĕ at H;rw[Ä]at H;simp only[aW,ã]at H;cases I:u1.cell? a with
        |none=>
         rw[I]at H;simp only[ŋ,V]at H;cases H
        |some v=>
         rw[zS V]at I;cases oA:a.spot with
         |some qQ=>rw[oA]at I;cases I
         |none=>rw[oA]at I;exact⟨U,(Ë.1<|by simpa using I).1⟩
       have fits:∀c e fr,u1.heap[a.block]?=À (Č c e fr)->a.off+(m+1)<=c.size:=by intro c2 e2 qn d;rw[V]at d;injection d with d;injection d with q1 q2 q3;subst q1;exact ae7 J (m+1) F Wh.1 Wg c e fr V<|Nat.le_of_lt Wh.2
       refine⟨Wc,ï<|ħ s,w1.freeze a'<|m+1,es,k1,k2,?_,.nI (.kL s),k5.ab8 (F.r k1) (m+1) fits,?_,k7,by rw[Ik];exact ß _⟩
       .show é P (ç (ç _ _) _) w #[]=_;rw[Ñ,Ñ,k3];rfl
       .refine⟨by rw[Ik];exact G.r,ab4.trans G.I,ab5.trans G.M,Mz.trans G.S,λj hj N=> ?_,λj hs hj=> ?_⟩
        .rw[Il (λe=>N a.block<|by rw[<-e];exact F.1)];exact G.C j hj N
        .rw[Il (λe=>(ae4 J F (ae9 hpt) L)<|by rwa[e])];exact G.N j hs hj
  |_=>exact E .fP
 |_=>exact E .fP
end
section
variable{Y:fq}{g:Nat->Prop}{i:à->Prop}{α:Type}
theorem afb(a:Ú):fD P (bl a):=by unfold bl;grind [gD,sZ,M0,gk]
theorem afc(a b:Ú):fD P (cJ a b):=by unfold cJ;grind [afb,gD,sZ,gk]
def afd(a b:Ú):fD P (Ŭ a b):=by unfold Ŭ;repeat' (first|(with_reducible first|exact afc _ _|exact gD _|exact rW _|exact M0 _|exact U3 _|refine gk ?_ (λ_=> ?_)|refine mT _ ?_)|split|rfl)
def Wi(h:P.underlying t=À (ð e))(x y:Â):fD P (ó t x y):=by unfold ó ā Λ;refine vR h ?_;repeat' (first|(with_reducible first|exact afd _ _|exact gD _|exact jc _|exact rW _|exact s6 _|refine gk ?_ λ_=> ?_)|contradiction|split)
def afe{a:ġ}(b:a=az\/a=aK)(h:P.underlying t=À (ð e))(x y:Â):fD P (Ũ a t x y):=by
 have c:=Wi h x y;rcases b with rfl|rfl;all_goals
  unfold Ũ;repeat' (first|(with_reducible first|exact Wi h _ _|exact gD _|exact jc _|exact M6 _ _ _ _|exact Vp _ _ _ _ _ _|exact Vq _ _ _|exact Na _ _ _|refine gk ?_ λ_=> ?_)|contradiction|split)
def xY(u:Æ)(r:Nat):Prop:=∃c e a,u.heap[r]?=À (Č c e a)/\a.2<=c.size
def IZ(a:Ú)(u:Æ)(b:Array ý):(eM a).runT P u b=(ĥ (u.frozen? a) u,b):=rfl
def I0{r:Nat}(h:u.heap[r]?=À (Č d e xJ))(a:Array ý):(cu r).runT P u a=(ĥ (À (e,d.size)) u,a):=by simp only[cu,é,Θ,h]
def Wj(h:xY u a.block)(b:Array ý):(bl a).runT P u b=(ĥ (u.frozen? a) u,b):=by
 let⟨c,e,f,d,g⟩:=h;unfold bl;show é P (ç _ _) u b=_;rw[Ñ,IZ];cases i:u.frozen? a with
 |true=>rfl
 |false=>
  simp only[Å,if_false];show é P (ç _ _) u b=_;rw[Ñ,I0 d];simp only[];rw[IZ];have:u.frozen? {block:=a.block,off:=c.size}=Ã:=by simp only[Ĉ,d];simp;omega
  rw[this]
def Wk(f:u.heap[a.block]?=À (Č d e xJ))(g:xJ.2<=d.size)(b:u.frozen? a=É):d.size≠0:=by simp only[Ĉ,f]at b;simp at b;omega
def aff(i:xY u a.block)(j:xY u p.block)(k:(u.frozen? a&&u.frozen? p)=Ã)(g:Array ý):(cJ a p).runT P u g=(ĥ Ã u,g):=by
 have q:=i;have r:=j;let⟨c,e,w,l,s⟩:=q;let⟨d,f,x,m,t⟩:=r;unfold cJ;show é P (ç _ _) u g=_;rw[Ñ,Wj i];simp only[];show é P (ç _ _) u g=_;rw[Ñ,Wj j];simp only[];show é P (ç (ç _ _) _) u g=_;rw[Ñ,Ñ,I0 l];simp only[];show é P (ç (ç _ _) _) u g=_;rw[Ñ,Ñ,I0 m];simp only[];congr 2;cases o:u.frozen? a with
 |true=>
  rw[o]at k;have h:u.frozen? p=Ã:=by simpa using k
  have:=Wk l s o;simp only[h];cases v:c.size with
  |zero=>exact absurd v this
  |succ n=>rfl
 |false=>
  cases h:u.frozen? p with
  |true=>
   have:=Wk m t h;cases v:d.size with
   |zero=>exact absurd v this
   |succ n=>rfl
  |false=>rfl
def Wl(h:xY u a.block)(b:Array ý):(aX a).runT P u b=(ĥ () u,b):=by let⟨c,e,f,d,g⟩:=h;unfold aX di;show é P (ç (ç _ _) _) u b=_;rw[Ñ,Ñ,I0 d];rfl
def Wm(e:xY u a.block)(f:xY u p.block)(c:Array ý):(Ŭ a p).runT P u c= if(a.block==p.block)=É then(ĥ (a==p) u,c)else if(u.frozen? a&&u.frozen? p)=É then(bU (ŀ .addressObserved) u,c)else(ĥ Ã u,c):=by
 unfold Ŭ;by_cases h:(a.block==p.block)=É
 .simp_all
 .rw[if_neg h,if_neg h];show é P (ç _ _) u c=_;rw[Ñ,IZ];simp only[];show é P (ç _ _) u c=_;rw[Ñ,IZ];simp only[];by_cases d:(u.frozen? a&&u.frozen? p)=É
  .simp_all
  .rw[if_neg d,if_neg d];show é P (ç _ _) u c=_;rw[Ñ,Wl e];simp only[];show é P (ç _ _) u c=_;rw[Ñ,Wl f];simp only[];show é P (ç _ _) u c=_;rw[Ñ,aff e f (by simpa using d)];rfl
end
section
variable{Y:fq}{g:Nat->Prop}{j:à->Prop}
def afg{d:dF}(h:P.underlying t=À d)(u:Æ)(a:Array ý):(ø t).runT P u a=(ĥ d u,a):=by unfold ø;simp_all
theorem afh(h:P.info? t=À zJ)(u:Æ)(a:Array ý):(ax t).runT P u a=(ĥ zJ.size u,a):=by
 unfold ax;show é P (ç _ _) u a=_;rw[Ñ];have:(Δ t).runT P u a=(ĥ zJ u,a):=by unfold Δ;simp_all
 rw[this];rfl
theorem Wn(h:P.underlying t=À (ð e))(d:P.info? e=À zJ)(f:zJ.size≠0)(a b:Ú)(u:Æ)(c:Array ý):(ó t (Þ<|À a)<|Þ<|À b).runT P u c=(Ŭ a b).runT P u c:=by unfold ó ā Λ;show é P (ç _ _) u c=_;rw[Ñ,afg h];simp only[];show é P (ç _ _) u c=_;grind [Ñ,afh]
def iw(a:ġ)(r:Bool):Bool:=if a=az then r else !r
def Wo{d:ġ}(k:d=az\/d=aK)(h:P.underlying t=À (ð e))(g:P.info? e=À zJ)(j:zJ.size≠0)(x y:Ö)(a b:Ú)(u:Æ)(c:Array ý): ((ŷ d t x y (Þ<|À a) (Þ<|À b)>>=λ_=>Ũ d t (Þ<|À a)<|Þ<|À b)>>=λv=>pure (ï v):ē Ο).runT P u c= match(Ŭ a b).runT P u c with
 |(ĥ r u',f)=>(ĥ (ï<|Ľ<|iw d r) u',f)
 |(bU z u',f)=>(bU z u',f):=by
 rcases k with rfl|rfl
 .show é P (ç (ç (ó t (Þ<|À a)<|Þ<|À b) λr=>aH<|Ľ r) λv=>aH<|ï v) u c=_;rw[Ñ,Ñ,Wn h g j];cases(Ŭ a b).runT P u c with
  |mk r f=>cases r<;>rfl
 .show é P (ç (ç (ó t (Þ<|À a)<|Þ<|À b) λr=>aH<|Ľ !r) λv=>aH<|ï v) u c=_;rw[Ñ,Ñ,Wn h g j];cases(Ŭ a b).runT P u c with
  |mk r f=>cases r<;>rfl
theorem afi{m:ġ}{r:Á}{y:Ö}(E:o.op=dS m t qQ y r)(H:m=az\/m=aK)(h:P.underlying t=À (ð e))(T:P.info? e=À zJ)(V:zJ.size≠0)(I:∀z∈o.op.operands,mh X z):mE P X j o:=by
 have J:∀B:Ö->Â,ì B o=((ŷ m t qQ y (B qQ) (B y)>>=λ_=>Ũ m t (B qQ)<|B y)>>=λv=>pure<|ï v):=by intro B;unfold ì;rw[E]
 have W:∀(a:bE) (u:Æ) (n:Ο) (s:Æ),(ì a.eval o).run P u=ĥ n s->∃v,n=ï v:=by
  intro a u n s k;rw[J,Ä]at k;cases C:(ŷ m t qQ y (a.eval qQ) (a.eval y)>>=λ_=>Ũ m t (a.eval qQ)<|a.eval y).run P u with
  |ok v w=>rw[C]at k;cases k;exact⟨v,U⟩
  |halt z w=>rw[C]at k;cases k
 refine⟨?_,λa=> ?_,λa u n s k=>Ç<|W a u n s k,λa u f c s k=>by let⟨v,e⟩:=W a u _ s k;cases e⟩
 .intro Y g D Wp u w K hb L M p hl z s k hc;have N:=wh L M (I qQ<|by rw[E];simp[Ê]);have O:=wh L M (I y<|by rw[E];simp[Ê]);by_cases Q:mS (å ⟨D,[]⟩ qQ)\/mS (å ⟨D,[]⟩ y)
  .have hOk:j4 P (å ⟨D,[]⟩) o.op:=by
    rw[E];exact .Cm m t qQ y r λ_=>Î ⟨⟨e,h⟩,Q⟩
   exact(UE K p.C hb (λf=>rfl) hOk λz K=>wh L M<|I z K).gi p hl k hc #[]
  .have n1:=λq=>Q<|Ç q;have n2:=λq=>Q<|Î q;rw[J]at k|-;generalize å ⟨D,[]⟩ qQ=v at N k n1;generalize å ⟨Wp,[]⟩ qQ=v' at N|-;generalize å ⟨D,[]⟩ y=l at O k n2;generalize å ⟨Wp,[]⟩ y=l' at O|-;cases N<;>first|exact absurd trivial n1|skip
   cases O<;>first|exact absurd trivial n2|skip
   rename_i a a' F b b' G;have fit:∀{c S:Ú},gY Y c S->xY u c.block/\xY w S.block:=by intro c S hcc;let⟨d,d',e2,fr,vL,hu,hw,pG,pJ,Fl,hfr⟩:=p.r _ _ hcc.1;refine⟨⟨d,e2,fr,hu,hfr⟩,d',e2,vL,hw,?_⟩;refine õ ?_ pG.I;grind
   let⟨fa,fa'⟩:=fit F;let⟨fb,fb'⟩:=fit G;rw[<-Ρ P _ u #[],Wo H h T V,Wm fa fb]at k;rw[Wo H h T V,Wm fa' fb'];rw[<-(Is p.C F G),<-(Ur p.C F G)];by_cases q:(a.block==b.block)=É
   .rw[if_pos q]at k|-;cases k;exact⟨Y,_,w,#[],fq.M _,λ_ _ q=>Ç q,U,.nI (.mf _),p,nG.fT _ _ _,λ_ C=>absurd C fp,ß _⟩
   .rw[if_neg q]at k|-;by_cases q2:(u.frozen? a&&u.frozen? b)=É
    .grind
    .rw[if_neg q2]at k;have q3:¬(w.frozen? a'&&w.frozen? b')=É:=by
      intro q4;let⟨z1,z2⟩:=Ü.1 q4;exact q2<|Ü.2 ⟨p.G F z1,p.G G z2⟩
     rw[if_neg q3];cases k;exact⟨Y,_,w,#[],fq.M _,λ_ _ q=>Ç q,U,.nI (.mf _),p,nG.fT _ _ _,λ_ C=>absurd C fp,ß _⟩
 .rw[J];exact lH<|gk (Vv m t (λ_=>Î ⟨e,h⟩) qQ y _ _) λ_=>afe H h _ _
end
def Nt(P:Õ)(s d:Á):Bool:=match P.underlying s,P.underlying d with
 |some (dh e),À ę=>(match P.underlying e with|some (Β .u8)=>É|_=>Ã)
 |some (ð _),À đ=>É
 |some đ,À (ð _)=>É
 |_,_=>Ã
def Nu(P:Õ)(t:Á):Bool:=match P.underlying t with
 |some (ð e)=>(match P.info? e with|some i=>i.size !=0|none=>Ã)
 |_=>Ã
def Nv(P:Õ)(b:à->Bool)(c:Callee)(a:List Ö)(d:List Á):Bool:=match c with
 |ĝ .min=>a.length !=0
 |ĝ bk=>a.length==1
 |ĝ cV=>a.length==2&&(match d with|[t,_]=>IY P t|_=>Ã)
 |cg (aN f)=>b f&&a.length==1
 |_=>Ã
def Nw(P:Õ)(a:à->Bool):Op->Bool
 |cI _ _|.panic _=>É
 |dS c t _ _ _=>(c==az||c==aK)&&Nu P t
 |aL s d _=>Nt P s d
 |Ω c=>Nv P a c.callee c.args.toList c.argTypes.toList
 |_=>Ã
def Cu(P:Õ)(a:Nat->Bool)(b c:à->Bool)(o:au):Bool:=Nq P a b o||(Nw P c o.op&&o.op.operands.all (wm a))
def Fo(P:Õ)(c:à->Bool):Prop:=∀f,c f=É->∃a e,P.funcs[f]?=À a/\(a.name== "runtime.NumGoroutine")=Ã/\a.body.isNone=É/\Extern.findNext a=ë/\Extern.find a=À e/\
 (∀(Y:fq) (v b:Â),fj Y v b->fF P fj Y (e #[v]) (e #[b]))/\∀v,fD P<|e #[v]
theorem I1[zN P]{g:Nat->Bool}{k x:à->Bool}(C:Fo P x)(h:Cu P g k x o=É):mE P (λj=>g j=É) (λf=>k f=É) o:=by
 rcases Ŝ.1 h with h|h
 .exact aey h
 .let⟨v,S⟩:=Ü.1 h;have q:∀z∈o.op.operands,mh (λj=>g j=É) z:=by
   grind [ŉ,IV,Ń]
  cases n:o.op with
  |makeInterface t y=>exact aez n q
  |panic y=>exact aeC n q
  |binOp w t a b r=>
   rw[n]at v;let⟨T,m⟩:=Ü.1 (show((w==az||w==aK)&&Nu P t)=É from v);have D:w=az\/w=aK:=by grind
   unfold Nu at m;split at m
   .rename_i e E;split at m
    .rename_i i F;exact afi n D E F (by simpa using m) q
    .cases m
   .cases m
  |convert s d y=>
   rw[n]at v;have m:Nt P s d=É:=v;unfold Nt at m;split at m
   .rename_i e u p;split at m
    .rename_i G;exact aeM n u p G q
    .cases m
   .rename_i t u p;exact V3 n (Ç ⟨u,p⟩) q
   .rename_i t u p;exact V3 n (Î ⟨u,p⟩) q
   .cases m
  |call c=>
   rw[n]at v;let⟨H,I,B⟩:=c;have m:Nv P x H I.toList B.toList=É:=v;unfold Nv at m;split at m
   .exact aeI n q
   .obtain⟨y,rfl⟩:=IX m;exact aeU n q
   .let⟨u,p⟩:=Ü.1 m;obtain⟨y,z,rfl⟩:=Np u;let⟨l⟩:=B;match l,p with
    |[t1,t2],p=>exact afa n p q
   .rename_i f;let⟨u,p⟩:=Ü.1 m;obtain⟨y,rfl⟩:=IX p;let⟨V,e,J,K,L,M,N,O,Q⟩:=C f u;exact aeN n J K L M N O Q q
   .cases m
  |_=>rw[n]at v;simp[Nw]at v
def nK(P:Õ)(a:Nat->Bool)(b d:à->Bool):aj->Bool
 |.ret|eN|dY _|eP _|eR _=>É
 |.seq x y=>nK P a b d x&&nK P a b d y
 |bx c x y=>wm a c&&nK P a b d x&&nK P a b d y
 |dZ _ c|eO c|ea c=>nK P a b d c
 |bP _ c _=>c.all<|Cu P a b d
 |dr _=>É
 |_=>Ã
def uY[zN P]{g:Nat->Bool}{k x:à->Bool}(a:Fo P x):∀{c:aj},nK P g k x c=É->kE P (λj=>g j=É) (λf=>k f=É) c
 |.ret,_=> .uT
 |eN,_=> .rU
 |dY l,_=> .vS l
 |eP l,_=> .vW l
 |eR l,_=> .vY l
 |.seq y z,h=>by let⟨f,i⟩:=Ü.1 (show(nK P g k x y&&nK P g k x z)=É from h);exact .qT (uY a f) (uY a i)
 |bx c y z,h=>by let⟨f,i⟩:=Ü.1 (show(wm g c&&nK P g k x y&&nK P g k x z)=É from h);let⟨j,f⟩:=Ü.1 f;exact .s7 (IV j) (uY a f) (uY a i)
 |dZ id c,h=> .qU id (uY a<|show nK P g k x c=É from h)
 |eO c,h=> .vT (uY a<|show nK P g k x c=É from h)
 |ea c,h=> .vV (uY a<|show nK P g k x c=É from h)
 |bP id ops d,h=> .s8 id d λo f=>by obtain⟨i,j,rfl⟩:=ŉ.1 f;exact I1 a<|Ń.1 (show ops.all (Cu P g k x)=É from h) i j
 |.rangeFunc _ _ _ _,h=>by simp[nK]at h
 |dr w,_=> .oU w
end Go.Proofs.Y.Lift
namespace Go.Proofs.Y.fA
open Go Go.Conc Go.Proofs.Y.Lift
def qo(t:ğ)(g:Nat)(l:dQ):Prop:=∀p a,Ě t p=À a->a.loc=l->bC t g p
def oX(t:ğ)(g:Nat)(l:dQ):Prop:=∀p a,Ě t p=À a->a.loc=l->a.write=É->bC t g p
def qo.r{t:ğ}{l:dQ}(h:qo t i l):oX t i l:=λp a b c _=>h p a b c
section
variable{t u:ğ}{g:Nat}{l:dQ}
theorem mH{a:dL}(h:Ě (t++u) i=À a):(i<t.size/\Ě t i=À a)\/(t.size<=i/\∃x∈u,x.act.touch?=À a/\(t++u)[i]?=À x):=by
 let⟨x,c,d⟩:=dM h;rcases getElem?_append_cases c with⟨b,e⟩|⟨b,f⟩
 .exact Ç ⟨b,by rwa[touchAt_of e]⟩
 .grind
theorem qo.C(h:qo t g l)(j:∀c∈u,∀b,c.act.touch?=À b->b.loc=l->c.g=g):qo (t++u) g l:=by
 intro p a e f;rcases mH e with⟨_,d⟩|⟨_,c,d,k,i⟩
 .exact(h p a d f).app u
 .have:=bm i;grind
theorem oX.r(h:oX t g l)(k:∀c∈u,∀b,c.act.touch?=À b->b.loc=l->b.write=É->c.g=g):oX (t++u) g l:=by
 intro p a e f i;rcases mH e with⟨_,d⟩|⟨_,c,d,m,j⟩
 .exact(h p a d f i).app u
 .have:=bm j;grind
def qo.xL(h:∀p a,Ě t p=À a->a.loc≠l):qo t g l:=λp a b c=>absurd c<|h p a b
theorem Nx(h:∀c,¬eD c t)(l:∀d∈u,d.g=g)(m:∀d∈u,∀b,d.act.touch?=À b->(b.write=Ã/\oX t g b.loc)\/qo t g b.loc\/(b.kind=Ŕ/\∀p a,Ě t p=À a->a.loc=b.loc->a.kind=eW->bC t g p)):∀c,¬eD c (t++u):=by
 intro c;refine noRace_append (h c) l λi a f d n b o r=> ?_;let⟨j,v,e,w⟩:=r;rcases m d n b o with⟨s,k⟩|q|⟨s,k⟩
 .rcases e with e|e
  .exact k i a f j e
  .grind
 .exact q i a f j
 .grind
theorem Ae(f:∀c,¬eD c t)(r:∀d∈u,d.act.touch?=ë):∀c,¬eD c (t++u):=by
 intro c;rintro⟨i,j,g,⟨a,b,h,k,l⟩,m,n⟩;rcases mH k with⟨s,e⟩|⟨_,d,e,v,_⟩
 .rcases mH h with⟨o,p⟩|⟨o,_⟩
  .exact f c ⟨i,j,g,⟨a,b,p,e,l⟩,λq=>m<|ef u q,λq=>n<|ef u q⟩
  .omega
 .grind
end
structure fc where
 O:Nat->Prop
 I:Nat->Prop
 r:Ú->Prop
 N:Ú->Prop
 K:Ú->Prop
 d:Nat
 q:Prop
 w:Æ
def fc.M(l:fc):Nat->Prop:=λj=>l.O j\/l.I j
def fc.C(l:fc):Ú->Prop:=λa=>l.r a\/l.N a
structure fG(l:fc)(w w₁:Æ):Prop where
 r:w.heap.size<=w₁.heap.size
 I:∀j,l.M j->w₁.heap[j]?=w.heap[j]?
 N:∀a,l.C a->w₁.cell? a=w.cell? a
 Y:∀a,l.C a->w₁.frozen? a=w.frozen? a
 S:∀a,l.K a->(w.cell? a).isSome=É->(w₁.cell? a).isSome=É
theorem fG.fT(l:fc)(w:Æ):fG l w w:=⟨ß _,λ_ _=>rfl,λ_ _=>rfl,λ_ _=>rfl,λ_ _ h=>h⟩
def fG.fg{l:fc}{c:Æ}(h:fG l w u)(k:fG l u c):fG l w c:= ⟨õ h.r k.r,λj d=>(k.I j d).trans<|h.I j d,λj d=>(k.N j d).trans<|h.N j d,λj d=>(k.Y j d).trans<|h.Y j d,λw e q=>k.S w e<|h.S w e q⟩
def kN(w:Æ)(b:Nat):Option (Nat×Nat):=match w.heap[b]? with
 |some (Č _ _ fr)=>À fr
 |_=>ë
def wo{w':Æ}(h:w'.heap[b]?=w.heap[b]?):kN w' b=kN w b:=by unfold kN;rw[h]
theorem Wq(w:Æ)(a:Ú):w.frozen? a=match kN w a.block with
 |some (lo,hi)=>decide (lo<=a.off)&&decide (a.off<hi)
 |none=>Ã:=by
 unfold Ĉ kN;grind
def I2(h:kN u a.block=kN w a.block):u.frozen? a=w.frozen? a:=by rw[Wq,Wq,h]
def xZ(l:fc)(e:ý):Prop:=
 (∃a:Ú,e.loc=û a/\(l.O a.block\/l.r a\/((l.I a.block\/l.N a)/\e.write=Ã/\e.sync=Ã)))\/e.loc=ů da\/(∃f,e.loc=ů (.extern f))\/e.loc=ů cK\/e.loc=ů dx\/
 ∃a:Ú,l.O a.block/\(e.loc=ů (.read a)\/e.loc=ů (.write a)\/e.loc=ů (Ķ a)\/e.loc=ů (cL a))
structure mj(l l':fc)(w w':Æ)(es:Array ý):Prop where
 C:w.heap.size<=w'.heap.size
 S:∀j,l'.O j->l.O j\/w.heap.size<=j
 fu:∀j,l'.O j->j<w'.heap.size
 I:l'.I=l.I
 r:l'.r=l.r
 M:l'.N=l.N
 k:l'.K=l.K
 jP:∀j,j<w.heap.size->¬l.O j->(∀a:Ú,a.block=j->¬l.r a)->w'.heap[j]?=w.heap[j]?
 N:∀a:Ú,a.block<w.heap.size->¬l.O a.block->¬l.r a->w'.cell? a=w.cell? a
 Y:∀a:Ú,a.block<w.heap.size->¬l.O a.block->kN w' a.block=kN w a.block
 f:w'.os=w.os
 g:w'.output=w.output
 m:w'.tape=w.tape
 c:∀e∈es,xZ l' e
 h:l'.d=ŭ l.d es
 q:l'.q=l.q
 i:l.q->w'=w/\(∀e∈es,e.mute=É)/\l'.O=l.O
 b:l'.w=w'
structure Ny(t:ğ)(g:Nat)(l:fc):Prop where
 fl:∀a:Ú,l.O a.block->qo t g (û a)
 C:∀a:Ú,l.I a.block->oX t g (û a)
 I:∀a:Ú,l.r a->qo t g (û a)
 r:∀a:Ú,l.N a->oX t g (û a)
theorem Wr{l:fc}{e:ý}(h:xZ l e){b:dL}(c:(è e).touch?=À b):∃a:Ú,b.loc=û a/\(l.O a.block\/l.r a\/((l.I a.block\/l.N a)/\b.write=Ã)):=by
 let⟨k,i,j⟩:=e;rcases h with⟨a,g,d⟩|h|⟨f,h⟩|h|h|⟨a,g,d⟩
 .simp only at g d;subst g;have:(è ⟨û a,i,j⟩).touch?=À ⟨û a,i,if j then Ŕ else eW⟩:=U;grind
 .simp only at h;subst h;simp[è,ÿ]at c
 .simp only at h;subst h;simp[è,ÿ]at c
 .simp only at h;subst h;simp[è,ÿ]at c
 .simp only at h;subst h;simp[è,ÿ]at c
 .simp only at d;rcases d with rfl|rfl|rfl|rfl<;>simp[è,ÿ]at c<;>subst c;all_goals grind
def afj{l:fc}(d:∀j,l.O j->j<i)(k:∀j,l.I j->j<i)(g:∀a:Ú,l.C a->a.block<i){e:ý}(h:xZ l e):(è e).low i:=by
 let⟨m,n,o⟩:=e;rcases h with⟨a,c,b⟩|h|⟨f,h⟩|h|h|⟨a,c,b⟩
 .simp only at c b;subst c;rcases b with h|h|⟨h|h,_⟩
  .exact d _ h
  .exact g _<|Ç h
  .exact k _ h
  .exact g _<|Î h
 .simp only at h;subst h;trivial
 .simp only at h;subst h;trivial
 .simp only at h;subst h;trivial
 .simp only at h;subst h;trivial
 .simp only at b;rcases b with rfl|rfl|rfl|rfl<;>exact d _ c
def Ws(B:Nat)(t:ğ):Prop:=∀a∈t,a.act.low B
def Wt(h:Ws i qJ){a:dL}(g:Ě qJ n=À a){x:Ú}(d:a.loc=û x):x.block<i:=by
 let⟨f,j,b⟩:=dM g;have c:=h f<|Û j;revert b c;cases f.act with
 |access e=>
  intro b c;simp only[ÿ,ž]at b;subst b;simp only at d;simp only[MemAct.low,d,Loc.low]at c;exact c
 |mark m=>
  intro b c;cases m<;>simp[ÿ]at b;all_goals
   subst b;simp only[Loc.cell.injEq]at d;subst d;exact c
 |_=>intro b _;simp[ÿ]at b
theorem nZ{a:String}:∀op∈Í i F a V,op.g=i:=λop b=>by obtain⟨e,_,rfl⟩:=í (op:=op) b;rfl
structure iQ(B0:Nat)(Live:Nat->Prop)(Y:Nat->Prop)(lot:Nat->fc)(w:Æ)(t:ğ):Prop where
 o:∀i j,Live i->Live j->i≠j->∀b,(lot i).O b->¬(lot j).M b
 h:∀i j,Live i->Live j->i≠j->∀a,(lot i).r a->¬(lot j).C a
 m:∀i,Live i->∀b,(lot i).O b->¬(lot i).I b
 g:∀i,Live i->∀a,(lot i).r a->¬(lot i).N a
 I:∀i,Live i->∀b,(lot i).M b->¬Y b
 e:∀i,Live i->∀a,(lot i).C a->Y a.block
 fu:∀i,Live i->∀b,(lot i).M b->b<w.heap.size
 N:∀b,Y b->b<w.heap.size
 r:∀i,Live i->fG (lot i) (lot i).w w
 S:∀i,Live i->Ny t i (lot i)
 f:∀i,Live i->Τ t i=(lot i).d
 l:∀said,¬eD said t
 q:Ws w.heap.size t
 s:∀p a c,Ě t p=À a->a.loc=.obj c->a.kind=eW->c<B0
 n:∀i,Live i->∀a,(lot i).K a->Y a.block/\∀k,Live k->¬(lot k).r a
def gp(lot:Nat->fc)(i:Nat)(l:fc):Nat->fc:=λk=>if k=i then l else lot k
theorem gS(a:Nat->fc)(i:Nat)(l:fc):gp a i l i=l:=if_pos U
theorem gE(a:Nat->fc)(l:fc)(h:k≠i):gp a i l k=a k:=if_neg h
section
variable{B0:Nat}{Live Y:Nat->Prop}{lot:Nat->fc}{w':Æ}{t u:ğ}
def Nz{g:Nat}(a:k≠g)(t:ğ){u:ğ}(b:∀c∈u,c.g=g):Τ (t++u) k=Τ t k:= Deaf_other t (g:=k) (g':=g) (ą a) _ b
def iQ.at(h:iQ B0 Live Y lot w t)(d:Nat):iQ B0 Live Y lot (w.at d) t:= ⟨h.o,h.h,h.m,h.g,h.I,h.e,h.fu,h.N,λi a=>⟨(h.r i a).r,(h.r i a).I,(h.r i a).N,(h.r i a).Y,(h.r i a).S⟩,h.S,h.f,h.l,h.q,h.s,h.n⟩
def iQ.afk(h:iQ B0 Live Y lot w t)(r:Live i){s:fc}(l:mj (lot i) s w w' V)(E:à)(F:String): iQ B0 Live Y (gp lot i s) w' (t++Í i E F V):=by
 have G:=l.S;have Q:∀b,s.M b->(lot i).M b\/w.heap.size<=b:=λb g=>g.elim (λq=>(G b q).imp Ç id) (λq=>Ç<|Î<|by rwa[<-l.I]);have J:∀a,s.C a↔(lot i).C a:=λa=>by unfold fc.C;rw[l.r,l.M]
 have I:=λk f a d=>h.N _<|h.e k f a d;have L:∀k,Live k->k≠i->∀b,(lot k).M b->¬s.O b:=by
  intro k f y b g c;rcases G b c with q|q
  .exact h.o i k r f (ą y) b q g
  .have:=h.fu k f b g;omega
 have H:∀m∈Í i E F V,∀b,m.act.touch?=À b->∃a:Ú,b.loc=û a/\(s.O a.block\/s.r a\/((s.I a.block\/s.N a)/\b.write=Ã)):=by intro m o b g;obtain⟨e,N,rfl⟩:=í o;exact Wr (l.c e N) g
 have T:∀a:Ú,s.O a.block->qo t i (û a):=by
  intro a d;rcases G _ d with q|q
  .exact(h.S i r).fl a q
  .exact .xL λp x P n=>by have:=Wt h.q P n;omega
 have D:Ny t i s:=⟨T,λa d=>(h.S i r).C a (by rwa[<-l.I]),λa d=>(h.S i r).I a (by rwa[<-l.r]),λa d=>(h.S i r).r a<|by rwa[<-l.M]⟩;refine⟨?_,?_,?_,?_,?_,?_,?_,λb g=>Ô (h.N b g) l.C,?_,?_,?_,?_,?_,?_,?_⟩
 .intro k j f u y b g;by_cases c:k=i
  .subst c;rw[gS]at g;rw[gE lot _<|ą y];exact λq=>L j u (ą y) b q g
  .rw[gE lot _ c]at g;by_cases v:j=i
   .subst v;rw[gS];intro q;rcases Q b q with z|z
    .exact h.o k j f u y b g z
    .have:=h.fu k f b<|Ç g;omega
   .rw[gE lot _ v];exact h.o k j f u y b g
 .intro k j f u y a d;by_cases c:k=i
  .subst c;rw[gS,l.r]at d;rw[gE lot _<|ą y];exact h.h k j f u y a d
  .rw[gE lot _ c]at d;by_cases v:j=i
   .subst v;rw[gS,J];exact h.h k j f u y a d
   .rw[gE lot _ v];exact h.h k j f u y a d
 .intro k f b g;by_cases c:k=i
  .subst c;rw[gS]at g|-;rw[l.I];rcases G b g with z|z
   .exact h.m k f b z
   .intro q;have:=h.fu k f b<|Î q;omega
  .rw[gE lot _ c]at g|-;exact h.m k f b g
 .intro k f a d;by_cases c:k=i
  .subst c;rw[gS]at d|-;rw[l.M];rw[l.r]at d;exact h.g k f a d
  .rw[gE lot _ c]at d|-;exact h.g k f a d
 .intro k f b g;by_cases c:k=i
  .subst c;rw[gS]at g;rcases Q b g with z|z
   .exact h.I k f b z
   .intro y;have:=h.N b y;omega
  .rw[gE lot _ c]at g;exact h.I k f b g
 .intro k f a d;by_cases c:k=i
  .subst c;rw[gS,J]at d;exact h.e k f a d
  .rw[gE lot _ c]at d;exact h.e k f a d
 .intro k f b g;by_cases c:k=i
  .subst c;rw[gS]at g;exact g.elim (l.fu b) λq=>Ô (h.fu k f b<|Î<|by rwa[<-l.I]) l.C
  .rw[gE lot _ c]at g;exact Ô (h.fu k f b g) l.C
 .intro k f;by_cases c:k=i
  .subst c;rw[gS,l.b];exact fG.fT _ _
  .rw[gE lot _ c];refine(h.r k f).fg ⟨l.C,λb g=>l.jP b (h.fu k f b g) (λq=>h.o i k r f (ą c) b q g) (λa d q=>h.I k f b g<|by rw[<-d];exact h.e i r a<|Ç q),λa d=>l.N a (I k f a d) (λq=>h.I i r _ (Ç q)<|h.e k f a d) λq=>h.h i k r f (ą c) a q d,λa d=>I2 (l.Y a (I k f a d) λq=>h.I i r _ (Ç q)<|h.e k f a d),λa d q=> ?_⟩;let⟨y,v⟩:=h.n k f a d;rwa[l.N a (h.N _ y) (λq=>h.I i r _ (Ç q) y)<|v i r]
 .intro k f;by_cases c:k=i
  .subst c;rw[gS];exact⟨λa d=>(D.fl a d).C λm o _ _ _=>nZ m o,λa d=>(D.C a d).r λm o _ _ _ _=>nZ m o,λa d=>(D.I a d).C λm o _ _ _=>nZ m o,λa d=>(D.r a d).r λm o _ _ _ _=>nZ m o⟩
  .rw[gE lot _ c];have W:∀a:Ú,(lot k).O a.block->∀m∈Í i E F V,∀b,m.act.touch?=À b->b.loc=û a->False:=by
    intro a d m o b g n;let⟨x,y,v⟩:=H m o b g;rw[y]at n;injection n with n;subst n;rcases v with q|q|⟨q|q,_⟩
    .exact L k f c _ (Ç d) q
    .exact h.I k f _ (Ç d)<|h.e i r x<|Ç<|by rwa[<-l.r]
    .exact h.o k i f r c _ d<|Î<|by rwa[<-l.I]
    .exact h.I k f _ (Ç d)<|h.e i r x<|Î<|by rwa[<-l.M]
   have X:∀a:Ú,(lot k).I a.block->∀m∈Í i E F V,∀b,m.act.touch?=À b->b.loc=û a->b.write=É->False:=by
    intro a d m o b g n B;let⟨x,y,v⟩:=H m o b g;rw[y]at n;injection n with n;subst n;rcases v with q|q|⟨_,q⟩
    .exact L k f c _ (Î d) q
    .exact h.I k f _ (Î d)<|h.e i r x<|Ç<|by rwa[<-l.r]
    .rw[q]at B;cases B
   have S:∀a:Ú,(lot k).C a->∀m∈Í i E F V,∀b,m.act.touch?=À b->b.loc=û a->(s.I a.block\/s.N a)/\b.write=Ã:=by
    intro a d m o b g n;let⟨x,y,v⟩:=H m o b g;rw[y]at n;injection n with n;subst n;rcases v with q|q|q
    .exfalso;rcases G _ q with z|z
     .exact h.I i r _ (Ç z)<|h.e k f x d
     .have:=I k f x d;omega
    .exact absurd d<|h.h i k r f (ą c) x<|by rwa[<-l.r]
    .exact q
   refine⟨λa d=>((h.S k f).fl a d).C λm o b g n=>(W a d m o b g n).elim,λa d=>((h.S k f).C a d).r λm o b g n B=>(X a d m o b g n B).elim,λa d=>((h.S k f).I a d).C λm o b g n=> ?_,λa d=>((h.S k f).r a d).r λm o b g n B=> ?_⟩
   .exfalso;obtain⟨q|q,_⟩:=S a (Ç d) m o b g n
    .exact h.I i r _ (Î<|by rwa[<-l.I])<|h.e k f a<|Ç d
    .exact h.h k i f r c a d<|Î<|by rwa[<-l.M]
   .have:=(S a (Î d) m o b g n).2;rw[this]at B;cases B
 .intro k f;by_cases c:k=i
  .subst c;rw[gS,l.h,Deaf_own,h.f k f]
  .rw[gE lot _ c,Nz c t nZ];exact h.f k f
 .refine Nx h.l nZ λm o b g=> ?_;let⟨a,y,v⟩:=H m o b g;rw[y];rcases v with q|q|⟨q,B⟩
  .exact Î<|Ç<|D.fl a q
  .exact Î<|Ç<|D.I a q
  .exact Ç ⟨B,q.elim (D.C a)<|D.r a⟩
 .intro m o;rcases Ĝ.1 o with q|q
  .exact MemAct.low_mono l.C<|h.q m q
  .obtain⟨e,N,rfl⟩:=í q;refine afj l.fu (λj u=>Ô (h.fu i r j<|Î<|by rwa[<-l.I]) l.C) (λa d=> ?_)<|l.c e N;rw[J]at d;exact Ô (I i r a d) l.C
 .intro p a c d n f;rcases mH d with⟨_,y⟩|⟨_,m,y,v,_⟩
  .exact h.s p a c y n f
  .let⟨x,P,_⟩:=H m y a v;rw[P]at n;cases n
 .intro k f a d;have y:∀j,(gp lot i s j).r=(lot j).r:=λj=>by
   by_cases e:j=i
   .subst e;rw[gS,l.r]
   .rw[gE lot _ e]
  have c:(gp lot i s k).K=(lot k).K:=by
   by_cases e:k=i
   .subst e;rw[gS,l.k]
   .rw[gE lot _ e]
  rw[c]at d;exact⟨(h.n k f a d).1,λj u=>by rw[y];exact(h.n k f a d).2 j u⟩
end
def Fp(Live Y:Nat->Prop)(d:Nat->fc)(b:dL):Prop:=(∃a:Ú,b.loc=û a/\Y a.block/\∀k,Live k->¬(d k).C a)\/∃c,b.loc=.obj c/\Y c/\b.kind=Ŕ
structure pK(Live Y:Nat->Prop)(lot:Nat->fc)(w w':Æ):Prop where
 r:w'.heap.size=w.heap.size
 jP:∀j,¬Y j->w'.heap[j]?=w.heap[j]?
 M:∀k,Live k->∀a,(lot k).C a->w'.cell? a=w.cell? a
 N:∀k,Live k->∀a,(lot k).C a->w'.frozen? a=w.frozen? a
 I:∀a,(w.cell? a).isSome=É->(w'.cell? a).isSome=É
theorem pK.fT(Live Y:Nat->Prop)(a:Nat->fc)(w:Æ):pK Live Y a w w:=⟨U,λ_ _=>rfl,λ_ _ _ _=>rfl,λ_ _ _ _=>rfl,λ_ h=>h⟩
structure uZ(w':Æ)(l l':fc):Prop where
 O:l'.O=l.O
 N:l'.I=l.I
 r:l'.r=l.r
 I:l'.N=l.N
 K:l'.K=l.K
 w:l'.w=l.w\/l'.w=w'
theorem uZ.fT(w':Æ)(l:fc):uZ w' l l:=⟨U,U,U,U,U,Ç U⟩
def uZ.M{w':Æ}{l a:fc}(h:uZ w' l a):a.M=l.M:=by unfold fc.M;rw[h.O,h.N]
def uZ.C{w':Æ}{l a:fc}(h:uZ w' l a):a.C=l.C:=by unfold fc.C;rw[h.r,h.I]
def fG.afl{l c:fc}(h:uZ w l c)(r:fG l u W):fG c u W:= ⟨r.r,by rw[h.M];exact r.I,by rw[h.C];exact r.N,by rw[h.C];exact r.Y,by rw[h.K];exact r.S⟩
section
variable{Live Y:Nat->Prop}{lot o:Nat->fc}{w':Æ}{t u:ğ}
def iQ.G(h:iQ n Live Y lot w t)(m:∀k,uZ w' (lot k)<|o k)(s:pK Live Y lot w w')(B:∀l∈u,∀b,l.act.touch?=À b->Fp Live Y lot b)(g:∀l∈u,l.act.low w.heap.size)(E:∀F,¬eD F (t++u))(G:∀k,Live k->Τ (t++u) k=(o k).d):iQ n Live Y o w' (t++u) where
 o i j hi v kO b q:=by rw[(m j).M];exact h.o i j hi v kO b<|by rwa[<-(m i).O]
 h i j hi v kO a f:=by rw[(m j).C];exact h.h i j hi v kO a<|by rwa[<-(m i).r]
 m i hi b q:=by rw[(m i).N];exact h.m i hi b<|by rwa[<-(m i).O]
 g i hi a f:=by rw[(m i).I];exact h.g i hi a<|by rwa[<-(m i).r]
 I i hi b q:=h.I i hi b (by rwa[<-(m i).M]);e i hi a f:=h.e i hi a (by rwa[<-(m i).C]);fu i hi b q:=by rw[s.r];exact h.fu i hi b<|by rwa[<-(m i).M]
 N b q:=by rw[s.r];exact h.N b q
 r i hi:=by
  rcases(m i).w with e|e
  .rw[e];refine((h.r i hi).fg ⟨dy s.r.symm,λj v=>s.jP j<|h.I i hi j v,λa f=>s.M i hi a f,λa f=>s.N i hi a f,λa _=>s.I a⟩).afl<|m i
  .rw[e];exact fG.fT _ _
 S i hi:=by
  have z:∀a:Ú,(lot i).M a.block->∀l∈u,∀b,l.act.touch?=À b->b.loc=û a->False:=by
   intro a f l e b q g;rcases B l e b q with⟨x,r,y,_⟩|⟨c,r,_⟩
   .rw[r]at g;injection g with g;subst g;exact h.I i hi _ f y
   .rw[r]at g;cases g
  have D:∀a:Ú,(lot i).C a->∀l∈u,∀b,l.act.touch?=À b->b.loc=û a->False:=by
   intro a f l e b q g;rcases B l e b q with⟨x,r,_,y⟩|⟨c,r,_⟩
   .rw[r]at g;injection g with g;subst g;exact y i hi f
   .rw[r]at g;cases g
  exact⟨λa f=>((h.S i hi).fl a<|by rwa[<-(m i).O]).C λl e b q g=>(z a (Ç<|by rwa[<-(m i).O]) l e b q g).elim,λa f=>((h.S i hi).C a<|by rwa[<-(m i).N]).r λl e b q g _=>(z a (Î<|by rwa[<-(m i).N]) l e b q g).elim,λa f=>((h.S i hi).I a<|by rwa[<-(m i).r]).C λl e b q g=>(D a (Ç<|by rwa[<-(m i).r]) l e b q g).elim,λa f=>((h.S i hi).r a<|by rwa[<-(m i).I]).r λl e b q g _=>(D a (Î<|by rwa[<-(m i).I]) l e b q g).elim⟩
 f:=G;l:=E;q l e:=by rw[s.r];exact(Ĝ.1 e).elim (h.q l)<|g l
 s p a c f g z:=by
  rcases mH f with⟨_,r⟩|⟨_,l,r,y,_⟩
  .exact h.s p a c r g z
  .rcases B l r a y with⟨x,D,_⟩|⟨x,_,_,D⟩
   .rw[D]at g;cases g
   .rw[D]at z;cases z
 n i hi a f:=by rw[(m i).K]at f;exact⟨(h.n i hi a f).1,λk z=>by rw[(m k).r];exact(h.n i hi a f).2 k z⟩
end
structure gw(l:fc):Prop where
 c:∀b,l.O b->¬l.I b
 Y:∀a,l.r a->¬l.N a
 N:∀a,l.C a->¬l.M a.block
 fu:∀b,l.M b->b<l.w.heap.size
 I:∀a,l.C a->a.block<l.w.heap.size
 S:∀a,l.K a->¬l.M a.block/\a.block<l.w.heap.size/\¬l.r a
def iQ.M{Live Y:Nat->Prop}{c:Nat->fc}(h:iQ n Live Y c w qJ)(b:Live i):gw {c i with w:=w} where
 c:=h.m i b;Y:=h.g i b;N a ha hb:=h.I i b _ hb<|h.e i b a ha;fu:=h.fu i b;I a ha:=h.N _<|h.e i b a ha;S a ha:=⟨λq=>h.I i b _ q (h.n i b a ha).1,h.N _ (h.n i b a ha).1,(h.n i b a ha).2 i b⟩
abbrev Jd:=fc->Ó->Prop
inductive fi(P:Õ)(main:Bool)(Stop:Jd):Jd
 |fB {l:fc} {g:Ó} (h:∀w₁,fG l l.w w₁->Stop {l with w:=w₁} g):fi P main Stop l g
 |jH {l:fc} {g:Ó} (G':Æ->Ó) (W':Æ->Æ) (E':Æ->Array ý) (L':Æ->fc) (iJ:g.status=Ð)
  (h:∀w₁,fG l l.w w₁->Ù P main g w₁=aR (G' w₁) (W' w₁) (E' w₁)) (hd:∀w₁,fG l l.w w₁->mj l (L' w₁) w₁ (W' w₁) (E' w₁))
  (ih:∀w₁,fG l l.w w₁->fi P main Stop (L' w₁) (G' w₁)):fi P main Stop l g
instance:Nonempty fc:=⟨⟨λ_=>False,λ_=>False,λ_=>False,λ_=>False,λ_=>False,0,False,default⟩⟩
instance:Nonempty (Goroutine×World×Array Event×fc):=⟨(default,default,#[],Classical.choice inferInstance)⟩
section
variable{main:Bool}{Stop m:Jd}
def fi.mk{l:fc}(i:g.status=Ð) (h:∀a,fG l l.w a->∃b c d e,Ù P main g a=aR b c d/\mj l e a c d/\fi P main Stop e b):fi P main Stop l g:=by
 let p:=λ(a:Æ) (x:Goroutine×World×Array Event×fc)=>Ù P main g a=aR x.1 x.2.1 x.2.2.1/\mj l x.2.2.2 a x.2.1 x.2.2.1/\fi P main Stop x.2.2.2 x.1
 have f:∀a,fG l l.w a->p a (Classical.epsilon<|p a):=λa r=>Classical.epsilon_spec (let⟨b,c,d,e,h⟩:=h a r;⟨(b,c,d,e),h⟩);exact .jH (λa=>(Classical.epsilon<|p a).1) (λa=>(Classical.epsilon<|p a).2.1) (λa=>(Classical.epsilon<|p a).2.2.1) (λa=>(Classical.epsilon<|p a).2.2.2) i (λa r=>(f a r).1) (λa r=>(f a r).2.1) λa r=>(f a r).2.2
def fi.jY{l:fc}{w₁:Æ}(h:fi P main Stop l g)(r:fG l l.w w₁):fi P main Stop {l with w:=w₁} g:=by
 have e:∀{a b:Æ},fG {l with w:=w₁} a b->fG l a b:=λq=>⟨q.r,q.I,q.N,q.Y,q.S⟩;cases h with
 |fB h=>exact .fB λc d=>h c<|r.fg<|e d
 |jH f i j m n h o p=>
  exact .jH f i j m n (λc d=>h c<|r.fg<|e d) (λc d=>let q:=o c<|r.fg<|e d;⟨q.C,q.S,q.fu,q.I,q.r,q.M,q.k,q.jP,q.N,q.Y,q.f,q.g,q.m,q.c,q.h,q.q,q.i,q.b⟩) λc d=>p c<|r.fg<|e d
def fi.fN(a:∀l g,Stop l g->m l g){l:fc}(h:fi P main Stop l g):fi P main m l g:=by
 induction h with
 |fB h=>exact .fB λb r=>a _ _<|h b r
 |jH b r c d e h f _ i=>exact .jH b r c d e h f i
def fi.fg{l:fc}(h:fi P main (fi P main Stop) l g):fi P main Stop l g:=by
 induction h with
 |fB h=>exact h _<|fG.fT _ _
 |jH a b c d e h f _ i=>exact .jH a b c d e h f i
def fi.mg(a:∀l g,Stop l g->fi P main m l g){l:fc}(h:fi P main Stop l g):fi P main m l g:=(h.fN a).fg
end
inductive gq where
 |fB:gq
 |jH (k:Æ->gq):gq
def Wu(x:gq):gq->Prop
 |.fB=>False
 |.jH k=>∃w,x=k w
def Wv:WellFounded Wu:=⟨λa=>by
 induction a with
 |fB=>exact⟨_,λy h=>h.elim⟩
 |jH k b=>exact⟨_,λy ⟨w,h⟩=>h▸b w⟩⟩
def kU(P:Õ)(b:Bool)(c:Jd):gq->Jd
 |.fB,l,g=>∀a,fG l l.w a->c {l with w:=a} g
 |.jH k,l,g=>g.status=Ð/\∀a,fG l l.w a->∃d e f h,Ù P b g a=aR d e f/\mj l h a e f/\kU P b c (k a) h d
section
variable{main:Bool}{Stop:Jd}
theorem jk{l:fc}(h:fi P main Stop l g):∃tr,kU P main Stop tr l g:=by
 induction h with
 |fB h=>exact⟨.fB,h⟩
 |@jH l g G' W' E' L' iJ h hd _ ih=>
  have b:∀a,∃tr,fG l l.w a->kU P main Stop tr (L' a) (G' a):=by
   intro a;by_cases r:fG l l.w a
   .grind
   .exact⟨.fB,λq=>absurd q r⟩
  refine⟨.jH λa=>Classical.choose<|b a,iJ,λa r=>⟨G' a,W' a,E' a,L' a,h a r,hd a r,Classical.choose_spec (b a) r⟩⟩
end
theorem afm{l:fc}{b:Nat->Prop}(d:∀j,X j->l.O j)(f:∀j,b j->l.I j){e:ý}(h:IN X b e):xZ l e:=by
 rcases h with⟨a,c,g,i⟩|h|h
 .refine Ç ⟨a,c,?_⟩;grind
 .exact Î<|Ç h
 .exact Î<|Î<|Ç h
theorem afn{b:Nat->Prop}(h:∀e∈V,IN X b e)(d:Nat):ŭ d V=d:=by refine bn (λe c=> ?_) d;rcases h e c with⟨a,g,_⟩|h|⟨f,h⟩;all_goals grind
theorem gJ{w':Æ}(h:w'.heap[a.block]?=w.heap[a.block]?):w'.cell? a=w.cell? a:=by unfold Ġ;rw[h]
def wq(h:u.heap[a.block]?=w.heap[a.block]?):u.frozen? a=w.frozen? a:=by unfold Ĉ;rw[h]
def afo{t:(Nat->Prop)->Ó->Æ->Prop}{O:Nat->Prop}(h:uV P yQ X t O g w):∀l:fc,l.w=w->(∀j,O j->l.O j)->(∀j,X j->l.I j)->(∀j,l.O j->j<w.heap.size)->¬l.q-> fi P yQ (λa b=>∃f,t f b a.w/\(∀j,O j->f j)/\(∀j,f j->a.O j)/\(∀j,l.O j->a.O j)/\(∀j,a.O j->l.O j\/f j)/\(∀j,a.O j->l.O j\/w.heap.size<=j)/\a.I=l.I/\a.r=l.r/\a.N=l.N/\a.d=l.d/\a.q=l.q/\a.K=l.K) l g:=by
 induction h with
 |@fB O g w h=>
  intro l e i m _ _;refine .fB λb r=>⟨O,h b ⟨by rw[<-e];exact r.r,λj c=>by rw[r.I j (c.elim (λq=>Ç<|i j q) λq=>Î<|m j q),e]⟩,λ_ q=>q,i,λ_ q=>q,λ_ q=>Ç q,λ_ q=>Ç q,U,U,U,U,U,U⟩
 |@jH O g w G' W' E' f iJ h hd _ ih=>
  intro l e i m C u;refine .mk iJ λb r=> ?_;have n:xT (λj=>O j\/X j) w b:=⟨by rw[<-e];exact r.r,λj c=>by rw[r.I j (c.elim (λq=>Ç<|i j q) λq=>Î<|m j q),e]⟩;have D:=hd b n;have o:=n.r;have v:∀j,(l.O j\/f b j)->j<(W' b).heap.size:=λj c=>c.elim (λq=>Ô (C j q)<|õ o D.r)<|D.fu j;have p:∀j,j<b.heap.size->¬l.O j->(W' b).heap[j]?=b.heap[j]?:=λj c k=>D.jP j c λq=>k<|i j q;refine⟨G' b,W' b,E' b,{l with O:=λj=>l.O j\/f b j,w:=W' b},h b n,⟨D.r,λj c=>c.elim Ç λq=>(D.I j q).imp (i j) id,v,U,U,U,U,λj c k _=>p j c k,λa s k _=>gJ<|p _ s k,λa s k=>wo<|p _ s k,D.N,D.S,D.Y,λx E=>afm (l:={l with O:=λj=>l.O j\/f b j,w:=W' b}) (λj q=>Î q) m<|D.C x E,(afn D.C _).symm,U,λq=>absurd q u,U⟩,?_⟩;have:=ih b n {l with O:=λj=>l.O j\/f b j,w:=W' b} U (λj q=>Î q) m v u;apply this.fN;rintro N Q ⟨F,G,B,H,I,J,L,M⟩;refine⟨F,G,λj q=>B j<|D.M j q,H,λj q=>I j<|Ç q,λj q=> ?_,λj q=> ?_,M⟩
  .rcases J j q with(z|z)|z
   .exact Ç z
   .exact Î<|B j z
   .exact Î z
  .rcases L j q with(z|z)|z
   .exact Ç z
   .rcases D.I j z with y|y
    .exact Ç<|i j y
    .exact Î<|õ o y
   .exact Î<|õ (õ o D.r) z
def kr(a:Ú):ý:=⟨û a,Ã,É⟩
def mI(a:Ú):ý:=⟨û a,É,É⟩
def jR(m:Mark):ý:=⟨ů m,Ã,É⟩
def fX:Int:=4294967296
def Cv(c:Nat):Array ý:=#[⟨.obj c,Ã,É⟩,⟨.obj c,É,É⟩]
section
variable(P:Õ)(main:Bool)
def Fq(m:Mark)(N:Jd):Jd:=λl g=>g.status=Ð/\∃a,(∀b,Ù P main g b=aR a b #[jR m])/\fi P main N l a
def Ww(a:Ú)(N:Int->Jd):Jd:=λl g=>g.status=Ð/\∀v,∃c,(∀b:Æ,b.cell? a=À (Ć æ v)->Ù P main g b=aR c b #[kr a])/\fi P main (N v) l c
def NA(a:Ú)(d:Int)(N:Int->Jd):Jd:=λl g=>g.status=Ð/\∀v,∃c,(∀b:Æ,b.cell? a=À (Ć æ v)->b.frozen? a=Ã->Ù P main g b=aR c (b.setCell a<|Ć æ<|æ.wrap<|v+d) #[kr a,mI a])/\N (æ.wrap<|v+d) l c
def afp(a:Ú)(v:Int)(N:Jd):Jd:=λl g=>g.status=Ð/\∃c,(∀(b:Æ) (x:Int),b.cell? a=À (Ć æ x)->b.frozen? a=Ã->Ù P main g b=aR c (b.setCell a<|Ć æ v) #[mI a])/\fi P main N l c
def afq(a:Ú)(N:Jd):Jd:=λl g=>g.status=Ð/\g.offers=ë/\(∀b:Æ,b.cell? a=À (Ć ŗ 0)->Ù P main g b=aR {g with status:=Ů} b #[])/\
 ∃c,(∀(b:Æ) (n:Int),n≠0->b.cell? a=À (Ć ŗ n)->b.frozen? a=Ã->Ù P main g b=aR c (b.setCell a<|Ć ŗ<|n-1) (semEvents a))/\fi P main N l c
def afr(a:Ú)(N:Jd):Jd:=λl g=>g.status=Ð/\mayWake P g=É/\∃c,c.status=Ð/\(∀(b:Æ) (n:Int),b.cell? a=À (Ć ŗ n)->b.frozen? a=Ã->Ù P main g b=aR c (b.setCell a<|Ć ŗ<|ŗ.wrap<|n+1) (semEvents a))/\N l c
def wv(c:Nat)(z:Â)(N:Option Â->Jd):Jd:=λl g=>g.status=Ð/\g.offers=ë/\(∀x,Ù P main g x=.comm g #[θ c z] É (.recv É) x #[])/\
 ∀x:Option Â,fi P main (N x) l {g with frame:=g.frame.finish (ſ #[x.getD z,Ľ x.isSome])}
def Af(c:Nat)(v:Â)(N:Jd):Jd:=λl g=>g.status=Ð/\g.offers=ë/\(∀a,∃b,Ù P main g a=.comm g #[scase c v b] É .send a #[])/\fi P main N l {g with frame:=g.frame.finish ľ}
def I3(c:Nat)(N:Jd):Jd:=λl g=>g.status=Ð/\mayWake P g=É/\∃a,a.status=Ð/\(∀(b:Æ) cap buf s r tm,b.heap[c]?=À (χ cap buf Ã s r tm)->Ù P main g b=aR a (b.setChan c cap buf É s r tm) (Cv c))/\fi P main N l a
def oY(n:Nat):Jd:=λl g=>QuitsD P n l.d g
inductive SP where
 |fZ (n:Nat)
 |ld (v:Int) (m:Nat)
def Cw(a:Ú)(B:Nat)(d e:Int->Jd)(p:SP):Jd:=λl g=>∃T:SP->Ó->Prop,T p g/\∀p g,T p g->g.status=Ð/\match p with
 |.fZ (n+1)=>n+1<=B/\(T (.fZ 0) g\/∀b,∃c,Ù P main g b=aR c b #[]/\T (.fZ n) c)
 |.fZ 0=>∀v,∃c,(∀b:Æ,b.cell? a=À (Ć æ v)->Ù P main g b=aR c b #[kr a])/\(if 0<=v/\v<fX then v<1000000->fi P main (d v) l c else(fX<=v/\v<fX*2147483648/\v%fX<1000000)->∃m,m<=B/\T (.ld v m) c)
 |.ld v (m+1)=>fX<=v/\m+1<=B/\(T (.ld v 0) g\/∀b,∃c,Ù P main g b=aR c b #[]/\T (.ld v m) c)
 |.ld v 0=>fX<=v/\(∃c,(∀b:Æ,b.cell? a=À (Ć æ v)->b.frozen? a=Ã->Ù P main g b=aR c (b.setCell a<|Ć æ<|æ.wrap<|v+1) #[kr a,mI a])/\fi P main (e v) l c)/\
  ∃c,(∀(b:Æ) (x:Int),x≠v->b.cell? a=À (Ć æ x)->b.frozen? a=Ã->Ù P main g b=aR c b #[kr a])/\∃n,n<=B/\T (.fZ n) c
end
section
variable{P:Õ}{main:Bool}
def I4{e f:Int->Jd}{p:SP}{l:fc}{w₁:Æ}(h:Cw P main a i e f p l g)(r:fG l l.w w₁):Cw P main a i e f p {l with w:=w₁} g:=by
 let⟨T,o,h⟩:=h;refine⟨T,o,λp g j=>⟨(h p g j).1,?_⟩⟩;have:=(h p g j).2;match p,this with
 |.fZ (n+1),q=>exact q
 |.fZ 0,q=>
  intro v;let⟨c,d,b⟩:=q v;refine⟨c,d,?_⟩;by_cases k:0<=v/\v<fX
  .rw[if_pos k]at b|-;exact λq=>(b q).jY r
  .rw[if_neg k]at b|-;exact b
 |.ld v (m+1),q=>exact q
 |.ld v 0,⟨q0,⟨c,d,b⟩,q⟩=>exact⟨q0,⟨c,d,b.jY r⟩,q⟩
end
inductive iz where
 |no|iA|rZ (c:Nat) (z:Â)
inductive wx(g0:Ó):iz->Ó->Prop
 |gi {k:iz}:wx g0 k g0
 |nL (h:g0.status=Ð) (ho:g0.offers=ë):wx g0 .iA {g0 with status:=Ů}
 |td (c:Nat) (z:Â) (h:g0.status=Ð):wx g0 (.rZ c z) (Γ g0 #[θ c z]<|.recv É)
 |mW (c:Nat) (z:Â) (h:g0.status=Ð):wx g0 (.rZ c z) {Γ g0 #[θ c z] (.recv É)with status:=Ð}
section
variable{P:Õ}
theorem afs(h:g.status=Ð\/g.status=Ğ)(w:Æ):g.again w=g:=by unfold ι;grind
theorem NB{a o:Ó}(h:o.status=Ð\/o.status=Ğ):ţ P g a w o=o:=by unfold ţ;grind [afs]
def wx.Fs{g0 a b:Ó}{k:iz}(h:wx g0 k g)(d:g0.status=Ð\/g0.status=Ğ):wx g0 k (ţ P a b w g):=by
 cases h with
 |gi=>rw[NB d];exact .gi
 |nL h c=>
  unfold ţ;split
  .have:ι w {g0 with status:=Ů}=g0:=by
    let⟨z,e,st,f,i⟩:=g0;simp only at h c;subst h c;rfl
   rw[this];exact .gi
  .exact .nL h c
 |td c z h=>
  unfold ţ;split
  .unfold ι Γ;simp only[];split
   .exact .mW c z h
   .exact .td c z h
  .exact .td c z h
 |mW c z h=>
  rw[NB<|Ç U];exact .mW c z h
end
structure gK(P:Õ)(B0:Nat)(Y:Nat->Prop)(S:Nat->Jd)(tr:Nat->gq)(kp:Nat->iz)(lot:Nat->fc)(gs:Array Ó)(w:Æ)(t:ğ):Prop where
 r:iQ B0 (λi=>i<gs.size) Y lot w t
 C:∀i g,gs[i]?=À g->∃g0,kU P (i==0) (S i) (tr i) (lot i) g0/\wx g0 (kp i) g/\(g0.status=Ð\/g0.status=Ğ)/\(g=g0\/tr i=.fB)
 I:∀j,gs.size<=j->Τ t j=0
def fx{α:Type}(f:Nat->α)(i:Nat)(x:α):Nat->α:=λk=>if k=i then x else f k
theorem gC{α:Type}(f:Nat->α)(i:Nat)(x:α):fx f i x i=x:=if_pos U
theorem fH{α:Type}(f:Nat->α)(x:α)(h:k≠i):fx f i x k=f k:=if_neg h
section
variable{P:Õ}{B0:Nat}{Y:Nat->Prop}{S:Nat->Jd}{tr:Nat->gq}{kp:Nat->iz}{lot:Nat->fc}{gs:Array Ó}{w':Æ}{t:ğ}{sl:Option (Nat×Nat)}
theorem NC{a:Ó}(b:gs[i]?=À g)(h:Ù P (i==0) g w=aR a w' V): ∃gs',cW P (ķ gs w sl) i=(ň<|ķ gs' w' sl,Í i g.frame.fn g.frame.place V)/\gs'.size=gs.size/\gs'[i]?=À a/\∀k,k≠i->gs'[k]?=gs[k]?.map (ţ P g a w'):=by refine⟨_,runT_crowd_go b h,fp,by simp[(Ë.1 b).1],λk c=> ?_⟩;grind
def gK.at(a:gK P B0 Y S tr kp lot gs w t)(d:Nat):gK P B0 Y S tr kp lot gs (w.at d) t:=⟨a.r.at d,a.C,a.I⟩
theorem gK.Wx(f:gK P B0 Y S tr kp lot gs w t){a:Ó}{J:Jd}{T:gq}{K:iz}{d:fc}(h:gs[i]?=À g)(o:Ù P (i==0) g w=aR a w' V) (B:iQ B0 (λi=>i<gs.size) Y (gp lot i d) w' (t++Í i g.frame.fn g.frame.place V)) (hF:kU P (i==0) J T d a) (p:a.status=Ð\/a.status=Ğ): ∃b,cW P (ķ gs w sl) i=(ň<|ķ b w' sl,Í i g.frame.fn g.frame.place V)/\b.size=gs.size/\b[i]?=À a/\(∀k,k≠i->b[k]?=gs[k]?.map (ţ P g a w'))/\ gK P B0 Y (fx S i J) (fx tr i T) (fx kp i K) (gp lot i d) b w' (t++Í i g.frame.fn g.frame.place V):=by
 obtain⟨b,q,r,l,m⟩:=NC h o;have C:=(Ë.1 h).1;refine⟨b,q,r,l,m,?_,λk x c=> ?_,λj D=> ?_⟩
 .grind
 .by_cases e:k=i
  .subst e;rw[l]at c;obtain rfl:=Ĥ c;rw[gC,gC,gC,gS];exact⟨a,hF,.gi,p,Ç U⟩
  .rw[m k e]at c;obtain⟨y,s,rfl⟩:=ģ.1 c;rw[fH S _ e,fH tr _ e,fH kp _ e,gE lot _ e];let⟨g0,u,v,n,z⟩:=f.C k y s;refine⟨g0,u,v.Fs n,n,z.imp (λe=> ?_) id⟩;grind [NB]
 .rw[Nz Z t nZ];exact f.I j Z
theorem afu{J:Jd}{k:Æ->gq}{l:fc}(h:kU P yQ J (.jH k) l g):g.status=Ð:=h.1
def gK.fl(f:gK P B0 Y S tr kp lot gs w t){k:Æ->gq}(m:gs[i]?=À g)(n:tr i=.jH k)(s:∀l g,S i l g->g.status=Ð\/g.status=Ğ): ∃c w' d h,cW P (ķ gs w sl) i=(ň<|ķ c w' sl,Í i g.frame.fn g.frame.place d)/\c.size=gs.size/\(∃b,c[i]?=À b/\(b.status=Ð\/b.status=Ğ))/\(∀k,k≠i->∃a j:Ó,c[k]?=gs[k]?.map (ţ P a j w'))/\mj (lot i) h w w' d/\ gK P B0 Y S (fx tr i<|k w) kp (gp lot i h) c w' (t++Í i g.frame.fn g.frame.place d):=by
 have o:=(Ë.1 m).1;let⟨g0,hF,F,_,u⟩:=f.C i g m;obtain rfl:g=g0:=u.resolve_right (by rw[n];simp);rw[n]at hF;let⟨G,hF⟩:=hF;let⟨b,w',d,h,v,p,e⟩:=hF w<|f.r.r i o;have q:b.status=Ð\/b.status=Ğ:=by
  cases j:k w with
  |fB=>rw[j]at e;exact s _ _<|e _<|fG.fT _ _
  |jH r=>rw[j]at e;exact Ç e.1
 obtain⟨c,x,y,z,B,r⟩:=f.Wx m v (f.r.afk o p _ _) e q;refine⟨c,w',d,h,x,y,⟨b,z,q⟩,λj C=>⟨g,b,B j C⟩,p,?_⟩;have D:fx S i (S i)=S:=by funext j;unfold fx;split<;>simp[*]
 have E:fx kp i (kp i)=kp:=by funext j;unfold fx;split<;>simp[*]
 rwa[D,E]at r
theorem gK.qp(c:gK P B0 Y S tr kp lot gs w t){a:Ó}{J:Jd}{K:iz}{T:gq}(l:gs[i]?=À g)(m:Ù P (i==0) g w=aR a w' V)(n:pK (λi=>i<gs.size) Y lot w w') (hF:kU P (i==0) J T {lot i with d:=ŭ (lot i).d V,w:=w'} a) (o:a.status=Ð\/a.status=Ğ) (p:∀e∈V,(∀b,(è e).touch?=À b->Fp (λi=>i<gs.size) Y lot b)/\(è e).low w.heap.size) (q:∀r,¬eD r (t++Í i g.frame.fn g.frame.place V)): ∃gs',cW P (ķ gs w sl) i=(ň<|ķ gs' w' sl,Í i g.frame.fn g.frame.place V)/\gs'.size=gs.size/\gs'[i]?=À a/\(∀k,k≠i->gs'[k]?=gs[k]?.map (ţ P g a w'))/\ gK P B0 Y (fx S i J) (fx tr i T) (fx kp i K) (gp lot i {lot i with d:=ŭ (lot i).d V,w:=w'}) gs' w' (t++Í i g.frame.fn g.frame.place V):=by
 refine c.Wx l m (c.r.G (λk=> ?_) n (λh f b j=> ?_) (λh f=> ?_) q λk h=> ?_) hF o
 .by_cases e:k=i
  .subst e;rw[gS];exact⟨U,U,U,U,U,Î U⟩
  .grind [gE,uZ.fT]
 .obtain⟨e,j,rfl⟩:=í f;grind
 .obtain⟨e,j,rfl⟩:=í f;exact(p e j).2
 .by_cases e:k=i
  .subst e;rw[gS,Deaf_own,c.r.f k h]
  .rw[gE lot _ e,Nz e t nZ];exact c.r.f k h
def gK.ND(h:gK P B0 Y S tr kp lot gs w t)(p:gs[i]?=À g)(x:i≠0)(l:g.status=Ð)(q:kp i=.no)(y:tr i=.fB)(z:S i=oY P n): ∃c f b,n=b+1/\cW P (ķ gs w sl) i=(ň<|ķ c w sl,Í i g.frame.fn g.frame.place f)/\c.size=gs.size/\(∀k,k≠i->∃a e:Ó,c[k]?=gs[k]?.map (ţ P a e w))/\(∀e∈f,e.mute=É)/\ gK P B0 Y (fx S i<|oY P b) tr kp (gp lot i {lot i with d:=ŭ (lot i).d f,w:=w}) c w (t++Í i g.frame.fn g.frame.place f):=by
 let⟨g0,hF,r,L,_⟩:=h.C i g p;have B:g=g0:=by
  rw[q]at r;cases r with
  |gi=>rfl
 subst B;rw[y,z]at hF;have s:=hF w<|h.r.r i<|(Ë.1 p).1;cases n with
 |zero=>rw[s.1]at l;cases l
 |succ n=>
  rcases s with⟨C,_⟩|⟨_,D,f,a,E,u⟩
  .rw[C]at l;cases l
  have m:(i==0)=Ã:=by simpa using x
  have F:fx kp i .no=kp:=by funext j;unfold fx;split<;>simp[*]
  have G:fx tr i .fB=tr:=by funext j;unfold fx;split<;>simp[*]
  obtain⟨c,H,I,_,K,v⟩:=h.qp (J:=oY P n) (T:=.fB) p (by rw[m];exact E w) (pK.fT _ _ _ _) (λ_ _=>u) u.status (λe o=>⟨λb m=>(by rw[eg<|a e o]at m;cases m),low_mute (a e o) _⟩) (Ae h.r.l λM b=>by obtain⟨e,o,rfl⟩:=í b;exact eg<|a e o);rw[F,G]at v;exact⟨c,f,n,U,H,I,λk q=>⟨g,D,K k q⟩,a,v⟩
end
def wy(u:ğ):Prop:=∀a∈u,a.act.touch?=ë/\∀m,a.act≠Ř m
theorem afv(t:ğ)(a:cX)(b:a.act≠Ř cK)(c:a.act≠Ř dx)(j:Nat):Τ (t.push a) j=Τ t j:=by
 have d:t.push a=t++#[a]:=fp
 unfold Τ;rw[d,show(t++#[a]).size=t.size+1 by simp];show(match(t++#[a])[t.size]? with
  |some {g:=h,act:=Ř cK, .. }=>if h=j then(t++#[a]).deaf j t.size+1 else(t++#[a]).deaf j t.size
  |some {g:=h,act:=Ř dx, .. }=>if h=j then(t++#[a]).deaf j t.size-1 else(t++#[a]).deaf j t.size
  |_=>(t++#[a]).deaf j t.size)=_
 have e:(t++#[a])[t.size]?=À a:=fp
 rw[e];let⟨g,f,i,k⟩:=a;simp only at b c;split
 .grind
 .grind
 .exact cN<|ß _
def Wy(t:ğ):∀(u:List cX),(∀a∈u,a.act≠Ř cK/\a.act≠Ř dx)->∀j,Τ (t++u.toArray) j=Τ t j
 |[],_,j=>by simp
 |a::u,h,j=>by
  have e:t++(a::u).toArray=(t.push a)++u.toArray:=by apply Array.ext';simp
  rw[e,Wy (t.push a) u (λx b=>h x<|by simp[b]) j];exact afv t a (h a fp).1 (h a fp).2 j
def I5{u:ğ}(h:wy u)(j:Nat):Τ (qJ++u) j=Τ qJ j:=by have:=Wy qJ u.toList (λa b=>⟨(h a<|by simpa using b).2 _,(h a<|by simpa using b).2 _⟩) j;simpa using this
section
variable{S:Nat->Jd}{C:Nat->gq}{B:Nat->iz}{lot:Nat->fc}{u:ğ}{sl:Option (Nat×Nat)}
def iQ.afw{Live:Nat->Prop}(h:iQ i Live X lot w qJ)(f:pK Live X lot w W)(c:wy u)(g:∀a∈u,a.act.low w.heap.size):iQ i Live X lot W (qJ++u):= h.G (λk=>uZ.fT _ _) f (λa d b e=>by rw[(c a d).1]at e;cases e) g (Ae h.l λa d=>(c a d).1) λk b=>by rw[I5 c];exact h.f k b
def I6{Live:Nat->Prop}{r:Nat}{x:Bool}(y:X i)(p:w.heap[i]?=À (χ n d yQ j r x))(f g h:Nat)(l:Array Â)(m o:Bool):pK Live X lot w (w.setChan i f l m g h o):=by
 have q:∀b,b≠i->(w.setChan i f l m g h o).heap[b]?=w.heap[b]?:=λb u=>by unfold ar;simp only;exact Ï<|ą u
 have v:(w.setChan i f l m g h o).heap[i]?=À (χ f l m g h o):=by unfold ar;simp[(Ë.1 p).1]
 refine⟨by unfold ar;simp,λb u=>q b λe=>u<|e▸y,λk _ a _=> ?_,λk _ a _=> ?_,λa t=> ?_⟩
 .by_cases e:a.block=i
  .unfold Ġ;rw[e,v,p]
  .unfold Ġ;rw[q _ e]
 .by_cases e:a.block=i
  .unfold Ĉ;rw[e,v,p]
  .unfold Ĉ;rw[q _ e]
 .by_cases e:a.block=i
  .unfold Ġ at t;rw[e,p]at t;cases t
  .have:(w.setChan i f l m g h o).cell? a=w.cell? a:=by unfold Ġ;rw[q _ e]
   rwa[this]
def gK.G(b:gK P i X S C B lot E w qJ){J:Jd}{T:gq}{K:iz}(d:n<E.size)(f:pK (λn=>n<E.size) X lot w W)(c:wy u)(h:∀l∈u,l.act.low w.heap.size) (hF:kU P (n==0) J T (lot n) g) (m:g.status=Ð\/g.status=Ğ): gK P i X (fx S n J) (fx C n T) (fx B n K) lot (E.setIfInBounds n g) W (qJ++u):=by
 refine⟨?_,λk x a=> ?_,λj o=> ?_⟩
 .rw[show(λj=>j<(E.setIfInBounds n g).size)=(λj=>j<E.size) by simp];exact b.r.afw f c h
 .by_cases e:k=n
  .subst e;rw[Ò d]at a;obtain rfl:=Ĥ a;rw[gC,gC,gC];exact⟨_,hF,.gi,m,Ç U⟩
  .rw[Ï<|ą e]at a;rw[fH S _ e,fH C _ e,fH B _ e];exact b.C k x a
 .rw[I5 c];exact b.I j<|by simpa using o
def NG{γ δ:Type}{f:γ->List δ}:∀{l:List γ},(∀x∈l,f x=[])->l.flatMap f=[]
 |[],_=>rfl
 |x::l,h=>by rw[aU,h x fp,NG λy a=>h y (by simp[a])];rfl
def ya(r:Nat)(b:Bool)(g:Ó):Prop:=g.status=Ů/\∃a d,g.offers=À (a,d)/\∃c∈a,(c.send.isSome==b)=É/\(match c.chan with|ei (À r')=>r'==r|_=>Ã)=É
theorem Wz{r:Nat}{E:Array Ó}(h:∀(i:Nat) (g:Ó),E[i]?=À g->¬ya r yQ g):Η E r yQ=[]:=by
 unfold Η;refine NG λx m=> ?_;let⟨g,i⟩:=x;have d:E[i]?=À g:=by grind
 simp only[];split
 .rename_i b e f j;rw[ai,Υ];intro y n a;let⟨c,k⟩:=y;have l:c∈b:=by
   grind
  simp only[ě]at a;exact h i g d ⟨f,b,e,j,c,l,a.1,by have:=a.2;revert this;cases c.chan<;>first|exact id|(rename_i q;cases q<;>exact id)⟩
 .rfl
def WA{γ δ:Type}(f:γ×Nat->List δ):∀(L:List γ) (n h:Nat) (x:γ),(∀y k,k≠h->(y,k)∈L.zipIdx n->f (y,k)=[])->n<=h->L[h-n]?=À x->(L.zipIdx n).flatMap f=f (x,h)
 |[],n,h,x,_,_,hx=>by simp at hx
 |a::L,n,h,x,hf,hn,hx=>by
  rw[Ĭ,aU];by_cases e:h=n
  .subst e;have:a=x:=by simpa using hx
   subst this;rw[NG ?_,List.append_nil];intro y b;let⟨y,k⟩:=y;refine hf y k ?_ (by rw[Ĭ];exact ò _ b);have:=List.le_snd_of_mem_zipIdx b;simp only at this;omega
  .rw[hf a n Z (by rw[Ĭ];exact î ..),List.nil_append];refine WA f L (n+1) h x (λy k c b=>hf y k c<|by rw[Ĭ];exact ò _ b) Z ?_;have b:h-n=(h-(n+1))+1:=Z
   rw[b]at hx;simpa using hx
theorem afx{E:Array Ó}(l:E[n]?=À g)(m:g.status=Ů)(o:g.offers=À (#[θ i z],.recv É))(p:∀(a:Nat) (b:Ó),a≠n->E[a]?=À b->¬ya i Ã b):Η E i Ã=[(n,0)]:=by
 unfold Η;have e:E.zipIdx.toList=E.toList.zipIdx:=fp
 rw[e];rw[WA _ E.toList 0 n g (λy k r B=> ?_) (dz _) (by simpa using l)]
 .simp[m,o,θ]
 .have s:E[k]?=À y:=by
   grind
  simp only[];split
  .rename_i j t u v;rw[ai,Υ];intro x C d;let⟨f,D⟩:=x;have w:f∈j:=by
    grind
   simp only[ě]at d;exact p k y r s ⟨u,j,t,v,f,w,d.1,by have:=d.2;revert this;cases f.chan<;>first|exact id|(rename_i q;cases q<;>exact id)⟩
  .rfl
theorem NH(h:(E.setIfInBounds i ph)[k]?=À g):g.status=Ğ\/(k≠i/\E[k]?=À g):=by
 by_cases e:k=i
 .subst e;rw[Ś]at h;simp only[if_true]at h;split at h
  .left;obtain rfl:=Ĥ h;rfl
  .cases h
 .grind
theorem gK.NJ(l:gK P i X S C B lot E w qJ)(c a:Nat):Η (E.setIfInBounds a ph) c É=[]:=by
 refine Wz λk x m=> ?_;rintro⟨d,p,r,b,n,f,o,_⟩;rcases NH m with q|⟨_,q⟩
 .grind
 .let⟨g0,_,g,j,_⟩:=l.C k x q;generalize B k=K at g;cases g with
  |gi=>rw[d]at j;rcases j with e|e<;>cases e
  |nL h e=>simp only[e]at b;cases b
  |td e z h=>
   simp only[Γ,ž,Prod.mk.injEq]at b;rw[<-b.1]at f;have:n=θ e z:=by simpa using f
   subst this;cases o
  |mW e z h=>cases d
def gK.NK(e:gK P i X S C B lot E w qJ){N:Option Â->Jd}(f:E[n]?=À g)(k:g.status=Ð)(l:B n=.rZ j z)(m:C n=.fB)(o:S n=wv P (n==0) j z N): ∃a,kU P (n==0) (S n) (C n) (lot n) a/\a.status=Ð/\a.offers=ë/\Ù P (n==0) g w=.comm a #[θ j z] É (.recv É) w #[]/\∀x:Option Â,fi P (n==0) (N x) (lot n) {a with frame:=a.frame.finish (ſ #[x.getD z,Ľ x.isSome])}:=by
 let⟨a,hF,b,_,_⟩:=e.C n g f;have p:=hF;rw[o,m]at hF;let⟨x,q,d,r⟩:=hF _<|fG.fT _ _;rw[l]at b;refine⟨a,p,x,q,?_,r⟩;cases b with
 |gi=>exact d w
 |td j z h=>cases k
 |mW j z h=>rw[stepG_tries];rw[show({a with status:=Ð}:Ó)=a by cases a;simp only at x;subst x;rfl];exact d w
def yb{g0:Ó}{a:Array CommCase}{b:CommShape}{ok:Bool}(c:g0.status=Ð)(d:g0.offers=ë):g0.finishComm P a b h v ok={g0 with frame:=g0.frame.finish (commResult a b h v ok)}:=by let⟨f,a,st,e,o⟩:=g0;simp only at c d;subst c d;rfl
def gK.mX(e:gK P i X S C B lot E w qJ){N:Option Â->Jd}(h:E[n]?=À g)(G:g.status=Ð)(l:B n=.rZ j z)(H:C n=.fB)(I:S n=wv P (n==0) j z N)(p:X j){r:Nat}{o:Bool}(q:w.heap[j]?=À (χ b d yQ m r o))(t:d[0]?=À v)(K:iz): ∃a u T f,cW P (ķ E w sl) n=(ň<|ķ a (w.setChan j b (d.extract 1 d.size) yQ m (r+1) o) sl,u)/\a.size=E.size/\a[n]?=À f/\f.status=Ð/\(∀k,k≠n->a[k]?=E[k]?)/\wy u/\ gK P i X (fx S n<|N<|À v) (fx C n T) (fx B n K) lot a (w.setChan j b (d.extract 1 d.size) yQ m (r+1) o) (qJ++u):=by
 have x:=(Ë.1 h).1;let⟨g0,_,f,y,J,L⟩:=e.NK h G l H I;have D:d.getD 0 ľ=v:=by simp[ĩ,t]
 have M:=crowd_recv_buf (sl:=sl) h J q ((Ë.1 t).1)<|e.NJ j n;let⟨T,O⟩:=jk<|L<|À v;refine⟨_,_,T,{g0 with frame:=g0.frame.finish (ſ #[v,Ľ É])},M,fp,?_,f,λk l=>Ï<|ą l,?_,?_⟩
 .rw[yb f y,D,Ò x];rfl
 .intro F a;simp[Í]at a;rcases a with rfl|rfl<;>exact⟨U,fp⟩
 .rw[yb f y,D];refine e.G x (I6 p q _ _ _ _ _ _) ?_ ?_ O<|Ç f
  .intro F a;simp[Í]at a;rcases a with rfl|rfl<;>exact⟨U,fp⟩
  .intro F a;simp[Í]at a;rcases a with rfl|rfl<;>exact e.r.N j p
def gK.jd(e:gK P i X S C B lot E w qJ){N:Option Â->Jd}(h:E[n]?=À g)(q:g.status=Ð)(l:B n=.rZ j z)(t:C n=.fB)(v:S n=wv P (n==0) j z N)(x:X j){r:Nat}(y:w.heap[j]?=À (χ b #[] É k r yQ))(K:iz): ∃d u T f,cW P (ķ E w sl) n=(ň<|ķ d w sl,u)/\d.size=E.size/\d[n]?=À f/\f.status=Ð/\(∀a,a≠n->d[a]?=E[a]?)/\wy u/\ gK P i X (fx S n<|N ë) (fx C n T) (fx B n K) lot d w (qJ++u):=by
 have m:=(Ë.1 h).1;let⟨g0,_,f,o,D,F⟩:=e.NK h q l t v;let⟨T,G⟩:=jk<|F ë;refine⟨_,_,T,{g0 with frame:=g0.frame.finish (ſ #[z,Ľ Ã])},crowd_recv_closed (sl:=sl) h D y<|e.NJ j n,fp,?_,f,λa l=>Ï<|ą l,?_,?_⟩
 .rw[yb f o,Ò m];rfl
 .intro p d;simp[Í]at d;subst d;exact⟨U,fp⟩
 .rw[yb f o];refine e.G m (pK.fT _ _ _ _) ?_ ?_ G<|Ç f
  .intro p d;simp[Í]at d;subst d;exact⟨U,fp⟩
  .intro p d;simp[Í]at d;subst d;exact e.r.N j x
def gK.afy(f:gK P i X S C B lot E w qJ){N:Option Â->Jd}(m:E[n]?=À g)(u:g.status=Ð)(h:B n=.rZ j z)(o:C n=.fB)(v:S n=wv P (n==0) j z N){r:Nat}(p:w.heap[j]?=À (χ b #[] Ã k r yQ)): ∃d e,cW P (ķ E w sl) n=(ň<|ķ d w sl,#[])/\d.size=E.size/\d[n]?=À e/\e.status=Ů/\(∀a,a≠n->d[a]?=E[a]?)/\gK P i X S C B lot d w qJ:=by
 have q:=(Ë.1 m).1;let⟨g0,hF,t,G,y,H⟩:=f.NK m u h o v;have D:=crowd_waits (sl:=sl) m y (λd e=>by
  have:d=θ j z:=by simpa using e
  subst this;exact⟨by simp[illMade,θ,p],by simp[ways,θ,p,f.NJ j n]⟩)
 refine⟨_,Γ g0 #[θ j z]<|.recv É,?_,fp,Ò q,U,λa h=>Ï<|ą h,?_,λa x l=> ?_,λd F=>f.I d<|by simpa using F⟩
 .rw[D];rfl
 .rw[show(λd=>d<(E.setIfInBounds n<|Γ g0 #[θ j z]<|.recv É).size)=(λd=>d<E.size) by simp];exact f.r
 .by_cases e:a=n
  .subst e;rw[Ò q]at l;obtain rfl:=Ĥ l;refine⟨g0,hF,?_,Ç t,Î o⟩;rw[h];exact .td j z t
  .rw[Ï<|ą e]at l;exact f.C a x l
def gK.iK(f:gK P i X S C B lot E w qJ){N:Jd}(h:E[n]?=À g)(l:B n=.no)(F:C n=.fB)(G:S n=Af P (n==0) b v N)(p:X b){r:Nat}(t:w.heap[b]?=À (χ m d Ã J r yQ))(H:d.size<m) (I:∀(k:Nat) (x:Ó),E[k]?=À x->¬ya b Ã x): ∃e u T a,cW P (ķ E w sl) n=(ň<|ķ e (w.setChan b m (d.push v) Ã (J+1) r yQ) sl,u)/\e.size=E.size/\e[n]?=À a/\a.status=Ð/\(∀k,k≠n->e[k]?=E[k]?)/\wy u/\ gK P i X (fx S n N) (fx C n T) B lot e (w.setChan b m (d.push v) Ã (J+1) r yQ) (qJ++u):=by
 have y:=(Ë.1 h).1;let⟨g0,hF,z,_,_⟩:=f.C n g h;rw[l]at z;cases z with
 |gi=>
  rw[G,F]at hF;let⟨a,D,o,K⟩:=hF _<|fG.fT _ _;let⟨V,o⟩:=o w;have L:Η (E.setIfInBounds n ph) b Ã=[]:=Wz λk x M=>by
   rcases NH M with q|⟨_,q⟩
   .rintro⟨e,_⟩;rw[q]at e;cases e
   .exact I k x q
  let⟨T,O⟩:=jk K;have Q:fx B n .no=B:=by funext j;unfold fx;split<;>simp[*]
  refine⟨_,_,T,{g with frame:=g.frame.finish ľ},crowd_send_room (sl:=sl) h o t H L,fp,?_,a,λk l=>Ï<|ą l,?_,?_⟩
  .rw[yb a D,Ò y];rfl
  .intro q e;simp[Í]at e;rcases e with rfl|rfl<;>exact⟨U,fp⟩
  .rw[yb a D,<-Q];refine f.G y (I6 p t _ _ _ _ _ _) ?_ ?_ O<|Ç a
   .intro q e;simp[Í]at e;rcases e with rfl|rfl<;>exact⟨U,fp⟩
   .intro q e;simp[Í]at e;rcases e with rfl|rfl<;>exact f.r.N b p
def gK.afz(o:gK P i X S C B lot E w qJ){p:Ó}{N:Jd}{D:Option Â->Jd}(F:E[n]?=À g)(f:B n=.no)(ht:C n=.fB)(hs:S n=Af P (n==0) b v N)(L:X b){r:Nat}(M:w.heap[b]?=À (χ J d Ã j9 r yQ)) (G:j≠n) (t:E[j]?=À p) (O:p.status=Ů) (I7:B j=.rZ b z) (NL:C j=.fB) (I8:S j=wv P (j==0) b z D) (K:iz) (hp:∀(k:Nat) (x:Ó),k≠j->E[k]?=À x->¬ya b Ã x): ∃e u T y h q,cW P (ķ E w sl) n=(ň<|ķ e (w.setChan b J d Ã (j9+1) (r+1) yQ) sl,u)/\e.size=E.size/\e[n]?=À h/\h.status=Ð/\e[j]?=À q/\q.status=Ð/\(∀k,k≠n->k≠j->e[k]?=E[k]?)/\wy u/\ gK P i X (fx (fx S j<|D<|À v) n N) (fx (fx C j y) n T) (fx (fx B j K) n .no) lot e (w.setChan b J d Ã (j9+1) (r+1) yQ) (qJ++u):=by
 have Q:=(Ë.1 F).1;have V:=(Ë.1 t).1;let⟨g0,hF,W,_,_⟩:=o.C n g F;let⟨a,Y,WB,asN,_⟩:=o.C j p t;rw[f]at W;rw[I7]at WB;cases W with
 |gi=>
  rw[hs,ht]at hF;let⟨H,h2,I,h4⟩:=hF _<|fG.fT _ _;let⟨z',I⟩:=I w;rw[I8,NL]at Y;let⟨l,k2,k3,k4⟩:=Y _<|fG.fT _ _;have Cx:p=Γ a #[θ b z] (.recv É):=by
   cases WB with
   |gi=>rw[O]at l;cases l
   |td _ _ h=>rfl
   |mW _ _ h=>cases O
  subst Cx;have hpn:Η (E.setIfInBounds n ph) b Ã=[(j,0)]:=afx (by rwa[Ï<|ą G]) U U λk x f hx=>by
   rcases NH hx with q|⟨_,q⟩
   .rintro⟨e,_⟩;rw[q]at e;cases e
   .exact hp k x f q
  have NM:=crowd_send_meets (sl:=sl) F I M G t hpn;let⟨T,hT⟩:=jk h4;let⟨y,hTj⟩:=jk<|k4<|À v;rw[yb H h2,yb l k2]at NM;have q:∀{h:cX},h∈Í n g.frame.fn g.frame.place #[]++#[{g:=n,fn:=g.frame.fn,pos:=g.frame.place,act:=.send b j9},{g:=j,fn:=a.frame.fn,pos:=a.frame.place,act:=.recv b r J},{g:=n,fn:=g.frame.fn,pos:=g.frame.place,act:=.sendDone b j9},{g:=j,fn:=a.frame.fn,pos:=a.frame.place,act:=.recvDone b r}]->(h.act.touch?=ë/\∀m,h.act≠Ř m)/\h.act.low w.heap.size:=by intro h e;simp[Í]at e;rcases e with rfl|rfl|rfl|rfl<;>exact⟨⟨U,fp⟩,o.r.N b L⟩
  refine⟨_,_,T,y,{g with frame:=g.frame.finish ľ},{a with frame:=a.frame.finish (ſ #[v,Ľ É])},NM,fp,?_,H,?_,l,λk f tf=> ?_,λh e=>(q e).1,?_⟩
  .rw[Ò (by simpa using Q)];rfl
  .rw[Ï<|ą G,Ò V];rfl
  .rw[Ï<|ą f,Ï<|ą tf]
  .have m:gK P i X (fx S j<|D<|À v) (fx C j y) (fx B j K) lot (E.setIfInBounds j {a with frame:=a.frame.finish (ſ #[v,Ľ É])}) w (qJ++#[]):=o.G V (pK.fT _ _ _ _) (λh e=>by simp at e) (λh e=>by simp at e) hTj<|Ç l;rw[ď]at m;refine m.G (by simpa using Q) (I6 L M _ _ _ _ _ _) (λh e=>(q e).1) (λh e=>(q e).2) hT<|Ç H
theorem gK.kP(o:gK P i X S C B lot E w qJ){N:Jd}(I:E[n]?=À g)(K:B n=.no)(ht:C n=.fB)(hs:S n=I3 P (n==0) J N)(L:X J)(hB:i<=J){r:Nat}(O:w.heap[J]?=À (χ j9 q Ã j7 r yQ)): ∃t u T G,cW P (ķ E w sl) n=(ň<|ķ t (w.setChan J j9 q É j7 r yQ) sl,u)/\t.size=E.size/\t[n]?=À G/\G.status=Ð/\(∀k x,k≠n->E[k]?=À x->t[k]?=À (x.again<|w.setChan J j9 q É j7 r yQ))/\(∀l∈u,l.g=n)/\(∀l∈u,∀b,l.act.touch?=À b->b.loc=.obj J/\b.kind=Ŕ)/\(∀l∈u,∀m,l.act≠Ř m)/\ gK P i X (fx S n N) (fx C n T) B (gp lot n {lot n with w:=w.setChan J j9 q É j7 r yQ}) t (w.setChan J j9 q É j7 r yQ) (qJ++u):=by
 have H:=(Ë.1 I).1;have Q:=o.r.N J L;let⟨g0,hF,V,_,_⟩:=o.C n g I;rw[K]at V;cases V with
 |gi=>
  rw[hs,ht]at hF;let⟨h1,h2,G,M,h4,h5⟩:=hF w<|o.r.r n H;have v:=I6 (lot:=lot) (Live:=λn=>n<E.size) L O j9 j7 r q É yQ;have y:fG (lot n) w (w.setChan J j9 q É j7 r yQ):=⟨dy v.r.symm,λj hj=>v.jP j<|o.r.I n H j hj,λa z=>v.M n H a z,λa z=>v.N n H a z,λa _=>v.I a⟩;let⟨T,hT⟩:=jk<|h5.jY ⟨y.r,y.I,y.N,y.Y,y.S⟩;have W:ŭ (lot n).d (Cv J)=(lot n).d:=bn (λe f=>by simp[Cv]at f;grind) _;have D:∀e∈Cv J,(∀b,(è e).touch?=À b->b.loc=.obj J/\b.kind=Ŕ)/\(è e).low w.heap.size:=by
   intro e f;simp[Cv]at f;rcases f with rfl|rfl
   .exact⟨λb h=>by simp[è,ÿ]at h;subst h;exact⟨U,U⟩,Q⟩
   .exact⟨λb h=>by simp[è,ÿ]at h,Q⟩
  have e2:fx B n .no=B:=by funext j;unfold fx;split<;>simp[*]
  obtain⟨t,q1,q2,q3,q4,Y⟩:=o.qp I (h4 w j9 q j7 r yQ O) v (by rwa[W]) (Ç M) (λe f=>⟨λb h=>Î ⟨J,((D e f).1 b h).1,L,((D e f).1 b h).2⟩,(D e f).2⟩) (Nx o.r.l nZ λl F b h=>by obtain⟨e,f,rfl⟩:=í F;let⟨z1,z2⟩:=(D e f).1 b h;refine Î (Î ⟨z2,λp a z hl tg=> ?_⟩);have:=o.r.s p a J z (by rw[hl,z1]) tg;omega);rw[W,e2]at Y;refine⟨t,_,T,G,q1,q2,q3,M,λk x K p=> ?_,nZ,λl F b h=> ?_,λl F=> ?_,Y⟩
  .rw[q4 k K,p];simp only[bG,ž];unfold ţ;rw[if_pos (by simp[h2,M])]
  .obtain⟨e,f,rfl⟩:=í F;exact(D e f).1 b h
  .obtain⟨e,f,rfl⟩:=í F;simp[Cv]at f;intro m;rcases f with rfl|rfl<;>simp[è]
end
def fM(b:Nat):Ú:=⟨b,0,ë⟩
def gV(b:Nat):Ú:=⟨b,1,ë⟩
inductive GS where
 |cl (c reg:Nat)
 |jB (reg:Nat)
 |gW (r s:Nat)
def GS.st:GS->Int
 |.cl c a=>c*fX+a
 |.jB a=>a
 |.gW _ _=>0
def GS.sm:GS->Int
 |.gW _ s=>s
 |_=>0
def GS.ok:GS->Prop
 |.cl c r=>c<1000000/\r<1000000/\(c=0->r=0)
 |.jB r=>0<r/\r<1000000
 |.gW r s=>r+s<1000000
structure ia(w:Æ)(b:Nat)(G:GS):Prop where
 C:w.cell? (fM b)=À (Ć æ G.st)
 M:w.cell? (gV b)=À (Ć ŗ G.sm)
 I:w.frozen? (fM b)=Ã
 N:w.frozen? (gV b)=Ã
 r:G.ok
theorem Ag(h:w.cell? a=À x):(w.setCell a v).cell? a=À v:=by unfold Ġ at h|-;unfold ĉ;grind
theorem yc(h:a.block≠p.block\/a.off≠p.off):(w.setCell a v).cell? p=w.cell? p:=by unfold Ġ ĉ;grind
theorem NN:kN (w.setCell a v) b=kN w b:=by unfold kN ĉ;grind
def sd:(w.setCell a v).frozen? p=w.frozen? p:=by simp_all
theorem lj(h:j≠a.block):(w.setCell a v).heap[j]?=w.heap[j]?:=by unfold ĉ;grind
def jV:(w.setCell a v).heap.size=w.heap.size:=by simp_all
theorem yd(h:(w.cell? p).isSome=É):((w.setCell a v).cell? p).isSome=É:=by unfold Ġ ĉ at*;grind
theorem afA{Live Y:Nat->Prop}{c:Nat->fc}(f:Y a.block)(l:a.spot=ë)(m:∀k,Live k->¬(c k).C a)(g:∀k,Live k->∀b,(c k).C b->b.spot=ë):pK Live Y c w (w.setCell a v):=by
 refine⟨jV,λj h=>lj λe=>h<|e▸f,λk i b d=>yc ?_,λ_ _ _ _=>sd,λb d=>yd d⟩;by_cases e:a.block=b.block
 .right;intro n;have:=g k i b d;let⟨o,p,q⟩:=b;let⟨r,s,t⟩:=a;grind
 .exact Ç e
section
variable{b:Nat}{G:GS}
def ia.u5(h:ia w b G)(a:u.cell? (fM b)=w.cell? (fM b))(c:u.cell? (gV b)=w.cell? (gV b))(d:u.frozen? (fM b)=w.frozen? (fM b))(e:u.frozen? (gV b)=w.frozen? (gV b)):ia u b G:= ⟨a.trans h.C,c.trans h.M,d.trans h.I,e.trans h.N,h.r⟩
def ia.iR(h:ia w b G)(c:a.block≠b):ia (w.setCell a v) b G:= h.u5 (yc<|Ç c) (yc<|Ç c) sd sd
def ia.I9{G':GS}(h:ia w b G)(a:G'.sm=G.sm)(d:G'.ok)(e:c=G'.st):ia (w.setCell (fM b)<|Ć æ c) b G':= ⟨by rw[Ag h.C,e],by rw[yc (Î<|by simp[fM,gV]),h.M,a],by rw[sd,h.I],by rw[sd,h.N],d⟩
def ia.WC{G':GS}(h:ia w b G)(a:G'.st=G.st)(d:G'.ok)(e:c=G'.sm):ia (w.setCell (gV b)<|Ć ŗ c) b G':= ⟨by rw[yc (Î<|by simp[fM,gV]),h.C,a],by rw[Ag h.M,e],by rw[sd,h.I],by rw[sd,h.N],d⟩
end
theorem Ja(a:0<=h)(b:h<18446744073709551616):æ.wrap h=h:=by have:æ.wrap h=h%18446744073709551616:=rfl;rw[this];omega
def afB(a:4294967296<=h)(b:h<18446744073709551616):æ.wrap (h+18446744069414584320)=h-4294967296:=by have:æ.wrap (h+18446744069414584320)=(h+18446744069414584320)%18446744073709551616:=rfl;rw[this];omega
theorem afC(a:0<=h)(b:h<4294967296):ŗ.wrap h=h:=by have:ŗ.wrap h=h%4294967296:=rfl;rw[this];omega
def qt:Int:=18446744069414584320
def GS.jG:GS->GS
 |.cl (c+1) reg=>if c=0/\0<reg then .jB reg else .cl c reg
 |G=>G
section
variable{b:Nat}
theorem ia.afD(h:ia w b (.cl i 0))(a:i+1<1000000):æ.wrap ((GS.cl i 0).st+fX)=(GS.cl (i+1) 0).st/\ia (w.setCell (fM b)<|Ć æ<|æ.wrap<|(GS.cl i 0).st+fX) b (.cl (i+1) 0):=by
 have e:æ.wrap ((GS.cl i 0).st+fX)=(GS.cl (i+1) 0).st:=by simp only[GS.st,fX];grind [Ja]
 exact⟨e,h.I9 (G':=.cl (i+1) 0) U ⟨a,Z,Z⟩ e⟩
def ia.jG(h:ia w b (.cl (i+1) n)):æ.wrap ((GS.cl (i+1) n).st+qt)=(GS.jG<|.cl (i+1) n).st/\ia (w.setCell (fM b)<|Ć æ<|æ.wrap<|(GS.cl (i+1) n).st+qt) b (GS.jG<|.cl (i+1) n):=by
 let⟨f,a,g⟩:=h.r;have d:æ.wrap ((GS.cl (i+1) n).st+qt)=(i:Int)*fX+n:=by simp only[GS.st,fX,qt];rw[afB Z Z];omega
 have e:æ.wrap ((GS.cl (i+1) n).st+qt)=(GS.jG<|.cl (i+1) n).st:=by
  rw[d];simp only[GS.jG];by_cases q:i=0/\0<n
  .rw[if_pos q];obtain⟨rfl,_⟩:=q;simp[GS.st]
  .rw[if_neg q];rfl
 refine⟨e,h.I9 ?_ ?_ e⟩
 .simp only[GS.jG];split<;>rfl
 .simp only[GS.jG];by_cases q:i=0/\0<n
  .rw[if_pos q];exact⟨q.2,a⟩
  .rw[if_neg q];exact⟨Z,a,λe=>by omega⟩
theorem ia.WE(h:ia w b (.cl i n))(f:0<i)(a:n+1<1000000):æ.wrap ((GS.cl i n).st+1)=(GS.cl i<|n+1).st/\ia (w.setCell (fM b)<|Ć æ<|æ.wrap<|(GS.cl i n).st+1) b (.cl i (n+1)):=by
 let⟨d,g,j⟩:=h.r;have e:æ.wrap ((GS.cl i n).st+1)=(GS.cl i<|n+1).st:=by simp only[GS.st,fX];grind [Ja]
 exact⟨e,h.I9 (G':=.cl i (n+1)) U ⟨d,a,λe=>by omega⟩ e⟩
def ia.WG(h:ia w b (.jB i)):ia (w.setCell (fM b)<|Ć æ 0) b (.gW i 0):= h.I9 (G':=.gW i 0) U (by have:=h.r;simp only[GS.ok]at this|-;omega) U
theorem ia.jA{r:Nat}(h:ia w b (.gW (r+1) i)):ia (w.setCell (gV b)<|Ć ŗ<|ŗ.wrap<|(GS.gW (r+1) i).sm+1) b (.gW r (i+1)):=by have:=h.r;simp only[GS.ok]at this;refine h.WC (G':=.gW r (i+1)) U (by simp only[GS.ok];omega) ?_;simp only[GS.sm];grind [afC]
def ia.kt{r:Nat}(h:ia w b (.gW r (i+1))):ia (w.setCell (gV b)<|Ć ŗ<|(GS.gW r<|i+1).sm-1) b (.gW r i):=by have:=h.r;simp only[GS.ok]at this;refine h.WC (G':=.gW r i) U (by simp only[GS.ok];omega) ?_;simp only[GS.sm];omega
def ia.afE{G:GS}(h:ia w b G):(0<=G.st/\G.st<fX)↔∀c a,G=.cl c a->c=0:=by
 have d:=h.r;cases G with
 |cl c a=>
  let⟨r,s,f⟩:=d;simp only[GS.st,fX];constructor
  .intro q g i e;cases e;omega
  .intro q;have:=q c a U;subst this;omega
 |jB a=>simp only[GS.ok]at d;simp only[GS.st,fX];exact⟨λ_ _ _ e=>(by cases e),λ_=>by omega⟩
 |gW r s=>simp only[GS.st,fX];exact⟨λ_ _ _ e=>(by cases e),λ_=>by omega⟩
end
inductive jC where
 |jA|iF|gy (W:Nat)|jb (W:Nat)|iA (r:Nat)
inductive jq where
 |iX|lO (p:SP)|wr|kt|gy|kV
section
variable(P:Õ)(main:Bool)(B:Nat)(b:Nat)(J:Jd)
def Ft:Nat->Jd
 |0=>J
 |r+1=>λl g=>l.d=1/\afr P main (gV b) (match r with|0=>J|_=>fi P main<|Ft r) l g
def Jb(W:Nat):Jd:=λl g=>l.d=1/\afp P main (fM b) 0 (Ft P main b J W) l g
def Jc(W:Nat):Jd:=λl g=>l.d=1/\Ww P main (fM b) (λv=>if v=(W:Int)then Jb P main b J W else λ_ _=>True) l g
def NO:Jd:=λl g=>l.d=1/\NA P main (fM b) qt (λs=>if s=0\/(fX<=s/\s<1000000*fX/\s%fX<1000000)then J else if 0<s/\s<1000000 then fi P main (Jc P main b J s.toNat)else λ_ _=>True) l g
def ye:Jd:=λl g=>l.d=0/\Fq P main (Ķ<|fM b) (NO P main b J) l g
def Cy:jC->Jd
 |.jA=>ye P main b J
 |.iF=>NO P main b J
 |.gy W=>Jc P main b J W
 |.jb W=>Jb P main b J W
 |.iA r=>Ft P main b J r
def Fu:Jd:=λl g=>l.d=0/\Fq P main (cL<|fM b) J l g
def WH:Jd:=λl g=>l.d=1/\Ww P main (fM b) (λv=>if v=0 then Fu P main b J else λ_ _=>True) l g
def Je:Jd:=λl g=>l.d=1/\afq P main (gV b) (WH P main b J) l g
def NP:Jd:=λl g=>l.d=1/\Fq P main (.write<|gV b) (Je P main b J) l g
def NQ(p:SP):Jd:=λl g=>l.d=1/\Cw P main (fM b) B (λ_=>Fu P main b J) (λv=>if v%fX=0 then NP P main b J else Je P main b J) p l g
def qu:jq->Jd
 |.iX=>λl g=>∃k,k<=B/\NQ P main B b J (.fZ k) l g
 |.lO p=>NQ P main B b J p
 |.wr=>NP P main b J
 |.kt=>Je P main b J
 |.gy=>WH P main b J
 |.kV=>Fu P main b J
end
section
variable{P:Õ}{Y:Nat->Prop}{S:Nat->Jd}{tr:Nat->gq}{f:Nat->iz}{lot:Nat->fc}{gs:Array Ó}{t:ğ}
theorem iQ.C{Live:Nat->Prop}(h:iQ n Live Y lot w t)(E:Live i){l:fc}(s:∀b,l.O b->(lot i).O b) (x:∀b,l.I b->(lot i).M b\/(b<w.heap.size/\¬Y b/\(∀k,Live k->¬(lot k).O b)/\∀a:Ú,a.block=b->oX t i (û a))) (u:∀a,l.r a->(lot i).r a) (y:∀a,l.N a->(lot i).C a\/(Y a.block/\(∀k,Live k->¬(lot k).r a)/\oX t i (û a))) (F:l.K=(lot i).K) (D:l.d=(lot i).d) (G:l.w=w) (H:∀b,l.O b->¬l.I b) (I:∀a,l.r a->¬l.N a):iQ n Live Y (gp lot i l) w t:=by
 have v:∀b,l.M b->(lot i).M b\/(b<w.heap.size/\¬Y b/\(∀k,Live k->¬(lot k).O b)/\∀a:Ú,a.block=b->oX t i (û a)):=λb g=>g.elim (λq=>Ç<|Ç<|s b q)<|x b;have B:∀a,l.C a->(lot i).C a\/(Y a.block/\(∀k,Live k->¬(lot k).r a)/\oX t i (û a)):=λa f=>f.elim (λq=>Ç<|Ç<|u a q)<|y a;refine⟨λk j c o m b g=> ?_,λk j c o m a f=> ?_,λk c b g=> ?_,λk c a f=> ?_,λk c b g=> ?_,λk c a f=> ?_,λk c b g=> ?_,h.N,λk c=> ?_,λk c=> ?_,λk c=> ?_,h.l,h.q,h.s,λk c a f=> ?_⟩
 .by_cases e:k=i
  .subst e;rw[gS]at g;rw[gE lot _<|ą m];exact h.o k j c o m b<|s b g
  .rw[gE lot _ e]at g;by_cases p:j=i
   .subst p;rw[gS];intro q;rcases v b q with z|⟨_,_,z,_⟩
    .exact h.o k j c o m b g z
    .exact z k c g
   .rw[gE lot _ p];exact h.o k j c o m b g
 .by_cases e:k=i
  .subst e;rw[gS]at f;rw[gE lot _<|ą m];exact h.h k j c o m a<|u a f
  .rw[gE lot _ e]at f;by_cases p:j=i
   .subst p;rw[gS];intro q;rcases B a q with z|⟨_,z,_⟩
    .exact h.h k j c o m a f z
    .exact z k c f
   .rw[gE lot _ p];exact h.h k j c o m a f
 .by_cases e:k=i
  .grind [gS]
  .rw[gE lot _ e]at g|-;exact h.m k c b g
 .by_cases e:k=i
  .grind [gS]
  .rw[gE lot _ e]at f|-;exact h.g k c a f
 .by_cases e:k=i
  .subst e;rw[gS]at g;exact(v b g).elim (h.I k c b) λz=>z.2.1
  .rw[gE lot _ e]at g;exact h.I k c b g
 .by_cases e:k=i
  .subst e;rw[gS]at f;exact(B a f).elim (h.e k c a) λz=>z.1
  .rw[gE lot _ e]at f;exact h.e k c a f
 .by_cases e:k=i
  .subst e;rw[gS]at g;exact(v b g).elim (h.fu k c b) λz=>z.1
  .rw[gE lot _ e]at g;exact h.fu k c b g
 .by_cases e:k=i
  .grind [gS,fG.fT]
  .rw[gE lot _ e];exact h.r k c
 .by_cases e:k=i
  .subst e;rw[gS];refine⟨λa f=>(h.S k c).fl a<|s _ f,λa f=> ?_,λa f=>(h.S k c).I a<|u a f,λa f=> ?_⟩
   .rcases x _ f with(z|z)|⟨_,_,_,z⟩
    .exact((h.S k c).fl a z).r
    .exact(h.S k c).C a z
    .exact z a U
   .rcases y _ f with(z|z)|⟨_,_,z⟩
    .exact((h.S k c).I a z).r
    .exact(h.S k c).r a z
    .exact z
  .rw[gE lot _ e];exact h.S k c
 .by_cases e:k=i
  .subst e;rw[gS,D];exact h.f k c
  .rw[gE lot _ e];exact h.f k c
 .have e:(lot k).K a:=by
   grind [gS,gE]
  let⟨p,q⟩:=h.n k c a e;grind [gS,gE]
def gK.M(b:gK P n Y S tr f lot gs w t){J:Jd}{T:gq}{K:iz}{l:fc}(c:gs[i]?=À g)(d:g.status=Ð\/g.status=Ğ)(h:iQ n (λi=>i<gs.size) Y (gp lot i l) w t)(hF:kU P (i==0) J T l g): gK P n Y (fx S i J) (fx tr i T) (fx f i K) (gp lot i l) gs w t:=by
 refine⟨h,λk x a=> ?_,b.I⟩;by_cases e:k=i
 .subst e;rw[c]at a;obtain rfl:=Ĥ a;rw[gC,gC,gC,gS];exact⟨g,hF,.gi,d,Ç U⟩
 .rw[fH S _ e,fH tr _ e,fH f _ e,gE lot _ e];exact b.C k x a
end
end Go.Proofs.Y.fA
namespace Go.Proofs.Y.fA
open Go Go.Conc Go.Proofs.Y.Lift
open Go.ConcN (RelBy fork_knows)
def Ah(t:ğ)(p:Nat)(l:dQ):Prop:=∀q a,Ě t q=À a->a.loc=l->a.write=É->Before t q p
theorem Ah.NS{u:ğ}{l:dQ}(h:Ah qJ i l)(j:∀c∈u,∀b,c.act.touch?=À b->b.loc=l->b.write=É->False):Ah (qJ++u) i l:=by
 intro q a e f g;rcases mH e with⟨_,d⟩|⟨_,c,d,k,_⟩
 .exact(h q a d f g).app u
 .grind
def Ah.afF{l:dQ}(h:Ah qJ i l)(b:bC qJ n i):oX qJ n l:=λq a c d e=>Knows.of_before (h q a c d e) b
theorem afG{l:dQ}(h:oX qJ i l)(c:wQ.g=i)(j:wQ.act.touch?=ë):Ah (qJ++#[wQ]) qJ.size l:=by
 intro q a d e f;rcases mH d with⟨_,b⟩|⟨_,k,b,m,_⟩
 .exact Î<|(h q a b e f).hb_new (ß _) (by rw[ć<|ß _];simp) c
 .grind
structure Fx where
 L:Nat
 m:Nat
 C:Nat
 I:Nat->Nat
def Fx.M(F:Fx)(b:Nat):Prop:=b=F.C\/∃k,k<=F.m/\b=F.I k
def Fx.G(F:Fx)(x:Ú):Prop:=∃b,F.M b/\(x=fM b\/x=gV b)
def je(F:Fx)(k:Nat):Ú:=⟨F.I k,2,ë⟩
def Fx.NT(F:Fx)(a:Nat->Option Nat)(x:Ú)(g:Option Nat):Prop:=(x=gV F.C/\g=À 0)\/∃k j,k<=F.m/\x=gV (F.I k)/\a k=À j/\g=À (F.L+1+j)
structure TI(F:Fx)(t0:Nat)(jl:dQ->Prop)(sp rl:Nat)(V:Nat->Nat->Prop)(pk:Nat->Nat)(fs:Nat->Option Nat)(rx:Nat->Prop)(ql:Nat->Nat)(t:ğ):Prop where
 N:t0<=t.size
 M:∀p a x,Ě t p=À a->a.loc=û x->F.G x->(p<t0/\t.g? p=À 0)\/a.kind=Ŕ\/(a.kind=.said/\F.NT fs x (t.g? p))
 Ai:∀x,x<sp->∀p,p<t0->t.g? p=À 0->bC t (F.L+x) p
 Y:∀k,1<=k->k<=rl->t.act? (pk k)=À (Ř<|Ķ<|fM<|F.I k)/\t.g? (pk k)=À F.L/\t.heard (pk k)
 I:∀k,1<=k->k<=rl->∀a:Ú,(V k a.block\/a=je F k)->Ah t (pk k) (û a)
 c:∀b,F.M b->NoRelease (fM b) t
 r:∀x,x<sp->rx x->RelBy (fM F.C) t (F.L+x) (ql x)/\∀p a,Ě t p=À a->t.g? p=À (F.L+x)->p<=ql x\/((∃y:Ú,a.loc=û y/\y.block=F.C)/\a.kind=Ŕ)
 S:∀p a,t0<=p->Ě t p=À a->t.g? p=À 0\/∃x,x<sp/\t.g? p=À (F.L+x)
 e:∀p a,p<t0->Ě t p=À a->a.loc.isMemory=É->bC t 0 p\/(jl a.loc/\a.kind=Ŕ)
 d:∀p g,p<t0->t.g? p=À g->g≠0->t.counts p->∃j,t.g? j=À 0/\HappensBefore t p j
section
variable{F:Fx}{t0:Nat}{jl:dQ->Prop}{sp rl:Nat}{V:Nat->Nat->Prop}{pk:Nat->Nat}{fs:Nat->Option Nat}{rx:Nat->Prop}{ql:Nat->Nat}{t u:ğ}
theorem Jf(h:t.g? i=À n):i<t.size:=by unfold Ņ at h;grind
def Fv(h:t.g? i=À n):(t++u).g? i=À n:=by rwa[aF<|Jf h]
theorem NU{a:dL}(h:Ě t i=À a):i<t.size:=by let⟨b,c,_⟩:=dM h;grind
structure Jg(F:Fx)(sp rl:Nat)(V:Nat->Nat->Prop)(fs:Nat->Option Nat)(rx:Nat->Prop)(t u:ğ)(i:Nat):Prop where
 C:∀op∈u,∀a,op.act.touch?=À a->op.g=i
 S:i=0\/(∃x,x<sp/\i=F.L+x)\/∀op∈u,op.act.touch?=ë
 M:∀op∈u,∀a x,op.act.touch?=À a->a.loc=û x->F.G x->a.kind=Ŕ\/(a.kind=.said/\F.NT fs x (À i))
 fJ:∀op∈u,∀(a:dL) (y:Ú),op.act.touch?=À a->a.write=É->a.loc=û y->∀k,1<=k->k<=rl->¬V k y.block/\y≠je F k
 N:∀op∈u,∀b,F.M b->op.act≠Ř (dN<|fM b)
 I:∀x,x<sp->rx x->(∀r,RelBy (fM F.C) t (F.L+x) r->RelBy (fM F.C) (t++u) (F.L+x) r)/\(F.L+x=i->∀op∈u,∀a,op.act.touch?=À a->(∃y:Ú,a.loc=û y/\y.block=F.C)/\a.kind=Ŕ)
def TI.C(h:TI F t0 jl sp rl V pk fs rx ql t)(f:Jg F sp rl V fs rx t u i):TI F t0 jl sp rl V pk fs rx ql (t++u) where
 N:=by rw[Array.size_append];have:=h.N;omega
 M p a x n y hc:=by
  rcases mH n with⟨d,c⟩|⟨d,m,c,l,j⟩
  .rw[aF d];exact h.M p a x c y hc
  .refine Î ((f.M m c a x l y hc).imp id λq=>⟨q.1,?_⟩);have:(t++u).g? p=À i:=by unfold Ņ;rw[j];simp[f.C m c a l]
   rw[this];exact q.2
 Ai x r p d o:=(h.Ai x r p d<|by rwa[aF<|Ô d h.N]at o).app u;Y k c l:=by let⟨v,s,b⟩:=h.Y k c l;have w:=Jf s;exact⟨by rwa[dO w],Fv s,(heard_old w).2 b⟩
 I k c l a n:=(h.I k c l a n).NS λm B b z y C=>by have:=f.fJ m B b a z C y k c l;exact n.elim this.1 this.2
 c b z:=(h.c b z).app λm B=>f.N m B b z;r x r hr:=by
  let⟨v,s⟩:=h.r x r hr;let⟨D,E⟩:=f.I x r hr;refine⟨D _ v,λp a n o=> ?_⟩;rcases mH n with⟨d,c⟩|⟨d,m,c,l,j⟩
  .exact s p a c<|by rwa[aF d]at o
  .have e:(t++u).g? p=À i:=by unfold Ņ;rw[j];simp[f.C m c a l]
   rw[e]at o;exact Î<|E (Ĥ o).symm m c a l
 S p a d n:=by
  rcases mH n with⟨D,c⟩|⟨_,m,c,l,j⟩
  .rw[aF D];exact h.S p a d c
  .have e:(t++u).g? p=À i:=by unfold Ņ;rw[j];simp[f.C m c a l]
   rw[e];rcases f.S with q|⟨x,r,q⟩|q
   .exact Ç<|by rw[q]
   .exact Î ⟨x,r,by rw[q]⟩
   .rw[q m c]at l;cases l
 e p a d n hm:=by rw[touchAt_old<|Ô d h.N]at n;exact(h.e p a d n hm).imp (·.app u) id
 d p g d o kO hc:=by have w:=Ô d h.N;rw[aF w]at o;rw[eh w]at hc;let⟨j,v,s⟩:=h.d p g d o kO hc;exact⟨j,Fv v,ef u s⟩
theorem yf(f:∀c∈u,c.act.touch?=ë)(h:∀c∈u,∀b,F.M b->c.act≠Ř (dN<|fM b)):Jg F sp rl V fs rx t u 0 where
 C c e a d:=by rw[f c e]at d;cases d
 S:=Ç U;M c e a x d:=by rw[f c e]at d;cases d
 fJ c e a y d:=by rw[f c e]at d;cases d
 N:=h;I x hx g:=by refine⟨λr g=>g.app λj l m i=> ?_,λ_ c e a d=>by rw[f c e]at d;cases d⟩;let⟨z,k,_⟩:=i;rcases mH k with⟨q,_⟩|⟨_,c,n,o,_⟩;all_goals grind
def TI.afH(h:TI F t0 jl sp rl V pk fs rx ql t){b:Nat->Option Nat}(c:∀k y,fs k=À y->b k=À y):TI F t0 jl sp rl V pk b rx ql t:= {h with M:=λp a x d e f=>(h.M p a x d e f).imp id (Or.imp id λq=>⟨q.1,q.2.imp id λ⟨k,j,g,i,l,m⟩=>⟨k,j,g,i,c k j l,m⟩⟩)}
theorem TI.Fw(h:TI F t0 jl sp rl V pk fs rx ql t){y:cX}(j:wQ.g=0/\wQ.act=.go (F.L+sp))(k:y.g=F.L+sp/\y.act=.start)(m:Τ t 0=0)(n:Τ t (F.L+sp)=0)(B:¬rx sp)(o:∀wQ,rx wQ->wQ<sp):TI F t0 jl (sp+1) rl V pk fs rx ql (t++#[wQ,y]):=by
 have q:∀c∈#[wQ,y],c.act.touch?=ë:=by
  intro c a;simp at a;rcases a with rfl|rfl
  .rw[j.2];rfl
  .rw[k.2];rfl
 have r:∀c∈#[wQ,y],∀b,F.M b->c.act≠Ř (dN<|fM b):=by grind
 have d:=h.C<|yf q r;refine{d with Ai:=λz s p f i=> ?_,r:=λz s l=>d.r z (o z l) l,S:=λp a f u=>((d.S p a f u).imp id λ⟨z,v,e⟩=>⟨z,Z,e⟩)}
 .by_cases e:z<sp
  .exact d.Ai z e p f i
  .obtain rfl:z=sp:=Z
   rw[aF<|Ô f h.N]at i;let⟨c,v,w⟩:=ģ.1 i;have:=bm v;rw[w]at this;exact cO j k m n this
theorem afI{y:cX}(d:wQ.g=0/\wQ.act=.go k)(e:y.g=k/\y.act=.start)(j:Τ t 0=0)(m:Τ t k=0){l:dQ}:(qo t 0 l->qo (t++#[wQ,y]) k l)/\(oX t 0 l->oX (t++#[wQ,y]) k l):=by
 have q:∀c∈#[wQ,y],c.act.touch?=ë:=by
  intro c a;simp at a;rcases a with rfl|rfl
  .rw[d.2];rfl
  .rw[e.2];rfl
 refine⟨λh p a f i=> ?_,λh p a f i n=> ?_⟩
 .rcases mH f with⟨_,b⟩|⟨_,c,b,o,_⟩
  .exact cO d e j m<|h p a b i
  .grind
 .rcases mH f with⟨_,b⟩|⟨_,c,b,o,_⟩
  .exact cO d e j m<|h p a b i n
  .grind
theorem TI.afJ(h:TI F t0 jl sp rl V pk fs rx ql t)(f:wQ.g=F.L)(i:wQ.act=Ř (Ķ<|fM<|F.I<|rl+1))(l:Τ t F.L=0)(q:∀a:Ú,(V (rl+1) a.block\/a=je F (rl+1))->oX t F.L (û a)): TI F t0 jl sp (rl+1) V (fx pk (rl+1) t.size) fs rx ql (t++#[wQ]):=by
 have m:∀c∈#[wQ],c.act.touch?=ë:=by
  intro c e;have:c=wQ:=by simpa using e
  rw[this,i];rfl
 have d:=h.C (yf m λc e b _=>by grind);have n:(t++#[wQ])[t.size]?=À wQ:=by rw[ć<|ß _];simp
 have j:∀k,k<=rl->fx pk (rl+1) t.size k=pk k:=λk r=>fH pk _ Z;refine{d with Y:=λk b o=> ?_,I:=λk b o a p=> ?_}
 .by_cases e:k=rl+1
  .subst e;rw[gC];exact⟨by rw[ez n,i],by simp[Ņ,f],⟨F.L,by simp[Ņ,f],by rwa[cN<|ß _]⟩⟩
  .rw[j k Z];exact d.Y k b Z
 .by_cases e:k=rl+1
  .grind [gC,afG]
  .rw[j k Z];exact d.I k b Z a p
theorem TI.afK(h:TI F t0 jl sp rl V pk fs rx ql t){x:Nat}(r:x<sp)(d:wQ.g=F.L+x)(f:wQ.act=Ř (Ķ<|fM F.C))(k:Τ t (F.L+x)=0)(s:¬rx x): TI F t0 jl sp rl V pk fs (λz=>rx z\/z=x) (fx ql x t.size) (t++#[wQ]):=by
 have l:∀c∈#[wQ],c.act.touch?=ë:=by
  intro c a;have:c=wQ:=by simpa using a
  rw[this,f];rfl
 have j:=h.C (yf l λc a b _=>by grind);have b:(t++#[wQ])[t.size]?=À wQ:=by rw[ć<|ß _];simp
 refine{j with r:=λz m n=> ?_};by_cases e:z=x
 .subst e;rw[gC];refine⟨⟨by rw[ez b,f],by simp[Ņ,d],⟨F.L+z,by simp[Ņ,d],by rwa[cN<|ß _]⟩,λi u o=> ?_⟩,λp a q _=>Ç ?_⟩
  .have:=Jf o;simp at this;omega
  .have:=NU q;simp at this;omega
 .rw[fH ql _ e];exact j.r z m<|n.resolve_right e
def WI(e:t.act? i=À (Ř<|Ķ a))(f:t.g? i=À k)(h:t.heard i)(l:NoRelease a t)(c:wQ.g=n)(m:wQ.act=Ř (cL a))(o:Τ t n=0):bC (t++#[wQ]) n i:=by
 have b:=Jf f;have d:(t++#[wQ])[t.size]?=À wQ:=by rw[ć<|ß _];simp
 refine⟨t.size,wQ,d,c,Î<|.single<|Î ⟨.marked b (Î<|by rwa[dO b]) (by rw[ez d,m]) λj _ q=> ?_,(heard_old b).2 h,⟨n,by simp[Ņ,c],by rwa[cN<|ß _]⟩⟩⟩;rw[dO q];exact l j
theorem TI.kP(h:TI F t0 jl sp rl V pk fs rx ql t)(G:wQ.g=0)(o:wQ.act=Ř (cL<|fM F.C))(H:Τ t 0=0)(k:∀x,x<sp->rx x): (∀p a,Ě (t++#[wQ]) p=À a->a.loc.isMemory=É->bC (t++#[wQ]) 0 p\/((jl a.loc\/∃x:Ú,a.loc=û x/\x.block=F.C)/\a.kind=Ŕ))/\(t++#[wQ]).HandedOver:=by
 have Q:wQ.act.touch?=ë:=by rw[o];rfl
 have s:=λx c=>by let⟨b,_⟩:=h.r x c<|k x c;exact WI b.act b.g b.heard (h.c _<|Ç U) G o H
 have u:∀p a,Ě (t++#[wQ]) p=À a->p<t.size/\Ě t p=À a:=λp a l=>by rcases mH l with q|⟨_,v,d,w,_⟩;all_goals grind
 have B:∀p q x,t.g? p=À (F.L+x)->t.g? q=À (F.L+x)->p<=q->Before (t++#[wQ]) p q:=λp q x d w S=>by
  rcases Nat.lt_or_ge p q with f|i
  .exact Î<|.single<|Ç ⟨f,_,Fv d,Fv w⟩
  .exact Ç Z
 refine⟨λp a l I=> ?_,λp g C J K=> ?_⟩
 .let⟨f,d⟩:=u p a l;by_cases e:p<t0
  .rcases h.e p a e d I with q|⟨b,i⟩
   .exact Ç<|q.app _
   .grind
  .rcases h.S p a Z d with q|⟨x,c,q⟩
   .let⟨v,m,n⟩:=ģ.1 q;have:=bm m;rw[n]at this;exact Ç<|this.app _
   .let⟨b,i⟩:=h.r x c<|k x c;rcases i p a d q with z|⟨j,P⟩
    .exact Ç<|Knows.of_before (B p (ql x) x q b.g z)<|s x c
    .grind
 .let⟨z,D,M,N⟩:=K;let⟨f,d⟩:=u p z D;have O:t.g? p=À g:=by rwa[aF f]at C
  have E:=(eh f).1 ⟨z,D,M,N⟩;by_cases e:p<t0
  .let⟨j,b,i⟩:=h.d p g e O J E;exact⟨j,Fv b,ef _ i⟩
  .rcases h.S p z Z d with q|⟨x,c,q⟩
   .grind
   .let⟨b,_⟩:=h.r x c<|k x c;let⟨r,v,m,n,i⟩:=s x c;have j:(t++#[wQ]).g? r=À 0:=by unfold Ņ;rw[m];simp[n]
    refine⟨r,j,?_⟩;rcases(B p (ql x) x q b.g<|Nat.le_of_not_lt λP=>b.after p P q E).trans i with P|P;all_goals grind
end
end Go.Proofs.Y.fA
namespace Go.Proofs.Y.fA
open Go Go.Conc Go.Proofs.Y.Lift
open Go.ConcN (sumTo)
structure Ph extends Fx where
 P:Õ
 S:Nat
 n:Nat
 q:Nat
 Y:Nat
 f:Nat
 r:Nat->Nat
 a:Nat->Nat
 b:Nat->Nat
 c:Nat->Â
 z:Â
 B:Nat
 γ:Type
 l:γ
 i:Nat->Prop
 p:Nat->γ->γ->Prop
 d:Nat->γ->(Nat->Prop)->Æ->Prop
 o:Nat->ByteArray
 k:Nat->ByteArray
 g:Nat->(Nat->Nat)->Jd
 h:Nat->Jd
 e:Nat->Nat->Jd
 j:(Nat->Nat)->Jd
inductive mY(F:Ph):Nat->F.γ->Prop
 |uW:mY F 0 F.l
 |Cz {k:Nat} {s s':F.γ} (h:mY F k s) (hn:F.p k s s'):mY F (k+1) s'
def jm(F:Ph)(p:Nat):Ú:=⟨F.Y,p,ë⟩
inductive fU where
 |go (j:Nat)|lr (j:Nat)|rd (j:Nat)|iF (j:Nat)|iK (r:Nat)|kP (r:Nat)|fy (p:jq)|gd
inductive ju where
 |kF (k:Nat)|mk (k:Nat)|dn (k:Nat) (p:jC)
inductive gL where
 |mX (r:Nat)|fy (r:Nat) (p:jq)|jF (r:Nat)|oz (r:Nat)
inductive ik where
 |oB|gd (p:jC)|ji (N:Nat)
section
variable(F:Ph)
def Fy:Jd:=λl g=>∃N,QuitsD F.P N l.d g
def ku(l:fc):fc:={l with O:=λ_=>False,I:=λ_=>False,r:=λ_=>False,N:=λ_=>False,q:=True}
def Aj:Jd:=λl g=>Cy F.P Ã F.C (Fy F) .jA (ku l) g
def CB(c j r:Nat):Jd:=wv F.P Ã c F.z λx=>match x with
 |some v=>λl g=>v=F.c (j+r*F.n)->qu F.P Ã F.B (F.I<|F.r<|j+r*F.n) (F.e c<|j+r*F.n) .iX l g
 |none=>Aj F
def u6(l:fc)(i:Nat):fc:={l with r:=λa=>l.r a/\a≠jm F (F.a i),N:=λa=>l.N a\/a=jm F (F.a i)}
def pL(l:fc)(k:Nat):fc:={l with O:=λ_=>False,I:=l.M,r:=λa=>l.r a/\a≠jm F (F.b k)/\a≠je F.toFx k,N:=λa=>l.N a\/a=jm F (F.b k)\/a=je F.toFx k}
def JW(c j:Nat):gL->Jd
 |.mX r=>CB F c j r
 |.fy r p=>qu F.P Ã F.B (F.I<|F.r<|j+r*F.n) (F.e c<|j+r*F.n) p
 |.jF r=>F.e c<|j+r*F.n
 |.oz r=>λl g=>l.w.cell? (jm F<|F.a<|j+r*F.n)=À (ħ<|F.k<|j+r*F.n)/\CB F c j (r+1) (u6 F l<|j+r*F.n) g
def JI(sg:Nat->F.γ):ju->Jd
 |.kF k=>F.h k
 |.mk k=>λl g=>∃p V,F.p (k-1) (sg<|k-1) p/\F.d k p V l.w/\(∀b,V b->l.M b)/\l.w.cell? (jm F<|F.b k)=À (ħ<|F.o k)/\Cy F.P Ã (F.I k) (fi F.P Ã<|F.h k) .jA (pL F l k) g
 |.dn k p=>Cy F.P Ã (F.I k) (fi F.P Ã<|F.h k) p
def JE:ik->Jd
 |.oB=>Aj F
 |.gd p=>Cy F.P Ã F.C (Fy F) p
 |.ji N=>oY F.P N
def Jh(j:Nat)(a:Nat->Nat):Jd:=λl g=>∃c,F.g j (fx a (j-1) c) l g
def WJ(j:Nat)(a:Nat->Nat):Jd:=λl g=>l.d=1/\Fq F.P É (.read<|gV F.C) (Jh F j a) l g
def NV(j:Nat)(a:Nat->Nat):Jd:=λl g=>l.d=1/\NA F.P É (fM F.C) fX (λs=>if s=fX then fi F.P É (WJ F j a)else if fX<s/\s<1000000*fX/\s%fX=0 then fi F.P É (Jh F j a)else λ_ _=>True) l g
def Ak(a:Nat->Nat):Nat->Jd
 |0=>qu F.P É F.B F.C (F.j a) .iX
 |r+1=>I3 F.P É (a<|F.n-(r+1))<|Ak a r
def Fz(a:Nat->Nat):Nat->Jd
 |0=>Ak F a F.n
 |r+1=>Af F.P É (a<|(F.q-(r+1))%F.n) (F.c<|F.q-(r+1))<|Fz a r
def JM(dk:Nat->Nat):fU->Jd
 |.go j=>F.g j dk
 |.lr j=>Jh F j dk
 |.rd j=>WJ F j dk
 |.iF j=>NV F j dk
 |.iK r=>Fz F dk r
 |.kP r=>Ak F dk r
 |.fy p=>qu F.P É F.B F.C (F.j dk) p
 |.gd=>F.j dk
def lI(x:Nat)(a:Ú):Prop:=if x=0 then(∃k,1<=k/\k<=F.m/\(a=je F.toFx k\/a=jm F (F.b k)))else∃i,i<F.q/\i%F.n=x-1/\a=jm F (F.a i)
end
def fU.sp(n:Nat):fU->Nat
 |.go j|.lr j|.rd j|.iF j=>j
 |_=>n+1
def fU.ad(n:Nat):fU->Nat
 |.iF j=>j
 |.go j|.lr j|.rd j=>j+1
 |_=>n+1
def fU.ml(q:Nat):fU->Nat
 |.go _|.lr _|.rd _|.iF _=>0
 |.iK r=>q-r
 |_=>q
def fU.jd(n:Nat):fU->Nat
 |.kP r=>n-r
 |.fy _|.gd=>n
 |_=>0
def jq.se:jq->Nat
 |.wr|.kt=>1
 |_=>0
def fU.gB:fU->Nat
 |.fy p=>p.se
 |_=>0
def jC.kG:jC->Nat
 |.jA|.iF=>1
 |_=>0
def ik.kG:ik->Nat
 |.oB=>1
 |.gd p=>p.kG
 |_=>0
def ik.n5:ik->Prop
 |.oB=>False
 |_=>True
def lP:Option ik->Nat
 |none=>1
 |some e=>e.kG
def jC.iw:jC->Prop
 |.jA=>False
 |_=>True
def ik.iw:ik->Prop
 |.oB=>False
 |.gd p=>p.iw
 |_=>True
def ju.md:ju->Nat
 |.kF k=>k
 |.mk k=>k-1
 |.dn k _=>k
def ju.rl:ju->Nat
 |.kF k=>k
 |.mk k=>k-1
 |.dn k .jA=>k-1
 |.dn k _=>k
def ju.od:ju->Nat
 |.kF k=>k
 |.mk k=>k-1
 |.dn k .jA|.dn k .iF=>k-1
 |.dn k _=>k
def gL.iM:gL->Nat
 |.mX r=>r
 |.fy r _|.jF r|.oz r=>r+1
def gL.kv:gL->Nat
 |.mX r|.fy r _|.jF r|.oz r=>r
def gL.gB(F:Ph)(j:Nat)(k:Nat):gL->Nat
 |.fy r p=>if F.r (j+r*F.n)=k then p.se else 0
 |_=>0
structure fS(F:Ph) where
 M:fU
 S:ju
 C:Nat->gL
 N:Nat->Option ik
 I:Nat->Nat
 c:Nat->F.γ
 V:Nat->Nat->Prop
 e:Nat->Nat
 d:Nat->Option Nat
 f:Nat->Nat
 b:GS
 a:Nat->GS
 g:Option Nat
 h:Nat->Nat
section
variable{F:Ph}
def fS.r(E:fS F):Nat:=E.M.sp F.n
def fS.G(E:fS F)(x:Nat):Nat:=if x<E.M.ad F.n then lP (E.N x)else 0
def fS.iw(E:fS F)(x:Nat):Prop:=∃e,E.N x=À e/\e.iw
def fS.n5(E:fS F)(x:Nat):Prop:=∃e,E.N x=À e/\e.n5
def fS.Y(E:fS F)(b:Nat):Prop:=F.M b\/b=F.Y\/∃j,j+2<=E.r/\b=E.I j
def tj(n j Q s:Nat):Prop:=∀i,i<s↔j+i*n<Q
def kM:fU->iz
 |.fy .kt=> .iA
 |_=> .no
def kW(F:Ph)(c:Nat):gL->iz
 |.mX _=> .rZ c F.z
 |.fy _ .kt=> .iA
 |_=> .no
end
structure Ph.Ok(F:Ph):Prop where
 N:1<=F.n
 r:1<=F.L
 gf:F.n+F.q+F.m<1000
 I:∀i,i<F.q->F.r i<=F.m
 M:∀k,k<=F.m->F.I k≠F.C
 S:∀k k',k<=F.m->k'<=F.m->F.I k=F.I k'->k=k'
 C:¬F.M F.Y
 a:∀i i',i<F.q->i'<F.q->F.a i=F.a i'->i=i'
 pi:∀k k',1<=k->k<=F.m->1<=k'->k'<=F.m->F.b k=F.b k'->k=k'
 NW:∀i k,i<F.q->1<=k->k<=F.m->F.a i≠F.b k
 gl:∀b,F.M b\/b=F.Y->F.S<=b
 Y:(∀k,1<=k->k<=F.m->F.b k≠F.f)/\∀i,i<F.q->F.a i≠F.f
structure iG(F:Ph)(E:fS F)(lot:Nat->fc)(sz:Nat)(w:Æ):Prop where
 gR:∀i,i<sz->∀a,(lot i).C a->(∃k,k<=F.m/\a=je F.toFx k)\/∃p,p≠F.f/\a=jm F p
 o:∀x,E.r<=x->x<=F.n->∀a,lI F x a->(lot 0).r a
 lG:E.r<=F.n->(lot 0).N (je F.toFx 0)/\∀b,F.i b->(lot 0).I b
 e:0<E.r->∀k,E.S.md<k->k<=F.m->(lot F.L).r (je F.toFx k)/\(lot F.L).r (jm F<|F.b k)
 f:0<E.r->E.N 0=ë->(lot F.L).N (je F.toFx E.S.md)/\∀b,E.V E.S.md b->(lot F.L).I b
 h:∀j,j+2<=E.r->E.N (j+1)=ë->∀r,j+r*F.n<F.q->(E.C j).kv<=r->(lot<|F.L+1+j).r (jm F<|F.a<|j+r*F.n)
 l:∀j,j+2<=E.r->E.N (j+1)=ë->(lot<|F.L+1+j).N (je F.toFx 0)/\∀b,F.i b->(lot<|F.L+1+j).I b
 S:∀x,E.n5 x->lot (F.L+x)=ku (lot<|F.L+x)
 M:∀i,(i=0\/∃x,x<E.r/\i=F.L+x/\¬E.n5 x)->¬(lot i).q
 c:∀i,0<i->i<F.L->lot i=ku (lot i)
 I:∀k,k<=E.S.md->∀b,E.V k b->b<w.heap.size/\¬E.Y b/\∀i,i<sz->¬(lot i).O b
 N:∀k,k<=E.S.md->∀i,i<sz->¬(lot i).r (je F.toFx k)
 g:∀k,1<=k->k<=E.S.md->∀i,i<sz->¬(lot i).r (jm F<|F.b k)
 d:∀j,j+2<=E.r->∀r,j+r*F.n<F.q->r<(E.C j).kv->∀i,i<sz->¬(lot i).r (jm F<|F.a<|j+r*F.n)
structure Wd(F:Ph)(E:fS F)(w:Æ):Prop where
 C:ia w F.C E.b
 I:∀k,k<=F.m->ia w (F.I k) (E.a k)
 jD:∀j,j+2<=E.r->∃buf s,w.heap[E.I j]?=À (χ F.q buf (decide<|j<E.M.jd F.n) s (E.C j).iM Ã)/\tj F.n j (E.M.ml F.q) s/\(E.C j).iM<=s/\buf.size=s-(E.C j).iM/\∀i,i<s-(E.C j).iM->buf[i]?=À (F.c<|j+((E.C j).iM+i)*F.n)
 M:∀k,k<=E.S.md->mY F k (E.c k)/\F.d k (E.c k) (E.V k) w
 S:∀k,1<=k->k<=E.S.md->w.cell? (jm F<|F.b k)=À (ħ<|F.o k)
 N:∀j,j+2<=E.r->∀r,j+r*F.n<F.q->r<(E.C j).kv->w.cell? (jm F<|F.a<|j+r*F.n)=À (ħ<|F.k<|j+r*F.n)
structure Ps(F:Ph)(E:fS F):Prop where
 v:E.V 0=F.i
 C:∀j,E.M=.go j\/E.M=.lr j\/E.M=.rd j\/E.M=.iF j->j<=F.n
 K:∀j,E.M=.lr j\/E.M=.rd j\/E.M=.iF j->1<=j
 L:∀r,(E.M=.iK r->r<=F.q)/\(E.M=.kP r->r<=F.n)
 J:E.r=0->E.S=.kF 0
 I:∀k,(E.S=.kF k->k<=F.m)/\(E.S=.mk k->1<=k/\k<=F.m)/\(∀p,E.S=.dn k p->1<=k/\k<=F.m)
 z:∀j,E.r<j+2->E.C j=.mX 0
 d:∀j r,j+2<=E.r->((∃p,E.C j=.fy r p)\/E.C j=.jF r\/E.C j=.oz r)->j+r*F.n<F.q
 l:∀j,j+2<=E.r->E.N (j+1)≠ë->j<E.M.jd F.n/\∃r,E.C j=.mX r/\∀i,j+i*F.n<F.q->i<r
 f:E.N 0≠ë->E.S=.kF F.m
 h:∀x,E.r<=x->E.N x=ë
 M:∀j j',j+2<=E.r->j'+2<=E.r->E.I j=E.I j'->j=j'
 o:∀j,j+2<=E.r->¬F.M (E.I j)/\E.I j≠F.Y/\F.S<=E.I j
 t:∀c reg,E.b=.cl c reg->c=bD (F.n+1) E.G/\reg=E.M.gB
 g:∀reg,E.b=.jB reg->bD (F.n+1) E.G=0/\reg=E.M.gB/\∃x,x<E.r/\E.g=À x/\(E.N x=À (.gd (.gy reg))\/E.N x=À (.gd (.jb reg)))
 u:∀r s,E.b=.gW r s->bD (F.n+1) E.G=0/\r+s=E.M.gB/\(0<r->∃x,x<E.r/\E.g=À x/\E.N x=À (.gd (.iA r)))
 N:∀x p,E.N x=À (.gd p)->(∀W,p=.gy W\/p=.jb W->E.g=À x/\E.b=.jB W)/\(∀r,p=.iA r->0<r/\E.g=À x/\∃s,E.b=.gW r s)
 B:E.M=.fy .gy\/E.M=.fy .kV\/E.M=.gd->bD (F.n+1) E.G=0
 e:∀k,1<=k->k<=F.m->E.S.od<k->E.a k=.cl 1 (bD F.n λj=>(E.C j).gB F j k)
 Y:∀k,k<=F.m->k<=E.S.od->(∃W,(E.S=.dn k (.gy W)\/E.S=.dn k (.jb W))/\E.a k=.jB W/\W=bD F.n λj=>(E.C j).gB F j k)\/(∃r s,E.S=.dn k (.iA r)/\0<r/\E.a k=.gW r s/\r+s=bD F.n λj=>(E.C j).gB F j k)\/((∀p,E.S≠ .dn k p)/\((E.a k=.cl 0 0/\(bD F.n λj=>(E.C j).gB F j k)=0)\/∃s,E.a k=.gW 0 s/\s=bD F.n λj=>(E.C j).gB F j k))
 w:∀j r,j+2<=E.r->(E.C j=.fy r .gy\/E.C j=.fy r .kV\/E.C j=.jF r)->F.r (j+r*F.n)<=E.S.od
 H:∀j r,j+2<=E.r->E.C j=.fy r .gy->∃a b,E.a (F.r<|j+r*F.n)=.gW a b
 O:E.M=.fy .gy->∃a b,E.b=.gW a b
 S:(∀p,E.M≠ .fy p)->E.M≠ .gd->∃c,E.b=.cl c 0
 y:∀k,k<=F.m->E.a k=.cl 1 0->E.d k=ë
 D:∀j r,j+2<=E.r->E.C j=.fy r .wr->E.d (F.r<|j+r*F.n)=À j
def fh(F:Ph)(E:fS F)(a:Array Ó)(w:Æ):Prop:=∀i g,a[i]?=À g->g.status=Ů->
 (i=0/\E.M=.fy .kt/\E.b.sm=0)\/(∃j,j+2<=E.r/\E.N (j+1)=ë/\i=F.L+1+j/\((∃r,E.C j=.fy r .kt/\(E.a<|F.r<|j+r*F.n).sm=0)\/∃r b s c,E.C j=.mX r/\w.heap[E.I j]?=À (χ b #[] Ã s c Ã)))
structure PI(F:Ph)(t0:Nat)(jl:dQ->Prop)(E:fS F)(S:Nat->Jd)(tr:Nat->gq)(kp:Nat->iz)(lot:Nat->fc)(gs:Array Ó)(w:Æ)(t:ğ):Prop where
 b:gs.size=F.L+E.r
 I:gK F.P F.S E.Y S tr kp lot gs w t
 h:S 0=JM F E.I E.M/\kp 0=kM E.M
 m:0<E.r->E.N 0=ë->S F.L=JI F E.c E.S/\kp F.L=.no
 g:∀j,j+2<=E.r->E.N (j+1)=ë->S (F.L+1+j)=JW F (E.I j) j (E.C j)/\kp (F.L+1+j)=kW F (E.I j) (E.C j)
 k:∀x e,x<E.r->E.N x=À e->S (F.L+x)=JE F e/\kp (F.L+x)=.no/\((∃N,e=.ji N)->tr (F.L+x)=.fB)
 l:∀i,0<i->i<F.L->S i=oY F.P (E.h i)/\tr i=.fB/\kp i=.no
 a:iG F E lot gs.size w
 M:Wd F E w
 C:Ps F E
 d:TI F.toFx t0 jl E.r (E.S.rl) E.V E.e E.d E.iw E.f t
 c:fh F E gs w
 f:∀j r,j+2<=E.r->E.C j=.jF r->1<=F.r (j+r*F.n)->bC t (F.L+1+j) (E.e<|F.r<|j+r*F.n)
structure gQ(F:Ph):Prop where
 C:F.Ok
 S:∀k s V w w',F.d k s V w->(∀b,V b->w'.heap[b]?=w.heap[b]?)->w'.cell? (je F.toFx k)=w.cell? (je F.toFx k)->w'.cell? (jm F F.f)=w.cell? (jm F F.f)->kN w' F.Y=kN w F.Y->(w'.os=w.os/\w'.output=w.output)->F.d k s V w'
 FA:∀j dk l g w₁,F.g j dk l g->fG l l.w w₁->F.g j dk {l with w:=w₁} g
 I:∀j dk l g,F.g j dk l g->g.status=Ð
 N:∀k l g,F.h k l g->g.status=Ð
 Y:∀c i l g,F.e c i l g->g.status=Ð
 M:∀dk l g,F.j dk l g->g.status=Ð
 go:∀j dk l g,j<=F.n->F.g j dk l g->gw l->l.d=0/\∃(g' child:Ó) (X:Nat->Prop),g'.status=Ð/\child.status=Ð/\(∀w₁,Ù F.P É g w₁=.spawn g' child w₁ #[])/\(∀b,X b->l.O b)/\
  (1<=j->l.O (dk<|j-1)/\¬X (dk<|j-1)/\l.w.heap[dk<|j-1]?=À (χ F.q #[] Ã 0 0 Ã)/\F.S<=dk (j-1))/\
  (∀l':fc,gw l'->(∀b,X b\/l.I b->l'.I b)->l'.w=l.w->l'.d=0->¬l'.q->(∀b,¬l'.O b)->l'.K=l.K->l'.N=l.N->(∀a,l'.r a->l.r a)->fi F.P Ã (if j=0 then F.h 0 else CB F (dk<|j-1) (j-1) 0) l' child)/\
  (∀l':fc,gw l'->l'.O=(λb=>l.O b/\¬X b/\(1<=j->b≠dk (j-1)))->(∀b,X b\/l.I b->l'.I b)->l'.w=l.w->l'.d=0->l'.q=l.q->l'.K=l.K->l'.N=l.N->(∀a,l'.r a->l.r a)->fi F.P É (JM F dk<|if j<F.n then .iF (j+1)else .iK F.q) l' g')
 f:∀k s V l g,k<F.m->F.h k l g->gw l->mY F k s->F.d k s V l.w->(∀b,V b->l.I b)->l.N (je F.toFx k)->l.r (je F.toFx<|k+1)->l.r (jm F<|F.b<|k+1)->∀sg:Nat->F.γ,sg k=s->fi F.P Ã (JI F sg<|.mk (k+1)) l g
 h:∀l g,F.h F.m l g->gw l->fi F.P Ã (Aj F) l g
 e:∀c j r s V l g,j+r*F.n<F.q->F.e c (j+r*F.n) l g->∀l':fc,gw l'->l'.O=l.O->(∀b,l.I b\/V b->l'.I b)->l'.w=l.w->l'.d=l.d->l'.q=l.q->l'.r=l.r->l'.K=l.K->mY F (F.r<|j+r*F.n) s->F.d (F.r<|j+r*F.n) s V l.w->l'.N (je F.toFx<|F.r<|j+r*F.n)->l'.r (jm F<|F.a<|j+r*F.n)->fi F.P Ã (JW F c j<|.oz r) l' g
end Go.Proofs.Y.fA
