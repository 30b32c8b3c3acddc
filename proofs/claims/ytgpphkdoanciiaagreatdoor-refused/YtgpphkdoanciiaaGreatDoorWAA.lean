/- Refused: the texts of the proof, packed by program out of some 250: remarks struck, names and blanks shortened, for the limit of a claim's size. -/
import Derived.KernelRfl
import Derived.Conc.Own
import Derived.Conc.Events
import Derived.Laws.Sem
import Derived.Conc.Own5
import Derived.Conc.CompanyDraw
import Derived.Conc.Know
import Derived.Conc.Beside
import Derived.Conc.MarkLaws
import Derived.Conc.CrowdComm
import Derived.Conc.CrowdTrace
import Derived.Conc.CrowdBase
set_option linter.all false
set_option maxRecDepth 1000000
set_option maxHeartbeats 8000000
open Option renaming some->À,none->ë,map_eq_some_iff->ģ,map_some->bG
open Go renaming TypeId->Á,Value->Â,World->Æ,Goroutine->Ó,Program->Õ,Operand->Ö,stepG->Ù,Addr->Ú,FuncId->à,execOp->ì,underlying->ø,resolve->ù,IntKind->ú,Event->ý,run_program->ă,variablesAt->Ą,invoke->č,builtin->Ē,Sem->ē,loadBytes->ĕ,Frame->Ę,Trace->ğ,BinOp->ġ,results->Ī,behindNumber->Į,FloatKind->ı,callFunc->ĵ,undef->ľ,yielded->ł,loadCellsFrom->Ō,convert->Œ,movedNumber->ŕ,Item->ś,movedPointer->Ţ,binOp->Ũ,elemOf->Ū,sameAddr->Ŭ,deafBehind->ŭ,eqGuard->ŷ,typeInfo->Δ,partners->Η,RuntimeError->Ι,storeCells->Κ,Next->Ο,cellAtBytes->ξ,choose->π,Tape->ψ,zeroValue->ω,loadVar->ae,Code->aj,store->ak,Oper->au,BoundsCode->av,sizeOf->ax,storeVar->aI,nilAhead->aQ,lone->aT,load->aW,noView->aX,liesAt->aY,findLabel->bh,stringish->bl,Unsupported->bq,followBlind->bu,Act->bE,askRoom->bO,Machine->bQ,Question->bT,asBool->bV,asAddr->bW,fieldPlace->bX,numberAt->bZ,asNumber->b9,getObj->ck,shape->cm,exitTo->cB,gotoIn->cC,mayBeOne->cI,runT->cV,MemOp->cW,loadCells->cX,rowAt->cZ,program->da,asIntOf->dc,viewAt->dh,byteOf->di,unwind->dr,runN->dt,cellsIn->du,asInt->dz,TypeDesc->dE,runN_add->dH,Touch->dK,step->dO,Loc->dP,newRow->dQ,PanicEntry->eb,isAgg->ek,Race->eC,newVar->eI,asAgg->eJ,newObj->eK,frozen->eL,freeze->eT
open Bool renaming false->Ã,false_eq_true->Å,true->É,and_eq_true_iff->Ü,not_true->þ,not_false->Ă,and_eq_true->ě,or_eq_true_iff->Ŝ,eq_iff_iff->Χ,or_eq_true->bH
open Go.Sem renaming run_bind->Ä,runT_bind'->Ñ,run->ã,bind->ç,runT->é,run_bind'->Ĵ,bind_assoc'->ř,runT_eq->ź,runT_fst->Ρ,pure->aH,store->c8,halt->ei
open Or renaming inl->Ç,inr->Î
open Go.Result renaming andThen_ok->È,ok->ĥ,halt->bU
open Go.Op renaming operands->Ê,equal->ó,maxDepth->ā,eqGuardIn->į,twoPlaces->š,equalIn->Λ,addrSub->Μ,addrCmp->Ν,addrMod->Ξ,call->Ω,intDiv->ag,shift->aJ,convert->aL,stringOp->br,unary->bY,makeInterface->cH,floatArith->cR,complexOp->dj,buildSlice->dB,intArith->dC,floatCmp->dD,binOp->dR,makeSlice->dS,fieldAddr->dT,indexAddr->dU,intBits->dW,nilCheck->ez,intCmp->eA
open Array renaming getElem?_eq_some_iff->Ë,getElem?_setIfInBounds_ne->Ï,getElem?_setIfInBounds_self_of_lt->Ò,mem_of_getElem?->Û,getElem?_eq_getElem->Ý,getElem?_append_right->ć,empty_append->Ď,append_empty->ď,mapM_eq_mapM_toList->Ĕ,mem_append->Ĝ,getElem?_push_lt->Ģ,getD_eq_getD_getElem?->ĩ,replicate->ĺ,append_assoc->Ļ,append_singleton->Ł,all_eq_true->Ń,getElem?_modify->Ň,mem_iff_getElem->ŉ,getElem?_setIfInBounds->Ś,getElem_map->ŵ,getElem_extract->κ,forIn_toList->aD,range->dA
open Go.stepG renaming exec->Ì,apply->bB
open Go.MemOp renaming ofEvents->Í
open Go.GoStatus renaming running->Ð,finished->Ğ,blocked->Ů
open Nat renaming lt_of_lt_of_le->Ô,le_refl->ß,le_trans->õ,exists_eq_add_of_le->Ε,div_le_div_right->ο,add_assoc->cO,le_of_eq->dx,zero_le->dy
open List renaming map_toArray->Ø,map_cons->â,map_nil->ä,mem_cons_self->î,mem_cons_of_mem->ò,eq_nil_of_length_eq_zero->Ā,zipIdx_cons->Ĭ,mem_cons->œ,mem_singleton->ū,foldlM_cons->Ζ,filter_eq_nil_iff->Υ,foldlM_nil->ζ,forIn_cons->η,mapM_cons->ν,forIn_nil->φ,map_eq_nil_iff->ai,flatMap_cons->aU,mapM_nil->cQ
open Go.Value renaming pointer->Þ,int->Ć,string->ħ,bool->Ľ,tuple->ſ,nilIface->aV,slice->bR,nilFunc->bS,chan->eh,func->eH
open Go.Item renaming inRegion->á,code->Đ,inLoop->dm,inBlock->dF,inScope->dG
open Go.Act renaming eval->å
open Go.IntKind renaming u64->æ,i64->Ŋ,u32->ŗ
open Go.MemAct renaming ofEvent->è,touch?->ÿ,mark->Ř
open Go.Builtin renaming unsafeString_->ê,unsafeAdd_->ñ,unsafeSliceData_->ė,min2->Ĳ,append_->ĸ,firstCells->ļ,min_->ń,copy_->ő,len_->ş,cap_->Š,zeroCells->Ŷ,lenOf->Α,holdsCells->aA,mayShare->aZ,unsafeSliceData->bk,unsafeString->cU
open Go.Conc renaming mem_ofEvents->í,touchAt->Ě,crowd->ķ,woken->ţ,stepG_region_draw->Ż,parked->Γ,Deaf->Τ,rcase->θ,stepG_unwanted->υ,g?_old->aF,knows_own->bm,deafBehind_still->bn,stepG_value->bz,stepG_enter->bA,Knows->bC,stepG_cond->cD,mem_listed->cE,stepG_none->cF,enter_at->cG,deaf_old->cM,touch_of->dL,act?_old->dN,hb_app->ec,touch_mute->ef,counts_old->eg,act?_of->ey
open Go.Next renaming value->ï,enter->ũ,skip->aG
open Go.TypeDesc renaming pointer->ð,unsafePointer->đ,string->ę,int->Β,struct->de,slice->df
open Go.Call renaming operands->ô
open Go.Conv renaming unsafePointer->ö,bytesToString->ü,seenAt->Ž,runesToString->aE,floatToFloat->aP,intToString->bg,floatToInt->bJ,intToInt->cS
open Go.Loc renaming cell->û,mark->ů
open Ne renaming symm->ą
open Go.World renaming frozen?->Ĉ,setCell->ĉ,freeze->Ė,cell?->Ġ,farLoad->ŋ,farStore->Ŧ,shape?->Θ,setChan->ar,noCell->aO,viewStore->bI
open Go.Extern.BytealgMakeNoZero renaming makeNoZero->Ċ,digits->ņ
open Go.Mode renaming atomic->ċ,plain->Ť
open Go.Obj renaming cells->Č,pending->Ÿ,chan->χ
open Go.Callee renaming builtin->ĝ,value->cg
open Option.some renaming inj->Ĥ,injEq->ž
open Go.Region renaming wanted->Ħ,schedule->bL,Mode->eF
open Go.Instr renaming sliceBounds->Ĩ,sliceBound->ī,buildSlice->ĭ,storeAt->ĳ,makeSlice->Ĺ,extract->ō,fieldAt->Ŏ,indexAt->ŏ,sliceAt->Ő,makeInterface->ŝ,loadAt->Ş,sureAddr->ŧ,alloc->Ű,field->ű,slice->Ų,index->ų,build->Ŵ,panic->ż,box->af,fill->ay
open Go.Deferred renaming ofValue->İ
open Go.Mark renaming releaseMerge->Ķ,disable->cJ,acquire->cK,noRoom->c9,enable->dw,release->dM
open Go.Extern.AbiNoEscape renaming same->Ŀ
open Go.Halt renaming unsupported->ŀ
open Go.Trace renaming g?->Ņ
open Go.Stepped renaming next->ň
open Go.Touch.Kind renaming atomic->Ŕ,plain->eV
open Go.Frame renaming raise->Ŗ,finish_at->ε,finish->aS,catches->cT,enter->dI
open Go.Unsupported renaming unsafePointer->ť
open Go.GStep renaming after->Ź,go->aR,ended->eR
open Go.Goroutine renaming again->ι
open Except renaming bind->ρ,pure->ς,error->bF,map->cj
open Go.Op.Complex renaming corrected->σ,quotient->ah,product->aB,arith->bb,conv->bK,cmp->cu,mul->cw,add->cx,sub->cy,quo->cz
open Go.BinOp renaming eql->az,neq->aK
open Go.Operand renaming func->aN,const->dV,global->ep
open Go.Code renaming cond->bx,region->bP,refuse->dq,label->dX,block->dY,scope->dZ,skip->eM,loop->eN,exit->eO,goto->eP
open Go.ConcN renaming sumTo->bD,fork_knows->cN
variable{i n j b k m J j9 j7 j6:Nat}{w u W jX:Æ}{v x z jQ:Â}{g:Ó}{a p:Ú}{h c:Int}{e t T:Á}{d q:Array Â}{P:Õ}{y:bE}{B:ByteArray}{X:Nat->Prop}{O:Option Ú}{l:List Â}{yQ:Bool}{K H:bE->Æ->Prop}{o:au}{D:Nat->Nat}{E:Array Ó}{L:List ś}{jJ:List Nat}{qX:List Ę}{qQ:Ö}{qJ:ğ}{zX:dP->Prop}{zQ:List Int}{zJ:Go.TypeInfo}{xX:Ö->Â}{xQ:ψ}{xJ:Nat×Nat}{wX:aj}{wQ:cW}{wJ:Array Bool}{vX:List ByteArray}{vQ:Â->Æ->Prop}{vJ:Go.Exit->bE->Æ->Prop}{yX:eF}{Q:Array au}{f:Ę}{V:Array ý}{F:à}{s:Go.Func}
namespace Go.Proofs
theorem U{A:Sort _}{a:A}:a=a:=rfl
theorem Z{p:Prop}(h:p:=by omega):p:=h
theorem A{p:Prop}(h:p:=by decide):p:=h
theorem fh{p:Prop}(h:p:=by simp):p:=h
theorem fl{p:Prop}(h:p:=by kernel_rfl):p:=h
theorem fP{p:Prop}(h:p:=by rfl):p:=h
end Go.Proofs
namespace Go.Proofs.Y.Lift
open Go
abbrev e9{α:Type}:α->Prop:=λ_=>False
structure fj where
 jr:Nat->Nat->Prop
 C:Nat
instance:CoeFun fj λ_=>Nat->Nat->Prop:=⟨fj.jr⟩
def Bi(Y:fj):Prop:=(∀i j a,Y i j->Y i a->j=a)/\(∀i a j,Y i j->Y a j->i=a)/\(∀i j,Y i j->(i<Y.C↔j<Y.C))
def fj.r(Y a:fj):Prop:=(∀i j,Y i j->a i j)/\(Bi Y->Bi a)/\a.C=Y.C
def fj.N(Y:fj)(r a:Nat):fj:=⟨λi j=>Y i j\/(i=r/\j=a),Y.C⟩
def fj.M(Y:fj):Y.r Y:=⟨λ_ _ h=>h,id,U⟩
theorem fj.I{a b c:fj}(h:a.r b)(k:b.r c):a.r c:=⟨λi j x=>k.1 i j<|h.1 i j x,λx=>k.2.1<|h.2.1 x,k.2.2.trans h.2.2⟩
theorem fj.S{Y:fj}{r:Nat}(c:∀j,¬Y r j)(d:∀a,¬Y a i)(f:Y.C<=r)(g:Y.C<=i):Y.r (Y.N r i):=by
 refine⟨λ_ _ h=>Ç h,λb=>⟨?_,?_,?_⟩,U⟩
 .rintro a j k (x|⟨rfl,rfl⟩) (y|⟨e,rfl⟩)
  .exact b.1 _ _ _ x y
  .grind
  .grind
  .rfl
 .rintro a k j (x|⟨rfl,rfl⟩) (y|⟨rfl,e⟩)
  .exact b.2.1 _ _ _ x y
  .grind
  .grind
  .rfl
 .rintro a j (x|⟨rfl,rfl⟩)
  .exact b.2.2 _ _ x
  .show(a<Y.C↔j<Y.C);omega
def gT(Y:fj)(a b:Ú):Prop:=Y a.block b.block/\a.off=b.off/\a.spot=b.spot
def gT.r{Y b:fj}(h:Y.r b)(r:gT Y a p):gT b a p:=⟨h.1 _ _ r.1,r.2⟩
def gT.C{Y:fj}(r:gT Y a p)(n:Nat):gT Y (a.add n) (p.add n):=by
 let⟨b,c,d⟩:=r;unfold Addr.add;by_cases e:n=0
 .rw[if_pos e,if_pos e];exact⟨b,c,d⟩
 .rw[if_neg e,if_neg e];exact⟨b,by simp[c],U⟩
inductive fg(Y:fj):Â->Â->Prop
 |lT (b:Bool):fg Y (Ľ b) (Ľ b)
 |iC (k:ú) (n:Int):fg Y (Ć k n) (Ć k n)
 |kD (s:ByteArray):fg Y (ħ s) (ħ s)
 |lk:fg Y (Þ ë) (Þ ë)
 |jF {a a':Ú} (h:gT Y a a'):fg Y (Þ<|À a) (Þ<|À a')
 |nF (n c:Nat):fg Y (bR ë n c) (bR ë n c)
 |kx {a a':Ú} (h:gT Y a a') (n c:Nat):fg Y (bR (À a) n c) (bR (À a') n c)
 |uo:fg Y bS bS
 |fn (f:Fn):fg Y (eH f #[] #[]) (eH f #[] #[])
 |uq:fg Y aV aV
 |uu:fg Y (eh ë) (eh ë)
 |uw:fg Y (.map ë) (.map ë)
 |xo (t:Á) {v v':Â} (h:fg Y v v'):fg Y (.iface t v) (.iface t v')
 |nU {cs ll:Array Â} (hs:cs.size=ll.size) (h:∀i (h1:i<cs.size) (h2:i<ll.size),fg Y cs[i] ll[i]):fg Y (.agg cs) (.agg ll)
 |mX {cs ll:Array Â} (hs:cs.size=ll.size) (h:∀i (h1:i<cs.size) (h2:i<ll.size),fg Y cs[i] ll[i]):fg Y (ſ cs) (ſ ll)
def fg.fI{Y a:fj}(h:Y.r a)(r:fg Y v x):fg a v x:=by
 induction r with
 |lT b=>exact .lT b
 |iC k n=>exact .iC k n
 |kD s=>exact .kD s
 |lk=>exact .lk
 |jF b=>exact .jF (b.r h)
 |nF n c=>exact .nF n c
 |kx b n c=>exact .kx (b.r h) n c
 |uo=>exact .uo
 |fn f=>exact .fn f
 |uq=>exact .uq
 |uu=>exact .uu
 |uw=>exact .uw
 |xo t _ b=>exact .xo t b
 |nU c _ b=>exact .nU c b
 |mX c _ b=>exact .mX c b
structure fM(Y:fj)(cs ll:Array Â):Prop where
 r:cs.size=ll.size
 C:∀i (h1:i<cs.size) (h2:i<ll.size),fg Y cs[i] ll[i]
def fM.I{Y a:fj}(h:Y.r a){cs:Array Â}(r:fM Y cs d):fM a cs d:=⟨r.r,λi b c=>(r.C i b c).fI h⟩
theorem fM.S{Y:fj}(r:fM Y d q)(i:Nat):(d[i]?=ë/\q[i]?=ë)\/∃v b,d[i]?=À v/\q[i]?=À b/\fg Y v b:=by
 by_cases h:i<d.size
 .have a:i<q.size:=by rwa[<-r.r]
  exact Î ⟨d[i],q[i],Ý h,Ý a,r.C i h a⟩
 .have a:¬i<q.size:=by rwa[<-r.r]
  grind
def fM.N(Y:fj):fM Y #[] #[]:=⟨U,λi h=>absurd h fh⟩
theorem fM.TD{Y:fj}(r:fM Y d q)(h:fg Y v x):fM Y (d.push v) (q.push x):=by
 refine⟨by simp[r.r],λi b c=> ?_⟩;simp only[Array.getElem_push];have e:=r.r;by_cases a:i<d.size
 .rw[dif_pos a,dif_pos Z];exact r.C i a Z
 .grind
theorem fM.pO{Y:fj}(r:fM Y d q)(n:Nat)(h:fg Y v x):fM Y (d.setIfInBounds n v) (q.setIfInBounds n x):=by
 refine⟨by simp[r.r],λi c e=> ?_⟩;have f:i<d.size:=by simpa using c
 have g:i<q.size:=by simpa using e
 have a:(d.setIfInBounds n v)[i]?=if n=i then À v else d[i]?:=by grind
 have b:(q.setIfInBounds n x)[i]?=if n=i then À x else q[i]?:=by grind
 rw[Ý c]at a;rw[Ý e]at b;by_cases j:n=i
 .grind
 .rw[if_neg j]at a b;rw[Ý f]at a;rw[Ý g]at b;injection a with a;injection b with b;rw[a,b];exact r.C i f g
def fM.sE{Y:fj}{cs b:Array Â}(r:fM Y cs d)(t:fM Y q b):fM Y (cs++q) (d++b):=by
 refine⟨by simp[r.r,t.r],λi c g=> ?_⟩;have e:=r.r;have f:=t.r;simp only[Array.getElem_append];by_cases a:i<cs.size
 .rw[dif_pos a,dif_pos Z];exact r.C i a Z
 .rw[dif_neg a,dif_neg Z];have:=t.C (i-cs.size) (by simp at c;omega) (by simp at c;omega);simpa[e]using this
def fM.Ex{Y:fj}(r:fM Y d q)(a b:Nat):fM Y (d.extract a b) (q.extract a b):=by refine⟨by simp[r.r],λi c e=> ?_⟩;rw[κ ..,κ ..];exact r.C _ _ _
def fM.M{Y:fj}(h:fg Y v x):fM Y #[v] #[x]:= ⟨U,λi a b=>by have:i=0:=(by simpa using a);subst this;exact h⟩
def fg.gN{Y:fj}(h:fg Y v x):fM Y v.cells x.cells:=by
 cases h with
 |nU a h=>exact⟨a,h⟩
 |lT b=>exact fM.M<|.lT b
 |iC k n=>exact fM.M<|.iC k n
 |kD s=>exact fM.M<|.kD s
 |lk=>exact fM.M .lk
 |jF b=>exact fM.M<|.jF b
 |nF n c=>exact fM.M<|.nF n c
 |kx b n c=>exact fM.M<|.kx b n c
 |uo=>exact fM.M .uo
 |fn f=>exact fM.M<|.fn f
 |uq=>exact fM.M .uq
 |uu=>exact fM.M .uu
 |uw=>exact fM.M .uw
 |xo t b=>exact fM.M<|.xo t b
 |mX a h=>exact fM.M<|.mX a h
def xp:Â->Bool
 |.agg _|ſ _=>Ã
 |_=>É
def Ey(e:Á)(n:Nat):Prop:=(e=304\/e=305)/\n<=16
class zu (P:Õ):Prop where
 lt:∀e n,Ey e n->n<P.cellsOf e
def BX(e:Á)(n a:Nat):Prop:=n=a\/(n<=a/\Ey e n)
structure ox(Y:fj)(s:Prop)(e:Á)(c c':Array Â):Prop where
 r:∀i (_:i<c.size) (_:i<c'.size),fg Y c[i] c'[i]
 I:c.size<=c'.size
 C:c.size=c'.size\/(s/\Ey e c.size)
section
variable{Y d:fj}{s:Prop}{c c':Array Â}
def ox.M(h:fM Y c c'):ox Y s e c c':=⟨h.C,by rw[h.r];exact ß _,Ç h.r⟩
def ox.N(h:ox Y s e c c')(a:¬s):fM Y c c':=⟨h.C.resolve_right λq=>a q.1,h.r⟩
def ox.fI(h:ox Y s e c c')(l:Y.r d):ox d s e c c':=⟨λi a b=>(h.r i a b).fI l,h.I,h.C⟩
theorem ox.Ez(h:ox Y s e c c')(i:Nat):(c[i]?=ë/\True)\/∃v a,c[i]?=À v/\c'[i]?=À a/\fg Y v a:=by
 by_cases q:i<c.size
 .have b:=Ô q h.I;exact Î ⟨c[i],c'[i],Ý q,Ý b,h.r i q b⟩
 .grind
def ox.abh(h:ox Y s e c c'):BX e c.size c'.size:=h.C.imp id λq=>⟨h.I,q.2⟩
end
inductive fC(P:Õ){α:Type}(V:fj->α->α->Prop):fj->ē α->ē α->Prop
 |fx {Y:fj} {a a':α} (h:V Y a a'):fC P V Y (aH a) (aH a')
 |gq {Y:fj} {a a':Ú} {k k':Â->ē α} (ha:gT Y a a') (hk:∀v v',fg Y v v'->fC P V Y (k v) (k' v')):fC P V Y (.load Ť a k) (.load Ť a' k')
 |iV {Y:fj} {a a':Ú} {v v':Â} {k k':ē α} (ha:gT Y a a') (hv:fg Y v v') (hk:fC P V Y k k'):fC P V Y (c8 Ť a v k) (c8 Ť a' v' k')
 |xq {Y:fj} {c c':Array Â} {e:Á} {k k':Nat->ē α} (hc:fM Y c c') (hk:∀r r',(∀j,¬Y r j)->(∀i,¬Y i r')->Y.C<=r->Y.C<=r'->fC P V (Y.N r r') (k r) (k' r')):fC P V Y (.new (Č c e) k) (.new (Č c' e) k')
 |uy {Y:fj} {r r':Nat} {k k':Option (TypeId×Nat)->ē α} (hr:Y r r') (hk:∀e n n',BX e n n'->fC P V Y (k<|À (e,n)) (k'<|À (e,n'))):fC P V Y (.shape r k) (.shape r' k')
 |L8 {Y:fj} {a a':Ú} {k k':Bool->ē α} (ha:gT Y a a') (hk:∀b b',(b'=É->b=É)->fC P V Y (k b) (k' b')):fC P V Y (.frozen a k) (.frozen a' k')
 |zv {Y:fj} {q:bT} {k k':Nat->ē α} (hk:∀n,fC P V Y (k n)<|k' n):fC P V Y (.choose q k) (.choose q k')
 |HQ {Y:fj} {k k':Õ->ē α} (hk:fC P V Y (k P) (k' P)):fC P V Y (.program k) (.program k')
 |BY {Y:fj} {m:Mark} {k k':ē α} (hm:m=c9\/∃f,m=.extern f) (hk:fC P V Y k k'):fC P V Y (.mark m k) (.mark m k')
 |fK {Y:fj} {h:Halt} {m:ē α}:fC P V Y (ei h) m
 |nV {Y:fj} {m m':ē α} (h:∀u x u',m.run P u≠ĥ x u'):fC P V Y m m'
def vp{α β:Type}{m:ē α}{f:α->ē β}(h:∀u x b,m.run P u≠ĥ x b):∀u x b,(m.bind f).run P u≠ĥ x b:=by
 intro u x b e;have c:(m>>=f).run P u=ĥ x b:=e;rw[Ä]at c;cases d:m.run P u with
 |ok a w=>exact h _ _ _ d
 |halt z w=>rw[d]at c;cases c
def fC.lE{α β:Type}{V:fj->α->α->Prop}{l:fj->β->β->Prop}{Y:fj}{m o:ē α}{f p:α->ē β}(h:fC P V Y m o) (g:∀i a k,Y.r i->V i a k->fC P l i (f a) (p k)):fC P l Y (m.bind f) (o.bind p):=by
 induction h with
 |fx h=>exact g _ _ _ (fj.M _) h
 |gq j _ d=>exact .gq j λv c b=>d v c b g
 |iV j b _ d=>exact .iV j b (d g)
 |xq q _ d=>exact .xq q λr s c e n v=>d r s c e n v λi a k t b=>g i a k (fj.I (fj.S c e n v) t) b
 |uy b _ d=>exact .uy b λe n v c=>d e n v c g
 |L8 j _ d=>exact .L8 j λb c v=>d b c v g
 |zv _ d=>exact .zv λn=>d n g
 |HQ _ d=>exact .HQ (d g)
 |BY c _ d=>exact .BY c (d g)
 |fK=>exact .fK
 |nV h=>exact .nV (vp h)
def xr:Â->Bool
 |Ć .u8 _=>É
 |_=>Ã
def BZ(c:Array Â):Prop:=∀(k:Nat) (v:Â),c[k]?=À v->xr v=Ã
structure ja(Y:fj)(Sh:Nat->Prop)(u w:Æ):Prop where
 S:u.tape=w.tape
 N:u.drawn=w.drawn
 C:Bi Y
 I:Y.C<=u.heap.size
 M:Y.C<=w.heap.size
 r:∀i j,Y i j->∃c c' e fr vq,u.heap[i]?=À (Č c e fr)/\w.heap[j]?=À (Č c' e vq)/\ox Y (Sh j) e c c'/\(Sh j->fr.1=0/\c.size<=fr.2/\vq.2<=fr.2/\0<c.size/\(BZ c\/Ey e c.size))/\(¬Sh j->fr=vq)/\fr.2<=c.size
structure mY(Y:fj)(Sh:Nat->Prop)(w w':Æ):Prop where
 r:w.heap.size<=w'.heap.size
 I:w'.os=w.os
 M:w'.output=w.output
 S:w'.tape=w.tape
 C:∀j,j<w.heap.size->(∀i,¬Y i j)->w'.heap[j]?=w.heap[j]?
 N:∀j,Sh j->j<w.heap.size->w'.heap[j]?=w.heap[j]?
def zw(Y:fj)(b:Nat->Prop)(e:ý):Prop:=
 (∃(a:Ú) (i:Nat),e.loc=û a/\Y i a.block/\e.sync=Ã/\(e.write=É->¬b a.block))\/e.loc=ů c9\/∃f,e.loc=ů (.extern f)
def vr{α:Type}{m:Mode}{k:ē α}(h:xp v=É): ã P (c8 m a v k) w=(match w.cell? a with
 |some _=>if w.frozen? a then bU (ŀ<|ť "a write to bytes that a string shares") w else k.run P (w.setCell a v)
 |none=>match w.farStore P a v (m==ċ)with
  |.ok (w,_)=>k.run P w
  |bF h=>bU h w):=by
 cases v<;>first|rfl|cases h
def abj{α:Type}{m:Mode}{k:ē α}(h:xp v=É): é P (c8 m a v k) w V=(match w.cell? a with
 |some _=>
  if w.frozen? a then(bU (ŀ<|ť "a write to bytes that a string shares") w,V)
  else k.runT P (w.setCell a v) (V.push ⟨û a,É,m==ċ⟩)
 |none=>match w.farStore P a v (m==ċ)with
  |.ok (w,touched)=>k.runT P w (V++touched.toArray.map (⟨.cell ·,É,m==.atomic⟩))
  |bF h=>(bU h w,V)):=by
 cases v<;>first|rfl|cases h
def abk{α:Type}{m:Mode}{k:ē α}(h:xp v=Ã){x:α}:ã P (c8 m a v k) w≠ĥ x u:=by cases v<;>first|exact Bool.noConfusion h|(intro e;simp[ã]at e)
def abl{Y:fj}(h:fg Y v x):xp x=xp v:=by cases h<;>rfl
section
variable{Y:fj}
def zx(h:u.heap[a.block]?=À (Č d e xJ)):u.cell? a=if a.spot.isSome then ë else d[a.off]?:=by simp[Ġ,h]
def abm(h:u.heap[a.block]?=À (Č d e xJ))(b:Bool):∃x,u.farLoad P a b=bF x:=by simp[ŋ,h]
def abn(h:u.heap[a.block]?=À (Č d e xJ))(b:Bool):∃x,u.farStore P a v b=bF x:=by simp[Ŧ,h]
def ja.gq(h:ja Y X u w){a':Ú}(i:gT Y a a')(b:u.cell? a=À v):∃f,w.cell? a'=À f/\fg Y v f:=by
 let⟨j,k,l⟩:=i;let⟨c,s,e,t,y,m,n,o,_⟩:=h.r _ _ j;rw[zx m]at b;rw[zx n,<-k,<-l];cases g:a.spot with
 |some x=>rw[g]at b;cases b
 |none=>
  rw[g]at b;rcases o.Ez a.off with⟨d,_⟩|⟨x,p,d,q,r⟩
  .simp[d]at b
  .simp[d]at b;subst b;exact⟨p,by simp[q],r⟩
theorem ja.abo(h:ja Y X u w)(g:gT Y a p)(i:u.cell? a=À v)(j:u.frozen? a=Ã):¬X p.block/\w.frozen? p=Ã:=by
 let⟨k,l,q⟩:=g;let⟨c,r,e,b,s,d,m,t,x,n,y⟩:=h.r _ _ k;rw[zx d]at i;have z:a.off<c.size:=by grind
 have o:(decide (b.1<=a.off)&&decide (a.off<b.2))=Ã:=by simpa[Ĉ,d]using j
 have f:¬X p.block:=by grind
 refine⟨f,?_⟩;have:=n f;subst this;simp only[Ĉ,m,<-l];exact o
def TF{w:Æ}(h:w.heap[a.block]?=À (Č d e xJ))(b:a.spot=ë): (w.setCell a v).heap[a.block]?=À (Č (d.setIfInBounds a.off v) e xJ):=by simp[ĉ,Ň,h,b]
def jM{w:Æ}:(w.setCell a v).heap.size=w.heap.size:=by simp[ĉ]
def HR{w:Æ}(h:a.block≠j):(w.setCell a v).heap[j]?=w.heap[j]?:=by simp[ĉ,Ň,h]
def ja.iV(h:ja Y X u w)(B:gT Y a p)(C:fg Y v z)(D:u.cell? a=À x)(m:¬X p.block):ja Y X (u.setCell a v) (w.setCell p z):=by
 let⟨d,E,F⟩:=B;have n:a.spot=ë:=by let⟨c,o,e,f,g,b,_⟩:=h.r _ _ d;rw[zx b]at D;simp_all
 refine⟨h.S,h.N,h.C,by rw[jM];exact h.I,by rw[jM];exact h.M,λi j k=> ?_⟩;let⟨c,o,e,f,g,b,q,r,G,t,y⟩:=h.r i j k;by_cases l:a.block=i
 .subst l;have:j=p.block:=h.C.1 _ _ _ k d;subst this;exact⟨_,_,e,f,g,TF b n,TF q (by rw[<-F,n]),by rw[<-E];exact ox.M<|(r.N m).pO _ C,λs=>absurd s m,t,by simpa using y⟩
 .exact⟨c,o,e,f,g,by rwa[HR l],by rwa[HR λe=>l<|h.C.2.1 _ _ _ d<|e▸k],r,G,t,y⟩
theorem ja.xq(h:ja Y X u w)(m:∀j,X j->j<w.heap.size)(n:fM Y d q): ja (Y.N u.heap.size w.heap.size) X {u with heap:=u.heap.push (Č d e)} {w with heap:=w.heap.push (Č q e)}:=by
 have a:∀i j,Y i j->i<u.heap.size/\j<w.heap.size:=by intro i j s;let⟨_,_,_,_,_,f,g,_⟩:=h.r i j s;grind
 have b:=fj.S (Y:=Y) (λj x=>absurd (a _ _ x).1 Z) (λi x=>absurd (a _ _ x).2 Z) h.I h.M;refine⟨h.S,h.N,b.2.1 h.C,by have:=h.I;simp[fj.N];omega,by have:=h.M;simp[fj.N];omega,?_⟩
 .rintro i j (x|⟨rfl,rfl⟩)
  .let⟨s,o,p,r,t,f,g,v,y,z,B⟩:=h.r i j x;let⟨k,l⟩:=a i j x;exact⟨s,o,p,r,t,by simp only[Ģ k];rw[<-f,Ý k],by simp only[Ģ l];rw[<-g,Ý l],v.fI b,y,z,B⟩
  .exact⟨d,q,e,(0,0),(0,0),fh,fh,ox.M<|n.I b,λs=>absurd (m _ s) Z,λ_=>rfl,dy _⟩
theorem mY.fQ(Y:fj)(X:Nat->Prop)(w:Æ):mY Y X w w:=⟨ß _,U,U,U,λ_ _ _=>rfl,λ_ _ _=>rfl⟩
def mY.fc{b:fj}{w₁:Æ}(h:mY Y X w w₁)(k:mY b X w₁ u)(d:∀i j,b i j->Y i j\/w.heap.size<=j):mY Y X w u:= ⟨õ h.r k.r,k.I.trans h.I,k.M.trans h.M,k.S.trans h.S,λj a c=>(k.C j (Ô a h.r) λi y=>(d i j y).elim (c i) λz=>by omega).trans<|h.C j a c,λj s a=>(k.N j s<|Ô a h.r).trans<|h.N j s a⟩
def HT{w:Æ}:(w.freeze a n).heap.size=w.heap.size:=by unfold Ė;split<;>simp
def abp{w:Æ}:(w.freeze a n).os=w.os:=by unfold Ė;split<;>rfl
def abq{w:Æ}:(w.freeze a n).output=w.output:=by unfold Ė;split<;>rfl
def L9{w:Æ}:(w.freeze a n).tape=w.tape:=by unfold Ė;split<;>rfl
def TG{w:Æ}:(w.freeze a n).drawn=w.drawn:=by unfold Ė;split<;>rfl
theorem HU{w:Æ}(h:a.block≠j):(w.freeze a n).heap[j]?=w.heap[j]?:=by unfold Ė;split;all_goals grind
def ry(a:Ú)(n:Nat)(b:Nat×Nat):Nat×Nat:=if n=0 then b else if b.1==b.2 then(a.off,a.off+n)else(min b.1 a.off,max b.2<|a.off+n)
theorem TH{w:Æ}(h:w.heap[a.block]?=À (Č d e xJ)):(w.freeze a n).heap[a.block]?=À (Č d e<|ry a n xJ):=by unfold Ė ry;grind
def TJ(h:a.off=p.off)(n:Nat)(b:Nat×Nat):ry a n b=ry p n b:=by unfold ry;rw[h]
theorem abr(h:a.off+n<=i)(b:xJ.2<=i):(ry a n xJ).2<=i:=by unfold ry;grind
theorem abt{b:Nat×Nat}(c:0<i)(d:xJ.1=0)(e:i<=xJ.2)(f:b.2<=xJ.2):(ry a n xJ).1=0/\i<=(ry a n xJ).2/\(ry a n b).2<=(ry a n xJ).2:=by unfold ry;grind
def ja.abu(h:ja Y X u w)(y:gT Y a p)(n:Nat)(z:∀c e b,u.heap[a.block]?=À (Č c e b)->a.off+n<=c.size):ja Y X (u.freeze a n) (w.freeze p n):=by
 obtain⟨k,l,I⟩:=y;refine⟨L9.trans<|h.S.trans L9.symm,TG.trans<|h.N.trans TG.symm,h.C,by rw[HT];exact h.I,by rw[HT];exact h.M,λi j d=> ?_⟩;obtain⟨c,m,e,b,B,f,o,q,r,t,v⟩:=h.r i j d;by_cases g:a.block=i
 .subst g;have:j=p.block:=h.C.1 _ _ _ d k;subst this;refine⟨c,m,e,_,_,TH f,TH o,q,λs=> ?_,λs=> ?_,abr (z _ _ _ f) v⟩
  .obtain⟨C,D,E,x⟩:=r s;rw[<-TJ l];obtain⟨F,G,H⟩:=abt x.1 C D E;exact⟨F,G,H,x⟩
  .rw[t s,TJ l]
 .exact⟨c,m,e,b,B,by rwa[HU g],by rwa[HU λe=>g<|h.C.2.1 _ _ _ k<|e▸d],q,r,t,v⟩
theorem ja.G(h:ja Y X u w)(b:gT Y a p):w.frozen? p=É->u.frozen? a=É:=by let⟨d,f,j⟩:=b;let⟨c,k,e,l,m,g,i,n,o,q,r⟩:=h.r _ _ d;simp only[Ĉ,g,i,<-f,ě,decide_eq_true_eq];rintro⟨x,y⟩;by_cases s:X p.block;all_goals grind
theorem fC.gd{α:Type}{V:fj->α->α->Prop}{Y:fj}{m m':ē α}(h:fC P V Y m m'):∀{u w:Æ},ja Y X u w->(∀j,X j->j<w.heap.size)->∀{x:α} {E:Æ},m.run P u=ĥ x E->∀n:Array ý,∃(l:fj) (t:α) (p:Æ) (B:Array ý),Y.r l/\(∀i j,l i j->Y i j\/(u.heap.size<=i/\w.heap.size<=j))/\m'.runT P w n=(ĥ t p,n++B)/\V l x t/\ja l X E p/\mY Y X w p/\(∀e∈B,zw l X e)/\u.heap.size<=E.heap.size:=by
 induction h with
 |fx h=>
  intro u w d _ x E b n;simp only[ã]at b;cases b;exact⟨_,_,w,#[],fj.M _,λ_ _ h=>Ç h,by simp[é],h,d,mY.fQ _ _ _,λe o=>by simp at o,ß _⟩
 |@gq Y a a' k k' ha hk D=>
  intro u w d C x E b n;simp only[ã]at b;cases f:u.cell? a with
  |none=>
   let⟨c,Q,e,fr,vq,O,_⟩:=d.r _ _ ha.1;let⟨z,s⟩:=abm (P:=P) O<|Ť==ċ;rw[f]at b;simp only[s]at b;cases b
  |some v=>
   rw[f]at b;let⟨W,S,y⟩:=d.gq ha f;let⟨l,t,p,B,F,G,I,J,K,g,L,H⟩:=D v W y d C b<|n.push ⟨û a',Ã,Ã⟩;refine⟨l,t,p,#[⟨û a',Ã,Ã⟩]++B,F,G,?_,J,K,g,λe o=> ?_,H⟩
   .simp only[é,S];rw[show((Ť==ċ)=Ã)from U,I];rw[<-Ļ,Ł]
   .rcases Ĝ.1 o with o|o
    .simp at o;subst o;exact Ç ⟨a',_,U,F.1 _ _ ha.1,U,λe=>by cases e⟩
    .exact L e o
 |@iV Y a a' v W k k' ha hv _ D=>
  intro u w d C x E b n;cases ho:xp v with
  |false=>exact absurd b<|abk ho
  |true=>
   rw[vr ho]at b;cases f:u.cell? a with
   |none=>
    let⟨c,Q,e,fr,vq,O,_⟩:=d.r _ _ ha.1;let⟨z,s⟩:=abn (P:=P) (v:=v) O<|Ť==ċ;rw[f]at b;simp only[s]at b;cases b
   |some y=>
    rw[f]at b;cases M:u.frozen? a with
    |true=>rw[M]at b;simp at b
    |false=>
     simp only[M,Å,if_false]at b;let⟨ns,hf'⟩:=d.abo ha f M;let⟨y',Ma,_⟩:=d.gq ha f;let⟨l,t,p,B,F,G,I,J,K,g,L,H⟩:=D (d.iV ha hv f ns) (by rwa[jM]) b<|n.push ⟨û a',É,Ã⟩;have S:(w.setCell a' W).heap.size=w.heap.size:=jM;have TK:(u.setCell a v).heap.size=u.heap.size:=jM;refine⟨l,t,p,#[⟨û a',É,Ã⟩]++B,F,by rwa[S,TK]at G,?_,J,K,?_,λe o=> ?_,by rwa[TK]at H⟩
     .rw[abj<|(abl hv).trans ho,Ma];simp only[hf',Å,if_false];rw[show((Ť==ċ)=Ã)from U,I];rw[<-Ļ,Ł]
     .refine⟨by rw[<-S];exact g.r,g.I,g.M,g.S,λj N T=> ?_,λj s N=>(g.N j s<|by rwa[S]).trans<|HR λe=>ns<|e▸s⟩;rw[g.C j (by rwa[S]) T];exact HR λe=>T a.block<|e▸ha.1
     .rcases Ĝ.1 o with o|o
      .simp at o;subst o;exact Ç ⟨a',_,U,F.1 _ _ ha.1,U,λ_=>ns⟩
      .exact L e o
 |@xq Y c Q e k k' f _ D=>
  intro u w d C x E b n;simp only[ã]at b;have W:∀i j,Y i j->i<u.heap.size/\j<w.heap.size:=by intro i j S;let⟨_,_,_,_,_,O,hw',_⟩:=d.r i j S;grind
  have n1:∀j,¬Y u.heap.size j:=λj y=>absurd (W _ _ y).1 Z;have n2:∀i,¬Y i w.heap.size:=λi y=>absurd (W _ _ y).2 Z;let⟨l,t,p,B,F,G,I,J,K,g,L,H⟩:=D u.heap.size w.heap.size n1 n2 d.I d.M (d.xq C f) (λj s=>by have:=C j s;simp;omega) b n;refine⟨l,t,p,B,fj.I (fj.S n1 n2 d.I d.M) F,λi j S=> ?_,by simp only[é];exact I,J,K,?_,L,by simp at H;omega⟩
  .rcases G i j S with(y|⟨rfl,rfl⟩)|y
   .exact Ç y
   .exact Î ⟨ß _,ß _⟩
   .simp at y;exact Î ⟨Z,Z⟩
  .have hs:=g.r;simp at hs;refine⟨Z,g.I,g.M,g.S,λj N T=> ?_,λj s N=>(g.N j s<|by simp;omega).trans ?_⟩
   .rw[g.C j (by simp;omega) (λi z=>z.elim (T i) λz=>by omega)];simp[Ģ N]
   .simp[Ģ N]
 |@uy Y r r' k k' oy _ D=>
  intro u w d C x E b n;simp only[ã]at b;let⟨c,Q,e,fr,vq,O,hw',S,_⟩:=d.r _ _ oy;have f:u.shape? r=À (e,c.size):=by simp[Θ,O]
  have s:w.shape? r'=À (e,Q.size):=by simp[Θ,hw']
  rw[f]at b;let⟨l,t,p,B,h⟩:=D e c.size Q.size S.abh d C b n;exact⟨l,t,p,B,by simp only[é,s];exact h⟩
 |@L8 Y a a' k k' ha _ D=>
  intro u w d C x E b n;simp only[ã]at b;let⟨l,t,p,B,h⟩:=D (u.frozen? a) (w.frozen? a') (d.G ha) d C b n;exact⟨l,t,p,B,by simpa only[é]using h⟩
 |@zv Y q k k' _ D=>
  intro u w d C x E b n;simp only[ã]at b;cases M:q.forced with
  |true=>
   rw[M]at b;simp only[if_true]at b;let⟨l,t,p,B,h⟩:=D 0 d C b n;exact⟨l,t,p,B,by simpa only[é,M,if_true]using h⟩
  |false=>
   rw[M]at b;simp only[Å,if_false]at b;have S:ja Y X {u with drawn:=u.drawn+1} {w with drawn:=w.drawn+1}:=⟨d.S,by simp[d.N],d.C,d.I,d.M,d.r⟩;rw[d.S,d.N]at b;obtain⟨l,t,p,B,F,G,I,J,K,g,L,H⟩:=D (q.cut<|w.tape w.drawn q) S C (by rwa[d.S,d.N]) n;exact⟨l,t,p,B,F,G,by simp only[é,M,Å,if_false];exact I,J,K,⟨g.r,g.I,g.M,g.S,g.C,g.N⟩,L,H⟩
 |HQ _ D=>
  intro u w d C x E b n;simp only[ã]at b;let⟨l,t,p,B,h⟩:=D d C b n;exact⟨l,t,p,B,by simpa only[é]using h⟩
 |@BY Y mk k k' hm _ D=>
  intro u w d C x E b n;simp only[ã]at b;let⟨l,t,p,B,F,G,I,J,K,g,L,H⟩:=D d C b<|n.push ⟨ů mk,Ã,É⟩;refine⟨l,t,p,#[⟨ů mk,Ã,É⟩]++B,F,G,?_,J,K,g,λe o=> ?_,H⟩
  .simp only[é];rw[I];rw[<-Ļ,Ł]
  .rcases Ĝ.1 o with o|o
   .simp at o;subst o;rcases hm with rfl|⟨f,rfl⟩
    .exact Î<|Ç U
    .exact Î<|Î ⟨f,U⟩
   .exact L e o
 |fK=>
  intro u w _ _ x E b n;simp only[ã]at b;cases b
 |nV h=>
  intro u w _ _ x E b n;exact absurd b<|h _ _ _
end
inductive jG:Â->Prop
 |lT (b:Bool):jG (Ľ b)
 |iC (k:ú) (n:Int):jG (Ć k n)
 |kD (s:ByteArray):jG (ħ s)
 |lk:jG (Þ ë)
 |nF (n c:Nat):jG (bR ë n c)
 |uo:jG bS
 |uq:jG aV
 |uu:jG (eh ë)
 |uw:jG (.map ë)
 |nU {cs:Array Â} (h:∀i (h:i<cs.size),jG cs[i]):jG (.agg cs)
 |mX {cs:Array Â} (h:∀i (h:i<cs.size),jG cs[i]):jG (ſ cs)
def jG.jr(h:jG v)(Y:fj):fg Y v v:=by
 induction h with
 |lT b=>exact .lT b
 |iC k n=>exact .iC k n
 |kD s=>exact .kD s
 |lk=>exact .lk
 |nF n c=>exact .nF n c
 |uo=>exact .uo
 |uq=>exact .uq
 |uu=>exact .uu
 |uw=>exact .uw
 |nU _ b=>exact .nU U λi c _=>b i c
 |mX _ b=>exact .mX U λi c _=>b i c
def mZ(P:Õ):Prop:=∀t i z,P.info? t=À i->i.zero=À z->jG z
def jg{α:Type}:fj->α->α->Prop:=λ_ a b=>a=b
section
variable{Y:fj}
def fB{α β:Type}{V:fj->α->α->Prop}{V':fj->β->β->Prop}{m c:ē α}{f d:α->ē β}(h:fC P V Y m c) (g:∀b a e,Y.r b->V b a e->fC P V' b (f a) (d e)):fC P V' Y (m>>=f) (c>>=d):=fC.lE h g
def rz{α β:Type}{c:fj->β->β->Prop}{m:ē α}{f d:α->ē β}(h:fC P jg Y m m) (g:∀b a,Y.r b->fC P c b (f a) (d a)):fC P c Y (m>>=f) (m>>=d):= fC.lE h λb a i j (e:a=i)=>by subst e;exact g b a j
def qo:fC P (λ_ a b=>a=P/\b=P) Y da da:=.HQ (.fx ⟨U,U⟩)
theorem Mb{α:Type}{V:fj->α->α->Prop}{e:Ι}(h:(∃x y s c,e=.bounds x y s c)\/(∃m,e=.error m)\/(∃m,e=.plain m)\/e=.nilDeref):fC P V Y (runtimePanic e) (runtimePanic e):=by unfold runtimePanic;refine fB qo ?_;rintro f a g _ ⟨b,d⟩;rw[b,d];rcases h with⟨x,y,s,c,rfl⟩|⟨m,rfl⟩|⟨m,rfl⟩|rfl<;>exact .fK
theorem B1{α:Type}{V:fj->α->α->Prop}{k:ú}{y:Int}{c:av}:fC P V Y (boundsPanic k h y c) (boundsPanic k h y c):=by
 unfold boundsPanic;simp only[];split
 .apply rz (.zv λn=> .fx U);grind [Mb]
 .grind [Mb]
def xt(t:Á):fC P (λ_ a b=>a=b/\P.info? t=À a) Y (Δ t) (Δ t):=by
 unfold Δ;apply fB qo;rintro e a b _ ⟨c,d⟩;rw[c,d];cases h:P.info? t with
 |some i=>exact .fx ⟨U,U⟩
 |none=>exact .fK
def iU(t:Á):fC P (λ_ a b=>a=b/\P.underlying t=À a) Y (ø t) (ø t):=by
 unfold ø;apply fB qo;rintro e a b _ ⟨c,d⟩;rw[c,d];cases h:P.underlying t with
 |some i=>exact .fx ⟨U,U⟩
 |none=>exact .fK
def EA(b:mZ P)(t:Á):fC P fg Y (ω t) (ω t):=by
 unfold ω;apply fB (xt t);rintro d a e _ ⟨rfl,h⟩;cases c:a.zero with
 |some z=>exact .fx ((b t a z h c).jr _)
 |none=>exact .fK
def mE(t:Á):fC P (λ_ a b=>a=b/\∃i,P.info? t=À i/\i.size=a) Y (ax t) (ax t):=by unfold ax;apply fB (xt t);rintro i a b _ ⟨rfl,h⟩;exact .fx ⟨U,_,h,U⟩
def TL(t:Á):fC P jg Y (ek t) (ek t):=by unfold ek;apply fB (iU t);rintro b a c _ ⟨rfl,_⟩;split<;>exact .fx U
def HY(h:gT Y a p):fC P fg Y (aW a) (aW p):=.gq h λ_ _ b=> .fx b
def abv(h:gT Y a p)(b:fg Y v x):fC P jg Y (ak a v) (ak p x):=.iV h b (.fx U)
def abw:∀{Y:fj} {a b:Ú} {i:Nat} {c d:Array Â},gT Y a b->fM Y c d->fC P fM Y (Ō a i n c) (Ō b i n d):=by
 induction n with
 |zero=>intro Y a b i c d _ e;exact .fx e
 |succ n h=>
  intro Y a b i c d f e;unfold Ō;apply fB (HY<|f.C i);exact λk v l g j=>h (f.r g)<|(e.I g).TD j
def Mc(h:gT Y a p)(n:Nat):fC P fM Y (cX a n) (cX p n):=abw h<|fM.N Y
def Md:∀{d c:List Â} {Y:fj} {a e:Ú} {i:Nat},gT Y a e->fM Y d.toArray c.toArray->fC P jg Y (Κ a d i) (Κ e c i):=by
 intro d
 induction d with
 |nil=>
  intro c Y a e i _ b;have:c=[]:=by have:=b.r;simp at this;exact Ā this.symm
  subst this;exact .fx U
 |cons v d h=>
  intro c Y a e i f b;match c,b with
  |[],b=>have:=b.r;simp at this
  |v'::c,b=>
   unfold Κ;refine fB (abv (f.C i) (by have:=b.C 0 fh fh;simpa using this)) ?_;intro m _ _ g _;apply h (f.r g);refine⟨by have:=b.r;simpa using this,λj k l=> ?_⟩;have:=b.C (j+1) (by simp at k|-;omega) (by simp at l|-;omega);exact(by simpa using this:fg Y _ _).fI g
theorem TM(h:gT Y a p)(t:Á):fC P fg Y (ae t a) (ae t p):=by
 unfold ae;apply rz (TL t);intro g b d;split
 .apply fB (mE t);rintro i n _ f ⟨rfl,_⟩;apply fB (Mc ((h.r d).r f) n);exact λj c k _ e=> .fx (.nU e.r e.C)
 .exact HY<|h.r d
def abx(h:gT Y a p)(t:Á)(d:fg Y v x):fC P jg Y (aI t a v) (aI t p x):=by
 unfold aI;apply fB (mE t);rintro f n _ b ⟨rfl,_⟩;have c:=(d.fI b).gN;by_cases e:v.cells.size≠n
 .rw[if_pos e];exact .fK
 .rw[if_neg e,if_neg (by rwa[<-c.r])];exact Md (h.r b) c
def zy(e:Á)(h:fM Y d q):fC P gT Y (dQ e d) (dQ e q):= .xq h λ_ _ _ _ _ _=> .fx ⟨Î ⟨U,U⟩,U,U⟩
def TN(t:Á)(h:fg Y v x):fC P gT Y (eI t v) (eI t x):=zy t h.gN
def TO(t:Á)(h:fM Y d q)(a:Nat):fC P fg Y (part t d a) (part t q a):=by
 unfold part;apply rz (TL t);intro i b e;split
 .apply fB (mE t);rintro g n _ f ⟨rfl,_⟩;have:=((h.I e).I f).Ex a<|a+n;exact .fx (.nU this.r this.C)
 .rcases(h.I e).S a with⟨n,f⟩|⟨v,j,n,f,g⟩
  .rw[n];exact .fK
  .rw[n,f];exact .fx g
def EB(h:fg Y v x):fC P gT Y (ŧ v) (ŧ x):=by cases h<;>first|exact .fK|(rename_i a;exact .fx a)
def HZ(h:fg Y v x):fC P jg Y (dc v) (dc x):=by cases h<;>first|exact .fx U|exact .fK
def Me(h:fg Y v x):fC P jg Y (dz v) (dz x):=by unfold dz;apply fB (HZ h);rintro b a _ _ rfl;exact .fx U
def TP(h:fg Y v x):fC P jg Y (bV v) (bV x):=by cases h<;>first|exact .fx U|exact .fK
def aby(h:fg Y v x):fC P fM Y (eJ v) (eJ x):=by cases h<;>first|exact .fK|(rename_i a y;exact .fx ⟨a,y⟩)
def TQ(h:fg Y v x):fC P gT Y (bW v) (bW x):=by cases h<;>first|exact Mb (Î<|Î<|Î U)|(rename_i a;exact .fx a)|exact .fK
def abz(b:mZ P)(t:Á)(v:Â):fC P fg Y (Ű t É v) (Ű t É v):=by unfold Ű;apply fB (EA b t);intro d z e _ h;apply fB (TN t h);exact λf a g _ c=> .fx (.jF c)
def abA(t:Á)(h:fg Y v x):fC P fg Y (af t v) (af t x):=by unfold af;apply fB (TN t h);exact λc a d _ b=> .fx (.jF b)
theorem abB(t:Á)(h:fg Y v x):fC P fg Y (Ş t v) (Ş t x):=by unfold Ş;apply fB (EB h);grind [TM]
def abC(t:Á)(b:fg Y x z)(h:fg Y v jQ):fC P jg Y (ĳ t x v) (ĳ t z jQ):=by unfold ĳ;apply fB (EB b);exact λd x z c b=>abx b t<|h.fI c
def abD(h:fg Y v x)(n:Nat):fC P fg Y (ō v n) (ō x n):=by
 cases h<;>first|exact .fK|skip
 rename_i e f c h;simp only[ō];rcases(fM.mk c h).S n with⟨a,b⟩|⟨v,x,a,b,d⟩
 .rw[a];exact .fK
 .rw[a,b];exact .fx d
def abE(t:Á)(h:fg Y v x)(n:Nat):fC P fg Y (ű t v n) (ű t x n):=by
 unfold ű;apply fB (iU t);rintro g d _ a ⟨rfl,_⟩;split
 .rename_i b _;cases i:b[n]? with
  |none=>exact .fK
  |some f=>
   apply fB (aby<|h.fI a);exact λj c k _ e=>TO f.type e f.offset
 .exact .fK
end
section
variable{Y:fj}
def qp{α β:Type}{V:fj->β->β->Prop}{a b:α}{f c:α->ē β}(h:fC P V Y (f a) (c b)):fC P V Y (pure a>>=f) (pure b>>=c):=h
def abF(s:Á)(h:fg Y v x)(n:Nat)(e:∀c f i,P.underlying s=À (de c)->c[n]?=À f->P.info? f.type=À i->i.size≠0): fC P fg Y (Ŏ s v n) (Ŏ s x n):=by
 unfold Ŏ;apply fB (iU s);rintro r d _ g ⟨rfl,j⟩;cases d<;>try exact .fK
 .rename_i c;simp only[];cases k:c[n]? with
  |none=>exact .fK
  |some f=>
   apply fB (EB<|h.fI g);intro t a u _ l;unfold bX;refine fB (fB (V':=gT) (mE f.type) ?_) ?_
   .rintro w z _ m ⟨rfl,i,o,p⟩;have:¬z=0:=by rw[<-p];exact e c f i j k o
    rw[if_neg this,if_neg this];exact .fx ((l.r m).C _)
   .exact λy b B _ q=> .fx (.jF q)
def abG(t:Á)(h:fg Y x v)(j:fg Y z jQ):fC P fg Y (ŏ t x z) (ŏ t v jQ):=by
 unfold ŏ;apply fB (HZ j);rintro r ⟨k,n⟩ _ l rfl;apply fB (iU t);rintro f d _ m ⟨rfl,s⟩;have g:=(h.fI l).fI m;cases d<;>try exact .fK
 .cases g<;>first|exact .fK|skip
  .refine qp<|fB (iU t) ?_;exact λ_ _ _ _ _=>B1
  refine qp<|fB (iU t) ?_;rintro o d _ c ⟨rfl,_⟩;simp only[];split
  .apply fB (mE _);rintro p b _ e ⟨rfl,_⟩;exact .fx (.jF (((‹gT f _ _›.r c).r e).C _))
  .repeat' (first|exact .fK|exact B1|split)
 .apply fB (EB g);intro f a u _ q;refine qp<|fB (iU t) ?_;rintro o d _ c ⟨rfl,_⟩;simp only[];split
  .apply fB (mE _);rintro p b _ e ⟨rfl,_⟩;exact .fx (.jF (((q.r c).r e).C _))
  .repeat' (first|exact .fK|exact B1|split)
def B2(h:fg Y x v)(y:Nat)(c:av):fC P jg Y (ī x y c) (ī v y c):=by
 unfold ī;apply fB (HZ h);rintro a ⟨k,n⟩ _ b rfl;simp only[];split
 .exact .fx U
 .exact B1
def qt(Y:fj)(x a:Option Â):Prop:=(x=ë/\a=ë)\/∃v b,x=À v/\a=À b/\fg Y v b
def qt.r{Y a:fj}(h:Y.r a){x b:Option Â}(r:qt Y x b):qt a x b:=r.imp id λ⟨v,c,d,e,f⟩=>⟨v,c,d,e,f.fI h⟩
def EC(f:Bool)(g i:Nat){l j h k m n:Option Â}(c:qt Y l j)(o:qt Y h k)(t:qt Y m n):fC P jg Y (Ĩ f g i l h m) (Ĩ f g i j k n):=by
 unfold Ĩ;rcases t with⟨rfl,rfl⟩|⟨B,C,rfl,rfl,u⟩
 .refine qp ?_;rcases o with⟨rfl,rfl⟩|⟨w,x,rfl,rfl,d⟩
  .refine qp ?_;rcases c with⟨rfl,rfl⟩|⟨v,p,rfl,rfl,b⟩
   .exact .fx U
   .apply fB (B2 b _ _);rintro r q _ _ rfl;exact .fx U
  .refine fB (B2 d _ _) ?_;rintro y a _ e rfl;rcases(c.r e)with⟨rfl,rfl⟩|⟨v,p,rfl,rfl,b⟩
   .exact .fx U
   .apply fB (B2 b _ _);rintro r q _ _ rfl;exact .fx U
 .refine fB (B2 u _ _) ?_;rintro D a _ s rfl;rcases o with⟨rfl,rfl⟩|⟨w,x,rfl,rfl,d⟩
  .exact .fK
  .refine fB (B2 (d.fI s) _ _) ?_;rintro y z _ e rfl;rcases(((c.r s).r e))with⟨rfl,rfl⟩|⟨v,p,rfl,rfl,b⟩
   .exact .fx U
   .apply fB (B2 b _ _);rintro r q _ _ rfl;exact .fx U
def abH(t:Á)(k:fg Y x v){l C h D m u:Option Â}(g:qt Y l C)(i:qt Y h D)(j:qt Y m u):fC P fg Y (Ų t x l h m) (Ų t v C D u):=by
 unfold Ų;apply fB (iU t);rintro I d _ o ⟨rfl,J⟩;have k:=k.fI o;have g:=g.r o;have i:=i.r o;have j:=j.r o;cases d<;>try exact .fK
 .cases k<;>first|exact .fK|skip
  rename_i s;have e:m.isSome=u.isSome:=by rcases j with⟨rfl,rfl⟩|⟨_,_,rfl,rfl,_⟩<;>rfl
  simp only[e];split
  .exact .fK
  .apply fB (EC Ã s.size s.size g i<|Ç ⟨U,U⟩);rintro G ⟨a,b,c⟩ _ _ rfl;exact .fx (.kD _)
 .rename_i H;apply fB (TQ k);intro G a K B f;apply fB (iU H);rintro L d _ p ⟨rfl,_⟩;have f:=f.r p;cases d<;>try exact .fK
  rename_i n e _;apply fB (EC Ã n n ((g.r B).r p) ((i.r B).r p)<|(j.r B).r p);rintro E ⟨x,y,z⟩ _ q rfl;apply fB (mE e);rintro F w _ r ⟨rfl,_⟩;have f:=(f.r q).r r;refine .fx (.kx ?_ _ _);split
  .exact f
  .exact f.C _
 .rename_i e;cases k<;>first|exact .fK|skip
  .rename_i n c;apply fB (EC É n c g i j);rintro E ⟨x,y,z⟩ _ q rfl;apply fB (mE e);rintro F w _ r ⟨rfl,_⟩;simp only[Option.map_none,ite_self];exact .fx (.nF _ _)
  .rename_i f n c;apply fB (EC É n c g i j);rintro E ⟨x,y,z⟩ _ q rfl;apply fB (mE e);rintro F w _ r ⟨rfl,_⟩;have f:=(f.r q).r r;by_cases e:z=x
   .simp only[e,if_true];exact .fx (.kx f _ _)
   .simp only[e,if_false,bG];exact .fx (.kx (f.C _) _ _)
def abI(t:Á)(b:fg Y x v){l o h p m q:Option Â}(c:qt Y l o)(f:qt Y h p)(g:qt Y m q):fC P fg Y (Ő t x l h m) (Ő t v o p q):=by
 unfold Ő;apply fB (iU t);rintro u d _ i ⟨rfl,B⟩;have b:=b.fI i;have c:=c.r i;have f:=f.r i;have g:=g.r i;cases d<;>try exact abH t b c f g
 rename_i n e;apply fB (EB b);intro C a D k j;apply fB (EC Ã n n (c.r k) (f.r k)<|g.r k);rintro E ⟨x,y,z⟩ _ r rfl;apply fB (mE e);rintro F w _ s ⟨rfl,_⟩;have j:=(j.r r).r s;refine .fx (.kx ?_ _ _);split
 .exact j
 .exact j.C _
def abJ(t:Á)(a:fg Y x v)(b:fg Y z jQ):fC P fg Y (ų t x z) (ų t v jQ):=by
 unfold ų;apply fB (HZ b);rintro l ⟨k,n⟩ _ c rfl;apply fB (iU t);rintro m d _ f ⟨rfl,o⟩;have a:=(a.fI c).fI f;cases d<;>try exact .fK
 .cases a<;>first|exact .fK|skip
  simp only[];split
  .exact .fx (.iC _ _)
  .exact B1
 .rename_i p e;cases a<;>first|exact .fK|skip
  rename_i g h;simp only[];split
  .apply fB (mE e);rintro q w _ j ⟨rfl,_⟩;exact TO e ((fM.mk g h).I j) _
  .exact B1
def abK(a:UnOp)(b:fg Y x v):fC P fg Y (bY a x) (bY a v):=by cases b<;>cases a<;>first|exact .fK|exact .fx (.iC _ _)|exact .fx (.lT _)
end
section
variable{Y:fj}
def abL{α β:Type}{g:α->ē β}(d:∀{Y:fj} (a:α),fC P jg Y (g a)<|g a):∀{Y:fj} (l:List α),fC P jg Y (l.mapM g) (l.mapM g):=by
 intro Y l
 induction l generalizing Y with
 |nil=>exact .fx U
 |cons a l e=>
  rw[ν];apply rz (d a);intro f b _;apply rz e;exact λh c _=> .fx U
def abM{α β:Type}{g:α->ē β}(b:∀{Y:fj} (a:α),fC P jg Y (g a)<|g a)(l:Array α):fC P jg Y (l.mapM g) (l.mapM g):=by rw[Ĕ];have:=abL b (Y:=Y) l.toList;apply fC.lE this;intro d a c _ (e:a=c);subst e;exact .fx U
def abN(Y:fj)(p a:Nat×Value):Prop:=p.1=a.1/\fg Y p.2 a.2
inductive uz(Y:fj):List (Nat×Value)->List (Nat×Value)->Prop
 |oz:uz Y [] []
 |vt {p p':Nat×Value} {l l':List (Nat×Value)} (h:abN Y p p') (t:uz Y l l'):uz Y (p::l) (p'::l')
def uz.fI{Y a:fj}(h:Y.r a){l b:List (Nat×Value)}(r:uz Y l b):uz a l b:=by
 induction r with
 |oz=>exact .oz
 |vt x _ c=>exact .vt ⟨x.1,x.2.fI h⟩ c
def abO(f:Nat):∀(c a:List Â) (k:Nat) (b d:Array Â),fM Y c.toArray a.toArray->fM Y b d-> fM Y ((c.zipIdx k).foldl (λb (p:Value×Nat)=>b.setIfInBounds (f+p.2) p.1) b) ((a.zipIdx k).foldl (λb (p:Value×Nat)=>b.setIfInBounds (f+p.2) p.1) d):=by
 intro c
 induction c with
 |nil=>
  intro a k b d p e;have:a=[]:=by have:=p.r;simp at this;exact Ā this.symm
  subst this;exact e
 |cons x c g=>
  intro a k b d p e;match a,p with
  |[],p=>have:=p.r;simp at this
  |x'::a,p=>
   simp only[Ĭ,List.foldl_cons];refine g a (k+1) _ _ ⟨by have:=p.r;simpa using this,λj h i=> ?_⟩ (e.pO _ (by have:=p.C 0 fh fh;simpa using this));have:=p.C (j+1) (by simp at h|-;omega) (by simp at i|-;omega);simpa using this
theorem abP(b:Nat){a c:Array Â}(e:fM Y d q)(f:fM Y a c): fM Y (d.zipIdx.foldl (λa (p:Value×Nat)=>a.setIfInBounds (b+p.2) p.1) a) (q.zipIdx.foldl (λa (p:Value×Nat)=>a.setIfInBounds (b+p.2) p.1) c):=by have:=abO b d.toList q.toList 0 a c (by simpa using e) f;grind [Array.toList_zipIdx]
def H0(d:Nat->Option (Nat×Nat)):∀{l e:List (Nat×Value)} {a b:Array Â},uz Y l e->fM Y a b-> (ay d a l=ë)\/∃c h,ay d a l=À c/\ay d b e=À h/\fM Y c h:=by
 intro l e a b h
 induction h generalizing a b with
 |oz=>intro c;exact Î ⟨a,b,U,U,c⟩
 |@vt p p' l e hp _ ih=>
  intro c;let⟨i,v⟩:=p;let⟨k,m⟩:=p';obtain⟨rfl,g⟩:=hp;unfold ay;cases d i with
  |none=>exact Ç U
  |some q=>
   let⟨j,n⟩:=q;have f:=g.gN;simp only[<-f.r,<-c.r];split
   .exact Ç U
   .exact ih<|abP j f c
def abQ(q:mZ P)(t:Á){l m:Array (Nat×Value)}(h:uz Y l.toList m.toList):fC P fg Y (Ŵ t l) (Ŵ t m):=by
 unfold Ŵ;apply fB (EA q t);intro C z D r s;apply fB (iU t);rintro E d _ o ⟨rfl,F⟩;have p:=(s.fI o).gN;have h:=(h.fI r).fI o;cases d<;>try exact .fK
 .rename_i n e;refine fB (mE e) ?_;rintro u w _ b ⟨rfl,_⟩;rcases H0 (λi=>À (i*w,w)) (h.fI b) (p.I b)with e|⟨c,v,j,k,g⟩
  .simp only[e];exact .fK
  .simp only[j,k];exact .fx (.nU g.r g.C)
 .rename_i x;refine rz (abM (λ{Y} (f:Field)=>fB (mE f.type) λG a H _ y=> ?_) x) ?_
  .obtain⟨rfl,_⟩:=y;exact .fx U
  .intro u B b;rcases H0 (B[·]?) (h.fI b) (p.I b)with e|⟨c,v,j,k,g⟩
   .simp only[e];exact .fK
   .simp only[j,k];exact .fx (.nU g.r g.C)
end
section
variable{Y:fj}
theorem abR(Y:fj):fg Y (default:Â) default:=.lT _
theorem fM.abS{Y:fj}(r:fM Y d q)(i:Nat):fg Y d[i]! q[i]!:=by
 by_cases h:i<d.size
 .have a:i<q.size:=by rwa[<-r.r]
  rw[getElem!_pos d i h,getElem!_pos q i a];exact r.C i h a
 .have a:¬i<q.size:=by rwa[<-r.r]
  grind [getElem,abR]
def fM.G{Y:fj}(r:fM Y d q)(n:Nat):fM Y ((dA n).map (d[· %d.size]!)) ((dA n).map (q[· %q.size]!)):=by refine⟨fh,λi a b=> ?_⟩;simp only[ŵ,<-r.r];exact r.abS _
def fM.xu{Y:fj}(r:fM Y d q)(n:Nat):fM Y (Ŷ d n) (Ŷ q n):=by
 unfold Ŷ;have e:n*d.size=n*q.size:=by rw[r.r]
 rw[<-e];exact r.G _
def abT(f:mZ P)(t:Á)(b:Nat){m n:Array (Nat×Value)}(h:uz Y m.toList n.toList):fC P fg Y (ĭ t b m) (ĭ t b n):=by
 unfold ĭ;apply fB (iU t);rintro v d _ p ⟨rfl,x⟩;have h:=h.fI p;cases d<;>try exact .fK
 rename_i e;apply fB (mE e);rintro y w _ o ⟨rfl,_⟩;simp only[];split
 .exact .fK
 split
 .refine qp ?_;rcases H0 (λi=>À (i*w,w)) (h.fI o) ((fM.N _).G<|b*w)with e0|⟨c,q,g,j,k⟩
  .rw[e0];exact .fK
  .rw[g,j];exact fB (zy e k) λr a s _ l=> .fx (.kx l _ _)
 .refine fB (EA f e) λB z C u f=>qp ?_;rcases H0 (λi=>À (i*w,w)) ((h.fI o).fI u) (f.gN.G<|b*w)with e0|⟨c,q,g,j,k⟩
  .rw[e0];exact .fK
  .rw[g,j];exact fB (zy e k) λr a s _ l=> .fx (.kx l _ _)
def Mf(h:fg Y x v):fC P jg Y (Α x) (Α v):=by cases h<;>first|exact .fK|exact .fx U
def fM.abU(Y:fj)(b:Array UInt8):fM Y (b.map λb=>Ć .u8 b.toNat) (b.map λb=>Ć .u8 b.toNat):= ⟨U,λi a _=>by simp only[ŵ];exact .iC _ _⟩
def ED(a n:Nat)(h:fg Y x v):fC P fM Y (ļ a n x) (ļ a n v):=by
 cases h<;>first|exact .fK|exact .fx (fM.N _)|exact .fx (fM.abU _ _)|skip
 rename_i b _ _;exact Mc b _
def Mg(n:Nat):fC P jg Y (bO n) (bO n):=by
 unfold bO;split
 .exact .BY (Ç U) (.fx U)
 .exact .fx U
def abV(a:Array Á)(t:Á)(h:fg Y x v):fC P fg Y (ş a t #[x]) (ş a t #[v]):=by
 unfold ş;cases a[0]? with
 |none=>exact .fK
 |some b=>
  apply fB (iU b);rintro f d _ c ⟨rfl,g⟩;have h:=h.fI c;cases d<;>try exact .fK
  .cases h<;>first|exact .fK|exact .fx (.iC _ _)
  .rename_i e;refine fB (iU e) ?_;rintro i d _ j ⟨rfl,_⟩;cases d<;>first|exact .fK|exact .fx (.iC _ _)
  .cases h<;>first|exact .fK|exact .fx (.iC _ _)
  .exact .fx (.iC _ _)
  all_goals cases h<;>first|exact .fK|exact .fx (.iC _ _)
def abW(a:Array Á)(t:Á)(h:fg Y x v):fC P fg Y (Š a t #[x]) (Š a t #[v]):=by
 unfold Š;cases a[0]? with
 |none=>exact .fK
 |some b=>
  apply fB (iU b);rintro f d _ c ⟨rfl,g⟩;have h:=h.fI c;cases d<;>try exact .fK
  .rename_i e;refine fB (iU e) ?_;rintro i d _ j ⟨rfl,_⟩;cases d<;>first|exact .fK|exact .fx (.iC _ _)
  .cases h<;>first|exact .fK|exact .fx (.iC _ _)
  .exact .fx (.iC _ _)
  all_goals cases h<;>first|exact .fK|exact .fx (.iC _ _)
def abX(g:Array Á)(t:Á)(h:fg Y x v)(a:fg Y z jQ):fC P fg Y (ő g t #[x,z]) (ő g t #[v,jQ]):=by
 unfold ő;cases g[0]? with
 |none=>exact .fK
 |some l=>
  apply fB (iU l);rintro u d _ i ⟨rfl,B⟩;have h:=h.fI i;have a:=a.fI i;cases d<;>try exact .fK
  rename_i e;cases h<;>first|exact .fK|skip
  .rename_i n c;apply fB (Mf a);rintro o m _ b rfl;apply fB (mE e);rintro p w _ f ⟨rfl,_⟩;apply fB (ED w _<|(a.fI b).fI f);exact λq c r j k=> .fx (.iC _ _)
  .rename_i s n c;apply fB (Mf a);rintro o m _ b rfl;apply fB (mE e);rintro p w _ f ⟨rfl,_⟩;apply fB (ED w _<|(a.fI b).fI f);intro q c r j k;apply fB (Md (((s.r b).r f).r j)<|by simpa using k);exact λC _ _ _ _=> .fx (.iC _ _)
end
section
variable{Y:fj}
def Mh{α:Type}{h:Halt}:∀u x a,(ei h:ē α).run P u≠ĥ x a:=by intro u x a e;cases e
theorem EE{α β:Type}{m:ē α}{f:α->ē β}(h:∀a u x b,(f a).run P u≠ĥ x b):∀u x b,(m>>=f).run P u≠ĥ x b:=by
 intro u x b e;rw[Ä]at e;cases c:m.run P u with
 |ok a w=>rw[c]at e;exact h a _ _ _ e
 |halt z w=>rw[c]at e;cases e
theorem TR{α:Type}:∀u x a,(goPanic v:ē α).run P u≠ĥ x a:=Mh
def abY{α:Type}{v:bq}:∀u x a,(unsupported v:ē α).run P u≠ĥ x a:=Mh
theorem qu{α:Type}(e:Ι):∀u x a,(runtimePanic e:ē α).run P u≠ĥ x a:=by unfold runtimePanic;grind [EE,TR]
def H2{α:Type}{V:fj->α->α->Prop}{e:Ι}{m:ē α}:fC P V Y (runtimePanic e) m:=.nV (qu e)
def abZ(H:mZ P)(p g t:Á)(i:(∃e,P.underlying g=À (df e))\/P.underlying g=À ę){B:Â}(j:fg Y v jQ)(c:fg Y x B): fC P fg Y (ĸ #[p,g] t #[v,x]) (ĸ #[p,g] t #[jQ,B]):=by
 unfold ĸ;apply fB (iU p);rintro C d _ D ⟨rfl,W⟩;have j:=j.fI D;have c:=c.fI D;cases d<;>try exact .fK
 rename_i e;have r:=j;cases j<;>first|exact .fK|skip
 all_goals
  refine fB (mE e) ?_;rintro X w _ E ⟨rfl,_⟩;refine fB (iU g) ?_;rintro ρ3 d1 _ F ⟨rfl,k⟩;rcases i with⟨e1,i⟩|i;all_goals
   rw[i]at k;injection k with k;subst k;refine qp<|fB (Mf<|c.fI<|fj.I E F) ?_;rintro ρ4 m _ I rfl;have f:=fj.I (fj.I E F) I;have c:=c.fI f;have r:=r.fI f;simp only[];split
   .apply fB (ED w m c);intro J q K l u;first
     |exact .fx (.nF _ _)
     |exact fB (Md (((‹gT C _ _›.r f).r l).C _)<|by simpa using u) λL _ _ h _=> .fx (.kx (((‹gT C _ _›.r f).r l).r h) _ _)
   .apply fB (xt e);rintro J G _ l ⟨rfl,_⟩;split
    .exact .nV (vp<|qu _)
    .apply fB (xt e);rintro L G _ h ⟨rfl,_⟩;split
     .refine .nV (vp ?_);simp only[Å,if_false];refine EE λb=> ?_;simp_all
     .apply rz (.zv λ_=> .fx U);intro M nc y;apply fB (xt e);rintro N G _ n ⟨rfl,_⟩;apply rz (Mg _);intro O _ Q;have f:=fj.I (fj.I (fj.I l h)<|fj.I y n) Q;apply fB (ED w _<|r.fI f);intro ρa o o' h S;apply fB (ED w m<|c.fI<|fj.I f h);intro M q K y u;apply fB (EA H e);intro N z z' n T;exact fB (zy e<|(((S.I y).I n).sE<|u.I n).sE<|T.gN.xu _) λO a a' _ V=> .fx (.kx V _ _)
end
section
variable{Y:fj}
def ab0(g:mZ P)(t:Á)(i:fg Y v x)(j:fg Y z jQ):fC P fg Y (Ĺ t v z) (Ĺ t x jQ):=by
 unfold Ĺ;apply fB (iU t);rintro o d _ f ⟨rfl,p⟩;cases d<;>try exact .fK
 rename_i e;apply fB (Me<|i.fI f);rintro q r _ k rfl;apply fB (Me<|(j.fI f).fI k);rintro s u _ y rfl;apply fB (xt e);rintro B C _ D ⟨rfl,_⟩;simp only[];split
 .split
  .exact .nV (vp<|qu _)
  .split
   .exact .nV (vp<|qu _)
   .exact .nV (EE λ_=>vp<|qu _)
 .apply rz (Mg _);intro E _ F;apply fB (mE e);rintro G w _ H ⟨rfl,_⟩;split
  .exact qp<|fB (zy e<|(fM.N _).G _) λm a n _ b=> .fx (.kx b _ _)
  .exact fB (EA g e) λ_ _ _ _ h=>qp<|fB (zy e<|h.gN.G _) λm a n _ b=> .fx (.kx b _ _)
def sF(P:Õ)(t:Á):Prop:=P.underlying t=À .bool\/(∃k,P.underlying t=À (Β k))\/P.underlying t=À ę
def mF:Â->Prop
 |Þ (À _)=>False
 |_=>True
def TS(t:Á)(i:sF P t\/∃e,P.underlying t=À (ð e))(b:fg Y x v)(c:fg Y z jQ)(j:mF x\/mF z):fC P jg Y (ó t x z) (ó t v jQ):=by
 unfold ó ā Λ;refine fB (iU t) ?_;rintro o d _ g ⟨rfl,a⟩;have b:=b.fI g;have c:=c.fI g;rcases i with(h|⟨k,h⟩|h)|⟨e,h⟩;all_goals
  rw[h]at a;injection a with a;subst a;cases b<;>cases c<;>first|exact .fK|exact .fx U|(simp[mF]at j;done)|skip
 .simp only[];split<;>first|exact .fx U|exact .fK
 .rename_i l n _ _ _;by_cases f:n=0
  .subst f;exact .fx U
  .refine .nV λu x m e=> ?_;simp_all
 .rename_i l n;by_cases f:n=0
  .subst f;exact .fx U
  .refine .nV λu x m e=> ?_;simp_all
end
section
variable{Y:fj}
def H3{r:Nat}(h:Y r i):fC P (λ_ a b=>a=ë/\b=ë) Y (dh r) (dh i):=.uy h λ_ _ _ _=> .fx ⟨U,U⟩
def TT{r:Nat}(h:Y r i):fC P (λ_ a b=>a=ë/\b=ë) Y (bZ r) (bZ i):=.uy h λ_ _ _ _=> .fx ⟨U,U⟩
def zz(h:gT Y a p):fC P (λc x b=>gT c x.1 b.1/\x.2=b.2/\x=(a,Ã)/\b=(p,Ã)) Y (Į a) (Į p):=by unfold Į;apply fB (TT h.1);rintro c x d b ⟨rfl,rfl⟩;exact .fx ⟨h.r b,U,U,U⟩
def ab1(h:gT Y a p):fC P jg Y (aX a) (aX p):=by unfold aX;apply fB (H3 h.1);rintro b x c d ⟨rfl,rfl⟩;exact .fx U
def EF(h:gT Y a p):fC P jg Y (di a) (di p):=by
 have f:=h;let⟨g,i,b⟩:=f;unfold di;cases c:a.spot with
 |some s=>
  rw[c]at b;rw[<-b];exact .fx U
 |none=>
  rw[c]at b;rw[<-b];apply fB qo;rintro k s l d ⟨rfl,e⟩;subst e;apply fB (ab1<|h.r d);intro m _ _ j _;refine .uy (j.1 _ _<|d.1 _ _ g) λe n o q=> ?_;simp only[<-i,ç];split
  .exact .fx U
  .split
   .exact .fx U
   .exact .fK
def H4(c:Bi Y){b d:Ú}(f:gT Y a p)(g:gT Y b d):(a.block==b.block)=(p.block==d.block):=by
 rw[Χ,beq_iff_eq,beq_iff_eq];constructor
 .intro e;exact c.1 _ _ _ f.1<|e▸g.1
 .intro e;exact c.2.1 _ _ _ f.1<|e▸g.1
theorem TU(g:Bi Y){b c:Ú}(d:gT Y a p)(f:gT Y b c):(a==b)=(p==c):=by have e:=H4 g d f;rw[Χ,beq_iff_eq,beq_iff_eq]at e;rw[Χ,beq_iff_eq,beq_iff_eq];let⟨h,i,j⟩:=a;let⟨k,l,m⟩:=p;let⟨n,o,q⟩:=b;let⟨r,s,t⟩:=c;let⟨_,u,v⟩:=d;let⟨_,w,x⟩:=f;grind
theorem TV(f:Bi Y)(n:Y.C=P.globals.size){b d:Ú}(e:gT Y a p)(g:gT Y b d):fC P jg Y (š a b) (š p d):=by
 unfold š;apply fB qo;rintro o c q h ⟨i,j⟩;rw[i,j];have k:(a.block !=b.block)=(p.block !=d.block):=by simp only[bne];rw[H4 f e g]
 have l:(decide<|a.block≥P.globals.size)=(decide<|p.block≥P.globals.size):=by have:=f.2.2 _ _ e.1;grind
 rw[k,l];split
 .exact .fK
 .apply fB (EF<|e.r h);rintro r x _ m rfl;apply fB (EF<|(g.r h).r m);rintro s y _ t rfl;exact .fx U
def ab2(d:Bi Y)(e:Y.C=P.globals.size)(k:ú){b c:Ú}(f:gT Y a p)(g:gT Y b c):fC P fg Y (Μ k a b) (Μ k p c):=by unfold Μ;apply fB (TV d e f g);rintro h ⟨x,y⟩ _ _ rfl;exact .fx (.iC _ _)
def ab3(e:Bi Y)(f:Y.C=P.globals.size)(c:ġ){b d:Ú}(g:gT Y a p)(h:gT Y b d):fC P fg Y (Ν c a b) (Ν c p d):=by unfold Ν;refine fB (TV e f g h) ?_;rintro i ⟨x,y⟩ _ _ rfl;cases c<;>first|exact .fx (.lT _)|exact .fK
def TW(k:ú)(b:gT Y a p)(n:Int):fC P fg Y (Ξ k a n) (Ξ k p n):=by
 unfold Ξ;refine .uy b.1 λe m d f=> ?_;apply qp;apply fB (xt e);rintro g h _ c ⟨rfl,_⟩;simp only[];split
 .exact .fK
 .apply fB (EF<|b.r c);rintro i x _ _ rfl;exact .fx (.iC _ _)
def ab4{n:Int}(h:j<=b)(a:ξ P i e j k n=À m):ξ P i e b k n=À m:=by
 unfold ξ at a|-;simp only[bind,Option.bind]at a|-;split at a
 .cases a
 .rename_i f;rw[if_neg f];split at a
  .cases a
  .rename_i g;simp only[g];dsimp only at a;split at a
   .cases a
   .rename_i l;rw[if_neg]
    .exact a
    .intro o;apply l;have:=(λw=>Nat.mul_le_mul_right w h)<|P.bytesOf e;simp at o|-;omega
def ab5{i:Á->Bool}:∀{d:Nat} {e:Á} {c a b n:Nat},c<=a->cZ P i d e c b n=É->cZ P i d e a b n=É
 |0,_,_,_,_,_,_,h=>by simp[cZ]at h
 |d+1,e,c,a,b,n,hc,h=>by
  unfold cZ at h|-;simp only at h|-;split at h
  .cases h
  .rename_i j;rw[if_neg j];rw[bH,ě,ě,ě]at h|-;rcases h with⟨⟨f,g⟩,k⟩|⟨f,g⟩
   .exact Ç ⟨⟨f,by simp at g|-;omega⟩,k⟩
   .exact Î ⟨by simp at f|-;omega,g⟩
def TX:∀{d:Nat} {e:Á} {c a b:Nat} {u:Á} {n:Nat},c<=a->aY P d e c b u n=É->aY P d e a b u n=É
 |0,_,_,_,_,_,_,_,h=>by simp[aY]at h
 |d+1,e,c,a,b,u,n,hc,h=>by
  unfold aY at h|-;rw[bH]at h|-;rcases h with h|h
  .exact Ç<|ab5 hc h
  .right;split at h
   .rename_i f;first|rw[f]|skip
    exact TX hc h
   .cases h
def ab6{a:Á->Bool}:cZ P a i e 0 j (n+1)=Ã:=by
 cases i with
 |zero=>simp[cZ]
 |succ i=>
  unfold cZ;simp
def ab7{k:ú}(a:P.underlying t=À (Β k)):aY P i e 0 j t (n+1)=Ã:=by
 cases i with
 |zero=>simp[aY]
 |succ i=>
  unfold aY;rw[ab6];simp[a]
def TY(t:Á)(d:gT Y a p)(k:ú)(n:Int):fC P fg Y (ñ #[] t #[Þ<|À a,Ć k n]) (ñ #[] t #[Þ<|À p,Ć k n]):=by
 have f:=d;let⟨c,g,h⟩:=f;unfold ñ;apply qp;simp only[];split
 .apply fB (H3 c);rintro i x e b ⟨rfl,rfl⟩;exact .fx (.jF (d.r b))
 .split
  .exact .fK
  .refine .uy c λe m u j=> ?_;apply qp;apply fB qo;rintro i b v l ⟨o,r⟩;rw[o,r,<-g];cases s:ξ P P.depth e (m/P.cellsOf e) a.off n with
   |none=>exact .fK
   |some x=>
    rw[ab4 (ο<|j.elim (λq=>by omega) λq=>q.1) s];exact .fx (.jF ⟨l.1 _ _ c,U,h⟩)
end
def xv:Obj->Prop
 |Č .. =>False
 |_=>True
inductive ky(P:Õ){α:Type}(V:fj->α->α->Prop):fj->ē α->ē α->Prop
 |gh {Y:fj} {m m':ē α} (h:fC P V Y m m'):ky P V Y m m'
 |lE {Y:fj} {β:Type} {V0:fj->β->β->Prop} {m m':ē β} {f f':β->ē α} (h:fC P V0 Y m m') (hf:∀Y' a a',Y.r Y'->V0 Y' a a'->ky P V Y' (f a) (f' a')):ky P V Y (m.bind f) (m'.bind f')
 |B3 {Y:fj} {o:Obj} {g:Nat->α} {m':ē α} (ho:xv o):ky P V Y (.new o λr=>aH<|g r) m'
 |B4 {Y:fj} {m m':ē α} (h:∀u x u',m.run P u=ĥ x u'->∃i o,u.heap.size<=i/\u'.heap[i]?=À o/\xv o):ky P V Y m m'
section
variable{Y:fj}
def ky.ab8{α β:Type}{V:fj->α->α->Prop}{i:fj->β->β->Prop}{m e:ē α}{f j:α->β}(h:ky P V Y m e)(k:∀c a d,Y.r c->V c a d->i c (f a) (j d)): ky P i Y (m.bind λa=>aH<|f a) (e.bind λa=>aH<|j a):=by
 induction h with
 |gh h=>exact .gh (h.lE λc a d u w=> .fx (k c a d u w))
 |lE h _ g=>
  rw[ř,ř];exact .lE h λc a d u w=>g c a d u w λx b z l n=>k x b z (fj.I u l) n
 |B3 b=>exact .B3 b
 |@B4 Y m e h=>
  refine .B4 λu x l b=> ?_;rw[Ĵ]at b;cases g:m.run P u with
  |halt z w=>rw[g]at b;cases b
  |ok a w=>
   rw[g]at b;simp only[ã]at b;cases b;exact h u a _ g
def B5(u a:Æ):Prop:=∀i o,u.heap.size<=i->a.heap[i]?=À o->¬xv o
def ky.gd{α:Type}{V:fj->α->α->Prop}{Y:fj}{m r:ē α}(h:ky P V Y m r):∀{u w:Æ},ja Y X u w->(∀j,X j->j<w.heap.size)->∀{x:α} {c:Æ},m.run P u=ĥ x c->B5 u c->∀d:Array ý,∃(a:fj) (n:α) (s:Æ) (b:Array ý),Y.r a/\(∀i j,a i j->Y i j\/(u.heap.size<=i/\w.heap.size<=j))/\r.runT P w d=(ĥ n s,d++b)/\V a x n/\ja a X c s/\mY Y X w s/\(∀e∈b,zw a X e)/\u.heap.size<=c.heap.size:=by
 induction h with
 |gh h=>intro u w k g x c b _ d;exact h.gd k g b d
 |@lE Y β V0 m r f f' h _ ih=>
  intro u w k g x c b l d;rw[Ĵ]at b;cases t:m.run P u with
  |halt z w=>rw[t]at b;cases b
  |ok a u1=>
   rw[t]at b;let⟨G,H,w1,E,p,q,v,I,J,B,K,C⟩:=h.gd k g t d;let⟨L,n,M,N,F,O,Q,S,T,W,k7,k8⟩:=ih G a H p I J (λj s=>Ô (g j s) B.r) b (λi o s=>l i o<|õ C s)<|d++E;refine⟨L,n,M,E++N,fj.I p F,λi j D=> ?_,?_,S,T,B.fc W λi j D=>(q i j D).imp id λy=>y.2,λe s=> ?_,õ C k8⟩
   .rcases O i j D with y|⟨y1,y2⟩
    .exact q i j y
    .exact Î ⟨õ C y1,õ B.r y2⟩
   .rw[Ñ,v];simp only[];rw[Q,Ļ]
   .rcases Ĝ.1 s with s|s
    .rcases K e s with⟨a,i,y,z2,z3,z4⟩|z
     .exact Ç ⟨a,i,y,F.1 _ _ z2,z3,z4⟩
     .exact Î z
    .exact k7 e s
 |B3 s=>
  intro u w k g x c b l d;simp only[ã]at b;cases b;exact absurd s<|l u.heap.size _ (ß _) fh
 |B4 h=>
  intro u w k g x c b l d;let⟨i,o,p,q,v⟩:=h u x c b;exact absurd v<|l i o p q
end
section
variable{Y:fj}
theorem ab9(i:Bi Y)(F:Y.C=P.globals.size)(t:Á)(s:sF P t){j b m:Ú}(e:gT Y a j)(f:gT Y b m):fC P jg Y (ó t (Þ<|À a)<|Þ<|À b) (ó t (Þ<|À j)<|Þ<|À m):=by
 unfold ó ā Λ;refine fB (iU t) ?_;rintro G d _ g ⟨rfl,c⟩;rcases s with h|⟨k,h⟩|h
 .rw[h]at c;injection c with c;subst c;exact .fK
 .rw[h]at c;injection c with c;subst c;apply fB (zz<|e.r g);rintro H p u l ⟨_,_,rfl,rfl⟩;apply fB (zz<|(f.r g).r l);rintro I q J n ⟨_,_,rfl,rfl⟩;apply fB qo;rintro K p u o ⟨v,w⟩;rw[v,w];have z:=(((e.r g).r l).r n).r o;have B:=(((f.r g).r l).r n).r o;have C:=H4 i e f;have D:(decide<|a.block<P.globals.size)=(decide<|j.block<P.globals.size):=by
   have:=i.2.2 _ _ e.1;grind
  simp only[C,D];split
  .apply fB (EF z);rintro E x _ r rfl;apply fB (EF<|B.r r);rintro L y _ M rfl;exact .fx U
  .apply fB (xt t);rintro E x _ r ⟨rfl,_⟩;split
   .rw[TU i e f];split
    .exact .fx U
    .exact .fK
   .exact .fK
 .rw[h]at c;injection c with c;subst c;exact .fK
def acd(e:Bi Y)(f:Y.C=P.globals.size)(t:Á)(b:sF P t)(c:fg Y x v)(d:fg Y z jQ):fC P jg Y (ó t x z) (ó t v jQ):=by
 by_cases a:mF x\/mF z
 .exact TS t (Ç b) c d a
 .have g:=λh=>a<|Ç h;have i:=λh=>a<|Î h;cases c<;>first|exact absurd trivial g|skip
  cases d<;>first|exact absurd trivial i|skip
  rename_i j _ _ k;exact ab9 e f t b j k
def ace(a:ġ)(k:ú)(x y:Int):fC P fg Y (ag a k x y) (ag a k x y):=by
 unfold ag;split
 .exact H2
 .cases a<;>first|exact .fK|exact .fx (.iC _ _)
def acf(a:ġ)(k b:ú)(x y:Int):fC P fg Y (aJ a k x b y) (aJ a k x b y):=by
 unfold aJ;split
 .exact H2
 .cases a<;>first|exact .fK|exact .fx (.iC _ _)
def acg(a:ġ)(t:Á)(k b:ú)(x y:Int):fC P fg Y (Ũ a t (Ć k x)<|Ć b y) (Ũ a t (Ć k x)<|Ć b y):=by
 cases a<;>simp only[Ũ]<;>first|exact acf _ _ _ _ _|skip
 all_goals
  split
  .exact .fK
  .first|exact .fx (.iC _ _)|exact .fx (.lT _)|exact ace _ _ _ _
def ach(a:ġ)(t:Á)(x y:ByteArray):fC P fg Y (Ũ a t (ħ x)<|ħ y) (Ũ a t (ħ x)<|ħ y):=by
 cases a<;>simp only[Ũ,br]<;>first|exact .fK|exact .fx (.lT _)|skip
 split
 .exact .fK
 .exact .fx (.kD _)
end
section
variable{Y:fj}
def kH{α β:Type}{V0:fj->β->β->Prop}{V:fj->α->α->Prop}{m c:ē β}{f d:β->ē α}(h:fC P V0 Y m c) (g:∀b a e,Y.r b->V0 b a e->ky P V b (f a) (d e)):ky P V Y (m>>=f) (c>>=d):=.lE h g
def aci{α β:Type}{V:fj->α->α->Prop}{c:fj->β->β->Prop}{m d:ē α}{f e:α->β}(h:ky P V Y m d)(i:∀b a g,Y.r b->V b a g->c b (f a) (e g)): ky P c Y (m>>=λa=>pure<|f a) (d>>=λa=>pure<|e a):=ky.ab8 h i
def T0(t:Á)(y:Â):∀u x a,(ñ #[] t #[Þ ë,y]).run P u≠ĥ x a:=by
 unfold ñ;refine EE λn=> ?_;simp only[];split
 .exact abY
 .split;all_goals simp_all
def B6(t:Á)(i:fg Y x v)(j:∃p,x=Þ p)(k:ú)(n:Int):ky P fg Y (ŕ t x<|Ć k n) (ŕ t v<|Ć k n):=by
 obtain⟨p,rfl⟩:=j;cases i with
 |lk=>
  unfold ŕ;refine kH (iU t) ?_;rintro e d _ h ⟨rfl,_⟩;cases d<;>simp only[Å,if_false,if_true]<;>first|exact .gh .fK|exact .gh (.nV (T0 t _))
 |jF f=>
  unfold ŕ;refine kH (iU t) ?_;rintro e d _ h ⟨rfl,_⟩;have l:∀{a g:Ú},gT e a g->ky P fg e (Į a>>=λp=>ñ #[] t #[Þ<|À p.1,Ć k n]>>=λc=>match c with|Þ (À b)=>b9 b p.2|c=>pure c) (Į g>>=λp=>ñ #[] t #[Þ<|À p.1,Ć k n]>>=λc=>match c with|Þ (À b)=>b9 b p.2|c=>pure c):=by intro a g f;refine kH (zz f) ?_;rintro q p r s ⟨m,u,rfl,rfl⟩;refine kH (TY t m k n) ?_;intro w c y z o;cases o<;>first|exact .B3 trivial|exact .gh (.fx (by constructor<;>assumption))
  cases d<;>simp only[Å,if_false,if_true]<;>first|exact .gh .fK|exact l<|f.r h
def T1(t:Á)(b:fg Y x v)(c:∃p,x=Þ p)(k:ú)(n:Int):ky P fg Y (Ţ t x<|Ć k n) (Ţ t v<|Ć k n):=by
 unfold Ţ;obtain⟨p,rfl⟩:=c;cases b with
 |lk=>exact .gh (.nV (T0 t _))
 |jF a=>
  apply kH (TT a.1);rintro e p f d ⟨rfl,rfl⟩;exact .gh (TY t (a.r d) k n)
def acj(P:Õ)(a:ġ)(t:Á)(x y:Â):Prop:=a=az\/a=aK->(sF P t\/((∃e,P.underlying t=À (ð e))/\(mF x\/mF y)))
def T3(c:Bi Y)(d:Y.C=P.globals.size)(t:Á)(f:sF P t\/((∃e,P.underlying t=À (ð e))/\(mF x\/mF z)))(a:fg Y x v)(b:fg Y z jQ):fC P jg Y (ó t x z) (ó t v jQ):=by
 rcases f with h|⟨g,i⟩
 .exact acd c d t h a b
 .exact TS t (Î g) a b i
def acn(m:Bi Y)(n:Y.C=P.globals.size)(c:ġ)(t:Á)(r:acj P c t x z)(o:fg Y x v)(h:fg Y z jQ):ky P fg Y (Ũ c t x z) (Ũ c t v jQ):=by
 have f:c=az->fC P fg Y (ó t x z>>=λb=>pure<|Ľ b) (ó t v jQ>>=λb=>pure<|Ľ b):=by intro e;apply fB (T3 m n t (r<|Ç e) o h);rintro i b _ _ rfl;exact .fx (.lT _)
 have g:c=aK->fC P fg Y (ó t x z>>=λb=>pure<|Ľ !b) (ó t v jQ>>=λb=>pure<|Ľ !b):=by intro e;apply fB (T3 m n t (r<|Î e) o h);rintro i b _ _ rfl;exact .fx (.lT _)
 cases o with
 |iC k a=>
  cases h with
  |iC d b=>exact .gh (acg c t k d a b)
  |jF l=>
   cases c<;>first|exact .gh .fK|exact .gh (f U)|exact .gh (g U)|exact B6 t (.jF l) ⟨_,U⟩ _ _|skip
   apply kH (zz l);rintro i p s e ⟨j,_,_,_⟩;exact .gh (TW _ j _)
  |lk=>cases c<;>first|exact .gh .fK|exact .gh (f U)|exact .gh (g U)|exact B6 t .lk ⟨_,U⟩ _ _
  |_=>cases c<;>first|exact .gh .fK|exact .gh (f U)|exact .gh (g U)
 |kD a=>
  cases h with
  |kD b=>exact .gh (ach c t a b)
  |_=>cases c<;>first|exact .gh .fK|exact .gh (f U)|exact .gh (g U)
 |lk=>
  cases h with
  |iC k b=>
   cases c<;>first|exact .gh .fK|exact .gh (f U)|exact .gh (g U)|exact B6 t .lk ⟨_,U⟩ _ _|skip
   refine kH (iU t) ?_;rintro i d _ e ⟨rfl,_⟩;cases d<;>simp only[Å,if_false,if_true]<;>first|exact T1 t .lk ⟨_,U⟩ _ _|exact B6 t .lk ⟨_,U⟩ _ _
  |_=>cases c<;>first|exact .gh .fK|exact .gh (f U)|exact .gh (g U)
 |jF a=>
  cases h with
  |iC k b=>
   cases c<;>first|exact .gh .fK|exact .gh (f U)|exact .gh (g U)|exact B6 t (.jF a) ⟨_,U⟩ _ _|skip
   .refine kH (iU t) ?_;rintro i d _ e ⟨rfl,_⟩;have a:=a.r e;cases d<;>simp only[Å,if_false,if_true]<;>first|exact T1 t (.jF a) ⟨_,U⟩ _ _|exact B6 t (.jF a) ⟨_,U⟩ _ _
   all_goals
    apply kH (zz a);rintro i p s e ⟨j,_,_,_⟩;exact .gh (TW _ j _)
  |jF l=>
   cases c<;>first|exact .gh .fK|exact .gh (f U)|exact .gh (g U)|skip
   all_goals
    refine kH (zz a) ?_;rintro i p s e ⟨j,_,rfl,rfl⟩;refine kH (zz<|l.r e) ?_;rintro w q B b ⟨d,_,rfl,rfl⟩;have k:=b.2.1<|e.2.1 m;have u:=b.2.2.trans<|e.2.2.trans n;first|exact .gh (ab2 k u _ (j.r b) d)|exact .gh (ab3 k u _ (j.r b) d)
  |_=>cases c<;>first|exact .gh .fK|exact .gh (f U)|exact .gh (g U)
 |_=>
  cases h<;>cases c<;>first|exact .gh .fK|exact .gh (f U)|exact .gh (g U)
end
section
variable{Y:fj}
def aco(a b:Á)(h:(∃k g,P.underlying a=À (Β k)/\P.underlying b=À (Β g))\/(P.underlying a=À ę/\P.underlying b=À ę))(f:fg Y x v):fC P fg Y (Œ a b x) (Œ a b v):=by
 unfold Œ;refine fB (iU a) ?_;rintro n d _ l ⟨rfl,c⟩;refine fB (iU b) ?_;rintro o p _ m ⟨rfl,e⟩;have f:=(f.fI l).fI m;rcases h with⟨k,g,i,j⟩|⟨i,j⟩;all_goals
  rw[i]at c;rw[j]at e;injection c with c;injection e with e;subst c e;cases f<;>first|exact .fK|exact .fx (.iC _ _)|exact .fx (.kD _)
inductive oA(Y:fj):Ο->Ο->Prop
 |na {v v':Â} (h:fg Y v v'):oA Y (ï v) (ï v')
 |rA:oA Y aG aG
 |rB (f:à) {c c':Array Â} (h:fM Y c c'):oA Y (ũ f c) (ũ f c')
def EG(P:Õ)(t:Á):Prop:=sF P t\/∃e,P.underlying t=À (ð e)
def acp(t:Á)(f:EG P t)(a g b i:Â):fC P jg Y (į ā t a b) (į ā t g i):=by
 unfold ā į;refine fB (iU t) ?_;rintro j d _ l ⟨rfl,c⟩;rcases f with(h|⟨k,h⟩|h)|⟨e,h⟩;all_goals
  rw[h]at c;injection c with c;subst c;exact .fx U
def acr(e:ġ)(t:Á)(c:e=az\/e=aK->EG P t)(x y:Ö){d:Â}(h:fg Y v z)(i:fg Y jQ d):fC P jg Y (ŷ e t x y v jQ) (ŷ e t x y z d):=by
 have g:EG P t->∀{f:fj} (s:bq) (v z jQ d:Â),fC P jg f (į ā t v jQ>>=λr=>if r=É then unsupported s else pure ()) (į ā t z d>>=λr=>if r=É then unsupported s else pure ()):=by
  intro c f s v z jQ d;apply fB (acp t c v z jQ d);rintro j r _ _ rfl;split
  .exact .fK
  .exact .fx U
 unfold ŷ;cases e<;>first|exact .fx U|skip
 all_goals
  have c:=c (by first|exact Ç U|exact Î U);cases h<;>cases i<;>first|exact .fx U|skip
 all_goals first
  |(cases x<;>cases y<;>first|exact .fx U|exact g c _ _ _ _ _)
  |(
   simp only[þ,Å,if_false];apply fB qo;rintro f p m n ⟨r,s⟩;rw[r,s];apply fB qo;rintro j q o u ⟨k,l⟩;rw[k,l];split
   .exact .fx U
   .exact g c _ _ _ _ _)
def mg{m a:ē Â}(h:fC P fg Y m a):fC P oA Y (m>>=λv=>pure<|ï v) (a>>=λv=>pure<|ï v):=h.lE λ_ _ _ _ v=> .fx (.na v)
def T4{m a:ē Â}(h:ky P fg Y m a):ky P oA Y (m>>=λv=>pure<|ï v) (a>>=λv=>pure<|ï v):=aci h λ_ _ _ _ v=> .na v
def acs{m a:ē Unit}(h:fC P jg Y m a):fC P oA Y (m>>=λ_=>pure aG) (a>>=λ_=>pure aG):=h.lE λ_ _ _ _ _=> .fx .rA
def acu(f:à)(b:∃a,P.funcs[f]?=À a/\(a.name== "runtime.NumGoroutine")=Ã/\a.body.isNone=Ã)(e:fM Y d q):fC P oA Y (ĵ f d) (ĵ f q):=by let⟨a,g,h,i⟩:=b;unfold ĵ;apply fB qo;rintro m p n j ⟨k,l⟩;rw[k,l,g];simp only[h,i,Å,if_false];exact .fx (.rB f (e.I j))
end
inductive jV(P:Õ)(ev:Ö->Â):Op->Prop
 |zC (x:Ö):jV P ev (.move x)
 |EH (x:Ö):jV P ev (.assign x)
 |vu (c a b:Ö):jV P ev (.pick c a b)
 |gC (t:Á):jV P ev (.alloc t)
 |Mi (t:Á) (x:Ö):jV P ev (.box t x)
 |Mj (t:Á) (ps:Array (Nat×Operand)):jV P ev (.build t ps)
 |Mk (t:Á) (n:Nat) (ps:Array (Nat×Operand)):jV P ev (dB t n ps)
 |gq (t:Á) (a:Ö):jV P ev (.load t a)
 |iV (t:Á) (a x:Ö):jV P ev (.store t a x)
 |EI (x:Ö):jV P ev (ez x)
 |B7 (op:ġ) (t:Á) (x y:Ö) (r:Á) (h:op=az\/op=aK->(sF P t\/((∃e,P.underlying t=À (ð e))/\(mF (ev x)\/mF (ev y))))):jV P ev (dR op t x y r)
 |Ml (op:UnOp) (t:Á) (x:Ö):jV P ev (.unOp op t x)
 |Mm (s d:Á) (x:Ö) (h:(∃k k',P.underlying s=À (Β k)/\P.underlying d=À (Β k'))\/(P.underlying s=À ę/\P.underlying d=À ę)):jV P ev (aL s d x)
 |Mn (t:Á) (l c:Ö):jV P ev (dS t l c)
 |kx (t:Á) (x:Ö) (lo hi mx:Option Ö):jV P ev (.slice t x lo hi mx)
 |Mp (s:Á) (x:Ö) (n:Nat) (h:∀fields f i,P.underlying s=À (de fields)->fields[n]?=À f->P.info? f.type=À i->i.size≠0):jV P ev (dT s x n)
 |Mq (t:Á) (x:Ö) (n:Nat):jV P ev (.field t x n)
 |Mr (t:Á) (x i:Ö):jV P ev (dU t x i)
 |Ms (t:Á) (x i:Ö):jV P ev (.index t x i)
 |Ex (x:Ö) (n:Nat):jV P ev (.extract x n)
 |EJ (x:Ö) (ts:Array Á):jV P ev (Ω {callee:=ĝ .len,args:=#[x],argTypes:=ts})
 |EK (x:Ö) (ts:Array Á):jV P ev (Ω {callee:=ĝ .cap,args:=#[x],argTypes:=ts})
 |EL (x y:Ö) (ts:Array Á):jV P ev (Ω {callee:=ĝ .copy,args:=#[x,y],argTypes:=ts})
 |sE (x y:Ö) (t0 t1:Á) (h:(∃e,P.underlying t1=À (df e))\/P.underlying t1=À ę):jV P ev (Ω {callee:=ĝ .append,args:=#[x,y],argTypes:=#[t0,t1]})
 |jz (f:à) (args:Array Ö) (ts:Array Á) (T5:ev (aN f)=eH (.func f) #[] #[]) (h:∃fn,P.funcs[f]?=À fn/\(fn.name== "runtime.NumGoroutine")=Ã/\fn.body.isNone=Ã):jV P ev (Ω {callee:=cg<|aN f,args:=args,argTypes:=ts})
end Go.Proofs.Y.Lift
namespace Go.Proofs.Y.Lift
open Go Go.Conc
section
variable{Y:fj}
def T7(Y:fj):Ö->Prop
 |dV v=>fg Y v v
 |ep g=>Y g g
 |_=>True
theorem EM(Y:fj):fg Y ľ ľ:=.mX U λi h=>absurd h fh
def acv{a a':bE}(h:fM Y a.tmps a'.tmps)(b:T7 Y qQ):fg Y (a.eval qQ) (a'.eval qQ):=by
 cases qQ with
 |tmp t=>
  simp only[å,ĩ];rcases h.S t with⟨f,g⟩|⟨v,d,f,g,c⟩
  .rw[f,g];exact EM Y
  .rwa[f,g]
 |const v=>exact b
 |global g=>exact .jF ⟨b,U,U⟩
 |func f=>exact .fn _
def acw(b:Array au)(h:fM Y d q)(j:Nat):ł b d j=ł b q j:=by
 unfold ł;cases(b[j]?).bind (·.dst)with
 |none=>rfl
 |some a=>
  simp only[Option.bind_some];rcases h.S a with⟨c,e⟩|⟨v,g,c,e,f⟩
  .rw[c,e]
  .rw[c,e];cases f<;>rfl
def H5(a:Array au)(o:au)(h:fM Y d q):Ħ o (ł a d)=Ħ o (ł a q):=by have:ł a d=ł a q:=funext<|acw a h;rw[this]
def acy{a a':bE}(h:fM Y a.tmps a'.tmps)(d:Option Tmp)(b:fg Y v x):fM Y (a.put d v).tmps (a'.put d x).tmps:=by
 cases d with
 |none=>exact h
 |some d=>exact h.pO d b
end
section
variable{Y:fj}
def T8{b:Ö->Â}(a:Array Ö)(h:∀x∈a,fg Y (xX x)<|b x):fM Y (a.map xX) (a.map b):= ⟨fh,λi c d=>by simp only[ŵ];exact h _<|Array.getElem_mem _⟩
def T9{c:Ö->Â}(a:Array (Nat×Operand))(h:∀x∈(a.toList.map (·.2)).toArray,fg Y (xX x)<|c x):uz Y (a.map λp=>(p.1,xX p.2)).toList (a.map λp=>(p.1,c p.2)).toList:=by
 simp only[Array.toList_map];have d:∀x∈a.toList.map (·.2),fg Y (xX x) (c x):=λx b=>h x (by simpa using b);generalize a.toList=l at d
 induction l with
 |nil=>exact .oz
 |cons p l e=>exact .vt ⟨U,d _ fh⟩ (e λx b=>d x<|by simp at b|-;exact Î b)
def Mt{a:Ö->Â}(x:Option Ö)(h:∀y,x=À y->fg Y (xX y) (a y)):qt Y (x.map xX) (x.map a):=by
 cases x with
 |none=>exact Ç ⟨U,U⟩
 |some x=>exact Î ⟨_,_,U,U,h x U⟩
def Ua(p:mZ P)(D:Bi Y)(E:Y.C=P.globals.size){w:Ö->Â}(F:∀f,w (aN f)=eH (.func f) #[] #[])(B:jV P xX o.op)(g:∀x∈o.op.operands,fg Y (xX x)<|w x):ky P oA Y (ì xX o) (ì w o):=by
 let⟨O,u,Q,S,T,guard⟩:=o;simp only at B g;unfold ì;simp only[];cases B with
 |zC x=>exact .gh (.fx (oA.na<|g x<|by simp[Ê]))
 |EH x=>exact .gh (.fx (oA.na<|g x<|by simp[Ê]))
 |vu c a b=>
  apply kH (TP<|g c<|by simp[Ê]);rintro G r _ k rfl;refine .gh (.fx (oA.na ?_));split
  .exact(g a<|by simp[Ê]).fI k
  .exact(g b<|by simp[Ê]).fI k
 |gC t=>exact .gh (mg<|abz p t _)
 |Mi t x=>exact .gh (mg<|abA t<|g x<|by simp[Ê])
 |Mj t z=>exact .gh (mg<|abQ p t<|T9 z g)
 |Mk t n z=>exact .gh (mg<|abT p t n<|T9 z g)
 |gq t a=>exact .gh (mg<|abB t<|g a<|by simp[Ê])
 |iV t a x=>exact .gh (acs<|abC t (g a<|by simp[Ê])<|g x<|by simp[Ê])
 |EI x=>
  simp only[];have j:=g x (by simp[Ê]);generalize xX x=v at j;generalize w x=v' at j;cases j<;>first|exact .gh H2|exact .gh (.fx (oA.na<|by constructor<;>assumption))|skip
  rename_i f;cases f<;>exact .gh (.fx (oA.na<|.fn _))
 |B7 u t x y r h=>
  have j:=g x (by simp[Ê]);have C:=g y (by simp[Ê]);apply T4;apply kH (acr u t (λe=>(h e).imp id λq=>q.1) x y j C);exact λG _ _ k _=>acn (k.2.1 D) (k.2.2.trans E) u t h (j.fI k)<|C.fI k
 |Ml u t x=>exact .gh (mg<|abK u<|g x<|by simp[Ê])
 |Mm s d x h=>exact .gh (mg<|aco s d h<|g x<|by simp[Ê])
 |Mn t l c=>exact .gh (mg<|ab0 p t (g l<|by simp[Ê])<|g c<|by simp[Ê])
 |kx t x H I J=>exact .gh (mg<|abI t (g x<|by simp[Ê]) (Mt H λy e=>g y<|by simp[Ê,e]) (Mt I λy e=>g y<|by simp[Ê,e])<|Mt J λy e=>g y<|by simp[Ê,e])
 |Mp s x n h=>exact .gh (mg<|abF s (g x<|by simp[Ê]) n h)
 |Mq t x n=>exact .gh (mg<|abE t (g x<|by simp[Ê]) n)
 |Mr t x i=>exact .gh (mg<|abG t (g x<|by simp[Ê])<|g i<|by simp[Ê])
 |Ms t x i=>exact .gh (mg<|abJ t (g x<|by simp[Ê])<|g i<|by simp[Ê])
 |Ex x n=>exact .gh (mg<|abD (g x<|by simp[Ê]) n)
 |EJ x m=>
  simp only[ù,č,Ē,pure_bind,Ø,â,ä];exact .gh (mg<|abV m _<|g x<|by simp[Ê,ô])
 |EK x m=>
  simp only[ù,č,Ē,pure_bind,Ø,â,ä];exact .gh (mg<|abW m _<|g x<|by simp[Ê,ô])
 |EL x y m=>
  simp only[ù,č,Ē,pure_bind,Ø,â,ä];exact .gh (mg<|abX m _ (g x<|by simp[Ê,ô])<|g y<|by simp[Ê,ô])
 |sE x y K L h=>
  simp only[ù,č,Ē,pure_bind,Ø,â,ä];exact .gh (mg<|abZ p K L _ h (g x<|by simp[Ê,ô])<|g y<|by simp[Ê,ô])
 |jz f M m N h=>
  simp only[ù,N,F f,İ,č,pure_bind,Ď,ď];exact .gh (acu f h<|T8 M λx j=>g x<|by simp[Ê,ô,j])
end
def World.tp(u:Æ)(T:ψ)(D:Nat):Æ:={u with tape:=T,drawn:=D}
def uA(T:ψ)(D:Nat)(a:ψ)(b n:Nat):Prop:=∀i,i<n->a (b+i)=T (D+i)
def uA.ln{T:ψ}(h:uA T i xQ j (n+1)):xQ j=T i:=h 0 Z
def uA.jh{T:ψ}(h:uA T i xQ j (n+m)):uA T i xQ j n:=λa b=>h a Z
def uA.acz{b:ψ}(h:uA xQ i b j (n+m)):uA xQ (i+n) b (j+n) m:=λa c=>by have:=h (n+a) Z;rw[show j+n+a=j+(n+a) by omega,show i+n+a=i+(n+a) by omega];exact this
def qw{α:Type}(P:Õ)(m:ē α):Prop:=∀(u:Æ) (T:ψ) (D:Nat),∃(n:Nat) (v:Æ),
 ∀x c,m.run P ((World.tp u T D))=ĥ x c->c=(World.tp v T<|D+n)/\∀a b,uA T D a b n->m.run P ((World.tp u a b))=ĥ x ((World.tp v a<|b+n))
section
variable{α β:Type}
def zD{m:ē α}(h:∀u x a,m.run P u=ĥ x a->a=u/\∀b c,m.run P ((World.tp u b c))=ĥ x ((World.tp u b c))):qw P m:=λu T D=>⟨0,u,λx a e=>by let⟨d,f⟩:=h _ x a e;exact⟨d,λb c _=>f b c⟩⟩
def Mv{m:ē α}(h:∀u x a,m.run P u≠ĥ x a):qw P m:=λu T D=>⟨0,u,λx a e=>absurd e<|h _ _ _⟩
def acA{m:ē α}{f:α->ē β}(h:qw P m)(i:∀a,qw P<|f a):qw P (m.bind f):=by
 intro u T D;let⟨n,v,j⟩:=h u T D;cases b:m.run P ((World.tp u T D))with
 |halt z w=>exact⟨0,u,λx c e=>by rw[Ĵ,b]at e;cases e⟩
 |ok a k=>
  obtain⟨rfl,l⟩:=j a k b;let⟨o,w,p⟩:=i a v T<|D+n;refine⟨n+o,w,λx c e=> ?_⟩;rw[Ĵ,b]at e;let⟨q,r⟩:=p x c e;refine⟨by rw[q,cO],λz d g=> ?_⟩;rw[Ĵ,l z d g.jh,<-cO];exact r z (d+n) g.acz
theorem acB{m a:ē α}(h:∀u,m.run P u=a.run P u)(b:qw P a):qw P m:=by intro u T D;let⟨n,v,c⟩:=b u T D;exact⟨n,v,λx d e=>by grind⟩
def acC(q:bT):qw P (π q):=by
 intro u T D;cases a:q.forced with
 |true=>exact⟨0,u,λx d e=>by simp only[π,ã,a,if_true]at e;cases e;exact⟨U,λb c _=>by simp only[π,ã,a,if_true];rfl⟩⟩
 |false=>
  refine⟨1,u,λx d e=> ?_⟩;simp only[π,ã,a,Å,if_false]at e;cases e;refine⟨U,λb c f=> ?_⟩;simp only[π,ã,a,Å,if_false];have g:(World.tp u b c).tape (World.tp u b c).drawn q=T D q:=congrFun f.ln q;rw[g];rfl
def H6{γ:Type}(s:String):(MonadExcept.throw s:Except String γ)=bF s:=rfl
def acD(a:Ú)(md:Mode):qw P (aW a md):=by
 refine zD λu x f e=> ?_;simp only[aW,ã]at e|-;cases b:u.cell? a with
 |some v=>
  rw[b]at e;cases e;exact⟨U,λc d=>by simp only[show((World.tp u c d)).cell? a=À x from b]⟩
 |none=>
  rw[b]at e;cases v:u.farLoad P a (md==ċ)with
  |error z=>simp only[v]at e;cases e
  |ok p=>
   simp only[v]at e;cases e;exact⟨U,λc d=>by simp only[show((World.tp u c d)).cell? a=ë from b,show((World.tp u c d)).farLoad P a (md==ċ)=.ok p from v]⟩
def Mw(u:Æ)(a:Ú)(v:Â)(md:Mode):∀T D,((World.tp u T D)).farStore P a v (md==ċ)=(u.farStore P a v<|md==ċ).map λp=>((World.tp p.1 T D),p.2):=by
 intro T D;have c:∀b t,((World.tp u T D)).viewStore P b t a v (md==ċ)=(u.viewStore P b t a v<|md==ċ).map λp=>((World.tp p.1 T D),p.2):=by
  intro b t;unfold bI;have o:((World.tp u T D)).seen P b t a (md==ċ)=u.seen P b t a (md==ċ):=U;rw[o];simp only[bind,ρ,pure,ς,H6];cases u.seen P b t a (md==ċ)with
  |error e=>simp only[];split<;>rfl
  |ok r=>
   simp only[];repeat' (first|rfl|split)
 unfold Ŧ;have e:((World.tp u T D)).heap=u.heap:=U;cases r:u.heap[a.block]? with
 |none=>simp only[aO,e,r];rfl
 |some o=>
  cases o<;>first
   |(simp only[aO,e,r];rfl)
   |skip
  simp only[e,r,c];cases u.viewStore P _ _ a v (md==ċ)<;>rfl
def acE(a:Ú)(v:Â)(md:Mode):qw P (ak a v md):=by
 by_cases b:xp v=É
 .intro u T D;cases d:u.cell? a with
  |some y=>
   cases c:u.frozen? a with
   |true=>exact⟨0,u,λx h e=>by simp only[ak]at e;rw[vr b,show((World.tp u T D)).cell? a=À y from d]at e;simp only[show((World.tp u T D)).frozen? a=É from c,if_true]at e;cases e⟩
   |false=>
    refine⟨0,u.setCell a v,λx h e=> ?_⟩;simp only[ak]at e|-;rw[vr b,show((World.tp u T D)).cell? a=À y from d]at e;simp only[show((World.tp u T D)).frozen? a=Ã from c,Å,if_false]at e;cases e;refine⟨U,λf g i=> ?_⟩;rw[vr b,show((World.tp u f g)).cell? a=À y from d];simp only[show((World.tp u f g)).frozen? a=Ã from c,Å,if_false];rfl
  |none=>
   cases c:u.farStore P a v (md==ċ)with
   |error z=>exact⟨0,u,λx h e=>by simp only[ak]at e;rw[vr b,show((World.tp u T D)).cell? a=ë from d]at e;simp only[Mw u a v md T D,c,cj]at e;cases e⟩
   |ok p=>
    refine⟨0,p.1,λx h e=> ?_⟩;simp only[ak]at e|-;rw[vr b,show((World.tp u T D)).cell? a=ë from d]at e;simp only[Mw u a v md T D,c,cj]at e;cases e;refine⟨U,λf g i=> ?_⟩;rw[vr b,show((World.tp u f g)).cell? a=ë from d];simp only[Mw u a v md f g,c,cj];rfl
 .exact Mv λu x h e=>by cases v<;>first|exact absurd U b|cases e
def acG(o:Obj):qw P (eK o):=λu T D=>⟨0,{u with heap:=u.heap.push o},λx a e=>by cases e;exact⟨U,λb c _=>rfl⟩⟩
def acH(r:Nat):qw P (ck r):=by
 refine zD λu x d e=> ?_;simp only[ck,ã]at e|-;cases a:u.heap[r]? with
 |none=>rw[a]at e;cases e
 |some o=>
  rw[a]at e;cases o<;>first
   |(cases e;done)
   |(cases e;exact⟨U,λb c=>by simp only[show((World.tp u b c)).heap[r]?=_ from a]⟩)
end
def pP(u:Æ):Prop:=∀(i:Nat) (c:Array Â) (e:Á),u.heap[i]?≠À (Ÿ c e)
structure Kd(u u':Æ):Prop where
 r:pP u->pP u'
 C:∀(i:Nat) (o:Obj),u.heap[i]?=À o->xv o->∃o',u'.heap[i]?=À o'/\xv o'
theorem Kd.fQ(u:Æ):Kd u u:=⟨id,λ_ o h k=>⟨o,h,k⟩⟩
def Kd.fc{c:Æ}(h:Kd w u)(k:Kd u c):Kd w c:=⟨λx=>k.r<|h.r x,λi o x y=>by let⟨d,e,f⟩:=h.C i o x y;exact k.C i d e f⟩
def EN:Halt->Bool
 |.panic _=>É
 |.stuck _=>É
 |ŀ (.initOrder _)=>Ã
 |ŀ _=>É
 |_=>Ã
def nW{α:Type}(P:Õ)(m:ē α):Prop:=∀u,pP u->(∀x a,m.run P u=ĥ x a->Kd u a)/\(∀z a,m.run P u=bU z a->EN z=É)
section
variable{α β:Type}
def Ub(a:α):nW P (aH a):=λu _=>⟨λx b h=>by cases h;exact Kd.fQ u,λz b h=>by cases h⟩
def EO{z:Halt}(h:EN z=É):nW P (ei z:ē α):=λu _=>⟨λx a e=>(by cases e),λb a e=>(by cases e;exact h)⟩
def H7{m:ē α}{f:α->ē β}(h:nW P m)(j:∀a,nW P<|f a):nW P (m.bind f):=by
 intro u d;let⟨g,k⟩:=h u d;refine⟨λx i e=> ?_,λz i e=> ?_⟩<;>rw[Ĵ]at e
 .cases b:m.run P u with
  |ok a c=>
   rw[b]at e;exact(g a c b).fc<|(j a c<|(g a c b).r d).1 x i e
  |halt z w=>rw[b]at e;cases e
 .cases b:m.run P u with
  |ok a c=>
   rw[b]at e;exact(j a c<|(g a c b).r d).2 z i e
  |halt c w=>rw[b]at e;cases e;exact k _ _ b
def Uc:nW P da:=λu _=>⟨λx a h=>by cases h;exact Kd.fQ u,λz a h=>by cases h⟩
theorem acI(q:bT):nW P (π q):=by
 intro u b;constructor
 .intro x a e;simp only[π,ã]at e;split at e<;>cases e
  .exact Kd.fQ u
  .exact⟨id,λi o h k=>⟨o,h,k⟩⟩
 .intro z a e;simp only[π,ã]at e;grind
def acJ(m:Mark):nW P (mark m):=λu _=>⟨λx a h=>by cases h;exact Kd.fQ u,λz a h=>by cases h⟩
def acK(r:Nat):nW P (cm r):=λu _=>⟨λx a h=>by cases h;exact Kd.fQ u,λz a h=>by cases h⟩
def acM(a:Ú):nW P (eL a):=λu _=>⟨λx b h=>by cases h;exact Kd.fQ u,λz b h=>by cases h⟩
theorem acN(o:Obj)(h:∀c e,o≠Ÿ c e):nW P (eK o):=by
 intro u b;refine⟨λx d e=> ?_,λz d e=>by cases e⟩;cases e;refine⟨λ_ i c e a=> ?_,λi f a g=>⟨f,?_,g⟩⟩
 .simp only[Array.getElem?_push]at a;split at a
  .grind
  .exact b i c e a
 .grind
theorem Ud{f:Obj->Obj}(n:∀o,xv o->xv (f o))(j:∀o c e,f o=Ÿ c e->∃d g,o=Ÿ d g):Kd u {u with heap:=u.heap.modify b f}:=by
 refine⟨λh i c e a=> ?_,λi o a p=> ?_⟩
 .simp only[Ň]at a;split at a
  .let⟨o,k,l⟩:=ģ.1 a;let⟨d,g,m⟩:=j o c e l;exact h i d g<|m▸k
  .exact h i c e a
 .grind
theorem acO(a:Ú)(v:Â):Kd u (u.setCell a v):=by
 unfold ĉ;refine Ud (λo b=> ?_) λo c e h=> ?_
 .cases o<;>first|exact b.elim|trivial
 .grind
theorem Ue(b:pP u)(a:Ú)(s:String):EN (u.noCell a s)=É:=by
 unfold aO;split
 .rename_i h;exact absurd h<|b _ _ _
 .rfl
 .rfl
theorem acP(a:Ú)(m:Mode):nW P (aW a m):=by
 intro u d;constructor
 .intro x c e;simp only[aW,ã]at e;grind [Kd.fQ]
 .intro z c e;simp only[aW,ã]at e;split at e
  .cases e
  .split at e
   .cases e
   .rename_i b;cases e;unfold ŋ at b;split at b
    .split at b<;>cases b;rfl
    .grind [Ue]
theorem acQ{k:Ú}{r:Array Value×TypeId×(Nat×Nat)×Nat×Value×List (Nat×Nat×List UInt8)}(h:w.seen P a t k yQ=.ok r):∃c e d,w.heap[a.block]?=À (Č c e d):=by unfold World.seen at h;simp only[bind,ρ,pure,ς,H6]at h;grind
theorem acR{k:Ú}{l:List Ú}(h:w.viewStore P a t k v yQ=.ok (u,l)):Kd w u:=by
 have q:∃c e n d f g,w.heap[a.block]?=À (Č d f g)/\u={w with heap:=w.heap.setIfInBounds a.block (Č c e n)}:=by
  unfold bI at h;cases i:w.seen P a t k yQ with
  |error e=>
   rw[i]at h;simp only[bind,ρ,pure,ς,H6]at h;repeat' (first|contradiction|split at h)
  |ok r=>
   let⟨d,f,g,j⟩:=acQ i;rw[i]at h;simp only[bind,ρ,pure,ς,H6]at h;repeat' (first|contradiction|split at h)
   all_goals(simp only[Except.ok.injEq,Prod.mk.injEq]at h;obtain⟨rfl,_⟩:=h;exact⟨_,_,_,d,f,g,j,U⟩)
 obtain⟨c,e,n,d,f,g,j,rfl⟩:=q;refine⟨λs i x m r=> ?_,λi o r y=> ?_⟩
 .rw[Ś]at r;split at r
  .grind
  .exact s i x m r
 .by_cases m:a.block=i
  .subst m;rw[j]at r;cases r;exact y.elim
  .grind
theorem acS(a:Ú)(v:Â)(m:Mode):nW P (ak a v m):=by
 intro u d;by_cases c:xp v=É
 .constructor
  .intro x f e;simp only[ak]at e;rw[vr c]at e;split at e
   .split at e
    .cases e
    .cases e;exact acO a v
   .split at e
    .rename_i b;cases e;unfold Ŧ at b;grind [acR]
    .cases e
  .intro z f e;simp only[ak]at e;rw[vr c]at e;split at e
   .split at e
    .cases e;rfl
    .cases e
   .split at e
    .cases e
    .rename_i b;cases e;unfold Ŧ at b;split at b
     .split at b<;>cases b;rfl
     .grind [Ue]
 .cases v<;>first|exact absurd U c|exact EO (P:=P) U u d
def fy(P:Õ)(m:ē α):Prop:=nW P m/\qw P m
theorem gA(a:α):fy P (pure a):=⟨Ub a,zD λu x b e=>by cases e;exact⟨U,λ_ _=>rfl⟩⟩
def Mx{z:Halt}(h:EN z=É):fy P (ei z:ē α):=⟨EO h,Mv λu x a e=>by cases e⟩
theorem gf{m:ē α}{f:α->ē β}(h:fy P m)(b:∀a,fy P<|f a):fy P (m>>=f):=⟨H7 h.1 λa=>(b a).1,acA h.2 λa=>(b a).2⟩
def My{m:ē α}{f:α->β}(h:fy P m):fy P (f<$>m):=gf h λ_=>gA _
theorem iX(s:String):fy P (stuck s:ē α):=Mx U
def Uf(v:Â):fy P (goPanic v:ē α):=Mx U
theorem pQ:fy P da:=⟨Uc,zD λu x a e=>by cases e;exact⟨U,λ_ _=>rfl⟩⟩
theorem rC(q:bT):fy P (π q):=⟨acI q,acC q⟩
def EP(m:Mark):fy P (mark m):=⟨acJ m,zD λu x a e=>by cases e;exact⟨U,λ_ _=>rfl⟩⟩
theorem sG(r:Nat):fy P (cm r):=⟨acK r,zD λu x a e=>by cases e;exact⟨U,λ_ _=>rfl⟩⟩
theorem Mz(a:Ú):fy P (eL a):=⟨acM a,zD λu x b e=>by cases e;exact⟨U,λ_ _=>rfl⟩⟩
def H8(o:Obj)(h:∀c e,o≠Ÿ c e):fy P (eK o):=⟨acN o h,acG o⟩
def ER(a:Ú)(m:Mode):fy P (aW a m):=⟨acP a m,acD a m⟩
def acT(a:Ú)(v:Â)(m:Mode):fy P (ak a v m):=⟨acS a v m,acE a v m⟩
theorem H9{m m':ē α}(h:∀u,m.run P u=m'.run P u)(a:fy P m'):fy P m:=⟨λu b=>by have:=a.1 u b;rwa[<-h u]at this,acB h a.2⟩
end
section
variable{α:Type}
def mG(u:bq)(h:EN (ŀ u)=É):fy P (unsupported u:ē α):=Mx h
def ES(e:Á)(c:Array Â):fy P (dQ e c):=by unfold dQ;exact gf (H8 _<|by intro _ _ h;cases h) λ_=>gA _
def Ug(t:Á)(v:Â):fy P (eI t v):=ES _ _
def uB(t:Á):fy P (Δ t):=by unfold Δ;repeat' (first|(with_reducible first|exact gA _|exact iX _|exact pQ|refine gf ?_ λ_=> ?_)|split)
theorem qx(t:Á):fy P (ø t):=by unfold ø;repeat' (first|(with_reducible first|exact gA _|exact iX _|exact pQ|refine gf ?_ λ_=> ?_)|split)
def sH{p:Prop}(h:p:=by repeat' (first|(with_reducible first|exact gA _|exact iX _|exact pQ|exact qx _|exact Uf _|exact Ug _ _|exact rC _|exact uB _|exact ER _ _|exact sG _|exact EP _|refine gf ?_ (λ_=> ?_)|refine My ?_|refine mG _ ?_)|split|rfl)):p:=h
def Ia(t:Á):fy P (Ū t):=by unfold Ū;exact sH
def vv(e:Ι):fy P (runtimePanic e:ē α):=by unfold runtimePanic;repeat' (first|(with_reducible first|exact Ia _|refine gf ?_ λ_=> ?_)|split|exact sH)
def Uh(k:ú)(x y:Int)(c:av):fy P (boundsPanic k x y c:ē α):=by unfold boundsPanic;simp only[];repeat' (first|(with_reducible first|exact vv _|refine gf ?_ λ_=> ?_)|split|exact sH)
def acU(r:Nat):nW P (ck r):=by
 intro u b;constructor
 .intro x a e;simp only[ck,ã]at e;split at e<;>first|(cases e;done)|(cases e;exact Kd.fQ u)
 .intro z a e;simp only[ck,ã]at e;split at e<;>first|(cases e;done)|(cases e;rfl)
theorem Ui(r:Nat):fy P (ck r):=⟨acU r,acH r⟩
def Ib(t:Á):fy P (ω t):=by unfold ω;exact sH
def sI(t:Á):fy P (ax t):=by unfold ax;exact sH
def MA(t:Á):fy P (ek t):=by unfold ek;exact sH
def Uj(a:Ú):∀(n i:Nat) (b:Array Â),fy P<|Ō a i n b
 |0,i,b=>gA _
 |n+1,i,b=>by unfold Ō;exact gf (ER _ _) λ_=>Uj a n _ _
def MB(a:Ú)(n:Nat):fy P (cX a n):=Uj a n _ _
def Ic(a:Ú):∀(b:List Â) (i:Nat),fy P<|Κ a b i
 |[],i=>gA _
 |v::b,i=>by unfold Κ;exact gf (acT _ _ _) λ_=>Ic a b _
theorem Uk(t:Á)(a:Ú):fy P (ae t a):=by unfold ae;repeat' (first|(with_reducible first|exact sI _|exact MA _|exact MB _ _|refine gf ?_ λ_=> ?_)|split|exact sH)
def acV(t:Á)(a:Ú)(v:Â):fy P (aI t a v):=by unfold aI;repeat' (first|(with_reducible first|exact sI _|exact Ic _ _ _|refine gf ?_ λ_=> ?_)|split|exact sH)
def Ul(t:Á)(c:Array Â)(o:Nat):fy P (part t c o):=by unfold part;repeat' (first|(with_reducible first|exact sI _|exact MA _|refine gf ?_ λ_=> ?_)|split|exact sH)
def Um(v:Â):fy P (ŧ v):=by unfold ŧ;exact sH
def Un(v:Â):fy P (dc v):=by unfold dc;exact sH
def jN{p:Prop}(h:p:=by repeat' (first|(with_reducible first|exact gA _|exact iX _|exact pQ|exact qx _|exact Uf _|exact Ug _ _|exact Ia _|exact rC _|exact vv _|exact uB _|exact ER _ _|exact sI _|exact MA _|exact MB _ _|exact Ic _ _ _|exact Un _|exact Ib _|exact acV _ _ _|exact Uk _ _|exact Um _|exact Ul _ _ _|exact sG _|exact Ui _|exact Uh _ _ _ _|exact EP _|refine gf ?_ (λ_=> ?_)|refine My ?_|refine mG _ ?_)|split|rfl)):p:=h
def EU(v:Â):fy P (dz v):=by unfold dz;exact jN
def Ie(v:Â):fy P (bV v):=by unfold bV;exact jN
def acW(v:Â):fy P (eJ v):=by unfold eJ;exact jN
theorem Uo(v:Â):fy P (bW v):=by unfold bW;exact jN
def Up(t:Á)(b:Bool)(v:Â):fy P (Ű t b v):=by unfold Ű;exact jN
def Uq(t:Á)(v:Â):fy P (af t v):=by unfold af;exact jN
def Ur(t:Á)(v:Â):fy P (Ş t v):=by unfold Ş;exact jN
def Us(t:Á)(a v:Â):fy P (ĳ t a v):=by unfold ĳ;exact jN
def Ut(v:Â)(n:Nat):fy P (ō v n):=by unfold ō;exact jN
def Uu(t:Á)(v:Â)(n:Nat):fy P (ű t v n):=by unfold ű;repeat' (first|(with_reducible first|exact acW _|refine gf ?_ λ_=> ?_)|split|exact jN)
def Uv{γ δ:Type}(f:γ->ē δ)(a:∀x,fy P<|f x):∀l:List γ,fy P<|l.mapM f
 |[]=>by rw[cQ];exact gA _
 |x::l=>by rw[ν];exact gf (a x) λ_=>gf (Uv f a l) λ_=>gA _
theorem Uw{γ δ:Type}(f:γ->ē δ)(a:∀x,fy P<|f x)(l:Array γ):fy P (l.mapM f):=by rw[Ĕ];exact My<|Uv f a _
def acX(l:Array Field):fy P (l.mapM λf=>do pure (f.offset,<-ax f.type)):=Uw _ (λ_=>gf (sI _) λ_=>gA _) l
def Ig(r:Nat):fy P (dh r):=by unfold dh;exact jN
def Ux(r:Nat):fy P (bZ r):=by unfold bZ;exact jN
def Uy(a:Ú):fy P (aX a):=by unfold aX;repeat' (first|(with_reducible first|exact Ig _|refine gf ?_ λ_=> ?_)|split|exact jN)
def zE(a:Ú):fy P (di a):=by unfold di;repeat' (first|(with_reducible first|exact gA _|exact iX _|exact pQ|exact sG _|exact Uy _|refine gf ?_ λ_=> ?_)|split|simp only[]|(rename_i b;cases b<;>simp only[Å,if_false,if_true,þ,Ă]))
def B8(a:Ú):fy P (Į a):=by unfold Į;repeat' (first|(with_reducible first|exact Ux _|refine gf ?_ λ_=> ?_)|split|exact jN)
def acY(a:Ú)(x y:Nat):fy P (partAt a x y):=by unfold partAt;repeat' (first|(with_reducible first|exact zE _|refine gf ?_ λ_=> ?_)|split|exact jN)
def acZ(a:Ú)(f:Field):fy P (bX a f):=by unfold bX;repeat' (first|(with_reducible first|exact acY _ _ _|refine gf ?_ λ_=> ?_)|split|exact jN)
def Uz(s:Á)(v:Â)(n:Nat):fy P (Ŏ s v n):=by unfold Ŏ;repeat' (first|(with_reducible first|exact acZ _ _|refine gf ?_ λ_=> ?_)|split|exact jN)
def UA(t:Á)(x i:Â):fy P (ŏ t x i):=by unfold ŏ;repeat' (first|(with_reducible first|exact gA _|exact iX _|exact qx _|exact Uh _ _ _ _|exact sI _|exact Um _|exact Un _|refine gf ?_ (λ_=> ?_)|refine mG _ ?_)|split|rfl|simp only[])
def ac0(x:Â)(y:Nat)(c:av):fy P (ī x y c):=by unfold ī;exact jN
def UB(b:Bool)(l c:Nat)(x y z:Option Â):fy P (Ĩ b l c x y z):=by unfold Ĩ;repeat' (first|(with_reducible first|exact ac0 _ _ _|refine gf ?_ λ_=> ?_)|split|exact jN)
def ac1(t:Á)(v:Â)(x y z:Option Â):fy P (Ų t v x y z):=by unfold Ų;repeat' (first|(with_reducible first|exact Uo _|exact UB _ _ _ _ _ _|refine gf ?_ λ_=> ?_)|split|exact jN)
def UC(t:Á)(v:Â)(x y z:Option Â):fy P (Ő t v x y z):=by unfold Ő;repeat' (first|(with_reducible first|exact UB _ _ _ _ _ _|exact ac1 _ _ _ _ _|refine gf ?_ λ_=> ?_)|split|exact jN)
def UD(t:Á)(x i:Â):fy P (ų t x i):=by unfold ų;exact jN
def UE(o:ġ)(k:ú)(x y:Int):fy P (dC o k x y):=by unfold dC;exact jN
def UF(o:ġ)(k:ú)(x y:Int):fy P (dW o k x y):=by unfold dW;exact jN
def UG(o:UnOp)(v:Â):fy P (bY o v):=by unfold bY;repeat' (first|(with_reducible first|exact UE _ _ _ _|exact UF _ _ _ _)|split|exact jN)
def UH(t:Á)(a:Array (Nat×Value)):fy P (Ŵ t a):=by unfold Ŵ;repeat' (first|(with_reducible first|exact acX _|refine gf ?_ λ_=> ?_)|split|exact jN)
def UI(t:Á)(n:Nat)(a:Array (Nat×Value)):fy P (ĭ t n a):=by unfold ĭ;repeat' (first|(with_reducible first|exact gA _|exact iX _|exact ES _ _|exact qx _|exact Ib _|exact sI _|refine gf ?_ (λ_=> ?_)|refine mG _ ?_)|split|rfl|simp only[]|(rename_i b;cases b<;>simp only[Å,if_false,if_true,þ,Ă]))
def MC(n:Nat):fy P (bO n):=by unfold bO;exact jN
def UJ(t:Á)(x y:Â):fy P (Ĺ t x y):=by unfold Ĺ;repeat' (first|(with_reducible first|exact gA _|exact iX _|exact rC _|exact ES _ _|exact uB _|exact qx _|exact vv _|exact Ib _|exact sI _|exact EU _|exact MC _|refine gf ?_ λ_=> ?_)|split|simp only[]|(rename_i b;cases b<;>simp only[Å,if_false,if_true,þ,Ă]))
def UK(v:Â):fy P (Α v):=by unfold Α;exact jN
def UL(s n:Nat)(v:Â):fy P (ļ s n v):=by unfold ļ;exact jN
def ac2(a:Ú)(n:Nat):fy P (aA a n):=by unfold aA;exact jN
def ac3(s l n:Nat)(b:Option Ú)(v:Â):fy P (aZ s l n b v):=by unfold aZ;repeat' (first|(with_reducible first|exact gA _|exact Mz _|exact ac2 _ _|refine gf ?_ λ_=> ?_)|split|simp only[]|(rename_i b;cases b<;>simp only[Å,if_false,if_true,þ,Ă]))
def UM(a:Array Á)(t:Á)(x:Array Â):fy P (ş a t x):=by unfold ş;exact jN
def UN(a:Array Á)(t:Á)(x:Array Â):fy P (Š a t x):=by unfold Š;exact jN
def UO(a:Array Á)(t:Á)(x:Array Â):fy P (ő a t x):=by unfold ő;repeat' (first|(with_reducible first|exact UK _|exact UL _ _ _|refine gf ?_ λ_=> ?_)|split|exact jN)
def UP(a:Array Á)(t:Á)(x:Array Â):fy P (ĸ a t x):=by unfold ĸ;repeat' (first|(with_reducible first|exact gA _|exact iX _|exact rC _|exact EP _|exact ES _ _|exact uB _|exact qx _|exact vv _|exact Ib _|exact sI _|exact Ic _ _ _|exact EU _|exact MC _|exact UK _|exact UL _ _ _|exact ac3 _ _ _ _ _|refine gf ?_ (λ_=> ?_)|refine mG _ ?_)|split|rfl|(rename_i b;cases b<;>simp only[Å,if_false,if_true,þ,Ă]))
end
section
variable{α:Type}
theorem MD(o:ġ)(k:ı)(x y:Nat):fy P (cR o k x y):=by unfold cR;repeat' (first|(with_reducible first|exact gA _|exact iX _|exact rC _|refine gf ?_ λ_=> ?_)|split|simp only[]|(rename_i b;cases b<;>simp only[Å,if_false,if_true,þ,Ă]))
theorem ME(o:ġ)(k:ı)(x y:Nat):fy P (dD o k x y):=by unfold dD;grind [gA,iX]
theorem ac4(s:ı)(b:Nat)(d:ı):fy P (aP s b d):=by unfold aP;grind [gA,rC,gf]
theorem UQ(s:ı)(b:Nat)(d:ú):fy P (bJ s b d):=by unfold bJ;grind [gA,rC,gf]
theorem ac5(o:ġ)(k:ı)(x y:Nat):fy P (bb o k x y):=by unfold bb;grind [gA,iX,MD,gf]
def mH{p:Prop}(h:p:=by repeat' (first|(with_reducible first|exact gA _|exact iX _|exact rC _|exact MD _ _ _ _|exact Ie _|exact ME _ _ _ _|exact ac4 _ _ _|exact ac5 _ _ _ _|exact vv _|exact pQ|exact zE _|exact sG _|exact EU _|exact Ig _|exact qx _|exact B8 _|exact Ux _|refine gf ?_ (λ_=> ?_)|refine mG _ ?_)|split|rfl)):p:=h
def UR(o:ġ)(k:ı)(x y:Nat):fy P (cu o k x y):=by unfold cu;exact mH
def ac6(s:ı)(b:Nat)(d:ı):fy P (bK s b d):=by unfold bK;exact mH
def MG(x y:Nat):fy P (cw x y):=by unfold cw;exact mH
def MH(x y:Nat):fy P (cx x y):=by unfold cx;exact mH
def MI(x y:Nat):fy P (cy x y):=by unfold cy;exact mH
def ac7(x y:Nat):fy P (cz x y):=by unfold cz;exact mH
def ac8(a b c d:Nat):fy P (aB a b c d):=by unfold aB;repeat' (first|(with_reducible first|exact MG _ _|exact MH _ _|exact MI _ _|refine gf ?_ λ_=> ?_)|split|exact mH)
def ac9(s a b c d:Nat):fy P (σ s a b c d):=by unfold σ;repeat' (first|(with_reducible first|exact MG _ _|exact MH _ _|exact MI _ _|refine gf ?_ λ_=> ?_)|split|exact mH)
def ada(a b c d:Nat):fy P (ah a b c d):=by unfold ah;repeat' (first|(with_reducible first|exact gA _|exact UR _ _ _ _|exact MG _ _|exact MH _ _|exact MI _ _|exact ac7 _ _|exact ac9 _ _ _ _ _|refine gf ?_ λ_=> ?_)|split|simp only[])
def US(o:ġ)(k:ı)(a b c d:Nat):fy P (dj o k a b c d):=by unfold dj;repeat' (first|(with_reducible first|exact UR _ _ _ _|exact ac6 _ _ _|exact ac8 _ _ _ _|exact ada _ _ _ _|refine gf ?_ λ_=> ?_)|split|exact mH)
def adb(o:ġ)(k:ú)(x y:Int):fy P (ag o k x y):=by unfold ag;exact mH
def UT(o:ġ)(x y:Int):fy P (eA o x y):=by unfold eA;exact mH
def ade(o:ġ)(k:ú)(x:Int)(a:ú)(y:Int):fy P (aJ o k x a y):=by unfold aJ;exact mH
def MJ(o:ġ)(x y:ByteArray):fy P (br o x y):=by unfold br;exact mH
def UU(a b:Ú):fy P (š a b):=by unfold š;exact mH
def adf(k:ú)(a b:Ú):fy P (Μ k a b):=by unfold Μ;repeat' (first|(with_reducible first|exact UU _ _|refine gf ?_ λ_=> ?_)|split|exact mH)
def adg(o:ġ)(a b:Ú):fy P (Ν o a b):=by unfold Ν;repeat' (first|(with_reducible first|exact UU _ _|refine gf ?_ λ_=> ?_)|split|exact mH)
def adh(k:ú)(a:Ú)(n:Int):fy P (Ξ k a n):=by unfold Ξ;repeat' (first|(with_reducible first|exact gA _|exact sG _|exact uB _|exact zE _|refine gf ?_ (λ_=> ?_)|refine mG _ ?_)|split|rfl|simp only[]|(rename_i b;cases b<;>simp only[Å,if_false,if_true,þ,Ă]))
def UW(a:Array Á)(t:Á)(x y:Â):fy P (ñ a t #[x,y]):=by
 unfold ñ;cases x<;>first|exact iX _|skip
 refine gf (EU y) λn=> ?_;exact mH
def adi(a:Ú)(b:Bool):fy P (b9 a b):=by unfold b9;repeat' (first|(with_reducible first|exact gA _|refine gf ?_ (λ_=> ?_)|refine H8 _ ?_)|split|(intro _ _ h;cases h;done))
def adj(t:Á)(x y:Â):fy P (ŕ t x y):=by unfold ŕ;repeat' (first|(with_reducible first|exact UW _ _ _ _|exact adi _ _|refine gf ?_ λ_=> ?_)|split|exact mH)
def adk(t:Á)(x y:Â):fy P (Ţ t x y):=by unfold Ţ;repeat' (first|(with_reducible first|exact UW _ _ _ _|refine gf ?_ λ_=> ?_)|split|exact mH)
theorem vw{γ:Type}{d:dE}(h:P.underlying t=À d){f:dE->ē γ}(a:fy P (f d)):fy P (ø t>>=f):=by
 have e:∀u,(ø t).run P u=ĥ d u:=by intro u;unfold ø;simp_all
 grind [H9,Ä,È]
def UX(t:Á)(x y:Â)(a:sF P t\/((∃e,P.underlying t=À (ð e))/\(mF x\/mF y))):fy P (ó t x y):=by
 unfold ó ā Λ;rcases a with(h|⟨k,h⟩|h)|⟨⟨e,h⟩,k⟩<;>refine vw h ?_
 .repeat' (first|(with_reducible first|exact gA _|exact iX _|exact pQ|exact uB _|exact zE _|exact B8 _|refine gf ?_ (λ_=> ?_)|refine mG _ ?_)|contradiction|split)
 .repeat' (first|(with_reducible first|exact gA _|exact iX _|exact pQ|exact uB _|exact zE _|exact B8 _|refine gf ?_ (λ_=> ?_)|refine mG _ ?_)|contradiction|split|rfl)
 .repeat' (first|(with_reducible first|exact gA _|exact iX _|exact pQ|exact uB _|exact zE _|exact B8 _|refine gf ?_ (λ_=> ?_)|refine mG _ ?_)|contradiction|split)
 .repeat' (first|(with_reducible first|exact gA _|exact iX _|exact pQ|exact uB _|exact zE _|exact B8 _|refine gf ?_ (λ_=> ?_)|refine mG _ ?_)|contradiction|exact(Or.elim k id id:False).elim|split)
def adl(t:Á)(a:EG P t)(x y:Â):fy P (į ā t x y):=by unfold ā į;rcases a with(h|⟨k,h⟩|h)|⟨e,h⟩<;>refine vw h ?_<;>(cases x<;>cases y<;>exact gA _)
theorem UY(c:ġ)(t:Á)(d:c=az\/c=aK->EG P t)(x y:Ö)(a b:Â):fy P (ŷ c t x y a b):=by
 unfold ŷ;by_cases e:c=az\/c=aK
 .have f:=d e;rcases e with rfl|rfl;all_goals
   repeat' (first|(with_reducible first|exact adl _ f _ _|refine gf ?_ λ_=> ?_)|split|exact mH)
 .grind [gA]
end
section
variable{α:Type}
theorem adn(k:ú)(n:Int):fy P (cS k n):=by unfold cS;grind [gA]
theorem UZ(n:Int):fy P (bg n):=by unfold bg;grind [gA]
def ado(a:ġ)(t:Á)(x y:Â)(h:a=az\/a=aK->(sF P t\/((∃e,P.underlying t=À (ð e))/\(mF x\/mF y)))):fy P (Ũ a t x y):=by unfold Ũ;repeat' (first|(with_reducible first|exact UX _ _ _ (h<|Ç U)|exact UX _ _ _ (h<|Î U)|exact gA _|exact iX _|exact qx _|exact B8 _|exact UE _ _ _ _|exact UF _ _ _ _|exact MD _ _ _ _|exact ME _ _ _ _|exact US _ _ _ _ _ _|exact adb _ _ _ _|exact UT _ _ _|exact ade _ _ _ _ _|exact MJ _ _ _|exact adf _ _ _|exact adg _ _ _|exact adh _ _ _|exact adj _ _ _|exact adk _ _ _|refine gf ?_ (λ_=> ?_)|refine mG _ ?_)|contradiction|split|rfl)
def adp(s d:Á)(x:Â)(h:(∃k a,P.underlying s=À (Β k)/\P.underlying d=À (Β a))\/(P.underlying s=À ę/\P.underlying d=À ę)):fy P (Œ s d x):=by
 unfold Œ;rcases h with⟨k,a,b,c⟩|⟨b,c⟩<;>refine vw b<|vw c ?_
 .repeat' (first|(with_reducible first|exact adn _ _|exact gA _|exact UQ _ _ _|refine mG _ ?_)|contradiction|split|rfl)
 .repeat' (first|(with_reducible first|exact UZ _|exact gA _|exact UQ _ _ _|refine mG _ ?_)|contradiction|split|rfl)
def U0:∀(l:List FieldStep) (t:Á) (x:Option Â),fy P<|bu l t x
 |[],t,x=>by unfold bu;exact gA _
 |s::l,t,x=>by unfold bu;repeat' (first|(with_reducible first|exact U0 l _ _|exact gA _|exact iX _|exact qx _|exact Ul _ _ _|refine gf ?_ λ_=> ?_)|split|(intro _ _ h;cases h;done)|rfl|simp only[]|(rename_i b;cases b<;>simp only[Å,if_false,if_true,þ,Ă]))
def U1:∀(n:Nat) (t:Á) (v:Â) (s:String),fy P<|aQ n t v s
 |0,t,v,s=>by unfold aQ;exact gA _
 |n+1,t,v,s=>by unfold aQ;repeat' (first|(with_reducible first|exact U1 n _ _ _|exact U0 _ _ _|exact gA _|exact iX _|exact uB _|exact qx _|refine gf ?_ λ_=> ?_)|split|(intro _ _ h;cases h;done)|rfl|simp only[]|(rename_i b;cases b<;>simp only[Å,if_false,if_true,þ,Ă]))
def lq{m:ē Â}(h:fy P m):fy P (m>>=λv=>pure<|ï v):=gf h λ_=>gA _
theorem adq(f:à)(b:∃a,P.funcs[f]?=À a/\(a.name== "runtime.NumGoroutine")=Ã/\a.body.isNone=Ã)(c:Array Â):fy P (ĵ f c):=by let⟨a,d,e,g⟩:=b;refine H9 (m':=pure<|ũ f c) (λu=> ?_)<|gA _;unfold ĵ;rw[Ä,ă];grind [È,Å]
def adr(j:jV P xX o.op):fy P (ì xX o):=by
 let⟨k,g,m,p,u,guard⟩:=o;simp only at j;unfold ì;simp only[];cases j with
 |zC x=>exact gA _
 |EH x=>exact gA _
 |vu c a b=>exact gf (Ie _) λ_=>gA _
 |gC t=>exact lq<|Up _ _ _
 |Mi t x=>exact lq<|Uq _ _
 |Mj t b=>exact lq<|UH _ _
 |Mk t n b=>exact lq<|UI _ _ _
 |gq t a=>exact lq<|Ur _ _
 |iV t a x=>exact gf (Us _ _ _) λ_=>gA _
 |EI x=>
  simp only[];repeat' (first|(with_reducible first|exact U1 _ _ _ _|exact gA _|exact pQ|exact vv _|exact Ie _|exact Up _ _ _|exact Uq _ _|exact Ur _ _|exact Us _ _ _|exact Ut _ _|exact Uu _ _ _|exact Uz _ _ _|exact UA _ _ _|exact UC _ _ _ _ _|exact UD _ _ _|exact UG _ _|exact UH _ _|exact UI _ _ _|exact UJ _ _ _|exact UM _ _ _|exact UN _ _ _|exact UO _ _ _|exact UP _ _ _|refine gf ?_ (λ_=> ?_)|refine mG _ ?_)|split|rfl)
 |B7 g t x y r h=>exact lq<|gf (UY g t (λe=>(h e).imp id λq=>q.1) x y _ _) λ_=>ado g t _ _ h
 |Ml g t x=>exact lq<|UG _ _
 |Mm s d x h=>exact lq<|adp s d _ h
 |Mn t l c=>exact lq<|UJ _ _ _
 |kx t x b a c=>exact lq<|UC _ _ _ _ _
 |Mp s x n h=>exact lq<|Uz _ _ _
 |Mq t x n=>exact lq<|Uu _ _ _
 |Mr t x i=>exact lq<|UA _ _ _
 |Ms t x i=>exact lq<|UD _ _ _
 |Ex x n=>exact lq<|Ut _ _
 |EJ x a=>
  simp only[ù,č,Ē,pure_bind,Ø,â,ä];exact lq<|UM _ _ _
 |EK x a=>
  simp only[ù,č,Ē,pure_bind,Ø,â,ä];exact lq<|UN _ _ _
 |EL x y a=>
  simp only[ù,č,Ē,pure_bind,Ø,â,ä];exact lq<|UO _ _ _
 |sE x y b c h=>
  simp only[ù,č,Ē,pure_bind,Ø,â,ä];exact lq<|UP _ _ _
 |jz f c a b h=>
  simp only[ù,b,İ,č,pure_bind,Ď,ď];exact adq f h _
end
def fm(f:à)(t:Array Â)(k:List ś):Ę:=(base f).at ⟨t,[]⟩ k
structure St where
 f:à
 t:Array Â
 k:List ś
 C:Bool
 L:List (FuncId×Array Value×List ś)
def St.r(s:St)(cs:List Ę):Ó:=G (if s.C then{fm s.f s.t s.k with mode:=.returning}else fm s.f s.t s.k)<|s.L.map (λx=>fm x.1 x.2.1 x.2.2)++cs
def oB(t:Array Â)(d:Option Tmp)(v:Â):Array Â:=(Act.put ⟨t,[]⟩ d v).tmps
def rD(t:Array Â)(d:Option Tmp)(v:Â):Act.put ⟨t,[]⟩ d v=⟨oB t d v,[]⟩:=by cases d<;>rfl
inductive LS(P:Õ):St->Æ->St->Æ->Prop
 |oz {f t L u:_}:LS P ⟨f,t,[],Ã,L⟩ u ⟨f,t,[],É,L⟩ u
 |uC {f t k L u:_}:LS P ⟨f,t,Đ .ret::k,Ã,L⟩ u ⟨f,t,Đ .ret::k,É,L⟩ u
 |rA {f t k L u:_}:LS P ⟨f,t,Đ eM::k,Ã,L⟩ u ⟨f,t,k,Ã,L⟩ u
 |vx {f t k L u l:_}:LS P ⟨f,t,Đ (dX l)::k,Ã,L⟩ u ⟨f,t,k,Ã,L⟩ u
 |xw {f t k L u id:_}:LS P ⟨f,t,dF id::k,Ã,L⟩ u ⟨f,t,k,Ã,L⟩ u
 |uD {f t k L u c:_}:LS P ⟨f,t,dG c::k,Ã,L⟩ u ⟨f,t,k,Ã,L⟩ u
 |qy {f t k L u x y:_}:LS P ⟨f,t,Đ (.seq x y)::k,Ã,L⟩ u ⟨f,t,Đ x::Đ y::k,Ã,L⟩ u
 |sJ {f t k L u c x y b:_} (h:å ⟨t,[]⟩ c=Ľ b):LS P ⟨f,t,Đ (bx c x y)::k,Ã,L⟩ u ⟨f,t,Đ (if b then x else y)::k,Ã,L⟩ u
 |qz {f t k L u id c:_}:LS P ⟨f,t,Đ (dY id c)::k,Ã,L⟩ u ⟨f,t,Đ c::dF id::k,Ã,L⟩ u
 |vy {f t k L u c:_}:LS P ⟨f,t,Đ (eN c)::k,Ã,L⟩ u ⟨f,t,Đ c::dm c::k,Ã,L⟩ u
 |vz {f t k L u c:_}:LS P ⟨f,t,dm c::k,Ã,L⟩ u ⟨f,t,Đ c::dm c::k,Ã,L⟩ u
 |vA {f t k L u c:_}:LS P ⟨f,t,Đ (dZ c)::k,Ã,L⟩ u ⟨f,t,Đ c::dG c::k,Ã,L⟩ u
 |vB {f t k L u id k':_} (h:cB id k=À k'):LS P ⟨f,t,Đ (eO id)::k,Ã,L⟩ u ⟨f,t,k',Ã,L⟩ u
 |vC {f t k L u l k':_} (h:cC l k=À k'):LS P ⟨f,t,Đ (eP l)::k,Ã,L⟩ u ⟨f,t,k',Ã,L⟩ u
 |sK {f t k L u id ops:_}:LS P ⟨f,t,Đ (bP id ops Ã)::k,Ã,L⟩ u ⟨f,t,á ops (List.range ops.size)::k,Ã,L⟩ u
 |zF {f t k L u id ops:_}:LS P ⟨f,t,Đ (bP id ops É)::k,Ã,L⟩ u ⟨f,t,á ops (bL (P.follows .mixedOrders) ops<|u.tape u.drawn<|.order f id)::k,Ã,L⟩ {u with drawn:=u.drawn+1}
 |EV {f t k L u ops:_}:LS P ⟨f,t,á ops []::k,Ã,L⟩ u ⟨f,t,k,Ã,L⟩ u
 |B9 {f t k L u ops i rest o:_} (ho:ops[i]?=À o) (hw:Ħ o (ł ops t)=Ã):LS P ⟨f,t,á ops (i::rest)::k,Ã,L⟩ u ⟨f,oB t o.dst ľ,á ops rest::k,Ã,L⟩ u
 |na {f t k L u ops i rest o v u':_} (ho:ops[i]?=À o) (hw:Ħ o (ł ops t)=É) (hr:(ì (å ⟨t,[]⟩) o).run P u=ĥ (ï v) u'):LS P ⟨f,t,á ops (i::rest)::k,Ã,L⟩ u ⟨f,oB t o.dst v,á ops rest::k,Ã,L⟩ u'
 |zG {f t k L u ops i rest o u':_} (ho:ops[i]?=À o) (hw:Ħ o (ł ops t)=É) (hr:(ì (å ⟨t,[]⟩) o).run P u=ĥ aG u'):LS P ⟨f,t,á ops (i::rest)::k,Ã,L⟩ u ⟨f,oB t o.dst ľ,á ops rest::k,Ã,L⟩ u'
 |rB {f t k L u ops i rest o g args fn c u':_} (ho:ops[i]?=À o) (hw:Ħ o (ł ops t)=É) (hr:(ì (å ⟨t,[]⟩) o).run P u=ĥ (ũ g args) u') (hf:P.funcs[g]?=À fn) (hb:fn.body=À c):LS P ⟨f,t,á ops (i::rest)::k,Ã,L⟩ u ⟨g,args++ĺ (fn.ntmps-args.size) ľ,[Đ c],Ã,(f,t,á ops (i::rest)::k)::L⟩ u'
 |Ca {f t k L u ops i rest:_} (ho:(ops:Array au)[(i:Nat)]?=ë):LS P ⟨f,t,á ops (i::rest)::k,Ã,L⟩ u ⟨f,t,á ops rest::k,Ã,L⟩ u
 |vD {f t k L u g t' ops i rest k' v fn u':_} (hf:P.funcs[f]?=À fn) (hr:(Ī fn t).run P u=ĥ v u'):LS P ⟨f,t,k,É,(g,t',á ops (i::rest)::k')::L⟩ u ⟨g,oB t' ((ops[i]?).bind (·.dst)) v,á ops rest::k',Ã,L⟩ u'
inductive lU(GL:Nat->Prop):Ö->Prop
 |U2 (t:Tmp):lU GL (.tmp t)
 |U3 {v:Â} (h:jG v):lU GL (dV v)
 |U4 {g:Nat} (h:GL g):lU GL (ep g)
 |U5 (f:à):lU GL (aN f)
structure mh(P:Õ)(GL:Nat->Prop)(eY:à->Prop)(o:au):Prop where
 mj:∀{Y:fj} {Sh:Nat->Prop} {t t':Array Â} {u w:Æ},mZ P->Y.C=P.globals.size->(∀g,GL g->Y g g)->fM Y t t'->ja Y Sh u w->(∀j,Sh j->j<w.heap.size)->∀{x:Ο} {u':Æ},(ì (å ⟨t,[]⟩) o).run P u=ĥ x u'->B5 u u'->
  ∃(Y':fj) (x':Ο) (w':Æ) (U6:Array ý),Y.r Y'/\(∀i j,Y' i j->Y i j\/(u.heap.size<=i/\w.heap.size<=j))/\(ì (å ⟨t',[]⟩) o).runT P w #[]=(ĥ x' w',#[]++U6)/\oA Y' x x'/\ja Y' Sh u' w'/\mY Y Sh w w'/\(∀e∈U6,zw Y' Sh e)/\u.heap.size<=u'.heap.size
 r:∀a:bE,fy P<|ì a.eval o
 I:∀(a:bE) (u:Æ) (n:Ο) (u':Æ),(ì a.eval o).run P u=ĥ n u'->(∃v,n=ï v)\/n=aG\/∃f c,n=ũ f c
 C:∀(a:bE) (u:Æ) (f:à) (c:Array Â) (u':Æ),(ì a.eval o).run P u=ĥ (ũ f c) u'->eY f
inductive kz(P:Õ)(GL:Nat->Prop)(eY:à->Prop):aj->Prop
 |uC:kz P GL eY .ret
 |rA:kz P GL eY eM
 |vx (l:Nat):kz P GL eY (dX l)
 |vB (id:Nat):kz P GL eY (eO id)
 |vC (l:Nat):kz P GL eY (eP l)
 |qy {x y:aj} (hx:kz P GL eY x) (hy:kz P GL eY y):kz P GL eY (.seq x y)
 |sJ {c:Ö} {x y:aj} (hc:lU GL c) (hx:kz P GL eY x) (hy:kz P GL eY y):kz P GL eY (bx c x y)
 |qz (id:Nat) {c:aj} (h:kz P GL eY c):kz P GL eY (dY id c)
 |vy {c:aj} (h:kz P GL eY c):kz P GL eY (eN c)
 |vA {c:aj} (h:kz P GL eY c):kz P GL eY (dZ c)
 |sK (id:Nat) {ops:Array au} (draw:Bool) (h:∀o∈ops,mh P GL eY o):kz P GL eY (bP id ops draw)
 |oC (U7:String):kz P GL eY (dq U7)
inductive zH(P:Õ)(GL:Nat->Prop)(eY:à->Prop):ś->Prop
 |qA {c:aj} (h:kz P GL eY c):zH P GL eY (Đ c)
 |xw (id:Nat):zH P GL eY (dF id)
 |uD {c:aj} (h:kz P GL eY c):zH P GL eY (dG c)
 |vz {c:aj} (h:kz P GL eY c):zH P GL eY (dm c)
 |vE {ops:Array au} (is:List Nat) (h:∀o∈ops,mh P GL eY o):zH P GL eY (á ops is)
def rE(P:Õ)(a:Nat->Prop)(b:à->Prop)(k:List ś):Prop:=∀i∈k,zH P a b i
structure lF(P:Õ)(GL:Nat->Prop)(eY:à->Prop)(s:St):Prop where
 fU:rE P GL eY s.k
 fq:∀x∈s.L,rE P GL eY x.2.2
def oD(P:Õ)(d:Nat->Prop)(a:à->Prop):Prop:=∀f,a f->∀b c,P.funcs[f]?=À b->b.body=À c->kz P d a c
section
variable{GL:Nat->Prop}{eY:à->Prop}
def ads{a:aj}(h:kz P GL eY wX):bh wX i=À a->kz P GL eY a:=by
 induction h generalizing a with
 |qy j b d f=>
  intro e;simp only[bh]at e;split at e
  .rename_i r g;cases e;exact .qy (d g) b
  .exact f e
 |vx k=>
  intro e;simp only[bh]at e;split at e<;>cases e;exact .rA
 |_=>intro e;simp only[bh]at e;cases e
def adt{id:Nat}:∀{k a:List ś},rE P GL eY k->cB id k=À a->rE P GL eY a:=by
 intro k
 induction k with
 |nil=>intro a _ e;simp[cB]at e
 |cons i k c=>
  intro a h e;have b:=λj d=>h j<|ò _ d;cases i with
  |inBlock f=>
   simp only[cB]at e;split at e
   .cases e;exact b
   .exact c b e
  |_=>simp only[cB]at e;exact c b e
def adu:∀{k c:List ś},rE P GL eY k->cC i k=À c->rE P GL eY c:=by
 intro k
 induction k with
 |nil=>intro c _ e;simp[cC]at e
 |cons a k f=>
  intro c h e;have d:=λj b=>h j<|ò _ b;cases a with
  |inScope m=>
   simp only[cC]at e;have g:kz P GL eY m:=by cases h _ (î ..)with|uD h=>exact h
   split at e
   .rename_i r n;cases e;intro j b;rcases œ.1 b with rfl|b
    .exact .qA (ads g n)
    .rcases œ.1 b with rfl|b
     .exact .uD g
     .exact d j b
   .exact f d e
  |_=>simp only[cC]at e;exact f d e
def ng{i:ś}(h:rE P GL eY (i::L)):rE P GL eY L:=λj a=>h j<|ò _ a
def nX{i:ś}(b:zH P GL eY i)(h:rE P GL eY L):rE P GL eY (i::L):=λj a=>by
 rcases œ.1 a with rfl|a
 .exact b
 .exact h j a
def xx{c:aj}{k:List ś}(h:rE P GL eY (Đ c::k)):kz P GL eY c:=by cases h _ (î ..)with|qA h=>exact h
def oE{ops:Array au}{k:List ś}(h:rE P GL eY (á ops jJ::k)):∀o∈ops,mh P GL eY o:=by cases h _ (î ..)with|vE _ h=>exact h
def LS.ok(i:oD P GL eY)(k:∀o a u f l w,mh P GL eY o->(ì (å a) o).run P u=ĥ (ũ f l) w->eY f){s g:St}(h:LS P s u g w)(ok:lF P GL eY s):lF P GL eY g:=by
 let⟨c,d⟩:=ok;cases h with
 |oz=>exact⟨c,d⟩
 |uC=>exact⟨c,d⟩
 |rA=>exact⟨ng c,d⟩
 |vx=>exact⟨ng c,d⟩
 |xw=>exact⟨ng c,d⟩
 |uD=>exact⟨ng c,d⟩
 |qy=>
  cases xx c with
  |qy e j=>exact⟨nX (.qA e)<|nX (.qA j)<|ng c,d⟩
 |@sJ _ _ _ _ _ _ _ _ b _=>
  cases xx c with
  |sJ _ e j=>exact⟨nX (.qA (by cases b<;>simp[e,j]))<|ng c,d⟩
 |qz=>
  cases xx c with
  |qz _ h=>exact⟨nX (.qA h)<|nX (.xw _)<|ng c,d⟩
 |vy=>
  cases xx c with
  |vy h=>exact⟨nX (.qA h)<|nX (.vz h)<|ng c,d⟩
 |vz=>
  cases c _ (î ..)with
  |vz h=>exact⟨nX (.qA h) c,d⟩
 |vA=>
  cases xx c with
  |vA h=>exact⟨nX (.qA h)<|nX (.uD h)<|ng c,d⟩
 |vB h=>exact⟨adt (ng c) h,d⟩
 |vC h=>exact⟨adu (ng c) h,d⟩
 |sK=>
  cases xx c with
  |sK _ _ h=>exact⟨nX (.vE _ h)<|ng c,d⟩
 |zF=>
  cases xx c with
  |sK _ _ h=>exact⟨nX (.vE _ h)<|ng c,d⟩
 |EV=>exact⟨ng c,d⟩
 |B9=>exact⟨nX (.vE _ (oE c))<|ng c,d⟩
 |na=>exact⟨nX (.vE _ (oE c))<|ng c,d⟩
 |zG=>exact⟨nX (.vE _ (oE c))<|ng c,d⟩
 |rB m _ n p q=>
  refine⟨λj r=> ?_,λx e=> ?_⟩
  .have:=ū.1 r;rw[this];exact .qA (i _ (k _ _ _ _ _ _ (oE c _<|Û m) n) _ _ p q)
  .rcases œ.1 e with rfl|e
   .exact c
   .exact d x e
 |Ca=>exact⟨nX (.vE _ (oE c))<|ng c,d⟩
 |vD=>
  have j:=d _<|î ..;exact⟨nX (.vE _ (oE j))<|ng j,λx e=>d x<|ò _ e⟩
end
structure Ih(Y:fj)(x y:FuncId×Array Value×List ś):Prop where
 f:x.1=y.1
 t:fM Y x.2.1 y.2.1
 k:x.2.2=y.2.2
inductive Cb(Y:fj):List (FuncId×Array Value×List ś)->List (FuncId×Array Value×List ś)->Prop
 |oz:Cb Y [] []
 |vt {x y:FuncId×Array Value×List ś} {L L':List (FuncId×Array Value×List ś)} (h:Ih Y x y) (hs:Cb Y L L'):Cb Y (x::L) (y::L')
structure Ii(Y:fj)(s s':St):Prop where
 f:s.f=s'.f
 t:fM Y s.t s'.t
 k:s.k=s'.k
 uC:s.C=s'.C
 L:Cb Y s.L s'.L
def Ih.fI{Y a:fj}(h:Y.r a){x y:FuncId×Array Value×List ś}(r:Ih Y x y):Ih a x y:=⟨r.f,r.t.I h,r.k⟩
def Ij{Y b:fj}(h:Y.r b){L c:List (FuncId×Array Value×List ś)}(r:Cb Y L c):Cb b L c:=by
 induction r with
 |oz=>exact .oz
 |vt a _ d=>exact .vt (a.fI h) d
section
variable{Y:fj}{j:Nat->Prop}{p:à->Prop}
def adv(a:∀g,X g->Y g g)(h:lU X qQ):T7 Y qQ:=by
 cases h with
 |U2 t=>trivial
 |U3 h=>exact h.jr Y
 |U4 h=>exact a _ h
 |U5 f=>trivial
def vF(b:∀g,X g->Y g g)(h:fM Y d q)(c:lU X qQ):fg Y (å ⟨d,[]⟩ qQ) (å ⟨q,[]⟩ qQ):= acv (a:=⟨d,[]⟩) (a':=⟨q,[]⟩) h<|adv b c
def oB.r{b:Array Â}(h:fM Y q b)(d:Option Tmp)(c:fg Y v x):fM Y (oB q d v) (oB b d x):= acy (a:=⟨q,[]⟩) (a':=⟨b,[]⟩) h d c
def U8(n:Nat):fM Y (ĺ n ľ) (ĺ n ľ):=⟨U,λi a b=>by simp only[Array.getElem_replicate];exact EM Y⟩
def adw(B:jV P xX o.op)(i:(ì xX o).run P u=ĥ (ũ F d) W):∃q l,o.op=Ω {callee:=cg<|aN F,args:=q,argTypes:=l}:=by
 have n:∀{m:ē Â} {x:Ο} {k p:Æ},(m>>=λv=>pure (ï v):ē Ο).run P k=ĥ x p->∃v,x=ï v:=by
  intro m x k p e;rw[Ä]at e;cases j:m.run P k with
  |ok a w=>rw[j]at e;cases e;exact⟨a,U⟩
  |halt z w=>rw[j]at e;cases e
 have C:∀{m:ē Unit} {x:Ο} {k p:Æ},(m>>=λ_=>pure aG:ē Ο).run P k=ĥ x p->x=aG:=by
  intro m x k p e;rw[Ä]at e;cases j:m.run P k with
  |ok a w=>rw[j]at e;cases e;rfl
  |halt z w=>rw[j]at e;cases e
 let⟨E,s,G,H,I,guard⟩:=o;simp only at B|-;unfold ì at i;simp only[]at i;cases B with
 |zC x=>cases i
 |EH x=>cases i
 |vu c a b=>
  rw[Ä]at i;cases j:(bV<|xX c).run P u with
  |ok a w=>rw[j]at i;cases i
  |halt z w=>rw[j]at i;cases i
 |iV t a x=>exact absurd (C i) fh
 |EI x=>
  simp only[]at i;split at i;all_goals first
   |(cases i;done)
   |exact absurd i<|qu _ _ _ _
   |(
    split at i;all_goals first
     |(cases i;done)
     |exact absurd i<|qu _ _ _ _
     |(
      rw[Ä,ă]at i;simp only[È]at i;rw[Ä]at i;revert i;generalize ã P (aQ _ _ _ _) u=z;intro i;cases z with
      |halt z w=>cases i
      |ok a w=>
       simp only[È]at i;split at i
       .rw[Ä]at i;cases i
       .cases i))
 |EJ x l=>simp only[ù,č,Ē,pure_bind,Ø,â,ä]at i;let⟨v,e⟩:=n i;cases e
 |EK x l=>simp only[ù,č,Ē,pure_bind,Ø,â,ä]at i;let⟨v,e⟩:=n i;cases e
 |EL x y l=>simp only[ù,č,Ē,pure_bind,Ø,â,ä]at i;let⟨v,e⟩:=n i;cases e
 |sE x y b c h=>simp only[ù,č,Ē,pure_bind,Ø,â,ä]at i;let⟨v,e⟩:=n i;cases e
 |jz g q l b h=>
  let⟨J,c,r,D⟩:=h;simp only[ù,b,İ,č,pure_bind,Ď,ď,ĵ]at i;rw[Ä,ă]at i;simp only[È,c,r,D,Å,if_false]at i;cases i;exact⟨q,l,U⟩
 |B7 s t x y r h=>
  rw[Ä]at i;cases j:ã P (ŷ s t x y (xX x) (xX y)>>=λ_=>Ũ s t (xX x)<|xX y) u with
  |ok a w=>rw[j]at i;cases i
  |halt z w=>rw[j]at i;cases i
 |_=>let⟨v,e⟩:=n i;cases e
theorem U9(j:Func)(h:fM Y d q):fC P fg Y (Ī j d) (Ī j q):=by
 have k:∀(f:fj),Y.r f->∀n,fg f (d.getD n ľ) (q.getD n ľ):=by intro f a n;simp only[ĩ];rcases(h.I a).S n with⟨b,e⟩|⟨v,u,b,e,m⟩;all_goals grind [EM]
 unfold Ī;refine fB (V:=fM) ?_ ?_
 .rw[Ĕ,Ĕ];have w:∀(l:List ResultVar) (c:fj),Y.r c->fC P (λf (a o:List Â)=>fM f a.toArray o.toArray) c (l.mapM fun|ResultVar.tmp n=>pure (d.getD n ľ)|ResultVar.cell a e=>do ae e (<-bW (d.getD a ľ))) (l.mapM fun|ResultVar.tmp n=>pure (q.getD n ľ)|ResultVar.cell a e=>do ae e (<-bW (q.getD a ľ))):=by
   intro l
   induction l with
   |nil=>intro c _;simp only[cQ];exact .fx (fM.N _)
   |cons r l x=>
    intro c g;simp only[ν];refine fB (V:=fg) ?_ ?_
    .cases r with
     |tmp n=>exact .fx (k c g n)
     |cell a e=>
      apply fB (TQ<|k c g a);exact λp b s _ i=>TM i e
    .intro p v u e m;apply fB (x p<|fj.I g e);intro z s i y b;refine .fx ?_;have:=(fM.M<|m.fI y).sE b;simpa using this
  exact fC.lE (w _ Y<|fj.M _) λf a o _ e=> .fx e
 .intro c s i _ b;refine .fx ?_;by_cases e:s.size=1
  .have a:i.size=1:=by rwa[<-b.r]
   rw[dif_pos e,dif_pos a];exact b.C 0 _ _
  .have a:¬i.size=1:=by rwa[<-b.r]
   rw[dif_neg e,dif_neg a];exact .mX b.r b.C
end
section
variable{Y:fj}{d:Nat->Prop}{l:à->Prop}
def iQ(P:Õ)(Y:fj)(d:Nat->Prop)(main:Bool)(cs:List Ę)(h:St)(u w:Æ)(k:St)(c:Æ):Prop:=
 ∃(a:fj) (f:St) (b:Æ) (g:Array ý),Ù P main (h.r cs) w=aR (f.r cs) b g/\Ii a k f/\Y.r a/\(∀i j,a i j->Y i j\/(u.heap.size<=i/\w.heap.size<=j))/\ja a d c b/\mY Y d w b/\(∀e∈g,zw a d e)/\u.heap.size<=c.heap.size
def iQ.r{main:Bool}{cs:List Ę}{a b s1':St}(c:ja Y d u w)(h:Ù P main (a.r cs) w=aR (s1'.r cs) w #[])(f:Ii Y b s1'):iQ P Y d main cs a u w b u:= ⟨Y,s1',w,#[],h,f,fj.M _,λ_ _ h=>Ç h,c,mY.fQ _ _ w,λe g=>absurd g fh,ß _⟩
def Ik{α:Type}{m:ē α}{x:α}(h:m.runT P w #[]=(ĥ x u,#[]++V)):m.run P w=ĥ x u/\m.events P w #[]=V:=by simp_all
def EW{main:Bool}{k:List ś}{c:Ę}{cs:List Ę}{es:Array ý}(a:P.funcs[F]?=À s)(b:(Ī s q).runT P w #[]=(ĥ v u,es)): Ù P main (G {fm F q k with mode:=.returning}<|c::cs) w=aR (G (c.finish v) cs) u (seen P F es):=by simp[G,Ù,dr,doReturn,fm,Frame.at,base,a,b,Ź,-ź]
def LS.mj(hz:mZ P)(hb:Y.C=P.globals.size)(hG:∀g,X g->Y g g){s s1 s':St}(h:LS P s u s1 W)(hs:Ii Y s s')(ok:lF P X l s)(n:ja Y d u w)(hl:∀j,d j->j<w.heap.size)(Q:B5 u W)(main:Bool)(cs:List Ę): iQ P Y d main cs s' u w s1 W:=by
 let⟨f',r,k',ret',p⟩:=s';let⟨S,m,T,e3,q⟩:=hs;simp only at S T e3 m q;subst S T e3;cases h with
 |oz=>exact .r (s1':=⟨_,r,_,É,p⟩) n (by simp[St.r,fm,base,G,Ù,Ì,Frame.at]) ⟨U,m,U,U,q⟩
 |uC=>exact .r (s1':=⟨_,r,_,É,p⟩) n (by simp[St.r,fm,base,G,Ù,Ì,Frame.at]) ⟨U,m,U,U,q⟩
 |rA=>exact .r (s1':=⟨_,r,_,Ã,p⟩) n (by simp[St.r,fm,base,G,Ù,Ì,Frame.at]) ⟨U,m,U,U,q⟩
 |vx=>exact .r (s1':=⟨_,r,_,Ã,p⟩) n (by simp[St.r,fm,base,G,Ù,Ì,Frame.at]) ⟨U,m,U,U,q⟩
 |xw=>exact .r (s1':=⟨_,r,_,Ã,p⟩) n (by simp[St.r,fm,base,G,Ù,Ì,Frame.at]) ⟨U,m,U,U,q⟩
 |uD=>exact .r (s1':=⟨_,r,_,Ã,p⟩) n (by simp[St.r,fm,base,G,Ù,Ì,Frame.at]) ⟨U,m,U,U,q⟩
 |qy=>exact .r (s1':=⟨_,r,_,Ã,p⟩) n (by simp[St.r,fm,base,G,Ù,Ì,Frame.at]) ⟨U,m,U,U,q⟩
 |@sJ _ _ _ _ _ c _ _ b hc'=>
  have V:=vF hG m (by cases xx ok.fU with|sJ Q _ _=>exact Q);rw[hc']at V;have e:å ⟨r,[]⟩ c=Ľ b:=by generalize å ⟨r,[]⟩ c=v' at V;cases V;rfl
  exact .r (s1':=⟨_,r,_,Ã,p⟩) n (cD e) ⟨U,m,U,U,q⟩
 |qz=>exact .r (s1':=⟨_,r,_,Ã,p⟩) n (by simp[St.r,fm,base,G,Ù,Ì,Frame.at]) ⟨U,m,U,U,q⟩
 |vy=>exact .r (s1':=⟨_,r,_,Ã,p⟩) n (by simp[St.r,fm,base,G,Ù,Ì,Frame.at]) ⟨U,m,U,U,q⟩
 |vz=>exact .r (s1':=⟨_,r,_,Ã,p⟩) n (by simp[St.r,fm,base,G,Ù,Ì,Frame.at]) ⟨U,m,U,U,q⟩
 |vA=>exact .r (s1':=⟨_,r,_,Ã,p⟩) n (by simp[St.r,fm,base,G,Ù,Ì,Frame.at]) ⟨U,m,U,U,q⟩
 |vB B=>exact .r (s1':=⟨_,r,_,Ã,p⟩) n (by simp[St.r,fm,base,G,Ù,Ì,Frame.at,B]) ⟨U,m,U,U,q⟩
 |vC B=>exact .r (s1':=⟨_,r,_,Ã,p⟩) n (by simp[St.r,fm,base,G,Ù,Ì,Frame.at,B]) ⟨U,m,U,U,q⟩
 |sK=>exact .r (s1':=⟨_,r,_,Ã,p⟩) n (by simp[St.r,fm,base,G,Ù,Ì,Frame.at]) ⟨U,m,U,U,q⟩
 |@zF f t k L _ id ops=>
  refine⟨Y,⟨f,r,á ops (bL (P.follows .mixedOrders) ops<|w.tape w.drawn<|.order f id)::k,Ã,p⟩,{w with drawn:=w.drawn+1},#[],Ż,⟨U,m,?_,U,q⟩,fj.M _,λ_ _ h=>Ç h,⟨n.S,by simp[n.N],n.C,n.I,n.M,n.r⟩,⟨ß _,U,U,U,λ_ _ _=>rfl,λ_ _ _=>rfl⟩,λe B=>absurd B fh,ß _⟩;simp only[n.S,n.N]
 |EV=>exact .r (s1':=⟨_,r,_,Ã,p⟩) n (by simp[St.r,fm,base,G,Ù,Ì,Frame.at]) ⟨U,m,U,U,q⟩
 |@B9 f t k L _ ops i rest o ho hw=>
  rw[H5 _ _ m]at hw;have:=υ (P:=P) (main:=main) (b:=base f) (a:=⟨r,[]⟩) (k:=k) (cs:=p.map (λx=>fm x.1 x.2.1 x.2.2)++cs) (w:=w) (rest:=rest) ho hw;rw[rD]at this;exact .r (s1':=⟨f,oB r o.dst ľ,á ops rest::k,Ã,p⟩) n this ⟨U,oB.r m _<|EM Y,U,U,q⟩
 |@na f t k L _ ops i rest o v _ ho hw hr=>
  rw[H5 _ _ m]at hw;let⟨C,x',E,es,z,F,D,H,I,J,K,M⟩:=(oE ok.fU _<|Û ho).mj hz hb hG m n hl hr Q;let⟨N,O⟩:=Ik D;cases H with
  |na V=>
   have:=bz (main:=main) (b:=base f) (k:=k) (cs:=p.map (λx=>fm x.1 x.2.1 x.2.2)++cs) (rest:=rest) ho hw (by simp[base]) N;rw[rD]at this;rename_i v';exact⟨C,⟨f,oB r o.dst v',á ops rest::k,Ã,p⟩,E,_,this,⟨U,oB.r (m.I z) _ V,U,U,Ij z q⟩,z,F,I,J,λe B=>K e (by have:=cE B;rwa[O]at this),M⟩
 |@zG f t k L _ ops i rest o _ ho hw hr=>
  rw[H5 _ _ m]at hw;let⟨C,x',E,es,z,F,D,H,I,J,K,M⟩:=(oE ok.fU _<|Û ho).mj hz hb hG m n hl hr Q;let⟨N,O⟩:=Ik D;cases H with
  |rA=>
   have:=cF (main:=main) (b:=base f) (k:=k) (cs:=p.map (λx=>fm x.1 x.2.1 x.2.2)++cs) (rest:=rest) ho hw (by simp[base]) N;rw[rD]at this;exact⟨C,⟨f,oB r o.dst ľ,á ops rest::k,Ã,p⟩,E,_,this,⟨U,oB.r (m.I z) _<|EM C,U,U,Ij z q⟩,z,F,I,J,λe B=>K e (by have:=cE B;rwa[O]at this),M⟩
 |@rB f t k L _ ops i rest o g args fn c _ ho hw hr hf Il=>
  rw[H5 _ _ m]at hw;let⟨C,x',E,es,z,F,D,H,I,J,K,M⟩:=(oE ok.fU _<|Û ho).mj hz hb hG m n hl hr Q;let⟨N,O⟩:=Ik D;cases H with
  |rB _ rF=>
   have:=bA (main:=main) (b:=base f) (k:=k) (cs:=p.map (λx=>fm x.1 x.2.1 x.2.2)++cs) (rest:=rest) ho hw (by simp[base]) N;rw[cG _ hf Il]at this;rename_i Va;refine⟨C,⟨g,Va++ĺ (fn.ntmps-Va.size) ľ,[Đ c],Ã,(f,r,á ops (i::rest)::k)::p⟩,E,_,this,⟨U,?_,U,U,.vt ⟨U,m.I z,U⟩ (Ij z q)⟩,z,F,I,J,λe B=>K e (by have:=cE B;rwa[O]at this),M⟩;rw[rF.r];exact rF.sE<|U8 _
 |@Ca f t k L _ ops i rest ho=>exact .r (s1':=⟨f,r,á ops rest::k,Ã,p⟩) n (by simp[St.r,fm,base,G,Ù,Ì,Frame.at,ho,aS]) ⟨U,m,U,U,q⟩
 |@vD f t k L _ g t2' ops i rest k3 v fn _ hf hr=>
  cases q with
  |vt hx q=>
   rename_i y Vb;let⟨g',t2,k2⟩:=y;let⟨S,Im,T⟩:=hx;simp only at S T Im;subst S T;let⟨C,v',E,es,z,F,D,H,I,J,K,M⟩:=(U9 fn m).gd n hl hr #[];let⟨N,O⟩:=Ik D;refine⟨C,⟨g,oB t2 ((ops[i]?).bind (·.dst)) v',á ops rest::k3,Ã,Vb⟩,E,seen P f es,?_,⟨U,oB.r (Im.I z) _ H,U,U,Ij z q⟩,z,F,I,J,λe B=>K e<|mem_seen B,M⟩;have zI:=ε (base g) ⟨t2,[]⟩ ops i rest k3 v';rw[rD]at zI;have mI:=EW (main:=main) (k:=k) (c:=fm g t2<|á ops (i::rest)::k3) (cs:=Vb.map (λx=>fm x.1 x.2.1 x.2.2)++cs) hf D;unfold fm at mI;rwa[zI,Ď]at mI
end
inductive oZ(P:Õ)(kI:Â->Æ->Prop):St->Æ->Prop
 |jA {f:à} {t:Array Â} {k:List ś} {u:Æ} {fn:Func} {v:Â} (hf:P.funcs[f]?=À fn) (hr:∀tp d,(Ī fn t).run P {u with tape:=tp,drawn:=d}=ĥ v {u with tape:=tp,drawn:=d}) (hp:kI v u):oZ P kI ⟨f,t,k,É,[]⟩ u
 |jB {s:St} {u:Æ} (S:ψ->Nat->St) (U:ψ->Nat->Æ) (h:∀tp d,LS P s {u with tape:=tp,drawn:=d} (S tp d)<|U tp d) (hc:∀tp d,B5 u<|U tp d) (ih:∀tp d,oZ P kI (S tp d)<|U tp d):oZ P kI s u
structure xy(M:Nat->Prop)(w w₁:Æ):Prop where
 r:w.heap.size<=w₁.heap.size
 C:∀j,M j->w₁.heap[j]?=w.heap[j]?
def Io(O b:Nat->Prop)(e:ý):Prop:=
 (∃a:Ú,e.loc=û a/\e.sync=Ã/\(O a.block\/(b a.block/\e.write=Ã)))\/e.loc=ů c9\/∃f,e.loc=ů (.extern f)
structure Ip(Rd O O':Nat->Prop)(w w':Æ)(es:Array ý):Prop where
 r:w.heap.size<=w'.heap.size
 M:∀j,O j->O' j
 I:∀j,O' j->O j\/w.heap.size<=j
 fq:∀j,O' j->j<w'.heap.size
 jH:∀j,j<w.heap.size->¬O j->w'.heap[j]?=w.heap[j]?
 N:w'.os=w.os
 S:w'.output=w.output
 Y:w'.tape=w.tape
 C:∀e∈es,Io O' Rd e
inductive uE(P:Õ)(main:Bool)(Rd:Nat->Prop)(Stop:(Nat->Prop)->Ó->Æ->Prop):(Nat->Prop)->Ó->Æ->Prop
 |fv {O:Nat->Prop} {g:Ó} {w:Æ} (h:∀w₁,xy (λj=>O j\/Rd j) w w₁->Stop O g w₁):uE P main Rd Stop O g w
 |jB {O:Nat->Prop} {g:Ó} {w:Æ} (G':Æ->Ó) (W':Æ->Æ) (E':Æ->Array ý) (O':Æ->Nat->Prop) (iD:g.status=Ð)
  (h:∀w₁,xy (λj=>O j\/Rd j) w w₁->Ù P main g w₁=aR (G' w₁) (W' w₁) (E' w₁))
  (hd:∀w₁,xy (λj=>O j\/Rd j) w w₁->Ip Rd O (O' w₁) w₁ (W' w₁) (E' w₁))
  (ih:∀w₁,xy (λj=>O j\/Rd j) w w₁->uE P main Rd Stop (O' w₁) (G' w₁) (W' w₁)):uE P main Rd Stop O g w
instance:Nonempty fj:=⟨⟨λ_ _=>False,0⟩⟩
instance:Nonempty St:=⟨⟨0,#[],[],Ã,[]⟩⟩
instance:Nonempty (Goroutine×World×Array Event×(Nat->Prop)):=⟨(default,default,#[],λ_=>False)⟩
section
variable{Y:fj}{b Rd:Nat->Prop}{l:à->Prop}{main:Bool}{Stop:(Nat->Prop)->Ó->Æ->Prop}
def uE.mk(i:g.status=Ð) (h:∀a,xy (λj=>X j\/Rd j) w a->∃c b d e,Ù P main g a=aR c b d/\Ip Rd X e a b d/\uE P main Rd Stop e c b):uE P main Rd Stop X g w:=by
 let p:=λ(a:Æ) (x:Goroutine×World×Array Event×(Nat->Prop))=>Ù P main g a=aR x.1 x.2.1 x.2.2.1/\Ip Rd X x.2.2.2 a x.2.1 x.2.2.1/\uE P main Rd Stop x.2.2.2 x.1 x.2.1
 have f:∀a,xy (λj=>X j\/Rd j) w a->p a (Classical.epsilon<|p a):=λa r=>Classical.epsilon_spec (let⟨c,b,d,e,h⟩:=h a r;⟨(c,b,d,e),h⟩);exact .jB (λa=>(Classical.epsilon<|p a).1) (λa=>(Classical.epsilon<|p a).2.1) (λa=>(Classical.epsilon<|p a).2.2.1) (λa=>(Classical.epsilon<|p a).2.2.2) i (λa r=>(f a r).1) (λa r=>(f a r).2.1) λa r=>(f a r).2.2
def qB(Y:fj)(b:Nat->Prop)(u w:Æ):Prop:=ja Y b {u with tape:=w.tape,drawn:=w.drawn} w
def fi(Y:fj)(b:Nat->Prop)(j:Nat):Prop:=(∃i,Y i j)/\¬b j
theorem qB.jO{w₁:Æ}(h:qB Y b u w)(p:∀i j,Y i j->b j->Rd j)(r:xy (λj=>fi Y b j\/Rd j) w w₁):qB Y b u w₁:=by
 refine⟨U,U,h.C,h.I,õ h.M r.r,λi j a=> ?_⟩;let⟨c,d,e,f,g,k,l,m,n,o⟩:=h.r i j a;refine⟨c,d,e,f,g,k,?_,m,n,o⟩;rw[r.C j ?_]
 .exact l
 .by_cases s:b j
  .grind
  .exact Ç ⟨⟨i,a⟩,s⟩
def ja.to0(h:ja Y b u w):qB Y b u w:=⟨U,U,h.C,h.I,h.M,h.r⟩
def ja.uF(h:ja Y b u w)(tp:ψ)(d:Nat):qB Y b {u with tape:=tp,drawn:=d} w:=⟨U,U,h.C,h.I,h.M,h.r⟩
theorem adx{c:fj}(k:∀i j,c i j->b j->Rd j){e:ý}(h:zw c b e):Io (fi c b) Rd e:=by
 rcases h with⟨a,i,d,f,g,l⟩|h|h
 .by_cases s:b a.block
  .refine Ç ⟨a,d,g,Î ⟨k _ _ f s,?_⟩⟩;grind
  .exact Ç ⟨a,d,g,Ç ⟨⟨i,f⟩,s⟩⟩
 .exact Î<|Ç h
 .exact Î<|Î h
def Vd{c:fj}(f:Y.r c)(g:∀i j,c i j->Y i j\/(u.heap.size<=i/\w.heap.size<=j))(k:ja c b W jX)(d:mY Y b w jX)(l:∀e∈V,zw c b e)(m:∀i j,c i j->b j->Rd j): Ip Rd (fi Y b) (fi c b) w jX V where
 r:=d.r;M j h:=⟨let⟨i,a⟩:=h.1;⟨i,f.1 _ _ a⟩,h.2⟩;I j h:=by
  let⟨⟨i,a⟩,s⟩:=h;rcases g i j a with x|x
  .exact Ç ⟨⟨i,x⟩,s⟩
  .exact Î x.2
 fq j h:=by let⟨⟨i,a⟩,_⟩:=h;let⟨_,_,_,_,_,_,x,_⟩:=k.r i j a;exact(Ë.1 x).1
 jH j hj hn:=by
  by_cases x:∃i,Y i j
  .by_cases s:b j
   .exact d.N j s hj
   .exact absurd ⟨x,s⟩ hn
  .exact d.C j hj λi a=>x ⟨i,a⟩
 N:=d.I;S:=d.M;Y:=d.S;C e he:=adx m<|l e he
def EX(Y:fj)(b:Nat->Prop)(f:Â->Æ->Prop)(c:Ę)(h:List Ę)(O:Nat->Prop)(g:Ó)(w:Æ):Prop:=
 ∃(a:fj) (d:Æ) (v e:Â),Y.r a/\O=fi a b/\qB a b d w/\fg a v e/\f v d/\g=G (c.finish e) h
def oZ.MK(hz:mZ P)(hP:oD P X l){s:St}(h:oZ P vQ s u):∀{Y EY:fj} {s':St} {w:Æ},EY.r Y->Y.C=P.globals.size->(∀g,X g->Y g g)->Ii Y s s'->lF P X l s->qB Y b u w->(∀j,b j->j<w.heap.size)->(∀i j,Y i j->b j->Rd j)->∀(c:Ę) (cs:List Ę),uE P main Rd (EX EY b vQ c cs) (fi Y b) (s'.r<|c::cs) w:=by
 have hE:∀o a u f F G,mh P X l o->(ì (å a) o).run P u=ĥ (ũ f F) G->l f:=by exact λo a u f F G d H=>d.C a u f F G H
 induction h with
 |@jA f t k u fn v hf H hp=>
  intro Y EY s' w I J K L M N O n c cs;let⟨f',t',k',ret',L'⟩:=s';let⟨V,W,e2,e3,hL⟩:=L;simp only at V e2 e3 W hL;subst V e2 e3;cases hL;refine .mk rfl λp r=> ?_;have d:=λj s=>Ô (O j s) r.r;let⟨z,v',w',es,B,C,m,D,q,E,Q,h8⟩:=(U9 fn W).gd (N.jO n r) d (H _ _) #[];have y:=λi j T s=>(C i j T).elim (λx=>n i j x s) λx=>absurd (d j s) Z;refine⟨_,w',_,fi z b,EW hf m,Vd B C q E (λe he=>Q e (by have:=mem_seen he;simpa using this)) y,.fv λzK e=>⟨z,u,v,v',fj.I I B,rfl,qB.jO (q.uF _ _) y e,D,hp,rfl⟩⟩
 |@jB s u S U h hc _ ih=>
  intro Y EY s' w I J K L M N O n c cs;refine .mk rfl λp r=> ?_;have d:=λj s=>Ô (O j s) r.r;let⟨z,H,e,es,B,C,m,D,q,E,Q,h8⟩:=(h p.tape p.drawn).mj hz J K L M (N.jO n r) d (hc p.tape p.drawn) main<|c::cs;have y:=λi j T s=>(D i j T).elim (λx=>n i j x s) λx=>absurd (d j s) Z;refine⟨_,e,es,fi z b,B,Vd m D q E Q y,ih _ _ (fj.I I m) (m.2.2.trans J) (λg x=>m.1 _ _<|K g x) C ((h _ _).ok hP hE M) q.to0 (λj s=>Ô (d j s) E.r) y c cs⟩
end
def o0:Ę:={(default:Ę)with fn:=0,todo:=[Đ<|dq ""],defers:=[{target:=.nil,args:=#[]}],mode:=.run,kind:=.normal}
def St.I(s:St):Ę:=if s.C then{fm s.f s.t s.k with mode:=.returning}else fm s.f s.t s.k
def fq(L:List (FuncId×Array Value×List ś)):List Ę:=L.map (λx=>fm x.1 x.2.1 x.2.2)++[o0]
def LM(s:St)(u:Æ):bQ:=aT s.I (fq s.L) u
section
variable{GL:Nat->Prop}{eY:à->Prop}{Q:Â->Æ->Prop}
def Cc{cs:List Ę}{a:Ę}{es:Array ý}(h:Ù P É (G f cs) w=aR (G a qX) u es):dO P (aT f cs w)=ň (aT a qX u):= step_lone_go<|by show(Ù P É (G f cs) w).bare=_;rw[h];rfl
def Iq{fr:Ę}{cs:List Ę}{o:Outcome}{es:Array ý}(h:Ù P É (G fr cs) w=eR o u es):dO P (aT fr cs w)=.ended o u:= step_lone_ended<|by show(Ù P É (G fr cs) w).bare=_;rw[h];rfl
def ml(P:Õ)(Q:Â->Æ->Prop)(n:Nat)(m:bQ):Prop:=∃b v a,dt P n m=ň (aT b [o0] a)/\b.leaving P a (.returned v)/\Q v a
def ml.r{m a:bQ}(h:ml P Q (n+1) m)(b:dO P m=ň a):ml P Q n a:=by let⟨c,v,d,e,f⟩:=h;exact⟨c,v,d,by simpa only[dt,b]using e,f⟩
def ml.M{m:bQ}{o:Outcome}(h:ml P Q (n+1) m)(b:dO P m=.ended o w):False:=by let⟨c,v,d,a,e⟩:=h;simp only[dt,b]at a;cases a
theorem Ve{fr:Ę}{cs:List Ę}(h:aT fr cs w=aT f qX u):fr=f/\cs=qX/\w=u:=by simp only[aT,Machine.mk.injEq,Array.mk.injEq,List.cons.injEq,Goroutine.mk.injEq]at h;grind
theorem ml.C{cs:List Ę}(h:ml P Q 0 (aT f cs w)):cs=[o0]/\∃v,f.leaving P w (.returned v)/\Q v w:=by let⟨b,v,c,a,d,e⟩:=h;simp only[dt,Stepped.next.injEq]at a;grind [Ve]
def ady(h:ml P Q n (aT o0 [] u)):False:=by
 cases n with
 |zero=>let⟨a,_⟩:=h.C;cases a
 |succ n=>exact h.M<|Iq (es:=#[])<|by simp[G,Ù,Ì,o0];exact⟨U,U⟩
def adz{a:List eb}(h:ml P Q n (aT (o0.raise a) [] u)):False:=by
 cases n with
 |zero=>let⟨b,_⟩:=h.C;cases b
 |succ n=>exact h.M<|Iq (es:=#[])<|by simp[G,Ù,o0,Ŗ,dr,callDeferred];exact⟨U,U⟩
def adA(b:List eb):∀(L:List (FuncId×Array Value×List ś)) (f:à) (t:Array Â) (k:List ś) (u:Æ) (n:Nat),(∃a,P.funcs[f]?=À a)->(∀x∈L,∃a,P.funcs[x.1]?=À a)->¬ml P Q n (aT ((fm f t k).raise b) (fq L) u):=by
 intro L
 induction L with
 |nil=>
  intro f t k u n ⟨a,c⟩ _ h;cases n with
  |zero=>let⟨_,v,y,_⟩:=h.C;exact absurd y.1<|by simp[Ŗ,fm,Frame.at]
  |succ n=>
   have d:dO P (aT ((fm f t k).raise b) (fq []) u)=ň (aT (o0.raise b) [] u):=Cc (es:=#[]) (by simp[G,Ù,fm,base,Frame.at,Ŗ,dr,cT,c,fq]);exact adz<|h.r d
 |cons x L e=>
  intro f t k u n ⟨a,c⟩ d h;cases n with
  |zero=>let⟨_,v,y,_⟩:=h.C;exact absurd y.1<|by simp[Ŗ,fm,Frame.at]
  |succ n=>
   exact e x.1 x.2.1 x.2.2 u n (d x<|î ..) (λy v=>d y<|ò _ v)<|h.r<|Cc (es:=#[])<|by simp[G,Ù,fm,base,Frame.at,Ŗ,dr,cT,c,fq]
structure Ok(P:Õ)(GL:Nat->Prop)(eY:à->Prop)(s:St):Prop where
 r:lF P GL eY s
 I:eY s.f
 C:∀x∈s.L,eY x.1/\∃ops i rest k,x.2.2=á ops (i::rest)::k
def sL(P:Õ)(eY:à->Prop):Prop:=∀f,eY f->∃a c,P.funcs[f]?=À a/\a.body=À c
theorem ML{t:Array Â}:fy P (Ī s t):=by unfold Ī;grind [gf,Uw,gA,Uo,Uk]
def adB(k:jV P xX o.op){n:Ο}(d:(ì xX o).run P u=ĥ n W):(∃v,n=ï v)\/n=aG\/∃f c,n=ũ f c:=by
 have i:∀{m:ē Â} {x:Ο} {j l:Æ},(m>>=λv=>pure (ï v):ē Ο).run P j=ĥ x l->∃v,x=ï v:=by
  intro m x j l e;rw[Ä]at e;cases g:m.run P j with
  |ok a w=>rw[g]at e;cases e;exact⟨a,U⟩
  |halt z w=>rw[g]at e;cases e
 let⟨p,e,q,s,B,guard⟩:=o;simp only at k;unfold ì at d;simp only[]at d;cases k with
 |zC x=>cases d;exact Ç ⟨_,U⟩
 |EH x=>cases d;exact Ç ⟨_,U⟩
 |vu c a b=>
  rw[Ä]at d;cases g:(bV<|xX c).run P u with
  |ok a w=>rw[g]at d;cases d;exact Ç ⟨_,U⟩
  |halt z w=>rw[g]at d;cases d
 |iV t a x=>
  rw[Ä]at d;cases g:(ĳ t (xX a)<|xX x).run P u with
  |ok a w=>rw[g]at d;cases d;exact Î<|Ç U
  |halt z w=>rw[g]at d;cases d
 |EI x=>
  simp only[]at d;split at d;all_goals first
   |(cases d;exact Ç ⟨_,U⟩)
   |exact absurd d<|qu _ _ _ _
   |(
    split at d;all_goals first
     |(cases d;exact Ç ⟨_,U⟩)
     |exact absurd d<|qu _ _ _ _
     |(
      rw[Ä,ă]at d;simp only[È]at d;rw[Ä]at d;revert d;generalize ã P (aQ _ _ _ _) u=z;intro d;cases z with
      |halt z w=>cases d
      |ok a w=>
       simp only[È]at d;split at d
       .rw[Ä]at d;cases d
       .cases d;exact Ç ⟨_,U⟩))
 |EJ x a=>simp only[ù,č,Ē,pure_bind,Ø,â,ä]at d;exact Ç<|i d
 |EK x a=>simp only[ù,č,Ē,pure_bind,Ø,â,ä]at d;exact Ç<|i d
 |EL x y a=>simp only[ù,č,Ē,pure_bind,Ø,â,ä]at d;exact Ç<|i d
 |sE x y b g h=>simp only[ù,č,Ē,pure_bind,Ø,â,ä]at d;exact Ç<|i d
 |jz g C a b h=>
  let⟨D,r,w,z⟩:=h;simp only[ù,b,İ,č,pure_bind,Ď,ď,ĵ]at d;rw[Ä,ă]at d;simp only[È,r,w,z,Å,if_false]at d;cases d;exact Î<|Î ⟨_,_,U⟩
 |B7 e t x y r h=>exact Ç<|i d
 |_=>exact Ç<|i d
def ml.I(_hP:oD P GL eY)(hF:sL P eY){n:Nat}{s:St}{u:Æ}(ok:Ok P GL eY s)(hu:pP u)(h:ml P Q n (LM s u)): (n=0/\s.C=É/\s.L=[]/\∃fn v,P.funcs[s.f]?=À fn/\(Ī fn s.t).run P u=ĥ v u/\Q v u)\/∃m s' u',n=m+1/\LS P s u s' u'/\ml P Q m (LM s' u'):=by
 let⟨f,t,k,ret,L⟩:=s;let⟨⟨top,lw⟩,fs,ls⟩:=ok;simp only at top lw fs ls;let⟨fn,c,hfn,hbody⟩:=hF f fs;cases n with
 |zero=>
  let⟨h1,v,h2,h3⟩:=h.C;have hL:L=[]:=by simp only[fq]at h1;simp_all
  subst hL;let⟨m1,_,_,fn',m4,m5⟩:=h2;have adC:ret=É:=by
   cases ret with
   |true=>rfl
   |false=>simp[St.I,fm,Frame.at]at m1
  subst adC;exact Ç ⟨U,U,U,fn',v,m4,m5,h3⟩
 |succ n=>
  have go:∀{s':St} {u':Æ},LS P ⟨f,t,k,ret,L⟩ u s' u'->(∃es,Ù P É ((⟨f,t,k,ret,L⟩:St).r [o0]) u=aR (s'.r [o0]) u' es)->(n+1=0/\ret=É/\L=[]/\∃fn v,P.funcs[f]?=À fn/\(Ī fn t).run P u=ĥ v u/\Q v u)\/∃m s' u',n+1=m+1/\LS P ⟨f,t,k,ret,L⟩ u s' u'/\ml P Q m (LM s' u'):=by intro s' u' hl ⟨es,he⟩;exact Î ⟨n,s',u',U,hl,h.r<|Cc he⟩
  have bad:(∃o w es,Ù P É ((⟨f,t,k,ret,L⟩:St).r [o0]) u=eR o w es)->False:=λ⟨_,_,_,he⟩=>h.M<|Iq he;cases ret with
  |true=>
   cases hr:(Ī fn t).runT P u #[]with
   |mk r es=>
    cases r with
    |halt z w=>
     refine absurd ?_ id;cases z<;>exact bad ⟨_,_,_,by simp[St.r,fm,base,G,Ù,dr,Frame.at,hfn,hr,Ź,-ź];exact⟨U,U,U⟩⟩
    |ok v u'=>
     cases L with
     |nil=>
      exact absurd (h.r<|Cc<|EW hfn hr) ady
     |cons x L=>
      let⟨g,t',k'⟩:=x;let⟨_,ops,i,rest,k2,e⟩:=ls _<|î ..;simp only at e;subst e;refine go (.vD hfn (by rw[<-Ρ P (Ī fn t) u #[],hr])) ⟨seen P f es,?_⟩;have mI:=EW (main:=É) (k:=k) (c:=fm g t'<|á ops (i::rest)::k2) (cs:=fq L) hfn hr;have zI:=ε (base g) ⟨t',[]⟩ ops i rest k2 v;rw[rD]at zI;unfold fm at mI;rwa[zI]at mI
  |false=>
   cases k with
   |nil=>exact go .oz ⟨_,by simp[St.r,fm,base,G,Ù,Ì,Frame.at];rfl⟩
   |cons it k=>
    have ti:=top it<|î ..;cases ti with
    |xw id=>exact go .xw ⟨_,by simp[St.r,fm,base,G,Ù,Ì,Frame.at];rfl⟩
    |uD _=>exact go .uD ⟨_,by simp[St.r,fm,base,G,Ù,Ì,Frame.at];rfl⟩
    |vz _=>exact go .vz ⟨_,by simp[St.r,fm,base,G,Ù,Ì,Frame.at];rfl⟩
    |qA hc=>
     cases hc with
     |uC=>exact go .uC ⟨_,by simp[St.r,fm,base,G,Ù,Ì,Frame.at];rfl⟩
     |rA=>exact go .rA ⟨_,by simp[St.r,fm,base,G,Ù,Ì,Frame.at];rfl⟩
     |vx l=>exact go .vx ⟨_,by simp[St.r,fm,base,G,Ù,Ì,Frame.at];rfl⟩
     |qy hx hy=>exact go .qy ⟨_,by simp[St.r,fm,base,G,Ù,Ì,Frame.at];rfl⟩
     |qz id _=>exact go .qz ⟨_,by simp[St.r,fm,base,G,Ù,Ì,Frame.at];rfl⟩
     |vy _=>exact go .vy ⟨_,by simp[St.r,fm,base,G,Ù,Ì,Frame.at];rfl⟩
     |vA _=>exact go .vA ⟨_,by simp[St.r,fm,base,G,Ù,Ì,Frame.at];rfl⟩
     |oC U7=>exact(bad ⟨_,_,_,by simp[St.r,fm,base,G,Ù,Ì,Frame.at];exact⟨U,U,U⟩⟩).elim
     |vB id=>
      cases he:cB id k with
      |none=>exact(bad ⟨_,_,_,by simp[St.r,fm,base,G,Ù,Ì,Frame.at,he];exact⟨U,U,U⟩⟩).elim
      |some k'=>exact go (.vB he) ⟨_,by simp[St.r,fm,base,G,Ù,Ì,Frame.at,he];rfl⟩
     |vC l=>
      cases he:cC l k with
      |none=>exact(bad ⟨_,_,_,by simp[St.r,fm,base,G,Ù,Ì,Frame.at,he];exact⟨U,U,U⟩⟩).elim
      |some k'=>exact go (.vC he) ⟨_,by simp[St.r,fm,base,G,Ù,Ì,Frame.at,he];rfl⟩
     |@sJ c x y _ _ _=>
      by_cases hb:∃b,å ⟨t,[]⟩ c=Ľ b
      .let⟨b,hb⟩:=hb;exact go (.sJ hb) ⟨_,cD hb⟩
      .refine(bad ⟨.stuck "cond: bool expected" ((fm f t<|Đ (bx c x y)::k).pos P),u,#[],?_⟩).elim;have T5:(fm f t<|Đ (bx c x y)::k).eval c=å ⟨t,[]⟩ c:=Frame.eval_at _ _ _ _;have hx:Ù P É (G (fm f t<|Đ (bx c x y)::k)<|fq L) u=(match(fm f t<|Đ (bx c x y)::k).eval c with
        |Ľ b=>aR (G (fm f t<|Đ (if b then x else y)::k)<|fq L) u
        |_=>eR (.stuck "cond: bool expected" ((fm f t (Đ (bx c x y)::k)).pos P)) u):=by
        simp only[G,Ù,Ì,fm,Frame.at];rfl
       refine hx.trans ?_;rw[T5];generalize å ⟨t,[]⟩ c=v at hb;cases v<;>first|exact absurd ⟨_,U⟩ hb|rfl
     |sK id draw _=>
      cases draw with
      |false=>exact go .sK ⟨_,by simp[St.r,fm,base,G,Ù,Ì,Frame.at];rfl⟩
      |true=>exact go .zF ⟨_,Ż⟩
    |vE is hO=>
     rename_i ops;cases is with
     |nil=>exact go .EV ⟨_,by simp[St.r,fm,base,G,Ù,Ì,Frame.at];rfl⟩
     |cons i rest=>
      cases ho:ops[i]? with
      |none=>exact go (.Ca ho) ⟨_,by simp[St.r,fm,base,G,Ù,Ì,Frame.at,ho,aS];rfl⟩
      |some o=>
       cases hw:Ħ o (ł ops t)with
       |false=>
        have:=υ (P:=P) (main:=É) (b:=base f) (a:=⟨t,[]⟩) (k:=k) (cs:=fq L) (w:=u) (rest:=rest) ho hw;rw[rD]at this;exact go (.B9 ho hw) ⟨_,this⟩
       |true=>
        have oo:=hO o<|Û ho;have EZ:=stepG_oper (P:=P) (main:=É) (b:=base f) (a:=⟨t,[]⟩) (k:=k) (cs:=fq L) (w:=u) (rest:=rest) ho hw;cases hr:(ì (å ⟨t,[]⟩) o).runT P u #[]with
        |mk r es=>
         have oy:(ì (å ⟨t,[]⟩) o).run P u=r:=by rw[<-Ρ P _ u #[],hr]
         cases r with
         |halt z w=>
          have hz:=((oo.r ⟨t,[]⟩).1 u hu).2 z w oy;cases z with
          |panic v=>
           have hs:dO P (LM ⟨f,t,á ops (i::rest)::k,Ã,L⟩ u)=ň (aT ((fm f t<|á ops (i::rest)::k).raise [{v,recovered:=Ã}]) (fq L) w):= Cc (es:=seen P f es) (EZ.trans<|by simp[bB,hr,G,Frame.at,fm,base,Ź,Ŗ,-ź]);exact absurd (h.r hs) (adA _ L f t _ w n ⟨fn,hfn⟩ λx hx=>let⟨fn',_,h1,_⟩:=hF x.1 (ls x hx).1;⟨fn',h1⟩)
          |stuck s=>exact(bad ⟨_,_,_,EZ.trans<|by simp[bB,hr,Frame.at,base,Ź,-ź];exact⟨U,U,U⟩⟩).elim
          |unsupported un=>
           cases un<;>first|(cases hz;done)|exact(bad ⟨_,_,_,EZ.trans<|by simp[bB,hr,Frame.at,base,Ź,-ź];exact⟨U,U,U⟩⟩).elim
          |_=>cases hz
         |ok nx u'=>
          rcases oo.I ⟨t,[]⟩ u nx u' oy with⟨v,rfl⟩|rfl|⟨g,args,rfl⟩
          .have:=bz (main:=É) (b:=base f) (k:=k) (cs:=fq L) (rest:=rest) ho hw (by simp[base]) oy;rw[rD]at this;exact go (.na ho hw oy) ⟨_,this⟩
          .have:=cF (main:=É) (b:=base f) (k:=k) (cs:=fq L) (rest:=rest) ho hw (by simp[base]) oy;rw[rD]at this;exact go (.zG ho hw oy) ⟨_,this⟩
          .let⟨fn',c',h1,h2⟩:=hF g<|oo.C ⟨t,[]⟩ u g args u' oy;have:=bA (main:=É) (b:=base f) (k:=k) (cs:=fq L) (rest:=rest) ho hw (by simp[base]) oy;rw[cG _ h1 h2]at this;exact go (.rB ho hw oy h1 h2) ⟨_,this⟩
end
def jW(u:Æ):Prop:=∀(i:Nat) (o:Obj),u.heap[i]?=À o->¬xv o
def jW.pP(h:jW u):pP u:=λi _ _ a=>h i _ a trivial
def vG(a:Â->Æ->Prop):Prop:=∀v u T D,a v u->a v ((World.tp u T D))
section
variable{GL:Nat->Prop}{eY:à->Prop}{kI:Â->Æ->Prop}
def LS.MK{s s':St}(h:LS P s u s' W)(cs:List Ę):∃j,Ù P É (s.r cs) u=aR (s'.r cs) W j:=by
 cases h with
 |@sJ f t k L _ c x y b hc=>exact⟨_,cD hc⟩
 |vB e=>exact⟨_,by simp[St.r,fm,base,G,Ù,Ì,Frame.at,e];rfl⟩
 |vC e=>exact⟨_,by simp[St.r,fm,base,G,Ù,Ì,Frame.at,e];rfl⟩
 |@zF f t k L _ id ops=>exact⟨_,Ż⟩
 |@Ca f t k L _ ops i rest ho=>exact⟨_,by simp[St.r,fm,base,G,Ù,Ì,Frame.at,ho,aS];rfl⟩
 |@B9 f t k L _ ops i rest o ho hw=>
  have:=υ (P:=P) (main:=É) (b:=base f) (a:=⟨t,[]⟩) (k:=k) (cs:=L.map (λx=>fm x.1 x.2.1 x.2.2)++cs) (w:=u) (rest:=rest) ho hw;rw[rD]at this;exact⟨_,this⟩
 |@na f t k L _ ops i rest o v _ ho hw hr=>
  have:=bz (main:=É) (b:=base f) (k:=k) (cs:=L.map (λx=>fm x.1 x.2.1 x.2.2)++cs) (rest:=rest) ho hw (by simp[base]) hr;rw[rD]at this;exact⟨_,this⟩
 |@zG f t k L _ ops i rest o _ ho hw hr=>
  have:=cF (main:=É) (b:=base f) (k:=k) (cs:=L.map (λx=>fm x.1 x.2.1 x.2.2)++cs) (rest:=rest) ho hw (by simp[base]) hr;rw[rD]at this;exact⟨_,this⟩
 |@rB f t k L _ ops i rest o g args fn c _ ho hw hr hf hb=>
  have:=bA (main:=É) (b:=base f) (k:=k) (cs:=L.map (λx=>fm x.1 x.2.1 x.2.2)++cs) (rest:=rest) ho hw (by simp[base]) hr;rw[cG _ hf hb]at this;exact⟨_,this⟩
 |@vD f t k L _ g t' ops i rest k' v fn _ hf hr=>
  cases l:(Ī fn t).runT P u #[]with
  |mk r j=>
   have e:r=ĥ v W:=by rw[<-hr,<-Ρ P (Ī fn t) u #[],l]
   subst e;have d:=EW (main:=É) (k:=k) (c:=fm g t'<|á ops (i::rest)::k') (cs:=L.map (λx=>fm x.1 x.2.1 x.2.2)++cs) hf l;have x:=ε (base g) ⟨t',[]⟩ ops i rest k' v;rw[rD]at x;unfold fm at d;rw[x]at d;exact⟨_,d⟩
 |_=>exact⟨_,by simp[St.r,fm,base,G,Ù,Ì,Frame.at];rfl⟩
def LS.uG{s a:St}(h:LS P s u a w):dO P (LM s u)=ň (LM a w):= let⟨_,b⟩:=h.MK [o0];Cc b
def LS.MN(j:oD P GL eY){s g:St}(h:LS P s u g w)(ok:Ok P GL eY s):Ok P GL eY g:=by
 have i:∀o a u f e w,mh P GL eY o->(ì (å a) o).run P u=ĥ (ũ f e) w->eY f:=by exact λo a u f e w c d=>c.C a u f e w d
 refine⟨h.ok j i ok.r,?_,?_⟩
 .cases h with
  |rB c _ d _ _=>exact i _ _ _ _ _ _ (oE ok.r.fU _<|Û c) d
  |vD=>exact(ok.C _<|î ..).1
  |_=>exact ok.I
 .cases h with
  |rB c _ d _ _=>
   intro x b;rcases œ.1 b with rfl|b
   .exact⟨ok.I,_,_,_,_,U⟩
   .exact ok.C x b
  |vD=>exact λx b=>ok.C x<|ò _ b
  |_=>exact ok.C
def LS.kd{s c:St}{u b:Æ}(h:LS P s u c b)(ok:lF P GL eY s)(a:pP u):Kd u b:=by
 cases h with
 |na k _ i=>exact(((oE ok.fU _<|Û k).r _).1 u a).1 _ _ i
 |zG k _ i=>exact(((oE ok.fU _<|Û k).r _).1 u a).1 _ _ i
 |rB k _ i _ _=>exact(((oE ok.fU _<|Û k).r _).1 u a).1 _ _ i
 |vD _ i=>exact(ML.1 u a).1 _ _ i
 |zF=>exact⟨id,λi o h k=>⟨o,h,k⟩⟩
 |_=>exact Kd.fQ u
def LS.adD{s o:St}{u p:Æ}{T:ψ}{D:Nat}(h:LS P s ((World.tp u T D)) o p)(ok:lF P GL eY s):∃n v,p=(World.tp v T<|D+n)/\∀a b,uA T D a b n->LS P s ((World.tp u a b)) o ((World.tp v a<|b+n)):=by
 cases h with
 |na c e g=>
  obtain⟨n,v,i⟩:=((oE ok.fU _<|Û c).r ⟨_,[]⟩).2 u T D;obtain⟨j,l⟩:=i _ _ g;exact⟨n,v,j,λa b d=> .na c e (l a b d)⟩
 |zG c e g=>
  obtain⟨n,v,i⟩:=((oE ok.fU _<|Û c).r ⟨_,[]⟩).2 u T D;obtain⟨j,l⟩:=i _ _ g;exact⟨n,v,j,λa b d=> .zG c e (l a b d)⟩
 |rB c e g m q=>
  obtain⟨n,v,i⟩:=((oE ok.fU _<|Û c).r ⟨_,[]⟩).2 u T D;obtain⟨j,l⟩:=i _ _ g;exact⟨n,v,j,λa b d=> .rB c e (l a b d) m q⟩
 |vD m g=>
  obtain⟨n,v,i⟩:=(ML).2 u T D;obtain⟨j,l⟩:=i _ _ g;exact⟨n,v,j,λa b d=> .vD m (l a b d)⟩
 |@zF f t k L _ id ops=>
  refine⟨1,u,U,λa b d=> ?_⟩;have g:=LS.zF (P:=P) (f:=f) (t:=t) (k:=k) (L:=L) (u:=(World.tp u a b)) (id:=id) (ops:=ops);have i:((World.tp u a b)).tape ((World.tp u a b)).drawn=((World.tp u T D)).tape ((World.tp u T D)).drawn:=d.ln;rwa[i]at g
 |oz=>exact⟨0,u,U,λ_ _ _=> .oz⟩
 |uC=>exact⟨0,u,U,λ_ _ _=> .uC⟩
 |rA=>exact⟨0,u,U,λ_ _ _=> .rA⟩
 |vx=>exact⟨0,u,U,λ_ _ _=> .vx⟩
 |xw=>exact⟨0,u,U,λ_ _ _=> .xw⟩
 |uD=>exact⟨0,u,U,λ_ _ _=> .uD⟩
 |qy=>exact⟨0,u,U,λ_ _ _=> .qy⟩
 |sJ h=>exact⟨0,u,U,λ_ _ _=> .sJ h⟩
 |qz=>exact⟨0,u,U,λ_ _ _=> .qz⟩
 |vy=>exact⟨0,u,U,λ_ _ _=> .vy⟩
 |vz=>exact⟨0,u,U,λ_ _ _=> .vz⟩
 |vA=>exact⟨0,u,U,λ_ _ _=> .vA⟩
 |vB h=>exact⟨0,u,U,λ_ _ _=> .vB h⟩
 |vC h=>exact⟨0,u,U,λ_ _ _=> .vC h⟩
 |sK=>exact⟨0,u,U,λ_ _ _=> .sK⟩
 |EV=>exact⟨0,u,U,λ_ _ _=> .EV⟩
 |B9 c e=>exact⟨0,u,U,λ_ _ _=> .B9 c e⟩
 |Ca c=>exact⟨0,u,U,λ_ _ _=> .Ca c⟩
def ml.gN(c:oD P GL eY)(hF:sL P eY)(g:∀v u,vQ v u->jW u):∀(n:Nat) {s:St} {u:Æ},Ok P GL eY s->pP u->ml P vQ n (LM s u)->jW u:=by
 intro n
 induction n with
 |zero=>
  intro s u a b h;rcases h.I c hF a b with⟨_,_,_,_,v,_,_,d⟩|⟨m,_,_,e,_⟩
  .exact g v u d
  .cases e
 |succ n j=>
  intro s u a b h;rcases h.I c hF a b with⟨e,_⟩|⟨m,w,x,e,d,k⟩
  .cases e
  .cases e;have f:=d.kd a.r b;intro i o l p;let⟨q,r,t⟩:=f.C i o l p;exact j (d.MN c a) (f.r b) k i q r t
def oZ.adE(b:vG kI){s:St}(h:oZ P kI s u)(T:ψ)(D:Nat):oZ P kI s ((World.tp u T D)):=by
 cases h with
 |jA a S c=>exact .jA a S (b _ _ T D c)
 |jB S a h c d=>exact .jB S a h c d
def Vf(m:vG kI)(o:∀v u,vQ v u->kI v u){s:St}(c:s.C=É)(b:s.L=[])(e:∃g v,P.funcs[s.f]?=À g/\(Ī g s.t).run P ((World.tp u xQ i))=ĥ v ((World.tp u xQ i))/\vQ v ((World.tp u xQ i))):oZ P kI s u:=by
 obtain⟨f,t,k,z,L⟩:=s;simp only at c b;subst c b;obtain⟨g,v,p,q,r⟩:=e;refine .jA (v:=v) p (λh d=> ?_) ?_
 .obtain⟨n,w,c⟩:=(ML).2 u xQ i;obtain⟨b,e⟩:=c _ _ q;have x:n=0:=by
   have:((World.tp u xQ i)).drawn=((World.tp w xQ<|i+n)).drawn:=by rw[<-b]
   simp only[World.tp]at this;omega
  subst x;have y:(World.tp w h d)=(World.tp u h d):=by
   have a:((World.tp u xQ i)).heap=((World.tp w xQ<|i+0)).heap:=by rw[<-b]
   have j:((World.tp u xQ i)).os=((World.tp w xQ<|i+0)).os:=by rw[<-b]
   have l:((World.tp u xQ i)).output=((World.tp w xQ<|i+0)).output:=by rw[<-b]
   simp only[World.tp]at a j l|-;rw[a,j,l]
  have:=e h d (λa j=>by omega);rwa[show d+0=d from rfl,y]at this
 .have:=m v _ u.tape u.drawn<|o v _ r;exact this
structure Ir where
 s:St
 u:Æ
 D:Nat
 T:ψ
 n:Nat
structure Is(P:Õ)(GL:Nat->Prop)(eY:à->Prop)(kI:Â->Æ->Prop)(s0:St)(u0:Æ)(x:Ir):Prop where
 ok:Ok P GL eY x.s
 adF:pP x.u
 adG:¬oZ P kI x.s x.u
 nY:∀T',(∀i,i<x.D->T' i=x.T i)->dt P x.n (LM s0<|(World.tp u0 T' 0))=ň (LM x.s<|(World.tp x.u T' x.D))
def Vg{m:bQ}{s:St}{N:Nat}(a:dt P n m=ň (LM s u))(e:ml P vQ N m):∃k,N=n+k/\ml P vQ k (LM s u):=by
 by_cases f:n<=N
 .obtain⟨k,rfl⟩:=Ε f;refine⟨k,U,?_⟩;let⟨g,v,c,b,d⟩:=e;rw[dH,a]at b;exact⟨g,v,c,b,d⟩
 .obtain⟨k,rfl⟩:=Nat.exists_eq_add_of_lt<|Nat.lt_of_not_le f;let⟨g,v,c,b,d,_⟩:=e;rw[show N+k+1=N+(k+1) by omega,dH,b]at a;simp only[dt,step_leave_returned d]at a;cases k with
  |zero=>
   simp only[dt,Stepped.next.injEq]at a;have:=(Ve a).2.1;simp[fq]at this
  |succ k=>
   simp only[dt,(Iq (P:=P) (fr:=o0) (cs:=[]) (w:=c) (es:=#[])<|by simp[G,Ù,Ì,o0];exact⟨U,U⟩)]at a;cases a
theorem MO(f:oD P GL eY)(hF:sL P eY)(t:vG kI)(C:∀v u,vQ v u->jW u)(E:∀v u,vQ v u->kI v u){j:St}(F:∀T,∃n,ml P vQ n<|LM j<|(World.tp w T 0)){x:Ir}(G:Is P GL eY kI j w x): ∃y:Ir,Is P GL eY kI j w y/\y.n=x.n+1/\x.D<=y.D/\∀i,i<x.D->y.T i=x.T i:=by
 let⟨s,u,D,T,n⟩:=x;let⟨ok,pend,l,q⟩:=G;simp only at ok pend l q;have H:∃y d,∀a g,LS P s ((World.tp u y d)) a g->B5 u g->¬oZ P kI a g:=by
  refine Classical.byContradiction λo=>l ?_;have c:∀y d,∃p:St×World,LS P s ((World.tp u y d)) p.1 p.2/\B5 u p.2/\oZ P kI p.1 p.2:=by simp_all
  exact .jB (λy d=>(Classical.choose<|c y d).1) (λy d=>(Classical.choose<|c y d).2) (λy d=>(Classical.choose_spec<|c y d).1) (λy d=>(Classical.choose_spec<|c y d).2.1) λy d=>(Classical.choose_spec<|c y d).2.2
 let⟨y,d,I⟩:=H;let p:ψ:=λi=>if i<D then T i else y (d+(i-D))
 have r:∀i,i<D->p i=T i:=λi h=>if_pos h;have J:=λi=>by show(if D+i<D then T (D+i)else y (d+(D+i-D)))=y (d+i);grind
 let⟨N,K⟩:=F p;let⟨k,_,L⟩:=Vg (q p r) K;have b:pP ((World.tp u p D)):=pend;rcases L.I f hF ok b with⟨_,M,O,S⟩|⟨m,a,g,_,e,V⟩
 .exact absurd (Vf t E M O S) l
 .obtain⟨c,v,rfl,z⟩:=e.adD ok.r;have W:¬oZ P kI a v:=λX=>I a _ (z y d λi _=>(J i).symm) (λi o _ B=>(ml.gN f hF C m (e.MN f ok) ((e.kd ok.r b).r b) V) i o B)<|X.adE t y<|d+c;refine⟨⟨a,v,D+c,p,n+1⟩,⟨e.MN f ok,(e.kd ok.r b).r b,W,λo B=> ?_⟩,U,fh,r⟩;rw[dH,(q o λi h=>(B i<|by simp only;omega).trans<|r i h)];simp only[dt,(z o D λi h=>B (D+i)<|by simp only;omega).uG]
theorem adH(b:oD P GL eY)(hF:sL P eY)(c:vG kI){Q:Â->Æ->Prop}(g:∀v u,Q v u->jW u)(d:∀v u,Q v u->kI v u){a:St}(ok:Ok P GL eY a)(q:pP w)(f:∀T,∃n,ml P Q n<|LM a<|(World.tp w T 0)):oZ P kI a w:=by
 refine Classical.byContradiction λr=> ?_;have s:Is P GL eY kI a w ⟨a,w,0,λ_ _=>0,0⟩:=⟨ok,q,r,λI _=>rfl⟩;let F:Nat->{x:Ir//Is P GL eY kI a w x}:=λk=>Nat.rec ⟨_,s⟩ (λ_ x=>⟨Classical.choose<|MO b hF c g d f x.2,(Classical.choose_spec<|MO b hF c g d f x.2).1⟩) k
 have l:=λk=>(Classical.choose_spec<|MO b hF c g d f (F k).2).2;have t:∀k,(F k).1.n=k:=by
  intro k
  induction k with
  |zero=>rfl
  |succ k e=>rw[(l k).1,e]
 have J:∀j k,(F j).1.D<=(F<|j+k).1.D/\∀i,i<(F j).1.D->(F<|j+k).1.T i=(F j).1.T i:=by
  intro j k
  induction k with
  |zero=>exact⟨ß _,λ_ _=>rfl⟩
  |succ k e=>
   have:=(l<|j+k).2;exact⟨õ e.1 this.1,λi m=>(this.2 i<|Ô m e.1).trans<|e.2 i m⟩
 have K:∀j k i,i<(F j).1.D->i<(F k).1.D->(F j).1.T i=(F k).1.T i:=by intro j k i e o;rcases Nat.le_total j k with h|h;all_goals grind [Ε]
 let T:ψ:=λi=>open Classical in if h:∃k,i<(F k).1.D then(F<|Classical.choose h).1.T i else λ_=>0
 have y:∀k i,i<(F k).1.D->T i=(F k).1.T i:=by intro k i m;have e:∃k,i<(F k).1.D:=⟨k,m⟩;show(open Classical in if h:∃k,i<(F k).1.D then(F<|Classical.choose h).1.T i else λ_=>0)=_;rw[dif_pos e];grind
 let⟨N,z⟩:=f T;have p:=(F N).2.nY T<|y N;rw[t N]at p;let⟨k,e,o⟩:=Vg p z;have B:k=0:=Z
 subst B;have C:pP ((World.tp (F N).1.u T<|(F N).1.D)):=(F N).2.adF;rcases o.I b hF (F N).2.ok C with⟨_,E,G,H⟩|⟨m,_,_,e,_⟩
 .exact(F N).2.adG<|Vf c d E G H
 .cases e
end
section
variable{m:à->Prop}
def MP(f:à)(b:Func)(c:aj)(a:Array Â):St:=⟨f,a++ĺ (b.ntmps-a.size) ľ,[Đ c],Ã,[]⟩
def Vh(a:Array Â)(b:P.funcs[F]?=À s)(d:s.body=À wX):dI P F a .normal=(MP F s wX a).I:=cG a b d
def adI(b:oD P X m)(hF:sL P m)(l:vG vQ)(g:m F)(j:P.funcs[F]?=À s)(k:s.body=À wX)(o:jW u) (p:∀T,Calls P F d ((World.tp u T 0)) fun|.returned v,u'=>vQ v u'/\jW u'|_,_=>False):oZ P vQ (MP F s wX d) u:=by
 refine adH b hF l (Q:=λv u=>vQ v u/\jW u) (λv u h=>h.2) (λv u h=>h.1) ⟨⟨λi q=> ?_,λx h=>by cases h⟩,g,λx h=>by cases h⟩ o.pP λT=> ?_
 .rw[ū.1 q];exact .qA (b F g s wX j k)
 .let⟨e,r,t,a,w,_,y⟩:=p T [o0];cases e with
  |returned v=>
   let⟨n,z⟩:=w;refine⟨n,t,v,r,?_,y,a⟩;rw[<-z,Vh d j k];rfl
  |panicked n=>exact a.elim
  |outgrown=>exact a.elim
def adJ(r:mZ P)(b:oD P X m)(hF:sL P m)(t:vG vQ)(n:m F)(e:P.funcs[F]?=À s)(h:s.body=À wX)(y:jW u) (z:∀T,Calls P F d ((World.tp u T 0)) fun|.returned v,u'=>vQ v u'/\jW u'|_,_=>False) {Y:fj} {a o:Nat->Prop} (B:Y.C=P.globals.size) (C:∀g,X g->Y g g) (p:fM Y d q) (D:qB Y a u w) (E:∀j,a j->j<w.heap.size) (H:∀i j,Y i j->a j->o j) (main:Bool) (k:Ę) (l:List Ę): uE P main o (EX Y a vQ k l) (fi Y a) (G (dI P F q .normal)<|k::l) w:=by
 have:=(adI b hF t n e h y z).MK (main:=main) r b (Y:=Y) (EY:=Y) (s':=MP F s wX q) (fj.M _) B C ⟨U,?_,U,U,.oz⟩ ⟨λi I=> ?_,λx J=>by cases J⟩ D E H k l
 .rw[Vh q e h];exact this
 .show fM Y (d++_) (q++_);rw[p.r];exact p.sE<|U8 _
 .rw[ū.1 I];exact .qA (b F n s wX e h)
def xA:Â->Bool
 |Ľ _|Ć _ _|ħ _|Þ ë|bR ë _ _|bS|aV|eh ë|.map ë=>É
 |_=>Ã
def MQ:Â->Bool
 |.agg a=>a.all xA
 |ſ a=>a.all xA
 |v=>xA v
def E2(h:xA v=É):jG v:=by
 cases v with
 |bool b=>exact .lT b
 |int k n=>exact .iC k n
 |string s=>exact .kD s
 |pointer p=>cases p with
  |none=>exact .lk
  |some a=>cases h
 |slice p n c=>cases p with
  |none=>exact .nF n c
  |some a=>cases h
 |nilFunc=>exact .uo
 |nilIface=>exact .uq
 |chan p=>cases p with
  |none=>exact .uu
  |some a=>cases h
 |map p=>cases p with
  |none=>exact .uw
  |some a=>cases h
 |_=>cases h
def adK(h:MQ v=É):jG v:=by
 cases v with
 |agg b=>exact .nU λi a=>E2<|(Ń.1 h) i a
 |tuple b=>exact .mX λi a=>E2<|(Ń.1 h) i a
 |_=>exact E2 h
def vH(X:Nat->Bool):Ö->Bool
 |.tmp _=>É
 |dV v=>MQ v
 |ep g=>X g
 |aN _=>É
theorem It{g:Nat->Bool}(h:vH g qQ=É):lU (λj=>g j=É) qQ:=by
 cases qQ with
 |tmp t=>exact .U2 t
 |const v=>exact .U3 (adK h)
 |global j=>exact .U4 h
 |func f=>exact .U5 f
def MR(P:Õ)(t:Á):Bool:=match P.underlying t with
 |some .bool=>É
 |some (Β _)=>É
 |some ę=>É
 |_=>Ã
def adL(h:MR P t=É):sF P t:=by
 unfold MR at h;split at h
 .rename_i e;exact Ç e
 .rename_i k e;exact Î<|Ç ⟨k,e⟩
 .rename_i e;exact Î<|Î e
 .cases h
def Iu:Ö->Bool
 |dV (Þ ë)=>É
 |_=>Ã
def Vi(h:Iu qQ=É):mF (y.eval qQ):=by
 unfold Iu at h;split at h
 .trivial
 .cases h
def MS(P:Õ)(t:Á)(x y:Ö):Bool:=MR P t||((match P.underlying t with|some (ð _)=>É|_=>Ã)&&(Iu x||Iu y))
theorem adM{a:bE}{y:Ö}(h:MS P t qQ y=É):sF P t\/((∃e,P.underlying t=À (ð e))/\(mF (a.eval qQ)\/mF (a.eval y))):=by
 unfold MS at h;rcases Ŝ.1 h with h|h
 .exact Ç<|adL h
 .let⟨b,e⟩:=Ü.1 h;refine Î ⟨?_,(Ŝ.1 e).imp Vi Vi⟩;grind
def MU(P:Õ)(s d:Á):Bool:=match P.underlying s,P.underlying d with
 |some (Β _),À (Β _)=>É
 |some ę,À ę=>É
 |_,_=>Ã
theorem adN(h:MU P e t=É):(∃k a,P.underlying e=À (Β k)/\P.underlying t=À (Β a))\/(P.underlying e=À ę/\P.underlying t=À ę):=by unfold MU at h;grind
def MV(P:Õ)(s:Á)(n:Nat):Bool:=match P.underlying s with
 |some (de fields)=>match fields[n]? with
  |some f=>match P.info? f.type with
   |some i=>i.size !=0
   |none=>Ã
  |none=>Ã
 |_=>Ã
def adO(h:MV P e n=É):∀a f i,P.underlying e=À (de a)->a[n]?=À f->P.info? f.type=À i->i.size≠0:=by intro a f i b c d;simp only[MV,b,c,d]at h;simpa using h
def MW(P:Õ)(m:à->Bool)(f:à):Bool:=m f&&(match P.funcs[f]? with
 |some a=> !(a.name== "runtime.NumGoroutine")&&!a.body.isNone
 |none=>Ã)
theorem Vj{g:à->Bool}(h:MW P g F=É):g F=É/\∃a,P.funcs[F]?=À a/\(a.name== "runtime.NumGoroutine")=Ã/\a.body.isNone=Ã:=by let⟨b,c⟩:=Ü.1 h;grind
def Vk(P:Õ):List Á->Bool
 |[_,t1]=>(match P.underlying t1 with|some (df _)=>É|some ę=>É|_=>Ã)
 |_=>Ã
def Vl(P:Õ)(m:à->Bool)(b:Callee)(a:List Ö)(c:List Á):Bool:=match b with
 |ĝ .len=>a.length==1
 |ĝ .cap=>a.length==1
 |ĝ .copy=>a.length==2
 |ĝ .append=>a.length==2&&Vk P c
 |cg (aN f)=>MW P m f
 |_=>Ã
def Cd(P:Õ)(m:à->Bool):Op->Bool
 |.move _|.assign _|.pick _ _ _|.alloc _|.box _ _|.build _ _|dB _ _ _|.load _ _|.store _ _ _|ez _|.unOp _ _ _|dS _ _ _|.slice _ _ _ _ _|.field _ _ _|dU _ _ _|.index _ _ _|.extract _ _=>É
 |dR c t x y _=>if c==az||c==aK then MS P t x y else É
 |aL s d _=>MU P s d
 |dT s _ n=>MV P s n
 |Ω c=>Vl P m c.callee c.args.toList c.argTypes.toList
 |_=>Ã
def Iv{a:Array Ö}(h:(a.toList.length==1)=É):∃x,a=#[x]:=by
 let⟨l⟩:=a;match l,h with
 |[x],_=>exact⟨x,U⟩
def MX{a:Array Ö}(h:(a.toList.length==2)=É):∃x y,a=#[x,y]:=by
 let⟨l⟩:=a;match l,h with
 |[x,y],_=>exact⟨x,y,U⟩
def adP{g:à->Bool}{k:Op}(h:Cd P g k=É)(a:bE):jV P a.eval k:=by
 cases k with
 |binOp o t x y r=>
  refine .B7 o t x y r λe=> ?_;have:(o==az||o==aK)=É:=by rcases e with rfl|rfl<;>rfl
  simp only[Cd,if_pos this]at h;exact adM h
 |convert s d x=>exact .Mm _ _ _ (adN h)
 |fieldAddr s x n=>exact .Mp _ _ _ (adO h)
 |call c=>
  let⟨z,B,j⟩:=c;simp only[Cd]at h;unfold Vl at h;split at h
  .obtain⟨x,rfl⟩:=Iv h;exact .EJ x j
  .obtain⟨x,rfl⟩:=Iv h;exact .EK x j
  .obtain⟨x,y,rfl⟩:=MX h;exact .EL x y j
  .let⟨q,f⟩:=Ü.1 h;obtain⟨x,y,rfl⟩:=MX q;let⟨l⟩:=j;match l,f with
   |[t0,t1],f=>
    refine .sE x y t0 t1 ?_;simp only[Vk]at f;split at f
    .rename_i e m;exact Ç ⟨e,m⟩
    .rename_i m;exact Î m
    .cases f
  .exact .jz _ _ _ U (Vj h).2
  .cases h
 |move x=>exact .zC x
 |assign x=>exact .EH x
 |pick c a b=>exact .vu c a b
 |alloc t=>exact .gC t
 |box t x=>exact .Mi t x
 |build t p=>exact .Mj t p
 |buildSlice t n p=>exact .Mk t n p
 |load t a=>exact .gq t a
 |store t a x=>exact .iV t a x
 |nilCheck x=>exact .EI x
 |unOp o t x=>exact .Ml o t x
 |makeSlice t l c=>exact .Mn t l c
 |slice t x u v w=>exact .kx t x u v w
 |field t x n=>exact .Mq t x n
 |indexAddr t x i=>exact .Mr t x i
 |index t x i=>exact .Ms t x i
 |extract x n=>exact .Ex x n
 |_=>simp[Cd]at h
def MY(P:Õ)(X:Nat->Bool)(m:à->Bool)(o:au):Bool:=Cd P m o.op&&o.op.operands.all (vH X)
def adQ{X:Nat->Prop}{m:à->Prop}{o:au}(op:∀a:bE,jV P a.eval o.op)(opd:∀x∈o.op.operands,lU X x)(calls:∀f args ts,o.op=Ω {callee:=cg<|aN f,args:=args,argTypes:=ts}->m f):mh P X m o where
 mj hz hb hG ht hW hl x u' hr hc:=(Ua hz hW.C hb (λf=>rfl) (op _) λx hx=>vF hG ht<|opd x hx).gd hW hl hr hc #[];r a:=adr<|op a;I a u n u' hr:=adB (op a) hr;C a u f c u' hr:=let⟨as,ts,e⟩:=adw (op a) hr;calls f as ts e
theorem adR{g:Nat->Bool}{k:à->Bool}(h:MY P g k o=É):mh P (λj=>g j=É) (λf=>k f=É) o:=by
 let⟨j,b⟩:=Ü.1 h;refine adQ (λa=>adP j a) (λx a=>It ?_) λf a x e=> ?_
 .grind [ŉ]
 .rw[e]at j;exact(Vj<|show MW P k f=É from j).1
end
section
variable{Y:fj}{g:à->Prop}{α:Type}
def Ce(m:(Ö->Â)->ē Â)(e:∀b,ì b o=m b>>=λv=>pure<|ï v) (i:∀(Y:fj) (b h:Ö->Â),mZ P->Bi Y->Y.C=P.globals.size->(∀x∈o.op.operands,fg Y (b x)<|h x)->ky P fg Y (m b) (m h)) (j:∀b,fy P<|m b) (k:∀x∈o.op.operands,lU X x):mh P X g o where
 mj hz hb hG ht hW hl x u' hr hc:=by rw[e]at hr|-;exact(T4<|i _ _ _ hz hW.C hb λx d=>vF hG ht<|k x d).gd hW hl hr hc #[]
 r a:=by rw[e];exact lq<|j _
 I a u n u' hr:=by
  rw[e,Ä]at hr;cases d:(m a.eval).run P u with
  |ok v w=>rw[d]at hr;cases hr;exact Ç ⟨v,U⟩
  |halt z w=>rw[d]at hr;cases hr
 C a u f c u' hr:=by
  rw[e,Ä]at hr;cases d:(m a.eval).run P u with
  |ok v w=>rw[d]at hr;cases hr
  |halt z w=>rw[d]at hr;cases hr
theorem adS(a:o.op=cH t qQ)(b:∀y∈o.op.operands,lU X y):mh P X g o:=by
 refine Ce (λd=>ŝ t<|d qQ) (λd=> ?_) (λY d c _ _ _ h=> .gh ?_) (λd=> ?_) b
 .unfold ì;rw[a]
 .unfold ŝ;apply fB (iU t);rintro e d _ c ⟨rfl,_⟩;split
  .exact .fK
  .exact .fx (.xo t ((h qQ<|by rw[a];simp[Ê]).fI c))
 .unfold ŝ;grind [gA,iX,qx,gf]
theorem adT(c:Sys):nW P (sys c):=by
 intro u hu;refine⟨λx u' e=> ?_,λz u' e=>by cases e⟩;have:u'.heap=u.heap:=by
  simp only[sys,ã]at e;cases e;unfold World.sys;have ask:∀{γ:Type} (b:Ask γ) (w:Æ),(w.ask b).2.heap=w.heap:=by
   intro γ b
   induction b with
   |done a=>intro w;rfl
   |ask what range k ih=>
    intro w;simp only[World.ask];split
    .exact ih 0 w
    .exact ih _ _
  grind
 exact⟨λh i c e he=>h i c e (by rwa[<-this]),λi o he ho=>⟨o,by rwa[this],ho⟩⟩
theorem Vm(x:Â):∀u y a,(ż x).run P u≠ĥ y a:=by
 unfold ż;cases x<;>simp only[]<;>first|exact Mh|skip
 grind [EE,TR,qu]
def adU(x:Â):fy P (ż x):=by
 refine⟨?_,Mv<|Vm x⟩;unfold ż;cases x<;>simp only[]<;>first|exact EO U|skip
 refine H7 ?_ λa=> ?_
 .unfold Instr.panicnil;refine H7 (adT _) λr=> ?_;cases r<;>first|exact EO U|skip
  exact H7 Uc λ_=>Ub _
 .split
  .exact EO U
  .exact(vv _).1
def adV(b:o.op=.panic qQ)(c:∀y∈o.op.operands,lU X y):mh P X g o:=by refine Ce (λa=>ż<|a qQ) (λa=> ?_) (λY a d _ _ _ h=> .gh (.nV (Vm _))) (λa=>adU _) c;unfold ì;rw[b]
def adW(c:fg Y x v)(d:fg Y z jQ):fC P fg Y (Ĳ x z) (Ĳ v jQ):=by
 cases c<;>cases d<;>first|exact .fK|exact .fx (.iC _ _)|skip
 refine fB (V:=fg) (.fx (.lT _)) λf a g _ e=> ?_;apply fB (TP e);rintro h b _ _ rfl;exact .fx (.kD _)
def adX(x y:Â):fy P (Ĳ x y):=by unfold Ĳ;repeat' (first|(with_reducible first|exact gA _|exact iX _|exact rC _|exact Ie _|exact MJ _ _ _|refine gf ?_ (λ_=> ?_)|refine mG _ ?_)|split|rfl)
def adY:∀{l b:List Â} {Y:fj} {x c:Â},fg Y x c->fM Y l.toArray b.toArray->fC P fg Y (l.foldlM Ĳ x) (b.foldlM Ĳ c):=by
 intro l
 induction l with
 |nil=>
  intro b Y x c d a;have:b=[]:=by have:=a.r;simp at this;exact Ā this.symm
  subst this;rw[ζ,ζ];exact .fx d
 |cons v l e=>
  intro b Y x c d a;match b,a with
  |[],a=>have:=a.r;simp at this
  |v'::b,a=>
   rw[Ζ,Ζ];refine fB (adW d (by have:=a.C 0 fh fh;simpa using this)) ?_;intro k y m f g;refine e g ⟨by have:=a.r;simpa using this,λj h i=> ?_⟩;have:=a.C (j+1) (by simp at h|-;omega) (by simp at i|-;omega);exact(by simpa using this:fg Y _ _).fI f
theorem Vo:∀(l:List Â) (x:Â),fy P<|l.foldlM Ĳ x
 |[],x=>by rw[ζ];exact gA _
 |v::l,x=>by rw[Ζ];exact gf (adX _ _) λy=>Vo l y
def adZ(a:Array Á)(t:Á)(h:fM Y d q):fC P fg Y (ń a t d) (ń a t q):=by
 let⟨l⟩:=d;let⟨b⟩:=q;unfold ń;match l,b,h with
 |[],_,_=>exact .fK
 |v::l,[],h=>have:=h.r;simp at this
 |v::l,v'::b,h=>
  refine adY (by have:=h.C 0 fh fh;simpa using this) ⟨by have:=h.r;simpa using this,λj e f=> ?_⟩;have:=h.C (j+1) (by simp at e|-;omega) (by simp at f|-;omega);exact(by simpa using this:fg Y _ _)
theorem ad1(a:Array Á)(t:Á)(c:Array Â):fy P (ń a t c):=by let⟨l⟩:=c;unfold ń;grind [iX,Vo]
def ad2{b:Array Ö}{c:Array Á}(d:o.op=Ω {callee:=ĝ .min,args:=b,argTypes:=c})(e:∀y∈o.op.operands,lU X y):mh P X g o:=by refine Ce (λa=>ń c o.type<|b.map a) (λa=> ?_) (λY a i _ _ _ h=> .gh (adZ _ _<|T8 b λz f=>h z<|by rw[d];simp[Ê,ô,f])) (λa=>ad1 _ _ _) e;unfold ì;rw[d];simp only[ù,č,Ē,pure_bind]
def ad3{β:Type}{f g:Â->β->ē (ForInStep β)}(k:∀a v e b,Y.r a->fg a v e->fC P jg a (f v b) (g e b)):∀{l d:List Â} {a:fj} (b:β),Y.r a->fM a l.toArray d.toArray->fC P jg a (forIn l b f) (forIn d b g):=by
 intro l
 induction l with
 |nil=>
  intro d a b _ c;have:d=[]:=by have:=c.r;simp at this;exact Ā this.symm
  subst this;rw[φ,φ];exact .fx U
 |cons v l m=>
  intro d a b h c;match d,c with
  |[],c=>have:=c.r;simp at this
  |e::d,c=>
   rw[η,η];refine fB (k a v e b h (by have:=c.C 0 fh fh;simpa using this)) ?_;rintro p r _ i rfl;cases r with
   |done b=>exact .fx U
   |yield b=>
    apply m b (fj.I h i);refine⟨by have:=c.r;simpa using this,λj n o=> ?_⟩;have:=c.C (j+1) (by simp at n|-;omega) (by simp at o|-;omega);exact(by simpa using this:fg a _ _).fI i
theorem Vp{β:Type}{f:Â->β->ē (ForInStep β)}(a:∀v b,fy P<|f v b):∀(l:List Â) (b:β),fy P<|forIn l b f
 |[],b=>by rw[φ];exact gA _
 |v::l,b=>by
  rw[η];refine gf (a v b) λr=> ?_;cases r with
  |done b=>exact gA _
  |yield b=>exact Vp a l b
def ad4(d:fg Y x v):fC P fg Y (ü x) (ü v):=by
 cases d<;>first|exact .fK|exact .fx (.kD _)|skip
 rename_i h n c;unfold ü;apply fB (Mc h n);intro e j l m f;simp only[<-aD];refine fB (ad3 (Y:=e) ?_ _ (fj.M _) f) ?_
 .intro g a o b _ i;cases i<;>first|exact .fK|skip
  rename_i k n;cases k<;>first|exact .fK|exact .fx U
 .rintro g s _ _ rfl;exact .fx (.kD _)
theorem ad5(x:Â):fy P (ü x):=by
 unfold ü;split
 .exact gA _
 .refine gf (MB _ _) λa=> ?_;simp only[<-aD];grind [gf,Vp,gA,iX]
 .exact iX _
theorem ad6(i:o.op=aL t T qQ)(k:P.underlying t=À (df e))(l:P.underlying T=À ę)(m:P.underlying e=À (Β .u8))(n:∀y∈o.op.operands,lU X y):mh P X g o:=by
 refine Ce (λa=>Œ t T<|a qQ) (λa=> ?_) (λY a f _ _ _ h=> .gh ?_) (λa=> ?_) n
 .unfold ì;rw[i]
 .unfold Œ;refine fB (iU t) ?_;rintro z B _ p ⟨rfl,b⟩;rw[k]at b;injection b with b;subst b;refine fB (iU T) ?_;rintro q C _ r ⟨rfl,c⟩;rw[l]at c;injection c with c;subst c;have j:=((h qQ<|by rw[i];simp[Ê]).fI p).fI r;have u:fC P fg q (ø e>>=λy=>match y with|Β .u8=>ü (a qQ)|Β .i32=>aE (a qQ)|_=>stuck "Convert: a slice of what to string?") (ø e>>=λy=>match y with|Β .u8=>ü (f qQ)|Β .i32=>aE (f qQ)|_=>stuck "Convert: a slice of what to string?"):=by
   apply fB (iU e);rintro D E _ w ⟨rfl,h⟩;rw[m]at h;injection h with h;subst h;exact ad4<|j.fI w
  generalize a qQ=v at*;generalize f qQ=v' at*;cases j<;>first|exact u|exact .fK|exact .fx (.kD _)|skip
 .unfold Œ;grind [vw,ad5,UZ,gA]
end
section
variable{Y:fj}{b:à->Prop}{α:Type}
def Vq(i:∀(Y:fj) (a g:bE),mZ P->Bi Y->Y.C=P.globals.size->(∀x∈o.op.operands,fg Y (a.eval x)<|g.eval x)->ky P oA Y (ì a.eval o) (ì g.eval o)) (j:∀a:bE,fy P<|ì a.eval o) (h:∀(a:bE) (u:Æ) (n:Ο) (d:Æ),(ì a.eval o).run P u=ĥ n d->∃v,n=ï v) (k:∀x∈o.op.operands,lU X x):mh P X b o where
 mj hz hb hG ht hW hl x d hr hc:=(i _ ⟨_,[]⟩ ⟨_,[]⟩ hz hW.C hb λx e=>vF hG ht<|k x e).gd hW hl hr hc #[];r a:=j a;I a u n d hr:=Ç<|h a u n d hr;C a u f c d hr:=by let⟨v,e⟩:=h a u _ d hr;cases e
def ad7{e:Array Â->ē Â}{k:Array Á}(g:o.op=Ω {callee:=cg<|aN F,args:=#[qQ],argTypes:=k})(l:P.funcs[F]?=À s)(m:(s.name== "runtime.NumGoroutine")=Ã)(q:s.body.isNone=É)(r:Extern.findNext s=ë)(t:Extern.find s=À e) (B:∀(Y:fj) (v i:Â),fg Y v i->fC P fg Y (e #[v]) (e #[i])) (C:∀v,fy P<|e #[v]) (D:∀y∈o.op.operands,lU X y):mh P X b o:=by
 have c:∀a:bE,ì a.eval o=ĵ F #[a.eval qQ]:=by intro a;unfold ì;rw[g];simp only[ù,å,İ,č,pure_bind,Ď,ď,Ø,â,ä]
 have j:∀(v:Â) (u:Æ),(ĵ F #[v]).run P u=(mark (.extern F)>>=λ_=>e #[v]>>=λy=>pure (ï y):ē Ο).run P u:=by intro v u;unfold ĵ;simp_all
 refine Vq (λY a w _ _ _ h=> ?_) (λa=> ?_) (λa u n E d=> ?_) D
 .rw[c,c];unfold ĵ;refine .gh (fB qo ?_);rintro I p J w ⟨z,G⟩;rw[z,G];simp only[l,m,q,r,t,Å,if_false,if_true];apply fB (V:=jg) (.BY (Î ⟨F,U⟩) (.fx U));exact λK _ _ H _=>mg<|B _ _ _<|((h qQ<|by rw[g];simp[Ê,ô]).fI w).fI H
 .rw[c];exact H9 (j _)<|gf (EP _) λ_=>lq<|C _
 .rw[c,j,Ä]at d;simp only[mark,ã,È]at d;have:ã P (e #[a.eval qQ]>>=λy=>pure (ï y):ē Ο) u=ĥ n E:=d;rw[Ä]at this;cases h:(e #[a.eval qQ]).run P u with
  |ok v w=>rw[h]at this;cases this;exact⟨v,U⟩
  |halt z w=>rw[h]at this;cases this
def ad8(x a:Â)(h:fg Y x a):fC P fg Y (Ŀ #[x]) (Ŀ #[a]):=.fx h
def ad9(x:Â):fy P (Ŀ #[x]):=gA _
def Vr:∀(n t:Nat) {c a:Array Â},fM Y c a->fM Y (ņ n t c) (ņ n t a)
 |0,_,_,_,h=>h
 |n+1,t,_,_,h=>Vr n (t/256)<|h.TD<|.iC _ _
def aea(b:Array Á)(t:Á)(v c:Â)(h:fg Y v c):fC P fg Y (Ċ b #[t] #[v]) (Ċ b #[t] #[c]):=by
 cases h<;>first|exact .fK|skip
 rename_i k n;cases k<;>first|exact .fK|skip
 refine fB (iU t) ?_;rintro j d _ l ⟨rfl,_⟩;cases d<;>first|exact .fK|skip
 rename_i e _;simp only[];split
 .exact .nV (vp<|qu _)
 .apply rz (.zv λn=> .fx U);intro m f _;apply rz (Mg _);intro o _ _;apply rz (.zv λn=> .fx U);intro p g _;apply fB (zy e<|Vr f g<|fM.N _);exact λq a r _ i=> .fx (.kx i _ _)
def aeb(a:Array Á)(t:Á)(v:Â):fy P (Ċ a #[t] #[v]):=by
 cases v<;>first|exact iX _|skip
 rename_i k n;cases k<;>first|exact iX _|skip
 refine gf (qx t) λd=> ?_;cases d<;>first|exact iX _|skip
 repeat' (first|(with_reducible first|exact gA _|exact iX _|exact rC _|exact ES _ _|exact qx _|exact vv _|exact MC _|refine gf ?_ λ_=> ?_)|split)
def aec(f:Array Á)(t:Á)(j:fg Y x v):ky P fg Y (ė f t #[x]) (ė f t #[v]):=by
 cases j<;>first|exact .gh .fK|exact .gh (.fx .lk)|skip
 rename_i a g h n c;change ky P fg Y (ite _ _ _) (ite _ _ _);by_cases i:c≠0
 .simp only[if_pos i];exact .gh (.fx (.jF h))
 .simp only[if_neg i];apply kH (H3 h.1);rintro l b m o ⟨rfl,rfl⟩;simp only[Option.isSome_none,Å,if_false];refine kH (V0:=λ_ a g=>a=g) ?_ ?_
  .unfold Ū;refine fB (iU t) ?_;rintro k d _ p ⟨rfl,_⟩;cases d<;>first|exact .fK|exact .fx U
  .rintro k e _ _ rfl;exact .B3 trivial
def aed(b:Array Á)(t:Á)(x:Â):fy P (ė b t #[x]):=by
 cases x<;>first|exact iX _|skip
 rename_i p n c;cases p with
 |none=>exact gA _
 |some a=>
  change fy P (ite _ _ _);repeat' (first|(with_reducible first|exact gA _|exact iX _|exact Ia _|exact Ig _|refine gf ?_ (λ_=> ?_)|refine H8 _ ?_)|split|(intro _ _ h;cases h;done))
def aee{c:Array Á}(d:o.op=Ω {callee:=ĝ bk,args:=#[qQ],argTypes:=c})(e:∀y∈o.op.operands,lU X y):mh P X b o:=by refine Ce (λa=>ė c o.type #[a qQ]) (λa=> ?_) (λY a f _ _ _ h=>aec _ _<|h qQ<|by rw[d];simp[Ê,ô]) (λa=>aed _ _ _) e;unfold ì;rw[d];simp only[ù,č,Ē,pure_bind,Ø,â,ä]
end
section
variable{Y:fj}{f:Nat->Prop}{g:à->Prop}{α:Type}
def Vt(h:gT Y a p):fC P gT Y (Ž a) (Ž p):=by unfold Ž;apply fB (H3 h.1);rintro c x d b ⟨rfl,rfl⟩;exact .fx (h.r b)
def aef{r:Nat}(h:Y r i):fC P (λ_ c q=>∃n a,c=À n/\q=À a/\n<=a) Y (du r) (du i):=.uy h λ_ n a c=> .fx ⟨n,a,U,U,c.elim (λq=>by omega) λq=>q.1⟩
def Vu(h:gT Y a p)(t:Á)(n:Nat):fC P (λ_ b e=>b=É->e=É) Y (Ą a t n) (Ą p t n):=by unfold Ą;apply fB qo;rintro i b j c ⟨d,f⟩;rw[d,f];refine .uy (c.1 _ _ h.1) λe m k g=> ?_;rw[h.2.1];exact .fx λq=>TX (ο<|g.elim (λq=>by omega) λq=>q.1) q
def aeg(a:Ú):fy P (Ž a):=by unfold Ž;repeat' (first|(with_reducible first|exact gA _|exact pQ|exact sG _|exact Ig _|refine gf ?_ (λ_=> ?_)|refine mG _ ?_)|split|rfl)
theorem aeh(r:Nat):fy P (du r):=by unfold du;grind [gA,sG,Ui,gf]
theorem Vv(a:Ú)(t:Á)(n:Nat):fy P (Ą a t n):=by unfold Ą;grind [gA,pQ,sG,gf]
theorem aei(l:P.underlying e=À (ð t))(m:P.underlying T=À đ)(o:fg Y x v):ky P fg Y (ö e T x) (ö e T v):=by
 unfold ö;refine kH (iU e) ?_;rintro z B _ p ⟨rfl,f⟩;rw[l]at f;injection f with f;subst f;refine kH (iU T) ?_;rintro C D _ q ⟨rfl,g⟩;rw[m]at g;injection g with g;subst g;have r:=(o.fI p).fI q;cases r<;>first|exact .gh .fK|exact .gh (.fx .lk)|skip
 rename_i a E h;refine kH (Vt h) ?_;intro F b j G i;refine kH (aef i.1) ?_;rintro H c I u ⟨w,J,rfl,rfl,K⟩;refine kH (mE t) ?_;rintro L n _ y ⟨rfl,_⟩;rw[i.2.1,i.2.2];simp only[];by_cases k:(decide (n=0)||(decide (j.off≥w)&&j.spot.isNone))=É
 .rw[if_pos k];exact .B3 trivial
 .rw[if_neg k,if_neg]
  .exact .gh (.fx (.jF ((i.r u).r y)))
  .grind
theorem aej{d:Á}(l:P.underlying T=À đ)(o:P.underlying d=À (ð t))(q:fg Y x z):ky P fg Y (ö T d x) (ö T d z):=by
 unfold ö;refine kH (iU T) ?_;rintro F G _ r ⟨rfl,f⟩;rw[l]at f;injection f with f;subst f;refine kH (iU d) ?_;rintro H I _ w ⟨rfl,g⟩;rw[o]at g;injection g with g;subst g;have y:=(q.fI r).fI w;cases y<;>first|exact .gh .fK|exact .gh (.fx .lk)|skip
 rename_i a J h;refine kH (Vt h) ?_;intro K b B L i;refine kH (mE t) ?_;rintro M n _ j ⟨rfl,_⟩;refine kH (Vu (i.r j) t 1) ?_;rintro C v N D O;have Q:ky P fg C (pure<|Þ<|À b) (pure<|Þ<|À B):=.gh (.fx (.jF ((i.r j).r D)));by_cases E:(decide (n=0)||v)=É
 .grind
 .rw[if_neg E];refine .B4 λu x S c=> ?_;rw[Ä]at c;simp only[cm,ã,È]at c;cases k:u.shape? b.block with
  |none=>rw[k]at c;cases c
  |some p=>
   let⟨e,m⟩:=p;rw[k]at c;simp only[Ä,ă,È]at c;split at c
   .cases c
   .cases c;exact⟨u.heap.size,.view b t,ß _,fh,trivial⟩
theorem aek(h:(P.underlying e=À (ð t)/\P.underlying T=À đ)\/(P.underlying e=À đ/\P.underlying T=À (ð t)))(x:Â):fy P (ö e T x):=by
 unfold ö;rcases h with⟨b,c⟩|⟨b,c⟩<;>refine vw b<|vw c ?_;all_goals
  cases x<;>first|exact iX _|skip
  rename_i p;cases p with
  |none=>exact gA _
  |some a=>
   repeat' (first|(with_reducible first|exact aeg _|exact aeh _|exact Vv _ _ _|exact gA _|exact iX _|exact pQ|exact sG _|exact sI _|refine gf ?_ (λ_=> ?_)|refine mG _ ?_|refine H8 _ ?_)|split|(intro _ _ h;cases h;done)|rfl)
theorem Vw(b:o.op=aL e T qQ)(h:(P.underlying e=À (ð t)/\P.underlying T=À đ)\/(P.underlying e=À đ/\P.underlying T=À (ð t)))(c:∀y∈o.op.operands,lU X y):mh P X g o:=by
 refine Ce (λa=>Œ e T<|a qQ) (λa=> ?_) (λY a i _ _ _ f=> ?_) (λa=> ?_) c
 .unfold ì;rw[b]
 .unfold Œ;apply kH (iU e);rintro j k _ a ⟨rfl,l⟩;apply kH (iU T);rintro m n _ i ⟨rfl,p⟩;have q:=((f qQ<|by rw[b];simp[Ê]).fI a).fI i;grind [aei,aej]
 .unfold Œ;grind [aek,vw]
theorem ael(a:Ú)(n:Nat):nW P (eT a n):=by
 intro u f;refine⟨λx b e=> ?_,λz b e=>by cases e⟩;cases e;unfold Ė;split
 .exact Kd.fQ u
 .refine Ud (λo d=> ?_) λo c e h=> ?_
  .cases o<;>first|exact d.elim|trivial
  .grind
def aem(a:Ú)(n:Nat):fy P (eT a n):=by
 refine⟨ael a n,λu T D=>⟨0,u.freeze a n,λx b e=> ?_⟩⟩;have c:∀T D,(World.tp u T D).freeze a n=World.tp (u.freeze a n) T D:=by intro T D;unfold Ė;split<;>rfl
 simp_all
def Vx:∀(n:Nat) {Y:fj} {a c:Ú} (d:ByteArray),gT Y a c->fC P jg Y (ĕ a d n) (ĕ c d n)
 |0,_,_,_,_,_=> .fx U
 |n+1,Y,a,c,d,h=>by
  unfold ĕ;refine fB (HY h) ?_;intro g v i e f;cases f<;>first|exact .fK|skip
  rename_i k b;cases k<;>first|exact .fK|exact Vx n _<|(h.r e).C 1
def Vy:∀(n:Nat) (a:Ú) (b:ByteArray),fy P<|ĕ a b n
 |0,_,_=>gA _
 |n+1,a,b=>by
  unfold ĕ;refine gf (ER _ _) λv=> ?_;split
  .exact Vy n _ _
  .exact iX _
def ju(pt:Á)(a:Ú)(n:Nat):ē ByteArray:=do
 if<-Ą a (<-Ū pt) n then ĕ a .empty n else unsupported (ť "String: not so many bytes at ptr")
def aen(pt:Á)(h:gT Y a p)(n:Nat):fC P jg Y (ju pt a n) (ju pt p n):=by
 unfold ju;refine fB (V:=jg) ?_ ?_
 .unfold Ū;refine fB (iU pt) ?_;rintro f d _ c ⟨rfl,_⟩;cases d<;>first|exact .fK|exact .fx U
 .rintro i e _ d rfl;apply fB (Vu (h.r d) e n);rintro f b j c g;cases b with
  |true=>rw[g U];exact Vx n _<|(h.r d).r c
  |false=>exact .fK
def aeo[zu P](F:ja Y f u w)(h:gT Y a p){pt:Á}(G:∀u l j,(Ū pt).run P u=ĥ l j->∃k,P.underlying l=À (Β k))(g:(ju pt a<|n+1).run P u=ĥ B W):¬f p.block:=by
 intro H;let⟨c,L,e,M,N,r,O,Q,t,_⟩:=F.r _ _ h.1;let⟨_,_,_,_,o⟩:=t H;unfold ju at g;rw[Ä]at g;cases i:(Ū pt).run P u with
 |halt z x=>rw[i]at g;cases g
 |ok l j=>
  have I:j=u:=by
   unfold Ū at i;rw[Ä]at i;unfold ø at i;rw[Ä,ă]at i;simp only[È]at i;cases D:P.underlying pt with
   |none=>rw[D]at i;cases i
   |some d=>
    rw[D]at i;cases d<;>cases i<;>rfl
  subst I;rw[i]at g;simp only[È]at g;rw[Ä]at g;have y:∃b,(Ą a l<|n+1).run P j=ĥ b j:=by unfold Ą;rw[Ä,ă];simp only[È];rw[Ä];simp only[cm,ã,È];split<;>exact⟨_,U⟩
  rcases o with o|o;rotate_left
  .let⟨k,J⟩:=G _ _ _ i;have K:(Ą a l<|n+1).run P j=ĥ Ã j:=by
    unfold Ą;rw[Ä,ă];simp only[È];rw[Ä];simp only[cm,ã,È];have t:j.shape? a.block=À (e,c.size):=by simp[Θ,r]
    rw[t];simp only[Nat.div_eq_of_lt<|zu.lt e c.size o,ab7 J];rfl
   rw[K]at g;cases g
  let⟨b,y⟩:=y;rw[y]at g;simp only[È]at g;split at g
  .unfold ĕ at g;rw[Ä]at g;simp only[aW,ã]at g;cases C:j.cell? a with
   |none=>
    rw[C]at g;simp only[ŋ,r]at g;cases g
   |some v=>
    rw[C]at g;simp only[È]at g;have q:=C;rw[zx r]at q;cases E:a.spot with
    |some x=>rw[E]at q;cases q
    |none=>
     rw[E]at q;have:=o _ _ (by simpa using q);cases v<;>first|(cases g;done)|skip
     rename_i k m;cases k<;>first|(cases g;done)|cases this
  .cases g
end
section
variable{Y:fj}{d:Nat->Prop}{f:à->Prop}{α:Type}
def xB(a:Á)(p:Option Ú)(n:Int):ē Â:=ê #[a] a #[Þ p,Ć Ŋ n]
def xC(pt a t:Á)(p:Option Ú)(k:ú)(n:Int):ê #[pt,a] t #[Þ p,Ć k n]=xB pt p n:=by cases p<;>rfl
section
variable{pt:Á}{p:Option Ú}
def Vz(a:h<0):∃c,∃k:PUnit->ē Â,xB pt p h=(runtimePanic c>>=k):=⟨_,_,if_pos a⟩
def VA(a:¬h<0)(b:h>Ŋ.max):∃c,xB pt p h=unsupported (ť c):=⟨_,(if_neg a).trans<|if_pos b⟩
def MZ(a:¬h<0)(b:¬h>Ŋ.max)(c:h=0):xB pt p h=pure (ħ .empty):=by cases p<;>exact(if_neg a).trans<|(if_neg b).trans<|if_pos c
def aep(a:¬h<0)(b:¬h>Ŋ.max)(d:¬h=0):∃c,xB pt ë h=runtimePanic c:=⟨_,(if_neg a).trans<|(if_neg b).trans<|if_neg d⟩
end
def VB(pt:Á)(a:Ú)(c:¬h<0)(d:¬h>Ŋ.max)(e:¬h=0): xB pt (À a) h=(ju pt a h.toNat>>=λs=>eT a h.toNat>>=λ_=>pure<|ħ s):=by refine((if_neg c).trans<|(if_neg d).trans<|if_neg e).trans ?_;unfold ju;show _=ç (ç _ _) _;rw[ř];congr 1;funext et;show ç _ _=ç (ç _ _) _;rw[ř];congr 1;funext b;cases b<;>rfl
def aer(pt:Á)(p:Option Ú)(n:Int):fy P (xB pt p n):=by cases p<;>show fy P (if n<0 then _ else _)<;>repeat' (first|(with_reducible first|exact Vv _ _ _|exact Vy _ _ _|exact aem _ _|exact gA _|exact Ia _|exact vv _|refine gf ?_ (λ_=> ?_)|refine mG _ ?_)|split|rfl)
theorem aes(_hW:ja Y d u w):∀(n:Nat) {a i:Ú} {j s:ByteArray},gT Y a i->a.spot=ë->(ĕ a j n).run P u=ĥ s W->∀c e f,u.heap[a.block]?=À (Č c e f)->a.off<=c.size->a.off+n<=c.size:=by
 intro n
 induction n with
 |zero=>intro a i j s _ _ _ c e f _ r;exact r
 |succ n t=>
  intro a i j s h p b c e f l _;unfold ĕ at b;rw[Ä]at b;simp only[aW,ã]at b;cases o:u.cell? a with
  |none=>
   rw[o]at b;simp only[ŋ,l]at b;cases b
  |some v=>
   rw[o]at b;simp only[È]at b;have q:=o;rw[zx l,p]at q;have y:=(Ë.1<|by simpa using q).1;cases v<;>first|(cases b;done)|skip
   rename_i k m;cases k<;>first|(cases b;done)|skip
   have g:a.add 1={a with off:=a.off+1}:=by unfold Addr.add;grind
   have x:=h.C 1;have:=t x (by rwa[g]) b c e f (by rwa[g]) (by rw[g];simp only;omega);rw[g]at this;simp only at this;omega
end
section
variable{Y:fj}{g:Nat->Prop}{r:à->Prop}{α:Type}
def M0(pt a t:Á)(p:Option Ú)(y:Â):ê #[pt,a] t #[Þ p,y]=(dz y>>=λn=>xB pt p n):=by cases p<;>rfl
def VC:∀(n:Nat) {a:Ú} {f s:ByteArray} {u c:Æ},(ĕ a f n).run P u=ĥ s c->c=u
 |0,_,_,_,_,_,h=>by cases h;rfl
 |n+1,a,f,s,u,c,h=>by
  unfold ĕ at h;rw[Ä]at h;have g:∀v b,(aW a).run P u=ĥ v b->b=u:=by
   intro v b e;simp only[aW,ã]at e;split at e
   .cases e;rfl
   .split at e<;>cases e;rfl
  cases d:(aW a).run P u with
  |halt z w=>rw[d]at h;cases h
  |ok v b=>
   have:=g v b d;subst this;rw[d]at h;simp only[È]at h;cases v<;>first|(cases h;done)|skip
   rename_i k m;cases k<;>first|(cases h;done)|exact VC n h
def aeu{pt:Á}(c:(ju pt a n).run P u=ĥ B w):w=u/\(ĕ a .empty n).run P u=ĥ B u:=by
 unfold ju at c;rw[Ä]at c;cases e:(Ū pt).run P u with
 |halt z x=>rw[e]at c;cases c
 |ok z x=>
  have f:x=u:=by
   unfold Ū at e;rw[Ä]at e;unfold ø at e;rw[Ä,ă]at e;simp only[È]at e;cases b:P.underlying pt with
   |none=>rw[b]at e;cases e
   |some d=>
    rw[b]at e;cases d<;>cases e<;>rfl
  subst f;rw[e]at c;simp only[È]at c;rw[Ä]at c;have d:∃b,(Ą a z n).run P x=ĥ b x:=by unfold Ą;rw[Ä,ă];simp only[È];rw[Ä];simp only[cm,ã,È];split<;>exact⟨_,U⟩
  let⟨b,d⟩:=d;rw[d]at c;simp only[È]at c;split at c
  .have:=VC n c;subst this;exact⟨U,c⟩
  .cases c
def Iw(P:Õ)(t:Á):Bool:=match P.underlying t with
 |some (ð e)=>(match P.underlying e with|some (Β _)=>É|_=>Ã)
 |_=>Ã
theorem aev{P:Õ}{pt:Á}(h:Iw P pt=É):∀u b c,(Ū pt).run P u=ĥ b c->∃k,P.underlying b=À (Β k):=by
 intro u b c a;unfold Ū ø at a;rw[Ä,Ä,ă]at a;simp only[È]at a;unfold Iw at h;split at h
 .rename_i e d;rw[d]at a;cases a;grind
 .cases h
def aew[zu P]{y:Ö}{pt:Á}(W:o.op=Ω {callee:=ĝ cU,args:=#[qQ,y],argTypes:=#[pt,T]})(hpt:Iw P pt=É)(VD:∀z∈o.op.operands,lU X z):mh P X r o:=by
 have he:∀M:Ö->Â,ì M o=(ê #[pt,T] o.type #[M qQ,M y]>>=λv=>pure<|ï v):=by intro M;unfold ì;rw[W];simp only[ù,č,Ē,pure_bind,Ø,â,ä]
 have N:∀v w:Â,fy P (ê #[pt,T] o.type #[v,w]):=by
  intro v w;cases v<;>first|exact iX _|skip
  rw[M0];exact gf (EU _) λn=>aer _ _ _
 have hk:∀(a:bE) (u:Æ) (n:Ο) (C:Æ),(ì a.eval o).run P u=ĥ n C->∃v,n=ï v:=by
  intro a u n C b;rw[he,Ä]at b;cases O:(ê #[pt,T] o.type #[a.eval qQ,a.eval y]).run P u with
  |ok v w=>rw[O]at b;cases b;exact⟨v,U⟩
  |halt z w=>rw[O]at b;cases b
 refine⟨?_,λa=>by rw[he];exact lq<|N _ _,λa u n C b=>Ç<|hk a u n C b,λa u f c C b=>by let⟨v,e⟩:=hk a u _ C b;cases e⟩;intro Y g t t' u w hz hb hG ht J hl z C b hc;have hx:=vF hG ht (VD qQ<|by rw[W];simp[Ê,ô]);have Q:=vF hG ht (VD y<|by rw[W];simp[Ê,ô]);rw[he]at b|-;generalize å ⟨t,[]⟩ qQ=v at hx b;generalize å ⟨t',[]⟩ qQ=v' at hx|-;generalize å ⟨t,[]⟩ y=l at Q b;generalize å ⟨t',[]⟩ y=l' at Q|-;have E:fC P fg Y (ê #[pt,T] o.type #[v,l]) (ê #[pt,T] o.type #[v',l'])->∃(K:fj) (x':Ο) (w':Æ) (S:Array ý),Y.r K/\(∀i j,K i j->Y i j\/(u.heap.size<=i/\w.heap.size<=j))/\(ê #[pt,T] o.type #[v',l']>>=λv=>pure (ï v):ē Ο).runT P w #[]=(ĥ x' w',#[]++S)/\oA K z x'/\ja K g C w'/\mY Y g w w'/\(∀e∈S,zw K g e)/\u.heap.size<=C.heap.size:= λh=>(mg h).gd J hl b #[];cases hx with
 |lk=>
  apply E;rw[M0,M0];apply fB (Me Q);rintro VE n _ _ rfl;by_cases B:n<0
  .let⟨c,k,q⟩:=Vz (pt:=pt) (p:=ë) B;rw[q];exact .nV (vp<|qu _)
  .by_cases d:n>Ŋ.max
   .let⟨c,q⟩:=VA (pt:=pt) (p:=ë) B d;rw[q];exact .fK
   .by_cases D:n=0
    .rw[MZ B d D];exact .fx (.kD _)
    .let⟨c,q⟩:=aep (pt:=pt) B d D;rw[q];apply H2
 |jF F=>
  rename_i a a';cases Q with
  |iC k n=>
   by_cases B:n<0
   .apply E;let⟨c,k,q⟩:=Vz (pt:=pt) (p:=À a) B;rw[xC,xC,q];exact .nV (vp<|qu _)
   .by_cases d:n>Ŋ.max
    .apply E;let⟨c,q⟩:=VA (pt:=pt) (p:=À a) B d;rw[xC,xC,q];exact .fK
    .by_cases D:n=0
     .apply E;rw[xC,xC,MZ B d D,MZ B d D];exact .fx (.kD _)
     .rw[xC,VB pt a B d D]at b;rw[xC,VB pt a' B d D];obtain⟨m,O⟩:∃m,n.toNat=m+1:=⟨n.toNat-1,Z⟩;rw[O]at b|-;cases L:(ju pt a<|m+1).run P u with
      |halt z w=>
       rw[Ä,Ä,L]at b;cases b
      |ok s u1=>
       obtain⟨rfl,VF⟩:=aeu L;rw[Ä,Ä,L]at b;have zL:=b;cases zL;let⟨VE,s',w1,es,k1,k2,k3,k4,k5,G,k7,k8⟩:=(aen pt F<|m+1).gd J hl L #[];have S:=k4;subst S;let⟨c,c',e,fr,vq,V,hw,rF,_⟩:=J.r _ _ F.1;have VG:a.spot=ë/\a.off<c.size:=by
        have H:=VF;unfold ĕ at H;rw[Ä]at H;simp only[aW,ã]at H;cases I:u1.cell? a with
        |none=>
         rw[I]at H;simp only[ŋ,V]at H;cases H
        |some v=>
         rw[zx V]at I;cases nZ:a.spot with
         |some qQ=>rw[nZ]at I;cases I
         |none=>rw[nZ]at I;exact⟨U,(Ë.1<|by simpa using I).1⟩
       have fits:∀c e fr,u1.heap[a.block]?=À (Č c e fr)->a.off+(m+1)<=c.size:=by intro c2 e2 pR d;rw[V]at d;injection d with d;injection d with q1 q2 q3;subst q1;exact aes J (m+1) F VG.1 VF c e fr V<|Nat.le_of_lt VG.2
       refine⟨VE,ï<|ħ s,w1.freeze a'<|m+1,es,k1,k2,?_,.na (.kD s),k5.abu (F.r k1) (m+1) fits,?_,k7,by rw[HT];exact ß _⟩
       .show é P (ç (ç _ _) _) w #[]=_;rw[Ñ,Ñ,k3];rfl
       .refine⟨by rw[HT];exact G.r,abp.trans G.I,abq.trans G.M,L9.trans G.S,λj hj N=> ?_,λj hs hj=> ?_⟩
        .rw[HU (λe=>N a.block<|by rw[<-e];exact F.1)];exact G.C j hj N
        .rw[HU (λe=>(aeo J F (aev hpt) L)<|by rwa[e])];exact G.N j hs hj
  |_=>exact E .fK
 |_=>exact E .fK
end
section
variable{Y:fj}{g:Nat->Prop}{i:à->Prop}{α:Type}
theorem aex(a:Ú):fy P (bl a):=by unfold bl;grind [gA,sG,Mz,gf]
theorem aey(a b:Ú):fy P (cI a b):=by unfold cI;grind [aex,gA,sG,gf]
def aez(a b:Ú):fy P (Ŭ a b):=by unfold Ŭ;repeat' (first|(with_reducible first|exact aey _ _|exact gA _|exact rC _|exact Mz _|exact Uy _|refine gf ?_ (λ_=> ?_)|refine mG _ ?_)|split|rfl)
def VH(h:P.underlying t=À (ð e))(x y:Â):fy P (ó t x y):=by unfold ó ā Λ;refine vw h ?_;repeat' (first|(with_reducible first|exact aez _ _|exact gA _|exact iX _|exact rC _|exact sI _|refine gf ?_ λ_=> ?_)|contradiction|split)
def aeA{a:ġ}(b:a=az\/a=aK)(h:P.underlying t=À (ð e))(x y:Â):fy P (Ũ a t x y):=by
 have c:=VH h x y;rcases b with rfl|rfl;all_goals
  unfold Ũ;repeat' (first|(with_reducible first|exact VH h _ _|exact gA _|exact iX _|exact ME _ _ _ _|exact US _ _ _ _ _ _|exact UT _ _ _|exact MJ _ _ _|refine gf ?_ λ_=> ?_)|contradiction|split)
def xD(u:Æ)(r:Nat):Prop:=∃c e a,u.heap[r]?=À (Č c e a)/\a.2<=c.size
def Ix(a:Ú)(u:Æ)(b:Array ý):(eL a).runT P u b=(ĥ (u.frozen? a) u,b):=rfl
def Iy{r:Nat}(h:u.heap[r]?=À (Č d e xJ))(a:Array ý):(cm r).runT P u a=(ĥ (À (e,d.size)) u,a):=by simp only[cm,é,Θ,h]
def VI(h:xD u a.block)(b:Array ý):(bl a).runT P u b=(ĥ (u.frozen? a) u,b):=by
 let⟨c,e,f,d,g⟩:=h;unfold bl;show é P (ç _ _) u b=_;rw[Ñ,Ix];cases i:u.frozen? a with
 |true=>rfl
 |false=>
  simp only[Å,if_false];show é P (ç _ _) u b=_;rw[Ñ,Iy d];simp only[];rw[Ix];have:u.frozen? {block:=a.block,off:=c.size}=Ã:=by simp only[Ĉ,d];simp;omega
  rw[this]
def VJ(f:u.heap[a.block]?=À (Č d e xJ))(g:xJ.2<=d.size)(b:u.frozen? a=É):d.size≠0:=by simp only[Ĉ,f]at b;simp at b;omega
def aeB(i:xD u a.block)(j:xD u p.block)(k:(u.frozen? a&&u.frozen? p)=Ã)(g:Array ý):(cI a p).runT P u g=(ĥ Ã u,g):=by
 have q:=i;have r:=j;let⟨c,e,w,l,s⟩:=q;let⟨d,f,x,m,t⟩:=r;unfold cI;show é P (ç _ _) u g=_;rw[Ñ,VI i];simp only[];show é P (ç _ _) u g=_;rw[Ñ,VI j];simp only[];show é P (ç (ç _ _) _) u g=_;rw[Ñ,Ñ,Iy l];simp only[];show é P (ç (ç _ _) _) u g=_;rw[Ñ,Ñ,Iy m];simp only[];congr 2;cases o:u.frozen? a with
 |true=>
  rw[o]at k;have h:u.frozen? p=Ã:=by simpa using k
  have:=VJ l s o;simp only[h];cases v:c.size with
  |zero=>exact absurd v this
  |succ n=>rfl
 |false=>
  cases h:u.frozen? p with
  |true=>
   have:=VJ m t h;cases v:d.size with
   |zero=>exact absurd v this
   |succ n=>rfl
  |false=>rfl
def VK(h:xD u a.block)(b:Array ý):(aX a).runT P u b=(ĥ () u,b):=by let⟨c,e,f,d,g⟩:=h;unfold aX dh;show é P (ç (ç _ _) _) u b=_;rw[Ñ,Ñ,Iy d];rfl
def VL(e:xD u a.block)(f:xD u p.block)(c:Array ý):(Ŭ a p).runT P u c= if(a.block==p.block)=É then(ĥ (a==p) u,c)else if(u.frozen? a&&u.frozen? p)=É then(bU (ŀ .addressObserved) u,c)else(ĥ Ã u,c):=by
 unfold Ŭ;by_cases h:(a.block==p.block)=É
 .simp_all
 .rw[if_neg h,if_neg h];show é P (ç _ _) u c=_;rw[Ñ,Ix];simp only[];show é P (ç _ _) u c=_;rw[Ñ,Ix];simp only[];by_cases d:(u.frozen? a&&u.frozen? p)=É
  .simp_all
  .rw[if_neg d,if_neg d];show é P (ç _ _) u c=_;rw[Ñ,VK e];simp only[];show é P (ç _ _) u c=_;rw[Ñ,VK f];simp only[];show é P (ç _ _) u c=_;rw[Ñ,aeB e f (by simpa using d)];rfl
end
section
variable{Y:fj}{g:Nat->Prop}{j:à->Prop}
def aeC{d:dE}(h:P.underlying t=À d)(u:Æ)(a:Array ý):(ø t).runT P u a=(ĥ d u,a):=by unfold ø;simp_all
theorem aeD(h:P.info? t=À zJ)(u:Æ)(a:Array ý):(ax t).runT P u a=(ĥ zJ.size u,a):=by
 unfold ax;show é P (ç _ _) u a=_;rw[Ñ];have:(Δ t).runT P u a=(ĥ zJ u,a):=by unfold Δ;simp_all
 rw[this];rfl
theorem VM(h:P.underlying t=À (ð e))(d:P.info? e=À zJ)(f:zJ.size≠0)(a b:Ú)(u:Æ)(c:Array ý):(ó t (Þ<|À a)<|Þ<|À b).runT P u c=(Ŭ a b).runT P u c:=by unfold ó ā Λ;show é P (ç _ _) u c=_;rw[Ñ,aeC h];simp only[];show é P (ç _ _) u c=_;grind [Ñ,aeD]
def ie(a:ġ)(r:Bool):Bool:=if a=az then r else !r
def VN{d:ġ}(k:d=az\/d=aK)(h:P.underlying t=À (ð e))(g:P.info? e=À zJ)(j:zJ.size≠0)(x y:Ö)(a b:Ú)(u:Æ)(c:Array ý): ((ŷ d t x y (Þ<|À a) (Þ<|À b)>>=λ_=>Ũ d t (Þ<|À a)<|Þ<|À b)>>=λv=>pure (ï v):ē Ο).runT P u c= match(Ŭ a b).runT P u c with
 |(ĥ r u',f)=>(ĥ (ï<|Ľ<|ie d r) u',f)
 |(bU z u',f)=>(bU z u',f):=by
 rcases k with rfl|rfl
 .show é P (ç (ç (ó t (Þ<|À a)<|Þ<|À b) λr=>aH<|Ľ r) λv=>aH<|ï v) u c=_;rw[Ñ,Ñ,VM h g j];cases(Ŭ a b).runT P u c with
  |mk r f=>cases r<;>rfl
 .show é P (ç (ç (ó t (Þ<|À a)<|Þ<|À b) λr=>aH<|Ľ !r) λv=>aH<|ï v) u c=_;rw[Ñ,Ñ,VM h g j];cases(Ŭ a b).runT P u c with
  |mk r f=>cases r<;>rfl
theorem aeE{m:ġ}{r:Á}{y:Ö}(E:o.op=dR m t qQ y r)(H:m=az\/m=aK)(h:P.underlying t=À (ð e))(T:P.info? e=À zJ)(V:zJ.size≠0)(I:∀z∈o.op.operands,lU X z):mh P X j o:=by
 have J:∀B:Ö->Â,ì B o=((ŷ m t qQ y (B qQ) (B y)>>=λ_=>Ũ m t (B qQ)<|B y)>>=λv=>pure<|ï v):=by intro B;unfold ì;rw[E]
 have W:∀(a:bE) (u:Æ) (n:Ο) (s:Æ),(ì a.eval o).run P u=ĥ n s->∃v,n=ï v:=by
  intro a u n s k;rw[J,Ä]at k;cases C:(ŷ m t qQ y (a.eval qQ) (a.eval y)>>=λ_=>Ũ m t (a.eval qQ)<|a.eval y).run P u with
  |ok v w=>rw[C]at k;cases k;exact⟨v,U⟩
  |halt z w=>rw[C]at k;cases k
 refine⟨?_,λa=> ?_,λa u n s k=>Ç<|W a u n s k,λa u f c s k=>by let⟨v,e⟩:=W a u _ s k;cases e⟩
 .intro Y g D VO u w K hb L M p hl z s k hc;have N:=vF L M (I qQ<|by rw[E];simp[Ê]);have O:=vF L M (I y<|by rw[E];simp[Ê]);by_cases Q:mF (å ⟨D,[]⟩ qQ)\/mF (å ⟨D,[]⟩ y)
  .have hOk:jV P (å ⟨D,[]⟩) o.op:=by
    rw[E];exact .B7 m t qQ y r λ_=>Î ⟨⟨e,h⟩,Q⟩
   exact(Ua K p.C hb (λf=>rfl) hOk λz K=>vF L M<|I z K).gd p hl k hc #[]
  .have n1:=λq=>Q<|Ç q;have n2:=λq=>Q<|Î q;rw[J]at k|-;generalize å ⟨D,[]⟩ qQ=v at N k n1;generalize å ⟨VO,[]⟩ qQ=v' at N|-;generalize å ⟨D,[]⟩ y=l at O k n2;generalize å ⟨VO,[]⟩ y=l' at O|-;cases N<;>first|exact absurd trivial n1|skip
   cases O<;>first|exact absurd trivial n2|skip
   rename_i a a' F b b' G;have fit:∀{c S:Ú},gT Y c S->xD u c.block/\xD w S.block:=by intro c S hcc;let⟨d,d',e2,fr,vq,hu,hw,rF,o5,E3,hfr⟩:=p.r _ _ hcc.1;refine⟨⟨d,e2,fr,hu,hfr⟩,d',e2,vq,hw,?_⟩;refine õ ?_ rF.I;grind
   let⟨fa,fa'⟩:=fit F;let⟨fb,fb'⟩:=fit G;rw[<-Ρ P _ u #[],VN H h T V,VL fa fb]at k;rw[VN H h T V,VL fa' fb'];rw[<-(H4 p.C F G),<-(TU p.C F G)];by_cases q:(a.block==b.block)=É
   .rw[if_pos q]at k|-;cases k;exact⟨Y,_,w,#[],fj.M _,λ_ _ q=>Ç q,U,.na (.lT _),p,mY.fQ _ _ _,λ_ C=>absurd C fh,ß _⟩
   .rw[if_neg q]at k|-;by_cases q2:(u.frozen? a&&u.frozen? b)=É
    .grind
    .rw[if_neg q2]at k;have q3:¬(w.frozen? a'&&w.frozen? b')=É:=by
      intro q4;let⟨z1,z2⟩:=Ü.1 q4;exact q2<|Ü.2 ⟨p.G F z1,p.G G z2⟩
     rw[if_neg q3];cases k;exact⟨Y,_,w,#[],fj.M _,λ_ _ q=>Ç q,U,.na (.lT _),p,mY.fQ _ _ _,λ_ C=>absurd C fh,ß _⟩
 .rw[J];exact lq<|gf (UY m t (λ_=>Î ⟨e,h⟩) qQ y _ _) λ_=>aeA H h _ _
end
def M1(P:Õ)(s d:Á):Bool:=match P.underlying s,P.underlying d with
 |some (df e),À ę=>(match P.underlying e with|some (Β .u8)=>É|_=>Ã)
 |some (ð _),À đ=>É
 |some đ,À (ð _)=>É
 |_,_=>Ã
def M3(P:Õ)(t:Á):Bool:=match P.underlying t with
 |some (ð e)=>(match P.info? e with|some i=>i.size !=0|none=>Ã)
 |_=>Ã
def M4(P:Õ)(b:à->Bool)(c:Callee)(a:List Ö)(d:List Á):Bool:=match c with
 |ĝ .min=>a.length !=0
 |ĝ bk=>a.length==1
 |ĝ cU=>a.length==2&&(match d with|[t,_]=>Iw P t|_=>Ã)
 |cg (aN f)=>b f&&a.length==1
 |_=>Ã
def M5(P:Õ)(a:à->Bool):Op->Bool
 |cH _ _|.panic _=>É
 |dR c t _ _ _=>(c==az||c==aK)&&M3 P t
 |aL s d _=>M1 P s d
 |Ω c=>M4 P a c.callee c.args.toList c.argTypes.toList
 |_=>Ã
def Cf(P:Õ)(a:Nat->Bool)(b c:à->Bool)(o:au):Bool:=MY P a b o||(M5 P c o.op&&o.op.operands.all (vH a))
def E4(P:Õ)(c:à->Bool):Prop:=∀f,c f=É->∃a e,P.funcs[f]?=À a/\(a.name== "runtime.NumGoroutine")=Ã/\a.body.isNone=É/\Extern.findNext a=ë/\Extern.find a=À e/\
 (∀(Y:fj) (v b:Â),fg Y v b->fC P fg Y (e #[v]) (e #[b]))/\∀v,fy P<|e #[v]
theorem Iz[zu P]{g:Nat->Bool}{k x:à->Bool}(C:E4 P x)(h:Cf P g k x o=É):mh P (λj=>g j=É) (λf=>k f=É) o:=by
 rcases Ŝ.1 h with h|h
 .exact adR h
 .let⟨v,S⟩:=Ü.1 h;have q:∀z∈o.op.operands,lU (λj=>g j=É) z:=by
   grind [ŉ,It,Ń]
  cases n:o.op with
  |makeInterface t y=>exact adS n q
  |panic y=>exact adV n q
  |binOp w t a b r=>
   rw[n]at v;let⟨T,m⟩:=Ü.1 (show((w==az||w==aK)&&M3 P t)=É from v);have D:w=az\/w=aK:=by grind
   unfold M3 at m;split at m
   .rename_i e E;split at m
    .rename_i i F;exact aeE n D E F (by simpa using m) q
    .cases m
   .cases m
  |convert s d y=>
   rw[n]at v;have m:M1 P s d=É:=v;unfold M1 at m;split at m
   .rename_i e u p;split at m
    .rename_i G;exact ad6 n u p G q
    .cases m
   .rename_i t u p;exact Vw n (Ç ⟨u,p⟩) q
   .rename_i t u p;exact Vw n (Î ⟨u,p⟩) q
   .cases m
  |call c=>
   rw[n]at v;let⟨H,I,B⟩:=c;have m:M4 P x H I.toList B.toList=É:=v;unfold M4 at m;split at m
   .exact ad2 n q
   .obtain⟨y,rfl⟩:=Iv m;exact aee n q
   .let⟨u,p⟩:=Ü.1 m;obtain⟨y,z,rfl⟩:=MX u;let⟨l⟩:=B;match l,p with
    |[t1,t2],p=>exact aew n p q
   .rename_i f;let⟨u,p⟩:=Ü.1 m;obtain⟨y,rfl⟩:=Iv p;let⟨V,e,J,K,L,M,N,O,Q⟩:=C f u;exact ad7 n J K L M N O Q q
   .cases m
  |_=>rw[n]at v;simp[M5]at v
def nh(P:Õ)(a:Nat->Bool)(b d:à->Bool):aj->Bool
 |.ret|eM|dX _|eO _|eP _=>É
 |.seq x y=>nh P a b d x&&nh P a b d y
 |bx c x y=>vH a c&&nh P a b d x&&nh P a b d y
 |dY _ c|eN c|dZ c=>nh P a b d c
 |bP _ c _=>c.all<|Cf P a b d
 |dq _=>É
 |_=>Ã
def uH[zu P]{g:Nat->Bool}{k x:à->Bool}(a:E4 P x):∀{c:aj},nh P g k x c=É->kz P (λj=>g j=É) (λf=>k f=É) c
 |.ret,_=> .uC
 |eM,_=> .rA
 |dX l,_=> .vx l
 |eO l,_=> .vB l
 |eP l,_=> .vC l
 |.seq y z,h=>by let⟨f,i⟩:=Ü.1 (show(nh P g k x y&&nh P g k x z)=É from h);exact .qy (uH a f) (uH a i)
 |bx c y z,h=>by let⟨f,i⟩:=Ü.1 (show(vH g c&&nh P g k x y&&nh P g k x z)=É from h);let⟨j,f⟩:=Ü.1 f;exact .sJ (It j) (uH a f) (uH a i)
 |dY id c,h=> .qz id (uH a<|show nh P g k x c=É from h)
 |eN c,h=> .vy (uH a<|show nh P g k x c=É from h)
 |dZ c,h=> .vA (uH a<|show nh P g k x c=É from h)
 |bP id ops d,h=> .sK id d λo f=>by obtain⟨i,j,rfl⟩:=ŉ.1 f;exact Iz a<|Ń.1 (show ops.all (Cf P g k x)=É from h) i j
 |.rangeFunc _ _ _ _,h=>by simp[nh]at h
 |dq w,_=> .oC w
end Go.Proofs.Y.Lift
namespace Go.Proofs.Y.fw
open Go Go.Conc Go.Proofs.Y.Lift
def pS(t:ğ)(g:Nat)(l:dP):Prop:=∀p a,Ě t p=À a->a.loc=l->bC t g p
def oF(t:ğ)(g:Nat)(l:dP):Prop:=∀p a,Ě t p=À a->a.loc=l->a.write=É->bC t g p
def pS.r{t:ğ}{l:dP}(h:pS t i l):oF t i l:=λp a b c _=>h p a b c
section
variable{t u:ğ}{g:Nat}{l:dP}
theorem mo{a:dK}(h:Ě (t++u) i=À a):(i<t.size/\Ě t i=À a)\/(t.size<=i/\∃x∈u,x.act.touch?=À a/\(t++u)[i]?=À x):=by
 let⟨x,c,d⟩:=dL h;rcases getElem?_append_cases c with⟨b,e⟩|⟨b,f⟩
 .exact Ç ⟨b,by rwa[touchAt_of e]⟩
 .grind
theorem pS.C(h:pS t g l)(j:∀c∈u,∀b,c.act.touch?=À b->b.loc=l->c.g=g):pS (t++u) g l:=by
 intro p a e f;rcases mo e with⟨_,d⟩|⟨_,c,d,k,i⟩
 .exact(h p a d f).app u
 .have:=bm i;grind
theorem oF.r(h:oF t g l)(k:∀c∈u,∀b,c.act.touch?=À b->b.loc=l->b.write=É->c.g=g):oF (t++u) g l:=by
 intro p a e f i;rcases mo e with⟨_,d⟩|⟨_,c,d,m,j⟩
 .exact(h p a d f i).app u
 .have:=bm j;grind
def pS.xq(h:∀p a,Ě t p=À a->a.loc≠l):pS t g l:=λp a b c=>absurd c<|h p a b
theorem M6(h:∀c,¬eC c t)(l:∀d∈u,d.g=g)(m:∀d∈u,∀b,d.act.touch?=À b->(b.write=Ã/\oF t g b.loc)\/pS t g b.loc\/(b.kind=Ŕ/\∀p a,Ě t p=À a->a.loc=b.loc->a.kind=eV->bC t g p)):∀c,¬eC c (t++u):=by
 intro c;refine noRace_append (h c) l λi a f d n b o r=> ?_;let⟨j,v,e,w⟩:=r;rcases m d n b o with⟨s,k⟩|q|⟨s,k⟩
 .rcases e with e|e
  .exact k i a f j e
  .grind
 .exact q i a f j
 .grind
theorem zM(f:∀c,¬eC c t)(r:∀d∈u,d.act.touch?=ë):∀c,¬eC c (t++u):=by
 intro c;rintro⟨i,j,g,⟨a,b,h,k,l⟩,m,n⟩;rcases mo k with⟨s,e⟩|⟨_,d,e,v,_⟩
 .rcases mo h with⟨o,p⟩|⟨o,_⟩
  .exact f c ⟨i,j,g,⟨a,b,p,e,l⟩,λq=>m<|ec u q,λq=>n<|ec u q⟩
  .omega
 .grind
end
structure e7 where
 O:Nat->Prop
 I:Nat->Prop
 r:Ú->Prop
 N:Ú->Prop
 K:Ú->Prop
 d:Nat
 q:Prop
 w:Æ
def e7.M(l:e7):Nat->Prop:=λj=>l.O j\/l.I j
def e7.C(l:e7):Ú->Prop:=λa=>l.r a\/l.N a
structure fE(l:e7)(w w₁:Æ):Prop where
 r:w.heap.size<=w₁.heap.size
 I:∀j,l.M j->w₁.heap[j]?=w.heap[j]?
 N:∀a,l.C a->w₁.cell? a=w.cell? a
 Y:∀a,l.C a->w₁.frozen? a=w.frozen? a
 S:∀a,l.K a->(w.cell? a).isSome=É->(w₁.cell? a).isSome=É
theorem fE.fQ(l:e7)(w:Æ):fE l w w:=⟨ß _,λ_ _=>rfl,λ_ _=>rfl,λ_ _=>rfl,λ_ _ h=>h⟩
def fE.fc{l:e7}{c:Æ}(h:fE l w u)(k:fE l u c):fE l w c:= ⟨õ h.r k.r,λj d=>(k.I j d).trans<|h.I j d,λj d=>(k.N j d).trans<|h.N j d,λj d=>(k.Y j d).trans<|h.Y j d,λw e q=>k.S w e<|h.S w e q⟩
def kE(w:Æ)(b:Nat):Option (Nat×Nat):=match w.heap[b]? with
 |some (Č _ _ fr)=>À fr
 |_=>ë
def vI{w':Æ}(h:w'.heap[b]?=w.heap[b]?):kE w' b=kE w b:=by unfold kE;rw[h]
theorem VP(w:Æ)(a:Ú):w.frozen? a=match kE w a.block with
 |some (lo,hi)=>decide (lo<=a.off)&&decide (a.off<hi)
 |none=>Ã:=by
 unfold Ĉ kE;grind
def IA(h:kE u a.block=kE w a.block):u.frozen? a=w.frozen? a:=by rw[VP,VP,h]
def xE(l:e7)(e:ý):Prop:=
 (∃a:Ú,e.loc=û a/\(l.O a.block\/l.r a\/((l.I a.block\/l.N a)/\e.write=Ã/\e.sync=Ã)))\/e.loc=ů c9\/(∃f,e.loc=ů (.extern f))\/e.loc=ů cJ\/e.loc=ů dw\/
 ∃a:Ú,l.O a.block/\(e.loc=ů (.read a)\/e.loc=ů (.write a)\/e.loc=ů (Ķ a)\/e.loc=ů (cK a))
structure lV(l l':e7)(w w':Æ)(es:Array ý):Prop where
 C:w.heap.size<=w'.heap.size
 S:∀j,l'.O j->l.O j\/w.heap.size<=j
 fq:∀j,l'.O j->j<w'.heap.size
 I:l'.I=l.I
 r:l'.r=l.r
 M:l'.N=l.N
 k:l'.K=l.K
 jH:∀j,j<w.heap.size->¬l.O j->(∀a:Ú,a.block=j->¬l.r a)->w'.heap[j]?=w.heap[j]?
 N:∀a:Ú,a.block<w.heap.size->¬l.O a.block->¬l.r a->w'.cell? a=w.cell? a
 Y:∀a:Ú,a.block<w.heap.size->¬l.O a.block->kE w' a.block=kE w a.block
 f:w'.os=w.os
 g:w'.output=w.output
 m:w'.tape=w.tape
 c:∀e∈es,xE l' e
 h:l'.d=ŭ l.d es
 q:l'.q=l.q
 i:l.q->w'=w/\(∀e∈es,e.mute=É)/\l'.O=l.O
 b:l'.w=w'
structure M7(t:ğ)(g:Nat)(l:e7):Prop where
 fi:∀a:Ú,l.O a.block->pS t g (û a)
 C:∀a:Ú,l.I a.block->oF t g (û a)
 I:∀a:Ú,l.r a->pS t g (û a)
 r:∀a:Ú,l.N a->oF t g (û a)
theorem VQ{l:e7}{e:ý}(h:xE l e){b:dK}(c:(è e).touch?=À b):∃a:Ú,b.loc=û a/\(l.O a.block\/l.r a\/((l.I a.block\/l.N a)/\b.write=Ã)):=by
 let⟨k,i,j⟩:=e;rcases h with⟨a,g,d⟩|h|⟨f,h⟩|h|h|⟨a,g,d⟩
 .simp only at g d;subst g;have:(è ⟨û a,i,j⟩).touch?=À ⟨û a,i,if j then Ŕ else eV⟩:=U;grind
 .simp only at h;subst h;simp[è,ÿ]at c
 .simp only at h;subst h;simp[è,ÿ]at c
 .simp only at h;subst h;simp[è,ÿ]at c
 .simp only at h;subst h;simp[è,ÿ]at c
 .simp only at d;rcases d with rfl|rfl|rfl|rfl<;>simp[è,ÿ]at c<;>subst c;all_goals grind
def aeF{l:e7}(d:∀j,l.O j->j<i)(k:∀j,l.I j->j<i)(g:∀a:Ú,l.C a->a.block<i){e:ý}(h:xE l e):(è e).low i:=by
 let⟨m,n,o⟩:=e;rcases h with⟨a,c,b⟩|h|⟨f,h⟩|h|h|⟨a,c,b⟩
 .simp only at c b;subst c;rcases b with h|h|⟨h|h,_⟩
  .exact d _ h
  .exact g _<|Ç h
  .exact k _ h
  .exact g _<|Î h
 .simp only at h;subst h;trivial
 .simp only at h;subst h;trivial
 .simp only at h;subst h;trivial
 .simp only at h;subst h;trivial
 .simp only at b;rcases b with rfl|rfl|rfl|rfl<;>exact d _ c
def VR(B:Nat)(t:ğ):Prop:=∀a∈t,a.act.low B
def VS(h:VR i qJ){a:dK}(g:Ě qJ n=À a){x:Ú}(d:a.loc=û x):x.block<i:=by
 let⟨f,j,b⟩:=dL g;have c:=h f<|Û j;revert b c;cases f.act with
 |access e=>
  intro b c;simp only[ÿ,ž]at b;subst b;simp only at d;simp only[MemAct.low,d,Loc.low]at c;exact c
 |mark m=>
  intro b c;cases m<;>simp[ÿ]at b;all_goals
   subst b;simp only[Loc.cell.injEq]at d;subst d;exact c
 |_=>intro b _;simp[ÿ]at b
theorem nG{a:String}:∀op∈Í i F a V,op.g=i:=λop b=>by obtain⟨e,_,rfl⟩:=í (op:=op) b;rfl
structure iL(B0:Nat)(Live:Nat->Prop)(Y:Nat->Prop)(lot:Nat->e7)(w:Æ)(t:ğ):Prop where
 o:∀i j,Live i->Live j->i≠j->∀b,(lot i).O b->¬(lot j).M b
 h:∀i j,Live i->Live j->i≠j->∀a,(lot i).r a->¬(lot j).C a
 m:∀i,Live i->∀b,(lot i).O b->¬(lot i).I b
 g:∀i,Live i->∀a,(lot i).r a->¬(lot i).N a
 I:∀i,Live i->∀b,(lot i).M b->¬Y b
 e:∀i,Live i->∀a,(lot i).C a->Y a.block
 fq:∀i,Live i->∀b,(lot i).M b->b<w.heap.size
 N:∀b,Y b->b<w.heap.size
 r:∀i,Live i->fE (lot i) (lot i).w w
 S:∀i,Live i->M7 t i (lot i)
 f:∀i,Live i->Τ t i=(lot i).d
 l:∀said,¬eC said t
 q:VR w.heap.size t
 s:∀p a c,Ě t p=À a->a.loc=.obj c->a.kind=eV->c<B0
 n:∀i,Live i->∀a,(lot i).K a->Y a.block/\∀k,Live k->¬(lot k).r a
def gi(lot:Nat->e7)(i:Nat)(l:e7):Nat->e7:=λk=>if k=i then l else lot k
theorem gO(a:Nat->e7)(i:Nat)(l:e7):gi a i l i=l:=if_pos U
theorem gB(a:Nat->e7)(l:e7)(h:k≠i):gi a i l k=a k:=if_neg h
section
variable{B0:Nat}{Live Y:Nat->Prop}{lot:Nat->e7}{w':Æ}{t u:ğ}
def M8{g:Nat}(a:k≠g)(t:ğ){u:ğ}(b:∀c∈u,c.g=g):Τ (t++u) k=Τ t k:= Deaf_other t (g:=k) (g':=g) (ą a) _ b
def iL.at(h:iL B0 Live Y lot w t)(d:Nat):iL B0 Live Y lot (w.at d) t:= ⟨h.o,h.h,h.m,h.g,h.I,h.e,h.fq,h.N,λi a=>⟨(h.r i a).r,(h.r i a).I,(h.r i a).N,(h.r i a).Y,(h.r i a).S⟩,h.S,h.f,h.l,h.q,h.s,h.n⟩
def iL.aeG(h:iL B0 Live Y lot w t)(r:Live i){s:e7}(l:lV (lot i) s w w' V)(E:à)(F:String): iL B0 Live Y (gi lot i s) w' (t++Í i E F V):=by
 have G:=l.S;have Q:∀b,s.M b->(lot i).M b\/w.heap.size<=b:=λb g=>g.elim (λq=>(G b q).imp Ç id) (λq=>Ç<|Î<|by rwa[<-l.I]);have J:∀a,s.C a↔(lot i).C a:=λa=>by unfold e7.C;rw[l.r,l.M]
 have I:=λk f a d=>h.N _<|h.e k f a d;have L:∀k,Live k->k≠i->∀b,(lot k).M b->¬s.O b:=by
  intro k f y b g c;rcases G b c with q|q
  .exact h.o i k r f (ą y) b q g
  .have:=h.fq k f b g;omega
 have H:∀m∈Í i E F V,∀b,m.act.touch?=À b->∃a:Ú,b.loc=û a/\(s.O a.block\/s.r a\/((s.I a.block\/s.N a)/\b.write=Ã)):=by intro m o b g;obtain⟨e,N,rfl⟩:=í o;exact VQ (l.c e N) g
 have T:∀a:Ú,s.O a.block->pS t i (û a):=by
  intro a d;rcases G _ d with q|q
  .exact(h.S i r).fi a q
  .exact .xq λp x P n=>by have:=VS h.q P n;omega
 have D:M7 t i s:=⟨T,λa d=>(h.S i r).C a (by rwa[<-l.I]),λa d=>(h.S i r).I a (by rwa[<-l.r]),λa d=>(h.S i r).r a<|by rwa[<-l.M]⟩;refine⟨?_,?_,?_,?_,?_,?_,?_,λb g=>Ô (h.N b g) l.C,?_,?_,?_,?_,?_,?_,?_⟩
 .intro k j f u y b g;by_cases c:k=i
  .subst c;rw[gO]at g;rw[gB lot _<|ą y];exact λq=>L j u (ą y) b q g
  .rw[gB lot _ c]at g;by_cases v:j=i
   .subst v;rw[gO];intro q;rcases Q b q with z|z
    .exact h.o k j f u y b g z
    .have:=h.fq k f b<|Ç g;omega
   .rw[gB lot _ v];exact h.o k j f u y b g
 .intro k j f u y a d;by_cases c:k=i
  .subst c;rw[gO,l.r]at d;rw[gB lot _<|ą y];exact h.h k j f u y a d
  .rw[gB lot _ c]at d;by_cases v:j=i
   .subst v;rw[gO,J];exact h.h k j f u y a d
   .rw[gB lot _ v];exact h.h k j f u y a d
 .intro k f b g;by_cases c:k=i
  .subst c;rw[gO]at g|-;rw[l.I];rcases G b g with z|z
   .exact h.m k f b z
   .intro q;have:=h.fq k f b<|Î q;omega
  .rw[gB lot _ c]at g|-;exact h.m k f b g
 .intro k f a d;by_cases c:k=i
  .subst c;rw[gO]at d|-;rw[l.M];rw[l.r]at d;exact h.g k f a d
  .rw[gB lot _ c]at d|-;exact h.g k f a d
 .intro k f b g;by_cases c:k=i
  .subst c;rw[gO]at g;rcases Q b g with z|z
   .exact h.I k f b z
   .intro y;have:=h.N b y;omega
  .rw[gB lot _ c]at g;exact h.I k f b g
 .intro k f a d;by_cases c:k=i
  .subst c;rw[gO,J]at d;exact h.e k f a d
  .rw[gB lot _ c]at d;exact h.e k f a d
 .intro k f b g;by_cases c:k=i
  .subst c;rw[gO]at g;exact g.elim (l.fq b) λq=>Ô (h.fq k f b<|Î<|by rwa[<-l.I]) l.C
  .rw[gB lot _ c]at g;exact Ô (h.fq k f b g) l.C
 .intro k f;by_cases c:k=i
  .subst c;rw[gO,l.b];exact fE.fQ _ _
  .rw[gB lot _ c];refine(h.r k f).fc ⟨l.C,λb g=>l.jH b (h.fq k f b g) (λq=>h.o i k r f (ą c) b q g) (λa d q=>h.I k f b g<|by rw[<-d];exact h.e i r a<|Ç q),λa d=>l.N a (I k f a d) (λq=>h.I i r _ (Ç q)<|h.e k f a d) λq=>h.h i k r f (ą c) a q d,λa d=>IA (l.Y a (I k f a d) λq=>h.I i r _ (Ç q)<|h.e k f a d),λa d q=> ?_⟩;let⟨y,v⟩:=h.n k f a d;rwa[l.N a (h.N _ y) (λq=>h.I i r _ (Ç q) y)<|v i r]
 .intro k f;by_cases c:k=i
  .subst c;rw[gO];exact⟨λa d=>(D.fi a d).C λm o _ _ _=>nG m o,λa d=>(D.C a d).r λm o _ _ _ _=>nG m o,λa d=>(D.I a d).C λm o _ _ _=>nG m o,λa d=>(D.r a d).r λm o _ _ _ _=>nG m o⟩
  .rw[gB lot _ c];have W:∀a:Ú,(lot k).O a.block->∀m∈Í i E F V,∀b,m.act.touch?=À b->b.loc=û a->False:=by
    intro a d m o b g n;let⟨x,y,v⟩:=H m o b g;rw[y]at n;injection n with n;subst n;rcases v with q|q|⟨q|q,_⟩
    .exact L k f c _ (Ç d) q
    .exact h.I k f _ (Ç d)<|h.e i r x<|Ç<|by rwa[<-l.r]
    .exact h.o k i f r c _ d<|Î<|by rwa[<-l.I]
    .exact h.I k f _ (Ç d)<|h.e i r x<|Î<|by rwa[<-l.M]
   have X:∀a:Ú,(lot k).I a.block->∀m∈Í i E F V,∀b,m.act.touch?=À b->b.loc=û a->b.write=É->False:=by
    intro a d m o b g n B;let⟨x,y,v⟩:=H m o b g;rw[y]at n;injection n with n;subst n;rcases v with q|q|⟨_,q⟩
    .exact L k f c _ (Î d) q
    .exact h.I k f _ (Î d)<|h.e i r x<|Ç<|by rwa[<-l.r]
    .rw[q]at B;cases B
   have S:∀a:Ú,(lot k).C a->∀m∈Í i E F V,∀b,m.act.touch?=À b->b.loc=û a->(s.I a.block\/s.N a)/\b.write=Ã:=by
    intro a d m o b g n;let⟨x,y,v⟩:=H m o b g;rw[y]at n;injection n with n;subst n;rcases v with q|q|q
    .exfalso;rcases G _ q with z|z
     .exact h.I i r _ (Ç z)<|h.e k f x d
     .have:=I k f x d;omega
    .exact absurd d<|h.h i k r f (ą c) x<|by rwa[<-l.r]
    .exact q
   refine⟨λa d=>((h.S k f).fi a d).C λm o b g n=>(W a d m o b g n).elim,λa d=>((h.S k f).C a d).r λm o b g n B=>(X a d m o b g n B).elim,λa d=>((h.S k f).I a d).C λm o b g n=> ?_,λa d=>((h.S k f).r a d).r λm o b g n B=> ?_⟩
   .exfalso;obtain⟨q|q,_⟩:=S a (Ç d) m o b g n
    .exact h.I i r _ (Î<|by rwa[<-l.I])<|h.e k f a<|Ç d
    .exact h.h k i f r c a d<|Î<|by rwa[<-l.M]
   .have:=(S a (Î d) m o b g n).2;rw[this]at B;cases B
 .intro k f;by_cases c:k=i
  .subst c;rw[gO,l.h,Deaf_own,h.f k f]
  .rw[gB lot _ c,M8 c t nG];exact h.f k f
 .refine M6 h.l nG λm o b g=> ?_;let⟨a,y,v⟩:=H m o b g;rw[y];rcases v with q|q|⟨q,B⟩
  .exact Î<|Ç<|D.fi a q
  .exact Î<|Ç<|D.I a q
  .exact Ç ⟨B,q.elim (D.C a)<|D.r a⟩
 .intro m o;rcases Ĝ.1 o with q|q
  .exact MemAct.low_mono l.C<|h.q m q
  .obtain⟨e,N,rfl⟩:=í q;refine aeF l.fq (λj u=>Ô (h.fq i r j<|Î<|by rwa[<-l.I]) l.C) (λa d=> ?_)<|l.c e N;rw[J]at d;exact Ô (I i r a d) l.C
 .intro p a c d n f;rcases mo d with⟨_,y⟩|⟨_,m,y,v,_⟩
  .exact h.s p a c y n f
  .let⟨x,P,_⟩:=H m y a v;rw[P]at n;cases n
 .intro k f a d;have y:∀j,(gi lot i s j).r=(lot j).r:=λj=>by
   by_cases e:j=i
   .subst e;rw[gO,l.r]
   .rw[gB lot _ e]
  have c:(gi lot i s k).K=(lot k).K:=by
   by_cases e:k=i
   .subst e;rw[gO,l.k]
   .rw[gB lot _ e]
  rw[c]at d;exact⟨(h.n k f a d).1,λj u=>by rw[y];exact(h.n k f a d).2 j u⟩
end
def E5(Live Y:Nat->Prop)(d:Nat->e7)(b:dK):Prop:=(∃a:Ú,b.loc=û a/\Y a.block/\∀k,Live k->¬(d k).C a)\/∃c,b.loc=.obj c/\Y c/\b.kind=Ŕ
structure o6(Live Y:Nat->Prop)(lot:Nat->e7)(w w':Æ):Prop where
 r:w'.heap.size=w.heap.size
 jH:∀j,¬Y j->w'.heap[j]?=w.heap[j]?
 M:∀k,Live k->∀a,(lot k).C a->w'.cell? a=w.cell? a
 N:∀k,Live k->∀a,(lot k).C a->w'.frozen? a=w.frozen? a
 I:∀a,(w.cell? a).isSome=É->(w'.cell? a).isSome=É
theorem o6.fQ(Live Y:Nat->Prop)(a:Nat->e7)(w:Æ):o6 Live Y a w w:=⟨U,λ_ _=>rfl,λ_ _ _ _=>rfl,λ_ _ _ _=>rfl,λ_ h=>h⟩
structure uI(w':Æ)(l l':e7):Prop where
 O:l'.O=l.O
 N:l'.I=l.I
 r:l'.r=l.r
 I:l'.N=l.N
 K:l'.K=l.K
 w:l'.w=l.w\/l'.w=w'
theorem uI.fQ(w':Æ)(l:e7):uI w' l l:=⟨U,U,U,U,U,Ç U⟩
def uI.M{w':Æ}{l a:e7}(h:uI w' l a):a.M=l.M:=by unfold e7.M;rw[h.O,h.N]
def uI.C{w':Æ}{l a:e7}(h:uI w' l a):a.C=l.C:=by unfold e7.C;rw[h.r,h.I]
def fE.aeH{l c:e7}(h:uI w l c)(r:fE l u W):fE c u W:= ⟨r.r,by rw[h.M];exact r.I,by rw[h.C];exact r.N,by rw[h.C];exact r.Y,by rw[h.K];exact r.S⟩
section
variable{Live Y:Nat->Prop}{lot o:Nat->e7}{w':Æ}{t u:ğ}
def iL.G(h:iL n Live Y lot w t)(m:∀k,uI w' (lot k)<|o k)(s:o6 Live Y lot w w')(B:∀l∈u,∀b,l.act.touch?=À b->E5 Live Y lot b)(g:∀l∈u,l.act.low w.heap.size)(E:∀F,¬eC F (t++u))(G:∀k,Live k->Τ (t++u) k=(o k).d):iL n Live Y o w' (t++u) where
 o i j hi v kQ b q:=by rw[(m j).M];exact h.o i j hi v kQ b<|by rwa[<-(m i).O]
 h i j hi v kQ a f:=by rw[(m j).C];exact h.h i j hi v kQ a<|by rwa[<-(m i).r]
 m i hi b q:=by rw[(m i).N];exact h.m i hi b<|by rwa[<-(m i).O]
 g i hi a f:=by rw[(m i).I];exact h.g i hi a<|by rwa[<-(m i).r]
 I i hi b q:=h.I i hi b (by rwa[<-(m i).M]);e i hi a f:=h.e i hi a (by rwa[<-(m i).C]);fq i hi b q:=by rw[s.r];exact h.fq i hi b<|by rwa[<-(m i).M]
 N b q:=by rw[s.r];exact h.N b q
 r i hi:=by
  rcases(m i).w with e|e
  .rw[e];refine((h.r i hi).fc ⟨dx s.r.symm,λj v=>s.jH j<|h.I i hi j v,λa f=>s.M i hi a f,λa f=>s.N i hi a f,λa _=>s.I a⟩).aeH<|m i
  .rw[e];exact fE.fQ _ _
 S i hi:=by
  have z:∀a:Ú,(lot i).M a.block->∀l∈u,∀b,l.act.touch?=À b->b.loc=û a->False:=by
   intro a f l e b q g;rcases B l e b q with⟨x,r,y,_⟩|⟨c,r,_⟩
   .rw[r]at g;injection g with g;subst g;exact h.I i hi _ f y
   .rw[r]at g;cases g
  have D:∀a:Ú,(lot i).C a->∀l∈u,∀b,l.act.touch?=À b->b.loc=û a->False:=by
   intro a f l e b q g;rcases B l e b q with⟨x,r,_,y⟩|⟨c,r,_⟩
   .rw[r]at g;injection g with g;subst g;exact y i hi f
   .rw[r]at g;cases g
  exact⟨λa f=>((h.S i hi).fi a<|by rwa[<-(m i).O]).C λl e b q g=>(z a (Ç<|by rwa[<-(m i).O]) l e b q g).elim,λa f=>((h.S i hi).C a<|by rwa[<-(m i).N]).r λl e b q g _=>(z a (Î<|by rwa[<-(m i).N]) l e b q g).elim,λa f=>((h.S i hi).I a<|by rwa[<-(m i).r]).C λl e b q g=>(D a (Ç<|by rwa[<-(m i).r]) l e b q g).elim,λa f=>((h.S i hi).r a<|by rwa[<-(m i).I]).r λl e b q g _=>(D a (Î<|by rwa[<-(m i).I]) l e b q g).elim⟩
 f:=G;l:=E;q l e:=by rw[s.r];exact(Ĝ.1 e).elim (h.q l)<|g l
 s p a c f g z:=by
  rcases mo f with⟨_,r⟩|⟨_,l,r,y,_⟩
  .exact h.s p a c r g z
  .rcases B l r a y with⟨x,D,_⟩|⟨x,_,_,D⟩
   .rw[D]at g;cases g
   .rw[D]at z;cases z
 n i hi a f:=by rw[(m i).K]at f;exact⟨(h.n i hi a f).1,λk z=>by rw[(m k).r];exact(h.n i hi a f).2 k z⟩
end
structure gp(l:e7):Prop where
 c:∀b,l.O b->¬l.I b
 Y:∀a,l.r a->¬l.N a
 N:∀a,l.C a->¬l.M a.block
 fq:∀b,l.M b->b<l.w.heap.size
 I:∀a,l.C a->a.block<l.w.heap.size
 S:∀a,l.K a->¬l.M a.block/\a.block<l.w.heap.size/\¬l.r a
def iL.M{Live Y:Nat->Prop}{c:Nat->e7}(h:iL n Live Y c w qJ)(b:Live i):gp {c i with w:=w} where
 c:=h.m i b;Y:=h.g i b;N a ha hb:=h.I i b _ hb<|h.e i b a ha;fq:=h.fq i b;I a ha:=h.N _<|h.e i b a ha;S a ha:=⟨λq=>h.I i b _ q (h.n i b a ha).1,h.N _ (h.n i b a ha).1,(h.n i b a ha).2 i b⟩
abbrev Jd:=e7->Ó->Prop
inductive ff(P:Õ)(main:Bool)(Stop:Jd):Jd
 |fv {l:e7} {g:Ó} (h:∀w₁,fE l l.w w₁->Stop {l with w:=w₁} g):ff P main Stop l g
 |jB {l:e7} {g:Ó} (G':Æ->Ó) (W':Æ->Æ) (E':Æ->Array ý) (L':Æ->e7) (iD:g.status=Ð)
  (h:∀w₁,fE l l.w w₁->Ù P main g w₁=aR (G' w₁) (W' w₁) (E' w₁)) (hd:∀w₁,fE l l.w w₁->lV l (L' w₁) w₁ (W' w₁) (E' w₁))
  (ih:∀w₁,fE l l.w w₁->ff P main Stop (L' w₁) (G' w₁)):ff P main Stop l g
instance:Nonempty e7:=⟨⟨λ_=>False,λ_=>False,λ_=>False,λ_=>False,λ_=>False,0,False,default⟩⟩
instance:Nonempty (Goroutine×World×Array Event×e7):=⟨(default,default,#[],Classical.choice inferInstance)⟩
section
variable{main:Bool}{Stop m:Jd}
def ff.mk{l:e7}(i:g.status=Ð) (h:∀a,fE l l.w a->∃b c d e,Ù P main g a=aR b c d/\lV l e a c d/\ff P main Stop e b):ff P main Stop l g:=by
 let p:=λ(a:Æ) (x:Goroutine×World×Array Event×e7)=>Ù P main g a=aR x.1 x.2.1 x.2.2.1/\lV l x.2.2.2 a x.2.1 x.2.2.1/\ff P main Stop x.2.2.2 x.1
 have f:∀a,fE l l.w a->p a (Classical.epsilon<|p a):=λa r=>Classical.epsilon_spec (let⟨b,c,d,e,h⟩:=h a r;⟨(b,c,d,e),h⟩);exact .jB (λa=>(Classical.epsilon<|p a).1) (λa=>(Classical.epsilon<|p a).2.1) (λa=>(Classical.epsilon<|p a).2.2.1) (λa=>(Classical.epsilon<|p a).2.2.2) i (λa r=>(f a r).1) (λa r=>(f a r).2.1) λa r=>(f a r).2.2
def ff.jO{l:e7}{w₁:Æ}(h:ff P main Stop l g)(r:fE l l.w w₁):ff P main Stop {l with w:=w₁} g:=by
 have e:∀{a b:Æ},fE {l with w:=w₁} a b->fE l a b:=λq=>⟨q.r,q.I,q.N,q.Y,q.S⟩;cases h with
 |fv h=>exact .fv λc d=>h c<|r.fc<|e d
 |jB f i j m n h o p=>
  exact .jB f i j m n (λc d=>h c<|r.fc<|e d) (λc d=>let q:=o c<|r.fc<|e d;⟨q.C,q.S,q.fq,q.I,q.r,q.M,q.k,q.jH,q.N,q.Y,q.f,q.g,q.m,q.c,q.h,q.q,q.i,q.b⟩) λc d=>p c<|r.fc<|e d
def ff.fI(a:∀l g,Stop l g->m l g){l:e7}(h:ff P main Stop l g):ff P main m l g:=by
 induction h with
 |fv h=>exact .fv λb r=>a _ _<|h b r
 |jB b r c d e h f _ i=>exact .jB b r c d e h f i
def ff.fc{l:e7}(h:ff P main (ff P main Stop) l g):ff P main Stop l g:=by
 induction h with
 |fv h=>exact h _<|fE.fQ _ _
 |jB a b c d e h f _ i=>exact .jB a b c d e h f i
def ff.lE(a:∀l g,Stop l g->ff P main m l g){l:e7}(h:ff P main Stop l g):ff P main m l g:=(h.fI a).fc
end
inductive gk where
 |fv:gk
 |jB (k:Æ->gk):gk
def VT(x:gk):gk->Prop
 |.fv=>False
 |.jB k=>∃w,x=k w
def VU:WellFounded VT:=⟨λa=>by
 induction a with
 |fv=>exact⟨_,λy h=>h.elim⟩
 |jB k b=>exact⟨_,λy ⟨w,h⟩=>h▸b w⟩⟩
def kJ(P:Õ)(b:Bool)(c:Jd):gk->Jd
 |.fv,l,g=>∀a,fE l l.w a->c {l with w:=a} g
 |.jB k,l,g=>g.status=Ð/\∀a,fE l l.w a->∃d e f h,Ù P b g a=aR d e f/\lV l h a e f/\kJ P b c (k a) h d
section
variable{main:Bool}{Stop:Jd}
theorem jc{l:e7}(h:ff P main Stop l g):∃tr,kJ P main Stop tr l g:=by
 induction h with
 |fv h=>exact⟨.fv,h⟩
 |@jB l g G' W' E' L' iD h hd _ ih=>
  have b:∀a,∃tr,fE l l.w a->kJ P main Stop tr (L' a) (G' a):=by
   intro a;by_cases r:fE l l.w a
   .grind
   .exact⟨.fv,λq=>absurd q r⟩
  refine⟨.jB λa=>Classical.choose<|b a,iD,λa r=>⟨G' a,W' a,E' a,L' a,h a r,hd a r,Classical.choose_spec (b a) r⟩⟩
end
theorem aeI{l:e7}{b:Nat->Prop}(d:∀j,X j->l.O j)(f:∀j,b j->l.I j){e:ý}(h:Io X b e):xE l e:=by
 rcases h with⟨a,c,g,i⟩|h|h
 .refine Ç ⟨a,c,?_⟩;grind
 .exact Î<|Ç h
 .exact Î<|Î<|Ç h
theorem aeJ{b:Nat->Prop}(h:∀e∈V,Io X b e)(d:Nat):ŭ d V=d:=by refine bn (λe c=> ?_) d;rcases h e c with⟨a,g,_⟩|h|⟨f,h⟩;all_goals grind
theorem gF{w':Æ}(h:w'.heap[a.block]?=w.heap[a.block]?):w'.cell? a=w.cell? a:=by unfold Ġ;rw[h]
def vK(h:u.heap[a.block]?=w.heap[a.block]?):u.frozen? a=w.frozen? a:=by unfold Ĉ;rw[h]
def aeK{t:(Nat->Prop)->Ó->Æ->Prop}{O:Nat->Prop}(h:uE P yQ X t O g w):∀l:e7,l.w=w->(∀j,O j->l.O j)->(∀j,X j->l.I j)->(∀j,l.O j->j<w.heap.size)->¬l.q-> ff P yQ (λa b=>∃f,t f b a.w/\(∀j,O j->f j)/\(∀j,f j->a.O j)/\(∀j,l.O j->a.O j)/\(∀j,a.O j->l.O j\/f j)/\(∀j,a.O j->l.O j\/w.heap.size<=j)/\a.I=l.I/\a.r=l.r/\a.N=l.N/\a.d=l.d/\a.q=l.q/\a.K=l.K) l g:=by
 induction h with
 |@fv O g w h=>
  intro l e i m _ _;refine .fv λb r=>⟨O,h b ⟨by rw[<-e];exact r.r,λj c=>by rw[r.I j (c.elim (λq=>Ç<|i j q) λq=>Î<|m j q),e]⟩,λ_ q=>q,i,λ_ q=>q,λ_ q=>Ç q,λ_ q=>Ç q,U,U,U,U,U,U⟩
 |@jB O g w G' W' E' f iD h hd _ ih=>
  intro l e i m C u;refine .mk iD λb r=> ?_;have n:xy (λj=>O j\/X j) w b:=⟨by rw[<-e];exact r.r,λj c=>by rw[r.I j (c.elim (λq=>Ç<|i j q) λq=>Î<|m j q),e]⟩;have D:=hd b n;have o:=n.r;have v:∀j,(l.O j\/f b j)->j<(W' b).heap.size:=λj c=>c.elim (λq=>Ô (C j q)<|õ o D.r)<|D.fq j;have p:∀j,j<b.heap.size->¬l.O j->(W' b).heap[j]?=b.heap[j]?:=λj c k=>D.jH j c λq=>k<|i j q;refine⟨G' b,W' b,E' b,{l with O:=λj=>l.O j\/f b j,w:=W' b},h b n,⟨D.r,λj c=>c.elim Ç λq=>(D.I j q).imp (i j) id,v,U,U,U,U,λj c k _=>p j c k,λa s k _=>gF<|p _ s k,λa s k=>vI<|p _ s k,D.N,D.S,D.Y,λx E=>aeI (l:={l with O:=λj=>l.O j\/f b j,w:=W' b}) (λj q=>Î q) m<|D.C x E,(aeJ D.C _).symm,U,λq=>absurd q u,U⟩,?_⟩;have:=ih b n {l with O:=λj=>l.O j\/f b j,w:=W' b} U (λj q=>Î q) m v u;apply this.fI;rintro N Q ⟨F,G,B,H,I,J,L,M⟩;refine⟨F,G,λj q=>B j<|D.M j q,H,λj q=>I j<|Ç q,λj q=> ?_,λj q=> ?_,M⟩
  .rcases J j q with(z|z)|z
   .exact Ç z
   .exact Î<|B j z
   .exact Î z
  .rcases L j q with(z|z)|z
   .exact Ç z
   .rcases D.I j z with y|y
    .exact Ç<|i j y
    .exact Î<|õ o y
   .exact Î<|õ (õ o D.r) z
def kh(a:Ú):ý:=⟨û a,Ã,É⟩
def mq(a:Ú):ý:=⟨û a,É,É⟩
def jI(m:Mark):ý:=⟨ů m,Ã,É⟩
def fT:Int:=4294967296
def Cg(c:Nat):Array ý:=#[⟨.obj c,Ã,É⟩,⟨.obj c,É,É⟩]
section
variable(P:Õ)(main:Bool)
def E6(m:Mark)(N:Jd):Jd:=λl g=>g.status=Ð/\∃a,(∀b,Ù P main g b=aR a b #[jI m])/\ff P main N l a
def VW(a:Ú)(N:Int->Jd):Jd:=λl g=>g.status=Ð/\∀v,∃c,(∀b:Æ,b.cell? a=À (Ć æ v)->Ù P main g b=aR c b #[kh a])/\ff P main (N v) l c
def M9(a:Ú)(d:Int)(N:Int->Jd):Jd:=λl g=>g.status=Ð/\∀v,∃c,(∀b:Æ,b.cell? a=À (Ć æ v)->b.frozen? a=Ã->Ù P main g b=aR c (b.setCell a<|Ć æ<|æ.wrap<|v+d) #[kh a,mq a])/\N (æ.wrap<|v+d) l c
def aeL(a:Ú)(v:Int)(N:Jd):Jd:=λl g=>g.status=Ð/\∃c,(∀(b:Æ) (x:Int),b.cell? a=À (Ć æ x)->b.frozen? a=Ã->Ù P main g b=aR c (b.setCell a<|Ć æ v) #[mq a])/\ff P main N l c
def aeM(a:Ú)(N:Jd):Jd:=λl g=>g.status=Ð/\g.offers=ë/\(∀b:Æ,b.cell? a=À (Ć ŗ 0)->Ù P main g b=aR {g with status:=Ů} b #[])/\
 ∃c,(∀(b:Æ) (n:Int),n≠0->b.cell? a=À (Ć ŗ n)->b.frozen? a=Ã->Ù P main g b=aR c (b.setCell a<|Ć ŗ<|n-1) (semEvents a))/\ff P main N l c
def aeN(a:Ú)(N:Jd):Jd:=λl g=>g.status=Ð/\mayWake P g=É/\∃c,c.status=Ð/\(∀(b:Æ) (n:Int),b.cell? a=À (Ć ŗ n)->b.frozen? a=Ã->Ù P main g b=aR c (b.setCell a<|Ć ŗ<|ŗ.wrap<|n+1) (semEvents a))/\N l c
def vL(c:Nat)(z:Â)(N:Option Â->Jd):Jd:=λl g=>g.status=Ð/\g.offers=ë/\(∀x,Ù P main g x=.comm g #[θ c z] É (.recv É) x #[])/\
 ∀x:Option Â,ff P main (N x) l {g with frame:=g.frame.finish (ſ #[x.getD z,Ľ x.isSome])}
def zN(c:Nat)(v:Â)(N:Jd):Jd:=λl g=>g.status=Ð/\g.offers=ë/\(∀a,∃b,Ù P main g a=.comm g #[scase c v b] É .send a #[])/\ff P main N l {g with frame:=g.frame.finish ľ}
def IB(c:Nat)(N:Jd):Jd:=λl g=>g.status=Ð/\mayWake P g=É/\∃a,a.status=Ð/\(∀(b:Æ) cap buf s r tm,b.heap[c]?=À (χ cap buf Ã s r tm)->Ù P main g b=aR a (b.setChan c cap buf É s r tm) (Cg c))/\ff P main N l a
def oG(n:Nat):Jd:=λl g=>QuitsD P n l.d g
inductive SP where
 |fU (n:Nat)
 |ld (v:Int) (m:Nat)
def Ch(a:Ú)(B:Nat)(d e:Int->Jd)(p:SP):Jd:=λl g=>∃T:SP->Ó->Prop,T p g/\∀p g,T p g->g.status=Ð/\match p with
 |.fU (n+1)=>n+1<=B/\(T (.fU 0) g\/∀b,∃c,Ù P main g b=aR c b #[]/\T (.fU n) c)
 |.fU 0=>∀v,∃c,(∀b:Æ,b.cell? a=À (Ć æ v)->Ù P main g b=aR c b #[kh a])/\(if 0<=v/\v<fT then v<1000000->ff P main (d v) l c else(fT<=v/\v<fT*2147483648/\v%fT<1000000)->∃m,m<=B/\T (.ld v m) c)
 |.ld v (m+1)=>fT<=v/\m+1<=B/\(T (.ld v 0) g\/∀b,∃c,Ù P main g b=aR c b #[]/\T (.ld v m) c)
 |.ld v 0=>fT<=v/\(∃c,(∀b:Æ,b.cell? a=À (Ć æ v)->b.frozen? a=Ã->Ù P main g b=aR c (b.setCell a<|Ć æ<|æ.wrap<|v+1) #[kh a,mq a])/\ff P main (e v) l c)/\
  ∃c,(∀(b:Æ) (x:Int),x≠v->b.cell? a=À (Ć æ x)->b.frozen? a=Ã->Ù P main g b=aR c b #[kh a])/\∃n,n<=B/\T (.fU n) c
end
section
variable{P:Õ}{main:Bool}
def IC{e f:Int->Jd}{p:SP}{l:e7}{w₁:Æ}(h:Ch P main a i e f p l g)(r:fE l l.w w₁):Ch P main a i e f p {l with w:=w₁} g:=by
 let⟨T,o,h⟩:=h;refine⟨T,o,λp g j=>⟨(h p g j).1,?_⟩⟩;have:=(h p g j).2;match p,this with
 |.fU (n+1),q=>exact q
 |.fU 0,q=>
  intro v;let⟨c,d,b⟩:=q v;refine⟨c,d,?_⟩;by_cases k:0<=v/\v<fT
  .rw[if_pos k]at b|-;exact λq=>(b q).jO r
  .rw[if_neg k]at b|-;exact b
 |.ld v (m+1),q=>exact q
 |.ld v 0,⟨q0,⟨c,d,b⟩,q⟩=>exact⟨q0,⟨c,d,b.jO r⟩,q⟩
end
inductive il where
 |no|im|rG (c:Nat) (z:Â)
inductive vM(g0:Ó):il->Ó->Prop
 |gd {k:il}:vM g0 k g0
 |ni (h:g0.status=Ð) (ho:g0.offers=ë):vM g0 .im {g0 with status:=Ů}
 |sM (c:Nat) (z:Â) (h:g0.status=Ð):vM g0 (.rG c z) (Γ g0 #[θ c z]<|.recv É)
 |mJ (c:Nat) (z:Â) (h:g0.status=Ð):vM g0 (.rG c z) {Γ g0 #[θ c z] (.recv É)with status:=Ð}
section
variable{P:Õ}
theorem aeO(h:g.status=Ð\/g.status=Ğ)(w:Æ):g.again w=g:=by unfold ι;grind
theorem Na{a o:Ó}(h:o.status=Ð\/o.status=Ğ):ţ P g a w o=o:=by unfold ţ;grind [aeO]
def vM.E7{g0 a b:Ó}{k:il}(h:vM g0 k g)(d:g0.status=Ð\/g0.status=Ğ):vM g0 k (ţ P a b w g):=by
 cases h with
 |gd=>rw[Na d];exact .gd
 |ni h c=>
  unfold ţ;split
  .have:ι w {g0 with status:=Ů}=g0:=by
    let⟨z,e,st,f,i⟩:=g0;simp only at h c;subst h c;rfl
   rw[this];exact .gd
  .exact .ni h c
 |sM c z h=>
  unfold ţ;split
  .unfold ι Γ;simp only[];split
   .exact .mJ c z h
   .exact .sM c z h
  .exact .sM c z h
 |mJ c z h=>
  rw[Na<|Ç U];exact .mJ c z h
end
structure gE(P:Õ)(B0:Nat)(Y:Nat->Prop)(S:Nat->Jd)(tr:Nat->gk)(kp:Nat->il)(lot:Nat->e7)(gs:Array Ó)(w:Æ)(t:ğ):Prop where
 r:iL B0 (λi=>i<gs.size) Y lot w t
 C:∀i g,gs[i]?=À g->∃g0,kJ P (i==0) (S i) (tr i) (lot i) g0/\vM g0 (kp i) g/\(g0.status=Ð\/g0.status=Ğ)/\(g=g0\/tr i=.fv)
 I:∀j,gs.size<=j->Τ t j=0
def ft{α:Type}(f:Nat->α)(i:Nat)(x:α):Nat->α:=λk=>if k=i then x else f k
theorem gy{α:Type}(f:Nat->α)(i:Nat)(x:α):ft f i x i=x:=if_pos U
theorem fD{α:Type}(f:Nat->α)(x:α)(h:k≠i):ft f i x k=f k:=if_neg h
section
variable{P:Õ}{B0:Nat}{Y:Nat->Prop}{S:Nat->Jd}{tr:Nat->gk}{kp:Nat->il}{lot:Nat->e7}{gs:Array Ó}{w':Æ}{t:ğ}{sl:Option (Nat×Nat)}
theorem Nb{a:Ó}(b:gs[i]?=À g)(h:Ù P (i==0) g w=aR a w' V): ∃gs',cV P (ķ gs w sl) i=(ň<|ķ gs' w' sl,Í i g.frame.fn g.frame.place V)/\gs'.size=gs.size/\gs'[i]?=À a/\∀k,k≠i->gs'[k]?=gs[k]?.map (ţ P g a w'):=by refine⟨_,runT_crowd_go b h,fh,by simp[(Ë.1 b).1],λk c=> ?_⟩;grind
def gE.at(a:gE P B0 Y S tr kp lot gs w t)(d:Nat):gE P B0 Y S tr kp lot gs (w.at d) t:=⟨a.r.at d,a.C,a.I⟩
theorem gE.VX(f:gE P B0 Y S tr kp lot gs w t){a:Ó}{J:Jd}{T:gk}{K:il}{d:e7}(h:gs[i]?=À g)(o:Ù P (i==0) g w=aR a w' V) (B:iL B0 (λi=>i<gs.size) Y (gi lot i d) w' (t++Í i g.frame.fn g.frame.place V)) (hF:kJ P (i==0) J T d a) (p:a.status=Ð\/a.status=Ğ): ∃b,cV P (ķ gs w sl) i=(ň<|ķ b w' sl,Í i g.frame.fn g.frame.place V)/\b.size=gs.size/\b[i]?=À a/\(∀k,k≠i->b[k]?=gs[k]?.map (ţ P g a w'))/\ gE P B0 Y (ft S i J) (ft tr i T) (ft kp i K) (gi lot i d) b w' (t++Í i g.frame.fn g.frame.place V):=by
 obtain⟨b,q,r,l,m⟩:=Nb h o;have C:=(Ë.1 h).1;refine⟨b,q,r,l,m,?_,λk x c=> ?_,λj D=> ?_⟩
 .grind
 .by_cases e:k=i
  .subst e;rw[l]at c;obtain rfl:=Ĥ c;rw[gy,gy,gy,gO];exact⟨a,hF,.gd,p,Ç U⟩
  .rw[m k e]at c;obtain⟨y,s,rfl⟩:=ģ.1 c;rw[fD S _ e,fD tr _ e,fD kp _ e,gB lot _ e];let⟨g0,u,v,n,z⟩:=f.C k y s;refine⟨g0,u,v.E7 n,n,z.imp (λe=> ?_) id⟩;grind [Na]
 .rw[M8 Z t nG];exact f.I j Z
theorem aeP{J:Jd}{k:Æ->gk}{l:e7}(h:kJ P yQ J (.jB k) l g):g.status=Ð:=h.1
def gE.fi(f:gE P B0 Y S tr kp lot gs w t){k:Æ->gk}(m:gs[i]?=À g)(n:tr i=.jB k)(s:∀l g,S i l g->g.status=Ð\/g.status=Ğ): ∃c w' d h,cV P (ķ gs w sl) i=(ň<|ķ c w' sl,Í i g.frame.fn g.frame.place d)/\c.size=gs.size/\(∃b,c[i]?=À b/\(b.status=Ð\/b.status=Ğ))/\(∀k,k≠i->∃a j:Ó,c[k]?=gs[k]?.map (ţ P a j w'))/\lV (lot i) h w w' d/\ gE P B0 Y S (ft tr i<|k w) kp (gi lot i h) c w' (t++Í i g.frame.fn g.frame.place d):=by
 have o:=(Ë.1 m).1;let⟨g0,hF,F,_,u⟩:=f.C i g m;obtain rfl:g=g0:=u.resolve_right (by rw[n];simp);rw[n]at hF;let⟨G,hF⟩:=hF;let⟨b,w',d,h,v,p,e⟩:=hF w<|f.r.r i o;have q:b.status=Ð\/b.status=Ğ:=by
  cases j:k w with
  |fv=>rw[j]at e;exact s _ _<|e _<|fE.fQ _ _
  |jB r=>rw[j]at e;exact Ç e.1
 obtain⟨c,x,y,z,B,r⟩:=f.VX m v (f.r.aeG o p _ _) e q;refine⟨c,w',d,h,x,y,⟨b,z,q⟩,λj C=>⟨g,b,B j C⟩,p,?_⟩;have D:ft S i (S i)=S:=by funext j;unfold ft;split<;>simp[*]
 have E:ft kp i (kp i)=kp:=by funext j;unfold ft;split<;>simp[*]
 rwa[D,E]at r
theorem gE.pT(c:gE P B0 Y S tr kp lot gs w t){a:Ó}{J:Jd}{K:il}{T:gk}(l:gs[i]?=À g)(m:Ù P (i==0) g w=aR a w' V)(n:o6 (λi=>i<gs.size) Y lot w w') (hF:kJ P (i==0) J T {lot i with d:=ŭ (lot i).d V,w:=w'} a) (o:a.status=Ð\/a.status=Ğ) (p:∀e∈V,(∀b,(è e).touch?=À b->E5 (λi=>i<gs.size) Y lot b)/\(è e).low w.heap.size) (q:∀r,¬eC r (t++Í i g.frame.fn g.frame.place V)): ∃gs',cV P (ķ gs w sl) i=(ň<|ķ gs' w' sl,Í i g.frame.fn g.frame.place V)/\gs'.size=gs.size/\gs'[i]?=À a/\(∀k,k≠i->gs'[k]?=gs[k]?.map (ţ P g a w'))/\ gE P B0 Y (ft S i J) (ft tr i T) (ft kp i K) (gi lot i {lot i with d:=ŭ (lot i).d V,w:=w'}) gs' w' (t++Í i g.frame.fn g.frame.place V):=by
 refine c.VX l m (c.r.G (λk=> ?_) n (λh f b j=> ?_) (λh f=> ?_) q λk h=> ?_) hF o
 .by_cases e:k=i
  .subst e;rw[gO];exact⟨U,U,U,U,U,Î U⟩
  .grind [gB,uI.fQ]
 .obtain⟨e,j,rfl⟩:=í f;grind
 .obtain⟨e,j,rfl⟩:=í f;exact(p e j).2
 .by_cases e:k=i
  .subst e;rw[gO,Deaf_own,c.r.f k h]
  .rw[gB lot _ e,M8 e t nG];exact c.r.f k h
def gE.Nc(h:gE P B0 Y S tr kp lot gs w t)(p:gs[i]?=À g)(x:i≠0)(l:g.status=Ð)(q:kp i=.no)(y:tr i=.fv)(z:S i=oG P n): ∃c f b,n=b+1/\cV P (ķ gs w sl) i=(ň<|ķ c w sl,Í i g.frame.fn g.frame.place f)/\c.size=gs.size/\(∀k,k≠i->∃a e:Ó,c[k]?=gs[k]?.map (ţ P a e w))/\(∀e∈f,e.mute=É)/\ gE P B0 Y (ft S i<|oG P b) tr kp (gi lot i {lot i with d:=ŭ (lot i).d f,w:=w}) c w (t++Í i g.frame.fn g.frame.place f):=by
 let⟨g0,hF,r,L,_⟩:=h.C i g p;have B:g=g0:=by
  rw[q]at r;cases r with
  |gd=>rfl
 subst B;rw[y,z]at hF;have s:=hF w<|h.r.r i<|(Ë.1 p).1;cases n with
 |zero=>rw[s.1]at l;cases l
 |succ n=>
  rcases s with⟨C,_⟩|⟨_,D,f,a,E,u⟩
  .rw[C]at l;cases l
  have m:(i==0)=Ã:=by simpa using x
  have F:ft kp i .no=kp:=by funext j;unfold ft;split<;>simp[*]
  have G:ft tr i .fv=tr:=by funext j;unfold ft;split<;>simp[*]
  obtain⟨c,H,I,_,K,v⟩:=h.pT (J:=oG P n) (T:=.fv) p (by rw[m];exact E w) (o6.fQ _ _ _ _) (λ_ _=>u) u.status (λe o=>⟨λb m=>(by rw[ef<|a e o]at m;cases m),low_mute (a e o) _⟩) (zM h.r.l λM b=>by obtain⟨e,o,rfl⟩:=í b;exact ef<|a e o);rw[F,G]at v;exact⟨c,f,n,U,H,I,λk q=>⟨g,D,K k q⟩,a,v⟩
end
def vN(u:ğ):Prop:=∀a∈u,a.act.touch?=ë/\∀m,a.act≠Ř m
theorem aeQ(t:ğ)(a:cW)(b:a.act≠Ř cJ)(c:a.act≠Ř dw)(j:Nat):Τ (t.push a) j=Τ t j:=by
 have d:t.push a=t++#[a]:=fh
 unfold Τ;rw[d,show(t++#[a]).size=t.size+1 by simp];show(match(t++#[a])[t.size]? with
  |some {g:=h,act:=Ř cJ, .. }=>if h=j then(t++#[a]).deaf j t.size+1 else(t++#[a]).deaf j t.size
  |some {g:=h,act:=Ř dw, .. }=>if h=j then(t++#[a]).deaf j t.size-1 else(t++#[a]).deaf j t.size
  |_=>(t++#[a]).deaf j t.size)=_
 have e:(t++#[a])[t.size]?=À a:=fh
 rw[e];let⟨g,f,i,k⟩:=a;simp only at b c;split
 .grind
 .grind
 .exact cM<|ß _
def VY(t:ğ):∀(u:List cW),(∀a∈u,a.act≠Ř cJ/\a.act≠Ř dw)->∀j,Τ (t++u.toArray) j=Τ t j
 |[],_,j=>by simp
 |a::u,h,j=>by
  have e:t++(a::u).toArray=(t.push a)++u.toArray:=by apply Array.ext';simp
  rw[e,VY (t.push a) u (λx b=>h x<|by simp[b]) j];exact aeQ t a (h a fh).1 (h a fh).2 j
def IF{u:ğ}(h:vN u)(j:Nat):Τ (qJ++u) j=Τ qJ j:=by have:=VY qJ u.toList (λa b=>⟨(h a<|by simpa using b).2 _,(h a<|by simpa using b).2 _⟩) j;simpa using this
section
variable{S:Nat->Jd}{C:Nat->gk}{B:Nat->il}{lot:Nat->e7}{u:ğ}{sl:Option (Nat×Nat)}
def iL.aeR{Live:Nat->Prop}(h:iL i Live X lot w qJ)(f:o6 Live X lot w W)(c:vN u)(g:∀a∈u,a.act.low w.heap.size):iL i Live X lot W (qJ++u):= h.G (λk=>uI.fQ _ _) f (λa d b e=>by rw[(c a d).1]at e;cases e) g (zM h.l λa d=>(c a d).1) λk b=>by rw[IF c];exact h.f k b
def IG{Live:Nat->Prop}{r:Nat}{x:Bool}(y:X i)(p:w.heap[i]?=À (χ n d yQ j r x))(f g h:Nat)(l:Array Â)(m o:Bool):o6 Live X lot w (w.setChan i f l m g h o):=by
 have q:∀b,b≠i->(w.setChan i f l m g h o).heap[b]?=w.heap[b]?:=λb u=>by unfold ar;simp only;exact Ï<|ą u
 have v:(w.setChan i f l m g h o).heap[i]?=À (χ f l m g h o):=by unfold ar;simp[(Ë.1 p).1]
 refine⟨by unfold ar;simp,λb u=>q b λe=>u<|e▸y,λk _ a _=> ?_,λk _ a _=> ?_,λa t=> ?_⟩
 .by_cases e:a.block=i
  .unfold Ġ;rw[e,v,p]
  .unfold Ġ;rw[q _ e]
 .by_cases e:a.block=i
  .unfold Ĉ;rw[e,v,p]
  .unfold Ĉ;rw[q _ e]
 .by_cases e:a.block=i
  .unfold Ġ at t;rw[e,p]at t;cases t
  .have:(w.setChan i f l m g h o).cell? a=w.cell? a:=by unfold Ġ;rw[q _ e]
   rwa[this]
def gE.G(b:gE P i X S C B lot E w qJ){J:Jd}{T:gk}{K:il}(d:n<E.size)(f:o6 (λn=>n<E.size) X lot w W)(c:vN u)(h:∀l∈u,l.act.low w.heap.size) (hF:kJ P (n==0) J T (lot n) g) (m:g.status=Ð\/g.status=Ğ): gE P i X (ft S n J) (ft C n T) (ft B n K) lot (E.setIfInBounds n g) W (qJ++u):=by
 refine⟨?_,λk x a=> ?_,λj o=> ?_⟩
 .rw[show(λj=>j<(E.setIfInBounds n g).size)=(λj=>j<E.size) by simp];exact b.r.aeR f c h
 .by_cases e:k=n
  .subst e;rw[Ò d]at a;obtain rfl:=Ĥ a;rw[gy,gy,gy];exact⟨_,hF,.gd,m,Ç U⟩
  .rw[Ï<|ą e]at a;rw[fD S _ e,fD C _ e,fD B _ e];exact b.C k x a
 .rw[IF c];exact b.I j<|by simpa using o
def Nd{γ δ:Type}{f:γ->List δ}:∀{l:List γ},(∀x∈l,f x=[])->l.flatMap f=[]
 |[],_=>rfl
 |x::l,h=>by rw[aU,h x fh,Nd λy a=>h y (by simp[a])];rfl
def xF(r:Nat)(b:Bool)(g:Ó):Prop:=g.status=Ů/\∃a d,g.offers=À (a,d)/\∃c∈a,(c.send.isSome==b)=É/\(match c.chan with|eh (À r')=>r'==r|_=>Ã)=É
theorem VZ{r:Nat}{E:Array Ó}(h:∀(i:Nat) (g:Ó),E[i]?=À g->¬xF r yQ g):Η E r yQ=[]:=by
 unfold Η;refine Nd λx m=> ?_;let⟨g,i⟩:=x;have d:E[i]?=À g:=by grind
 simp only[];split
 .rename_i b e f j;rw[ai,Υ];intro y n a;let⟨c,k⟩:=y;have l:c∈b:=by
   grind
  simp only[ě]at a;exact h i g d ⟨f,b,e,j,c,l,a.1,by have:=a.2;revert this;cases c.chan<;>first|exact id|(rename_i q;cases q<;>exact id)⟩
 .rfl
def V1{γ δ:Type}(f:γ×Nat->List δ):∀(L:List γ) (n h:Nat) (x:γ),(∀y k,k≠h->(y,k)∈L.zipIdx n->f (y,k)=[])->n<=h->L[h-n]?=À x->(L.zipIdx n).flatMap f=f (x,h)
 |[],n,h,x,_,_,hx=>by simp at hx
 |a::L,n,h,x,hf,hn,hx=>by
  rw[Ĭ,aU];by_cases e:h=n
  .subst e;have:a=x:=by simpa using hx
   subst this;rw[Nd ?_,List.append_nil];intro y b;let⟨y,k⟩:=y;refine hf y k ?_ (by rw[Ĭ];exact ò _ b);have:=List.le_snd_of_mem_zipIdx b;simp only at this;omega
  .rw[hf a n Z (by rw[Ĭ];exact î ..),List.nil_append];refine V1 f L (n+1) h x (λy k c b=>hf y k c<|by rw[Ĭ];exact ò _ b) Z ?_;have b:h-n=(h-(n+1))+1:=Z
   rw[b]at hx;simpa using hx
theorem aeS{E:Array Ó}(l:E[n]?=À g)(m:g.status=Ů)(o:g.offers=À (#[θ i z],.recv É))(p:∀(a:Nat) (b:Ó),a≠n->E[a]?=À b->¬xF i Ã b):Η E i Ã=[(n,0)]:=by
 unfold Η;have e:E.zipIdx.toList=E.toList.zipIdx:=fh
 rw[e];rw[V1 _ E.toList 0 n g (λy k r B=> ?_) (dy _) (by simpa using l)]
 .simp[m,o,θ]
 .have s:E[k]?=À y:=by
   grind
  simp only[];split
  .rename_i j t u v;rw[ai,Υ];intro x C d;let⟨f,D⟩:=x;have w:f∈j:=by
    grind
   simp only[ě]at d;exact p k y r s ⟨u,j,t,v,f,w,d.1,by have:=d.2;revert this;cases f.chan<;>first|exact id|(rename_i q;cases q<;>exact id)⟩
  .rfl
theorem Nf(h:(E.setIfInBounds i ph)[k]?=À g):g.status=Ğ\/(k≠i/\E[k]?=À g):=by
 by_cases e:k=i
 .subst e;rw[Ś]at h;simp only[if_true]at h;split at h
  .left;obtain rfl:=Ĥ h;rfl
  .cases h
 .grind
theorem gE.Ng(l:gE P i X S C B lot E w qJ)(c a:Nat):Η (E.setIfInBounds a ph) c É=[]:=by
 refine VZ λk x m=> ?_;rintro⟨d,p,r,b,n,f,o,_⟩;rcases Nf m with q|⟨_,q⟩
 .grind
 .let⟨g0,_,g,j,_⟩:=l.C k x q;generalize B k=K at g;cases g with
  |gd=>rw[d]at j;rcases j with e|e<;>cases e
  |ni h e=>simp only[e]at b;cases b
  |sM e z h=>
   simp only[Γ,ž,Prod.mk.injEq]at b;rw[<-b.1]at f;have:n=θ e z:=by simpa using f
   subst this;cases o
  |mJ e z h=>cases d
def gE.Nh(e:gE P i X S C B lot E w qJ){N:Option Â->Jd}(f:E[n]?=À g)(k:g.status=Ð)(l:B n=.rG j z)(m:C n=.fv)(o:S n=vL P (n==0) j z N): ∃a,kJ P (n==0) (S n) (C n) (lot n) a/\a.status=Ð/\a.offers=ë/\Ù P (n==0) g w=.comm a #[θ j z] É (.recv É) w #[]/\∀x:Option Â,ff P (n==0) (N x) (lot n) {a with frame:=a.frame.finish (ſ #[x.getD z,Ľ x.isSome])}:=by
 let⟨a,hF,b,_,_⟩:=e.C n g f;have p:=hF;rw[o,m]at hF;let⟨x,q,d,r⟩:=hF _<|fE.fQ _ _;rw[l]at b;refine⟨a,p,x,q,?_,r⟩;cases b with
 |gd=>exact d w
 |sM j z h=>cases k
 |mJ j z h=>rw[stepG_tries];rw[show({a with status:=Ð}:Ó)=a by cases a;simp only at x;subst x;rfl];exact d w
def xG{g0:Ó}{a:Array CommCase}{b:CommShape}{ok:Bool}(c:g0.status=Ð)(d:g0.offers=ë):g0.finishComm P a b h v ok={g0 with frame:=g0.frame.finish (commResult a b h v ok)}:=by let⟨f,a,st,e,o⟩:=g0;simp only at c d;subst c d;rfl
def gE.mK(e:gE P i X S C B lot E w qJ){N:Option Â->Jd}(h:E[n]?=À g)(G:g.status=Ð)(l:B n=.rG j z)(H:C n=.fv)(I:S n=vL P (n==0) j z N)(p:X j){r:Nat}{o:Bool}(q:w.heap[j]?=À (χ b d yQ m r o))(t:d[0]?=À v)(K:il): ∃a u T f,cV P (ķ E w sl) n=(ň<|ķ a (w.setChan j b (d.extract 1 d.size) yQ m (r+1) o) sl,u)/\a.size=E.size/\a[n]?=À f/\f.status=Ð/\(∀k,k≠n->a[k]?=E[k]?)/\vN u/\ gE P i X (ft S n<|N<|À v) (ft C n T) (ft B n K) lot a (w.setChan j b (d.extract 1 d.size) yQ m (r+1) o) (qJ++u):=by
 have x:=(Ë.1 h).1;let⟨g0,_,f,y,J,L⟩:=e.Nh h G l H I;have D:d.getD 0 ľ=v:=by simp[ĩ,t]
 have M:=crowd_recv_buf (sl:=sl) h J q ((Ë.1 t).1)<|e.Ng j n;let⟨T,O⟩:=jc<|L<|À v;refine⟨_,_,T,{g0 with frame:=g0.frame.finish (ſ #[v,Ľ É])},M,fh,?_,f,λk l=>Ï<|ą l,?_,?_⟩
 .rw[xG f y,D,Ò x];rfl
 .intro F a;simp[Í]at a;rcases a with rfl|rfl<;>exact⟨U,fh⟩
 .rw[xG f y,D];refine e.G x (IG p q _ _ _ _ _ _) ?_ ?_ O<|Ç f
  .intro F a;simp[Í]at a;rcases a with rfl|rfl<;>exact⟨U,fh⟩
  .intro F a;simp[Í]at a;rcases a with rfl|rfl<;>exact e.r.N j p
def gE.iY(e:gE P i X S C B lot E w qJ){N:Option Â->Jd}(h:E[n]?=À g)(q:g.status=Ð)(l:B n=.rG j z)(t:C n=.fv)(v:S n=vL P (n==0) j z N)(x:X j){r:Nat}(y:w.heap[j]?=À (χ b #[] É k r yQ))(K:il): ∃d u T f,cV P (ķ E w sl) n=(ň<|ķ d w sl,u)/\d.size=E.size/\d[n]?=À f/\f.status=Ð/\(∀a,a≠n->d[a]?=E[a]?)/\vN u/\ gE P i X (ft S n<|N ë) (ft C n T) (ft B n K) lot d w (qJ++u):=by
 have m:=(Ë.1 h).1;let⟨g0,_,f,o,D,F⟩:=e.Nh h q l t v;let⟨T,G⟩:=jc<|F ë;refine⟨_,_,T,{g0 with frame:=g0.frame.finish (ſ #[z,Ľ Ã])},crowd_recv_closed (sl:=sl) h D y<|e.Ng j n,fh,?_,f,λa l=>Ï<|ą l,?_,?_⟩
 .rw[xG f o,Ò m];rfl
 .intro p d;simp[Í]at d;subst d;exact⟨U,fh⟩
 .rw[xG f o];refine e.G m (o6.fQ _ _ _ _) ?_ ?_ G<|Ç f
  .intro p d;simp[Í]at d;subst d;exact⟨U,fh⟩
  .intro p d;simp[Í]at d;subst d;exact e.r.N j x
def gE.aeT(f:gE P i X S C B lot E w qJ){N:Option Â->Jd}(m:E[n]?=À g)(u:g.status=Ð)(h:B n=.rG j z)(o:C n=.fv)(v:S n=vL P (n==0) j z N){r:Nat}(p:w.heap[j]?=À (χ b #[] Ã k r yQ)): ∃d e,cV P (ķ E w sl) n=(ň<|ķ d w sl,#[])/\d.size=E.size/\d[n]?=À e/\e.status=Ů/\(∀a,a≠n->d[a]?=E[a]?)/\gE P i X S C B lot d w qJ:=by
 have q:=(Ë.1 m).1;let⟨g0,hF,t,G,y,H⟩:=f.Nh m u h o v;have D:=crowd_waits (sl:=sl) m y (λd e=>by
  have:d=θ j z:=by simpa using e
  subst this;exact⟨by simp[illMade,θ,p],by simp[ways,θ,p,f.Ng j n]⟩)
 refine⟨_,Γ g0 #[θ j z]<|.recv É,?_,fh,Ò q,U,λa h=>Ï<|ą h,?_,λa x l=> ?_,λd F=>f.I d<|by simpa using F⟩
 .rw[D];rfl
 .rw[show(λd=>d<(E.setIfInBounds n<|Γ g0 #[θ j z]<|.recv É).size)=(λd=>d<E.size) by simp];exact f.r
 .by_cases e:a=n
  .subst e;rw[Ò q]at l;obtain rfl:=Ĥ l;refine⟨g0,hF,?_,Ç t,Î o⟩;rw[h];exact .sM j z t
  .rw[Ï<|ą e]at l;exact f.C a x l
def gE.iE(f:gE P i X S C B lot E w qJ){N:Jd}(h:E[n]?=À g)(l:B n=.no)(F:C n=.fv)(G:S n=zN P (n==0) b v N)(p:X b){r:Nat}(t:w.heap[b]?=À (χ m d Ã J r yQ))(H:d.size<m) (I:∀(k:Nat) (x:Ó),E[k]?=À x->¬xF b Ã x): ∃e u T a,cV P (ķ E w sl) n=(ň<|ķ e (w.setChan b m (d.push v) Ã (J+1) r yQ) sl,u)/\e.size=E.size/\e[n]?=À a/\a.status=Ð/\(∀k,k≠n->e[k]?=E[k]?)/\vN u/\ gE P i X (ft S n N) (ft C n T) B lot e (w.setChan b m (d.push v) Ã (J+1) r yQ) (qJ++u):=by
 have y:=(Ë.1 h).1;let⟨g0,hF,z,_,_⟩:=f.C n g h;rw[l]at z;cases z with
 |gd=>
  rw[G,F]at hF;let⟨a,D,o,K⟩:=hF _<|fE.fQ _ _;let⟨V,o⟩:=o w;have L:Η (E.setIfInBounds n ph) b Ã=[]:=VZ λk x M=>by
   rcases Nf M with q|⟨_,q⟩
   .rintro⟨e,_⟩;rw[q]at e;cases e
   .exact I k x q
  let⟨T,O⟩:=jc K;have Q:ft B n .no=B:=by funext j;unfold ft;split<;>simp[*]
  refine⟨_,_,T,{g with frame:=g.frame.finish ľ},crowd_send_room (sl:=sl) h o t H L,fh,?_,a,λk l=>Ï<|ą l,?_,?_⟩
  .rw[xG a D,Ò y];rfl
  .intro q e;simp[Í]at e;rcases e with rfl|rfl<;>exact⟨U,fh⟩
  .rw[xG a D,<-Q];refine f.G y (IG p t _ _ _ _ _ _) ?_ ?_ O<|Ç a
   .intro q e;simp[Í]at e;rcases e with rfl|rfl<;>exact⟨U,fh⟩
   .intro q e;simp[Í]at e;rcases e with rfl|rfl<;>exact f.r.N b p
def gE.aeU(o:gE P i X S C B lot E w qJ){p:Ó}{N:Jd}{D:Option Â->Jd}(F:E[n]?=À g)(f:B n=.no)(ht:C n=.fv)(hs:S n=zN P (n==0) b v N)(L:X b){r:Nat}(M:w.heap[b]?=À (χ J d Ã j9 r yQ)) (G:j≠n) (t:E[j]?=À p) (O:p.status=Ů) (IH:B j=.rG b z) (Ni:C j=.fv) (IJ:S j=vL P (j==0) b z D) (K:il) (hp:∀(k:Nat) (x:Ó),k≠j->E[k]?=À x->¬xF b Ã x): ∃e u T y h q,cV P (ķ E w sl) n=(ň<|ķ e (w.setChan b J d Ã (j9+1) (r+1) yQ) sl,u)/\e.size=E.size/\e[n]?=À h/\h.status=Ð/\e[j]?=À q/\q.status=Ð/\(∀k,k≠n->k≠j->e[k]?=E[k]?)/\vN u/\ gE P i X (ft (ft S j<|D<|À v) n N) (ft (ft C j y) n T) (ft (ft B j K) n .no) lot e (w.setChan b J d Ã (j9+1) (r+1) yQ) (qJ++u):=by
 have Q:=(Ë.1 F).1;have V:=(Ë.1 t).1;let⟨g0,hF,W,_,_⟩:=o.C n g F;let⟨a,Y,V3,arT,_⟩:=o.C j p t;rw[f]at W;rw[IH]at V3;cases W with
 |gd=>
  rw[hs,ht]at hF;let⟨H,h2,I,h4⟩:=hF _<|fE.fQ _ _;let⟨z',I⟩:=I w;rw[IJ,Ni]at Y;let⟨l,k2,k3,k4⟩:=Y _<|fE.fQ _ _;have Ci:p=Γ a #[θ b z] (.recv É):=by
   cases V3 with
   |gd=>rw[O]at l;cases l
   |sM _ _ h=>rfl
   |mJ _ _ h=>cases O
  subst Ci;have hpn:Η (E.setIfInBounds n ph) b Ã=[(j,0)]:=aeS (by rwa[Ï<|ą G]) U U λk x f hx=>by
   rcases Nf hx with q|⟨_,q⟩
   .rintro⟨e,_⟩;rw[q]at e;cases e
   .exact hp k x f q
  have Nj:=crowd_send_meets (sl:=sl) F I M G t hpn;let⟨T,hT⟩:=jc h4;let⟨y,hTj⟩:=jc<|k4<|À v;rw[xG H h2,xG l k2]at Nj;have q:∀{h:cW},h∈Í n g.frame.fn g.frame.place #[]++#[{g:=n,fn:=g.frame.fn,pos:=g.frame.place,act:=.send b j9},{g:=j,fn:=a.frame.fn,pos:=a.frame.place,act:=.recv b r J},{g:=n,fn:=g.frame.fn,pos:=g.frame.place,act:=.sendDone b j9},{g:=j,fn:=a.frame.fn,pos:=a.frame.place,act:=.recvDone b r}]->(h.act.touch?=ë/\∀m,h.act≠Ř m)/\h.act.low w.heap.size:=by intro h e;simp[Í]at e;rcases e with rfl|rfl|rfl|rfl<;>exact⟨⟨U,fh⟩,o.r.N b L⟩
  refine⟨_,_,T,y,{g with frame:=g.frame.finish ľ},{a with frame:=a.frame.finish (ſ #[v,Ľ É])},Nj,fh,?_,H,?_,l,λk f sN=> ?_,λh e=>(q e).1,?_⟩
  .rw[Ò (by simpa using Q)];rfl
  .rw[Ï<|ą G,Ò V];rfl
  .rw[Ï<|ą f,Ï<|ą sN]
  .have m:gE P i X (ft S j<|D<|À v) (ft C j y) (ft B j K) lot (E.setIfInBounds j {a with frame:=a.frame.finish (ſ #[v,Ľ É])}) w (qJ++#[]):=o.G V (o6.fQ _ _ _ _) (λh e=>by simp at e) (λh e=>by simp at e) hTj<|Ç l;rw[ď]at m;refine m.G (by simpa using Q) (IG L M _ _ _ _ _ _) (λh e=>(q e).1) (λh e=>(q e).2) hT<|Ç H
theorem gE.kF(o:gE P i X S C B lot E w qJ){N:Jd}(I:E[n]?=À g)(K:B n=.no)(ht:C n=.fv)(hs:S n=IB P (n==0) J N)(L:X J)(hB:i<=J){r:Nat}(O:w.heap[J]?=À (χ j9 q Ã j7 r yQ)): ∃t u T G,cV P (ķ E w sl) n=(ň<|ķ t (w.setChan J j9 q É j7 r yQ) sl,u)/\t.size=E.size/\t[n]?=À G/\G.status=Ð/\(∀k x,k≠n->E[k]?=À x->t[k]?=À (x.again<|w.setChan J j9 q É j7 r yQ))/\(∀l∈u,l.g=n)/\(∀l∈u,∀b,l.act.touch?=À b->b.loc=.obj J/\b.kind=Ŕ)/\(∀l∈u,∀m,l.act≠Ř m)/\ gE P i X (ft S n N) (ft C n T) B (gi lot n {lot n with w:=w.setChan J j9 q É j7 r yQ}) t (w.setChan J j9 q É j7 r yQ) (qJ++u):=by
 have H:=(Ë.1 I).1;have Q:=o.r.N J L;let⟨g0,hF,V,_,_⟩:=o.C n g I;rw[K]at V;cases V with
 |gd=>
  rw[hs,ht]at hF;let⟨h1,h2,G,M,h4,h5⟩:=hF w<|o.r.r n H;have v:=IG (lot:=lot) (Live:=λn=>n<E.size) L O j9 j7 r q É yQ;have y:fE (lot n) w (w.setChan J j9 q É j7 r yQ):=⟨dx v.r.symm,λj hj=>v.jH j<|o.r.I n H j hj,λa z=>v.M n H a z,λa z=>v.N n H a z,λa _=>v.I a⟩;let⟨T,hT⟩:=jc<|h5.jO ⟨y.r,y.I,y.N,y.Y,y.S⟩;have W:ŭ (lot n).d (Cg J)=(lot n).d:=bn (λe f=>by simp[Cg]at f;grind) _;have D:∀e∈Cg J,(∀b,(è e).touch?=À b->b.loc=.obj J/\b.kind=Ŕ)/\(è e).low w.heap.size:=by
   intro e f;simp[Cg]at f;rcases f with rfl|rfl
   .exact⟨λb h=>by simp[è,ÿ]at h;subst h;exact⟨U,U⟩,Q⟩
   .exact⟨λb h=>by simp[è,ÿ]at h,Q⟩
  have e2:ft B n .no=B:=by funext j;unfold ft;split<;>simp[*]
  obtain⟨t,q1,q2,q3,q4,Y⟩:=o.pT I (h4 w j9 q j7 r yQ O) v (by rwa[W]) (Ç M) (λe f=>⟨λb h=>Î ⟨J,((D e f).1 b h).1,L,((D e f).1 b h).2⟩,(D e f).2⟩) (M6 o.r.l nG λl F b h=>by obtain⟨e,f,rfl⟩:=í F;let⟨z1,z2⟩:=(D e f).1 b h;refine Î (Î ⟨z2,λp a z hl sP=> ?_⟩);have:=o.r.s p a J z (by rw[hl,z1]) sP;omega);rw[W,e2]at Y;refine⟨t,_,T,G,q1,q2,q3,M,λk x K p=> ?_,nG,λl F b h=> ?_,λl F=> ?_,Y⟩
  .rw[q4 k K,p];simp only[bG,ž];unfold ţ;rw[if_pos (by simp[h2,M])]
  .obtain⟨e,f,rfl⟩:=í F;exact(D e f).1 b h
  .obtain⟨e,f,rfl⟩:=í F;simp[Cg]at f;intro m;rcases f with rfl|rfl<;>simp[è]
end
def fH(b:Nat):Ú:=⟨b,0,ë⟩
def gQ(b:Nat):Ú:=⟨b,1,ë⟩
inductive GS where
 |cl (c reg:Nat)
 |ju (reg:Nat)
 |gR (r s:Nat)
def GS.st:GS->Int
 |.cl c a=>c*fT+a
 |.ju a=>a
 |.gR _ _=>0
def GS.sm:GS->Int
 |.gR _ s=>s
 |_=>0
def GS.ok:GS->Prop
 |.cl c r=>c<1000000/\r<1000000/\(c=0->r=0)
 |.ju r=>0<r/\r<1000000
 |.gR r s=>r+s<1000000
structure gU(w:Æ)(b:Nat)(G:GS):Prop where
 C:w.cell? (fH b)=À (Ć æ G.st)
 M:w.cell? (gQ b)=À (Ć ŗ G.sm)
 I:w.frozen? (fH b)=Ã
 N:w.frozen? (gQ b)=Ã
 r:G.ok
theorem zO(h:w.cell? a=À x):(w.setCell a v).cell? a=À v:=by unfold Ġ at h|-;unfold ĉ;grind
theorem xH(h:a.block≠p.block\/a.off≠p.off):(w.setCell a v).cell? p=w.cell? p:=by unfold Ġ ĉ;grind
theorem Nk:kE (w.setCell a v) b=kE w b:=by unfold kE ĉ;grind
def rH:(w.setCell a v).frozen? p=w.frozen? p:=by simp_all
theorem kR(h:j≠a.block):(w.setCell a v).heap[j]?=w.heap[j]?:=by unfold ĉ;grind
def jM:(w.setCell a v).heap.size=w.heap.size:=by simp_all
theorem xI(h:(w.cell? p).isSome=É):((w.setCell a v).cell? p).isSome=É:=by unfold Ġ ĉ at*;grind
theorem aeV{Live Y:Nat->Prop}{c:Nat->e7}(f:Y a.block)(l:a.spot=ë)(m:∀k,Live k->¬(c k).C a)(g:∀k,Live k->∀b,(c k).C b->b.spot=ë):o6 Live Y c w (w.setCell a v):=by
 refine⟨jM,λj h=>kR λe=>h<|e▸f,λk i b d=>xH ?_,λ_ _ _ _=>rH,λb d=>xI d⟩;by_cases e:a.block=b.block
 .right;intro n;have:=g k i b d;let⟨o,p,q⟩:=b;let⟨r,s,t⟩:=a;grind
 .exact Ç e
section
variable{b:Nat}{G:GS}
def gU.uJ(h:gU w b G)(a:u.cell? (fH b)=w.cell? (fH b))(c:u.cell? (gQ b)=w.cell? (gQ b))(d:u.frozen? (fH b)=w.frozen? (fH b))(e:u.frozen? (gQ b)=w.frozen? (gQ b)):gU u b G:= ⟨a.trans h.C,c.trans h.M,d.trans h.I,e.trans h.N,h.r⟩
def gU.iM(h:gU w b G)(c:a.block≠b):gU (w.setCell a v) b G:= h.uJ (xH<|Ç c) (xH<|Ç c) rH rH
def gU.IK{G':GS}(h:gU w b G)(a:G'.sm=G.sm)(d:G'.ok)(e:c=G'.st):gU (w.setCell (fH b)<|Ć æ c) b G':= ⟨by rw[zO h.C,e],by rw[xH (Î<|by simp[fH,gQ]),h.M,a],by rw[rH,h.I],by rw[rH,h.N],d⟩
def gU.V4{G':GS}(h:gU w b G)(a:G'.st=G.st)(d:G'.ok)(e:c=G'.sm):gU (w.setCell (gQ b)<|Ć ŗ c) b G':= ⟨by rw[xH (Î<|by simp[fH,gQ]),h.C,a],by rw[zO h.M,e],by rw[rH,h.I],by rw[rH,h.N],d⟩
end
theorem IL(a:0<=h)(b:h<18446744073709551616):æ.wrap h=h:=by have:æ.wrap h=h%18446744073709551616:=rfl;rw[this];omega
def aeW(a:4294967296<=h)(b:h<18446744073709551616):æ.wrap (h+18446744069414584320)=h-4294967296:=by have:æ.wrap (h+18446744069414584320)=(h+18446744069414584320)%18446744073709551616:=rfl;rw[this];omega
theorem aeX(a:0<=h)(b:h<4294967296):ŗ.wrap h=h:=by have:ŗ.wrap h=h%4294967296:=rfl;rw[this];omega
def pU:Int:=18446744069414584320
def GS.jA:GS->GS
 |.cl (c+1) reg=>if c=0/\0<reg then .ju reg else .cl c reg
 |G=>G
section
variable{b:Nat}
theorem gU.aeY(h:gU w b (.cl i 0))(a:i+1<1000000):æ.wrap ((GS.cl i 0).st+fT)=(GS.cl (i+1) 0).st/\gU (w.setCell (fH b)<|Ć æ<|æ.wrap<|(GS.cl i 0).st+fT) b (.cl (i+1) 0):=by
 have e:æ.wrap ((GS.cl i 0).st+fT)=(GS.cl (i+1) 0).st:=by simp only[GS.st,fT];grind [IL]
 exact⟨e,h.IK (G':=.cl (i+1) 0) U ⟨a,Z,Z⟩ e⟩
def gU.jA(h:gU w b (.cl (i+1) n)):æ.wrap ((GS.cl (i+1) n).st+pU)=(GS.jA<|.cl (i+1) n).st/\gU (w.setCell (fH b)<|Ć æ<|æ.wrap<|(GS.cl (i+1) n).st+pU) b (GS.jA<|.cl (i+1) n):=by
 let⟨f,a,g⟩:=h.r;have d:æ.wrap ((GS.cl (i+1) n).st+pU)=(i:Int)*fT+n:=by simp only[GS.st,fT,pU];rw[aeW Z Z];omega
 have e:æ.wrap ((GS.cl (i+1) n).st+pU)=(GS.jA<|.cl (i+1) n).st:=by
  rw[d];simp only[GS.jA];by_cases q:i=0/\0<n
  .rw[if_pos q];obtain⟨rfl,_⟩:=q;simp[GS.st]
  .rw[if_neg q];rfl
 refine⟨e,h.IK ?_ ?_ e⟩
 .simp only[GS.jA];split<;>rfl
 .simp only[GS.jA];by_cases q:i=0/\0<n
  .rw[if_pos q];exact⟨q.2,a⟩
  .rw[if_neg q];exact⟨Z,a,λe=>by omega⟩
theorem gU.V5(h:gU w b (.cl i n))(f:0<i)(a:n+1<1000000):æ.wrap ((GS.cl i n).st+1)=(GS.cl i<|n+1).st/\gU (w.setCell (fH b)<|Ć æ<|æ.wrap<|(GS.cl i n).st+1) b (.cl i (n+1)):=by
 let⟨d,g,j⟩:=h.r;have e:æ.wrap ((GS.cl i n).st+1)=(GS.cl i<|n+1).st:=by simp only[GS.st,fT];grind [IL]
 exact⟨e,h.IK (G':=.cl i (n+1)) U ⟨d,a,λe=>by omega⟩ e⟩
def gU.V7(h:gU w b (.ju i)):gU (w.setCell (fH b)<|Ć æ 0) b (.gR i 0):= h.IK (G':=.gR i 0) U (by have:=h.r;simp only[GS.ok]at this|-;omega) U
theorem gU.jr{r:Nat}(h:gU w b (.gR (r+1) i)):gU (w.setCell (gQ b)<|Ć ŗ<|ŗ.wrap<|(GS.gR (r+1) i).sm+1) b (.gR r (i+1)):=by have:=h.r;simp only[GS.ok]at this;refine h.V4 (G':=.gR r (i+1)) U (by simp only[GS.ok];omega) ?_;simp only[GS.sm];grind [aeX]
def gU.ki{r:Nat}(h:gU w b (.gR r (i+1))):gU (w.setCell (gQ b)<|Ć ŗ<|(GS.gR r<|i+1).sm-1) b (.gR r i):=by have:=h.r;simp only[GS.ok]at this;refine h.V4 (G':=.gR r i) U (by simp only[GS.ok];omega) ?_;simp only[GS.sm];omega
def gU.aeZ{G:GS}(h:gU w b G):(0<=G.st/\G.st<fT)↔∀c a,G=.cl c a->c=0:=by
 have d:=h.r;cases G with
 |cl c a=>
  let⟨r,s,f⟩:=d;simp only[GS.st,fT];constructor
  .intro q g i e;cases e;omega
  .intro q;have:=q c a U;subst this;omega
 |ju a=>simp only[GS.ok]at d;simp only[GS.st,fT];exact⟨λ_ _ _ e=>(by cases e),λ_=>by omega⟩
 |gR r s=>simp only[GS.st,fT];exact⟨λ_ _ _ e=>(by cases e),λ_=>by omega⟩
end
inductive jv where
 |jr|iy|gq (W:Nat)|iV (W:Nat)|im (r:Nat)
inductive ji where
 |iR|lG (p:SP)|wr|ki|gq|kK
section
variable(P:Õ)(main:Bool)(B:Nat)(b:Nat)(J:Jd)
def E8:Nat->Jd
 |0=>J
 |r+1=>λl g=>l.d=1/\aeN P main (gQ b) (match r with|0=>J|_=>ff P main<|E8 r) l g
def IN(W:Nat):Jd:=λl g=>l.d=1/\aeL P main (fH b) 0 (E8 P main b J W) l g
def IP(W:Nat):Jd:=λl g=>l.d=1/\VW P main (fH b) (λv=>if v=(W:Int)then IN P main b J W else λ_ _=>True) l g
def Nl:Jd:=λl g=>l.d=1/\M9 P main (fH b) pU (λs=>if s=0\/(fT<=s/\s<1000000*fT/\s%fT<1000000)then J else if 0<s/\s<1000000 then ff P main (IP P main b J s.toNat)else λ_ _=>True) l g
def xK:Jd:=λl g=>l.d=0/\E6 P main (Ķ<|fH b) (Nl P main b J) l g
def Cj:jv->Jd
 |.jr=>xK P main b J
 |.iy=>Nl P main b J
 |.gq W=>IP P main b J W
 |.iV W=>IN P main b J W
 |.im r=>E8 P main b J r
def E9:Jd:=λl g=>l.d=0/\E6 P main (cK<|fH b) J l g
def V8:Jd:=λl g=>l.d=1/\VW P main (fH b) (λv=>if v=0 then E9 P main b J else λ_ _=>True) l g
def IQ:Jd:=λl g=>l.d=1/\aeM P main (gQ b) (V8 P main b J) l g
def Nn:Jd:=λl g=>l.d=1/\E6 P main (.write<|gQ b) (IQ P main b J) l g
def Np(p:SP):Jd:=λl g=>l.d=1/\Ch P main (fH b) B (λ_=>E9 P main b J) (λv=>if v%fT=0 then Nn P main b J else IQ P main b J) p l g
def pV:ji->Jd
 |.iR=>λl g=>∃k,k<=B/\Np P main B b J (.fU k) l g
 |.lG p=>Np P main B b J p
 |.wr=>Nn P main b J
 |.ki=>IQ P main b J
 |.gq=>V8 P main b J
 |.kK=>E9 P main b J
end
section
variable{P:Õ}{Y:Nat->Prop}{S:Nat->Jd}{tr:Nat->gk}{f:Nat->il}{lot:Nat->e7}{gs:Array Ó}{t:ğ}
theorem iL.C{Live:Nat->Prop}(h:iL n Live Y lot w t)(E:Live i){l:e7}(s:∀b,l.O b->(lot i).O b) (x:∀b,l.I b->(lot i).M b\/(b<w.heap.size/\¬Y b/\(∀k,Live k->¬(lot k).O b)/\∀a:Ú,a.block=b->oF t i (û a))) (u:∀a,l.r a->(lot i).r a) (y:∀a,l.N a->(lot i).C a\/(Y a.block/\(∀k,Live k->¬(lot k).r a)/\oF t i (û a))) (F:l.K=(lot i).K) (D:l.d=(lot i).d) (G:l.w=w) (H:∀b,l.O b->¬l.I b) (I:∀a,l.r a->¬l.N a):iL n Live Y (gi lot i l) w t:=by
 have v:∀b,l.M b->(lot i).M b\/(b<w.heap.size/\¬Y b/\(∀k,Live k->¬(lot k).O b)/\∀a:Ú,a.block=b->oF t i (û a)):=λb g=>g.elim (λq=>Ç<|Ç<|s b q)<|x b;have B:∀a,l.C a->(lot i).C a\/(Y a.block/\(∀k,Live k->¬(lot k).r a)/\oF t i (û a)):=λa f=>f.elim (λq=>Ç<|Ç<|u a q)<|y a;refine⟨λk j c o m b g=> ?_,λk j c o m a f=> ?_,λk c b g=> ?_,λk c a f=> ?_,λk c b g=> ?_,λk c a f=> ?_,λk c b g=> ?_,h.N,λk c=> ?_,λk c=> ?_,λk c=> ?_,h.l,h.q,h.s,λk c a f=> ?_⟩
 .by_cases e:k=i
  .subst e;rw[gO]at g;rw[gB lot _<|ą m];exact h.o k j c o m b<|s b g
  .rw[gB lot _ e]at g;by_cases p:j=i
   .subst p;rw[gO];intro q;rcases v b q with z|⟨_,_,z,_⟩
    .exact h.o k j c o m b g z
    .exact z k c g
   .rw[gB lot _ p];exact h.o k j c o m b g
 .by_cases e:k=i
  .subst e;rw[gO]at f;rw[gB lot _<|ą m];exact h.h k j c o m a<|u a f
  .rw[gB lot _ e]at f;by_cases p:j=i
   .subst p;rw[gO];intro q;rcases B a q with z|⟨_,z,_⟩
    .exact h.h k j c o m a f z
    .exact z k c f
   .rw[gB lot _ p];exact h.h k j c o m a f
 .by_cases e:k=i
  .grind [gO]
  .rw[gB lot _ e]at g|-;exact h.m k c b g
 .by_cases e:k=i
  .grind [gO]
  .rw[gB lot _ e]at f|-;exact h.g k c a f
 .by_cases e:k=i
  .subst e;rw[gO]at g;exact(v b g).elim (h.I k c b) λz=>z.2.1
  .rw[gB lot _ e]at g;exact h.I k c b g
 .by_cases e:k=i
  .subst e;rw[gO]at f;exact(B a f).elim (h.e k c a) λz=>z.1
  .rw[gB lot _ e]at f;exact h.e k c a f
 .by_cases e:k=i
  .subst e;rw[gO]at g;exact(v b g).elim (h.fq k c b) λz=>z.1
  .rw[gB lot _ e]at g;exact h.fq k c b g
 .by_cases e:k=i
  .grind [gO,fE.fQ]
  .rw[gB lot _ e];exact h.r k c
 .by_cases e:k=i
  .subst e;rw[gO];refine⟨λa f=>(h.S k c).fi a<|s _ f,λa f=> ?_,λa f=>(h.S k c).I a<|u a f,λa f=> ?_⟩
   .rcases x _ f with(z|z)|⟨_,_,_,z⟩
    .exact((h.S k c).fi a z).r
    .exact(h.S k c).C a z
    .exact z a U
   .rcases y _ f with(z|z)|⟨_,_,z⟩
    .exact((h.S k c).I a z).r
    .exact(h.S k c).r a z
    .exact z
  .rw[gB lot _ e];exact h.S k c
 .by_cases e:k=i
  .subst e;rw[gO,D];exact h.f k c
  .rw[gB lot _ e];exact h.f k c
 .have e:(lot k).K a:=by
   grind [gO,gB]
  let⟨p,q⟩:=h.n k c a e;grind [gO,gB]
def gE.M(b:gE P n Y S tr f lot gs w t){J:Jd}{T:gk}{K:il}{l:e7}(c:gs[i]?=À g)(d:g.status=Ð\/g.status=Ğ)(h:iL n (λi=>i<gs.size) Y (gi lot i l) w t)(hF:kJ P (i==0) J T l g): gE P n Y (ft S i J) (ft tr i T) (ft f i K) (gi lot i l) gs w t:=by
 refine⟨h,λk x a=> ?_,b.I⟩;by_cases e:k=i
 .subst e;rw[c]at a;obtain rfl:=Ĥ a;rw[gy,gy,gy,gO];exact⟨g,hF,.gd,d,Ç U⟩
 .rw[fD S _ e,fD tr _ e,fD f _ e,gB lot _ e];exact b.C k x a
end
end Go.Proofs.Y.fw
namespace Go.Proofs.Y.fw
open Go Go.Conc Go.Proofs.Y.Lift
open Go.ConcN (RelBy fork_knows)
def zP(t:ğ)(p:Nat)(l:dP):Prop:=∀q a,Ě t q=À a->a.loc=l->a.write=É->Before t q p
theorem zP.Nq{u:ğ}{l:dP}(h:zP qJ i l)(j:∀c∈u,∀b,c.act.touch?=À b->b.loc=l->b.write=É->False):zP (qJ++u) i l:=by
 intro q a e f g;rcases mo e with⟨_,d⟩|⟨_,c,d,k,_⟩
 .exact(h q a d f g).app u
 .grind
def zP.ae0{l:dP}(h:zP qJ i l)(b:bC qJ n i):oF qJ n l:=λq a c d e=>Knows.of_before (h q a c d e) b
theorem ae1{l:dP}(h:oF qJ i l)(c:wQ.g=i)(j:wQ.act.touch?=ë):zP (qJ++#[wQ]) qJ.size l:=by
 intro q a d e f;rcases mo d with⟨_,b⟩|⟨_,k,b,m,_⟩
 .exact Î<|(h q a b e f).hb_new (ß _) (by rw[ć<|ß _];simp) c
 .grind
structure Fx where
 L:Nat
 m:Nat
 C:Nat
 I:Nat->Nat
def Fx.M(F:Fx)(b:Nat):Prop:=b=F.C\/∃k,k<=F.m/\b=F.I k
def Fx.G(F:Fx)(x:Ú):Prop:=∃b,F.M b/\(x=fH b\/x=gQ b)
def iZ(F:Fx)(k:Nat):Ú:=⟨F.I k,2,ë⟩
def Fx.Nr(F:Fx)(a:Nat->Option Nat)(x:Ú)(g:Option Nat):Prop:=(x=gQ F.C/\g=À 0)\/∃k j,k<=F.m/\x=gQ (F.I k)/\a k=À j/\g=À (F.L+1+j)
structure TI(F:Fx)(t0:Nat)(jd:dP->Prop)(sp rl:Nat)(V:Nat->Nat->Prop)(pk:Nat->Nat)(fs:Nat->Option Nat)(rx:Nat->Prop)(ql:Nat->Nat)(t:ğ):Prop where
 N:t0<=t.size
 M:∀p a x,Ě t p=À a->a.loc=û x->F.G x->(p<t0/\t.g? p=À 0)\/a.kind=Ŕ\/(a.kind=.said/\F.Nr fs x (t.g? p))
 zR:∀x,x<sp->∀p,p<t0->t.g? p=À 0->bC t (F.L+x) p
 Y:∀k,1<=k->k<=rl->t.act? (pk k)=À (Ř<|Ķ<|fH<|F.I k)/\t.g? (pk k)=À F.L/\t.heard (pk k)
 I:∀k,1<=k->k<=rl->∀a:Ú,(V k a.block\/a=iZ F k)->zP t (pk k) (û a)
 c:∀b,F.M b->NoRelease (fH b) t
 r:∀x,x<sp->rx x->RelBy (fH F.C) t (F.L+x) (ql x)/\∀p a,Ě t p=À a->t.g? p=À (F.L+x)->p<=ql x\/((∃y:Ú,a.loc=û y/\y.block=F.C)/\a.kind=Ŕ)
 S:∀p a,t0<=p->Ě t p=À a->t.g? p=À 0\/∃x,x<sp/\t.g? p=À (F.L+x)
 e:∀p a,p<t0->Ě t p=À a->a.loc.isMemory=É->bC t 0 p\/(jd a.loc/\a.kind=Ŕ)
 d:∀p g,p<t0->t.g? p=À g->g≠0->t.counts p->∃j,t.g? j=À 0/\HappensBefore t p j
section
variable{F:Fx}{t0:Nat}{jd:dP->Prop}{sp rl:Nat}{V:Nat->Nat->Prop}{pk:Nat->Nat}{fs:Nat->Option Nat}{rx:Nat->Prop}{ql:Nat->Nat}{t u:ğ}
theorem IT(h:t.g? i=À n):i<t.size:=by unfold Ņ at h;grind
def Fa(h:t.g? i=À n):(t++u).g? i=À n:=by rwa[aF<|IT h]
theorem Ns{a:dK}(h:Ě t i=À a):i<t.size:=by let⟨b,c,_⟩:=dL h;grind
structure IU(F:Fx)(sp rl:Nat)(V:Nat->Nat->Prop)(fs:Nat->Option Nat)(rx:Nat->Prop)(t u:ğ)(i:Nat):Prop where
 C:∀op∈u,∀a,op.act.touch?=À a->op.g=i
 S:i=0\/(∃x,x<sp/\i=F.L+x)\/∀op∈u,op.act.touch?=ë
 M:∀op∈u,∀a x,op.act.touch?=À a->a.loc=û x->F.G x->a.kind=Ŕ\/(a.kind=.said/\F.Nr fs x (À i))
 fG:∀op∈u,∀(a:dK) (y:Ú),op.act.touch?=À a->a.write=É->a.loc=û y->∀k,1<=k->k<=rl->¬V k y.block/\y≠iZ F k
 N:∀op∈u,∀b,F.M b->op.act≠Ř (dM<|fH b)
 I:∀x,x<sp->rx x->(∀r,RelBy (fH F.C) t (F.L+x) r->RelBy (fH F.C) (t++u) (F.L+x) r)/\(F.L+x=i->∀op∈u,∀a,op.act.touch?=À a->(∃y:Ú,a.loc=û y/\y.block=F.C)/\a.kind=Ŕ)
def TI.C(h:TI F t0 jd sp rl V pk fs rx ql t)(f:IU F sp rl V fs rx t u i):TI F t0 jd sp rl V pk fs rx ql (t++u) where
 N:=by rw[Array.size_append];have:=h.N;omega
 M p a x n y hc:=by
  rcases mo n with⟨d,c⟩|⟨d,m,c,l,j⟩
  .rw[aF d];exact h.M p a x c y hc
  .refine Î ((f.M m c a x l y hc).imp id λq=>⟨q.1,?_⟩);have:(t++u).g? p=À i:=by unfold Ņ;rw[j];simp[f.C m c a l]
   rw[this];exact q.2
 zR x r p d o:=(h.zR x r p d<|by rwa[aF<|Ô d h.N]at o).app u;Y k c l:=by let⟨v,s,b⟩:=h.Y k c l;have w:=IT s;exact⟨by rwa[dN w],Fa s,(heard_old w).2 b⟩
 I k c l a n:=(h.I k c l a n).Nq λm B b z y C=>by have:=f.fG m B b a z C y k c l;exact n.elim this.1 this.2
 c b z:=(h.c b z).app λm B=>f.N m B b z;r x r hr:=by
  let⟨v,s⟩:=h.r x r hr;let⟨D,E⟩:=f.I x r hr;refine⟨D _ v,λp a n o=> ?_⟩;rcases mo n with⟨d,c⟩|⟨d,m,c,l,j⟩
  .exact s p a c<|by rwa[aF d]at o
  .have e:(t++u).g? p=À i:=by unfold Ņ;rw[j];simp[f.C m c a l]
   rw[e]at o;exact Î<|E (Ĥ o).symm m c a l
 S p a d n:=by
  rcases mo n with⟨D,c⟩|⟨_,m,c,l,j⟩
  .rw[aF D];exact h.S p a d c
  .have e:(t++u).g? p=À i:=by unfold Ņ;rw[j];simp[f.C m c a l]
   rw[e];rcases f.S with q|⟨x,r,q⟩|q
   .exact Ç<|by rw[q]
   .exact Î ⟨x,r,by rw[q]⟩
   .rw[q m c]at l;cases l
 e p a d n hm:=by rw[touchAt_old<|Ô d h.N]at n;exact(h.e p a d n hm).imp (·.app u) id
 d p g d o kQ hc:=by have w:=Ô d h.N;rw[aF w]at o;rw[eg w]at hc;let⟨j,v,s⟩:=h.d p g d o kQ hc;exact⟨j,Fa v,ec u s⟩
theorem xL(f:∀c∈u,c.act.touch?=ë)(h:∀c∈u,∀b,F.M b->c.act≠Ř (dM<|fH b)):IU F sp rl V fs rx t u 0 where
 C c e a d:=by rw[f c e]at d;cases d
 S:=Ç U;M c e a x d:=by rw[f c e]at d;cases d
 fG c e a y d:=by rw[f c e]at d;cases d
 N:=h;I x hx g:=by refine⟨λr g=>g.app λj l m i=> ?_,λ_ c e a d=>by rw[f c e]at d;cases d⟩;let⟨z,k,_⟩:=i;rcases mo k with⟨q,_⟩|⟨_,c,n,o,_⟩;all_goals grind
def TI.ae2(h:TI F t0 jd sp rl V pk fs rx ql t){b:Nat->Option Nat}(c:∀k y,fs k=À y->b k=À y):TI F t0 jd sp rl V pk b rx ql t:= {h with M:=λp a x d e f=>(h.M p a x d e f).imp id (Or.imp id λq=>⟨q.1,q.2.imp id λ⟨k,j,g,i,l,m⟩=>⟨k,j,g,i,c k j l,m⟩⟩)}
theorem TI.Fb(h:TI F t0 jd sp rl V pk fs rx ql t){y:cW}(j:wQ.g=0/\wQ.act=.go (F.L+sp))(k:y.g=F.L+sp/\y.act=.start)(m:Τ t 0=0)(n:Τ t (F.L+sp)=0)(B:¬rx sp)(o:∀wQ,rx wQ->wQ<sp):TI F t0 jd (sp+1) rl V pk fs rx ql (t++#[wQ,y]):=by
 have q:∀c∈#[wQ,y],c.act.touch?=ë:=by
  intro c a;simp at a;rcases a with rfl|rfl
  .rw[j.2];rfl
  .rw[k.2];rfl
 have r:∀c∈#[wQ,y],∀b,F.M b->c.act≠Ř (dM<|fH b):=by grind
 have d:=h.C<|xL q r;refine{d with zR:=λz s p f i=> ?_,r:=λz s l=>d.r z (o z l) l,S:=λp a f u=>((d.S p a f u).imp id λ⟨z,v,e⟩=>⟨z,Z,e⟩)}
 .by_cases e:z<sp
  .exact d.zR z e p f i
  .obtain rfl:z=sp:=Z
   rw[aF<|Ô f h.N]at i;let⟨c,v,w⟩:=ģ.1 i;have:=bm v;rw[w]at this;exact cN j k m n this
theorem ae3{y:cW}(d:wQ.g=0/\wQ.act=.go k)(e:y.g=k/\y.act=.start)(j:Τ t 0=0)(m:Τ t k=0){l:dP}:(pS t 0 l->pS (t++#[wQ,y]) k l)/\(oF t 0 l->oF (t++#[wQ,y]) k l):=by
 have q:∀c∈#[wQ,y],c.act.touch?=ë:=by
  intro c a;simp at a;rcases a with rfl|rfl
  .rw[d.2];rfl
  .rw[e.2];rfl
 refine⟨λh p a f i=> ?_,λh p a f i n=> ?_⟩
 .rcases mo f with⟨_,b⟩|⟨_,c,b,o,_⟩
  .exact cN d e j m<|h p a b i
  .grind
 .rcases mo f with⟨_,b⟩|⟨_,c,b,o,_⟩
  .exact cN d e j m<|h p a b i n
  .grind
theorem TI.ae4(h:TI F t0 jd sp rl V pk fs rx ql t)(f:wQ.g=F.L)(i:wQ.act=Ř (Ķ<|fH<|F.I<|rl+1))(l:Τ t F.L=0)(q:∀a:Ú,(V (rl+1) a.block\/a=iZ F (rl+1))->oF t F.L (û a)): TI F t0 jd sp (rl+1) V (ft pk (rl+1) t.size) fs rx ql (t++#[wQ]):=by
 have m:∀c∈#[wQ],c.act.touch?=ë:=by
  intro c e;have:c=wQ:=by simpa using e
  rw[this,i];rfl
 have d:=h.C (xL m λc e b _=>by grind);have n:(t++#[wQ])[t.size]?=À wQ:=by rw[ć<|ß _];simp
 have j:∀k,k<=rl->ft pk (rl+1) t.size k=pk k:=λk r=>fD pk _ Z;refine{d with Y:=λk b o=> ?_,I:=λk b o a p=> ?_}
 .by_cases e:k=rl+1
  .subst e;rw[gy];exact⟨by rw[ey n,i],by simp[Ņ,f],⟨F.L,by simp[Ņ,f],by rwa[cM<|ß _]⟩⟩
  .rw[j k Z];exact d.Y k b Z
 .by_cases e:k=rl+1
  .grind [gy,ae1]
  .rw[j k Z];exact d.I k b Z a p
theorem TI.ae5(h:TI F t0 jd sp rl V pk fs rx ql t){x:Nat}(r:x<sp)(d:wQ.g=F.L+x)(f:wQ.act=Ř (Ķ<|fH F.C))(k:Τ t (F.L+x)=0)(s:¬rx x): TI F t0 jd sp rl V pk fs (λz=>rx z\/z=x) (ft ql x t.size) (t++#[wQ]):=by
 have l:∀c∈#[wQ],c.act.touch?=ë:=by
  intro c a;have:c=wQ:=by simpa using a
  rw[this,f];rfl
 have j:=h.C (xL l λc a b _=>by grind);have b:(t++#[wQ])[t.size]?=À wQ:=by rw[ć<|ß _];simp
 refine{j with r:=λz m n=> ?_};by_cases e:z=x
 .subst e;rw[gy];refine⟨⟨by rw[ey b,f],by simp[Ņ,d],⟨F.L+z,by simp[Ņ,d],by rwa[cM<|ß _]⟩,λi u o=> ?_⟩,λp a q _=>Ç ?_⟩
  .have:=IT o;simp at this;omega
  .have:=Ns q;simp at this;omega
 .rw[fD ql _ e];exact j.r z m<|n.resolve_right e
def V9(e:t.act? i=À (Ř<|Ķ a))(f:t.g? i=À k)(h:t.heard i)(l:NoRelease a t)(c:wQ.g=n)(m:wQ.act=Ř (cK a))(o:Τ t n=0):bC (t++#[wQ]) n i:=by
 have b:=IT f;have d:(t++#[wQ])[t.size]?=À wQ:=by rw[ć<|ß _];simp
 refine⟨t.size,wQ,d,c,Î<|.single<|Î ⟨.marked b (Î<|by rwa[dN b]) (by rw[ey d,m]) λj _ q=> ?_,(heard_old b).2 h,⟨n,by simp[Ņ,c],by rwa[cM<|ß _]⟩⟩⟩;rw[dN q];exact l j
theorem TI.kF(h:TI F t0 jd sp rl V pk fs rx ql t)(G:wQ.g=0)(o:wQ.act=Ř (cK<|fH F.C))(H:Τ t 0=0)(k:∀x,x<sp->rx x): (∀p a,Ě (t++#[wQ]) p=À a->a.loc.isMemory=É->bC (t++#[wQ]) 0 p\/((jd a.loc\/∃x:Ú,a.loc=û x/\x.block=F.C)/\a.kind=Ŕ))/\(t++#[wQ]).HandedOver:=by
 have Q:wQ.act.touch?=ë:=by rw[o];rfl
 have s:=λx c=>by let⟨b,_⟩:=h.r x c<|k x c;exact V9 b.act b.g b.heard (h.c _<|Ç U) G o H
 have u:∀p a,Ě (t++#[wQ]) p=À a->p<t.size/\Ě t p=À a:=λp a l=>by rcases mo l with q|⟨_,v,d,w,_⟩;all_goals grind
 have B:∀p q x,t.g? p=À (F.L+x)->t.g? q=À (F.L+x)->p<=q->Before (t++#[wQ]) p q:=λp q x d w S=>by
  rcases Nat.lt_or_ge p q with f|i
  .exact Î<|.single<|Ç ⟨f,_,Fa d,Fa w⟩
  .exact Ç Z
 refine⟨λp a l I=> ?_,λp g C J K=> ?_⟩
 .let⟨f,d⟩:=u p a l;by_cases e:p<t0
  .rcases h.e p a e d I with q|⟨b,i⟩
   .exact Ç<|q.app _
   .grind
  .rcases h.S p a Z d with q|⟨x,c,q⟩
   .let⟨v,m,n⟩:=ģ.1 q;have:=bm m;rw[n]at this;exact Ç<|this.app _
   .let⟨b,i⟩:=h.r x c<|k x c;rcases i p a d q with z|⟨j,P⟩
    .exact Ç<|Knows.of_before (B p (ql x) x q b.g z)<|s x c
    .grind
 .let⟨z,D,M,N⟩:=K;let⟨f,d⟩:=u p z D;have O:t.g? p=À g:=by rwa[aF f]at C
  have E:=(eg f).1 ⟨z,D,M,N⟩;by_cases e:p<t0
  .let⟨j,b,i⟩:=h.d p g e O J E;exact⟨j,Fa b,ec _ i⟩
  .rcases h.S p z Z d with q|⟨x,c,q⟩
   .grind
   .let⟨b,_⟩:=h.r x c<|k x c;let⟨r,v,m,n,i⟩:=s x c;have j:(t++#[wQ]).g? r=À 0:=by unfold Ņ;rw[m];simp[n]
    refine⟨r,j,?_⟩;rcases(B p (ql x) x q b.g<|Nat.le_of_not_lt λP=>b.after p P q E).trans i with P|P;all_goals grind
end
end Go.Proofs.Y.fw
namespace Go.Proofs.Y.fw
open Go Go.Conc Go.Proofs.Y.Lift
open Go.ConcN (sumTo)
structure Ph extends Fx where
 P:Õ
 S:Nat
 n:Nat
 q:Nat
 Y:Nat
 f:Nat
 r:Nat->Nat
 a:Nat->Nat
 b:Nat->Nat
 c:Nat->Â
 z:Â
 B:Nat
 γ:Type
 l:γ
 i:Nat->Prop
 p:Nat->γ->γ->Prop
 d:Nat->γ->(Nat->Prop)->Æ->Prop
 o:Nat->ByteArray
 k:Nat->ByteArray
 g:Nat->(Nat->Nat)->Jd
 h:Nat->Jd
 e:Nat->Nat->Jd
 j:(Nat->Nat)->Jd
inductive mL(F:Ph):Nat->F.γ->Prop
 |uF:mL F 0 F.l
 |Ck {k:Nat} {s s':F.γ} (h:mL F k s) (hn:F.p k s s'):mL F (k+1) s'
def je(F:Ph)(p:Nat):Ú:=⟨F.Y,p,ë⟩
inductive fR where
 |go (j:Nat)|kV (j:Nat)|rd (j:Nat)|iy (j:Nat)|iE (r:Nat)|kF (r:Nat)|fu (p:ji)|fV
inductive jk where
 |kA (k:Nat)|mk (k:Nat)|dn (k:Nat) (p:jv)
inductive gG where
 |mK (r:Nat)|fu (r:Nat) (p:ji)|jz (r:Nat)|nY (r:Nat)
inductive gZ where
 |n5|fV (p:jv)|jh (N:Nat)
section
variable(F:Ph)
def Fc:Jd:=λl g=>∃N,QuitsD F.P N l.d g
def kj(l:e7):e7:={l with O:=λ_=>False,I:=λ_=>False,r:=λ_=>False,N:=λ_=>False,q:=True}
def zS:Jd:=λl g=>Cj F.P Ã F.C (Fc F) .jr (kj l) g
def Cl(c j r:Nat):Jd:=vL F.P Ã c F.z λx=>match x with
 |some v=>λl g=>v=F.c (j+r*F.n)->pV F.P Ã F.B (F.I<|F.r<|j+r*F.n) (F.e c<|j+r*F.n) .iR l g
 |none=>zS F
def uK(l:e7)(i:Nat):e7:={l with r:=λa=>l.r a/\a≠je F (F.a i),N:=λa=>l.N a\/a=je F (F.a i)}
def o7(l:e7)(k:Nat):e7:={l with O:=λ_=>False,I:=l.M,r:=λa=>l.r a/\a≠je F (F.b k)/\a≠iZ F.toFx k,N:=λa=>l.N a\/a=je F (F.b k)\/a=iZ F.toFx k}
def JW(c j:Nat):gG->Jd
 |.mK r=>Cl F c j r
 |.fu r p=>pV F.P Ã F.B (F.I<|F.r<|j+r*F.n) (F.e c<|j+r*F.n) p
 |.jz r=>F.e c<|j+r*F.n
 |.nY r=>λl g=>l.w.cell? (je F<|F.a<|j+r*F.n)=À (ħ<|F.k<|j+r*F.n)/\Cl F c j (r+1) (uK F l<|j+r*F.n) g
def JI(sg:Nat->F.γ):jk->Jd
 |.kA k=>F.h k
 |.mk k=>λl g=>∃p V,F.p (k-1) (sg<|k-1) p/\F.d k p V l.w/\(∀b,V b->l.M b)/\l.w.cell? (je F<|F.b k)=À (ħ<|F.o k)/\Cj F.P Ã (F.I k) (ff F.P Ã<|F.h k) .jr (o7 F l k) g
 |.dn k p=>Cj F.P Ã (F.I k) (ff F.P Ã<|F.h k) p
def JE:gZ->Jd
 |.n5=>zS F
 |.fV p=>Cj F.P Ã F.C (Fc F) p
 |.jh N=>oG F.P N
def IV(j:Nat)(a:Nat->Nat):Jd:=λl g=>∃c,F.g j (ft a (j-1) c) l g
def Wa(j:Nat)(a:Nat->Nat):Jd:=λl g=>l.d=1/\E6 F.P É (.read<|gQ F.C) (IV F j a) l g
def Nt(j:Nat)(a:Nat->Nat):Jd:=λl g=>l.d=1/\M9 F.P É (fH F.C) fT (λs=>if s=fT then ff F.P É (Wa F j a)else if fT<s/\s<1000000*fT/\s%fT=0 then ff F.P É (IV F j a)else λ_ _=>True) l g
def zU(a:Nat->Nat):Nat->Jd
 |0=>pV F.P É F.B F.C (F.j a) .iR
 |r+1=>IB F.P É (a<|F.n-(r+1))<|zU a r
def Fe(a:Nat->Nat):Nat->Jd
 |0=>zU F a F.n
 |r+1=>zN F.P É (a<|(F.q-(r+1))%F.n) (F.c<|F.q-(r+1))<|Fe a r
def JM(dk:Nat->Nat):fR->Jd
 |.go j=>F.g j dk
 |.kV j=>IV F j dk
 |.rd j=>Wa F j dk
 |.iy j=>Nt F j dk
 |.iE r=>Fe F dk r
 |.kF r=>zU F dk r
 |.fu p=>pV F.P É F.B F.C (F.j dk) p
 |.fV=>F.j dk
def lr(x:Nat)(a:Ú):Prop:=if x=0 then(∃k,1<=k/\k<=F.m/\(a=iZ F.toFx k\/a=je F (F.b k)))else∃i,i<F.q/\i%F.n=x-1/\a=je F (F.a i)
end
def fR.sp(n:Nat):fR->Nat
 |.go j|.kV j|.rd j|.iy j=>j
 |_=>n+1
def fR.ad(n:Nat):fR->Nat
 |.iy j=>j
 |.go j|.kV j|.rd j=>j+1
 |_=>n+1
def fR.lW(q:Nat):fR->Nat
 |.go _|.kV _|.rd _|.iy _=>0
 |.iE r=>q-r
 |_=>q
def fR.iY(n:Nat):fR->Nat
 |.kF r=>n-r
 |.fu _|.fV=>n
 |_=>0
def ji.rI:ji->Nat
 |.wr|.ki=>1
 |_=>0
def fR.gw:fR->Nat
 |.fu p=>p.rI
 |_=>0
def jv.kB:jv->Nat
 |.jr|.iy=>1
 |_=>0
def gZ.kB:gZ->Nat
 |.n5=>1
 |.fV p=>p.kB
 |_=>0
def gZ.nH:gZ->Prop
 |.n5=>False
 |_=>True
def lH:Option gZ->Nat
 |none=>1
 |some e=>e.kB
def jv.ie:jv->Prop
 |.jr=>False
 |_=>True
def gZ.ie:gZ->Prop
 |.n5=>False
 |.fV p=>p.ie
 |_=>True
def jk.md:jk->Nat
 |.kA k=>k
 |.mk k=>k-1
 |.dn k _=>k
def jk.rl:jk->Nat
 |.kA k=>k
 |.mk k=>k-1
 |.dn k .jr=>k-1
 |.dn k _=>k
def jk.od:jk->Nat
 |.kA k=>k
 |.mk k=>k-1
 |.dn k .jr|.dn k .iy=>k-1
 |.dn k _=>k
def gG.iG:gG->Nat
 |.mK r=>r
 |.fu r _|.jz r|.nY r=>r+1
def gG.kl:gG->Nat
 |.mK r|.fu r _|.jz r|.nY r=>r
def gG.gw(F:Ph)(j:Nat)(k:Nat):gG->Nat
 |.fu r p=>if F.r (j+r*F.n)=k then p.rI else 0
 |_=>0
structure fO(F:Ph) where
 M:fR
 S:jk
 C:Nat->gG
 N:Nat->Option gZ
 I:Nat->Nat
 c:Nat->F.γ
 V:Nat->Nat->Prop
 e:Nat->Nat
 d:Nat->Option Nat
 f:Nat->Nat
 b:GS
 a:Nat->GS
 g:Option Nat
 h:Nat->Nat
section
variable{F:Ph}
def fO.r(E:fO F):Nat:=E.M.sp F.n
def fO.G(E:fO F)(x:Nat):Nat:=if x<E.M.ad F.n then lH (E.N x)else 0
def fO.ie(E:fO F)(x:Nat):Prop:=∃e,E.N x=À e/\e.ie
def fO.nH(E:fO F)(x:Nat):Prop:=∃e,E.N x=À e/\e.nH
def fO.Y(E:fO F)(b:Nat):Prop:=F.M b\/b=F.Y\/∃j,j+2<=E.r/\b=E.I j
def sQ(n j Q s:Nat):Prop:=∀i,i<s↔j+i*n<Q
def kM:fR->il
 |.fu .ki=> .im
 |_=> .no
def kW(F:Ph)(c:Nat):gG->il
 |.mK _=> .rG c F.z
 |.fu _ .ki=> .im
 |_=> .no
end
structure Ph.Ok(F:Ph):Prop where
 N:1<=F.n
 r:1<=F.L
 fW:F.n+F.q+F.m<1000
 I:∀i,i<F.q->F.r i<=F.m
 M:∀k,k<=F.m->F.I k≠F.C
 S:∀k k',k<=F.m->k'<=F.m->F.I k=F.I k'->k=k'
 C:¬F.M F.Y
 a:∀i i',i<F.q->i'<F.q->F.a i=F.a i'->i=i'
 pi:∀k k',1<=k->k<=F.m->1<=k'->k'<=F.m->F.b k=F.b k'->k=k'
 Nu:∀i k,i<F.q->1<=k->k<=F.m->F.a i≠F.b k
 gh:∀b,F.M b\/b=F.Y->F.S<=b
 Y:(∀k,1<=k->k<=F.m->F.b k≠F.f)/\∀i,i<F.q->F.a i≠F.f
structure iA(F:Ph)(E:fO F)(lot:Nat->e7)(sz:Nat)(w:Æ):Prop where
 gN:∀i,i<sz->∀a,(lot i).C a->(∃k,k<=F.m/\a=iZ F.toFx k)\/∃p,p≠F.f/\a=je F p
 o:∀x,E.r<=x->x<=F.n->∀a,lr F x a->(lot 0).r a
 ln:E.r<=F.n->(lot 0).N (iZ F.toFx 0)/\∀b,F.i b->(lot 0).I b
 e:0<E.r->∀k,E.S.md<k->k<=F.m->(lot F.L).r (iZ F.toFx k)/\(lot F.L).r (je F<|F.b k)
 f:0<E.r->E.N 0=ë->(lot F.L).N (iZ F.toFx E.S.md)/\∀b,E.V E.S.md b->(lot F.L).I b
 h:∀j,j+2<=E.r->E.N (j+1)=ë->∀r,j+r*F.n<F.q->(E.C j).kl<=r->(lot<|F.L+1+j).r (je F<|F.a<|j+r*F.n)
 l:∀j,j+2<=E.r->E.N (j+1)=ë->(lot<|F.L+1+j).N (iZ F.toFx 0)/\∀b,F.i b->(lot<|F.L+1+j).I b
 S:∀x,E.nH x->lot (F.L+x)=kj (lot<|F.L+x)
 M:∀i,(i=0\/∃x,x<E.r/\i=F.L+x/\¬E.nH x)->¬(lot i).q
 c:∀i,0<i->i<F.L->lot i=kj (lot i)
 I:∀k,k<=E.S.md->∀b,E.V k b->b<w.heap.size/\¬E.Y b/\∀i,i<sz->¬(lot i).O b
 N:∀k,k<=E.S.md->∀i,i<sz->¬(lot i).r (iZ F.toFx k)
 g:∀k,1<=k->k<=E.S.md->∀i,i<sz->¬(lot i).r (je F<|F.b k)
 d:∀j,j+2<=E.r->∀r,j+r*F.n<F.q->r<(E.C j).kl->∀i,i<sz->¬(lot i).r (je F<|F.a<|j+r*F.n)
structure Wd(F:Ph)(E:fO F)(w:Æ):Prop where
 C:gU w F.C E.b
 I:∀k,k<=F.m->gU w (F.I k) (E.a k)
 jw:∀j,j+2<=E.r->∃buf s,w.heap[E.I j]?=À (χ F.q buf (decide<|j<E.M.iY F.n) s (E.C j).iG Ã)/\sQ F.n j (E.M.lW F.q) s/\(E.C j).iG<=s/\buf.size=s-(E.C j).iG/\∀i,i<s-(E.C j).iG->buf[i]?=À (F.c<|j+((E.C j).iG+i)*F.n)
 M:∀k,k<=E.S.md->mL F k (E.c k)/\F.d k (E.c k) (E.V k) w
 S:∀k,1<=k->k<=E.S.md->w.cell? (je F<|F.b k)=À (ħ<|F.o k)
 N:∀j,j+2<=E.r->∀r,j+r*F.n<F.q->r<(E.C j).kl->w.cell? (je F<|F.a<|j+r*F.n)=À (ħ<|F.k<|j+r*F.n)
structure Ps(F:Ph)(E:fO F):Prop where
 v:E.V 0=F.i
 C:∀j,E.M=.go j\/E.M=.kV j\/E.M=.rd j\/E.M=.iy j->j<=F.n
 K:∀j,E.M=.kV j\/E.M=.rd j\/E.M=.iy j->1<=j
 L:∀r,(E.M=.iE r->r<=F.q)/\(E.M=.kF r->r<=F.n)
 J:E.r=0->E.S=.kA 0
 I:∀k,(E.S=.kA k->k<=F.m)/\(E.S=.mk k->1<=k/\k<=F.m)/\(∀p,E.S=.dn k p->1<=k/\k<=F.m)
 z:∀j,E.r<j+2->E.C j=.mK 0
 d:∀j r,j+2<=E.r->((∃p,E.C j=.fu r p)\/E.C j=.jz r\/E.C j=.nY r)->j+r*F.n<F.q
 l:∀j,j+2<=E.r->E.N (j+1)≠ë->j<E.M.iY F.n/\∃r,E.C j=.mK r/\∀i,j+i*F.n<F.q->i<r
 f:E.N 0≠ë->E.S=.kA F.m
 h:∀x,E.r<=x->E.N x=ë
 M:∀j j',j+2<=E.r->j'+2<=E.r->E.I j=E.I j'->j=j'
 o:∀j,j+2<=E.r->¬F.M (E.I j)/\E.I j≠F.Y/\F.S<=E.I j
 t:∀c reg,E.b=.cl c reg->c=bD (F.n+1) E.G/\reg=E.M.gw
 g:∀reg,E.b=.ju reg->bD (F.n+1) E.G=0/\reg=E.M.gw/\∃x,x<E.r/\E.g=À x/\(E.N x=À (.fV (.gq reg))\/E.N x=À (.fV (.iV reg)))
 u:∀r s,E.b=.gR r s->bD (F.n+1) E.G=0/\r+s=E.M.gw/\(0<r->∃x,x<E.r/\E.g=À x/\E.N x=À (.fV (.im r)))
 N:∀x p,E.N x=À (.fV p)->(∀W,p=.gq W\/p=.iV W->E.g=À x/\E.b=.ju W)/\(∀r,p=.im r->0<r/\E.g=À x/\∃s,E.b=.gR r s)
 B:E.M=.fu .gq\/E.M=.fu .kK\/E.M=.fV->bD (F.n+1) E.G=0
 e:∀k,1<=k->k<=F.m->E.S.od<k->E.a k=.cl 1 (bD F.n λj=>(E.C j).gw F j k)
 Y:∀k,k<=F.m->k<=E.S.od->(∃W,(E.S=.dn k (.gq W)\/E.S=.dn k (.iV W))/\E.a k=.ju W/\W=bD F.n λj=>(E.C j).gw F j k)\/(∃r s,E.S=.dn k (.im r)/\0<r/\E.a k=.gR r s/\r+s=bD F.n λj=>(E.C j).gw F j k)\/((∀p,E.S≠ .dn k p)/\((E.a k=.cl 0 0/\(bD F.n λj=>(E.C j).gw F j k)=0)\/∃s,E.a k=.gR 0 s/\s=bD F.n λj=>(E.C j).gw F j k))
 w:∀j r,j+2<=E.r->(E.C j=.fu r .gq\/E.C j=.fu r .kK\/E.C j=.jz r)->F.r (j+r*F.n)<=E.S.od
 H:∀j r,j+2<=E.r->E.C j=.fu r .gq->∃a b,E.a (F.r<|j+r*F.n)=.gR a b
 O:E.M=.fu .gq->∃a b,E.b=.gR a b
 S:(∀p,E.M≠ .fu p)->E.M≠ .fV->∃c,E.b=.cl c 0
 y:∀k,k<=F.m->E.a k=.cl 1 0->E.d k=ë
 D:∀j r,j+2<=E.r->E.C j=.fu r .wr->E.d (F.r<|j+r*F.n)=À j
def fe(F:Ph)(E:fO F)(a:Array Ó)(w:Æ):Prop:=∀i g,a[i]?=À g->g.status=Ů->
 (i=0/\E.M=.fu .ki/\E.b.sm=0)\/(∃j,j+2<=E.r/\E.N (j+1)=ë/\i=F.L+1+j/\((∃r,E.C j=.fu r .ki/\(E.a<|F.r<|j+r*F.n).sm=0)\/∃r b s c,E.C j=.mK r/\w.heap[E.I j]?=À (χ b #[] Ã s c Ã)))
structure PI(F:Ph)(t0:Nat)(jd:dP->Prop)(E:fO F)(S:Nat->Jd)(tr:Nat->gk)(kp:Nat->il)(lot:Nat->e7)(gs:Array Ó)(w:Æ)(t:ğ):Prop where
 b:gs.size=F.L+E.r
 I:gE F.P F.S E.Y S tr kp lot gs w t
 h:S 0=JM F E.I E.M/\kp 0=kM E.M
 m:0<E.r->E.N 0=ë->S F.L=JI F E.c E.S/\kp F.L=.no
 g:∀j,j+2<=E.r->E.N (j+1)=ë->S (F.L+1+j)=JW F (E.I j) j (E.C j)/\kp (F.L+1+j)=kW F (E.I j) (E.C j)
 k:∀x e,x<E.r->E.N x=À e->S (F.L+x)=JE F e/\kp (F.L+x)=.no/\((∃N,e=.jh N)->tr (F.L+x)=.fv)
 l:∀i,0<i->i<F.L->S i=oG F.P (E.h i)/\tr i=.fv/\kp i=.no
 a:iA F E lot gs.size w
 M:Wd F E w
 C:Ps F E
 d:TI F.toFx t0 jd E.r (E.S.rl) E.V E.e E.d E.ie E.f t
 c:fe F E gs w
 f:∀j r,j+2<=E.r->E.C j=.jz r->1<=F.r (j+r*F.n)->bC t (F.L+1+j) (E.e<|F.r<|j+r*F.n)
structure gM(F:Ph):Prop where
 C:F.Ok
 S:∀k s V w w',F.d k s V w->(∀b,V b->w'.heap[b]?=w.heap[b]?)->w'.cell? (iZ F.toFx k)=w.cell? (iZ F.toFx k)->w'.cell? (je F F.f)=w.cell? (je F F.f)->kE w' F.Y=kE w F.Y->(w'.os=w.os/\w'.output=w.output)->F.d k s V w'
 Ff:∀j dk l g w₁,F.g j dk l g->fE l l.w w₁->F.g j dk {l with w:=w₁} g
 I:∀j dk l g,F.g j dk l g->g.status=Ð
 N:∀k l g,F.h k l g->g.status=Ð
 Y:∀c i l g,F.e c i l g->g.status=Ð
 M:∀dk l g,F.j dk l g->g.status=Ð
 go:∀j dk l g,j<=F.n->F.g j dk l g->gp l->l.d=0/\∃(g' child:Ó) (X:Nat->Prop),g'.status=Ð/\child.status=Ð/\(∀w₁,Ù F.P É g w₁=.spawn g' child w₁ #[])/\(∀b,X b->l.O b)/\
  (1<=j->l.O (dk<|j-1)/\¬X (dk<|j-1)/\l.w.heap[dk<|j-1]?=À (χ F.q #[] Ã 0 0 Ã)/\F.S<=dk (j-1))/\
  (∀l':e7,gp l'->(∀b,X b\/l.I b->l'.I b)->l'.w=l.w->l'.d=0->¬l'.q->(∀b,¬l'.O b)->l'.K=l.K->l'.N=l.N->(∀a,l'.r a->l.r a)->ff F.P Ã (if j=0 then F.h 0 else Cl F (dk<|j-1) (j-1) 0) l' child)/\
  (∀l':e7,gp l'->l'.O=(λb=>l.O b/\¬X b/\(1<=j->b≠dk (j-1)))->(∀b,X b\/l.I b->l'.I b)->l'.w=l.w->l'.d=0->l'.q=l.q->l'.K=l.K->l'.N=l.N->(∀a,l'.r a->l.r a)->ff F.P É (JM F dk<|if j<F.n then .iy (j+1)else .iE F.q) l' g')
 f:∀k s V l g,k<F.m->F.h k l g->gp l->mL F k s->F.d k s V l.w->(∀b,V b->l.I b)->l.N (iZ F.toFx k)->l.r (iZ F.toFx<|k+1)->l.r (je F<|F.b<|k+1)->∀sg:Nat->F.γ,sg k=s->ff F.P Ã (JI F sg<|.mk (k+1)) l g
 h:∀l g,F.h F.m l g->gp l->ff F.P Ã (zS F) l g
 e:∀c j r s V l g,j+r*F.n<F.q->F.e c (j+r*F.n) l g->∀l':e7,gp l'->l'.O=l.O->(∀b,l.I b\/V b->l'.I b)->l'.w=l.w->l'.d=l.d->l'.q=l.q->l'.r=l.r->l'.K=l.K->mL F (F.r<|j+r*F.n) s->F.d (F.r<|j+r*F.n) s V l.w->l'.N (iZ F.toFx<|F.r<|j+r*F.n)->l'.r (je F<|F.a<|j+r*F.n)->ff F.P Ã (JW F c j<|.nY r) l' g
end Go.Proofs.Y.fw
