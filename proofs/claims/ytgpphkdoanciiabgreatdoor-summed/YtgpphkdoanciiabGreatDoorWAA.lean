/- Summed: the texts of the proof, packed by program out of some 260: remarks struck, names and blanks shortened, for the limit of a claim's size. -/
import Derived.KernelRfl
import Derived.Conc.Own
import Derived.Conc.Events
import Derived.Laws.Sem
import Derived.Conc.Own5
import Derived.Conc.CompanyDraw
import Derived.Conc.Know
import Derived.Conc.Beside
import Derived.Conc.MarkLaws
import Derived.Conc.CrowdComm
import Derived.Conc.CrowdTrace
import Derived.Conc.CrowdBase
set_option linter.all false
set_option maxRecDepth 1000000
set_option maxHeartbeats 8000000
open Option renaming some->À,none->ë,map_eq_some_iff->ģ,map_some->bH
open Go renaming TypeId->Á,Value->Â,World->Æ,Goroutine->Ó,Program->Õ,Operand->Ö,stepG->Ù,Addr->Ú,FuncId->à,execOp->ì,underlying->ø,resolve->ù,IntKind->ú,Event->ý,run_program->ă,variablesAt->Ą,invoke->č,builtin->Ē,Sem->ē,loadBytes->ĕ,Frame->Ę,Trace->ğ,BinOp->ġ,results->Ī,behindNumber->Į,FloatKind->ı,callFunc->ĵ,undef->ľ,yielded->ł,loadCellsFrom->Ō,convert->Œ,movedNumber->ŕ,Item->ś,movedPointer->Ţ,binOp->Ũ,elemOf->Ū,sameAddr->Ŭ,deafBehind->ŭ,eqGuard->ŷ,typeInfo->Δ,partners->Η,RuntimeError->Ι,storeCells->Κ,Next->Ο,cellAtBytes->ξ,choose->π,Tape->ψ,zeroValue->ω,loadVar->ae,Code->ak,store->ar,Oper->av,BoundsCode->ax,sizeOf->ay,storeVar->aJ,nilAhead->aR,lone->aU,load->aX,noView->aY,liesAt->aZ,findLabel->bj,stringish->bm,Unsupported->br,followBlind->bx,Act->bF,askRoom->bP,Machine->bR,Question->bU,asBool->bW,asAddr->bX,fieldPlace->bY,numberAt->b9,asNumber->cg,getObj->cm,shape->cu,exitTo->cC,gotoIn->cD,mayBeOne->cJ,runT->cW,MemOp->cX,loadCells->cZ,rowAt->c8,program->dc,asIntOf->de,viewAt->di,byteOf->dj,unwind->du,runN->dw,cellsIn->dx,asInt->dB,TypeDesc->dG,runN_add->dJ,Touch->dN,step->dR,Loc->dT,newRow->dU,PanicEntry->eh,isAgg->ey,Race->eG,newVar->eM,asAgg->eN,newObj->eO,frozen->eP,freeze->eX
open Bool renaming false->Ã,false_eq_true->Å,true->É,and_eq_true_iff->Ü,not_true->þ,not_false->Ă,and_eq_true->ě,or_eq_true_iff->Ŝ,eq_iff_iff->Χ,or_eq_true->bI
open Go.Sem renaming run_bind->Ä,runT_bind'->Ñ,run->ã,bind->ç,runT->é,run_bind'->Ĵ,bind_assoc'->ř,runT_eq->ź,runT_fst->Ρ,pure->aI,store->c9,halt->ew
open Or renaming inl->Ç,inr->Î
open Go.Result renaming andThen_ok->È,ok->ĥ,halt->bV
open Go.Op renaming operands->Ê,equal->ó,maxDepth->ā,eqGuardIn->į,twoPlaces->š,equalIn->Λ,addrSub->Μ,addrCmp->Ν,addrMod->Ξ,call->Ω,intDiv->ah,shift->aK,convert->aN,stringOp->bu,unary->bZ,makeInterface->cI,floatArith->cS,complexOp->dp,buildSlice->dD,intArith->dE,floatCmp->dF,binOp->dV,makeSlice->dW,fieldAddr->dX,indexAddr->dY,intBits->ea,nilCheck->eD,intCmp->eE
open Array renaming getElem?_eq_some_iff->Ë,getElem?_setIfInBounds_ne->Ï,getElem?_setIfInBounds_self_of_lt->Ò,mem_of_getElem?->Û,getElem?_eq_getElem->Ý,getElem?_append_right->ć,empty_append->Ď,append_empty->ď,mapM_eq_mapM_toList->Ĕ,mem_append->Ĝ,getElem?_push_lt->Ģ,getD_eq_getD_getElem?->ĩ,replicate->ĺ,append_assoc->Ļ,append_singleton->Ł,all_eq_true->Ń,getElem?_modify->Ň,mem_iff_getElem->ŉ,getElem?_setIfInBounds->Ś,getElem_map->ŵ,getElem_extract->κ,forIn_toList->aE,range->dC
open Go.stepG renaming exec->Ì,apply->bC
open Go.MemOp renaming ofEvents->Í
open Go.GoStatus renaming running->Ð,finished->Ğ,blocked->Ů
open Nat renaming lt_of_lt_of_le->Ô,le_refl->ß,le_trans->õ,exists_eq_add_of_le->Ε,div_le_div_right->ο,add_assoc->cP,le_of_eq->dz,zero_le->dA
open List renaming map_toArray->Ø,map_cons->â,map_nil->ä,mem_cons_self->î,mem_cons_of_mem->ò,eq_nil_of_length_eq_zero->Ā,zipIdx_cons->Ĭ,mem_cons->œ,mem_singleton->ū,foldlM_cons->Ζ,filter_eq_nil_iff->Υ,foldlM_nil->ζ,forIn_cons->η,mapM_cons->ν,forIn_nil->φ,map_eq_nil_iff->aj,flatMap_cons->aV,mapM_nil->cR
open Go.Value renaming pointer->Þ,int->Ć,string->ħ,bool->Ľ,tuple->ſ,nilIface->aW,slice->bS,nilFunc->bT,chan->eu,func->eL
open Go.Item renaming inRegion->á,code->Đ,inLoop->dq,inBlock->dH,inScope->dI
open Go.Act renaming eval->å
open Go.IntKind renaming u64->æ,i64->Ŋ,u32->ŗ
open Go.MemAct renaming ofEvent->è,touch?->ÿ,mark->Ř
open Go.Builtin renaming unsafeString_->ê,unsafeAdd_->ñ,unsafeSliceData_->ė,min2->Ĳ,append_->ĸ,firstCells->ļ,min_->ń,copy_->ő,len_->ş,cap_->Š,zeroCells->Ŷ,lenOf->Α,holdsCells->aB,mayShare->bb,unsafeSliceData->bl,unsafeString->cV
open Go.Conc renaming mem_ofEvents->í,touchAt->Ě,crowd->ķ,woken->ţ,stepG_region_draw->Ż,parked->Γ,Deaf->Τ,rcase->θ,stepG_unwanted->υ,g?_old->aG,knows_own->bn,deafBehind_still->bq,stepG_value->bA,stepG_enter->bB,Knows->bD,stepG_cond->cE,mem_listed->cF,stepG_none->cG,enter_at->cH,deaf_old->cN,touch_of->dO,act?_old->dQ,hb_app->ei,touch_mute->ek,counts_old->ep,act?_of->eC
open Go.Next renaming value->ï,enter->ũ,skip->aH
open Go.TypeDesc renaming pointer->ð,unsafePointer->đ,string->ę,int->Β,struct->df,slice->dh
open Go.Call renaming operands->ô
open Go.Conv renaming unsafePointer->ö,bytesToString->ü,seenAt->Ž,runesToString->aF,floatToFloat->aQ,intToString->bh,floatToInt->bK,intToInt->cT
open Go.Loc renaming cell->û,mark->ů
open Ne renaming symm->ą
open Go.World renaming frozen?->Ĉ,setCell->ĉ,freeze->Ė,cell?->Ġ,farLoad->ŋ,farStore->Ŧ,shape?->Θ,setChan->au,noCell->aP,viewStore->bJ
open Go.Extern.BytealgMakeNoZero renaming makeNoZero->Ċ,digits->ņ
open Go.Mode renaming atomic->ċ,plain->Ť
open Go.Obj renaming cells->Č,pending->Ÿ,chan->χ
open Go.Callee renaming builtin->ĝ,value->cj
open Option.some renaming inj->Ĥ,injEq->ž
open Go.Region renaming wanted->Ħ,schedule->bM,Mode->eJ
open Go.Instr renaming sliceBounds->Ĩ,sliceBound->ī,buildSlice->ĭ,storeAt->ĳ,makeSlice->Ĺ,extract->ō,fieldAt->Ŏ,indexAt->ŏ,sliceAt->Ő,makeInterface->ŝ,loadAt->Ş,sureAddr->ŧ,alloc->Ű,field->ű,slice->Ų,index->ų,build->Ŵ,panic->ż,box->ag,fill->az
open Go.Deferred renaming ofValue->İ
open Go.Mark renaming releaseMerge->Ķ,disable->cK,acquire->cL,noRoom->da,enable->dy,release->dP
open Go.Extern.AbiNoEscape renaming same->Ŀ
open Go.Halt renaming unsupported->ŀ
open Go.Trace renaming g?->Ņ
open Go.Stepped renaming next->ň
open Go.Touch.Kind renaming atomic->Ŕ,plain->eZ
open Go.Frame renaming raise->Ŗ,finish_at->ε,finish->aT,catches->cU,enter->dL
open Go.Unsupported renaming unsafePointer->ť
open Go.GStep renaming after->Ź,go->aS,ended->eV
open Go.Goroutine renaming again->ι
open Except renaming bind->ρ,pure->ς,error->bG,map->ck
open Go.Op.Complex renaming corrected->σ,quotient->ai,product->aC,arith->bg,conv->bL,cmp->cw,mul->cx,add->cy,sub->cz,quo->cA
open Go.BinOp renaming eql->aA,neq->aL
open Go.Operand renaming func->aO,const->dZ,global->ez
open Go.Code renaming cond->bz,region->bQ,refuse->dt,label->eb,block->ec,scope->ef,skip->eR,loop->eS,exit->eT,goto->eU
open Go.ConcN renaming sumTo->bE,fork_knows->cO
variable{i n j b k m J j9 j7 j6:Nat}{w u W jX:Æ}{v x z jQ:Â}{g:Ó}{a p:Ú}{h c:Int}{e t T:Á}{d q:Array Â}{P:Õ}{y:bF}{B:ByteArray}{X:Nat->Prop}{O:Option Ú}{l:List Â}{yQ:Bool}{K H:bF->Æ->Prop}{o:av}{D:Nat->Nat}{E:Array Ó}{L:List ś}{jJ:List Nat}{qX:List Ę}{qQ:Ö}{qJ:ğ}{zX:dT->Prop}{zQ:List Int}{zJ:Go.TypeInfo}{xX:Ö->Â}{xQ:ψ}{xJ:Nat×Nat}{wX:ak}{wQ:cX}{wJ:Array Bool}{vX:List ByteArray}{vQ:Â->Æ->Prop}{vJ:Go.Exit->bF->Æ->Prop}{yX:eJ}{Q:Array av}{f:Ę}{V:Array ý}{F:à}{s:Go.Func}
namespace Go.Proofs
theorem U{A:Sort _}{a:A}:a=a:=rfl
theorem Z{p:Prop}(h:p:=by omega):p:=h
theorem A{p:Prop}(h:p:=by decide):p:=h
theorem ft{p:Prop}(h:p:=by simp):p:=h
theorem fv{p:Prop}(h:p:=by kernel_rfl):p:=h
theorem gh{p:Prop}(h:p:=by rfl):p:=h
end Go.Proofs
namespace Go.Proofs.Y.Lift
open Go
abbrev fl{α:Type}:α->Prop:=λ_=>False
structure fy where
 jH:Nat->Nat->Prop
 C:Nat
instance:CoeFun fy λ_=>Nat->Nat->Prop:=⟨fy.jH⟩
def Bi(Y:fy):Prop:=(∀i j a,Y i j->Y i a->j=a)/\(∀i a j,Y i j->Y a j->i=a)/\(∀i j,Y i j->(i<Y.C↔j<Y.C))
def fy.r(Y a:fy):Prop:=(∀i j,Y i j->a i j)/\(Bi Y->Bi a)/\a.C=Y.C
def fy.N(Y:fy)(r a:Nat):fy:=⟨λi j=>Y i j\/(i=r/\j=a),Y.C⟩
def fy.M(Y:fy):Y.r Y:=⟨λ_ _ h=>h,id,U⟩
theorem fy.I{a b c:fy}(h:a.r b)(k:b.r c):a.r c:=⟨λi j x=>k.1 i j<|h.1 i j x,λx=>k.2.1<|h.2.1 x,k.2.2.trans h.2.2⟩
theorem fy.S{Y:fy}{r:Nat}(c:∀j,¬Y r j)(d:∀a,¬Y a i)(f:Y.C<=r)(g:Y.C<=i):Y.r (Y.N r i):=by
 refine⟨λ_ _ h=>Ç h,λb=>⟨?_,?_,?_⟩,U⟩
 .rintro a j k (x|⟨rfl,rfl⟩) (y|⟨e,rfl⟩)
  .exact b.1 _ _ _ x y
  .grind
  .grind
  .rfl
 .rintro a k j (x|⟨rfl,rfl⟩) (y|⟨rfl,e⟩)
  .exact b.2.1 _ _ _ x y
  .grind
  .grind
  .rfl
 .rintro a j (x|⟨rfl,rfl⟩)
  .exact b.2.2 _ _ x
  .show(a<Y.C↔j<Y.C);omega
def ic(Y:fy)(a b:Ú):Prop:=Y a.block b.block/\a.off=b.off/\a.spot=b.spot
def ic.r{Y b:fy}(h:Y.r b)(r:ic Y a p):ic b a p:=⟨h.1 _ _ r.1,r.2⟩
def ic.C{Y:fy}(r:ic Y a p)(n:Nat):ic Y (a.add n) (p.add n):=by
 let⟨b,c,d⟩:=r;unfold Addr.add;by_cases e:n=0
 .rw[if_pos e,if_pos e];exact⟨b,c,d⟩
 .rw[if_neg e,if_neg e];exact⟨b,by simp[c],U⟩
inductive fu(Y:fy):Â->Â->Prop
 |mJ (b:Bool):fu Y (Ľ b) (Ľ b)
 |iH (k:ú) (n:Int):fu Y (Ć k n) (Ć k n)
 |k9 (s:ByteArray):fu Y (ħ s) (ħ s)
 |lW:fu Y (Þ ë) (Þ ë)
 |jV {a a':Ú} (h:ic Y a a'):fu Y (Þ<|À a) (Þ<|À a')
 |ou (n c:Nat):fu Y (bS ë n c) (bS ë n c)
 |kS {a a':Ú} (h:ic Y a a') (n c:Nat):fu Y (bS (À a) n c) (bS (À a') n c)
 |vo:fu Y bT bT
 |fn (f:Fn):fu Y (eL f #[] #[]) (eL f #[] #[])
 |vp:fu Y aW aW
 |vq:fu Y (eu ë) (eu ë)
 |vr:fu Y (.map ë) (.map ë)
 |yD (t:Á) {v v':Â} (h:fu Y v v'):fu Y (.iface t v) (.iface t v')
 |oM {cs lX:Array Â} (hs:cs.size=lX.size) (h:∀i (h1:i<cs.size) (h2:i<lX.size),fu Y cs[i] lX[i]):fu Y (.agg cs) (.agg lX)
 |nR {cs lX:Array Â} (hs:cs.size=lX.size) (h:∀i (h1:i<cs.size) (h2:i<lX.size),fu Y cs[i] lX[i]):fu Y (ſ cs) (ſ lX)
def fu.fT{Y a:fy}(h:Y.r a)(r:fu Y v x):fu a v x:=by
 induction r with
 |mJ b=>exact .mJ b
 |iH k n=>exact .iH k n
 |k9 s=>exact .k9 s
 |lW=>exact .lW
 |jV b=>exact .jV (b.r h)
 |ou n c=>exact .ou n c
 |kS b n c=>exact .kS (b.r h) n c
 |vo=>exact .vo
 |fn f=>exact .fn f
 |vp=>exact .vp
 |vq=>exact .vq
 |vr=>exact .vr
 |yD t _ b=>exact .yD t b
 |oM c _ b=>exact .oM c b
 |nR c _ b=>exact .nR c b
structure fX(Y:fy)(cs lX:Array Â):Prop where
 r:cs.size=lX.size
 C:∀i (h1:i<cs.size) (h2:i<lX.size),fu Y cs[i] lX[i]
def fX.I{Y a:fy}(h:Y.r a){cs:Array Â}(r:fX Y cs d):fX a cs d:=⟨r.r,λi b c=>(r.C i b c).fT h⟩
theorem fX.S{Y:fy}(r:fX Y d q)(i:Nat):(d[i]?=ë/\q[i]?=ë)\/∃v b,d[i]?=À v/\q[i]?=À b/\fu Y v b:=by
 by_cases h:i<d.size
 .have a:i<q.size:=by rwa[<-r.r]
  exact Î ⟨d[i],q[i],Ý h,Ý a,r.C i h a⟩
 .have a:¬i<q.size:=by rwa[<-r.r]
  grind
def fX.N(Y:fy):fX Y #[] #[]:=⟨U,λi h=>absurd h ft⟩
theorem fX.Vk{Y:fy}(r:fX Y d q)(h:fu Y v x):fX Y (d.push v) (q.push x):=by
 refine⟨by simp[r.r],λi b c=> ?_⟩;simp only[Array.getElem_push];have e:=r.r;by_cases a:i<d.size
 .rw[dif_pos a,dif_pos Z];exact r.C i a Z
 .grind
theorem fX.qE{Y:fy}(r:fX Y d q)(n:Nat)(h:fu Y v x):fX Y (d.setIfInBounds n v) (q.setIfInBounds n x):=by
 refine⟨by simp[r.r],λi c e=> ?_⟩;have f:i<d.size:=by simpa using c
 have g:i<q.size:=by simpa using e
 have a:(d.setIfInBounds n v)[i]?=if n=i then À v else d[i]?:=by grind
 have b:(q.setIfInBounds n x)[i]?=if n=i then À x else q[i]?:=by grind
 rw[Ý c]at a;rw[Ý e]at b;by_cases j:n=i
 .grind
 .rw[if_neg j]at a b;rw[Ý f]at a;rw[Ý g]at b;injection a with a;injection b with b;rw[a,b];exact r.C i f g
def fX.tN{Y:fy}{cs b:Array Â}(r:fX Y cs d)(t:fX Y q b):fX Y (cs++q) (d++b):=by
 refine⟨by simp[r.r,t.r],λi c g=> ?_⟩;have e:=r.r;have f:=t.r;simp only[Array.getElem_append];by_cases a:i<cs.size
 .rw[dif_pos a,dif_pos Z];exact r.C i a Z
 .rw[dif_neg a,dif_neg Z];have:=t.C (i-cs.size) (by simp at c;omega) (by simp at c;omega);simpa[e]using this
def fX.FJ{Y:fy}(r:fX Y d q)(a b:Nat):fX Y (d.extract a b) (q.extract a b):=by refine⟨by simp[r.r],λi c e=> ?_⟩;rw[κ ..,κ ..];exact r.C _ _ _
def fX.M{Y:fy}(h:fu Y v x):fX Y #[v] #[x]:= ⟨U,λi a b=>by have:i=0:=(by simpa using a);subst this;exact h⟩
def fu.gX{Y:fy}(h:fu Y v x):fX Y v.cells x.cells:=by
 cases h with
 |oM a h=>exact⟨a,h⟩
 |mJ b=>exact fX.M<|.mJ b
 |iH k n=>exact fX.M<|.iH k n
 |k9 s=>exact fX.M<|.k9 s
 |lW=>exact fX.M .lW
 |jV b=>exact fX.M<|.jV b
 |ou n c=>exact fX.M<|.ou n c
 |kS b n c=>exact fX.M<|.kS b n c
 |vo=>exact fX.M .vo
 |fn f=>exact fX.M<|.fn f
 |vp=>exact fX.M .vp
 |vq=>exact fX.M .vq
 |vr=>exact fX.M .vr
 |yD t b=>exact fX.M<|.yD t b
 |nR a h=>exact fX.M<|.nR a h
def yE:Â->Bool
 |.agg _|ſ _=>Ã
 |_=>É
def FK(e:Á)(n:Nat):Prop:=(e=298\/e=299)/\n<=16
class AJ (P:Õ):Prop where
 lt:∀e n,FK e n->n<P.cellsOf e
def C7(e:Á)(n a:Nat):Prop:=n=a\/(n<=a/\FK e n)
structure pf(Y:fy)(s:Prop)(e:Á)(c c':Array Â):Prop where
 r:∀i (_:i<c.size) (_:i<c'.size),fu Y c[i] c'[i]
 I:c.size<=c'.size
 C:c.size=c'.size\/(s/\FK e c.size)
section
variable{Y d:fy}{s:Prop}{c c':Array Â}
def pf.M(h:fX Y c c'):pf Y s e c c':=⟨h.C,by rw[h.r];exact ß _,Ç h.r⟩
def pf.N(h:pf Y s e c c')(a:¬s):fX Y c c':=⟨h.C.resolve_right λq=>a q.1,h.r⟩
def pf.fT(h:pf Y s e c c')(l:Y.r d):pf d s e c c':=⟨λi a b=>(h.r i a b).fT l,h.I,h.C⟩
theorem pf.AK(h:pf Y s e c c')(i:Nat):(c[i]?=ë/\True)\/∃v a,c[i]?=À v/\c'[i]?=À a/\fu Y v a:=by
 by_cases q:i<c.size
 .have b:=Ô q h.I;exact Î ⟨c[i],c'[i],Ý q,Ý b,h.r i q b⟩
 .grind
def pf.adg(h:pf Y s e c c'):C7 e c.size c'.size:=h.C.imp id λq=>⟨h.I,q.2⟩
end
inductive fK(P:Õ){α:Type}(V:fy->α->α->Prop):fy->ē α->ē α->Prop
 |fH {Y:fy} {a a':α} (h:V Y a a'):fK P V Y (aI a) (aI a')
 |gE {Y:fy} {a a':Ú} {k k':Â->ē α} (ha:ic Y a a') (hk:∀v v',fu Y v v'->fK P V Y (k v) (k' v')):fK P V Y (.load Ť a k) (.load Ť a' k')
 |jg {Y:fy} {a a':Ú} {v v':Â} {k k':ē α} (ha:ic Y a a') (hv:fu Y v v') (hk:fK P V Y k k'):fK P V Y (c9 Ť a v k) (c9 Ť a' v' k')
 |vt {Y:fy} {c c':Array Â} {e:Á} {k k':Nat->ē α} (hc:fX Y c c') (hk:∀r r',(∀j,¬Y r j)->(∀i,¬Y i r')->Y.C<=r->Y.C<=r'->fK P V (Y.N r r') (k r) (k' r')):fK P V Y (.new (Č c e) k) (.new (Č c' e) k')
 |vu {Y:fy} {r r':Nat} {k k':Option (TypeId×Nat)->ē α} (hr:Y r r') (hk:∀e n n',C7 e n n'->fK P V Y (k<|À (e,n)) (k'<|À (e,n'))):fK P V Y (.shape r k) (.shape r' k')
 |Nv {Y:fy} {a a':Ú} {k k':Bool->ē α} (ha:ic Y a a') (hk:∀b b',(b'=É->b=É)->fK P V Y (k b) (k' b')):fK P V Y (.frozen a k) (.frozen a' k')
 |AL {Y:fy} {q:bU} {k k':Nat->ē α} (hk:∀n,fK P V Y (k n)<|k' n):fK P V Y (.choose q k) (.choose q k')
 |Jf {Y:fy} {k k':Õ->ē α} (hk:fK P V Y (k P) (k' P)):fK P V Y (.program k) (.program k')
 |C8 {Y:fy} {m:Mark} {k k':ē α} (hm:m=da\/∃f,m=.extern f) (hk:fK P V Y k k'):fK P V Y (.mark m k) (.mark m k')
 |fU {Y:fy} {h:Halt} {m:ē α}:fK P V Y (ew h) m
 |oN {Y:fy} {m m':ē α} (h:∀u x u',m.run P u≠ĥ x u'):fK P V Y m m'
def wN{α β:Type}{m:ē α}{f:α->ē β}(h:∀u x b,m.run P u≠ĥ x b):∀u x b,(m.bind f).run P u≠ĥ x b:=by
 intro u x b e;have c:(m>>=f).run P u=ĥ x b:=e;rw[Ä]at c;cases d:m.run P u with
 |ok a w=>exact h _ _ _ d
 |halt z w=>rw[d]at c;cases c
def fK.mo{α β:Type}{V:fy->α->α->Prop}{l:fy->β->β->Prop}{Y:fy}{m o:ē α}{f p:α->ē β}(h:fK P V Y m o) (g:∀i a k,Y.r i->V i a k->fK P l i (f a) (p k)):fK P l Y (m.bind f) (o.bind p):=by
 induction h with
 |fH h=>exact g _ _ _ (fy.M _) h
 |gE j _ d=>exact .gE j λv c b=>d v c b g
 |jg j b _ d=>exact .jg j b (d g)
 |vt q _ d=>exact .vt q λr s c e n v=>d r s c e n v λi a k t b=>g i a k (fy.I (fy.S c e n v) t) b
 |vu b _ d=>exact .vu b λe n v c=>d e n v c g
 |Nv j _ d=>exact .Nv j λb c v=>d b c v g
 |AL _ d=>exact .AL λn=>d n g
 |Jf _ d=>exact .Jf (d g)
 |C8 c _ d=>exact .C8 c (d g)
 |fU=>exact .fU
 |oN h=>exact .oN (wN h)
def yF:Â->Bool
 |Ć .u8 _=>É
 |_=>Ã
def C9(c:Array Â):Prop:=∀(k:Nat) (v:Â),c[k]?=À v->yF v=Ã
structure jm(Y:fy)(Sh:Nat->Prop)(u w:Æ):Prop where
 S:u.tape=w.tape
 N:u.drawn=w.drawn
 C:Bi Y
 I:Y.C<=u.heap.size
 M:Y.C<=w.heap.size
 r:∀i j,Y i j->∃c c' e fr wO,u.heap[i]?=À (Č c e fr)/\w.heap[j]?=À (Č c' e wO)/\pf Y (Sh j) e c c'/\(Sh j->fr.1=0/\c.size<=fr.2/\wO.2<=fr.2/\0<c.size/\(C9 c\/FK e c.size))/\(¬Sh j->fr=wO)/\fr.2<=c.size
structure nS(Y:fy)(Sh:Nat->Prop)(w w':Æ):Prop where
 r:w.heap.size<=w'.heap.size
 I:w'.os=w.os
 M:w'.output=w.output
 S:w'.tape=w.tape
 C:∀j,j<w.heap.size->(∀i,¬Y i j)->w'.heap[j]?=w.heap[j]?
 N:∀j,Sh j->j<w.heap.size->w'.heap[j]?=w.heap[j]?
def AN(Y:fy)(b:Nat->Prop)(e:ý):Prop:=
 (∃(a:Ú) (i:Nat),e.loc=û a/\Y i a.block/\e.sync=Ã/\(e.write=É->¬b a.block))\/e.loc=ů da\/∃f,e.loc=ů (.extern f)
def wP{α:Type}{m:Mode}{k:ē α}(h:yE v=É): ã P (c9 m a v k) w=(match w.cell? a with
 |some _=>if w.frozen? a then bV (ŀ<|ť "a write to bytes that a string shares") w else k.run P (w.setCell a v)
 |none=>match w.farStore P a v (m==ċ)with
  |.ok (w,_)=>k.run P w
  |bG h=>bV h w):=by
 cases v<;>first|rfl|cases h
def adh{α:Type}{m:Mode}{k:ē α}(h:yE v=É): é P (c9 m a v k) w V=(match w.cell? a with
 |some _=>
  if w.frozen? a then(bV (ŀ<|ť "a write to bytes that a string shares") w,V)
  else k.runT P (w.setCell a v) (V.push ⟨û a,É,m==ċ⟩)
 |none=>match w.farStore P a v (m==ċ)with
  |.ok (w,touched)=>k.runT P w (V++touched.toArray.map (⟨.cell ·,É,m==.atomic⟩))
  |bG h=>(bV h w,V)):=by
 cases v<;>first|rfl|cases h
def adi{α:Type}{m:Mode}{k:ē α}(h:yE v=Ã){x:α}:ã P (c9 m a v k) w≠ĥ x u:=by cases v<;>first|exact Bool.noConfusion h|(intro e;simp[ã]at e)
def adj{Y:fy}(h:fu Y v x):yE x=yE v:=by cases h<;>rfl
section
variable{Y:fy}
def AO(h:u.heap[a.block]?=À (Č d e xJ)):u.cell? a=if a.spot.isSome then ë else d[a.off]?:=by simp[Ġ,h]
def adk(h:u.heap[a.block]?=À (Č d e xJ))(b:Bool):∃x,u.farLoad P a b=bG x:=by simp[ŋ,h]
def adl(h:u.heap[a.block]?=À (Č d e xJ))(b:Bool):∃x,u.farStore P a v b=bG x:=by simp[Ŧ,h]
def jm.gE(h:jm Y X u w){a':Ú}(i:ic Y a a')(b:u.cell? a=À v):∃f,w.cell? a'=À f/\fu Y v f:=by
 let⟨j,k,l⟩:=i;let⟨c,s,e,t,y,m,n,o,_⟩:=h.r _ _ j;rw[AO m]at b;rw[AO n,<-k,<-l];cases g:a.spot with
 |some x=>rw[g]at b;cases b
 |none=>
  rw[g]at b;rcases o.AK a.off with⟨d,_⟩|⟨x,p,d,q,r⟩
  .simp[d]at b
  .simp[d]at b;subst b;exact⟨p,by simp[q],r⟩
theorem jm.adn(h:jm Y X u w)(g:ic Y a p)(i:u.cell? a=À v)(j:u.frozen? a=Ã):¬X p.block/\w.frozen? p=Ã:=by
 let⟨k,l,q⟩:=g;let⟨c,r,e,b,s,d,m,t,x,n,y⟩:=h.r _ _ k;rw[AO d]at i;have z:a.off<c.size:=by grind
 have o:(decide (b.1<=a.off)&&decide (a.off<b.2))=Ã:=by simpa[Ĉ,d]using j
 have f:¬X p.block:=by grind
 refine⟨f,?_⟩;have:=n f;subst this;simp only[Ĉ,m,<-l];exact o
def Vl{w:Æ}(h:w.heap[a.block]?=À (Č d e xJ))(b:a.spot=ë): (w.setCell a v).heap[a.block]?=À (Č (d.setIfInBounds a.off v) e xJ):=by simp[ĉ,Ň,h,b]
def j4{w:Æ}:(w.setCell a v).heap.size=w.heap.size:=by simp[ĉ]
def Jg{w:Æ}(h:a.block≠j):(w.setCell a v).heap[j]?=w.heap[j]?:=by simp[ĉ,Ň,h]
def jm.jg(h:jm Y X u w)(B:ic Y a p)(C:fu Y v z)(D:u.cell? a=À x)(m:¬X p.block):jm Y X (u.setCell a v) (w.setCell p z):=by
 let⟨d,E,F⟩:=B;have n:a.spot=ë:=by let⟨c,o,e,f,g,b,_⟩:=h.r _ _ d;rw[AO b]at D;simp_all
 refine⟨h.S,h.N,h.C,by rw[j4];exact h.I,by rw[j4];exact h.M,λi j k=> ?_⟩;let⟨c,o,e,f,g,b,q,r,G,t,y⟩:=h.r i j k;by_cases l:a.block=i
 .subst l;have:j=p.block:=h.C.1 _ _ _ k d;subst this;exact⟨_,_,e,f,g,Vl b n,Vl q (by rw[<-F,n]),by rw[<-E];exact pf.M<|(r.N m).qE _ C,λs=>absurd s m,t,by simpa using y⟩
 .exact⟨c,o,e,f,g,by rwa[Jg l],by rwa[Jg λe=>l<|h.C.2.1 _ _ _ d<|e▸k],r,G,t,y⟩
theorem jm.vt(h:jm Y X u w)(m:∀j,X j->j<w.heap.size)(n:fX Y d q): jm (Y.N u.heap.size w.heap.size) X {u with heap:=u.heap.push (Č d e)} {w with heap:=w.heap.push (Č q e)}:=by
 have a:∀i j,Y i j->i<u.heap.size/\j<w.heap.size:=by intro i j s;let⟨_,_,_,_,_,f,g,_⟩:=h.r i j s;grind
 have b:=fy.S (Y:=Y) (λj x=>absurd (a _ _ x).1 Z) (λi x=>absurd (a _ _ x).2 Z) h.I h.M;refine⟨h.S,h.N,b.2.1 h.C,by have:=h.I;simp[fy.N];omega,by have:=h.M;simp[fy.N];omega,?_⟩
 .rintro i j (x|⟨rfl,rfl⟩)
  .let⟨s,o,p,r,t,f,g,v,y,z,B⟩:=h.r i j x;let⟨k,l⟩:=a i j x;exact⟨s,o,p,r,t,by simp only[Ģ k];rw[<-f,Ý k],by simp only[Ģ l];rw[<-g,Ý l],v.fT b,y,z,B⟩
  .exact⟨d,q,e,(0,0),(0,0),ft,ft,pf.M<|n.I b,λs=>absurd (m _ s) Z,λ_=>rfl,dA _⟩
theorem nS.gd(Y:fy)(X:Nat->Prop)(w:Æ):nS Y X w w:=⟨ß _,U,U,U,λ_ _ _=>rfl,λ_ _ _=>rfl⟩
def nS.fj{b:fy}{w₁:Æ}(h:nS Y X w w₁)(k:nS b X w₁ u)(d:∀i j,b i j->Y i j\/w.heap.size<=j):nS Y X w u:= ⟨õ h.r k.r,k.I.trans h.I,k.M.trans h.M,k.S.trans h.S,λj a c=>(k.C j (Ô a h.r) λi y=>(d i j y).elim (c i) λz=>by omega).trans<|h.C j a c,λj s a=>(k.N j s<|Ô a h.r).trans<|h.N j s a⟩
def Jh{w:Æ}:(w.freeze a n).heap.size=w.heap.size:=by unfold Ė;split<;>simp
def ado{w:Æ}:(w.freeze a n).os=w.os:=by unfold Ė;split<;>rfl
def adp{w:Æ}:(w.freeze a n).output=w.output:=by unfold Ė;split<;>rfl
def Nw{w:Æ}:(w.freeze a n).tape=w.tape:=by unfold Ė;split<;>rfl
def Vm{w:Æ}:(w.freeze a n).drawn=w.drawn:=by unfold Ė;split<;>rfl
theorem Ji{w:Æ}(h:a.block≠j):(w.freeze a n).heap[j]?=w.heap[j]?:=by unfold Ė;split;all_goals grind
def sJ(a:Ú)(n:Nat)(b:Nat×Nat):Nat×Nat:=if n=0 then b else if b.1==b.2 then(a.off,a.off+n)else(min b.1 a.off,max b.2<|a.off+n)
theorem Vo{w:Æ}(h:w.heap[a.block]?=À (Č d e xJ)):(w.freeze a n).heap[a.block]?=À (Č d e<|sJ a n xJ):=by unfold Ė sJ;grind
def Vp(h:a.off=p.off)(n:Nat)(b:Nat×Nat):sJ a n b=sJ p n b:=by unfold sJ;rw[h]
theorem adq(h:a.off+n<=i)(b:xJ.2<=i):(sJ a n xJ).2<=i:=by unfold sJ;grind
theorem adr{b:Nat×Nat}(c:0<i)(d:xJ.1=0)(e:i<=xJ.2)(f:b.2<=xJ.2):(sJ a n xJ).1=0/\i<=(sJ a n xJ).2/\(sJ a n b).2<=(sJ a n xJ).2:=by unfold sJ;grind
def jm.ads(h:jm Y X u w)(y:ic Y a p)(n:Nat)(z:∀c e b,u.heap[a.block]?=À (Č c e b)->a.off+n<=c.size):jm Y X (u.freeze a n) (w.freeze p n):=by
 obtain⟨k,l,I⟩:=y;refine⟨Nw.trans<|h.S.trans Nw.symm,Vm.trans<|h.N.trans Vm.symm,h.C,by rw[Jh];exact h.I,by rw[Jh];exact h.M,λi j d=> ?_⟩;obtain⟨c,m,e,b,B,f,o,q,r,t,v⟩:=h.r i j d;by_cases g:a.block=i
 .subst g;have:j=p.block:=h.C.1 _ _ _ d k;subst this;refine⟨c,m,e,_,_,Vo f,Vo o,q,λs=> ?_,λs=> ?_,adq (z _ _ _ f) v⟩
  .obtain⟨C,D,E,x⟩:=r s;rw[<-Vp l];obtain⟨F,G,H⟩:=adr x.1 C D E;exact⟨F,G,H,x⟩
  .rw[t s,Vp l]
 .exact⟨c,m,e,b,B,by rwa[Ji g],by rwa[Ji λe=>g<|h.C.2.1 _ _ _ k<|e▸d],q,r,t,v⟩
theorem jm.G(h:jm Y X u w)(b:ic Y a p):w.frozen? p=É->u.frozen? a=É:=by let⟨d,f,j⟩:=b;let⟨c,k,e,l,m,g,i,n,o,q,r⟩:=h.r _ _ d;simp only[Ĉ,g,i,<-f,ě,decide_eq_true_eq];rintro⟨x,y⟩;by_cases s:X p.block;all_goals grind
theorem fK.gw{α:Type}{V:fy->α->α->Prop}{Y:fy}{m m':ē α}(h:fK P V Y m m'):∀{u w:Æ},jm Y X u w->(∀j,X j->j<w.heap.size)->∀{x:α} {E:Æ},m.run P u=ĥ x E->∀n:Array ý,∃(l:fy) (t:α) (p:Æ) (B:Array ý),Y.r l/\(∀i j,l i j->Y i j\/(u.heap.size<=i/\w.heap.size<=j))/\m'.runT P w n=(ĥ t p,n++B)/\V l x t/\jm l X E p/\nS Y X w p/\(∀e∈B,AN l X e)/\u.heap.size<=E.heap.size:=by
 induction h with
 |fH h=>
  intro u w d _ x E b n;simp only[ã]at b;cases b;exact⟨_,_,w,#[],fy.M _,λ_ _ h=>Ç h,by simp[é],h,d,nS.gd _ _ _,λe o=>by simp at o,ß _⟩
 |@gE Y a a' k k' ha hk D=>
  intro u w d C x E b n;simp only[ã]at b;cases f:u.cell? a with
  |none=>
   let⟨c,Q,e,fr,wO,O,_⟩:=d.r _ _ ha.1;let⟨z,s⟩:=adk (P:=P) O<|Ť==ċ;rw[f]at b;simp only[s]at b;cases b
  |some v=>
   rw[f]at b;let⟨W,S,y⟩:=d.gE ha f;let⟨l,t,p,B,F,G,I,J,K,g,L,H⟩:=D v W y d C b<|n.push ⟨û a',Ã,Ã⟩;refine⟨l,t,p,#[⟨û a',Ã,Ã⟩]++B,F,G,?_,J,K,g,λe o=> ?_,H⟩
   .simp only[é,S];rw[show((Ť==ċ)=Ã)from U,I];rw[<-Ļ,Ł]
   .rcases Ĝ.1 o with o|o
    .simp at o;subst o;exact Ç ⟨a',_,U,F.1 _ _ ha.1,U,λe=>by cases e⟩
    .exact L e o
 |@jg Y a a' v W k k' ha hv _ D=>
  intro u w d C x E b n;cases ho:yE v with
  |false=>exact absurd b<|adi ho
  |true=>
   rw[wP ho]at b;cases f:u.cell? a with
   |none=>
    let⟨c,Q,e,fr,wO,O,_⟩:=d.r _ _ ha.1;let⟨z,s⟩:=adl (P:=P) (v:=v) O<|Ť==ċ;rw[f]at b;simp only[s]at b;cases b
   |some y=>
    rw[f]at b;cases M:u.frozen? a with
    |true=>rw[M]at b;simp at b
    |false=>
     simp only[M,Å,if_false]at b;let⟨ns,hf'⟩:=d.adn ha f M;let⟨y',Nx,_⟩:=d.gE ha f;let⟨l,t,p,B,F,G,I,J,K,g,L,H⟩:=D (d.jg ha hv f ns) (by rwa[j4]) b<|n.push ⟨û a',É,Ã⟩;have S:(w.setCell a' W).heap.size=w.heap.size:=j4;have Vq:(u.setCell a v).heap.size=u.heap.size:=j4;refine⟨l,t,p,#[⟨û a',É,Ã⟩]++B,F,by rwa[S,Vq]at G,?_,J,K,?_,λe o=> ?_,by rwa[Vq]at H⟩
     .rw[adh<|(adj hv).trans ho,Nx];simp only[hf',Å,if_false];rw[show((Ť==ċ)=Ã)from U,I];rw[<-Ļ,Ł]
     .refine⟨by rw[<-S];exact g.r,g.I,g.M,g.S,λj N T=> ?_,λj s N=>(g.N j s<|by rwa[S]).trans<|Jg λe=>ns<|e▸s⟩;rw[g.C j (by rwa[S]) T];exact Jg λe=>T a.block<|e▸ha.1
     .rcases Ĝ.1 o with o|o
      .simp at o;subst o;exact Ç ⟨a',_,U,F.1 _ _ ha.1,U,λ_=>ns⟩
      .exact L e o
 |@vt Y c Q e k k' f _ D=>
  intro u w d C x E b n;simp only[ã]at b;have W:∀i j,Y i j->i<u.heap.size/\j<w.heap.size:=by intro i j S;let⟨_,_,_,_,_,O,hw',_⟩:=d.r i j S;grind
  have n1:∀j,¬Y u.heap.size j:=λj y=>absurd (W _ _ y).1 Z;have n2:∀i,¬Y i w.heap.size:=λi y=>absurd (W _ _ y).2 Z;let⟨l,t,p,B,F,G,I,J,K,g,L,H⟩:=D u.heap.size w.heap.size n1 n2 d.I d.M (d.vt C f) (λj s=>by have:=C j s;simp;omega) b n;refine⟨l,t,p,B,fy.I (fy.S n1 n2 d.I d.M) F,λi j S=> ?_,by simp only[é];exact I,J,K,?_,L,by simp at H;omega⟩
  .rcases G i j S with(y|⟨rfl,rfl⟩)|y
   .exact Ç y
   .exact Î ⟨ß _,ß _⟩
   .simp at y;exact Î ⟨Z,Z⟩
  .have hs:=g.r;simp at hs;refine⟨Z,g.I,g.M,g.S,λj N T=> ?_,λj s N=>(g.N j s<|by simp;omega).trans ?_⟩
   .rw[g.C j (by simp;omega) (λi z=>z.elim (T i) λz=>by omega)];simp[Ģ N]
   .simp[Ģ N]
 |@vu Y r r' k k' pg _ D=>
  intro u w d C x E b n;simp only[ã]at b;let⟨c,Q,e,fr,wO,O,hw',S,_⟩:=d.r _ _ pg;have f:u.shape? r=À (e,c.size):=by simp[Θ,O]
  have s:w.shape? r'=À (e,Q.size):=by simp[Θ,hw']
  rw[f]at b;let⟨l,t,p,B,h⟩:=D e c.size Q.size S.adg d C b n;exact⟨l,t,p,B,by simp only[é,s];exact h⟩
 |@Nv Y a a' k k' ha _ D=>
  intro u w d C x E b n;simp only[ã]at b;let⟨l,t,p,B,h⟩:=D (u.frozen? a) (w.frozen? a') (d.G ha) d C b n;exact⟨l,t,p,B,by simpa only[é]using h⟩
 |@AL Y q k k' _ D=>
  intro u w d C x E b n;simp only[ã]at b;cases M:q.forced with
  |true=>
   rw[M]at b;simp only[if_true]at b;let⟨l,t,p,B,h⟩:=D 0 d C b n;exact⟨l,t,p,B,by simpa only[é,M,if_true]using h⟩
  |false=>
   rw[M]at b;simp only[Å,if_false]at b;have S:jm Y X {u with drawn:=u.drawn+1} {w with drawn:=w.drawn+1}:=⟨d.S,by simp[d.N],d.C,d.I,d.M,d.r⟩;rw[d.S,d.N]at b;obtain⟨l,t,p,B,F,G,I,J,K,g,L,H⟩:=D (q.cut<|w.tape w.drawn q) S C (by rwa[d.S,d.N]) n;exact⟨l,t,p,B,F,G,by simp only[é,M,Å,if_false];exact I,J,K,⟨g.r,g.I,g.M,g.S,g.C,g.N⟩,L,H⟩
 |Jf _ D=>
  intro u w d C x E b n;simp only[ã]at b;let⟨l,t,p,B,h⟩:=D d C b n;exact⟨l,t,p,B,by simpa only[é]using h⟩
 |@C8 Y mk k k' hm _ D=>
  intro u w d C x E b n;simp only[ã]at b;let⟨l,t,p,B,F,G,I,J,K,g,L,H⟩:=D d C b<|n.push ⟨ů mk,Ã,É⟩;refine⟨l,t,p,#[⟨ů mk,Ã,É⟩]++B,F,G,?_,J,K,g,λe o=> ?_,H⟩
  .simp only[é];rw[I];rw[<-Ļ,Ł]
  .rcases Ĝ.1 o with o|o
   .simp at o;subst o;rcases hm with rfl|⟨f,rfl⟩
    .exact Î<|Ç U
    .exact Î<|Î ⟨f,U⟩
   .exact L e o
 |fU=>
  intro u w _ _ x E b n;simp only[ã]at b;cases b
 |oN h=>
  intro u w _ _ x E b n;exact absurd b<|h _ _ _
end
inductive jW:Â->Prop
 |mJ (b:Bool):jW (Ľ b)
 |iH (k:ú) (n:Int):jW (Ć k n)
 |k9 (s:ByteArray):jW (ħ s)
 |lW:jW (Þ ë)
 |ou (n c:Nat):jW (bS ë n c)
 |vo:jW bT
 |vp:jW aW
 |vq:jW (eu ë)
 |vr:jW (.map ë)
 |oM {cs:Array Â} (h:∀i (h:i<cs.size),jW cs[i]):jW (.agg cs)
 |nR {cs:Array Â} (h:∀i (h:i<cs.size),jW cs[i]):jW (ſ cs)
def jW.jH(h:jW v)(Y:fy):fu Y v v:=by
 induction h with
 |mJ b=>exact .mJ b
 |iH k n=>exact .iH k n
 |k9 s=>exact .k9 s
 |lW=>exact .lW
 |ou n c=>exact .ou n c
 |vo=>exact .vo
 |vp=>exact .vp
 |vq=>exact .vq
 |vr=>exact .vr
 |oM _ b=>exact .oM U λi c _=>b i c
 |nR _ b=>exact .nR U λi c _=>b i c
def nT(P:Õ):Prop:=∀t i z,P.info? t=À i->i.zero=À z->jW z
def jx{α:Type}:fy->α->α->Prop:=λ_ a b=>a=b
section
variable{Y:fy}
def fJ{α β:Type}{V:fy->α->α->Prop}{V':fy->β->β->Prop}{m c:ē α}{f d:α->ē β}(h:fK P V Y m c) (g:∀b a e,Y.r b->V b a e->fK P V' b (f a) (d e)):fK P V' Y (m>>=f) (c>>=d):=fK.mo h g
def sK{α β:Type}{c:fy->β->β->Prop}{m:ē α}{f d:α->ē β}(h:fK P jx Y m m) (g:∀b a,Y.r b->fK P c b (f a) (d a)):fK P c Y (m>>=f) (m>>=d):= fK.mo h λb a i j (e:a=i)=>by subst e;exact g b a j
def rv:fK P (λ_ a b=>a=P/\b=P) Y dc dc:=.Jf (.fH ⟨U,U⟩)
theorem Ny{α:Type}{V:fy->α->α->Prop}{e:Ι}(h:(∃x y s c,e=.bounds x y s c)\/(∃m,e=.error m)\/(∃m,e=.plain m)\/e=.nilDeref):fK P V Y (runtimePanic e) (runtimePanic e):=by unfold runtimePanic;refine fJ rv ?_;rintro f a g _ ⟨b,d⟩;rw[b,d];rcases h with⟨x,y,s,c,rfl⟩|⟨m,rfl⟩|⟨m,rfl⟩|rfl<;>exact .fU
theorem Da{α:Type}{V:fy->α->α->Prop}{k:ú}{y:Int}{c:ax}:fK P V Y (boundsPanic k h y c) (boundsPanic k h y c):=by
 unfold boundsPanic;simp only[];split
 .apply sK (.AL λn=> .fH U);grind [Ny]
 .grind [Ny]
def yH(t:Á):fK P (λ_ a b=>a=b/\P.info? t=À a) Y (Δ t) (Δ t):=by
 unfold Δ;apply fJ rv;rintro e a b _ ⟨c,d⟩;rw[c,d];cases h:P.info? t with
 |some i=>exact .fH ⟨U,U⟩
 |none=>exact .fU
def jf(t:Á):fK P (λ_ a b=>a=b/\P.underlying t=À a) Y (ø t) (ø t):=by
 unfold ø;apply fJ rv;rintro e a b _ ⟨c,d⟩;rw[c,d];cases h:P.underlying t with
 |some i=>exact .fH ⟨U,U⟩
 |none=>exact .fU
def FL(b:nT P)(t:Á):fK P fu Y (ω t) (ω t):=by
 unfold ω;apply fJ (yH t);rintro d a e _ ⟨rfl,h⟩;cases c:a.zero with
 |some z=>exact .fH ((b t a z h c).jH _)
 |none=>exact .fU
def nj(t:Á):fK P (λ_ a b=>a=b/\∃i,P.info? t=À i/\i.size=a) Y (ay t) (ay t):=by unfold ay;apply fJ (yH t);rintro i a b _ ⟨rfl,h⟩;exact .fH ⟨U,_,h,U⟩
def Vr(t:Á):fK P jx Y (ey t) (ey t):=by unfold ey;apply fJ (jf t);rintro b a c _ ⟨rfl,_⟩;split<;>exact .fH U
def Jj(h:ic Y a p):fK P fu Y (aX a) (aX p):=.gE h λ_ _ b=> .fH b
def adt(h:ic Y a p)(b:fu Y v x):fK P jx Y (ar a v) (ar p x):=.jg h b (.fH U)
def adu:∀{Y:fy} {a b:Ú} {i:Nat} {c d:Array Â},ic Y a b->fX Y c d->fK P fX Y (Ō a i n c) (Ō b i n d):=by
 induction n with
 |zero=>intro Y a b i c d _ e;exact .fH e
 |succ n h=>
  intro Y a b i c d f e;unfold Ō;apply fJ (Jj<|f.C i);exact λk v l g j=>h (f.r g)<|(e.I g).Vk j
def Nz(h:ic Y a p)(n:Nat):fK P fX Y (cZ a n) (cZ p n):=adu h<|fX.N Y
def NA:∀{d c:List Â} {Y:fy} {a e:Ú} {i:Nat},ic Y a e->fX Y d.toArray c.toArray->fK P jx Y (Κ a d i) (Κ e c i):=by
 intro d
 induction d with
 |nil=>
  intro c Y a e i _ b;have:c=[]:=by have:=b.r;simp at this;exact Ā this.symm
  subst this;exact .fH U
 |cons v d h=>
  intro c Y a e i f b;match c,b with
  |[],b=>have:=b.r;simp at this
  |v'::c,b=>
   unfold Κ;refine fJ (adt (f.C i) (by have:=b.C 0 ft ft;simpa using this)) ?_;intro m _ _ g _;apply h (f.r g);refine⟨by have:=b.r;simpa using this,λj k l=> ?_⟩;have:=b.C (j+1) (by simp at k|-;omega) (by simp at l|-;omega);exact(by simpa using this:fu Y _ _).fT g
theorem Vt(h:ic Y a p)(t:Á):fK P fu Y (ae t a) (ae t p):=by
 unfold ae;apply sK (Vr t);intro g b d;split
 .apply fJ (nj t);rintro i n _ f ⟨rfl,_⟩;apply fJ (Nz ((h.r d).r f) n);exact λj c k _ e=> .fH (.oM e.r e.C)
 .exact Jj<|h.r d
def adv(h:ic Y a p)(t:Á)(d:fu Y v x):fK P jx Y (aJ t a v) (aJ t p x):=by
 unfold aJ;apply fJ (nj t);rintro f n _ b ⟨rfl,_⟩;have c:=(d.fT b).gX;by_cases e:v.cells.size≠n
 .rw[if_pos e];exact .fU
 .rw[if_neg e,if_neg (by rwa[<-c.r])];exact NA (h.r b) c
def AP(e:Á)(h:fX Y d q):fK P ic Y (dU e d) (dU e q):= .vt h λ_ _ _ _ _ _=> .fH ⟨Î ⟨U,U⟩,U,U⟩
def Vu(t:Á)(h:fu Y v x):fK P ic Y (eM t v) (eM t x):=AP t h.gX
def Vv(t:Á)(h:fX Y d q)(a:Nat):fK P fu Y (part t d a) (part t q a):=by
 unfold part;apply sK (Vr t);intro i b e;split
 .apply fJ (nj t);rintro g n _ f ⟨rfl,_⟩;have:=((h.I e).I f).FJ a<|a+n;exact .fH (.oM this.r this.C)
 .rcases(h.I e).S a with⟨n,f⟩|⟨v,j,n,f,g⟩
  .rw[n];exact .fU
  .rw[n,f];exact .fH g
def FM(h:fu Y v x):fK P ic Y (ŧ v) (ŧ x):=by cases h<;>first|exact .fU|(rename_i a;exact .fH a)
def Jk(h:fu Y v x):fK P jx Y (de v) (de x):=by cases h<;>first|exact .fH U|exact .fU
def NB(h:fu Y v x):fK P jx Y (dB v) (dB x):=by unfold dB;apply fJ (Jk h);rintro b a _ _ rfl;exact .fH U
def Vw(h:fu Y v x):fK P jx Y (bW v) (bW x):=by cases h<;>first|exact .fH U|exact .fU
def adw(h:fu Y v x):fK P fX Y (eN v) (eN x):=by cases h<;>first|exact .fU|(rename_i a y;exact .fH ⟨a,y⟩)
def Vx(h:fu Y v x):fK P ic Y (bX v) (bX x):=by cases h<;>first|exact Ny (Î<|Î<|Î U)|(rename_i a;exact .fH a)|exact .fU
def adx(b:nT P)(t:Á)(v:Â):fK P fu Y (Ű t É v) (Ű t É v):=by unfold Ű;apply fJ (FL b t);intro d z e _ h;apply fJ (Vu t h);exact λf a g _ c=> .fH (.jV c)
def ady(t:Á)(h:fu Y v x):fK P fu Y (ag t v) (ag t x):=by unfold ag;apply fJ (Vu t h);exact λc a d _ b=> .fH (.jV b)
theorem adz(t:Á)(h:fu Y v x):fK P fu Y (Ş t v) (Ş t x):=by unfold Ş;apply fJ (FM h);grind [Vt]
def adA(t:Á)(b:fu Y x z)(h:fu Y v jQ):fK P jx Y (ĳ t x v) (ĳ t z jQ):=by unfold ĳ;apply fJ (FM b);exact λd x z c b=>adv b t<|h.fT c
def adB(h:fu Y v x)(n:Nat):fK P fu Y (ō v n) (ō x n):=by
 cases h<;>first|exact .fU|skip
 rename_i e f c h;simp only[ō];rcases(fX.mk c h).S n with⟨a,b⟩|⟨v,x,a,b,d⟩
 .rw[a];exact .fU
 .rw[a,b];exact .fH d
def adC(t:Á)(h:fu Y v x)(n:Nat):fK P fu Y (ű t v n) (ű t x n):=by
 unfold ű;apply fJ (jf t);rintro g d _ a ⟨rfl,_⟩;split
 .rename_i b _;cases i:b[n]? with
  |none=>exact .fU
  |some f=>
   apply fJ (adw<|h.fT a);exact λj c k _ e=>Vv f.type e f.offset
 .exact .fU
end
section
variable{Y:fy}
def ry{α β:Type}{V:fy->β->β->Prop}{a b:α}{f c:α->ē β}(h:fK P V Y (f a) (c b)):fK P V Y (pure a>>=f) (pure b>>=c):=h
def adD(s:Á)(h:fu Y v x)(n:Nat)(e:∀c f i,P.underlying s=À (df c)->c[n]?=À f->P.info? f.type=À i->i.size≠0): fK P fu Y (Ŏ s v n) (Ŏ s x n):=by
 unfold Ŏ;apply fJ (jf s);rintro r d _ g ⟨rfl,j⟩;cases d<;>try exact .fU
 .rename_i c;simp only[];cases k:c[n]? with
  |none=>exact .fU
  |some f=>
   apply fJ (FM<|h.fT g);intro t a u _ l;unfold bY;refine fJ (fJ (V':=ic) (nj f.type) ?_) ?_
   .rintro w z _ m ⟨rfl,i,o,p⟩;have:¬z=0:=by rw[<-p];exact e c f i j k o
    rw[if_neg this,if_neg this];exact .fH ((l.r m).C _)
   .exact λy b B _ q=> .fH (.jV q)
def adE(t:Á)(h:fu Y x v)(j:fu Y z jQ):fK P fu Y (ŏ t x z) (ŏ t v jQ):=by
 unfold ŏ;apply fJ (Jk j);rintro r ⟨k,n⟩ _ l rfl;apply fJ (jf t);rintro f d _ m ⟨rfl,s⟩;have g:=(h.fT l).fT m;cases d<;>try exact .fU
 .cases g<;>first|exact .fU|skip
  .refine ry<|fJ (jf t) ?_;exact λ_ _ _ _ _=>Da
  refine ry<|fJ (jf t) ?_;rintro o d _ c ⟨rfl,_⟩;simp only[];split
  .apply fJ (nj _);rintro p b _ e ⟨rfl,_⟩;exact .fH (.jV (((‹ic f _ _›.r c).r e).C _))
  .repeat' (first|exact .fU|exact Da|split)
 .apply fJ (FM g);intro f a u _ q;refine ry<|fJ (jf t) ?_;rintro o d _ c ⟨rfl,_⟩;simp only[];split
  .apply fJ (nj _);rintro p b _ e ⟨rfl,_⟩;exact .fH (.jV (((q.r c).r e).C _))
  .repeat' (first|exact .fU|exact Da|split)
def Db(h:fu Y x v)(y:Nat)(c:ax):fK P jx Y (ī x y c) (ī v y c):=by
 unfold ī;apply fJ (Jk h);rintro a ⟨k,n⟩ _ b rfl;simp only[];split
 .exact .fH U
 .exact Da
def rz(Y:fy)(x a:Option Â):Prop:=(x=ë/\a=ë)\/∃v b,x=À v/\a=À b/\fu Y v b
def rz.r{Y a:fy}(h:Y.r a){x b:Option Â}(r:rz Y x b):rz a x b:=r.imp id λ⟨v,c,d,e,f⟩=>⟨v,c,d,e,f.fT h⟩
def FN(f:Bool)(g i:Nat){l j h k m n:Option Â}(c:rz Y l j)(o:rz Y h k)(t:rz Y m n):fK P jx Y (Ĩ f g i l h m) (Ĩ f g i j k n):=by
 unfold Ĩ;rcases t with⟨rfl,rfl⟩|⟨B,C,rfl,rfl,u⟩
 .refine ry ?_;rcases o with⟨rfl,rfl⟩|⟨w,x,rfl,rfl,d⟩
  .refine ry ?_;rcases c with⟨rfl,rfl⟩|⟨v,p,rfl,rfl,b⟩
   .exact .fH U
   .apply fJ (Db b _ _);rintro r q _ _ rfl;exact .fH U
  .refine fJ (Db d _ _) ?_;rintro y a _ e rfl;rcases(c.r e)with⟨rfl,rfl⟩|⟨v,p,rfl,rfl,b⟩
   .exact .fH U
   .apply fJ (Db b _ _);rintro r q _ _ rfl;exact .fH U
 .refine fJ (Db u _ _) ?_;rintro D a _ s rfl;rcases o with⟨rfl,rfl⟩|⟨w,x,rfl,rfl,d⟩
  .exact .fU
  .refine fJ (Db (d.fT s) _ _) ?_;rintro y z _ e rfl;rcases(((c.r s).r e))with⟨rfl,rfl⟩|⟨v,p,rfl,rfl,b⟩
   .exact .fH U
   .apply fJ (Db b _ _);rintro r q _ _ rfl;exact .fH U
def adF(t:Á)(k:fu Y x v){l C h D m u:Option Â}(g:rz Y l C)(i:rz Y h D)(j:rz Y m u):fK P fu Y (Ų t x l h m) (Ų t v C D u):=by
 unfold Ų;apply fJ (jf t);rintro I d _ o ⟨rfl,J⟩;have k:=k.fT o;have g:=g.r o;have i:=i.r o;have j:=j.r o;cases d<;>try exact .fU
 .cases k<;>first|exact .fU|skip
  rename_i s;have e:m.isSome=u.isSome:=by rcases j with⟨rfl,rfl⟩|⟨_,_,rfl,rfl,_⟩<;>rfl
  simp only[e];split
  .exact .fU
  .apply fJ (FN Ã s.size s.size g i<|Ç ⟨U,U⟩);rintro G ⟨a,b,c⟩ _ _ rfl;exact .fH (.k9 _)
 .rename_i H;apply fJ (Vx k);intro G a K B f;apply fJ (jf H);rintro L d _ p ⟨rfl,_⟩;have f:=f.r p;cases d<;>try exact .fU
  rename_i n e _;apply fJ (FN Ã n n ((g.r B).r p) ((i.r B).r p)<|(j.r B).r p);rintro E ⟨x,y,z⟩ _ q rfl;apply fJ (nj e);rintro F w _ r ⟨rfl,_⟩;have f:=(f.r q).r r;refine .fH (.kS ?_ _ _);split
  .exact f
  .exact f.C _
 .rename_i e;cases k<;>first|exact .fU|skip
  .rename_i n c;apply fJ (FN É n c g i j);rintro E ⟨x,y,z⟩ _ q rfl;apply fJ (nj e);rintro F w _ r ⟨rfl,_⟩;simp only[Option.map_none,ite_self];exact .fH (.ou _ _)
  .rename_i f n c;apply fJ (FN É n c g i j);rintro E ⟨x,y,z⟩ _ q rfl;apply fJ (nj e);rintro F w _ r ⟨rfl,_⟩;have f:=(f.r q).r r;by_cases e:z=x
   .simp only[e,if_true];exact .fH (.kS f _ _)
   .simp only[e,if_false,bH];exact .fH (.kS (f.C _) _ _)
def adG(t:Á)(b:fu Y x v){l o h p m q:Option Â}(c:rz Y l o)(f:rz Y h p)(g:rz Y m q):fK P fu Y (Ő t x l h m) (Ő t v o p q):=by
 unfold Ő;apply fJ (jf t);rintro u d _ i ⟨rfl,B⟩;have b:=b.fT i;have c:=c.r i;have f:=f.r i;have g:=g.r i;cases d<;>try exact adF t b c f g
 rename_i n e;apply fJ (FM b);intro C a D k j;apply fJ (FN Ã n n (c.r k) (f.r k)<|g.r k);rintro E ⟨x,y,z⟩ _ r rfl;apply fJ (nj e);rintro F w _ s ⟨rfl,_⟩;have j:=(j.r r).r s;refine .fH (.kS ?_ _ _);split
 .exact j
 .exact j.C _
def adH(t:Á)(a:fu Y x v)(b:fu Y z jQ):fK P fu Y (ų t x z) (ų t v jQ):=by
 unfold ų;apply fJ (Jk b);rintro l ⟨k,n⟩ _ c rfl;apply fJ (jf t);rintro m d _ f ⟨rfl,o⟩;have a:=(a.fT c).fT f;cases d<;>try exact .fU
 .cases a<;>first|exact .fU|skip
  simp only[];split
  .exact .fH (.iH _ _)
  .exact Da
 .rename_i p e;cases a<;>first|exact .fU|skip
  rename_i g h;simp only[];split
  .apply fJ (nj e);rintro q w _ j ⟨rfl,_⟩;exact Vv e ((fX.mk g h).I j) _
  .exact Da
def adI(a:UnOp)(b:fu Y x v):fK P fu Y (bZ a x) (bZ a v):=by cases b<;>cases a<;>first|exact .fU|exact .fH (.iH _ _)|exact .fH (.mJ _)
end
section
variable{Y:fy}
def adJ{α β:Type}{g:α->ē β}(d:∀{Y:fy} (a:α),fK P jx Y (g a)<|g a):∀{Y:fy} (l:List α),fK P jx Y (l.mapM g) (l.mapM g):=by
 intro Y l
 induction l generalizing Y with
 |nil=>exact .fH U
 |cons a l e=>
  rw[ν];apply sK (d a);intro f b _;apply sK e;exact λh c _=> .fH U
def adK{α β:Type}{g:α->ē β}(b:∀{Y:fy} (a:α),fK P jx Y (g a)<|g a)(l:Array α):fK P jx Y (l.mapM g) (l.mapM g):=by rw[Ĕ];have:=adJ b (Y:=Y) l.toList;apply fK.mo this;intro d a c _ (e:a=c);subst e;exact .fH U
def adL(Y:fy)(p a:Nat×Value):Prop:=p.1=a.1/\fu Y p.2 a.2
inductive vv(Y:fy):List (Nat×Value)->List (Nat×Value)->Prop
 |pj:vv Y [] []
 |wR {p p':Nat×Value} {l l':List (Nat×Value)} (h:adL Y p p') (t:vv Y l l'):vv Y (p::l) (p'::l')
def vv.fT{Y a:fy}(h:Y.r a){l b:List (Nat×Value)}(r:vv Y l b):vv a l b:=by
 induction r with
 |pj=>exact .pj
 |wR x _ c=>exact .wR ⟨x.1,x.2.fT h⟩ c
def adM(f:Nat):∀(c a:List Â) (k:Nat) (b d:Array Â),fX Y c.toArray a.toArray->fX Y b d-> fX Y ((c.zipIdx k).foldl (λb (p:Value×Nat)=>b.setIfInBounds (f+p.2) p.1) b) ((a.zipIdx k).foldl (λb (p:Value×Nat)=>b.setIfInBounds (f+p.2) p.1) d):=by
 intro c
 induction c with
 |nil=>
  intro a k b d p e;have:a=[]:=by have:=p.r;simp at this;exact Ā this.symm
  subst this;exact e
 |cons x c g=>
  intro a k b d p e;match a,p with
  |[],p=>have:=p.r;simp at this
  |x'::a,p=>
   simp only[Ĭ,List.foldl_cons];refine g a (k+1) _ _ ⟨by have:=p.r;simpa using this,λj h i=> ?_⟩ (e.qE _ (by have:=p.C 0 ft ft;simpa using this));have:=p.C (j+1) (by simp at h|-;omega) (by simp at i|-;omega);simpa using this
theorem adN(b:Nat){a c:Array Â}(e:fX Y d q)(f:fX Y a c): fX Y (d.zipIdx.foldl (λa (p:Value×Nat)=>a.setIfInBounds (b+p.2) p.1) a) (q.zipIdx.foldl (λa (p:Value×Nat)=>a.setIfInBounds (b+p.2) p.1) c):=by have:=adM b d.toList q.toList 0 a c (by simpa using e) f;grind [Array.toList_zipIdx]
def Jl(d:Nat->Option (Nat×Nat)):∀{l e:List (Nat×Value)} {a b:Array Â},vv Y l e->fX Y a b-> (az d a l=ë)\/∃c h,az d a l=À c/\az d b e=À h/\fX Y c h:=by
 intro l e a b h
 induction h generalizing a b with
 |pj=>intro c;exact Î ⟨a,b,U,U,c⟩
 |@wR p p' l e hp _ ih=>
  intro c;let⟨i,v⟩:=p;let⟨k,m⟩:=p';obtain⟨rfl,g⟩:=hp;unfold az;cases d i with
  |none=>exact Ç U
  |some q=>
   let⟨j,n⟩:=q;have f:=g.gX;simp only[<-f.r,<-c.r];split
   .exact Ç U
   .exact ih<|adN j f c
def adO(q:nT P)(t:Á){l m:Array (Nat×Value)}(h:vv Y l.toList m.toList):fK P fu Y (Ŵ t l) (Ŵ t m):=by
 unfold Ŵ;apply fJ (FL q t);intro C z D r s;apply fJ (jf t);rintro E d _ o ⟨rfl,F⟩;have p:=(s.fT o).gX;have h:=(h.fT r).fT o;cases d<;>try exact .fU
 .rename_i n e;refine fJ (nj e) ?_;rintro u w _ b ⟨rfl,_⟩;rcases Jl (λi=>À (i*w,w)) (h.fT b) (p.I b)with e|⟨c,v,j,k,g⟩
  .simp only[e];exact .fU
  .simp only[j,k];exact .fH (.oM g.r g.C)
 .rename_i x;refine sK (adK (λ{Y} (f:Field)=>fJ (nj f.type) λG a H _ y=> ?_) x) ?_
  .obtain⟨rfl,_⟩:=y;exact .fH U
  .intro u B b;rcases Jl (B[·]?) (h.fT b) (p.I b)with e|⟨c,v,j,k,g⟩
   .simp only[e];exact .fU
   .simp only[j,k];exact .fH (.oM g.r g.C)
end
section
variable{Y:fy}
theorem adP(Y:fy):fu Y (default:Â) default:=.mJ _
theorem fX.adQ{Y:fy}(r:fX Y d q)(i:Nat):fu Y d[i]! q[i]!:=by
 by_cases h:i<d.size
 .have a:i<q.size:=by rwa[<-r.r]
  rw[getElem!_pos d i h,getElem!_pos q i a];exact r.C i h a
 .have a:¬i<q.size:=by rwa[<-r.r]
  grind [getElem,adP]
def fX.G{Y:fy}(r:fX Y d q)(n:Nat):fX Y ((dC n).map (d[· %d.size]!)) ((dC n).map (q[· %q.size]!)):=by refine⟨ft,λi a b=> ?_⟩;simp only[ŵ,<-r.r];exact r.adQ _
def fX.yI{Y:fy}(r:fX Y d q)(n:Nat):fX Y (Ŷ d n) (Ŷ q n):=by
 unfold Ŷ;have e:n*d.size=n*q.size:=by rw[r.r]
 rw[<-e];exact r.G _
def adR(f:nT P)(t:Á)(b:Nat){m n:Array (Nat×Value)}(h:vv Y m.toList n.toList):fK P fu Y (ĭ t b m) (ĭ t b n):=by
 unfold ĭ;apply fJ (jf t);rintro v d _ p ⟨rfl,x⟩;have h:=h.fT p;cases d<;>try exact .fU
 rename_i e;apply fJ (nj e);rintro y w _ o ⟨rfl,_⟩;simp only[];split
 .exact .fU
 split
 .refine ry ?_;rcases Jl (λi=>À (i*w,w)) (h.fT o) ((fX.N _).G<|b*w)with e0|⟨c,q,g,j,k⟩
  .rw[e0];exact .fU
  .rw[g,j];exact fJ (AP e k) λr a s _ l=> .fH (.kS l _ _)
 .refine fJ (FL f e) λB z C u f=>ry ?_;rcases Jl (λi=>À (i*w,w)) ((h.fT o).fT u) (f.gX.G<|b*w)with e0|⟨c,q,g,j,k⟩
  .rw[e0];exact .fU
  .rw[g,j];exact fJ (AP e k) λr a s _ l=> .fH (.kS l _ _)
def NC(h:fu Y x v):fK P jx Y (Α x) (Α v):=by cases h<;>first|exact .fU|exact .fH U
def fX.adS(Y:fy)(b:Array UInt8):fX Y (b.map λb=>Ć .u8 b.toNat) (b.map λb=>Ć .u8 b.toNat):= ⟨U,λi a _=>by simp only[ŵ];exact .iH _ _⟩
def FO(a n:Nat)(h:fu Y x v):fK P fX Y (ļ a n x) (ļ a n v):=by
 cases h<;>first|exact .fU|exact .fH (fX.N _)|exact .fH (fX.adS _ _)|skip
 rename_i b _ _;exact Nz b _
def ND(n:Nat):fK P jx Y (bP n) (bP n):=by
 unfold bP;split
 .exact .C8 (Ç U) (.fH U)
 .exact .fH U
def adT(a:Array Á)(t:Á)(h:fu Y x v):fK P fu Y (ş a t #[x]) (ş a t #[v]):=by
 unfold ş;cases a[0]? with
 |none=>exact .fU
 |some b=>
  apply fJ (jf b);rintro f d _ c ⟨rfl,g⟩;have h:=h.fT c;cases d<;>try exact .fU
  .cases h<;>first|exact .fU|exact .fH (.iH _ _)
  .rename_i e;refine fJ (jf e) ?_;rintro i d _ j ⟨rfl,_⟩;cases d<;>first|exact .fU|exact .fH (.iH _ _)
  .cases h<;>first|exact .fU|exact .fH (.iH _ _)
  .exact .fH (.iH _ _)
  all_goals cases h<;>first|exact .fU|exact .fH (.iH _ _)
def adU(a:Array Á)(t:Á)(h:fu Y x v):fK P fu Y (Š a t #[x]) (Š a t #[v]):=by
 unfold Š;cases a[0]? with
 |none=>exact .fU
 |some b=>
  apply fJ (jf b);rintro f d _ c ⟨rfl,g⟩;have h:=h.fT c;cases d<;>try exact .fU
  .rename_i e;refine fJ (jf e) ?_;rintro i d _ j ⟨rfl,_⟩;cases d<;>first|exact .fU|exact .fH (.iH _ _)
  .cases h<;>first|exact .fU|exact .fH (.iH _ _)
  .exact .fH (.iH _ _)
  all_goals cases h<;>first|exact .fU|exact .fH (.iH _ _)
def adV(g:Array Á)(t:Á)(h:fu Y x v)(a:fu Y z jQ):fK P fu Y (ő g t #[x,z]) (ő g t #[v,jQ]):=by
 unfold ő;cases g[0]? with
 |none=>exact .fU
 |some l=>
  apply fJ (jf l);rintro u d _ i ⟨rfl,B⟩;have h:=h.fT i;have a:=a.fT i;cases d<;>try exact .fU
  rename_i e;cases h<;>first|exact .fU|skip
  .rename_i n c;apply fJ (NC a);rintro o m _ b rfl;apply fJ (nj e);rintro p w _ f ⟨rfl,_⟩;apply fJ (FO w _<|(a.fT b).fT f);exact λq c r j k=> .fH (.iH _ _)
  .rename_i s n c;apply fJ (NC a);rintro o m _ b rfl;apply fJ (nj e);rintro p w _ f ⟨rfl,_⟩;apply fJ (FO w _<|(a.fT b).fT f);intro q c r j k;apply fJ (NA (((s.r b).r f).r j)<|by simpa using k);exact λC _ _ _ _=> .fH (.iH _ _)
end
section
variable{Y:fy}
def NG{α:Type}{h:Halt}:∀u x a,(ew h:ē α).run P u≠ĥ x a:=by intro u x a e;cases e
theorem FP{α β:Type}{m:ē α}{f:α->ē β}(h:∀a u x b,(f a).run P u≠ĥ x b):∀u x b,(m>>=f).run P u≠ĥ x b:=by
 intro u x b e;rw[Ä]at e;cases c:m.run P u with
 |ok a w=>rw[c]at e;exact h a _ _ _ e
 |halt z w=>rw[c]at e;cases e
theorem Vy{α:Type}:∀u x a,(goPanic v:ē α).run P u≠ĥ x a:=NG
def adW{α:Type}{v:br}:∀u x a,(unsupported v:ē α).run P u≠ĥ x a:=NG
theorem rA{α:Type}(e:Ι):∀u x a,(runtimePanic e:ē α).run P u≠ĥ x a:=by unfold runtimePanic;grind [FP,Vy]
def Jm{α:Type}{V:fy->α->α->Prop}{e:Ι}{m:ē α}:fK P V Y (runtimePanic e) m:=.oN (rA e)
def adX(H:nT P)(p g t:Á)(i:(∃e,P.underlying g=À (dh e))\/P.underlying g=À ę){B:Â}(j:fu Y v jQ)(c:fu Y x B): fK P fu Y (ĸ #[p,g] t #[v,x]) (ĸ #[p,g] t #[jQ,B]):=by
 unfold ĸ;apply fJ (jf p);rintro C d _ D ⟨rfl,W⟩;have j:=j.fT D;have c:=c.fT D;cases d<;>try exact .fU
 rename_i e;have r:=j;cases j<;>first|exact .fU|skip
 all_goals
  refine fJ (nj e) ?_;rintro X w _ E ⟨rfl,_⟩;refine fJ (jf g) ?_;rintro ρ3 d1 _ F ⟨rfl,k⟩;rcases i with⟨e1,i⟩|i;all_goals
   rw[i]at k;injection k with k;subst k;refine ry<|fJ (NC<|c.fT<|fy.I E F) ?_;rintro ρ4 m _ I rfl;have f:=fy.I (fy.I E F) I;have c:=c.fT f;have r:=r.fT f;simp only[];split
   .apply fJ (FO w m c);intro J q K l u;first
     |exact .fH (.ou _ _)
     |exact fJ (NA (((‹ic C _ _›.r f).r l).C _)<|by simpa using u) λL _ _ h _=> .fH (.kS (((‹ic C _ _›.r f).r l).r h) _ _)
   .apply fJ (yH e);rintro J G _ l ⟨rfl,_⟩;split
    .exact .oN (wN<|rA _)
    .apply fJ (yH e);rintro L G _ h ⟨rfl,_⟩;split
     .refine .oN (wN ?_);simp only[Å,if_false];refine FP λb=> ?_;simp_all
     .apply sK (.AL λ_=> .fH U);intro M nc y;apply fJ (yH e);rintro N G _ n ⟨rfl,_⟩;apply sK (ND _);intro O _ Q;have f:=fy.I (fy.I (fy.I l h)<|fy.I y n) Q;apply fJ (FO w _<|r.fT f);intro ρa o o' h S;apply fJ (FO w m<|c.fT<|fy.I f h);intro M q K y u;apply fJ (FL H e);intro N z z' n T;exact fJ (AP e<|(((S.I y).I n).tN<|u.I n).tN<|T.gX.yI _) λO a a' _ V=> .fH (.kS V _ _)
end
section
variable{Y:fy}
def adY(g:nT P)(t:Á)(i:fu Y v x)(j:fu Y z jQ):fK P fu Y (Ĺ t v z) (Ĺ t x jQ):=by
 unfold Ĺ;apply fJ (jf t);rintro o d _ f ⟨rfl,p⟩;cases d<;>try exact .fU
 rename_i e;apply fJ (NB<|i.fT f);rintro q r _ k rfl;apply fJ (NB<|(j.fT f).fT k);rintro s u _ y rfl;apply fJ (yH e);rintro B C _ D ⟨rfl,_⟩;simp only[];split
 .split
  .exact .oN (wN<|rA _)
  .split
   .exact .oN (wN<|rA _)
   .exact .oN (FP λ_=>wN<|rA _)
 .apply sK (ND _);intro E _ F;apply fJ (nj e);rintro G w _ H ⟨rfl,_⟩;split
  .exact ry<|fJ (AP e<|(fX.N _).G _) λm a n _ b=> .fH (.kS b _ _)
  .exact fJ (FL g e) λ_ _ _ _ h=>ry<|fJ (AP e<|h.gX.G _) λm a n _ b=> .fH (.kS b _ _)
def tO(P:Õ)(t:Á):Prop:=P.underlying t=À .bool\/(∃k,P.underlying t=À (Β k))\/P.underlying t=À ę
def nk:Â->Prop
 |Þ (À _)=>False
 |_=>True
def Vz(t:Á)(i:tO P t\/∃e,P.underlying t=À (ð e))(b:fu Y x v)(c:fu Y z jQ)(j:nk x\/nk z):fK P jx Y (ó t x z) (ó t v jQ):=by
 unfold ó ā Λ;refine fJ (jf t) ?_;rintro o d _ g ⟨rfl,a⟩;have b:=b.fT g;have c:=c.fT g;rcases i with(h|⟨k,h⟩|h)|⟨e,h⟩;all_goals
  rw[h]at a;injection a with a;subst a;cases b<;>cases c<;>first|exact .fU|exact .fH U|(simp[nk]at j;done)|skip
 .simp only[];split<;>first|exact .fH U|exact .fU
 .rename_i l n _ _ _;by_cases f:n=0
  .subst f;exact .fH U
  .refine .oN λu x m e=> ?_;simp_all
 .rename_i l n;by_cases f:n=0
  .subst f;exact .fH U
  .refine .oN λu x m e=> ?_;simp_all
end
section
variable{Y:fy}
def Jn{r:Nat}(h:Y r i):fK P (λ_ a b=>a=ë/\b=ë) Y (di r) (di i):=.vu h λ_ _ _ _=> .fH ⟨U,U⟩
def VA{r:Nat}(h:Y r i):fK P (λ_ a b=>a=ë/\b=ë) Y (b9 r) (b9 i):=.vu h λ_ _ _ _=> .fH ⟨U,U⟩
def AQ(h:ic Y a p):fK P (λc x b=>ic c x.1 b.1/\x.2=b.2/\x=(a,Ã)/\b=(p,Ã)) Y (Į a) (Į p):=by unfold Į;apply fJ (VA h.1);rintro c x d b ⟨rfl,rfl⟩;exact .fH ⟨h.r b,U,U,U⟩
def adZ(h:ic Y a p):fK P jx Y (aY a) (aY p):=by unfold aY;apply fJ (Jn h.1);rintro b x c d ⟨rfl,rfl⟩;exact .fH U
def FQ(h:ic Y a p):fK P jx Y (dj a) (dj p):=by
 have f:=h;let⟨g,i,b⟩:=f;unfold dj;cases c:a.spot with
 |some s=>
  rw[c]at b;rw[<-b];exact .fH U
 |none=>
  rw[c]at b;rw[<-b];apply fJ rv;rintro k s l d ⟨rfl,e⟩;subst e;apply fJ (adZ<|h.r d);intro m _ _ j _;refine .vu (j.1 _ _<|d.1 _ _ g) λe n o q=> ?_;simp only[<-i,ç];split
  .exact .fH U
  .split
   .exact .fH U
   .exact .fU
def Jo(c:Bi Y){b d:Ú}(f:ic Y a p)(g:ic Y b d):(a.block==b.block)=(p.block==d.block):=by
 rw[Χ,beq_iff_eq,beq_iff_eq];constructor
 .intro e;exact c.1 _ _ _ f.1<|e▸g.1
 .intro e;exact c.2.1 _ _ _ f.1<|e▸g.1
theorem VB(g:Bi Y){b c:Ú}(d:ic Y a p)(f:ic Y b c):(a==b)=(p==c):=by have e:=Jo g d f;rw[Χ,beq_iff_eq,beq_iff_eq]at e;rw[Χ,beq_iff_eq,beq_iff_eq];let⟨h,i,j⟩:=a;let⟨k,l,m⟩:=p;let⟨n,o,q⟩:=b;let⟨r,s,t⟩:=c;let⟨_,u,v⟩:=d;let⟨_,w,x⟩:=f;grind
theorem VC(f:Bi Y)(n:Y.C=P.globals.size){b d:Ú}(e:ic Y a p)(g:ic Y b d):fK P jx Y (š a b) (š p d):=by
 unfold š;apply fJ rv;rintro o c q h ⟨i,j⟩;rw[i,j];have k:(a.block !=b.block)=(p.block !=d.block):=by simp only[bne];rw[Jo f e g]
 have l:(decide<|a.block≥P.globals.size)=(decide<|p.block≥P.globals.size):=by have:=f.2.2 _ _ e.1;grind
 rw[k,l];split
 .exact .fU
 .apply fJ (FQ<|e.r h);rintro r x _ m rfl;apply fJ (FQ<|(g.r h).r m);rintro s y _ t rfl;exact .fH U
def ad1(d:Bi Y)(e:Y.C=P.globals.size)(k:ú){b c:Ú}(f:ic Y a p)(g:ic Y b c):fK P fu Y (Μ k a b) (Μ k p c):=by unfold Μ;apply fJ (VC d e f g);rintro h ⟨x,y⟩ _ _ rfl;exact .fH (.iH _ _)
def ad2(e:Bi Y)(f:Y.C=P.globals.size)(c:ġ){b d:Ú}(g:ic Y a p)(h:ic Y b d):fK P fu Y (Ν c a b) (Ν c p d):=by unfold Ν;refine fJ (VC e f g h) ?_;rintro i ⟨x,y⟩ _ _ rfl;cases c<;>first|exact .fH (.mJ _)|exact .fU
def VD(k:ú)(b:ic Y a p)(n:Int):fK P fu Y (Ξ k a n) (Ξ k p n):=by
 unfold Ξ;refine .vu b.1 λe m d f=> ?_;apply ry;apply fJ (yH e);rintro g h _ c ⟨rfl,_⟩;simp only[];split
 .exact .fU
 .apply fJ (FQ<|b.r c);rintro i x _ _ rfl;exact .fH (.iH _ _)
def ad3{n:Int}(h:j<=b)(a:ξ P i e j k n=À m):ξ P i e b k n=À m:=by
 unfold ξ at a|-;simp only[bind,Option.bind]at a|-;split at a
 .cases a
 .rename_i f;rw[if_neg f];split at a
  .cases a
  .rename_i g;simp only[g];dsimp only at a;split at a
   .cases a
   .rename_i l;rw[if_neg]
    .exact a
    .intro o;apply l;have:=(λw=>Nat.mul_le_mul_right w h)<|P.bytesOf e;simp at o|-;omega
def ad4{i:Á->Bool}:∀{d:Nat} {e:Á} {c a b n:Nat},c<=a->c8 P i d e c b n=É->c8 P i d e a b n=É
 |0,_,_,_,_,_,_,h=>by simp[c8]at h
 |d+1,e,c,a,b,n,hc,h=>by
  unfold c8 at h|-;simp only at h|-;split at h
  .cases h
  .rename_i j;rw[if_neg j];rw[bI,ě,ě,ě]at h|-;rcases h with⟨⟨f,g⟩,k⟩|⟨f,g⟩
   .exact Ç ⟨⟨f,by simp at g|-;omega⟩,k⟩
   .exact Î ⟨by simp at f|-;omega,g⟩
def VE:∀{d:Nat} {e:Á} {c a b:Nat} {u:Á} {n:Nat},c<=a->aZ P d e c b u n=É->aZ P d e a b u n=É
 |0,_,_,_,_,_,_,_,h=>by simp[aZ]at h
 |d+1,e,c,a,b,u,n,hc,h=>by
  unfold aZ at h|-;rw[bI]at h|-;rcases h with h|h
  .exact Ç<|ad4 hc h
  .right;split at h
   .rename_i f;first|rw[f]|skip
    exact VE hc h
   .cases h
def ad5{a:Á->Bool}:c8 P a i e 0 j (n+1)=Ã:=by
 cases i with
 |zero=>simp[c8]
 |succ i=>
  unfold c8;simp
def ad6{k:ú}(a:P.underlying t=À (Β k)):aZ P i e 0 j t (n+1)=Ã:=by
 cases i with
 |zero=>simp[aZ]
 |succ i=>
  unfold aZ;rw[ad5];simp[a]
def VF(t:Á)(d:ic Y a p)(k:ú)(n:Int):fK P fu Y (ñ #[] t #[Þ<|À a,Ć k n]) (ñ #[] t #[Þ<|À p,Ć k n]):=by
 have f:=d;let⟨c,g,h⟩:=f;unfold ñ;apply ry;simp only[];split
 .apply fJ (Jn c);rintro i x e b ⟨rfl,rfl⟩;exact .fH (.jV (d.r b))
 .split
  .exact .fU
  .refine .vu c λe m u j=> ?_;apply ry;apply fJ rv;rintro i b v l ⟨o,r⟩;rw[o,r,<-g];cases s:ξ P P.depth e (m/P.cellsOf e) a.off n with
   |none=>exact .fU
   |some x=>
    rw[ad3 (ο<|j.elim (λq=>by omega) λq=>q.1) s];exact .fH (.jV ⟨l.1 _ _ c,U,h⟩)
end
def yJ:Obj->Prop
 |Č .. =>False
 |_=>True
inductive kT(P:Õ){α:Type}(V:fy->α->α->Prop):fy->ē α->ē α->Prop
 |gB {Y:fy} {m m':ē α} (h:fK P V Y m m'):kT P V Y m m'
 |mo {Y:fy} {β:Type} {V0:fy->β->β->Prop} {m m':ē β} {f f':β->ē α} (h:fK P V0 Y m m') (hf:∀Y' a a',Y.r Y'->V0 Y' a a'->kT P V Y' (f a) (f' a')):kT P V Y (m.bind f) (m'.bind f')
 |Dc {Y:fy} {o:Obj} {g:Nat->α} {m':ē α} (ho:yJ o):kT P V Y (.new o λr=>aI<|g r) m'
 |Dd {Y:fy} {m m':ē α} (h:∀u x u',m.run P u=ĥ x u'->∃i o,u.heap.size<=i/\u'.heap[i]?=À o/\yJ o):kT P V Y m m'
section
variable{Y:fy}
def kT.ad7{α β:Type}{V:fy->α->α->Prop}{i:fy->β->β->Prop}{m e:ē α}{f j:α->β}(h:kT P V Y m e)(k:∀c a d,Y.r c->V c a d->i c (f a) (j d)): kT P i Y (m.bind λa=>aI<|f a) (e.bind λa=>aI<|j a):=by
 induction h with
 |gB h=>exact .gB (h.mo λc a d u w=> .fH (k c a d u w))
 |mo h _ g=>
  rw[ř,ř];exact .mo h λc a d u w=>g c a d u w λx b z l n=>k x b z (fy.I u l) n
 |Dc b=>exact .Dc b
 |@Dd Y m e h=>
  refine .Dd λu x l b=> ?_;rw[Ĵ]at b;cases g:m.run P u with
  |halt z w=>rw[g]at b;cases b
  |ok a w=>
   rw[g]at b;simp only[ã]at b;cases b;exact h u a _ g
def De(u a:Æ):Prop:=∀i o,u.heap.size<=i->a.heap[i]?=À o->¬yJ o
def kT.gw{α:Type}{V:fy->α->α->Prop}{Y:fy}{m r:ē α}(h:kT P V Y m r):∀{u w:Æ},jm Y X u w->(∀j,X j->j<w.heap.size)->∀{x:α} {c:Æ},m.run P u=ĥ x c->De u c->∀d:Array ý,∃(a:fy) (n:α) (s:Æ) (b:Array ý),Y.r a/\(∀i j,a i j->Y i j\/(u.heap.size<=i/\w.heap.size<=j))/\r.runT P w d=(ĥ n s,d++b)/\V a x n/\jm a X c s/\nS Y X w s/\(∀e∈b,AN a X e)/\u.heap.size<=c.heap.size:=by
 induction h with
 |gB h=>intro u w k g x c b _ d;exact h.gw k g b d
 |@mo Y β V0 m r f f' h _ ih=>
  intro u w k g x c b l d;rw[Ĵ]at b;cases t:m.run P u with
  |halt z w=>rw[t]at b;cases b
  |ok a u1=>
   rw[t]at b;let⟨G,H,w1,E,p,q,v,I,J,B,K,C⟩:=h.gw k g t d;let⟨L,n,M,N,F,O,Q,S,T,W,k7,k8⟩:=ih G a H p I J (λj s=>Ô (g j s) B.r) b (λi o s=>l i o<|õ C s)<|d++E;refine⟨L,n,M,E++N,fy.I p F,λi j D=> ?_,?_,S,T,B.fj W λi j D=>(q i j D).imp id λy=>y.2,λe s=> ?_,õ C k8⟩
   .rcases O i j D with y|⟨y1,y2⟩
    .exact q i j y
    .exact Î ⟨õ C y1,õ B.r y2⟩
   .rw[Ñ,v];simp only[];rw[Q,Ļ]
   .rcases Ĝ.1 s with s|s
    .rcases K e s with⟨a,i,y,z2,z3,z4⟩|z
     .exact Ç ⟨a,i,y,F.1 _ _ z2,z3,z4⟩
     .exact Î z
    .exact k7 e s
 |Dc s=>
  intro u w k g x c b l d;simp only[ã]at b;cases b;exact absurd s<|l u.heap.size _ (ß _) ft
 |Dd h=>
  intro u w k g x c b l d;let⟨i,o,p,q,v⟩:=h u x c b;exact absurd v<|l i o p q
end
section
variable{Y:fy}
theorem ad8(i:Bi Y)(F:Y.C=P.globals.size)(t:Á)(s:tO P t){j b m:Ú}(e:ic Y a j)(f:ic Y b m):fK P jx Y (ó t (Þ<|À a)<|Þ<|À b) (ó t (Þ<|À j)<|Þ<|À m):=by
 unfold ó ā Λ;refine fJ (jf t) ?_;rintro G d _ g ⟨rfl,c⟩;rcases s with h|⟨k,h⟩|h
 .rw[h]at c;injection c with c;subst c;exact .fU
 .rw[h]at c;injection c with c;subst c;apply fJ (AQ<|e.r g);rintro H p u l ⟨_,_,rfl,rfl⟩;apply fJ (AQ<|(f.r g).r l);rintro I q J n ⟨_,_,rfl,rfl⟩;apply fJ rv;rintro K p u o ⟨v,w⟩;rw[v,w];have z:=(((e.r g).r l).r n).r o;have B:=(((f.r g).r l).r n).r o;have C:=Jo i e f;have D:(decide<|a.block<P.globals.size)=(decide<|j.block<P.globals.size):=by
   have:=i.2.2 _ _ e.1;grind
  simp only[C,D];split
  .apply fJ (FQ z);rintro E x _ r rfl;apply fJ (FQ<|B.r r);rintro L y _ M rfl;exact .fH U
  .apply fJ (yH t);rintro E x _ r ⟨rfl,_⟩;split
   .rw[VB i e f];split
    .exact .fH U
    .exact .fU
   .exact .fU
 .rw[h]at c;injection c with c;subst c;exact .fU
def ad9(e:Bi Y)(f:Y.C=P.globals.size)(t:Á)(b:tO P t)(c:fu Y x v)(d:fu Y z jQ):fK P jx Y (ó t x z) (ó t v jQ):=by
 by_cases a:nk x\/nk z
 .exact Vz t (Ç b) c d a
 .have g:=λh=>a<|Ç h;have i:=λh=>a<|Î h;cases c<;>first|exact absurd trivial g|skip
  cases d<;>first|exact absurd trivial i|skip
  rename_i j _ _ k;exact ad8 e f t b j k
def aea(a:ġ)(k:ú)(x y:Int):fK P fu Y (ah a k x y) (ah a k x y):=by
 unfold ah;split
 .exact Jm
 .cases a<;>first|exact .fU|exact .fH (.iH _ _)
def aeb(a:ġ)(k b:ú)(x y:Int):fK P fu Y (aK a k x b y) (aK a k x b y):=by
 unfold aK;split
 .exact Jm
 .cases a<;>first|exact .fU|exact .fH (.iH _ _)
def aec(a:ġ)(t:Á)(k b:ú)(x y:Int):fK P fu Y (Ũ a t (Ć k x)<|Ć b y) (Ũ a t (Ć k x)<|Ć b y):=by
 cases a<;>simp only[Ũ]<;>first|exact aeb _ _ _ _ _|skip
 all_goals
  split
  .exact .fU
  .first|exact .fH (.iH _ _)|exact .fH (.mJ _)|exact aea _ _ _ _
def aed(a:ġ)(t:Á)(x y:ByteArray):fK P fu Y (Ũ a t (ħ x)<|ħ y) (Ũ a t (ħ x)<|ħ y):=by
 cases a<;>simp only[Ũ,bu]<;>first|exact .fU|exact .fH (.mJ _)|skip
 split
 .exact .fU
 .exact .fH (.k9 _)
end
section
variable{Y:fy}
def lq{α β:Type}{V0:fy->β->β->Prop}{V:fy->α->α->Prop}{m c:ē β}{f d:β->ē α}(h:fK P V0 Y m c) (g:∀b a e,Y.r b->V0 b a e->kT P V b (f a) (d e)):kT P V Y (m>>=f) (c>>=d):=.mo h g
def aee{α β:Type}{V:fy->α->α->Prop}{c:fy->β->β->Prop}{m d:ē α}{f e:α->β}(h:kT P V Y m d)(i:∀b a g,Y.r b->V b a g->c b (f a) (e g)): kT P c Y (m>>=λa=>pure<|f a) (d>>=λa=>pure<|e a):=kT.ad7 h i
def VG(t:Á)(y:Â):∀u x a,(ñ #[] t #[Þ ë,y]).run P u≠ĥ x a:=by
 unfold ñ;refine FP λn=> ?_;simp only[];split
 .exact adW
 .split;all_goals simp_all
def Df(t:Á)(i:fu Y x v)(j:∃p,x=Þ p)(k:ú)(n:Int):kT P fu Y (ŕ t x<|Ć k n) (ŕ t v<|Ć k n):=by
 obtain⟨p,rfl⟩:=j;cases i with
 |lW=>
  unfold ŕ;refine lq (jf t) ?_;rintro e d _ h ⟨rfl,_⟩;cases d<;>simp only[Å,if_false,if_true]<;>first|exact .gB .fU|exact .gB (.oN (VG t _))
 |jV f=>
  unfold ŕ;refine lq (jf t) ?_;rintro e d _ h ⟨rfl,_⟩;have l:∀{a g:Ú},ic e a g->kT P fu e (Į a>>=λp=>ñ #[] t #[Þ<|À p.1,Ć k n]>>=λc=>match c with|Þ (À b)=>cg b p.2|c=>pure c) (Į g>>=λp=>ñ #[] t #[Þ<|À p.1,Ć k n]>>=λc=>match c with|Þ (À b)=>cg b p.2|c=>pure c):=by intro a g f;refine lq (AQ f) ?_;rintro q p r s ⟨m,u,rfl,rfl⟩;refine lq (VF t m k n) ?_;intro w c y z o;cases o<;>first|exact .Dc trivial|exact .gB (.fH (by constructor<;>assumption))
  cases d<;>simp only[Å,if_false,if_true]<;>first|exact .gB .fU|exact l<|f.r h
def VH(t:Á)(b:fu Y x v)(c:∃p,x=Þ p)(k:ú)(n:Int):kT P fu Y (Ţ t x<|Ć k n) (Ţ t v<|Ć k n):=by
 unfold Ţ;obtain⟨p,rfl⟩:=c;cases b with
 |lW=>exact .gB (.oN (VG t _))
 |jV a=>
  apply lq (VA a.1);rintro e p f d ⟨rfl,rfl⟩;exact .gB (VF t (a.r d) k n)
def aef(P:Õ)(a:ġ)(t:Á)(x y:Â):Prop:=a=aA\/a=aL->(tO P t\/((∃e,P.underlying t=À (ð e))/\(nk x\/nk y)))
def VI(c:Bi Y)(d:Y.C=P.globals.size)(t:Á)(f:tO P t\/((∃e,P.underlying t=À (ð e))/\(nk x\/nk z)))(a:fu Y x v)(b:fu Y z jQ):fK P jx Y (ó t x z) (ó t v jQ):=by
 rcases f with h|⟨g,i⟩
 .exact ad9 c d t h a b
 .exact Vz t (Î g) a b i
def aeg(m:Bi Y)(n:Y.C=P.globals.size)(c:ġ)(t:Á)(r:aef P c t x z)(o:fu Y x v)(h:fu Y z jQ):kT P fu Y (Ũ c t x z) (Ũ c t v jQ):=by
 have f:c=aA->fK P fu Y (ó t x z>>=λb=>pure<|Ľ b) (ó t v jQ>>=λb=>pure<|Ľ b):=by intro e;apply fJ (VI m n t (r<|Ç e) o h);rintro i b _ _ rfl;exact .fH (.mJ _)
 have g:c=aL->fK P fu Y (ó t x z>>=λb=>pure<|Ľ !b) (ó t v jQ>>=λb=>pure<|Ľ !b):=by intro e;apply fJ (VI m n t (r<|Î e) o h);rintro i b _ _ rfl;exact .fH (.mJ _)
 cases o with
 |iH k a=>
  cases h with
  |iH d b=>exact .gB (aec c t k d a b)
  |jV l=>
   cases c<;>first|exact .gB .fU|exact .gB (f U)|exact .gB (g U)|exact Df t (.jV l) ⟨_,U⟩ _ _|skip
   apply lq (AQ l);rintro i p s e ⟨j,_,_,_⟩;exact .gB (VD _ j _)
  |lW=>cases c<;>first|exact .gB .fU|exact .gB (f U)|exact .gB (g U)|exact Df t .lW ⟨_,U⟩ _ _
  |_=>cases c<;>first|exact .gB .fU|exact .gB (f U)|exact .gB (g U)
 |k9 a=>
  cases h with
  |k9 b=>exact .gB (aed c t a b)
  |_=>cases c<;>first|exact .gB .fU|exact .gB (f U)|exact .gB (g U)
 |lW=>
  cases h with
  |iH k b=>
   cases c<;>first|exact .gB .fU|exact .gB (f U)|exact .gB (g U)|exact Df t .lW ⟨_,U⟩ _ _|skip
   refine lq (jf t) ?_;rintro i d _ e ⟨rfl,_⟩;cases d<;>simp only[Å,if_false,if_true]<;>first|exact VH t .lW ⟨_,U⟩ _ _|exact Df t .lW ⟨_,U⟩ _ _
  |_=>cases c<;>first|exact .gB .fU|exact .gB (f U)|exact .gB (g U)
 |jV a=>
  cases h with
  |iH k b=>
   cases c<;>first|exact .gB .fU|exact .gB (f U)|exact .gB (g U)|exact Df t (.jV a) ⟨_,U⟩ _ _|skip
   .refine lq (jf t) ?_;rintro i d _ e ⟨rfl,_⟩;have a:=a.r e;cases d<;>simp only[Å,if_false,if_true]<;>first|exact VH t (.jV a) ⟨_,U⟩ _ _|exact Df t (.jV a) ⟨_,U⟩ _ _
   all_goals
    apply lq (AQ a);rintro i p s e ⟨j,_,_,_⟩;exact .gB (VD _ j _)
  |jV l=>
   cases c<;>first|exact .gB .fU|exact .gB (f U)|exact .gB (g U)|skip
   all_goals
    refine lq (AQ a) ?_;rintro i p s e ⟨j,_,rfl,rfl⟩;refine lq (AQ<|l.r e) ?_;rintro w q B b ⟨d,_,rfl,rfl⟩;have k:=b.2.1<|e.2.1 m;have u:=b.2.2.trans<|e.2.2.trans n;first|exact .gB (ad1 k u _ (j.r b) d)|exact .gB (ad2 k u _ (j.r b) d)
  |_=>cases c<;>first|exact .gB .fU|exact .gB (f U)|exact .gB (g U)
 |_=>
  cases h<;>cases c<;>first|exact .gB .fU|exact .gB (f U)|exact .gB (g U)
end
section
variable{Y:fy}
def aeh(a b:Á)(h:(∃k g,P.underlying a=À (Β k)/\P.underlying b=À (Β g))\/(P.underlying a=À ę/\P.underlying b=À ę))(f:fu Y x v):fK P fu Y (Œ a b x) (Œ a b v):=by
 unfold Œ;refine fJ (jf a) ?_;rintro n d _ l ⟨rfl,c⟩;refine fJ (jf b) ?_;rintro o p _ m ⟨rfl,e⟩;have f:=(f.fT l).fT m;rcases h with⟨k,g,i,j⟩|⟨i,j⟩;all_goals
  rw[i]at c;rw[j]at e;injection c with c;injection e with e;subst c e;cases f<;>first|exact .fU|exact .fH (.iH _ _)|exact .fH (.k9 _)
inductive pn(Y:fy):Ο->Ο->Prop
 |nU {v v':Â} (h:fu Y v v'):pn Y (ï v) (ï v')
 |sL:pn Y aH aH
 |sM (f:à) {c c':Array Â} (h:fX Y c c'):pn Y (ũ f c) (ũ f c')
def FR(P:Õ)(t:Á):Prop:=tO P t\/∃e,P.underlying t=À (ð e)
def aei(t:Á)(f:FR P t)(a g b i:Â):fK P jx Y (į ā t a b) (į ā t g i):=by
 unfold ā į;refine fJ (jf t) ?_;rintro j d _ l ⟨rfl,c⟩;rcases f with(h|⟨k,h⟩|h)|⟨e,h⟩;all_goals
  rw[h]at c;injection c with c;subst c;exact .fH U
def aej(e:ġ)(t:Á)(c:e=aA\/e=aL->FR P t)(x y:Ö){d:Â}(h:fu Y v z)(i:fu Y jQ d):fK P jx Y (ŷ e t x y v jQ) (ŷ e t x y z d):=by
 have g:FR P t->∀{f:fy} (s:br) (v z jQ d:Â),fK P jx f (į ā t v jQ>>=λr=>if r=É then unsupported s else pure ()) (į ā t z d>>=λr=>if r=É then unsupported s else pure ()):=by
  intro c f s v z jQ d;apply fJ (aei t c v z jQ d);rintro j r _ _ rfl;split
  .exact .fU
  .exact .fH U
 unfold ŷ;cases e<;>first|exact .fH U|skip
 all_goals
  have c:=c (by first|exact Ç U|exact Î U);cases h<;>cases i<;>first|exact .fH U|skip
 all_goals first
  |(cases x<;>cases y<;>first|exact .fH U|exact g c _ _ _ _ _)
  |(
   simp only[þ,Å,if_false];apply fJ rv;rintro f p m n ⟨r,s⟩;rw[r,s];apply fJ rv;rintro j q o u ⟨k,l⟩;rw[k,l];split
   .exact .fH U
   .exact g c _ _ _ _ _)
def mT{m a:ē Â}(h:fK P fu Y m a):fK P pn Y (m>>=λv=>pure<|ï v) (a>>=λv=>pure<|ï v):=h.mo λ_ _ _ _ v=> .fH (.nU v)
def VJ{m a:ē Â}(h:kT P fu Y m a):kT P pn Y (m>>=λv=>pure<|ï v) (a>>=λv=>pure<|ï v):=aee h λ_ _ _ _ v=> .nU v
def aek{m a:ē Unit}(h:fK P jx Y m a):fK P pn Y (m>>=λ_=>pure aH) (a>>=λ_=>pure aH):=h.mo λ_ _ _ _ _=> .fH .sL
def ael(f:à)(b:∃a,P.funcs[f]?=À a/\(a.name== "runtime.NumGoroutine")=Ã/\a.body.isNone=Ã)(e:fX Y d q):fK P pn Y (ĵ f d) (ĵ f q):=by let⟨a,g,h,i⟩:=b;unfold ĵ;apply fJ rv;rintro m p n j ⟨k,l⟩;rw[k,l,g];simp only[h,i,Å,if_false];exact .fH (.sM f (e.I j))
end
inductive kn(P:Õ)(ev:Ö->Â):Op->Prop
 |AR (x:Ö):kn P ev (.move x)
 |FT (x:Ö):kn P ev (.assign x)
 |wS (c a b:Ö):kn P ev (.pick c a b)
 |gL (t:Á):kn P ev (.alloc t)
 |NH (t:Á) (x:Ö):kn P ev (.box t x)
 |NJ (t:Á) (ps:Array (Nat×Operand)):kn P ev (.build t ps)
 |NK (t:Á) (n:Nat) (ps:Array (Nat×Operand)):kn P ev (dD t n ps)
 |gE (t:Á) (a:Ö):kn P ev (.load t a)
 |jg (t:Á) (a x:Ö):kn P ev (.store t a x)
 |FU (x:Ö):kn P ev (eD x)
 |Dg (op:ġ) (t:Á) (x y:Ö) (r:Á) (h:op=aA\/op=aL->(tO P t\/((∃e,P.underlying t=À (ð e))/\(nk (ev x)\/nk (ev y))))):kn P ev (dV op t x y r)
 |NL (op:UnOp) (t:Á) (x:Ö):kn P ev (.unOp op t x)
 |NM (s d:Á) (x:Ö) (h:(∃k k',P.underlying s=À (Β k)/\P.underlying d=À (Β k'))\/(P.underlying s=À ę/\P.underlying d=À ę)):kn P ev (aN s d x)
 |NN (t:Á) (l c:Ö):kn P ev (dW t l c)
 |kS (t:Á) (x:Ö) (lo hi mx:Option Ö):kn P ev (.slice t x lo hi mx)
 |NO (s:Á) (x:Ö) (n:Nat) (h:∀fields f i,P.underlying s=À (df fields)->fields[n]?=À f->P.info? f.type=À i->i.size≠0):kn P ev (dX s x n)
 |NP (t:Á) (x:Ö) (n:Nat):kn P ev (.field t x n)
 |NQ (t:Á) (x i:Ö):kn P ev (dY t x i)
 |NS (t:Á) (x i:Ö):kn P ev (.index t x i)
 |FJ (x:Ö) (n:Nat):kn P ev (.extract x n)
 |FV (x:Ö) (ts:Array Á):kn P ev (Ω {callee:=ĝ .len,args:=#[x],argTypes:=ts})
 |FW (x:Ö) (ts:Array Á):kn P ev (Ω {callee:=ĝ .cap,args:=#[x],argTypes:=ts})
 |FX (x y:Ö) (ts:Array Á):kn P ev (Ω {callee:=ĝ .copy,args:=#[x,y],argTypes:=ts})
 |tN (x y:Ö) (t0 t1:Á) (h:(∃e,P.underlying t1=À (dh e))\/P.underlying t1=À ę):kn P ev (Ω {callee:=ĝ .append,args:=#[x,y],argTypes:=#[t0,t1]})
 |jO (f:à) (args:Array Ö) (ts:Array Á) (VK:ev (aO f)=eL (.func f) #[] #[]) (h:∃fn,P.funcs[f]?=À fn/\(fn.name== "runtime.NumGoroutine")=Ã/\fn.body.isNone=Ã):kn P ev (Ω {callee:=cj<|aO f,args:=args,argTypes:=ts})
end Go.Proofs.Y.Lift
namespace Go.Proofs.Y.Lift
open Go Go.Conc
section
variable{Y:fy}
def VL(Y:fy):Ö->Prop
 |dZ v=>fu Y v v
 |ez g=>Y g g
 |_=>True
theorem FY(Y:fy):fu Y ľ ľ:=.nR U λi h=>absurd h ft
def aem{a a':bF}(h:fX Y a.tmps a'.tmps)(b:VL Y qQ):fu Y (a.eval qQ) (a'.eval qQ):=by
 cases qQ with
 |tmp t=>
  simp only[å,ĩ];rcases h.S t with⟨f,g⟩|⟨v,d,f,g,c⟩
  .rw[f,g];exact FY Y
  .rwa[f,g]
 |const v=>exact b
 |global g=>exact .jV ⟨b,U,U⟩
 |func f=>exact .fn _
def aen(b:Array av)(h:fX Y d q)(j:Nat):ł b d j=ł b q j:=by
 unfold ł;cases(b[j]?).bind (·.dst)with
 |none=>rfl
 |some a=>
  simp only[Option.bind_some];rcases h.S a with⟨c,e⟩|⟨v,g,c,e,f⟩
  .rw[c,e]
  .rw[c,e];cases f<;>rfl
def Jp(a:Array av)(o:av)(h:fX Y d q):Ħ o (ł a d)=Ħ o (ł a q):=by have:ł a d=ł a q:=funext<|aen a h;rw[this]
def aeo{a a':bF}(h:fX Y a.tmps a'.tmps)(d:Option Tmp)(b:fu Y v x):fX Y (a.put d v).tmps (a'.put d x).tmps:=by
 cases d with
 |none=>exact h
 |some d=>exact h.qE d b
end
section
variable{Y:fy}
def VM{b:Ö->Â}(a:Array Ö)(h:∀x∈a,fu Y (xX x)<|b x):fX Y (a.map xX) (a.map b):= ⟨ft,λi c d=>by simp only[ŵ];exact h _<|Array.getElem_mem _⟩
def VN{c:Ö->Â}(a:Array (Nat×Operand))(h:∀x∈(a.toList.map (·.2)).toArray,fu Y (xX x)<|c x):vv Y (a.map λp=>(p.1,xX p.2)).toList (a.map λp=>(p.1,c p.2)).toList:=by
 simp only[Array.toList_map];have d:∀x∈a.toList.map (·.2),fu Y (xX x) (c x):=λx b=>h x (by simpa using b);generalize a.toList=l at d
 induction l with
 |nil=>exact .pj
 |cons p l e=>exact .wR ⟨U,d _ ft⟩ (e λx b=>d x<|by simp at b|-;exact Î b)
def NT{a:Ö->Â}(x:Option Ö)(h:∀y,x=À y->fu Y (xX y) (a y)):rz Y (x.map xX) (x.map a):=by
 cases x with
 |none=>exact Ç ⟨U,U⟩
 |some x=>exact Î ⟨_,_,U,U,h x U⟩
def VO(p:nT P)(D:Bi Y)(E:Y.C=P.globals.size){w:Ö->Â}(F:∀f,w (aO f)=eL (.func f) #[] #[])(B:kn P xX o.op)(g:∀x∈o.op.operands,fu Y (xX x)<|w x):kT P pn Y (ì xX o) (ì w o):=by
 let⟨O,u,Q,S,T,guard⟩:=o;simp only at B g;unfold ì;simp only[];cases B with
 |AR x=>exact .gB (.fH (pn.nU<|g x<|by simp[Ê]))
 |FT x=>exact .gB (.fH (pn.nU<|g x<|by simp[Ê]))
 |wS c a b=>
  apply lq (Vw<|g c<|by simp[Ê]);rintro G r _ k rfl;refine .gB (.fH (pn.nU ?_));split
  .exact(g a<|by simp[Ê]).fT k
  .exact(g b<|by simp[Ê]).fT k
 |gL t=>exact .gB (mT<|adx p t _)
 |NH t x=>exact .gB (mT<|ady t<|g x<|by simp[Ê])
 |NJ t z=>exact .gB (mT<|adO p t<|VN z g)
 |NK t n z=>exact .gB (mT<|adR p t n<|VN z g)
 |gE t a=>exact .gB (mT<|adz t<|g a<|by simp[Ê])
 |jg t a x=>exact .gB (aek<|adA t (g a<|by simp[Ê])<|g x<|by simp[Ê])
 |FU x=>
  simp only[];have j:=g x (by simp[Ê]);generalize xX x=v at j;generalize w x=v' at j;cases j<;>first|exact .gB Jm|exact .gB (.fH (pn.nU<|by constructor<;>assumption))|skip
  rename_i f;cases f<;>exact .gB (.fH (pn.nU<|.fn _))
 |Dg u t x y r h=>
  have j:=g x (by simp[Ê]);have C:=g y (by simp[Ê]);apply VJ;apply lq (aej u t (λe=>(h e).imp id λq=>q.1) x y j C);exact λG _ _ k _=>aeg (k.2.1 D) (k.2.2.trans E) u t h (j.fT k)<|C.fT k
 |NL u t x=>exact .gB (mT<|adI u<|g x<|by simp[Ê])
 |NM s d x h=>exact .gB (mT<|aeh s d h<|g x<|by simp[Ê])
 |NN t l c=>exact .gB (mT<|adY p t (g l<|by simp[Ê])<|g c<|by simp[Ê])
 |kS t x H I J=>exact .gB (mT<|adG t (g x<|by simp[Ê]) (NT H λy e=>g y<|by simp[Ê,e]) (NT I λy e=>g y<|by simp[Ê,e])<|NT J λy e=>g y<|by simp[Ê,e])
 |NO s x n h=>exact .gB (mT<|adD s (g x<|by simp[Ê]) n h)
 |NP t x n=>exact .gB (mT<|adC t (g x<|by simp[Ê]) n)
 |NQ t x i=>exact .gB (mT<|adE t (g x<|by simp[Ê])<|g i<|by simp[Ê])
 |NS t x i=>exact .gB (mT<|adH t (g x<|by simp[Ê])<|g i<|by simp[Ê])
 |FJ x n=>exact .gB (mT<|adB (g x<|by simp[Ê]) n)
 |FV x m=>
  simp only[ù,č,Ē,pure_bind,Ø,â,ä];exact .gB (mT<|adT m _<|g x<|by simp[Ê,ô])
 |FW x m=>
  simp only[ù,č,Ē,pure_bind,Ø,â,ä];exact .gB (mT<|adU m _<|g x<|by simp[Ê,ô])
 |FX x y m=>
  simp only[ù,č,Ē,pure_bind,Ø,â,ä];exact .gB (mT<|adV m _ (g x<|by simp[Ê,ô])<|g y<|by simp[Ê,ô])
 |tN x y K L h=>
  simp only[ù,č,Ē,pure_bind,Ø,â,ä];exact .gB (mT<|adX p K L _ h (g x<|by simp[Ê,ô])<|g y<|by simp[Ê,ô])
 |jO f M m N h=>
  simp only[ù,N,F f,İ,č,pure_bind,Ď,ď];exact .gB (ael f h<|VM M λx j=>g x<|by simp[Ê,ô,j])
end
def World.tp(u:Æ)(T:ψ)(D:Nat):Æ:={u with tape:=T,drawn:=D}
def vw(T:ψ)(D:Nat)(a:ψ)(b n:Nat):Prop:=∀i,i<n->a (b+i)=T (D+i)
def vw.lY{T:ψ}(h:vw T i xQ j (n+1)):xQ j=T i:=h 0 Z
def vw.jy{T:ψ}(h:vw T i xQ j (n+m)):vw T i xQ j n:=λa b=>h a Z
def vw.NU{b:ψ}(h:vw xQ i b j (n+m)):vw xQ (i+n) b (j+n) m:=λa c=>by have:=h (n+a) Z;rw[show j+n+a=j+(n+a) by omega,show i+n+a=i+(n+a) by omega];exact this
def rC{α:Type}(P:Õ)(m:ē α):Prop:=∀(u:Æ) (T:ψ) (D:Nat),∃(n:Nat) (v:Æ),
 ∀x c,m.run P ((World.tp u T D))=ĥ x c->c=(World.tp v T<|D+n)/\∀a b,vw T D a b n->m.run P ((World.tp u a b))=ĥ x ((World.tp v a<|b+n))
section
variable{α β:Type}
def AS{m:ē α}(h:∀u x a,m.run P u=ĥ x a->a=u/\∀b c,m.run P ((World.tp u b c))=ĥ x ((World.tp u b c))):rC P m:=λu T D=>⟨0,u,λx a e=>by let⟨d,f⟩:=h _ x a e;exact⟨d,λb c _=>f b c⟩⟩
def NV{m:ē α}(h:∀u x a,m.run P u≠ĥ x a):rC P m:=λu T D=>⟨0,u,λx a e=>absurd e<|h _ _ _⟩
def aep{m:ē α}{f:α->ē β}(h:rC P m)(i:∀a,rC P<|f a):rC P (m.bind f):=by
 intro u T D;let⟨n,v,j⟩:=h u T D;cases b:m.run P ((World.tp u T D))with
 |halt z w=>exact⟨0,u,λx c e=>by rw[Ĵ,b]at e;cases e⟩
 |ok a k=>
  obtain⟨rfl,l⟩:=j a k b;let⟨o,w,p⟩:=i a v T<|D+n;refine⟨n+o,w,λx c e=> ?_⟩;rw[Ĵ,b]at e;let⟨q,r⟩:=p x c e;refine⟨by rw[q,cP],λz d g=> ?_⟩;rw[Ĵ,l z d g.jy,<-cP];exact r z (d+n) g.NU
theorem aer{m a:ē α}(h:∀u,m.run P u=a.run P u)(b:rC P a):rC P m:=by intro u T D;let⟨n,v,c⟩:=b u T D;exact⟨n,v,λx d e=>by grind⟩
def aes(q:bU):rC P (π q):=by
 intro u T D;cases a:q.forced with
 |true=>exact⟨0,u,λx d e=>by simp only[π,ã,a,if_true]at e;cases e;exact⟨U,λb c _=>by simp only[π,ã,a,if_true];rfl⟩⟩
 |false=>
  refine⟨1,u,λx d e=> ?_⟩;simp only[π,ã,a,Å,if_false]at e;cases e;refine⟨U,λb c f=> ?_⟩;simp only[π,ã,a,Å,if_false];have g:(World.tp u b c).tape (World.tp u b c).drawn q=T D q:=congrFun f.lY q;rw[g];rfl
def Jq{γ:Type}(s:String):(MonadExcept.throw s:Except String γ)=bG s:=rfl
def aeu(a:Ú)(md:Mode):rC P (aX a md):=by
 refine AS λu x f e=> ?_;simp only[aX,ã]at e|-;cases b:u.cell? a with
 |some v=>
  rw[b]at e;cases e;exact⟨U,λc d=>by simp only[show((World.tp u c d)).cell? a=À x from b]⟩
 |none=>
  rw[b]at e;cases v:u.farLoad P a (md==ċ)with
  |error z=>simp only[v]at e;cases e
  |ok p=>
   simp only[v]at e;cases e;exact⟨U,λc d=>by simp only[show((World.tp u c d)).cell? a=ë from b,show((World.tp u c d)).farLoad P a (md==ċ)=.ok p from v]⟩
def NW(u:Æ)(a:Ú)(v:Â)(md:Mode):∀T D,((World.tp u T D)).farStore P a v (md==ċ)=(u.farStore P a v<|md==ċ).map λp=>((World.tp p.1 T D),p.2):=by
 intro T D;have c:∀b t,((World.tp u T D)).viewStore P b t a v (md==ċ)=(u.viewStore P b t a v<|md==ċ).map λp=>((World.tp p.1 T D),p.2):=by
  intro b t;unfold bJ;have o:((World.tp u T D)).seen P b t a (md==ċ)=u.seen P b t a (md==ċ):=U;rw[o];simp only[bind,ρ,pure,ς,Jq];cases u.seen P b t a (md==ċ)with
  |error e=>simp only[];split<;>rfl
  |ok r=>
   simp only[];repeat' (first|rfl|split)
 unfold Ŧ;have e:((World.tp u T D)).heap=u.heap:=U;cases r:u.heap[a.block]? with
 |none=>simp only[aP,e,r];rfl
 |some o=>
  cases o<;>first
   |(simp only[aP,e,r];rfl)
   |skip
  simp only[e,r,c];cases u.viewStore P _ _ a v (md==ċ)<;>rfl
def aev(a:Ú)(v:Â)(md:Mode):rC P (ar a v md):=by
 by_cases b:yE v=É
 .intro u T D;cases d:u.cell? a with
  |some y=>
   cases c:u.frozen? a with
   |true=>exact⟨0,u,λx h e=>by simp only[ar]at e;rw[wP b,show((World.tp u T D)).cell? a=À y from d]at e;simp only[show((World.tp u T D)).frozen? a=É from c,if_true]at e;cases e⟩
   |false=>
    refine⟨0,u.setCell a v,λx h e=> ?_⟩;simp only[ar]at e|-;rw[wP b,show((World.tp u T D)).cell? a=À y from d]at e;simp only[show((World.tp u T D)).frozen? a=Ã from c,Å,if_false]at e;cases e;refine⟨U,λf g i=> ?_⟩;rw[wP b,show((World.tp u f g)).cell? a=À y from d];simp only[show((World.tp u f g)).frozen? a=Ã from c,Å,if_false];rfl
  |none=>
   cases c:u.farStore P a v (md==ċ)with
   |error z=>exact⟨0,u,λx h e=>by simp only[ar]at e;rw[wP b,show((World.tp u T D)).cell? a=ë from d]at e;simp only[NW u a v md T D,c,ck]at e;cases e⟩
   |ok p=>
    refine⟨0,p.1,λx h e=> ?_⟩;simp only[ar]at e|-;rw[wP b,show((World.tp u T D)).cell? a=ë from d]at e;simp only[NW u a v md T D,c,ck]at e;cases e;refine⟨U,λf g i=> ?_⟩;rw[wP b,show((World.tp u f g)).cell? a=ë from d];simp only[NW u a v md f g,c,ck];rfl
 .exact NV λu x h e=>by cases v<;>first|exact absurd U b|cases e
def aew(o:Obj):rC P (eO o):=λu T D=>⟨0,{u with heap:=u.heap.push o},λx a e=>by cases e;exact⟨U,λb c _=>rfl⟩⟩
def aex(r:Nat):rC P (cm r):=by
 refine AS λu x d e=> ?_;simp only[cm,ã]at e|-;cases a:u.heap[r]? with
 |none=>rw[a]at e;cases e
 |some o=>
  rw[a]at e;cases o<;>first
   |(cases e;done)
   |(cases e;exact⟨U,λb c=>by simp only[show((World.tp u b c)).heap[r]?=_ from a]⟩)
end
def qF(u:Æ):Prop:=∀(i:Nat) (c:Array Â) (e:Á),u.heap[i]?≠À (Ÿ c e)
structure Kd(u u':Æ):Prop where
 r:qF u->qF u'
 C:∀(i:Nat) (o:Obj),u.heap[i]?=À o->yJ o->∃o',u'.heap[i]?=À o'/\yJ o'
theorem Kd.gd(u:Æ):Kd u u:=⟨id,λ_ o h k=>⟨o,h,k⟩⟩
def Kd.fj{c:Æ}(h:Kd w u)(k:Kd u c):Kd w c:=⟨λx=>k.r<|h.r x,λi o x y=>by let⟨d,e,f⟩:=h.C i o x y;exact k.C i d e f⟩
def FZ:Halt->Bool
 |.panic _=>É
 |.stuck _=>É
 |ŀ (.initOrder _)=>Ã
 |ŀ _=>É
 |_=>Ã
def oO{α:Type}(P:Õ)(m:ē α):Prop:=∀u,qF u->(∀x a,m.run P u=ĥ x a->Kd u a)/\(∀z a,m.run P u=bV z a->FZ z=É)
section
variable{α β:Type}
def VP(a:α):oO P (aI a):=λu _=>⟨λx b h=>by cases h;exact Kd.gd u,λz b h=>by cases h⟩
def F0{z:Halt}(h:FZ z=É):oO P (ew z:ē α):=λu _=>⟨λx a e=>(by cases e),λb a e=>(by cases e;exact h)⟩
def Jr{m:ē α}{f:α->ē β}(h:oO P m)(j:∀a,oO P<|f a):oO P (m.bind f):=by
 intro u d;let⟨g,k⟩:=h u d;refine⟨λx i e=> ?_,λz i e=> ?_⟩<;>rw[Ĵ]at e
 .cases b:m.run P u with
  |ok a c=>
   rw[b]at e;exact(g a c b).fj<|(j a c<|(g a c b).r d).1 x i e
  |halt z w=>rw[b]at e;cases e
 .cases b:m.run P u with
  |ok a c=>
   rw[b]at e;exact(j a c<|(g a c b).r d).2 z i e
  |halt c w=>rw[b]at e;cases e;exact k _ _ b
def VQ:oO P dc:=λu _=>⟨λx a h=>by cases h;exact Kd.gd u,λz a h=>by cases h⟩
theorem aey(q:bU):oO P (π q):=by
 intro u b;constructor
 .intro x a e;simp only[π,ã]at e;split at e<;>cases e
  .exact Kd.gd u
  .exact⟨id,λi o h k=>⟨o,h,k⟩⟩
 .intro z a e;simp only[π,ã]at e;grind
def aez(m:Mark):oO P (mark m):=λu _=>⟨λx a h=>by cases h;exact Kd.gd u,λz a h=>by cases h⟩
def aeA(r:Nat):oO P (cu r):=λu _=>⟨λx a h=>by cases h;exact Kd.gd u,λz a h=>by cases h⟩
def aeB(a:Ú):oO P (eP a):=λu _=>⟨λx b h=>by cases h;exact Kd.gd u,λz b h=>by cases h⟩
theorem aeC(o:Obj)(h:∀c e,o≠Ÿ c e):oO P (eO o):=by
 intro u b;refine⟨λx d e=> ?_,λz d e=>by cases e⟩;cases e;refine⟨λ_ i c e a=> ?_,λi f a g=>⟨f,?_,g⟩⟩
 .simp only[Array.getElem?_push]at a;split at a
  .grind
  .exact b i c e a
 .grind
theorem VR{f:Obj->Obj}(n:∀o,yJ o->yJ (f o))(j:∀o c e,f o=Ÿ c e->∃d g,o=Ÿ d g):Kd u {u with heap:=u.heap.modify b f}:=by
 refine⟨λh i c e a=> ?_,λi o a p=> ?_⟩
 .simp only[Ň]at a;split at a
  .let⟨o,k,l⟩:=ģ.1 a;let⟨d,g,m⟩:=j o c e l;exact h i d g<|m▸k
  .exact h i c e a
 .grind
theorem aeD(a:Ú)(v:Â):Kd u (u.setCell a v):=by
 unfold ĉ;refine VR (λo b=> ?_) λo c e h=> ?_
 .cases o<;>first|exact b.elim|trivial
 .grind
theorem VS(b:qF u)(a:Ú)(s:String):FZ (u.noCell a s)=É:=by
 unfold aP;split
 .rename_i h;exact absurd h<|b _ _ _
 .rfl
 .rfl
theorem aeE(a:Ú)(m:Mode):oO P (aX a m):=by
 intro u d;constructor
 .intro x c e;simp only[aX,ã]at e;grind [Kd.gd]
 .intro z c e;simp only[aX,ã]at e;split at e
  .cases e
  .split at e
   .cases e
   .rename_i b;cases e;unfold ŋ at b;split at b
    .split at b<;>cases b;rfl
    .grind [VS]
theorem aeF{k:Ú}{r:Array Value×TypeId×(Nat×Nat)×Nat×Value×List (Nat×Nat×List UInt8)}(h:w.seen P a t k yQ=.ok r):∃c e d,w.heap[a.block]?=À (Č c e d):=by unfold World.seen at h;simp only[bind,ρ,pure,ς,Jq]at h;grind
theorem aeG{k:Ú}{l:List Ú}(h:w.viewStore P a t k v yQ=.ok (u,l)):Kd w u:=by
 have q:∃c e n d f g,w.heap[a.block]?=À (Č d f g)/\u={w with heap:=w.heap.setIfInBounds a.block (Č c e n)}:=by
  unfold bJ at h;cases i:w.seen P a t k yQ with
  |error e=>
   rw[i]at h;simp only[bind,ρ,pure,ς,Jq]at h;repeat' (first|contradiction|split at h)
  |ok r=>
   let⟨d,f,g,j⟩:=aeF i;rw[i]at h;simp only[bind,ρ,pure,ς,Jq]at h;repeat' (first|contradiction|split at h)
   all_goals(simp only[Except.ok.injEq,Prod.mk.injEq]at h;obtain⟨rfl,_⟩:=h;exact⟨_,_,_,d,f,g,j,U⟩)
 obtain⟨c,e,n,d,f,g,j,rfl⟩:=q;refine⟨λs i x m r=> ?_,λi o r y=> ?_⟩
 .rw[Ś]at r;split at r
  .grind
  .exact s i x m r
 .by_cases m:a.block=i
  .subst m;rw[j]at r;cases r;exact y.elim
  .grind
theorem aeH(a:Ú)(v:Â)(m:Mode):oO P (ar a v m):=by
 intro u d;by_cases c:yE v=É
 .constructor
  .intro x f e;simp only[ar]at e;rw[wP c]at e;split at e
   .split at e
    .cases e
    .cases e;exact aeD a v
   .split at e
    .rename_i b;cases e;unfold Ŧ at b;grind [aeG]
    .cases e
  .intro z f e;simp only[ar]at e;rw[wP c]at e;split at e
   .split at e
    .cases e;rfl
    .cases e
   .split at e
    .cases e
    .rename_i b;cases e;unfold Ŧ at b;split at b
     .split at b<;>cases b;rfl
     .grind [VS]
 .cases v<;>first|exact absurd U c|exact F0 (P:=P) U u d
def fI(P:Õ)(m:ē α):Prop:=oO P m/\rC P m
theorem gJ(a:α):fI P (pure a):=⟨VP a,AS λu x b e=>by cases e;exact⟨U,λ_ _=>rfl⟩⟩
def NY{z:Halt}(h:FZ z=É):fI P (ew z:ē α):=⟨F0 h,NV λu x a e=>by cases e⟩
theorem gA{m:ē α}{f:α->ē β}(h:fI P m)(b:∀a,fI P<|f a):fI P (m>>=f):=⟨Jr h.1 λa=>(b a).1,aep h.2 λa=>(b a).2⟩
def NZ{m:ē α}{f:α->β}(h:fI P m):fI P (f<$>m):=gA h λ_=>gJ _
theorem jh(s:String):fI P (stuck s:ē α):=NY U
def VT(v:Â):fI P (goPanic v:ē α):=NY U
theorem qG:fI P dc:=⟨VQ,AS λu x a e=>by cases e;exact⟨U,λ_ _=>rfl⟩⟩
theorem sN(q:bU):fI P (π q):=⟨aey q,aes q⟩
def F1(m:Mark):fI P (mark m):=⟨aez m,AS λu x a e=>by cases e;exact⟨U,λ_ _=>rfl⟩⟩
theorem tP(r:Nat):fI P (cu r):=⟨aeA r,AS λu x a e=>by cases e;exact⟨U,λ_ _=>rfl⟩⟩
theorem N0(a:Ú):fI P (eP a):=⟨aeB a,AS λu x b e=>by cases e;exact⟨U,λ_ _=>rfl⟩⟩
def Js(o:Obj)(h:∀c e,o≠Ÿ c e):fI P (eO o):=⟨aeC o h,aew o⟩
def F2(a:Ú)(m:Mode):fI P (aX a m):=⟨aeE a m,aeu a m⟩
def aeI(a:Ú)(v:Â)(m:Mode):fI P (ar a v m):=⟨aeH a v m,aev a v m⟩
theorem Jt{m m':ē α}(h:∀u,m.run P u=m'.run P u)(a:fI P m'):fI P m:=⟨λu b=>by have:=a.1 u b;rwa[<-h u]at this,aer h a.2⟩
end
section
variable{α:Type}
def nn(u:br)(h:FZ (ŀ u)=É):fI P (unsupported u:ē α):=NY h
def F3(e:Á)(c:Array Â):fI P (dU e c):=by unfold dU;exact gA (Js _<|by intro _ _ h;cases h) λ_=>gJ _
def VU(t:Á)(v:Â):fI P (eM t v):=F3 _ _
def vx(t:Á):fI P (Δ t):=by unfold Δ;repeat' (first|(with_reducible first|exact gJ _|exact jh _|exact qG|refine gA ?_ λ_=> ?_)|split)
theorem rD(t:Á):fI P (ø t):=by unfold ø;repeat' (first|(with_reducible first|exact gJ _|exact jh _|exact qG|refine gA ?_ λ_=> ?_)|split)
def tR{p:Prop}(h:p:=by repeat' (first|(with_reducible first|exact gJ _|exact jh _|exact qG|exact rD _|exact VT _|exact VU _ _|exact sN _|exact vx _|exact F2 _ _|exact tP _|exact F1 _|refine gA ?_ (λ_=> ?_)|refine NZ ?_|refine nn _ ?_)|split|rfl)):p:=h
def Ju(t:Á):fI P (Ū t):=by unfold Ū;exact tR
def wT(e:Ι):fI P (runtimePanic e:ē α):=by unfold runtimePanic;repeat' (first|(with_reducible first|exact Ju _|refine gA ?_ λ_=> ?_)|split|exact tR)
def VW(k:ú)(x y:Int)(c:ax):fI P (boundsPanic k x y c:ē α):=by unfold boundsPanic;simp only[];repeat' (first|(with_reducible first|exact wT _|refine gA ?_ λ_=> ?_)|split|exact tR)
def aeJ(r:Nat):oO P (cm r):=by
 intro u b;constructor
 .intro x a e;simp only[cm,ã]at e;split at e<;>first|(cases e;done)|(cases e;exact Kd.gd u)
 .intro z a e;simp only[cm,ã]at e;split at e<;>first|(cases e;done)|(cases e;rfl)
theorem VX(r:Nat):fI P (cm r):=⟨aeJ r,aex r⟩
def Jv(t:Á):fI P (ω t):=by unfold ω;exact tR
def tS(t:Á):fI P (ay t):=by unfold ay;exact tR
def N4(t:Á):fI P (ey t):=by unfold ey;exact tR
def VY(a:Ú):∀(n i:Nat) (b:Array Â),fI P<|Ō a i n b
 |0,i,b=>gJ _
 |n+1,i,b=>by unfold Ō;exact gA (F2 _ _) λ_=>VY a n _ _
def N5(a:Ú)(n:Nat):fI P (cZ a n):=VY a n _ _
def Jw(a:Ú):∀(b:List Â) (i:Nat),fI P<|Κ a b i
 |[],i=>gJ _
 |v::b,i=>by unfold Κ;exact gA (aeI _ _ _) λ_=>Jw a b _
theorem VZ(t:Á)(a:Ú):fI P (ae t a):=by unfold ae;repeat' (first|(with_reducible first|exact tS _|exact N4 _|exact N5 _ _|refine gA ?_ λ_=> ?_)|split|exact tR)
def aeK(t:Á)(a:Ú)(v:Â):fI P (aJ t a v):=by unfold aJ;repeat' (first|(with_reducible first|exact tS _|exact Jw _ _ _|refine gA ?_ λ_=> ?_)|split|exact tR)
def V1(t:Á)(c:Array Â)(o:Nat):fI P (part t c o):=by unfold part;repeat' (first|(with_reducible first|exact tS _|exact N4 _|refine gA ?_ λ_=> ?_)|split|exact tR)
def V2(v:Â):fI P (ŧ v):=by unfold ŧ;exact tR
def V3(v:Â):fI P (de v):=by unfold de;exact tR
def j5{p:Prop}(h:p:=by repeat' (first|(with_reducible first|exact gJ _|exact jh _|exact qG|exact rD _|exact VT _|exact VU _ _|exact Ju _|exact sN _|exact wT _|exact vx _|exact F2 _ _|exact tS _|exact N4 _|exact N5 _ _|exact Jw _ _ _|exact V3 _|exact Jv _|exact aeK _ _ _|exact VZ _ _|exact V2 _|exact V1 _ _ _|exact tP _|exact VX _|exact VW _ _ _ _|exact F1 _|refine gA ?_ (λ_=> ?_)|refine NZ ?_|refine nn _ ?_)|split|rfl)):p:=h
def F4(v:Â):fI P (dB v):=by unfold dB;exact j5
def Jx(v:Â):fI P (bW v):=by unfold bW;exact j5
def aeL(v:Â):fI P (eN v):=by unfold eN;exact j5
theorem V4(v:Â):fI P (bX v):=by unfold bX;exact j5
def V5(t:Á)(b:Bool)(v:Â):fI P (Ű t b v):=by unfold Ű;exact j5
def V7(t:Á)(v:Â):fI P (ag t v):=by unfold ag;exact j5
def V8(t:Á)(v:Â):fI P (Ş t v):=by unfold Ş;exact j5
def V9(t:Á)(a v:Â):fI P (ĳ t a v):=by unfold ĳ;exact j5
def Wa(v:Â)(n:Nat):fI P (ō v n):=by unfold ō;exact j5
def Wb(t:Á)(v:Â)(n:Nat):fI P (ű t v n):=by unfold ű;repeat' (first|(with_reducible first|exact aeL _|refine gA ?_ λ_=> ?_)|split|exact j5)
def Wc{γ δ:Type}(f:γ->ē δ)(a:∀x,fI P<|f x):∀l:List γ,fI P<|l.mapM f
 |[]=>by rw[cR];exact gJ _
 |x::l=>by rw[ν];exact gA (a x) λ_=>gA (Wc f a l) λ_=>gJ _
theorem Wg{γ δ:Type}(f:γ->ē δ)(a:∀x,fI P<|f x)(l:Array γ):fI P (l.mapM f):=by rw[Ĕ];exact NZ<|Wc f a _
def aeM(l:Array Field):fI P (l.mapM λf=>do pure (f.offset,<-ay f.type)):=Wg _ (λ_=>gA (tS _) λ_=>gJ _) l
def Jy(r:Nat):fI P (di r):=by unfold di;exact j5
def Wh(r:Nat):fI P (b9 r):=by unfold b9;exact j5
def Wi(a:Ú):fI P (aY a):=by unfold aY;repeat' (first|(with_reducible first|exact Jy _|refine gA ?_ λ_=> ?_)|split|exact j5)
def AT(a:Ú):fI P (dj a):=by unfold dj;repeat' (first|(with_reducible first|exact gJ _|exact jh _|exact qG|exact tP _|exact Wi _|refine gA ?_ λ_=> ?_)|split|simp only[]|(rename_i b;cases b<;>simp only[Å,if_false,if_true,þ,Ă]))
def Dh(a:Ú):fI P (Į a):=by unfold Į;repeat' (first|(with_reducible first|exact Wh _|refine gA ?_ λ_=> ?_)|split|exact j5)
def aeN(a:Ú)(x y:Nat):fI P (partAt a x y):=by unfold partAt;repeat' (first|(with_reducible first|exact AT _|refine gA ?_ λ_=> ?_)|split|exact j5)
def aeO(a:Ú)(f:Field):fI P (bY a f):=by unfold bY;repeat' (first|(with_reducible first|exact aeN _ _ _|refine gA ?_ λ_=> ?_)|split|exact j5)
def Wj(s:Á)(v:Â)(n:Nat):fI P (Ŏ s v n):=by unfold Ŏ;repeat' (first|(with_reducible first|exact aeO _ _|refine gA ?_ λ_=> ?_)|split|exact j5)
def Wk(t:Á)(x i:Â):fI P (ŏ t x i):=by unfold ŏ;repeat' (first|(with_reducible first|exact gJ _|exact jh _|exact rD _|exact VW _ _ _ _|exact tS _|exact V2 _|exact V3 _|refine gA ?_ (λ_=> ?_)|refine nn _ ?_)|split|rfl|simp only[])
def aeP(x:Â)(y:Nat)(c:ax):fI P (ī x y c):=by unfold ī;exact j5
def Wl(b:Bool)(l c:Nat)(x y z:Option Â):fI P (Ĩ b l c x y z):=by unfold Ĩ;repeat' (first|(with_reducible first|exact aeP _ _ _|refine gA ?_ λ_=> ?_)|split|exact j5)
def aeQ(t:Á)(v:Â)(x y z:Option Â):fI P (Ų t v x y z):=by unfold Ų;repeat' (first|(with_reducible first|exact V4 _|exact Wl _ _ _ _ _ _|refine gA ?_ λ_=> ?_)|split|exact j5)
def Wm(t:Á)(v:Â)(x y z:Option Â):fI P (Ő t v x y z):=by unfold Ő;repeat' (first|(with_reducible first|exact Wl _ _ _ _ _ _|exact aeQ _ _ _ _ _|refine gA ?_ λ_=> ?_)|split|exact j5)
def Wn(t:Á)(x i:Â):fI P (ų t x i):=by unfold ų;exact j5
def Wo(o:ġ)(k:ú)(x y:Int):fI P (dE o k x y):=by unfold dE;exact j5
def Wp(o:ġ)(k:ú)(x y:Int):fI P (ea o k x y):=by unfold ea;exact j5
def Wq(o:UnOp)(v:Â):fI P (bZ o v):=by unfold bZ;repeat' (first|(with_reducible first|exact Wo _ _ _ _|exact Wp _ _ _ _)|split|exact j5)
def Wr(t:Á)(a:Array (Nat×Value)):fI P (Ŵ t a):=by unfold Ŵ;repeat' (first|(with_reducible first|exact aeM _|refine gA ?_ λ_=> ?_)|split|exact j5)
def Ws(t:Á)(n:Nat)(a:Array (Nat×Value)):fI P (ĭ t n a):=by unfold ĭ;repeat' (first|(with_reducible first|exact gJ _|exact jh _|exact F3 _ _|exact rD _|exact Jv _|exact tS _|refine gA ?_ (λ_=> ?_)|refine nn _ ?_)|split|rfl|simp only[]|(rename_i b;cases b<;>simp only[Å,if_false,if_true,þ,Ă]))
def N6(n:Nat):fI P (bP n):=by unfold bP;exact j5
def Wt(t:Á)(x y:Â):fI P (Ĺ t x y):=by unfold Ĺ;repeat' (first|(with_reducible first|exact gJ _|exact jh _|exact sN _|exact F3 _ _|exact vx _|exact rD _|exact wT _|exact Jv _|exact tS _|exact F4 _|exact N6 _|refine gA ?_ λ_=> ?_)|split|simp only[]|(rename_i b;cases b<;>simp only[Å,if_false,if_true,þ,Ă]))
def Wu(v:Â):fI P (Α v):=by unfold Α;exact j5
def Wv(s n:Nat)(v:Â):fI P (ļ s n v):=by unfold ļ;exact j5
def aeR(a:Ú)(n:Nat):fI P (aB a n):=by unfold aB;exact j5
def aeS(s l n:Nat)(b:Option Ú)(v:Â):fI P (bb s l n b v):=by unfold bb;repeat' (first|(with_reducible first|exact gJ _|exact N0 _|exact aeR _ _|refine gA ?_ λ_=> ?_)|split|simp only[]|(rename_i b;cases b<;>simp only[Å,if_false,if_true,þ,Ă]))
def Ww(a:Array Á)(t:Á)(x:Array Â):fI P (ş a t x):=by unfold ş;exact j5
def Wx(a:Array Á)(t:Á)(x:Array Â):fI P (Š a t x):=by unfold Š;exact j5
def Wy(a:Array Á)(t:Á)(x:Array Â):fI P (ő a t x):=by unfold ő;repeat' (first|(with_reducible first|exact Wu _|exact Wv _ _ _|refine gA ?_ λ_=> ?_)|split|exact j5)
def Wz(a:Array Á)(t:Á)(x:Array Â):fI P (ĸ a t x):=by unfold ĸ;repeat' (first|(with_reducible first|exact gJ _|exact jh _|exact sN _|exact F1 _|exact F3 _ _|exact vx _|exact rD _|exact wT _|exact Jv _|exact tS _|exact Jw _ _ _|exact F4 _|exact N6 _|exact Wu _|exact Wv _ _ _|exact aeS _ _ _ _ _|refine gA ?_ (λ_=> ?_)|refine nn _ ?_)|split|rfl|(rename_i b;cases b<;>simp only[Å,if_false,if_true,þ,Ă]))
end
section
variable{α:Type}
theorem N7(o:ġ)(k:ı)(x y:Nat):fI P (cS o k x y):=by unfold cS;repeat' (first|(with_reducible first|exact gJ _|exact jh _|exact sN _|refine gA ?_ λ_=> ?_)|split|simp only[]|(rename_i b;cases b<;>simp only[Å,if_false,if_true,þ,Ă]))
theorem N8(o:ġ)(k:ı)(x y:Nat):fI P (dF o k x y):=by unfold dF;grind [gJ,jh]
theorem aeT(s:ı)(b:Nat)(d:ı):fI P (aQ s b d):=by unfold aQ;grind [gJ,sN,gA]
theorem WA(s:ı)(b:Nat)(d:ú):fI P (bK s b d):=by unfold bK;grind [gJ,sN,gA]
theorem aeU(o:ġ)(k:ı)(x y:Nat):fI P (bg o k x y):=by unfold bg;grind [gJ,jh,N7,gA]
def np{p:Prop}(h:p:=by repeat' (first|(with_reducible first|exact gJ _|exact jh _|exact sN _|exact N7 _ _ _ _|exact Jx _|exact N8 _ _ _ _|exact aeT _ _ _|exact aeU _ _ _ _|exact wT _|exact qG|exact AT _|exact tP _|exact F4 _|exact Jy _|exact rD _|exact Dh _|exact Wh _|refine gA ?_ (λ_=> ?_)|refine nn _ ?_)|split|rfl)):p:=h
def WB(o:ġ)(k:ı)(x y:Nat):fI P (cw o k x y):=by unfold cw;exact np
def aeV(s:ı)(b:Nat)(d:ı):fI P (bL s b d):=by unfold bL;exact np
def N9(x y:Nat):fI P (cx x y):=by unfold cx;exact np
def Oa(x y:Nat):fI P (cy x y):=by unfold cy;exact np
def Ob(x y:Nat):fI P (cz x y):=by unfold cz;exact np
def aeW(x y:Nat):fI P (cA x y):=by unfold cA;exact np
def aeX(a b c d:Nat):fI P (aC a b c d):=by unfold aC;repeat' (first|(with_reducible first|exact N9 _ _|exact Oa _ _|exact Ob _ _|refine gA ?_ λ_=> ?_)|split|exact np)
def aeY(s a b c d:Nat):fI P (σ s a b c d):=by unfold σ;repeat' (first|(with_reducible first|exact N9 _ _|exact Oa _ _|exact Ob _ _|refine gA ?_ λ_=> ?_)|split|exact np)
def aeZ(a b c d:Nat):fI P (ai a b c d):=by unfold ai;repeat' (first|(with_reducible first|exact gJ _|exact WB _ _ _ _|exact N9 _ _|exact Oa _ _|exact Ob _ _|exact aeW _ _|exact aeY _ _ _ _ _|refine gA ?_ λ_=> ?_)|split|simp only[])
def WC(o:ġ)(k:ı)(a b c d:Nat):fI P (dp o k a b c d):=by unfold dp;repeat' (first|(with_reducible first|exact WB _ _ _ _|exact aeV _ _ _|exact aeX _ _ _ _|exact aeZ _ _ _ _|refine gA ?_ λ_=> ?_)|split|exact np)
def ae0(o:ġ)(k:ú)(x y:Int):fI P (ah o k x y):=by unfold ah;exact np
def WE(o:ġ)(x y:Int):fI P (eE o x y):=by unfold eE;exact np
def ae1(o:ġ)(k:ú)(x:Int)(a:ú)(y:Int):fI P (aK o k x a y):=by unfold aK;exact np
def Oc(o:ġ)(x y:ByteArray):fI P (bu o x y):=by unfold bu;exact np
def WG(a b:Ú):fI P (š a b):=by unfold š;exact np
def ae2(k:ú)(a b:Ú):fI P (Μ k a b):=by unfold Μ;repeat' (first|(with_reducible first|exact WG _ _|refine gA ?_ λ_=> ?_)|split|exact np)
def ae3(o:ġ)(a b:Ú):fI P (Ν o a b):=by unfold Ν;repeat' (first|(with_reducible first|exact WG _ _|refine gA ?_ λ_=> ?_)|split|exact np)
def ae4(k:ú)(a:Ú)(n:Int):fI P (Ξ k a n):=by unfold Ξ;repeat' (first|(with_reducible first|exact gJ _|exact tP _|exact vx _|exact AT _|refine gA ?_ (λ_=> ?_)|refine nn _ ?_)|split|rfl|simp only[]|(rename_i b;cases b<;>simp only[Å,if_false,if_true,þ,Ă]))
def WH(a:Array Á)(t:Á)(x y:Â):fI P (ñ a t #[x,y]):=by
 unfold ñ;cases x<;>first|exact jh _|skip
 refine gA (F4 y) λn=> ?_;exact np
def ae5(a:Ú)(b:Bool):fI P (cg a b):=by unfold cg;repeat' (first|(with_reducible first|exact gJ _|refine gA ?_ (λ_=> ?_)|refine Js _ ?_)|split|(intro _ _ h;cases h;done))
def ae6(t:Á)(x y:Â):fI P (ŕ t x y):=by unfold ŕ;repeat' (first|(with_reducible first|exact WH _ _ _ _|exact ae5 _ _|refine gA ?_ λ_=> ?_)|split|exact np)
def ae7(t:Á)(x y:Â):fI P (Ţ t x y):=by unfold Ţ;repeat' (first|(with_reducible first|exact WH _ _ _ _|refine gA ?_ λ_=> ?_)|split|exact np)
theorem wU{γ:Type}{d:dG}(h:P.underlying t=À d){f:dG->ē γ}(a:fI P (f d)):fI P (ø t>>=f):=by
 have e:∀u,(ø t).run P u=ĥ d u:=by intro u;unfold ø;simp_all
 grind [Jt,Ä,È]
def WI(t:Á)(x y:Â)(a:tO P t\/((∃e,P.underlying t=À (ð e))/\(nk x\/nk y))):fI P (ó t x y):=by
 unfold ó ā Λ;rcases a with(h|⟨k,h⟩|h)|⟨⟨e,h⟩,k⟩<;>refine wU h ?_
 .repeat' (first|(with_reducible first|exact gJ _|exact jh _|exact qG|exact vx _|exact AT _|exact Dh _|refine gA ?_ (λ_=> ?_)|refine nn _ ?_)|contradiction|split)
 .repeat' (first|(with_reducible first|exact gJ _|exact jh _|exact qG|exact vx _|exact AT _|exact Dh _|refine gA ?_ (λ_=> ?_)|refine nn _ ?_)|contradiction|split|rfl)
 .repeat' (first|(with_reducible first|exact gJ _|exact jh _|exact qG|exact vx _|exact AT _|exact Dh _|refine gA ?_ (λ_=> ?_)|refine nn _ ?_)|contradiction|split)
 .repeat' (first|(with_reducible first|exact gJ _|exact jh _|exact qG|exact vx _|exact AT _|exact Dh _|refine gA ?_ (λ_=> ?_)|refine nn _ ?_)|contradiction|exact(Or.elim k id id:False).elim|split)
def ae8(t:Á)(a:FR P t)(x y:Â):fI P (į ā t x y):=by unfold ā į;rcases a with(h|⟨k,h⟩|h)|⟨e,h⟩<;>refine wU h ?_<;>(cases x<;>cases y<;>exact gJ _)
theorem WJ(c:ġ)(t:Á)(d:c=aA\/c=aL->FR P t)(x y:Ö)(a b:Â):fI P (ŷ c t x y a b):=by
 unfold ŷ;by_cases e:c=aA\/c=aL
 .have f:=d e;rcases e with rfl|rfl;all_goals
   repeat' (first|(with_reducible first|exact ae8 _ f _ _|refine gA ?_ λ_=> ?_)|split|exact np)
 .grind [gJ]
end
section
variable{α:Type}
theorem ae9(k:ú)(n:Int):fI P (cT k n):=by unfold cT;grind [gJ]
theorem WK(n:Int):fI P (bh n):=by unfold bh;grind [gJ]
def afa(a:ġ)(t:Á)(x y:Â)(h:a=aA\/a=aL->(tO P t\/((∃e,P.underlying t=À (ð e))/\(nk x\/nk y)))):fI P (Ũ a t x y):=by unfold Ũ;repeat' (first|(with_reducible first|exact WI _ _ _ (h<|Ç U)|exact WI _ _ _ (h<|Î U)|exact gJ _|exact jh _|exact rD _|exact Dh _|exact Wo _ _ _ _|exact Wp _ _ _ _|exact N7 _ _ _ _|exact N8 _ _ _ _|exact WC _ _ _ _ _ _|exact ae0 _ _ _ _|exact WE _ _ _|exact ae1 _ _ _ _ _|exact Oc _ _ _|exact ae2 _ _ _|exact ae3 _ _ _|exact ae4 _ _ _|exact ae6 _ _ _|exact ae7 _ _ _|refine gA ?_ (λ_=> ?_)|refine nn _ ?_)|contradiction|split|rfl)
def afb(s d:Á)(x:Â)(h:(∃k a,P.underlying s=À (Β k)/\P.underlying d=À (Β a))\/(P.underlying s=À ę/\P.underlying d=À ę)):fI P (Œ s d x):=by
 unfold Œ;rcases h with⟨k,a,b,c⟩|⟨b,c⟩<;>refine wU b<|wU c ?_
 .repeat' (first|(with_reducible first|exact ae9 _ _|exact gJ _|exact WA _ _ _|refine nn _ ?_)|contradiction|split|rfl)
 .repeat' (first|(with_reducible first|exact WK _|exact gJ _|exact WA _ _ _|refine nn _ ?_)|contradiction|split|rfl)
def WL:∀(l:List FieldStep) (t:Á) (x:Option Â),fI P<|bx l t x
 |[],t,x=>by unfold bx;exact gJ _
 |s::l,t,x=>by unfold bx;repeat' (first|(with_reducible first|exact WL l _ _|exact gJ _|exact jh _|exact rD _|exact V1 _ _ _|refine gA ?_ λ_=> ?_)|split|(intro _ _ h;cases h;done)|rfl|simp only[]|(rename_i b;cases b<;>simp only[Å,if_false,if_true,þ,Ă]))
def WM:∀(n:Nat) (t:Á) (v:Â) (s:String),fI P<|aR n t v s
 |0,t,v,s=>by unfold aR;exact gJ _
 |n+1,t,v,s=>by unfold aR;repeat' (first|(with_reducible first|exact WM n _ _ _|exact WL _ _ _|exact gJ _|exact jh _|exact vx _|exact rD _|refine gA ?_ λ_=> ?_)|split|(intro _ _ h;cases h;done)|rfl|simp only[]|(rename_i b;cases b<;>simp only[Å,if_false,if_true,þ,Ă]))
def lZ{m:ē Â}(h:fI P m):fI P (m>>=λv=>pure<|ï v):=gA h λ_=>gJ _
theorem afc(f:à)(b:∃a,P.funcs[f]?=À a/\(a.name== "runtime.NumGoroutine")=Ã/\a.body.isNone=Ã)(c:Array Â):fI P (ĵ f c):=by let⟨a,d,e,g⟩:=b;refine Jt (m':=pure<|ũ f c) (λu=> ?_)<|gJ _;unfold ĵ;rw[Ä,ă];grind [È,Å]
def afd(j:kn P xX o.op):fI P (ì xX o):=by
 let⟨k,g,m,p,u,guard⟩:=o;simp only at j;unfold ì;simp only[];cases j with
 |AR x=>exact gJ _
 |FT x=>exact gJ _
 |wS c a b=>exact gA (Jx _) λ_=>gJ _
 |gL t=>exact lZ<|V5 _ _ _
 |NH t x=>exact lZ<|V7 _ _
 |NJ t b=>exact lZ<|Wr _ _
 |NK t n b=>exact lZ<|Ws _ _ _
 |gE t a=>exact lZ<|V8 _ _
 |jg t a x=>exact gA (V9 _ _ _) λ_=>gJ _
 |FU x=>
  simp only[];repeat' (first|(with_reducible first|exact WM _ _ _ _|exact gJ _|exact qG|exact wT _|exact Jx _|exact V5 _ _ _|exact V7 _ _|exact V8 _ _|exact V9 _ _ _|exact Wa _ _|exact Wb _ _ _|exact Wj _ _ _|exact Wk _ _ _|exact Wm _ _ _ _ _|exact Wn _ _ _|exact Wq _ _|exact Wr _ _|exact Ws _ _ _|exact Wt _ _ _|exact Ww _ _ _|exact Wx _ _ _|exact Wy _ _ _|exact Wz _ _ _|refine gA ?_ (λ_=> ?_)|refine nn _ ?_)|split|rfl)
 |Dg g t x y r h=>exact lZ<|gA (WJ g t (λe=>(h e).imp id λq=>q.1) x y _ _) λ_=>afa g t _ _ h
 |NL g t x=>exact lZ<|Wq _ _
 |NM s d x h=>exact lZ<|afb s d _ h
 |NN t l c=>exact lZ<|Wt _ _ _
 |kS t x b a c=>exact lZ<|Wm _ _ _ _ _
 |NO s x n h=>exact lZ<|Wj _ _ _
 |NP t x n=>exact lZ<|Wb _ _ _
 |NQ t x i=>exact lZ<|Wk _ _ _
 |NS t x i=>exact lZ<|Wn _ _ _
 |FJ x n=>exact lZ<|Wa _ _
 |FV x a=>
  simp only[ù,č,Ē,pure_bind,Ø,â,ä];exact lZ<|Ww _ _ _
 |FW x a=>
  simp only[ù,č,Ē,pure_bind,Ø,â,ä];exact lZ<|Wx _ _ _
 |FX x y a=>
  simp only[ù,č,Ē,pure_bind,Ø,â,ä];exact lZ<|Wy _ _ _
 |tN x y b c h=>
  simp only[ù,č,Ē,pure_bind,Ø,â,ä];exact lZ<|Wz _ _ _
 |jO f c a b h=>
  simp only[ù,b,İ,č,pure_bind,Ď,ď];exact afc f h _
end
def fm(f:à)(t:Array Â)(k:List ś):Ę:=(base f).at ⟨t,[]⟩ k
structure St where
 f:à
 t:Array Â
 k:List ś
 C:Bool
 L:List (FuncId×Array Value×List ś)
def St.r(s:St)(cs:List Ę):Ó:=G (if s.C then{fm s.f s.t s.k with mode:=.returning}else fm s.f s.t s.k)<|s.L.map (λx=>fm x.1 x.2.1 x.2.2)++cs
def po(t:Array Â)(d:Option Tmp)(v:Â):Array Â:=(Act.put ⟨t,[]⟩ d v).tmps
def sP(t:Array Â)(d:Option Tmp)(v:Â):Act.put ⟨t,[]⟩ d v=⟨po t d v,[]⟩:=by cases d<;>rfl
inductive LS(P:Õ):St->Æ->St->Æ->Prop
 |pj {f t L u:_}:LS P ⟨f,t,[],Ã,L⟩ u ⟨f,t,[],É,L⟩ u
 |vy {f t k L u:_}:LS P ⟨f,t,Đ .ret::k,Ã,L⟩ u ⟨f,t,Đ .ret::k,É,L⟩ u
 |sL {f t k L u:_}:LS P ⟨f,t,Đ eR::k,Ã,L⟩ u ⟨f,t,k,Ã,L⟩ u
 |wV {f t k L u l:_}:LS P ⟨f,t,Đ (eb l)::k,Ã,L⟩ u ⟨f,t,k,Ã,L⟩ u
 |yK {f t k L u id:_}:LS P ⟨f,t,dH id::k,Ã,L⟩ u ⟨f,t,k,Ã,L⟩ u
 |vz {f t k L u c:_}:LS P ⟨f,t,dI c::k,Ã,L⟩ u ⟨f,t,k,Ã,L⟩ u
 |rE {f t k L u x y:_}:LS P ⟨f,t,Đ (.seq x y)::k,Ã,L⟩ u ⟨f,t,Đ x::Đ y::k,Ã,L⟩ u
 |tT {f t k L u c x y b:_} (h:å ⟨t,[]⟩ c=Ľ b):LS P ⟨f,t,Đ (bz c x y)::k,Ã,L⟩ u ⟨f,t,Đ (if b then x else y)::k,Ã,L⟩ u
 |rF {f t k L u id c:_}:LS P ⟨f,t,Đ (ec id c)::k,Ã,L⟩ u ⟨f,t,Đ c::dH id::k,Ã,L⟩ u
 |wW {f t k L u c:_}:LS P ⟨f,t,Đ (eS c)::k,Ã,L⟩ u ⟨f,t,Đ c::dq c::k,Ã,L⟩ u
 |wY {f t k L u c:_}:LS P ⟨f,t,dq c::k,Ã,L⟩ u ⟨f,t,Đ c::dq c::k,Ã,L⟩ u
 |wZ {f t k L u c:_}:LS P ⟨f,t,Đ (ef c)::k,Ã,L⟩ u ⟨f,t,Đ c::dI c::k,Ã,L⟩ u
 |w7 {f t k L u id k':_} (h:cC id k=À k'):LS P ⟨f,t,Đ (eT id)::k,Ã,L⟩ u ⟨f,t,k',Ã,L⟩ u
 |xa {f t k L u l k':_} (h:cD l k=À k'):LS P ⟨f,t,Đ (eU l)::k,Ã,L⟩ u ⟨f,t,k',Ã,L⟩ u
 |tU {f t k L u id ops:_}:LS P ⟨f,t,Đ (bQ id ops Ã)::k,Ã,L⟩ u ⟨f,t,á ops (List.range ops.size)::k,Ã,L⟩ u
 |AU {f t k L u id ops:_}:LS P ⟨f,t,Đ (bQ id ops É)::k,Ã,L⟩ u ⟨f,t,á ops (bM (P.follows .mixedOrders) ops<|u.tape u.drawn<|.order f id)::k,Ã,L⟩ {u with drawn:=u.drawn+1}
 |F5 {f t k L u ops:_}:LS P ⟨f,t,á ops []::k,Ã,L⟩ u ⟨f,t,k,Ã,L⟩ u
 |Di {f t k L u ops i rest o:_} (ho:ops[i]?=À o) (hw:Ħ o (ł ops t)=Ã):LS P ⟨f,t,á ops (i::rest)::k,Ã,L⟩ u ⟨f,po t o.dst ľ,á ops rest::k,Ã,L⟩ u
 |nU {f t k L u ops i rest o v u':_} (ho:ops[i]?=À o) (hw:Ħ o (ł ops t)=É) (hr:(ì (å ⟨t,[]⟩) o).run P u=ĥ (ï v) u'):LS P ⟨f,t,á ops (i::rest)::k,Ã,L⟩ u ⟨f,po t o.dst v,á ops rest::k,Ã,L⟩ u'
 |AV {f t k L u ops i rest o u':_} (ho:ops[i]?=À o) (hw:Ħ o (ł ops t)=É) (hr:(ì (å ⟨t,[]⟩) o).run P u=ĥ aH u'):LS P ⟨f,t,á ops (i::rest)::k,Ã,L⟩ u ⟨f,po t o.dst ľ,á ops rest::k,Ã,L⟩ u'
 |sM {f t k L u ops i rest o g args fn c u':_} (ho:ops[i]?=À o) (hw:Ħ o (ł ops t)=É) (hr:(ì (å ⟨t,[]⟩) o).run P u=ĥ (ũ g args) u') (hf:P.funcs[g]?=À fn) (hb:fn.body=À c):LS P ⟨f,t,á ops (i::rest)::k,Ã,L⟩ u ⟨g,args++ĺ (fn.ntmps-args.size) ľ,[Đ c],Ã,(f,t,á ops (i::rest)::k)::L⟩ u'
 |Dj {f t k L u ops i rest:_} (ho:(ops:Array av)[(i:Nat)]?=ë):LS P ⟨f,t,á ops (i::rest)::k,Ã,L⟩ u ⟨f,t,á ops rest::k,Ã,L⟩ u
 |xb {f t k L u g t' ops i rest k' v fn u':_} (hf:P.funcs[f]?=À fn) (hr:(Ī fn t).run P u=ĥ v u'):LS P ⟨f,t,k,É,(g,t',á ops (i::rest)::k')::L⟩ u ⟨g,po t' ((ops[i]?).bind (·.dst)) v,á ops rest::k',Ã,L⟩ u'
inductive mK(GL:Nat->Prop):Ö->Prop
 |WN (t:Tmp):mK GL (.tmp t)
 |WO {v:Â} (h:jW v):mK GL (dZ v)
 |WQ {g:Nat} (h:GL g):mK GL (ez g)
 |WR (f:à):mK GL (aO f)
structure mU(P:Õ)(GL:Nat->Prop)(ff:à->Prop)(o:av):Prop where
 mV:∀{Y:fy} {Sh:Nat->Prop} {t t':Array Â} {u w:Æ},nT P->Y.C=P.globals.size->(∀g,GL g->Y g g)->fX Y t t'->jm Y Sh u w->(∀j,Sh j->j<w.heap.size)->∀{x:Ο} {u':Æ},(ì (å ⟨t,[]⟩) o).run P u=ĥ x u'->De u u'->
  ∃(Y':fy) (x':Ο) (w':Æ) (WS:Array ý),Y.r Y'/\(∀i j,Y' i j->Y i j\/(u.heap.size<=i/\w.heap.size<=j))/\(ì (å ⟨t',[]⟩) o).runT P w #[]=(ĥ x' w',#[]++WS)/\pn Y' x x'/\jm Y' Sh u' w'/\nS Y Sh w w'/\(∀e∈WS,AN Y' Sh e)/\u.heap.size<=u'.heap.size
 r:∀a:bF,fI P<|ì a.eval o
 I:∀(a:bF) (u:Æ) (n:Ο) (u':Æ),(ì a.eval o).run P u=ĥ n u'->(∃v,n=ï v)\/n=aH\/∃f c,n=ũ f c
 C:∀(a:bF) (u:Æ) (f:à) (c:Array Â) (u':Æ),(ì a.eval o).run P u=ĥ (ũ f c) u'->ff f
inductive kU(P:Õ)(GL:Nat->Prop)(ff:à->Prop):ak->Prop
 |vy:kU P GL ff .ret
 |sL:kU P GL ff eR
 |wV (l:Nat):kU P GL ff (eb l)
 |w7 (id:Nat):kU P GL ff (eT id)
 |xa (l:Nat):kU P GL ff (eU l)
 |rE {x y:ak} (hx:kU P GL ff x) (hy:kU P GL ff y):kU P GL ff (.seq x y)
 |tT {c:Ö} {x y:ak} (hc:mK GL c) (hx:kU P GL ff x) (hy:kU P GL ff y):kU P GL ff (bz c x y)
 |rF (id:Nat) {c:ak} (h:kU P GL ff c):kU P GL ff (ec id c)
 |wW {c:ak} (h:kU P GL ff c):kU P GL ff (eS c)
 |wZ {c:ak} (h:kU P GL ff c):kU P GL ff (ef c)
 |tU (id:Nat) {ops:Array av} (draw:Bool) (h:∀o∈ops,mU P GL ff o):kU P GL ff (bQ id ops draw)
 |nV (WT:String):kU P GL ff (dt WT)
inductive AW(P:Õ)(GL:Nat->Prop)(ff:à->Prop):ś->Prop
 |rG {c:ak} (h:kU P GL ff c):AW P GL ff (Đ c)
 |yK (id:Nat):AW P GL ff (dH id)
 |vz {c:ak} (h:kU P GL ff c):AW P GL ff (dI c)
 |wY {c:ak} (h:kU P GL ff c):AW P GL ff (dq c)
 |xc {ops:Array av} (is:List Nat) (h:∀o∈ops,mU P GL ff o):AW P GL ff (á ops is)
def sQ(P:Õ)(a:Nat->Prop)(b:à->Prop)(k:List ś):Prop:=∀i∈k,AW P a b i
structure ma(P:Õ)(GL:Nat->Prop)(ff:à->Prop)(s:St):Prop where
 gi:sQ P GL ff s.k
 fA:∀x∈s.L,sQ P GL ff x.2.2
def pv(P:Õ)(d:Nat->Prop)(a:à->Prop):Prop:=∀f,a f->∀b c,P.funcs[f]?=À b->b.body=À c->kU P d a c
section
variable{GL:Nat->Prop}{ff:à->Prop}
def afe{a:ak}(h:kU P GL ff wX):bj wX i=À a->kU P GL ff a:=by
 induction h generalizing a with
 |rE j b d f=>
  intro e;simp only[bj]at e;split at e
  .rename_i r g;cases e;exact .rE (d g) b
  .exact f e
 |wV k=>
  intro e;simp only[bj]at e;split at e<;>cases e;exact .sL
 |_=>intro e;simp only[bj]at e;cases e
def aff{id:Nat}:∀{k a:List ś},sQ P GL ff k->cC id k=À a->sQ P GL ff a:=by
 intro k
 induction k with
 |nil=>intro a _ e;simp[cC]at e
 |cons i k c=>
  intro a h e;have b:=λj d=>h j<|ò _ d;cases i with
  |inBlock f=>
   simp only[cC]at e;split at e
   .cases e;exact b
   .exact c b e
  |_=>simp only[cC]at e;exact c b e
def afg:∀{k c:List ś},sQ P GL ff k->cD i k=À c->sQ P GL ff c:=by
 intro k
 induction k with
 |nil=>intro c _ e;simp[cD]at e
 |cons a k f=>
  intro c h e;have d:=λj b=>h j<|ò _ b;cases a with
  |inScope m=>
   simp only[cD]at e;have g:kU P GL ff m:=by cases h _ (î ..)with|vz h=>exact h
   split at e
   .rename_i r n;cases e;intro j b;rcases œ.1 b with rfl|b
    .exact .rG (afe g n)
    .rcases œ.1 b with rfl|b
     .exact .vz g
     .exact d j b
   .exact f d e
  |_=>simp only[cD]at e;exact f d e
def nW{i:ś}(h:sQ P GL ff (i::L)):sQ P GL ff L:=λj a=>h j<|ò _ a
def oP{i:ś}(b:AW P GL ff i)(h:sQ P GL ff L):sQ P GL ff (i::L):=λj a=>by
 rcases œ.1 a with rfl|a
 .exact b
 .exact h j a
def yL{c:ak}{k:List ś}(h:sQ P GL ff (Đ c::k)):kU P GL ff c:=by cases h _ (î ..)with|rG h=>exact h
def pw{ops:Array av}{k:List ś}(h:sQ P GL ff (á ops jJ::k)):∀o∈ops,mU P GL ff o:=by cases h _ (î ..)with|xc _ h=>exact h
def LS.ok(i:pv P GL ff)(k:∀o a u f l w,mU P GL ff o->(ì (å a) o).run P u=ĥ (ũ f l) w->ff f){s g:St}(h:LS P s u g w)(ok:ma P GL ff s):ma P GL ff g:=by
 let⟨c,d⟩:=ok;cases h with
 |pj=>exact⟨c,d⟩
 |vy=>exact⟨c,d⟩
 |sL=>exact⟨nW c,d⟩
 |wV=>exact⟨nW c,d⟩
 |yK=>exact⟨nW c,d⟩
 |vz=>exact⟨nW c,d⟩
 |rE=>
  cases yL c with
  |rE e j=>exact⟨oP (.rG e)<|oP (.rG j)<|nW c,d⟩
 |@tT _ _ _ _ _ _ _ _ b _=>
  cases yL c with
  |tT _ e j=>exact⟨oP (.rG (by cases b<;>simp[e,j]))<|nW c,d⟩
 |rF=>
  cases yL c with
  |rF _ h=>exact⟨oP (.rG h)<|oP (.yK _)<|nW c,d⟩
 |wW=>
  cases yL c with
  |wW h=>exact⟨oP (.rG h)<|oP (.wY h)<|nW c,d⟩
 |wY=>
  cases c _ (î ..)with
  |wY h=>exact⟨oP (.rG h) c,d⟩
 |wZ=>
  cases yL c with
  |wZ h=>exact⟨oP (.rG h)<|oP (.vz h)<|nW c,d⟩
 |w7 h=>exact⟨aff (nW c) h,d⟩
 |xa h=>exact⟨afg (nW c) h,d⟩
 |tU=>
  cases yL c with
  |tU _ _ h=>exact⟨oP (.xc _ h)<|nW c,d⟩
 |AU=>
  cases yL c with
  |tU _ _ h=>exact⟨oP (.xc _ h)<|nW c,d⟩
 |F5=>exact⟨nW c,d⟩
 |Di=>exact⟨oP (.xc _ (pw c))<|nW c,d⟩
 |nU=>exact⟨oP (.xc _ (pw c))<|nW c,d⟩
 |AV=>exact⟨oP (.xc _ (pw c))<|nW c,d⟩
 |sM m _ n p q=>
  refine⟨λj r=> ?_,λx e=> ?_⟩
  .have:=ū.1 r;rw[this];exact .rG (i _ (k _ _ _ _ _ _ (pw c _<|Û m) n) _ _ p q)
  .rcases œ.1 e with rfl|e
   .exact c
   .exact d x e
 |Dj=>exact⟨oP (.xc _ (pw c))<|nW c,d⟩
 |xb=>
  have j:=d _<|î ..;exact⟨oP (.xc _ (pw j))<|nW j,λx e=>d x<|ò _ e⟩
end
structure Jz(Y:fy)(x y:FuncId×Array Value×List ś):Prop where
 f:x.1=y.1
 t:fX Y x.2.1 y.2.1
 k:x.2.2=y.2.2
inductive Dk(Y:fy):List (FuncId×Array Value×List ś)->List (FuncId×Array Value×List ś)->Prop
 |pj:Dk Y [] []
 |wR {x y:FuncId×Array Value×List ś} {L L':List (FuncId×Array Value×List ś)} (h:Jz Y x y) (hs:Dk Y L L'):Dk Y (x::L) (y::L')
structure JA(Y:fy)(s s':St):Prop where
 f:s.f=s'.f
 t:fX Y s.t s'.t
 k:s.k=s'.k
 vy:s.C=s'.C
 L:Dk Y s.L s'.L
def Jz.fT{Y a:fy}(h:Y.r a){x y:FuncId×Array Value×List ś}(r:Jz Y x y):Jz a x y:=⟨r.f,r.t.I h,r.k⟩
def JB{Y b:fy}(h:Y.r b){L c:List (FuncId×Array Value×List ś)}(r:Dk Y L c):Dk b L c:=by
 induction r with
 |pj=>exact .pj
 |wR a _ d=>exact .wR (a.fT h) d
section
variable{Y:fy}{j:Nat->Prop}{p:à->Prop}
def afh(a:∀g,X g->Y g g)(h:mK X qQ):VL Y qQ:=by
 cases h with
 |WN t=>trivial
 |WO h=>exact h.jH Y
 |WQ h=>exact a _ h
 |WR f=>trivial
def xd(b:∀g,X g->Y g g)(h:fX Y d q)(c:mK X qQ):fu Y (å ⟨d,[]⟩ qQ) (å ⟨q,[]⟩ qQ):= aem (a:=⟨d,[]⟩) (a':=⟨q,[]⟩) h<|afh b c
def po.r{b:Array Â}(h:fX Y q b)(d:Option Tmp)(c:fu Y v x):fX Y (po q d v) (po b d x):= aeo (a:=⟨q,[]⟩) (a':=⟨b,[]⟩) h d c
def WU(n:Nat):fX Y (ĺ n ľ) (ĺ n ľ):=⟨U,λi a b=>by simp only[Array.getElem_replicate];exact FY Y⟩
def afi(B:kn P xX o.op)(i:(ì xX o).run P u=ĥ (ũ F d) W):∃q l,o.op=Ω {callee:=cj<|aO F,args:=q,argTypes:=l}:=by
 have n:∀{m:ē Â} {x:Ο} {k p:Æ},(m>>=λv=>pure (ï v):ē Ο).run P k=ĥ x p->∃v,x=ï v:=by
  intro m x k p e;rw[Ä]at e;cases j:m.run P k with
  |ok a w=>rw[j]at e;cases e;exact⟨a,U⟩
  |halt z w=>rw[j]at e;cases e
 have C:∀{m:ē Unit} {x:Ο} {k p:Æ},(m>>=λ_=>pure aH:ē Ο).run P k=ĥ x p->x=aH:=by
  intro m x k p e;rw[Ä]at e;cases j:m.run P k with
  |ok a w=>rw[j]at e;cases e;rfl
  |halt z w=>rw[j]at e;cases e
 let⟨E,s,G,H,I,guard⟩:=o;simp only at B|-;unfold ì at i;simp only[]at i;cases B with
 |AR x=>cases i
 |FT x=>cases i
 |wS c a b=>
  rw[Ä]at i;cases j:(bW<|xX c).run P u with
  |ok a w=>rw[j]at i;cases i
  |halt z w=>rw[j]at i;cases i
 |jg t a x=>exact absurd (C i) ft
 |FU x=>
  simp only[]at i;split at i;all_goals first
   |(cases i;done)
   |exact absurd i<|rA _ _ _ _
   |(
    split at i;all_goals first
     |(cases i;done)
     |exact absurd i<|rA _ _ _ _
     |(
      rw[Ä,ă]at i;simp only[È]at i;rw[Ä]at i;revert i;generalize ã P (aR _ _ _ _) u=z;intro i;cases z with
      |halt z w=>cases i
      |ok a w=>
       simp only[È]at i;split at i
       .rw[Ä]at i;cases i
       .cases i))
 |FV x l=>simp only[ù,č,Ē,pure_bind,Ø,â,ä]at i;let⟨v,e⟩:=n i;cases e
 |FW x l=>simp only[ù,č,Ē,pure_bind,Ø,â,ä]at i;let⟨v,e⟩:=n i;cases e
 |FX x y l=>simp only[ù,č,Ē,pure_bind,Ø,â,ä]at i;let⟨v,e⟩:=n i;cases e
 |tN x y b c h=>simp only[ù,č,Ē,pure_bind,Ø,â,ä]at i;let⟨v,e⟩:=n i;cases e
 |jO g q l b h=>
  let⟨J,c,r,D⟩:=h;simp only[ù,b,İ,č,pure_bind,Ď,ď,ĵ]at i;rw[Ä,ă]at i;simp only[È,c,r,D,Å,if_false]at i;cases i;exact⟨q,l,U⟩
 |Dg s t x y r h=>
  rw[Ä]at i;cases j:ã P (ŷ s t x y (xX x) (xX y)>>=λ_=>Ũ s t (xX x)<|xX y) u with
  |ok a w=>rw[j]at i;cases i
  |halt z w=>rw[j]at i;cases i
 |_=>let⟨v,e⟩:=n i;cases e
theorem WV(j:Func)(h:fX Y d q):fK P fu Y (Ī j d) (Ī j q):=by
 have k:∀(f:fy),Y.r f->∀n,fu f (d.getD n ľ) (q.getD n ľ):=by intro f a n;simp only[ĩ];rcases(h.I a).S n with⟨b,e⟩|⟨v,u,b,e,m⟩;all_goals grind [FY]
 unfold Ī;refine fJ (V:=fX) ?_ ?_
 .rw[Ĕ,Ĕ];have w:∀(l:List ResultVar) (c:fy),Y.r c->fK P (λf (a o:List Â)=>fX f a.toArray o.toArray) c (l.mapM fun|ResultVar.tmp n=>pure (d.getD n ľ)|ResultVar.cell a e=>do ae e (<-bX (d.getD a ľ))) (l.mapM fun|ResultVar.tmp n=>pure (q.getD n ľ)|ResultVar.cell a e=>do ae e (<-bX (q.getD a ľ))):=by
   intro l
   induction l with
   |nil=>intro c _;simp only[cR];exact .fH (fX.N _)
   |cons r l x=>
    intro c g;simp only[ν];refine fJ (V:=fu) ?_ ?_
    .cases r with
     |tmp n=>exact .fH (k c g n)
     |cell a e=>
      apply fJ (Vx<|k c g a);exact λp b s _ i=>Vt i e
    .intro p v u e m;apply fJ (x p<|fy.I g e);intro z s i y b;refine .fH ?_;have:=(fX.M<|m.fT y).tN b;simpa using this
  exact fK.mo (w _ Y<|fy.M _) λf a o _ e=> .fH e
 .intro c s i _ b;refine .fH ?_;by_cases e:s.size=1
  .have a:i.size=1:=by rwa[<-b.r]
   rw[dif_pos e,dif_pos a];exact b.C 0 _ _
  .have a:¬i.size=1:=by rwa[<-b.r]
   rw[dif_neg e,dif_neg a];exact .nR b.r b.C
end
section
variable{Y:fy}{d:Nat->Prop}{l:à->Prop}
def jc(P:Õ)(Y:fy)(d:Nat->Prop)(main:Bool)(cs:List Ę)(h:St)(u w:Æ)(k:St)(c:Æ):Prop:=
 ∃(a:fy) (f:St) (b:Æ) (g:Array ý),Ù P main (h.r cs) w=aS (f.r cs) b g/\JA a k f/\Y.r a/\(∀i j,a i j->Y i j\/(u.heap.size<=i/\w.heap.size<=j))/\jm a d c b/\nS Y d w b/\(∀e∈g,AN a d e)/\u.heap.size<=c.heap.size
def jc.r{main:Bool}{cs:List Ę}{a b s1':St}(c:jm Y d u w)(h:Ù P main (a.r cs) w=aS (s1'.r cs) w #[])(f:JA Y b s1'):jc P Y d main cs a u w b u:= ⟨Y,s1',w,#[],h,f,fy.M _,λ_ _ h=>Ç h,c,nS.gd _ _ w,λe g=>absurd g ft,ß _⟩
def JC{α:Type}{m:ē α}{x:α}(h:m.runT P w #[]=(ĥ x u,#[]++V)):m.run P w=ĥ x u/\m.events P w #[]=V:=by simp_all
def F6{main:Bool}{k:List ś}{c:Ę}{cs:List Ę}{es:Array ý}(a:P.funcs[F]?=À s)(b:(Ī s q).runT P w #[]=(ĥ v u,es)): Ù P main (G {fm F q k with mode:=.returning}<|c::cs) w=aS (G (c.finish v) cs) u (seen P F es):=by simp[G,Ù,du,doReturn,fm,Frame.at,base,a,b,Ź,-ź]
def LS.mV(hz:nT P)(hb:Y.C=P.globals.size)(hG:∀g,X g->Y g g){s s1 s':St}(h:LS P s u s1 W)(hs:JA Y s s')(ok:ma P X l s)(n:jm Y d u w)(hl:∀j,d j->j<w.heap.size)(Q:De u W)(main:Bool)(cs:List Ę): jc P Y d main cs s' u w s1 W:=by
 let⟨f',r,k',ret',p⟩:=s';let⟨S,m,T,e3,q⟩:=hs;simp only at S T e3 m q;subst S T e3;cases h with
 |pj=>exact .r (s1':=⟨_,r,_,É,p⟩) n (by simp[St.r,fm,base,G,Ù,Ì,Frame.at]) ⟨U,m,U,U,q⟩
 |vy=>exact .r (s1':=⟨_,r,_,É,p⟩) n (by simp[St.r,fm,base,G,Ù,Ì,Frame.at]) ⟨U,m,U,U,q⟩
 |sL=>exact .r (s1':=⟨_,r,_,Ã,p⟩) n (by simp[St.r,fm,base,G,Ù,Ì,Frame.at]) ⟨U,m,U,U,q⟩
 |wV=>exact .r (s1':=⟨_,r,_,Ã,p⟩) n (by simp[St.r,fm,base,G,Ù,Ì,Frame.at]) ⟨U,m,U,U,q⟩
 |yK=>exact .r (s1':=⟨_,r,_,Ã,p⟩) n (by simp[St.r,fm,base,G,Ù,Ì,Frame.at]) ⟨U,m,U,U,q⟩
 |vz=>exact .r (s1':=⟨_,r,_,Ã,p⟩) n (by simp[St.r,fm,base,G,Ù,Ì,Frame.at]) ⟨U,m,U,U,q⟩
 |rE=>exact .r (s1':=⟨_,r,_,Ã,p⟩) n (by simp[St.r,fm,base,G,Ù,Ì,Frame.at]) ⟨U,m,U,U,q⟩
 |@tT _ _ _ _ _ c _ _ b hc'=>
  have V:=xd hG m (by cases yL ok.gi with|tT Q _ _=>exact Q);rw[hc']at V;have e:å ⟨r,[]⟩ c=Ľ b:=by generalize å ⟨r,[]⟩ c=v' at V;cases V;rfl
  exact .r (s1':=⟨_,r,_,Ã,p⟩) n (cE e) ⟨U,m,U,U,q⟩
 |rF=>exact .r (s1':=⟨_,r,_,Ã,p⟩) n (by simp[St.r,fm,base,G,Ù,Ì,Frame.at]) ⟨U,m,U,U,q⟩
 |wW=>exact .r (s1':=⟨_,r,_,Ã,p⟩) n (by simp[St.r,fm,base,G,Ù,Ì,Frame.at]) ⟨U,m,U,U,q⟩
 |wY=>exact .r (s1':=⟨_,r,_,Ã,p⟩) n (by simp[St.r,fm,base,G,Ù,Ì,Frame.at]) ⟨U,m,U,U,q⟩
 |wZ=>exact .r (s1':=⟨_,r,_,Ã,p⟩) n (by simp[St.r,fm,base,G,Ù,Ì,Frame.at]) ⟨U,m,U,U,q⟩
 |w7 B=>exact .r (s1':=⟨_,r,_,Ã,p⟩) n (by simp[St.r,fm,base,G,Ù,Ì,Frame.at,B]) ⟨U,m,U,U,q⟩
 |xa B=>exact .r (s1':=⟨_,r,_,Ã,p⟩) n (by simp[St.r,fm,base,G,Ù,Ì,Frame.at,B]) ⟨U,m,U,U,q⟩
 |tU=>exact .r (s1':=⟨_,r,_,Ã,p⟩) n (by simp[St.r,fm,base,G,Ù,Ì,Frame.at]) ⟨U,m,U,U,q⟩
 |@AU f t k L _ id ops=>
  refine⟨Y,⟨f,r,á ops (bM (P.follows .mixedOrders) ops<|w.tape w.drawn<|.order f id)::k,Ã,p⟩,{w with drawn:=w.drawn+1},#[],Ż,⟨U,m,?_,U,q⟩,fy.M _,λ_ _ h=>Ç h,⟨n.S,by simp[n.N],n.C,n.I,n.M,n.r⟩,⟨ß _,U,U,U,λ_ _ _=>rfl,λ_ _ _=>rfl⟩,λe B=>absurd B ft,ß _⟩;simp only[n.S,n.N]
 |F5=>exact .r (s1':=⟨_,r,_,Ã,p⟩) n (by simp[St.r,fm,base,G,Ù,Ì,Frame.at]) ⟨U,m,U,U,q⟩
 |@Di f t k L _ ops i rest o ho hw=>
  rw[Jp _ _ m]at hw;have:=υ (P:=P) (main:=main) (b:=base f) (a:=⟨r,[]⟩) (k:=k) (cs:=p.map (λx=>fm x.1 x.2.1 x.2.2)++cs) (w:=w) (rest:=rest) ho hw;rw[sP]at this;exact .r (s1':=⟨f,po r o.dst ľ,á ops rest::k,Ã,p⟩) n this ⟨U,po.r m _<|FY Y,U,U,q⟩
 |@nU f t k L _ ops i rest o v _ ho hw hr=>
  rw[Jp _ _ m]at hw;let⟨C,x',E,es,z,F,D,H,I,J,K,M⟩:=(pw ok.gi _<|Û ho).mV hz hb hG m n hl hr Q;let⟨N,O⟩:=JC D;cases H with
  |nU V=>
   have:=bA (main:=main) (b:=base f) (k:=k) (cs:=p.map (λx=>fm x.1 x.2.1 x.2.2)++cs) (rest:=rest) ho hw (by simp[base]) N;rw[sP]at this;rename_i v';exact⟨C,⟨f,po r o.dst v',á ops rest::k,Ã,p⟩,E,_,this,⟨U,po.r (m.I z) _ V,U,U,JB z q⟩,z,F,I,J,λe B=>K e (by have:=cF B;rwa[O]at this),M⟩
 |@AV f t k L _ ops i rest o _ ho hw hr=>
  rw[Jp _ _ m]at hw;let⟨C,x',E,es,z,F,D,H,I,J,K,M⟩:=(pw ok.gi _<|Û ho).mV hz hb hG m n hl hr Q;let⟨N,O⟩:=JC D;cases H with
  |sL=>
   have:=cG (main:=main) (b:=base f) (k:=k) (cs:=p.map (λx=>fm x.1 x.2.1 x.2.2)++cs) (rest:=rest) ho hw (by simp[base]) N;rw[sP]at this;exact⟨C,⟨f,po r o.dst ľ,á ops rest::k,Ã,p⟩,E,_,this,⟨U,po.r (m.I z) _<|FY C,U,U,JB z q⟩,z,F,I,J,λe B=>K e (by have:=cF B;rwa[O]at this),M⟩
 |@sM f t k L _ ops i rest o g args fn c _ ho hw hr hf JD=>
  rw[Jp _ _ m]at hw;let⟨C,x',E,es,z,F,D,H,I,J,K,M⟩:=(pw ok.gi _<|Û ho).mV hz hb hG m n hl hr Q;let⟨N,O⟩:=JC D;cases H with
  |sM _ sR=>
   have:=bB (main:=main) (b:=base f) (k:=k) (cs:=p.map (λx=>fm x.1 x.2.1 x.2.2)++cs) (rest:=rest) ho hw (by simp[base]) N;rw[cH _ hf JD]at this;rename_i WW;refine⟨C,⟨g,WW++ĺ (fn.ntmps-WW.size) ľ,[Đ c],Ã,(f,r,á ops (i::rest)::k)::p⟩,E,_,this,⟨U,?_,U,U,.wR ⟨U,m.I z,U⟩ (JB z q)⟩,z,F,I,J,λe B=>K e (by have:=cF B;rwa[O]at this),M⟩;rw[sR.r];exact sR.tN<|WU _
 |@Dj f t k L _ ops i rest ho=>exact .r (s1':=⟨f,r,á ops rest::k,Ã,p⟩) n (by simp[St.r,fm,base,G,Ù,Ì,Frame.at,ho,aT]) ⟨U,m,U,U,q⟩
 |@xb f t k L _ g t2' ops i rest k3 v fn _ hf hr=>
  cases q with
  |wR hx q=>
   rename_i y WX;let⟨g',t2,k2⟩:=y;let⟨S,JF,T⟩:=hx;simp only at S T JF;subst S T;let⟨C,v',E,es,z,F,D,H,I,J,K,M⟩:=(WV fn m).gw n hl hr #[];let⟨N,O⟩:=JC D;refine⟨C,⟨g,po t2 ((ops[i]?).bind (·.dst)) v',á ops rest::k3,Ã,WX⟩,E,seen P f es,?_,⟨U,po.r (JF.I z) _ H,U,U,JB z q⟩,z,F,I,J,λe B=>K e<|mem_seen B,M⟩;have AX:=ε (base g) ⟨t2,[]⟩ ops i rest k3 v';rw[sP]at AX;have nt:=F6 (main:=main) (k:=k) (c:=fm g t2<|á ops (i::rest)::k3) (cs:=WX.map (λx=>fm x.1 x.2.1 x.2.2)++cs) hf D;unfold fm at nt;rwa[AX,Ď]at nt
end
inductive p6(P:Õ)(kF:Â->Æ->Prop):St->Æ->Prop
 |jP {f:à} {t:Array Â} {k:List ś} {u:Æ} {fn:Func} {v:Â} (hf:P.funcs[f]?=À fn) (hr:∀tp d,(Ī fn t).run P {u with tape:=tp,drawn:=d}=ĥ v {u with tape:=tp,drawn:=d}) (hp:kF v u):p6 P kF ⟨f,t,k,É,[]⟩ u
 |jR {s:St} {u:Æ} (S:ψ->Nat->St) (U:ψ->Nat->Æ) (h:∀tp d,LS P s {u with tape:=tp,drawn:=d} (S tp d)<|U tp d) (hc:∀tp d,De u<|U tp d) (ih:∀tp d,p6 P kF (S tp d)<|U tp d):p6 P kF s u
structure yM(M:Nat->Prop)(w w₁:Æ):Prop where
 r:w.heap.size<=w₁.heap.size
 C:∀j,M j->w₁.heap[j]?=w.heap[j]?
def JG(O b:Nat->Prop)(e:ý):Prop:=
 (∃a:Ú,e.loc=û a/\e.sync=Ã/\(O a.block\/(b a.block/\e.write=Ã)))\/e.loc=ů da\/∃f,e.loc=ů (.extern f)
structure JH(Rd O O':Nat->Prop)(w w':Æ)(es:Array ý):Prop where
 r:w.heap.size<=w'.heap.size
 M:∀j,O j->O' j
 I:∀j,O' j->O j\/w.heap.size<=j
 fA:∀j,O' j->j<w'.heap.size
 jY:∀j,j<w.heap.size->¬O j->w'.heap[j]?=w.heap[j]?
 N:w'.os=w.os
 S:w'.output=w.output
 Y:w'.tape=w.tape
 C:∀e∈es,JG O' Rd e
inductive vA(P:Õ)(main:Bool)(Rd:Nat->Prop)(Stop:(Nat->Prop)->Ó->Æ->Prop):(Nat->Prop)->Ó->Æ->Prop
 |fE {O:Nat->Prop} {g:Ó} {w:Æ} (h:∀w₁,yM (λj=>O j\/Rd j) w w₁->Stop O g w₁):vA P main Rd Stop O g w
 |jR {O:Nat->Prop} {g:Ó} {w:Æ} (G':Æ->Ó) (W':Æ->Æ) (E':Æ->Array ý) (O':Æ->Nat->Prop) (iN:g.status=Ð)
  (h:∀w₁,yM (λj=>O j\/Rd j) w w₁->Ù P main g w₁=aS (G' w₁) (W' w₁) (E' w₁))
  (hd:∀w₁,yM (λj=>O j\/Rd j) w w₁->JH Rd O (O' w₁) w₁ (W' w₁) (E' w₁))
  (ih:∀w₁,yM (λj=>O j\/Rd j) w w₁->vA P main Rd Stop (O' w₁) (G' w₁) (W' w₁)):vA P main Rd Stop O g w
instance:Nonempty fy:=⟨⟨λ_ _=>False,0⟩⟩
instance:Nonempty St:=⟨⟨0,#[],[],Ã,[]⟩⟩
instance:Nonempty (Goroutine×World×Array Event×(Nat->Prop)):=⟨(default,default,#[],λ_=>False)⟩
section
variable{Y:fy}{b Rd:Nat->Prop}{l:à->Prop}{main:Bool}{Stop:(Nat->Prop)->Ó->Æ->Prop}
def vA.mk(i:g.status=Ð) (h:∀a,yM (λj=>X j\/Rd j) w a->∃c b d e,Ù P main g a=aS c b d/\JH Rd X e a b d/\vA P main Rd Stop e c b):vA P main Rd Stop X g w:=by
 let p:=λ(a:Æ) (x:Goroutine×World×Array Event×(Nat->Prop))=>Ù P main g a=aS x.1 x.2.1 x.2.2.1/\JH Rd X x.2.2.2 a x.2.1 x.2.2.1/\vA P main Rd Stop x.2.2.2 x.1 x.2.1
 have f:∀a,yM (λj=>X j\/Rd j) w a->p a (Classical.epsilon<|p a):=λa r=>Classical.epsilon_spec (let⟨c,b,d,e,h⟩:=h a r;⟨(c,b,d,e),h⟩);exact .jR (λa=>(Classical.epsilon<|p a).1) (λa=>(Classical.epsilon<|p a).2.1) (λa=>(Classical.epsilon<|p a).2.2.1) (λa=>(Classical.epsilon<|p a).2.2.2) i (λa r=>(f a r).1) (λa r=>(f a r).2.1) λa r=>(f a r).2.2
def rH(Y:fy)(b:Nat->Prop)(u w:Æ):Prop:=jm Y b {u with tape:=w.tape,drawn:=w.drawn} w
def fx(Y:fy)(b:Nat->Prop)(j:Nat):Prop:=(∃i,Y i j)/\¬b j
theorem rH.kg{w₁:Æ}(h:rH Y b u w)(p:∀i j,Y i j->b j->Rd j)(r:yM (λj=>fx Y b j\/Rd j) w w₁):rH Y b u w₁:=by
 refine⟨U,U,h.C,h.I,õ h.M r.r,λi j a=> ?_⟩;let⟨c,d,e,f,g,k,l,m,n,o⟩:=h.r i j a;refine⟨c,d,e,f,g,k,?_,m,n,o⟩;rw[r.C j ?_]
 .exact l
 .by_cases s:b j
  .grind
  .exact Ç ⟨⟨i,a⟩,s⟩
def jm.to0(h:jm Y b u w):rH Y b u w:=⟨U,U,h.C,h.I,h.M,h.r⟩
def jm.vB(h:jm Y b u w)(tp:ψ)(d:Nat):rH Y b {u with tape:=tp,drawn:=d} w:=⟨U,U,h.C,h.I,h.M,h.r⟩
theorem afj{c:fy}(k:∀i j,c i j->b j->Rd j){e:ý}(h:AN c b e):JG (fx c b) Rd e:=by
 rcases h with⟨a,i,d,f,g,l⟩|h|h
 .by_cases s:b a.block
  .refine Ç ⟨a,d,g,Î ⟨k _ _ f s,?_⟩⟩;grind
  .exact Ç ⟨a,d,g,Ç ⟨⟨i,f⟩,s⟩⟩
 .exact Î<|Ç h
 .exact Î<|Î h
def WY{c:fy}(f:Y.r c)(g:∀i j,c i j->Y i j\/(u.heap.size<=i/\w.heap.size<=j))(k:jm c b W jX)(d:nS Y b w jX)(l:∀e∈V,AN c b e)(m:∀i j,c i j->b j->Rd j): JH Rd (fx Y b) (fx c b) w jX V where
 r:=d.r;M j h:=⟨let⟨i,a⟩:=h.1;⟨i,f.1 _ _ a⟩,h.2⟩;I j h:=by
  let⟨⟨i,a⟩,s⟩:=h;rcases g i j a with x|x
  .exact Ç ⟨⟨i,x⟩,s⟩
  .exact Î x.2
 fA j h:=by let⟨⟨i,a⟩,_⟩:=h;let⟨_,_,_,_,_,_,x,_⟩:=k.r i j a;exact(Ë.1 x).1
 jY j hj hn:=by
  by_cases x:∃i,Y i j
  .by_cases s:b j
   .exact d.N j s hj
   .exact absurd ⟨x,s⟩ hn
  .exact d.C j hj λi a=>x ⟨i,a⟩
 N:=d.I;S:=d.M;Y:=d.S;C e he:=afj m<|l e he
def F7(Y:fy)(b:Nat->Prop)(f:Â->Æ->Prop)(c:Ę)(h:List Ę)(O:Nat->Prop)(g:Ó)(w:Æ):Prop:=
 ∃(a:fy) (d:Æ) (v e:Â),Y.r a/\O=fx a b/\rH a b d w/\fu a v e/\f v d/\g=G (c.finish e) h
def p6.Od(hz:nT P)(hP:pv P X l){s:St}(h:p6 P vQ s u):∀{Y F8:fy} {s':St} {w:Æ},F8.r Y->Y.C=P.globals.size->(∀g,X g->Y g g)->JA Y s s'->ma P X l s->rH Y b u w->(∀j,b j->j<w.heap.size)->(∀i j,Y i j->b j->Rd j)->∀(c:Ę) (cs:List Ę),vA P main Rd (F7 F8 b vQ c cs) (fx Y b) (s'.r<|c::cs) w:=by
 have hE:∀o a u f F G,mU P X l o->(ì (å a) o).run P u=ĥ (ũ f F) G->l f:=by exact λo a u f F G d H=>d.C a u f F G H
 induction h with
 |@jP f t k u fn v hf H hp=>
  intro Y F8 s' w I J K L M N O n c cs;let⟨f',t',k',ret',L'⟩:=s';let⟨V,W,e2,e3,hL⟩:=L;simp only at V e2 e3 W hL;subst V e2 e3;cases hL;refine .mk rfl λp r=> ?_;have d:=λj s=>Ô (O j s) r.r;let⟨z,v',w',es,B,C,m,D,q,E,Q,h8⟩:=(WV fn W).gw (N.kg n r) d (H _ _) #[];have y:=λi j T s=>(C i j T).elim (λx=>n i j x s) λx=>absurd (d j s) Z;refine⟨_,w',_,fx z b,F6 hf m,WY B C q E (λe he=>Q e (by have:=mem_seen he;simpa using this)) y,.fE λAY e=>⟨z,u,v,v',fy.I I B,rfl,rH.kg (q.vB _ _) y e,D,hp,rfl⟩⟩
 |@jR s u S U h hc _ ih=>
  intro Y F8 s' w I J K L M N O n c cs;refine .mk rfl λp r=> ?_;have d:=λj s=>Ô (O j s) r.r;let⟨z,H,e,es,B,C,m,D,q,E,Q,h8⟩:=(h p.tape p.drawn).mV hz J K L M (N.kg n r) d (hc p.tape p.drawn) main<|c::cs;have y:=λi j T s=>(D i j T).elim (λx=>n i j x s) λx=>absurd (d j s) Z;refine⟨_,e,es,fx z b,B,WY m D q E Q y,ih _ _ (fy.I I m) (m.2.2.trans J) (λg x=>m.1 _ _<|K g x) C ((h _ _).ok hP hE M) q.to0 (λj s=>Ô (d j s) E.r) y c cs⟩
end
def p7:Ę:={(default:Ę)with fn:=0,todo:=[Đ<|dt ""],defers:=[{target:=.nil,args:=#[]}],mode:=.run,kind:=.normal}
def St.I(s:St):Ę:=if s.C then{fm s.f s.t s.k with mode:=.returning}else fm s.f s.t s.k
def fA(L:List (FuncId×Array Value×List ś)):List Ę:=L.map (λx=>fm x.1 x.2.1 x.2.2)++[p7]
def LM(s:St)(u:Æ):bR:=aU s.I (fA s.L) u
section
variable{GL:Nat->Prop}{ff:à->Prop}{Q:Â->Æ->Prop}
def Dl{cs:List Ę}{a:Ę}{es:Array ý}(h:Ù P É (G f cs) w=aS (G a qX) u es):dR P (aU f cs w)=ň (aU a qX u):= step_lone_go<|by show(Ù P É (G f cs) w).bare=_;rw[h];rfl
def JJ{fr:Ę}{cs:List Ę}{o:Outcome}{es:Array ý}(h:Ù P É (G fr cs) w=eV o u es):dR P (aU fr cs w)=.ended o u:= step_lone_ended<|by show(Ù P É (G fr cs) w).bare=_;rw[h];rfl
def mW(P:Õ)(Q:Â->Æ->Prop)(n:Nat)(m:bR):Prop:=∃b v a,dw P n m=ň (aU b [p7] a)/\b.leaving P a (.returned v)/\Q v a
def mW.r{m a:bR}(h:mW P Q (n+1) m)(b:dR P m=ň a):mW P Q n a:=by let⟨c,v,d,e,f⟩:=h;exact⟨c,v,d,by simpa only[dw,b]using e,f⟩
def mW.M{m:bR}{o:Outcome}(h:mW P Q (n+1) m)(b:dR P m=.ended o w):False:=by let⟨c,v,d,a,e⟩:=h;simp only[dw,b]at a;cases a
theorem WZ{fr:Ę}{cs:List Ę}(h:aU fr cs w=aU f qX u):fr=f/\cs=qX/\w=u:=by simp only[aU,Machine.mk.injEq,Array.mk.injEq,List.cons.injEq,Goroutine.mk.injEq]at h;grind
theorem mW.C{cs:List Ę}(h:mW P Q 0 (aU f cs w)):cs=[p7]/\∃v,f.leaving P w (.returned v)/\Q v w:=by let⟨b,v,c,a,d,e⟩:=h;simp only[dw,Stepped.next.injEq]at a;grind [WZ]
def afk(h:mW P Q n (aU p7 [] u)):False:=by
 cases n with
 |zero=>let⟨a,_⟩:=h.C;cases a
 |succ n=>exact h.M<|JJ (es:=#[])<|by simp[G,Ù,Ì,p7];exact⟨U,U⟩
def afl{a:List eh}(h:mW P Q n (aU (p7.raise a) [] u)):False:=by
 cases n with
 |zero=>let⟨b,_⟩:=h.C;cases b
 |succ n=>exact h.M<|JJ (es:=#[])<|by simp[G,Ù,p7,Ŗ,du,callDeferred];exact⟨U,U⟩
def afm(b:List eh):∀(L:List (FuncId×Array Value×List ś)) (f:à) (t:Array Â) (k:List ś) (u:Æ) (n:Nat),(∃a,P.funcs[f]?=À a)->(∀x∈L,∃a,P.funcs[x.1]?=À a)->¬mW P Q n (aU ((fm f t k).raise b) (fA L) u):=by
 intro L
 induction L with
 |nil=>
  intro f t k u n ⟨a,c⟩ _ h;cases n with
  |zero=>let⟨_,v,y,_⟩:=h.C;exact absurd y.1<|by simp[Ŗ,fm,Frame.at]
  |succ n=>
   have d:dR P (aU ((fm f t k).raise b) (fA []) u)=ň (aU (p7.raise b) [] u):=Dl (es:=#[]) (by simp[G,Ù,fm,base,Frame.at,Ŗ,du,cU,c,fA]);exact afl<|h.r d
 |cons x L e=>
  intro f t k u n ⟨a,c⟩ d h;cases n with
  |zero=>let⟨_,v,y,_⟩:=h.C;exact absurd y.1<|by simp[Ŗ,fm,Frame.at]
  |succ n=>
   exact e x.1 x.2.1 x.2.2 u n (d x<|î ..) (λy v=>d y<|ò _ v)<|h.r<|Dl (es:=#[])<|by simp[G,Ù,fm,base,Frame.at,Ŗ,du,cU,c,fA]
structure Ok(P:Õ)(GL:Nat->Prop)(ff:à->Prop)(s:St):Prop where
 r:ma P GL ff s
 I:ff s.f
 C:∀x∈s.L,ff x.1/\∃ops i rest k,x.2.2=á ops (i::rest)::k
def tV(P:Õ)(ff:à->Prop):Prop:=∀f,ff f->∃a c,P.funcs[f]?=À a/\a.body=À c
theorem Oe{t:Array Â}:fI P (Ī s t):=by unfold Ī;grind [gA,Wg,gJ,V4,VZ]
def afn(k:kn P xX o.op){n:Ο}(d:(ì xX o).run P u=ĥ n W):(∃v,n=ï v)\/n=aH\/∃f c,n=ũ f c:=by
 have i:∀{m:ē Â} {x:Ο} {j l:Æ},(m>>=λv=>pure (ï v):ē Ο).run P j=ĥ x l->∃v,x=ï v:=by
  intro m x j l e;rw[Ä]at e;cases g:m.run P j with
  |ok a w=>rw[g]at e;cases e;exact⟨a,U⟩
  |halt z w=>rw[g]at e;cases e
 let⟨p,e,q,s,B,guard⟩:=o;simp only at k;unfold ì at d;simp only[]at d;cases k with
 |AR x=>cases d;exact Ç ⟨_,U⟩
 |FT x=>cases d;exact Ç ⟨_,U⟩
 |wS c a b=>
  rw[Ä]at d;cases g:(bW<|xX c).run P u with
  |ok a w=>rw[g]at d;cases d;exact Ç ⟨_,U⟩
  |halt z w=>rw[g]at d;cases d
 |jg t a x=>
  rw[Ä]at d;cases g:(ĳ t (xX a)<|xX x).run P u with
  |ok a w=>rw[g]at d;cases d;exact Î<|Ç U
  |halt z w=>rw[g]at d;cases d
 |FU x=>
  simp only[]at d;split at d;all_goals first
   |(cases d;exact Ç ⟨_,U⟩)
   |exact absurd d<|rA _ _ _ _
   |(
    split at d;all_goals first
     |(cases d;exact Ç ⟨_,U⟩)
     |exact absurd d<|rA _ _ _ _
     |(
      rw[Ä,ă]at d;simp only[È]at d;rw[Ä]at d;revert d;generalize ã P (aR _ _ _ _) u=z;intro d;cases z with
      |halt z w=>cases d
      |ok a w=>
       simp only[È]at d;split at d
       .rw[Ä]at d;cases d
       .cases d;exact Ç ⟨_,U⟩))
 |FV x a=>simp only[ù,č,Ē,pure_bind,Ø,â,ä]at d;exact Ç<|i d
 |FW x a=>simp only[ù,č,Ē,pure_bind,Ø,â,ä]at d;exact Ç<|i d
 |FX x y a=>simp only[ù,č,Ē,pure_bind,Ø,â,ä]at d;exact Ç<|i d
 |tN x y b g h=>simp only[ù,č,Ē,pure_bind,Ø,â,ä]at d;exact Ç<|i d
 |jO g C a b h=>
  let⟨D,r,w,z⟩:=h;simp only[ù,b,İ,č,pure_bind,Ď,ď,ĵ]at d;rw[Ä,ă]at d;simp only[È,r,w,z,Å,if_false]at d;cases d;exact Î<|Î ⟨_,_,U⟩
 |Dg e t x y r h=>exact Ç<|i d
 |_=>exact Ç<|i d
def mW.I(_hP:pv P GL ff)(hF:tV P ff){n:Nat}{s:St}{u:Æ}(ok:Ok P GL ff s)(hu:qF u)(h:mW P Q n (LM s u)): (n=0/\s.C=É/\s.L=[]/\∃fn v,P.funcs[s.f]?=À fn/\(Ī fn s.t).run P u=ĥ v u/\Q v u)\/∃m s' u',n=m+1/\LS P s u s' u'/\mW P Q m (LM s' u'):=by
 let⟨f,t,k,ret,L⟩:=s;let⟨⟨top,lw⟩,fs,ls⟩:=ok;simp only at top lw fs ls;let⟨fn,c,hfn,hbody⟩:=hF f fs;cases n with
 |zero=>
  let⟨h1,v,h2,h3⟩:=h.C;have hL:L=[]:=by simp only[fA]at h1;simp_all
  subst hL;let⟨m1,_,_,fn',m4,m5⟩:=h2;have afo:ret=É:=by
   cases ret with
   |true=>rfl
   |false=>simp[St.I,fm,Frame.at]at m1
  subst afo;exact Ç ⟨U,U,U,fn',v,m4,m5,h3⟩
 |succ n=>
  have go:∀{s':St} {u':Æ},LS P ⟨f,t,k,ret,L⟩ u s' u'->(∃es,Ù P É ((⟨f,t,k,ret,L⟩:St).r [p7]) u=aS (s'.r [p7]) u' es)->(n+1=0/\ret=É/\L=[]/\∃fn v,P.funcs[f]?=À fn/\(Ī fn t).run P u=ĥ v u/\Q v u)\/∃m s' u',n+1=m+1/\LS P ⟨f,t,k,ret,L⟩ u s' u'/\mW P Q m (LM s' u'):=by intro s' u' hl ⟨es,he⟩;exact Î ⟨n,s',u',U,hl,h.r<|Dl he⟩
  have bad:(∃o w es,Ù P É ((⟨f,t,k,ret,L⟩:St).r [p7]) u=eV o w es)->False:=λ⟨_,_,_,he⟩=>h.M<|JJ he;cases ret with
  |true=>
   cases hr:(Ī fn t).runT P u #[]with
   |mk r es=>
    cases r with
    |halt z w=>
     refine absurd ?_ id;cases z<;>exact bad ⟨_,_,_,by simp[St.r,fm,base,G,Ù,du,Frame.at,hfn,hr,Ź,-ź];exact⟨U,U,U⟩⟩
    |ok v u'=>
     cases L with
     |nil=>
      exact absurd (h.r<|Dl<|F6 hfn hr) afk
     |cons x L=>
      let⟨g,t',k'⟩:=x;let⟨_,ops,i,rest,k2,e⟩:=ls _<|î ..;simp only at e;subst e;refine go (.xb hfn (by rw[<-Ρ P (Ī fn t) u #[],hr])) ⟨seen P f es,?_⟩;have nt:=F6 (main:=É) (k:=k) (c:=fm g t'<|á ops (i::rest)::k2) (cs:=fA L) hfn hr;have AX:=ε (base g) ⟨t',[]⟩ ops i rest k2 v;rw[sP]at AX;unfold fm at nt;rwa[AX]at nt
  |false=>
   cases k with
   |nil=>exact go .pj ⟨_,by simp[St.r,fm,base,G,Ù,Ì,Frame.at];rfl⟩
   |cons it k=>
    have ti:=top it<|î ..;cases ti with
    |yK id=>exact go .yK ⟨_,by simp[St.r,fm,base,G,Ù,Ì,Frame.at];rfl⟩
    |vz _=>exact go .vz ⟨_,by simp[St.r,fm,base,G,Ù,Ì,Frame.at];rfl⟩
    |wY _=>exact go .wY ⟨_,by simp[St.r,fm,base,G,Ù,Ì,Frame.at];rfl⟩
    |rG hc=>
     cases hc with
     |vy=>exact go .vy ⟨_,by simp[St.r,fm,base,G,Ù,Ì,Frame.at];rfl⟩
     |sL=>exact go .sL ⟨_,by simp[St.r,fm,base,G,Ù,Ì,Frame.at];rfl⟩
     |wV l=>exact go .wV ⟨_,by simp[St.r,fm,base,G,Ù,Ì,Frame.at];rfl⟩
     |rE hx hy=>exact go .rE ⟨_,by simp[St.r,fm,base,G,Ù,Ì,Frame.at];rfl⟩
     |rF id _=>exact go .rF ⟨_,by simp[St.r,fm,base,G,Ù,Ì,Frame.at];rfl⟩
     |wW _=>exact go .wW ⟨_,by simp[St.r,fm,base,G,Ù,Ì,Frame.at];rfl⟩
     |wZ _=>exact go .wZ ⟨_,by simp[St.r,fm,base,G,Ù,Ì,Frame.at];rfl⟩
     |nV WT=>exact(bad ⟨_,_,_,by simp[St.r,fm,base,G,Ù,Ì,Frame.at];exact⟨U,U,U⟩⟩).elim
     |w7 id=>
      cases he:cC id k with
      |none=>exact(bad ⟨_,_,_,by simp[St.r,fm,base,G,Ù,Ì,Frame.at,he];exact⟨U,U,U⟩⟩).elim
      |some k'=>exact go (.w7 he) ⟨_,by simp[St.r,fm,base,G,Ù,Ì,Frame.at,he];rfl⟩
     |xa l=>
      cases he:cD l k with
      |none=>exact(bad ⟨_,_,_,by simp[St.r,fm,base,G,Ù,Ì,Frame.at,he];exact⟨U,U,U⟩⟩).elim
      |some k'=>exact go (.xa he) ⟨_,by simp[St.r,fm,base,G,Ù,Ì,Frame.at,he];rfl⟩
     |@tT c x y _ _ _=>
      by_cases hb:∃b,å ⟨t,[]⟩ c=Ľ b
      .let⟨b,hb⟩:=hb;exact go (.tT hb) ⟨_,cE hb⟩
      .refine(bad ⟨.stuck "cond: bool expected" ((fm f t<|Đ (bz c x y)::k).pos P),u,#[],?_⟩).elim;have VK:(fm f t<|Đ (bz c x y)::k).eval c=å ⟨t,[]⟩ c:=Frame.eval_at _ _ _ _;have hx:Ù P É (G (fm f t<|Đ (bz c x y)::k)<|fA L) u=(match(fm f t<|Đ (bz c x y)::k).eval c with
        |Ľ b=>aS (G (fm f t<|Đ (if b then x else y)::k)<|fA L) u
        |_=>eV (.stuck "cond: bool expected" ((fm f t (Đ (bz c x y)::k)).pos P)) u):=by
        simp only[G,Ù,Ì,fm,Frame.at];rfl
       refine hx.trans ?_;rw[VK];generalize å ⟨t,[]⟩ c=v at hb;cases v<;>first|exact absurd ⟨_,U⟩ hb|rfl
     |tU id draw _=>
      cases draw with
      |false=>exact go .tU ⟨_,by simp[St.r,fm,base,G,Ù,Ì,Frame.at];rfl⟩
      |true=>exact go .AU ⟨_,Ż⟩
    |xc is hO=>
     rename_i ops;cases is with
     |nil=>exact go .F5 ⟨_,by simp[St.r,fm,base,G,Ù,Ì,Frame.at];rfl⟩
     |cons i rest=>
      cases ho:ops[i]? with
      |none=>exact go (.Dj ho) ⟨_,by simp[St.r,fm,base,G,Ù,Ì,Frame.at,ho,aT];rfl⟩
      |some o=>
       cases hw:Ħ o (ł ops t)with
       |false=>
        have:=υ (P:=P) (main:=É) (b:=base f) (a:=⟨t,[]⟩) (k:=k) (cs:=fA L) (w:=u) (rest:=rest) ho hw;rw[sP]at this;exact go (.Di ho hw) ⟨_,this⟩
       |true=>
        have oo:=hO o<|Û ho;have py:=stepG_oper (P:=P) (main:=É) (b:=base f) (a:=⟨t,[]⟩) (k:=k) (cs:=fA L) (w:=u) (rest:=rest) ho hw;cases hr:(ì (å ⟨t,[]⟩) o).runT P u #[]with
        |mk r es=>
         have pg:(ì (å ⟨t,[]⟩) o).run P u=r:=by rw[<-Ρ P _ u #[],hr]
         cases r with
         |halt z w=>
          have hz:=((oo.r ⟨t,[]⟩).1 u hu).2 z w pg;cases z with
          |panic v=>
           have hs:dR P (LM ⟨f,t,á ops (i::rest)::k,Ã,L⟩ u)=ň (aU ((fm f t<|á ops (i::rest)::k).raise [{v,recovered:=Ã}]) (fA L) w):= Dl (es:=seen P f es) (py.trans<|by simp[bC,hr,G,Frame.at,fm,base,Ź,Ŗ,-ź]);exact absurd (h.r hs) (afm _ L f t _ w n ⟨fn,hfn⟩ λx hx=>let⟨fn',_,h1,_⟩:=hF x.1 (ls x hx).1;⟨fn',h1⟩)
          |stuck s=>exact(bad ⟨_,_,_,py.trans<|by simp[bC,hr,Frame.at,base,Ź,-ź];exact⟨U,U,U⟩⟩).elim
          |unsupported un=>
           cases un<;>first|(cases hz;done)|exact(bad ⟨_,_,_,py.trans<|by simp[bC,hr,Frame.at,base,Ź,-ź];exact⟨U,U,U⟩⟩).elim
          |_=>cases hz
         |ok nx u'=>
          rcases oo.I ⟨t,[]⟩ u nx u' pg with⟨v,rfl⟩|rfl|⟨g,args,rfl⟩
          .have:=bA (main:=É) (b:=base f) (k:=k) (cs:=fA L) (rest:=rest) ho hw (by simp[base]) pg;rw[sP]at this;exact go (.nU ho hw pg) ⟨_,this⟩
          .have:=cG (main:=É) (b:=base f) (k:=k) (cs:=fA L) (rest:=rest) ho hw (by simp[base]) pg;rw[sP]at this;exact go (.AV ho hw pg) ⟨_,this⟩
          .let⟨fn',c',h1,h2⟩:=hF g<|oo.C ⟨t,[]⟩ u g args u' pg;have:=bB (main:=É) (b:=base f) (k:=k) (cs:=fA L) (rest:=rest) ho hw (by simp[base]) pg;rw[cH _ h1 h2]at this;exact go (.sM ho hw pg h1 h2) ⟨_,this⟩
end
def ko(u:Æ):Prop:=∀(i:Nat) (o:Obj),u.heap[i]?=À o->¬yJ o
def ko.qF(h:ko u):qF u:=λi _ _ a=>h i _ a trivial
def xe(a:Â->Æ->Prop):Prop:=∀v u T D,a v u->a v ((World.tp u T D))
section
variable{GL:Nat->Prop}{ff:à->Prop}{kF:Â->Æ->Prop}
def LS.Od{s s':St}(h:LS P s u s' W)(cs:List Ę):∃j,Ù P É (s.r cs) u=aS (s'.r cs) W j:=by
 cases h with
 |@tT f t k L _ c x y b hc=>exact⟨_,cE hc⟩
 |w7 e=>exact⟨_,by simp[St.r,fm,base,G,Ù,Ì,Frame.at,e];rfl⟩
 |xa e=>exact⟨_,by simp[St.r,fm,base,G,Ù,Ì,Frame.at,e];rfl⟩
 |@AU f t k L _ id ops=>exact⟨_,Ż⟩
 |@Dj f t k L _ ops i rest ho=>exact⟨_,by simp[St.r,fm,base,G,Ù,Ì,Frame.at,ho,aT];rfl⟩
 |@Di f t k L _ ops i rest o ho hw=>
  have:=υ (P:=P) (main:=É) (b:=base f) (a:=⟨t,[]⟩) (k:=k) (cs:=L.map (λx=>fm x.1 x.2.1 x.2.2)++cs) (w:=u) (rest:=rest) ho hw;rw[sP]at this;exact⟨_,this⟩
 |@nU f t k L _ ops i rest o v _ ho hw hr=>
  have:=bA (main:=É) (b:=base f) (k:=k) (cs:=L.map (λx=>fm x.1 x.2.1 x.2.2)++cs) (rest:=rest) ho hw (by simp[base]) hr;rw[sP]at this;exact⟨_,this⟩
 |@AV f t k L _ ops i rest o _ ho hw hr=>
  have:=cG (main:=É) (b:=base f) (k:=k) (cs:=L.map (λx=>fm x.1 x.2.1 x.2.2)++cs) (rest:=rest) ho hw (by simp[base]) hr;rw[sP]at this;exact⟨_,this⟩
 |@sM f t k L _ ops i rest o g args fn c _ ho hw hr hf hb=>
  have:=bB (main:=É) (b:=base f) (k:=k) (cs:=L.map (λx=>fm x.1 x.2.1 x.2.2)++cs) (rest:=rest) ho hw (by simp[base]) hr;rw[cH _ hf hb]at this;exact⟨_,this⟩
 |@xb f t k L _ g t' ops i rest k' v fn _ hf hr=>
  cases l:(Ī fn t).runT P u #[]with
  |mk r j=>
   have e:r=ĥ v W:=by rw[<-hr,<-Ρ P (Ī fn t) u #[],l]
   subst e;have d:=F6 (main:=É) (k:=k) (c:=fm g t'<|á ops (i::rest)::k') (cs:=L.map (λx=>fm x.1 x.2.1 x.2.2)++cs) hf l;have x:=ε (base g) ⟨t',[]⟩ ops i rest k' v;rw[sP]at x;unfold fm at d;rw[x]at d;exact⟨_,d⟩
 |_=>exact⟨_,by simp[St.r,fm,base,G,Ù,Ì,Frame.at];rfl⟩
def LS.vC{s a:St}(h:LS P s u a w):dR P (LM s u)=ň (LM a w):= let⟨_,b⟩:=h.Od [p7];Dl b
def LS.Og(j:pv P GL ff){s g:St}(h:LS P s u g w)(ok:Ok P GL ff s):Ok P GL ff g:=by
 have i:∀o a u f e w,mU P GL ff o->(ì (å a) o).run P u=ĥ (ũ f e) w->ff f:=by exact λo a u f e w c d=>c.C a u f e w d
 refine⟨h.ok j i ok.r,?_,?_⟩
 .cases h with
  |sM c _ d _ _=>exact i _ _ _ _ _ _ (pw ok.r.gi _<|Û c) d
  |xb=>exact(ok.C _<|î ..).1
  |_=>exact ok.I
 .cases h with
  |sM c _ d _ _=>
   intro x b;rcases œ.1 b with rfl|b
   .exact⟨ok.I,_,_,_,_,U⟩
   .exact ok.C x b
  |xb=>exact λx b=>ok.C x<|ò _ b
  |_=>exact ok.C
def LS.kd{s c:St}{u b:Æ}(h:LS P s u c b)(ok:ma P GL ff s)(a:qF u):Kd u b:=by
 cases h with
 |nU k _ i=>exact(((pw ok.gi _<|Û k).r _).1 u a).1 _ _ i
 |AV k _ i=>exact(((pw ok.gi _<|Û k).r _).1 u a).1 _ _ i
 |sM k _ i _ _=>exact(((pw ok.gi _<|Û k).r _).1 u a).1 _ _ i
 |xb _ i=>exact(Oe.1 u a).1 _ _ i
 |AU=>exact⟨id,λi o h k=>⟨o,h,k⟩⟩
 |_=>exact Kd.gd u
def LS.afp{s o:St}{u p:Æ}{T:ψ}{D:Nat}(h:LS P s ((World.tp u T D)) o p)(ok:ma P GL ff s):∃n v,p=(World.tp v T<|D+n)/\∀a b,vw T D a b n->LS P s ((World.tp u a b)) o ((World.tp v a<|b+n)):=by
 cases h with
 |nU c e g=>
  obtain⟨n,v,i⟩:=((pw ok.gi _<|Û c).r ⟨_,[]⟩).2 u T D;obtain⟨j,l⟩:=i _ _ g;exact⟨n,v,j,λa b d=> .nU c e (l a b d)⟩
 |AV c e g=>
  obtain⟨n,v,i⟩:=((pw ok.gi _<|Û c).r ⟨_,[]⟩).2 u T D;obtain⟨j,l⟩:=i _ _ g;exact⟨n,v,j,λa b d=> .AV c e (l a b d)⟩
 |sM c e g m q=>
  obtain⟨n,v,i⟩:=((pw ok.gi _<|Û c).r ⟨_,[]⟩).2 u T D;obtain⟨j,l⟩:=i _ _ g;exact⟨n,v,j,λa b d=> .sM c e (l a b d) m q⟩
 |xb m g=>
  obtain⟨n,v,i⟩:=(Oe).2 u T D;obtain⟨j,l⟩:=i _ _ g;exact⟨n,v,j,λa b d=> .xb m (l a b d)⟩
 |@AU f t k L _ id ops=>
  refine⟨1,u,U,λa b d=> ?_⟩;have g:=LS.AU (P:=P) (f:=f) (t:=t) (k:=k) (L:=L) (u:=(World.tp u a b)) (id:=id) (ops:=ops);have i:((World.tp u a b)).tape ((World.tp u a b)).drawn=((World.tp u T D)).tape ((World.tp u T D)).drawn:=d.lY;rwa[i]at g
 |pj=>exact⟨0,u,U,λ_ _ _=> .pj⟩
 |vy=>exact⟨0,u,U,λ_ _ _=> .vy⟩
 |sL=>exact⟨0,u,U,λ_ _ _=> .sL⟩
 |wV=>exact⟨0,u,U,λ_ _ _=> .wV⟩
 |yK=>exact⟨0,u,U,λ_ _ _=> .yK⟩
 |vz=>exact⟨0,u,U,λ_ _ _=> .vz⟩
 |rE=>exact⟨0,u,U,λ_ _ _=> .rE⟩
 |tT h=>exact⟨0,u,U,λ_ _ _=> .tT h⟩
 |rF=>exact⟨0,u,U,λ_ _ _=> .rF⟩
 |wW=>exact⟨0,u,U,λ_ _ _=> .wW⟩
 |wY=>exact⟨0,u,U,λ_ _ _=> .wY⟩
 |wZ=>exact⟨0,u,U,λ_ _ _=> .wZ⟩
 |w7 h=>exact⟨0,u,U,λ_ _ _=> .w7 h⟩
 |xa h=>exact⟨0,u,U,λ_ _ _=> .xa h⟩
 |tU=>exact⟨0,u,U,λ_ _ _=> .tU⟩
 |F5=>exact⟨0,u,U,λ_ _ _=> .F5⟩
 |Di c e=>exact⟨0,u,U,λ_ _ _=> .Di c e⟩
 |Dj c=>exact⟨0,u,U,λ_ _ _=> .Dj c⟩
def mW.gX(c:pv P GL ff)(hF:tV P ff)(g:∀v u,vQ v u->ko u):∀(n:Nat) {s:St} {u:Æ},Ok P GL ff s->qF u->mW P vQ n (LM s u)->ko u:=by
 intro n
 induction n with
 |zero=>
  intro s u a b h;rcases h.I c hF a b with⟨_,_,_,_,v,_,_,d⟩|⟨m,_,_,e,_⟩
  .exact g v u d
  .cases e
 |succ n j=>
  intro s u a b h;rcases h.I c hF a b with⟨e,_⟩|⟨m,w,x,e,d,k⟩
  .cases e
  .cases e;have f:=d.kd a.r b;intro i o l p;let⟨q,r,t⟩:=f.C i o l p;exact j (d.Og c a) (f.r b) k i q r t
def p6.afq(b:xe kF){s:St}(h:p6 P kF s u)(T:ψ)(D:Nat):p6 P kF s ((World.tp u T D)):=by
 cases h with
 |jP a S c=>exact .jP a S (b _ _ T D c)
 |jR S a h c d=>exact .jR S a h c d
def W0(m:xe kF)(o:∀v u,vQ v u->kF v u){s:St}(c:s.C=É)(b:s.L=[])(e:∃g v,P.funcs[s.f]?=À g/\(Ī g s.t).run P ((World.tp u xQ i))=ĥ v ((World.tp u xQ i))/\vQ v ((World.tp u xQ i))):p6 P kF s u:=by
 obtain⟨f,t,k,z,L⟩:=s;simp only at c b;subst c b;obtain⟨g,v,p,q,r⟩:=e;refine .jP (v:=v) p (λh d=> ?_) ?_
 .obtain⟨n,w,c⟩:=(Oe).2 u xQ i;obtain⟨b,e⟩:=c _ _ q;have x:n=0:=by
   have:((World.tp u xQ i)).drawn=((World.tp w xQ<|i+n)).drawn:=by rw[<-b]
   simp only[World.tp]at this;omega
  subst x;have y:(World.tp w h d)=(World.tp u h d):=by
   have a:((World.tp u xQ i)).heap=((World.tp w xQ<|i+0)).heap:=by rw[<-b]
   have j:((World.tp u xQ i)).os=((World.tp w xQ<|i+0)).os:=by rw[<-b]
   have l:((World.tp u xQ i)).output=((World.tp w xQ<|i+0)).output:=by rw[<-b]
   simp only[World.tp]at a j l|-;rw[a,j,l]
  have:=e h d (λa j=>by omega);rwa[show d+0=d from rfl,y]at this
 .have:=m v _ u.tape u.drawn<|o v _ r;exact this
structure JK where
 s:St
 u:Æ
 D:Nat
 T:ψ
 n:Nat
structure JL(P:Õ)(GL:Nat->Prop)(ff:à->Prop)(kF:Â->Æ->Prop)(s0:St)(u0:Æ)(x:JK):Prop where
 ok:Ok P GL ff x.s
 afr:qF x.u
 afs:¬p6 P kF x.s x.u
 oQ:∀T',(∀i,i<x.D->T' i=x.T i)->dw P x.n (LM s0<|(World.tp u0 T' 0))=ň (LM x.s<|(World.tp x.u T' x.D))
def W3{m:bR}{s:St}{N:Nat}(a:dw P n m=ň (LM s u))(e:mW P vQ N m):∃k,N=n+k/\mW P vQ k (LM s u):=by
 by_cases f:n<=N
 .obtain⟨k,rfl⟩:=Ε f;refine⟨k,U,?_⟩;let⟨g,v,c,b,d⟩:=e;rw[dJ,a]at b;exact⟨g,v,c,b,d⟩
 .obtain⟨k,rfl⟩:=Nat.exists_eq_add_of_lt<|Nat.lt_of_not_le f;let⟨g,v,c,b,d,_⟩:=e;rw[show N+k+1=N+(k+1) by omega,dJ,b]at a;simp only[dw,step_leave_returned d]at a;cases k with
  |zero=>
   simp only[dw,Stepped.next.injEq]at a;have:=(WZ a).2.1;simp[fA]at this
  |succ k=>
   simp only[dw,(JJ (P:=P) (fr:=p7) (cs:=[]) (w:=c) (es:=#[])<|by simp[G,Ù,Ì,p7];exact⟨U,U⟩)]at a;cases a
theorem Oh(f:pv P GL ff)(hF:tV P ff)(t:xe kF)(C:∀v u,vQ v u->ko u)(E:∀v u,vQ v u->kF v u){j:St}(F:∀T,∃n,mW P vQ n<|LM j<|(World.tp w T 0)){x:JK}(G:JL P GL ff kF j w x): ∃y:JK,JL P GL ff kF j w y/\y.n=x.n+1/\x.D<=y.D/\∀i,i<x.D->y.T i=x.T i:=by
 let⟨s,u,D,T,n⟩:=x;let⟨ok,pend,l,q⟩:=G;simp only at ok pend l q;have H:∃y d,∀a g,LS P s ((World.tp u y d)) a g->De u g->¬p6 P kF a g:=by
  refine Classical.byContradiction λo=>l ?_;have c:∀y d,∃p:St×World,LS P s ((World.tp u y d)) p.1 p.2/\De u p.2/\p6 P kF p.1 p.2:=by simp_all
  exact .jR (λy d=>(Classical.choose<|c y d).1) (λy d=>(Classical.choose<|c y d).2) (λy d=>(Classical.choose_spec<|c y d).1) (λy d=>(Classical.choose_spec<|c y d).2.1) λy d=>(Classical.choose_spec<|c y d).2.2
 let⟨y,d,I⟩:=H;let p:ψ:=λi=>if i<D then T i else y (d+(i-D))
 have r:∀i,i<D->p i=T i:=λi h=>if_pos h;have J:=λi=>by show(if D+i<D then T (D+i)else y (d+(D+i-D)))=y (d+i);grind
 let⟨N,K⟩:=F p;let⟨k,_,L⟩:=W3 (q p r) K;have b:qF ((World.tp u p D)):=pend;rcases L.I f hF ok b with⟨_,M,O,S⟩|⟨m,a,g,_,e,V⟩
 .exact absurd (W0 t E M O S) l
 .obtain⟨c,v,rfl,z⟩:=e.afp ok.r;have W:¬p6 P kF a v:=λX=>I a _ (z y d λi _=>(J i).symm) (λi o _ B=>(mW.gX f hF C m (e.Og f ok) ((e.kd ok.r b).r b) V) i o B)<|X.afq t y<|d+c;refine⟨⟨a,v,D+c,p,n+1⟩,⟨e.Og f ok,(e.kd ok.r b).r b,W,λo B=> ?_⟩,U,ft,r⟩;rw[dJ,(q o λi h=>(B i<|by simp only;omega).trans<|r i h)];simp only[dw,(z o D λi h=>B (D+i)<|by simp only;omega).vC]
theorem afu(b:pv P GL ff)(hF:tV P ff)(c:xe kF){Q:Â->Æ->Prop}(g:∀v u,Q v u->ko u)(d:∀v u,Q v u->kF v u){a:St}(ok:Ok P GL ff a)(q:qF w)(f:∀T,∃n,mW P Q n<|LM a<|(World.tp w T 0)):p6 P kF a w:=by
 refine Classical.byContradiction λr=> ?_;have s:JL P GL ff kF a w ⟨a,w,0,λ_ _=>0,0⟩:=⟨ok,q,r,λI _=>rfl⟩;let F:Nat->{x:JK//JL P GL ff kF a w x}:=λk=>Nat.rec ⟨_,s⟩ (λ_ x=>⟨Classical.choose<|Oh b hF c g d f x.2,(Classical.choose_spec<|Oh b hF c g d f x.2).1⟩) k
 have l:=λk=>(Classical.choose_spec<|Oh b hF c g d f (F k).2).2;have t:∀k,(F k).1.n=k:=by
  intro k
  induction k with
  |zero=>rfl
  |succ k e=>rw[(l k).1,e]
 have J:∀j k,(F j).1.D<=(F<|j+k).1.D/\∀i,i<(F j).1.D->(F<|j+k).1.T i=(F j).1.T i:=by
  intro j k
  induction k with
  |zero=>exact⟨ß _,λ_ _=>rfl⟩
  |succ k e=>
   have:=(l<|j+k).2;exact⟨õ e.1 this.1,λi m=>(this.2 i<|Ô m e.1).trans<|e.2 i m⟩
 have K:∀j k i,i<(F j).1.D->i<(F k).1.D->(F j).1.T i=(F k).1.T i:=by intro j k i e o;rcases Nat.le_total j k with h|h;all_goals grind [Ε]
 let T:ψ:=λi=>open Classical in if h:∃k,i<(F k).1.D then(F<|Classical.choose h).1.T i else λ_=>0
 have y:∀k i,i<(F k).1.D->T i=(F k).1.T i:=by intro k i m;have e:∃k,i<(F k).1.D:=⟨k,m⟩;show(open Classical in if h:∃k,i<(F k).1.D then(F<|Classical.choose h).1.T i else λ_=>0)=_;rw[dif_pos e];grind
 let⟨N,z⟩:=f T;have p:=(F N).2.oQ T<|y N;rw[t N]at p;let⟨k,e,o⟩:=W3 p z;have B:k=0:=Z
 subst B;have C:qF ((World.tp (F N).1.u T<|(F N).1.D)):=(F N).2.afr;rcases o.I b hF (F N).2.ok C with⟨_,E,G,H⟩|⟨m,_,_,e,_⟩
 .exact(F N).2.afs<|W0 c d E G H
 .cases e
end
section
variable{m:à->Prop}
def Oi(f:à)(b:Func)(c:ak)(a:Array Â):St:=⟨f,a++ĺ (b.ntmps-a.size) ľ,[Đ c],Ã,[]⟩
def W4(a:Array Â)(b:P.funcs[F]?=À s)(d:s.body=À wX):dL P F a .normal=(Oi F s wX a).I:=cH a b d
def afv(b:pv P X m)(hF:tV P m)(l:xe vQ)(g:m F)(j:P.funcs[F]?=À s)(k:s.body=À wX)(o:ko u) (p:∀T,Calls P F d ((World.tp u T 0)) fun|.returned v,u'=>vQ v u'/\ko u'|_,_=>False):p6 P vQ (Oi F s wX d) u:=by
 refine afu b hF l (Q:=λv u=>vQ v u/\ko u) (λv u h=>h.2) (λv u h=>h.1) ⟨⟨λi q=> ?_,λx h=>by cases h⟩,g,λx h=>by cases h⟩ o.qF λT=> ?_
 .rw[ū.1 q];exact .rG (b F g s wX j k)
 .let⟨e,r,t,a,w,_,y⟩:=p T [p7];cases e with
  |returned v=>
   let⟨n,z⟩:=w;refine⟨n,t,v,r,?_,y,a⟩;rw[<-z,W4 d j k];rfl
  |panicked n=>exact a.elim
  |outgrown=>exact a.elim
def afw(r:nT P)(b:pv P X m)(hF:tV P m)(t:xe vQ)(n:m F)(e:P.funcs[F]?=À s)(h:s.body=À wX)(y:ko u) (z:∀T,Calls P F d ((World.tp u T 0)) fun|.returned v,u'=>vQ v u'/\ko u'|_,_=>False) {Y:fy} {a o:Nat->Prop} (B:Y.C=P.globals.size) (C:∀g,X g->Y g g) (p:fX Y d q) (D:rH Y a u w) (E:∀j,a j->j<w.heap.size) (H:∀i j,Y i j->a j->o j) (main:Bool) (k:Ę) (l:List Ę): vA P main o (F7 Y a vQ k l) (fx Y a) (G (dL P F q .normal)<|k::l) w:=by
 have:=(afv b hF t n e h y z).Od (main:=main) r b (Y:=Y) (F8:=Y) (s':=Oi F s wX q) (fy.M _) B C ⟨U,?_,U,U,.pj⟩ ⟨λi I=> ?_,λx J=>by cases J⟩ D E H k l
 .rw[W4 q e h];exact this
 .show fX Y (d++_) (q++_);rw[p.r];exact p.tN<|WU _
 .rw[ū.1 I];exact .rG (b F n s wX e h)
def yN:Â->Bool
 |Ľ _|Ć _ _|ħ _|Þ ë|bS ë _ _|bT|aW|eu ë|.map ë=>É
 |_=>Ã
def Oj:Â->Bool
 |.agg a=>a.all yN
 |ſ a=>a.all yN
 |v=>yN v
def F9(h:yN v=É):jW v:=by
 cases v with
 |bool b=>exact .mJ b
 |int k n=>exact .iH k n
 |string s=>exact .k9 s
 |pointer p=>cases p with
  |none=>exact .lW
  |some a=>cases h
 |slice p n c=>cases p with
  |none=>exact .ou n c
  |some a=>cases h
 |nilFunc=>exact .vo
 |nilIface=>exact .vp
 |chan p=>cases p with
  |none=>exact .vq
  |some a=>cases h
 |map p=>cases p with
  |none=>exact .vr
  |some a=>cases h
 |_=>cases h
def afx(h:Oj v=É):jW v:=by
 cases v with
 |agg b=>exact .oM λi a=>F9<|(Ń.1 h) i a
 |tuple b=>exact .nR λi a=>F9<|(Ń.1 h) i a
 |_=>exact F9 h
def xf(X:Nat->Bool):Ö->Bool
 |.tmp _=>É
 |dZ v=>Oj v
 |ez g=>X g
 |aO _=>É
theorem JN{g:Nat->Bool}(h:xf g qQ=É):mK (λj=>g j=É) qQ:=by
 cases qQ with
 |tmp t=>exact .WN t
 |const v=>exact .WO (afx h)
 |global j=>exact .WQ h
 |func f=>exact .WR f
def Ol(P:Õ)(t:Á):Bool:=match P.underlying t with
 |some .bool=>É
 |some (Β _)=>É
 |some ę=>É
 |_=>Ã
def afy(h:Ol P t=É):tO P t:=by
 unfold Ol at h;split at h
 .rename_i e;exact Ç e
 .rename_i k e;exact Î<|Ç ⟨k,e⟩
 .rename_i e;exact Î<|Î e
 .cases h
def JO:Ö->Bool
 |dZ (Þ ë)=>É
 |_=>Ã
def W5(h:JO qQ=É):nk (y.eval qQ):=by
 unfold JO at h;split at h
 .trivial
 .cases h
def Om(P:Õ)(t:Á)(x y:Ö):Bool:=Ol P t||((match P.underlying t with|some (ð _)=>É|_=>Ã)&&(JO x||JO y))
theorem afz{a:bF}{y:Ö}(h:Om P t qQ y=É):tO P t\/((∃e,P.underlying t=À (ð e))/\(nk (a.eval qQ)\/nk (a.eval y))):=by
 unfold Om at h;rcases Ŝ.1 h with h|h
 .exact Ç<|afy h
 .let⟨b,e⟩:=Ü.1 h;refine Î ⟨?_,(Ŝ.1 e).imp W5 W5⟩;grind
def On(P:Õ)(s d:Á):Bool:=match P.underlying s,P.underlying d with
 |some (Β _),À (Β _)=>É
 |some ę,À ę=>É
 |_,_=>Ã
theorem afA(h:On P e t=É):(∃k a,P.underlying e=À (Β k)/\P.underlying t=À (Β a))\/(P.underlying e=À ę/\P.underlying t=À ę):=by unfold On at h;grind
def Oo(P:Õ)(s:Á)(n:Nat):Bool:=match P.underlying s with
 |some (df fields)=>match fields[n]? with
  |some f=>match P.info? f.type with
   |some i=>i.size !=0
   |none=>Ã
  |none=>Ã
 |_=>Ã
def afB(h:Oo P e n=É):∀a f i,P.underlying e=À (df a)->a[n]?=À f->P.info? f.type=À i->i.size≠0:=by intro a f i b c d;simp only[Oo,b,c,d]at h;simpa using h
def Oq(P:Õ)(m:à->Bool)(f:à):Bool:=m f&&(match P.funcs[f]? with
 |some a=> !(a.name== "runtime.NumGoroutine")&&!a.body.isNone
 |none=>Ã)
theorem W6{g:à->Bool}(h:Oq P g F=É):g F=É/\∃a,P.funcs[F]?=À a/\(a.name== "runtime.NumGoroutine")=Ã/\a.body.isNone=Ã:=by let⟨b,c⟩:=Ü.1 h;grind
def W7(P:Õ):List Á->Bool
 |[_,t1]=>(match P.underlying t1 with|some (dh _)=>É|some ę=>É|_=>Ã)
 |_=>Ã
def W8(P:Õ)(m:à->Bool)(b:Callee)(a:List Ö)(c:List Á):Bool:=match b with
 |ĝ .len=>a.length==1
 |ĝ .cap=>a.length==1
 |ĝ .copy=>a.length==2
 |ĝ .append=>a.length==2&&W7 P c
 |cj (aO f)=>Oq P m f
 |_=>Ã
def Dm(P:Õ)(m:à->Bool):Op->Bool
 |.move _|.assign _|.pick _ _ _|.alloc _|.box _ _|.build _ _|dD _ _ _|.load _ _|.store _ _ _|eD _|.unOp _ _ _|dW _ _ _|.slice _ _ _ _ _|.field _ _ _|dY _ _ _|.index _ _ _|.extract _ _=>É
 |dV c t x y _=>if c==aA||c==aL then Om P t x y else É
 |aN s d _=>On P s d
 |dX s _ n=>Oo P s n
 |Ω c=>W8 P m c.callee c.args.toList c.argTypes.toList
 |_=>Ã
def JP{a:Array Ö}(h:(a.toList.length==1)=É):∃x,a=#[x]:=by
 let⟨l⟩:=a;match l,h with
 |[x],_=>exact⟨x,U⟩
def Ot{a:Array Ö}(h:(a.toList.length==2)=É):∃x y,a=#[x,y]:=by
 let⟨l⟩:=a;match l,h with
 |[x,y],_=>exact⟨x,y,U⟩
def afC{g:à->Bool}{k:Op}(h:Dm P g k=É)(a:bF):kn P a.eval k:=by
 cases k with
 |binOp o t x y r=>
  refine .Dg o t x y r λe=> ?_;have:(o==aA||o==aL)=É:=by rcases e with rfl|rfl<;>rfl
  simp only[Dm,if_pos this]at h;exact afz h
 |convert s d x=>exact .NM _ _ _ (afA h)
 |fieldAddr s x n=>exact .NO _ _ _ (afB h)
 |call c=>
  let⟨z,B,j⟩:=c;simp only[Dm]at h;unfold W8 at h;split at h
  .obtain⟨x,rfl⟩:=JP h;exact .FV x j
  .obtain⟨x,rfl⟩:=JP h;exact .FW x j
  .obtain⟨x,y,rfl⟩:=Ot h;exact .FX x y j
  .let⟨q,f⟩:=Ü.1 h;obtain⟨x,y,rfl⟩:=Ot q;let⟨l⟩:=j;match l,f with
   |[t0,t1],f=>
    refine .tN x y t0 t1 ?_;simp only[W7]at f;split at f
    .rename_i e m;exact Ç ⟨e,m⟩
    .rename_i m;exact Î m
    .cases f
  .exact .jO _ _ _ U (W6 h).2
  .cases h
 |move x=>exact .AR x
 |assign x=>exact .FT x
 |pick c a b=>exact .wS c a b
 |alloc t=>exact .gL t
 |box t x=>exact .NH t x
 |build t p=>exact .NJ t p
 |buildSlice t n p=>exact .NK t n p
 |load t a=>exact .gE t a
 |store t a x=>exact .jg t a x
 |nilCheck x=>exact .FU x
 |unOp o t x=>exact .NL o t x
 |makeSlice t l c=>exact .NN t l c
 |slice t x u v w=>exact .kS t x u v w
 |field t x n=>exact .NP t x n
 |indexAddr t x i=>exact .NQ t x i
 |index t x i=>exact .NS t x i
 |extract x n=>exact .FJ x n
 |_=>simp[Dm]at h
def Ou(P:Õ)(X:Nat->Bool)(m:à->Bool)(o:av):Bool:=Dm P m o.op&&o.op.operands.all (xf X)
def afD{X:Nat->Prop}{m:à->Prop}{o:av}(op:∀a:bF,kn P a.eval o.op)(opd:∀x∈o.op.operands,mK X x)(calls:∀f args ts,o.op=Ω {callee:=cj<|aO f,args:=args,argTypes:=ts}->m f):mU P X m o where
 mV hz hb hG ht hW hl x u' hr hc:=(VO hz hW.C hb (λf=>rfl) (op _) λx hx=>xd hG ht<|opd x hx).gw hW hl hr hc #[];r a:=afd<|op a;I a u n u' hr:=afn (op a) hr;C a u f c u' hr:=let⟨as,ts,e⟩:=afi (op a) hr;calls f as ts e
theorem afE{g:Nat->Bool}{k:à->Bool}(h:Ou P g k o=É):mU P (λj=>g j=É) (λf=>k f=É) o:=by
 let⟨j,b⟩:=Ü.1 h;refine afD (λa=>afC j a) (λx a=>JN ?_) λf a x e=> ?_
 .grind [ŉ]
 .rw[e]at j;exact(W6<|show Oq P k f=É from j).1
end
section
variable{Y:fy}{g:à->Prop}{α:Type}
def Dn(m:(Ö->Â)->ē Â)(e:∀b,ì b o=m b>>=λv=>pure<|ï v) (i:∀(Y:fy) (b h:Ö->Â),nT P->Bi Y->Y.C=P.globals.size->(∀x∈o.op.operands,fu Y (b x)<|h x)->kT P fu Y (m b) (m h)) (j:∀b,fI P<|m b) (k:∀x∈o.op.operands,mK X x):mU P X g o where
 mV hz hb hG ht hW hl x u' hr hc:=by rw[e]at hr|-;exact(VJ<|i _ _ _ hz hW.C hb λx d=>xd hG ht<|k x d).gw hW hl hr hc #[]
 r a:=by rw[e];exact lZ<|j _
 I a u n u' hr:=by
  rw[e,Ä]at hr;cases d:(m a.eval).run P u with
  |ok v w=>rw[d]at hr;cases hr;exact Ç ⟨v,U⟩
  |halt z w=>rw[d]at hr;cases hr
 C a u f c u' hr:=by
  rw[e,Ä]at hr;cases d:(m a.eval).run P u with
  |ok v w=>rw[d]at hr;cases hr
  |halt z w=>rw[d]at hr;cases hr
theorem afF(a:o.op=cI t qQ)(b:∀y∈o.op.operands,mK X y):mU P X g o:=by
 refine Dn (λd=>ŝ t<|d qQ) (λd=> ?_) (λY d c _ _ _ h=> .gB ?_) (λd=> ?_) b
 .unfold ì;rw[a]
 .unfold ŝ;apply fJ (jf t);rintro e d _ c ⟨rfl,_⟩;split
  .exact .fU
  .exact .fH (.yD t ((h qQ<|by rw[a];simp[Ê]).fT c))
 .unfold ŝ;grind [gJ,jh,rD,gA]
theorem afG(c:Sys):oO P (sys c):=by
 intro u hu;refine⟨λx u' e=> ?_,λz u' e=>by cases e⟩;have:u'.heap=u.heap:=by
  simp only[sys,ã]at e;cases e;unfold World.sys;have ask:∀{γ:Type} (b:Ask γ) (w:Æ),(w.ask b).2.heap=w.heap:=by
   intro γ b
   induction b with
   |done a=>intro w;rfl
   |ask what range k ih=>
    intro w;simp only[World.ask];split
    .exact ih 0 w
    .exact ih _ _
  grind
 exact⟨λh i c e he=>h i c e (by rwa[<-this]),λi o he ho=>⟨o,by rwa[this],ho⟩⟩
theorem W9(x:Â):∀u y a,(ż x).run P u≠ĥ y a:=by
 unfold ż;cases x<;>simp only[]<;>first|exact NG|skip
 grind [FP,Vy,rA]
def afH(x:Â):fI P (ż x):=by
 refine⟨?_,NV<|W9 x⟩;unfold ż;cases x<;>simp only[]<;>first|exact F0 U|skip
 refine Jr ?_ λa=> ?_
 .unfold Instr.panicnil;refine Jr (afG _) λr=> ?_;cases r<;>first|exact F0 U|skip
  exact Jr VQ λ_=>VP _
 .split
  .exact F0 U
  .exact(wT _).1
def afI(b:o.op=.panic qQ)(c:∀y∈o.op.operands,mK X y):mU P X g o:=by refine Dn (λa=>ż<|a qQ) (λa=> ?_) (λY a d _ _ _ h=> .gB (.oN (W9 _))) (λa=>afH _) c;unfold ì;rw[b]
def afJ(c:fu Y x v)(d:fu Y z jQ):fK P fu Y (Ĳ x z) (Ĳ v jQ):=by
 cases c<;>cases d<;>first|exact .fU|exact .fH (.iH _ _)|skip
 refine fJ (V:=fu) (.fH (.mJ _)) λf a g _ e=> ?_;apply fJ (Vw e);rintro h b _ _ rfl;exact .fH (.k9 _)
def afK(x y:Â):fI P (Ĳ x y):=by unfold Ĳ;repeat' (first|(with_reducible first|exact gJ _|exact jh _|exact sN _|exact Jx _|exact Oc _ _ _|refine gA ?_ (λ_=> ?_)|refine nn _ ?_)|split|rfl)
def afL:∀{l b:List Â} {Y:fy} {x c:Â},fu Y x c->fX Y l.toArray b.toArray->fK P fu Y (l.foldlM Ĳ x) (b.foldlM Ĳ c):=by
 intro l
 induction l with
 |nil=>
  intro b Y x c d a;have:b=[]:=by have:=a.r;simp at this;exact Ā this.symm
  subst this;rw[ζ,ζ];exact .fH d
 |cons v l e=>
  intro b Y x c d a;match b,a with
  |[],a=>have:=a.r;simp at this
  |v'::b,a=>
   rw[Ζ,Ζ];refine fJ (afJ d (by have:=a.C 0 ft ft;simpa using this)) ?_;intro k y m f g;refine e g ⟨by have:=a.r;simpa using this,λj h i=> ?_⟩;have:=a.C (j+1) (by simp at h|-;omega) (by simp at i|-;omega);exact(by simpa using this:fu Y _ _).fT f
theorem Xa:∀(l:List Â) (x:Â),fI P<|l.foldlM Ĳ x
 |[],x=>by rw[ζ];exact gJ _
 |v::l,x=>by rw[Ζ];exact gA (afK _ _) λy=>Xa l y
def afM(a:Array Á)(t:Á)(h:fX Y d q):fK P fu Y (ń a t d) (ń a t q):=by
 let⟨l⟩:=d;let⟨b⟩:=q;unfold ń;match l,b,h with
 |[],_,_=>exact .fU
 |v::l,[],h=>have:=h.r;simp at this
 |v::l,v'::b,h=>
  refine afL (by have:=h.C 0 ft ft;simpa using this) ⟨by have:=h.r;simpa using this,λj e f=> ?_⟩;have:=h.C (j+1) (by simp at e|-;omega) (by simp at f|-;omega);exact(by simpa using this:fu Y _ _)
theorem afN(a:Array Á)(t:Á)(c:Array Â):fI P (ń a t c):=by let⟨l⟩:=c;unfold ń;grind [jh,Xa]
def afO{b:Array Ö}{c:Array Á}(d:o.op=Ω {callee:=ĝ .min,args:=b,argTypes:=c})(e:∀y∈o.op.operands,mK X y):mU P X g o:=by refine Dn (λa=>ń c o.type<|b.map a) (λa=> ?_) (λY a i _ _ _ h=> .gB (afM _ _<|VM b λz f=>h z<|by rw[d];simp[Ê,ô,f])) (λa=>afN _ _ _) e;unfold ì;rw[d];simp only[ù,č,Ē,pure_bind]
def afP{β:Type}{f g:Â->β->ē (ForInStep β)}(k:∀a v e b,Y.r a->fu a v e->fK P jx a (f v b) (g e b)):∀{l d:List Â} {a:fy} (b:β),Y.r a->fX a l.toArray d.toArray->fK P jx a (forIn l b f) (forIn d b g):=by
 intro l
 induction l with
 |nil=>
  intro d a b _ c;have:d=[]:=by have:=c.r;simp at this;exact Ā this.symm
  subst this;rw[φ,φ];exact .fH U
 |cons v l m=>
  intro d a b h c;match d,c with
  |[],c=>have:=c.r;simp at this
  |e::d,c=>
   rw[η,η];refine fJ (k a v e b h (by have:=c.C 0 ft ft;simpa using this)) ?_;rintro p r _ i rfl;cases r with
   |done b=>exact .fH U
   |yield b=>
    apply m b (fy.I h i);refine⟨by have:=c.r;simpa using this,λj n o=> ?_⟩;have:=c.C (j+1) (by simp at n|-;omega) (by simp at o|-;omega);exact(by simpa using this:fu a _ _).fT i
theorem Xb{β:Type}{f:Â->β->ē (ForInStep β)}(a:∀v b,fI P<|f v b):∀(l:List Â) (b:β),fI P<|forIn l b f
 |[],b=>by rw[φ];exact gJ _
 |v::l,b=>by
  rw[η];refine gA (a v b) λr=> ?_;cases r with
  |done b=>exact gJ _
  |yield b=>exact Xb a l b
def afQ(d:fu Y x v):fK P fu Y (ü x) (ü v):=by
 cases d<;>first|exact .fU|exact .fH (.k9 _)|skip
 rename_i h n c;unfold ü;apply fJ (Nz h n);intro e j l m f;simp only[<-aE];refine fJ (afP (Y:=e) ?_ _ (fy.M _) f) ?_
 .intro g a o b _ i;cases i<;>first|exact .fU|skip
  rename_i k n;cases k<;>first|exact .fU|exact .fH U
 .rintro g s _ _ rfl;exact .fH (.k9 _)
theorem afR(x:Â):fI P (ü x):=by
 unfold ü;split
 .exact gJ _
 .refine gA (N5 _ _) λa=> ?_;simp only[<-aE];grind [gA,Xb,gJ,jh]
 .exact jh _
theorem afS(i:o.op=aN t T qQ)(k:P.underlying t=À (dh e))(l:P.underlying T=À ę)(m:P.underlying e=À (Β .u8))(n:∀y∈o.op.operands,mK X y):mU P X g o:=by
 refine Dn (λa=>Œ t T<|a qQ) (λa=> ?_) (λY a f _ _ _ h=> .gB ?_) (λa=> ?_) n
 .unfold ì;rw[i]
 .unfold Œ;refine fJ (jf t) ?_;rintro z B _ p ⟨rfl,b⟩;rw[k]at b;injection b with b;subst b;refine fJ (jf T) ?_;rintro q C _ r ⟨rfl,c⟩;rw[l]at c;injection c with c;subst c;have j:=((h qQ<|by rw[i];simp[Ê]).fT p).fT r;have u:fK P fu q (ø e>>=λy=>match y with|Β .u8=>ü (a qQ)|Β .i32=>aF (a qQ)|_=>stuck "Convert: a slice of what to string?") (ø e>>=λy=>match y with|Β .u8=>ü (f qQ)|Β .i32=>aF (f qQ)|_=>stuck "Convert: a slice of what to string?"):=by
   apply fJ (jf e);rintro D E _ w ⟨rfl,h⟩;rw[m]at h;injection h with h;subst h;exact afQ<|j.fT w
  generalize a qQ=v at*;generalize f qQ=v' at*;cases j<;>first|exact u|exact .fU|exact .fH (.k9 _)|skip
 .unfold Œ;grind [wU,afR,WK,gJ]
end
section
variable{Y:fy}{b:à->Prop}{α:Type}
def Xc(i:∀(Y:fy) (a g:bF),nT P->Bi Y->Y.C=P.globals.size->(∀x∈o.op.operands,fu Y (a.eval x)<|g.eval x)->kT P pn Y (ì a.eval o) (ì g.eval o)) (j:∀a:bF,fI P<|ì a.eval o) (h:∀(a:bF) (u:Æ) (n:Ο) (d:Æ),(ì a.eval o).run P u=ĥ n d->∃v,n=ï v) (k:∀x∈o.op.operands,mK X x):mU P X b o where
 mV hz hb hG ht hW hl x d hr hc:=(i _ ⟨_,[]⟩ ⟨_,[]⟩ hz hW.C hb λx e=>xd hG ht<|k x e).gw hW hl hr hc #[];r a:=j a;I a u n d hr:=Ç<|h a u n d hr;C a u f c d hr:=by let⟨v,e⟩:=h a u _ d hr;cases e
def afT{e:Array Â->ē Â}{k:Array Á}(g:o.op=Ω {callee:=cj<|aO F,args:=#[qQ],argTypes:=k})(l:P.funcs[F]?=À s)(m:(s.name== "runtime.NumGoroutine")=Ã)(q:s.body.isNone=É)(r:Extern.findNext s=ë)(t:Extern.find s=À e) (B:∀(Y:fy) (v i:Â),fu Y v i->fK P fu Y (e #[v]) (e #[i])) (C:∀v,fI P<|e #[v]) (D:∀y∈o.op.operands,mK X y):mU P X b o:=by
 have c:∀a:bF,ì a.eval o=ĵ F #[a.eval qQ]:=by intro a;unfold ì;rw[g];simp only[ù,å,İ,č,pure_bind,Ď,ď,Ø,â,ä]
 have j:∀(v:Â) (u:Æ),(ĵ F #[v]).run P u=(mark (.extern F)>>=λ_=>e #[v]>>=λy=>pure (ï y):ē Ο).run P u:=by intro v u;unfold ĵ;simp_all
 refine Xc (λY a w _ _ _ h=> ?_) (λa=> ?_) (λa u n E d=> ?_) D
 .rw[c,c];unfold ĵ;refine .gB (fJ rv ?_);rintro I p J w ⟨z,G⟩;rw[z,G];simp only[l,m,q,r,t,Å,if_false,if_true];apply fJ (V:=jx) (.C8 (Î ⟨F,U⟩) (.fH U));exact λK _ _ H _=>mT<|B _ _ _<|((h qQ<|by rw[g];simp[Ê,ô]).fT w).fT H
 .rw[c];exact Jt (j _)<|gA (F1 _) λ_=>lZ<|C _
 .rw[c,j,Ä]at d;simp only[mark,ã,È]at d;have:ã P (e #[a.eval qQ]>>=λy=>pure (ï y):ē Ο) u=ĥ n E:=d;rw[Ä]at this;cases h:(e #[a.eval qQ]).run P u with
  |ok v w=>rw[h]at this;cases this;exact⟨v,U⟩
  |halt z w=>rw[h]at this;cases this
def afU(x a:Â)(h:fu Y x a):fK P fu Y (Ŀ #[x]) (Ŀ #[a]):=.fH h
def afV(x:Â):fI P (Ŀ #[x]):=gJ _
def Xd:∀(n t:Nat) {c a:Array Â},fX Y c a->fX Y (ņ n t c) (ņ n t a)
 |0,_,_,_,h=>h
 |n+1,t,_,_,h=>Xd n (t/256)<|h.Vk<|.iH _ _
def afW(b:Array Á)(t:Á)(v c:Â)(h:fu Y v c):fK P fu Y (Ċ b #[t] #[v]) (Ċ b #[t] #[c]):=by
 cases h<;>first|exact .fU|skip
 rename_i k n;cases k<;>first|exact .fU|skip
 refine fJ (jf t) ?_;rintro j d _ l ⟨rfl,_⟩;cases d<;>first|exact .fU|skip
 rename_i e _;simp only[];split
 .exact .oN (wN<|rA _)
 .apply sK (.AL λn=> .fH U);intro m f _;apply sK (ND _);intro o _ _;apply sK (.AL λn=> .fH U);intro p g _;apply fJ (AP e<|Xd f g<|fX.N _);exact λq a r _ i=> .fH (.kS i _ _)
def afX(a:Array Á)(t:Á)(v:Â):fI P (Ċ a #[t] #[v]):=by
 cases v<;>first|exact jh _|skip
 rename_i k n;cases k<;>first|exact jh _|skip
 refine gA (rD t) λd=> ?_;cases d<;>first|exact jh _|skip
 repeat' (first|(with_reducible first|exact gJ _|exact jh _|exact sN _|exact F3 _ _|exact rD _|exact wT _|exact N6 _|refine gA ?_ λ_=> ?_)|split)
def afY(f:Array Á)(t:Á)(j:fu Y x v):kT P fu Y (ė f t #[x]) (ė f t #[v]):=by
 cases j<;>first|exact .gB .fU|exact .gB (.fH .lW)|skip
 rename_i a g h n c;change kT P fu Y (ite _ _ _) (ite _ _ _);by_cases i:c≠0
 .simp only[if_pos i];exact .gB (.fH (.jV h))
 .simp only[if_neg i];apply lq (Jn h.1);rintro l b m o ⟨rfl,rfl⟩;simp only[Option.isSome_none,Å,if_false];refine lq (V0:=λ_ a g=>a=g) ?_ ?_
  .unfold Ū;refine fJ (jf t) ?_;rintro k d _ p ⟨rfl,_⟩;cases d<;>first|exact .fU|exact .fH U
  .rintro k e _ _ rfl;exact .Dc trivial
def afZ(b:Array Á)(t:Á)(x:Â):fI P (ė b t #[x]):=by
 cases x<;>first|exact jh _|skip
 rename_i p n c;cases p with
 |none=>exact gJ _
 |some a=>
  change fI P (ite _ _ _);repeat' (first|(with_reducible first|exact gJ _|exact jh _|exact Ju _|exact Jy _|refine gA ?_ (λ_=> ?_)|refine Js _ ?_)|split|(intro _ _ h;cases h;done))
def af0{c:Array Á}(d:o.op=Ω {callee:=ĝ bl,args:=#[qQ],argTypes:=c})(e:∀y∈o.op.operands,mK X y):mU P X b o:=by refine Dn (λa=>ė c o.type #[a qQ]) (λa=> ?_) (λY a f _ _ _ h=>afY _ _<|h qQ<|by rw[d];simp[Ê,ô]) (λa=>afZ _ _ _) e;unfold ì;rw[d];simp only[ù,č,Ē,pure_bind,Ø,â,ä]
end
section
variable{Y:fy}{f:Nat->Prop}{g:à->Prop}{α:Type}
def Xe(h:ic Y a p):fK P ic Y (Ž a) (Ž p):=by unfold Ž;apply fJ (Jn h.1);rintro c x d b ⟨rfl,rfl⟩;exact .fH (h.r b)
def af2{r:Nat}(h:Y r i):fK P (λ_ c q=>∃n a,c=À n/\q=À a/\n<=a) Y (dx r) (dx i):=.vu h λ_ n a c=> .fH ⟨n,a,U,U,c.elim (λq=>by omega) λq=>q.1⟩
def Xf(h:ic Y a p)(t:Á)(n:Nat):fK P (λ_ b e=>b=É->e=É) Y (Ą a t n) (Ą p t n):=by unfold Ą;apply fJ rv;rintro i b j c ⟨d,f⟩;rw[d,f];refine .vu (c.1 _ _ h.1) λe m k g=> ?_;rw[h.2.1];exact .fH λq=>VE (ο<|g.elim (λq=>by omega) λq=>q.1) q
def af3(a:Ú):fI P (Ž a):=by unfold Ž;repeat' (first|(with_reducible first|exact gJ _|exact qG|exact tP _|exact Jy _|refine gA ?_ (λ_=> ?_)|refine nn _ ?_)|split|rfl)
theorem af4(r:Nat):fI P (dx r):=by unfold dx;grind [gJ,tP,VX,gA]
theorem Xg(a:Ú)(t:Á)(n:Nat):fI P (Ą a t n):=by unfold Ą;grind [gJ,qG,tP,gA]
theorem af5(l:P.underlying e=À (ð t))(m:P.underlying T=À đ)(o:fu Y x v):kT P fu Y (ö e T x) (ö e T v):=by
 unfold ö;refine lq (jf e) ?_;rintro z B _ p ⟨rfl,f⟩;rw[l]at f;injection f with f;subst f;refine lq (jf T) ?_;rintro C D _ q ⟨rfl,g⟩;rw[m]at g;injection g with g;subst g;have r:=(o.fT p).fT q;cases r<;>first|exact .gB .fU|exact .gB (.fH .lW)|skip
 rename_i a E h;refine lq (Xe h) ?_;intro F b j G i;refine lq (af2 i.1) ?_;rintro H c I u ⟨w,J,rfl,rfl,K⟩;refine lq (nj t) ?_;rintro L n _ y ⟨rfl,_⟩;rw[i.2.1,i.2.2];simp only[];by_cases k:(decide (n=0)||(decide (j.off≥w)&&j.spot.isNone))=É
 .rw[if_pos k];exact .Dc trivial
 .rw[if_neg k,if_neg]
  .exact .gB (.fH (.jV ((i.r u).r y)))
  .grind
theorem af6{d:Á}(l:P.underlying T=À đ)(o:P.underlying d=À (ð t))(q:fu Y x z):kT P fu Y (ö T d x) (ö T d z):=by
 unfold ö;refine lq (jf T) ?_;rintro F G _ r ⟨rfl,f⟩;rw[l]at f;injection f with f;subst f;refine lq (jf d) ?_;rintro H I _ w ⟨rfl,g⟩;rw[o]at g;injection g with g;subst g;have y:=(q.fT r).fT w;cases y<;>first|exact .gB .fU|exact .gB (.fH .lW)|skip
 rename_i a J h;refine lq (Xe h) ?_;intro K b B L i;refine lq (nj t) ?_;rintro M n _ j ⟨rfl,_⟩;refine lq (Xf (i.r j) t 1) ?_;rintro C v N D O;have Q:kT P fu C (pure<|Þ<|À b) (pure<|Þ<|À B):=.gB (.fH (.jV ((i.r j).r D)));by_cases E:(decide (n=0)||v)=É
 .grind
 .rw[if_neg E];refine .Dd λu x S c=> ?_;rw[Ä]at c;simp only[cu,ã,È]at c;cases k:u.shape? b.block with
  |none=>rw[k]at c;cases c
  |some p=>
   let⟨e,m⟩:=p;rw[k]at c;simp only[Ä,ă,È]at c;split at c
   .cases c
   .cases c;exact⟨u.heap.size,.view b t,ß _,ft,trivial⟩
theorem af7(h:(P.underlying e=À (ð t)/\P.underlying T=À đ)\/(P.underlying e=À đ/\P.underlying T=À (ð t)))(x:Â):fI P (ö e T x):=by
 unfold ö;rcases h with⟨b,c⟩|⟨b,c⟩<;>refine wU b<|wU c ?_;all_goals
  cases x<;>first|exact jh _|skip
  rename_i p;cases p with
  |none=>exact gJ _
  |some a=>
   repeat' (first|(with_reducible first|exact af3 _|exact af4 _|exact Xg _ _ _|exact gJ _|exact jh _|exact qG|exact tP _|exact tS _|refine gA ?_ (λ_=> ?_)|refine nn _ ?_|refine Js _ ?_)|split|(intro _ _ h;cases h;done)|rfl)
theorem Xh(b:o.op=aN e T qQ)(h:(P.underlying e=À (ð t)/\P.underlying T=À đ)\/(P.underlying e=À đ/\P.underlying T=À (ð t)))(c:∀y∈o.op.operands,mK X y):mU P X g o:=by
 refine Dn (λa=>Œ e T<|a qQ) (λa=> ?_) (λY a i _ _ _ f=> ?_) (λa=> ?_) c
 .unfold ì;rw[b]
 .unfold Œ;apply lq (jf e);rintro j k _ a ⟨rfl,l⟩;apply lq (jf T);rintro m n _ i ⟨rfl,p⟩;have q:=((f qQ<|by rw[b];simp[Ê]).fT a).fT i;grind [af5,af6]
 .unfold Œ;grind [af7,wU]
theorem af8(a:Ú)(n:Nat):oO P (eX a n):=by
 intro u f;refine⟨λx b e=> ?_,λz b e=>by cases e⟩;cases e;unfold Ė;split
 .exact Kd.gd u
 .refine VR (λo d=> ?_) λo c e h=> ?_
  .cases o<;>first|exact d.elim|trivial
  .grind
def af9(a:Ú)(n:Nat):fI P (eX a n):=by
 refine⟨af8 a n,λu T D=>⟨0,u.freeze a n,λx b e=> ?_⟩⟩;have c:∀T D,(World.tp u T D).freeze a n=World.tp (u.freeze a n) T D:=by intro T D;unfold Ė;split<;>rfl
 simp_all
def Xi:∀(n:Nat) {Y:fy} {a c:Ú} (d:ByteArray),ic Y a c->fK P jx Y (ĕ a d n) (ĕ c d n)
 |0,_,_,_,_,_=> .fH U
 |n+1,Y,a,c,d,h=>by
  unfold ĕ;refine fJ (Jj h) ?_;intro g v i e f;cases f<;>first|exact .fU|skip
  rename_i k b;cases k<;>first|exact .fU|exact Xi n _<|(h.r e).C 1
def Xj:∀(n:Nat) (a:Ú) (b:ByteArray),fI P<|ĕ a b n
 |0,_,_=>gJ _
 |n+1,a,b=>by
  unfold ĕ;refine gA (F2 _ _) λv=> ?_;split
  .exact Xj n _ _
  .exact jh _
def jI(pt:Á)(a:Ú)(n:Nat):ē ByteArray:=do
 if<-Ą a (<-Ū pt) n then ĕ a .empty n else unsupported (ť "String: not so many bytes at ptr")
def aga(pt:Á)(h:ic Y a p)(n:Nat):fK P jx Y (jI pt a n) (jI pt p n):=by
 unfold jI;refine fJ (V:=jx) ?_ ?_
 .unfold Ū;refine fJ (jf pt) ?_;rintro f d _ c ⟨rfl,_⟩;cases d<;>first|exact .fU|exact .fH U
 .rintro i e _ d rfl;apply fJ (Xf (h.r d) e n);rintro f b j c g;cases b with
  |true=>rw[g U];exact Xi n _<|(h.r d).r c
  |false=>exact .fU
def agb[AJ P](F:jm Y f u w)(h:ic Y a p){pt:Á}(G:∀u l j,(Ū pt).run P u=ĥ l j->∃k,P.underlying l=À (Β k))(g:(jI pt a<|n+1).run P u=ĥ B W):¬f p.block:=by
 intro H;let⟨c,L,e,M,N,r,O,Q,t,_⟩:=F.r _ _ h.1;let⟨_,_,_,_,o⟩:=t H;unfold jI at g;rw[Ä]at g;cases i:(Ū pt).run P u with
 |halt z x=>rw[i]at g;cases g
 |ok l j=>
  have I:j=u:=by
   unfold Ū at i;rw[Ä]at i;unfold ø at i;rw[Ä,ă]at i;simp only[È]at i;cases D:P.underlying pt with
   |none=>rw[D]at i;cases i
   |some d=>
    rw[D]at i;cases d<;>cases i<;>rfl
  subst I;rw[i]at g;simp only[È]at g;rw[Ä]at g;have y:∃b,(Ą a l<|n+1).run P j=ĥ b j:=by unfold Ą;rw[Ä,ă];simp only[È];rw[Ä];simp only[cu,ã,È];split<;>exact⟨_,U⟩
  rcases o with o|o;rotate_left
  .let⟨k,J⟩:=G _ _ _ i;have K:(Ą a l<|n+1).run P j=ĥ Ã j:=by
    unfold Ą;rw[Ä,ă];simp only[È];rw[Ä];simp only[cu,ã,È];have t:j.shape? a.block=À (e,c.size):=by simp[Θ,r]
    rw[t];simp only[Nat.div_eq_of_lt<|AJ.lt e c.size o,ad6 J];rfl
   rw[K]at g;cases g
  let⟨b,y⟩:=y;rw[y]at g;simp only[È]at g;split at g
  .unfold ĕ at g;rw[Ä]at g;simp only[aX,ã]at g;cases C:j.cell? a with
   |none=>
    rw[C]at g;simp only[ŋ,r]at g;cases g
   |some v=>
    rw[C]at g;simp only[È]at g;have q:=C;rw[AO r]at q;cases E:a.spot with
    |some x=>rw[E]at q;cases q
    |none=>
     rw[E]at q;have:=o _ _ (by simpa using q);cases v<;>first|(cases g;done)|skip
     rename_i k m;cases k<;>first|(cases g;done)|cases this
  .cases g
end
section
variable{Y:fy}{d:Nat->Prop}{f:à->Prop}{α:Type}
def yO(a:Á)(p:Option Ú)(n:Int):ē Â:=ê #[a] a #[Þ p,Ć Ŋ n]
def yP(pt a t:Á)(p:Option Ú)(k:ú)(n:Int):ê #[pt,a] t #[Þ p,Ć k n]=yO pt p n:=by cases p<;>rfl
section
variable{pt:Á}{p:Option Ú}
def Xk(a:h<0):∃c,∃k:PUnit->ē Â,yO pt p h=(runtimePanic c>>=k):=⟨_,_,if_pos a⟩
def Xl(a:¬h<0)(b:h>Ŋ.max):∃c,yO pt p h=unsupported (ť c):=⟨_,(if_neg a).trans<|if_pos b⟩
def Ov(a:¬h<0)(b:¬h>Ŋ.max)(c:h=0):yO pt p h=pure (ħ .empty):=by cases p<;>exact(if_neg a).trans<|(if_neg b).trans<|if_pos c
def agc(a:¬h<0)(b:¬h>Ŋ.max)(d:¬h=0):∃c,yO pt ë h=runtimePanic c:=⟨_,(if_neg a).trans<|(if_neg b).trans<|if_neg d⟩
end
def Xm(pt:Á)(a:Ú)(c:¬h<0)(d:¬h>Ŋ.max)(e:¬h=0): yO pt (À a) h=(jI pt a h.toNat>>=λs=>eX a h.toNat>>=λ_=>pure<|ħ s):=by refine((if_neg c).trans<|(if_neg d).trans<|if_neg e).trans ?_;unfold jI;show _=ç (ç _ _) _;rw[ř];congr 1;funext et;show ç _ _=ç (ç _ _) _;rw[ř];congr 1;funext b;cases b<;>rfl
def agd(pt:Á)(p:Option Ú)(n:Int):fI P (yO pt p n):=by cases p<;>show fI P (if n<0 then _ else _)<;>repeat' (first|(with_reducible first|exact Xg _ _ _|exact Xj _ _ _|exact af9 _ _|exact gJ _|exact Ju _|exact wT _|refine gA ?_ (λ_=> ?_)|refine nn _ ?_)|split|rfl)
theorem agf(_hW:jm Y d u w):∀(n:Nat) {a i:Ú} {j s:ByteArray},ic Y a i->a.spot=ë->(ĕ a j n).run P u=ĥ s W->∀c e f,u.heap[a.block]?=À (Č c e f)->a.off<=c.size->a.off+n<=c.size:=by
 intro n
 induction n with
 |zero=>intro a i j s _ _ _ c e f _ r;exact r
 |succ n t=>
  intro a i j s h p b c e f l _;unfold ĕ at b;rw[Ä]at b;simp only[aX,ã]at b;cases o:u.cell? a with
  |none=>
   rw[o]at b;simp only[ŋ,l]at b;cases b
  |some v=>
   rw[o]at b;simp only[È]at b;have q:=o;rw[AO l,p]at q;have y:=(Ë.1<|by simpa using q).1;cases v<;>first|(cases b;done)|skip
   rename_i k m;cases k<;>first|(cases b;done)|skip
   have g:a.add 1={a with off:=a.off+1}:=by unfold Addr.add;grind
   have x:=h.C 1;have:=t x (by rwa[g]) b c e f (by rwa[g]) (by rw[g];simp only;omega);rw[g]at this;simp only at this;omega
end
section
variable{Y:fy}{g:Nat->Prop}{r:à->Prop}{α:Type}
def Ow(pt a t:Á)(p:Option Ú)(y:Â):ê #[pt,a] t #[Þ p,y]=(dB y>>=λn=>yO pt p n):=by cases p<;>rfl
def Xn:∀(n:Nat) {a:Ú} {f s:ByteArray} {u c:Æ},(ĕ a f n).run P u=ĥ s c->c=u
 |0,_,_,_,_,_,h=>by cases h;rfl
 |n+1,a,f,s,u,c,h=>by
  unfold ĕ at h;rw[Ä]at h;have g:∀v b,(aX a).run P u=ĥ v b->b=u:=by
   intro v b e;simp only[aX,ã]at e;split at e
   .cases e;rfl
   .split at e<;>cases e;rfl
  cases d:(aX a).run P u with
  |halt z w=>rw[d]at h;cases h
  |ok v b=>
   have:=g v b d;subst this;rw[d]at h;simp only[È]at h;cases v<;>first|(cases h;done)|skip
   rename_i k m;cases k<;>first|(cases h;done)|exact Xn n h
def agh{pt:Á}(c:(jI pt a n).run P u=ĥ B w):w=u/\(ĕ a .empty n).run P u=ĥ B u:=by
 unfold jI at c;rw[Ä]at c;cases e:(Ū pt).run P u with
 |halt z x=>rw[e]at c;cases c
 |ok z x=>
  have f:x=u:=by
   unfold Ū at e;rw[Ä]at e;unfold ø at e;rw[Ä,ă]at e;simp only[È]at e;cases b:P.underlying pt with
   |none=>rw[b]at e;cases e
   |some d=>
    rw[b]at e;cases d<;>cases e<;>rfl
  subst f;rw[e]at c;simp only[È]at c;rw[Ä]at c;have d:∃b,(Ą a z n).run P x=ĥ b x:=by unfold Ą;rw[Ä,ă];simp only[È];rw[Ä];simp only[cu,ã,È];split<;>exact⟨_,U⟩
  let⟨b,d⟩:=d;rw[d]at c;simp only[È]at c;split at c
  .have:=Xn n c;subst this;exact⟨U,c⟩
  .cases c
def JQ(P:Õ)(t:Á):Bool:=match P.underlying t with
 |some (ð e)=>(match P.underlying e with|some (Β _)=>É|_=>Ã)
 |_=>Ã
theorem agi{P:Õ}{pt:Á}(h:JQ P pt=É):∀u b c,(Ū pt).run P u=ĥ b c->∃k,P.underlying b=À (Β k):=by
 intro u b c a;unfold Ū ø at a;rw[Ä,Ä,ă]at a;simp only[È]at a;unfold JQ at h;split at h
 .rename_i e d;rw[d]at a;cases a;grind
 .cases h
def agj[AJ P]{y:Ö}{pt:Á}(W:o.op=Ω {callee:=ĝ cV,args:=#[qQ,y],argTypes:=#[pt,T]})(hpt:JQ P pt=É)(JR:∀z∈o.op.operands,mK X z):mU P X r o:=by
 have he:∀M:Ö->Â,ì M o=(ê #[pt,T] o.type #[M qQ,M y]>>=λv=>pure<|ï v):=by intro M;unfold ì;rw[W];simp only[ù,č,Ē,pure_bind,Ø,â,ä]
 have N:∀v w:Â,fI P (ê #[pt,T] o.type #[v,w]):=by
  intro v w;cases v<;>first|exact jh _|skip
  rw[Ow];exact gA (F4 _) λn=>agd _ _ _
 have hk:∀(a:bF) (u:Æ) (n:Ο) (C:Æ),(ì a.eval o).run P u=ĥ n C->∃v,n=ï v:=by
  intro a u n C b;rw[he,Ä]at b;cases O:(ê #[pt,T] o.type #[a.eval qQ,a.eval y]).run P u with
  |ok v w=>rw[O]at b;cases b;exact⟨v,U⟩
  |halt z w=>rw[O]at b;cases b
 refine⟨?_,λa=>by rw[he];exact lZ<|N _ _,λa u n C b=>Ç<|hk a u n C b,λa u f c C b=>by let⟨v,e⟩:=hk a u _ C b;cases e⟩;intro Y g t t' u w hz hb hG ht J hl z C b hc;have hx:=xd hG ht (JR qQ<|by rw[W];simp[Ê,ô]);have Q:=xd hG ht (JR y<|by rw[W];simp[Ê,ô]);rw[he]at b|-;generalize å ⟨t,[]⟩ qQ=v at hx b;generalize å ⟨t',[]⟩ qQ=v' at hx|-;generalize å ⟨t,[]⟩ y=l at Q b;generalize å ⟨t',[]⟩ y=l' at Q|-;have E:fK P fu Y (ê #[pt,T] o.type #[v,l]) (ê #[pt,T] o.type #[v',l'])->∃(K:fy) (x':Ο) (w':Æ) (S:Array ý),Y.r K/\(∀i j,K i j->Y i j\/(u.heap.size<=i/\w.heap.size<=j))/\(ê #[pt,T] o.type #[v',l']>>=λv=>pure (ï v):ē Ο).runT P w #[]=(ĥ x' w',#[]++S)/\pn K z x'/\jm K g C w'/\nS Y g w w'/\(∀e∈S,AN K g e)/\u.heap.size<=C.heap.size:= λh=>(mT h).gw J hl b #[];cases hx with
 |lW=>
  apply E;rw[Ow,Ow];apply fJ (NB Q);rintro Xo n _ _ rfl;by_cases B:n<0
  .let⟨c,k,q⟩:=Xk (pt:=pt) (p:=ë) B;rw[q];exact .oN (wN<|rA _)
  .by_cases d:n>Ŋ.max
   .let⟨c,q⟩:=Xl (pt:=pt) (p:=ë) B d;rw[q];exact .fU
   .by_cases D:n=0
    .rw[Ov B d D];exact .fH (.k9 _)
    .let⟨c,q⟩:=agc (pt:=pt) B d D;rw[q];apply Jm
 |jV F=>
  rename_i a a';cases Q with
  |iH k n=>
   by_cases B:n<0
   .apply E;let⟨c,k,q⟩:=Xk (pt:=pt) (p:=À a) B;rw[yP,yP,q];exact .oN (wN<|rA _)
   .by_cases d:n>Ŋ.max
    .apply E;let⟨c,q⟩:=Xl (pt:=pt) (p:=À a) B d;rw[yP,yP,q];exact .fU
    .by_cases D:n=0
     .apply E;rw[yP,yP,Ov B d D,Ov B d D];exact .fH (.k9 _)
     .rw[yP,Xm pt a B d D]at b;rw[yP,Xm pt a' B d D];obtain⟨m,O⟩:∃m,n.toNat=m+1:=⟨n.toNat-1,Z⟩;rw[O]at b|-;cases L:(jI pt a<|m+1).run P u with
      |halt z w=>
       rw[Ä,Ä,L]at b;cases b
      |ok s u1=>
       obtain⟨rfl,Xp⟩:=agh L;rw[Ä,Ä,L]at b;have AZ:=b;cases AZ;let⟨Xo,s',w1,es,k1,k2,k3,k4,k5,G,k7,k8⟩:=(aga pt F<|m+1).gw J hl L #[];have S:=k4;subst S;let⟨c,c',e,fr,wO,V,hw,sR,_⟩:=J.r _ _ F.1;have Xq:a.spot=ë/\a.off<c.size:=by
        have H:=Xp;unfold ĕ at H;rw[Ä]at H;simp only[aX,ã]at H;cases I:u1.cell? a with
        |none=>
         rw[I]at H;simp only[ŋ,V]at H;cases H
        |some v=>
         rw[AO V]at I;cases oR:a.spot with
         |some qQ=>rw[oR]at I;cases I
         |none=>rw[oR]at I;exact⟨U,(Ë.1<|by simpa using I).1⟩
       have fits:∀c e fr,u1.heap[a.block]?=À (Č c e fr)->a.off+(m+1)<=c.size:=by intro c2 e2 qH d;rw[V]at d;injection d with d;injection d with q1 q2 q3;subst q1;exact agf J (m+1) F Xq.1 Xp c e fr V<|Nat.le_of_lt Xq.2
       refine⟨Xo,ï<|ħ s,w1.freeze a'<|m+1,es,k1,k2,?_,.nU (.k9 s),k5.ads (F.r k1) (m+1) fits,?_,k7,by rw[Jh];exact ß _⟩
       .show é P (ç (ç _ _) _) w #[]=_;rw[Ñ,Ñ,k3];rfl
       .refine⟨by rw[Jh];exact G.r,ado.trans G.I,adp.trans G.M,Nw.trans G.S,λj hj N=> ?_,λj hs hj=> ?_⟩
        .rw[Ji (λe=>N a.block<|by rw[<-e];exact F.1)];exact G.C j hj N
        .rw[Ji (λe=>(agb J F (agi hpt) L)<|by rwa[e])];exact G.N j hs hj
  |_=>exact E .fU
 |_=>exact E .fU
end
section
variable{Y:fy}{g:Nat->Prop}{i:à->Prop}{α:Type}
theorem agk(a:Ú):fI P (bm a):=by unfold bm;grind [gJ,tP,N0,gA]
theorem agl(a b:Ú):fI P (cJ a b):=by unfold cJ;grind [agk,gJ,tP,gA]
def agm(a b:Ú):fI P (Ŭ a b):=by unfold Ŭ;repeat' (first|(with_reducible first|exact agl _ _|exact gJ _|exact sN _|exact N0 _|exact Wi _|refine gA ?_ (λ_=> ?_)|refine nn _ ?_)|split|rfl)
def Xr(h:P.underlying t=À (ð e))(x y:Â):fI P (ó t x y):=by unfold ó ā Λ;refine wU h ?_;repeat' (first|(with_reducible first|exact agm _ _|exact gJ _|exact jh _|exact sN _|exact tS _|refine gA ?_ λ_=> ?_)|contradiction|split)
def agn{a:ġ}(b:a=aA\/a=aL)(h:P.underlying t=À (ð e))(x y:Â):fI P (Ũ a t x y):=by
 have c:=Xr h x y;rcases b with rfl|rfl;all_goals
  unfold Ũ;repeat' (first|(with_reducible first|exact Xr h _ _|exact gJ _|exact jh _|exact N8 _ _ _ _|exact WC _ _ _ _ _ _|exact WE _ _ _|exact Oc _ _ _|refine gA ?_ λ_=> ?_)|contradiction|split)
def yR(u:Æ)(r:Nat):Prop:=∃c e a,u.heap[r]?=À (Č c e a)/\a.2<=c.size
def JS(a:Ú)(u:Æ)(b:Array ý):(eP a).runT P u b=(ĥ (u.frozen? a) u,b):=rfl
def JU{r:Nat}(h:u.heap[r]?=À (Č d e xJ))(a:Array ý):(cu r).runT P u a=(ĥ (À (e,d.size)) u,a):=by simp only[cu,é,Θ,h]
def Xs(h:yR u a.block)(b:Array ý):(bm a).runT P u b=(ĥ (u.frozen? a) u,b):=by
 let⟨c,e,f,d,g⟩:=h;unfold bm;show é P (ç _ _) u b=_;rw[Ñ,JS];cases i:u.frozen? a with
 |true=>rfl
 |false=>
  simp only[Å,if_false];show é P (ç _ _) u b=_;rw[Ñ,JU d];simp only[];rw[JS];have:u.frozen? {block:=a.block,off:=c.size}=Ã:=by simp only[Ĉ,d];simp;omega
  rw[this]
def Xt(f:u.heap[a.block]?=À (Č d e xJ))(g:xJ.2<=d.size)(b:u.frozen? a=É):d.size≠0:=by simp only[Ĉ,f]at b;simp at b;omega
def agp(i:yR u a.block)(j:yR u p.block)(k:(u.frozen? a&&u.frozen? p)=Ã)(g:Array ý):(cJ a p).runT P u g=(ĥ Ã u,g):=by
 have q:=i;have r:=j;let⟨c,e,w,l,s⟩:=q;let⟨d,f,x,m,t⟩:=r;unfold cJ;show é P (ç _ _) u g=_;rw[Ñ,Xs i];simp only[];show é P (ç _ _) u g=_;rw[Ñ,Xs j];simp only[];show é P (ç (ç _ _) _) u g=_;rw[Ñ,Ñ,JU l];simp only[];show é P (ç (ç _ _) _) u g=_;rw[Ñ,Ñ,JU m];simp only[];congr 2;cases o:u.frozen? a with
 |true=>
  rw[o]at k;have h:u.frozen? p=Ã:=by simpa using k
  have:=Xt l s o;simp only[h];cases v:c.size with
  |zero=>exact absurd v this
  |succ n=>rfl
 |false=>
  cases h:u.frozen? p with
  |true=>
   have:=Xt m t h;cases v:d.size with
   |zero=>exact absurd v this
   |succ n=>rfl
  |false=>rfl
def Xu(h:yR u a.block)(b:Array ý):(aY a).runT P u b=(ĥ () u,b):=by let⟨c,e,f,d,g⟩:=h;unfold aY di;show é P (ç (ç _ _) _) u b=_;rw[Ñ,Ñ,JU d];rfl
def Xv(e:yR u a.block)(f:yR u p.block)(c:Array ý):(Ŭ a p).runT P u c= if(a.block==p.block)=É then(ĥ (a==p) u,c)else if(u.frozen? a&&u.frozen? p)=É then(bV (ŀ .addressObserved) u,c)else(ĥ Ã u,c):=by
 unfold Ŭ;by_cases h:(a.block==p.block)=É
 .simp_all
 .rw[if_neg h,if_neg h];show é P (ç _ _) u c=_;rw[Ñ,JS];simp only[];show é P (ç _ _) u c=_;rw[Ñ,JS];simp only[];by_cases d:(u.frozen? a&&u.frozen? p)=É
  .simp_all
  .rw[if_neg d,if_neg d];show é P (ç _ _) u c=_;rw[Ñ,Xu e];simp only[];show é P (ç _ _) u c=_;rw[Ñ,Xu f];simp only[];show é P (ç _ _) u c=_;rw[Ñ,agp e f (by simpa using d)];rfl
end
section
variable{Y:fy}{g:Nat->Prop}{j:à->Prop}
def agq{d:dG}(h:P.underlying t=À d)(u:Æ)(a:Array ý):(ø t).runT P u a=(ĥ d u,a):=by unfold ø;simp_all
theorem agr(h:P.info? t=À zJ)(u:Æ)(a:Array ý):(ay t).runT P u a=(ĥ zJ.size u,a):=by
 unfold ay;show é P (ç _ _) u a=_;rw[Ñ];have:(Δ t).runT P u a=(ĥ zJ u,a):=by unfold Δ;simp_all
 rw[this];rfl
theorem Xw(h:P.underlying t=À (ð e))(d:P.info? e=À zJ)(f:zJ.size≠0)(a b:Ú)(u:Æ)(c:Array ý):(ó t (Þ<|À a)<|Þ<|À b).runT P u c=(Ŭ a b).runT P u c:=by unfold ó ā Λ;show é P (ç _ _) u c=_;rw[Ñ,agq h];simp only[];show é P (ç _ _) u c=_;grind [Ñ,agr]
def iB(a:ġ)(r:Bool):Bool:=if a=aA then r else !r
def Xx{d:ġ}(k:d=aA\/d=aL)(h:P.underlying t=À (ð e))(g:P.info? e=À zJ)(j:zJ.size≠0)(x y:Ö)(a b:Ú)(u:Æ)(c:Array ý): ((ŷ d t x y (Þ<|À a) (Þ<|À b)>>=λ_=>Ũ d t (Þ<|À a)<|Þ<|À b)>>=λv=>pure (ï v):ē Ο).runT P u c= match(Ŭ a b).runT P u c with
 |(ĥ r u',f)=>(ĥ (ï<|Ľ<|iB d r) u',f)
 |(bV z u',f)=>(bV z u',f):=by
 rcases k with rfl|rfl
 .show é P (ç (ç (ó t (Þ<|À a)<|Þ<|À b) λr=>aI<|Ľ r) λv=>aI<|ï v) u c=_;rw[Ñ,Ñ,Xw h g j];cases(Ŭ a b).runT P u c with
  |mk r f=>cases r<;>rfl
 .show é P (ç (ç (ó t (Þ<|À a)<|Þ<|À b) λr=>aI<|Ľ !r) λv=>aI<|ï v) u c=_;rw[Ñ,Ñ,Xw h g j];cases(Ŭ a b).runT P u c with
  |mk r f=>cases r<;>rfl
theorem agt{m:ġ}{r:Á}{y:Ö}(E:o.op=dV m t qQ y r)(H:m=aA\/m=aL)(h:P.underlying t=À (ð e))(T:P.info? e=À zJ)(V:zJ.size≠0)(I:∀z∈o.op.operands,mK X z):mU P X j o:=by
 have J:∀B:Ö->Â,ì B o=((ŷ m t qQ y (B qQ) (B y)>>=λ_=>Ũ m t (B qQ)<|B y)>>=λv=>pure<|ï v):=by intro B;unfold ì;rw[E]
 have W:∀(a:bF) (u:Æ) (n:Ο) (s:Æ),(ì a.eval o).run P u=ĥ n s->∃v,n=ï v:=by
  intro a u n s k;rw[J,Ä]at k;cases C:(ŷ m t qQ y (a.eval qQ) (a.eval y)>>=λ_=>Ũ m t (a.eval qQ)<|a.eval y).run P u with
  |ok v w=>rw[C]at k;cases k;exact⟨v,U⟩
  |halt z w=>rw[C]at k;cases k
 refine⟨?_,λa=> ?_,λa u n s k=>Ç<|W a u n s k,λa u f c s k=>by let⟨v,e⟩:=W a u _ s k;cases e⟩
 .intro Y g D Xy u w K hb L M p hl z s k hc;have N:=xd L M (I qQ<|by rw[E];simp[Ê]);have O:=xd L M (I y<|by rw[E];simp[Ê]);by_cases Q:nk (å ⟨D,[]⟩ qQ)\/nk (å ⟨D,[]⟩ y)
  .have hOk:kn P (å ⟨D,[]⟩) o.op:=by
    rw[E];exact .Dg m t qQ y r λ_=>Î ⟨⟨e,h⟩,Q⟩
   exact(VO K p.C hb (λf=>rfl) hOk λz K=>xd L M<|I z K).gw p hl k hc #[]
  .have n1:=λq=>Q<|Ç q;have n2:=λq=>Q<|Î q;rw[J]at k|-;generalize å ⟨D,[]⟩ qQ=v at N k n1;generalize å ⟨Xy,[]⟩ qQ=v' at N|-;generalize å ⟨D,[]⟩ y=l at O k n2;generalize å ⟨Xy,[]⟩ y=l' at O|-;cases N<;>first|exact absurd trivial n1|skip
   cases O<;>first|exact absurd trivial n2|skip
   rename_i a a' F b b' G;have fit:∀{c S:Ú},ic Y c S->yR u c.block/\yR w S.block:=by intro c S hcc;let⟨d,d',e2,fr,wO,hu,hw,sR,p8,Ox,hfr⟩:=p.r _ _ hcc.1;refine⟨⟨d,e2,fr,hu,hfr⟩,d',e2,wO,hw,?_⟩;refine õ ?_ sR.I;grind
   let⟨fa,fa'⟩:=fit F;let⟨fb,fb'⟩:=fit G;rw[<-Ρ P _ u #[],Xx H h T V,Xv fa fb]at k;rw[Xx H h T V,Xv fa' fb'];rw[<-(Jo p.C F G),<-(VB p.C F G)];by_cases q:(a.block==b.block)=É
   .rw[if_pos q]at k|-;cases k;exact⟨Y,_,w,#[],fy.M _,λ_ _ q=>Ç q,U,.nU (.mJ _),p,nS.gd _ _ _,λ_ C=>absurd C ft,ß _⟩
   .rw[if_neg q]at k|-;by_cases q2:(u.frozen? a&&u.frozen? b)=É
    .grind
    .rw[if_neg q2]at k;have q3:¬(w.frozen? a'&&w.frozen? b')=É:=by
      intro q4;let⟨z1,z2⟩:=Ü.1 q4;exact q2<|Ü.2 ⟨p.G F z1,p.G G z2⟩
     rw[if_neg q3];cases k;exact⟨Y,_,w,#[],fy.M _,λ_ _ q=>Ç q,U,.nU (.mJ _),p,nS.gd _ _ _,λ_ C=>absurd C ft,ß _⟩
 .rw[J];exact lZ<|gA (WJ m t (λ_=>Î ⟨e,h⟩) qQ y _ _) λ_=>agn H h _ _
end
def Oy(P:Õ)(s d:Á):Bool:=match P.underlying s,P.underlying d with
 |some (dh e),À ę=>(match P.underlying e with|some (Β .u8)=>É|_=>Ã)
 |some (ð _),À đ=>É
 |some đ,À (ð _)=>É
 |_,_=>Ã
def Oz(P:Õ)(t:Á):Bool:=match P.underlying t with
 |some (ð e)=>(match P.info? e with|some i=>i.size !=0|none=>Ã)
 |_=>Ã
def OA(P:Õ)(b:à->Bool)(c:Callee)(a:List Ö)(d:List Á):Bool:=match c with
 |ĝ .min=>a.length !=0
 |ĝ bl=>a.length==1
 |ĝ cV=>a.length==2&&(match d with|[t,_]=>JQ P t|_=>Ã)
 |cj (aO f)=>b f&&a.length==1
 |_=>Ã
def OB(P:Õ)(a:à->Bool):Op->Bool
 |cI _ _|.panic _=>É
 |dV c t _ _ _=>(c==aA||c==aL)&&Oz P t
 |aN s d _=>Oy P s d
 |Ω c=>OA P a c.callee c.args.toList c.argTypes.toList
 |_=>Ã
def Dp(P:Õ)(a:Nat->Bool)(b c:à->Bool)(o:av):Bool:=Ou P a b o||(OB P c o.op&&o.op.operands.all (xf a))
def Gb(P:Õ)(c:à->Bool):Prop:=∀f,c f=É->∃a e,P.funcs[f]?=À a/\(a.name== "runtime.NumGoroutine")=Ã/\a.body.isNone=É/\Extern.findNext a=ë/\Extern.find a=À e/\
 (∀(Y:fy) (v b:Â),fu Y v b->fK P fu Y (e #[v]) (e #[b]))/\∀v,fI P<|e #[v]
theorem JV[AJ P]{g:Nat->Bool}{k x:à->Bool}(C:Gb P x)(h:Dp P g k x o=É):mU P (λj=>g j=É) (λf=>k f=É) o:=by
 rcases Ŝ.1 h with h|h
 .exact afE h
 .let⟨v,S⟩:=Ü.1 h;have q:∀z∈o.op.operands,mK (λj=>g j=É) z:=by
   grind [ŉ,JN,Ń]
  cases n:o.op with
  |makeInterface t y=>exact afF n q
  |panic y=>exact afI n q
  |binOp w t a b r=>
   rw[n]at v;let⟨T,m⟩:=Ü.1 (show((w==aA||w==aL)&&Oz P t)=É from v);have D:w=aA\/w=aL:=by grind
   unfold Oz at m;split at m
   .rename_i e E;split at m
    .rename_i i F;exact agt n D E F (by simpa using m) q
    .cases m
   .cases m
  |convert s d y=>
   rw[n]at v;have m:Oy P s d=É:=v;unfold Oy at m;split at m
   .rename_i e u p;split at m
    .rename_i G;exact afS n u p G q
    .cases m
   .rename_i t u p;exact Xh n (Ç ⟨u,p⟩) q
   .rename_i t u p;exact Xh n (Î ⟨u,p⟩) q
   .cases m
  |call c=>
   rw[n]at v;let⟨H,I,B⟩:=c;have m:OA P x H I.toList B.toList=É:=v;unfold OA at m;split at m
   .exact afO n q
   .obtain⟨y,rfl⟩:=JP m;exact af0 n q
   .let⟨u,p⟩:=Ü.1 m;obtain⟨y,z,rfl⟩:=Ot u;let⟨l⟩:=B;match l,p with
    |[t1,t2],p=>exact agj n p q
   .rename_i f;let⟨u,p⟩:=Ü.1 m;obtain⟨y,rfl⟩:=JP p;let⟨V,e,J,K,L,M,N,O,Q⟩:=C f u;exact afT n J K L M N O Q q
   .cases m
  |_=>rw[n]at v;simp[OB]at v
def nX(P:Õ)(a:Nat->Bool)(b d:à->Bool):ak->Bool
 |.ret|eR|eb _|eT _|eU _=>É
 |.seq x y=>nX P a b d x&&nX P a b d y
 |bz c x y=>xf a c&&nX P a b d x&&nX P a b d y
 |ec _ c|eS c|ef c=>nX P a b d c
 |bQ _ c _=>c.all<|Dp P a b d
 |dt _=>É
 |_=>Ã
def vD[AJ P]{g:Nat->Bool}{k x:à->Bool}(a:Gb P x):∀{c:ak},nX P g k x c=É->kU P (λj=>g j=É) (λf=>k f=É) c
 |.ret,_=> .vy
 |eR,_=> .sL
 |eb l,_=> .wV l
 |eT l,_=> .w7 l
 |eU l,_=> .xa l
 |.seq y z,h=>by let⟨f,i⟩:=Ü.1 (show(nX P g k x y&&nX P g k x z)=É from h);exact .rE (vD a f) (vD a i)
 |bz c y z,h=>by let⟨f,i⟩:=Ü.1 (show(xf g c&&nX P g k x y&&nX P g k x z)=É from h);let⟨j,f⟩:=Ü.1 f;exact .tT (JN j) (vD a f) (vD a i)
 |ec id c,h=> .rF id (vD a<|show nX P g k x c=É from h)
 |eS c,h=> .wW (vD a<|show nX P g k x c=É from h)
 |ef c,h=> .wZ (vD a<|show nX P g k x c=É from h)
 |bQ id ops d,h=> .tU id d λo f=>by obtain⟨i,j,rfl⟩:=ŉ.1 f;exact JV a<|Ń.1 (show ops.all (Dp P g k x)=É from h) i j
 |.rangeFunc _ _ _ _,h=>by simp[nX]at h
 |dt w,_=> .nV w
end Go.Proofs.Y.Lift
namespace Go.Proofs.Y.fB
open Go Go.Conc Go.Proofs.Y.Lift
def qI(t:ğ)(g:Nat)(l:dT):Prop:=∀p a,Ě t p=À a->a.loc=l->bD t g p
def pz(t:ğ)(g:Nat)(l:dT):Prop:=∀p a,Ě t p=À a->a.loc=l->a.write=É->bD t g p
def qI.r{t:ğ}{l:dT}(h:qI t i l):pz t i l:=λp a b c _=>h p a b c
section
variable{t u:ğ}{g:Nat}{l:dT}
theorem mX{a:dN}(h:Ě (t++u) i=À a):(i<t.size/\Ě t i=À a)\/(t.size<=i/\∃x∈u,x.act.touch?=À a/\(t++u)[i]?=À x):=by
 let⟨x,c,d⟩:=dO h;rcases getElem?_append_cases c with⟨b,e⟩|⟨b,f⟩
 .exact Ç ⟨b,by rwa[touchAt_of e]⟩
 .grind
theorem qI.C(h:qI t g l)(j:∀c∈u,∀b,c.act.touch?=À b->b.loc=l->c.g=g):qI (t++u) g l:=by
 intro p a e f;rcases mX e with⟨_,d⟩|⟨_,c,d,k,i⟩
 .exact(h p a d f).app u
 .have:=bn i;grind
theorem pz.r(h:pz t g l)(k:∀c∈u,∀b,c.act.touch?=À b->b.loc=l->b.write=É->c.g=g):pz (t++u) g l:=by
 intro p a e f i;rcases mX e with⟨_,d⟩|⟨_,c,d,m,j⟩
 .exact(h p a d f i).app u
 .have:=bn j;grind
def qI.vt(h:∀p a,Ě t p=À a->a.loc≠l):qI t g l:=λp a b c=>absurd c<|h p a b
theorem OC(h:∀c,¬eG c t)(l:∀d∈u,d.g=g)(m:∀d∈u,∀b,d.act.touch?=À b->(b.write=Ã/\pz t g b.loc)\/qI t g b.loc\/(b.kind=Ŕ/\∀p a,Ě t p=À a->a.loc=b.loc->a.kind=eZ->bD t g p)):∀c,¬eG c (t++u):=by
 intro c;refine noRace_append (h c) l λi a f d n b o r=> ?_;let⟨j,v,e,w⟩:=r;rcases m d n b o with⟨s,k⟩|q|⟨s,k⟩
 .rcases e with e|e
  .exact k i a f j e
  .grind
 .exact q i a f j
 .grind
theorem A0(f:∀c,¬eG c t)(r:∀d∈u,d.act.touch?=ë):∀c,¬eG c (t++u):=by
 intro c;rintro⟨i,j,g,⟨a,b,h,k,l⟩,m,n⟩;rcases mX k with⟨s,e⟩|⟨_,d,e,v,_⟩
 .rcases mX h with⟨o,p⟩|⟨o,_⟩
  .exact f c ⟨i,j,g,⟨a,b,p,e,l⟩,λq=>m<|ei u q,λq=>n<|ei u q⟩
  .omega
 .grind
end
structure fh where
 O:Nat->Prop
 I:Nat->Prop
 r:Ú->Prop
 N:Ú->Prop
 K:Ú->Prop
 d:Nat
 q:Prop
 w:Æ
def fh.M(l:fh):Nat->Prop:=λj=>l.O j\/l.I j
def fh.C(l:fh):Ú->Prop:=λa=>l.r a\/l.N a
structure fL(l:fh)(w w₁:Æ):Prop where
 r:w.heap.size<=w₁.heap.size
 I:∀j,l.M j->w₁.heap[j]?=w.heap[j]?
 N:∀a,l.C a->w₁.cell? a=w.cell? a
 Y:∀a,l.C a->w₁.frozen? a=w.frozen? a
 S:∀a,l.K a->(w.cell? a).isSome=É->(w₁.cell? a).isSome=É
theorem fL.gd(l:fh)(w:Æ):fL l w w:=⟨ß _,λ_ _=>rfl,λ_ _=>rfl,λ_ _=>rfl,λ_ _ h=>h⟩
def fL.fj{l:fh}{c:Æ}(h:fL l w u)(k:fL l u c):fL l w c:= ⟨õ h.r k.r,λj d=>(k.I j d).trans<|h.I j d,λj d=>(k.N j d).trans<|h.N j d,λj d=>(k.Y j d).trans<|h.Y j d,λw e q=>k.S w e<|h.S w e q⟩
def lb(w:Æ)(b:Nat):Option (Nat×Nat):=match w.heap[b]? with
 |some (Č _ _ fr)=>À fr
 |_=>ë
def xg{w':Æ}(h:w'.heap[b]?=w.heap[b]?):lb w' b=lb w b:=by unfold lb;rw[h]
theorem Xz(w:Æ)(a:Ú):w.frozen? a=match lb w a.block with
 |some (lo,hi)=>decide (lo<=a.off)&&decide (a.off<hi)
 |none=>Ã:=by
 unfold Ĉ lb;grind
def JX(h:lb u a.block=lb w a.block):u.frozen? a=w.frozen? a:=by rw[Xz,Xz,h]
def yS(l:fh)(e:ý):Prop:=
 (∃a:Ú,e.loc=û a/\(l.O a.block\/l.r a\/((l.I a.block\/l.N a)/\e.write=Ã/\e.sync=Ã)))\/e.loc=ů da\/(∃f,e.loc=ů (.extern f))\/e.loc=ů cK\/e.loc=ů dy\/
 ∃a:Ú,l.O a.block/\(e.loc=ů (.read a)\/e.loc=ů (.write a)\/e.loc=ů (Ķ a)\/e.loc=ů (cL a))
structure mL(l l':fh)(w w':Æ)(es:Array ý):Prop where
 C:w.heap.size<=w'.heap.size
 S:∀j,l'.O j->l.O j\/w.heap.size<=j
 fA:∀j,l'.O j->j<w'.heap.size
 I:l'.I=l.I
 r:l'.r=l.r
 M:l'.N=l.N
 k:l'.K=l.K
 jY:∀j,j<w.heap.size->¬l.O j->(∀a:Ú,a.block=j->¬l.r a)->w'.heap[j]?=w.heap[j]?
 N:∀a:Ú,a.block<w.heap.size->¬l.O a.block->¬l.r a->w'.cell? a=w.cell? a
 Y:∀a:Ú,a.block<w.heap.size->¬l.O a.block->lb w' a.block=lb w a.block
 f:w'.os=w.os
 g:w'.output=w.output
 m:w'.tape=w.tape
 c:∀e∈es,yS l' e
 h:l'.d=ŭ l.d es
 q:l'.q=l.q
 i:l.q->w'=w/\(∀e∈es,e.mute=É)/\l'.O=l.O
 b:l'.w=w'
structure OD(t:ğ)(g:Nat)(l:fh):Prop where
 fx:∀a:Ú,l.O a.block->qI t g (û a)
 C:∀a:Ú,l.I a.block->pz t g (û a)
 I:∀a:Ú,l.r a->qI t g (û a)
 r:∀a:Ú,l.N a->pz t g (û a)
theorem XA{l:fh}{e:ý}(h:yS l e){b:dN}(c:(è e).touch?=À b):∃a:Ú,b.loc=û a/\(l.O a.block\/l.r a\/((l.I a.block\/l.N a)/\b.write=Ã)):=by
 let⟨k,i,j⟩:=e;rcases h with⟨a,g,d⟩|h|⟨f,h⟩|h|h|⟨a,g,d⟩
 .simp only at g d;subst g;have:(è ⟨û a,i,j⟩).touch?=À ⟨û a,i,if j then Ŕ else eZ⟩:=U;grind
 .simp only at h;subst h;simp[è,ÿ]at c
 .simp only at h;subst h;simp[è,ÿ]at c
 .simp only at h;subst h;simp[è,ÿ]at c
 .simp only at h;subst h;simp[è,ÿ]at c
 .simp only at d;rcases d with rfl|rfl|rfl|rfl<;>simp[è,ÿ]at c<;>subst c;all_goals grind
def agu{l:fh}(d:∀j,l.O j->j<i)(k:∀j,l.I j->j<i)(g:∀a:Ú,l.C a->a.block<i){e:ý}(h:yS l e):(è e).low i:=by
 let⟨m,n,o⟩:=e;rcases h with⟨a,c,b⟩|h|⟨f,h⟩|h|h|⟨a,c,b⟩
 .simp only at c b;subst c;rcases b with h|h|⟨h|h,_⟩
  .exact d _ h
  .exact g _<|Ç h
  .exact k _ h
  .exact g _<|Î h
 .simp only at h;subst h;trivial
 .simp only at h;subst h;trivial
 .simp only at h;subst h;trivial
 .simp only at h;subst h;trivial
 .simp only at b;rcases b with rfl|rfl|rfl|rfl<;>exact d _ c
def XB(B:Nat)(t:ğ):Prop:=∀a∈t,a.act.low B
def XC(h:XB i qJ){a:dN}(g:Ě qJ n=À a){x:Ú}(d:a.loc=û x):x.block<i:=by
 let⟨f,j,b⟩:=dO g;have c:=h f<|Û j;revert b c;cases f.act with
 |access e=>
  intro b c;simp only[ÿ,ž]at b;subst b;simp only at d;simp only[MemAct.low,d,Loc.low]at c;exact c
 |mark m=>
  intro b c;cases m<;>simp[ÿ]at b;all_goals
   subst b;simp only[Loc.cell.injEq]at d;subst d;exact c
 |_=>intro b _;simp[ÿ]at b
theorem ov{a:String}:∀op∈Í i F a V,op.g=i:=λop b=>by obtain⟨e,_,rfl⟩:=í (op:=op) b;rfl
structure iX(B0:Nat)(Live:Nat->Prop)(Y:Nat->Prop)(lot:Nat->fh)(w:Æ)(t:ğ):Prop where
 o:∀i j,Live i->Live j->i≠j->∀b,(lot i).O b->¬(lot j).M b
 h:∀i j,Live i->Live j->i≠j->∀a,(lot i).r a->¬(lot j).C a
 m:∀i,Live i->∀b,(lot i).O b->¬(lot i).I b
 g:∀i,Live i->∀a,(lot i).r a->¬(lot i).N a
 I:∀i,Live i->∀b,(lot i).M b->¬Y b
 e:∀i,Live i->∀a,(lot i).C a->Y a.block
 fA:∀i,Live i->∀b,(lot i).M b->b<w.heap.size
 N:∀b,Y b->b<w.heap.size
 r:∀i,Live i->fL (lot i) (lot i).w w
 S:∀i,Live i->OD t i (lot i)
 f:∀i,Live i->Τ t i=(lot i).d
 l:∀said,¬eG said t
 q:XB w.heap.size t
 s:∀p a c,Ě t p=À a->a.loc=.obj c->a.kind=eZ->c<B0
 n:∀i,Live i->∀a,(lot i).K a->Y a.block/\∀k,Live k->¬(lot k).r a
def gC(lot:Nat->fh)(i:Nat)(l:fh):Nat->fh:=λk=>if k=i then l else lot k
theorem gY(a:Nat->fh)(i:Nat)(l:fh):gC a i l i=l:=if_pos U
theorem gK(a:Nat->fh)(l:fh)(h:k≠i):gC a i l k=a k:=if_neg h
section
variable{B0:Nat}{Live Y:Nat->Prop}{lot:Nat->fh}{w':Æ}{t u:ğ}
def OG{g:Nat}(a:k≠g)(t:ğ){u:ğ}(b:∀c∈u,c.g=g):Τ (t++u) k=Τ t k:= Deaf_other t (g:=k) (g':=g) (ą a) _ b
def iX.at(h:iX B0 Live Y lot w t)(d:Nat):iX B0 Live Y lot (w.at d) t:= ⟨h.o,h.h,h.m,h.g,h.I,h.e,h.fA,h.N,λi a=>⟨(h.r i a).r,(h.r i a).I,(h.r i a).N,(h.r i a).Y,(h.r i a).S⟩,h.S,h.f,h.l,h.q,h.s,h.n⟩
def iX.agv(h:iX B0 Live Y lot w t)(r:Live i){s:fh}(l:mL (lot i) s w w' V)(E:à)(F:String): iX B0 Live Y (gC lot i s) w' (t++Í i E F V):=by
 have G:=l.S;have Q:∀b,s.M b->(lot i).M b\/w.heap.size<=b:=λb g=>g.elim (λq=>(G b q).imp Ç id) (λq=>Ç<|Î<|by rwa[<-l.I]);have J:∀a,s.C a↔(lot i).C a:=λa=>by unfold fh.C;rw[l.r,l.M]
 have I:=λk f a d=>h.N _<|h.e k f a d;have L:∀k,Live k->k≠i->∀b,(lot k).M b->¬s.O b:=by
  intro k f y b g c;rcases G b c with q|q
  .exact h.o i k r f (ą y) b q g
  .have:=h.fA k f b g;omega
 have H:∀m∈Í i E F V,∀b,m.act.touch?=À b->∃a:Ú,b.loc=û a/\(s.O a.block\/s.r a\/((s.I a.block\/s.N a)/\b.write=Ã)):=by intro m o b g;obtain⟨e,N,rfl⟩:=í o;exact XA (l.c e N) g
 have T:∀a:Ú,s.O a.block->qI t i (û a):=by
  intro a d;rcases G _ d with q|q
  .exact(h.S i r).fx a q
  .exact .vt λp x P n=>by have:=XC h.q P n;omega
 have D:OD t i s:=⟨T,λa d=>(h.S i r).C a (by rwa[<-l.I]),λa d=>(h.S i r).I a (by rwa[<-l.r]),λa d=>(h.S i r).r a<|by rwa[<-l.M]⟩;refine⟨?_,?_,?_,?_,?_,?_,?_,λb g=>Ô (h.N b g) l.C,?_,?_,?_,?_,?_,?_,?_⟩
 .intro k j f u y b g;by_cases c:k=i
  .subst c;rw[gY]at g;rw[gK lot _<|ą y];exact λq=>L j u (ą y) b q g
  .rw[gK lot _ c]at g;by_cases v:j=i
   .subst v;rw[gY];intro q;rcases Q b q with z|z
    .exact h.o k j f u y b g z
    .have:=h.fA k f b<|Ç g;omega
   .rw[gK lot _ v];exact h.o k j f u y b g
 .intro k j f u y a d;by_cases c:k=i
  .subst c;rw[gY,l.r]at d;rw[gK lot _<|ą y];exact h.h k j f u y a d
  .rw[gK lot _ c]at d;by_cases v:j=i
   .subst v;rw[gY,J];exact h.h k j f u y a d
   .rw[gK lot _ v];exact h.h k j f u y a d
 .intro k f b g;by_cases c:k=i
  .subst c;rw[gY]at g|-;rw[l.I];rcases G b g with z|z
   .exact h.m k f b z
   .intro q;have:=h.fA k f b<|Î q;omega
  .rw[gK lot _ c]at g|-;exact h.m k f b g
 .intro k f a d;by_cases c:k=i
  .subst c;rw[gY]at d|-;rw[l.M];rw[l.r]at d;exact h.g k f a d
  .rw[gK lot _ c]at d|-;exact h.g k f a d
 .intro k f b g;by_cases c:k=i
  .subst c;rw[gY]at g;rcases Q b g with z|z
   .exact h.I k f b z
   .intro y;have:=h.N b y;omega
  .rw[gK lot _ c]at g;exact h.I k f b g
 .intro k f a d;by_cases c:k=i
  .subst c;rw[gY,J]at d;exact h.e k f a d
  .rw[gK lot _ c]at d;exact h.e k f a d
 .intro k f b g;by_cases c:k=i
  .subst c;rw[gY]at g;exact g.elim (l.fA b) λq=>Ô (h.fA k f b<|Î<|by rwa[<-l.I]) l.C
  .rw[gK lot _ c]at g;exact Ô (h.fA k f b g) l.C
 .intro k f;by_cases c:k=i
  .subst c;rw[gY,l.b];exact fL.gd _ _
  .rw[gK lot _ c];refine(h.r k f).fj ⟨l.C,λb g=>l.jY b (h.fA k f b g) (λq=>h.o i k r f (ą c) b q g) (λa d q=>h.I k f b g<|by rw[<-d];exact h.e i r a<|Ç q),λa d=>l.N a (I k f a d) (λq=>h.I i r _ (Ç q)<|h.e k f a d) λq=>h.h i k r f (ą c) a q d,λa d=>JX (l.Y a (I k f a d) λq=>h.I i r _ (Ç q)<|h.e k f a d),λa d q=> ?_⟩;let⟨y,v⟩:=h.n k f a d;rwa[l.N a (h.N _ y) (λq=>h.I i r _ (Ç q) y)<|v i r]
 .intro k f;by_cases c:k=i
  .subst c;rw[gY];exact⟨λa d=>(D.fx a d).C λm o _ _ _=>ov m o,λa d=>(D.C a d).r λm o _ _ _ _=>ov m o,λa d=>(D.I a d).C λm o _ _ _=>ov m o,λa d=>(D.r a d).r λm o _ _ _ _=>ov m o⟩
  .rw[gK lot _ c];have W:∀a:Ú,(lot k).O a.block->∀m∈Í i E F V,∀b,m.act.touch?=À b->b.loc=û a->False:=by
    intro a d m o b g n;let⟨x,y,v⟩:=H m o b g;rw[y]at n;injection n with n;subst n;rcases v with q|q|⟨q|q,_⟩
    .exact L k f c _ (Ç d) q
    .exact h.I k f _ (Ç d)<|h.e i r x<|Ç<|by rwa[<-l.r]
    .exact h.o k i f r c _ d<|Î<|by rwa[<-l.I]
    .exact h.I k f _ (Ç d)<|h.e i r x<|Î<|by rwa[<-l.M]
   have X:∀a:Ú,(lot k).I a.block->∀m∈Í i E F V,∀b,m.act.touch?=À b->b.loc=û a->b.write=É->False:=by
    intro a d m o b g n B;let⟨x,y,v⟩:=H m o b g;rw[y]at n;injection n with n;subst n;rcases v with q|q|⟨_,q⟩
    .exact L k f c _ (Î d) q
    .exact h.I k f _ (Î d)<|h.e i r x<|Ç<|by rwa[<-l.r]
    .rw[q]at B;cases B
   have S:∀a:Ú,(lot k).C a->∀m∈Í i E F V,∀b,m.act.touch?=À b->b.loc=û a->(s.I a.block\/s.N a)/\b.write=Ã:=by
    intro a d m o b g n;let⟨x,y,v⟩:=H m o b g;rw[y]at n;injection n with n;subst n;rcases v with q|q|q
    .exfalso;rcases G _ q with z|z
     .exact h.I i r _ (Ç z)<|h.e k f x d
     .have:=I k f x d;omega
    .exact absurd d<|h.h i k r f (ą c) x<|by rwa[<-l.r]
    .exact q
   refine⟨λa d=>((h.S k f).fx a d).C λm o b g n=>(W a d m o b g n).elim,λa d=>((h.S k f).C a d).r λm o b g n B=>(X a d m o b g n B).elim,λa d=>((h.S k f).I a d).C λm o b g n=> ?_,λa d=>((h.S k f).r a d).r λm o b g n B=> ?_⟩
   .exfalso;obtain⟨q|q,_⟩:=S a (Ç d) m o b g n
    .exact h.I i r _ (Î<|by rwa[<-l.I])<|h.e k f a<|Ç d
    .exact h.h k i f r c a d<|Î<|by rwa[<-l.M]
   .have:=(S a (Î d) m o b g n).2;rw[this]at B;cases B
 .intro k f;by_cases c:k=i
  .subst c;rw[gY,l.h,Deaf_own,h.f k f]
  .rw[gK lot _ c,OG c t ov];exact h.f k f
 .refine OC h.l ov λm o b g=> ?_;let⟨a,y,v⟩:=H m o b g;rw[y];rcases v with q|q|⟨q,B⟩
  .exact Î<|Ç<|D.fx a q
  .exact Î<|Ç<|D.I a q
  .exact Ç ⟨B,q.elim (D.C a)<|D.r a⟩
 .intro m o;rcases Ĝ.1 o with q|q
  .exact MemAct.low_mono l.C<|h.q m q
  .obtain⟨e,N,rfl⟩:=í q;refine agu l.fA (λj u=>Ô (h.fA i r j<|Î<|by rwa[<-l.I]) l.C) (λa d=> ?_)<|l.c e N;rw[J]at d;exact Ô (I i r a d) l.C
 .intro p a c d n f;rcases mX d with⟨_,y⟩|⟨_,m,y,v,_⟩
  .exact h.s p a c y n f
  .let⟨x,P,_⟩:=H m y a v;rw[P]at n;cases n
 .intro k f a d;have y:∀j,(gC lot i s j).r=(lot j).r:=λj=>by
   by_cases e:j=i
   .subst e;rw[gY,l.r]
   .rw[gK lot _ e]
  have c:(gC lot i s k).K=(lot k).K:=by
   by_cases e:k=i
   .subst e;rw[gY,l.k]
   .rw[gK lot _ e]
  rw[c]at d;exact⟨(h.n k f a d).1,λj u=>by rw[y];exact(h.n k f a d).2 j u⟩
end
def Gc(Live Y:Nat->Prop)(d:Nat->fh)(b:dN):Prop:=(∃a:Ú,b.loc=û a/\Y a.block/\∀k,Live k->¬(d k).C a)\/∃c,b.loc=.obj c/\Y c/\b.kind=Ŕ
structure p9(Live Y:Nat->Prop)(lot:Nat->fh)(w w':Æ):Prop where
 r:w'.heap.size=w.heap.size
 jY:∀j,¬Y j->w'.heap[j]?=w.heap[j]?
 M:∀k,Live k->∀a,(lot k).C a->w'.cell? a=w.cell? a
 N:∀k,Live k->∀a,(lot k).C a->w'.frozen? a=w.frozen? a
 I:∀a,(w.cell? a).isSome=É->(w'.cell? a).isSome=É
theorem p9.gd(Live Y:Nat->Prop)(a:Nat->fh)(w:Æ):p9 Live Y a w w:=⟨U,λ_ _=>rfl,λ_ _ _ _=>rfl,λ_ _ _ _=>rfl,λ_ h=>h⟩
structure vE(w':Æ)(l l':fh):Prop where
 O:l'.O=l.O
 N:l'.I=l.I
 r:l'.r=l.r
 I:l'.N=l.N
 K:l'.K=l.K
 w:l'.w=l.w\/l'.w=w'
theorem vE.gd(w':Æ)(l:fh):vE w' l l:=⟨U,U,U,U,U,Ç U⟩
def vE.M{w':Æ}{l a:fh}(h:vE w' l a):a.M=l.M:=by unfold fh.M;rw[h.O,h.N]
def vE.C{w':Æ}{l a:fh}(h:vE w' l a):a.C=l.C:=by unfold fh.C;rw[h.r,h.I]
def fL.agw{l c:fh}(h:vE w l c)(r:fL l u W):fL c u W:= ⟨r.r,by rw[h.M];exact r.I,by rw[h.C];exact r.N,by rw[h.C];exact r.Y,by rw[h.K];exact r.S⟩
section
variable{Live Y:Nat->Prop}{lot o:Nat->fh}{w':Æ}{t u:ğ}
def iX.G(h:iX n Live Y lot w t)(m:∀k,vE w' (lot k)<|o k)(s:p9 Live Y lot w w')(B:∀l∈u,∀b,l.act.touch?=À b->Gc Live Y lot b)(g:∀l∈u,l.act.low w.heap.size)(E:∀F,¬eG F (t++u))(G:∀k,Live k->Τ (t++u) k=(o k).d):iX n Live Y o w' (t++u) where
 o i j hi v lM b q:=by rw[(m j).M];exact h.o i j hi v lM b<|by rwa[<-(m i).O]
 h i j hi v lM a f:=by rw[(m j).C];exact h.h i j hi v lM a<|by rwa[<-(m i).r]
 m i hi b q:=by rw[(m i).N];exact h.m i hi b<|by rwa[<-(m i).O]
 g i hi a f:=by rw[(m i).I];exact h.g i hi a<|by rwa[<-(m i).r]
 I i hi b q:=h.I i hi b (by rwa[<-(m i).M]);e i hi a f:=h.e i hi a (by rwa[<-(m i).C]);fA i hi b q:=by rw[s.r];exact h.fA i hi b<|by rwa[<-(m i).M]
 N b q:=by rw[s.r];exact h.N b q
 r i hi:=by
  rcases(m i).w with e|e
  .rw[e];refine((h.r i hi).fj ⟨dz s.r.symm,λj v=>s.jY j<|h.I i hi j v,λa f=>s.M i hi a f,λa f=>s.N i hi a f,λa _=>s.I a⟩).agw<|m i
  .rw[e];exact fL.gd _ _
 S i hi:=by
  have z:∀a:Ú,(lot i).M a.block->∀l∈u,∀b,l.act.touch?=À b->b.loc=û a->False:=by
   intro a f l e b q g;rcases B l e b q with⟨x,r,y,_⟩|⟨c,r,_⟩
   .rw[r]at g;injection g with g;subst g;exact h.I i hi _ f y
   .rw[r]at g;cases g
  have D:∀a:Ú,(lot i).C a->∀l∈u,∀b,l.act.touch?=À b->b.loc=û a->False:=by
   intro a f l e b q g;rcases B l e b q with⟨x,r,_,y⟩|⟨c,r,_⟩
   .rw[r]at g;injection g with g;subst g;exact y i hi f
   .rw[r]at g;cases g
  exact⟨λa f=>((h.S i hi).fx a<|by rwa[<-(m i).O]).C λl e b q g=>(z a (Ç<|by rwa[<-(m i).O]) l e b q g).elim,λa f=>((h.S i hi).C a<|by rwa[<-(m i).N]).r λl e b q g _=>(z a (Î<|by rwa[<-(m i).N]) l e b q g).elim,λa f=>((h.S i hi).I a<|by rwa[<-(m i).r]).C λl e b q g=>(D a (Ç<|by rwa[<-(m i).r]) l e b q g).elim,λa f=>((h.S i hi).r a<|by rwa[<-(m i).I]).r λl e b q g _=>(D a (Î<|by rwa[<-(m i).I]) l e b q g).elim⟩
 f:=G;l:=E;q l e:=by rw[s.r];exact(Ĝ.1 e).elim (h.q l)<|g l
 s p a c f g z:=by
  rcases mX f with⟨_,r⟩|⟨_,l,r,y,_⟩
  .exact h.s p a c r g z
  .rcases B l r a y with⟨x,D,_⟩|⟨x,_,_,D⟩
   .rw[D]at g;cases g
   .rw[D]at z;cases z
 n i hi a f:=by rw[(m i).K]at f;exact⟨(h.n i hi a f).1,λk z=>by rw[(m k).r];exact(h.n i hi a f).2 k z⟩
end
structure gF(l:fh):Prop where
 c:∀b,l.O b->¬l.I b
 Y:∀a,l.r a->¬l.N a
 N:∀a,l.C a->¬l.M a.block
 fA:∀b,l.M b->b<l.w.heap.size
 I:∀a,l.C a->a.block<l.w.heap.size
 S:∀a,l.K a->¬l.M a.block/\a.block<l.w.heap.size/\¬l.r a
def iX.M{Live Y:Nat->Prop}{c:Nat->fh}(h:iX n Live Y c w qJ)(b:Live i):gF {c i with w:=w} where
 c:=h.m i b;Y:=h.g i b;N a ha hb:=h.I i b _ hb<|h.e i b a ha;fA:=h.fA i b;I a ha:=h.N _<|h.e i b a ha;S a ha:=⟨λq=>h.I i b _ q (h.n i b a ha).1,h.N _ (h.n i b a ha).1,(h.n i b a ha).2 i b⟩
abbrev Jd:=fh->Ó->Prop
inductive fq(P:Õ)(main:Bool)(Stop:Jd):Jd
 |fE {l:fh} {g:Ó} (h:∀w₁,fL l l.w w₁->Stop {l with w:=w₁} g):fq P main Stop l g
 |jR {l:fh} {g:Ó} (G':Æ->Ó) (W':Æ->Æ) (E':Æ->Array ý) (L':Æ->fh) (iN:g.status=Ð)
  (h:∀w₁,fL l l.w w₁->Ù P main g w₁=aS (G' w₁) (W' w₁) (E' w₁)) (hd:∀w₁,fL l l.w w₁->mL l (L' w₁) w₁ (W' w₁) (E' w₁))
  (ih:∀w₁,fL l l.w w₁->fq P main Stop (L' w₁) (G' w₁)):fq P main Stop l g
instance:Nonempty fh:=⟨⟨λ_=>False,λ_=>False,λ_=>False,λ_=>False,λ_=>False,0,False,default⟩⟩
instance:Nonempty (Goroutine×World×Array Event×fh):=⟨(default,default,#[],Classical.choice inferInstance)⟩
section
variable{main:Bool}{Stop m:Jd}
def fq.mk{l:fh}(i:g.status=Ð) (h:∀a,fL l l.w a->∃b c d e,Ù P main g a=aS b c d/\mL l e a c d/\fq P main Stop e b):fq P main Stop l g:=by
 let p:=λ(a:Æ) (x:Goroutine×World×Array Event×fh)=>Ù P main g a=aS x.1 x.2.1 x.2.2.1/\mL l x.2.2.2 a x.2.1 x.2.2.1/\fq P main Stop x.2.2.2 x.1
 have f:∀a,fL l l.w a->p a (Classical.epsilon<|p a):=λa r=>Classical.epsilon_spec (let⟨b,c,d,e,h⟩:=h a r;⟨(b,c,d,e),h⟩);exact .jR (λa=>(Classical.epsilon<|p a).1) (λa=>(Classical.epsilon<|p a).2.1) (λa=>(Classical.epsilon<|p a).2.2.1) (λa=>(Classical.epsilon<|p a).2.2.2) i (λa r=>(f a r).1) (λa r=>(f a r).2.1) λa r=>(f a r).2.2
def fq.kg{l:fh}{w₁:Æ}(h:fq P main Stop l g)(r:fL l l.w w₁):fq P main Stop {l with w:=w₁} g:=by
 have e:∀{a b:Æ},fL {l with w:=w₁} a b->fL l a b:=λq=>⟨q.r,q.I,q.N,q.Y,q.S⟩;cases h with
 |fE h=>exact .fE λc d=>h c<|r.fj<|e d
 |jR f i j m n h o p=>
  exact .jR f i j m n (λc d=>h c<|r.fj<|e d) (λc d=>let q:=o c<|r.fj<|e d;⟨q.C,q.S,q.fA,q.I,q.r,q.M,q.k,q.jY,q.N,q.Y,q.f,q.g,q.m,q.c,q.h,q.q,q.i,q.b⟩) λc d=>p c<|r.fj<|e d
def fq.fT(a:∀l g,Stop l g->m l g){l:fh}(h:fq P main Stop l g):fq P main m l g:=by
 induction h with
 |fE h=>exact .fE λb r=>a _ _<|h b r
 |jR b r c d e h f _ i=>exact .jR b r c d e h f i
def fq.fj{l:fh}(h:fq P main (fq P main Stop) l g):fq P main Stop l g:=by
 induction h with
 |fE h=>exact h _<|fL.gd _ _
 |jR a b c d e h f _ i=>exact .jR a b c d e h f i
def fq.mo(a:∀l g,Stop l g->fq P main m l g){l:fh}(h:fq P main Stop l g):fq P main m l g:=(h.fT a).fj
end
inductive gD where
 |fE:gD
 |jR (k:Æ->gD):gD
def XD(x:gD):gD->Prop
 |.fE=>False
 |.jR k=>∃w,x=k w
def XF:WellFounded XD:=⟨λa=>by
 induction a with
 |fE=>exact⟨_,λy h=>h.elim⟩
 |jR k b=>exact⟨_,λy ⟨w,h⟩=>h▸b w⟩⟩
def lr(P:Õ)(b:Bool)(c:Jd):gD->Jd
 |.fE,l,g=>∀a,fL l l.w a->c {l with w:=a} g
 |.jR k,l,g=>g.status=Ð/\∀a,fL l l.w a->∃d e f h,Ù P b g a=aS d e f/\mL l h a e f/\lr P b c (k a) h d
section
variable{main:Bool}{Stop:Jd}
theorem ju{l:fh}(h:fq P main Stop l g):∃tr,lr P main Stop tr l g:=by
 induction h with
 |fE h=>exact⟨.fE,h⟩
 |@jR l g G' W' E' L' iN h hd _ ih=>
  have b:∀a,∃tr,fL l l.w a->lr P main Stop tr (L' a) (G' a):=by
   intro a;by_cases r:fL l l.w a
   .grind
   .exact⟨.fE,λq=>absurd q r⟩
  refine⟨.jR λa=>Classical.choose<|b a,iN,λa r=>⟨G' a,W' a,E' a,L' a,h a r,hd a r,Classical.choose_spec (b a) r⟩⟩
end
theorem agx{l:fh}{b:Nat->Prop}(d:∀j,X j->l.O j)(f:∀j,b j->l.I j){e:ý}(h:JG X b e):yS l e:=by
 rcases h with⟨a,c,g,i⟩|h|h
 .refine Ç ⟨a,c,?_⟩;grind
 .exact Î<|Ç h
 .exact Î<|Î<|Ç h
theorem agy{b:Nat->Prop}(h:∀e∈V,JG X b e)(d:Nat):ŭ d V=d:=by refine bq (λe c=> ?_) d;rcases h e c with⟨a,g,_⟩|h|⟨f,h⟩;all_goals grind
theorem gQ{w':Æ}(h:w'.heap[a.block]?=w.heap[a.block]?):w'.cell? a=w.cell? a:=by unfold Ġ;rw[h]
def xh(h:u.heap[a.block]?=w.heap[a.block]?):u.frozen? a=w.frozen? a:=by unfold Ĉ;rw[h]
def agz{t:(Nat->Prop)->Ó->Æ->Prop}{O:Nat->Prop}(h:vA P yQ X t O g w):∀l:fh,l.w=w->(∀j,O j->l.O j)->(∀j,X j->l.I j)->(∀j,l.O j->j<w.heap.size)->¬l.q-> fq P yQ (λa b=>∃f,t f b a.w/\(∀j,O j->f j)/\(∀j,f j->a.O j)/\(∀j,l.O j->a.O j)/\(∀j,a.O j->l.O j\/f j)/\(∀j,a.O j->l.O j\/w.heap.size<=j)/\a.I=l.I/\a.r=l.r/\a.N=l.N/\a.d=l.d/\a.q=l.q/\a.K=l.K) l g:=by
 induction h with
 |@fE O g w h=>
  intro l e i m _ _;refine .fE λb r=>⟨O,h b ⟨by rw[<-e];exact r.r,λj c=>by rw[r.I j (c.elim (λq=>Ç<|i j q) λq=>Î<|m j q),e]⟩,λ_ q=>q,i,λ_ q=>q,λ_ q=>Ç q,λ_ q=>Ç q,U,U,U,U,U,U⟩
 |@jR O g w G' W' E' f iN h hd _ ih=>
  intro l e i m C u;refine .mk iN λb r=> ?_;have n:yM (λj=>O j\/X j) w b:=⟨by rw[<-e];exact r.r,λj c=>by rw[r.I j (c.elim (λq=>Ç<|i j q) λq=>Î<|m j q),e]⟩;have D:=hd b n;have o:=n.r;have v:∀j,(l.O j\/f b j)->j<(W' b).heap.size:=λj c=>c.elim (λq=>Ô (C j q)<|õ o D.r)<|D.fA j;have p:∀j,j<b.heap.size->¬l.O j->(W' b).heap[j]?=b.heap[j]?:=λj c k=>D.jY j c λq=>k<|i j q;refine⟨G' b,W' b,E' b,{l with O:=λj=>l.O j\/f b j,w:=W' b},h b n,⟨D.r,λj c=>c.elim Ç λq=>(D.I j q).imp (i j) id,v,U,U,U,U,λj c k _=>p j c k,λa s k _=>gQ<|p _ s k,λa s k=>xg<|p _ s k,D.N,D.S,D.Y,λx E=>agx (l:={l with O:=λj=>l.O j\/f b j,w:=W' b}) (λj q=>Î q) m<|D.C x E,(agy D.C _).symm,U,λq=>absurd q u,U⟩,?_⟩;have:=ih b n {l with O:=λj=>l.O j\/f b j,w:=W' b} U (λj q=>Î q) m v u;apply this.fT;rintro N Q ⟨F,G,B,H,I,J,L,M⟩;refine⟨F,G,λj q=>B j<|D.M j q,H,λj q=>I j<|Ç q,λj q=> ?_,λj q=> ?_,M⟩
  .rcases J j q with(z|z)|z
   .exact Ç z
   .exact Î<|B j z
   .exact Î z
  .rcases L j q with(z|z)|z
   .exact Ç z
   .rcases D.I j z with y|y
    .exact Ç<|i j y
    .exact Î<|õ o y
   .exact Î<|õ (õ o D.r) z
def kG(a:Ú):ý:=⟨û a,Ã,É⟩
def mY(a:Ú):ý:=⟨û a,É,É⟩
def jZ(m:Mark):ý:=⟨ů m,Ã,É⟩
def gk:Int:=4294967296
def Dq(c:Nat):Array ý:=#[⟨.obj c,Ã,É⟩,⟨.obj c,É,É⟩]
section
variable(P:Õ)(main:Bool)
def Gd(m:Mark)(N:Jd):Jd:=λl g=>g.status=Ð/\∃a,(∀b,Ù P main g b=aS a b #[jZ m])/\fq P main N l a
def XG(a:Ú)(N:Int->Jd):Jd:=λl g=>g.status=Ð/\∀v,∃c,(∀b:Æ,b.cell? a=À (Ć æ v)->Ù P main g b=aS c b #[kG a])/\fq P main (N v) l c
def OH(a:Ú)(d:Int)(N:Int->Jd):Jd:=λl g=>g.status=Ð/\∀v,∃c,(∀b:Æ,b.cell? a=À (Ć æ v)->b.frozen? a=Ã->Ù P main g b=aS c (b.setCell a<|Ć æ<|æ.wrap<|v+d) #[kG a,mY a])/\N (æ.wrap<|v+d) l c
def agA(a:Ú)(v:Int)(N:Jd):Jd:=λl g=>g.status=Ð/\∃c,(∀(b:Æ) (x:Int),b.cell? a=À (Ć æ x)->b.frozen? a=Ã->Ù P main g b=aS c (b.setCell a<|Ć æ v) #[mY a])/\fq P main N l c
def agB(a:Ú)(N:Jd):Jd:=λl g=>g.status=Ð/\g.offers=ë/\(∀b:Æ,b.cell? a=À (Ć ŗ 0)->Ù P main g b=aS {g with status:=Ů} b #[])/\
 ∃c,(∀(b:Æ) (n:Int),n≠0->b.cell? a=À (Ć ŗ n)->b.frozen? a=Ã->Ù P main g b=aS c (b.setCell a<|Ć ŗ<|n-1) (semEvents a))/\fq P main N l c
def agC(a:Ú)(N:Jd):Jd:=λl g=>g.status=Ð/\mayWake P g=É/\∃c,c.status=Ð/\(∀(b:Æ) (n:Int),b.cell? a=À (Ć ŗ n)->b.frozen? a=Ã->Ù P main g b=aS c (b.setCell a<|Ć ŗ<|ŗ.wrap<|n+1) (semEvents a))/\N l c
def xi(c:Nat)(z:Â)(N:Option Â->Jd):Jd:=λl g=>g.status=Ð/\g.offers=ë/\(∀x,Ù P main g x=.comm g #[θ c z] É (.recv É) x #[])/\
 ∀x:Option Â,fq P main (N x) l {g with frame:=g.frame.finish (ſ #[x.getD z,Ľ x.isSome])}
def A1(c:Nat)(v:Â)(N:Jd):Jd:=λl g=>g.status=Ð/\g.offers=ë/\(∀a,∃b,Ù P main g a=.comm g #[scase c v b] É .send a #[])/\fq P main N l {g with frame:=g.frame.finish ľ}
def JY(c:Nat)(N:Jd):Jd:=λl g=>g.status=Ð/\mayWake P g=É/\∃a,a.status=Ð/\(∀(b:Æ) cap buf s r tm,b.heap[c]?=À (χ cap buf Ã s r tm)->Ù P main g b=aS a (b.setChan c cap buf É s r tm) (Dq c))/\fq P main N l a
def pA(n:Nat):Jd:=λl g=>QuitsD P n l.d g
inductive SP where
 |gi (n:Nat)
 |ld (v:Int) (m:Nat)
def Dr(a:Ú)(B:Nat)(d e:Int->Jd)(p:SP):Jd:=λl g=>∃T:SP->Ó->Prop,T p g/\∀p g,T p g->g.status=Ð/\match p with
 |.gi (n+1)=>n+1<=B/\(T (.gi 0) g\/∀b,∃c,Ù P main g b=aS c b #[]/\T (.gi n) c)
 |.gi 0=>∀v,∃c,(∀b:Æ,b.cell? a=À (Ć æ v)->Ù P main g b=aS c b #[kG a])/\(if 0<=v/\v<gk then v<1000000->fq P main (d v) l c else(gk<=v/\v<gk*2147483648/\v%gk<1000000)->∃m,m<=B/\T (.ld v m) c)
 |.ld v (m+1)=>gk<=v/\m+1<=B/\(T (.ld v 0) g\/∀b,∃c,Ù P main g b=aS c b #[]/\T (.ld v m) c)
 |.ld v 0=>gk<=v/\(∃c,(∀b:Æ,b.cell? a=À (Ć æ v)->b.frozen? a=Ã->Ù P main g b=aS c (b.setCell a<|Ć æ<|æ.wrap<|v+1) #[kG a,mY a])/\fq P main (e v) l c)/\
  ∃c,(∀(b:Æ) (x:Int),x≠v->b.cell? a=À (Ć æ x)->b.frozen? a=Ã->Ù P main g b=aS c b #[kG a])/\∃n,n<=B/\T (.gi n) c
end
section
variable{P:Õ}{main:Bool}
def JZ{e f:Int->Jd}{p:SP}{l:fh}{w₁:Æ}(h:Dr P main a i e f p l g)(r:fL l l.w w₁):Dr P main a i e f p {l with w:=w₁} g:=by
 let⟨T,o,h⟩:=h;refine⟨T,o,λp g j=>⟨(h p g j).1,?_⟩⟩;have:=(h p g j).2;match p,this with
 |.gi (n+1),q=>exact q
 |.gi 0,q=>
  intro v;let⟨c,d,b⟩:=q v;refine⟨c,d,?_⟩;by_cases k:0<=v/\v<gk
  .rw[if_pos k]at b|-;exact λq=>(b q).kg r
  .rw[if_neg k]at b|-;exact b
 |.ld v (m+1),q=>exact q
 |.ld v 0,⟨q0,⟨c,d,b⟩,q⟩=>exact⟨q0,⟨c,d,b.kg r⟩,q⟩
end
inductive iD where
 |no|iE|sS (c:Nat) (z:Â)
inductive xj(g0:Ó):iD->Ó->Prop
 |gw {k:iD}:xj g0 k g0
 |nY (h:g0.status=Ð) (ho:g0.offers=ë):xj g0 .iE {g0 with status:=Ů}
 |tW (c:Nat) (z:Â) (h:g0.status=Ð):xj g0 (.sS c z) (Γ g0 #[θ c z]<|.recv É)
 |nu (c:Nat) (z:Â) (h:g0.status=Ð):xj g0 (.sS c z) {Γ g0 #[θ c z] (.recv É)with status:=Ð}
section
variable{P:Õ}
theorem agD(h:g.status=Ð\/g.status=Ğ)(w:Æ):g.again w=g:=by unfold ι;grind
theorem OJ{a o:Ó}(h:o.status=Ð\/o.status=Ğ):ţ P g a w o=o:=by unfold ţ;grind [agD]
def xj.Ge{g0 a b:Ó}{k:iD}(h:xj g0 k g)(d:g0.status=Ð\/g0.status=Ğ):xj g0 k (ţ P a b w g):=by
 cases h with
 |gw=>rw[OJ d];exact .gw
 |nY h c=>
  unfold ţ;split
  .have:ι w {g0 with status:=Ů}=g0:=by
    let⟨z,e,st,f,i⟩:=g0;simp only at h c;subst h c;rfl
   rw[this];exact .gw
  .exact .nY h c
 |tW c z h=>
  unfold ţ;split
  .unfold ι Γ;simp only[];split
   .exact .nu c z h
   .exact .tW c z h
  .exact .tW c z h
 |nu c z h=>
  rw[OJ<|Ç U];exact .nu c z h
end
structure gO(P:Õ)(B0:Nat)(Y:Nat->Prop)(S:Nat->Jd)(tr:Nat->gD)(kp:Nat->iD)(lot:Nat->fh)(gs:Array Ó)(w:Æ)(t:ğ):Prop where
 r:iX B0 (λi=>i<gs.size) Y lot w t
 C:∀i g,gs[i]?=À g->∃g0,lr P (i==0) (S i) (tr i) (lot i) g0/\xj g0 (kp i) g/\(g0.status=Ð\/g0.status=Ğ)/\(g=g0\/tr i=.fE)
 I:∀j,gs.size<=j->Τ t j=0
def fC{α:Type}(f:Nat->α)(i:Nat)(x:α):Nat->α:=λk=>if k=i then x else f k
theorem gI{α:Type}(f:Nat->α)(i:Nat)(x:α):fC f i x i=x:=if_pos U
theorem fM{α:Type}(f:Nat->α)(x:α)(h:k≠i):fC f i x k=f k:=if_neg h
section
variable{P:Õ}{B0:Nat}{Y:Nat->Prop}{S:Nat->Jd}{tr:Nat->gD}{kp:Nat->iD}{lot:Nat->fh}{gs:Array Ó}{w':Æ}{t:ğ}{sl:Option (Nat×Nat)}
theorem OL{a:Ó}(b:gs[i]?=À g)(h:Ù P (i==0) g w=aS a w' V): ∃gs',cW P (ķ gs w sl) i=(ň<|ķ gs' w' sl,Í i g.frame.fn g.frame.place V)/\gs'.size=gs.size/\gs'[i]?=À a/\∀k,k≠i->gs'[k]?=gs[k]?.map (ţ P g a w'):=by refine⟨_,runT_crowd_go b h,ft,by simp[(Ë.1 b).1],λk c=> ?_⟩;grind
def gO.at(a:gO P B0 Y S tr kp lot gs w t)(d:Nat):gO P B0 Y S tr kp lot gs (w.at d) t:=⟨a.r.at d,a.C,a.I⟩
theorem gO.XH(f:gO P B0 Y S tr kp lot gs w t){a:Ó}{J:Jd}{T:gD}{K:iD}{d:fh}(h:gs[i]?=À g)(o:Ù P (i==0) g w=aS a w' V) (B:iX B0 (λi=>i<gs.size) Y (gC lot i d) w' (t++Í i g.frame.fn g.frame.place V)) (hF:lr P (i==0) J T d a) (p:a.status=Ð\/a.status=Ğ): ∃b,cW P (ķ gs w sl) i=(ň<|ķ b w' sl,Í i g.frame.fn g.frame.place V)/\b.size=gs.size/\b[i]?=À a/\(∀k,k≠i->b[k]?=gs[k]?.map (ţ P g a w'))/\ gO P B0 Y (fC S i J) (fC tr i T) (fC kp i K) (gC lot i d) b w' (t++Í i g.frame.fn g.frame.place V):=by
 obtain⟨b,q,r,l,m⟩:=OL h o;have C:=(Ë.1 h).1;refine⟨b,q,r,l,m,?_,λk x c=> ?_,λj D=> ?_⟩
 .grind
 .by_cases e:k=i
  .subst e;rw[l]at c;obtain rfl:=Ĥ c;rw[gI,gI,gI,gY];exact⟨a,hF,.gw,p,Ç U⟩
  .rw[m k e]at c;obtain⟨y,s,rfl⟩:=ģ.1 c;rw[fM S _ e,fM tr _ e,fM kp _ e,gK lot _ e];let⟨g0,u,v,n,z⟩:=f.C k y s;refine⟨g0,u,v.Ge n,n,z.imp (λe=> ?_) id⟩;grind [OJ]
 .rw[OG Z t ov];exact f.I j Z
theorem agE{J:Jd}{k:Æ->gD}{l:fh}(h:lr P yQ J (.jR k) l g):g.status=Ð:=h.1
def gO.fx(f:gO P B0 Y S tr kp lot gs w t){k:Æ->gD}(m:gs[i]?=À g)(n:tr i=.jR k)(s:∀l g,S i l g->g.status=Ð\/g.status=Ğ): ∃c w' d h,cW P (ķ gs w sl) i=(ň<|ķ c w' sl,Í i g.frame.fn g.frame.place d)/\c.size=gs.size/\(∃b,c[i]?=À b/\(b.status=Ð\/b.status=Ğ))/\(∀k,k≠i->∃a j:Ó,c[k]?=gs[k]?.map (ţ P a j w'))/\mL (lot i) h w w' d/\ gO P B0 Y S (fC tr i<|k w) kp (gC lot i h) c w' (t++Í i g.frame.fn g.frame.place d):=by
 have o:=(Ë.1 m).1;let⟨g0,hF,F,_,u⟩:=f.C i g m;obtain rfl:g=g0:=u.resolve_right (by rw[n];simp);rw[n]at hF;let⟨G,hF⟩:=hF;let⟨b,w',d,h,v,p,e⟩:=hF w<|f.r.r i o;have q:b.status=Ð\/b.status=Ğ:=by
  cases j:k w with
  |fE=>rw[j]at e;exact s _ _<|e _<|fL.gd _ _
  |jR r=>rw[j]at e;exact Ç e.1
 obtain⟨c,x,y,z,B,r⟩:=f.XH m v (f.r.agv o p _ _) e q;refine⟨c,w',d,h,x,y,⟨b,z,q⟩,λj C=>⟨g,b,B j C⟩,p,?_⟩;have D:fC S i (S i)=S:=by funext j;unfold fC;split<;>simp[*]
 have E:fC kp i (kp i)=kp:=by funext j;unfold fC;split<;>simp[*]
 rwa[D,E]at r
theorem gO.qK(c:gO P B0 Y S tr kp lot gs w t){a:Ó}{J:Jd}{K:iD}{T:gD}(l:gs[i]?=À g)(m:Ù P (i==0) g w=aS a w' V)(n:p9 (λi=>i<gs.size) Y lot w w') (hF:lr P (i==0) J T {lot i with d:=ŭ (lot i).d V,w:=w'} a) (o:a.status=Ð\/a.status=Ğ) (p:∀e∈V,(∀b,(è e).touch?=À b->Gc (λi=>i<gs.size) Y lot b)/\(è e).low w.heap.size) (q:∀r,¬eG r (t++Í i g.frame.fn g.frame.place V)): ∃gs',cW P (ķ gs w sl) i=(ň<|ķ gs' w' sl,Í i g.frame.fn g.frame.place V)/\gs'.size=gs.size/\gs'[i]?=À a/\(∀k,k≠i->gs'[k]?=gs[k]?.map (ţ P g a w'))/\ gO P B0 Y (fC S i J) (fC tr i T) (fC kp i K) (gC lot i {lot i with d:=ŭ (lot i).d V,w:=w'}) gs' w' (t++Í i g.frame.fn g.frame.place V):=by
 refine c.XH l m (c.r.G (λk=> ?_) n (λh f b j=> ?_) (λh f=> ?_) q λk h=> ?_) hF o
 .by_cases e:k=i
  .subst e;rw[gY];exact⟨U,U,U,U,U,Î U⟩
  .grind [gK,vE.gd]
 .obtain⟨e,j,rfl⟩:=í f;grind
 .obtain⟨e,j,rfl⟩:=í f;exact(p e j).2
 .by_cases e:k=i
  .subst e;rw[gY,Deaf_own,c.r.f k h]
  .rw[gK lot _ e,OG e t ov];exact c.r.f k h
def gO.OM(h:gO P B0 Y S tr kp lot gs w t)(p:gs[i]?=À g)(x:i≠0)(l:g.status=Ð)(q:kp i=.no)(y:tr i=.fE)(z:S i=pA P n): ∃c f b,n=b+1/\cW P (ķ gs w sl) i=(ň<|ķ c w sl,Í i g.frame.fn g.frame.place f)/\c.size=gs.size/\(∀k,k≠i->∃a e:Ó,c[k]?=gs[k]?.map (ţ P a e w))/\(∀e∈f,e.mute=É)/\ gO P B0 Y (fC S i<|pA P b) tr kp (gC lot i {lot i with d:=ŭ (lot i).d f,w:=w}) c w (t++Í i g.frame.fn g.frame.place f):=by
 let⟨g0,hF,r,L,_⟩:=h.C i g p;have B:g=g0:=by
  rw[q]at r;cases r with
  |gw=>rfl
 subst B;rw[y,z]at hF;have s:=hF w<|h.r.r i<|(Ë.1 p).1;cases n with
 |zero=>rw[s.1]at l;cases l
 |succ n=>
  rcases s with⟨C,_⟩|⟨_,D,f,a,E,u⟩
  .rw[C]at l;cases l
  have m:(i==0)=Ã:=by simpa using x
  have F:fC kp i .no=kp:=by funext j;unfold fC;split<;>simp[*]
  have G:fC tr i .fE=tr:=by funext j;unfold fC;split<;>simp[*]
  obtain⟨c,H,I,_,K,v⟩:=h.qK (J:=pA P n) (T:=.fE) p (by rw[m];exact E w) (p9.gd _ _ _ _) (λ_ _=>u) u.status (λe o=>⟨λb m=>(by rw[ek<|a e o]at m;cases m),low_mute (a e o) _⟩) (A0 h.r.l λM b=>by obtain⟨e,o,rfl⟩:=í b;exact ek<|a e o);rw[F,G]at v;exact⟨c,f,n,U,H,I,λk q=>⟨g,D,K k q⟩,a,v⟩
end
def xk(u:ğ):Prop:=∀a∈u,a.act.touch?=ë/\∀m,a.act≠Ř m
theorem agF(t:ğ)(a:cX)(b:a.act≠Ř cK)(c:a.act≠Ř dy)(j:Nat):Τ (t.push a) j=Τ t j:=by
 have d:t.push a=t++#[a]:=ft
 unfold Τ;rw[d,show(t++#[a]).size=t.size+1 by simp];show(match(t++#[a])[t.size]? with
  |some {g:=h,act:=Ř cK, .. }=>if h=j then(t++#[a]).deaf j t.size+1 else(t++#[a]).deaf j t.size
  |some {g:=h,act:=Ř dy, .. }=>if h=j then(t++#[a]).deaf j t.size-1 else(t++#[a]).deaf j t.size
  |_=>(t++#[a]).deaf j t.size)=_
 have e:(t++#[a])[t.size]?=À a:=ft
 rw[e];let⟨g,f,i,k⟩:=a;simp only at b c;split
 .grind
 .grind
 .exact cN<|ß _
def XJ(t:ğ):∀(u:List cX),(∀a∈u,a.act≠Ř cK/\a.act≠Ř dy)->∀j,Τ (t++u.toArray) j=Τ t j
 |[],_,j=>by simp
 |a::u,h,j=>by
  have e:t++(a::u).toArray=(t.push a)++u.toArray:=by apply Array.ext';simp
  rw[e,XJ (t.push a) u (λx b=>h x<|by simp[b]) j];exact agF t a (h a ft).1 (h a ft).2 j
def J0{u:ğ}(h:xk u)(j:Nat):Τ (qJ++u) j=Τ qJ j:=by have:=XJ qJ u.toList (λa b=>⟨(h a<|by simpa using b).2 _,(h a<|by simpa using b).2 _⟩) j;simpa using this
section
variable{S:Nat->Jd}{C:Nat->gD}{B:Nat->iD}{lot:Nat->fh}{u:ğ}{sl:Option (Nat×Nat)}
def iX.agG{Live:Nat->Prop}(h:iX i Live X lot w qJ)(f:p9 Live X lot w W)(c:xk u)(g:∀a∈u,a.act.low w.heap.size):iX i Live X lot W (qJ++u):= h.G (λk=>vE.gd _ _) f (λa d b e=>by rw[(c a d).1]at e;cases e) g (A0 h.l λa d=>(c a d).1) λk b=>by rw[J0 c];exact h.f k b
def J3{Live:Nat->Prop}{r:Nat}{x:Bool}(y:X i)(p:w.heap[i]?=À (χ n d yQ j r x))(f g h:Nat)(l:Array Â)(m o:Bool):p9 Live X lot w (w.setChan i f l m g h o):=by
 have q:∀b,b≠i->(w.setChan i f l m g h o).heap[b]?=w.heap[b]?:=λb u=>by unfold au;simp only;exact Ï<|ą u
 have v:(w.setChan i f l m g h o).heap[i]?=À (χ f l m g h o):=by unfold au;simp[(Ë.1 p).1]
 refine⟨by unfold au;simp,λb u=>q b λe=>u<|e▸y,λk _ a _=> ?_,λk _ a _=> ?_,λa t=> ?_⟩
 .by_cases e:a.block=i
  .unfold Ġ;rw[e,v,p]
  .unfold Ġ;rw[q _ e]
 .by_cases e:a.block=i
  .unfold Ĉ;rw[e,v,p]
  .unfold Ĉ;rw[q _ e]
 .by_cases e:a.block=i
  .unfold Ġ at t;rw[e,p]at t;cases t
  .have:(w.setChan i f l m g h o).cell? a=w.cell? a:=by unfold Ġ;rw[q _ e]
   rwa[this]
def gO.G(b:gO P i X S C B lot E w qJ){J:Jd}{T:gD}{K:iD}(d:n<E.size)(f:p9 (λn=>n<E.size) X lot w W)(c:xk u)(h:∀l∈u,l.act.low w.heap.size) (hF:lr P (n==0) J T (lot n) g) (m:g.status=Ð\/g.status=Ğ): gO P i X (fC S n J) (fC C n T) (fC B n K) lot (E.setIfInBounds n g) W (qJ++u):=by
 refine⟨?_,λk x a=> ?_,λj o=> ?_⟩
 .rw[show(λj=>j<(E.setIfInBounds n g).size)=(λj=>j<E.size) by simp];exact b.r.agG f c h
 .by_cases e:k=n
  .subst e;rw[Ò d]at a;obtain rfl:=Ĥ a;rw[gI,gI,gI];exact⟨_,hF,.gw,m,Ç U⟩
  .rw[Ï<|ą e]at a;rw[fM S _ e,fM C _ e,fM B _ e];exact b.C k x a
 .rw[J0 c];exact b.I j<|by simpa using o
def ON{γ δ:Type}{f:γ->List δ}:∀{l:List γ},(∀x∈l,f x=[])->l.flatMap f=[]
 |[],_=>rfl
 |x::l,h=>by rw[aV,h x ft,ON λy a=>h y (by simp[a])];rfl
def yT(r:Nat)(b:Bool)(g:Ó):Prop:=g.status=Ů/\∃a d,g.offers=À (a,d)/\∃c∈a,(c.send.isSome==b)=É/\(match c.chan with|eu (À r')=>r'==r|_=>Ã)=É
theorem XK{r:Nat}{E:Array Ó}(h:∀(i:Nat) (g:Ó),E[i]?=À g->¬yT r yQ g):Η E r yQ=[]:=by
 unfold Η;refine ON λx m=> ?_;let⟨g,i⟩:=x;have d:E[i]?=À g:=by grind
 simp only[];split
 .rename_i b e f j;rw[aj,Υ];intro y n a;let⟨c,k⟩:=y;have l:c∈b:=by
   grind
  simp only[ě]at a;exact h i g d ⟨f,b,e,j,c,l,a.1,by have:=a.2;revert this;cases c.chan<;>first|exact id|(rename_i q;cases q<;>exact id)⟩
 .rfl
def XL{γ δ:Type}(f:γ×Nat->List δ):∀(L:List γ) (n h:Nat) (x:γ),(∀y k,k≠h->(y,k)∈L.zipIdx n->f (y,k)=[])->n<=h->L[h-n]?=À x->(L.zipIdx n).flatMap f=f (x,h)
 |[],n,h,x,_,_,hx=>by simp at hx
 |a::L,n,h,x,hf,hn,hx=>by
  rw[Ĭ,aV];by_cases e:h=n
  .subst e;have:a=x:=by simpa using hx
   subst this;rw[ON ?_,List.append_nil];intro y b;let⟨y,k⟩:=y;refine hf y k ?_ (by rw[Ĭ];exact ò _ b);have:=List.le_snd_of_mem_zipIdx b;simp only at this;omega
  .rw[hf a n Z (by rw[Ĭ];exact î ..),List.nil_append];refine XL f L (n+1) h x (λy k c b=>hf y k c<|by rw[Ĭ];exact ò _ b) Z ?_;have b:h-n=(h-(n+1))+1:=Z
   rw[b]at hx;simpa using hx
theorem agH{E:Array Ó}(l:E[n]?=À g)(m:g.status=Ů)(o:g.offers=À (#[θ i z],.recv É))(p:∀(a:Nat) (b:Ó),a≠n->E[a]?=À b->¬yT i Ã b):Η E i Ã=[(n,0)]:=by
 unfold Η;have e:E.zipIdx.toList=E.toList.zipIdx:=ft
 rw[e];rw[XL _ E.toList 0 n g (λy k r B=> ?_) (dA _) (by simpa using l)]
 .simp[m,o,θ]
 .have s:E[k]?=À y:=by
   grind
  simp only[];split
  .rename_i j t u v;rw[aj,Υ];intro x C d;let⟨f,D⟩:=x;have w:f∈j:=by
    grind
   simp only[ě]at d;exact p k y r s ⟨u,j,t,v,f,w,d.1,by have:=d.2;revert this;cases f.chan<;>first|exact id|(rename_i q;cases q<;>exact id)⟩
  .rfl
theorem OO(h:(E.setIfInBounds i ph)[k]?=À g):g.status=Ğ\/(k≠i/\E[k]?=À g):=by
 by_cases e:k=i
 .subst e;rw[Ś]at h;simp only[if_true]at h;split at h
  .left;obtain rfl:=Ĥ h;rfl
  .cases h
 .grind
theorem gO.OP(l:gO P i X S C B lot E w qJ)(c a:Nat):Η (E.setIfInBounds a ph) c É=[]:=by
 refine XK λk x m=> ?_;rintro⟨d,p,r,b,n,f,o,_⟩;rcases OO m with q|⟨_,q⟩
 .grind
 .let⟨g0,_,g,j,_⟩:=l.C k x q;generalize B k=K at g;cases g with
  |gw=>rw[d]at j;rcases j with e|e<;>cases e
  |nY h e=>simp only[e]at b;cases b
  |tW e z h=>
   simp only[Γ,ž,Prod.mk.injEq]at b;rw[<-b.1]at f;have:n=θ e z:=by simpa using f
   subst this;cases o
  |nu e z h=>cases d
def gO.OQ(e:gO P i X S C B lot E w qJ){N:Option Â->Jd}(f:E[n]?=À g)(k:g.status=Ð)(l:B n=.sS j z)(m:C n=.fE)(o:S n=xi P (n==0) j z N): ∃a,lr P (n==0) (S n) (C n) (lot n) a/\a.status=Ð/\a.offers=ë/\Ù P (n==0) g w=.comm a #[θ j z] É (.recv É) w #[]/\∀x:Option Â,fq P (n==0) (N x) (lot n) {a with frame:=a.frame.finish (ſ #[x.getD z,Ľ x.isSome])}:=by
 let⟨a,hF,b,_,_⟩:=e.C n g f;have p:=hF;rw[o,m]at hF;let⟨x,q,d,r⟩:=hF _<|fL.gd _ _;rw[l]at b;refine⟨a,p,x,q,?_,r⟩;cases b with
 |gw=>exact d w
 |tW j z h=>cases k
 |nu j z h=>rw[stepG_tries];rw[show({a with status:=Ð}:Ó)=a by cases a;simp only at x;subst x;rfl];exact d w
def yU{g0:Ó}{a:Array CommCase}{b:CommShape}{ok:Bool}(c:g0.status=Ð)(d:g0.offers=ë):g0.finishComm P a b h v ok={g0 with frame:=g0.frame.finish (commResult a b h v ok)}:=by let⟨f,a,st,e,o⟩:=g0;simp only at c d;subst c d;rfl
def gO.ny(e:gO P i X S C B lot E w qJ){N:Option Â->Jd}(h:E[n]?=À g)(G:g.status=Ð)(l:B n=.sS j z)(H:C n=.fE)(I:S n=xi P (n==0) j z N)(p:X j){r:Nat}{o:Bool}(q:w.heap[j]?=À (χ b d yQ m r o))(t:d[0]?=À v)(K:iD): ∃a u T f,cW P (ķ E w sl) n=(ň<|ķ a (w.setChan j b (d.extract 1 d.size) yQ m (r+1) o) sl,u)/\a.size=E.size/\a[n]?=À f/\f.status=Ð/\(∀k,k≠n->a[k]?=E[k]?)/\xk u/\ gO P i X (fC S n<|N<|À v) (fC C n T) (fC B n K) lot a (w.setChan j b (d.extract 1 d.size) yQ m (r+1) o) (qJ++u):=by
 have x:=(Ë.1 h).1;let⟨g0,_,f,y,J,L⟩:=e.OQ h G l H I;have D:d.getD 0 ľ=v:=by simp[ĩ,t]
 have M:=crowd_recv_buf (sl:=sl) h J q ((Ë.1 t).1)<|e.OP j n;let⟨T,O⟩:=ju<|L<|À v;refine⟨_,_,T,{g0 with frame:=g0.frame.finish (ſ #[v,Ľ É])},M,ft,?_,f,λk l=>Ï<|ą l,?_,?_⟩
 .rw[yU f y,D,Ò x];rfl
 .intro F a;simp[Í]at a;rcases a with rfl|rfl<;>exact⟨U,ft⟩
 .rw[yU f y,D];refine e.G x (J3 p q _ _ _ _ _ _) ?_ ?_ O<|Ç f
  .intro F a;simp[Í]at a;rcases a with rfl|rfl<;>exact⟨U,ft⟩
  .intro F a;simp[Í]at a;rcases a with rfl|rfl<;>exact e.r.N j p
def gO.ji(e:gO P i X S C B lot E w qJ){N:Option Â->Jd}(h:E[n]?=À g)(q:g.status=Ð)(l:B n=.sS j z)(t:C n=.fE)(v:S n=xi P (n==0) j z N)(x:X j){r:Nat}(y:w.heap[j]?=À (χ b #[] É k r yQ))(K:iD): ∃d u T f,cW P (ķ E w sl) n=(ň<|ķ d w sl,u)/\d.size=E.size/\d[n]?=À f/\f.status=Ð/\(∀a,a≠n->d[a]?=E[a]?)/\xk u/\ gO P i X (fC S n<|N ë) (fC C n T) (fC B n K) lot d w (qJ++u):=by
 have m:=(Ë.1 h).1;let⟨g0,_,f,o,D,F⟩:=e.OQ h q l t v;let⟨T,G⟩:=ju<|F ë;refine⟨_,_,T,{g0 with frame:=g0.frame.finish (ſ #[z,Ľ Ã])},crowd_recv_closed (sl:=sl) h D y<|e.OP j n,ft,?_,f,λa l=>Ï<|ą l,?_,?_⟩
 .rw[yU f o,Ò m];rfl
 .intro p d;simp[Í]at d;subst d;exact⟨U,ft⟩
 .rw[yU f o];refine e.G m (p9.gd _ _ _ _) ?_ ?_ G<|Ç f
  .intro p d;simp[Í]at d;subst d;exact⟨U,ft⟩
  .intro p d;simp[Í]at d;subst d;exact e.r.N j x
def gO.agI(f:gO P i X S C B lot E w qJ){N:Option Â->Jd}(m:E[n]?=À g)(u:g.status=Ð)(h:B n=.sS j z)(o:C n=.fE)(v:S n=xi P (n==0) j z N){r:Nat}(p:w.heap[j]?=À (χ b #[] Ã k r yQ)): ∃d e,cW P (ķ E w sl) n=(ň<|ķ d w sl,#[])/\d.size=E.size/\d[n]?=À e/\e.status=Ů/\(∀a,a≠n->d[a]?=E[a]?)/\gO P i X S C B lot d w qJ:=by
 have q:=(Ë.1 m).1;let⟨g0,hF,t,G,y,H⟩:=f.OQ m u h o v;have D:=crowd_waits (sl:=sl) m y (λd e=>by
  have:d=θ j z:=by simpa using e
  subst this;exact⟨by simp[illMade,θ,p],by simp[ways,θ,p,f.OP j n]⟩)
 refine⟨_,Γ g0 #[θ j z]<|.recv É,?_,ft,Ò q,U,λa h=>Ï<|ą h,?_,λa x l=> ?_,λd F=>f.I d<|by simpa using F⟩
 .rw[D];rfl
 .rw[show(λd=>d<(E.setIfInBounds n<|Γ g0 #[θ j z]<|.recv É).size)=(λd=>d<E.size) by simp];exact f.r
 .by_cases e:a=n
  .subst e;rw[Ò q]at l;obtain rfl:=Ĥ l;refine⟨g0,hF,?_,Ç t,Î o⟩;rw[h];exact .tW j z t
  .rw[Ï<|ą e]at l;exact f.C a x l
def gO.iO(f:gO P i X S C B lot E w qJ){N:Jd}(h:E[n]?=À g)(l:B n=.no)(F:C n=.fE)(G:S n=A1 P (n==0) b v N)(p:X b){r:Nat}(t:w.heap[b]?=À (χ m d Ã J r yQ))(H:d.size<m) (I:∀(k:Nat) (x:Ó),E[k]?=À x->¬yT b Ã x): ∃e u T a,cW P (ķ E w sl) n=(ň<|ķ e (w.setChan b m (d.push v) Ã (J+1) r yQ) sl,u)/\e.size=E.size/\e[n]?=À a/\a.status=Ð/\(∀k,k≠n->e[k]?=E[k]?)/\xk u/\ gO P i X (fC S n N) (fC C n T) B lot e (w.setChan b m (d.push v) Ã (J+1) r yQ) (qJ++u):=by
 have y:=(Ë.1 h).1;let⟨g0,hF,z,_,_⟩:=f.C n g h;rw[l]at z;cases z with
 |gw=>
  rw[G,F]at hF;let⟨a,D,o,K⟩:=hF _<|fL.gd _ _;let⟨V,o⟩:=o w;have L:Η (E.setIfInBounds n ph) b Ã=[]:=XK λk x M=>by
   rcases OO M with q|⟨_,q⟩
   .rintro⟨e,_⟩;rw[q]at e;cases e
   .exact I k x q
  let⟨T,O⟩:=ju K;have Q:fC B n .no=B:=by funext j;unfold fC;split<;>simp[*]
  refine⟨_,_,T,{g with frame:=g.frame.finish ľ},crowd_send_room (sl:=sl) h o t H L,ft,?_,a,λk l=>Ï<|ą l,?_,?_⟩
  .rw[yU a D,Ò y];rfl
  .intro q e;simp[Í]at e;rcases e with rfl|rfl<;>exact⟨U,ft⟩
  .rw[yU a D,<-Q];refine f.G y (J3 p t _ _ _ _ _ _) ?_ ?_ O<|Ç a
   .intro q e;simp[Í]at e;rcases e with rfl|rfl<;>exact⟨U,ft⟩
   .intro q e;simp[Í]at e;rcases e with rfl|rfl<;>exact f.r.N b p
def gO.agJ(o:gO P i X S C B lot E w qJ){p:Ó}{N:Jd}{D:Option Â->Jd}(F:E[n]?=À g)(f:B n=.no)(ht:C n=.fE)(hs:S n=A1 P (n==0) b v N)(L:X b){r:Nat}(M:w.heap[b]?=À (χ J d Ã j9 r yQ)) (G:j≠n) (t:E[j]?=À p) (O:p.status=Ů) (J4:B j=.sS b z) (OS:C j=.fE) (J5:S j=xi P (j==0) b z D) (K:iD) (hp:∀(k:Nat) (x:Ó),k≠j->E[k]?=À x->¬yT b Ã x): ∃e u T y h q,cW P (ķ E w sl) n=(ň<|ķ e (w.setChan b J d Ã (j9+1) (r+1) yQ) sl,u)/\e.size=E.size/\e[n]?=À h/\h.status=Ð/\e[j]?=À q/\q.status=Ð/\(∀k,k≠n->k≠j->e[k]?=E[k]?)/\xk u/\ gO P i X (fC (fC S j<|D<|À v) n N) (fC (fC C j y) n T) (fC (fC B j K) n .no) lot e (w.setChan b J d Ã (j9+1) (r+1) yQ) (qJ++u):=by
 have Q:=(Ë.1 F).1;have V:=(Ë.1 t).1;let⟨g0,hF,W,_,_⟩:=o.C n g F;let⟨a,Y,XM,auX,_⟩:=o.C j p t;rw[f]at W;rw[J4]at XM;cases W with
 |gw=>
  rw[hs,ht]at hF;let⟨H,h2,I,h4⟩:=hF _<|fL.gd _ _;let⟨z',I⟩:=I w;rw[J5,OS]at Y;let⟨l,k2,k3,k4⟩:=Y _<|fL.gd _ _;have Ds:p=Γ a #[θ b z] (.recv É):=by
   cases XM with
   |gw=>rw[O]at l;cases l
   |tW _ _ h=>rfl
   |nu _ _ h=>cases O
  subst Ds;have hpn:Η (E.setIfInBounds n ph) b Ã=[(j,0)]:=agH (by rwa[Ï<|ą G]) U U λk x f hx=>by
   rcases OO hx with q|⟨_,q⟩
   .rintro⟨e,_⟩;rw[q]at e;cases e
   .exact hp k x f q
  have OT:=crowd_send_meets (sl:=sl) F I M G t hpn;let⟨T,hT⟩:=ju h4;let⟨y,hTj⟩:=ju<|k4<|À v;rw[yU H h2,yU l k2]at OT;have q:∀{h:cX},h∈Í n g.frame.fn g.frame.place #[]++#[{g:=n,fn:=g.frame.fn,pos:=g.frame.place,act:=.send b j9},{g:=j,fn:=a.frame.fn,pos:=a.frame.place,act:=.recv b r J},{g:=n,fn:=g.frame.fn,pos:=g.frame.place,act:=.sendDone b j9},{g:=j,fn:=a.frame.fn,pos:=a.frame.place,act:=.recvDone b r}]->(h.act.touch?=ë/\∀m,h.act≠Ř m)/\h.act.low w.heap.size:=by intro h e;simp[Í]at e;rcases e with rfl|rfl|rfl|rfl<;>exact⟨⟨U,ft⟩,o.r.N b L⟩
  refine⟨_,_,T,y,{g with frame:=g.frame.finish ľ},{a with frame:=a.frame.finish (ſ #[v,Ľ É])},OT,ft,?_,H,?_,l,λk f tX=> ?_,λh e=>(q e).1,?_⟩
  .rw[Ò (by simpa using Q)];rfl
  .rw[Ï<|ą G,Ò V];rfl
  .rw[Ï<|ą f,Ï<|ą tX]
  .have m:gO P i X (fC S j<|D<|À v) (fC C j y) (fC B j K) lot (E.setIfInBounds j {a with frame:=a.frame.finish (ſ #[v,Ľ É])}) w (qJ++#[]):=o.G V (p9.gd _ _ _ _) (λh e=>by simp at e) (λh e=>by simp at e) hTj<|Ç l;rw[ď]at m;refine m.G (by simpa using Q) (J3 L M _ _ _ _ _ _) (λh e=>(q e).1) (λh e=>(q e).2) hT<|Ç H
theorem gO.lh(o:gO P i X S C B lot E w qJ){N:Jd}(I:E[n]?=À g)(K:B n=.no)(ht:C n=.fE)(hs:S n=JY P (n==0) J N)(L:X J)(hB:i<=J){r:Nat}(O:w.heap[J]?=À (χ j9 q Ã j7 r yQ)): ∃t u T G,cW P (ķ E w sl) n=(ň<|ķ t (w.setChan J j9 q É j7 r yQ) sl,u)/\t.size=E.size/\t[n]?=À G/\G.status=Ð/\(∀k x,k≠n->E[k]?=À x->t[k]?=À (x.again<|w.setChan J j9 q É j7 r yQ))/\(∀l∈u,l.g=n)/\(∀l∈u,∀b,l.act.touch?=À b->b.loc=.obj J/\b.kind=Ŕ)/\(∀l∈u,∀m,l.act≠Ř m)/\ gO P i X (fC S n N) (fC C n T) B (gC lot n {lot n with w:=w.setChan J j9 q É j7 r yQ}) t (w.setChan J j9 q É j7 r yQ) (qJ++u):=by
 have H:=(Ë.1 I).1;have Q:=o.r.N J L;let⟨g0,hF,V,_,_⟩:=o.C n g I;rw[K]at V;cases V with
 |gw=>
  rw[hs,ht]at hF;let⟨h1,h2,G,M,h4,h5⟩:=hF w<|o.r.r n H;have v:=J3 (lot:=lot) (Live:=λn=>n<E.size) L O j9 j7 r q É yQ;have y:fL (lot n) w (w.setChan J j9 q É j7 r yQ):=⟨dz v.r.symm,λj hj=>v.jY j<|o.r.I n H j hj,λa z=>v.M n H a z,λa z=>v.N n H a z,λa _=>v.I a⟩;let⟨T,hT⟩:=ju<|h5.kg ⟨y.r,y.I,y.N,y.Y,y.S⟩;have W:ŭ (lot n).d (Dq J)=(lot n).d:=bq (λe f=>by simp[Dq]at f;grind) _;have D:∀e∈Dq J,(∀b,(è e).touch?=À b->b.loc=.obj J/\b.kind=Ŕ)/\(è e).low w.heap.size:=by
   intro e f;simp[Dq]at f;rcases f with rfl|rfl
   .exact⟨λb h=>by simp[è,ÿ]at h;subst h;exact⟨U,U⟩,Q⟩
   .exact⟨λb h=>by simp[è,ÿ]at h,Q⟩
  have e2:fC B n .no=B:=by funext j;unfold fC;split<;>simp[*]
  obtain⟨t,q1,q2,q3,q4,Y⟩:=o.qK I (h4 w j9 q j7 r yQ O) v (by rwa[W]) (Ç M) (λe f=>⟨λb h=>Î ⟨J,((D e f).1 b h).1,L,((D e f).1 b h).2⟩,(D e f).2⟩) (OC o.r.l ov λl F b h=>by obtain⟨e,f,rfl⟩:=í F;let⟨z1,z2⟩:=(D e f).1 b h;refine Î (Î ⟨z2,λp a z hl rI=> ?_⟩);have:=o.r.s p a J z (by rw[hl,z1]) rI;omega);rw[W,e2]at Y;refine⟨t,_,T,G,q1,q2,q3,M,λk x K p=> ?_,ov,λl F b h=> ?_,λl F=> ?_,Y⟩
  .rw[q4 k K,p];simp only[bH,ž];unfold ţ;rw[if_pos (by simp[h2,M])]
  .obtain⟨e,f,rfl⟩:=í F;exact(D e f).1 b h
  .obtain⟨e,f,rfl⟩:=í F;simp[Dq]at f;intro m;rcases f with rfl|rfl<;>simp[è]
end
def fS(b:Nat):Ú:=⟨b,0,ë⟩
def gT(b:Nat):Ú:=⟨b,1,ë⟩
inductive GS where
 |cl (c reg:Nat)
 |jI (reg:Nat)
 |hD (r s:Nat)
def GS.st:GS->Int
 |.cl c a=>c*gk+a
 |.jI a=>a
 |.hD _ _=>0
def GS.sm:GS->Int
 |.hD _ s=>s
 |_=>0
def GS.ok:GS->Prop
 |.cl c r=>c<1000000/\r<1000000/\(c=0->r=0)
 |.jI r=>0<r/\r<1000000
 |.hD r s=>r+s<1000000
structure ij(w:Æ)(b:Nat)(G:GS):Prop where
 C:w.cell? (fS b)=À (Ć æ G.st)
 M:w.cell? (gT b)=À (Ć ŗ G.sm)
 I:w.frozen? (fS b)=Ã
 N:w.frozen? (gT b)=Ã
 r:G.ok
theorem A2(h:w.cell? a=À x):(w.setCell a v).cell? a=À v:=by unfold Ġ at h|-;unfold ĉ;grind
theorem yV(h:a.block≠p.block\/a.off≠p.off):(w.setCell a v).cell? p=w.cell? p:=by unfold Ġ ĉ;grind
theorem OU:lb (w.setCell a v) b=lb w b:=by unfold lb ĉ;grind
def sT:(w.setCell a v).frozen? p=w.frozen? p:=by simp_all
theorem lD(h:j≠a.block):(w.setCell a v).heap[j]?=w.heap[j]?:=by unfold ĉ;grind
def j4:(w.setCell a v).heap.size=w.heap.size:=by simp_all
theorem yW(h:(w.cell? p).isSome=É):((w.setCell a v).cell? p).isSome=É:=by unfold Ġ ĉ at*;grind
theorem agK{Live Y:Nat->Prop}{c:Nat->fh}(f:Y a.block)(l:a.spot=ë)(m:∀k,Live k->¬(c k).C a)(g:∀k,Live k->∀b,(c k).C b->b.spot=ë):p9 Live Y c w (w.setCell a v):=by
 refine⟨j4,λj h=>lD λe=>h<|e▸f,λk i b d=>yV ?_,λ_ _ _ _=>sT,λb d=>yW d⟩;by_cases e:a.block=b.block
 .right;intro n;have:=g k i b d;let⟨o,p,q⟩:=b;let⟨r,s,t⟩:=a;grind
 .exact Ç e
section
variable{b:Nat}{G:GS}
def ij.vF(h:ij w b G)(a:u.cell? (fS b)=w.cell? (fS b))(c:u.cell? (gT b)=w.cell? (gT b))(d:u.frozen? (fS b)=w.frozen? (fS b))(e:u.frozen? (gT b)=w.frozen? (gT b)):ij u b G:= ⟨a.trans h.C,c.trans h.M,d.trans h.I,e.trans h.N,h.r⟩
def ij.iY(h:ij w b G)(c:a.block≠b):ij (w.setCell a v) b G:= h.vF (yV<|Ç c) (yV<|Ç c) sT sT
def ij.J6{G':GS}(h:ij w b G)(a:G'.sm=G.sm)(d:G'.ok)(e:c=G'.st):ij (w.setCell (fS b)<|Ć æ c) b G':= ⟨by rw[A2 h.C,e],by rw[yV (Î<|by simp[fS,gT]),h.M,a],by rw[sT,h.I],by rw[sT,h.N],d⟩
def ij.XO{G':GS}(h:ij w b G)(a:G'.st=G.st)(d:G'.ok)(e:c=G'.sm):ij (w.setCell (gT b)<|Ć ŗ c) b G':= ⟨by rw[yV (Î<|by simp[fS,gT]),h.C,a],by rw[A2 h.M,e],by rw[sT,h.I],by rw[sT,h.N],d⟩
end
theorem J7(a:0<=h)(b:h<18446744073709551616):æ.wrap h=h:=by have:æ.wrap h=h%18446744073709551616:=rfl;rw[this];omega
def agL(a:4294967296<=h)(b:h<18446744073709551616):æ.wrap (h+18446744069414584320)=h-4294967296:=by have:æ.wrap (h+18446744069414584320)=(h+18446744069414584320)%18446744073709551616:=rfl;rw[this];omega
theorem agM(a:0<=h)(b:h<4294967296):ŗ.wrap h=h:=by have:ŗ.wrap h=h%4294967296:=rfl;rw[this];omega
def qL:Int:=18446744069414584320
def GS.jP:GS->GS
 |.cl (c+1) reg=>if c=0/\0<reg then .jI reg else .cl c reg
 |G=>G
section
variable{b:Nat}
theorem ij.agN(h:ij w b (.cl i 0))(a:i+1<1000000):æ.wrap ((GS.cl i 0).st+gk)=(GS.cl (i+1) 0).st/\ij (w.setCell (fS b)<|Ć æ<|æ.wrap<|(GS.cl i 0).st+gk) b (.cl (i+1) 0):=by
 have e:æ.wrap ((GS.cl i 0).st+gk)=(GS.cl (i+1) 0).st:=by simp only[GS.st,gk];grind [J7]
 exact⟨e,h.J6 (G':=.cl (i+1) 0) U ⟨a,Z,Z⟩ e⟩
def ij.jP(h:ij w b (.cl (i+1) n)):æ.wrap ((GS.cl (i+1) n).st+qL)=(GS.jP<|.cl (i+1) n).st/\ij (w.setCell (fS b)<|Ć æ<|æ.wrap<|(GS.cl (i+1) n).st+qL) b (GS.jP<|.cl (i+1) n):=by
 let⟨f,a,g⟩:=h.r;have d:æ.wrap ((GS.cl (i+1) n).st+qL)=(i:Int)*gk+n:=by simp only[GS.st,gk,qL];rw[agL Z Z];omega
 have e:æ.wrap ((GS.cl (i+1) n).st+qL)=(GS.jP<|.cl (i+1) n).st:=by
  rw[d];simp only[GS.jP];by_cases q:i=0/\0<n
  .rw[if_pos q];obtain⟨rfl,_⟩:=q;simp[GS.st]
  .rw[if_neg q];rfl
 refine⟨e,h.J6 ?_ ?_ e⟩
 .simp only[GS.jP];split<;>rfl
 .simp only[GS.jP];by_cases q:i=0/\0<n
  .rw[if_pos q];exact⟨q.2,a⟩
  .rw[if_neg q];exact⟨Z,a,λe=>by omega⟩
theorem ij.XP(h:ij w b (.cl i n))(f:0<i)(a:n+1<1000000):æ.wrap ((GS.cl i n).st+1)=(GS.cl i<|n+1).st/\ij (w.setCell (fS b)<|Ć æ<|æ.wrap<|(GS.cl i n).st+1) b (.cl i (n+1)):=by
 let⟨d,g,j⟩:=h.r;have e:æ.wrap ((GS.cl i n).st+1)=(GS.cl i<|n+1).st:=by simp only[GS.st,gk];grind [J7]
 exact⟨e,h.J6 (G':=.cl i (n+1)) U ⟨d,a,λe=>by omega⟩ e⟩
def ij.XQ(h:ij w b (.jI i)):ij (w.setCell (fS b)<|Ć æ 0) b (.hD i 0):= h.J6 (G':=.hD i 0) U (by have:=h.r;simp only[GS.ok]at this|-;omega) U
theorem ij.jH{r:Nat}(h:ij w b (.hD (r+1) i)):ij (w.setCell (gT b)<|Ć ŗ<|ŗ.wrap<|(GS.hD (r+1) i).sm+1) b (.hD r (i+1)):=by have:=h.r;simp only[GS.ok]at this;refine h.XO (G':=.hD r (i+1)) U (by simp only[GS.ok];omega) ?_;simp only[GS.sm];grind [agM]
def ij.kH{r:Nat}(h:ij w b (.hD r (i+1))):ij (w.setCell (gT b)<|Ć ŗ<|(GS.hD r<|i+1).sm-1) b (.hD r i):=by have:=h.r;simp only[GS.ok]at this;refine h.XO (G':=.hD r i) U (by simp only[GS.ok];omega) ?_;simp only[GS.sm];omega
def ij.agO{G:GS}(h:ij w b G):(0<=G.st/\G.st<gk)↔∀c a,G=.cl c a->c=0:=by
 have d:=h.r;cases G with
 |cl c a=>
  let⟨r,s,f⟩:=d;simp only[GS.st,gk];constructor
  .intro q g i e;cases e;omega
  .intro q;have:=q c a U;subst this;omega
 |jI a=>simp only[GS.ok]at d;simp only[GS.st,gk];exact⟨λ_ _ _ e=>(by cases e),λ_=>by omega⟩
 |hD r s=>simp only[GS.st,gk];exact⟨λ_ _ _ e=>(by cases e),λ_=>by omega⟩
end
inductive jK where
 |jH|iI|gE (W:Nat)|jg (W:Nat)|iE (r:Nat)
inductive jz where
 |jd|mq (p:SP)|wr|kH|gE|lu
section
variable(P:Õ)(main:Bool)(B:Nat)(b:Nat)(J:Jd)
def Gf:Nat->Jd
 |0=>J
 |r+1=>λl g=>l.d=1/\agC P main (gT b) (match r with|0=>J|_=>fq P main<|Gf r) l g
def J8(W:Nat):Jd:=λl g=>l.d=1/\agA P main (fS b) 0 (Gf P main b J W) l g
def J9(W:Nat):Jd:=λl g=>l.d=1/\XG P main (fS b) (λv=>if v=(W:Int)then J8 P main b J W else λ_ _=>True) l g
def OV:Jd:=λl g=>l.d=1/\OH P main (fS b) qL (λs=>if s=0\/(gk<=s/\s<1000000*gk/\s%gk<1000000)then J else if 0<s/\s<1000000 then fq P main (J9 P main b J s.toNat)else λ_ _=>True) l g
def yY:Jd:=λl g=>l.d=0/\Gd P main (Ķ<|fS b) (OV P main b J) l g
def Dt:jK->Jd
 |.jH=>yY P main b J
 |.iI=>OV P main b J
 |.gE W=>J9 P main b J W
 |.jg W=>J8 P main b J W
 |.iE r=>Gf P main b J r
def Gi:Jd:=λl g=>l.d=0/\Gd P main (cL<|fS b) J l g
def XR:Jd:=λl g=>l.d=1/\XG P main (fS b) (λv=>if v=0 then Gi P main b J else λ_ _=>True) l g
def Ka:Jd:=λl g=>l.d=1/\agB P main (gT b) (XR P main b J) l g
def OW:Jd:=λl g=>l.d=1/\Gd P main (.write<|gT b) (Ka P main b J) l g
def OX(p:SP):Jd:=λl g=>l.d=1/\Dr P main (fS b) B (λ_=>Gi P main b J) (λv=>if v%gk=0 then OW P main b J else Ka P main b J) p l g
def qM:jz->Jd
 |.jd=>λl g=>∃k,k<=B/\OX P main B b J (.gi k) l g
 |.mq p=>OX P main B b J p
 |.wr=>OW P main b J
 |.kH=>Ka P main b J
 |.gE=>XR P main b J
 |.lu=>Gi P main b J
end
section
variable{P:Õ}{Y:Nat->Prop}{S:Nat->Jd}{tr:Nat->gD}{f:Nat->iD}{lot:Nat->fh}{gs:Array Ó}{t:ğ}
theorem iX.C{Live:Nat->Prop}(h:iX n Live Y lot w t)(E:Live i){l:fh}(s:∀b,l.O b->(lot i).O b) (x:∀b,l.I b->(lot i).M b\/(b<w.heap.size/\¬Y b/\(∀k,Live k->¬(lot k).O b)/\∀a:Ú,a.block=b->pz t i (û a))) (u:∀a,l.r a->(lot i).r a) (y:∀a,l.N a->(lot i).C a\/(Y a.block/\(∀k,Live k->¬(lot k).r a)/\pz t i (û a))) (F:l.K=(lot i).K) (D:l.d=(lot i).d) (G:l.w=w) (H:∀b,l.O b->¬l.I b) (I:∀a,l.r a->¬l.N a):iX n Live Y (gC lot i l) w t:=by
 have v:∀b,l.M b->(lot i).M b\/(b<w.heap.size/\¬Y b/\(∀k,Live k->¬(lot k).O b)/\∀a:Ú,a.block=b->pz t i (û a)):=λb g=>g.elim (λq=>Ç<|Ç<|s b q)<|x b;have B:∀a,l.C a->(lot i).C a\/(Y a.block/\(∀k,Live k->¬(lot k).r a)/\pz t i (û a)):=λa f=>f.elim (λq=>Ç<|Ç<|u a q)<|y a;refine⟨λk j c o m b g=> ?_,λk j c o m a f=> ?_,λk c b g=> ?_,λk c a f=> ?_,λk c b g=> ?_,λk c a f=> ?_,λk c b g=> ?_,h.N,λk c=> ?_,λk c=> ?_,λk c=> ?_,h.l,h.q,h.s,λk c a f=> ?_⟩
 .by_cases e:k=i
  .subst e;rw[gY]at g;rw[gK lot _<|ą m];exact h.o k j c o m b<|s b g
  .rw[gK lot _ e]at g;by_cases p:j=i
   .subst p;rw[gY];intro q;rcases v b q with z|⟨_,_,z,_⟩
    .exact h.o k j c o m b g z
    .exact z k c g
   .rw[gK lot _ p];exact h.o k j c o m b g
 .by_cases e:k=i
  .subst e;rw[gY]at f;rw[gK lot _<|ą m];exact h.h k j c o m a<|u a f
  .rw[gK lot _ e]at f;by_cases p:j=i
   .subst p;rw[gY];intro q;rcases B a q with z|⟨_,z,_⟩
    .exact h.h k j c o m a f z
    .exact z k c f
   .rw[gK lot _ p];exact h.h k j c o m a f
 .by_cases e:k=i
  .grind [gY]
  .rw[gK lot _ e]at g|-;exact h.m k c b g
 .by_cases e:k=i
  .grind [gY]
  .rw[gK lot _ e]at f|-;exact h.g k c a f
 .by_cases e:k=i
  .subst e;rw[gY]at g;exact(v b g).elim (h.I k c b) λz=>z.2.1
  .rw[gK lot _ e]at g;exact h.I k c b g
 .by_cases e:k=i
  .subst e;rw[gY]at f;exact(B a f).elim (h.e k c a) λz=>z.1
  .rw[gK lot _ e]at f;exact h.e k c a f
 .by_cases e:k=i
  .subst e;rw[gY]at g;exact(v b g).elim (h.fA k c b) λz=>z.1
  .rw[gK lot _ e]at g;exact h.fA k c b g
 .by_cases e:k=i
  .grind [gY,fL.gd]
  .rw[gK lot _ e];exact h.r k c
 .by_cases e:k=i
  .subst e;rw[gY];refine⟨λa f=>(h.S k c).fx a<|s _ f,λa f=> ?_,λa f=>(h.S k c).I a<|u a f,λa f=> ?_⟩
   .rcases x _ f with(z|z)|⟨_,_,_,z⟩
    .exact((h.S k c).fx a z).r
    .exact(h.S k c).C a z
    .exact z a U
   .rcases y _ f with(z|z)|⟨_,_,z⟩
    .exact((h.S k c).I a z).r
    .exact(h.S k c).r a z
    .exact z
  .rw[gK lot _ e];exact h.S k c
 .by_cases e:k=i
  .subst e;rw[gY,D];exact h.f k c
  .rw[gK lot _ e];exact h.f k c
 .have e:(lot k).K a:=by
   grind [gY,gK]
  let⟨p,q⟩:=h.n k c a e;grind [gY,gK]
def gO.M(b:gO P n Y S tr f lot gs w t){J:Jd}{T:gD}{K:iD}{l:fh}(c:gs[i]?=À g)(d:g.status=Ð\/g.status=Ğ)(h:iX n (λi=>i<gs.size) Y (gC lot i l) w t)(hF:lr P (i==0) J T l g): gO P n Y (fC S i J) (fC tr i T) (fC f i K) (gC lot i l) gs w t:=by
 refine⟨h,λk x a=> ?_,b.I⟩;by_cases e:k=i
 .subst e;rw[c]at a;obtain rfl:=Ĥ a;rw[gI,gI,gI,gY];exact⟨g,hF,.gw,d,Ç U⟩
 .rw[fM S _ e,fM tr _ e,fM f _ e,gK lot _ e];exact b.C k x a
end
end Go.Proofs.Y.fB
namespace Go.Proofs.Y.fB
open Go Go.Conc Go.Proofs.Y.Lift
open Go.ConcN (RelBy fork_knows)
def A3(t:ğ)(p:Nat)(l:dT):Prop:=∀q a,Ě t q=À a->a.loc=l->a.write=É->Before t q p
theorem A3.OY{u:ğ}{l:dT}(h:A3 qJ i l)(j:∀c∈u,∀b,c.act.touch?=À b->b.loc=l->b.write=É->False):A3 (qJ++u) i l:=by
 intro q a e f g;rcases mX e with⟨_,d⟩|⟨_,c,d,k,_⟩
 .exact(h q a d f g).app u
 .grind
def A3.agP{l:dT}(h:A3 qJ i l)(b:bD qJ n i):pz qJ n l:=λq a c d e=>Knows.of_before (h q a c d e) b
theorem agQ{l:dT}(h:pz qJ i l)(c:wQ.g=i)(j:wQ.act.touch?=ë):A3 (qJ++#[wQ]) qJ.size l:=by
 intro q a d e f;rcases mX d with⟨_,b⟩|⟨_,k,b,m,_⟩
 .exact Î<|(h q a b e f).hb_new (ß _) (by rw[ć<|ß _];simp) c
 .grind
structure Fx where
 L:Nat
 m:Nat
 C:Nat
 I:Nat->Nat
def Fx.M(F:Fx)(b:Nat):Prop:=b=F.C\/∃k,k<=F.m/\b=F.I k
def Fx.G(F:Fx)(x:Ú):Prop:=∃b,F.M b/\(x=fS b\/x=gT b)
def jj(F:Fx)(k:Nat):Ú:=⟨F.I k,2,ë⟩
def Fx.OZ(F:Fx)(a:Nat->Option Nat)(x:Ú)(g:Option Nat):Prop:=(x=gT F.C/\g=À 0)\/∃k j,k<=F.m/\x=gT (F.I k)/\a k=À j/\g=À (F.L+1+j)
structure TI(F:Fx)(t0:Nat)(jv:dT->Prop)(sp rl:Nat)(V:Nat->Nat->Prop)(pk:Nat->Nat)(fs:Nat->Option Nat)(rx:Nat->Prop)(ql:Nat->Nat)(t:ğ):Prop where
 N:t0<=t.size
 M:∀p a x,Ě t p=À a->a.loc=û x->F.G x->(p<t0/\t.g? p=À 0)\/a.kind=Ŕ\/(a.kind=.said/\F.OZ fs x (t.g? p))
 A4:∀x,x<sp->∀p,p<t0->t.g? p=À 0->bD t (F.L+x) p
 Y:∀k,1<=k->k<=rl->t.act? (pk k)=À (Ř<|Ķ<|fS<|F.I k)/\t.g? (pk k)=À F.L/\t.heard (pk k)
 I:∀k,1<=k->k<=rl->∀a:Ú,(V k a.block\/a=jj F k)->A3 t (pk k) (û a)
 c:∀b,F.M b->NoRelease (fS b) t
 r:∀x,x<sp->rx x->RelBy (fS F.C) t (F.L+x) (ql x)/\∀p a,Ě t p=À a->t.g? p=À (F.L+x)->p<=ql x\/((∃y:Ú,a.loc=û y/\y.block=F.C)/\a.kind=Ŕ)
 S:∀p a,t0<=p->Ě t p=À a->t.g? p=À 0\/∃x,x<sp/\t.g? p=À (F.L+x)
 e:∀p a,p<t0->Ě t p=À a->a.loc.isMemory=É->bD t 0 p\/(jv a.loc/\a.kind=Ŕ)
 d:∀p g,p<t0->t.g? p=À g->g≠0->t.counts p->∃j,t.g? j=À 0/\HappensBefore t p j
section
variable{F:Fx}{t0:Nat}{jv:dT->Prop}{sp rl:Nat}{V:Nat->Nat->Prop}{pk:Nat->Nat}{fs:Nat->Option Nat}{rx:Nat->Prop}{ql:Nat->Nat}{t u:ğ}
theorem Kb(h:t.g? i=À n):i<t.size:=by unfold Ņ at h;grind
def Gj(h:t.g? i=À n):(t++u).g? i=À n:=by rwa[aG<|Kb h]
theorem O0{a:dN}(h:Ě t i=À a):i<t.size:=by let⟨b,c,_⟩:=dO h;grind
structure Ke(F:Fx)(sp rl:Nat)(V:Nat->Nat->Prop)(fs:Nat->Option Nat)(rx:Nat->Prop)(t u:ğ)(i:Nat):Prop where
 C:∀op∈u,∀a,op.act.touch?=À a->op.g=i
 S:i=0\/(∃x,x<sp/\i=F.L+x)\/∀op∈u,op.act.touch?=ë
 M:∀op∈u,∀a x,op.act.touch?=À a->a.loc=û x->F.G x->a.kind=Ŕ\/(a.kind=.said/\F.OZ fs x (À i))
 fP:∀op∈u,∀(a:dN) (y:Ú),op.act.touch?=À a->a.write=É->a.loc=û y->∀k,1<=k->k<=rl->¬V k y.block/\y≠jj F k
 N:∀op∈u,∀b,F.M b->op.act≠Ř (dP<|fS b)
 I:∀x,x<sp->rx x->(∀r,RelBy (fS F.C) t (F.L+x) r->RelBy (fS F.C) (t++u) (F.L+x) r)/\(F.L+x=i->∀op∈u,∀a,op.act.touch?=À a->(∃y:Ú,a.loc=û y/\y.block=F.C)/\a.kind=Ŕ)
def TI.C(h:TI F t0 jv sp rl V pk fs rx ql t)(f:Ke F sp rl V fs rx t u i):TI F t0 jv sp rl V pk fs rx ql (t++u) where
 N:=by rw[Array.size_append];have:=h.N;omega
 M p a x n y hc:=by
  rcases mX n with⟨d,c⟩|⟨d,m,c,l,j⟩
  .rw[aG d];exact h.M p a x c y hc
  .refine Î ((f.M m c a x l y hc).imp id λq=>⟨q.1,?_⟩);have:(t++u).g? p=À i:=by unfold Ņ;rw[j];simp[f.C m c a l]
   rw[this];exact q.2
 A4 x r p d o:=(h.A4 x r p d<|by rwa[aG<|Ô d h.N]at o).app u;Y k c l:=by let⟨v,s,b⟩:=h.Y k c l;have w:=Kb s;exact⟨by rwa[dQ w],Gj s,(heard_old w).2 b⟩
 I k c l a n:=(h.I k c l a n).OY λm B b z y C=>by have:=f.fP m B b a z C y k c l;exact n.elim this.1 this.2
 c b z:=(h.c b z).app λm B=>f.N m B b z;r x r hr:=by
  let⟨v,s⟩:=h.r x r hr;let⟨D,E⟩:=f.I x r hr;refine⟨D _ v,λp a n o=> ?_⟩;rcases mX n with⟨d,c⟩|⟨d,m,c,l,j⟩
  .exact s p a c<|by rwa[aG d]at o
  .have e:(t++u).g? p=À i:=by unfold Ņ;rw[j];simp[f.C m c a l]
   rw[e]at o;exact Î<|E (Ĥ o).symm m c a l
 S p a d n:=by
  rcases mX n with⟨D,c⟩|⟨_,m,c,l,j⟩
  .rw[aG D];exact h.S p a d c
  .have e:(t++u).g? p=À i:=by unfold Ņ;rw[j];simp[f.C m c a l]
   rw[e];rcases f.S with q|⟨x,r,q⟩|q
   .exact Ç<|by rw[q]
   .exact Î ⟨x,r,by rw[q]⟩
   .rw[q m c]at l;cases l
 e p a d n hm:=by rw[touchAt_old<|Ô d h.N]at n;exact(h.e p a d n hm).imp (·.app u) id
 d p g d o lM hc:=by have w:=Ô d h.N;rw[aG w]at o;rw[ep w]at hc;let⟨j,v,s⟩:=h.d p g d o lM hc;exact⟨j,Gj v,ei u s⟩
theorem yZ(f:∀c∈u,c.act.touch?=ë)(h:∀c∈u,∀b,F.M b->c.act≠Ř (dP<|fS b)):Ke F sp rl V fs rx t u 0 where
 C c e a d:=by rw[f c e]at d;cases d
 S:=Ç U;M c e a x d:=by rw[f c e]at d;cases d
 fP c e a y d:=by rw[f c e]at d;cases d
 N:=h;I x hx g:=by refine⟨λr g=>g.app λj l m i=> ?_,λ_ c e a d=>by rw[f c e]at d;cases d⟩;let⟨z,k,_⟩:=i;rcases mX k with⟨q,_⟩|⟨_,c,n,o,_⟩;all_goals grind
def TI.agR(h:TI F t0 jv sp rl V pk fs rx ql t){b:Nat->Option Nat}(c:∀k y,fs k=À y->b k=À y):TI F t0 jv sp rl V pk b rx ql t:= {h with M:=λp a x d e f=>(h.M p a x d e f).imp id (Or.imp id λq=>⟨q.1,q.2.imp id λ⟨k,j,g,i,l,m⟩=>⟨k,j,g,i,c k j l,m⟩⟩)}
theorem TI.Gk(h:TI F t0 jv sp rl V pk fs rx ql t){y:cX}(j:wQ.g=0/\wQ.act=.go (F.L+sp))(k:y.g=F.L+sp/\y.act=.start)(m:Τ t 0=0)(n:Τ t (F.L+sp)=0)(B:¬rx sp)(o:∀wQ,rx wQ->wQ<sp):TI F t0 jv (sp+1) rl V pk fs rx ql (t++#[wQ,y]):=by
 have q:∀c∈#[wQ,y],c.act.touch?=ë:=by
  intro c a;simp at a;rcases a with rfl|rfl
  .rw[j.2];rfl
  .rw[k.2];rfl
 have r:∀c∈#[wQ,y],∀b,F.M b->c.act≠Ř (dP<|fS b):=by grind
 have d:=h.C<|yZ q r;refine{d with A4:=λz s p f i=> ?_,r:=λz s l=>d.r z (o z l) l,S:=λp a f u=>((d.S p a f u).imp id λ⟨z,v,e⟩=>⟨z,Z,e⟩)}
 .by_cases e:z<sp
  .exact d.A4 z e p f i
  .obtain rfl:z=sp:=Z
   rw[aG<|Ô f h.N]at i;let⟨c,v,w⟩:=ģ.1 i;have:=bn v;rw[w]at this;exact cO j k m n this
theorem agS{y:cX}(d:wQ.g=0/\wQ.act=.go k)(e:y.g=k/\y.act=.start)(j:Τ t 0=0)(m:Τ t k=0){l:dT}:(qI t 0 l->qI (t++#[wQ,y]) k l)/\(pz t 0 l->pz (t++#[wQ,y]) k l):=by
 have q:∀c∈#[wQ,y],c.act.touch?=ë:=by
  intro c a;simp at a;rcases a with rfl|rfl
  .rw[d.2];rfl
  .rw[e.2];rfl
 refine⟨λh p a f i=> ?_,λh p a f i n=> ?_⟩
 .rcases mX f with⟨_,b⟩|⟨_,c,b,o,_⟩
  .exact cO d e j m<|h p a b i
  .grind
 .rcases mX f with⟨_,b⟩|⟨_,c,b,o,_⟩
  .exact cO d e j m<|h p a b i n
  .grind
theorem TI.agT(h:TI F t0 jv sp rl V pk fs rx ql t)(f:wQ.g=F.L)(i:wQ.act=Ř (Ķ<|fS<|F.I<|rl+1))(l:Τ t F.L=0)(q:∀a:Ú,(V (rl+1) a.block\/a=jj F (rl+1))->pz t F.L (û a)): TI F t0 jv sp (rl+1) V (fC pk (rl+1) t.size) fs rx ql (t++#[wQ]):=by
 have m:∀c∈#[wQ],c.act.touch?=ë:=by
  intro c e;have:c=wQ:=by simpa using e
  rw[this,i];rfl
 have d:=h.C (yZ m λc e b _=>by grind);have n:(t++#[wQ])[t.size]?=À wQ:=by rw[ć<|ß _];simp
 have j:∀k,k<=rl->fC pk (rl+1) t.size k=pk k:=λk r=>fM pk _ Z;refine{d with Y:=λk b o=> ?_,I:=λk b o a p=> ?_}
 .by_cases e:k=rl+1
  .subst e;rw[gI];exact⟨by rw[eC n,i],by simp[Ņ,f],⟨F.L,by simp[Ņ,f],by rwa[cN<|ß _]⟩⟩
  .rw[j k Z];exact d.Y k b Z
 .by_cases e:k=rl+1
  .grind [gI,agQ]
  .rw[j k Z];exact d.I k b Z a p
theorem TI.agU(h:TI F t0 jv sp rl V pk fs rx ql t){x:Nat}(r:x<sp)(d:wQ.g=F.L+x)(f:wQ.act=Ř (Ķ<|fS F.C))(k:Τ t (F.L+x)=0)(s:¬rx x): TI F t0 jv sp rl V pk fs (λz=>rx z\/z=x) (fC ql x t.size) (t++#[wQ]):=by
 have l:∀c∈#[wQ],c.act.touch?=ë:=by
  intro c a;have:c=wQ:=by simpa using a
  rw[this,f];rfl
 have j:=h.C (yZ l λc a b _=>by grind);have b:(t++#[wQ])[t.size]?=À wQ:=by rw[ć<|ß _];simp
 refine{j with r:=λz m n=> ?_};by_cases e:z=x
 .subst e;rw[gI];refine⟨⟨by rw[eC b,f],by simp[Ņ,d],⟨F.L+z,by simp[Ņ,d],by rwa[cN<|ß _]⟩,λi u o=> ?_⟩,λp a q _=>Ç ?_⟩
  .have:=Kb o;simp at this;omega
  .have:=O0 q;simp at this;omega
 .rw[fM ql _ e];exact j.r z m<|n.resolve_right e
def XS(e:t.act? i=À (Ř<|Ķ a))(f:t.g? i=À k)(h:t.heard i)(l:NoRelease a t)(c:wQ.g=n)(m:wQ.act=Ř (cL a))(o:Τ t n=0):bD (t++#[wQ]) n i:=by
 have b:=Kb f;have d:(t++#[wQ])[t.size]?=À wQ:=by rw[ć<|ß _];simp
 refine⟨t.size,wQ,d,c,Î<|.single<|Î ⟨.marked b (Î<|by rwa[dQ b]) (by rw[eC d,m]) λj _ q=> ?_,(heard_old b).2 h,⟨n,by simp[Ņ,c],by rwa[cN<|ß _]⟩⟩⟩;rw[dQ q];exact l j
theorem TI.lh(h:TI F t0 jv sp rl V pk fs rx ql t)(G:wQ.g=0)(o:wQ.act=Ř (cL<|fS F.C))(H:Τ t 0=0)(k:∀x,x<sp->rx x): (∀p a,Ě (t++#[wQ]) p=À a->a.loc.isMemory=É->bD (t++#[wQ]) 0 p\/((jv a.loc\/∃x:Ú,a.loc=û x/\x.block=F.C)/\a.kind=Ŕ))/\(t++#[wQ]).HandedOver:=by
 have Q:wQ.act.touch?=ë:=by rw[o];rfl
 have s:=λx c=>by let⟨b,_⟩:=h.r x c<|k x c;exact XS b.act b.g b.heard (h.c _<|Ç U) G o H
 have u:∀p a,Ě (t++#[wQ]) p=À a->p<t.size/\Ě t p=À a:=λp a l=>by rcases mX l with q|⟨_,v,d,w,_⟩;all_goals grind
 have B:∀p q x,t.g? p=À (F.L+x)->t.g? q=À (F.L+x)->p<=q->Before (t++#[wQ]) p q:=λp q x d w S=>by
  rcases Nat.lt_or_ge p q with f|i
  .exact Î<|.single<|Ç ⟨f,_,Gj d,Gj w⟩
  .exact Ç Z
 refine⟨λp a l I=> ?_,λp g C J K=> ?_⟩
 .let⟨f,d⟩:=u p a l;by_cases e:p<t0
  .rcases h.e p a e d I with q|⟨b,i⟩
   .exact Ç<|q.app _
   .grind
  .rcases h.S p a Z d with q|⟨x,c,q⟩
   .let⟨v,m,n⟩:=ģ.1 q;have:=bn m;rw[n]at this;exact Ç<|this.app _
   .let⟨b,i⟩:=h.r x c<|k x c;rcases i p a d q with z|⟨j,P⟩
    .exact Ç<|Knows.of_before (B p (ql x) x q b.g z)<|s x c
    .grind
 .let⟨z,D,M,N⟩:=K;let⟨f,d⟩:=u p z D;have O:t.g? p=À g:=by rwa[aG f]at C
  have E:=(ep f).1 ⟨z,D,M,N⟩;by_cases e:p<t0
  .let⟨j,b,i⟩:=h.d p g e O J E;exact⟨j,Gj b,ei _ i⟩
  .rcases h.S p z Z d with q|⟨x,c,q⟩
   .grind
   .let⟨b,_⟩:=h.r x c<|k x c;let⟨r,v,m,n,i⟩:=s x c;have j:(t++#[wQ]).g? r=À 0:=by unfold Ņ;rw[m];simp[n]
    refine⟨r,j,?_⟩;rcases(B p (ql x) x q b.g<|Nat.le_of_not_lt λP=>b.after p P q E).trans i with P|P;all_goals grind
end
end Go.Proofs.Y.fB
namespace Go.Proofs.Y.fB
open Go Go.Conc Go.Proofs.Y.Lift
open Go.ConcN (sumTo)
structure Ph extends Fx where
 P:Õ
 S:Nat
 n:Nat
 q:Nat
 Y:Nat
 f:Nat
 r:Nat->Nat
 a:Nat->Nat
 b:Nat->Nat
 c:Nat->Â
 z:Â
 B:Nat
 γ:Type
 l:γ
 i:Nat->Prop
 p:Nat->γ->γ->Prop
 d:Nat->γ->(Nat->Prop)->Æ->Prop
 o:Nat->ByteArray
 k:Nat->ByteArray
 g:Nat->(Nat->Nat)->Jd
 h:Nat->Jd
 e:Nat->Nat->Jd
 j:(Nat->Nat)->Jd
inductive nz(F:Ph):Nat->F.γ->Prop
 |vB:nz F 0 F.l
 |Du {k:Nat} {s s':F.γ} (h:nz F k s) (hn:F.p k s s'):nz F (k+1) s'
def jw(F:Ph)(p:Nat):Ú:=⟨F.Y,p,ë⟩
inductive gf where
 |go (j:Nat)|lN (j:Nat)|rd (j:Nat)|iI (j:Nat)|iO (r:Nat)|lh (r:Nat)|fD (p:jz)|gp
inductive jB where
 |kV (k:Nat)|mk (k:Nat)|dn (k:Nat) (p:jK)
inductive gR where
 |ny (r:Nat)|fD (r:Nat) (p:jz)|jO (r:Nat)|oQ (r:Nat)
inductive iw where
 |oS|gp (p:jK)|jy (N:Nat)
section
variable(F:Ph)
def Gl:Jd:=λl g=>∃N,QuitsD F.P N l.d g
def kI(l:fh):fh:={l with O:=λ_=>False,I:=λ_=>False,r:=λ_=>False,N:=λ_=>False,q:=True}
def A5:Jd:=λl g=>Dt F.P Ã F.C (Gl F) .jH (kI l) g
def Dv(c j r:Nat):Jd:=xi F.P Ã c F.z λx=>match x with
 |some v=>λl g=>v=F.c (j+r*F.n)->qM F.P Ã F.B (F.I<|F.r<|j+r*F.n) (F.e c<|j+r*F.n) .jd l g
 |none=>A5 F
def vG(l:fh)(i:Nat):fh:={l with r:=λa=>l.r a/\a≠jw F (F.a i),N:=λa=>l.N a\/a=jw F (F.a i)}
def qa(l:fh)(k:Nat):fh:={l with O:=λ_=>False,I:=l.M,r:=λa=>l.r a/\a≠jw F (F.b k)/\a≠jj F.toFx k,N:=λa=>l.N a\/a=jw F (F.b k)\/a=jj F.toFx k}
def JW(c j:Nat):gR->Jd
 |.ny r=>Dv F c j r
 |.fD r p=>qM F.P Ã F.B (F.I<|F.r<|j+r*F.n) (F.e c<|j+r*F.n) p
 |.jO r=>F.e c<|j+r*F.n
 |.oQ r=>λl g=>l.w.cell? (jw F<|F.a<|j+r*F.n)=À (ħ<|F.k<|j+r*F.n)/\Dv F c j (r+1) (vG F l<|j+r*F.n) g
def JI(sg:Nat->F.γ):jB->Jd
 |.kV k=>F.h k
 |.mk k=>λl g=>∃p V,F.p (k-1) (sg<|k-1) p/\F.d k p V l.w/\(∀b,V b->l.M b)/\l.w.cell? (jw F<|F.b k)=À (ħ<|F.o k)/\Dt F.P Ã (F.I k) (fq F.P Ã<|F.h k) .jH (qa F l k) g
 |.dn k p=>Dt F.P Ã (F.I k) (fq F.P Ã<|F.h k) p
def JE:iw->Jd
 |.oS=>A5 F
 |.gp p=>Dt F.P Ã F.C (Gl F) p
 |.jy N=>pA F.P N
def Kf(j:Nat)(a:Nat->Nat):Jd:=λl g=>∃c,F.g j (fC a (j-1) c) l g
def XT(j:Nat)(a:Nat->Nat):Jd:=λl g=>l.d=1/\Gd F.P É (.read<|gT F.C) (Kf F j a) l g
def O1(j:Nat)(a:Nat->Nat):Jd:=λl g=>l.d=1/\OH F.P É (fS F.C) gk (λs=>if s=gk then fq F.P É (XT F j a)else if gk<s/\s<1000000*gk/\s%gk=0 then fq F.P É (Kf F j a)else λ_ _=>True) l g
def A6(a:Nat->Nat):Nat->Jd
 |0=>qM F.P É F.B F.C (F.j a) .jd
 |r+1=>JY F.P É (a<|F.n-(r+1))<|A6 a r
def Gm(a:Nat->Nat):Nat->Jd
 |0=>A6 F a F.n
 |r+1=>A1 F.P É (a<|(F.q-(r+1))%F.n) (F.c<|F.q-(r+1))<|Gm a r
def JM(dk:Nat->Nat):gf->Jd
 |.go j=>F.g j dk
 |.lN j=>Kf F j dk
 |.rd j=>XT F j dk
 |.iI j=>O1 F j dk
 |.iO r=>Gm F dk r
 |.lh r=>A6 F dk r
 |.fD p=>qM F.P É F.B F.C (F.j dk) p
 |.gp=>F.j dk
def mb(x:Nat)(a:Ú):Prop:=if x=0 then(∃k,1<=k/\k<=F.m/\(a=jj F.toFx k\/a=jw F (F.b k)))else∃i,i<F.q/\i%F.n=x-1/\a=jw F (F.a i)
end
def gf.sp(n:Nat):gf->Nat
 |.go j|.lN j|.rd j|.iI j=>j
 |_=>n+1
def gf.ad(n:Nat):gf->Nat
 |.iI j=>j
 |.go j|.lN j|.rd j=>j+1
 |_=>n+1
def gf.mM(q:Nat):gf->Nat
 |.go _|.lN _|.rd _|.iI _=>0
 |.iO r=>q-r
 |_=>q
def gf.ji(n:Nat):gf->Nat
 |.lh r=>n-r
 |.fD _|.gp=>n
 |_=>0
def jz.sU:jz->Nat
 |.wr|.kH=>1
 |_=>0
def gf.gH:gf->Nat
 |.fD p=>p.sU
 |_=>0
def jK.kX:jK->Nat
 |.jH|.iI=>1
 |_=>0
def iw.kX:iw->Nat
 |.oS=>1
 |.gp p=>p.kX
 |_=>0
def iw.ow:iw->Prop
 |.oS=>False
 |_=>True
def mr:Option iw->Nat
 |none=>1
 |some e=>e.kX
def jK.iB:jK->Prop
 |.jH=>False
 |_=>True
def iw.iB:iw->Prop
 |.oS=>False
 |.gp p=>p.iB
 |_=>True
def jB.md:jB->Nat
 |.kV k=>k
 |.mk k=>k-1
 |.dn k _=>k
def jB.rl:jB->Nat
 |.kV k=>k
 |.mk k=>k-1
 |.dn k .jH=>k-1
 |.dn k _=>k
def jB.od:jB->Nat
 |.kV k=>k
 |.mk k=>k-1
 |.dn k .jH|.dn k .iI=>k-1
 |.dn k _=>k
def gR.iR:gR->Nat
 |.ny r=>r
 |.fD r _|.jO r|.oQ r=>r+1
def gR.kJ:gR->Nat
 |.ny r|.fD r _|.jO r|.oQ r=>r
def gR.gH(F:Ph)(j:Nat)(k:Nat):gR->Nat
 |.fD r p=>if F.r (j+r*F.n)=k then p.sU else 0
 |_=>0
structure fZ(F:Ph) where
 M:gf
 S:jB
 C:Nat->gR
 N:Nat->Option iw
 I:Nat->Nat
 c:Nat->F.γ
 V:Nat->Nat->Prop
 e:Nat->Nat
 d:Nat->Option Nat
 f:Nat->Nat
 b:GS
 a:Nat->GS
 g:Option Nat
 h:Nat->Nat
section
variable{F:Ph}
def fZ.r(E:fZ F):Nat:=E.M.sp F.n
def fZ.G(E:fZ F)(x:Nat):Nat:=if x<E.M.ad F.n then mr (E.N x)else 0
def fZ.iB(E:fZ F)(x:Nat):Prop:=∃e,E.N x=À e/\e.iB
def fZ.ow(E:fZ F)(x:Nat):Prop:=∃e,E.N x=À e/\e.ow
def fZ.Y(E:fZ F)(b:Nat):Prop:=F.M b\/b=F.Y\/∃j,j+2<=E.r/\b=E.I j
def tY(n j Q s:Nat):Prop:=∀i,i<s↔j+i*n<Q
def kM:gf->iD
 |.fD .kH=> .iE
 |_=> .no
def kW(F:Ph)(c:Nat):gR->iD
 |.ny _=> .sS c F.z
 |.fD _ .kH=> .iE
 |_=> .no
end
structure Ph.Ok(F:Ph):Prop where
 N:1<=F.n
 r:1<=F.L
 gq:F.n+F.q+F.m<1000
 I:∀i,i<F.q->F.r i<=F.m
 M:∀k,k<=F.m->F.I k≠F.C
 S:∀k k',k<=F.m->k'<=F.m->F.I k=F.I k'->k=k'
 C:¬F.M F.Y
 a:∀i i',i<F.q->i'<F.q->F.a i=F.a i'->i=i'
 pi:∀k k',1<=k->k<=F.m->1<=k'->k'<=F.m->F.b k=F.b k'->k=k'
 O2:∀i k,i<F.q->1<=k->k<=F.m->F.a i≠F.b k
 gB:∀b,F.M b\/b=F.Y->F.S<=b
 Y:(∀k,1<=k->k<=F.m->F.b k≠F.f)/\∀i,i<F.q->F.a i≠F.f
structure iJ(F:Ph)(E:fZ F)(lot:Nat->fh)(sz:Nat)(w:Æ):Prop where
 gX:∀i,i<sz->∀a,(lot i).C a->(∃k,k<=F.m/\a=jj F.toFx k)\/∃p,p≠F.f/\a=jw F p
 o:∀x,E.r<=x->x<=F.n->∀a,mb F x a->(lot 0).r a
 lY:E.r<=F.n->(lot 0).N (jj F.toFx 0)/\∀b,F.i b->(lot 0).I b
 e:0<E.r->∀k,E.S.md<k->k<=F.m->(lot F.L).r (jj F.toFx k)/\(lot F.L).r (jw F<|F.b k)
 f:0<E.r->E.N 0=ë->(lot F.L).N (jj F.toFx E.S.md)/\∀b,E.V E.S.md b->(lot F.L).I b
 h:∀j,j+2<=E.r->E.N (j+1)=ë->∀r,j+r*F.n<F.q->(E.C j).kJ<=r->(lot<|F.L+1+j).r (jw F<|F.a<|j+r*F.n)
 l:∀j,j+2<=E.r->E.N (j+1)=ë->(lot<|F.L+1+j).N (jj F.toFx 0)/\∀b,F.i b->(lot<|F.L+1+j).I b
 S:∀x,E.ow x->lot (F.L+x)=kI (lot<|F.L+x)
 M:∀i,(i=0\/∃x,x<E.r/\i=F.L+x/\¬E.ow x)->¬(lot i).q
 c:∀i,0<i->i<F.L->lot i=kI (lot i)
 I:∀k,k<=E.S.md->∀b,E.V k b->b<w.heap.size/\¬E.Y b/\∀i,i<sz->¬(lot i).O b
 N:∀k,k<=E.S.md->∀i,i<sz->¬(lot i).r (jj F.toFx k)
 g:∀k,1<=k->k<=E.S.md->∀i,i<sz->¬(lot i).r (jw F<|F.b k)
 d:∀j,j+2<=E.r->∀r,j+r*F.n<F.q->r<(E.C j).kJ->∀i,i<sz->¬(lot i).r (jw F<|F.a<|j+r*F.n)
structure Wd(F:Ph)(E:fZ F)(w:Æ):Prop where
 C:ij w F.C E.b
 I:∀k,k<=F.m->ij w (F.I k) (E.a k)
 jL:∀j,j+2<=E.r->∃buf s,w.heap[E.I j]?=À (χ F.q buf (decide<|j<E.M.ji F.n) s (E.C j).iR Ã)/\tY F.n j (E.M.mM F.q) s/\(E.C j).iR<=s/\buf.size=s-(E.C j).iR/\∀i,i<s-(E.C j).iR->buf[i]?=À (F.c<|j+((E.C j).iR+i)*F.n)
 M:∀k,k<=E.S.md->nz F k (E.c k)/\F.d k (E.c k) (E.V k) w
 S:∀k,1<=k->k<=E.S.md->w.cell? (jw F<|F.b k)=À (ħ<|F.o k)
 N:∀j,j+2<=E.r->∀r,j+r*F.n<F.q->r<(E.C j).kJ->w.cell? (jw F<|F.a<|j+r*F.n)=À (ħ<|F.k<|j+r*F.n)
structure Ps(F:Ph)(E:fZ F):Prop where
 v:E.V 0=F.i
 C:∀j,E.M=.go j\/E.M=.lN j\/E.M=.rd j\/E.M=.iI j->j<=F.n
 K:∀j,E.M=.lN j\/E.M=.rd j\/E.M=.iI j->1<=j
 L:∀r,(E.M=.iO r->r<=F.q)/\(E.M=.lh r->r<=F.n)
 J:E.r=0->E.S=.kV 0
 I:∀k,(E.S=.kV k->k<=F.m)/\(E.S=.mk k->1<=k/\k<=F.m)/\(∀p,E.S=.dn k p->1<=k/\k<=F.m)
 z:∀j,E.r<j+2->E.C j=.ny 0
 d:∀j r,j+2<=E.r->((∃p,E.C j=.fD r p)\/E.C j=.jO r\/E.C j=.oQ r)->j+r*F.n<F.q
 l:∀j,j+2<=E.r->E.N (j+1)≠ë->j<E.M.ji F.n/\∃r,E.C j=.ny r/\∀i,j+i*F.n<F.q->i<r
 f:E.N 0≠ë->E.S=.kV F.m
 h:∀x,E.r<=x->E.N x=ë
 M:∀j j',j+2<=E.r->j'+2<=E.r->E.I j=E.I j'->j=j'
 o:∀j,j+2<=E.r->¬F.M (E.I j)/\E.I j≠F.Y/\F.S<=E.I j
 t:∀c reg,E.b=.cl c reg->c=bE (F.n+1) E.G/\reg=E.M.gH
 g:∀reg,E.b=.jI reg->bE (F.n+1) E.G=0/\reg=E.M.gH/\∃x,x<E.r/\E.g=À x/\(E.N x=À (.gp (.gE reg))\/E.N x=À (.gp (.jg reg)))
 u:∀r s,E.b=.hD r s->bE (F.n+1) E.G=0/\r+s=E.M.gH/\(0<r->∃x,x<E.r/\E.g=À x/\E.N x=À (.gp (.iE r)))
 N:∀x p,E.N x=À (.gp p)->(∀W,p=.gE W\/p=.jg W->E.g=À x/\E.b=.jI W)/\(∀r,p=.iE r->0<r/\E.g=À x/\∃s,E.b=.hD r s)
 B:E.M=.fD .gE\/E.M=.fD .lu\/E.M=.gp->bE (F.n+1) E.G=0
 e:∀k,1<=k->k<=F.m->E.S.od<k->E.a k=.cl 1 (bE F.n λj=>(E.C j).gH F j k)
 Y:∀k,k<=F.m->k<=E.S.od->(∃W,(E.S=.dn k (.gE W)\/E.S=.dn k (.jg W))/\E.a k=.jI W/\W=bE F.n λj=>(E.C j).gH F j k)\/(∃r s,E.S=.dn k (.iE r)/\0<r/\E.a k=.hD r s/\r+s=bE F.n λj=>(E.C j).gH F j k)\/((∀p,E.S≠ .dn k p)/\((E.a k=.cl 0 0/\(bE F.n λj=>(E.C j).gH F j k)=0)\/∃s,E.a k=.hD 0 s/\s=bE F.n λj=>(E.C j).gH F j k))
 w:∀j r,j+2<=E.r->(E.C j=.fD r .gE\/E.C j=.fD r .lu\/E.C j=.jO r)->F.r (j+r*F.n)<=E.S.od
 H:∀j r,j+2<=E.r->E.C j=.fD r .gE->∃a b,E.a (F.r<|j+r*F.n)=.hD a b
 O:E.M=.fD .gE->∃a b,E.b=.hD a b
 S:(∀p,E.M≠ .fD p)->E.M≠ .gp->∃c,E.b=.cl c 0
 y:∀k,k<=F.m->E.a k=.cl 1 0->E.d k=ë
 D:∀j r,j+2<=E.r->E.C j=.fD r .wr->E.d (F.r<|j+r*F.n)=À j
def fp(F:Ph)(E:fZ F)(a:Array Ó)(w:Æ):Prop:=∀i g,a[i]?=À g->g.status=Ů->
 (i=0/\E.M=.fD .kH/\E.b.sm=0)\/(∃j,j+2<=E.r/\E.N (j+1)=ë/\i=F.L+1+j/\((∃r,E.C j=.fD r .kH/\(E.a<|F.r<|j+r*F.n).sm=0)\/∃r b s c,E.C j=.ny r/\w.heap[E.I j]?=À (χ b #[] Ã s c Ã)))
structure PI(F:Ph)(t0:Nat)(jv:dT->Prop)(E:fZ F)(S:Nat->Jd)(tr:Nat->gD)(kp:Nat->iD)(lot:Nat->fh)(gs:Array Ó)(w:Æ)(t:ğ):Prop where
 b:gs.size=F.L+E.r
 I:gO F.P F.S E.Y S tr kp lot gs w t
 h:S 0=JM F E.I E.M/\kp 0=kM E.M
 m:0<E.r->E.N 0=ë->S F.L=JI F E.c E.S/\kp F.L=.no
 g:∀j,j+2<=E.r->E.N (j+1)=ë->S (F.L+1+j)=JW F (E.I j) j (E.C j)/\kp (F.L+1+j)=kW F (E.I j) (E.C j)
 k:∀x e,x<E.r->E.N x=À e->S (F.L+x)=JE F e/\kp (F.L+x)=.no/\((∃N,e=.jy N)->tr (F.L+x)=.fE)
 l:∀i,0<i->i<F.L->S i=pA F.P (E.h i)/\tr i=.fE/\kp i=.no
 a:iJ F E lot gs.size w
 M:Wd F E w
 C:Ps F E
 d:TI F.toFx t0 jv E.r (E.S.rl) E.V E.e E.d E.iB E.f t
 c:fp F E gs w
 f:∀j r,j+2<=E.r->E.C j=.jO r->1<=F.r (j+r*F.n)->bD t (F.L+1+j) (E.e<|F.r<|j+r*F.n)
structure gW(F:Ph):Prop where
 C:F.Ok
 S:∀k s V w w',F.d k s V w->(∀b,V b->w'.heap[b]?=w.heap[b]?)->w'.cell? (jj F.toFx k)=w.cell? (jj F.toFx k)->w'.cell? (jw F F.f)=w.cell? (jw F F.f)->lb w' F.Y=lb w F.Y->(w'.os=w.os/\w'.output=w.output)->F.d k s V w'
 Gn:∀j dk l g w₁,F.g j dk l g->fL l l.w w₁->F.g j dk {l with w:=w₁} g
 I:∀j dk l g,F.g j dk l g->g.status=Ð
 N:∀k l g,F.h k l g->g.status=Ð
 Y:∀c i l g,F.e c i l g->g.status=Ð
 M:∀dk l g,F.j dk l g->g.status=Ð
 go:∀j dk l g,j<=F.n->F.g j dk l g->gF l->l.d=0/\∃(g' child:Ó) (X:Nat->Prop),g'.status=Ð/\child.status=Ð/\(∀w₁,Ù F.P É g w₁=.spawn g' child w₁ #[])/\(∀b,X b->l.O b)/\
  (1<=j->l.O (dk<|j-1)/\¬X (dk<|j-1)/\l.w.heap[dk<|j-1]?=À (χ F.q #[] Ã 0 0 Ã)/\F.S<=dk (j-1))/\
  (∀l':fh,gF l'->(∀b,X b\/l.I b->l'.I b)->l'.w=l.w->l'.d=0->¬l'.q->(∀b,¬l'.O b)->l'.K=l.K->l'.N=l.N->(∀a,l'.r a->l.r a)->fq F.P Ã (if j=0 then F.h 0 else Dv F (dk<|j-1) (j-1) 0) l' child)/\
  (∀l':fh,gF l'->l'.O=(λb=>l.O b/\¬X b/\(1<=j->b≠dk (j-1)))->(∀b,X b\/l.I b->l'.I b)->l'.w=l.w->l'.d=0->l'.q=l.q->l'.K=l.K->l'.N=l.N->(∀a,l'.r a->l.r a)->fq F.P É (JM F dk<|if j<F.n then .iI (j+1)else .iO F.q) l' g')
 f:∀k s V l g,k<F.m->F.h k l g->gF l->nz F k s->F.d k s V l.w->(∀b,V b->l.I b)->l.N (jj F.toFx k)->l.r (jj F.toFx<|k+1)->l.r (jw F<|F.b<|k+1)->∀sg:Nat->F.γ,sg k=s->fq F.P Ã (JI F sg<|.mk (k+1)) l g
 h:∀l g,F.h F.m l g->gF l->fq F.P Ã (A5 F) l g
 e:∀c j r s V l g,j+r*F.n<F.q->F.e c (j+r*F.n) l g->∀l':fh,gF l'->l'.O=l.O->(∀b,l.I b\/V b->l'.I b)->l'.w=l.w->l'.d=l.d->l'.q=l.q->l'.r=l.r->l'.K=l.K->nz F (F.r<|j+r*F.n) s->F.d (F.r<|j+r*F.n) s V l.w->l'.N (jj F.toFx<|F.r<|j+r*F.n)->l'.r (jw F<|F.a<|j+r*F.n)->fq F.P Ã (JW F c j<|.oQ r) l' g
end Go.Proofs.Y.fB
