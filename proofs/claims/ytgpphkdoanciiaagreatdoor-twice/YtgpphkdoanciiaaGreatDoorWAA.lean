/- Twice: the texts of the proof, packed by program out of some 250: remarks struck, names and blanks shortened, for the limit of a claim's size. -/
import Derived.KernelRfl
import Derived.Conc.Own
import Derived.Conc.Events
import Derived.Laws.Sem
import Derived.Conc.Own5
import Derived.Conc.CompanyDraw
import Derived.Conc.Know
import Derived.Conc.Beside
import Derived.Conc.MarkLaws
import Derived.Conc.CrowdComm
import Derived.Conc.CrowdTrace
import Derived.Conc.CrowdBase
set_option linter.all false
set_option maxRecDepth 1000000
set_option maxHeartbeats 8000000
open Option renaming some->À,none->ë,map_eq_some_iff->ģ,map_some->bH
open Go renaming TypeId->Á,Value->Â,World->Æ,Goroutine->Ó,Program->Õ,Operand->Ö,stepG->Ù,Addr->Ú,FuncId->à,execOp->ì,underlying->ø,resolve->ù,IntKind->ú,Event->ý,run_program->ă,variablesAt->Ą,invoke->č,builtin->Ē,Sem->ē,loadBytes->ĕ,Frame->Ę,Trace->ğ,BinOp->ġ,results->Ī,behindNumber->Į,FloatKind->ı,callFunc->ĵ,undef->ľ,yielded->ł,loadCellsFrom->Ō,convert->Œ,movedNumber->ŕ,Item->ś,movedPointer->Ţ,binOp->Ũ,elemOf->Ū,sameAddr->Ŭ,deafBehind->ŭ,eqGuard->ŷ,typeInfo->Δ,partners->Η,RuntimeError->Ι,storeCells->Κ,Next->Ο,cellAtBytes->ξ,choose->π,Tape->ψ,zeroValue->ω,loadVar->ae,Code->ak,store->ar,Oper->av,BoundsCode->ax,sizeOf->ay,storeVar->aJ,nilAhead->aR,lone->aU,load->aX,noView->aY,liesAt->aZ,findLabel->bj,stringish->bm,Unsupported->br,followBlind->bx,Act->bF,askRoom->bP,Machine->bR,Question->bU,asBool->bW,asAddr->bX,fieldPlace->bY,numberAt->b9,asNumber->cg,getObj->cu,shape->cw,exitTo->cF,gotoIn->cG,mayBeOne->cM,runT->c8,MemOp->c9,loadCells->da,rowAt->dc,program->dh,asIntOf->di,viewAt->dp,byteOf->dq,unwind->dx,runN->dy,cellsIn->dz,asInt->dD,TypeDesc->dI,runN_add->dL,Touch->dO,step->dS,Loc->dT,newRow->dU,PanicEntry->eh,isAgg->ey,Race->eG,newVar->eM,asAgg->eN,newObj->eO,frozen->eP,freeze->eX
open Bool renaming false->Ã,false_eq_true->Å,true->É,and_eq_true_iff->Ü,not_true->þ,not_false->Ă,and_eq_true->ě,or_eq_true_iff->Ŝ,eq_iff_iff->Χ,or_eq_true->bI
open Go.Sem renaming run_bind->Ä,runT_bind'->Ñ,run->ã,bind->ç,runT->é,run_bind'->Ĵ,bind_assoc'->ř,runT_eq->ź,runT_fst->Ρ,pure->aI,store->de,halt->ew
open Or renaming inl->Ç,inr->Î
open Go.Result renaming andThen_ok->È,ok->ĥ,halt->bV
open Go.Op renaming operands->Ê,equal->ó,maxDepth->ā,eqGuardIn->į,twoPlaces->š,equalIn->Λ,addrSub->Μ,addrCmp->Ν,addrMod->Ξ,call->Ω,intDiv->ah,shift->aK,convert->aN,stringOp->bu,unary->bZ,makeInterface->cL,floatArith->cV,complexOp->dr,buildSlice->dF,intArith->dG,floatCmp->dH,binOp->dV,makeSlice->dW,fieldAddr->dX,indexAddr->dY,intBits->ea,nilCheck->eD,intCmp->eE
open Array renaming getElem?_eq_some_iff->Ë,getElem?_setIfInBounds_ne->Ï,getElem?_setIfInBounds_self_of_lt->Ò,mem_of_getElem?->Û,getElem?_eq_getElem->Ý,getElem?_append_right->ć,empty_append->Ď,append_empty->ď,mapM_eq_mapM_toList->Ĕ,mem_append->Ĝ,getElem?_push_lt->Ģ,getD_eq_getD_getElem?->ĩ,replicate->ĺ,append_assoc->Ļ,append_singleton->Ł,all_eq_true->Ń,getElem?_modify->Ň,mem_iff_getElem->ŉ,getElem?_setIfInBounds->Ś,getElem_map->ŵ,getElem_extract->κ,forIn_toList->aE,range->dE
open Go.stepG renaming exec->Ì,apply->bC
open Go.MemOp renaming ofEvents->Í
open Go.GoStatus renaming running->Ð,finished->Ğ,blocked->Ů
open Nat renaming lt_of_lt_of_le->Ô,le_refl->ß,le_trans->õ,exists_eq_add_of_le->Ε,div_le_div_right->ο,add_assoc->cS,le_of_eq->dB,zero_le->dC
open List renaming map_toArray->Ø,map_cons->â,map_nil->ä,mem_cons_self->î,mem_cons_of_mem->ò,eq_nil_of_length_eq_zero->Ā,zipIdx_cons->Ĭ,mem_cons->œ,mem_singleton->ū,foldlM_cons->Ζ,filter_eq_nil_iff->Υ,foldlM_nil->ζ,forIn_cons->η,mapM_cons->ν,forIn_nil->φ,map_eq_nil_iff->aj,flatMap_cons->aV,mapM_nil->cU
open Go.Value renaming pointer->Þ,int->Ć,string->ħ,bool->Ľ,tuple->ſ,nilIface->aW,slice->bS,nilFunc->bT,chan->eu,func->eL
open Go.Item renaming inRegion->á,code->Đ,inLoop->dt,inBlock->dJ,inScope->dK
open Go.Act renaming eval->å
open Go.IntKind renaming u64->æ,i64->Ŋ,u32->ŗ
open Go.MemAct renaming ofEvent->è,touch?->ÿ,mark->Ř
open Go.Builtin renaming unsafeString_->ê,unsafeAdd_->ñ,unsafeSliceData_->ė,min2->Ĳ,append_->ĸ,firstCells->ļ,min_->ń,copy_->ő,len_->ş,cap_->Š,zeroCells->Ŷ,lenOf->Α,holdsCells->aB,mayShare->bb,unsafeSliceData->bl,unsafeString->cZ
open Go.Conc renaming mem_ofEvents->í,touchAt->Ě,crowd->ķ,woken->ţ,stepG_region_draw->Ż,parked->Γ,Deaf->Τ,rcase->θ,stepG_unwanted->υ,g?_old->aG,knows_own->bn,deafBehind_still->bq,stepG_value->bA,stepG_enter->bB,Knows->bD,stepG_cond->cH,mem_listed->cI,stepG_none->cJ,enter_at->cK,deaf_old->cQ,touch_of->dP,act?_old->dR,hb_app->ei,touch_mute->ek,counts_old->ep,act?_of->eC
open Go.Next renaming value->ï,enter->ũ,skip->aH
open Go.TypeDesc renaming pointer->ð,unsafePointer->đ,string->ę,int->Β,struct->dj,slice->dm
open Go.Call renaming operands->ô
open Go.Conv renaming unsafePointer->ö,bytesToString->ü,seenAt->Ž,runesToString->aF,floatToFloat->aQ,intToString->bh,floatToInt->bK,intToInt->cW
open Go.Loc renaming cell->û,mark->ů
open Ne renaming symm->ą
open Go.World renaming frozen?->Ĉ,setCell->ĉ,freeze->Ė,cell?->Ġ,farLoad->ŋ,farStore->Ŧ,shape?->Θ,setChan->au,noCell->aP,viewStore->bJ
open Go.Extern.BytealgMakeNoZero renaming makeNoZero->Ċ,digits->ņ
open Go.Mode renaming atomic->ċ,plain->Ť
open Go.Obj renaming cells->Č,pending->Ÿ,chan->χ
open Go.Callee renaming builtin->ĝ,value->cj
open Option.some renaming inj->Ĥ,injEq->ž
open Go.Region renaming wanted->Ħ,schedule->bM,Mode->eJ
open Go.Instr renaming sliceBounds->Ĩ,sliceBound->ī,buildSlice->ĭ,storeAt->ĳ,makeSlice->Ĺ,extract->ō,fieldAt->Ŏ,indexAt->ŏ,sliceAt->Ő,makeInterface->ŝ,loadAt->Ş,sureAddr->ŧ,alloc->Ű,field->ű,slice->Ų,index->ų,build->Ŵ,panic->ż,box->ag,fill->az
open Go.Deferred renaming ofValue->İ
open Go.Mark renaming releaseMerge->Ķ,disable->cN,acquire->cO,noRoom->df,enable->dA,release->dQ
open Go.Extern.AbiNoEscape renaming same->Ŀ
open Go.Halt renaming unsupported->ŀ
open Go.Trace renaming g?->Ņ
open Go.Stepped renaming next->ň
open Go.Touch.Kind renaming atomic->Ŕ,plain->eZ
open Go.Frame renaming raise->Ŗ,finish_at->ε,finish->aT,catches->cX,enter->dM
open Go.Unsupported renaming unsafePointer->ť
open Go.GStep renaming after->Ź,go->aS,ended->eV
open Go.Goroutine renaming again->ι
open Except renaming bind->ρ,pure->ς,error->bG,map->cm
open Go.Op.Complex renaming corrected->σ,quotient->ai,product->aC,arith->bg,conv->bL,cmp->cx,mul->cy,add->cz,sub->cA,quo->cD
open Go.BinOp renaming eql->aA,neq->aL
open Go.Operand renaming func->aO,const->dZ,global->ez
open Go.Code renaming cond->bz,region->bQ,refuse->dw,label->eb,block->ec,scope->ef,skip->eR,loop->eS,exit->eT,goto->eU
open Go.ConcN renaming sumTo->bE,fork_knows->cR
variable{i n j b k m J j9 j7 j6:Nat}{w u W jX:Æ}{v x z jQ:Â}{g:Ó}{a p:Ú}{h c:Int}{e t T:Á}{d q:Array Â}{P:Õ}{y:bF}{B:ByteArray}{X:Nat->Prop}{O:Option Ú}{l:List Â}{yQ:Bool}{K H:bF->Æ->Prop}{o:av}{D:Nat->Nat}{E:Array Ó}{L:List ś}{jJ:List Nat}{qX:List Ę}{qQ:Ö}{qJ:ğ}{zX:dT->Prop}{zQ:List Int}{zJ:Go.TypeInfo}{xX:Ö->Â}{xQ:ψ}{xJ:Nat×Nat}{wX:ak}{wQ:c9}{wJ:Array Bool}{vX:List ByteArray}{vQ:Â->Æ->Prop}{vJ:Go.Exit->bF->Æ->Prop}{yX:eJ}{Q:Array av}{f:Ę}{V:Array ý}{F:à}{s:Go.Func}
namespace Go.Proofs
theorem U{A:Sort _}{a:A}:a=a:=rfl
theorem Z{p:Prop}(h:p:=by omega):p:=h
theorem A{p:Prop}(h:p:=by decide):p:=h
theorem fp{p:Prop}(h:p:=by simp):p:=h
theorem fu{p:Prop}(h:p:=by kernel_rfl):p:=h
theorem fQ{p:Prop}(h:p:=by rfl):p:=h
end Go.Proofs
namespace Go.Proofs.Y.Lift
open Go
abbrev fh{α:Type}:α->Prop:=λ_=>False
structure ft where
 jA:Nat->Nat->Prop
 C:Nat
instance:CoeFun ft λ_=>Nat->Nat->Prop:=⟨ft.jA⟩
def Bi(Y:ft):Prop:=(∀i j a,Y i j->Y i a->j=a)/\(∀i a j,Y i j->Y a j->i=a)/\(∀i j,Y i j->(i<Y.C↔j<Y.C))
def ft.r(Y a:ft):Prop:=(∀i j,Y i j->a i j)/\(Bi Y->Bi a)/\a.C=Y.C
def ft.N(Y:ft)(r a:Nat):ft:=⟨λi j=>Y i j\/(i=r/\j=a),Y.C⟩
def ft.M(Y:ft):Y.r Y:=⟨λ_ _ h=>h,id,U⟩
theorem ft.I{a b c:ft}(h:a.r b)(k:b.r c):a.r c:=⟨λi j x=>k.1 i j<|h.1 i j x,λx=>k.2.1<|h.2.1 x,k.2.2.trans h.2.2⟩
theorem ft.S{Y:ft}{r:Nat}(c:∀j,¬Y r j)(d:∀a,¬Y a i)(f:Y.C<=r)(g:Y.C<=i):Y.r (Y.N r i):=by
 refine⟨λ_ _ h=>Ç h,λb=>⟨?_,?_,?_⟩,U⟩
 .rintro a j k (x|⟨rfl,rfl⟩) (y|⟨e,rfl⟩)
  .exact b.1 _ _ _ x y
  .grind
  .grind
  .rfl
 .rintro a k j (x|⟨rfl,rfl⟩) (y|⟨rfl,e⟩)
  .exact b.2.1 _ _ _ x y
  .grind
  .grind
  .rfl
 .rintro a j (x|⟨rfl,rfl⟩)
  .exact b.2.2 _ _ x
  .show(a<Y.C↔j<Y.C);omega
def gZ(Y:ft)(a b:Ú):Prop:=Y a.block b.block/\a.off=b.off/\a.spot=b.spot
def gZ.r{Y b:ft}(h:Y.r b)(r:gZ Y a p):gZ b a p:=⟨h.1 _ _ r.1,r.2⟩
def gZ.C{Y:ft}(r:gZ Y a p)(n:Nat):gZ Y (a.add n) (p.add n):=by
 let⟨b,c,d⟩:=r;unfold Addr.add;by_cases e:n=0
 .rw[if_pos e,if_pos e];exact⟨b,c,d⟩
 .rw[if_neg e,if_neg e];exact⟨b,by simp[c],U⟩
inductive fl(Y:ft):Â->Â->Prop
 |ml (b:Bool):fl Y (Ľ b) (Ľ b)
 |iG (k:ú) (n:Int):fl Y (Ć k n) (Ć k n)
 |kC (s:ByteArray):fl Y (ħ s) (ħ s)
 |lG:fl Y (Þ ë) (Þ ë)
 |jL {a a':Ú} (h:gZ Y a a'):fl Y (Þ<|À a) (Þ<|À a')
 |nY (n c:Nat):fl Y (bS ë n c) (bS ë n c)
 |kD {a a':Ú} (h:gZ Y a a') (n c:Nat):fl Y (bS (À a) n c) (bS (À a') n c)
 |uP:fl Y bT bT
 |fn (f:Fn):fl Y (eL f #[] #[]) (eL f #[] #[])
 |uQ:fl Y aW aW
 |uR:fl Y (eu ë) (eu ë)
 |uS:fl Y (.map ë) (.map ë)
 |yd (t:Á) {v v':Â} (h:fl Y v v'):fl Y (.iface t v) (.iface t v')
 |ot {cs lH:Array Â} (hs:cs.size=lH.size) (h:∀i (h1:i<cs.size) (h2:i<lH.size),fl Y cs[i] lH[i]):fl Y (.agg cs) (.agg lH)
 |nD {cs lH:Array Â} (hs:cs.size=lH.size) (h:∀i (h1:i<cs.size) (h2:i<lH.size),fl Y cs[i] lH[i]):fl Y (ſ cs) (ſ lH)
def fl.fO{Y a:ft}(h:Y.r a)(r:fl Y v x):fl a v x:=by
 induction r with
 |ml b=>exact .ml b
 |iG k n=>exact .iG k n
 |kC s=>exact .kC s
 |lG=>exact .lG
 |jL b=>exact .jL (b.r h)
 |nY n c=>exact .nY n c
 |kD b n c=>exact .kD (b.r h) n c
 |uP=>exact .uP
 |fn f=>exact .fn f
 |uQ=>exact .uQ
 |uR=>exact .uR
 |uS=>exact .uS
 |yd t _ b=>exact .yd t b
 |ot c _ b=>exact .ot c b
 |nD c _ b=>exact .nD c b
structure fR(Y:ft)(cs lH:Array Â):Prop where
 r:cs.size=lH.size
 C:∀i (h1:i<cs.size) (h2:i<lH.size),fl Y cs[i] lH[i]
def fR.I{Y a:ft}(h:Y.r a){cs:Array Â}(r:fR Y cs d):fR a cs d:=⟨r.r,λi b c=>(r.C i b c).fO h⟩
theorem fR.S{Y:ft}(r:fR Y d q)(i:Nat):(d[i]?=ë/\q[i]?=ë)\/∃v b,d[i]?=À v/\q[i]?=À b/\fl Y v b:=by
 by_cases h:i<d.size
 .have a:i<q.size:=by rwa[<-r.r]
  exact Î ⟨d[i],q[i],Ý h,Ý a,r.C i h a⟩
 .have a:¬i<q.size:=by rwa[<-r.r]
  grind
def fR.N(Y:ft):fR Y #[] #[]:=⟨U,λi h=>absurd h fp⟩
theorem fR.UI{Y:ft}(r:fR Y d q)(h:fl Y v x):fR Y (d.push v) (q.push x):=by
 refine⟨by simp[r.r],λi b c=> ?_⟩;simp only[Array.getElem_push];have e:=r.r;by_cases a:i<d.size
 .rw[dif_pos a,dif_pos Z];exact r.C i a Z
 .grind
theorem fR.qh{Y:ft}(r:fR Y d q)(n:Nat)(h:fl Y v x):fR Y (d.setIfInBounds n v) (q.setIfInBounds n x):=by
 refine⟨by simp[r.r],λi c e=> ?_⟩;have f:i<d.size:=by simpa using c
 have g:i<q.size:=by simpa using e
 have a:(d.setIfInBounds n v)[i]?=if n=i then À v else d[i]?:=by grind
 have b:(q.setIfInBounds n x)[i]?=if n=i then À x else q[i]?:=by grind
 rw[Ý c]at a;rw[Ý e]at b;by_cases j:n=i
 .grind
 .rw[if_neg j]at a b;rw[Ý f]at a;rw[Ý g]at b;injection a with a;injection b with b;rw[a,b];exact r.C i f g
def fR.s6{Y:ft}{cs b:Array Â}(r:fR Y cs d)(t:fR Y q b):fR Y (cs++q) (d++b):=by
 refine⟨by simp[r.r,t.r],λi c g=> ?_⟩;have e:=r.r;have f:=t.r;simp only[Array.getElem_append];by_cases a:i<cs.size
 .rw[dif_pos a,dif_pos Z];exact r.C i a Z
 .rw[dif_neg a,dif_neg Z];have:=t.C (i-cs.size) (by simp at c;omega) (by simp at c;omega);simpa[e]using this
def fR.Fe{Y:ft}(r:fR Y d q)(a b:Nat):fR Y (d.extract a b) (q.extract a b):=by refine⟨by simp[r.r],λi c e=> ?_⟩;rw[κ ..,κ ..];exact r.C _ _ _
def fR.M{Y:ft}(h:fl Y v x):fR Y #[v] #[x]:= ⟨U,λi a b=>by have:i=0:=(by simpa using a);subst this;exact h⟩
def fl.gS{Y:ft}(h:fl Y v x):fR Y v.cells x.cells:=by
 cases h with
 |ot a h=>exact⟨a,h⟩
 |ml b=>exact fR.M<|.ml b
 |iG k n=>exact fR.M<|.iG k n
 |kC s=>exact fR.M<|.kC s
 |lG=>exact fR.M .lG
 |jL b=>exact fR.M<|.jL b
 |nY n c=>exact fR.M<|.nY n c
 |kD b n c=>exact fR.M<|.kD b n c
 |uP=>exact fR.M .uP
 |fn f=>exact fR.M<|.fn f
 |uQ=>exact fR.M .uQ
 |uR=>exact fR.M .uR
 |uS=>exact fR.M .uS
 |yd t b=>exact fR.M<|.yd t b
 |nD a h=>exact fR.M<|.nD a h
def ye:Â->Bool
 |.agg _|ſ _=>Ã
 |_=>É
def Ff(e:Á)(n:Nat):Prop:=(e=304\/e=305)/\n<=16
class Ai (P:Õ):Prop where
 lt:∀e n,Ff e n->n<P.cellsOf e
def CJ(e:Á)(n a:Nat):Prop:=n=a\/(n<=a/\Ff e n)
structure oN(Y:ft)(s:Prop)(e:Á)(c c':Array Â):Prop where
 r:∀i (_:i<c.size) (_:i<c'.size),fl Y c[i] c'[i]
 I:c.size<=c'.size
 C:c.size=c'.size\/(s/\Ff e c.size)
section
variable{Y d:ft}{s:Prop}{c c':Array Â}
def oN.M(h:fR Y c c'):oN Y s e c c':=⟨h.C,by rw[h.r];exact ß _,Ç h.r⟩
def oN.N(h:oN Y s e c c')(a:¬s):fR Y c c':=⟨h.C.resolve_right λq=>a q.1,h.r⟩
def oN.fO(h:oN Y s e c c')(l:Y.r d):oN d s e c c':=⟨λi a b=>(h.r i a b).fO l,h.I,h.C⟩
theorem oN.Fg(h:oN Y s e c c')(i:Nat):(c[i]?=ë/\True)\/∃v a,c[i]?=À v/\c'[i]?=À a/\fl Y v a:=by
 by_cases q:i<c.size
 .have b:=Ô q h.I;exact Î ⟨c[i],c'[i],Ý q,Ý b,h.r i q b⟩
 .grind
def oN.acz(h:oN Y s e c c'):CJ e c.size c'.size:=h.C.imp id λq=>⟨h.I,q.2⟩
end
inductive fH(P:Õ){α:Type}(V:ft->α->α->Prop):ft->ē α->ē α->Prop
 |fD {Y:ft} {a a':α} (h:V Y a a'):fH P V Y (aI a) (aI a')
 |gA {Y:ft} {a a':Ú} {k k':Â->ē α} (ha:gZ Y a a') (hk:∀v v',fl Y v v'->fH P V Y (k v) (k' v')):fH P V Y (.load Ť a k) (.load Ť a' k')
 |ja {Y:ft} {a a':Ú} {v v':Â} {k k':ē α} (ha:gZ Y a a') (hv:fl Y v v') (hk:fH P V Y k k'):fH P V Y (de Ť a v k) (de Ť a' v' k')
 |yf {Y:ft} {c c':Array Â} {e:Á} {k k':Nat->ē α} (hc:fR Y c c') (hk:∀r r',(∀j,¬Y r j)->(∀i,¬Y i r')->Y.C<=r->Y.C<=r'->fH P V (Y.N r r') (k r) (k' r')):fH P V Y (.new (Č c e) k) (.new (Č c' e) k')
 |uT {Y:ft} {r r':Nat} {k k':Option (TypeId×Nat)->ē α} (hr:Y r r') (hk:∀e n n',CJ e n n'->fH P V Y (k<|À (e,n)) (k'<|À (e,n'))):fH P V Y (.shape r k) (.shape r' k')
 |M5 {Y:ft} {a a':Ú} {k k':Bool->ē α} (ha:gZ Y a a') (hk:∀b b',(b'=É->b=É)->fH P V Y (k b) (k' b')):fH P V Y (.frozen a k) (.frozen a' k')
 |Aj {Y:ft} {q:bU} {k k':Nat->ē α} (hk:∀n,fH P V Y (k n)<|k' n):fH P V Y (.choose q k) (.choose q k')
 |IH {Y:ft} {k k':Õ->ē α} (hk:fH P V Y (k P) (k' P)):fH P V Y (.program k) (.program k')
 |CK {Y:ft} {m:Mark} {k k':ē α} (hm:m=df\/∃f,m=.extern f) (hk:fH P V Y k k'):fH P V Y (.mark m k) (.mark m k')
 |fP {Y:ft} {h:Halt} {m:ē α}:fH P V Y (ew h) m
 |ou {Y:ft} {m m':ē α} (h:∀u x u',m.run P u≠ĥ x u'):fH P V Y m m'
def wi{α β:Type}{m:ē α}{f:α->ē β}(h:∀u x b,m.run P u≠ĥ x b):∀u x b,(m.bind f).run P u≠ĥ x b:=by
 intro u x b e;have c:(m>>=f).run P u=ĥ x b:=e;rw[Ä]at c;cases d:m.run P u with
 |ok a w=>exact h _ _ _ d
 |halt z w=>rw[d]at c;cases c
def fH.lI{α β:Type}{V:ft->α->α->Prop}{l:ft->β->β->Prop}{Y:ft}{m o:ē α}{f p:α->ē β}(h:fH P V Y m o) (g:∀i a k,Y.r i->V i a k->fH P l i (f a) (p k)):fH P l Y (m.bind f) (o.bind p):=by
 induction h with
 |fD h=>exact g _ _ _ (ft.M _) h
 |gA j _ d=>exact .gA j λv c b=>d v c b g
 |ja j b _ d=>exact .ja j b (d g)
 |yf q _ d=>exact .yf q λr s c e n v=>d r s c e n v λi a k t b=>g i a k (ft.I (ft.S c e n v) t) b
 |uT b _ d=>exact .uT b λe n v c=>d e n v c g
 |M5 j _ d=>exact .M5 j λb c v=>d b c v g
 |Aj _ d=>exact .Aj λn=>d n g
 |IH _ d=>exact .IH (d g)
 |CK c _ d=>exact .CK c (d g)
 |fP=>exact .fP
 |ou h=>exact .ou (wi h)
def yg:Â->Bool
 |Ć .u8 _=>É
 |_=>Ã
def CL(c:Array Â):Prop:=∀(k:Nat) (v:Â),c[k]?=À v->yg v=Ã
structure je(Y:ft)(Sh:Nat->Prop)(u w:Æ):Prop where
 S:u.tape=w.tape
 N:u.drawn=w.drawn
 C:Bi Y
 I:Y.C<=u.heap.size
 M:Y.C<=w.heap.size
 r:∀i j,Y i j->∃c c' e fr wj,u.heap[i]?=À (Č c e fr)/\w.heap[j]?=À (Č c' e wj)/\oN Y (Sh j) e c c'/\(Sh j->fr.1=0/\c.size<=fr.2/\wj.2<=fr.2/\0<c.size/\(CL c\/Ff e c.size))/\(¬Sh j->fr=wj)/\fr.2<=c.size
structure nF(Y:ft)(Sh:Nat->Prop)(w w':Æ):Prop where
 r:w.heap.size<=w'.heap.size
 I:w'.os=w.os
 M:w'.output=w.output
 S:w'.tape=w.tape
 C:∀j,j<w.heap.size->(∀i,¬Y i j)->w'.heap[j]?=w.heap[j]?
 N:∀j,Sh j->j<w.heap.size->w'.heap[j]?=w.heap[j]?
def Ak(Y:ft)(b:Nat->Prop)(e:ý):Prop:=
 (∃(a:Ú) (i:Nat),e.loc=û a/\Y i a.block/\e.sync=Ã/\(e.write=É->¬b a.block))\/e.loc=ů df\/∃f,e.loc=ů (.extern f)
def wm{α:Type}{m:Mode}{k:ē α}(h:ye v=É): ã P (de m a v k) w=(match w.cell? a with
 |some _=>if w.frozen? a then bV (ŀ<|ť "a write to bytes that a string shares") w else k.run P (w.setCell a v)
 |none=>match w.farStore P a v (m==ċ)with
  |.ok (w,_)=>k.run P w
  |bG h=>bV h w):=by
 cases v<;>first|rfl|cases h
def acA{α:Type}{m:Mode}{k:ē α}(h:ye v=É): é P (de m a v k) w V=(match w.cell? a with
 |some _=>
  if w.frozen? a then(bV (ŀ<|ť "a write to bytes that a string shares") w,V)
  else k.runT P (w.setCell a v) (V.push ⟨û a,É,m==ċ⟩)
 |none=>match w.farStore P a v (m==ċ)with
  |.ok (w,touched)=>k.runT P w (V++touched.toArray.map (⟨.cell ·,É,m==.atomic⟩))
  |bG h=>(bV h w,V)):=by
 cases v<;>first|rfl|cases h
def acB{α:Type}{m:Mode}{k:ē α}(h:ye v=Ã){x:α}:ã P (de m a v k) w≠ĥ x u:=by cases v<;>first|exact Bool.noConfusion h|(intro e;simp[ã]at e)
def acC{Y:ft}(h:fl Y v x):ye x=ye v:=by cases h<;>rfl
section
variable{Y:ft}
def Al(h:u.heap[a.block]?=À (Č d e xJ)):u.cell? a=if a.spot.isSome then ë else d[a.off]?:=by simp[Ġ,h]
def acD(h:u.heap[a.block]?=À (Č d e xJ))(b:Bool):∃x,u.farLoad P a b=bG x:=by simp[ŋ,h]
def acE(h:u.heap[a.block]?=À (Č d e xJ))(b:Bool):∃x,u.farStore P a v b=bG x:=by simp[Ŧ,h]
def je.gA(h:je Y X u w){a':Ú}(i:gZ Y a a')(b:u.cell? a=À v):∃f,w.cell? a'=À f/\fl Y v f:=by
 let⟨j,k,l⟩:=i;let⟨c,s,e,t,y,m,n,o,_⟩:=h.r _ _ j;rw[Al m]at b;rw[Al n,<-k,<-l];cases g:a.spot with
 |some x=>rw[g]at b;cases b
 |none=>
  rw[g]at b;rcases o.Fg a.off with⟨d,_⟩|⟨x,p,d,q,r⟩
  .simp[d]at b
  .simp[d]at b;subst b;exact⟨p,by simp[q],r⟩
theorem je.acG(h:je Y X u w)(g:gZ Y a p)(i:u.cell? a=À v)(j:u.frozen? a=Ã):¬X p.block/\w.frozen? p=Ã:=by
 let⟨k,l,q⟩:=g;let⟨c,r,e,b,s,d,m,t,x,n,y⟩:=h.r _ _ k;rw[Al d]at i;have z:a.off<c.size:=by grind
 have o:(decide (b.1<=a.off)&&decide (a.off<b.2))=Ã:=by simpa[Ĉ,d]using j
 have f:¬X p.block:=by grind
 refine⟨f,?_⟩;have:=n f;subst this;simp only[Ĉ,m,<-l];exact o
def UJ{w:Æ}(h:w.heap[a.block]?=À (Č d e xJ))(b:a.spot=ë): (w.setCell a v).heap[a.block]?=À (Č (d.setIfInBounds a.off v) e xJ):=by simp[ĉ,Ň,h,b]
def jT{w:Æ}:(w.setCell a v).heap.size=w.heap.size:=by simp[ĉ]
def IJ{w:Æ}(h:a.block≠j):(w.setCell a v).heap[j]?=w.heap[j]?:=by simp[ĉ,Ň,h]
def je.ja(h:je Y X u w)(B:gZ Y a p)(C:fl Y v z)(D:u.cell? a=À x)(m:¬X p.block):je Y X (u.setCell a v) (w.setCell p z):=by
 let⟨d,E,F⟩:=B;have n:a.spot=ë:=by let⟨c,o,e,f,g,b,_⟩:=h.r _ _ d;rw[Al b]at D;simp_all
 refine⟨h.S,h.N,h.C,by rw[jT];exact h.I,by rw[jT];exact h.M,λi j k=> ?_⟩;let⟨c,o,e,f,g,b,q,r,G,t,y⟩:=h.r i j k;by_cases l:a.block=i
 .subst l;have:j=p.block:=h.C.1 _ _ _ k d;subst this;exact⟨_,_,e,f,g,UJ b n,UJ q (by rw[<-F,n]),by rw[<-E];exact oN.M<|(r.N m).qh _ C,λs=>absurd s m,t,by simpa using y⟩
 .exact⟨c,o,e,f,g,by rwa[IJ l],by rwa[IJ λe=>l<|h.C.2.1 _ _ _ d<|e▸k],r,G,t,y⟩
theorem je.yf(h:je Y X u w)(m:∀j,X j->j<w.heap.size)(n:fR Y d q): je (Y.N u.heap.size w.heap.size) X {u with heap:=u.heap.push (Č d e)} {w with heap:=w.heap.push (Č q e)}:=by
 have a:∀i j,Y i j->i<u.heap.size/\j<w.heap.size:=by intro i j s;let⟨_,_,_,_,_,f,g,_⟩:=h.r i j s;grind
 have b:=ft.S (Y:=Y) (λj x=>absurd (a _ _ x).1 Z) (λi x=>absurd (a _ _ x).2 Z) h.I h.M;refine⟨h.S,h.N,b.2.1 h.C,by have:=h.I;simp[ft.N];omega,by have:=h.M;simp[ft.N];omega,?_⟩
 .rintro i j (x|⟨rfl,rfl⟩)
  .let⟨s,o,p,r,t,f,g,v,y,z,B⟩:=h.r i j x;let⟨k,l⟩:=a i j x;exact⟨s,o,p,r,t,by simp only[Ģ k];rw[<-f,Ý k],by simp only[Ģ l];rw[<-g,Ý l],v.fO b,y,z,B⟩
  .exact⟨d,q,e,(0,0),(0,0),fp,fp,oN.M<|n.I b,λs=>absurd (m _ s) Z,λ_=>rfl,dC _⟩
theorem nF.fU(Y:ft)(X:Nat->Prop)(w:Æ):nF Y X w w:=⟨ß _,U,U,U,λ_ _ _=>rfl,λ_ _ _=>rfl⟩
def nF.fg{b:ft}{w₁:Æ}(h:nF Y X w w₁)(k:nF b X w₁ u)(d:∀i j,b i j->Y i j\/w.heap.size<=j):nF Y X w u:= ⟨õ h.r k.r,k.I.trans h.I,k.M.trans h.M,k.S.trans h.S,λj a c=>(k.C j (Ô a h.r) λi y=>(d i j y).elim (c i) λz=>by omega).trans<|h.C j a c,λj s a=>(k.N j s<|Ô a h.r).trans<|h.N j s a⟩
def IK{w:Æ}:(w.freeze a n).heap.size=w.heap.size:=by unfold Ė;split<;>simp
def acH{w:Æ}:(w.freeze a n).os=w.os:=by unfold Ė;split<;>rfl
def acI{w:Æ}:(w.freeze a n).output=w.output:=by unfold Ė;split<;>rfl
def M6{w:Æ}:(w.freeze a n).tape=w.tape:=by unfold Ė;split<;>rfl
def UK{w:Æ}:(w.freeze a n).drawn=w.drawn:=by unfold Ė;split<;>rfl
theorem IL{w:Æ}(h:a.block≠j):(w.freeze a n).heap[j]?=w.heap[j]?:=by unfold Ė;split;all_goals grind
def rX(a:Ú)(n:Nat)(b:Nat×Nat):Nat×Nat:=if n=0 then b else if b.1==b.2 then(a.off,a.off+n)else(min b.1 a.off,max b.2<|a.off+n)
theorem UL{w:Æ}(h:w.heap[a.block]?=À (Č d e xJ)):(w.freeze a n).heap[a.block]?=À (Č d e<|rX a n xJ):=by unfold Ė rX;grind
def UM(h:a.off=p.off)(n:Nat)(b:Nat×Nat):rX a n b=rX p n b:=by unfold rX;rw[h]
theorem acJ(h:a.off+n<=i)(b:xJ.2<=i):(rX a n xJ).2<=i:=by unfold rX;grind
theorem acK{b:Nat×Nat}(c:0<i)(d:xJ.1=0)(e:i<=xJ.2)(f:b.2<=xJ.2):(rX a n xJ).1=0/\i<=(rX a n xJ).2/\(rX a n b).2<=(rX a n xJ).2:=by unfold rX;grind
def je.acM(h:je Y X u w)(y:gZ Y a p)(n:Nat)(z:∀c e b,u.heap[a.block]?=À (Č c e b)->a.off+n<=c.size):je Y X (u.freeze a n) (w.freeze p n):=by
 obtain⟨k,l,I⟩:=y;refine⟨M6.trans<|h.S.trans M6.symm,UK.trans<|h.N.trans UK.symm,h.C,by rw[IK];exact h.I,by rw[IK];exact h.M,λi j d=> ?_⟩;obtain⟨c,m,e,b,B,f,o,q,r,t,v⟩:=h.r i j d;by_cases g:a.block=i
 .subst g;have:j=p.block:=h.C.1 _ _ _ d k;subst this;refine⟨c,m,e,_,_,UL f,UL o,q,λs=> ?_,λs=> ?_,acJ (z _ _ _ f) v⟩
  .obtain⟨C,D,E,x⟩:=r s;rw[<-UM l];obtain⟨F,G,H⟩:=acK x.1 C D E;exact⟨F,G,H,x⟩
  .rw[t s,UM l]
 .exact⟨c,m,e,b,B,by rwa[IL g],by rwa[IL λe=>g<|h.C.2.1 _ _ _ k<|e▸d],q,r,t,v⟩
theorem je.G(h:je Y X u w)(b:gZ Y a p):w.frozen? p=É->u.frozen? a=É:=by let⟨d,f,j⟩:=b;let⟨c,k,e,l,m,g,i,n,o,q,r⟩:=h.r _ _ d;simp only[Ĉ,g,i,<-f,ě,decide_eq_true_eq];rintro⟨x,y⟩;by_cases s:X p.block;all_goals grind
theorem fH.gl{α:Type}{V:ft->α->α->Prop}{Y:ft}{m m':ē α}(h:fH P V Y m m'):∀{u w:Æ},je Y X u w->(∀j,X j->j<w.heap.size)->∀{x:α} {E:Æ},m.run P u=ĥ x E->∀n:Array ý,∃(l:ft) (t:α) (p:Æ) (B:Array ý),Y.r l/\(∀i j,l i j->Y i j\/(u.heap.size<=i/\w.heap.size<=j))/\m'.runT P w n=(ĥ t p,n++B)/\V l x t/\je l X E p/\nF Y X w p/\(∀e∈B,Ak l X e)/\u.heap.size<=E.heap.size:=by
 induction h with
 |fD h=>
  intro u w d _ x E b n;simp only[ã]at b;cases b;exact⟨_,_,w,#[],ft.M _,λ_ _ h=>Ç h,by simp[é],h,d,nF.fU _ _ _,λe o=>by simp at o,ß _⟩
 |@gA Y a a' k k' ha hk D=>
  intro u w d C x E b n;simp only[ã]at b;cases f:u.cell? a with
  |none=>
   let⟨c,Q,e,fr,wj,O,_⟩:=d.r _ _ ha.1;let⟨z,s⟩:=acD (P:=P) O<|Ť==ċ;rw[f]at b;simp only[s]at b;cases b
  |some v=>
   rw[f]at b;let⟨W,S,y⟩:=d.gA ha f;let⟨l,t,p,B,F,G,I,J,K,g,L,H⟩:=D v W y d C b<|n.push ⟨û a',Ã,Ã⟩;refine⟨l,t,p,#[⟨û a',Ã,Ã⟩]++B,F,G,?_,J,K,g,λe o=> ?_,H⟩
   .simp only[é,S];rw[show((Ť==ċ)=Ã)from U,I];rw[<-Ļ,Ł]
   .rcases Ĝ.1 o with o|o
    .simp at o;subst o;exact Ç ⟨a',_,U,F.1 _ _ ha.1,U,λe=>by cases e⟩
    .exact L e o
 |@ja Y a a' v W k k' ha hv _ D=>
  intro u w d C x E b n;cases ho:ye v with
  |false=>exact absurd b<|acB ho
  |true=>
   rw[wm ho]at b;cases f:u.cell? a with
   |none=>
    let⟨c,Q,e,fr,wj,O,_⟩:=d.r _ _ ha.1;let⟨z,s⟩:=acE (P:=P) (v:=v) O<|Ť==ċ;rw[f]at b;simp only[s]at b;cases b
   |some y=>
    rw[f]at b;cases M:u.frozen? a with
    |true=>rw[M]at b;simp at b
    |false=>
     simp only[M,Å,if_false]at b;let⟨ns,hf'⟩:=d.acG ha f M;let⟨y',M7,_⟩:=d.gA ha f;let⟨l,t,p,B,F,G,I,J,K,g,L,H⟩:=D (d.ja ha hv f ns) (by rwa[jT]) b<|n.push ⟨û a',É,Ã⟩;have S:(w.setCell a' W).heap.size=w.heap.size:=jT;have UN:(u.setCell a v).heap.size=u.heap.size:=jT;refine⟨l,t,p,#[⟨û a',É,Ã⟩]++B,F,by rwa[S,UN]at G,?_,J,K,?_,λe o=> ?_,by rwa[UN]at H⟩
     .rw[acA<|(acC hv).trans ho,M7];simp only[hf',Å,if_false];rw[show((Ť==ċ)=Ã)from U,I];rw[<-Ļ,Ł]
     .refine⟨by rw[<-S];exact g.r,g.I,g.M,g.S,λj N T=> ?_,λj s N=>(g.N j s<|by rwa[S]).trans<|IJ λe=>ns<|e▸s⟩;rw[g.C j (by rwa[S]) T];exact IJ λe=>T a.block<|e▸ha.1
     .rcases Ĝ.1 o with o|o
      .simp at o;subst o;exact Ç ⟨a',_,U,F.1 _ _ ha.1,U,λ_=>ns⟩
      .exact L e o
 |@yf Y c Q e k k' f _ D=>
  intro u w d C x E b n;simp only[ã]at b;have W:∀i j,Y i j->i<u.heap.size/\j<w.heap.size:=by intro i j S;let⟨_,_,_,_,_,O,hw',_⟩:=d.r i j S;grind
  have n1:∀j,¬Y u.heap.size j:=λj y=>absurd (W _ _ y).1 Z;have n2:∀i,¬Y i w.heap.size:=λi y=>absurd (W _ _ y).2 Z;let⟨l,t,p,B,F,G,I,J,K,g,L,H⟩:=D u.heap.size w.heap.size n1 n2 d.I d.M (d.yf C f) (λj s=>by have:=C j s;simp;omega) b n;refine⟨l,t,p,B,ft.I (ft.S n1 n2 d.I d.M) F,λi j S=> ?_,by simp only[é];exact I,J,K,?_,L,by simp at H;omega⟩
  .rcases G i j S with(y|⟨rfl,rfl⟩)|y
   .exact Ç y
   .exact Î ⟨ß _,ß _⟩
   .simp at y;exact Î ⟨Z,Z⟩
  .have hs:=g.r;simp at hs;refine⟨Z,g.I,g.M,g.S,λj N T=> ?_,λj s N=>(g.N j s<|by simp;omega).trans ?_⟩
   .rw[g.C j (by simp;omega) (λi z=>z.elim (T i) λz=>by omega)];simp[Ģ N]
   .simp[Ģ N]
 |@uT Y r r' k k' oO _ D=>
  intro u w d C x E b n;simp only[ã]at b;let⟨c,Q,e,fr,wj,O,hw',S,_⟩:=d.r _ _ oO;have f:u.shape? r=À (e,c.size):=by simp[Θ,O]
  have s:w.shape? r'=À (e,Q.size):=by simp[Θ,hw']
  rw[f]at b;let⟨l,t,p,B,h⟩:=D e c.size Q.size S.acz d C b n;exact⟨l,t,p,B,by simp only[é,s];exact h⟩
 |@M5 Y a a' k k' ha _ D=>
  intro u w d C x E b n;simp only[ã]at b;let⟨l,t,p,B,h⟩:=D (u.frozen? a) (w.frozen? a') (d.G ha) d C b n;exact⟨l,t,p,B,by simpa only[é]using h⟩
 |@Aj Y q k k' _ D=>
  intro u w d C x E b n;simp only[ã]at b;cases M:q.forced with
  |true=>
   rw[M]at b;simp only[if_true]at b;let⟨l,t,p,B,h⟩:=D 0 d C b n;exact⟨l,t,p,B,by simpa only[é,M,if_true]using h⟩
  |false=>
   rw[M]at b;simp only[Å,if_false]at b;have S:je Y X {u with drawn:=u.drawn+1} {w with drawn:=w.drawn+1}:=⟨d.S,by simp[d.N],d.C,d.I,d.M,d.r⟩;rw[d.S,d.N]at b;obtain⟨l,t,p,B,F,G,I,J,K,g,L,H⟩:=D (q.cut<|w.tape w.drawn q) S C (by rwa[d.S,d.N]) n;exact⟨l,t,p,B,F,G,by simp only[é,M,Å,if_false];exact I,J,K,⟨g.r,g.I,g.M,g.S,g.C,g.N⟩,L,H⟩
 |IH _ D=>
  intro u w d C x E b n;simp only[ã]at b;let⟨l,t,p,B,h⟩:=D d C b n;exact⟨l,t,p,B,by simpa only[é]using h⟩
 |@CK Y mk k k' hm _ D=>
  intro u w d C x E b n;simp only[ã]at b;let⟨l,t,p,B,F,G,I,J,K,g,L,H⟩:=D d C b<|n.push ⟨ů mk,Ã,É⟩;refine⟨l,t,p,#[⟨ů mk,Ã,É⟩]++B,F,G,?_,J,K,g,λe o=> ?_,H⟩
  .simp only[é];rw[I];rw[<-Ļ,Ł]
  .rcases Ĝ.1 o with o|o
   .simp at o;subst o;rcases hm with rfl|⟨f,rfl⟩
    .exact Î<|Ç U
    .exact Î<|Î ⟨f,U⟩
   .exact L e o
 |fP=>
  intro u w _ _ x E b n;simp only[ã]at b;cases b
 |ou h=>
  intro u w _ _ x E b n;exact absurd b<|h _ _ _
end
inductive jM:Â->Prop
 |ml (b:Bool):jM (Ľ b)
 |iG (k:ú) (n:Int):jM (Ć k n)
 |kC (s:ByteArray):jM (ħ s)
 |lG:jM (Þ ë)
 |nY (n c:Nat):jM (bS ë n c)
 |uP:jM bT
 |uQ:jM aW
 |uR:jM (eu ë)
 |uS:jM (.map ë)
 |ot {cs:Array Â} (h:∀i (h:i<cs.size),jM cs[i]):jM (.agg cs)
 |nD {cs:Array Â} (h:∀i (h:i<cs.size),jM cs[i]):jM (ſ cs)
def jM.jA(h:jM v)(Y:ft):fl Y v v:=by
 induction h with
 |ml b=>exact .ml b
 |iG k n=>exact .iG k n
 |kC s=>exact .kC s
 |lG=>exact .lG
 |nY n c=>exact .nY n c
 |uP=>exact .uP
 |uQ=>exact .uQ
 |uR=>exact .uR
 |uS=>exact .uS
 |ot _ b=>exact .ot U λi c _=>b i c
 |nD _ b=>exact .nD U λi c _=>b i c
def nG(P:Õ):Prop:=∀t i z,P.info? t=À i->i.zero=À z->jM z
def jm{α:Type}:ft->α->α->Prop:=λ_ a b=>a=b
section
variable{Y:ft}
def fF{α β:Type}{V:ft->α->α->Prop}{V':ft->β->β->Prop}{m c:ē α}{f d:α->ē β}(h:fH P V Y m c) (g:∀b a e,Y.r b->V b a e->fH P V' b (f a) (d e)):fH P V' Y (m>>=f) (c>>=d):=fH.lI h g
def rY{α β:Type}{c:ft->β->β->Prop}{m:ē α}{f d:α->ē β}(h:fH P jm Y m m) (g:∀b a,Y.r b->fH P c b (f a) (d a)):fH P c Y (m>>=f) (m>>=d):= fH.lI h λb a i j (e:a=i)=>by subst e;exact g b a j
def qM:fH P (λ_ a b=>a=P/\b=P) Y dh dh:=.IH (.fD ⟨U,U⟩)
theorem M8{α:Type}{V:ft->α->α->Prop}{e:Ι}(h:(∃x y s c,e=.bounds x y s c)\/(∃m,e=.error m)\/(∃m,e=.plain m)\/e=.nilDeref):fH P V Y (runtimePanic e) (runtimePanic e):=by unfold runtimePanic;refine fF qM ?_;rintro f a g _ ⟨b,d⟩;rw[b,d];rcases h with⟨x,y,s,c,rfl⟩|⟨m,rfl⟩|⟨m,rfl⟩|rfl<;>exact .fP
theorem CM{α:Type}{V:ft->α->α->Prop}{k:ú}{y:Int}{c:ax}:fH P V Y (boundsPanic k h y c) (boundsPanic k h y c):=by
 unfold boundsPanic;simp only[];split
 .apply rY (.Aj λn=> .fD U);grind [M8]
 .grind [M8]
def yh(t:Á):fH P (λ_ a b=>a=b/\P.info? t=À a) Y (Δ t) (Δ t):=by
 unfold Δ;apply fF qM;rintro e a b _ ⟨c,d⟩;rw[c,d];cases h:P.info? t with
 |some i=>exact .fD ⟨U,U⟩
 |none=>exact .fP
def iZ(t:Á):fH P (λ_ a b=>a=b/\P.underlying t=À a) Y (ø t) (ø t):=by
 unfold ø;apply fF qM;rintro e a b _ ⟨c,d⟩;rw[c,d];cases h:P.underlying t with
 |some i=>exact .fD ⟨U,U⟩
 |none=>exact .fP
def Fh(b:nG P)(t:Á):fH P fl Y (ω t) (ω t):=by
 unfold ω;apply fF (yh t);rintro d a e _ ⟨rfl,h⟩;cases c:a.zero with
 |some z=>exact .fD ((b t a z h c).jA _)
 |none=>exact .fP
def mW(t:Á):fH P (λ_ a b=>a=b/\∃i,P.info? t=À i/\i.size=a) Y (ay t) (ay t):=by unfold ay;apply fF (yh t);rintro i a b _ ⟨rfl,h⟩;exact .fD ⟨U,_,h,U⟩
def UO(t:Á):fH P jm Y (ey t) (ey t):=by unfold ey;apply fF (iZ t);rintro b a c _ ⟨rfl,_⟩;split<;>exact .fD U
def IN(h:gZ Y a p):fH P fl Y (aX a) (aX p):=.gA h λ_ _ b=> .fD b
def acN(h:gZ Y a p)(b:fl Y v x):fH P jm Y (ar a v) (ar p x):=.ja h b (.fD U)
def acO:∀{Y:ft} {a b:Ú} {i:Nat} {c d:Array Â},gZ Y a b->fR Y c d->fH P fR Y (Ō a i n c) (Ō b i n d):=by
 induction n with
 |zero=>intro Y a b i c d _ e;exact .fD e
 |succ n h=>
  intro Y a b i c d f e;unfold Ō;apply fF (IN<|f.C i);exact λk v l g j=>h (f.r g)<|(e.I g).UI j
def M9(h:gZ Y a p)(n:Nat):fH P fR Y (da a n) (da p n):=acO h<|fR.N Y
def Na:∀{d c:List Â} {Y:ft} {a e:Ú} {i:Nat},gZ Y a e->fR Y d.toArray c.toArray->fH P jm Y (Κ a d i) (Κ e c i):=by
 intro d
 induction d with
 |nil=>
  intro c Y a e i _ b;have:c=[]:=by have:=b.r;simp at this;exact Ā this.symm
  subst this;exact .fD U
 |cons v d h=>
  intro c Y a e i f b;match c,b with
  |[],b=>have:=b.r;simp at this
  |v'::c,b=>
   unfold Κ;refine fF (acN (f.C i) (by have:=b.C 0 fp fp;simpa using this)) ?_;intro m _ _ g _;apply h (f.r g);refine⟨by have:=b.r;simpa using this,λj k l=> ?_⟩;have:=b.C (j+1) (by simp at k|-;omega) (by simp at l|-;omega);exact(by simpa using this:fl Y _ _).fO g
theorem UP(h:gZ Y a p)(t:Á):fH P fl Y (ae t a) (ae t p):=by
 unfold ae;apply rY (UO t);intro g b d;split
 .apply fF (mW t);rintro i n _ f ⟨rfl,_⟩;apply fF (M9 ((h.r d).r f) n);exact λj c k _ e=> .fD (.ot e.r e.C)
 .exact IN<|h.r d
def acP(h:gZ Y a p)(t:Á)(d:fl Y v x):fH P jm Y (aJ t a v) (aJ t p x):=by
 unfold aJ;apply fF (mW t);rintro f n _ b ⟨rfl,_⟩;have c:=(d.fO b).gS;by_cases e:v.cells.size≠n
 .rw[if_pos e];exact .fP
 .rw[if_neg e,if_neg (by rwa[<-c.r])];exact Na (h.r b) c
def Am(e:Á)(h:fR Y d q):fH P gZ Y (dU e d) (dU e q):= .yf h λ_ _ _ _ _ _=> .fD ⟨Î ⟨U,U⟩,U,U⟩
def UQ(t:Á)(h:fl Y v x):fH P gZ Y (eM t v) (eM t x):=Am t h.gS
def UR(t:Á)(h:fR Y d q)(a:Nat):fH P fl Y (part t d a) (part t q a):=by
 unfold part;apply rY (UO t);intro i b e;split
 .apply fF (mW t);rintro g n _ f ⟨rfl,_⟩;have:=((h.I e).I f).Fe a<|a+n;exact .fD (.ot this.r this.C)
 .rcases(h.I e).S a with⟨n,f⟩|⟨v,j,n,f,g⟩
  .rw[n];exact .fP
  .rw[n,f];exact .fD g
def Fi(h:fl Y v x):fH P gZ Y (ŧ v) (ŧ x):=by cases h<;>first|exact .fP|(rename_i a;exact .fD a)
def IP(h:fl Y v x):fH P jm Y (di v) (di x):=by cases h<;>first|exact .fD U|exact .fP
def Nb(h:fl Y v x):fH P jm Y (dD v) (dD x):=by unfold dD;apply fF (IP h);rintro b a _ _ rfl;exact .fD U
def US(h:fl Y v x):fH P jm Y (bW v) (bW x):=by cases h<;>first|exact .fD U|exact .fP
def acQ(h:fl Y v x):fH P fR Y (eN v) (eN x):=by cases h<;>first|exact .fP|(rename_i a y;exact .fD ⟨a,y⟩)
def UT(h:fl Y v x):fH P gZ Y (bX v) (bX x):=by cases h<;>first|exact M8 (Î<|Î<|Î U)|(rename_i a;exact .fD a)|exact .fP
def acR(b:nG P)(t:Á)(v:Â):fH P fl Y (Ű t É v) (Ű t É v):=by unfold Ű;apply fF (Fh b t);intro d z e _ h;apply fF (UQ t h);exact λf a g _ c=> .fD (.jL c)
def acS(t:Á)(h:fl Y v x):fH P fl Y (ag t v) (ag t x):=by unfold ag;apply fF (UQ t h);exact λc a d _ b=> .fD (.jL b)
theorem acT(t:Á)(h:fl Y v x):fH P fl Y (Ş t v) (Ş t x):=by unfold Ş;apply fF (Fi h);grind [UP]
def acU(t:Á)(b:fl Y x z)(h:fl Y v jQ):fH P jm Y (ĳ t x v) (ĳ t z jQ):=by unfold ĳ;apply fF (Fi b);exact λd x z c b=>acP b t<|h.fO c
def acV(h:fl Y v x)(n:Nat):fH P fl Y (ō v n) (ō x n):=by
 cases h<;>first|exact .fP|skip
 rename_i e f c h;simp only[ō];rcases(fR.mk c h).S n with⟨a,b⟩|⟨v,x,a,b,d⟩
 .rw[a];exact .fP
 .rw[a,b];exact .fD d
def acW(t:Á)(h:fl Y v x)(n:Nat):fH P fl Y (ű t v n) (ű t x n):=by
 unfold ű;apply fF (iZ t);rintro g d _ a ⟨rfl,_⟩;split
 .rename_i b _;cases i:b[n]? with
  |none=>exact .fP
  |some f=>
   apply fF (acQ<|h.fO a);exact λj c k _ e=>UR f.type e f.offset
 .exact .fP
end
section
variable{Y:ft}
def qN{α β:Type}{V:ft->β->β->Prop}{a b:α}{f c:α->ē β}(h:fH P V Y (f a) (c b)):fH P V Y (pure a>>=f) (pure b>>=c):=h
def acX(s:Á)(h:fl Y v x)(n:Nat)(e:∀c f i,P.underlying s=À (dj c)->c[n]?=À f->P.info? f.type=À i->i.size≠0): fH P fl Y (Ŏ s v n) (Ŏ s x n):=by
 unfold Ŏ;apply fF (iZ s);rintro r d _ g ⟨rfl,j⟩;cases d<;>try exact .fP
 .rename_i c;simp only[];cases k:c[n]? with
  |none=>exact .fP
  |some f=>
   apply fF (Fi<|h.fO g);intro t a u _ l;unfold bY;refine fF (fF (V':=gZ) (mW f.type) ?_) ?_
   .rintro w z _ m ⟨rfl,i,o,p⟩;have:¬z=0:=by rw[<-p];exact e c f i j k o
    rw[if_neg this,if_neg this];exact .fD ((l.r m).C _)
   .exact λy b B _ q=> .fD (.jL q)
def acY(t:Á)(h:fl Y x v)(j:fl Y z jQ):fH P fl Y (ŏ t x z) (ŏ t v jQ):=by
 unfold ŏ;apply fF (IP j);rintro r ⟨k,n⟩ _ l rfl;apply fF (iZ t);rintro f d _ m ⟨rfl,s⟩;have g:=(h.fO l).fO m;cases d<;>try exact .fP
 .cases g<;>first|exact .fP|skip
  .refine qN<|fF (iZ t) ?_;exact λ_ _ _ _ _=>CM
  refine qN<|fF (iZ t) ?_;rintro o d _ c ⟨rfl,_⟩;simp only[];split
  .apply fF (mW _);rintro p b _ e ⟨rfl,_⟩;exact .fD (.jL (((‹gZ f _ _›.r c).r e).C _))
  .repeat' (first|exact .fP|exact CM|split)
 .apply fF (Fi g);intro f a u _ q;refine qN<|fF (iZ t) ?_;rintro o d _ c ⟨rfl,_⟩;simp only[];split
  .apply fF (mW _);rintro p b _ e ⟨rfl,_⟩;exact .fD (.jL (((q.r c).r e).C _))
  .repeat' (first|exact .fP|exact CM|split)
def CN(h:fl Y x v)(y:Nat)(c:ax):fH P jm Y (ī x y c) (ī v y c):=by
 unfold ī;apply fF (IP h);rintro a ⟨k,n⟩ _ b rfl;simp only[];split
 .exact .fD U
 .exact CM
def qO(Y:ft)(x a:Option Â):Prop:=(x=ë/\a=ë)\/∃v b,x=À v/\a=À b/\fl Y v b
def qO.r{Y a:ft}(h:Y.r a){x b:Option Â}(r:qO Y x b):qO a x b:=r.imp id λ⟨v,c,d,e,f⟩=>⟨v,c,d,e,f.fO h⟩
def Fj(f:Bool)(g i:Nat){l j h k m n:Option Â}(c:qO Y l j)(o:qO Y h k)(t:qO Y m n):fH P jm Y (Ĩ f g i l h m) (Ĩ f g i j k n):=by
 unfold Ĩ;rcases t with⟨rfl,rfl⟩|⟨B,C,rfl,rfl,u⟩
 .refine qN ?_;rcases o with⟨rfl,rfl⟩|⟨w,x,rfl,rfl,d⟩
  .refine qN ?_;rcases c with⟨rfl,rfl⟩|⟨v,p,rfl,rfl,b⟩
   .exact .fD U
   .apply fF (CN b _ _);rintro r q _ _ rfl;exact .fD U
  .refine fF (CN d _ _) ?_;rintro y a _ e rfl;rcases(c.r e)with⟨rfl,rfl⟩|⟨v,p,rfl,rfl,b⟩
   .exact .fD U
   .apply fF (CN b _ _);rintro r q _ _ rfl;exact .fD U
 .refine fF (CN u _ _) ?_;rintro D a _ s rfl;rcases o with⟨rfl,rfl⟩|⟨w,x,rfl,rfl,d⟩
  .exact .fP
  .refine fF (CN (d.fO s) _ _) ?_;rintro y z _ e rfl;rcases(((c.r s).r e))with⟨rfl,rfl⟩|⟨v,p,rfl,rfl,b⟩
   .exact .fD U
   .apply fF (CN b _ _);rintro r q _ _ rfl;exact .fD U
def acZ(t:Á)(k:fl Y x v){l C h D m u:Option Â}(g:qO Y l C)(i:qO Y h D)(j:qO Y m u):fH P fl Y (Ų t x l h m) (Ų t v C D u):=by
 unfold Ų;apply fF (iZ t);rintro I d _ o ⟨rfl,J⟩;have k:=k.fO o;have g:=g.r o;have i:=i.r o;have j:=j.r o;cases d<;>try exact .fP
 .cases k<;>first|exact .fP|skip
  rename_i s;have e:m.isSome=u.isSome:=by rcases j with⟨rfl,rfl⟩|⟨_,_,rfl,rfl,_⟩<;>rfl
  simp only[e];split
  .exact .fP
  .apply fF (Fj Ã s.size s.size g i<|Ç ⟨U,U⟩);rintro G ⟨a,b,c⟩ _ _ rfl;exact .fD (.kC _)
 .rename_i H;apply fF (UT k);intro G a K B f;apply fF (iZ H);rintro L d _ p ⟨rfl,_⟩;have f:=f.r p;cases d<;>try exact .fP
  rename_i n e _;apply fF (Fj Ã n n ((g.r B).r p) ((i.r B).r p)<|(j.r B).r p);rintro E ⟨x,y,z⟩ _ q rfl;apply fF (mW e);rintro F w _ r ⟨rfl,_⟩;have f:=(f.r q).r r;refine .fD (.kD ?_ _ _);split
  .exact f
  .exact f.C _
 .rename_i e;cases k<;>first|exact .fP|skip
  .rename_i n c;apply fF (Fj É n c g i j);rintro E ⟨x,y,z⟩ _ q rfl;apply fF (mW e);rintro F w _ r ⟨rfl,_⟩;simp only[Option.map_none,ite_self];exact .fD (.nY _ _)
  .rename_i f n c;apply fF (Fj É n c g i j);rintro E ⟨x,y,z⟩ _ q rfl;apply fF (mW e);rintro F w _ r ⟨rfl,_⟩;have f:=(f.r q).r r;by_cases e:z=x
   .simp only[e,if_true];exact .fD (.kD f _ _)
   .simp only[e,if_false,bH];exact .fD (.kD (f.C _) _ _)
def ac0(t:Á)(b:fl Y x v){l o h p m q:Option Â}(c:qO Y l o)(f:qO Y h p)(g:qO Y m q):fH P fl Y (Ő t x l h m) (Ő t v o p q):=by
 unfold Ő;apply fF (iZ t);rintro u d _ i ⟨rfl,B⟩;have b:=b.fO i;have c:=c.r i;have f:=f.r i;have g:=g.r i;cases d<;>try exact acZ t b c f g
 rename_i n e;apply fF (Fi b);intro C a D k j;apply fF (Fj Ã n n (c.r k) (f.r k)<|g.r k);rintro E ⟨x,y,z⟩ _ r rfl;apply fF (mW e);rintro F w _ s ⟨rfl,_⟩;have j:=(j.r r).r s;refine .fD (.kD ?_ _ _);split
 .exact j
 .exact j.C _
def ac1(t:Á)(a:fl Y x v)(b:fl Y z jQ):fH P fl Y (ų t x z) (ų t v jQ):=by
 unfold ų;apply fF (IP b);rintro l ⟨k,n⟩ _ c rfl;apply fF (iZ t);rintro m d _ f ⟨rfl,o⟩;have a:=(a.fO c).fO f;cases d<;>try exact .fP
 .cases a<;>first|exact .fP|skip
  simp only[];split
  .exact .fD (.iG _ _)
  .exact CM
 .rename_i p e;cases a<;>first|exact .fP|skip
  rename_i g h;simp only[];split
  .apply fF (mW e);rintro q w _ j ⟨rfl,_⟩;exact UR e ((fR.mk g h).I j) _
  .exact CM
def ac2(a:UnOp)(b:fl Y x v):fH P fl Y (bZ a x) (bZ a v):=by cases b<;>cases a<;>first|exact .fP|exact .fD (.iG _ _)|exact .fD (.ml _)
end
section
variable{Y:ft}
def ac3{α β:Type}{g:α->ē β}(d:∀{Y:ft} (a:α),fH P jm Y (g a)<|g a):∀{Y:ft} (l:List α),fH P jm Y (l.mapM g) (l.mapM g):=by
 intro Y l
 induction l generalizing Y with
 |nil=>exact .fD U
 |cons a l e=>
  rw[ν];apply rY (d a);intro f b _;apply rY e;exact λh c _=> .fD U
def ac4{α β:Type}{g:α->ē β}(b:∀{Y:ft} (a:α),fH P jm Y (g a)<|g a)(l:Array α):fH P jm Y (l.mapM g) (l.mapM g):=by rw[Ĕ];have:=ac3 b (Y:=Y) l.toList;apply fH.lI this;intro d a c _ (e:a=c);subst e;exact .fD U
def ac5(Y:ft)(p a:Nat×Value):Prop:=p.1=a.1/\fl Y p.2 a.2
inductive uU(Y:ft):List (Nat×Value)->List (Nat×Value)->Prop
 |oP:uU Y [] []
 |wo {p p':Nat×Value} {l l':List (Nat×Value)} (h:ac5 Y p p') (t:uU Y l l'):uU Y (p::l) (p'::l')
def uU.fO{Y a:ft}(h:Y.r a){l b:List (Nat×Value)}(r:uU Y l b):uU a l b:=by
 induction r with
 |oP=>exact .oP
 |wo x _ c=>exact .wo ⟨x.1,x.2.fO h⟩ c
def ac6(f:Nat):∀(c a:List Â) (k:Nat) (b d:Array Â),fR Y c.toArray a.toArray->fR Y b d-> fR Y ((c.zipIdx k).foldl (λb (p:Value×Nat)=>b.setIfInBounds (f+p.2) p.1) b) ((a.zipIdx k).foldl (λb (p:Value×Nat)=>b.setIfInBounds (f+p.2) p.1) d):=by
 intro c
 induction c with
 |nil=>
  intro a k b d p e;have:a=[]:=by have:=p.r;simp at this;exact Ā this.symm
  subst this;exact e
 |cons x c g=>
  intro a k b d p e;match a,p with
  |[],p=>have:=p.r;simp at this
  |x'::a,p=>
   simp only[Ĭ,List.foldl_cons];refine g a (k+1) _ _ ⟨by have:=p.r;simpa using this,λj h i=> ?_⟩ (e.qh _ (by have:=p.C 0 fp fp;simpa using this));have:=p.C (j+1) (by simp at h|-;omega) (by simp at i|-;omega);simpa using this
theorem ac7(b:Nat){a c:Array Â}(e:fR Y d q)(f:fR Y a c): fR Y (d.zipIdx.foldl (λa (p:Value×Nat)=>a.setIfInBounds (b+p.2) p.1) a) (q.zipIdx.foldl (λa (p:Value×Nat)=>a.setIfInBounds (b+p.2) p.1) c):=by have:=ac6 b d.toList q.toList 0 a c (by simpa using e) f;grind [Array.toList_zipIdx]
def IQ(d:Nat->Option (Nat×Nat)):∀{l e:List (Nat×Value)} {a b:Array Â},uU Y l e->fR Y a b-> (az d a l=ë)\/∃c h,az d a l=À c/\az d b e=À h/\fR Y c h:=by
 intro l e a b h
 induction h generalizing a b with
 |oP=>intro c;exact Î ⟨a,b,U,U,c⟩
 |@wo p p' l e hp _ ih=>
  intro c;let⟨i,v⟩:=p;let⟨k,m⟩:=p';obtain⟨rfl,g⟩:=hp;unfold az;cases d i with
  |none=>exact Ç U
  |some q=>
   let⟨j,n⟩:=q;have f:=g.gS;simp only[<-f.r,<-c.r];split
   .exact Ç U
   .exact ih<|ac7 j f c
def ac8(q:nG P)(t:Á){l m:Array (Nat×Value)}(h:uU Y l.toList m.toList):fH P fl Y (Ŵ t l) (Ŵ t m):=by
 unfold Ŵ;apply fF (Fh q t);intro C z D r s;apply fF (iZ t);rintro E d _ o ⟨rfl,F⟩;have p:=(s.fO o).gS;have h:=(h.fO r).fO o;cases d<;>try exact .fP
 .rename_i n e;refine fF (mW e) ?_;rintro u w _ b ⟨rfl,_⟩;rcases IQ (λi=>À (i*w,w)) (h.fO b) (p.I b)with e|⟨c,v,j,k,g⟩
  .simp only[e];exact .fP
  .simp only[j,k];exact .fD (.ot g.r g.C)
 .rename_i x;refine rY (ac4 (λ{Y} (f:Field)=>fF (mW f.type) λG a H _ y=> ?_) x) ?_
  .obtain⟨rfl,_⟩:=y;exact .fD U
  .intro u B b;rcases IQ (B[·]?) (h.fO b) (p.I b)with e|⟨c,v,j,k,g⟩
   .simp only[e];exact .fP
   .simp only[j,k];exact .fD (.ot g.r g.C)
end
section
variable{Y:ft}
theorem ac9(Y:ft):fl Y (default:Â) default:=.ml _
theorem fR.ada{Y:ft}(r:fR Y d q)(i:Nat):fl Y d[i]! q[i]!:=by
 by_cases h:i<d.size
 .have a:i<q.size:=by rwa[<-r.r]
  rw[getElem!_pos d i h,getElem!_pos q i a];exact r.C i h a
 .have a:¬i<q.size:=by rwa[<-r.r]
  grind [getElem,ac9]
def fR.G{Y:ft}(r:fR Y d q)(n:Nat):fR Y ((dE n).map (d[· %d.size]!)) ((dE n).map (q[· %q.size]!)):=by refine⟨fp,λi a b=> ?_⟩;simp only[ŵ,<-r.r];exact r.ada _
def fR.yi{Y:ft}(r:fR Y d q)(n:Nat):fR Y (Ŷ d n) (Ŷ q n):=by
 unfold Ŷ;have e:n*d.size=n*q.size:=by rw[r.r]
 rw[<-e];exact r.G _
def adb(f:nG P)(t:Á)(b:Nat){m n:Array (Nat×Value)}(h:uU Y m.toList n.toList):fH P fl Y (ĭ t b m) (ĭ t b n):=by
 unfold ĭ;apply fF (iZ t);rintro v d _ p ⟨rfl,x⟩;have h:=h.fO p;cases d<;>try exact .fP
 rename_i e;apply fF (mW e);rintro y w _ o ⟨rfl,_⟩;simp only[];split
 .exact .fP
 split
 .refine qN ?_;rcases IQ (λi=>À (i*w,w)) (h.fO o) ((fR.N _).G<|b*w)with e0|⟨c,q,g,j,k⟩
  .rw[e0];exact .fP
  .rw[g,j];exact fF (Am e k) λr a s _ l=> .fD (.kD l _ _)
 .refine fF (Fh f e) λB z C u f=>qN ?_;rcases IQ (λi=>À (i*w,w)) ((h.fO o).fO u) (f.gS.G<|b*w)with e0|⟨c,q,g,j,k⟩
  .rw[e0];exact .fP
  .rw[g,j];exact fF (Am e k) λr a s _ l=> .fD (.kD l _ _)
def Nc(h:fl Y x v):fH P jm Y (Α x) (Α v):=by cases h<;>first|exact .fP|exact .fD U
def fR.ade(Y:ft)(b:Array UInt8):fR Y (b.map λb=>Ć .u8 b.toNat) (b.map λb=>Ć .u8 b.toNat):= ⟨U,λi a _=>by simp only[ŵ];exact .iG _ _⟩
def Fl(a n:Nat)(h:fl Y x v):fH P fR Y (ļ a n x) (ļ a n v):=by
 cases h<;>first|exact .fP|exact .fD (fR.N _)|exact .fD (fR.ade _ _)|skip
 rename_i b _ _;exact M9 b _
def Nd(n:Nat):fH P jm Y (bP n) (bP n):=by
 unfold bP;split
 .exact .CK (Ç U) (.fD U)
 .exact .fD U
def adf(a:Array Á)(t:Á)(h:fl Y x v):fH P fl Y (ş a t #[x]) (ş a t #[v]):=by
 unfold ş;cases a[0]? with
 |none=>exact .fP
 |some b=>
  apply fF (iZ b);rintro f d _ c ⟨rfl,g⟩;have h:=h.fO c;cases d<;>try exact .fP
  .cases h<;>first|exact .fP|exact .fD (.iG _ _)
  .rename_i e;refine fF (iZ e) ?_;rintro i d _ j ⟨rfl,_⟩;cases d<;>first|exact .fP|exact .fD (.iG _ _)
  .cases h<;>first|exact .fP|exact .fD (.iG _ _)
  .exact .fD (.iG _ _)
  all_goals cases h<;>first|exact .fP|exact .fD (.iG _ _)
def adg(a:Array Á)(t:Á)(h:fl Y x v):fH P fl Y (Š a t #[x]) (Š a t #[v]):=by
 unfold Š;cases a[0]? with
 |none=>exact .fP
 |some b=>
  apply fF (iZ b);rintro f d _ c ⟨rfl,g⟩;have h:=h.fO c;cases d<;>try exact .fP
  .rename_i e;refine fF (iZ e) ?_;rintro i d _ j ⟨rfl,_⟩;cases d<;>first|exact .fP|exact .fD (.iG _ _)
  .cases h<;>first|exact .fP|exact .fD (.iG _ _)
  .exact .fD (.iG _ _)
  all_goals cases h<;>first|exact .fP|exact .fD (.iG _ _)
def adh(g:Array Á)(t:Á)(h:fl Y x v)(a:fl Y z jQ):fH P fl Y (ő g t #[x,z]) (ő g t #[v,jQ]):=by
 unfold ő;cases g[0]? with
 |none=>exact .fP
 |some l=>
  apply fF (iZ l);rintro u d _ i ⟨rfl,B⟩;have h:=h.fO i;have a:=a.fO i;cases d<;>try exact .fP
  rename_i e;cases h<;>first|exact .fP|skip
  .rename_i n c;apply fF (Nc a);rintro o m _ b rfl;apply fF (mW e);rintro p w _ f ⟨rfl,_⟩;apply fF (Fl w _<|(a.fO b).fO f);exact λq c r j k=> .fD (.iG _ _)
  .rename_i s n c;apply fF (Nc a);rintro o m _ b rfl;apply fF (mW e);rintro p w _ f ⟨rfl,_⟩;apply fF (Fl w _<|(a.fO b).fO f);intro q c r j k;apply fF (Na (((s.r b).r f).r j)<|by simpa using k);exact λC _ _ _ _=> .fD (.iG _ _)
end
section
variable{Y:ft}
def Nf{α:Type}{h:Halt}:∀u x a,(ew h:ē α).run P u≠ĥ x a:=by intro u x a e;cases e
theorem Fo{α β:Type}{m:ē α}{f:α->ē β}(h:∀a u x b,(f a).run P u≠ĥ x b):∀u x b,(m>>=f).run P u≠ĥ x b:=by
 intro u x b e;rw[Ä]at e;cases c:m.run P u with
 |ok a w=>rw[c]at e;exact h a _ _ _ e
 |halt z w=>rw[c]at e;cases e
theorem UU{α:Type}:∀u x a,(goPanic v:ē α).run P u≠ĥ x a:=Nf
def adi{α:Type}{v:br}:∀u x a,(unsupported v:ē α).run P u≠ĥ x a:=Nf
theorem qP{α:Type}(e:Ι):∀u x a,(runtimePanic e:ē α).run P u≠ĥ x a:=by unfold runtimePanic;grind [Fo,UU]
def IT{α:Type}{V:ft->α->α->Prop}{e:Ι}{m:ē α}:fH P V Y (runtimePanic e) m:=.ou (qP e)
def adj(H:nG P)(p g t:Á)(i:(∃e,P.underlying g=À (dm e))\/P.underlying g=À ę){B:Â}(j:fl Y v jQ)(c:fl Y x B): fH P fl Y (ĸ #[p,g] t #[v,x]) (ĸ #[p,g] t #[jQ,B]):=by
 unfold ĸ;apply fF (iZ p);rintro C d _ D ⟨rfl,W⟩;have j:=j.fO D;have c:=c.fO D;cases d<;>try exact .fP
 rename_i e;have r:=j;cases j<;>first|exact .fP|skip
 all_goals
  refine fF (mW e) ?_;rintro X w _ E ⟨rfl,_⟩;refine fF (iZ g) ?_;rintro ρ3 d1 _ F ⟨rfl,k⟩;rcases i with⟨e1,i⟩|i;all_goals
   rw[i]at k;injection k with k;subst k;refine qN<|fF (Nc<|c.fO<|ft.I E F) ?_;rintro ρ4 m _ I rfl;have f:=ft.I (ft.I E F) I;have c:=c.fO f;have r:=r.fO f;simp only[];split
   .apply fF (Fl w m c);intro J q K l u;first
     |exact .fD (.nY _ _)
     |exact fF (Na (((‹gZ C _ _›.r f).r l).C _)<|by simpa using u) λL _ _ h _=> .fD (.kD (((‹gZ C _ _›.r f).r l).r h) _ _)
   .apply fF (yh e);rintro J G _ l ⟨rfl,_⟩;split
    .exact .ou (wi<|qP _)
    .apply fF (yh e);rintro L G _ h ⟨rfl,_⟩;split
     .refine .ou (wi ?_);simp only[Å,if_false];refine Fo λb=> ?_;simp_all
     .apply rY (.Aj λ_=> .fD U);intro M nc y;apply fF (yh e);rintro N G _ n ⟨rfl,_⟩;apply rY (Nd _);intro O _ Q;have f:=ft.I (ft.I (ft.I l h)<|ft.I y n) Q;apply fF (Fl w _<|r.fO f);intro ρa o o' h S;apply fF (Fl w m<|c.fO<|ft.I f h);intro M q K y u;apply fF (Fh H e);intro N z z' n T;exact fF (Am e<|(((S.I y).I n).s6<|u.I n).s6<|T.gS.yi _) λO a a' _ V=> .fD (.kD V _ _)
end
section
variable{Y:ft}
def adk(g:nG P)(t:Á)(i:fl Y v x)(j:fl Y z jQ):fH P fl Y (Ĺ t v z) (Ĺ t x jQ):=by
 unfold Ĺ;apply fF (iZ t);rintro o d _ f ⟨rfl,p⟩;cases d<;>try exact .fP
 rename_i e;apply fF (Nb<|i.fO f);rintro q r _ k rfl;apply fF (Nb<|(j.fO f).fO k);rintro s u _ y rfl;apply fF (yh e);rintro B C _ D ⟨rfl,_⟩;simp only[];split
 .split
  .exact .ou (wi<|qP _)
  .split
   .exact .ou (wi<|qP _)
   .exact .ou (Fo λ_=>wi<|qP _)
 .apply rY (Nd _);intro E _ F;apply fF (mW e);rintro G w _ H ⟨rfl,_⟩;split
  .exact qN<|fF (Am e<|(fR.N _).G _) λm a n _ b=> .fD (.kD b _ _)
  .exact fF (Fh g e) λ_ _ _ _ h=>qN<|fF (Am e<|h.gS.G _) λm a n _ b=> .fD (.kD b _ _)
def s7(P:Õ)(t:Á):Prop:=P.underlying t=À .bool\/(∃k,P.underlying t=À (Β k))\/P.underlying t=À ę
def mX:Â->Prop
 |Þ (À _)=>False
 |_=>True
def UW(t:Á)(i:s7 P t\/∃e,P.underlying t=À (ð e))(b:fl Y x v)(c:fl Y z jQ)(j:mX x\/mX z):fH P jm Y (ó t x z) (ó t v jQ):=by
 unfold ó ā Λ;refine fF (iZ t) ?_;rintro o d _ g ⟨rfl,a⟩;have b:=b.fO g;have c:=c.fO g;rcases i with(h|⟨k,h⟩|h)|⟨e,h⟩;all_goals
  rw[h]at a;injection a with a;subst a;cases b<;>cases c<;>first|exact .fP|exact .fD U|(simp[mX]at j;done)|skip
 .simp only[];split<;>first|exact .fD U|exact .fP
 .rename_i l n _ _ _;by_cases f:n=0
  .subst f;exact .fD U
  .refine .ou λu x m e=> ?_;simp_all
 .rename_i l n;by_cases f:n=0
  .subst f;exact .fD U
  .refine .ou λu x m e=> ?_;simp_all
end
section
variable{Y:ft}
def IU{r:Nat}(h:Y r i):fH P (λ_ a b=>a=ë/\b=ë) Y (dp r) (dp i):=.uT h λ_ _ _ _=> .fD ⟨U,U⟩
def UX{r:Nat}(h:Y r i):fH P (λ_ a b=>a=ë/\b=ë) Y (b9 r) (b9 i):=.uT h λ_ _ _ _=> .fD ⟨U,U⟩
def An(h:gZ Y a p):fH P (λc x b=>gZ c x.1 b.1/\x.2=b.2/\x=(a,Ã)/\b=(p,Ã)) Y (Į a) (Į p):=by unfold Į;apply fF (UX h.1);rintro c x d b ⟨rfl,rfl⟩;exact .fD ⟨h.r b,U,U,U⟩
def adl(h:gZ Y a p):fH P jm Y (aY a) (aY p):=by unfold aY;apply fF (IU h.1);rintro b x c d ⟨rfl,rfl⟩;exact .fD U
def Fp(h:gZ Y a p):fH P jm Y (dq a) (dq p):=by
 have f:=h;let⟨g,i,b⟩:=f;unfold dq;cases c:a.spot with
 |some s=>
  rw[c]at b;rw[<-b];exact .fD U
 |none=>
  rw[c]at b;rw[<-b];apply fF qM;rintro k s l d ⟨rfl,e⟩;subst e;apply fF (adl<|h.r d);intro m _ _ j _;refine .uT (j.1 _ _<|d.1 _ _ g) λe n o q=> ?_;simp only[<-i,ç];split
  .exact .fD U
  .split
   .exact .fD U
   .exact .fP
def IV(c:Bi Y){b d:Ú}(f:gZ Y a p)(g:gZ Y b d):(a.block==b.block)=(p.block==d.block):=by
 rw[Χ,beq_iff_eq,beq_iff_eq];constructor
 .intro e;exact c.1 _ _ _ f.1<|e▸g.1
 .intro e;exact c.2.1 _ _ _ f.1<|e▸g.1
theorem UY(g:Bi Y){b c:Ú}(d:gZ Y a p)(f:gZ Y b c):(a==b)=(p==c):=by have e:=IV g d f;rw[Χ,beq_iff_eq,beq_iff_eq]at e;rw[Χ,beq_iff_eq,beq_iff_eq];let⟨h,i,j⟩:=a;let⟨k,l,m⟩:=p;let⟨n,o,q⟩:=b;let⟨r,s,t⟩:=c;let⟨_,u,v⟩:=d;let⟨_,w,x⟩:=f;grind
theorem UZ(f:Bi Y)(n:Y.C=P.globals.size){b d:Ú}(e:gZ Y a p)(g:gZ Y b d):fH P jm Y (š a b) (š p d):=by
 unfold š;apply fF qM;rintro o c q h ⟨i,j⟩;rw[i,j];have k:(a.block !=b.block)=(p.block !=d.block):=by simp only[bne];rw[IV f e g]
 have l:(decide<|a.block≥P.globals.size)=(decide<|p.block≥P.globals.size):=by have:=f.2.2 _ _ e.1;grind
 rw[k,l];split
 .exact .fP
 .apply fF (Fp<|e.r h);rintro r x _ m rfl;apply fF (Fp<|(g.r h).r m);rintro s y _ t rfl;exact .fD U
def adn(d:Bi Y)(e:Y.C=P.globals.size)(k:ú){b c:Ú}(f:gZ Y a p)(g:gZ Y b c):fH P fl Y (Μ k a b) (Μ k p c):=by unfold Μ;apply fF (UZ d e f g);rintro h ⟨x,y⟩ _ _ rfl;exact .fD (.iG _ _)
def ado(e:Bi Y)(f:Y.C=P.globals.size)(c:ġ){b d:Ú}(g:gZ Y a p)(h:gZ Y b d):fH P fl Y (Ν c a b) (Ν c p d):=by unfold Ν;refine fF (UZ e f g h) ?_;rintro i ⟨x,y⟩ _ _ rfl;cases c<;>first|exact .fD (.ml _)|exact .fP
def U0(k:ú)(b:gZ Y a p)(n:Int):fH P fl Y (Ξ k a n) (Ξ k p n):=by
 unfold Ξ;refine .uT b.1 λe m d f=> ?_;apply qN;apply fF (yh e);rintro g h _ c ⟨rfl,_⟩;simp only[];split
 .exact .fP
 .apply fF (Fp<|b.r c);rintro i x _ _ rfl;exact .fD (.iG _ _)
def adp{n:Int}(h:j<=b)(a:ξ P i e j k n=À m):ξ P i e b k n=À m:=by
 unfold ξ at a|-;simp only[bind,Option.bind]at a|-;split at a
 .cases a
 .rename_i f;rw[if_neg f];split at a
  .cases a
  .rename_i g;simp only[g];dsimp only at a;split at a
   .cases a
   .rename_i l;rw[if_neg]
    .exact a
    .intro o;apply l;have:=(λw=>Nat.mul_le_mul_right w h)<|P.bytesOf e;simp at o|-;omega
def adq{i:Á->Bool}:∀{d:Nat} {e:Á} {c a b n:Nat},c<=a->dc P i d e c b n=É->dc P i d e a b n=É
 |0,_,_,_,_,_,_,h=>by simp[dc]at h
 |d+1,e,c,a,b,n,hc,h=>by
  unfold dc at h|-;simp only at h|-;split at h
  .cases h
  .rename_i j;rw[if_neg j];rw[bI,ě,ě,ě]at h|-;rcases h with⟨⟨f,g⟩,k⟩|⟨f,g⟩
   .exact Ç ⟨⟨f,by simp at g|-;omega⟩,k⟩
   .exact Î ⟨by simp at f|-;omega,g⟩
def U1:∀{d:Nat} {e:Á} {c a b:Nat} {u:Á} {n:Nat},c<=a->aZ P d e c b u n=É->aZ P d e a b u n=É
 |0,_,_,_,_,_,_,_,h=>by simp[aZ]at h
 |d+1,e,c,a,b,u,n,hc,h=>by
  unfold aZ at h|-;rw[bI]at h|-;rcases h with h|h
  .exact Ç<|adq hc h
  .right;split at h
   .rename_i f;first|rw[f]|skip
    exact U1 hc h
   .cases h
def adr{a:Á->Bool}:dc P a i e 0 j (n+1)=Ã:=by
 cases i with
 |zero=>simp[dc]
 |succ i=>
  unfold dc;simp
def ads{k:ú}(a:P.underlying t=À (Β k)):aZ P i e 0 j t (n+1)=Ã:=by
 cases i with
 |zero=>simp[aZ]
 |succ i=>
  unfold aZ;rw[adr];simp[a]
def U2(t:Á)(d:gZ Y a p)(k:ú)(n:Int):fH P fl Y (ñ #[] t #[Þ<|À a,Ć k n]) (ñ #[] t #[Þ<|À p,Ć k n]):=by
 have f:=d;let⟨c,g,h⟩:=f;unfold ñ;apply qN;simp only[];split
 .apply fF (IU c);rintro i x e b ⟨rfl,rfl⟩;exact .fD (.jL (d.r b))
 .split
  .exact .fP
  .refine .uT c λe m u j=> ?_;apply qN;apply fF qM;rintro i b v l ⟨o,r⟩;rw[o,r,<-g];cases s:ξ P P.depth e (m/P.cellsOf e) a.off n with
   |none=>exact .fP
   |some x=>
    rw[adp (ο<|j.elim (λq=>by omega) λq=>q.1) s];exact .fD (.jL ⟨l.1 _ _ c,U,h⟩)
end
def yj:Obj->Prop
 |Č .. =>False
 |_=>True
inductive kE(P:Õ){α:Type}(V:ft->α->α->Prop):ft->ē α->ē α->Prop
 |gq {Y:ft} {m m':ē α} (h:fH P V Y m m'):kE P V Y m m'
 |lI {Y:ft} {β:Type} {V0:ft->β->β->Prop} {m m':ē β} {f f':β->ē α} (h:fH P V0 Y m m') (hf:∀Y' a a',Y.r Y'->V0 Y' a a'->kE P V Y' (f a) (f' a')):kE P V Y (m.bind f) (m'.bind f')
 |CO {Y:ft} {o:Obj} {g:Nat->α} {m':ē α} (ho:yj o):kE P V Y (.new o λr=>aI<|g r) m'
 |CP {Y:ft} {m m':ē α} (h:∀u x u',m.run P u=ĥ x u'->∃i o,u.heap.size<=i/\u'.heap[i]?=À o/\yj o):kE P V Y m m'
section
variable{Y:ft}
def kE.adt{α β:Type}{V:ft->α->α->Prop}{i:ft->β->β->Prop}{m e:ē α}{f j:α->β}(h:kE P V Y m e)(k:∀c a d,Y.r c->V c a d->i c (f a) (j d)): kE P i Y (m.bind λa=>aI<|f a) (e.bind λa=>aI<|j a):=by
 induction h with
 |gq h=>exact .gq (h.lI λc a d u w=> .fD (k c a d u w))
 |lI h _ g=>
  rw[ř,ř];exact .lI h λc a d u w=>g c a d u w λx b z l n=>k x b z (ft.I u l) n
 |CO b=>exact .CO b
 |@CP Y m e h=>
  refine .CP λu x l b=> ?_;rw[Ĵ]at b;cases g:m.run P u with
  |halt z w=>rw[g]at b;cases b
  |ok a w=>
   rw[g]at b;simp only[ã]at b;cases b;exact h u a _ g
def CQ(u a:Æ):Prop:=∀i o,u.heap.size<=i->a.heap[i]?=À o->¬yj o
def kE.gl{α:Type}{V:ft->α->α->Prop}{Y:ft}{m r:ē α}(h:kE P V Y m r):∀{u w:Æ},je Y X u w->(∀j,X j->j<w.heap.size)->∀{x:α} {c:Æ},m.run P u=ĥ x c->CQ u c->∀d:Array ý,∃(a:ft) (n:α) (s:Æ) (b:Array ý),Y.r a/\(∀i j,a i j->Y i j\/(u.heap.size<=i/\w.heap.size<=j))/\r.runT P w d=(ĥ n s,d++b)/\V a x n/\je a X c s/\nF Y X w s/\(∀e∈b,Ak a X e)/\u.heap.size<=c.heap.size:=by
 induction h with
 |gq h=>intro u w k g x c b _ d;exact h.gl k g b d
 |@lI Y β V0 m r f f' h _ ih=>
  intro u w k g x c b l d;rw[Ĵ]at b;cases t:m.run P u with
  |halt z w=>rw[t]at b;cases b
  |ok a u1=>
   rw[t]at b;let⟨G,H,w1,E,p,q,v,I,J,B,K,C⟩:=h.gl k g t d;let⟨L,n,M,N,F,O,Q,S,T,W,k7,k8⟩:=ih G a H p I J (λj s=>Ô (g j s) B.r) b (λi o s=>l i o<|õ C s)<|d++E;refine⟨L,n,M,E++N,ft.I p F,λi j D=> ?_,?_,S,T,B.fg W λi j D=>(q i j D).imp id λy=>y.2,λe s=> ?_,õ C k8⟩
   .rcases O i j D with y|⟨y1,y2⟩
    .exact q i j y
    .exact Î ⟨õ C y1,õ B.r y2⟩
   .rw[Ñ,v];simp only[];rw[Q,Ļ]
   .rcases Ĝ.1 s with s|s
    .rcases K e s with⟨a,i,y,z2,z3,z4⟩|z
     .exact Ç ⟨a,i,y,F.1 _ _ z2,z3,z4⟩
     .exact Î z
    .exact k7 e s
 |CO s=>
  intro u w k g x c b l d;simp only[ã]at b;cases b;exact absurd s<|l u.heap.size _ (ß _) fp
 |CP h=>
  intro u w k g x c b l d;let⟨i,o,p,q,v⟩:=h u x c b;exact absurd v<|l i o p q
end
section
variable{Y:ft}
theorem adu(i:Bi Y)(F:Y.C=P.globals.size)(t:Á)(s:s7 P t){j b m:Ú}(e:gZ Y a j)(f:gZ Y b m):fH P jm Y (ó t (Þ<|À a)<|Þ<|À b) (ó t (Þ<|À j)<|Þ<|À m):=by
 unfold ó ā Λ;refine fF (iZ t) ?_;rintro G d _ g ⟨rfl,c⟩;rcases s with h|⟨k,h⟩|h
 .rw[h]at c;injection c with c;subst c;exact .fP
 .rw[h]at c;injection c with c;subst c;apply fF (An<|e.r g);rintro H p u l ⟨_,_,rfl,rfl⟩;apply fF (An<|(f.r g).r l);rintro I q J n ⟨_,_,rfl,rfl⟩;apply fF qM;rintro K p u o ⟨v,w⟩;rw[v,w];have z:=(((e.r g).r l).r n).r o;have B:=(((f.r g).r l).r n).r o;have C:=IV i e f;have D:(decide<|a.block<P.globals.size)=(decide<|j.block<P.globals.size):=by
   have:=i.2.2 _ _ e.1;grind
  simp only[C,D];split
  .apply fF (Fp z);rintro E x _ r rfl;apply fF (Fp<|B.r r);rintro L y _ M rfl;exact .fD U
  .apply fF (yh t);rintro E x _ r ⟨rfl,_⟩;split
   .rw[UY i e f];split
    .exact .fD U
    .exact .fP
   .exact .fP
 .rw[h]at c;injection c with c;subst c;exact .fP
def adv(e:Bi Y)(f:Y.C=P.globals.size)(t:Á)(b:s7 P t)(c:fl Y x v)(d:fl Y z jQ):fH P jm Y (ó t x z) (ó t v jQ):=by
 by_cases a:mX x\/mX z
 .exact UW t (Ç b) c d a
 .have g:=λh=>a<|Ç h;have i:=λh=>a<|Î h;cases c<;>first|exact absurd trivial g|skip
  cases d<;>first|exact absurd trivial i|skip
  rename_i j _ _ k;exact adu e f t b j k
def adw(a:ġ)(k:ú)(x y:Int):fH P fl Y (ah a k x y) (ah a k x y):=by
 unfold ah;split
 .exact IT
 .cases a<;>first|exact .fP|exact .fD (.iG _ _)
def adx(a:ġ)(k b:ú)(x y:Int):fH P fl Y (aK a k x b y) (aK a k x b y):=by
 unfold aK;split
 .exact IT
 .cases a<;>first|exact .fP|exact .fD (.iG _ _)
def ady(a:ġ)(t:Á)(k b:ú)(x y:Int):fH P fl Y (Ũ a t (Ć k x)<|Ć b y) (Ũ a t (Ć k x)<|Ć b y):=by
 cases a<;>simp only[Ũ]<;>first|exact adx _ _ _ _ _|skip
 all_goals
  split
  .exact .fP
  .first|exact .fD (.iG _ _)|exact .fD (.ml _)|exact adw _ _ _ _
def adz(a:ġ)(t:Á)(x y:ByteArray):fH P fl Y (Ũ a t (ħ x)<|ħ y) (Ũ a t (ħ x)<|ħ y):=by
 cases a<;>simp only[Ũ,bu]<;>first|exact .fP|exact .fD (.ml _)|skip
 split
 .exact .fP
 .exact .fD (.kC _)
end
section
variable{Y:ft}
def kR{α β:Type}{V0:ft->β->β->Prop}{V:ft->α->α->Prop}{m c:ē β}{f d:β->ē α}(h:fH P V0 Y m c) (g:∀b a e,Y.r b->V0 b a e->kE P V b (f a) (d e)):kE P V Y (m>>=f) (c>>=d):=.lI h g
def adA{α β:Type}{V:ft->α->α->Prop}{c:ft->β->β->Prop}{m d:ē α}{f e:α->β}(h:kE P V Y m d)(i:∀b a g,Y.r b->V b a g->c b (f a) (e g)): kE P c Y (m>>=λa=>pure<|f a) (d>>=λa=>pure<|e a):=kE.adt h i
def U3(t:Á)(y:Â):∀u x a,(ñ #[] t #[Þ ë,y]).run P u≠ĥ x a:=by
 unfold ñ;refine Fo λn=> ?_;simp only[];split
 .exact adi
 .split;all_goals simp_all
def CR(t:Á)(i:fl Y x v)(j:∃p,x=Þ p)(k:ú)(n:Int):kE P fl Y (ŕ t x<|Ć k n) (ŕ t v<|Ć k n):=by
 obtain⟨p,rfl⟩:=j;cases i with
 |lG=>
  unfold ŕ;refine kR (iZ t) ?_;rintro e d _ h ⟨rfl,_⟩;cases d<;>simp only[Å,if_false,if_true]<;>first|exact .gq .fP|exact .gq (.ou (U3 t _))
 |jL f=>
  unfold ŕ;refine kR (iZ t) ?_;rintro e d _ h ⟨rfl,_⟩;have l:∀{a g:Ú},gZ e a g->kE P fl e (Į a>>=λp=>ñ #[] t #[Þ<|À p.1,Ć k n]>>=λc=>match c with|Þ (À b)=>cg b p.2|c=>pure c) (Į g>>=λp=>ñ #[] t #[Þ<|À p.1,Ć k n]>>=λc=>match c with|Þ (À b)=>cg b p.2|c=>pure c):=by intro a g f;refine kR (An f) ?_;rintro q p r s ⟨m,u,rfl,rfl⟩;refine kR (U2 t m k n) ?_;intro w c y z o;cases o<;>first|exact .CO trivial|exact .gq (.fD (by constructor<;>assumption))
  cases d<;>simp only[Å,if_false,if_true]<;>first|exact .gq .fP|exact l<|f.r h
def U4(t:Á)(b:fl Y x v)(c:∃p,x=Þ p)(k:ú)(n:Int):kE P fl Y (Ţ t x<|Ć k n) (Ţ t v<|Ć k n):=by
 unfold Ţ;obtain⟨p,rfl⟩:=c;cases b with
 |lG=>exact .gq (.ou (U3 t _))
 |jL a=>
  apply kR (UX a.1);rintro e p f d ⟨rfl,rfl⟩;exact .gq (U2 t (a.r d) k n)
def adB(P:Õ)(a:ġ)(t:Á)(x y:Â):Prop:=a=aA\/a=aL->(s7 P t\/((∃e,P.underlying t=À (ð e))/\(mX x\/mX y)))
def U5(c:Bi Y)(d:Y.C=P.globals.size)(t:Á)(f:s7 P t\/((∃e,P.underlying t=À (ð e))/\(mX x\/mX z)))(a:fl Y x v)(b:fl Y z jQ):fH P jm Y (ó t x z) (ó t v jQ):=by
 rcases f with h|⟨g,i⟩
 .exact adv c d t h a b
 .exact UW t (Î g) a b i
def adC(m:Bi Y)(n:Y.C=P.globals.size)(c:ġ)(t:Á)(r:adB P c t x z)(o:fl Y x v)(h:fl Y z jQ):kE P fl Y (Ũ c t x z) (Ũ c t v jQ):=by
 have f:c=aA->fH P fl Y (ó t x z>>=λb=>pure<|Ľ b) (ó t v jQ>>=λb=>pure<|Ľ b):=by intro e;apply fF (U5 m n t (r<|Ç e) o h);rintro i b _ _ rfl;exact .fD (.ml _)
 have g:c=aL->fH P fl Y (ó t x z>>=λb=>pure<|Ľ !b) (ó t v jQ>>=λb=>pure<|Ľ !b):=by intro e;apply fF (U5 m n t (r<|Î e) o h);rintro i b _ _ rfl;exact .fD (.ml _)
 cases o with
 |iG k a=>
  cases h with
  |iG d b=>exact .gq (ady c t k d a b)
  |jL l=>
   cases c<;>first|exact .gq .fP|exact .gq (f U)|exact .gq (g U)|exact CR t (.jL l) ⟨_,U⟩ _ _|skip
   apply kR (An l);rintro i p s e ⟨j,_,_,_⟩;exact .gq (U0 _ j _)
  |lG=>cases c<;>first|exact .gq .fP|exact .gq (f U)|exact .gq (g U)|exact CR t .lG ⟨_,U⟩ _ _
  |_=>cases c<;>first|exact .gq .fP|exact .gq (f U)|exact .gq (g U)
 |kC a=>
  cases h with
  |kC b=>exact .gq (adz c t a b)
  |_=>cases c<;>first|exact .gq .fP|exact .gq (f U)|exact .gq (g U)
 |lG=>
  cases h with
  |iG k b=>
   cases c<;>first|exact .gq .fP|exact .gq (f U)|exact .gq (g U)|exact CR t .lG ⟨_,U⟩ _ _|skip
   refine kR (iZ t) ?_;rintro i d _ e ⟨rfl,_⟩;cases d<;>simp only[Å,if_false,if_true]<;>first|exact U4 t .lG ⟨_,U⟩ _ _|exact CR t .lG ⟨_,U⟩ _ _
  |_=>cases c<;>first|exact .gq .fP|exact .gq (f U)|exact .gq (g U)
 |jL a=>
  cases h with
  |iG k b=>
   cases c<;>first|exact .gq .fP|exact .gq (f U)|exact .gq (g U)|exact CR t (.jL a) ⟨_,U⟩ _ _|skip
   .refine kR (iZ t) ?_;rintro i d _ e ⟨rfl,_⟩;have a:=a.r e;cases d<;>simp only[Å,if_false,if_true]<;>first|exact U4 t (.jL a) ⟨_,U⟩ _ _|exact CR t (.jL a) ⟨_,U⟩ _ _
   all_goals
    apply kR (An a);rintro i p s e ⟨j,_,_,_⟩;exact .gq (U0 _ j _)
  |jL l=>
   cases c<;>first|exact .gq .fP|exact .gq (f U)|exact .gq (g U)|skip
   all_goals
    refine kR (An a) ?_;rintro i p s e ⟨j,_,rfl,rfl⟩;refine kR (An<|l.r e) ?_;rintro w q B b ⟨d,_,rfl,rfl⟩;have k:=b.2.1<|e.2.1 m;have u:=b.2.2.trans<|e.2.2.trans n;first|exact .gq (adn k u _ (j.r b) d)|exact .gq (ado k u _ (j.r b) d)
  |_=>cases c<;>first|exact .gq .fP|exact .gq (f U)|exact .gq (g U)
 |_=>
  cases h<;>cases c<;>first|exact .gq .fP|exact .gq (f U)|exact .gq (g U)
end
section
variable{Y:ft}
def adD(a b:Á)(h:(∃k g,P.underlying a=À (Β k)/\P.underlying b=À (Β g))\/(P.underlying a=À ę/\P.underlying b=À ę))(f:fl Y x v):fH P fl Y (Œ a b x) (Œ a b v):=by
 unfold Œ;refine fF (iZ a) ?_;rintro n d _ l ⟨rfl,c⟩;refine fF (iZ b) ?_;rintro o p _ m ⟨rfl,e⟩;have f:=(f.fO l).fO m;rcases h with⟨k,g,i,j⟩|⟨i,j⟩;all_goals
  rw[i]at c;rw[j]at e;injection c with c;injection e with e;subst c e;cases f<;>first|exact .fP|exact .fD (.iG _ _)|exact .fD (.kC _)
inductive oQ(Y:ft):Ο->Ο->Prop
 |nH {v v':Â} (h:fl Y v v'):oQ Y (ï v) (ï v')
 |rZ:oQ Y aH aH
 |sd (f:à) {c c':Array Â} (h:fR Y c c'):oQ Y (ũ f c) (ũ f c')
def Fq(P:Õ)(t:Á):Prop:=s7 P t\/∃e,P.underlying t=À (ð e)
def adE(t:Á)(f:Fq P t)(a g b i:Â):fH P jm Y (į ā t a b) (į ā t g i):=by
 unfold ā į;refine fF (iZ t) ?_;rintro j d _ l ⟨rfl,c⟩;rcases f with(h|⟨k,h⟩|h)|⟨e,h⟩;all_goals
  rw[h]at c;injection c with c;subst c;exact .fD U
def adF(e:ġ)(t:Á)(c:e=aA\/e=aL->Fq P t)(x y:Ö){d:Â}(h:fl Y v z)(i:fl Y jQ d):fH P jm Y (ŷ e t x y v jQ) (ŷ e t x y z d):=by
 have g:Fq P t->∀{f:ft} (s:br) (v z jQ d:Â),fH P jm f (į ā t v jQ>>=λr=>if r=É then unsupported s else pure ()) (į ā t z d>>=λr=>if r=É then unsupported s else pure ()):=by
  intro c f s v z jQ d;apply fF (adE t c v z jQ d);rintro j r _ _ rfl;split
  .exact .fP
  .exact .fD U
 unfold ŷ;cases e<;>first|exact .fD U|skip
 all_goals
  have c:=c (by first|exact Ç U|exact Î U);cases h<;>cases i<;>first|exact .fD U|skip
 all_goals first
  |(cases x<;>cases y<;>first|exact .fD U|exact g c _ _ _ _ _)
  |(
   simp only[þ,Å,if_false];apply fF qM;rintro f p m n ⟨r,s⟩;rw[r,s];apply fF qM;rintro j q o u ⟨k,l⟩;rw[k,l];split
   .exact .fD U
   .exact g c _ _ _ _ _)
def mI{m a:ē Â}(h:fH P fl Y m a):fH P oQ Y (m>>=λv=>pure<|ï v) (a>>=λv=>pure<|ï v):=h.lI λ_ _ _ _ v=> .fD (.nH v)
def U6{m a:ē Â}(h:kE P fl Y m a):kE P oQ Y (m>>=λv=>pure<|ï v) (a>>=λv=>pure<|ï v):=adA h λ_ _ _ _ v=> .nH v
def adG{m a:ē Unit}(h:fH P jm Y m a):fH P oQ Y (m>>=λ_=>pure aH) (a>>=λ_=>pure aH):=h.lI λ_ _ _ _ _=> .fD .rZ
def adH(f:à)(b:∃a,P.funcs[f]?=À a/\(a.name== "runtime.NumGoroutine")=Ã/\a.body.isNone=Ã)(e:fR Y d q):fH P oQ Y (ĵ f d) (ĵ f q):=by let⟨a,g,h,i⟩:=b;unfold ĵ;apply fF qM;rintro m p n j ⟨k,l⟩;rw[k,l,g];simp only[h,i,Å,if_false];exact .fD (.sd f (e.I j))
end
inductive j2(P:Õ)(ev:Ö->Â):Op->Prop
 |Ao (x:Ö):j2 P ev (.move x)
 |Fs (x:Ö):j2 P ev (.assign x)
 |wq (c a b:Ö):j2 P ev (.pick c a b)
 |gI (t:Á):j2 P ev (.alloc t)
 |Ng (t:Á) (x:Ö):j2 P ev (.box t x)
 |Nh (t:Á) (ps:Array (Nat×Operand)):j2 P ev (.build t ps)
 |Ni (t:Á) (n:Nat) (ps:Array (Nat×Operand)):j2 P ev (dF t n ps)
 |gA (t:Á) (a:Ö):j2 P ev (.load t a)
 |ja (t:Á) (a x:Ö):j2 P ev (.store t a x)
 |Ft (x:Ö):j2 P ev (eD x)
 |CS (op:ġ) (t:Á) (x y:Ö) (r:Á) (h:op=aA\/op=aL->(s7 P t\/((∃e,P.underlying t=À (ð e))/\(mX (ev x)\/mX (ev y))))):j2 P ev (dV op t x y r)
 |Nj (op:UnOp) (t:Á) (x:Ö):j2 P ev (.unOp op t x)
 |Nk (s d:Á) (x:Ö) (h:(∃k k',P.underlying s=À (Β k)/\P.underlying d=À (Β k'))\/(P.underlying s=À ę/\P.underlying d=À ę)):j2 P ev (aN s d x)
 |Nl (t:Á) (l c:Ö):j2 P ev (dW t l c)
 |kD (t:Á) (x:Ö) (lo hi mx:Option Ö):j2 P ev (.slice t x lo hi mx)
 |Nn (s:Á) (x:Ö) (n:Nat) (h:∀fields f i,P.underlying s=À (dj fields)->fields[n]?=À f->P.info? f.type=À i->i.size≠0):j2 P ev (dX s x n)
 |Np (t:Á) (x:Ö) (n:Nat):j2 P ev (.field t x n)
 |Nq (t:Á) (x i:Ö):j2 P ev (dY t x i)
 |Nr (t:Á) (x i:Ö):j2 P ev (.index t x i)
 |Fe (x:Ö) (n:Nat):j2 P ev (.extract x n)
 |Fu (x:Ö) (ts:Array Á):j2 P ev (Ω {callee:=ĝ .len,args:=#[x],argTypes:=ts})
 |Fv (x:Ö) (ts:Array Á):j2 P ev (Ω {callee:=ĝ .cap,args:=#[x],argTypes:=ts})
 |Fw (x y:Ö) (ts:Array Á):j2 P ev (Ω {callee:=ĝ .copy,args:=#[x,y],argTypes:=ts})
 |s6 (x y:Ö) (t0 t1:Á) (h:(∃e,P.underlying t1=À (dm e))\/P.underlying t1=À ę):j2 P ev (Ω {callee:=ĝ .append,args:=#[x,y],argTypes:=#[t0,t1]})
 |jF (f:à) (args:Array Ö) (ts:Array Á) (U7:ev (aO f)=eL (.func f) #[] #[]) (h:∃fn,P.funcs[f]?=À fn/\(fn.name== "runtime.NumGoroutine")=Ã/\fn.body.isNone=Ã):j2 P ev (Ω {callee:=cj<|aO f,args:=args,argTypes:=ts})
end Go.Proofs.Y.Lift
namespace Go.Proofs.Y.Lift
open Go Go.Conc
section
variable{Y:ft}
def U8(Y:ft):Ö->Prop
 |dZ v=>fl Y v v
 |ez g=>Y g g
 |_=>True
theorem Fy(Y:ft):fl Y ľ ľ:=.nD U λi h=>absurd h fp
def adI{a a':bF}(h:fR Y a.tmps a'.tmps)(b:U8 Y qQ):fl Y (a.eval qQ) (a'.eval qQ):=by
 cases qQ with
 |tmp t=>
  simp only[å,ĩ];rcases h.S t with⟨f,g⟩|⟨v,d,f,g,c⟩
  .rw[f,g];exact Fy Y
  .rwa[f,g]
 |const v=>exact b
 |global g=>exact .jL ⟨b,U,U⟩
 |func f=>exact .fn _
def adJ(b:Array av)(h:fR Y d q)(j:Nat):ł b d j=ł b q j:=by
 unfold ł;cases(b[j]?).bind (·.dst)with
 |none=>rfl
 |some a=>
  simp only[Option.bind_some];rcases h.S a with⟨c,e⟩|⟨v,g,c,e,f⟩
  .rw[c,e]
  .rw[c,e];cases f<;>rfl
def IW(a:Array av)(o:av)(h:fR Y d q):Ħ o (ł a d)=Ħ o (ł a q):=by have:ł a d=ł a q:=funext<|adJ a h;rw[this]
def adK{a a':bF}(h:fR Y a.tmps a'.tmps)(d:Option Tmp)(b:fl Y v x):fR Y (a.put d v).tmps (a'.put d x).tmps:=by
 cases d with
 |none=>exact h
 |some d=>exact h.qh d b
end
section
variable{Y:ft}
def U9{b:Ö->Â}(a:Array Ö)(h:∀x∈a,fl Y (xX x)<|b x):fR Y (a.map xX) (a.map b):= ⟨fp,λi c d=>by simp only[ŵ];exact h _<|Array.getElem_mem _⟩
def Va{c:Ö->Â}(a:Array (Nat×Operand))(h:∀x∈(a.toList.map (·.2)).toArray,fl Y (xX x)<|c x):uU Y (a.map λp=>(p.1,xX p.2)).toList (a.map λp=>(p.1,c p.2)).toList:=by
 simp only[Array.toList_map];have d:∀x∈a.toList.map (·.2),fl Y (xX x) (c x):=λx b=>h x (by simpa using b);generalize a.toList=l at d
 induction l with
 |nil=>exact .oP
 |cons p l e=>exact .wo ⟨U,d _ fp⟩ (e λx b=>d x<|by simp at b|-;exact Î b)
def Ns{a:Ö->Â}(x:Option Ö)(h:∀y,x=À y->fl Y (xX y) (a y)):qO Y (x.map xX) (x.map a):=by
 cases x with
 |none=>exact Ç ⟨U,U⟩
 |some x=>exact Î ⟨_,_,U,U,h x U⟩
def Vb(p:nG P)(D:Bi Y)(E:Y.C=P.globals.size){w:Ö->Â}(F:∀f,w (aO f)=eL (.func f) #[] #[])(B:j2 P xX o.op)(g:∀x∈o.op.operands,fl Y (xX x)<|w x):kE P oQ Y (ì xX o) (ì w o):=by
 let⟨O,u,Q,S,T,guard⟩:=o;simp only at B g;unfold ì;simp only[];cases B with
 |Ao x=>exact .gq (.fD (oQ.nH<|g x<|by simp[Ê]))
 |Fs x=>exact .gq (.fD (oQ.nH<|g x<|by simp[Ê]))
 |wq c a b=>
  apply kR (US<|g c<|by simp[Ê]);rintro G r _ k rfl;refine .gq (.fD (oQ.nH ?_));split
  .exact(g a<|by simp[Ê]).fO k
  .exact(g b<|by simp[Ê]).fO k
 |gI t=>exact .gq (mI<|acR p t _)
 |Ng t x=>exact .gq (mI<|acS t<|g x<|by simp[Ê])
 |Nh t z=>exact .gq (mI<|ac8 p t<|Va z g)
 |Ni t n z=>exact .gq (mI<|adb p t n<|Va z g)
 |gA t a=>exact .gq (mI<|acT t<|g a<|by simp[Ê])
 |ja t a x=>exact .gq (adG<|acU t (g a<|by simp[Ê])<|g x<|by simp[Ê])
 |Ft x=>
  simp only[];have j:=g x (by simp[Ê]);generalize xX x=v at j;generalize w x=v' at j;cases j<;>first|exact .gq IT|exact .gq (.fD (oQ.nH<|by constructor<;>assumption))|skip
  rename_i f;cases f<;>exact .gq (.fD (oQ.nH<|.fn _))
 |CS u t x y r h=>
  have j:=g x (by simp[Ê]);have C:=g y (by simp[Ê]);apply U6;apply kR (adF u t (λe=>(h e).imp id λq=>q.1) x y j C);exact λG _ _ k _=>adC (k.2.1 D) (k.2.2.trans E) u t h (j.fO k)<|C.fO k
 |Nj u t x=>exact .gq (mI<|ac2 u<|g x<|by simp[Ê])
 |Nk s d x h=>exact .gq (mI<|adD s d h<|g x<|by simp[Ê])
 |Nl t l c=>exact .gq (mI<|adk p t (g l<|by simp[Ê])<|g c<|by simp[Ê])
 |kD t x H I J=>exact .gq (mI<|ac0 t (g x<|by simp[Ê]) (Ns H λy e=>g y<|by simp[Ê,e]) (Ns I λy e=>g y<|by simp[Ê,e])<|Ns J λy e=>g y<|by simp[Ê,e])
 |Nn s x n h=>exact .gq (mI<|acX s (g x<|by simp[Ê]) n h)
 |Np t x n=>exact .gq (mI<|acW t (g x<|by simp[Ê]) n)
 |Nq t x i=>exact .gq (mI<|acY t (g x<|by simp[Ê])<|g i<|by simp[Ê])
 |Nr t x i=>exact .gq (mI<|ac1 t (g x<|by simp[Ê])<|g i<|by simp[Ê])
 |Fe x n=>exact .gq (mI<|acV (g x<|by simp[Ê]) n)
 |Fu x m=>
  simp only[ù,č,Ē,pure_bind,Ø,â,ä];exact .gq (mI<|adf m _<|g x<|by simp[Ê,ô])
 |Fv x m=>
  simp only[ù,č,Ē,pure_bind,Ø,â,ä];exact .gq (mI<|adg m _<|g x<|by simp[Ê,ô])
 |Fw x y m=>
  simp only[ù,č,Ē,pure_bind,Ø,â,ä];exact .gq (mI<|adh m _ (g x<|by simp[Ê,ô])<|g y<|by simp[Ê,ô])
 |s6 x y K L h=>
  simp only[ù,č,Ē,pure_bind,Ø,â,ä];exact .gq (mI<|adj p K L _ h (g x<|by simp[Ê,ô])<|g y<|by simp[Ê,ô])
 |jF f M m N h=>
  simp only[ù,N,F f,İ,č,pure_bind,Ď,ď];exact .gq (adH f h<|U9 M λx j=>g x<|by simp[Ê,ô,j])
end
def World.tp(u:Æ)(T:ψ)(D:Nat):Æ:={u with tape:=T,drawn:=D}
def uV(T:ψ)(D:Nat)(a:ψ)(b n:Nat):Prop:=∀i,i<n->a (b+i)=T (D+i)
def uV.lJ{T:ψ}(h:uV T i xQ j (n+1)):xQ j=T i:=h 0 Z
def uV.jo{T:ψ}(h:uV T i xQ j (n+m)):uV T i xQ j n:=λa b=>h a Z
def uV.adL{b:ψ}(h:uV xQ i b j (n+m)):uV xQ (i+n) b (j+n) m:=λa c=>by have:=h (n+a) Z;rw[show j+n+a=j+(n+a) by omega,show i+n+a=i+(n+a) by omega];exact this
def qR{α:Type}(P:Õ)(m:ē α):Prop:=∀(u:Æ) (T:ψ) (D:Nat),∃(n:Nat) (v:Æ),
 ∀x c,m.run P ((World.tp u T D))=ĥ x c->c=(World.tp v T<|D+n)/\∀a b,uV T D a b n->m.run P ((World.tp u a b))=ĥ x ((World.tp v a<|b+n))
section
variable{α β:Type}
def Ap{m:ē α}(h:∀u x a,m.run P u=ĥ x a->a=u/\∀b c,m.run P ((World.tp u b c))=ĥ x ((World.tp u b c))):qR P m:=λu T D=>⟨0,u,λx a e=>by let⟨d,f⟩:=h _ x a e;exact⟨d,λb c _=>f b c⟩⟩
def Nt{m:ē α}(h:∀u x a,m.run P u≠ĥ x a):qR P m:=λu T D=>⟨0,u,λx a e=>absurd e<|h _ _ _⟩
def adM{m:ē α}{f:α->ē β}(h:qR P m)(i:∀a,qR P<|f a):qR P (m.bind f):=by
 intro u T D;let⟨n,v,j⟩:=h u T D;cases b:m.run P ((World.tp u T D))with
 |halt z w=>exact⟨0,u,λx c e=>by rw[Ĵ,b]at e;cases e⟩
 |ok a k=>
  obtain⟨rfl,l⟩:=j a k b;let⟨o,w,p⟩:=i a v T<|D+n;refine⟨n+o,w,λx c e=> ?_⟩;rw[Ĵ,b]at e;let⟨q,r⟩:=p x c e;refine⟨by rw[q,cS],λz d g=> ?_⟩;rw[Ĵ,l z d g.jo,<-cS];exact r z (d+n) g.adL
theorem adN{m a:ē α}(h:∀u,m.run P u=a.run P u)(b:qR P a):qR P m:=by intro u T D;let⟨n,v,c⟩:=b u T D;exact⟨n,v,λx d e=>by grind⟩
def adO(q:bU):qR P (π q):=by
 intro u T D;cases a:q.forced with
 |true=>exact⟨0,u,λx d e=>by simp only[π,ã,a,if_true]at e;cases e;exact⟨U,λb c _=>by simp only[π,ã,a,if_true];rfl⟩⟩
 |false=>
  refine⟨1,u,λx d e=> ?_⟩;simp only[π,ã,a,Å,if_false]at e;cases e;refine⟨U,λb c f=> ?_⟩;simp only[π,ã,a,Å,if_false];have g:(World.tp u b c).tape (World.tp u b c).drawn q=T D q:=congrFun f.lJ q;rw[g];rfl
def IX{γ:Type}(s:String):(MonadExcept.throw s:Except String γ)=bG s:=rfl
def adP(a:Ú)(md:Mode):qR P (aX a md):=by
 refine Ap λu x f e=> ?_;simp only[aX,ã]at e|-;cases b:u.cell? a with
 |some v=>
  rw[b]at e;cases e;exact⟨U,λc d=>by simp only[show((World.tp u c d)).cell? a=À x from b]⟩
 |none=>
  rw[b]at e;cases v:u.farLoad P a (md==ċ)with
  |error z=>simp only[v]at e;cases e
  |ok p=>
   simp only[v]at e;cases e;exact⟨U,λc d=>by simp only[show((World.tp u c d)).cell? a=ë from b,show((World.tp u c d)).farLoad P a (md==ċ)=.ok p from v]⟩
def Nu(u:Æ)(a:Ú)(v:Â)(md:Mode):∀T D,((World.tp u T D)).farStore P a v (md==ċ)=(u.farStore P a v<|md==ċ).map λp=>((World.tp p.1 T D),p.2):=by
 intro T D;have c:∀b t,((World.tp u T D)).viewStore P b t a v (md==ċ)=(u.viewStore P b t a v<|md==ċ).map λp=>((World.tp p.1 T D),p.2):=by
  intro b t;unfold bJ;have o:((World.tp u T D)).seen P b t a (md==ċ)=u.seen P b t a (md==ċ):=U;rw[o];simp only[bind,ρ,pure,ς,IX];cases u.seen P b t a (md==ċ)with
  |error e=>simp only[];split<;>rfl
  |ok r=>
   simp only[];repeat' (first|rfl|split)
 unfold Ŧ;have e:((World.tp u T D)).heap=u.heap:=U;cases r:u.heap[a.block]? with
 |none=>simp only[aP,e,r];rfl
 |some o=>
  cases o<;>first
   |(simp only[aP,e,r];rfl)
   |skip
  simp only[e,r,c];cases u.viewStore P _ _ a v (md==ċ)<;>rfl
def adQ(a:Ú)(v:Â)(md:Mode):qR P (ar a v md):=by
 by_cases b:ye v=É
 .intro u T D;cases d:u.cell? a with
  |some y=>
   cases c:u.frozen? a with
   |true=>exact⟨0,u,λx h e=>by simp only[ar]at e;rw[wm b,show((World.tp u T D)).cell? a=À y from d]at e;simp only[show((World.tp u T D)).frozen? a=É from c,if_true]at e;cases e⟩
   |false=>
    refine⟨0,u.setCell a v,λx h e=> ?_⟩;simp only[ar]at e|-;rw[wm b,show((World.tp u T D)).cell? a=À y from d]at e;simp only[show((World.tp u T D)).frozen? a=Ã from c,Å,if_false]at e;cases e;refine⟨U,λf g i=> ?_⟩;rw[wm b,show((World.tp u f g)).cell? a=À y from d];simp only[show((World.tp u f g)).frozen? a=Ã from c,Å,if_false];rfl
  |none=>
   cases c:u.farStore P a v (md==ċ)with
   |error z=>exact⟨0,u,λx h e=>by simp only[ar]at e;rw[wm b,show((World.tp u T D)).cell? a=ë from d]at e;simp only[Nu u a v md T D,c,cm]at e;cases e⟩
   |ok p=>
    refine⟨0,p.1,λx h e=> ?_⟩;simp only[ar]at e|-;rw[wm b,show((World.tp u T D)).cell? a=ë from d]at e;simp only[Nu u a v md T D,c,cm]at e;cases e;refine⟨U,λf g i=> ?_⟩;rw[wm b,show((World.tp u f g)).cell? a=ë from d];simp only[Nu u a v md f g,c,cm];rfl
 .exact Nt λu x h e=>by cases v<;>first|exact absurd U b|cases e
def adR(o:Obj):qR P (eO o):=λu T D=>⟨0,{u with heap:=u.heap.push o},λx a e=>by cases e;exact⟨U,λb c _=>rfl⟩⟩
def adS(r:Nat):qR P (cu r):=by
 refine Ap λu x d e=> ?_;simp only[cu,ã]at e|-;cases a:u.heap[r]? with
 |none=>rw[a]at e;cases e
 |some o=>
  rw[a]at e;cases o<;>first
   |(cases e;done)
   |(cases e;exact⟨U,λb c=>by simp only[show((World.tp u b c)).heap[r]?=_ from a]⟩)
end
def qi(u:Æ):Prop:=∀(i:Nat) (c:Array Â) (e:Á),u.heap[i]?≠À (Ÿ c e)
structure Kd(u u':Æ):Prop where
 r:qi u->qi u'
 C:∀(i:Nat) (o:Obj),u.heap[i]?=À o->yj o->∃o',u'.heap[i]?=À o'/\yj o'
theorem Kd.fU(u:Æ):Kd u u:=⟨id,λ_ o h k=>⟨o,h,k⟩⟩
def Kd.fg{c:Æ}(h:Kd w u)(k:Kd u c):Kd w c:=⟨λx=>k.r<|h.r x,λi o x y=>by let⟨d,e,f⟩:=h.C i o x y;exact k.C i d e f⟩
def Fz:Halt->Bool
 |.panic _=>É
 |.stuck _=>É
 |ŀ (.initOrder _)=>Ã
 |ŀ _=>É
 |_=>Ã
def ov{α:Type}(P:Õ)(m:ē α):Prop:=∀u,qi u->(∀x a,m.run P u=ĥ x a->Kd u a)/\(∀z a,m.run P u=bV z a->Fz z=É)
section
variable{α β:Type}
def Vd(a:α):ov P (aI a):=λu _=>⟨λx b h=>by cases h;exact Kd.fU u,λz b h=>by cases h⟩
def FA{z:Halt}(h:Fz z=É):ov P (ew z:ē α):=λu _=>⟨λx a e=>(by cases e),λb a e=>(by cases e;exact h)⟩
def IY{m:ē α}{f:α->ē β}(h:ov P m)(j:∀a,ov P<|f a):ov P (m.bind f):=by
 intro u d;let⟨g,k⟩:=h u d;refine⟨λx i e=> ?_,λz i e=> ?_⟩<;>rw[Ĵ]at e
 .cases b:m.run P u with
  |ok a c=>
   rw[b]at e;exact(g a c b).fg<|(j a c<|(g a c b).r d).1 x i e
  |halt z w=>rw[b]at e;cases e
 .cases b:m.run P u with
  |ok a c=>
   rw[b]at e;exact(j a c<|(g a c b).r d).2 z i e
  |halt c w=>rw[b]at e;cases e;exact k _ _ b
def Ve:ov P dh:=λu _=>⟨λx a h=>by cases h;exact Kd.fU u,λz a h=>by cases h⟩
theorem adT(q:bU):ov P (π q):=by
 intro u b;constructor
 .intro x a e;simp only[π,ã]at e;split at e<;>cases e
  .exact Kd.fU u
  .exact⟨id,λi o h k=>⟨o,h,k⟩⟩
 .intro z a e;simp only[π,ã]at e;grind
def adU(m:Mark):ov P (mark m):=λu _=>⟨λx a h=>by cases h;exact Kd.fU u,λz a h=>by cases h⟩
def adV(r:Nat):ov P (cw r):=λu _=>⟨λx a h=>by cases h;exact Kd.fU u,λz a h=>by cases h⟩
def adW(a:Ú):ov P (eP a):=λu _=>⟨λx b h=>by cases h;exact Kd.fU u,λz b h=>by cases h⟩
theorem adX(o:Obj)(h:∀c e,o≠Ÿ c e):ov P (eO o):=by
 intro u b;refine⟨λx d e=> ?_,λz d e=>by cases e⟩;cases e;refine⟨λ_ i c e a=> ?_,λi f a g=>⟨f,?_,g⟩⟩
 .simp only[Array.getElem?_push]at a;split at a
  .grind
  .exact b i c e a
 .grind
theorem Vf{f:Obj->Obj}(n:∀o,yj o->yj (f o))(j:∀o c e,f o=Ÿ c e->∃d g,o=Ÿ d g):Kd u {u with heap:=u.heap.modify b f}:=by
 refine⟨λh i c e a=> ?_,λi o a p=> ?_⟩
 .simp only[Ň]at a;split at a
  .let⟨o,k,l⟩:=ģ.1 a;let⟨d,g,m⟩:=j o c e l;exact h i d g<|m▸k
  .exact h i c e a
 .grind
theorem adY(a:Ú)(v:Â):Kd u (u.setCell a v):=by
 unfold ĉ;refine Vf (λo b=> ?_) λo c e h=> ?_
 .cases o<;>first|exact b.elim|trivial
 .grind
theorem Vg(b:qi u)(a:Ú)(s:String):Fz (u.noCell a s)=É:=by
 unfold aP;split
 .rename_i h;exact absurd h<|b _ _ _
 .rfl
 .rfl
theorem adZ(a:Ú)(m:Mode):ov P (aX a m):=by
 intro u d;constructor
 .intro x c e;simp only[aX,ã]at e;grind [Kd.fU]
 .intro z c e;simp only[aX,ã]at e;split at e
  .cases e
  .split at e
   .cases e
   .rename_i b;cases e;unfold ŋ at b;split at b
    .split at b<;>cases b;rfl
    .grind [Vg]
theorem ad1{k:Ú}{r:Array Value×TypeId×(Nat×Nat)×Nat×Value×List (Nat×Nat×List UInt8)}(h:w.seen P a t k yQ=.ok r):∃c e d,w.heap[a.block]?=À (Č c e d):=by unfold World.seen at h;simp only[bind,ρ,pure,ς,IX]at h;grind
theorem ad2{k:Ú}{l:List Ú}(h:w.viewStore P a t k v yQ=.ok (u,l)):Kd w u:=by
 have q:∃c e n d f g,w.heap[a.block]?=À (Č d f g)/\u={w with heap:=w.heap.setIfInBounds a.block (Č c e n)}:=by
  unfold bJ at h;cases i:w.seen P a t k yQ with
  |error e=>
   rw[i]at h;simp only[bind,ρ,pure,ς,IX]at h;repeat' (first|contradiction|split at h)
  |ok r=>
   let⟨d,f,g,j⟩:=ad1 i;rw[i]at h;simp only[bind,ρ,pure,ς,IX]at h;repeat' (first|contradiction|split at h)
   all_goals(simp only[Except.ok.injEq,Prod.mk.injEq]at h;obtain⟨rfl,_⟩:=h;exact⟨_,_,_,d,f,g,j,U⟩)
 obtain⟨c,e,n,d,f,g,j,rfl⟩:=q;refine⟨λs i x m r=> ?_,λi o r y=> ?_⟩
 .rw[Ś]at r;split at r
  .grind
  .exact s i x m r
 .by_cases m:a.block=i
  .subst m;rw[j]at r;cases r;exact y.elim
  .grind
theorem ad3(a:Ú)(v:Â)(m:Mode):ov P (ar a v m):=by
 intro u d;by_cases c:ye v=É
 .constructor
  .intro x f e;simp only[ar]at e;rw[wm c]at e;split at e
   .split at e
    .cases e
    .cases e;exact adY a v
   .split at e
    .rename_i b;cases e;unfold Ŧ at b;grind [ad2]
    .cases e
  .intro z f e;simp only[ar]at e;rw[wm c]at e;split at e
   .split at e
    .cases e;rfl
    .cases e
   .split at e
    .cases e
    .rename_i b;cases e;unfold Ŧ at b;split at b
     .split at b<;>cases b;rfl
     .grind [Vg]
 .cases v<;>first|exact absurd U c|exact FA (P:=P) U u d
def fE(P:Õ)(m:ē α):Prop:=ov P m/\qR P m
theorem gE(a:α):fE P (pure a):=⟨Vd a,Ap λu x b e=>by cases e;exact⟨U,λ_ _=>rfl⟩⟩
def Nv{z:Halt}(h:Fz z=É):fE P (ew z:ē α):=⟨FA h,Nt λu x a e=>by cases e⟩
theorem gp{m:ē α}{f:α->ē β}(h:fE P m)(b:∀a,fE P<|f a):fE P (m>>=f):=⟨IY h.1 λa=>(b a).1,adM h.2 λa=>(b a).2⟩
def Nw{m:ē α}{f:α->β}(h:fE P m):fE P (f<$>m):=gp h λ_=>gE _
theorem jb(s:String):fE P (stuck s:ē α):=Nv U
def Vh(v:Â):fE P (goPanic v:ē α):=Nv U
theorem qj:fE P dh:=⟨Ve,Ap λu x a e=>by cases e;exact⟨U,λ_ _=>rfl⟩⟩
theorem se(q:bU):fE P (π q):=⟨adT q,adO q⟩
def FB(m:Mark):fE P (mark m):=⟨adU m,Ap λu x a e=>by cases e;exact⟨U,λ_ _=>rfl⟩⟩
theorem s8(r:Nat):fE P (cw r):=⟨adV r,Ap λu x a e=>by cases e;exact⟨U,λ_ _=>rfl⟩⟩
theorem Nx(a:Ú):fE P (eP a):=⟨adW a,Ap λu x b e=>by cases e;exact⟨U,λ_ _=>rfl⟩⟩
def IZ(o:Obj)(h:∀c e,o≠Ÿ c e):fE P (eO o):=⟨adX o h,adR o⟩
def FC(a:Ú)(m:Mode):fE P (aX a m):=⟨adZ a m,adP a m⟩
def ad4(a:Ú)(v:Â)(m:Mode):fE P (ar a v m):=⟨ad3 a v m,adQ a v m⟩
theorem I1{m m':ē α}(h:∀u,m.run P u=m'.run P u)(a:fE P m'):fE P m:=⟨λu b=>by have:=a.1 u b;rwa[<-h u]at this,adN h a.2⟩
end
section
variable{α:Type}
def mY(u:br)(h:Fz (ŀ u)=É):fE P (unsupported u:ē α):=Nv h
def FD(e:Á)(c:Array Â):fE P (dU e c):=by unfold dU;exact gp (IZ _<|by intro _ _ h;cases h) λ_=>gE _
def Vi(t:Á)(v:Â):fE P (eM t v):=FD _ _
def uW(t:Á):fE P (Δ t):=by unfold Δ;repeat' (first|(with_reducible first|exact gE _|exact jb _|exact qj|refine gp ?_ λ_=> ?_)|split)
theorem qS(t:Á):fE P (ø t):=by unfold ø;repeat' (first|(with_reducible first|exact gE _|exact jb _|exact qj|refine gp ?_ λ_=> ?_)|split)
def td{p:Prop}(h:p:=by repeat' (first|(with_reducible first|exact gE _|exact jb _|exact qj|exact qS _|exact Vh _|exact Vi _ _|exact se _|exact uW _|exact FC _ _|exact s8 _|exact FB _|refine gp ?_ (λ_=> ?_)|refine Nw ?_|refine mY _ ?_)|split|rfl)):p:=h
def I2(t:Á):fE P (Ū t):=by unfold Ū;exact td
def wv(e:Ι):fE P (runtimePanic e:ē α):=by unfold runtimePanic;repeat' (first|(with_reducible first|exact I2 _|refine gp ?_ λ_=> ?_)|split|exact td)
def Vj(k:ú)(x y:Int)(c:ax):fE P (boundsPanic k x y c:ē α):=by unfold boundsPanic;simp only[];repeat' (first|(with_reducible first|exact wv _|refine gp ?_ λ_=> ?_)|split|exact td)
def ad5(r:Nat):ov P (cu r):=by
 intro u b;constructor
 .intro x a e;simp only[cu,ã]at e;split at e<;>first|(cases e;done)|(cases e;exact Kd.fU u)
 .intro z a e;simp only[cu,ã]at e;split at e<;>first|(cases e;done)|(cases e;rfl)
theorem Vk(r:Nat):fE P (cu r):=⟨ad5 r,adS r⟩
def I3(t:Á):fE P (ω t):=by unfold ω;exact td
def tf(t:Á):fE P (ay t):=by unfold ay;exact td
def Ny(t:Á):fE P (ey t):=by unfold ey;exact td
def Vl(a:Ú):∀(n i:Nat) (b:Array Â),fE P<|Ō a i n b
 |0,i,b=>gE _
 |n+1,i,b=>by unfold Ō;exact gp (FC _ _) λ_=>Vl a n _ _
def Nz(a:Ú)(n:Nat):fE P (da a n):=Vl a n _ _
def I4(a:Ú):∀(b:List Â) (i:Nat),fE P<|Κ a b i
 |[],i=>gE _
 |v::b,i=>by unfold Κ;exact gp (ad4 _ _ _) λ_=>I4 a b _
theorem Vm(t:Á)(a:Ú):fE P (ae t a):=by unfold ae;repeat' (first|(with_reducible first|exact tf _|exact Ny _|exact Nz _ _|refine gp ?_ λ_=> ?_)|split|exact td)
def ad6(t:Á)(a:Ú)(v:Â):fE P (aJ t a v):=by unfold aJ;repeat' (first|(with_reducible first|exact tf _|exact I4 _ _ _|refine gp ?_ λ_=> ?_)|split|exact td)
def Vo(t:Á)(c:Array Â)(o:Nat):fE P (part t c o):=by unfold part;repeat' (first|(with_reducible first|exact tf _|exact Ny _|refine gp ?_ λ_=> ?_)|split|exact td)
def Vp(v:Â):fE P (ŧ v):=by unfold ŧ;exact td
def Vq(v:Â):fE P (di v):=by unfold di;exact td
def jU{p:Prop}(h:p:=by repeat' (first|(with_reducible first|exact gE _|exact jb _|exact qj|exact qS _|exact Vh _|exact Vi _ _|exact I2 _|exact se _|exact wv _|exact uW _|exact FC _ _|exact tf _|exact Ny _|exact Nz _ _|exact I4 _ _ _|exact Vq _|exact I3 _|exact ad6 _ _ _|exact Vm _ _|exact Vp _|exact Vo _ _ _|exact s8 _|exact Vk _|exact Vj _ _ _ _|exact FB _|refine gp ?_ (λ_=> ?_)|refine Nw ?_|refine mY _ ?_)|split|rfl)):p:=h
def FE(v:Â):fE P (dD v):=by unfold dD;exact jU
def I5(v:Â):fE P (bW v):=by unfold bW;exact jU
def ad7(v:Â):fE P (eN v):=by unfold eN;exact jU
theorem Vr(v:Â):fE P (bX v):=by unfold bX;exact jU
def Vt(t:Á)(b:Bool)(v:Â):fE P (Ű t b v):=by unfold Ű;exact jU
def Vu(t:Á)(v:Â):fE P (ag t v):=by unfold ag;exact jU
def Vv(t:Á)(v:Â):fE P (Ş t v):=by unfold Ş;exact jU
def Vw(t:Á)(a v:Â):fE P (ĳ t a v):=by unfold ĳ;exact jU
def Vx(v:Â)(n:Nat):fE P (ō v n):=by unfold ō;exact jU
def Vy(t:Á)(v:Â)(n:Nat):fE P (ű t v n):=by unfold ű;repeat' (first|(with_reducible first|exact ad7 _|refine gp ?_ λ_=> ?_)|split|exact jU)
def Vz{γ δ:Type}(f:γ->ē δ)(a:∀x,fE P<|f x):∀l:List γ,fE P<|l.mapM f
 |[]=>by rw[cU];exact gE _
 |x::l=>by rw[ν];exact gp (a x) λ_=>gp (Vz f a l) λ_=>gE _
theorem VA{γ δ:Type}(f:γ->ē δ)(a:∀x,fE P<|f x)(l:Array γ):fE P (l.mapM f):=by rw[Ĕ];exact Nw<|Vz f a _
def ad8(l:Array Field):fE P (l.mapM λf=>do pure (f.offset,<-ay f.type)):=VA _ (λ_=>gp (tf _) λ_=>gE _) l
def I6(r:Nat):fE P (dp r):=by unfold dp;exact jU
def VB(r:Nat):fE P (b9 r):=by unfold b9;exact jU
def VC(a:Ú):fE P (aY a):=by unfold aY;repeat' (first|(with_reducible first|exact I6 _|refine gp ?_ λ_=> ?_)|split|exact jU)
def Aq(a:Ú):fE P (dq a):=by unfold dq;repeat' (first|(with_reducible first|exact gE _|exact jb _|exact qj|exact s8 _|exact VC _|refine gp ?_ λ_=> ?_)|split|simp only[]|(rename_i b;cases b<;>simp only[Å,if_false,if_true,þ,Ă]))
def CU(a:Ú):fE P (Į a):=by unfold Į;repeat' (first|(with_reducible first|exact VB _|refine gp ?_ λ_=> ?_)|split|exact jU)
def ad9(a:Ú)(x y:Nat):fE P (partAt a x y):=by unfold partAt;repeat' (first|(with_reducible first|exact Aq _|refine gp ?_ λ_=> ?_)|split|exact jU)
def aea(a:Ú)(f:Field):fE P (bY a f):=by unfold bY;repeat' (first|(with_reducible first|exact ad9 _ _ _|refine gp ?_ λ_=> ?_)|split|exact jU)
def VD(s:Á)(v:Â)(n:Nat):fE P (Ŏ s v n):=by unfold Ŏ;repeat' (first|(with_reducible first|exact aea _ _|refine gp ?_ λ_=> ?_)|split|exact jU)
def VE(t:Á)(x i:Â):fE P (ŏ t x i):=by unfold ŏ;repeat' (first|(with_reducible first|exact gE _|exact jb _|exact qS _|exact Vj _ _ _ _|exact tf _|exact Vp _|exact Vq _|refine gp ?_ (λ_=> ?_)|refine mY _ ?_)|split|rfl|simp only[])
def aeb(x:Â)(y:Nat)(c:ax):fE P (ī x y c):=by unfold ī;exact jU
def VF(b:Bool)(l c:Nat)(x y z:Option Â):fE P (Ĩ b l c x y z):=by unfold Ĩ;repeat' (first|(with_reducible first|exact aeb _ _ _|refine gp ?_ λ_=> ?_)|split|exact jU)
def aec(t:Á)(v:Â)(x y z:Option Â):fE P (Ų t v x y z):=by unfold Ų;repeat' (first|(with_reducible first|exact Vr _|exact VF _ _ _ _ _ _|refine gp ?_ λ_=> ?_)|split|exact jU)
def VG(t:Á)(v:Â)(x y z:Option Â):fE P (Ő t v x y z):=by unfold Ő;repeat' (first|(with_reducible first|exact VF _ _ _ _ _ _|exact aec _ _ _ _ _|refine gp ?_ λ_=> ?_)|split|exact jU)
def VH(t:Á)(x i:Â):fE P (ų t x i):=by unfold ų;exact jU
def VI(o:ġ)(k:ú)(x y:Int):fE P (dG o k x y):=by unfold dG;exact jU
def VJ(o:ġ)(k:ú)(x y:Int):fE P (ea o k x y):=by unfold ea;exact jU
def VK(o:UnOp)(v:Â):fE P (bZ o v):=by unfold bZ;repeat' (first|(with_reducible first|exact VI _ _ _ _|exact VJ _ _ _ _)|split|exact jU)
def VL(t:Á)(a:Array (Nat×Value)):fE P (Ŵ t a):=by unfold Ŵ;repeat' (first|(with_reducible first|exact ad8 _|refine gp ?_ λ_=> ?_)|split|exact jU)
def VM(t:Á)(n:Nat)(a:Array (Nat×Value)):fE P (ĭ t n a):=by unfold ĭ;repeat' (first|(with_reducible first|exact gE _|exact jb _|exact FD _ _|exact qS _|exact I3 _|exact tf _|refine gp ?_ (λ_=> ?_)|refine mY _ ?_)|split|rfl|simp only[]|(rename_i b;cases b<;>simp only[Å,if_false,if_true,þ,Ă]))
def NA(n:Nat):fE P (bP n):=by unfold bP;exact jU
def VN(t:Á)(x y:Â):fE P (Ĺ t x y):=by unfold Ĺ;repeat' (first|(with_reducible first|exact gE _|exact jb _|exact se _|exact FD _ _|exact uW _|exact qS _|exact wv _|exact I3 _|exact tf _|exact FE _|exact NA _|refine gp ?_ λ_=> ?_)|split|simp only[]|(rename_i b;cases b<;>simp only[Å,if_false,if_true,þ,Ă]))
def VO(v:Â):fE P (Α v):=by unfold Α;exact jU
def VP(s n:Nat)(v:Â):fE P (ļ s n v):=by unfold ļ;exact jU
def aed(a:Ú)(n:Nat):fE P (aB a n):=by unfold aB;exact jU
def aee(s l n:Nat)(b:Option Ú)(v:Â):fE P (bb s l n b v):=by unfold bb;repeat' (first|(with_reducible first|exact gE _|exact Nx _|exact aed _ _|refine gp ?_ λ_=> ?_)|split|simp only[]|(rename_i b;cases b<;>simp only[Å,if_false,if_true,þ,Ă]))
def VQ(a:Array Á)(t:Á)(x:Array Â):fE P (ş a t x):=by unfold ş;exact jU
def VR(a:Array Á)(t:Á)(x:Array Â):fE P (Š a t x):=by unfold Š;exact jU
def VS(a:Array Á)(t:Á)(x:Array Â):fE P (ő a t x):=by unfold ő;repeat' (first|(with_reducible first|exact VO _|exact VP _ _ _|refine gp ?_ λ_=> ?_)|split|exact jU)
def VT(a:Array Á)(t:Á)(x:Array Â):fE P (ĸ a t x):=by unfold ĸ;repeat' (first|(with_reducible first|exact gE _|exact jb _|exact se _|exact FB _|exact FD _ _|exact uW _|exact qS _|exact wv _|exact I3 _|exact tf _|exact I4 _ _ _|exact FE _|exact NA _|exact VO _|exact VP _ _ _|exact aee _ _ _ _ _|refine gp ?_ (λ_=> ?_)|refine mY _ ?_)|split|rfl|(rename_i b;cases b<;>simp only[Å,if_false,if_true,þ,Ă]))
end
section
variable{α:Type}
theorem NB(o:ġ)(k:ı)(x y:Nat):fE P (cV o k x y):=by unfold cV;repeat' (first|(with_reducible first|exact gE _|exact jb _|exact se _|refine gp ?_ λ_=> ?_)|split|simp only[]|(rename_i b;cases b<;>simp only[Å,if_false,if_true,þ,Ă]))
theorem NC(o:ġ)(k:ı)(x y:Nat):fE P (dH o k x y):=by unfold dH;grind [gE,jb]
theorem aef(s:ı)(b:Nat)(d:ı):fE P (aQ s b d):=by unfold aQ;grind [gE,se,gp]
theorem VU(s:ı)(b:Nat)(d:ú):fE P (bK s b d):=by unfold bK;grind [gE,se,gp]
theorem aeg(o:ġ)(k:ı)(x y:Nat):fE P (bg o k x y):=by unfold bg;grind [gE,jb,NB,gp]
def mZ{p:Prop}(h:p:=by repeat' (first|(with_reducible first|exact gE _|exact jb _|exact se _|exact NB _ _ _ _|exact I5 _|exact NC _ _ _ _|exact aef _ _ _|exact aeg _ _ _ _|exact wv _|exact qj|exact Aq _|exact s8 _|exact FE _|exact I6 _|exact qS _|exact CU _|exact VB _|refine gp ?_ (λ_=> ?_)|refine mY _ ?_)|split|rfl)):p:=h
def VW(o:ġ)(k:ı)(x y:Nat):fE P (cx o k x y):=by unfold cx;exact mZ
def aeh(s:ı)(b:Nat)(d:ı):fE P (bL s b d):=by unfold bL;exact mZ
def ND(x y:Nat):fE P (cy x y):=by unfold cy;exact mZ
def NG(x y:Nat):fE P (cz x y):=by unfold cz;exact mZ
def NH(x y:Nat):fE P (cA x y):=by unfold cA;exact mZ
def aei(x y:Nat):fE P (cD x y):=by unfold cD;exact mZ
def aej(a b c d:Nat):fE P (aC a b c d):=by unfold aC;repeat' (first|(with_reducible first|exact ND _ _|exact NG _ _|exact NH _ _|refine gp ?_ λ_=> ?_)|split|exact mZ)
def aek(s a b c d:Nat):fE P (σ s a b c d):=by unfold σ;repeat' (first|(with_reducible first|exact ND _ _|exact NG _ _|exact NH _ _|refine gp ?_ λ_=> ?_)|split|exact mZ)
def ael(a b c d:Nat):fE P (ai a b c d):=by unfold ai;repeat' (first|(with_reducible first|exact gE _|exact VW _ _ _ _|exact ND _ _|exact NG _ _|exact NH _ _|exact aei _ _|exact aek _ _ _ _ _|refine gp ?_ λ_=> ?_)|split|simp only[])
def VX(o:ġ)(k:ı)(a b c d:Nat):fE P (dr o k a b c d):=by unfold dr;repeat' (first|(with_reducible first|exact VW _ _ _ _|exact aeh _ _ _|exact aej _ _ _ _|exact ael _ _ _ _|refine gp ?_ λ_=> ?_)|split|exact mZ)
def aem(o:ġ)(k:ú)(x y:Int):fE P (ah o k x y):=by unfold ah;exact mZ
def VY(o:ġ)(x y:Int):fE P (eE o x y):=by unfold eE;exact mZ
def aen(o:ġ)(k:ú)(x:Int)(a:ú)(y:Int):fE P (aK o k x a y):=by unfold aK;exact mZ
def NJ(o:ġ)(x y:ByteArray):fE P (bu o x y):=by unfold bu;exact mZ
def VZ(a b:Ú):fE P (š a b):=by unfold š;exact mZ
def aeo(k:ú)(a b:Ú):fE P (Μ k a b):=by unfold Μ;repeat' (first|(with_reducible first|exact VZ _ _|refine gp ?_ λ_=> ?_)|split|exact mZ)
def aep(o:ġ)(a b:Ú):fE P (Ν o a b):=by unfold Ν;repeat' (first|(with_reducible first|exact VZ _ _|refine gp ?_ λ_=> ?_)|split|exact mZ)
def aer(k:ú)(a:Ú)(n:Int):fE P (Ξ k a n):=by unfold Ξ;repeat' (first|(with_reducible first|exact gE _|exact s8 _|exact uW _|exact Aq _|refine gp ?_ (λ_=> ?_)|refine mY _ ?_)|split|rfl|simp only[]|(rename_i b;cases b<;>simp only[Å,if_false,if_true,þ,Ă]))
def V1(a:Array Á)(t:Á)(x y:Â):fE P (ñ a t #[x,y]):=by
 unfold ñ;cases x<;>first|exact jb _|skip
 refine gp (FE y) λn=> ?_;exact mZ
def aes(a:Ú)(b:Bool):fE P (cg a b):=by unfold cg;repeat' (first|(with_reducible first|exact gE _|refine gp ?_ (λ_=> ?_)|refine IZ _ ?_)|split|(intro _ _ h;cases h;done))
def aeu(t:Á)(x y:Â):fE P (ŕ t x y):=by unfold ŕ;repeat' (first|(with_reducible first|exact V1 _ _ _ _|exact aes _ _|refine gp ?_ λ_=> ?_)|split|exact mZ)
def aev(t:Á)(x y:Â):fE P (Ţ t x y):=by unfold Ţ;repeat' (first|(with_reducible first|exact V1 _ _ _ _|refine gp ?_ λ_=> ?_)|split|exact mZ)
theorem wx{γ:Type}{d:dI}(h:P.underlying t=À d){f:dI->ē γ}(a:fE P (f d)):fE P (ø t>>=f):=by
 have e:∀u,(ø t).run P u=ĥ d u:=by intro u;unfold ø;simp_all
 grind [I1,Ä,È]
def V2(t:Á)(x y:Â)(a:s7 P t\/((∃e,P.underlying t=À (ð e))/\(mX x\/mX y))):fE P (ó t x y):=by
 unfold ó ā Λ;rcases a with(h|⟨k,h⟩|h)|⟨⟨e,h⟩,k⟩<;>refine wx h ?_
 .repeat' (first|(with_reducible first|exact gE _|exact jb _|exact qj|exact uW _|exact Aq _|exact CU _|refine gp ?_ (λ_=> ?_)|refine mY _ ?_)|contradiction|split)
 .repeat' (first|(with_reducible first|exact gE _|exact jb _|exact qj|exact uW _|exact Aq _|exact CU _|refine gp ?_ (λ_=> ?_)|refine mY _ ?_)|contradiction|split|rfl)
 .repeat' (first|(with_reducible first|exact gE _|exact jb _|exact qj|exact uW _|exact Aq _|exact CU _|refine gp ?_ (λ_=> ?_)|refine mY _ ?_)|contradiction|split)
 .repeat' (first|(with_reducible first|exact gE _|exact jb _|exact qj|exact uW _|exact Aq _|exact CU _|refine gp ?_ (λ_=> ?_)|refine mY _ ?_)|contradiction|exact(Or.elim k id id:False).elim|split)
def aew(t:Á)(a:Fq P t)(x y:Â):fE P (į ā t x y):=by unfold ā į;rcases a with(h|⟨k,h⟩|h)|⟨e,h⟩<;>refine wx h ?_<;>(cases x<;>cases y<;>exact gE _)
theorem V3(c:ġ)(t:Á)(d:c=aA\/c=aL->Fq P t)(x y:Ö)(a b:Â):fE P (ŷ c t x y a b):=by
 unfold ŷ;by_cases e:c=aA\/c=aL
 .have f:=d e;rcases e with rfl|rfl;all_goals
   repeat' (first|(with_reducible first|exact aew _ f _ _|refine gp ?_ λ_=> ?_)|split|exact mZ)
 .grind [gE]
end
section
variable{α:Type}
theorem aex(k:ú)(n:Int):fE P (cW k n):=by unfold cW;grind [gE]
theorem V4(n:Int):fE P (bh n):=by unfold bh;grind [gE]
def aey(a:ġ)(t:Á)(x y:Â)(h:a=aA\/a=aL->(s7 P t\/((∃e,P.underlying t=À (ð e))/\(mX x\/mX y)))):fE P (Ũ a t x y):=by unfold Ũ;repeat' (first|(with_reducible first|exact V2 _ _ _ (h<|Ç U)|exact V2 _ _ _ (h<|Î U)|exact gE _|exact jb _|exact qS _|exact CU _|exact VI _ _ _ _|exact VJ _ _ _ _|exact NB _ _ _ _|exact NC _ _ _ _|exact VX _ _ _ _ _ _|exact aem _ _ _ _|exact VY _ _ _|exact aen _ _ _ _ _|exact NJ _ _ _|exact aeo _ _ _|exact aep _ _ _|exact aer _ _ _|exact aeu _ _ _|exact aev _ _ _|refine gp ?_ (λ_=> ?_)|refine mY _ ?_)|contradiction|split|rfl)
def aez(s d:Á)(x:Â)(h:(∃k a,P.underlying s=À (Β k)/\P.underlying d=À (Β a))\/(P.underlying s=À ę/\P.underlying d=À ę)):fE P (Œ s d x):=by
 unfold Œ;rcases h with⟨k,a,b,c⟩|⟨b,c⟩<;>refine wx b<|wx c ?_
 .repeat' (first|(with_reducible first|exact aex _ _|exact gE _|exact VU _ _ _|refine mY _ ?_)|contradiction|split|rfl)
 .repeat' (first|(with_reducible first|exact V4 _|exact gE _|exact VU _ _ _|refine mY _ ?_)|contradiction|split|rfl)
def V5:∀(l:List FieldStep) (t:Á) (x:Option Â),fE P<|bx l t x
 |[],t,x=>by unfold bx;exact gE _
 |s::l,t,x=>by unfold bx;repeat' (first|(with_reducible first|exact V5 l _ _|exact gE _|exact jb _|exact qS _|exact Vo _ _ _|refine gp ?_ λ_=> ?_)|split|(intro _ _ h;cases h;done)|rfl|simp only[]|(rename_i b;cases b<;>simp only[Å,if_false,if_true,þ,Ă]))
def V7:∀(n:Nat) (t:Á) (v:Â) (s:String),fE P<|aR n t v s
 |0,t,v,s=>by unfold aR;exact gE _
 |n+1,t,v,s=>by unfold aR;repeat' (first|(with_reducible first|exact V7 n _ _ _|exact V5 _ _ _|exact gE _|exact jb _|exact uW _|exact qS _|refine gp ?_ λ_=> ?_)|split|(intro _ _ h;cases h;done)|rfl|simp only[]|(rename_i b;cases b<;>simp only[Å,if_false,if_true,þ,Ă]))
def lL{m:ē Â}(h:fE P m):fE P (m>>=λv=>pure<|ï v):=gp h λ_=>gE _
theorem aeA(f:à)(b:∃a,P.funcs[f]?=À a/\(a.name== "runtime.NumGoroutine")=Ã/\a.body.isNone=Ã)(c:Array Â):fE P (ĵ f c):=by let⟨a,d,e,g⟩:=b;refine I1 (m':=pure<|ũ f c) (λu=> ?_)<|gE _;unfold ĵ;rw[Ä,ă];grind [È,Å]
def aeB(j:j2 P xX o.op):fE P (ì xX o):=by
 let⟨k,g,m,p,u,guard⟩:=o;simp only at j;unfold ì;simp only[];cases j with
 |Ao x=>exact gE _
 |Fs x=>exact gE _
 |wq c a b=>exact gp (I5 _) λ_=>gE _
 |gI t=>exact lL<|Vt _ _ _
 |Ng t x=>exact lL<|Vu _ _
 |Nh t b=>exact lL<|VL _ _
 |Ni t n b=>exact lL<|VM _ _ _
 |gA t a=>exact lL<|Vv _ _
 |ja t a x=>exact gp (Vw _ _ _) λ_=>gE _
 |Ft x=>
  simp only[];repeat' (first|(with_reducible first|exact V7 _ _ _ _|exact gE _|exact qj|exact wv _|exact I5 _|exact Vt _ _ _|exact Vu _ _|exact Vv _ _|exact Vw _ _ _|exact Vx _ _|exact Vy _ _ _|exact VD _ _ _|exact VE _ _ _|exact VG _ _ _ _ _|exact VH _ _ _|exact VK _ _|exact VL _ _|exact VM _ _ _|exact VN _ _ _|exact VQ _ _ _|exact VR _ _ _|exact VS _ _ _|exact VT _ _ _|refine gp ?_ (λ_=> ?_)|refine mY _ ?_)|split|rfl)
 |CS g t x y r h=>exact lL<|gp (V3 g t (λe=>(h e).imp id λq=>q.1) x y _ _) λ_=>aey g t _ _ h
 |Nj g t x=>exact lL<|VK _ _
 |Nk s d x h=>exact lL<|aez s d _ h
 |Nl t l c=>exact lL<|VN _ _ _
 |kD t x b a c=>exact lL<|VG _ _ _ _ _
 |Nn s x n h=>exact lL<|VD _ _ _
 |Np t x n=>exact lL<|Vy _ _ _
 |Nq t x i=>exact lL<|VE _ _ _
 |Nr t x i=>exact lL<|VH _ _ _
 |Fe x n=>exact lL<|Vx _ _
 |Fu x a=>
  simp only[ù,č,Ē,pure_bind,Ø,â,ä];exact lL<|VQ _ _ _
 |Fv x a=>
  simp only[ù,č,Ē,pure_bind,Ø,â,ä];exact lL<|VR _ _ _
 |Fw x y a=>
  simp only[ù,č,Ē,pure_bind,Ø,â,ä];exact lL<|VS _ _ _
 |s6 x y b c h=>
  simp only[ù,č,Ē,pure_bind,Ø,â,ä];exact lL<|VT _ _ _
 |jF f c a b h=>
  simp only[ù,b,İ,č,pure_bind,Ď,ď];exact aeA f h _
end
def fm(f:à)(t:Array Â)(k:List ś):Ę:=(base f).at ⟨t,[]⟩ k
structure St where
 f:à
 t:Array Â
 k:List ś
 C:Bool
 L:List (FuncId×Array Value×List ś)
def St.r(s:St)(cs:List Ę):Ó:=G (if s.C then{fm s.f s.t s.k with mode:=.returning}else fm s.f s.t s.k)<|s.L.map (λx=>fm x.1 x.2.1 x.2.2)++cs
def oR(t:Array Â)(d:Option Tmp)(v:Â):Array Â:=(Act.put ⟨t,[]⟩ d v).tmps
def sf(t:Array Â)(d:Option Tmp)(v:Â):Act.put ⟨t,[]⟩ d v=⟨oR t d v,[]⟩:=by cases d<;>rfl
inductive LS(P:Õ):St->Æ->St->Æ->Prop
 |oP {f t L u:_}:LS P ⟨f,t,[],Ã,L⟩ u ⟨f,t,[],É,L⟩ u
 |uX {f t k L u:_}:LS P ⟨f,t,Đ .ret::k,Ã,L⟩ u ⟨f,t,Đ .ret::k,É,L⟩ u
 |rZ {f t k L u:_}:LS P ⟨f,t,Đ eR::k,Ã,L⟩ u ⟨f,t,k,Ã,L⟩ u
 |wy {f t k L u l:_}:LS P ⟨f,t,Đ (eb l)::k,Ã,L⟩ u ⟨f,t,k,Ã,L⟩ u
 |yk {f t k L u id:_}:LS P ⟨f,t,dJ id::k,Ã,L⟩ u ⟨f,t,k,Ã,L⟩ u
 |uY {f t k L u c:_}:LS P ⟨f,t,dK c::k,Ã,L⟩ u ⟨f,t,k,Ã,L⟩ u
 |qT {f t k L u x y:_}:LS P ⟨f,t,Đ (.seq x y)::k,Ã,L⟩ u ⟨f,t,Đ x::Đ y::k,Ã,L⟩ u
 |tg {f t k L u c x y b:_} (h:å ⟨t,[]⟩ c=Ľ b):LS P ⟨f,t,Đ (bz c x y)::k,Ã,L⟩ u ⟨f,t,Đ (if b then x else y)::k,Ã,L⟩ u
 |qU {f t k L u id c:_}:LS P ⟨f,t,Đ (ec id c)::k,Ã,L⟩ u ⟨f,t,Đ c::dJ id::k,Ã,L⟩ u
 |wz {f t k L u c:_}:LS P ⟨f,t,Đ (eS c)::k,Ã,L⟩ u ⟨f,t,Đ c::dt c::k,Ã,L⟩ u
 |wA {f t k L u c:_}:LS P ⟨f,t,dt c::k,Ã,L⟩ u ⟨f,t,Đ c::dt c::k,Ã,L⟩ u
 |wB {f t k L u c:_}:LS P ⟨f,t,Đ (ef c)::k,Ã,L⟩ u ⟨f,t,Đ c::dK c::k,Ã,L⟩ u
 |wC {f t k L u id k':_} (h:cF id k=À k'):LS P ⟨f,t,Đ (eT id)::k,Ã,L⟩ u ⟨f,t,k',Ã,L⟩ u
 |wD {f t k L u l k':_} (h:cG l k=À k'):LS P ⟨f,t,Đ (eU l)::k,Ã,L⟩ u ⟨f,t,k',Ã,L⟩ u
 |tj {f t k L u id ops:_}:LS P ⟨f,t,Đ (bQ id ops Ã)::k,Ã,L⟩ u ⟨f,t,á ops (List.range ops.size)::k,Ã,L⟩ u
 |Ar {f t k L u id ops:_}:LS P ⟨f,t,Đ (bQ id ops É)::k,Ã,L⟩ u ⟨f,t,á ops (bM (P.follows .mixedOrders) ops<|u.tape u.drawn<|.order f id)::k,Ã,L⟩ {u with drawn:=u.drawn+1}
 |FF {f t k L u ops:_}:LS P ⟨f,t,á ops []::k,Ã,L⟩ u ⟨f,t,k,Ã,L⟩ u
 |CV {f t k L u ops i rest o:_} (ho:ops[i]?=À o) (hw:Ħ o (ł ops t)=Ã):LS P ⟨f,t,á ops (i::rest)::k,Ã,L⟩ u ⟨f,oR t o.dst ľ,á ops rest::k,Ã,L⟩ u
 |nH {f t k L u ops i rest o v u':_} (ho:ops[i]?=À o) (hw:Ħ o (ł ops t)=É) (hr:(ì (å ⟨t,[]⟩) o).run P u=ĥ (ï v) u'):LS P ⟨f,t,á ops (i::rest)::k,Ã,L⟩ u ⟨f,oR t o.dst v,á ops rest::k,Ã,L⟩ u'
 |As {f t k L u ops i rest o u':_} (ho:ops[i]?=À o) (hw:Ħ o (ł ops t)=É) (hr:(ì (å ⟨t,[]⟩) o).run P u=ĥ aH u'):LS P ⟨f,t,á ops (i::rest)::k,Ã,L⟩ u ⟨f,oR t o.dst ľ,á ops rest::k,Ã,L⟩ u'
 |sd {f t k L u ops i rest o g args fn c u':_} (ho:ops[i]?=À o) (hw:Ħ o (ł ops t)=É) (hr:(ì (å ⟨t,[]⟩) o).run P u=ĥ (ũ g args) u') (hf:P.funcs[g]?=À fn) (hb:fn.body=À c):LS P ⟨f,t,á ops (i::rest)::k,Ã,L⟩ u ⟨g,args++ĺ (fn.ntmps-args.size) ľ,[Đ c],Ã,(f,t,á ops (i::rest)::k)::L⟩ u'
 |CW {f t k L u ops i rest:_} (ho:(ops:Array av)[(i:Nat)]?=ë):LS P ⟨f,t,á ops (i::rest)::k,Ã,L⟩ u ⟨f,t,á ops rest::k,Ã,L⟩ u
 |wE {f t k L u g t' ops i rest k' v fn u':_} (hf:P.funcs[f]?=À fn) (hr:(Ī fn t).run P u=ĥ v u'):LS P ⟨f,t,k,É,(g,t',á ops (i::rest)::k')::L⟩ u ⟨g,oR t' ((ops[i]?).bind (·.dst)) v,á ops rest::k',Ã,L⟩ u'
inductive mo(GL:Nat->Prop):Ö->Prop
 |V8 (t:Tmp):mo GL (.tmp t)
 |V9 {v:Â} (h:jM v):mo GL (dZ v)
 |Wa {g:Nat} (h:GL g):mo GL (ez g)
 |Wb (f:à):mo GL (aO f)
structure mJ(P:Õ)(GL:Nat->Prop)(e9:à->Prop)(o:av):Prop where
 mK:∀{Y:ft} {Sh:Nat->Prop} {t t':Array Â} {u w:Æ},nG P->Y.C=P.globals.size->(∀g,GL g->Y g g)->fR Y t t'->je Y Sh u w->(∀j,Sh j->j<w.heap.size)->∀{x:Ο} {u':Æ},(ì (å ⟨t,[]⟩) o).run P u=ĥ x u'->CQ u u'->
  ∃(Y':ft) (x':Ο) (w':Æ) (Wc:Array ý),Y.r Y'/\(∀i j,Y' i j->Y i j\/(u.heap.size<=i/\w.heap.size<=j))/\(ì (å ⟨t',[]⟩) o).runT P w #[]=(ĥ x' w',#[]++Wc)/\oQ Y' x x'/\je Y' Sh u' w'/\nF Y Sh w w'/\(∀e∈Wc,Ak Y' Sh e)/\u.heap.size<=u'.heap.size
 r:∀a:bF,fE P<|ì a.eval o
 I:∀(a:bF) (u:Æ) (n:Ο) (u':Æ),(ì a.eval o).run P u=ĥ n u'->(∃v,n=ï v)\/n=aH\/∃f c,n=ũ f c
 C:∀(a:bF) (u:Æ) (f:à) (c:Array Â) (u':Æ),(ì a.eval o).run P u=ĥ (ũ f c) u'->e9 f
inductive kF(P:Õ)(GL:Nat->Prop)(e9:à->Prop):ak->Prop
 |uX:kF P GL e9 .ret
 |rZ:kF P GL e9 eR
 |wy (l:Nat):kF P GL e9 (eb l)
 |wC (id:Nat):kF P GL e9 (eT id)
 |wD (l:Nat):kF P GL e9 (eU l)
 |qT {x y:ak} (hx:kF P GL e9 x) (hy:kF P GL e9 y):kF P GL e9 (.seq x y)
 |tg {c:Ö} {x y:ak} (hc:mo GL c) (hx:kF P GL e9 x) (hy:kF P GL e9 y):kF P GL e9 (bz c x y)
 |qU (id:Nat) {c:ak} (h:kF P GL e9 c):kF P GL e9 (ec id c)
 |wz {c:ak} (h:kF P GL e9 c):kF P GL e9 (eS c)
 |wB {c:ak} (h:kF P GL e9 c):kF P GL e9 (ef c)
 |tj (id:Nat) {ops:Array av} (draw:Bool) (h:∀o∈ops,mJ P GL e9 o):kF P GL e9 (bQ id ops draw)
 |nI (Wg:String):kF P GL e9 (dw Wg)
inductive At(P:Õ)(GL:Nat->Prop)(e9:à->Prop):ś->Prop
 |qV {c:ak} (h:kF P GL e9 c):At P GL e9 (Đ c)
 |yk (id:Nat):At P GL e9 (dJ id)
 |uY {c:ak} (h:kF P GL e9 c):At P GL e9 (dK c)
 |wA {c:ak} (h:kF P GL e9 c):At P GL e9 (dt c)
 |wF {ops:Array av} (is:List Nat) (h:∀o∈ops,mJ P GL e9 o):At P GL e9 (á ops is)
def si(P:Õ)(a:Nat->Prop)(b:à->Prop)(k:List ś):Prop:=∀i∈k,At P a b i
structure lq(P:Õ)(GL:Nat->Prop)(e9:à->Prop)(s:St):Prop where
 gd:si P GL e9 s.k
 fx:∀x∈s.L,si P GL e9 x.2.2
def oS(P:Õ)(d:Nat->Prop)(a:à->Prop):Prop:=∀f,a f->∀b c,P.funcs[f]?=À b->b.body=À c->kF P d a c
section
variable{GL:Nat->Prop}{e9:à->Prop}
def aeC{a:ak}(h:kF P GL e9 wX):bj wX i=À a->kF P GL e9 a:=by
 induction h generalizing a with
 |qT j b d f=>
  intro e;simp only[bj]at e;split at e
  .rename_i r g;cases e;exact .qT (d g) b
  .exact f e
 |wy k=>
  intro e;simp only[bj]at e;split at e<;>cases e;exact .rZ
 |_=>intro e;simp only[bj]at e;cases e
def aeD{id:Nat}:∀{k a:List ś},si P GL e9 k->cF id k=À a->si P GL e9 a:=by
 intro k
 induction k with
 |nil=>intro a _ e;simp[cF]at e
 |cons i k c=>
  intro a h e;have b:=λj d=>h j<|ò _ d;cases i with
  |inBlock f=>
   simp only[cF]at e;split at e
   .cases e;exact b
   .exact c b e
  |_=>simp only[cF]at e;exact c b e
def aeE:∀{k c:List ś},si P GL e9 k->cG i k=À c->si P GL e9 c:=by
 intro k
 induction k with
 |nil=>intro c _ e;simp[cG]at e
 |cons a k f=>
  intro c h e;have d:=λj b=>h j<|ò _ b;cases a with
  |inScope m=>
   simp only[cG]at e;have g:kF P GL e9 m:=by cases h _ (î ..)with|uY h=>exact h
   split at e
   .rename_i r n;cases e;intro j b;rcases œ.1 b with rfl|b
    .exact .qV (aeC g n)
    .rcases œ.1 b with rfl|b
     .exact .uY g
     .exact d j b
   .exact f d e
  |_=>simp only[cG]at e;exact f d e
def nJ{i:ś}(h:si P GL e9 (i::L)):si P GL e9 L:=λj a=>h j<|ò _ a
def ow{i:ś}(b:At P GL e9 i)(h:si P GL e9 L):si P GL e9 (i::L):=λj a=>by
 rcases œ.1 a with rfl|a
 .exact b
 .exact h j a
def yl{c:ak}{k:List ś}(h:si P GL e9 (Đ c::k)):kF P GL e9 c:=by cases h _ (î ..)with|qV h=>exact h
def oT{ops:Array av}{k:List ś}(h:si P GL e9 (á ops jJ::k)):∀o∈ops,mJ P GL e9 o:=by cases h _ (î ..)with|wF _ h=>exact h
def LS.ok(i:oS P GL e9)(k:∀o a u f l w,mJ P GL e9 o->(ì (å a) o).run P u=ĥ (ũ f l) w->e9 f){s g:St}(h:LS P s u g w)(ok:lq P GL e9 s):lq P GL e9 g:=by
 let⟨c,d⟩:=ok;cases h with
 |oP=>exact⟨c,d⟩
 |uX=>exact⟨c,d⟩
 |rZ=>exact⟨nJ c,d⟩
 |wy=>exact⟨nJ c,d⟩
 |yk=>exact⟨nJ c,d⟩
 |uY=>exact⟨nJ c,d⟩
 |qT=>
  cases yl c with
  |qT e j=>exact⟨ow (.qV e)<|ow (.qV j)<|nJ c,d⟩
 |@tg _ _ _ _ _ _ _ _ b _=>
  cases yl c with
  |tg _ e j=>exact⟨ow (.qV (by cases b<;>simp[e,j]))<|nJ c,d⟩
 |qU=>
  cases yl c with
  |qU _ h=>exact⟨ow (.qV h)<|ow (.yk _)<|nJ c,d⟩
 |wz=>
  cases yl c with
  |wz h=>exact⟨ow (.qV h)<|ow (.wA h)<|nJ c,d⟩
 |wA=>
  cases c _ (î ..)with
  |wA h=>exact⟨ow (.qV h) c,d⟩
 |wB=>
  cases yl c with
  |wB h=>exact⟨ow (.qV h)<|ow (.uY h)<|nJ c,d⟩
 |wC h=>exact⟨aeD (nJ c) h,d⟩
 |wD h=>exact⟨aeE (nJ c) h,d⟩
 |tj=>
  cases yl c with
  |tj _ _ h=>exact⟨ow (.wF _ h)<|nJ c,d⟩
 |Ar=>
  cases yl c with
  |tj _ _ h=>exact⟨ow (.wF _ h)<|nJ c,d⟩
 |FF=>exact⟨nJ c,d⟩
 |CV=>exact⟨ow (.wF _ (oT c))<|nJ c,d⟩
 |nH=>exact⟨ow (.wF _ (oT c))<|nJ c,d⟩
 |As=>exact⟨ow (.wF _ (oT c))<|nJ c,d⟩
 |sd m _ n p q=>
  refine⟨λj r=> ?_,λx e=> ?_⟩
  .have:=ū.1 r;rw[this];exact .qV (i _ (k _ _ _ _ _ _ (oT c _<|Û m) n) _ _ p q)
  .rcases œ.1 e with rfl|e
   .exact c
   .exact d x e
 |CW=>exact⟨ow (.wF _ (oT c))<|nJ c,d⟩
 |wE=>
  have j:=d _<|î ..;exact⟨ow (.wF _ (oT j))<|nJ j,λx e=>d x<|ò _ e⟩
end
structure I7(Y:ft)(x y:FuncId×Array Value×List ś):Prop where
 f:x.1=y.1
 t:fR Y x.2.1 y.2.1
 k:x.2.2=y.2.2
inductive CX(Y:ft):List (FuncId×Array Value×List ś)->List (FuncId×Array Value×List ś)->Prop
 |oP:CX Y [] []
 |wo {x y:FuncId×Array Value×List ś} {L L':List (FuncId×Array Value×List ś)} (h:I7 Y x y) (hs:CX Y L L'):CX Y (x::L) (y::L')
structure I8(Y:ft)(s s':St):Prop where
 f:s.f=s'.f
 t:fR Y s.t s'.t
 k:s.k=s'.k
 uX:s.C=s'.C
 L:CX Y s.L s'.L
def I7.fO{Y a:ft}(h:Y.r a){x y:FuncId×Array Value×List ś}(r:I7 Y x y):I7 a x y:=⟨r.f,r.t.I h,r.k⟩
def I9{Y b:ft}(h:Y.r b){L c:List (FuncId×Array Value×List ś)}(r:CX Y L c):CX b L c:=by
 induction r with
 |oP=>exact .oP
 |wo a _ d=>exact .wo (a.fO h) d
section
variable{Y:ft}{j:Nat->Prop}{p:à->Prop}
def aeF(a:∀g,X g->Y g g)(h:mo X qQ):U8 Y qQ:=by
 cases h with
 |V8 t=>trivial
 |V9 h=>exact h.jA Y
 |Wa h=>exact a _ h
 |Wb f=>trivial
def wG(b:∀g,X g->Y g g)(h:fR Y d q)(c:mo X qQ):fl Y (å ⟨d,[]⟩ qQ) (å ⟨q,[]⟩ qQ):= adI (a:=⟨d,[]⟩) (a':=⟨q,[]⟩) h<|aeF b c
def oR.r{b:Array Â}(h:fR Y q b)(d:Option Tmp)(c:fl Y v x):fR Y (oR q d v) (oR b d x):= adK (a:=⟨q,[]⟩) (a':=⟨b,[]⟩) h d c
def Wh(n:Nat):fR Y (ĺ n ľ) (ĺ n ľ):=⟨U,λi a b=>by simp only[Array.getElem_replicate];exact Fy Y⟩
def aeG(B:j2 P xX o.op)(i:(ì xX o).run P u=ĥ (ũ F d) W):∃q l,o.op=Ω {callee:=cj<|aO F,args:=q,argTypes:=l}:=by
 have n:∀{m:ē Â} {x:Ο} {k p:Æ},(m>>=λv=>pure (ï v):ē Ο).run P k=ĥ x p->∃v,x=ï v:=by
  intro m x k p e;rw[Ä]at e;cases j:m.run P k with
  |ok a w=>rw[j]at e;cases e;exact⟨a,U⟩
  |halt z w=>rw[j]at e;cases e
 have C:∀{m:ē Unit} {x:Ο} {k p:Æ},(m>>=λ_=>pure aH:ē Ο).run P k=ĥ x p->x=aH:=by
  intro m x k p e;rw[Ä]at e;cases j:m.run P k with
  |ok a w=>rw[j]at e;cases e;rfl
  |halt z w=>rw[j]at e;cases e
 let⟨E,s,G,H,I,guard⟩:=o;simp only at B|-;unfold ì at i;simp only[]at i;cases B with
 |Ao x=>cases i
 |Fs x=>cases i
 |wq c a b=>
  rw[Ä]at i;cases j:(bW<|xX c).run P u with
  |ok a w=>rw[j]at i;cases i
  |halt z w=>rw[j]at i;cases i
 |ja t a x=>exact absurd (C i) fp
 |Ft x=>
  simp only[]at i;split at i;all_goals first
   |(cases i;done)
   |exact absurd i<|qP _ _ _ _
   |(
    split at i;all_goals first
     |(cases i;done)
     |exact absurd i<|qP _ _ _ _
     |(
      rw[Ä,ă]at i;simp only[È]at i;rw[Ä]at i;revert i;generalize ã P (aR _ _ _ _) u=z;intro i;cases z with
      |halt z w=>cases i
      |ok a w=>
       simp only[È]at i;split at i
       .rw[Ä]at i;cases i
       .cases i))
 |Fu x l=>simp only[ù,č,Ē,pure_bind,Ø,â,ä]at i;let⟨v,e⟩:=n i;cases e
 |Fv x l=>simp only[ù,č,Ē,pure_bind,Ø,â,ä]at i;let⟨v,e⟩:=n i;cases e
 |Fw x y l=>simp only[ù,č,Ē,pure_bind,Ø,â,ä]at i;let⟨v,e⟩:=n i;cases e
 |s6 x y b c h=>simp only[ù,č,Ē,pure_bind,Ø,â,ä]at i;let⟨v,e⟩:=n i;cases e
 |jF g q l b h=>
  let⟨J,c,r,D⟩:=h;simp only[ù,b,İ,č,pure_bind,Ď,ď,ĵ]at i;rw[Ä,ă]at i;simp only[È,c,r,D,Å,if_false]at i;cases i;exact⟨q,l,U⟩
 |CS s t x y r h=>
  rw[Ä]at i;cases j:ã P (ŷ s t x y (xX x) (xX y)>>=λ_=>Ũ s t (xX x)<|xX y) u with
  |ok a w=>rw[j]at i;cases i
  |halt z w=>rw[j]at i;cases i
 |_=>let⟨v,e⟩:=n i;cases e
theorem Wi(j:Func)(h:fR Y d q):fH P fl Y (Ī j d) (Ī j q):=by
 have k:∀(f:ft),Y.r f->∀n,fl f (d.getD n ľ) (q.getD n ľ):=by intro f a n;simp only[ĩ];rcases(h.I a).S n with⟨b,e⟩|⟨v,u,b,e,m⟩;all_goals grind [Fy]
 unfold Ī;refine fF (V:=fR) ?_ ?_
 .rw[Ĕ,Ĕ];have w:∀(l:List ResultVar) (c:ft),Y.r c->fH P (λf (a o:List Â)=>fR f a.toArray o.toArray) c (l.mapM fun|ResultVar.tmp n=>pure (d.getD n ľ)|ResultVar.cell a e=>do ae e (<-bX (d.getD a ľ))) (l.mapM fun|ResultVar.tmp n=>pure (q.getD n ľ)|ResultVar.cell a e=>do ae e (<-bX (q.getD a ľ))):=by
   intro l
   induction l with
   |nil=>intro c _;simp only[cU];exact .fD (fR.N _)
   |cons r l x=>
    intro c g;simp only[ν];refine fF (V:=fl) ?_ ?_
    .cases r with
     |tmp n=>exact .fD (k c g n)
     |cell a e=>
      apply fF (UT<|k c g a);exact λp b s _ i=>UP i e
    .intro p v u e m;apply fF (x p<|ft.I g e);intro z s i y b;refine .fD ?_;have:=(fR.M<|m.fO y).s6 b;simpa using this
  exact fH.lI (w _ Y<|ft.M _) λf a o _ e=> .fD e
 .intro c s i _ b;refine .fD ?_;by_cases e:s.size=1
  .have a:i.size=1:=by rwa[<-b.r]
   rw[dif_pos e,dif_pos a];exact b.C 0 _ _
  .have a:¬i.size=1:=by rwa[<-b.r]
   rw[dif_neg e,dif_neg a];exact .nD b.r b.C
end
section
variable{Y:ft}{d:Nat->Prop}{l:à->Prop}
def iW(P:Õ)(Y:ft)(d:Nat->Prop)(main:Bool)(cs:List Ę)(h:St)(u w:Æ)(k:St)(c:Æ):Prop:=
 ∃(a:ft) (f:St) (b:Æ) (g:Array ý),Ù P main (h.r cs) w=aS (f.r cs) b g/\I8 a k f/\Y.r a/\(∀i j,a i j->Y i j\/(u.heap.size<=i/\w.heap.size<=j))/\je a d c b/\nF Y d w b/\(∀e∈g,Ak a d e)/\u.heap.size<=c.heap.size
def iW.r{main:Bool}{cs:List Ę}{a b s1':St}(c:je Y d u w)(h:Ù P main (a.r cs) w=aS (s1'.r cs) w #[])(f:I8 Y b s1'):iW P Y d main cs a u w b u:= ⟨Y,s1',w,#[],h,f,ft.M _,λ_ _ h=>Ç h,c,nF.fU _ _ w,λe g=>absurd g fp,ß _⟩
def Ja{α:Type}{m:ē α}{x:α}(h:m.runT P w #[]=(ĥ x u,#[]++V)):m.run P w=ĥ x u/\m.events P w #[]=V:=by simp_all
def FG{main:Bool}{k:List ś}{c:Ę}{cs:List Ę}{es:Array ý}(a:P.funcs[F]?=À s)(b:(Ī s q).runT P w #[]=(ĥ v u,es)): Ù P main (G {fm F q k with mode:=.returning}<|c::cs) w=aS (G (c.finish v) cs) u (seen P F es):=by simp[G,Ù,dx,doReturn,fm,Frame.at,base,a,b,Ź,-ź]
def LS.mK(hz:nG P)(hb:Y.C=P.globals.size)(hG:∀g,X g->Y g g){s s1 s':St}(h:LS P s u s1 W)(hs:I8 Y s s')(ok:lq P X l s)(n:je Y d u w)(hl:∀j,d j->j<w.heap.size)(Q:CQ u W)(main:Bool)(cs:List Ę): iW P Y d main cs s' u w s1 W:=by
 let⟨f',r,k',ret',p⟩:=s';let⟨S,m,T,e3,q⟩:=hs;simp only at S T e3 m q;subst S T e3;cases h with
 |oP=>exact .r (s1':=⟨_,r,_,É,p⟩) n (by simp[St.r,fm,base,G,Ù,Ì,Frame.at]) ⟨U,m,U,U,q⟩
 |uX=>exact .r (s1':=⟨_,r,_,É,p⟩) n (by simp[St.r,fm,base,G,Ù,Ì,Frame.at]) ⟨U,m,U,U,q⟩
 |rZ=>exact .r (s1':=⟨_,r,_,Ã,p⟩) n (by simp[St.r,fm,base,G,Ù,Ì,Frame.at]) ⟨U,m,U,U,q⟩
 |wy=>exact .r (s1':=⟨_,r,_,Ã,p⟩) n (by simp[St.r,fm,base,G,Ù,Ì,Frame.at]) ⟨U,m,U,U,q⟩
 |yk=>exact .r (s1':=⟨_,r,_,Ã,p⟩) n (by simp[St.r,fm,base,G,Ù,Ì,Frame.at]) ⟨U,m,U,U,q⟩
 |uY=>exact .r (s1':=⟨_,r,_,Ã,p⟩) n (by simp[St.r,fm,base,G,Ù,Ì,Frame.at]) ⟨U,m,U,U,q⟩
 |qT=>exact .r (s1':=⟨_,r,_,Ã,p⟩) n (by simp[St.r,fm,base,G,Ù,Ì,Frame.at]) ⟨U,m,U,U,q⟩
 |@tg _ _ _ _ _ c _ _ b hc'=>
  have V:=wG hG m (by cases yl ok.gd with|tg Q _ _=>exact Q);rw[hc']at V;have e:å ⟨r,[]⟩ c=Ľ b:=by generalize å ⟨r,[]⟩ c=v' at V;cases V;rfl
  exact .r (s1':=⟨_,r,_,Ã,p⟩) n (cH e) ⟨U,m,U,U,q⟩
 |qU=>exact .r (s1':=⟨_,r,_,Ã,p⟩) n (by simp[St.r,fm,base,G,Ù,Ì,Frame.at]) ⟨U,m,U,U,q⟩
 |wz=>exact .r (s1':=⟨_,r,_,Ã,p⟩) n (by simp[St.r,fm,base,G,Ù,Ì,Frame.at]) ⟨U,m,U,U,q⟩
 |wA=>exact .r (s1':=⟨_,r,_,Ã,p⟩) n (by simp[St.r,fm,base,G,Ù,Ì,Frame.at]) ⟨U,m,U,U,q⟩
 |wB=>exact .r (s1':=⟨_,r,_,Ã,p⟩) n (by simp[St.r,fm,base,G,Ù,Ì,Frame.at]) ⟨U,m,U,U,q⟩
 |wC B=>exact .r (s1':=⟨_,r,_,Ã,p⟩) n (by simp[St.r,fm,base,G,Ù,Ì,Frame.at,B]) ⟨U,m,U,U,q⟩
 |wD B=>exact .r (s1':=⟨_,r,_,Ã,p⟩) n (by simp[St.r,fm,base,G,Ù,Ì,Frame.at,B]) ⟨U,m,U,U,q⟩
 |tj=>exact .r (s1':=⟨_,r,_,Ã,p⟩) n (by simp[St.r,fm,base,G,Ù,Ì,Frame.at]) ⟨U,m,U,U,q⟩
 |@Ar f t k L _ id ops=>
  refine⟨Y,⟨f,r,á ops (bM (P.follows .mixedOrders) ops<|w.tape w.drawn<|.order f id)::k,Ã,p⟩,{w with drawn:=w.drawn+1},#[],Ż,⟨U,m,?_,U,q⟩,ft.M _,λ_ _ h=>Ç h,⟨n.S,by simp[n.N],n.C,n.I,n.M,n.r⟩,⟨ß _,U,U,U,λ_ _ _=>rfl,λ_ _ _=>rfl⟩,λe B=>absurd B fp,ß _⟩;simp only[n.S,n.N]
 |FF=>exact .r (s1':=⟨_,r,_,Ã,p⟩) n (by simp[St.r,fm,base,G,Ù,Ì,Frame.at]) ⟨U,m,U,U,q⟩
 |@CV f t k L _ ops i rest o ho hw=>
  rw[IW _ _ m]at hw;have:=υ (P:=P) (main:=main) (b:=base f) (a:=⟨r,[]⟩) (k:=k) (cs:=p.map (λx=>fm x.1 x.2.1 x.2.2)++cs) (w:=w) (rest:=rest) ho hw;rw[sf]at this;exact .r (s1':=⟨f,oR r o.dst ľ,á ops rest::k,Ã,p⟩) n this ⟨U,oR.r m _<|Fy Y,U,U,q⟩
 |@nH f t k L _ ops i rest o v _ ho hw hr=>
  rw[IW _ _ m]at hw;let⟨C,x',E,es,z,F,D,H,I,J,K,M⟩:=(oT ok.gd _<|Û ho).mK hz hb hG m n hl hr Q;let⟨N,O⟩:=Ja D;cases H with
  |nH V=>
   have:=bA (main:=main) (b:=base f) (k:=k) (cs:=p.map (λx=>fm x.1 x.2.1 x.2.2)++cs) (rest:=rest) ho hw (by simp[base]) N;rw[sf]at this;rename_i v';exact⟨C,⟨f,oR r o.dst v',á ops rest::k,Ã,p⟩,E,_,this,⟨U,oR.r (m.I z) _ V,U,U,I9 z q⟩,z,F,I,J,λe B=>K e (by have:=cI B;rwa[O]at this),M⟩
 |@As f t k L _ ops i rest o _ ho hw hr=>
  rw[IW _ _ m]at hw;let⟨C,x',E,es,z,F,D,H,I,J,K,M⟩:=(oT ok.gd _<|Û ho).mK hz hb hG m n hl hr Q;let⟨N,O⟩:=Ja D;cases H with
  |rZ=>
   have:=cJ (main:=main) (b:=base f) (k:=k) (cs:=p.map (λx=>fm x.1 x.2.1 x.2.2)++cs) (rest:=rest) ho hw (by simp[base]) N;rw[sf]at this;exact⟨C,⟨f,oR r o.dst ľ,á ops rest::k,Ã,p⟩,E,_,this,⟨U,oR.r (m.I z) _<|Fy C,U,U,I9 z q⟩,z,F,I,J,λe B=>K e (by have:=cI B;rwa[O]at this),M⟩
 |@sd f t k L _ ops i rest o g args fn c _ ho hw hr hf Jb=>
  rw[IW _ _ m]at hw;let⟨C,x',E,es,z,F,D,H,I,J,K,M⟩:=(oT ok.gd _<|Û ho).mK hz hb hG m n hl hr Q;let⟨N,O⟩:=Ja D;cases H with
  |sd _ sj=>
   have:=bB (main:=main) (b:=base f) (k:=k) (cs:=p.map (λx=>fm x.1 x.2.1 x.2.2)++cs) (rest:=rest) ho hw (by simp[base]) N;rw[cK _ hf Jb]at this;rename_i Wj;refine⟨C,⟨g,Wj++ĺ (fn.ntmps-Wj.size) ľ,[Đ c],Ã,(f,r,á ops (i::rest)::k)::p⟩,E,_,this,⟨U,?_,U,U,.wo ⟨U,m.I z,U⟩ (I9 z q)⟩,z,F,I,J,λe B=>K e (by have:=cI B;rwa[O]at this),M⟩;rw[sj.r];exact sj.s6<|Wh _
 |@CW f t k L _ ops i rest ho=>exact .r (s1':=⟨f,r,á ops rest::k,Ã,p⟩) n (by simp[St.r,fm,base,G,Ù,Ì,Frame.at,ho,aT]) ⟨U,m,U,U,q⟩
 |@wE f t k L _ g t2' ops i rest k3 v fn _ hf hr=>
  cases q with
  |wo hx q=>
   rename_i y Wk;let⟨g',t2,k2⟩:=y;let⟨S,Jc,T⟩:=hx;simp only at S T Jc;subst S T;let⟨C,v',E,es,z,F,D,H,I,J,K,M⟩:=(Wi fn m).gl n hl hr #[];let⟨N,O⟩:=Ja D;refine⟨C,⟨g,oR t2 ((ops[i]?).bind (·.dst)) v',á ops rest::k3,Ã,Wk⟩,E,seen P f es,?_,⟨U,oR.r (Jc.I z) _ H,U,U,I9 z q⟩,z,F,I,J,λe B=>K e<|mem_seen B,M⟩;have Au:=ε (base g) ⟨t2,[]⟩ ops i rest k3 v';rw[sf]at Au;have na:=FG (main:=main) (k:=k) (c:=fm g t2<|á ops (i::rest)::k3) (cs:=Wk.map (λx=>fm x.1 x.2.1 x.2.2)++cs) hf D;unfold fm at na;rwa[Au,Ď]at na
end
inductive pF(P:Õ)(kS:Â->Æ->Prop):St->Æ->Prop
 |jG {f:à} {t:Array Â} {k:List ś} {u:Æ} {fn:Func} {v:Â} (hf:P.funcs[f]?=À fn) (hr:∀tp d,(Ī fn t).run P {u with tape:=tp,drawn:=d}=ĥ v {u with tape:=tp,drawn:=d}) (hp:kS v u):pF P kS ⟨f,t,k,É,[]⟩ u
 |ju {s:St} {u:Æ} (S:ψ->Nat->St) (U:ψ->Nat->Æ) (h:∀tp d,LS P s {u with tape:=tp,drawn:=d} (S tp d)<|U tp d) (hc:∀tp d,CQ u<|U tp d) (ih:∀tp d,pF P kS (S tp d)<|U tp d):pF P kS s u
structure ym(M:Nat->Prop)(w w₁:Æ):Prop where
 r:w.heap.size<=w₁.heap.size
 C:∀j,M j->w₁.heap[j]?=w.heap[j]?
def Je(O b:Nat->Prop)(e:ý):Prop:=
 (∃a:Ú,e.loc=û a/\e.sync=Ã/\(O a.block\/(b a.block/\e.write=Ã)))\/e.loc=ů df\/∃f,e.loc=ů (.extern f)
structure Jf(Rd O O':Nat->Prop)(w w':Æ)(es:Array ý):Prop where
 r:w.heap.size<=w'.heap.size
 M:∀j,O j->O' j
 I:∀j,O' j->O j\/w.heap.size<=j
 fx:∀j,O' j->j<w'.heap.size
 jN:∀j,j<w.heap.size->¬O j->w'.heap[j]?=w.heap[j]?
 N:w'.os=w.os
 S:w'.output=w.output
 Y:w'.tape=w.tape
 C:∀e∈es,Je O' Rd e
inductive uZ(P:Õ)(main:Bool)(Rd:Nat->Prop)(Stop:(Nat->Prop)->Ó->Æ->Prop):(Nat->Prop)->Ó->Æ->Prop
 |fC {O:Nat->Prop} {g:Ó} {w:Æ} (h:∀w₁,ym (λj=>O j\/Rd j) w w₁->Stop O g w₁):uZ P main Rd Stop O g w
 |ju {O:Nat->Prop} {g:Ó} {w:Æ} (G':Æ->Ó) (W':Æ->Æ) (E':Æ->Array ý) (O':Æ->Nat->Prop) (iI:g.status=Ð)
  (h:∀w₁,ym (λj=>O j\/Rd j) w w₁->Ù P main g w₁=aS (G' w₁) (W' w₁) (E' w₁))
  (hd:∀w₁,ym (λj=>O j\/Rd j) w w₁->Jf Rd O (O' w₁) w₁ (W' w₁) (E' w₁))
  (ih:∀w₁,ym (λj=>O j\/Rd j) w w₁->uZ P main Rd Stop (O' w₁) (G' w₁) (W' w₁)):uZ P main Rd Stop O g w
instance:Nonempty ft:=⟨⟨λ_ _=>False,0⟩⟩
instance:Nonempty St:=⟨⟨0,#[],[],Ã,[]⟩⟩
instance:Nonempty (Goroutine×World×Array Event×(Nat->Prop)):=⟨(default,default,#[],λ_=>False)⟩
section
variable{Y:ft}{b Rd:Nat->Prop}{l:à->Prop}{main:Bool}{Stop:(Nat->Prop)->Ó->Æ->Prop}
def uZ.mk(i:g.status=Ð) (h:∀a,ym (λj=>X j\/Rd j) w a->∃c b d e,Ù P main g a=aS c b d/\Jf Rd X e a b d/\uZ P main Rd Stop e c b):uZ P main Rd Stop X g w:=by
 let p:=λ(a:Æ) (x:Goroutine×World×Array Event×(Nat->Prop))=>Ù P main g a=aS x.1 x.2.1 x.2.2.1/\Jf Rd X x.2.2.2 a x.2.1 x.2.2.1/\uZ P main Rd Stop x.2.2.2 x.1 x.2.1
 have f:∀a,ym (λj=>X j\/Rd j) w a->p a (Classical.epsilon<|p a):=λa r=>Classical.epsilon_spec (let⟨c,b,d,e,h⟩:=h a r;⟨(c,b,d,e),h⟩);exact .ju (λa=>(Classical.epsilon<|p a).1) (λa=>(Classical.epsilon<|p a).2.1) (λa=>(Classical.epsilon<|p a).2.2.1) (λa=>(Classical.epsilon<|p a).2.2.2) i (λa r=>(f a r).1) (λa r=>(f a r).2.1) λa r=>(f a r).2.2
def qW(Y:ft)(b:Nat->Prop)(u w:Æ):Prop:=je Y b {u with tape:=w.tape,drawn:=w.drawn} w
def fq(Y:ft)(b:Nat->Prop)(j:Nat):Prop:=(∃i,Y i j)/\¬b j
theorem qW.jV{w₁:Æ}(h:qW Y b u w)(p:∀i j,Y i j->b j->Rd j)(r:ym (λj=>fq Y b j\/Rd j) w w₁):qW Y b u w₁:=by
 refine⟨U,U,h.C,h.I,õ h.M r.r,λi j a=> ?_⟩;let⟨c,d,e,f,g,k,l,m,n,o⟩:=h.r i j a;refine⟨c,d,e,f,g,k,?_,m,n,o⟩;rw[r.C j ?_]
 .exact l
 .by_cases s:b j
  .grind
  .exact Ç ⟨⟨i,a⟩,s⟩
def je.to0(h:je Y b u w):qW Y b u w:=⟨U,U,h.C,h.I,h.M,h.r⟩
def je.u9(h:je Y b u w)(tp:ψ)(d:Nat):qW Y b {u with tape:=tp,drawn:=d} w:=⟨U,U,h.C,h.I,h.M,h.r⟩
theorem aeH{c:ft}(k:∀i j,c i j->b j->Rd j){e:ý}(h:Ak c b e):Je (fq c b) Rd e:=by
 rcases h with⟨a,i,d,f,g,l⟩|h|h
 .by_cases s:b a.block
  .refine Ç ⟨a,d,g,Î ⟨k _ _ f s,?_⟩⟩;grind
  .exact Ç ⟨a,d,g,Ç ⟨⟨i,f⟩,s⟩⟩
 .exact Î<|Ç h
 .exact Î<|Î h
def Wl{c:ft}(f:Y.r c)(g:∀i j,c i j->Y i j\/(u.heap.size<=i/\w.heap.size<=j))(k:je c b W jX)(d:nF Y b w jX)(l:∀e∈V,Ak c b e)(m:∀i j,c i j->b j->Rd j): Jf Rd (fq Y b) (fq c b) w jX V where
 r:=d.r;M j h:=⟨let⟨i,a⟩:=h.1;⟨i,f.1 _ _ a⟩,h.2⟩;I j h:=by
  let⟨⟨i,a⟩,s⟩:=h;rcases g i j a with x|x
  .exact Ç ⟨⟨i,x⟩,s⟩
  .exact Î x.2
 fx j h:=by let⟨⟨i,a⟩,_⟩:=h;let⟨_,_,_,_,_,_,x,_⟩:=k.r i j a;exact(Ë.1 x).1
 jN j hj hn:=by
  by_cases x:∃i,Y i j
  .by_cases s:b j
   .exact d.N j s hj
   .exact absurd ⟨x,s⟩ hn
  .exact d.C j hj λi a=>x ⟨i,a⟩
 N:=d.I;S:=d.M;Y:=d.S;C e he:=aeH m<|l e he
def FH(Y:ft)(b:Nat->Prop)(f:Â->Æ->Prop)(c:Ę)(h:List Ę)(O:Nat->Prop)(g:Ó)(w:Æ):Prop:=
 ∃(a:ft) (d:Æ) (v e:Â),Y.r a/\O=fq a b/\qW a b d w/\fl a v e/\f v d/\g=G (c.finish e) h
def pF.NK(hz:nG P)(hP:oS P X l){s:St}(h:pF P vQ s u):∀{Y FI:ft} {s':St} {w:Æ},FI.r Y->Y.C=P.globals.size->(∀g,X g->Y g g)->I8 Y s s'->lq P X l s->qW Y b u w->(∀j,b j->j<w.heap.size)->(∀i j,Y i j->b j->Rd j)->∀(c:Ę) (cs:List Ę),uZ P main Rd (FH FI b vQ c cs) (fq Y b) (s'.r<|c::cs) w:=by
 have hE:∀o a u f F G,mJ P X l o->(ì (å a) o).run P u=ĥ (ũ f F) G->l f:=by exact λo a u f F G d H=>d.C a u f F G H
 induction h with
 |@jG f t k u fn v hf H hp=>
  intro Y FI s' w I J K L M N O n c cs;let⟨f',t',k',ret',L'⟩:=s';let⟨V,W,e2,e3,hL⟩:=L;simp only at V e2 e3 W hL;subst V e2 e3;cases hL;refine .mk rfl λp r=> ?_;have d:=λj s=>Ô (O j s) r.r;let⟨z,v',w',es,B,C,m,D,q,E,Q,h8⟩:=(Wi fn W).gl (N.jV n r) d (H _ _) #[];have y:=λi j T s=>(C i j T).elim (λx=>n i j x s) λx=>absurd (d j s) Z;refine⟨_,w',_,fq z b,FG hf m,Wl B C q E (λe he=>Q e (by have:=mem_seen he;simpa using this)) y,.fC λwH e=>⟨z,u,v,v',ft.I I B,rfl,qW.jV (q.u9 _ _) y e,D,hp,rfl⟩⟩
 |@ju s u S U h hc _ ih=>
  intro Y FI s' w I J K L M N O n c cs;refine .mk rfl λp r=> ?_;have d:=λj s=>Ô (O j s) r.r;let⟨z,H,e,es,B,C,m,D,q,E,Q,h8⟩:=(h p.tape p.drawn).mK hz J K L M (N.jV n r) d (hc p.tape p.drawn) main<|c::cs;have y:=λi j T s=>(D i j T).elim (λx=>n i j x s) λx=>absurd (d j s) Z;refine⟨_,e,es,fq z b,B,Wl m D q E Q y,ih _ _ (ft.I I m) (m.2.2.trans J) (λg x=>m.1 _ _<|K g x) C ((h _ _).ok hP hE M) q.to0 (λj s=>Ô (d j s) E.r) y c cs⟩
end
def pG:Ę:={(default:Ę)with fn:=0,todo:=[Đ<|dw ""],defers:=[{target:=.nil,args:=#[]}],mode:=.run,kind:=.normal}
def St.I(s:St):Ę:=if s.C then{fm s.f s.t s.k with mode:=.returning}else fm s.f s.t s.k
def fx(L:List (FuncId×Array Value×List ś)):List Ę:=L.map (λx=>fm x.1 x.2.1 x.2.2)++[pG]
def LM(s:St)(u:Æ):bR:=aU s.I (fx s.L) u
section
variable{GL:Nat->Prop}{e9:à->Prop}{Q:Â->Æ->Prop}
def CY{cs:List Ę}{a:Ę}{es:Array ý}(h:Ù P É (G f cs) w=aS (G a qX) u es):dS P (aU f cs w)=ň (aU a qX u):= step_lone_go<|by show(Ù P É (G f cs) w).bare=_;rw[h];rfl
def Jg{fr:Ę}{cs:List Ę}{o:Outcome}{es:Array ý}(h:Ù P É (G fr cs) w=eV o u es):dS P (aU fr cs w)=.ended o u:= step_lone_ended<|by show(Ù P É (G fr cs) w).bare=_;rw[h];rfl
def mL(P:Õ)(Q:Â->Æ->Prop)(n:Nat)(m:bR):Prop:=∃b v a,dy P n m=ň (aU b [pG] a)/\b.leaving P a (.returned v)/\Q v a
def mL.r{m a:bR}(h:mL P Q (n+1) m)(b:dS P m=ň a):mL P Q n a:=by let⟨c,v,d,e,f⟩:=h;exact⟨c,v,d,by simpa only[dy,b]using e,f⟩
def mL.M{m:bR}{o:Outcome}(h:mL P Q (n+1) m)(b:dS P m=.ended o w):False:=by let⟨c,v,d,a,e⟩:=h;simp only[dy,b]at a;cases a
theorem Wm{fr:Ę}{cs:List Ę}(h:aU fr cs w=aU f qX u):fr=f/\cs=qX/\w=u:=by simp only[aU,Machine.mk.injEq,Array.mk.injEq,List.cons.injEq,Goroutine.mk.injEq]at h;grind
theorem mL.C{cs:List Ę}(h:mL P Q 0 (aU f cs w)):cs=[pG]/\∃v,f.leaving P w (.returned v)/\Q v w:=by let⟨b,v,c,a,d,e⟩:=h;simp only[dy,Stepped.next.injEq]at a;grind [Wm]
def aeI(h:mL P Q n (aU pG [] u)):False:=by
 cases n with
 |zero=>let⟨a,_⟩:=h.C;cases a
 |succ n=>exact h.M<|Jg (es:=#[])<|by simp[G,Ù,Ì,pG];exact⟨U,U⟩
def aeJ{a:List eh}(h:mL P Q n (aU (pG.raise a) [] u)):False:=by
 cases n with
 |zero=>let⟨b,_⟩:=h.C;cases b
 |succ n=>exact h.M<|Jg (es:=#[])<|by simp[G,Ù,pG,Ŗ,dx,callDeferred];exact⟨U,U⟩
def aeK(b:List eh):∀(L:List (FuncId×Array Value×List ś)) (f:à) (t:Array Â) (k:List ś) (u:Æ) (n:Nat),(∃a,P.funcs[f]?=À a)->(∀x∈L,∃a,P.funcs[x.1]?=À a)->¬mL P Q n (aU ((fm f t k).raise b) (fx L) u):=by
 intro L
 induction L with
 |nil=>
  intro f t k u n ⟨a,c⟩ _ h;cases n with
  |zero=>let⟨_,v,y,_⟩:=h.C;exact absurd y.1<|by simp[Ŗ,fm,Frame.at]
  |succ n=>
   have d:dS P (aU ((fm f t k).raise b) (fx []) u)=ň (aU (pG.raise b) [] u):=CY (es:=#[]) (by simp[G,Ù,fm,base,Frame.at,Ŗ,dx,cX,c,fx]);exact aeJ<|h.r d
 |cons x L e=>
  intro f t k u n ⟨a,c⟩ d h;cases n with
  |zero=>let⟨_,v,y,_⟩:=h.C;exact absurd y.1<|by simp[Ŗ,fm,Frame.at]
  |succ n=>
   exact e x.1 x.2.1 x.2.2 u n (d x<|î ..) (λy v=>d y<|ò _ v)<|h.r<|CY (es:=#[])<|by simp[G,Ù,fm,base,Frame.at,Ŗ,dx,cX,c,fx]
structure Ok(P:Õ)(GL:Nat->Prop)(e9:à->Prop)(s:St):Prop where
 r:lq P GL e9 s
 I:e9 s.f
 C:∀x∈s.L,e9 x.1/\∃ops i rest k,x.2.2=á ops (i::rest)::k
def tq(P:Õ)(e9:à->Prop):Prop:=∀f,e9 f->∃a c,P.funcs[f]?=À a/\a.body=À c
theorem NL{t:Array Â}:fE P (Ī s t):=by unfold Ī;grind [gp,VA,gE,Vr,Vm]
def aeL(k:j2 P xX o.op){n:Ο}(d:(ì xX o).run P u=ĥ n W):(∃v,n=ï v)\/n=aH\/∃f c,n=ũ f c:=by
 have i:∀{m:ē Â} {x:Ο} {j l:Æ},(m>>=λv=>pure (ï v):ē Ο).run P j=ĥ x l->∃v,x=ï v:=by
  intro m x j l e;rw[Ä]at e;cases g:m.run P j with
  |ok a w=>rw[g]at e;cases e;exact⟨a,U⟩
  |halt z w=>rw[g]at e;cases e
 let⟨p,e,q,s,B,guard⟩:=o;simp only at k;unfold ì at d;simp only[]at d;cases k with
 |Ao x=>cases d;exact Ç ⟨_,U⟩
 |Fs x=>cases d;exact Ç ⟨_,U⟩
 |wq c a b=>
  rw[Ä]at d;cases g:(bW<|xX c).run P u with
  |ok a w=>rw[g]at d;cases d;exact Ç ⟨_,U⟩
  |halt z w=>rw[g]at d;cases d
 |ja t a x=>
  rw[Ä]at d;cases g:(ĳ t (xX a)<|xX x).run P u with
  |ok a w=>rw[g]at d;cases d;exact Î<|Ç U
  |halt z w=>rw[g]at d;cases d
 |Ft x=>
  simp only[]at d;split at d;all_goals first
   |(cases d;exact Ç ⟨_,U⟩)
   |exact absurd d<|qP _ _ _ _
   |(
    split at d;all_goals first
     |(cases d;exact Ç ⟨_,U⟩)
     |exact absurd d<|qP _ _ _ _
     |(
      rw[Ä,ă]at d;simp only[È]at d;rw[Ä]at d;revert d;generalize ã P (aR _ _ _ _) u=z;intro d;cases z with
      |halt z w=>cases d
      |ok a w=>
       simp only[È]at d;split at d
       .rw[Ä]at d;cases d
       .cases d;exact Ç ⟨_,U⟩))
 |Fu x a=>simp only[ù,č,Ē,pure_bind,Ø,â,ä]at d;exact Ç<|i d
 |Fv x a=>simp only[ù,č,Ē,pure_bind,Ø,â,ä]at d;exact Ç<|i d
 |Fw x y a=>simp only[ù,č,Ē,pure_bind,Ø,â,ä]at d;exact Ç<|i d
 |s6 x y b g h=>simp only[ù,č,Ē,pure_bind,Ø,â,ä]at d;exact Ç<|i d
 |jF g C a b h=>
  let⟨D,r,w,z⟩:=h;simp only[ù,b,İ,č,pure_bind,Ď,ď,ĵ]at d;rw[Ä,ă]at d;simp only[È,r,w,z,Å,if_false]at d;cases d;exact Î<|Î ⟨_,_,U⟩
 |CS e t x y r h=>exact Ç<|i d
 |_=>exact Ç<|i d
def mL.I(_hP:oS P GL e9)(hF:tq P e9){n:Nat}{s:St}{u:Æ}(ok:Ok P GL e9 s)(hu:qi u)(h:mL P Q n (LM s u)): (n=0/\s.C=É/\s.L=[]/\∃fn v,P.funcs[s.f]?=À fn/\(Ī fn s.t).run P u=ĥ v u/\Q v u)\/∃m s' u',n=m+1/\LS P s u s' u'/\mL P Q m (LM s' u'):=by
 let⟨f,t,k,ret,L⟩:=s;let⟨⟨top,lw⟩,fs,ls⟩:=ok;simp only at top lw fs ls;let⟨fn,c,hfn,hbody⟩:=hF f fs;cases n with
 |zero=>
  let⟨h1,v,h2,h3⟩:=h.C;have hL:L=[]:=by simp only[fx]at h1;simp_all
  subst hL;let⟨m1,_,_,fn',m4,m5⟩:=h2;have aeM:ret=É:=by
   cases ret with
   |true=>rfl
   |false=>simp[St.I,fm,Frame.at]at m1
  subst aeM;exact Ç ⟨U,U,U,fn',v,m4,m5,h3⟩
 |succ n=>
  have go:∀{s':St} {u':Æ},LS P ⟨f,t,k,ret,L⟩ u s' u'->(∃es,Ù P É ((⟨f,t,k,ret,L⟩:St).r [pG]) u=aS (s'.r [pG]) u' es)->(n+1=0/\ret=É/\L=[]/\∃fn v,P.funcs[f]?=À fn/\(Ī fn t).run P u=ĥ v u/\Q v u)\/∃m s' u',n+1=m+1/\LS P ⟨f,t,k,ret,L⟩ u s' u'/\mL P Q m (LM s' u'):=by intro s' u' hl ⟨es,he⟩;exact Î ⟨n,s',u',U,hl,h.r<|CY he⟩
  have bad:(∃o w es,Ù P É ((⟨f,t,k,ret,L⟩:St).r [pG]) u=eV o w es)->False:=λ⟨_,_,_,he⟩=>h.M<|Jg he;cases ret with
  |true=>
   cases hr:(Ī fn t).runT P u #[]with
   |mk r es=>
    cases r with
    |halt z w=>
     refine absurd ?_ id;cases z<;>exact bad ⟨_,_,_,by simp[St.r,fm,base,G,Ù,dx,Frame.at,hfn,hr,Ź,-ź];exact⟨U,U,U⟩⟩
    |ok v u'=>
     cases L with
     |nil=>
      exact absurd (h.r<|CY<|FG hfn hr) aeI
     |cons x L=>
      let⟨g,t',k'⟩:=x;let⟨_,ops,i,rest,k2,e⟩:=ls _<|î ..;simp only at e;subst e;refine go (.wE hfn (by rw[<-Ρ P (Ī fn t) u #[],hr])) ⟨seen P f es,?_⟩;have na:=FG (main:=É) (k:=k) (c:=fm g t'<|á ops (i::rest)::k2) (cs:=fx L) hfn hr;have Au:=ε (base g) ⟨t',[]⟩ ops i rest k2 v;rw[sf]at Au;unfold fm at na;rwa[Au]at na
  |false=>
   cases k with
   |nil=>exact go .oP ⟨_,by simp[St.r,fm,base,G,Ù,Ì,Frame.at];rfl⟩
   |cons it k=>
    have ti:=top it<|î ..;cases ti with
    |yk id=>exact go .yk ⟨_,by simp[St.r,fm,base,G,Ù,Ì,Frame.at];rfl⟩
    |uY _=>exact go .uY ⟨_,by simp[St.r,fm,base,G,Ù,Ì,Frame.at];rfl⟩
    |wA _=>exact go .wA ⟨_,by simp[St.r,fm,base,G,Ù,Ì,Frame.at];rfl⟩
    |qV hc=>
     cases hc with
     |uX=>exact go .uX ⟨_,by simp[St.r,fm,base,G,Ù,Ì,Frame.at];rfl⟩
     |rZ=>exact go .rZ ⟨_,by simp[St.r,fm,base,G,Ù,Ì,Frame.at];rfl⟩
     |wy l=>exact go .wy ⟨_,by simp[St.r,fm,base,G,Ù,Ì,Frame.at];rfl⟩
     |qT hx hy=>exact go .qT ⟨_,by simp[St.r,fm,base,G,Ù,Ì,Frame.at];rfl⟩
     |qU id _=>exact go .qU ⟨_,by simp[St.r,fm,base,G,Ù,Ì,Frame.at];rfl⟩
     |wz _=>exact go .wz ⟨_,by simp[St.r,fm,base,G,Ù,Ì,Frame.at];rfl⟩
     |wB _=>exact go .wB ⟨_,by simp[St.r,fm,base,G,Ù,Ì,Frame.at];rfl⟩
     |nI Wg=>exact(bad ⟨_,_,_,by simp[St.r,fm,base,G,Ù,Ì,Frame.at];exact⟨U,U,U⟩⟩).elim
     |wC id=>
      cases he:cF id k with
      |none=>exact(bad ⟨_,_,_,by simp[St.r,fm,base,G,Ù,Ì,Frame.at,he];exact⟨U,U,U⟩⟩).elim
      |some k'=>exact go (.wC he) ⟨_,by simp[St.r,fm,base,G,Ù,Ì,Frame.at,he];rfl⟩
     |wD l=>
      cases he:cG l k with
      |none=>exact(bad ⟨_,_,_,by simp[St.r,fm,base,G,Ù,Ì,Frame.at,he];exact⟨U,U,U⟩⟩).elim
      |some k'=>exact go (.wD he) ⟨_,by simp[St.r,fm,base,G,Ù,Ì,Frame.at,he];rfl⟩
     |@tg c x y _ _ _=>
      by_cases hb:∃b,å ⟨t,[]⟩ c=Ľ b
      .let⟨b,hb⟩:=hb;exact go (.tg hb) ⟨_,cH hb⟩
      .refine(bad ⟨.stuck "cond: bool expected" ((fm f t<|Đ (bz c x y)::k).pos P),u,#[],?_⟩).elim;have U7:(fm f t<|Đ (bz c x y)::k).eval c=å ⟨t,[]⟩ c:=Frame.eval_at _ _ _ _;have hx:Ù P É (G (fm f t<|Đ (bz c x y)::k)<|fx L) u=(match(fm f t<|Đ (bz c x y)::k).eval c with
        |Ľ b=>aS (G (fm f t<|Đ (if b then x else y)::k)<|fx L) u
        |_=>eV (.stuck "cond: bool expected" ((fm f t (Đ (bz c x y)::k)).pos P)) u):=by
        simp only[G,Ù,Ì,fm,Frame.at];rfl
       refine hx.trans ?_;rw[U7];generalize å ⟨t,[]⟩ c=v at hb;cases v<;>first|exact absurd ⟨_,U⟩ hb|rfl
     |tj id draw _=>
      cases draw with
      |false=>exact go .tj ⟨_,by simp[St.r,fm,base,G,Ù,Ì,Frame.at];rfl⟩
      |true=>exact go .Ar ⟨_,Ż⟩
    |wF is hO=>
     rename_i ops;cases is with
     |nil=>exact go .FF ⟨_,by simp[St.r,fm,base,G,Ù,Ì,Frame.at];rfl⟩
     |cons i rest=>
      cases ho:ops[i]? with
      |none=>exact go (.CW ho) ⟨_,by simp[St.r,fm,base,G,Ù,Ì,Frame.at,ho,aT];rfl⟩
      |some o=>
       cases hw:Ħ o (ł ops t)with
       |false=>
        have:=υ (P:=P) (main:=É) (b:=base f) (a:=⟨t,[]⟩) (k:=k) (cs:=fx L) (w:=u) (rest:=rest) ho hw;rw[sf]at this;exact go (.CV ho hw) ⟨_,this⟩
       |true=>
        have oo:=hO o<|Û ho;have va:=stepG_oper (P:=P) (main:=É) (b:=base f) (a:=⟨t,[]⟩) (k:=k) (cs:=fx L) (w:=u) (rest:=rest) ho hw;cases hr:(ì (å ⟨t,[]⟩) o).runT P u #[]with
        |mk r es=>
         have oO:(ì (å ⟨t,[]⟩) o).run P u=r:=by rw[<-Ρ P _ u #[],hr]
         cases r with
         |halt z w=>
          have hz:=((oo.r ⟨t,[]⟩).1 u hu).2 z w oO;cases z with
          |panic v=>
           have hs:dS P (LM ⟨f,t,á ops (i::rest)::k,Ã,L⟩ u)=ň (aU ((fm f t<|á ops (i::rest)::k).raise [{v,recovered:=Ã}]) (fx L) w):= CY (es:=seen P f es) (va.trans<|by simp[bC,hr,G,Frame.at,fm,base,Ź,Ŗ,-ź]);exact absurd (h.r hs) (aeK _ L f t _ w n ⟨fn,hfn⟩ λx hx=>let⟨fn',_,h1,_⟩:=hF x.1 (ls x hx).1;⟨fn',h1⟩)
          |stuck s=>exact(bad ⟨_,_,_,va.trans<|by simp[bC,hr,Frame.at,base,Ź,-ź];exact⟨U,U,U⟩⟩).elim
          |unsupported un=>
           cases un<;>first|(cases hz;done)|exact(bad ⟨_,_,_,va.trans<|by simp[bC,hr,Frame.at,base,Ź,-ź];exact⟨U,U,U⟩⟩).elim
          |_=>cases hz
         |ok nx u'=>
          rcases oo.I ⟨t,[]⟩ u nx u' oO with⟨v,rfl⟩|rfl|⟨g,args,rfl⟩
          .have:=bA (main:=É) (b:=base f) (k:=k) (cs:=fx L) (rest:=rest) ho hw (by simp[base]) oO;rw[sf]at this;exact go (.nH ho hw oO) ⟨_,this⟩
          .have:=cJ (main:=É) (b:=base f) (k:=k) (cs:=fx L) (rest:=rest) ho hw (by simp[base]) oO;rw[sf]at this;exact go (.As ho hw oO) ⟨_,this⟩
          .let⟨fn',c',h1,h2⟩:=hF g<|oo.C ⟨t,[]⟩ u g args u' oO;have:=bB (main:=É) (b:=base f) (k:=k) (cs:=fx L) (rest:=rest) ho hw (by simp[base]) oO;rw[cK _ h1 h2]at this;exact go (.sd ho hw oO h1 h2) ⟨_,this⟩
end
def j4(u:Æ):Prop:=∀(i:Nat) (o:Obj),u.heap[i]?=À o->¬yj o
def j4.qi(h:j4 u):qi u:=λi _ _ a=>h i _ a trivial
def wI(a:Â->Æ->Prop):Prop:=∀v u T D,a v u->a v ((World.tp u T D))
section
variable{GL:Nat->Prop}{e9:à->Prop}{kS:Â->Æ->Prop}
def LS.NK{s s':St}(h:LS P s u s' W)(cs:List Ę):∃j,Ù P É (s.r cs) u=aS (s'.r cs) W j:=by
 cases h with
 |@tg f t k L _ c x y b hc=>exact⟨_,cH hc⟩
 |wC e=>exact⟨_,by simp[St.r,fm,base,G,Ù,Ì,Frame.at,e];rfl⟩
 |wD e=>exact⟨_,by simp[St.r,fm,base,G,Ù,Ì,Frame.at,e];rfl⟩
 |@Ar f t k L _ id ops=>exact⟨_,Ż⟩
 |@CW f t k L _ ops i rest ho=>exact⟨_,by simp[St.r,fm,base,G,Ù,Ì,Frame.at,ho,aT];rfl⟩
 |@CV f t k L _ ops i rest o ho hw=>
  have:=υ (P:=P) (main:=É) (b:=base f) (a:=⟨t,[]⟩) (k:=k) (cs:=L.map (λx=>fm x.1 x.2.1 x.2.2)++cs) (w:=u) (rest:=rest) ho hw;rw[sf]at this;exact⟨_,this⟩
 |@nH f t k L _ ops i rest o v _ ho hw hr=>
  have:=bA (main:=É) (b:=base f) (k:=k) (cs:=L.map (λx=>fm x.1 x.2.1 x.2.2)++cs) (rest:=rest) ho hw (by simp[base]) hr;rw[sf]at this;exact⟨_,this⟩
 |@As f t k L _ ops i rest o _ ho hw hr=>
  have:=cJ (main:=É) (b:=base f) (k:=k) (cs:=L.map (λx=>fm x.1 x.2.1 x.2.2)++cs) (rest:=rest) ho hw (by simp[base]) hr;rw[sf]at this;exact⟨_,this⟩
 |@sd f t k L _ ops i rest o g args fn c _ ho hw hr hf hb=>
  have:=bB (main:=É) (b:=base f) (k:=k) (cs:=L.map (λx=>fm x.1 x.2.1 x.2.2)++cs) (rest:=rest) ho hw (by simp[base]) hr;rw[cK _ hf hb]at this;exact⟨_,this⟩
 |@wE f t k L _ g t' ops i rest k' v fn _ hf hr=>
  cases l:(Ī fn t).runT P u #[]with
  |mk r j=>
   have e:r=ĥ v W:=by rw[<-hr,<-Ρ P (Ī fn t) u #[],l]
   subst e;have d:=FG (main:=É) (k:=k) (c:=fm g t'<|á ops (i::rest)::k') (cs:=L.map (λx=>fm x.1 x.2.1 x.2.2)++cs) hf l;have x:=ε (base g) ⟨t',[]⟩ ops i rest k' v;rw[sf]at x;unfold fm at d;rw[x]at d;exact⟨_,d⟩
 |_=>exact⟨_,by simp[St.r,fm,base,G,Ù,Ì,Frame.at];rfl⟩
def LS.vd{s a:St}(h:LS P s u a w):dS P (LM s u)=ň (LM a w):= let⟨_,b⟩:=h.NK [pG];CY b
def LS.NM(j:oS P GL e9){s g:St}(h:LS P s u g w)(ok:Ok P GL e9 s):Ok P GL e9 g:=by
 have i:∀o a u f e w,mJ P GL e9 o->(ì (å a) o).run P u=ĥ (ũ f e) w->e9 f:=by exact λo a u f e w c d=>c.C a u f e w d
 refine⟨h.ok j i ok.r,?_,?_⟩
 .cases h with
  |sd c _ d _ _=>exact i _ _ _ _ _ _ (oT ok.r.gd _<|Û c) d
  |wE=>exact(ok.C _<|î ..).1
  |_=>exact ok.I
 .cases h with
  |sd c _ d _ _=>
   intro x b;rcases œ.1 b with rfl|b
   .exact⟨ok.I,_,_,_,_,U⟩
   .exact ok.C x b
  |wE=>exact λx b=>ok.C x<|ò _ b
  |_=>exact ok.C
def LS.kd{s c:St}{u b:Æ}(h:LS P s u c b)(ok:lq P GL e9 s)(a:qi u):Kd u b:=by
 cases h with
 |nH k _ i=>exact(((oT ok.gd _<|Û k).r _).1 u a).1 _ _ i
 |As k _ i=>exact(((oT ok.gd _<|Û k).r _).1 u a).1 _ _ i
 |sd k _ i _ _=>exact(((oT ok.gd _<|Û k).r _).1 u a).1 _ _ i
 |wE _ i=>exact(NL.1 u a).1 _ _ i
 |Ar=>exact⟨id,λi o h k=>⟨o,h,k⟩⟩
 |_=>exact Kd.fU u
def LS.aeN{s o:St}{u p:Æ}{T:ψ}{D:Nat}(h:LS P s ((World.tp u T D)) o p)(ok:lq P GL e9 s):∃n v,p=(World.tp v T<|D+n)/\∀a b,uV T D a b n->LS P s ((World.tp u a b)) o ((World.tp v a<|b+n)):=by
 cases h with
 |nH c e g=>
  obtain⟨n,v,i⟩:=((oT ok.gd _<|Û c).r ⟨_,[]⟩).2 u T D;obtain⟨j,l⟩:=i _ _ g;exact⟨n,v,j,λa b d=> .nH c e (l a b d)⟩
 |As c e g=>
  obtain⟨n,v,i⟩:=((oT ok.gd _<|Û c).r ⟨_,[]⟩).2 u T D;obtain⟨j,l⟩:=i _ _ g;exact⟨n,v,j,λa b d=> .As c e (l a b d)⟩
 |sd c e g m q=>
  obtain⟨n,v,i⟩:=((oT ok.gd _<|Û c).r ⟨_,[]⟩).2 u T D;obtain⟨j,l⟩:=i _ _ g;exact⟨n,v,j,λa b d=> .sd c e (l a b d) m q⟩
 |wE m g=>
  obtain⟨n,v,i⟩:=(NL).2 u T D;obtain⟨j,l⟩:=i _ _ g;exact⟨n,v,j,λa b d=> .wE m (l a b d)⟩
 |@Ar f t k L _ id ops=>
  refine⟨1,u,U,λa b d=> ?_⟩;have g:=LS.Ar (P:=P) (f:=f) (t:=t) (k:=k) (L:=L) (u:=(World.tp u a b)) (id:=id) (ops:=ops);have i:((World.tp u a b)).tape ((World.tp u a b)).drawn=((World.tp u T D)).tape ((World.tp u T D)).drawn:=d.lJ;rwa[i]at g
 |oP=>exact⟨0,u,U,λ_ _ _=> .oP⟩
 |uX=>exact⟨0,u,U,λ_ _ _=> .uX⟩
 |rZ=>exact⟨0,u,U,λ_ _ _=> .rZ⟩
 |wy=>exact⟨0,u,U,λ_ _ _=> .wy⟩
 |yk=>exact⟨0,u,U,λ_ _ _=> .yk⟩
 |uY=>exact⟨0,u,U,λ_ _ _=> .uY⟩
 |qT=>exact⟨0,u,U,λ_ _ _=> .qT⟩
 |tg h=>exact⟨0,u,U,λ_ _ _=> .tg h⟩
 |qU=>exact⟨0,u,U,λ_ _ _=> .qU⟩
 |wz=>exact⟨0,u,U,λ_ _ _=> .wz⟩
 |wA=>exact⟨0,u,U,λ_ _ _=> .wA⟩
 |wB=>exact⟨0,u,U,λ_ _ _=> .wB⟩
 |wC h=>exact⟨0,u,U,λ_ _ _=> .wC h⟩
 |wD h=>exact⟨0,u,U,λ_ _ _=> .wD h⟩
 |tj=>exact⟨0,u,U,λ_ _ _=> .tj⟩
 |FF=>exact⟨0,u,U,λ_ _ _=> .FF⟩
 |CV c e=>exact⟨0,u,U,λ_ _ _=> .CV c e⟩
 |CW c=>exact⟨0,u,U,λ_ _ _=> .CW c⟩
def mL.gS(c:oS P GL e9)(hF:tq P e9)(g:∀v u,vQ v u->j4 u):∀(n:Nat) {s:St} {u:Æ},Ok P GL e9 s->qi u->mL P vQ n (LM s u)->j4 u:=by
 intro n
 induction n with
 |zero=>
  intro s u a b h;rcases h.I c hF a b with⟨_,_,_,_,v,_,_,d⟩|⟨m,_,_,e,_⟩
  .exact g v u d
  .cases e
 |succ n j=>
  intro s u a b h;rcases h.I c hF a b with⟨e,_⟩|⟨m,w,x,e,d,k⟩
  .cases e
  .cases e;have f:=d.kd a.r b;intro i o l p;let⟨q,r,t⟩:=f.C i o l p;exact j (d.NM c a) (f.r b) k i q r t
def pF.aeO(b:wI kS){s:St}(h:pF P kS s u)(T:ψ)(D:Nat):pF P kS s ((World.tp u T D)):=by
 cases h with
 |jG a S c=>exact .jG a S (b _ _ T D c)
 |ju S a h c d=>exact .ju S a h c d
def Wn(m:wI kS)(o:∀v u,vQ v u->kS v u){s:St}(c:s.C=É)(b:s.L=[])(e:∃g v,P.funcs[s.f]?=À g/\(Ī g s.t).run P ((World.tp u xQ i))=ĥ v ((World.tp u xQ i))/\vQ v ((World.tp u xQ i))):pF P kS s u:=by
 obtain⟨f,t,k,z,L⟩:=s;simp only at c b;subst c b;obtain⟨g,v,p,q,r⟩:=e;refine .jG (v:=v) p (λh d=> ?_) ?_
 .obtain⟨n,w,c⟩:=(NL).2 u xQ i;obtain⟨b,e⟩:=c _ _ q;have x:n=0:=by
   have:((World.tp u xQ i)).drawn=((World.tp w xQ<|i+n)).drawn:=by rw[<-b]
   simp only[World.tp]at this;omega
  subst x;have y:(World.tp w h d)=(World.tp u h d):=by
   have a:((World.tp u xQ i)).heap=((World.tp w xQ<|i+0)).heap:=by rw[<-b]
   have j:((World.tp u xQ i)).os=((World.tp w xQ<|i+0)).os:=by rw[<-b]
   have l:((World.tp u xQ i)).output=((World.tp w xQ<|i+0)).output:=by rw[<-b]
   simp only[World.tp]at a j l|-;rw[a,j,l]
  have:=e h d (λa j=>by omega);rwa[show d+0=d from rfl,y]at this
 .have:=m v _ u.tape u.drawn<|o v _ r;exact this
structure Jh where
 s:St
 u:Æ
 D:Nat
 T:ψ
 n:Nat
structure Ji(P:Õ)(GL:Nat->Prop)(e9:à->Prop)(kS:Â->Æ->Prop)(s0:St)(u0:Æ)(x:Jh):Prop where
 ok:Ok P GL e9 x.s
 aeP:qi x.u
 aeQ:¬pF P kS x.s x.u
 ng:∀T',(∀i,i<x.D->T' i=x.T i)->dy P x.n (LM s0<|(World.tp u0 T' 0))=ň (LM x.s<|(World.tp x.u T' x.D))
def Wo{m:bR}{s:St}{N:Nat}(a:dy P n m=ň (LM s u))(e:mL P vQ N m):∃k,N=n+k/\mL P vQ k (LM s u):=by
 by_cases f:n<=N
 .obtain⟨k,rfl⟩:=Ε f;refine⟨k,U,?_⟩;let⟨g,v,c,b,d⟩:=e;rw[dL,a]at b;exact⟨g,v,c,b,d⟩
 .obtain⟨k,rfl⟩:=Nat.exists_eq_add_of_lt<|Nat.lt_of_not_le f;let⟨g,v,c,b,d,_⟩:=e;rw[show N+k+1=N+(k+1) by omega,dL,b]at a;simp only[dy,step_leave_returned d]at a;cases k with
  |zero=>
   simp only[dy,Stepped.next.injEq]at a;have:=(Wm a).2.1;simp[fx]at this
  |succ k=>
   simp only[dy,(Jg (P:=P) (fr:=pG) (cs:=[]) (w:=c) (es:=#[])<|by simp[G,Ù,Ì,pG];exact⟨U,U⟩)]at a;cases a
theorem NN(f:oS P GL e9)(hF:tq P e9)(t:wI kS)(C:∀v u,vQ v u->j4 u)(E:∀v u,vQ v u->kS v u){j:St}(F:∀T,∃n,mL P vQ n<|LM j<|(World.tp w T 0)){x:Jh}(G:Ji P GL e9 kS j w x): ∃y:Jh,Ji P GL e9 kS j w y/\y.n=x.n+1/\x.D<=y.D/\∀i,i<x.D->y.T i=x.T i:=by
 let⟨s,u,D,T,n⟩:=x;let⟨ok,pend,l,q⟩:=G;simp only at ok pend l q;have H:∃y d,∀a g,LS P s ((World.tp u y d)) a g->CQ u g->¬pF P kS a g:=by
  refine Classical.byContradiction λo=>l ?_;have c:∀y d,∃p:St×World,LS P s ((World.tp u y d)) p.1 p.2/\CQ u p.2/\pF P kS p.1 p.2:=by simp_all
  exact .ju (λy d=>(Classical.choose<|c y d).1) (λy d=>(Classical.choose<|c y d).2) (λy d=>(Classical.choose_spec<|c y d).1) (λy d=>(Classical.choose_spec<|c y d).2.1) λy d=>(Classical.choose_spec<|c y d).2.2
 let⟨y,d,I⟩:=H;let p:ψ:=λi=>if i<D then T i else y (d+(i-D))
 have r:∀i,i<D->p i=T i:=λi h=>if_pos h;have J:=λi=>by show(if D+i<D then T (D+i)else y (d+(D+i-D)))=y (d+i);grind
 let⟨N,K⟩:=F p;let⟨k,_,L⟩:=Wo (q p r) K;have b:qi ((World.tp u p D)):=pend;rcases L.I f hF ok b with⟨_,M,O,S⟩|⟨m,a,g,_,e,V⟩
 .exact absurd (Wn t E M O S) l
 .obtain⟨c,v,rfl,z⟩:=e.aeN ok.r;have W:¬pF P kS a v:=λX=>I a _ (z y d λi _=>(J i).symm) (λi o _ B=>(mL.gS f hF C m (e.NM f ok) ((e.kd ok.r b).r b) V) i o B)<|X.aeO t y<|d+c;refine⟨⟨a,v,D+c,p,n+1⟩,⟨e.NM f ok,(e.kd ok.r b).r b,W,λo B=> ?_⟩,U,fp,r⟩;rw[dL,(q o λi h=>(B i<|by simp only;omega).trans<|r i h)];simp only[dy,(z o D λi h=>B (D+i)<|by simp only;omega).vd]
theorem aeR(b:oS P GL e9)(hF:tq P e9)(c:wI kS){Q:Â->Æ->Prop}(g:∀v u,Q v u->j4 u)(d:∀v u,Q v u->kS v u){a:St}(ok:Ok P GL e9 a)(q:qi w)(f:∀T,∃n,mL P Q n<|LM a<|(World.tp w T 0)):pF P kS a w:=by
 refine Classical.byContradiction λr=> ?_;have s:Ji P GL e9 kS a w ⟨a,w,0,λ_ _=>0,0⟩:=⟨ok,q,r,λI _=>rfl⟩;let F:Nat->{x:Jh//Ji P GL e9 kS a w x}:=λk=>Nat.rec ⟨_,s⟩ (λ_ x=>⟨Classical.choose<|NN b hF c g d f x.2,(Classical.choose_spec<|NN b hF c g d f x.2).1⟩) k
 have l:=λk=>(Classical.choose_spec<|NN b hF c g d f (F k).2).2;have t:∀k,(F k).1.n=k:=by
  intro k
  induction k with
  |zero=>rfl
  |succ k e=>rw[(l k).1,e]
 have J:∀j k,(F j).1.D<=(F<|j+k).1.D/\∀i,i<(F j).1.D->(F<|j+k).1.T i=(F j).1.T i:=by
  intro j k
  induction k with
  |zero=>exact⟨ß _,λ_ _=>rfl⟩
  |succ k e=>
   have:=(l<|j+k).2;exact⟨õ e.1 this.1,λi m=>(this.2 i<|Ô m e.1).trans<|e.2 i m⟩
 have K:∀j k i,i<(F j).1.D->i<(F k).1.D->(F j).1.T i=(F k).1.T i:=by intro j k i e o;rcases Nat.le_total j k with h|h;all_goals grind [Ε]
 let T:ψ:=λi=>open Classical in if h:∃k,i<(F k).1.D then(F<|Classical.choose h).1.T i else λ_=>0
 have y:∀k i,i<(F k).1.D->T i=(F k).1.T i:=by intro k i m;have e:∃k,i<(F k).1.D:=⟨k,m⟩;show(open Classical in if h:∃k,i<(F k).1.D then(F<|Classical.choose h).1.T i else λ_=>0)=_;rw[dif_pos e];grind
 let⟨N,z⟩:=f T;have p:=(F N).2.ng T<|y N;rw[t N]at p;let⟨k,e,o⟩:=Wo p z;have B:k=0:=Z
 subst B;have C:qi ((World.tp (F N).1.u T<|(F N).1.D)):=(F N).2.aeP;rcases o.I b hF (F N).2.ok C with⟨_,E,G,H⟩|⟨m,_,_,e,_⟩
 .exact(F N).2.aeQ<|Wn c d E G H
 .cases e
end
section
variable{m:à->Prop}
def NO(f:à)(b:Func)(c:ak)(a:Array Â):St:=⟨f,a++ĺ (b.ntmps-a.size) ľ,[Đ c],Ã,[]⟩
def Wp(a:Array Â)(b:P.funcs[F]?=À s)(d:s.body=À wX):dM P F a .normal=(NO F s wX a).I:=cK a b d
def aeS(b:oS P X m)(hF:tq P m)(l:wI vQ)(g:m F)(j:P.funcs[F]?=À s)(k:s.body=À wX)(o:j4 u) (p:∀T,Calls P F d ((World.tp u T 0)) fun|.returned v,u'=>vQ v u'/\j4 u'|_,_=>False):pF P vQ (NO F s wX d) u:=by
 refine aeR b hF l (Q:=λv u=>vQ v u/\j4 u) (λv u h=>h.2) (λv u h=>h.1) ⟨⟨λi q=> ?_,λx h=>by cases h⟩,g,λx h=>by cases h⟩ o.qi λT=> ?_
 .rw[ū.1 q];exact .qV (b F g s wX j k)
 .let⟨e,r,t,a,w,_,y⟩:=p T [pG];cases e with
  |returned v=>
   let⟨n,z⟩:=w;refine⟨n,t,v,r,?_,y,a⟩;rw[<-z,Wp d j k];rfl
  |panicked n=>exact a.elim
  |outgrown=>exact a.elim
def aeT(r:nG P)(b:oS P X m)(hF:tq P m)(t:wI vQ)(n:m F)(e:P.funcs[F]?=À s)(h:s.body=À wX)(y:j4 u) (z:∀T,Calls P F d ((World.tp u T 0)) fun|.returned v,u'=>vQ v u'/\j4 u'|_,_=>False) {Y:ft} {a o:Nat->Prop} (B:Y.C=P.globals.size) (C:∀g,X g->Y g g) (p:fR Y d q) (D:qW Y a u w) (E:∀j,a j->j<w.heap.size) (H:∀i j,Y i j->a j->o j) (main:Bool) (k:Ę) (l:List Ę): uZ P main o (FH Y a vQ k l) (fq Y a) (G (dM P F q .normal)<|k::l) w:=by
 have:=(aeS b hF t n e h y z).NK (main:=main) r b (Y:=Y) (FI:=Y) (s':=NO F s wX q) (ft.M _) B C ⟨U,?_,U,U,.oP⟩ ⟨λi I=> ?_,λx J=>by cases J⟩ D E H k l
 .rw[Wp q e h];exact this
 .show fR Y (d++_) (q++_);rw[p.r];exact p.s6<|Wh _
 .rw[ū.1 I];exact .qV (b F n s wX e h)
def yn:Â->Bool
 |Ľ _|Ć _ _|ħ _|Þ ë|bS ë _ _|bT|aW|eu ë|.map ë=>É
 |_=>Ã
def NP:Â->Bool
 |.agg a=>a.all yn
 |ſ a=>a.all yn
 |v=>yn v
def FJ(h:yn v=É):jM v:=by
 cases v with
 |bool b=>exact .ml b
 |int k n=>exact .iG k n
 |string s=>exact .kC s
 |pointer p=>cases p with
  |none=>exact .lG
  |some a=>cases h
 |slice p n c=>cases p with
  |none=>exact .nY n c
  |some a=>cases h
 |nilFunc=>exact .uP
 |nilIface=>exact .uQ
 |chan p=>cases p with
  |none=>exact .uR
  |some a=>cases h
 |map p=>cases p with
  |none=>exact .uS
  |some a=>cases h
 |_=>cases h
def aeU(h:NP v=É):jM v:=by
 cases v with
 |agg b=>exact .ot λi a=>FJ<|(Ń.1 h) i a
 |tuple b=>exact .nD λi a=>FJ<|(Ń.1 h) i a
 |_=>exact FJ h
def wK(X:Nat->Bool):Ö->Bool
 |.tmp _=>É
 |dZ v=>NP v
 |ez g=>X g
 |aO _=>É
theorem Jj{g:Nat->Bool}(h:wK g qQ=É):mo (λj=>g j=É) qQ:=by
 cases qQ with
 |tmp t=>exact .V8 t
 |const v=>exact .V9 (aeU h)
 |global j=>exact .Wa h
 |func f=>exact .Wb f
def NQ(P:Õ)(t:Á):Bool:=match P.underlying t with
 |some .bool=>É
 |some (Β _)=>É
 |some ę=>É
 |_=>Ã
def aeV(h:NQ P t=É):s7 P t:=by
 unfold NQ at h;split at h
 .rename_i e;exact Ç e
 .rename_i k e;exact Î<|Ç ⟨k,e⟩
 .rename_i e;exact Î<|Î e
 .cases h
def Jk:Ö->Bool
 |dZ (Þ ë)=>É
 |_=>Ã
def Wq(h:Jk qQ=É):mX (y.eval qQ):=by
 unfold Jk at h;split at h
 .trivial
 .cases h
def NS(P:Õ)(t:Á)(x y:Ö):Bool:=NQ P t||((match P.underlying t with|some (ð _)=>É|_=>Ã)&&(Jk x||Jk y))
theorem aeW{a:bF}{y:Ö}(h:NS P t qQ y=É):s7 P t\/((∃e,P.underlying t=À (ð e))/\(mX (a.eval qQ)\/mX (a.eval y))):=by
 unfold NS at h;rcases Ŝ.1 h with h|h
 .exact Ç<|aeV h
 .let⟨b,e⟩:=Ü.1 h;refine Î ⟨?_,(Ŝ.1 e).imp Wq Wq⟩;grind
def NT(P:Õ)(s d:Á):Bool:=match P.underlying s,P.underlying d with
 |some (Β _),À (Β _)=>É
 |some ę,À ę=>É
 |_,_=>Ã
theorem aeX(h:NT P e t=É):(∃k a,P.underlying e=À (Β k)/\P.underlying t=À (Β a))\/(P.underlying e=À ę/\P.underlying t=À ę):=by unfold NT at h;grind
def NU(P:Õ)(s:Á)(n:Nat):Bool:=match P.underlying s with
 |some (dj fields)=>match fields[n]? with
  |some f=>match P.info? f.type with
   |some i=>i.size !=0
   |none=>Ã
  |none=>Ã
 |_=>Ã
def aeY(h:NU P e n=É):∀a f i,P.underlying e=À (dj a)->a[n]?=À f->P.info? f.type=À i->i.size≠0:=by intro a f i b c d;simp only[NU,b,c,d]at h;simpa using h
def NV(P:Õ)(m:à->Bool)(f:à):Bool:=m f&&(match P.funcs[f]? with
 |some a=> !(a.name== "runtime.NumGoroutine")&&!a.body.isNone
 |none=>Ã)
theorem Wr{g:à->Bool}(h:NV P g F=É):g F=É/\∃a,P.funcs[F]?=À a/\(a.name== "runtime.NumGoroutine")=Ã/\a.body.isNone=Ã:=by let⟨b,c⟩:=Ü.1 h;grind
def Ws(P:Õ):List Á->Bool
 |[_,t1]=>(match P.underlying t1 with|some (dm _)=>É|some ę=>É|_=>Ã)
 |_=>Ã
def Wt(P:Õ)(m:à->Bool)(b:Callee)(a:List Ö)(c:List Á):Bool:=match b with
 |ĝ .len=>a.length==1
 |ĝ .cap=>a.length==1
 |ĝ .copy=>a.length==2
 |ĝ .append=>a.length==2&&Ws P c
 |cj (aO f)=>NV P m f
 |_=>Ã
def CZ(P:Õ)(m:à->Bool):Op->Bool
 |.move _|.assign _|.pick _ _ _|.alloc _|.box _ _|.build _ _|dF _ _ _|.load _ _|.store _ _ _|eD _|.unOp _ _ _|dW _ _ _|.slice _ _ _ _ _|.field _ _ _|dY _ _ _|.index _ _ _|.extract _ _=>É
 |dV c t x y _=>if c==aA||c==aL then NS P t x y else É
 |aN s d _=>NT P s d
 |dX s _ n=>NU P s n
 |Ω c=>Wt P m c.callee c.args.toList c.argTypes.toList
 |_=>Ã
def Jl{a:Array Ö}(h:(a.toList.length==1)=É):∃x,a=#[x]:=by
 let⟨l⟩:=a;match l,h with
 |[x],_=>exact⟨x,U⟩
def NW{a:Array Ö}(h:(a.toList.length==2)=É):∃x y,a=#[x,y]:=by
 let⟨l⟩:=a;match l,h with
 |[x,y],_=>exact⟨x,y,U⟩
def aeZ{g:à->Bool}{k:Op}(h:CZ P g k=É)(a:bF):j2 P a.eval k:=by
 cases k with
 |binOp o t x y r=>
  refine .CS o t x y r λe=> ?_;have:(o==aA||o==aL)=É:=by rcases e with rfl|rfl<;>rfl
  simp only[CZ,if_pos this]at h;exact aeW h
 |convert s d x=>exact .Nk _ _ _ (aeX h)
 |fieldAddr s x n=>exact .Nn _ _ _ (aeY h)
 |call c=>
  let⟨z,B,j⟩:=c;simp only[CZ]at h;unfold Wt at h;split at h
  .obtain⟨x,rfl⟩:=Jl h;exact .Fu x j
  .obtain⟨x,rfl⟩:=Jl h;exact .Fv x j
  .obtain⟨x,y,rfl⟩:=NW h;exact .Fw x y j
  .let⟨q,f⟩:=Ü.1 h;obtain⟨x,y,rfl⟩:=NW q;let⟨l⟩:=j;match l,f with
   |[t0,t1],f=>
    refine .s6 x y t0 t1 ?_;simp only[Ws]at f;split at f
    .rename_i e m;exact Ç ⟨e,m⟩
    .rename_i m;exact Î m
    .cases f
  .exact .jF _ _ _ U (Wr h).2
  .cases h
 |move x=>exact .Ao x
 |assign x=>exact .Fs x
 |pick c a b=>exact .wq c a b
 |alloc t=>exact .gI t
 |box t x=>exact .Ng t x
 |build t p=>exact .Nh t p
 |buildSlice t n p=>exact .Ni t n p
 |load t a=>exact .gA t a
 |store t a x=>exact .ja t a x
 |nilCheck x=>exact .Ft x
 |unOp o t x=>exact .Nj o t x
 |makeSlice t l c=>exact .Nl t l c
 |slice t x u v w=>exact .kD t x u v w
 |field t x n=>exact .Np t x n
 |indexAddr t x i=>exact .Nq t x i
 |index t x i=>exact .Nr t x i
 |extract x n=>exact .Fe x n
 |_=>simp[CZ]at h
def NY(P:Õ)(X:Nat->Bool)(m:à->Bool)(o:av):Bool:=CZ P m o.op&&o.op.operands.all (wK X)
def ae0{X:Nat->Prop}{m:à->Prop}{o:av}(op:∀a:bF,j2 P a.eval o.op)(opd:∀x∈o.op.operands,mo X x)(calls:∀f args ts,o.op=Ω {callee:=cj<|aO f,args:=args,argTypes:=ts}->m f):mJ P X m o where
 mK hz hb hG ht hW hl x u' hr hc:=(Vb hz hW.C hb (λf=>rfl) (op _) λx hx=>wG hG ht<|opd x hx).gl hW hl hr hc #[];r a:=aeB<|op a;I a u n u' hr:=aeL (op a) hr;C a u f c u' hr:=let⟨as,ts,e⟩:=aeG (op a) hr;calls f as ts e
theorem ae1{g:Nat->Bool}{k:à->Bool}(h:NY P g k o=É):mJ P (λj=>g j=É) (λf=>k f=É) o:=by
 let⟨j,b⟩:=Ü.1 h;refine ae0 (λa=>aeZ j a) (λx a=>Jj ?_) λf a x e=> ?_
 .grind [ŉ]
 .rw[e]at j;exact(Wr<|show NV P k f=É from j).1
end
section
variable{Y:ft}{g:à->Prop}{α:Type}
def C0(m:(Ö->Â)->ē Â)(e:∀b,ì b o=m b>>=λv=>pure<|ï v) (i:∀(Y:ft) (b h:Ö->Â),nG P->Bi Y->Y.C=P.globals.size->(∀x∈o.op.operands,fl Y (b x)<|h x)->kE P fl Y (m b) (m h)) (j:∀b,fE P<|m b) (k:∀x∈o.op.operands,mo X x):mJ P X g o where
 mK hz hb hG ht hW hl x u' hr hc:=by rw[e]at hr|-;exact(U6<|i _ _ _ hz hW.C hb λx d=>wG hG ht<|k x d).gl hW hl hr hc #[]
 r a:=by rw[e];exact lL<|j _
 I a u n u' hr:=by
  rw[e,Ä]at hr;cases d:(m a.eval).run P u with
  |ok v w=>rw[d]at hr;cases hr;exact Ç ⟨v,U⟩
  |halt z w=>rw[d]at hr;cases hr
 C a u f c u' hr:=by
  rw[e,Ä]at hr;cases d:(m a.eval).run P u with
  |ok v w=>rw[d]at hr;cases hr
  |halt z w=>rw[d]at hr;cases hr
theorem ae2(a:o.op=cL t qQ)(b:∀y∈o.op.operands,mo X y):mJ P X g o:=by
 refine C0 (λd=>ŝ t<|d qQ) (λd=> ?_) (λY d c _ _ _ h=> .gq ?_) (λd=> ?_) b
 .unfold ì;rw[a]
 .unfold ŝ;apply fF (iZ t);rintro e d _ c ⟨rfl,_⟩;split
  .exact .fP
  .exact .fD (.yd t ((h qQ<|by rw[a];simp[Ê]).fO c))
 .unfold ŝ;grind [gE,jb,qS,gp]
theorem ae3(c:Sys):ov P (sys c):=by
 intro u hu;refine⟨λx u' e=> ?_,λz u' e=>by cases e⟩;have:u'.heap=u.heap:=by
  simp only[sys,ã]at e;cases e;unfold World.sys;have ask:∀{γ:Type} (b:Ask γ) (w:Æ),(w.ask b).2.heap=w.heap:=by
   intro γ b
   induction b with
   |done a=>intro w;rfl
   |ask what range k ih=>
    intro w;simp only[World.ask];split
    .exact ih 0 w
    .exact ih _ _
  grind
 exact⟨λh i c e he=>h i c e (by rwa[<-this]),λi o he ho=>⟨o,by rwa[this],ho⟩⟩
theorem Wu(x:Â):∀u y a,(ż x).run P u≠ĥ y a:=by
 unfold ż;cases x<;>simp only[]<;>first|exact Nf|skip
 grind [Fo,UU,qP]
def ae4(x:Â):fE P (ż x):=by
 refine⟨?_,Nt<|Wu x⟩;unfold ż;cases x<;>simp only[]<;>first|exact FA U|skip
 refine IY ?_ λa=> ?_
 .unfold Instr.panicnil;refine IY (ae3 _) λr=> ?_;cases r<;>first|exact FA U|skip
  exact IY Ve λ_=>Vd _
 .split
  .exact FA U
  .exact(wv _).1
def ae5(b:o.op=.panic qQ)(c:∀y∈o.op.operands,mo X y):mJ P X g o:=by refine C0 (λa=>ż<|a qQ) (λa=> ?_) (λY a d _ _ _ h=> .gq (.ou (Wu _))) (λa=>ae4 _) c;unfold ì;rw[b]
def ae6(c:fl Y x v)(d:fl Y z jQ):fH P fl Y (Ĳ x z) (Ĳ v jQ):=by
 cases c<;>cases d<;>first|exact .fP|exact .fD (.iG _ _)|skip
 refine fF (V:=fl) (.fD (.ml _)) λf a g _ e=> ?_;apply fF (US e);rintro h b _ _ rfl;exact .fD (.kC _)
def ae7(x y:Â):fE P (Ĳ x y):=by unfold Ĳ;repeat' (first|(with_reducible first|exact gE _|exact jb _|exact se _|exact I5 _|exact NJ _ _ _|refine gp ?_ (λ_=> ?_)|refine mY _ ?_)|split|rfl)
def ae8:∀{l b:List Â} {Y:ft} {x c:Â},fl Y x c->fR Y l.toArray b.toArray->fH P fl Y (l.foldlM Ĳ x) (b.foldlM Ĳ c):=by
 intro l
 induction l with
 |nil=>
  intro b Y x c d a;have:b=[]:=by have:=a.r;simp at this;exact Ā this.symm
  subst this;rw[ζ,ζ];exact .fD d
 |cons v l e=>
  intro b Y x c d a;match b,a with
  |[],a=>have:=a.r;simp at this
  |v'::b,a=>
   rw[Ζ,Ζ];refine fF (ae6 d (by have:=a.C 0 fp fp;simpa using this)) ?_;intro k y m f g;refine e g ⟨by have:=a.r;simpa using this,λj h i=> ?_⟩;have:=a.C (j+1) (by simp at h|-;omega) (by simp at i|-;omega);exact(by simpa using this:fl Y _ _).fO f
theorem Wv:∀(l:List Â) (x:Â),fE P<|l.foldlM Ĳ x
 |[],x=>by rw[ζ];exact gE _
 |v::l,x=>by rw[Ζ];exact gp (ae7 _ _) λy=>Wv l y
def ae9(a:Array Á)(t:Á)(h:fR Y d q):fH P fl Y (ń a t d) (ń a t q):=by
 let⟨l⟩:=d;let⟨b⟩:=q;unfold ń;match l,b,h with
 |[],_,_=>exact .fP
 |v::l,[],h=>have:=h.r;simp at this
 |v::l,v'::b,h=>
  refine ae8 (by have:=h.C 0 fp fp;simpa using this) ⟨by have:=h.r;simpa using this,λj e f=> ?_⟩;have:=h.C (j+1) (by simp at e|-;omega) (by simp at f|-;omega);exact(by simpa using this:fl Y _ _)
theorem afa(a:Array Á)(t:Á)(c:Array Â):fE P (ń a t c):=by let⟨l⟩:=c;unfold ń;grind [jb,Wv]
def afb{b:Array Ö}{c:Array Á}(d:o.op=Ω {callee:=ĝ .min,args:=b,argTypes:=c})(e:∀y∈o.op.operands,mo X y):mJ P X g o:=by refine C0 (λa=>ń c o.type<|b.map a) (λa=> ?_) (λY a i _ _ _ h=> .gq (ae9 _ _<|U9 b λz f=>h z<|by rw[d];simp[Ê,ô,f])) (λa=>afa _ _ _) e;unfold ì;rw[d];simp only[ù,č,Ē,pure_bind]
def afc{β:Type}{f g:Â->β->ē (ForInStep β)}(k:∀a v e b,Y.r a->fl a v e->fH P jm a (f v b) (g e b)):∀{l d:List Â} {a:ft} (b:β),Y.r a->fR a l.toArray d.toArray->fH P jm a (forIn l b f) (forIn d b g):=by
 intro l
 induction l with
 |nil=>
  intro d a b _ c;have:d=[]:=by have:=c.r;simp at this;exact Ā this.symm
  subst this;rw[φ,φ];exact .fD U
 |cons v l m=>
  intro d a b h c;match d,c with
  |[],c=>have:=c.r;simp at this
  |e::d,c=>
   rw[η,η];refine fF (k a v e b h (by have:=c.C 0 fp fp;simpa using this)) ?_;rintro p r _ i rfl;cases r with
   |done b=>exact .fD U
   |yield b=>
    apply m b (ft.I h i);refine⟨by have:=c.r;simpa using this,λj n o=> ?_⟩;have:=c.C (j+1) (by simp at n|-;omega) (by simp at o|-;omega);exact(by simpa using this:fl a _ _).fO i
theorem Ww{β:Type}{f:Â->β->ē (ForInStep β)}(a:∀v b,fE P<|f v b):∀(l:List Â) (b:β),fE P<|forIn l b f
 |[],b=>by rw[φ];exact gE _
 |v::l,b=>by
  rw[η];refine gp (a v b) λr=> ?_;cases r with
  |done b=>exact gE _
  |yield b=>exact Ww a l b
def afd(d:fl Y x v):fH P fl Y (ü x) (ü v):=by
 cases d<;>first|exact .fP|exact .fD (.kC _)|skip
 rename_i h n c;unfold ü;apply fF (M9 h n);intro e j l m f;simp only[<-aE];refine fF (afc (Y:=e) ?_ _ (ft.M _) f) ?_
 .intro g a o b _ i;cases i<;>first|exact .fP|skip
  rename_i k n;cases k<;>first|exact .fP|exact .fD U
 .rintro g s _ _ rfl;exact .fD (.kC _)
theorem afe(x:Â):fE P (ü x):=by
 unfold ü;split
 .exact gE _
 .refine gp (Nz _ _) λa=> ?_;simp only[<-aE];grind [gp,Ww,gE,jb]
 .exact jb _
theorem aff(i:o.op=aN t T qQ)(k:P.underlying t=À (dm e))(l:P.underlying T=À ę)(m:P.underlying e=À (Β .u8))(n:∀y∈o.op.operands,mo X y):mJ P X g o:=by
 refine C0 (λa=>Œ t T<|a qQ) (λa=> ?_) (λY a f _ _ _ h=> .gq ?_) (λa=> ?_) n
 .unfold ì;rw[i]
 .unfold Œ;refine fF (iZ t) ?_;rintro z B _ p ⟨rfl,b⟩;rw[k]at b;injection b with b;subst b;refine fF (iZ T) ?_;rintro q C _ r ⟨rfl,c⟩;rw[l]at c;injection c with c;subst c;have j:=((h qQ<|by rw[i];simp[Ê]).fO p).fO r;have u:fH P fl q (ø e>>=λy=>match y with|Β .u8=>ü (a qQ)|Β .i32=>aF (a qQ)|_=>stuck "Convert: a slice of what to string?") (ø e>>=λy=>match y with|Β .u8=>ü (f qQ)|Β .i32=>aF (f qQ)|_=>stuck "Convert: a slice of what to string?"):=by
   apply fF (iZ e);rintro D E _ w ⟨rfl,h⟩;rw[m]at h;injection h with h;subst h;exact afd<|j.fO w
  generalize a qQ=v at*;generalize f qQ=v' at*;cases j<;>first|exact u|exact .fP|exact .fD (.kC _)|skip
 .unfold Œ;grind [wx,afe,V4,gE]
end
section
variable{Y:ft}{b:à->Prop}{α:Type}
def Wx(i:∀(Y:ft) (a g:bF),nG P->Bi Y->Y.C=P.globals.size->(∀x∈o.op.operands,fl Y (a.eval x)<|g.eval x)->kE P oQ Y (ì a.eval o) (ì g.eval o)) (j:∀a:bF,fE P<|ì a.eval o) (h:∀(a:bF) (u:Æ) (n:Ο) (d:Æ),(ì a.eval o).run P u=ĥ n d->∃v,n=ï v) (k:∀x∈o.op.operands,mo X x):mJ P X b o where
 mK hz hb hG ht hW hl x d hr hc:=(i _ ⟨_,[]⟩ ⟨_,[]⟩ hz hW.C hb λx e=>wG hG ht<|k x e).gl hW hl hr hc #[];r a:=j a;I a u n d hr:=Ç<|h a u n d hr;C a u f c d hr:=by let⟨v,e⟩:=h a u _ d hr;cases e
def afg{e:Array Â->ē Â}{k:Array Á}(g:o.op=Ω {callee:=cj<|aO F,args:=#[qQ],argTypes:=k})(l:P.funcs[F]?=À s)(m:(s.name== "runtime.NumGoroutine")=Ã)(q:s.body.isNone=É)(r:Extern.findNext s=ë)(t:Extern.find s=À e) (B:∀(Y:ft) (v i:Â),fl Y v i->fH P fl Y (e #[v]) (e #[i])) (C:∀v,fE P<|e #[v]) (D:∀y∈o.op.operands,mo X y):mJ P X b o:=by
 have c:∀a:bF,ì a.eval o=ĵ F #[a.eval qQ]:=by intro a;unfold ì;rw[g];simp only[ù,å,İ,č,pure_bind,Ď,ď,Ø,â,ä]
 have j:∀(v:Â) (u:Æ),(ĵ F #[v]).run P u=(mark (.extern F)>>=λ_=>e #[v]>>=λy=>pure (ï y):ē Ο).run P u:=by intro v u;unfold ĵ;simp_all
 refine Wx (λY a w _ _ _ h=> ?_) (λa=> ?_) (λa u n E d=> ?_) D
 .rw[c,c];unfold ĵ;refine .gq (fF qM ?_);rintro I p J w ⟨z,G⟩;rw[z,G];simp only[l,m,q,r,t,Å,if_false,if_true];apply fF (V:=jm) (.CK (Î ⟨F,U⟩) (.fD U));exact λK _ _ H _=>mI<|B _ _ _<|((h qQ<|by rw[g];simp[Ê,ô]).fO w).fO H
 .rw[c];exact I1 (j _)<|gp (FB _) λ_=>lL<|C _
 .rw[c,j,Ä]at d;simp only[mark,ã,È]at d;have:ã P (e #[a.eval qQ]>>=λy=>pure (ï y):ē Ο) u=ĥ n E:=d;rw[Ä]at this;cases h:(e #[a.eval qQ]).run P u with
  |ok v w=>rw[h]at this;cases this;exact⟨v,U⟩
  |halt z w=>rw[h]at this;cases this
def afh(x a:Â)(h:fl Y x a):fH P fl Y (Ŀ #[x]) (Ŀ #[a]):=.fD h
def afi(x:Â):fE P (Ŀ #[x]):=gE _
def Wy:∀(n t:Nat) {c a:Array Â},fR Y c a->fR Y (ņ n t c) (ņ n t a)
 |0,_,_,_,h=>h
 |n+1,t,_,_,h=>Wy n (t/256)<|h.UI<|.iG _ _
def afj(b:Array Á)(t:Á)(v c:Â)(h:fl Y v c):fH P fl Y (Ċ b #[t] #[v]) (Ċ b #[t] #[c]):=by
 cases h<;>first|exact .fP|skip
 rename_i k n;cases k<;>first|exact .fP|skip
 refine fF (iZ t) ?_;rintro j d _ l ⟨rfl,_⟩;cases d<;>first|exact .fP|skip
 rename_i e _;simp only[];split
 .exact .ou (wi<|qP _)
 .apply rY (.Aj λn=> .fD U);intro m f _;apply rY (Nd _);intro o _ _;apply rY (.Aj λn=> .fD U);intro p g _;apply fF (Am e<|Wy f g<|fR.N _);exact λq a r _ i=> .fD (.kD i _ _)
def afk(a:Array Á)(t:Á)(v:Â):fE P (Ċ a #[t] #[v]):=by
 cases v<;>first|exact jb _|skip
 rename_i k n;cases k<;>first|exact jb _|skip
 refine gp (qS t) λd=> ?_;cases d<;>first|exact jb _|skip
 repeat' (first|(with_reducible first|exact gE _|exact jb _|exact se _|exact FD _ _|exact qS _|exact wv _|exact NA _|refine gp ?_ λ_=> ?_)|split)
def afl(f:Array Á)(t:Á)(j:fl Y x v):kE P fl Y (ė f t #[x]) (ė f t #[v]):=by
 cases j<;>first|exact .gq .fP|exact .gq (.fD .lG)|skip
 rename_i a g h n c;change kE P fl Y (ite _ _ _) (ite _ _ _);by_cases i:c≠0
 .simp only[if_pos i];exact .gq (.fD (.jL h))
 .simp only[if_neg i];apply kR (IU h.1);rintro l b m o ⟨rfl,rfl⟩;simp only[Option.isSome_none,Å,if_false];refine kR (V0:=λ_ a g=>a=g) ?_ ?_
  .unfold Ū;refine fF (iZ t) ?_;rintro k d _ p ⟨rfl,_⟩;cases d<;>first|exact .fP|exact .fD U
  .rintro k e _ _ rfl;exact .CO trivial
def afm(b:Array Á)(t:Á)(x:Â):fE P (ė b t #[x]):=by
 cases x<;>first|exact jb _|skip
 rename_i p n c;cases p with
 |none=>exact gE _
 |some a=>
  change fE P (ite _ _ _);repeat' (first|(with_reducible first|exact gE _|exact jb _|exact I2 _|exact I6 _|refine gp ?_ (λ_=> ?_)|refine IZ _ ?_)|split|(intro _ _ h;cases h;done))
def afn{c:Array Á}(d:o.op=Ω {callee:=ĝ bl,args:=#[qQ],argTypes:=c})(e:∀y∈o.op.operands,mo X y):mJ P X b o:=by refine C0 (λa=>ė c o.type #[a qQ]) (λa=> ?_) (λY a f _ _ _ h=>afl _ _<|h qQ<|by rw[d];simp[Ê,ô]) (λa=>afm _ _ _) e;unfold ì;rw[d];simp only[ù,č,Ē,pure_bind,Ø,â,ä]
end
section
variable{Y:ft}{f:Nat->Prop}{g:à->Prop}{α:Type}
def Wz(h:gZ Y a p):fH P gZ Y (Ž a) (Ž p):=by unfold Ž;apply fF (IU h.1);rintro c x d b ⟨rfl,rfl⟩;exact .fD (h.r b)
def afo{r:Nat}(h:Y r i):fH P (λ_ c q=>∃n a,c=À n/\q=À a/\n<=a) Y (dz r) (dz i):=.uT h λ_ n a c=> .fD ⟨n,a,U,U,c.elim (λq=>by omega) λq=>q.1⟩
def WA(h:gZ Y a p)(t:Á)(n:Nat):fH P (λ_ b e=>b=É->e=É) Y (Ą a t n) (Ą p t n):=by unfold Ą;apply fF qM;rintro i b j c ⟨d,f⟩;rw[d,f];refine .uT (c.1 _ _ h.1) λe m k g=> ?_;rw[h.2.1];exact .fD λq=>U1 (ο<|g.elim (λq=>by omega) λq=>q.1) q
def afp(a:Ú):fE P (Ž a):=by unfold Ž;repeat' (first|(with_reducible first|exact gE _|exact qj|exact s8 _|exact I6 _|refine gp ?_ (λ_=> ?_)|refine mY _ ?_)|split|rfl)
theorem afq(r:Nat):fE P (dz r):=by unfold dz;grind [gE,s8,Vk,gp]
theorem WB(a:Ú)(t:Á)(n:Nat):fE P (Ą a t n):=by unfold Ą;grind [gE,qj,s8,gp]
theorem afr(l:P.underlying e=À (ð t))(m:P.underlying T=À đ)(o:fl Y x v):kE P fl Y (ö e T x) (ö e T v):=by
 unfold ö;refine kR (iZ e) ?_;rintro z B _ p ⟨rfl,f⟩;rw[l]at f;injection f with f;subst f;refine kR (iZ T) ?_;rintro C D _ q ⟨rfl,g⟩;rw[m]at g;injection g with g;subst g;have r:=(o.fO p).fO q;cases r<;>first|exact .gq .fP|exact .gq (.fD .lG)|skip
 rename_i a E h;refine kR (Wz h) ?_;intro F b j G i;refine kR (afo i.1) ?_;rintro H c I u ⟨w,J,rfl,rfl,K⟩;refine kR (mW t) ?_;rintro L n _ y ⟨rfl,_⟩;rw[i.2.1,i.2.2];simp only[];by_cases k:(decide (n=0)||(decide (j.off≥w)&&j.spot.isNone))=É
 .rw[if_pos k];exact .CO trivial
 .rw[if_neg k,if_neg]
  .exact .gq (.fD (.jL ((i.r u).r y)))
  .grind
theorem afs{d:Á}(l:P.underlying T=À đ)(o:P.underlying d=À (ð t))(q:fl Y x z):kE P fl Y (ö T d x) (ö T d z):=by
 unfold ö;refine kR (iZ T) ?_;rintro F G _ r ⟨rfl,f⟩;rw[l]at f;injection f with f;subst f;refine kR (iZ d) ?_;rintro H I _ w ⟨rfl,g⟩;rw[o]at g;injection g with g;subst g;have y:=(q.fO r).fO w;cases y<;>first|exact .gq .fP|exact .gq (.fD .lG)|skip
 rename_i a J h;refine kR (Wz h) ?_;intro K b B L i;refine kR (mW t) ?_;rintro M n _ j ⟨rfl,_⟩;refine kR (WA (i.r j) t 1) ?_;rintro C v N D O;have Q:kE P fl C (pure<|Þ<|À b) (pure<|Þ<|À B):=.gq (.fD (.jL ((i.r j).r D)));by_cases E:(decide (n=0)||v)=É
 .grind
 .rw[if_neg E];refine .CP λu x S c=> ?_;rw[Ä]at c;simp only[cw,ã,È]at c;cases k:u.shape? b.block with
  |none=>rw[k]at c;cases c
  |some p=>
   let⟨e,m⟩:=p;rw[k]at c;simp only[Ä,ă,È]at c;split at c
   .cases c
   .cases c;exact⟨u.heap.size,.view b t,ß _,fp,trivial⟩
theorem afu(h:(P.underlying e=À (ð t)/\P.underlying T=À đ)\/(P.underlying e=À đ/\P.underlying T=À (ð t)))(x:Â):fE P (ö e T x):=by
 unfold ö;rcases h with⟨b,c⟩|⟨b,c⟩<;>refine wx b<|wx c ?_;all_goals
  cases x<;>first|exact jb _|skip
  rename_i p;cases p with
  |none=>exact gE _
  |some a=>
   repeat' (first|(with_reducible first|exact afp _|exact afq _|exact WB _ _ _|exact gE _|exact jb _|exact qj|exact s8 _|exact tf _|refine gp ?_ (λ_=> ?_)|refine mY _ ?_|refine IZ _ ?_)|split|(intro _ _ h;cases h;done)|rfl)
theorem WC(b:o.op=aN e T qQ)(h:(P.underlying e=À (ð t)/\P.underlying T=À đ)\/(P.underlying e=À đ/\P.underlying T=À (ð t)))(c:∀y∈o.op.operands,mo X y):mJ P X g o:=by
 refine C0 (λa=>Œ e T<|a qQ) (λa=> ?_) (λY a i _ _ _ f=> ?_) (λa=> ?_) c
 .unfold ì;rw[b]
 .unfold Œ;apply kR (iZ e);rintro j k _ a ⟨rfl,l⟩;apply kR (iZ T);rintro m n _ i ⟨rfl,p⟩;have q:=((f qQ<|by rw[b];simp[Ê]).fO a).fO i;grind [afr,afs]
 .unfold Œ;grind [afu,wx]
theorem afv(a:Ú)(n:Nat):ov P (eX a n):=by
 intro u f;refine⟨λx b e=> ?_,λz b e=>by cases e⟩;cases e;unfold Ė;split
 .exact Kd.fU u
 .refine Vf (λo d=> ?_) λo c e h=> ?_
  .cases o<;>first|exact d.elim|trivial
  .grind
def afw(a:Ú)(n:Nat):fE P (eX a n):=by
 refine⟨afv a n,λu T D=>⟨0,u.freeze a n,λx b e=> ?_⟩⟩;have c:∀T D,(World.tp u T D).freeze a n=World.tp (u.freeze a n) T D:=by intro T D;unfold Ė;split<;>rfl
 simp_all
def WE:∀(n:Nat) {Y:ft} {a c:Ú} (d:ByteArray),gZ Y a c->fH P jm Y (ĕ a d n) (ĕ c d n)
 |0,_,_,_,_,_=> .fD U
 |n+1,Y,a,c,d,h=>by
  unfold ĕ;refine fF (IN h) ?_;intro g v i e f;cases f<;>first|exact .fP|skip
  rename_i k b;cases k<;>first|exact .fP|exact WE n _<|(h.r e).C 1
def WG:∀(n:Nat) (a:Ú) (b:ByteArray),fE P<|ĕ a b n
 |0,_,_=>gE _
 |n+1,a,b=>by
  unfold ĕ;refine gp (FC _ _) λv=> ?_;split
  .exact WG n _ _
  .exact jb _
def jB(pt:Á)(a:Ú)(n:Nat):ē ByteArray:=do
 if<-Ą a (<-Ū pt) n then ĕ a .empty n else unsupported (ť "String: not so many bytes at ptr")
def afx(pt:Á)(h:gZ Y a p)(n:Nat):fH P jm Y (jB pt a n) (jB pt p n):=by
 unfold jB;refine fF (V:=jm) ?_ ?_
 .unfold Ū;refine fF (iZ pt) ?_;rintro f d _ c ⟨rfl,_⟩;cases d<;>first|exact .fP|exact .fD U
 .rintro i e _ d rfl;apply fF (WA (h.r d) e n);rintro f b j c g;cases b with
  |true=>rw[g U];exact WE n _<|(h.r d).r c
  |false=>exact .fP
def afy[Ai P](F:je Y f u w)(h:gZ Y a p){pt:Á}(G:∀u l j,(Ū pt).run P u=ĥ l j->∃k,P.underlying l=À (Β k))(g:(jB pt a<|n+1).run P u=ĥ B W):¬f p.block:=by
 intro H;let⟨c,L,e,M,N,r,O,Q,t,_⟩:=F.r _ _ h.1;let⟨_,_,_,_,o⟩:=t H;unfold jB at g;rw[Ä]at g;cases i:(Ū pt).run P u with
 |halt z x=>rw[i]at g;cases g
 |ok l j=>
  have I:j=u:=by
   unfold Ū at i;rw[Ä]at i;unfold ø at i;rw[Ä,ă]at i;simp only[È]at i;cases D:P.underlying pt with
   |none=>rw[D]at i;cases i
   |some d=>
    rw[D]at i;cases d<;>cases i<;>rfl
  subst I;rw[i]at g;simp only[È]at g;rw[Ä]at g;have y:∃b,(Ą a l<|n+1).run P j=ĥ b j:=by unfold Ą;rw[Ä,ă];simp only[È];rw[Ä];simp only[cw,ã,È];split<;>exact⟨_,U⟩
  rcases o with o|o;rotate_left
  .let⟨k,J⟩:=G _ _ _ i;have K:(Ą a l<|n+1).run P j=ĥ Ã j:=by
    unfold Ą;rw[Ä,ă];simp only[È];rw[Ä];simp only[cw,ã,È];have t:j.shape? a.block=À (e,c.size):=by simp[Θ,r]
    rw[t];simp only[Nat.div_eq_of_lt<|Ai.lt e c.size o,ads J];rfl
   rw[K]at g;cases g
  let⟨b,y⟩:=y;rw[y]at g;simp only[È]at g;split at g
  .unfold ĕ at g;rw[Ä]at g;simp only[aX,ã]at g;cases C:j.cell? a with
   |none=>
    rw[C]at g;simp only[ŋ,r]at g;cases g
   |some v=>
    rw[C]at g;simp only[È]at g;have q:=C;rw[Al r]at q;cases E:a.spot with
    |some x=>rw[E]at q;cases q
    |none=>
     rw[E]at q;have:=o _ _ (by simpa using q);cases v<;>first|(cases g;done)|skip
     rename_i k m;cases k<;>first|(cases g;done)|cases this
  .cases g
end
section
variable{Y:ft}{d:Nat->Prop}{f:à->Prop}{α:Type}
def yo(a:Á)(p:Option Ú)(n:Int):ē Â:=ê #[a] a #[Þ p,Ć Ŋ n]
def yp(pt a t:Á)(p:Option Ú)(k:ú)(n:Int):ê #[pt,a] t #[Þ p,Ć k n]=yo pt p n:=by cases p<;>rfl
section
variable{pt:Á}{p:Option Ú}
def WH(a:h<0):∃c,∃k:PUnit->ē Â,yo pt p h=(runtimePanic c>>=k):=⟨_,_,if_pos a⟩
def WI(a:¬h<0)(b:h>Ŋ.max):∃c,yo pt p h=unsupported (ť c):=⟨_,(if_neg a).trans<|if_pos b⟩
def NZ(a:¬h<0)(b:¬h>Ŋ.max)(c:h=0):yo pt p h=pure (ħ .empty):=by cases p<;>exact(if_neg a).trans<|(if_neg b).trans<|if_pos c
def afz(a:¬h<0)(b:¬h>Ŋ.max)(d:¬h=0):∃c,yo pt ë h=runtimePanic c:=⟨_,(if_neg a).trans<|(if_neg b).trans<|if_neg d⟩
end
def WJ(pt:Á)(a:Ú)(c:¬h<0)(d:¬h>Ŋ.max)(e:¬h=0): yo pt (À a) h=(jB pt a h.toNat>>=λs=>eX a h.toNat>>=λ_=>pure<|ħ s):=by refine((if_neg c).trans<|(if_neg d).trans<|if_neg e).trans ?_;unfold jB;show _=ç (ç _ _) _;rw[ř];congr 1;funext et;show ç _ _=ç (ç _ _) _;rw[ř];congr 1;funext b;cases b<;>rfl
def afA(pt:Á)(p:Option Ú)(n:Int):fE P (yo pt p n):=by cases p<;>show fE P (if n<0 then _ else _)<;>repeat' (first|(with_reducible first|exact WB _ _ _|exact WG _ _ _|exact afw _ _|exact gE _|exact I2 _|exact wv _|refine gp ?_ (λ_=> ?_)|refine mY _ ?_)|split|rfl)
theorem afB(_hW:je Y d u w):∀(n:Nat) {a i:Ú} {j s:ByteArray},gZ Y a i->a.spot=ë->(ĕ a j n).run P u=ĥ s W->∀c e f,u.heap[a.block]?=À (Č c e f)->a.off<=c.size->a.off+n<=c.size:=by
 intro n
 induction n with
 |zero=>intro a i j s _ _ _ c e f _ r;exact r
 |succ n t=>
  intro a i j s h p b c e f l _;unfold ĕ at b;rw[Ä]at b;simp only[aX,ã]at b;cases o:u.cell? a with
  |none=>
   rw[o]at b;simp only[ŋ,l]at b;cases b
  |some v=>
   rw[o]at b;simp only[È]at b;have q:=o;rw[Al l,p]at q;have y:=(Ë.1<|by simpa using q).1;cases v<;>first|(cases b;done)|skip
   rename_i k m;cases k<;>first|(cases b;done)|skip
   have g:a.add 1={a with off:=a.off+1}:=by unfold Addr.add;grind
   have x:=h.C 1;have:=t x (by rwa[g]) b c e f (by rwa[g]) (by rw[g];simp only;omega);rw[g]at this;simp only at this;omega
end
section
variable{Y:ft}{g:Nat->Prop}{r:à->Prop}{α:Type}
def N0(pt a t:Á)(p:Option Ú)(y:Â):ê #[pt,a] t #[Þ p,y]=(dD y>>=λn=>yo pt p n):=by cases p<;>rfl
def WK:∀(n:Nat) {a:Ú} {f s:ByteArray} {u c:Æ},(ĕ a f n).run P u=ĥ s c->c=u
 |0,_,_,_,_,_,h=>by cases h;rfl
 |n+1,a,f,s,u,c,h=>by
  unfold ĕ at h;rw[Ä]at h;have g:∀v b,(aX a).run P u=ĥ v b->b=u:=by
   intro v b e;simp only[aX,ã]at e;split at e
   .cases e;rfl
   .split at e<;>cases e;rfl
  cases d:(aX a).run P u with
  |halt z w=>rw[d]at h;cases h
  |ok v b=>
   have:=g v b d;subst this;rw[d]at h;simp only[È]at h;cases v<;>first|(cases h;done)|skip
   rename_i k m;cases k<;>first|(cases h;done)|exact WK n h
def afC{pt:Á}(c:(jB pt a n).run P u=ĥ B w):w=u/\(ĕ a .empty n).run P u=ĥ B u:=by
 unfold jB at c;rw[Ä]at c;cases e:(Ū pt).run P u with
 |halt z x=>rw[e]at c;cases c
 |ok z x=>
  have f:x=u:=by
   unfold Ū at e;rw[Ä]at e;unfold ø at e;rw[Ä,ă]at e;simp only[È]at e;cases b:P.underlying pt with
   |none=>rw[b]at e;cases e
   |some d=>
    rw[b]at e;cases d<;>cases e<;>rfl
  subst f;rw[e]at c;simp only[È]at c;rw[Ä]at c;have d:∃b,(Ą a z n).run P x=ĥ b x:=by unfold Ą;rw[Ä,ă];simp only[È];rw[Ä];simp only[cw,ã,È];split<;>exact⟨_,U⟩
  let⟨b,d⟩:=d;rw[d]at c;simp only[È]at c;split at c
  .have:=WK n c;subst this;exact⟨U,c⟩
  .cases c
def Jm(P:Õ)(t:Á):Bool:=match P.underlying t with
 |some (ð e)=>(match P.underlying e with|some (Β _)=>É|_=>Ã)
 |_=>Ã
theorem afD{P:Õ}{pt:Á}(h:Jm P pt=É):∀u b c,(Ū pt).run P u=ĥ b c->∃k,P.underlying b=À (Β k):=by
 intro u b c a;unfold Ū ø at a;rw[Ä,Ä,ă]at a;simp only[È]at a;unfold Jm at h;split at h
 .rename_i e d;rw[d]at a;cases a;grind
 .cases h
def afE[Ai P]{y:Ö}{pt:Á}(W:o.op=Ω {callee:=ĝ cZ,args:=#[qQ,y],argTypes:=#[pt,T]})(hpt:Jm P pt=É)(WL:∀z∈o.op.operands,mo X z):mJ P X r o:=by
 have he:∀M:Ö->Â,ì M o=(ê #[pt,T] o.type #[M qQ,M y]>>=λv=>pure<|ï v):=by intro M;unfold ì;rw[W];simp only[ù,č,Ē,pure_bind,Ø,â,ä]
 have N:∀v w:Â,fE P (ê #[pt,T] o.type #[v,w]):=by
  intro v w;cases v<;>first|exact jb _|skip
  rw[N0];exact gp (FE _) λn=>afA _ _ _
 have hk:∀(a:bF) (u:Æ) (n:Ο) (C:Æ),(ì a.eval o).run P u=ĥ n C->∃v,n=ï v:=by
  intro a u n C b;rw[he,Ä]at b;cases O:(ê #[pt,T] o.type #[a.eval qQ,a.eval y]).run P u with
  |ok v w=>rw[O]at b;cases b;exact⟨v,U⟩
  |halt z w=>rw[O]at b;cases b
 refine⟨?_,λa=>by rw[he];exact lL<|N _ _,λa u n C b=>Ç<|hk a u n C b,λa u f c C b=>by let⟨v,e⟩:=hk a u _ C b;cases e⟩;intro Y g t t' u w hz hb hG ht J hl z C b hc;have hx:=wG hG ht (WL qQ<|by rw[W];simp[Ê,ô]);have Q:=wG hG ht (WL y<|by rw[W];simp[Ê,ô]);rw[he]at b|-;generalize å ⟨t,[]⟩ qQ=v at hx b;generalize å ⟨t',[]⟩ qQ=v' at hx|-;generalize å ⟨t,[]⟩ y=l at Q b;generalize å ⟨t',[]⟩ y=l' at Q|-;have E:fH P fl Y (ê #[pt,T] o.type #[v,l]) (ê #[pt,T] o.type #[v',l'])->∃(K:ft) (x':Ο) (w':Æ) (S:Array ý),Y.r K/\(∀i j,K i j->Y i j\/(u.heap.size<=i/\w.heap.size<=j))/\(ê #[pt,T] o.type #[v',l']>>=λv=>pure (ï v):ē Ο).runT P w #[]=(ĥ x' w',#[]++S)/\oQ K z x'/\je K g C w'/\nF Y g w w'/\(∀e∈S,Ak K g e)/\u.heap.size<=C.heap.size:= λh=>(mI h).gl J hl b #[];cases hx with
 |lG=>
  apply E;rw[N0,N0];apply fF (Nb Q);rintro WM n _ _ rfl;by_cases B:n<0
  .let⟨c,k,q⟩:=WH (pt:=pt) (p:=ë) B;rw[q];exact .ou (wi<|qP _)
  .by_cases d:n>Ŋ.max
   .let⟨c,q⟩:=WI (pt:=pt) (p:=ë) B d;rw[q];exact .fP
   .by_cases D:n=0
    .rw[NZ B d D];exact .fD (.kC _)
    .let⟨c,q⟩:=afz (pt:=pt) B d D;rw[q];apply IT
 |jL F=>
  rename_i a a';cases Q with
  |iG k n=>
   by_cases B:n<0
   .apply E;let⟨c,k,q⟩:=WH (pt:=pt) (p:=À a) B;rw[yp,yp,q];exact .ou (wi<|qP _)
   .by_cases d:n>Ŋ.max
    .apply E;let⟨c,q⟩:=WI (pt:=pt) (p:=À a) B d;rw[yp,yp,q];exact .fP
    .by_cases D:n=0
     .apply E;rw[yp,yp,NZ B d D,NZ B d D];exact .fD (.kC _)
     .rw[yp,WJ pt a B d D]at b;rw[yp,WJ pt a' B d D];obtain⟨m,O⟩:∃m,n.toNat=m+1:=⟨n.toNat-1,Z⟩;rw[O]at b|-;cases L:(jB pt a<|m+1).run P u with
      |halt z w=>
       rw[Ä,Ä,L]at b;cases b
      |ok s u1=>
       obtain⟨rfl,WN⟩:=afC L;rw[Ä,Ä,L]at b;have Av:=b;cases Av;let⟨WM,s',w1,es,k1,k2,k3,k4,k5,G,k7,k8⟩:=(afx pt F<|m+1).gl J hl L #[];have S:=k4;subst S;let⟨c,c',e,fr,wj,V,hw,sj,_⟩:=J.r _ _ F.1;have WO:a.spot=ë/\a.off<c.size:=by
        have H:=WN;unfold ĕ at H;rw[Ä]at H;simp only[aX,ã]at H;cases I:u1.cell? a with
        |none=>
         rw[I]at H;simp only[ŋ,V]at H;cases H
        |some v=>
         rw[Al V]at I;cases ox:a.spot with
         |some qQ=>rw[ox]at I;cases I
         |none=>rw[ox]at I;exact⟨U,(Ë.1<|by simpa using I).1⟩
       have fits:∀c e fr,u1.heap[a.block]?=À (Č c e fr)->a.off+(m+1)<=c.size:=by intro c2 e2 qk d;rw[V]at d;injection d with d;injection d with q1 q2 q3;subst q1;exact afB J (m+1) F WO.1 WN c e fr V<|Nat.le_of_lt WO.2
       refine⟨WM,ï<|ħ s,w1.freeze a'<|m+1,es,k1,k2,?_,.nH (.kC s),k5.acM (F.r k1) (m+1) fits,?_,k7,by rw[IK];exact ß _⟩
       .show é P (ç (ç _ _) _) w #[]=_;rw[Ñ,Ñ,k3];rfl
       .refine⟨by rw[IK];exact G.r,acH.trans G.I,acI.trans G.M,M6.trans G.S,λj hj N=> ?_,λj hs hj=> ?_⟩
        .rw[IL (λe=>N a.block<|by rw[<-e];exact F.1)];exact G.C j hj N
        .rw[IL (λe=>(afy J F (afD hpt) L)<|by rwa[e])];exact G.N j hs hj
  |_=>exact E .fP
 |_=>exact E .fP
end
section
variable{Y:ft}{g:Nat->Prop}{i:à->Prop}{α:Type}
theorem afF(a:Ú):fE P (bm a):=by unfold bm;grind [gE,s8,Nx,gp]
theorem afG(a b:Ú):fE P (cM a b):=by unfold cM;grind [afF,gE,s8,gp]
def afH(a b:Ú):fE P (Ŭ a b):=by unfold Ŭ;repeat' (first|(with_reducible first|exact afG _ _|exact gE _|exact se _|exact Nx _|exact VC _|refine gp ?_ (λ_=> ?_)|refine mY _ ?_)|split|rfl)
def WQ(h:P.underlying t=À (ð e))(x y:Â):fE P (ó t x y):=by unfold ó ā Λ;refine wx h ?_;repeat' (first|(with_reducible first|exact afH _ _|exact gE _|exact jb _|exact se _|exact tf _|refine gp ?_ λ_=> ?_)|contradiction|split)
def afI{a:ġ}(b:a=aA\/a=aL)(h:P.underlying t=À (ð e))(x y:Â):fE P (Ũ a t x y):=by
 have c:=WQ h x y;rcases b with rfl|rfl;all_goals
  unfold Ũ;repeat' (first|(with_reducible first|exact WQ h _ _|exact gE _|exact jb _|exact NC _ _ _ _|exact VX _ _ _ _ _ _|exact VY _ _ _|exact NJ _ _ _|refine gp ?_ λ_=> ?_)|contradiction|split)
def yq(u:Æ)(r:Nat):Prop:=∃c e a,u.heap[r]?=À (Č c e a)/\a.2<=c.size
def Jn(a:Ú)(u:Æ)(b:Array ý):(eP a).runT P u b=(ĥ (u.frozen? a) u,b):=rfl
def Jo{r:Nat}(h:u.heap[r]?=À (Č d e xJ))(a:Array ý):(cw r).runT P u a=(ĥ (À (e,d.size)) u,a):=by simp only[cw,é,Θ,h]
def WR(h:yq u a.block)(b:Array ý):(bm a).runT P u b=(ĥ (u.frozen? a) u,b):=by
 let⟨c,e,f,d,g⟩:=h;unfold bm;show é P (ç _ _) u b=_;rw[Ñ,Jn];cases i:u.frozen? a with
 |true=>rfl
 |false=>
  simp only[Å,if_false];show é P (ç _ _) u b=_;rw[Ñ,Jo d];simp only[];rw[Jn];have:u.frozen? {block:=a.block,off:=c.size}=Ã:=by simp only[Ĉ,d];simp;omega
  rw[this]
def WS(f:u.heap[a.block]?=À (Č d e xJ))(g:xJ.2<=d.size)(b:u.frozen? a=É):d.size≠0:=by simp only[Ĉ,f]at b;simp at b;omega
def afJ(i:yq u a.block)(j:yq u p.block)(k:(u.frozen? a&&u.frozen? p)=Ã)(g:Array ý):(cM a p).runT P u g=(ĥ Ã u,g):=by
 have q:=i;have r:=j;let⟨c,e,w,l,s⟩:=q;let⟨d,f,x,m,t⟩:=r;unfold cM;show é P (ç _ _) u g=_;rw[Ñ,WR i];simp only[];show é P (ç _ _) u g=_;rw[Ñ,WR j];simp only[];show é P (ç (ç _ _) _) u g=_;rw[Ñ,Ñ,Jo l];simp only[];show é P (ç (ç _ _) _) u g=_;rw[Ñ,Ñ,Jo m];simp only[];congr 2;cases o:u.frozen? a with
 |true=>
  rw[o]at k;have h:u.frozen? p=Ã:=by simpa using k
  have:=WS l s o;simp only[h];cases v:c.size with
  |zero=>exact absurd v this
  |succ n=>rfl
 |false=>
  cases h:u.frozen? p with
  |true=>
   have:=WS m t h;cases v:d.size with
   |zero=>exact absurd v this
   |succ n=>rfl
  |false=>rfl
def WT(h:yq u a.block)(b:Array ý):(aY a).runT P u b=(ĥ () u,b):=by let⟨c,e,f,d,g⟩:=h;unfold aY dp;show é P (ç (ç _ _) _) u b=_;rw[Ñ,Ñ,Jo d];rfl
def WU(e:yq u a.block)(f:yq u p.block)(c:Array ý):(Ŭ a p).runT P u c= if(a.block==p.block)=É then(ĥ (a==p) u,c)else if(u.frozen? a&&u.frozen? p)=É then(bV (ŀ .addressObserved) u,c)else(ĥ Ã u,c):=by
 unfold Ŭ;by_cases h:(a.block==p.block)=É
 .simp_all
 .rw[if_neg h,if_neg h];show é P (ç _ _) u c=_;rw[Ñ,Jn];simp only[];show é P (ç _ _) u c=_;rw[Ñ,Jn];simp only[];by_cases d:(u.frozen? a&&u.frozen? p)=É
  .simp_all
  .rw[if_neg d,if_neg d];show é P (ç _ _) u c=_;rw[Ñ,WT e];simp only[];show é P (ç _ _) u c=_;rw[Ñ,WT f];simp only[];show é P (ç _ _) u c=_;rw[Ñ,afJ e f (by simpa using d)];rfl
end
section
variable{Y:ft}{g:Nat->Prop}{j:à->Prop}
def afK{d:dI}(h:P.underlying t=À d)(u:Æ)(a:Array ý):(ø t).runT P u a=(ĥ d u,a):=by unfold ø;simp_all
theorem afL(h:P.info? t=À zJ)(u:Æ)(a:Array ý):(ay t).runT P u a=(ĥ zJ.size u,a):=by
 unfold ay;show é P (ç _ _) u a=_;rw[Ñ];have:(Δ t).runT P u a=(ĥ zJ u,a):=by unfold Δ;simp_all
 rw[this];rfl
theorem WV(h:P.underlying t=À (ð e))(d:P.info? e=À zJ)(f:zJ.size≠0)(a b:Ú)(u:Æ)(c:Array ý):(ó t (Þ<|À a)<|Þ<|À b).runT P u c=(Ŭ a b).runT P u c:=by unfold ó ā Λ;show é P (ç _ _) u c=_;rw[Ñ,afK h];simp only[];show é P (ç _ _) u c=_;grind [Ñ,afL]
def iw(a:ġ)(r:Bool):Bool:=if a=aA then r else !r
def WW{d:ġ}(k:d=aA\/d=aL)(h:P.underlying t=À (ð e))(g:P.info? e=À zJ)(j:zJ.size≠0)(x y:Ö)(a b:Ú)(u:Æ)(c:Array ý): ((ŷ d t x y (Þ<|À a) (Þ<|À b)>>=λ_=>Ũ d t (Þ<|À a)<|Þ<|À b)>>=λv=>pure (ï v):ē Ο).runT P u c= match(Ŭ a b).runT P u c with
 |(ĥ r u',f)=>(ĥ (ï<|Ľ<|iw d r) u',f)
 |(bV z u',f)=>(bV z u',f):=by
 rcases k with rfl|rfl
 .show é P (ç (ç (ó t (Þ<|À a)<|Þ<|À b) λr=>aI<|Ľ r) λv=>aI<|ï v) u c=_;rw[Ñ,Ñ,WV h g j];cases(Ŭ a b).runT P u c with
  |mk r f=>cases r<;>rfl
 .show é P (ç (ç (ó t (Þ<|À a)<|Þ<|À b) λr=>aI<|Ľ !r) λv=>aI<|ï v) u c=_;rw[Ñ,Ñ,WV h g j];cases(Ŭ a b).runT P u c with
  |mk r f=>cases r<;>rfl
theorem afM{m:ġ}{r:Á}{y:Ö}(E:o.op=dV m t qQ y r)(H:m=aA\/m=aL)(h:P.underlying t=À (ð e))(T:P.info? e=À zJ)(V:zJ.size≠0)(I:∀z∈o.op.operands,mo X z):mJ P X j o:=by
 have J:∀B:Ö->Â,ì B o=((ŷ m t qQ y (B qQ) (B y)>>=λ_=>Ũ m t (B qQ)<|B y)>>=λv=>pure<|ï v):=by intro B;unfold ì;rw[E]
 have W:∀(a:bF) (u:Æ) (n:Ο) (s:Æ),(ì a.eval o).run P u=ĥ n s->∃v,n=ï v:=by
  intro a u n s k;rw[J,Ä]at k;cases C:(ŷ m t qQ y (a.eval qQ) (a.eval y)>>=λ_=>Ũ m t (a.eval qQ)<|a.eval y).run P u with
  |ok v w=>rw[C]at k;cases k;exact⟨v,U⟩
  |halt z w=>rw[C]at k;cases k
 refine⟨?_,λa=> ?_,λa u n s k=>Ç<|W a u n s k,λa u f c s k=>by let⟨v,e⟩:=W a u _ s k;cases e⟩
 .intro Y g D WX u w K hb L M p hl z s k hc;have N:=wG L M (I qQ<|by rw[E];simp[Ê]);have O:=wG L M (I y<|by rw[E];simp[Ê]);by_cases Q:mX (å ⟨D,[]⟩ qQ)\/mX (å ⟨D,[]⟩ y)
  .have hOk:j2 P (å ⟨D,[]⟩) o.op:=by
    rw[E];exact .CS m t qQ y r λ_=>Î ⟨⟨e,h⟩,Q⟩
   exact(Vb K p.C hb (λf=>rfl) hOk λz K=>wG L M<|I z K).gl p hl k hc #[]
  .have n1:=λq=>Q<|Ç q;have n2:=λq=>Q<|Î q;rw[J]at k|-;generalize å ⟨D,[]⟩ qQ=v at N k n1;generalize å ⟨WX,[]⟩ qQ=v' at N|-;generalize å ⟨D,[]⟩ y=l at O k n2;generalize å ⟨WX,[]⟩ y=l' at O|-;cases N<;>first|exact absurd trivial n1|skip
   cases O<;>first|exact absurd trivial n2|skip
   rename_i a a' F b b' G;have fit:∀{c S:Ú},gZ Y c S->yq u c.block/\yq w S.block:=by intro c S hcc;let⟨d,d',e2,fr,wj,hu,hw,sj,pH,N4,hfr⟩:=p.r _ _ hcc.1;refine⟨⟨d,e2,fr,hu,hfr⟩,d',e2,wj,hw,?_⟩;refine õ ?_ sj.I;grind
   let⟨fa,fa'⟩:=fit F;let⟨fb,fb'⟩:=fit G;rw[<-Ρ P _ u #[],WW H h T V,WU fa fb]at k;rw[WW H h T V,WU fa' fb'];rw[<-(IV p.C F G),<-(UY p.C F G)];by_cases q:(a.block==b.block)=É
   .rw[if_pos q]at k|-;cases k;exact⟨Y,_,w,#[],ft.M _,λ_ _ q=>Ç q,U,.nH (.ml _),p,nF.fU _ _ _,λ_ C=>absurd C fp,ß _⟩
   .rw[if_neg q]at k|-;by_cases q2:(u.frozen? a&&u.frozen? b)=É
    .grind
    .rw[if_neg q2]at k;have q3:¬(w.frozen? a'&&w.frozen? b')=É:=by
      intro q4;let⟨z1,z2⟩:=Ü.1 q4;exact q2<|Ü.2 ⟨p.G F z1,p.G G z2⟩
     rw[if_neg q3];cases k;exact⟨Y,_,w,#[],ft.M _,λ_ _ q=>Ç q,U,.nH (.ml _),p,nF.fU _ _ _,λ_ C=>absurd C fp,ß _⟩
 .rw[J];exact lL<|gp (V3 m t (λ_=>Î ⟨e,h⟩) qQ y _ _) λ_=>afI H h _ _
end
def N5(P:Õ)(s d:Á):Bool:=match P.underlying s,P.underlying d with
 |some (dm e),À ę=>(match P.underlying e with|some (Β .u8)=>É|_=>Ã)
 |some (ð _),À đ=>É
 |some đ,À (ð _)=>É
 |_,_=>Ã
def N6(P:Õ)(t:Á):Bool:=match P.underlying t with
 |some (ð e)=>(match P.info? e with|some i=>i.size !=0|none=>Ã)
 |_=>Ã
def N7(P:Õ)(b:à->Bool)(c:Callee)(a:List Ö)(d:List Á):Bool:=match c with
 |ĝ .min=>a.length !=0
 |ĝ bl=>a.length==1
 |ĝ cZ=>a.length==2&&(match d with|[t,_]=>Jm P t|_=>Ã)
 |cj (aO f)=>b f&&a.length==1
 |_=>Ã
def N8(P:Õ)(a:à->Bool):Op->Bool
 |cL _ _|.panic _=>É
 |dV c t _ _ _=>(c==aA||c==aL)&&N6 P t
 |aN s d _=>N5 P s d
 |Ω c=>N7 P a c.callee c.args.toList c.argTypes.toList
 |_=>Ã
def C3(P:Õ)(a:Nat->Bool)(b c:à->Bool)(o:av):Bool:=NY P a b o||(N8 P c o.op&&o.op.operands.all (wK a))
def FK(P:Õ)(c:à->Bool):Prop:=∀f,c f=É->∃a e,P.funcs[f]?=À a/\(a.name== "runtime.NumGoroutine")=Ã/\a.body.isNone=É/\Extern.findNext a=ë/\Extern.find a=À e/\
 (∀(Y:ft) (v b:Â),fl Y v b->fH P fl Y (e #[v]) (e #[b]))/\∀v,fE P<|e #[v]
theorem Jp[Ai P]{g:Nat->Bool}{k x:à->Bool}(C:FK P x)(h:C3 P g k x o=É):mJ P (λj=>g j=É) (λf=>k f=É) o:=by
 rcases Ŝ.1 h with h|h
 .exact ae1 h
 .let⟨v,S⟩:=Ü.1 h;have q:∀z∈o.op.operands,mo (λj=>g j=É) z:=by
   grind [ŉ,Jj,Ń]
  cases n:o.op with
  |makeInterface t y=>exact ae2 n q
  |panic y=>exact ae5 n q
  |binOp w t a b r=>
   rw[n]at v;let⟨T,m⟩:=Ü.1 (show((w==aA||w==aL)&&N6 P t)=É from v);have D:w=aA\/w=aL:=by grind
   unfold N6 at m;split at m
   .rename_i e E;split at m
    .rename_i i F;exact afM n D E F (by simpa using m) q
    .cases m
   .cases m
  |convert s d y=>
   rw[n]at v;have m:N5 P s d=É:=v;unfold N5 at m;split at m
   .rename_i e u p;split at m
    .rename_i G;exact aff n u p G q
    .cases m
   .rename_i t u p;exact WC n (Ç ⟨u,p⟩) q
   .rename_i t u p;exact WC n (Î ⟨u,p⟩) q
   .cases m
  |call c=>
   rw[n]at v;let⟨H,I,B⟩:=c;have m:N7 P x H I.toList B.toList=É:=v;unfold N7 at m;split at m
   .exact afb n q
   .obtain⟨y,rfl⟩:=Jl m;exact afn n q
   .let⟨u,p⟩:=Ü.1 m;obtain⟨y,z,rfl⟩:=NW u;let⟨l⟩:=B;match l,p with
    |[t1,t2],p=>exact afE n p q
   .rename_i f;let⟨u,p⟩:=Ü.1 m;obtain⟨y,rfl⟩:=Jl p;let⟨V,e,J,K,L,M,N,O,Q⟩:=C f u;exact afg n J K L M N O Q q
   .cases m
  |_=>rw[n]at v;simp[N8]at v
def nK(P:Õ)(a:Nat->Bool)(b d:à->Bool):ak->Bool
 |.ret|eR|eb _|eT _|eU _=>É
 |.seq x y=>nK P a b d x&&nK P a b d y
 |bz c x y=>wK a c&&nK P a b d x&&nK P a b d y
 |ec _ c|eS c|ef c=>nK P a b d c
 |bQ _ c _=>c.all<|C3 P a b d
 |dw _=>É
 |_=>Ã
def ve[Ai P]{g:Nat->Bool}{k x:à->Bool}(a:FK P x):∀{c:ak},nK P g k x c=É->kF P (λj=>g j=É) (λf=>k f=É) c
 |.ret,_=> .uX
 |eR,_=> .rZ
 |eb l,_=> .wy l
 |eT l,_=> .wC l
 |eU l,_=> .wD l
 |.seq y z,h=>by let⟨f,i⟩:=Ü.1 (show(nK P g k x y&&nK P g k x z)=É from h);exact .qT (ve a f) (ve a i)
 |bz c y z,h=>by let⟨f,i⟩:=Ü.1 (show(wK g c&&nK P g k x y&&nK P g k x z)=É from h);let⟨j,f⟩:=Ü.1 f;exact .tg (Jj j) (ve a f) (ve a i)
 |ec id c,h=> .qU id (ve a<|show nK P g k x c=É from h)
 |eS c,h=> .wz (ve a<|show nK P g k x c=É from h)
 |ef c,h=> .wB (ve a<|show nK P g k x c=É from h)
 |bQ id ops d,h=> .tj id d λo f=>by obtain⟨i,j,rfl⟩:=ŉ.1 f;exact Jp a<|Ń.1 (show ops.all (C3 P g k x)=É from h) i j
 |.rangeFunc _ _ _ _,h=>by simp[nK]at h
 |dw w,_=> .nI w
end Go.Proofs.Y.Lift
namespace Go.Proofs.Y.fv
open Go Go.Conc Go.Proofs.Y.Lift
def qm(t:ğ)(g:Nat)(l:dT):Prop:=∀p a,Ě t p=À a->a.loc=l->bD t g p
def oU(t:ğ)(g:Nat)(l:dT):Prop:=∀p a,Ě t p=À a->a.loc=l->a.write=É->bD t g p
def qm.r{t:ğ}{l:dT}(h:qm t i l):oU t i l:=λp a b c _=>h p a b c
section
variable{t u:ğ}{g:Nat}{l:dT}
theorem mM{a:dO}(h:Ě (t++u) i=À a):(i<t.size/\Ě t i=À a)\/(t.size<=i/\∃x∈u,x.act.touch?=À a/\(t++u)[i]?=À x):=by
 let⟨x,c,d⟩:=dP h;rcases getElem?_append_cases c with⟨b,e⟩|⟨b,f⟩
 .exact Ç ⟨b,by rwa[touchAt_of e]⟩
 .grind
theorem qm.C(h:qm t g l)(j:∀c∈u,∀b,c.act.touch?=À b->b.loc=l->c.g=g):qm (t++u) g l:=by
 intro p a e f;rcases mM e with⟨_,d⟩|⟨_,c,d,k,i⟩
 .exact(h p a d f).app u
 .have:=bn i;grind
theorem oU.r(h:oU t g l)(k:∀c∈u,∀b,c.act.touch?=À b->b.loc=l->b.write=É->c.g=g):oU (t++u) g l:=by
 intro p a e f i;rcases mM e with⟨_,d⟩|⟨_,c,d,m,j⟩
 .exact(h p a d f i).app u
 .have:=bn j;grind
def qm.yf(h:∀p a,Ě t p=À a->a.loc≠l):qm t g l:=λp a b c=>absurd c<|h p a b
theorem N9(h:∀c,¬eG c t)(l:∀d∈u,d.g=g)(m:∀d∈u,∀b,d.act.touch?=À b->(b.write=Ã/\oU t g b.loc)\/qm t g b.loc\/(b.kind=Ŕ/\∀p a,Ě t p=À a->a.loc=b.loc->a.kind=eZ->bD t g p)):∀c,¬eG c (t++u):=by
 intro c;refine noRace_append (h c) l λi a f d n b o r=> ?_;let⟨j,v,e,w⟩:=r;rcases m d n b o with⟨s,k⟩|q|⟨s,k⟩
 .rcases e with e|e
  .exact k i a f j e
  .grind
 .exact q i a f j
 .grind
theorem Aw(f:∀c,¬eG c t)(r:∀d∈u,d.act.touch?=ë):∀c,¬eG c (t++u):=by
 intro c;rintro⟨i,j,g,⟨a,b,h,k,l⟩,m,n⟩;rcases mM k with⟨s,e⟩|⟨_,d,e,v,_⟩
 .rcases mM h with⟨o,p⟩|⟨o,_⟩
  .exact f c ⟨i,j,g,⟨a,b,p,e,l⟩,λq=>m<|ei u q,λq=>n<|ei u q⟩
  .omega
 .grind
end
structure fe where
 O:Nat->Prop
 I:Nat->Prop
 r:Ú->Prop
 N:Ú->Prop
 K:Ú->Prop
 d:Nat
 q:Prop
 w:Æ
def fe.M(l:fe):Nat->Prop:=λj=>l.O j\/l.I j
def fe.C(l:fe):Ú->Prop:=λa=>l.r a\/l.N a
structure fG(l:fe)(w w₁:Æ):Prop where
 r:w.heap.size<=w₁.heap.size
 I:∀j,l.M j->w₁.heap[j]?=w.heap[j]?
 N:∀a,l.C a->w₁.cell? a=w.cell? a
 Y:∀a,l.C a->w₁.frozen? a=w.frozen? a
 S:∀a,l.K a->(w.cell? a).isSome=É->(w₁.cell? a).isSome=É
theorem fG.fU(l:fe)(w:Æ):fG l w w:=⟨ß _,λ_ _=>rfl,λ_ _=>rfl,λ_ _=>rfl,λ_ _ h=>h⟩
def fG.fg{l:fe}{c:Æ}(h:fG l w u)(k:fG l u c):fG l w c:= ⟨õ h.r k.r,λj d=>(k.I j d).trans<|h.I j d,λj d=>(k.N j d).trans<|h.N j d,λj d=>(k.Y j d).trans<|h.Y j d,λw e q=>k.S w e<|h.S w e q⟩
def kN(w:Æ)(b:Nat):Option (Nat×Nat):=match w.heap[b]? with
 |some (Č _ _ fr)=>À fr
 |_=>ë
def wL{w':Æ}(h:w'.heap[b]?=w.heap[b]?):kN w' b=kN w b:=by unfold kN;rw[h]
theorem WY(w:Æ)(a:Ú):w.frozen? a=match kN w a.block with
 |some (lo,hi)=>decide (lo<=a.off)&&decide (a.off<hi)
 |none=>Ã:=by
 unfold Ĉ kN;grind
def Jq(h:kN u a.block=kN w a.block):u.frozen? a=w.frozen? a:=by rw[WY,WY,h]
def yr(l:fe)(e:ý):Prop:=
 (∃a:Ú,e.loc=û a/\(l.O a.block\/l.r a\/((l.I a.block\/l.N a)/\e.write=Ã/\e.sync=Ã)))\/e.loc=ů df\/(∃f,e.loc=ů (.extern f))\/e.loc=ů cN\/e.loc=ů dA\/
 ∃a:Ú,l.O a.block/\(e.loc=ů (.read a)\/e.loc=ů (.write a)\/e.loc=ů (Ķ a)\/e.loc=ů (cO a))
structure mq(l l':fe)(w w':Æ)(es:Array ý):Prop where
 C:w.heap.size<=w'.heap.size
 S:∀j,l'.O j->l.O j\/w.heap.size<=j
 fx:∀j,l'.O j->j<w'.heap.size
 I:l'.I=l.I
 r:l'.r=l.r
 M:l'.N=l.N
 k:l'.K=l.K
 jN:∀j,j<w.heap.size->¬l.O j->(∀a:Ú,a.block=j->¬l.r a)->w'.heap[j]?=w.heap[j]?
 N:∀a:Ú,a.block<w.heap.size->¬l.O a.block->¬l.r a->w'.cell? a=w.cell? a
 Y:∀a:Ú,a.block<w.heap.size->¬l.O a.block->kN w' a.block=kN w a.block
 f:w'.os=w.os
 g:w'.output=w.output
 m:w'.tape=w.tape
 c:∀e∈es,yr l' e
 h:l'.d=ŭ l.d es
 q:l'.q=l.q
 i:l.q->w'=w/\(∀e∈es,e.mute=É)/\l'.O=l.O
 b:l'.w=w'
structure Oa(t:ğ)(g:Nat)(l:fe):Prop where
 fq:∀a:Ú,l.O a.block->qm t g (û a)
 C:∀a:Ú,l.I a.block->oU t g (û a)
 I:∀a:Ú,l.r a->qm t g (û a)
 r:∀a:Ú,l.N a->oU t g (û a)
theorem WZ{l:fe}{e:ý}(h:yr l e){b:dO}(c:(è e).touch?=À b):∃a:Ú,b.loc=û a/\(l.O a.block\/l.r a\/((l.I a.block\/l.N a)/\b.write=Ã)):=by
 let⟨k,i,j⟩:=e;rcases h with⟨a,g,d⟩|h|⟨f,h⟩|h|h|⟨a,g,d⟩
 .simp only at g d;subst g;have:(è ⟨û a,i,j⟩).touch?=À ⟨û a,i,if j then Ŕ else eZ⟩:=U;grind
 .simp only at h;subst h;simp[è,ÿ]at c
 .simp only at h;subst h;simp[è,ÿ]at c
 .simp only at h;subst h;simp[è,ÿ]at c
 .simp only at h;subst h;simp[è,ÿ]at c
 .simp only at d;rcases d with rfl|rfl|rfl|rfl<;>simp[è,ÿ]at c<;>subst c;all_goals grind
def afN{l:fe}(d:∀j,l.O j->j<i)(k:∀j,l.I j->j<i)(g:∀a:Ú,l.C a->a.block<i){e:ý}(h:yr l e):(è e).low i:=by
 let⟨m,n,o⟩:=e;rcases h with⟨a,c,b⟩|h|⟨f,h⟩|h|h|⟨a,c,b⟩
 .simp only at c b;subst c;rcases b with h|h|⟨h|h,_⟩
  .exact d _ h
  .exact g _<|Ç h
  .exact k _ h
  .exact g _<|Î h
 .simp only at h;subst h;trivial
 .simp only at h;subst h;trivial
 .simp only at h;subst h;trivial
 .simp only at h;subst h;trivial
 .simp only at b;rcases b with rfl|rfl|rfl|rfl<;>exact d _ c
def W0(B:Nat)(t:ğ):Prop:=∀a∈t,a.act.low B
def W3(h:W0 i qJ){a:dO}(g:Ě qJ n=À a){x:Ú}(d:a.loc=û x):x.block<i:=by
 let⟨f,j,b⟩:=dP g;have c:=h f<|Û j;revert b c;cases f.act with
 |access e=>
  intro b c;simp only[ÿ,ž]at b;subst b;simp only at d;simp only[MemAct.low,d,Loc.low]at c;exact c
 |mark m=>
  intro b c;cases m<;>simp[ÿ]at b;all_goals
   subst b;simp only[Loc.cell.injEq]at d;subst d;exact c
 |_=>intro b _;simp[ÿ]at b
theorem nZ{a:String}:∀op∈Í i F a V,op.g=i:=λop b=>by obtain⟨e,_,rfl⟩:=í (op:=op) b;rfl
structure iQ(B0:Nat)(Live:Nat->Prop)(Y:Nat->Prop)(lot:Nat->fe)(w:Æ)(t:ğ):Prop where
 o:∀i j,Live i->Live j->i≠j->∀b,(lot i).O b->¬(lot j).M b
 h:∀i j,Live i->Live j->i≠j->∀a,(lot i).r a->¬(lot j).C a
 m:∀i,Live i->∀b,(lot i).O b->¬(lot i).I b
 g:∀i,Live i->∀a,(lot i).r a->¬(lot i).N a
 I:∀i,Live i->∀b,(lot i).M b->¬Y b
 e:∀i,Live i->∀a,(lot i).C a->Y a.block
 fx:∀i,Live i->∀b,(lot i).M b->b<w.heap.size
 N:∀b,Y b->b<w.heap.size
 r:∀i,Live i->fG (lot i) (lot i).w w
 S:∀i,Live i->Oa t i (lot i)
 f:∀i,Live i->Τ t i=(lot i).d
 l:∀said,¬eG said t
 q:W0 w.heap.size t
 s:∀p a c,Ě t p=À a->a.loc=.obj c->a.kind=eZ->c<B0
 n:∀i,Live i->∀a,(lot i).K a->Y a.block/\∀k,Live k->¬(lot k).r a
def gu(lot:Nat->fe)(i:Nat)(l:fe):Nat->fe:=λk=>if k=i then l else lot k
theorem gT(a:Nat->fe)(i:Nat)(l:fe):gu a i l i=l:=if_pos U
theorem gF(a:Nat->fe)(l:fe)(h:k≠i):gu a i l k=a k:=if_neg h
section
variable{B0:Nat}{Live Y:Nat->Prop}{lot:Nat->fe}{w':Æ}{t u:ğ}
def Ob{g:Nat}(a:k≠g)(t:ğ){u:ğ}(b:∀c∈u,c.g=g):Τ (t++u) k=Τ t k:= Deaf_other t (g:=k) (g':=g) (ą a) _ b
def iQ.at(h:iQ B0 Live Y lot w t)(d:Nat):iQ B0 Live Y lot (w.at d) t:= ⟨h.o,h.h,h.m,h.g,h.I,h.e,h.fx,h.N,λi a=>⟨(h.r i a).r,(h.r i a).I,(h.r i a).N,(h.r i a).Y,(h.r i a).S⟩,h.S,h.f,h.l,h.q,h.s,h.n⟩
def iQ.afO(h:iQ B0 Live Y lot w t)(r:Live i){s:fe}(l:mq (lot i) s w w' V)(E:à)(F:String): iQ B0 Live Y (gu lot i s) w' (t++Í i E F V):=by
 have G:=l.S;have Q:∀b,s.M b->(lot i).M b\/w.heap.size<=b:=λb g=>g.elim (λq=>(G b q).imp Ç id) (λq=>Ç<|Î<|by rwa[<-l.I]);have J:∀a,s.C a↔(lot i).C a:=λa=>by unfold fe.C;rw[l.r,l.M]
 have I:=λk f a d=>h.N _<|h.e k f a d;have L:∀k,Live k->k≠i->∀b,(lot k).M b->¬s.O b:=by
  intro k f y b g c;rcases G b c with q|q
  .exact h.o i k r f (ą y) b q g
  .have:=h.fx k f b g;omega
 have H:∀m∈Í i E F V,∀b,m.act.touch?=À b->∃a:Ú,b.loc=û a/\(s.O a.block\/s.r a\/((s.I a.block\/s.N a)/\b.write=Ã)):=by intro m o b g;obtain⟨e,N,rfl⟩:=í o;exact WZ (l.c e N) g
 have T:∀a:Ú,s.O a.block->qm t i (û a):=by
  intro a d;rcases G _ d with q|q
  .exact(h.S i r).fq a q
  .exact .yf λp x P n=>by have:=W3 h.q P n;omega
 have D:Oa t i s:=⟨T,λa d=>(h.S i r).C a (by rwa[<-l.I]),λa d=>(h.S i r).I a (by rwa[<-l.r]),λa d=>(h.S i r).r a<|by rwa[<-l.M]⟩;refine⟨?_,?_,?_,?_,?_,?_,?_,λb g=>Ô (h.N b g) l.C,?_,?_,?_,?_,?_,?_,?_⟩
 .intro k j f u y b g;by_cases c:k=i
  .subst c;rw[gT]at g;rw[gF lot _<|ą y];exact λq=>L j u (ą y) b q g
  .rw[gF lot _ c]at g;by_cases v:j=i
   .subst v;rw[gT];intro q;rcases Q b q with z|z
    .exact h.o k j f u y b g z
    .have:=h.fx k f b<|Ç g;omega
   .rw[gF lot _ v];exact h.o k j f u y b g
 .intro k j f u y a d;by_cases c:k=i
  .subst c;rw[gT,l.r]at d;rw[gF lot _<|ą y];exact h.h k j f u y a d
  .rw[gF lot _ c]at d;by_cases v:j=i
   .subst v;rw[gT,J];exact h.h k j f u y a d
   .rw[gF lot _ v];exact h.h k j f u y a d
 .intro k f b g;by_cases c:k=i
  .subst c;rw[gT]at g|-;rw[l.I];rcases G b g with z|z
   .exact h.m k f b z
   .intro q;have:=h.fx k f b<|Î q;omega
  .rw[gF lot _ c]at g|-;exact h.m k f b g
 .intro k f a d;by_cases c:k=i
  .subst c;rw[gT]at d|-;rw[l.M];rw[l.r]at d;exact h.g k f a d
  .rw[gF lot _ c]at d|-;exact h.g k f a d
 .intro k f b g;by_cases c:k=i
  .subst c;rw[gT]at g;rcases Q b g with z|z
   .exact h.I k f b z
   .intro y;have:=h.N b y;omega
  .rw[gF lot _ c]at g;exact h.I k f b g
 .intro k f a d;by_cases c:k=i
  .subst c;rw[gT,J]at d;exact h.e k f a d
  .rw[gF lot _ c]at d;exact h.e k f a d
 .intro k f b g;by_cases c:k=i
  .subst c;rw[gT]at g;exact g.elim (l.fx b) λq=>Ô (h.fx k f b<|Î<|by rwa[<-l.I]) l.C
  .rw[gF lot _ c]at g;exact Ô (h.fx k f b g) l.C
 .intro k f;by_cases c:k=i
  .subst c;rw[gT,l.b];exact fG.fU _ _
  .rw[gF lot _ c];refine(h.r k f).fg ⟨l.C,λb g=>l.jN b (h.fx k f b g) (λq=>h.o i k r f (ą c) b q g) (λa d q=>h.I k f b g<|by rw[<-d];exact h.e i r a<|Ç q),λa d=>l.N a (I k f a d) (λq=>h.I i r _ (Ç q)<|h.e k f a d) λq=>h.h i k r f (ą c) a q d,λa d=>Jq (l.Y a (I k f a d) λq=>h.I i r _ (Ç q)<|h.e k f a d),λa d q=> ?_⟩;let⟨y,v⟩:=h.n k f a d;rwa[l.N a (h.N _ y) (λq=>h.I i r _ (Ç q) y)<|v i r]
 .intro k f;by_cases c:k=i
  .subst c;rw[gT];exact⟨λa d=>(D.fq a d).C λm o _ _ _=>nZ m o,λa d=>(D.C a d).r λm o _ _ _ _=>nZ m o,λa d=>(D.I a d).C λm o _ _ _=>nZ m o,λa d=>(D.r a d).r λm o _ _ _ _=>nZ m o⟩
  .rw[gF lot _ c];have W:∀a:Ú,(lot k).O a.block->∀m∈Í i E F V,∀b,m.act.touch?=À b->b.loc=û a->False:=by
    intro a d m o b g n;let⟨x,y,v⟩:=H m o b g;rw[y]at n;injection n with n;subst n;rcases v with q|q|⟨q|q,_⟩
    .exact L k f c _ (Ç d) q
    .exact h.I k f _ (Ç d)<|h.e i r x<|Ç<|by rwa[<-l.r]
    .exact h.o k i f r c _ d<|Î<|by rwa[<-l.I]
    .exact h.I k f _ (Ç d)<|h.e i r x<|Î<|by rwa[<-l.M]
   have X:∀a:Ú,(lot k).I a.block->∀m∈Í i E F V,∀b,m.act.touch?=À b->b.loc=û a->b.write=É->False:=by
    intro a d m o b g n B;let⟨x,y,v⟩:=H m o b g;rw[y]at n;injection n with n;subst n;rcases v with q|q|⟨_,q⟩
    .exact L k f c _ (Î d) q
    .exact h.I k f _ (Î d)<|h.e i r x<|Ç<|by rwa[<-l.r]
    .rw[q]at B;cases B
   have S:∀a:Ú,(lot k).C a->∀m∈Í i E F V,∀b,m.act.touch?=À b->b.loc=û a->(s.I a.block\/s.N a)/\b.write=Ã:=by
    intro a d m o b g n;let⟨x,y,v⟩:=H m o b g;rw[y]at n;injection n with n;subst n;rcases v with q|q|q
    .exfalso;rcases G _ q with z|z
     .exact h.I i r _ (Ç z)<|h.e k f x d
     .have:=I k f x d;omega
    .exact absurd d<|h.h i k r f (ą c) x<|by rwa[<-l.r]
    .exact q
   refine⟨λa d=>((h.S k f).fq a d).C λm o b g n=>(W a d m o b g n).elim,λa d=>((h.S k f).C a d).r λm o b g n B=>(X a d m o b g n B).elim,λa d=>((h.S k f).I a d).C λm o b g n=> ?_,λa d=>((h.S k f).r a d).r λm o b g n B=> ?_⟩
   .exfalso;obtain⟨q|q,_⟩:=S a (Ç d) m o b g n
    .exact h.I i r _ (Î<|by rwa[<-l.I])<|h.e k f a<|Ç d
    .exact h.h k i f r c a d<|Î<|by rwa[<-l.M]
   .have:=(S a (Î d) m o b g n).2;rw[this]at B;cases B
 .intro k f;by_cases c:k=i
  .subst c;rw[gT,l.h,Deaf_own,h.f k f]
  .rw[gF lot _ c,Ob c t nZ];exact h.f k f
 .refine N9 h.l nZ λm o b g=> ?_;let⟨a,y,v⟩:=H m o b g;rw[y];rcases v with q|q|⟨q,B⟩
  .exact Î<|Ç<|D.fq a q
  .exact Î<|Ç<|D.I a q
  .exact Ç ⟨B,q.elim (D.C a)<|D.r a⟩
 .intro m o;rcases Ĝ.1 o with q|q
  .exact MemAct.low_mono l.C<|h.q m q
  .obtain⟨e,N,rfl⟩:=í q;refine afN l.fx (λj u=>Ô (h.fx i r j<|Î<|by rwa[<-l.I]) l.C) (λa d=> ?_)<|l.c e N;rw[J]at d;exact Ô (I i r a d) l.C
 .intro p a c d n f;rcases mM d with⟨_,y⟩|⟨_,m,y,v,_⟩
  .exact h.s p a c y n f
  .let⟨x,P,_⟩:=H m y a v;rw[P]at n;cases n
 .intro k f a d;have y:∀j,(gu lot i s j).r=(lot j).r:=λj=>by
   by_cases e:j=i
   .subst e;rw[gT,l.r]
   .rw[gF lot _ e]
  have c:(gu lot i s k).K=(lot k).K:=by
   by_cases e:k=i
   .subst e;rw[gT,l.k]
   .rw[gF lot _ e]
  rw[c]at d;exact⟨(h.n k f a d).1,λj u=>by rw[y];exact(h.n k f a d).2 j u⟩
end
def FL(Live Y:Nat->Prop)(d:Nat->fe)(b:dO):Prop:=(∃a:Ú,b.loc=û a/\Y a.block/\∀k,Live k->¬(d k).C a)\/∃c,b.loc=.obj c/\Y c/\b.kind=Ŕ
structure pI(Live Y:Nat->Prop)(lot:Nat->fe)(w w':Æ):Prop where
 r:w'.heap.size=w.heap.size
 jN:∀j,¬Y j->w'.heap[j]?=w.heap[j]?
 M:∀k,Live k->∀a,(lot k).C a->w'.cell? a=w.cell? a
 N:∀k,Live k->∀a,(lot k).C a->w'.frozen? a=w.frozen? a
 I:∀a,(w.cell? a).isSome=É->(w'.cell? a).isSome=É
theorem pI.fU(Live Y:Nat->Prop)(a:Nat->fe)(w:Æ):pI Live Y a w w:=⟨U,λ_ _=>rfl,λ_ _ _ _=>rfl,λ_ _ _ _=>rfl,λ_ h=>h⟩
structure vf(w':Æ)(l l':fe):Prop where
 O:l'.O=l.O
 N:l'.I=l.I
 r:l'.r=l.r
 I:l'.N=l.N
 K:l'.K=l.K
 w:l'.w=l.w\/l'.w=w'
theorem vf.fU(w':Æ)(l:fe):vf w' l l:=⟨U,U,U,U,U,Ç U⟩
def vf.M{w':Æ}{l a:fe}(h:vf w' l a):a.M=l.M:=by unfold fe.M;rw[h.O,h.N]
def vf.C{w':Æ}{l a:fe}(h:vf w' l a):a.C=l.C:=by unfold fe.C;rw[h.r,h.I]
def fG.afP{l c:fe}(h:vf w l c)(r:fG l u W):fG c u W:= ⟨r.r,by rw[h.M];exact r.I,by rw[h.C];exact r.N,by rw[h.C];exact r.Y,by rw[h.K];exact r.S⟩
section
variable{Live Y:Nat->Prop}{lot o:Nat->fe}{w':Æ}{t u:ğ}
def iQ.G(h:iQ n Live Y lot w t)(m:∀k,vf w' (lot k)<|o k)(s:pI Live Y lot w w')(B:∀l∈u,∀b,l.act.touch?=À b->FL Live Y lot b)(g:∀l∈u,l.act.low w.heap.size)(E:∀F,¬eG F (t++u))(G:∀k,Live k->Τ (t++u) k=(o k).d):iQ n Live Y o w' (t++u) where
 o i j hi v lr b q:=by rw[(m j).M];exact h.o i j hi v lr b<|by rwa[<-(m i).O]
 h i j hi v lr a f:=by rw[(m j).C];exact h.h i j hi v lr a<|by rwa[<-(m i).r]
 m i hi b q:=by rw[(m i).N];exact h.m i hi b<|by rwa[<-(m i).O]
 g i hi a f:=by rw[(m i).I];exact h.g i hi a<|by rwa[<-(m i).r]
 I i hi b q:=h.I i hi b (by rwa[<-(m i).M]);e i hi a f:=h.e i hi a (by rwa[<-(m i).C]);fx i hi b q:=by rw[s.r];exact h.fx i hi b<|by rwa[<-(m i).M]
 N b q:=by rw[s.r];exact h.N b q
 r i hi:=by
  rcases(m i).w with e|e
  .rw[e];refine((h.r i hi).fg ⟨dB s.r.symm,λj v=>s.jN j<|h.I i hi j v,λa f=>s.M i hi a f,λa f=>s.N i hi a f,λa _=>s.I a⟩).afP<|m i
  .rw[e];exact fG.fU _ _
 S i hi:=by
  have z:∀a:Ú,(lot i).M a.block->∀l∈u,∀b,l.act.touch?=À b->b.loc=û a->False:=by
   intro a f l e b q g;rcases B l e b q with⟨x,r,y,_⟩|⟨c,r,_⟩
   .rw[r]at g;injection g with g;subst g;exact h.I i hi _ f y
   .rw[r]at g;cases g
  have D:∀a:Ú,(lot i).C a->∀l∈u,∀b,l.act.touch?=À b->b.loc=û a->False:=by
   intro a f l e b q g;rcases B l e b q with⟨x,r,_,y⟩|⟨c,r,_⟩
   .rw[r]at g;injection g with g;subst g;exact y i hi f
   .rw[r]at g;cases g
  exact⟨λa f=>((h.S i hi).fq a<|by rwa[<-(m i).O]).C λl e b q g=>(z a (Ç<|by rwa[<-(m i).O]) l e b q g).elim,λa f=>((h.S i hi).C a<|by rwa[<-(m i).N]).r λl e b q g _=>(z a (Î<|by rwa[<-(m i).N]) l e b q g).elim,λa f=>((h.S i hi).I a<|by rwa[<-(m i).r]).C λl e b q g=>(D a (Ç<|by rwa[<-(m i).r]) l e b q g).elim,λa f=>((h.S i hi).r a<|by rwa[<-(m i).I]).r λl e b q g _=>(D a (Î<|by rwa[<-(m i).I]) l e b q g).elim⟩
 f:=G;l:=E;q l e:=by rw[s.r];exact(Ĝ.1 e).elim (h.q l)<|g l
 s p a c f g z:=by
  rcases mM f with⟨_,r⟩|⟨_,l,r,y,_⟩
  .exact h.s p a c r g z
  .rcases B l r a y with⟨x,D,_⟩|⟨x,_,_,D⟩
   .rw[D]at g;cases g
   .rw[D]at z;cases z
 n i hi a f:=by rw[(m i).K]at f;exact⟨(h.n i hi a f).1,λk z=>by rw[(m k).r];exact(h.n i hi a f).2 k z⟩
end
structure gy(l:fe):Prop where
 c:∀b,l.O b->¬l.I b
 Y:∀a,l.r a->¬l.N a
 N:∀a,l.C a->¬l.M a.block
 fx:∀b,l.M b->b<l.w.heap.size
 I:∀a,l.C a->a.block<l.w.heap.size
 S:∀a,l.K a->¬l.M a.block/\a.block<l.w.heap.size/\¬l.r a
def iQ.M{Live Y:Nat->Prop}{c:Nat->fe}(h:iQ n Live Y c w qJ)(b:Live i):gy {c i with w:=w} where
 c:=h.m i b;Y:=h.g i b;N a ha hb:=h.I i b _ hb<|h.e i b a ha;fx:=h.fx i b;I a ha:=h.N _<|h.e i b a ha;S a ha:=⟨λq=>h.I i b _ q (h.n i b a ha).1,h.N _ (h.n i b a ha).1,(h.n i b a ha).2 i b⟩
abbrev Jd:=fe->Ó->Prop
inductive fj(P:Õ)(main:Bool)(Stop:Jd):Jd
 |fC {l:fe} {g:Ó} (h:∀w₁,fG l l.w w₁->Stop {l with w:=w₁} g):fj P main Stop l g
 |ju {l:fe} {g:Ó} (G':Æ->Ó) (W':Æ->Æ) (E':Æ->Array ý) (L':Æ->fe) (iI:g.status=Ð)
  (h:∀w₁,fG l l.w w₁->Ù P main g w₁=aS (G' w₁) (W' w₁) (E' w₁)) (hd:∀w₁,fG l l.w w₁->mq l (L' w₁) w₁ (W' w₁) (E' w₁))
  (ih:∀w₁,fG l l.w w₁->fj P main Stop (L' w₁) (G' w₁)):fj P main Stop l g
instance:Nonempty fe:=⟨⟨λ_=>False,λ_=>False,λ_=>False,λ_=>False,λ_=>False,0,False,default⟩⟩
instance:Nonempty (Goroutine×World×Array Event×fe):=⟨(default,default,#[],Classical.choice inferInstance)⟩
section
variable{main:Bool}{Stop m:Jd}
def fj.mk{l:fe}(i:g.status=Ð) (h:∀a,fG l l.w a->∃b c d e,Ù P main g a=aS b c d/\mq l e a c d/\fj P main Stop e b):fj P main Stop l g:=by
 let p:=λ(a:Æ) (x:Goroutine×World×Array Event×fe)=>Ù P main g a=aS x.1 x.2.1 x.2.2.1/\mq l x.2.2.2 a x.2.1 x.2.2.1/\fj P main Stop x.2.2.2 x.1
 have f:∀a,fG l l.w a->p a (Classical.epsilon<|p a):=λa r=>Classical.epsilon_spec (let⟨b,c,d,e,h⟩:=h a r;⟨(b,c,d,e),h⟩);exact .ju (λa=>(Classical.epsilon<|p a).1) (λa=>(Classical.epsilon<|p a).2.1) (λa=>(Classical.epsilon<|p a).2.2.1) (λa=>(Classical.epsilon<|p a).2.2.2) i (λa r=>(f a r).1) (λa r=>(f a r).2.1) λa r=>(f a r).2.2
def fj.jV{l:fe}{w₁:Æ}(h:fj P main Stop l g)(r:fG l l.w w₁):fj P main Stop {l with w:=w₁} g:=by
 have e:∀{a b:Æ},fG {l with w:=w₁} a b->fG l a b:=λq=>⟨q.r,q.I,q.N,q.Y,q.S⟩;cases h with
 |fC h=>exact .fC λc d=>h c<|r.fg<|e d
 |ju f i j m n h o p=>
  exact .ju f i j m n (λc d=>h c<|r.fg<|e d) (λc d=>let q:=o c<|r.fg<|e d;⟨q.C,q.S,q.fx,q.I,q.r,q.M,q.k,q.jN,q.N,q.Y,q.f,q.g,q.m,q.c,q.h,q.q,q.i,q.b⟩) λc d=>p c<|r.fg<|e d
def fj.fO(a:∀l g,Stop l g->m l g){l:fe}(h:fj P main Stop l g):fj P main m l g:=by
 induction h with
 |fC h=>exact .fC λb r=>a _ _<|h b r
 |ju b r c d e h f _ i=>exact .ju b r c d e h f i
def fj.fg{l:fe}(h:fj P main (fj P main Stop) l g):fj P main Stop l g:=by
 induction h with
 |fC h=>exact h _<|fG.fU _ _
 |ju a b c d e h f _ i=>exact .ju a b c d e h f i
def fj.lI(a:∀l g,Stop l g->fj P main m l g){l:fe}(h:fj P main Stop l g):fj P main m l g:=(h.fO a).fg
end
inductive gw where
 |fC:gw
 |ju (k:Æ->gw):gw
def W4(x:gw):gw->Prop
 |.fC=>False
 |.ju k=>∃w,x=k w
def W5:WellFounded W4:=⟨λa=>by
 induction a with
 |fC=>exact⟨_,λy h=>h.elim⟩
 |ju k b=>exact⟨_,λy ⟨w,h⟩=>h▸b w⟩⟩
def kT(P:Õ)(b:Bool)(c:Jd):gw->Jd
 |.fC,l,g=>∀a,fG l l.w a->c {l with w:=a} g
 |.ju k,l,g=>g.status=Ð/\∀a,fG l l.w a->∃d e f h,Ù P b g a=aS d e f/\mq l h a e f/\kT P b c (k a) h d
section
variable{main:Bool}{Stop:Jd}
theorem ji{l:fe}(h:fj P main Stop l g):∃tr,kT P main Stop tr l g:=by
 induction h with
 |fC h=>exact⟨.fC,h⟩
 |@ju l g G' W' E' L' iI h hd _ ih=>
  have b:∀a,∃tr,fG l l.w a->kT P main Stop tr (L' a) (G' a):=by
   intro a;by_cases r:fG l l.w a
   .grind
   .exact⟨.fC,λq=>absurd q r⟩
  refine⟨.ju λa=>Classical.choose<|b a,iI,λa r=>⟨G' a,W' a,E' a,L' a,h a r,hd a r,Classical.choose_spec (b a) r⟩⟩
end
theorem afQ{l:fe}{b:Nat->Prop}(d:∀j,X j->l.O j)(f:∀j,b j->l.I j){e:ý}(h:Je X b e):yr l e:=by
 rcases h with⟨a,c,g,i⟩|h|h
 .refine Ç ⟨a,c,?_⟩;grind
 .exact Î<|Ç h
 .exact Î<|Î<|Ç h
theorem afR{b:Nat->Prop}(h:∀e∈V,Je X b e)(d:Nat):ŭ d V=d:=by refine bq (λe c=> ?_) d;rcases h e c with⟨a,g,_⟩|h|⟨f,h⟩;all_goals grind
theorem gK{w':Æ}(h:w'.heap[a.block]?=w.heap[a.block]?):w'.cell? a=w.cell? a:=by unfold Ġ;rw[h]
def wM(h:u.heap[a.block]?=w.heap[a.block]?):u.frozen? a=w.frozen? a:=by unfold Ĉ;rw[h]
def afS{t:(Nat->Prop)->Ó->Æ->Prop}{O:Nat->Prop}(h:uZ P yQ X t O g w):∀l:fe,l.w=w->(∀j,O j->l.O j)->(∀j,X j->l.I j)->(∀j,l.O j->j<w.heap.size)->¬l.q-> fj P yQ (λa b=>∃f,t f b a.w/\(∀j,O j->f j)/\(∀j,f j->a.O j)/\(∀j,l.O j->a.O j)/\(∀j,a.O j->l.O j\/f j)/\(∀j,a.O j->l.O j\/w.heap.size<=j)/\a.I=l.I/\a.r=l.r/\a.N=l.N/\a.d=l.d/\a.q=l.q/\a.K=l.K) l g:=by
 induction h with
 |@fC O g w h=>
  intro l e i m _ _;refine .fC λb r=>⟨O,h b ⟨by rw[<-e];exact r.r,λj c=>by rw[r.I j (c.elim (λq=>Ç<|i j q) λq=>Î<|m j q),e]⟩,λ_ q=>q,i,λ_ q=>q,λ_ q=>Ç q,λ_ q=>Ç q,U,U,U,U,U,U⟩
 |@ju O g w G' W' E' f iI h hd _ ih=>
  intro l e i m C u;refine .mk iI λb r=> ?_;have n:ym (λj=>O j\/X j) w b:=⟨by rw[<-e];exact r.r,λj c=>by rw[r.I j (c.elim (λq=>Ç<|i j q) λq=>Î<|m j q),e]⟩;have D:=hd b n;have o:=n.r;have v:∀j,(l.O j\/f b j)->j<(W' b).heap.size:=λj c=>c.elim (λq=>Ô (C j q)<|õ o D.r)<|D.fx j;have p:∀j,j<b.heap.size->¬l.O j->(W' b).heap[j]?=b.heap[j]?:=λj c k=>D.jN j c λq=>k<|i j q;refine⟨G' b,W' b,E' b,{l with O:=λj=>l.O j\/f b j,w:=W' b},h b n,⟨D.r,λj c=>c.elim Ç λq=>(D.I j q).imp (i j) id,v,U,U,U,U,λj c k _=>p j c k,λa s k _=>gK<|p _ s k,λa s k=>wL<|p _ s k,D.N,D.S,D.Y,λx E=>afQ (l:={l with O:=λj=>l.O j\/f b j,w:=W' b}) (λj q=>Î q) m<|D.C x E,(afR D.C _).symm,U,λq=>absurd q u,U⟩,?_⟩;have:=ih b n {l with O:=λj=>l.O j\/f b j,w:=W' b} U (λj q=>Î q) m v u;apply this.fO;rintro N Q ⟨F,G,B,H,I,J,L,M⟩;refine⟨F,G,λj q=>B j<|D.M j q,H,λj q=>I j<|Ç q,λj q=> ?_,λj q=> ?_,M⟩
  .rcases J j q with(z|z)|z
   .exact Ç z
   .exact Î<|B j z
   .exact Î z
  .rcases L j q with(z|z)|z
   .exact Ç z
   .rcases D.I j z with y|y
    .exact Ç<|i j y
    .exact Î<|õ o y
   .exact Î<|õ (õ o D.r) z
def kr(a:Ú):ý:=⟨û a,Ã,É⟩
def mN(a:Ú):ý:=⟨û a,É,É⟩
def jO(m:Mark):ý:=⟨ů m,Ã,É⟩
def fY:Int:=4294967296
def C4(c:Nat):Array ý:=#[⟨.obj c,Ã,É⟩,⟨.obj c,É,É⟩]
section
variable(P:Õ)(main:Bool)
def FM(m:Mark)(N:Jd):Jd:=λl g=>g.status=Ð/\∃a,(∀b,Ù P main g b=aS a b #[jO m])/\fj P main N l a
def W6(a:Ú)(N:Int->Jd):Jd:=λl g=>g.status=Ð/\∀v,∃c,(∀b:Æ,b.cell? a=À (Ć æ v)->Ù P main g b=aS c b #[kr a])/\fj P main (N v) l c
def Oc(a:Ú)(d:Int)(N:Int->Jd):Jd:=λl g=>g.status=Ð/\∀v,∃c,(∀b:Æ,b.cell? a=À (Ć æ v)->b.frozen? a=Ã->Ù P main g b=aS c (b.setCell a<|Ć æ<|æ.wrap<|v+d) #[kr a,mN a])/\N (æ.wrap<|v+d) l c
def afT(a:Ú)(v:Int)(N:Jd):Jd:=λl g=>g.status=Ð/\∃c,(∀(b:Æ) (x:Int),b.cell? a=À (Ć æ x)->b.frozen? a=Ã->Ù P main g b=aS c (b.setCell a<|Ć æ v) #[mN a])/\fj P main N l c
def afU(a:Ú)(N:Jd):Jd:=λl g=>g.status=Ð/\g.offers=ë/\(∀b:Æ,b.cell? a=À (Ć ŗ 0)->Ù P main g b=aS {g with status:=Ů} b #[])/\
 ∃c,(∀(b:Æ) (n:Int),n≠0->b.cell? a=À (Ć ŗ n)->b.frozen? a=Ã->Ù P main g b=aS c (b.setCell a<|Ć ŗ<|n-1) (semEvents a))/\fj P main N l c
def afV(a:Ú)(N:Jd):Jd:=λl g=>g.status=Ð/\mayWake P g=É/\∃c,c.status=Ð/\(∀(b:Æ) (n:Int),b.cell? a=À (Ć ŗ n)->b.frozen? a=Ã->Ù P main g b=aS c (b.setCell a<|Ć ŗ<|ŗ.wrap<|n+1) (semEvents a))/\N l c
def wN(c:Nat)(z:Â)(N:Option Â->Jd):Jd:=λl g=>g.status=Ð/\g.offers=ë/\(∀x,Ù P main g x=.comm g #[θ c z] É (.recv É) x #[])/\
 ∀x:Option Â,fj P main (N x) l {g with frame:=g.frame.finish (ſ #[x.getD z,Ľ x.isSome])}
def Ax(c:Nat)(v:Â)(N:Jd):Jd:=λl g=>g.status=Ð/\g.offers=ë/\(∀a,∃b,Ù P main g a=.comm g #[scase c v b] É .send a #[])/\fj P main N l {g with frame:=g.frame.finish ľ}
def Jr(c:Nat)(N:Jd):Jd:=λl g=>g.status=Ð/\mayWake P g=É/\∃a,a.status=Ð/\(∀(b:Æ) cap buf s r tm,b.heap[c]?=À (χ cap buf Ã s r tm)->Ù P main g b=aS a (b.setChan c cap buf É s r tm) (C4 c))/\fj P main N l a
def oV(n:Nat):Jd:=λl g=>QuitsD P n l.d g
inductive SP where
 |gd (n:Nat)
 |ld (v:Int) (m:Nat)
def C5(a:Ú)(B:Nat)(d e:Int->Jd)(p:SP):Jd:=λl g=>∃T:SP->Ó->Prop,T p g/\∀p g,T p g->g.status=Ð/\match p with
 |.gd (n+1)=>n+1<=B/\(T (.gd 0) g\/∀b,∃c,Ù P main g b=aS c b #[]/\T (.gd n) c)
 |.gd 0=>∀v,∃c,(∀b:Æ,b.cell? a=À (Ć æ v)->Ù P main g b=aS c b #[kr a])/\(if 0<=v/\v<fY then v<1000000->fj P main (d v) l c else(fY<=v/\v<fY*2147483648/\v%fY<1000000)->∃m,m<=B/\T (.ld v m) c)
 |.ld v (m+1)=>fY<=v/\m+1<=B/\(T (.ld v 0) g\/∀b,∃c,Ù P main g b=aS c b #[]/\T (.ld v m) c)
 |.ld v 0=>fY<=v/\(∃c,(∀b:Æ,b.cell? a=À (Ć æ v)->b.frozen? a=Ã->Ù P main g b=aS c (b.setCell a<|Ć æ<|æ.wrap<|v+1) #[kr a,mN a])/\fj P main (e v) l c)/\
  ∃c,(∀(b:Æ) (x:Int),x≠v->b.cell? a=À (Ć æ x)->b.frozen? a=Ã->Ù P main g b=aS c b #[kr a])/\∃n,n<=B/\T (.gd n) c
end
section
variable{P:Õ}{main:Bool}
def Js{e f:Int->Jd}{p:SP}{l:fe}{w₁:Æ}(h:C5 P main a i e f p l g)(r:fG l l.w w₁):C5 P main a i e f p {l with w:=w₁} g:=by
 let⟨T,o,h⟩:=h;refine⟨T,o,λp g j=>⟨(h p g j).1,?_⟩⟩;have:=(h p g j).2;match p,this with
 |.gd (n+1),q=>exact q
 |.gd 0,q=>
  intro v;let⟨c,d,b⟩:=q v;refine⟨c,d,?_⟩;by_cases k:0<=v/\v<fY
  .rw[if_pos k]at b|-;exact λq=>(b q).jV r
  .rw[if_neg k]at b|-;exact b
 |.ld v (m+1),q=>exact q
 |.ld v 0,⟨q0,⟨c,d,b⟩,q⟩=>exact⟨q0,⟨c,d,b.jV r⟩,q⟩
end
inductive iA where
 |no|iB|sk (c:Nat) (z:Â)
inductive wO(g0:Ó):iA->Ó->Prop
 |gl {k:iA}:wO g0 k g0
 |nL (h:g0.status=Ð) (ho:g0.offers=ë):wO g0 .iB {g0 with status:=Ů}
 |tu (c:Nat) (z:Â) (h:g0.status=Ð):wO g0 (.sk c z) (Γ g0 #[θ c z]<|.recv É)
 |nh (c:Nat) (z:Â) (h:g0.status=Ð):wO g0 (.sk c z) {Γ g0 #[θ c z] (.recv É)with status:=Ð}
section
variable{P:Õ}
theorem afW(h:g.status=Ð\/g.status=Ğ)(w:Æ):g.again w=g:=by unfold ι;grind
theorem Od{a o:Ó}(h:o.status=Ð\/o.status=Ğ):ţ P g a w o=o:=by unfold ţ;grind [afW]
def wO.FN{g0 a b:Ó}{k:iA}(h:wO g0 k g)(d:g0.status=Ð\/g0.status=Ğ):wO g0 k (ţ P a b w g):=by
 cases h with
 |gl=>rw[Od d];exact .gl
 |nL h c=>
  unfold ţ;split
  .have:ι w {g0 with status:=Ů}=g0:=by
    let⟨z,e,st,f,i⟩:=g0;simp only at h c;subst h c;rfl
   rw[this];exact .gl
  .exact .nL h c
 |tu c z h=>
  unfold ţ;split
  .unfold ι Γ;simp only[];split
   .exact .nh c z h
   .exact .tu c z h
  .exact .tu c z h
 |nh c z h=>
  rw[Od<|Ç U];exact .nh c z h
end
structure gL(P:Õ)(B0:Nat)(Y:Nat->Prop)(S:Nat->Jd)(tr:Nat->gw)(kp:Nat->iA)(lot:Nat->fe)(gs:Array Ó)(w:Æ)(t:ğ):Prop where
 r:iQ B0 (λi=>i<gs.size) Y lot w t
 C:∀i g,gs[i]?=À g->∃g0,kT P (i==0) (S i) (tr i) (lot i) g0/\wO g0 (kp i) g/\(g0.status=Ð\/g0.status=Ğ)/\(g=g0\/tr i=.fC)
 I:∀j,gs.size<=j->Τ t j=0
def fy{α:Type}(f:Nat->α)(i:Nat)(x:α):Nat->α:=λk=>if k=i then x else f k
theorem gD{α:Type}(f:Nat->α)(i:Nat)(x:α):fy f i x i=x:=if_pos U
theorem fI{α:Type}(f:Nat->α)(x:α)(h:k≠i):fy f i x k=f k:=if_neg h
section
variable{P:Õ}{B0:Nat}{Y:Nat->Prop}{S:Nat->Jd}{tr:Nat->gw}{kp:Nat->iA}{lot:Nat->fe}{gs:Array Ó}{w':Æ}{t:ğ}{sl:Option (Nat×Nat)}
theorem Oe{a:Ó}(b:gs[i]?=À g)(h:Ù P (i==0) g w=aS a w' V): ∃gs',c8 P (ķ gs w sl) i=(ň<|ķ gs' w' sl,Í i g.frame.fn g.frame.place V)/\gs'.size=gs.size/\gs'[i]?=À a/\∀k,k≠i->gs'[k]?=gs[k]?.map (ţ P g a w'):=by refine⟨_,runT_crowd_go b h,fp,by simp[(Ë.1 b).1],λk c=> ?_⟩;grind
def gL.at(a:gL P B0 Y S tr kp lot gs w t)(d:Nat):gL P B0 Y S tr kp lot gs (w.at d) t:=⟨a.r.at d,a.C,a.I⟩
theorem gL.W7(f:gL P B0 Y S tr kp lot gs w t){a:Ó}{J:Jd}{T:gw}{K:iA}{d:fe}(h:gs[i]?=À g)(o:Ù P (i==0) g w=aS a w' V) (B:iQ B0 (λi=>i<gs.size) Y (gu lot i d) w' (t++Í i g.frame.fn g.frame.place V)) (hF:kT P (i==0) J T d a) (p:a.status=Ð\/a.status=Ğ): ∃b,c8 P (ķ gs w sl) i=(ň<|ķ b w' sl,Í i g.frame.fn g.frame.place V)/\b.size=gs.size/\b[i]?=À a/\(∀k,k≠i->b[k]?=gs[k]?.map (ţ P g a w'))/\ gL P B0 Y (fy S i J) (fy tr i T) (fy kp i K) (gu lot i d) b w' (t++Í i g.frame.fn g.frame.place V):=by
 obtain⟨b,q,r,l,m⟩:=Oe h o;have C:=(Ë.1 h).1;refine⟨b,q,r,l,m,?_,λk x c=> ?_,λj D=> ?_⟩
 .grind
 .by_cases e:k=i
  .subst e;rw[l]at c;obtain rfl:=Ĥ c;rw[gD,gD,gD,gT];exact⟨a,hF,.gl,p,Ç U⟩
  .rw[m k e]at c;obtain⟨y,s,rfl⟩:=ģ.1 c;rw[fI S _ e,fI tr _ e,fI kp _ e,gF lot _ e];let⟨g0,u,v,n,z⟩:=f.C k y s;refine⟨g0,u,v.FN n,n,z.imp (λe=> ?_) id⟩;grind [Od]
 .rw[Ob Z t nZ];exact f.I j Z
theorem afX{J:Jd}{k:Æ->gw}{l:fe}(h:kT P yQ J (.ju k) l g):g.status=Ð:=h.1
def gL.fq(f:gL P B0 Y S tr kp lot gs w t){k:Æ->gw}(m:gs[i]?=À g)(n:tr i=.ju k)(s:∀l g,S i l g->g.status=Ð\/g.status=Ğ): ∃c w' d h,c8 P (ķ gs w sl) i=(ň<|ķ c w' sl,Í i g.frame.fn g.frame.place d)/\c.size=gs.size/\(∃b,c[i]?=À b/\(b.status=Ð\/b.status=Ğ))/\(∀k,k≠i->∃a j:Ó,c[k]?=gs[k]?.map (ţ P a j w'))/\mq (lot i) h w w' d/\ gL P B0 Y S (fy tr i<|k w) kp (gu lot i h) c w' (t++Í i g.frame.fn g.frame.place d):=by
 have o:=(Ë.1 m).1;let⟨g0,hF,F,_,u⟩:=f.C i g m;obtain rfl:g=g0:=u.resolve_right (by rw[n];simp);rw[n]at hF;let⟨G,hF⟩:=hF;let⟨b,w',d,h,v,p,e⟩:=hF w<|f.r.r i o;have q:b.status=Ð\/b.status=Ğ:=by
  cases j:k w with
  |fC=>rw[j]at e;exact s _ _<|e _<|fG.fU _ _
  |ju r=>rw[j]at e;exact Ç e.1
 obtain⟨c,x,y,z,B,r⟩:=f.W7 m v (f.r.afO o p _ _) e q;refine⟨c,w',d,h,x,y,⟨b,z,q⟩,λj C=>⟨g,b,B j C⟩,p,?_⟩;have D:fy S i (S i)=S:=by funext j;unfold fy;split<;>simp[*]
 have E:fy kp i (kp i)=kp:=by funext j;unfold fy;split<;>simp[*]
 rwa[D,E]at r
theorem gL.qn(c:gL P B0 Y S tr kp lot gs w t){a:Ó}{J:Jd}{K:iA}{T:gw}(l:gs[i]?=À g)(m:Ù P (i==0) g w=aS a w' V)(n:pI (λi=>i<gs.size) Y lot w w') (hF:kT P (i==0) J T {lot i with d:=ŭ (lot i).d V,w:=w'} a) (o:a.status=Ð\/a.status=Ğ) (p:∀e∈V,(∀b,(è e).touch?=À b->FL (λi=>i<gs.size) Y lot b)/\(è e).low w.heap.size) (q:∀r,¬eG r (t++Í i g.frame.fn g.frame.place V)): ∃gs',c8 P (ķ gs w sl) i=(ň<|ķ gs' w' sl,Í i g.frame.fn g.frame.place V)/\gs'.size=gs.size/\gs'[i]?=À a/\(∀k,k≠i->gs'[k]?=gs[k]?.map (ţ P g a w'))/\ gL P B0 Y (fy S i J) (fy tr i T) (fy kp i K) (gu lot i {lot i with d:=ŭ (lot i).d V,w:=w'}) gs' w' (t++Í i g.frame.fn g.frame.place V):=by
 refine c.W7 l m (c.r.G (λk=> ?_) n (λh f b j=> ?_) (λh f=> ?_) q λk h=> ?_) hF o
 .by_cases e:k=i
  .subst e;rw[gT];exact⟨U,U,U,U,U,Î U⟩
  .grind [gF,vf.fU]
 .obtain⟨e,j,rfl⟩:=í f;grind
 .obtain⟨e,j,rfl⟩:=í f;exact(p e j).2
 .by_cases e:k=i
  .subst e;rw[gT,Deaf_own,c.r.f k h]
  .rw[gF lot _ e,Ob e t nZ];exact c.r.f k h
def gL.Og(h:gL P B0 Y S tr kp lot gs w t)(p:gs[i]?=À g)(x:i≠0)(l:g.status=Ð)(q:kp i=.no)(y:tr i=.fC)(z:S i=oV P n): ∃c f b,n=b+1/\c8 P (ķ gs w sl) i=(ň<|ķ c w sl,Í i g.frame.fn g.frame.place f)/\c.size=gs.size/\(∀k,k≠i->∃a e:Ó,c[k]?=gs[k]?.map (ţ P a e w))/\(∀e∈f,e.mute=É)/\ gL P B0 Y (fy S i<|oV P b) tr kp (gu lot i {lot i with d:=ŭ (lot i).d f,w:=w}) c w (t++Í i g.frame.fn g.frame.place f):=by
 let⟨g0,hF,r,L,_⟩:=h.C i g p;have B:g=g0:=by
  rw[q]at r;cases r with
  |gl=>rfl
 subst B;rw[y,z]at hF;have s:=hF w<|h.r.r i<|(Ë.1 p).1;cases n with
 |zero=>rw[s.1]at l;cases l
 |succ n=>
  rcases s with⟨C,_⟩|⟨_,D,f,a,E,u⟩
  .rw[C]at l;cases l
  have m:(i==0)=Ã:=by simpa using x
  have F:fy kp i .no=kp:=by funext j;unfold fy;split<;>simp[*]
  have G:fy tr i .fC=tr:=by funext j;unfold fy;split<;>simp[*]
  obtain⟨c,H,I,_,K,v⟩:=h.qn (J:=oV P n) (T:=.fC) p (by rw[m];exact E w) (pI.fU _ _ _ _) (λ_ _=>u) u.status (λe o=>⟨λb m=>(by rw[ek<|a e o]at m;cases m),low_mute (a e o) _⟩) (Aw h.r.l λM b=>by obtain⟨e,o,rfl⟩:=í b;exact ek<|a e o);rw[F,G]at v;exact⟨c,f,n,U,H,I,λk q=>⟨g,D,K k q⟩,a,v⟩
end
def wP(u:ğ):Prop:=∀a∈u,a.act.touch?=ë/\∀m,a.act≠Ř m
theorem afY(t:ğ)(a:c9)(b:a.act≠Ř cN)(c:a.act≠Ř dA)(j:Nat):Τ (t.push a) j=Τ t j:=by
 have d:t.push a=t++#[a]:=fp
 unfold Τ;rw[d,show(t++#[a]).size=t.size+1 by simp];show(match(t++#[a])[t.size]? with
  |some {g:=h,act:=Ř cN, .. }=>if h=j then(t++#[a]).deaf j t.size+1 else(t++#[a]).deaf j t.size
  |some {g:=h,act:=Ř dA, .. }=>if h=j then(t++#[a]).deaf j t.size-1 else(t++#[a]).deaf j t.size
  |_=>(t++#[a]).deaf j t.size)=_
 have e:(t++#[a])[t.size]?=À a:=fp
 rw[e];let⟨g,f,i,k⟩:=a;simp only at b c;split
 .grind
 .grind
 .exact cQ<|ß _
def W8(t:ğ):∀(u:List c9),(∀a∈u,a.act≠Ř cN/\a.act≠Ř dA)->∀j,Τ (t++u.toArray) j=Τ t j
 |[],_,j=>by simp
 |a::u,h,j=>by
  have e:t++(a::u).toArray=(t.push a)++u.toArray:=by apply Array.ext';simp
  rw[e,W8 (t.push a) u (λx b=>h x<|by simp[b]) j];exact afY t a (h a fp).1 (h a fp).2 j
def Jt{u:ğ}(h:wP u)(j:Nat):Τ (qJ++u) j=Τ qJ j:=by have:=W8 qJ u.toList (λa b=>⟨(h a<|by simpa using b).2 _,(h a<|by simpa using b).2 _⟩) j;simpa using this
section
variable{S:Nat->Jd}{C:Nat->gw}{B:Nat->iA}{lot:Nat->fe}{u:ğ}{sl:Option (Nat×Nat)}
def iQ.afZ{Live:Nat->Prop}(h:iQ i Live X lot w qJ)(f:pI Live X lot w W)(c:wP u)(g:∀a∈u,a.act.low w.heap.size):iQ i Live X lot W (qJ++u):= h.G (λk=>vf.fU _ _) f (λa d b e=>by rw[(c a d).1]at e;cases e) g (Aw h.l λa d=>(c a d).1) λk b=>by rw[Jt c];exact h.f k b
def Ju{Live:Nat->Prop}{r:Nat}{x:Bool}(y:X i)(p:w.heap[i]?=À (χ n d yQ j r x))(f g h:Nat)(l:Array Â)(m o:Bool):pI Live X lot w (w.setChan i f l m g h o):=by
 have q:∀b,b≠i->(w.setChan i f l m g h o).heap[b]?=w.heap[b]?:=λb u=>by unfold au;simp only;exact Ï<|ą u
 have v:(w.setChan i f l m g h o).heap[i]?=À (χ f l m g h o):=by unfold au;simp[(Ë.1 p).1]
 refine⟨by unfold au;simp,λb u=>q b λe=>u<|e▸y,λk _ a _=> ?_,λk _ a _=> ?_,λa t=> ?_⟩
 .by_cases e:a.block=i
  .unfold Ġ;rw[e,v,p]
  .unfold Ġ;rw[q _ e]
 .by_cases e:a.block=i
  .unfold Ĉ;rw[e,v,p]
  .unfold Ĉ;rw[q _ e]
 .by_cases e:a.block=i
  .unfold Ġ at t;rw[e,p]at t;cases t
  .have:(w.setChan i f l m g h o).cell? a=w.cell? a:=by unfold Ġ;rw[q _ e]
   rwa[this]
def gL.G(b:gL P i X S C B lot E w qJ){J:Jd}{T:gw}{K:iA}(d:n<E.size)(f:pI (λn=>n<E.size) X lot w W)(c:wP u)(h:∀l∈u,l.act.low w.heap.size) (hF:kT P (n==0) J T (lot n) g) (m:g.status=Ð\/g.status=Ğ): gL P i X (fy S n J) (fy C n T) (fy B n K) lot (E.setIfInBounds n g) W (qJ++u):=by
 refine⟨?_,λk x a=> ?_,λj o=> ?_⟩
 .rw[show(λj=>j<(E.setIfInBounds n g).size)=(λj=>j<E.size) by simp];exact b.r.afZ f c h
 .by_cases e:k=n
  .subst e;rw[Ò d]at a;obtain rfl:=Ĥ a;rw[gD,gD,gD];exact⟨_,hF,.gl,m,Ç U⟩
  .rw[Ï<|ą e]at a;rw[fI S _ e,fI C _ e,fI B _ e];exact b.C k x a
 .rw[Jt c];exact b.I j<|by simpa using o
def Oh{γ δ:Type}{f:γ->List δ}:∀{l:List γ},(∀x∈l,f x=[])->l.flatMap f=[]
 |[],_=>rfl
 |x::l,h=>by rw[aV,h x fp,Oh λy a=>h y (by simp[a])];rfl
def yt(r:Nat)(b:Bool)(g:Ó):Prop:=g.status=Ů/\∃a d,g.offers=À (a,d)/\∃c∈a,(c.send.isSome==b)=É/\(match c.chan with|eu (À r')=>r'==r|_=>Ã)=É
theorem W9{r:Nat}{E:Array Ó}(h:∀(i:Nat) (g:Ó),E[i]?=À g->¬yt r yQ g):Η E r yQ=[]:=by
 unfold Η;refine Oh λx m=> ?_;let⟨g,i⟩:=x;have d:E[i]?=À g:=by grind
 simp only[];split
 .rename_i b e f j;rw[aj,Υ];intro y n a;let⟨c,k⟩:=y;have l:c∈b:=by
   grind
  simp only[ě]at a;exact h i g d ⟨f,b,e,j,c,l,a.1,by have:=a.2;revert this;cases c.chan<;>first|exact id|(rename_i q;cases q<;>exact id)⟩
 .rfl
def Xa{γ δ:Type}(f:γ×Nat->List δ):∀(L:List γ) (n h:Nat) (x:γ),(∀y k,k≠h->(y,k)∈L.zipIdx n->f (y,k)=[])->n<=h->L[h-n]?=À x->(L.zipIdx n).flatMap f=f (x,h)
 |[],n,h,x,_,_,hx=>by simp at hx
 |a::L,n,h,x,hf,hn,hx=>by
  rw[Ĭ,aV];by_cases e:h=n
  .subst e;have:a=x:=by simpa using hx
   subst this;rw[Oh ?_,List.append_nil];intro y b;let⟨y,k⟩:=y;refine hf y k ?_ (by rw[Ĭ];exact ò _ b);have:=List.le_snd_of_mem_zipIdx b;simp only at this;omega
  .rw[hf a n Z (by rw[Ĭ];exact î ..),List.nil_append];refine Xa f L (n+1) h x (λy k c b=>hf y k c<|by rw[Ĭ];exact ò _ b) Z ?_;have b:h-n=(h-(n+1))+1:=Z
   rw[b]at hx;simpa using hx
theorem af0{E:Array Ó}(l:E[n]?=À g)(m:g.status=Ů)(o:g.offers=À (#[θ i z],.recv É))(p:∀(a:Nat) (b:Ó),a≠n->E[a]?=À b->¬yt i Ã b):Η E i Ã=[(n,0)]:=by
 unfold Η;have e:E.zipIdx.toList=E.toList.zipIdx:=fp
 rw[e];rw[Xa _ E.toList 0 n g (λy k r B=> ?_) (dC _) (by simpa using l)]
 .simp[m,o,θ]
 .have s:E[k]?=À y:=by
   grind
  simp only[];split
  .rename_i j t u v;rw[aj,Υ];intro x C d;let⟨f,D⟩:=x;have w:f∈j:=by
    grind
   simp only[ě]at d;exact p k y r s ⟨u,j,t,v,f,w,d.1,by have:=d.2;revert this;cases f.chan<;>first|exact id|(rename_i q;cases q<;>exact id)⟩
  .rfl
theorem Oi(h:(E.setIfInBounds i ph)[k]?=À g):g.status=Ğ\/(k≠i/\E[k]?=À g):=by
 by_cases e:k=i
 .subst e;rw[Ś]at h;simp only[if_true]at h;split at h
  .left;obtain rfl:=Ĥ h;rfl
  .cases h
 .grind
theorem gL.Oj(l:gL P i X S C B lot E w qJ)(c a:Nat):Η (E.setIfInBounds a ph) c É=[]:=by
 refine W9 λk x m=> ?_;rintro⟨d,p,r,b,n,f,o,_⟩;rcases Oi m with q|⟨_,q⟩
 .grind
 .let⟨g0,_,g,j,_⟩:=l.C k x q;generalize B k=K at g;cases g with
  |gl=>rw[d]at j;rcases j with e|e<;>cases e
  |nL h e=>simp only[e]at b;cases b
  |tu e z h=>
   simp only[Γ,ž,Prod.mk.injEq]at b;rw[<-b.1]at f;have:n=θ e z:=by simpa using f
   subst this;cases o
  |nh e z h=>cases d
def gL.Ol(e:gL P i X S C B lot E w qJ){N:Option Â->Jd}(f:E[n]?=À g)(k:g.status=Ð)(l:B n=.sk j z)(m:C n=.fC)(o:S n=wN P (n==0) j z N): ∃a,kT P (n==0) (S n) (C n) (lot n) a/\a.status=Ð/\a.offers=ë/\Ù P (n==0) g w=.comm a #[θ j z] É (.recv É) w #[]/\∀x:Option Â,fj P (n==0) (N x) (lot n) {a with frame:=a.frame.finish (ſ #[x.getD z,Ľ x.isSome])}:=by
 let⟨a,hF,b,_,_⟩:=e.C n g f;have p:=hF;rw[o,m]at hF;let⟨x,q,d,r⟩:=hF _<|fG.fU _ _;rw[l]at b;refine⟨a,p,x,q,?_,r⟩;cases b with
 |gl=>exact d w
 |tu j z h=>cases k
 |nh j z h=>rw[stepG_tries];rw[show({a with status:=Ð}:Ó)=a by cases a;simp only at x;subst x;rfl];exact d w
def yu{g0:Ó}{a:Array CommCase}{b:CommShape}{ok:Bool}(c:g0.status=Ð)(d:g0.offers=ë):g0.finishComm P a b h v ok={g0 with frame:=g0.frame.finish (commResult a b h v ok)}:=by let⟨f,a,st,e,o⟩:=g0;simp only at c d;subst c d;rfl
def gL.ni(e:gL P i X S C B lot E w qJ){N:Option Â->Jd}(h:E[n]?=À g)(G:g.status=Ð)(l:B n=.sk j z)(H:C n=.fC)(I:S n=wN P (n==0) j z N)(p:X j){r:Nat}{o:Bool}(q:w.heap[j]?=À (χ b d yQ m r o))(t:d[0]?=À v)(K:iA): ∃a u T f,c8 P (ķ E w sl) n=(ň<|ķ a (w.setChan j b (d.extract 1 d.size) yQ m (r+1) o) sl,u)/\a.size=E.size/\a[n]?=À f/\f.status=Ð/\(∀k,k≠n->a[k]?=E[k]?)/\wP u/\ gL P i X (fy S n<|N<|À v) (fy C n T) (fy B n K) lot a (w.setChan j b (d.extract 1 d.size) yQ m (r+1) o) (qJ++u):=by
 have x:=(Ë.1 h).1;let⟨g0,_,f,y,J,L⟩:=e.Ol h G l H I;have D:d.getD 0 ľ=v:=by simp[ĩ,t]
 have M:=crowd_recv_buf (sl:=sl) h J q ((Ë.1 t).1)<|e.Oj j n;let⟨T,O⟩:=ji<|L<|À v;refine⟨_,_,T,{g0 with frame:=g0.frame.finish (ſ #[v,Ľ É])},M,fp,?_,f,λk l=>Ï<|ą l,?_,?_⟩
 .rw[yu f y,D,Ò x];rfl
 .intro F a;simp[Í]at a;rcases a with rfl|rfl<;>exact⟨U,fp⟩
 .rw[yu f y,D];refine e.G x (Ju p q _ _ _ _ _ _) ?_ ?_ O<|Ç f
  .intro F a;simp[Í]at a;rcases a with rfl|rfl<;>exact⟨U,fp⟩
  .intro F a;simp[Í]at a;rcases a with rfl|rfl<;>exact e.r.N j p
def gL.jc(e:gL P i X S C B lot E w qJ){N:Option Â->Jd}(h:E[n]?=À g)(q:g.status=Ð)(l:B n=.sk j z)(t:C n=.fC)(v:S n=wN P (n==0) j z N)(x:X j){r:Nat}(y:w.heap[j]?=À (χ b #[] É k r yQ))(K:iA): ∃d u T f,c8 P (ķ E w sl) n=(ň<|ķ d w sl,u)/\d.size=E.size/\d[n]?=À f/\f.status=Ð/\(∀a,a≠n->d[a]?=E[a]?)/\wP u/\ gL P i X (fy S n<|N ë) (fy C n T) (fy B n K) lot d w (qJ++u):=by
 have m:=(Ë.1 h).1;let⟨g0,_,f,o,D,F⟩:=e.Ol h q l t v;let⟨T,G⟩:=ji<|F ë;refine⟨_,_,T,{g0 with frame:=g0.frame.finish (ſ #[z,Ľ Ã])},crowd_recv_closed (sl:=sl) h D y<|e.Oj j n,fp,?_,f,λa l=>Ï<|ą l,?_,?_⟩
 .rw[yu f o,Ò m];rfl
 .intro p d;simp[Í]at d;subst d;exact⟨U,fp⟩
 .rw[yu f o];refine e.G m (pI.fU _ _ _ _) ?_ ?_ G<|Ç f
  .intro p d;simp[Í]at d;subst d;exact⟨U,fp⟩
  .intro p d;simp[Í]at d;subst d;exact e.r.N j x
def gL.af2(f:gL P i X S C B lot E w qJ){N:Option Â->Jd}(m:E[n]?=À g)(u:g.status=Ð)(h:B n=.sk j z)(o:C n=.fC)(v:S n=wN P (n==0) j z N){r:Nat}(p:w.heap[j]?=À (χ b #[] Ã k r yQ)): ∃d e,c8 P (ķ E w sl) n=(ň<|ķ d w sl,#[])/\d.size=E.size/\d[n]?=À e/\e.status=Ů/\(∀a,a≠n->d[a]?=E[a]?)/\gL P i X S C B lot d w qJ:=by
 have q:=(Ë.1 m).1;let⟨g0,hF,t,G,y,H⟩:=f.Ol m u h o v;have D:=crowd_waits (sl:=sl) m y (λd e=>by
  have:d=θ j z:=by simpa using e
  subst this;exact⟨by simp[illMade,θ,p],by simp[ways,θ,p,f.Oj j n]⟩)
 refine⟨_,Γ g0 #[θ j z]<|.recv É,?_,fp,Ò q,U,λa h=>Ï<|ą h,?_,λa x l=> ?_,λd F=>f.I d<|by simpa using F⟩
 .rw[D];rfl
 .rw[show(λd=>d<(E.setIfInBounds n<|Γ g0 #[θ j z]<|.recv É).size)=(λd=>d<E.size) by simp];exact f.r
 .by_cases e:a=n
  .subst e;rw[Ò q]at l;obtain rfl:=Ĥ l;refine⟨g0,hF,?_,Ç t,Î o⟩;rw[h];exact .tu j z t
  .rw[Ï<|ą e]at l;exact f.C a x l
def gL.iJ(f:gL P i X S C B lot E w qJ){N:Jd}(h:E[n]?=À g)(l:B n=.no)(F:C n=.fC)(G:S n=Ax P (n==0) b v N)(p:X b){r:Nat}(t:w.heap[b]?=À (χ m d Ã J r yQ))(H:d.size<m) (I:∀(k:Nat) (x:Ó),E[k]?=À x->¬yt b Ã x): ∃e u T a,c8 P (ķ E w sl) n=(ň<|ķ e (w.setChan b m (d.push v) Ã (J+1) r yQ) sl,u)/\e.size=E.size/\e[n]?=À a/\a.status=Ð/\(∀k,k≠n->e[k]?=E[k]?)/\wP u/\ gL P i X (fy S n N) (fy C n T) B lot e (w.setChan b m (d.push v) Ã (J+1) r yQ) (qJ++u):=by
 have y:=(Ë.1 h).1;let⟨g0,hF,z,_,_⟩:=f.C n g h;rw[l]at z;cases z with
 |gl=>
  rw[G,F]at hF;let⟨a,D,o,K⟩:=hF _<|fG.fU _ _;let⟨V,o⟩:=o w;have L:Η (E.setIfInBounds n ph) b Ã=[]:=W9 λk x M=>by
   rcases Oi M with q|⟨_,q⟩
   .rintro⟨e,_⟩;rw[q]at e;cases e
   .exact I k x q
  let⟨T,O⟩:=ji K;have Q:fy B n .no=B:=by funext j;unfold fy;split<;>simp[*]
  refine⟨_,_,T,{g with frame:=g.frame.finish ľ},crowd_send_room (sl:=sl) h o t H L,fp,?_,a,λk l=>Ï<|ą l,?_,?_⟩
  .rw[yu a D,Ò y];rfl
  .intro q e;simp[Í]at e;rcases e with rfl|rfl<;>exact⟨U,fp⟩
  .rw[yu a D,<-Q];refine f.G y (Ju p t _ _ _ _ _ _) ?_ ?_ O<|Ç a
   .intro q e;simp[Í]at e;rcases e with rfl|rfl<;>exact⟨U,fp⟩
   .intro q e;simp[Í]at e;rcases e with rfl|rfl<;>exact f.r.N b p
def gL.af3(o:gL P i X S C B lot E w qJ){p:Ó}{N:Jd}{D:Option Â->Jd}(F:E[n]?=À g)(f:B n=.no)(ht:C n=.fC)(hs:S n=Ax P (n==0) b v N)(L:X b){r:Nat}(M:w.heap[b]?=À (χ J d Ã j9 r yQ)) (G:j≠n) (t:E[j]?=À p) (O:p.status=Ů) (Jv:B j=.sk b z) (Om:C j=.fC) (Jw:S j=wN P (j==0) b z D) (K:iA) (hp:∀(k:Nat) (x:Ó),k≠j->E[k]?=À x->¬yt b Ã x): ∃e u T y h q,c8 P (ķ E w sl) n=(ň<|ķ e (w.setChan b J d Ã (j9+1) (r+1) yQ) sl,u)/\e.size=E.size/\e[n]?=À h/\h.status=Ð/\e[j]?=À q/\q.status=Ð/\(∀k,k≠n->k≠j->e[k]?=E[k]?)/\wP u/\ gL P i X (fy (fy S j<|D<|À v) n N) (fy (fy C j y) n T) (fy (fy B j K) n .no) lot e (w.setChan b J d Ã (j9+1) (r+1) yQ) (qJ++u):=by
 have Q:=(Ë.1 F).1;have V:=(Ë.1 t).1;let⟨g0,hF,W,_,_⟩:=o.C n g F;let⟨a,Y,Xb,atr,_⟩:=o.C j p t;rw[f]at W;rw[Jv]at Xb;cases W with
 |gl=>
  rw[hs,ht]at hF;let⟨H,h2,I,h4⟩:=hF _<|fG.fU _ _;let⟨z',I⟩:=I w;rw[Jw,Om]at Y;let⟨l,k2,k3,k4⟩:=Y _<|fG.fU _ _;have C6:p=Γ a #[θ b z] (.recv É):=by
   cases Xb with
   |gl=>rw[O]at l;cases l
   |tu _ _ h=>rfl
   |nh _ _ h=>cases O
  subst C6;have hpn:Η (E.setIfInBounds n ph) b Ã=[(j,0)]:=af0 (by rwa[Ï<|ą G]) U U λk x f hx=>by
   rcases Oi hx with q|⟨_,q⟩
   .rintro⟨e,_⟩;rw[q]at e;cases e
   .exact hp k x f q
  have On:=crowd_send_meets (sl:=sl) F I M G t hpn;let⟨T,hT⟩:=ji h4;let⟨y,hTj⟩:=ji<|k4<|À v;rw[yu H h2,yu l k2]at On;have q:∀{h:c9},h∈Í n g.frame.fn g.frame.place #[]++#[{g:=n,fn:=g.frame.fn,pos:=g.frame.place,act:=.send b j9},{g:=j,fn:=a.frame.fn,pos:=a.frame.place,act:=.recv b r J},{g:=n,fn:=g.frame.fn,pos:=g.frame.place,act:=.sendDone b j9},{g:=j,fn:=a.frame.fn,pos:=a.frame.place,act:=.recvDone b r}]->(h.act.touch?=ë/\∀m,h.act≠Ř m)/\h.act.low w.heap.size:=by intro h e;simp[Í]at e;rcases e with rfl|rfl|rfl|rfl<;>exact⟨⟨U,fp⟩,o.r.N b L⟩
  refine⟨_,_,T,y,{g with frame:=g.frame.finish ľ},{a with frame:=a.frame.finish (ſ #[v,Ľ É])},On,fp,?_,H,?_,l,λk f tw=> ?_,λh e=>(q e).1,?_⟩
  .rw[Ò (by simpa using Q)];rfl
  .rw[Ï<|ą G,Ò V];rfl
  .rw[Ï<|ą f,Ï<|ą tw]
  .have m:gL P i X (fy S j<|D<|À v) (fy C j y) (fy B j K) lot (E.setIfInBounds j {a with frame:=a.frame.finish (ſ #[v,Ľ É])}) w (qJ++#[]):=o.G V (pI.fU _ _ _ _) (λh e=>by simp at e) (λh e=>by simp at e) hTj<|Ç l;rw[ď]at m;refine m.G (by simpa using Q) (Ju L M _ _ _ _ _ _) (λh e=>(q e).1) (λh e=>(q e).2) hT<|Ç H
theorem gL.kO(o:gL P i X S C B lot E w qJ){N:Jd}(I:E[n]?=À g)(K:B n=.no)(ht:C n=.fC)(hs:S n=Jr P (n==0) J N)(L:X J)(hB:i<=J){r:Nat}(O:w.heap[J]?=À (χ j9 q Ã j7 r yQ)): ∃t u T G,c8 P (ķ E w sl) n=(ň<|ķ t (w.setChan J j9 q É j7 r yQ) sl,u)/\t.size=E.size/\t[n]?=À G/\G.status=Ð/\(∀k x,k≠n->E[k]?=À x->t[k]?=À (x.again<|w.setChan J j9 q É j7 r yQ))/\(∀l∈u,l.g=n)/\(∀l∈u,∀b,l.act.touch?=À b->b.loc=.obj J/\b.kind=Ŕ)/\(∀l∈u,∀m,l.act≠Ř m)/\ gL P i X (fy S n N) (fy C n T) B (gu lot n {lot n with w:=w.setChan J j9 q É j7 r yQ}) t (w.setChan J j9 q É j7 r yQ) (qJ++u):=by
 have H:=(Ë.1 I).1;have Q:=o.r.N J L;let⟨g0,hF,V,_,_⟩:=o.C n g I;rw[K]at V;cases V with
 |gl=>
  rw[hs,ht]at hF;let⟨h1,h2,G,M,h4,h5⟩:=hF w<|o.r.r n H;have v:=Ju (lot:=lot) (Live:=λn=>n<E.size) L O j9 j7 r q É yQ;have y:fG (lot n) w (w.setChan J j9 q É j7 r yQ):=⟨dB v.r.symm,λj hj=>v.jN j<|o.r.I n H j hj,λa z=>v.M n H a z,λa z=>v.N n H a z,λa _=>v.I a⟩;let⟨T,hT⟩:=ji<|h5.jV ⟨y.r,y.I,y.N,y.Y,y.S⟩;have W:ŭ (lot n).d (C4 J)=(lot n).d:=bq (λe f=>by simp[C4]at f;grind) _;have D:∀e∈C4 J,(∀b,(è e).touch?=À b->b.loc=.obj J/\b.kind=Ŕ)/\(è e).low w.heap.size:=by
   intro e f;simp[C4]at f;rcases f with rfl|rfl
   .exact⟨λb h=>by simp[è,ÿ]at h;subst h;exact⟨U,U⟩,Q⟩
   .exact⟨λb h=>by simp[è,ÿ]at h,Q⟩
  have e2:fy B n .no=B:=by funext j;unfold fy;split<;>simp[*]
  obtain⟨t,q1,q2,q3,q4,Y⟩:=o.qn I (h4 w j9 q j7 r yQ O) v (by rwa[W]) (Ç M) (λe f=>⟨λb h=>Î ⟨J,((D e f).1 b h).1,L,((D e f).1 b h).2⟩,(D e f).2⟩) (N9 o.r.l nZ λl F b h=>by obtain⟨e,f,rfl⟩:=í F;let⟨z1,z2⟩:=(D e f).1 b h;refine Î (Î ⟨z2,λp a z hl tx=> ?_⟩);have:=o.r.s p a J z (by rw[hl,z1]) tx;omega);rw[W,e2]at Y;refine⟨t,_,T,G,q1,q2,q3,M,λk x K p=> ?_,nZ,λl F b h=> ?_,λl F=> ?_,Y⟩
  .rw[q4 k K,p];simp only[bH,ž];unfold ţ;rw[if_pos (by simp[h2,M])]
  .obtain⟨e,f,rfl⟩:=í F;exact(D e f).1 b h
  .obtain⟨e,f,rfl⟩:=í F;simp[C4]at f;intro m;rcases f with rfl|rfl<;>simp[è]
end
def fN(b:Nat):Ú:=⟨b,0,ë⟩
def gV(b:Nat):Ú:=⟨b,1,ë⟩
inductive GS where
 |cl (c reg:Nat)
 |jB (reg:Nat)
 |gW (r s:Nat)
def GS.st:GS->Int
 |.cl c a=>c*fY+a
 |.jB a=>a
 |.gW _ _=>0
def GS.sm:GS->Int
 |.gW _ s=>s
 |_=>0
def GS.ok:GS->Prop
 |.cl c r=>c<1000000/\r<1000000/\(c=0->r=0)
 |.jB r=>0<r/\r<1000000
 |.gW r s=>r+s<1000000
structure ia(w:Æ)(b:Nat)(G:GS):Prop where
 C:w.cell? (fN b)=À (Ć æ G.st)
 M:w.cell? (gV b)=À (Ć ŗ G.sm)
 I:w.frozen? (fN b)=Ã
 N:w.frozen? (gV b)=Ã
 r:G.ok
theorem Ay(h:w.cell? a=À x):(w.setCell a v).cell? a=À v:=by unfold Ġ at h|-;unfold ĉ;grind
theorem yv(h:a.block≠p.block\/a.off≠p.off):(w.setCell a v).cell? p=w.cell? p:=by unfold Ġ ĉ;grind
theorem Oo:kN (w.setCell a v) b=kN w b:=by unfold kN ĉ;grind
def sr:(w.setCell a v).frozen? p=w.frozen? p:=by simp_all
theorem lh(h:j≠a.block):(w.setCell a v).heap[j]?=w.heap[j]?:=by unfold ĉ;grind
def jT:(w.setCell a v).heap.size=w.heap.size:=by simp_all
theorem yw(h:(w.cell? p).isSome=É):((w.setCell a v).cell? p).isSome=É:=by unfold Ġ ĉ at*;grind
theorem af4{Live Y:Nat->Prop}{c:Nat->fe}(f:Y a.block)(l:a.spot=ë)(m:∀k,Live k->¬(c k).C a)(g:∀k,Live k->∀b,(c k).C b->b.spot=ë):pI Live Y c w (w.setCell a v):=by
 refine⟨jT,λj h=>lh λe=>h<|e▸f,λk i b d=>yv ?_,λ_ _ _ _=>sr,λb d=>yw d⟩;by_cases e:a.block=b.block
 .right;intro n;have:=g k i b d;let⟨o,p,q⟩:=b;let⟨r,s,t⟩:=a;grind
 .exact Ç e
section
variable{b:Nat}{G:GS}
def ia.vg(h:ia w b G)(a:u.cell? (fN b)=w.cell? (fN b))(c:u.cell? (gV b)=w.cell? (gV b))(d:u.frozen? (fN b)=w.frozen? (fN b))(e:u.frozen? (gV b)=w.frozen? (gV b)):ia u b G:= ⟨a.trans h.C,c.trans h.M,d.trans h.I,e.trans h.N,h.r⟩
def ia.iR(h:ia w b G)(c:a.block≠b):ia (w.setCell a v) b G:= h.vg (yv<|Ç c) (yv<|Ç c) sr sr
def ia.Jx{G':GS}(h:ia w b G)(a:G'.sm=G.sm)(d:G'.ok)(e:c=G'.st):ia (w.setCell (fN b)<|Ć æ c) b G':= ⟨by rw[Ay h.C,e],by rw[yv (Î<|by simp[fN,gV]),h.M,a],by rw[sr,h.I],by rw[sr,h.N],d⟩
def ia.Xc{G':GS}(h:ia w b G)(a:G'.st=G.st)(d:G'.ok)(e:c=G'.sm):ia (w.setCell (gV b)<|Ć ŗ c) b G':= ⟨by rw[yv (Î<|by simp[fN,gV]),h.C,a],by rw[Ay h.M,e],by rw[sr,h.I],by rw[sr,h.N],d⟩
end
theorem Jy(a:0<=h)(b:h<18446744073709551616):æ.wrap h=h:=by have:æ.wrap h=h%18446744073709551616:=rfl;rw[this];omega
def af5(a:4294967296<=h)(b:h<18446744073709551616):æ.wrap (h+18446744069414584320)=h-4294967296:=by have:æ.wrap (h+18446744069414584320)=(h+18446744069414584320)%18446744073709551616:=rfl;rw[this];omega
theorem af6(a:0<=h)(b:h<4294967296):ŗ.wrap h=h:=by have:ŗ.wrap h=h%4294967296:=rfl;rw[this];omega
def qo:Int:=18446744069414584320
def GS.jG:GS->GS
 |.cl (c+1) reg=>if c=0/\0<reg then .jB reg else .cl c reg
 |G=>G
section
variable{b:Nat}
theorem ia.af7(h:ia w b (.cl i 0))(a:i+1<1000000):æ.wrap ((GS.cl i 0).st+fY)=(GS.cl (i+1) 0).st/\ia (w.setCell (fN b)<|Ć æ<|æ.wrap<|(GS.cl i 0).st+fY) b (.cl (i+1) 0):=by
 have e:æ.wrap ((GS.cl i 0).st+fY)=(GS.cl (i+1) 0).st:=by simp only[GS.st,fY];grind [Jy]
 exact⟨e,h.Jx (G':=.cl (i+1) 0) U ⟨a,Z,Z⟩ e⟩
def ia.jG(h:ia w b (.cl (i+1) n)):æ.wrap ((GS.cl (i+1) n).st+qo)=(GS.jG<|.cl (i+1) n).st/\ia (w.setCell (fN b)<|Ć æ<|æ.wrap<|(GS.cl (i+1) n).st+qo) b (GS.jG<|.cl (i+1) n):=by
 let⟨f,a,g⟩:=h.r;have d:æ.wrap ((GS.cl (i+1) n).st+qo)=(i:Int)*fY+n:=by simp only[GS.st,fY,qo];rw[af5 Z Z];omega
 have e:æ.wrap ((GS.cl (i+1) n).st+qo)=(GS.jG<|.cl (i+1) n).st:=by
  rw[d];simp only[GS.jG];by_cases q:i=0/\0<n
  .rw[if_pos q];obtain⟨rfl,_⟩:=q;simp[GS.st]
  .rw[if_neg q];rfl
 refine⟨e,h.Jx ?_ ?_ e⟩
 .simp only[GS.jG];split<;>rfl
 .simp only[GS.jG];by_cases q:i=0/\0<n
  .rw[if_pos q];exact⟨q.2,a⟩
  .rw[if_neg q];exact⟨Z,a,λe=>by omega⟩
theorem ia.Xd(h:ia w b (.cl i n))(f:0<i)(a:n+1<1000000):æ.wrap ((GS.cl i n).st+1)=(GS.cl i<|n+1).st/\ia (w.setCell (fN b)<|Ć æ<|æ.wrap<|(GS.cl i n).st+1) b (.cl i (n+1)):=by
 let⟨d,g,j⟩:=h.r;have e:æ.wrap ((GS.cl i n).st+1)=(GS.cl i<|n+1).st:=by simp only[GS.st,fY];grind [Jy]
 exact⟨e,h.Jx (G':=.cl i (n+1)) U ⟨d,a,λe=>by omega⟩ e⟩
def ia.Xe(h:ia w b (.jB i)):ia (w.setCell (fN b)<|Ć æ 0) b (.gW i 0):= h.Jx (G':=.gW i 0) U (by have:=h.r;simp only[GS.ok]at this|-;omega) U
theorem ia.jA{r:Nat}(h:ia w b (.gW (r+1) i)):ia (w.setCell (gV b)<|Ć ŗ<|ŗ.wrap<|(GS.gW (r+1) i).sm+1) b (.gW r (i+1)):=by have:=h.r;simp only[GS.ok]at this;refine h.Xc (G':=.gW r (i+1)) U (by simp only[GS.ok];omega) ?_;simp only[GS.sm];grind [af6]
def ia.kt{r:Nat}(h:ia w b (.gW r (i+1))):ia (w.setCell (gV b)<|Ć ŗ<|(GS.gW r<|i+1).sm-1) b (.gW r i):=by have:=h.r;simp only[GS.ok]at this;refine h.Xc (G':=.gW r i) U (by simp only[GS.ok];omega) ?_;simp only[GS.sm];omega
def ia.af8{G:GS}(h:ia w b G):(0<=G.st/\G.st<fY)↔∀c a,G=.cl c a->c=0:=by
 have d:=h.r;cases G with
 |cl c a=>
  let⟨r,s,f⟩:=d;simp only[GS.st,fY];constructor
  .intro q g i e;cases e;omega
  .intro q;have:=q c a U;subst this;omega
 |jB a=>simp only[GS.ok]at d;simp only[GS.st,fY];exact⟨λ_ _ _ e=>(by cases e),λ_=>by omega⟩
 |gW r s=>simp only[GS.st,fY];exact⟨λ_ _ _ e=>(by cases e),λ_=>by omega⟩
end
inductive jC where
 |jA|iE|gA (W:Nat)|ja (W:Nat)|iB (r:Nat)
inductive jq where
 |iX|lT (p:SP)|wr|kt|gA|kU
section
variable(P:Õ)(main:Bool)(B:Nat)(b:Nat)(J:Jd)
def FO:Nat->Jd
 |0=>J
 |r+1=>λl g=>l.d=1/\afV P main (gV b) (match r with|0=>J|_=>fj P main<|FO r) l g
def Jz(W:Nat):Jd:=λl g=>l.d=1/\afT P main (fN b) 0 (FO P main b J W) l g
def JA(W:Nat):Jd:=λl g=>l.d=1/\W6 P main (fN b) (λv=>if v=(W:Int)then Jz P main b J W else λ_ _=>True) l g
def Oq:Jd:=λl g=>l.d=1/\Oc P main (fN b) qo (λs=>if s=0\/(fY<=s/\s<1000000*fY/\s%fY<1000000)then J else if 0<s/\s<1000000 then fj P main (JA P main b J s.toNat)else λ_ _=>True) l g
def yx:Jd:=λl g=>l.d=0/\FM P main (Ķ<|fN b) (Oq P main b J) l g
def C7:jC->Jd
 |.jA=>yx P main b J
 |.iE=>Oq P main b J
 |.gA W=>JA P main b J W
 |.ja W=>Jz P main b J W
 |.iB r=>FO P main b J r
def FP:Jd:=λl g=>l.d=0/\FM P main (cO<|fN b) J l g
def Xf:Jd:=λl g=>l.d=1/\W6 P main (fN b) (λv=>if v=0 then FP P main b J else λ_ _=>True) l g
def JB:Jd:=λl g=>l.d=1/\afU P main (gV b) (Xf P main b J) l g
def Ot:Jd:=λl g=>l.d=1/\FM P main (.write<|gV b) (JB P main b J) l g
def Ou(p:SP):Jd:=λl g=>l.d=1/\C5 P main (fN b) B (λ_=>FP P main b J) (λv=>if v%fY=0 then Ot P main b J else JB P main b J) p l g
def qp:jq->Jd
 |.iX=>λl g=>∃k,k<=B/\Ou P main B b J (.gd k) l g
 |.lT p=>Ou P main B b J p
 |.wr=>Ot P main b J
 |.kt=>JB P main b J
 |.gA=>Xf P main b J
 |.kU=>FP P main b J
end
section
variable{P:Õ}{Y:Nat->Prop}{S:Nat->Jd}{tr:Nat->gw}{f:Nat->iA}{lot:Nat->fe}{gs:Array Ó}{t:ğ}
theorem iQ.C{Live:Nat->Prop}(h:iQ n Live Y lot w t)(E:Live i){l:fe}(s:∀b,l.O b->(lot i).O b) (x:∀b,l.I b->(lot i).M b\/(b<w.heap.size/\¬Y b/\(∀k,Live k->¬(lot k).O b)/\∀a:Ú,a.block=b->oU t i (û a))) (u:∀a,l.r a->(lot i).r a) (y:∀a,l.N a->(lot i).C a\/(Y a.block/\(∀k,Live k->¬(lot k).r a)/\oU t i (û a))) (F:l.K=(lot i).K) (D:l.d=(lot i).d) (G:l.w=w) (H:∀b,l.O b->¬l.I b) (I:∀a,l.r a->¬l.N a):iQ n Live Y (gu lot i l) w t:=by
 have v:∀b,l.M b->(lot i).M b\/(b<w.heap.size/\¬Y b/\(∀k,Live k->¬(lot k).O b)/\∀a:Ú,a.block=b->oU t i (û a)):=λb g=>g.elim (λq=>Ç<|Ç<|s b q)<|x b;have B:∀a,l.C a->(lot i).C a\/(Y a.block/\(∀k,Live k->¬(lot k).r a)/\oU t i (û a)):=λa f=>f.elim (λq=>Ç<|Ç<|u a q)<|y a;refine⟨λk j c o m b g=> ?_,λk j c o m a f=> ?_,λk c b g=> ?_,λk c a f=> ?_,λk c b g=> ?_,λk c a f=> ?_,λk c b g=> ?_,h.N,λk c=> ?_,λk c=> ?_,λk c=> ?_,h.l,h.q,h.s,λk c a f=> ?_⟩
 .by_cases e:k=i
  .subst e;rw[gT]at g;rw[gF lot _<|ą m];exact h.o k j c o m b<|s b g
  .rw[gF lot _ e]at g;by_cases p:j=i
   .subst p;rw[gT];intro q;rcases v b q with z|⟨_,_,z,_⟩
    .exact h.o k j c o m b g z
    .exact z k c g
   .rw[gF lot _ p];exact h.o k j c o m b g
 .by_cases e:k=i
  .subst e;rw[gT]at f;rw[gF lot _<|ą m];exact h.h k j c o m a<|u a f
  .rw[gF lot _ e]at f;by_cases p:j=i
   .subst p;rw[gT];intro q;rcases B a q with z|⟨_,z,_⟩
    .exact h.h k j c o m a f z
    .exact z k c f
   .rw[gF lot _ p];exact h.h k j c o m a f
 .by_cases e:k=i
  .grind [gT]
  .rw[gF lot _ e]at g|-;exact h.m k c b g
 .by_cases e:k=i
  .grind [gT]
  .rw[gF lot _ e]at f|-;exact h.g k c a f
 .by_cases e:k=i
  .subst e;rw[gT]at g;exact(v b g).elim (h.I k c b) λz=>z.2.1
  .rw[gF lot _ e]at g;exact h.I k c b g
 .by_cases e:k=i
  .subst e;rw[gT]at f;exact(B a f).elim (h.e k c a) λz=>z.1
  .rw[gF lot _ e]at f;exact h.e k c a f
 .by_cases e:k=i
  .subst e;rw[gT]at g;exact(v b g).elim (h.fx k c b) λz=>z.1
  .rw[gF lot _ e]at g;exact h.fx k c b g
 .by_cases e:k=i
  .grind [gT,fG.fU]
  .rw[gF lot _ e];exact h.r k c
 .by_cases e:k=i
  .subst e;rw[gT];refine⟨λa f=>(h.S k c).fq a<|s _ f,λa f=> ?_,λa f=>(h.S k c).I a<|u a f,λa f=> ?_⟩
   .rcases x _ f with(z|z)|⟨_,_,_,z⟩
    .exact((h.S k c).fq a z).r
    .exact(h.S k c).C a z
    .exact z a U
   .rcases y _ f with(z|z)|⟨_,_,z⟩
    .exact((h.S k c).I a z).r
    .exact(h.S k c).r a z
    .exact z
  .rw[gF lot _ e];exact h.S k c
 .by_cases e:k=i
  .subst e;rw[gT,D];exact h.f k c
  .rw[gF lot _ e];exact h.f k c
 .have e:(lot k).K a:=by
   grind [gT,gF]
  let⟨p,q⟩:=h.n k c a e;grind [gT,gF]
def gL.M(b:gL P n Y S tr f lot gs w t){J:Jd}{T:gw}{K:iA}{l:fe}(c:gs[i]?=À g)(d:g.status=Ð\/g.status=Ğ)(h:iQ n (λi=>i<gs.size) Y (gu lot i l) w t)(hF:kT P (i==0) J T l g): gL P n Y (fy S i J) (fy tr i T) (fy f i K) (gu lot i l) gs w t:=by
 refine⟨h,λk x a=> ?_,b.I⟩;by_cases e:k=i
 .subst e;rw[c]at a;obtain rfl:=Ĥ a;rw[gD,gD,gD,gT];exact⟨g,hF,.gl,d,Ç U⟩
 .rw[fI S _ e,fI tr _ e,fI f _ e,gF lot _ e];exact b.C k x a
end
end Go.Proofs.Y.fv
namespace Go.Proofs.Y.fv
open Go Go.Conc Go.Proofs.Y.Lift
open Go.ConcN (RelBy fork_knows)
def Az(t:ğ)(p:Nat)(l:dT):Prop:=∀q a,Ě t q=À a->a.loc=l->a.write=É->Before t q p
theorem Az.Ov{u:ğ}{l:dT}(h:Az qJ i l)(j:∀c∈u,∀b,c.act.touch?=À b->b.loc=l->b.write=É->False):Az (qJ++u) i l:=by
 intro q a e f g;rcases mM e with⟨_,d⟩|⟨_,c,d,k,_⟩
 .exact(h q a d f g).app u
 .grind
def Az.af9{l:dT}(h:Az qJ i l)(b:bD qJ n i):oU qJ n l:=λq a c d e=>Knows.of_before (h q a c d e) b
theorem aga{l:dT}(h:oU qJ i l)(c:wQ.g=i)(j:wQ.act.touch?=ë):Az (qJ++#[wQ]) qJ.size l:=by
 intro q a d e f;rcases mM d with⟨_,b⟩|⟨_,k,b,m,_⟩
 .exact Î<|(h q a b e f).hb_new (ß _) (by rw[ć<|ß _];simp) c
 .grind
structure Fx where
 L:Nat
 m:Nat
 C:Nat
 I:Nat->Nat
def Fx.M(F:Fx)(b:Nat):Prop:=b=F.C\/∃k,k<=F.m/\b=F.I k
def Fx.G(F:Fx)(x:Ú):Prop:=∃b,F.M b/\(x=fN b\/x=gV b)
def jd(F:Fx)(k:Nat):Ú:=⟨F.I k,2,ë⟩
def Fx.Ow(F:Fx)(a:Nat->Option Nat)(x:Ú)(g:Option Nat):Prop:=(x=gV F.C/\g=À 0)\/∃k j,k<=F.m/\x=gV (F.I k)/\a k=À j/\g=À (F.L+1+j)
structure TI(F:Fx)(t0:Nat)(jj:dT->Prop)(sp rl:Nat)(V:Nat->Nat->Prop)(pk:Nat->Nat)(fs:Nat->Option Nat)(rx:Nat->Prop)(ql:Nat->Nat)(t:ğ):Prop where
 N:t0<=t.size
 M:∀p a x,Ě t p=À a->a.loc=û x->F.G x->(p<t0/\t.g? p=À 0)\/a.kind=Ŕ\/(a.kind=.said/\F.Ow fs x (t.g? p))
 AA:∀x,x<sp->∀p,p<t0->t.g? p=À 0->bD t (F.L+x) p
 Y:∀k,1<=k->k<=rl->t.act? (pk k)=À (Ř<|Ķ<|fN<|F.I k)/\t.g? (pk k)=À F.L/\t.heard (pk k)
 I:∀k,1<=k->k<=rl->∀a:Ú,(V k a.block\/a=jd F k)->Az t (pk k) (û a)
 c:∀b,F.M b->NoRelease (fN b) t
 r:∀x,x<sp->rx x->RelBy (fN F.C) t (F.L+x) (ql x)/\∀p a,Ě t p=À a->t.g? p=À (F.L+x)->p<=ql x\/((∃y:Ú,a.loc=û y/\y.block=F.C)/\a.kind=Ŕ)
 S:∀p a,t0<=p->Ě t p=À a->t.g? p=À 0\/∃x,x<sp/\t.g? p=À (F.L+x)
 e:∀p a,p<t0->Ě t p=À a->a.loc.isMemory=É->bD t 0 p\/(jj a.loc/\a.kind=Ŕ)
 d:∀p g,p<t0->t.g? p=À g->g≠0->t.counts p->∃j,t.g? j=À 0/\HappensBefore t p j
section
variable{F:Fx}{t0:Nat}{jj:dT->Prop}{sp rl:Nat}{V:Nat->Nat->Prop}{pk:Nat->Nat}{fs:Nat->Option Nat}{rx:Nat->Prop}{ql:Nat->Nat}{t u:ğ}
theorem JC(h:t.g? i=À n):i<t.size:=by unfold Ņ at h;grind
def FQ(h:t.g? i=À n):(t++u).g? i=À n:=by rwa[aG<|JC h]
theorem Ox{a:dO}(h:Ě t i=À a):i<t.size:=by let⟨b,c,_⟩:=dP h;grind
structure JD(F:Fx)(sp rl:Nat)(V:Nat->Nat->Prop)(fs:Nat->Option Nat)(rx:Nat->Prop)(t u:ğ)(i:Nat):Prop where
 C:∀op∈u,∀a,op.act.touch?=À a->op.g=i
 S:i=0\/(∃x,x<sp/\i=F.L+x)\/∀op∈u,op.act.touch?=ë
 M:∀op∈u,∀a x,op.act.touch?=À a->a.loc=û x->F.G x->a.kind=Ŕ\/(a.kind=.said/\F.Ow fs x (À i))
 fM:∀op∈u,∀(a:dO) (y:Ú),op.act.touch?=À a->a.write=É->a.loc=û y->∀k,1<=k->k<=rl->¬V k y.block/\y≠jd F k
 N:∀op∈u,∀b,F.M b->op.act≠Ř (dQ<|fN b)
 I:∀x,x<sp->rx x->(∀r,RelBy (fN F.C) t (F.L+x) r->RelBy (fN F.C) (t++u) (F.L+x) r)/\(F.L+x=i->∀op∈u,∀a,op.act.touch?=À a->(∃y:Ú,a.loc=û y/\y.block=F.C)/\a.kind=Ŕ)
def TI.C(h:TI F t0 jj sp rl V pk fs rx ql t)(f:JD F sp rl V fs rx t u i):TI F t0 jj sp rl V pk fs rx ql (t++u) where
 N:=by rw[Array.size_append];have:=h.N;omega
 M p a x n y hc:=by
  rcases mM n with⟨d,c⟩|⟨d,m,c,l,j⟩
  .rw[aG d];exact h.M p a x c y hc
  .refine Î ((f.M m c a x l y hc).imp id λq=>⟨q.1,?_⟩);have:(t++u).g? p=À i:=by unfold Ņ;rw[j];simp[f.C m c a l]
   rw[this];exact q.2
 AA x r p d o:=(h.AA x r p d<|by rwa[aG<|Ô d h.N]at o).app u;Y k c l:=by let⟨v,s,b⟩:=h.Y k c l;have w:=JC s;exact⟨by rwa[dR w],FQ s,(heard_old w).2 b⟩
 I k c l a n:=(h.I k c l a n).Ov λm B b z y C=>by have:=f.fM m B b a z C y k c l;exact n.elim this.1 this.2
 c b z:=(h.c b z).app λm B=>f.N m B b z;r x r hr:=by
  let⟨v,s⟩:=h.r x r hr;let⟨D,E⟩:=f.I x r hr;refine⟨D _ v,λp a n o=> ?_⟩;rcases mM n with⟨d,c⟩|⟨d,m,c,l,j⟩
  .exact s p a c<|by rwa[aG d]at o
  .have e:(t++u).g? p=À i:=by unfold Ņ;rw[j];simp[f.C m c a l]
   rw[e]at o;exact Î<|E (Ĥ o).symm m c a l
 S p a d n:=by
  rcases mM n with⟨D,c⟩|⟨_,m,c,l,j⟩
  .rw[aG D];exact h.S p a d c
  .have e:(t++u).g? p=À i:=by unfold Ņ;rw[j];simp[f.C m c a l]
   rw[e];rcases f.S with q|⟨x,r,q⟩|q
   .exact Ç<|by rw[q]
   .exact Î ⟨x,r,by rw[q]⟩
   .rw[q m c]at l;cases l
 e p a d n hm:=by rw[touchAt_old<|Ô d h.N]at n;exact(h.e p a d n hm).imp (·.app u) id
 d p g d o lr hc:=by have w:=Ô d h.N;rw[aG w]at o;rw[ep w]at hc;let⟨j,v,s⟩:=h.d p g d o lr hc;exact⟨j,FQ v,ei u s⟩
theorem yy(f:∀c∈u,c.act.touch?=ë)(h:∀c∈u,∀b,F.M b->c.act≠Ř (dQ<|fN b)):JD F sp rl V fs rx t u 0 where
 C c e a d:=by rw[f c e]at d;cases d
 S:=Ç U;M c e a x d:=by rw[f c e]at d;cases d
 fM c e a y d:=by rw[f c e]at d;cases d
 N:=h;I x hx g:=by refine⟨λr g=>g.app λj l m i=> ?_,λ_ c e a d=>by rw[f c e]at d;cases d⟩;let⟨z,k,_⟩:=i;rcases mM k with⟨q,_⟩|⟨_,c,n,o,_⟩;all_goals grind
def TI.agb(h:TI F t0 jj sp rl V pk fs rx ql t){b:Nat->Option Nat}(c:∀k y,fs k=À y->b k=À y):TI F t0 jj sp rl V pk b rx ql t:= {h with M:=λp a x d e f=>(h.M p a x d e f).imp id (Or.imp id λq=>⟨q.1,q.2.imp id λ⟨k,j,g,i,l,m⟩=>⟨k,j,g,i,c k j l,m⟩⟩)}
theorem TI.FR(h:TI F t0 jj sp rl V pk fs rx ql t){y:c9}(j:wQ.g=0/\wQ.act=.go (F.L+sp))(k:y.g=F.L+sp/\y.act=.start)(m:Τ t 0=0)(n:Τ t (F.L+sp)=0)(B:¬rx sp)(o:∀wQ,rx wQ->wQ<sp):TI F t0 jj (sp+1) rl V pk fs rx ql (t++#[wQ,y]):=by
 have q:∀c∈#[wQ,y],c.act.touch?=ë:=by
  intro c a;simp at a;rcases a with rfl|rfl
  .rw[j.2];rfl
  .rw[k.2];rfl
 have r:∀c∈#[wQ,y],∀b,F.M b->c.act≠Ř (dQ<|fN b):=by grind
 have d:=h.C<|yy q r;refine{d with AA:=λz s p f i=> ?_,r:=λz s l=>d.r z (o z l) l,S:=λp a f u=>((d.S p a f u).imp id λ⟨z,v,e⟩=>⟨z,Z,e⟩)}
 .by_cases e:z<sp
  .exact d.AA z e p f i
  .obtain rfl:z=sp:=Z
   rw[aG<|Ô f h.N]at i;let⟨c,v,w⟩:=ģ.1 i;have:=bn v;rw[w]at this;exact cR j k m n this
theorem agc{y:c9}(d:wQ.g=0/\wQ.act=.go k)(e:y.g=k/\y.act=.start)(j:Τ t 0=0)(m:Τ t k=0){l:dT}:(qm t 0 l->qm (t++#[wQ,y]) k l)/\(oU t 0 l->oU (t++#[wQ,y]) k l):=by
 have q:∀c∈#[wQ,y],c.act.touch?=ë:=by
  intro c a;simp at a;rcases a with rfl|rfl
  .rw[d.2];rfl
  .rw[e.2];rfl
 refine⟨λh p a f i=> ?_,λh p a f i n=> ?_⟩
 .rcases mM f with⟨_,b⟩|⟨_,c,b,o,_⟩
  .exact cR d e j m<|h p a b i
  .grind
 .rcases mM f with⟨_,b⟩|⟨_,c,b,o,_⟩
  .exact cR d e j m<|h p a b i n
  .grind
theorem TI.agd(h:TI F t0 jj sp rl V pk fs rx ql t)(f:wQ.g=F.L)(i:wQ.act=Ř (Ķ<|fN<|F.I<|rl+1))(l:Τ t F.L=0)(q:∀a:Ú,(V (rl+1) a.block\/a=jd F (rl+1))->oU t F.L (û a)): TI F t0 jj sp (rl+1) V (fy pk (rl+1) t.size) fs rx ql (t++#[wQ]):=by
 have m:∀c∈#[wQ],c.act.touch?=ë:=by
  intro c e;have:c=wQ:=by simpa using e
  rw[this,i];rfl
 have d:=h.C (yy m λc e b _=>by grind);have n:(t++#[wQ])[t.size]?=À wQ:=by rw[ć<|ß _];simp
 have j:∀k,k<=rl->fy pk (rl+1) t.size k=pk k:=λk r=>fI pk _ Z;refine{d with Y:=λk b o=> ?_,I:=λk b o a p=> ?_}
 .by_cases e:k=rl+1
  .subst e;rw[gD];exact⟨by rw[eC n,i],by simp[Ņ,f],⟨F.L,by simp[Ņ,f],by rwa[cQ<|ß _]⟩⟩
  .rw[j k Z];exact d.Y k b Z
 .by_cases e:k=rl+1
  .grind [gD,aga]
  .rw[j k Z];exact d.I k b Z a p
theorem TI.agf(h:TI F t0 jj sp rl V pk fs rx ql t){x:Nat}(r:x<sp)(d:wQ.g=F.L+x)(f:wQ.act=Ř (Ķ<|fN F.C))(k:Τ t (F.L+x)=0)(s:¬rx x): TI F t0 jj sp rl V pk fs (λz=>rx z\/z=x) (fy ql x t.size) (t++#[wQ]):=by
 have l:∀c∈#[wQ],c.act.touch?=ë:=by
  intro c a;have:c=wQ:=by simpa using a
  rw[this,f];rfl
 have j:=h.C (yy l λc a b _=>by grind);have b:(t++#[wQ])[t.size]?=À wQ:=by rw[ć<|ß _];simp
 refine{j with r:=λz m n=> ?_};by_cases e:z=x
 .subst e;rw[gD];refine⟨⟨by rw[eC b,f],by simp[Ņ,d],⟨F.L+z,by simp[Ņ,d],by rwa[cQ<|ß _]⟩,λi u o=> ?_⟩,λp a q _=>Ç ?_⟩
  .have:=JC o;simp at this;omega
  .have:=Ox q;simp at this;omega
 .rw[fI ql _ e];exact j.r z m<|n.resolve_right e
def Xg(e:t.act? i=À (Ř<|Ķ a))(f:t.g? i=À k)(h:t.heard i)(l:NoRelease a t)(c:wQ.g=n)(m:wQ.act=Ř (cO a))(o:Τ t n=0):bD (t++#[wQ]) n i:=by
 have b:=JC f;have d:(t++#[wQ])[t.size]?=À wQ:=by rw[ć<|ß _];simp
 refine⟨t.size,wQ,d,c,Î<|.single<|Î ⟨.marked b (Î<|by rwa[dR b]) (by rw[eC d,m]) λj _ q=> ?_,(heard_old b).2 h,⟨n,by simp[Ņ,c],by rwa[cQ<|ß _]⟩⟩⟩;rw[dR q];exact l j
theorem TI.kO(h:TI F t0 jj sp rl V pk fs rx ql t)(G:wQ.g=0)(o:wQ.act=Ř (cO<|fN F.C))(H:Τ t 0=0)(k:∀x,x<sp->rx x): (∀p a,Ě (t++#[wQ]) p=À a->a.loc.isMemory=É->bD (t++#[wQ]) 0 p\/((jj a.loc\/∃x:Ú,a.loc=û x/\x.block=F.C)/\a.kind=Ŕ))/\(t++#[wQ]).HandedOver:=by
 have Q:wQ.act.touch?=ë:=by rw[o];rfl
 have s:=λx c=>by let⟨b,_⟩:=h.r x c<|k x c;exact Xg b.act b.g b.heard (h.c _<|Ç U) G o H
 have u:∀p a,Ě (t++#[wQ]) p=À a->p<t.size/\Ě t p=À a:=λp a l=>by rcases mM l with q|⟨_,v,d,w,_⟩;all_goals grind
 have B:∀p q x,t.g? p=À (F.L+x)->t.g? q=À (F.L+x)->p<=q->Before (t++#[wQ]) p q:=λp q x d w S=>by
  rcases Nat.lt_or_ge p q with f|i
  .exact Î<|.single<|Ç ⟨f,_,FQ d,FQ w⟩
  .exact Ç Z
 refine⟨λp a l I=> ?_,λp g C J K=> ?_⟩
 .let⟨f,d⟩:=u p a l;by_cases e:p<t0
  .rcases h.e p a e d I with q|⟨b,i⟩
   .exact Ç<|q.app _
   .grind
  .rcases h.S p a Z d with q|⟨x,c,q⟩
   .let⟨v,m,n⟩:=ģ.1 q;have:=bn m;rw[n]at this;exact Ç<|this.app _
   .let⟨b,i⟩:=h.r x c<|k x c;rcases i p a d q with z|⟨j,P⟩
    .exact Ç<|Knows.of_before (B p (ql x) x q b.g z)<|s x c
    .grind
 .let⟨z,D,M,N⟩:=K;let⟨f,d⟩:=u p z D;have O:t.g? p=À g:=by rwa[aG f]at C
  have E:=(ep f).1 ⟨z,D,M,N⟩;by_cases e:p<t0
  .let⟨j,b,i⟩:=h.d p g e O J E;exact⟨j,FQ b,ei _ i⟩
  .rcases h.S p z Z d with q|⟨x,c,q⟩
   .grind
   .let⟨b,_⟩:=h.r x c<|k x c;let⟨r,v,m,n,i⟩:=s x c;have j:(t++#[wQ]).g? r=À 0:=by unfold Ņ;rw[m];simp[n]
    refine⟨r,j,?_⟩;rcases(B p (ql x) x q b.g<|Nat.le_of_not_lt λP=>b.after p P q E).trans i with P|P;all_goals grind
end
end Go.Proofs.Y.fv
namespace Go.Proofs.Y.fv
open Go Go.Conc Go.Proofs.Y.Lift
open Go.ConcN (sumTo)
structure Ph extends Fx where
 P:Õ
 S:Nat
 n:Nat
 q:Nat
 Y:Nat
 f:Nat
 r:Nat->Nat
 a:Nat->Nat
 b:Nat->Nat
 c:Nat->Â
 z:Â
 B:Nat
 γ:Type
 l:γ
 i:Nat->Prop
 p:Nat->γ->γ->Prop
 d:Nat->γ->(Nat->Prop)->Æ->Prop
 o:Nat->ByteArray
 k:Nat->ByteArray
 g:Nat->(Nat->Nat)->Jd
 h:Nat->Jd
 e:Nat->Nat->Jd
 j:(Nat->Nat)->Jd
inductive nj(F:Ph):Nat->F.γ->Prop
 |u9:nj F 0 F.l
 |C8 {k:Nat} {s s':F.γ} (h:nj F k s) (hn:F.p k s s'):nj F (k+1) s'
def jk(F:Ph)(p:Nat):Ú:=⟨F.Y,p,ë⟩
inductive fV where
 |go (j:Nat)|lu (j:Nat)|rd (j:Nat)|iE (j:Nat)|iJ (r:Nat)|kO (r:Nat)|fA (p:jq)|gf
inductive jv where
 |kG (k:Nat)|mk (k:Nat)|dn (k:Nat) (p:jC)
inductive gM where
 |ni (r:Nat)|fA (r:Nat) (p:jq)|jF (r:Nat)|ng (r:Nat)
inductive ik where
 |oy|gf (p:jC)|jo (N:Nat)
section
variable(F:Ph)
def FT:Jd:=λl g=>∃N,QuitsD F.P N l.d g
def ku(l:fe):fe:={l with O:=λ_=>False,I:=λ_=>False,r:=λ_=>False,N:=λ_=>False,q:=True}
def AB:Jd:=λl g=>C7 F.P Ã F.C (FT F) .jA (ku l) g
def C9(c j r:Nat):Jd:=wN F.P Ã c F.z λx=>match x with
 |some v=>λl g=>v=F.c (j+r*F.n)->qp F.P Ã F.B (F.I<|F.r<|j+r*F.n) (F.e c<|j+r*F.n) .iX l g
 |none=>AB F
def vh(l:fe)(i:Nat):fe:={l with r:=λa=>l.r a/\a≠jk F (F.a i),N:=λa=>l.N a\/a=jk F (F.a i)}
def pJ(l:fe)(k:Nat):fe:={l with O:=λ_=>False,I:=l.M,r:=λa=>l.r a/\a≠jk F (F.b k)/\a≠jd F.toFx k,N:=λa=>l.N a\/a=jk F (F.b k)\/a=jd F.toFx k}
def JW(c j:Nat):gM->Jd
 |.ni r=>C9 F c j r
 |.fA r p=>qp F.P Ã F.B (F.I<|F.r<|j+r*F.n) (F.e c<|j+r*F.n) p
 |.jF r=>F.e c<|j+r*F.n
 |.ng r=>λl g=>l.w.cell? (jk F<|F.a<|j+r*F.n)=À (ħ<|F.k<|j+r*F.n)/\C9 F c j (r+1) (vh F l<|j+r*F.n) g
def JI(sg:Nat->F.γ):jv->Jd
 |.kG k=>F.h k
 |.mk k=>λl g=>∃p V,F.p (k-1) (sg<|k-1) p/\F.d k p V l.w/\(∀b,V b->l.M b)/\l.w.cell? (jk F<|F.b k)=À (ħ<|F.o k)/\C7 F.P Ã (F.I k) (fj F.P Ã<|F.h k) .jA (pJ F l k) g
 |.dn k p=>C7 F.P Ã (F.I k) (fj F.P Ã<|F.h k) p
def JE:ik->Jd
 |.oy=>AB F
 |.gf p=>C7 F.P Ã F.C (FT F) p
 |.jo N=>oV F.P N
def JF(j:Nat)(a:Nat->Nat):Jd:=λl g=>∃c,F.g j (fy a (j-1) c) l g
def Xh(j:Nat)(a:Nat->Nat):Jd:=λl g=>l.d=1/\FM F.P É (.read<|gV F.C) (JF F j a) l g
def Oy(j:Nat)(a:Nat->Nat):Jd:=λl g=>l.d=1/\Oc F.P É (fN F.C) fY (λs=>if s=fY then fj F.P É (Xh F j a)else if fY<s/\s<1000000*fY/\s%fY=0 then fj F.P É (JF F j a)else λ_ _=>True) l g
def AF(a:Nat->Nat):Nat->Jd
 |0=>qp F.P É F.B F.C (F.j a) .iX
 |r+1=>Jr F.P É (a<|F.n-(r+1))<|AF a r
def FU(a:Nat->Nat):Nat->Jd
 |0=>AF F a F.n
 |r+1=>Ax F.P É (a<|(F.q-(r+1))%F.n) (F.c<|F.q-(r+1))<|FU a r
def JM(dk:Nat->Nat):fV->Jd
 |.go j=>F.g j dk
 |.lu j=>JF F j dk
 |.rd j=>Xh F j dk
 |.iE j=>Oy F j dk
 |.iJ r=>FU F dk r
 |.kO r=>AF F dk r
 |.fA p=>qp F.P É F.B F.C (F.j dk) p
 |.gf=>F.j dk
def lM(x:Nat)(a:Ú):Prop:=if x=0 then(∃k,1<=k/\k<=F.m/\(a=jd F.toFx k\/a=jk F (F.b k)))else∃i,i<F.q/\i%F.n=x-1/\a=jk F (F.a i)
end
def fV.sp(n:Nat):fV->Nat
 |.go j|.lu j|.rd j|.iE j=>j
 |_=>n+1
def fV.ad(n:Nat):fV->Nat
 |.iE j=>j
 |.go j|.lu j|.rd j=>j+1
 |_=>n+1
def fV.mr(q:Nat):fV->Nat
 |.go _|.lu _|.rd _|.iE _=>0
 |.iJ r=>q-r
 |_=>q
def fV.jc(n:Nat):fV->Nat
 |.kO r=>n-r
 |.fA _|.gf=>n
 |_=>0
def jq.su:jq->Nat
 |.wr|.kt=>1
 |_=>0
def fV.gC:fV->Nat
 |.fA p=>p.su
 |_=>0
def jC.kH:jC->Nat
 |.jA|.iE=>1
 |_=>0
def ik.kH:ik->Nat
 |.oy=>1
 |.gf p=>p.kH
 |_=>0
def ik.n5:ik->Prop
 |.oy=>False
 |_=>True
def lU:Option ik->Nat
 |none=>1
 |some e=>e.kH
def jC.iw:jC->Prop
 |.jA=>False
 |_=>True
def ik.iw:ik->Prop
 |.oy=>False
 |.gf p=>p.iw
 |_=>True
def jv.md:jv->Nat
 |.kG k=>k
 |.mk k=>k-1
 |.dn k _=>k
def jv.rl:jv->Nat
 |.kG k=>k
 |.mk k=>k-1
 |.dn k .jA=>k-1
 |.dn k _=>k
def jv.od:jv->Nat
 |.kG k=>k
 |.mk k=>k-1
 |.dn k .jA|.dn k .iE=>k-1
 |.dn k _=>k
def gM.iL:gM->Nat
 |.ni r=>r
 |.fA r _|.jF r|.ng r=>r+1
def gM.kv:gM->Nat
 |.ni r|.fA r _|.jF r|.ng r=>r
def gM.gC(F:Ph)(j:Nat)(k:Nat):gM->Nat
 |.fA r p=>if F.r (j+r*F.n)=k then p.su else 0
 |_=>0
structure fT(F:Ph) where
 M:fV
 S:jv
 C:Nat->gM
 N:Nat->Option ik
 I:Nat->Nat
 c:Nat->F.γ
 V:Nat->Nat->Prop
 e:Nat->Nat
 d:Nat->Option Nat
 f:Nat->Nat
 b:GS
 a:Nat->GS
 g:Option Nat
 h:Nat->Nat
section
variable{F:Ph}
def fT.r(E:fT F):Nat:=E.M.sp F.n
def fT.G(E:fT F)(x:Nat):Nat:=if x<E.M.ad F.n then lU (E.N x)else 0
def fT.iw(E:fT F)(x:Nat):Prop:=∃e,E.N x=À e/\e.iw
def fT.n5(E:fT F)(x:Nat):Prop:=∃e,E.N x=À e/\e.n5
def fT.Y(E:fT F)(b:Nat):Prop:=F.M b\/b=F.Y\/∃j,j+2<=E.r/\b=E.I j
def tA(n j Q s:Nat):Prop:=∀i,i<s↔j+i*n<Q
def kM:fV->iA
 |.fA .kt=> .iB
 |_=> .no
def kW(F:Ph)(c:Nat):gM->iA
 |.ni _=> .sk c F.z
 |.fA _ .kt=> .iB
 |_=> .no
end
structure Ph.Ok(F:Ph):Prop where
 N:1<=F.n
 r:1<=F.L
 gh:F.n+F.q+F.m<1000
 I:∀i,i<F.q->F.r i<=F.m
 M:∀k,k<=F.m->F.I k≠F.C
 S:∀k k',k<=F.m->k'<=F.m->F.I k=F.I k'->k=k'
 C:¬F.M F.Y
 a:∀i i',i<F.q->i'<F.q->F.a i=F.a i'->i=i'
 pi:∀k k',1<=k->k<=F.m->1<=k'->k'<=F.m->F.b k=F.b k'->k=k'
 Oz:∀i k,i<F.q->1<=k->k<=F.m->F.a i≠F.b k
 gq:∀b,F.M b\/b=F.Y->F.S<=b
 Y:(∀k,1<=k->k<=F.m->F.b k≠F.f)/\∀i,i<F.q->F.a i≠F.f
structure iH(F:Ph)(E:fT F)(lot:Nat->fe)(sz:Nat)(w:Æ):Prop where
 gS:∀i,i<sz->∀a,(lot i).C a->(∃k,k<=F.m/\a=jd F.toFx k)\/∃p,p≠F.f/\a=jk F p
 o:∀x,E.r<=x->x<=F.n->∀a,lM F x a->(lot 0).r a
 lJ:E.r<=F.n->(lot 0).N (jd F.toFx 0)/\∀b,F.i b->(lot 0).I b
 e:0<E.r->∀k,E.S.md<k->k<=F.m->(lot F.L).r (jd F.toFx k)/\(lot F.L).r (jk F<|F.b k)
 f:0<E.r->E.N 0=ë->(lot F.L).N (jd F.toFx E.S.md)/\∀b,E.V E.S.md b->(lot F.L).I b
 h:∀j,j+2<=E.r->E.N (j+1)=ë->∀r,j+r*F.n<F.q->(E.C j).kv<=r->(lot<|F.L+1+j).r (jk F<|F.a<|j+r*F.n)
 l:∀j,j+2<=E.r->E.N (j+1)=ë->(lot<|F.L+1+j).N (jd F.toFx 0)/\∀b,F.i b->(lot<|F.L+1+j).I b
 S:∀x,E.n5 x->lot (F.L+x)=ku (lot<|F.L+x)
 M:∀i,(i=0\/∃x,x<E.r/\i=F.L+x/\¬E.n5 x)->¬(lot i).q
 c:∀i,0<i->i<F.L->lot i=ku (lot i)
 I:∀k,k<=E.S.md->∀b,E.V k b->b<w.heap.size/\¬E.Y b/\∀i,i<sz->¬(lot i).O b
 N:∀k,k<=E.S.md->∀i,i<sz->¬(lot i).r (jd F.toFx k)
 g:∀k,1<=k->k<=E.S.md->∀i,i<sz->¬(lot i).r (jk F<|F.b k)
 d:∀j,j+2<=E.r->∀r,j+r*F.n<F.q->r<(E.C j).kv->∀i,i<sz->¬(lot i).r (jk F<|F.a<|j+r*F.n)
structure Wd(F:Ph)(E:fT F)(w:Æ):Prop where
 C:ia w F.C E.b
 I:∀k,k<=F.m->ia w (F.I k) (E.a k)
 jD:∀j,j+2<=E.r->∃buf s,w.heap[E.I j]?=À (χ F.q buf (decide<|j<E.M.jc F.n) s (E.C j).iL Ã)/\tA F.n j (E.M.mr F.q) s/\(E.C j).iL<=s/\buf.size=s-(E.C j).iL/\∀i,i<s-(E.C j).iL->buf[i]?=À (F.c<|j+((E.C j).iL+i)*F.n)
 M:∀k,k<=E.S.md->nj F k (E.c k)/\F.d k (E.c k) (E.V k) w
 S:∀k,1<=k->k<=E.S.md->w.cell? (jk F<|F.b k)=À (ħ<|F.o k)
 N:∀j,j+2<=E.r->∀r,j+r*F.n<F.q->r<(E.C j).kv->w.cell? (jk F<|F.a<|j+r*F.n)=À (ħ<|F.k<|j+r*F.n)
structure Ps(F:Ph)(E:fT F):Prop where
 v:E.V 0=F.i
 C:∀j,E.M=.go j\/E.M=.lu j\/E.M=.rd j\/E.M=.iE j->j<=F.n
 K:∀j,E.M=.lu j\/E.M=.rd j\/E.M=.iE j->1<=j
 L:∀r,(E.M=.iJ r->r<=F.q)/\(E.M=.kO r->r<=F.n)
 J:E.r=0->E.S=.kG 0
 I:∀k,(E.S=.kG k->k<=F.m)/\(E.S=.mk k->1<=k/\k<=F.m)/\(∀p,E.S=.dn k p->1<=k/\k<=F.m)
 z:∀j,E.r<j+2->E.C j=.ni 0
 d:∀j r,j+2<=E.r->((∃p,E.C j=.fA r p)\/E.C j=.jF r\/E.C j=.ng r)->j+r*F.n<F.q
 l:∀j,j+2<=E.r->E.N (j+1)≠ë->j<E.M.jc F.n/\∃r,E.C j=.ni r/\∀i,j+i*F.n<F.q->i<r
 f:E.N 0≠ë->E.S=.kG F.m
 h:∀x,E.r<=x->E.N x=ë
 M:∀j j',j+2<=E.r->j'+2<=E.r->E.I j=E.I j'->j=j'
 o:∀j,j+2<=E.r->¬F.M (E.I j)/\E.I j≠F.Y/\F.S<=E.I j
 t:∀c reg,E.b=.cl c reg->c=bE (F.n+1) E.G/\reg=E.M.gC
 g:∀reg,E.b=.jB reg->bE (F.n+1) E.G=0/\reg=E.M.gC/\∃x,x<E.r/\E.g=À x/\(E.N x=À (.gf (.gA reg))\/E.N x=À (.gf (.ja reg)))
 u:∀r s,E.b=.gW r s->bE (F.n+1) E.G=0/\r+s=E.M.gC/\(0<r->∃x,x<E.r/\E.g=À x/\E.N x=À (.gf (.iB r)))
 N:∀x p,E.N x=À (.gf p)->(∀W,p=.gA W\/p=.ja W->E.g=À x/\E.b=.jB W)/\(∀r,p=.iB r->0<r/\E.g=À x/\∃s,E.b=.gW r s)
 B:E.M=.fA .gA\/E.M=.fA .kU\/E.M=.gf->bE (F.n+1) E.G=0
 e:∀k,1<=k->k<=F.m->E.S.od<k->E.a k=.cl 1 (bE F.n λj=>(E.C j).gC F j k)
 Y:∀k,k<=F.m->k<=E.S.od->(∃W,(E.S=.dn k (.gA W)\/E.S=.dn k (.ja W))/\E.a k=.jB W/\W=bE F.n λj=>(E.C j).gC F j k)\/(∃r s,E.S=.dn k (.iB r)/\0<r/\E.a k=.gW r s/\r+s=bE F.n λj=>(E.C j).gC F j k)\/((∀p,E.S≠ .dn k p)/\((E.a k=.cl 0 0/\(bE F.n λj=>(E.C j).gC F j k)=0)\/∃s,E.a k=.gW 0 s/\s=bE F.n λj=>(E.C j).gC F j k))
 w:∀j r,j+2<=E.r->(E.C j=.fA r .gA\/E.C j=.fA r .kU\/E.C j=.jF r)->F.r (j+r*F.n)<=E.S.od
 H:∀j r,j+2<=E.r->E.C j=.fA r .gA->∃a b,E.a (F.r<|j+r*F.n)=.gW a b
 O:E.M=.fA .gA->∃a b,E.b=.gW a b
 S:(∀p,E.M≠ .fA p)->E.M≠ .gf->∃c,E.b=.cl c 0
 y:∀k,k<=F.m->E.a k=.cl 1 0->E.d k=ë
 D:∀j r,j+2<=E.r->E.C j=.fA r .wr->E.d (F.r<|j+r*F.n)=À j
def fi(F:Ph)(E:fT F)(a:Array Ó)(w:Æ):Prop:=∀i g,a[i]?=À g->g.status=Ů->
 (i=0/\E.M=.fA .kt/\E.b.sm=0)\/(∃j,j+2<=E.r/\E.N (j+1)=ë/\i=F.L+1+j/\((∃r,E.C j=.fA r .kt/\(E.a<|F.r<|j+r*F.n).sm=0)\/∃r b s c,E.C j=.ni r/\w.heap[E.I j]?=À (χ b #[] Ã s c Ã)))
structure PI(F:Ph)(t0:Nat)(jj:dT->Prop)(E:fT F)(S:Nat->Jd)(tr:Nat->gw)(kp:Nat->iA)(lot:Nat->fe)(gs:Array Ó)(w:Æ)(t:ğ):Prop where
 b:gs.size=F.L+E.r
 I:gL F.P F.S E.Y S tr kp lot gs w t
 h:S 0=JM F E.I E.M/\kp 0=kM E.M
 m:0<E.r->E.N 0=ë->S F.L=JI F E.c E.S/\kp F.L=.no
 g:∀j,j+2<=E.r->E.N (j+1)=ë->S (F.L+1+j)=JW F (E.I j) j (E.C j)/\kp (F.L+1+j)=kW F (E.I j) (E.C j)
 k:∀x e,x<E.r->E.N x=À e->S (F.L+x)=JE F e/\kp (F.L+x)=.no/\((∃N,e=.jo N)->tr (F.L+x)=.fC)
 l:∀i,0<i->i<F.L->S i=oV F.P (E.h i)/\tr i=.fC/\kp i=.no
 a:iH F E lot gs.size w
 M:Wd F E w
 C:Ps F E
 d:TI F.toFx t0 jj E.r (E.S.rl) E.V E.e E.d E.iw E.f t
 c:fi F E gs w
 f:∀j r,j+2<=E.r->E.C j=.jF r->1<=F.r (j+r*F.n)->bD t (F.L+1+j) (E.e<|F.r<|j+r*F.n)
structure gP(F:Ph):Prop where
 C:F.Ok
 S:∀k s V w w',F.d k s V w->(∀b,V b->w'.heap[b]?=w.heap[b]?)->w'.cell? (jd F.toFx k)=w.cell? (jd F.toFx k)->w'.cell? (jk F F.f)=w.cell? (jk F F.f)->kN w' F.Y=kN w F.Y->(w'.os=w.os/\w'.output=w.output)->F.d k s V w'
 FV:∀j dk l g w₁,F.g j dk l g->fG l l.w w₁->F.g j dk {l with w:=w₁} g
 I:∀j dk l g,F.g j dk l g->g.status=Ð
 N:∀k l g,F.h k l g->g.status=Ð
 Y:∀c i l g,F.e c i l g->g.status=Ð
 M:∀dk l g,F.j dk l g->g.status=Ð
 go:∀j dk l g,j<=F.n->F.g j dk l g->gy l->l.d=0/\∃(g' child:Ó) (X:Nat->Prop),g'.status=Ð/\child.status=Ð/\(∀w₁,Ù F.P É g w₁=.spawn g' child w₁ #[])/\(∀b,X b->l.O b)/\
  (1<=j->l.O (dk<|j-1)/\¬X (dk<|j-1)/\l.w.heap[dk<|j-1]?=À (χ F.q #[] Ã 0 0 Ã)/\F.S<=dk (j-1))/\
  (∀l':fe,gy l'->(∀b,X b\/l.I b->l'.I b)->l'.w=l.w->l'.d=0->¬l'.q->(∀b,¬l'.O b)->l'.K=l.K->l'.N=l.N->(∀a,l'.r a->l.r a)->fj F.P Ã (if j=0 then F.h 0 else C9 F (dk<|j-1) (j-1) 0) l' child)/\
  (∀l':fe,gy l'->l'.O=(λb=>l.O b/\¬X b/\(1<=j->b≠dk (j-1)))->(∀b,X b\/l.I b->l'.I b)->l'.w=l.w->l'.d=0->l'.q=l.q->l'.K=l.K->l'.N=l.N->(∀a,l'.r a->l.r a)->fj F.P É (JM F dk<|if j<F.n then .iE (j+1)else .iJ F.q) l' g')
 f:∀k s V l g,k<F.m->F.h k l g->gy l->nj F k s->F.d k s V l.w->(∀b,V b->l.I b)->l.N (jd F.toFx k)->l.r (jd F.toFx<|k+1)->l.r (jk F<|F.b<|k+1)->∀sg:Nat->F.γ,sg k=s->fj F.P Ã (JI F sg<|.mk (k+1)) l g
 h:∀l g,F.h F.m l g->gy l->fj F.P Ã (AB F) l g
 e:∀c j r s V l g,j+r*F.n<F.q->F.e c (j+r*F.n) l g->∀l':fe,gy l'->l'.O=l.O->(∀b,l.I b\/V b->l'.I b)->l'.w=l.w->l'.d=l.d->l'.q=l.q->l'.r=l.r->l'.K=l.K->nj F (F.r<|j+r*F.n) s->F.d (F.r<|j+r*F.n) s V l.w->l'.N (jd F.toFx<|F.r<|j+r*F.n)->l'.r (jk F<|F.a<|j+r*F.n)->fj F.P Ã (JW F c j<|.ng r) l' g
end Go.Proofs.Y.fv
