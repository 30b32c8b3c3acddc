/- Least: the texts of the proof, packed by program out of some 250: remarks struck, names and blanks shortened, for the limit of a claim's size. -/
import Derived.KernelRfl
import Derived.Conc.Own
import Derived.Conc.Events
import Derived.Laws.Sem
import Derived.Conc.Own5
import Derived.Conc.CompanyDraw
import Derived.Conc.Know
import Derived.Conc.Beside
import Derived.Conc.MarkLaws
import Derived.Conc.CrowdComm
import Derived.Conc.CrowdTrace
import Derived.Conc.CrowdBase
set_option linter.all false
set_option maxRecDepth 1000000
set_option maxHeartbeats 8000000
open Option renaming some->À,none->ë,map_eq_some_iff->ģ,map_some->bH
open Go renaming TypeId->Á,Value->Â,World->Æ,Goroutine->Ó,Program->Õ,Operand->Ö,stepG->Ù,Addr->Ú,FuncId->à,execOp->ì,underlying->ø,resolve->ù,IntKind->ú,Event->ý,run_program->ă,variablesAt->Ą,invoke->č,builtin->Ē,Sem->ē,loadBytes->ĕ,Frame->Ę,Trace->ğ,BinOp->ġ,results->Ī,behindNumber->Į,FloatKind->ı,callFunc->ĵ,undef->ľ,yielded->ł,loadCellsFrom->Ō,convert->Œ,movedNumber->ŕ,Item->ś,movedPointer->Ţ,binOp->Ũ,elemOf->Ū,sameAddr->Ŭ,deafBehind->ŭ,eqGuard->ŷ,typeInfo->Δ,partners->Η,RuntimeError->Ι,storeCells->Κ,Next->Ο,cellAtBytes->ξ,choose->π,Tape->ψ,zeroValue->ω,loadVar->ae,Code->ak,store->ar,Oper->av,BoundsCode->ax,sizeOf->ay,storeVar->aJ,nilAhead->aR,lone->aU,load->aX,noView->aY,liesAt->aZ,findLabel->bj,stringish->bm,Unsupported->br,followBlind->bx,Act->bF,askRoom->bP,Machine->bR,Question->bU,asBool->bW,asAddr->bX,fieldPlace->bY,numberAt->b9,asNumber->cg,getObj->cu,shape->cw,exitTo->cD,gotoIn->cE,mayBeOne->cK,runT->cZ,MemOp->c8,loadCells->c9,rowAt->da,program->df,asIntOf->dh,viewAt->dm,byteOf->dp,unwind->dw,runN->dx,cellsIn->dy,asInt->dE,TypeDesc->dJ,runN_add->dM,Touch->dP,step->dT,Loc->dU,newRow->dV,PanicEntry->ei,isAgg->ez,Race->eI,newVar->eO,asAgg->eP,newObj->eR,frozen->eS,freeze->eZ
open Bool renaming false->Ã,false_eq_true->Å,true->É,and_eq_true_iff->Ü,not_true->þ,not_false->Ă,and_eq_true->ě,or_eq_true_iff->Ŝ,eq_iff_iff->Χ,or_eq_true->bI
open Go.Sem renaming run_bind->Ä,runT_bind'->Ñ,run->ã,bind->ç,runT->é,run_bind'->Ĵ,bind_assoc'->ř,runT_eq->ź,runT_fst->Ρ,pure->aI,store->dc,halt->ey
open Or renaming inl->Ç,inr->Î
open Go.Result renaming andThen_ok->È,ok->ĥ,halt->bV
open Go.Op renaming operands->Ê,equal->ó,maxDepth->ā,eqGuardIn->į,twoPlaces->š,equalIn->Λ,addrSub->Μ,addrCmp->Ν,addrMod->Ξ,call->Ω,intDiv->ah,shift->aK,convert->aN,stringOp->bu,unary->bZ,makeInterface->cJ,floatArith->cU,complexOp->dq,buildSlice->dG,intArith->dH,floatCmp->dI,binOp->dW,makeSlice->dX,fieldAddr->dY,indexAddr->dZ,intBits->eb,nilCheck->eF,intCmp->eG
open Array renaming getElem?_eq_some_iff->Ë,getElem?_setIfInBounds_ne->Ï,getElem?_setIfInBounds_self_of_lt->Ò,mem_of_getElem?->Û,getElem?_eq_getElem->Ý,getElem?_append_right->ć,empty_append->Ď,append_empty->ď,mapM_eq_mapM_toList->Ĕ,mem_append->Ĝ,getElem?_push_lt->Ģ,getD_eq_getD_getElem?->ĩ,replicate->ĺ,append_assoc->Ļ,append_singleton->Ł,all_eq_true->Ń,getElem?_modify->Ň,mem_iff_getElem->ŉ,getElem?_setIfInBounds->Ś,getElem_map->ŵ,getElem_extract->κ,forIn_toList->aE,range->dF
open Go.stepG renaming exec->Ì,apply->bC
open Go.MemOp renaming ofEvents->Í
open Go.GoStatus renaming running->Ð,finished->Ğ,blocked->Ů
open Nat renaming lt_of_lt_of_le->Ô,le_refl->ß,le_trans->õ,exists_eq_add_of_le->Ε,div_le_div_right->ο,add_assoc->cQ,le_of_eq->dC,zero_le->dD
open List renaming map_toArray->Ø,map_cons->â,map_nil->ä,mem_cons_self->î,mem_cons_of_mem->ò,eq_nil_of_length_eq_zero->Ā,zipIdx_cons->Ĭ,mem_cons->œ,mem_singleton->ū,foldlM_cons->Ζ,filter_eq_nil_iff->Υ,foldlM_nil->ζ,forIn_cons->η,mapM_cons->ν,forIn_nil->φ,map_eq_nil_iff->aj,flatMap_cons->aV,mapM_nil->cS
open Go.Value renaming pointer->Þ,int->Ć,string->ħ,bool->Ľ,tuple->ſ,nilIface->aW,slice->bS,nilFunc->bT,chan->ew,func->eN
open Go.Item renaming inRegion->á,code->Đ,inLoop->dr,inBlock->dK,inScope->dL
open Go.Act renaming eval->å
open Go.IntKind renaming u64->æ,i64->Ŋ,u32->ŗ
open Go.MemAct renaming ofEvent->è,touch?->ÿ,mark->Ř
open Go.Builtin renaming unsafeString_->ê,unsafeAdd_->ñ,unsafeSliceData_->ė,min2->Ĳ,append_->ĸ,firstCells->ļ,min_->ń,copy_->ő,len_->ş,cap_->Š,zeroCells->Ŷ,lenOf->Α,holdsCells->aB,mayShare->bb,unsafeSliceData->bl,unsafeString->cX
open Go.Conc renaming mem_ofEvents->í,touchAt->Ě,crowd->ķ,woken->ţ,stepG_region_draw->Ż,parked->Γ,Deaf->Τ,rcase->θ,stepG_unwanted->υ,g?_old->aG,knows_own->bn,deafBehind_still->bq,stepG_value->bA,stepG_enter->bB,Knows->bD,stepG_cond->cF,mem_listed->cG,stepG_none->cH,enter_at->cI,deaf_old->cO,touch_of->dQ,act?_old->dS,hb_app->ek,touch_mute->ep,counts_old->eu,act?_of->eE
open Go.Next renaming value->ï,enter->ũ,skip->aH
open Go.TypeDesc renaming pointer->ð,unsafePointer->đ,string->ę,int->Β,struct->di,slice->dj
open Go.Call renaming operands->ô
open Go.Conv renaming unsafePointer->ö,bytesToString->ü,seenAt->Ž,runesToString->aF,floatToFloat->aQ,intToString->bh,floatToInt->bK,intToInt->cV
open Go.Loc renaming cell->û,mark->ů
open Ne renaming symm->ą
open Go.World renaming frozen?->Ĉ,setCell->ĉ,freeze->Ė,cell?->Ġ,farLoad->ŋ,farStore->Ŧ,shape?->Θ,setChan->au,noCell->aP,viewStore->bJ
open Go.Extern.BytealgMakeNoZero renaming makeNoZero->Ċ,digits->ņ
open Go.Mode renaming atomic->ċ,plain->Ť
open Go.Obj renaming cells->Č,pending->Ÿ,chan->χ
open Go.Callee renaming builtin->ĝ,value->cj
open Option.some renaming inj->Ĥ,injEq->ž
open Go.Region renaming wanted->Ħ,schedule->bM,Mode->eL
open Go.Instr renaming sliceBounds->Ĩ,sliceBound->ī,buildSlice->ĭ,storeAt->ĳ,makeSlice->Ĺ,extract->ō,fieldAt->Ŏ,indexAt->ŏ,sliceAt->Ő,makeInterface->ŝ,loadAt->Ş,sureAddr->ŧ,alloc->Ű,field->ű,slice->Ų,index->ų,build->Ŵ,panic->ż,box->ag,fill->az
open Go.Deferred renaming ofValue->İ
open Go.Mark renaming releaseMerge->Ķ,disable->cL,acquire->cM,noRoom->de,enable->dz,release->dR
open Go.Extern.AbiNoEscape renaming same->Ŀ
open Go.Halt renaming unsupported->ŀ
open Go.Trace renaming g?->Ņ
open Go.Stepped renaming next->ň
open Go.Touch.Kind renaming atomic->Ŕ,plain->e7
open Go.Frame renaming raise->Ŗ,finish_at->ε,finish->aT,catches->cW,enter->dN
open Go.Unsupported renaming unsafePointer->ť
open Go.GStep renaming after->Ź,go->aS,ended->eX
open Go.Goroutine renaming again->ι
open Except renaming bind->ρ,pure->ς,error->bG,map->cm
open Go.Op.Complex renaming corrected->σ,quotient->ai,product->aC,arith->bg,conv->bL,cmp->cx,mul->cy,add->cz,sub->cA,quo->cB
open Go.BinOp renaming eql->aA,neq->aL
open Go.Operand renaming func->aO,const->ea,global->eB
open Go.Code renaming cond->bz,region->bQ,refuse->du,label->ec,block->ef,scope->eg,skip->eT,loop->eU,exit->eV,goto->eW
open Go.ConcN renaming sumTo->bE,fork_knows->cP
variable{i n j b k m J j9 j7 j6:Nat}{w u W jX:Æ}{v x z jQ:Â}{g:Ó}{a p:Ú}{h c:Int}{e t T:Á}{d q:Array Â}{P:Õ}{y:bF}{B:ByteArray}{X:Nat->Prop}{O:Option Ú}{l:List Â}{yQ:Bool}{K H:bF->Æ->Prop}{o:av}{D:Nat->Nat}{E:Array Ó}{L:List ś}{jJ:List Nat}{qX:List Ę}{qQ:Ö}{qJ:ğ}{zX:dU->Prop}{zQ:List Int}{zJ:Go.TypeInfo}{xX:Ö->Â}{xQ:ψ}{xJ:Nat×Nat}{wX:ak}{wQ:c8}{wJ:Array Bool}{vX:List ByteArray}{vQ:Â->Æ->Prop}{vJ:Go.Exit->bF->Æ->Prop}{yX:eL}{Q:Array av}{f:Ę}{V:Array ý}{F:à}{s:Go.Func}
namespace Go.Proofs
theorem U{A:Sort _}{a:A}:a=a:=rfl
theorem Z{p:Prop}(h:p:=by omega):p:=h
theorem A{p:Prop}(h:p:=by decide):p:=h
theorem fq{p:Prop}(h:p:=by simp):p:=h
theorem fw{p:Prop}(h:p:=by kernel_rfl):p:=h
theorem fS{p:Prop}(h:p:=by rfl):p:=h
end Go.Proofs
namespace Go.Proofs.Y.Lift
open Go
abbrev fh{α:Type}:α->Prop:=λ_=>False
structure fv where
 jI:Nat->Nat->Prop
 C:Nat
instance:CoeFun fv λ_=>Nat->Nat->Prop:=⟨fv.jI⟩
def Bi(Y:fv):Prop:=(∀i j a,Y i j->Y i a->j=a)/\(∀i a j,Y i j->Y a j->i=a)/\(∀i j,Y i j->(i<Y.C↔j<Y.C))
def fv.r(Y a:fv):Prop:=(∀i j,Y i j->a i j)/\(Bi Y->Bi a)/\a.C=Y.C
def fv.N(Y:fv)(r a:Nat):fv:=⟨λi j=>Y i j\/(i=r/\j=a),Y.C⟩
def fv.M(Y:fv):Y.r Y:=⟨λ_ _ h=>h,id,U⟩
theorem fv.I{a b c:fv}(h:a.r b)(k:b.r c):a.r c:=⟨λi j x=>k.1 i j<|h.1 i j x,λx=>k.2.1<|h.2.1 x,k.2.2.trans h.2.2⟩
theorem fv.S{Y:fv}{r:Nat}(c:∀j,¬Y r j)(d:∀a,¬Y a i)(f:Y.C<=r)(g:Y.C<=i):Y.r (Y.N r i):=by
 refine⟨λ_ _ h=>Ç h,λb=>⟨?_,?_,?_⟩,U⟩
 .rintro a j k (x|⟨rfl,rfl⟩) (y|⟨e,rfl⟩)
  .exact b.1 _ _ _ x y
  .grind
  .grind
  .rfl
 .rintro a k j (x|⟨rfl,rfl⟩) (y|⟨rfl,e⟩)
  .exact b.2.1 _ _ _ x y
  .grind
  .grind
  .rfl
 .rintro a j (x|⟨rfl,rfl⟩)
  .exact b.2.2 _ _ x
  .show(a<Y.C↔j<Y.C);omega
def ie(Y:fv)(a b:Ú):Prop:=Y a.block b.block/\a.off=b.off/\a.spot=b.spot
def ie.r{Y b:fv}(h:Y.r b)(r:ie Y a p):ie b a p:=⟨h.1 _ _ r.1,r.2⟩
def ie.C{Y:fv}(r:ie Y a p)(n:Nat):ie Y (a.add n) (p.add n):=by
 let⟨b,c,d⟩:=r;unfold Addr.add;by_cases e:n=0
 .rw[if_pos e,if_pos e];exact⟨b,c,d⟩
 .rw[if_neg e,if_neg e];exact⟨b,by simp[c],U⟩
inductive fp(Y:fv):Â->Â->Prop
 |mG (b:Bool):fp Y (Ľ b) (Ľ b)
 |iG (k:ú) (n:Int):fp Y (Ć k n) (Ć k n)
 |kz (s:ByteArray):fp Y (ħ s) (ħ s)
 |lW:fp Y (Þ ë) (Þ ë)
 |jW {a a':Ú} (h:ie Y a a'):fp Y (Þ<|À a) (Þ<|À a')
 |oz (n c:Nat):fp Y (bS ë n c) (bS ë n c)
 |kO {a a':Ú} (h:ie Y a a') (n c:Nat):fp Y (bS (À a) n c) (bS (À a') n c)
 |vl:fp Y bT bT
 |fn (f:Fn):fp Y (eN f #[] #[]) (eN f #[] #[])
 |vm:fp Y aW aW
 |vn:fp Y (ew ë) (ew ë)
 |vo:fp Y (.map ë) (.map ë)
 |yA (t:Á) {v v':Â} (h:fp Y v v'):fp Y (.iface t v) (.iface t v')
 |oQ {cs lX:Array Â} (hs:cs.size=lX.size) (h:∀i (h1:i<cs.size) (h2:i<lX.size),fp Y cs[i] lX[i]):fp Y (.agg cs) (.agg lX)
 |nU {cs lX:Array Â} (hs:cs.size=lX.size) (h:∀i (h1:i<cs.size) (h2:i<lX.size),fp Y cs[i] lX[i]):fp Y (ſ cs) (ſ lX)
def fp.fT{Y a:fv}(h:Y.r a)(r:fp Y v x):fp a v x:=by
 induction r with
 |mG b=>exact .mG b
 |iG k n=>exact .iG k n
 |kz s=>exact .kz s
 |lW=>exact .lW
 |jW b=>exact .jW (b.r h)
 |oz n c=>exact .oz n c
 |kO b n c=>exact .kO (b.r h) n c
 |vl=>exact .vl
 |fn f=>exact .fn f
 |vm=>exact .vm
 |vn=>exact .vn
 |vo=>exact .vo
 |yA t _ b=>exact .yA t b
 |oQ c _ b=>exact .oQ c b
 |nU c _ b=>exact .nU c b
structure fW(Y:fv)(cs lX:Array Â):Prop where
 r:cs.size=lX.size
 C:∀i (h1:i<cs.size) (h2:i<lX.size),fp Y cs[i] lX[i]
def fW.I{Y a:fv}(h:Y.r a){cs:Array Â}(r:fW Y cs d):fW a cs d:=⟨r.r,λi b c=>(r.C i b c).fT h⟩
theorem fW.S{Y:fv}(r:fW Y d q)(i:Nat):(d[i]?=ë/\q[i]?=ë)\/∃v b,d[i]?=À v/\q[i]?=À b/\fp Y v b:=by
 by_cases h:i<d.size
 .have a:i<q.size:=by rwa[<-r.r]
  exact Î ⟨d[i],q[i],Ý h,Ý a,r.C i h a⟩
 .have a:¬i<q.size:=by rwa[<-r.r]
  grind
def fW.N(Y:fv):fW Y #[] #[]:=⟨U,λi h=>absurd h fq⟩
theorem fW.VG{Y:fv}(r:fW Y d q)(h:fp Y v x):fW Y (d.push v) (q.push x):=by
 refine⟨by simp[r.r],λi b c=> ?_⟩;simp only[Array.getElem_push];have e:=r.r;by_cases a:i<d.size
 .rw[dif_pos a,dif_pos Z];exact r.C i a Z
 .grind
theorem fW.qK{Y:fv}(r:fW Y d q)(n:Nat)(h:fp Y v x):fW Y (d.setIfInBounds n v) (q.setIfInBounds n x):=by
 refine⟨by simp[r.r],λi c e=> ?_⟩;have f:i<d.size:=by simpa using c
 have g:i<q.size:=by simpa using e
 have a:(d.setIfInBounds n v)[i]?=if n=i then À v else d[i]?:=by grind
 have b:(q.setIfInBounds n x)[i]?=if n=i then À x else q[i]?:=by grind
 rw[Ý c]at a;rw[Ý e]at b;by_cases j:n=i
 .grind
 .rw[if_neg j]at a b;rw[Ý f]at a;rw[Ý g]at b;injection a with a;injection b with b;rw[a,b];exact r.C i f g
def fW.tO{Y:fv}{cs b:Array Â}(r:fW Y cs d)(t:fW Y q b):fW Y (cs++q) (d++b):=by
 refine⟨by simp[r.r,t.r],λi c g=> ?_⟩;have e:=r.r;have f:=t.r;simp only[Array.getElem_append];by_cases a:i<cs.size
 .rw[dif_pos a,dif_pos Z];exact r.C i a Z
 .rw[dif_neg a,dif_neg Z];have:=t.C (i-cs.size) (by simp at c;omega) (by simp at c;omega);simpa[e]using this
def fW.F0{Y:fv}(r:fW Y d q)(a b:Nat):fW Y (d.extract a b) (q.extract a b):=by refine⟨by simp[r.r],λi c e=> ?_⟩;rw[κ ..,κ ..];exact r.C _ _ _
def fW.M{Y:fv}(h:fp Y v x):fW Y #[v] #[x]:= ⟨U,λi a b=>by have:i=0:=(by simpa using a);subst this;exact h⟩
def fp.gW{Y:fv}(h:fp Y v x):fW Y v.cells x.cells:=by
 cases h with
 |oQ a h=>exact⟨a,h⟩
 |mG b=>exact fW.M<|.mG b
 |iG k n=>exact fW.M<|.iG k n
 |kz s=>exact fW.M<|.kz s
 |lW=>exact fW.M .lW
 |jW b=>exact fW.M<|.jW b
 |oz n c=>exact fW.M<|.oz n c
 |kO b n c=>exact fW.M<|.kO b n c
 |vl=>exact fW.M .vl
 |fn f=>exact fW.M<|.fn f
 |vm=>exact fW.M .vm
 |vn=>exact fW.M .vn
 |vo=>exact fW.M .vo
 |yA t b=>exact fW.M<|.yA t b
 |nU a h=>exact fW.M<|.nU a h
def yB:Â->Bool
 |.agg _|ſ _=>Ã
 |_=>É
def F1(e:Á)(n:Nat):Prop:=(e=304\/e=305)/\n<=16
class AG (P:Õ):Prop where
 lt:∀e n,F1 e n->n<P.cellsOf e
def Dg(e:Á)(n a:Nat):Prop:=n=a\/(n<=a/\F1 e n)
structure po(Y:fv)(s:Prop)(e:Á)(c c':Array Â):Prop where
 r:∀i (_:i<c.size) (_:i<c'.size),fp Y c[i] c'[i]
 I:c.size<=c'.size
 C:c.size=c'.size\/(s/\F1 e c.size)
section
variable{Y d:fv}{s:Prop}{c c':Array Â}
def po.M(h:fW Y c c'):po Y s e c c':=⟨h.C,by rw[h.r];exact ß _,Ç h.r⟩
def po.N(h:po Y s e c c')(a:¬s):fW Y c c':=⟨h.C.resolve_right λq=>a q.1,h.r⟩
def po.fT(h:po Y s e c c')(l:Y.r d):po d s e c c':=⟨λi a b=>(h.r i a b).fT l,h.I,h.C⟩
theorem po.AH(h:po Y s e c c')(i:Nat):(c[i]?=ë/\True)\/∃v a,c[i]?=À v/\c'[i]?=À a/\fp Y v a:=by
 by_cases q:i<c.size
 .have b:=Ô q h.I;exact Î ⟨c[i],c'[i],Ý q,Ý b,h.r i q b⟩
 .grind
def po.adE(h:po Y s e c c'):Dg e c.size c'.size:=h.C.imp id λq=>⟨h.I,q.2⟩
end
inductive fJ(P:Õ){α:Type}(V:fv->α->α->Prop):fv->ē α->ē α->Prop
 |fF {Y:fv} {a a':α} (h:V Y a a'):fJ P V Y (aI a) (aI a')
 |gD {Y:fv} {a a':Ú} {k k':Â->ē α} (ha:ie Y a a') (hk:∀v v',fp Y v v'->fJ P V Y (k v) (k' v')):fJ P V Y (.load Ť a k) (.load Ť a' k')
 |jg {Y:fv} {a a':Ú} {v v':Â} {k k':ē α} (ha:ie Y a a') (hv:fp Y v v') (hk:fJ P V Y k k'):fJ P V Y (dc Ť a v k) (dc Ť a' v' k')
 |yC {Y:fv} {c c':Array Â} {e:Á} {k k':Nat->ē α} (hc:fW Y c c') (hk:∀r r',(∀j,¬Y r j)->(∀i,¬Y i r')->Y.C<=r->Y.C<=r'->fJ P V (Y.N r r') (k r) (k' r')):fJ P V Y (.new (Č c e) k) (.new (Č c' e) k')
 |vp {Y:fv} {r r':Nat} {k k':Option (TypeId×Nat)->ē α} (hr:Y r r') (hk:∀e n n',Dg e n n'->fJ P V Y (k<|À (e,n)) (k'<|À (e,n'))):fJ P V Y (.shape r k) (.shape r' k')
 |NM {Y:fv} {a a':Ú} {k k':Bool->ē α} (ha:ie Y a a') (hk:∀b b',(b'=É->b=É)->fJ P V Y (k b) (k' b')):fJ P V Y (.frozen a k) (.frozen a' k')
 |AJ {Y:fv} {q:bU} {k k':Nat->ē α} (hk:∀n,fJ P V Y (k n)<|k' n):fJ P V Y (.choose q k) (.choose q k')
 |Jy {Y:fv} {k k':Õ->ē α} (hk:fJ P V Y (k P) (k' P)):fJ P V Y (.program k) (.program k')
 |Dh {Y:fv} {m:Mark} {k k':ē α} (hm:m=de\/∃f,m=.extern f) (hk:fJ P V Y k k'):fJ P V Y (.mark m k) (.mark m k')
 |fU {Y:fv} {h:Halt} {m:ē α}:fJ P V Y (ey h) m
 |oR {Y:fv} {m m':ē α} (h:∀u x u',m.run P u≠ĥ x u'):fJ P V Y m m'
def wN{α β:Type}{m:ē α}{f:α->ē β}(h:∀u x b,m.run P u≠ĥ x b):∀u x b,(m.bind f).run P u≠ĥ x b:=by
 intro u x b e;have c:(m>>=f).run P u=ĥ x b:=e;rw[Ä]at c;cases d:m.run P u with
 |ok a w=>exact h _ _ _ d
 |halt z w=>rw[d]at c;cases c
def fJ.lL{α β:Type}{V:fv->α->α->Prop}{l:fv->β->β->Prop}{Y:fv}{m o:ē α}{f p:α->ē β}(h:fJ P V Y m o) (g:∀i a k,Y.r i->V i a k->fJ P l i (f a) (p k)):fJ P l Y (m.bind f) (o.bind p):=by
 induction h with
 |fF h=>exact g _ _ _ (fv.M _) h
 |gD j _ d=>exact .gD j λv c b=>d v c b g
 |jg j b _ d=>exact .jg j b (d g)
 |yC q _ d=>exact .yC q λr s c e n v=>d r s c e n v λi a k t b=>g i a k (fv.I (fv.S c e n v) t) b
 |vp b _ d=>exact .vp b λe n v c=>d e n v c g
 |NM j _ d=>exact .NM j λb c v=>d b c v g
 |AJ _ d=>exact .AJ λn=>d n g
 |Jy _ d=>exact .Jy (d g)
 |Dh c _ d=>exact .Dh c (d g)
 |fU=>exact .fU
 |oR h=>exact .oR (wN h)
def yD:Â->Bool
 |Ć .u8 _=>É
 |_=>Ã
def Di(c:Array Â):Prop:=∀(k:Nat) (v:Â),c[k]?=À v->yD v=Ã
structure jk(Y:fv)(Sh:Nat->Prop)(u w:Æ):Prop where
 S:u.tape=w.tape
 N:u.drawn=w.drawn
 C:Bi Y
 I:Y.C<=u.heap.size
 M:Y.C<=w.heap.size
 r:∀i j,Y i j->∃c c' e fr wO,u.heap[i]?=À (Č c e fr)/\w.heap[j]?=À (Č c' e wO)/\po Y (Sh j) e c c'/\(Sh j->fr.1=0/\c.size<=fr.2/\wO.2<=fr.2/\0<c.size/\(Di c\/F1 e c.size))/\(¬Sh j->fr=wO)/\fr.2<=c.size
structure nV(Y:fv)(Sh:Nat->Prop)(w w':Æ):Prop where
 r:w.heap.size<=w'.heap.size
 I:w'.os=w.os
 M:w'.output=w.output
 S:w'.tape=w.tape
 C:∀j,j<w.heap.size->(∀i,¬Y i j)->w'.heap[j]?=w.heap[j]?
 N:∀j,Sh j->j<w.heap.size->w'.heap[j]?=w.heap[j]?
def AK(Y:fv)(b:Nat->Prop)(e:ý):Prop:=
 (∃(a:Ú) (i:Nat),e.loc=û a/\Y i a.block/\e.sync=Ã/\(e.write=É->¬b a.block))\/e.loc=ů de\/∃f,e.loc=ů (.extern f)
def wP{α:Type}{m:Mode}{k:ē α}(h:yB v=É): ã P (dc m a v k) w=(match w.cell? a with
 |some _=>if w.frozen? a then bV (ŀ<|ť "a write to bytes that a string shares") w else k.run P (w.setCell a v)
 |none=>match w.farStore P a v (m==ċ)with
  |.ok (w,_)=>k.run P w
  |bG h=>bV h w):=by
 cases v<;>first|rfl|cases h
def adF{α:Type}{m:Mode}{k:ē α}(h:yB v=É): é P (dc m a v k) w V=(match w.cell? a with
 |some _=>
  if w.frozen? a then(bV (ŀ<|ť "a write to bytes that a string shares") w,V)
  else k.runT P (w.setCell a v) (V.push ⟨û a,É,m==ċ⟩)
 |none=>match w.farStore P a v (m==ċ)with
  |.ok (w,touched)=>k.runT P w (V++touched.toArray.map (⟨.cell ·,É,m==.atomic⟩))
  |bG h=>(bV h w,V)):=by
 cases v<;>first|rfl|cases h
def adG{α:Type}{m:Mode}{k:ē α}(h:yB v=Ã){x:α}:ã P (dc m a v k) w≠ĥ x u:=by cases v<;>first|exact Bool.noConfusion h|(intro e;simp[ã]at e)
def adH{Y:fv}(h:fp Y v x):yB x=yB v:=by cases h<;>rfl
section
variable{Y:fv}
def AL(h:u.heap[a.block]?=À (Č d e xJ)):u.cell? a=if a.spot.isSome then ë else d[a.off]?:=by simp[Ġ,h]
def adI(h:u.heap[a.block]?=À (Č d e xJ))(b:Bool):∃x,u.farLoad P a b=bG x:=by simp[ŋ,h]
def adJ(h:u.heap[a.block]?=À (Č d e xJ))(b:Bool):∃x,u.farStore P a v b=bG x:=by simp[Ŧ,h]
def jk.gD(h:jk Y X u w){a':Ú}(i:ie Y a a')(b:u.cell? a=À v):∃f,w.cell? a'=À f/\fp Y v f:=by
 let⟨j,k,l⟩:=i;let⟨c,s,e,t,y,m,n,o,_⟩:=h.r _ _ j;rw[AL m]at b;rw[AL n,<-k,<-l];cases g:a.spot with
 |some x=>rw[g]at b;cases b
 |none=>
  rw[g]at b;rcases o.AH a.off with⟨d,_⟩|⟨x,p,d,q,r⟩
  .simp[d]at b
  .simp[d]at b;subst b;exact⟨p,by simp[q],r⟩
theorem jk.adK(h:jk Y X u w)(g:ie Y a p)(i:u.cell? a=À v)(j:u.frozen? a=Ã):¬X p.block/\w.frozen? p=Ã:=by
 let⟨k,l,q⟩:=g;let⟨c,r,e,b,s,d,m,t,x,n,y⟩:=h.r _ _ k;rw[AL d]at i;have z:a.off<c.size:=by grind
 have o:(decide (b.1<=a.off)&&decide (a.off<b.2))=Ã:=by simpa[Ĉ,d]using j
 have f:¬X p.block:=by grind
 refine⟨f,?_⟩;have:=n f;subst this;simp only[Ĉ,m,<-l];exact o
def VH{w:Æ}(h:w.heap[a.block]?=À (Č d e xJ))(b:a.spot=ë): (w.setCell a v).heap[a.block]?=À (Č (d.setIfInBounds a.off v) e xJ):=by simp[ĉ,Ň,h,b]
def j4{w:Æ}:(w.setCell a v).heap.size=w.heap.size:=by simp[ĉ]
def Jz{w:Æ}(h:a.block≠j):(w.setCell a v).heap[j]?=w.heap[j]?:=by simp[ĉ,Ň,h]
def jk.jg(h:jk Y X u w)(B:ie Y a p)(C:fp Y v z)(D:u.cell? a=À x)(m:¬X p.block):jk Y X (u.setCell a v) (w.setCell p z):=by
 let⟨d,E,F⟩:=B;have n:a.spot=ë:=by let⟨c,o,e,f,g,b,_⟩:=h.r _ _ d;rw[AL b]at D;simp_all
 refine⟨h.S,h.N,h.C,by rw[j4];exact h.I,by rw[j4];exact h.M,λi j k=> ?_⟩;let⟨c,o,e,f,g,b,q,r,G,t,y⟩:=h.r i j k;by_cases l:a.block=i
 .subst l;have:j=p.block:=h.C.1 _ _ _ k d;subst this;exact⟨_,_,e,f,g,VH b n,VH q (by rw[<-F,n]),by rw[<-E];exact po.M<|(r.N m).qK _ C,λs=>absurd s m,t,by simpa using y⟩
 .exact⟨c,o,e,f,g,by rwa[Jz l],by rwa[Jz λe=>l<|h.C.2.1 _ _ _ d<|e▸k],r,G,t,y⟩
theorem jk.yC(h:jk Y X u w)(m:∀j,X j->j<w.heap.size)(n:fW Y d q): jk (Y.N u.heap.size w.heap.size) X {u with heap:=u.heap.push (Č d e)} {w with heap:=w.heap.push (Č q e)}:=by
 have a:∀i j,Y i j->i<u.heap.size/\j<w.heap.size:=by intro i j s;let⟨_,_,_,_,_,f,g,_⟩:=h.r i j s;grind
 have b:=fv.S (Y:=Y) (λj x=>absurd (a _ _ x).1 Z) (λi x=>absurd (a _ _ x).2 Z) h.I h.M;refine⟨h.S,h.N,b.2.1 h.C,by have:=h.I;simp[fv.N];omega,by have:=h.M;simp[fv.N];omega,?_⟩
 .rintro i j (x|⟨rfl,rfl⟩)
  .let⟨s,o,p,r,t,f,g,v,y,z,B⟩:=h.r i j x;let⟨k,l⟩:=a i j x;exact⟨s,o,p,r,t,by simp only[Ģ k];rw[<-f,Ý k],by simp only[Ģ l];rw[<-g,Ý l],v.fT b,y,z,B⟩
  .exact⟨d,q,e,(0,0),(0,0),fq,fq,po.M<|n.I b,λs=>absurd (m _ s) Z,λ_=>rfl,dD _⟩
theorem nV.gd(Y:fv)(X:Nat->Prop)(w:Æ):nV Y X w w:=⟨ß _,U,U,U,λ_ _ _=>rfl,λ_ _ _=>rfl⟩
def nV.fi{b:fv}{w₁:Æ}(h:nV Y X w w₁)(k:nV b X w₁ u)(d:∀i j,b i j->Y i j\/w.heap.size<=j):nV Y X w u:= ⟨õ h.r k.r,k.I.trans h.I,k.M.trans h.M,k.S.trans h.S,λj a c=>(k.C j (Ô a h.r) λi y=>(d i j y).elim (c i) λz=>by omega).trans<|h.C j a c,λj s a=>(k.N j s<|Ô a h.r).trans<|h.N j s a⟩
def JA{w:Æ}:(w.freeze a n).heap.size=w.heap.size:=by unfold Ė;split<;>simp
def adL{w:Æ}:(w.freeze a n).os=w.os:=by unfold Ė;split<;>rfl
def adM{w:Æ}:(w.freeze a n).output=w.output:=by unfold Ė;split<;>rfl
def NN{w:Æ}:(w.freeze a n).tape=w.tape:=by unfold Ė;split<;>rfl
def VI{w:Æ}:(w.freeze a n).drawn=w.drawn:=by unfold Ė;split<;>rfl
theorem JB{w:Æ}(h:a.block≠j):(w.freeze a n).heap[j]?=w.heap[j]?:=by unfold Ė;split;all_goals grind
def sM(a:Ú)(n:Nat)(b:Nat×Nat):Nat×Nat:=if n=0 then b else if b.1==b.2 then(a.off,a.off+n)else(min b.1 a.off,max b.2<|a.off+n)
theorem VJ{w:Æ}(h:w.heap[a.block]?=À (Č d e xJ)):(w.freeze a n).heap[a.block]?=À (Č d e<|sM a n xJ):=by unfold Ė sM;grind
def VK(h:a.off=p.off)(n:Nat)(b:Nat×Nat):sM a n b=sM p n b:=by unfold sM;rw[h]
theorem adN(h:a.off+n<=i)(b:xJ.2<=i):(sM a n xJ).2<=i:=by unfold sM;grind
theorem adO{b:Nat×Nat}(c:0<i)(d:xJ.1=0)(e:i<=xJ.2)(f:b.2<=xJ.2):(sM a n xJ).1=0/\i<=(sM a n xJ).2/\(sM a n b).2<=(sM a n xJ).2:=by unfold sM;grind
def jk.adP(h:jk Y X u w)(y:ie Y a p)(n:Nat)(z:∀c e b,u.heap[a.block]?=À (Č c e b)->a.off+n<=c.size):jk Y X (u.freeze a n) (w.freeze p n):=by
 obtain⟨k,l,I⟩:=y;refine⟨NN.trans<|h.S.trans NN.symm,VI.trans<|h.N.trans VI.symm,h.C,by rw[JA];exact h.I,by rw[JA];exact h.M,λi j d=> ?_⟩;obtain⟨c,m,e,b,B,f,o,q,r,t,v⟩:=h.r i j d;by_cases g:a.block=i
 .subst g;have:j=p.block:=h.C.1 _ _ _ d k;subst this;refine⟨c,m,e,_,_,VJ f,VJ o,q,λs=> ?_,λs=> ?_,adN (z _ _ _ f) v⟩
  .obtain⟨C,D,E,x⟩:=r s;rw[<-VK l];obtain⟨F,G,H⟩:=adO x.1 C D E;exact⟨F,G,H,x⟩
  .rw[t s,VK l]
 .exact⟨c,m,e,b,B,by rwa[JB g],by rwa[JB λe=>g<|h.C.2.1 _ _ _ k<|e▸d],q,r,t,v⟩
theorem jk.G(h:jk Y X u w)(b:ie Y a p):w.frozen? p=É->u.frozen? a=É:=by let⟨d,f,j⟩:=b;let⟨c,k,e,l,m,g,i,n,o,q,r⟩:=h.r _ _ d;simp only[Ĉ,g,i,<-f,ě,decide_eq_true_eq];rintro⟨x,y⟩;by_cases s:X p.block;all_goals grind
theorem fJ.fX{α:Type}{V:fv->α->α->Prop}{Y:fv}{m m':ē α}(h:fJ P V Y m m'):∀{u w:Æ},jk Y X u w->(∀j,X j->j<w.heap.size)->∀{x:α} {E:Æ},m.run P u=ĥ x E->∀n:Array ý,∃(l:fv) (t:α) (p:Æ) (B:Array ý),Y.r l/\(∀i j,l i j->Y i j\/(u.heap.size<=i/\w.heap.size<=j))/\m'.runT P w n=(ĥ t p,n++B)/\V l x t/\jk l X E p/\nV Y X w p/\(∀e∈B,AK l X e)/\u.heap.size<=E.heap.size:=by
 induction h with
 |fF h=>
  intro u w d _ x E b n;simp only[ã]at b;cases b;exact⟨_,_,w,#[],fv.M _,λ_ _ h=>Ç h,by simp[é],h,d,nV.gd _ _ _,λe o=>by simp at o,ß _⟩
 |@gD Y a a' k k' ha hk D=>
  intro u w d C x E b n;simp only[ã]at b;cases f:u.cell? a with
  |none=>
   let⟨c,Q,e,fr,wO,O,_⟩:=d.r _ _ ha.1;let⟨z,s⟩:=adI (P:=P) O<|Ť==ċ;rw[f]at b;simp only[s]at b;cases b
  |some v=>
   rw[f]at b;let⟨W,S,y⟩:=d.gD ha f;let⟨l,t,p,B,F,G,I,J,K,g,L,H⟩:=D v W y d C b<|n.push ⟨û a',Ã,Ã⟩;refine⟨l,t,p,#[⟨û a',Ã,Ã⟩]++B,F,G,?_,J,K,g,λe o=> ?_,H⟩
   .simp only[é,S];rw[show((Ť==ċ)=Ã)from U,I];rw[<-Ļ,Ł]
   .rcases Ĝ.1 o with o|o
    .simp at o;subst o;exact Ç ⟨a',_,U,F.1 _ _ ha.1,U,λe=>by cases e⟩
    .exact L e o
 |@jg Y a a' v W k k' ha hv _ D=>
  intro u w d C x E b n;cases ho:yB v with
  |false=>exact absurd b<|adG ho
  |true=>
   rw[wP ho]at b;cases f:u.cell? a with
   |none=>
    let⟨c,Q,e,fr,wO,O,_⟩:=d.r _ _ ha.1;let⟨z,s⟩:=adJ (P:=P) (v:=v) O<|Ť==ċ;rw[f]at b;simp only[s]at b;cases b
   |some y=>
    rw[f]at b;cases M:u.frozen? a with
    |true=>rw[M]at b;simp at b
    |false=>
     simp only[M,Å,if_false]at b;let⟨ns,hf'⟩:=d.adK ha f M;let⟨y',NO,_⟩:=d.gD ha f;let⟨l,t,p,B,F,G,I,J,K,g,L,H⟩:=D (d.jg ha hv f ns) (by rwa[j4]) b<|n.push ⟨û a',É,Ã⟩;have S:(w.setCell a' W).heap.size=w.heap.size:=j4;have VL:(u.setCell a v).heap.size=u.heap.size:=j4;refine⟨l,t,p,#[⟨û a',É,Ã⟩]++B,F,by rwa[S,VL]at G,?_,J,K,?_,λe o=> ?_,by rwa[VL]at H⟩
     .rw[adF<|(adH hv).trans ho,NO];simp only[hf',Å,if_false];rw[show((Ť==ċ)=Ã)from U,I];rw[<-Ļ,Ł]
     .refine⟨by rw[<-S];exact g.r,g.I,g.M,g.S,λj N T=> ?_,λj s N=>(g.N j s<|by rwa[S]).trans<|Jz λe=>ns<|e▸s⟩;rw[g.C j (by rwa[S]) T];exact Jz λe=>T a.block<|e▸ha.1
     .rcases Ĝ.1 o with o|o
      .simp at o;subst o;exact Ç ⟨a',_,U,F.1 _ _ ha.1,U,λ_=>ns⟩
      .exact L e o
 |@yC Y c Q e k k' f _ D=>
  intro u w d C x E b n;simp only[ã]at b;have W:∀i j,Y i j->i<u.heap.size/\j<w.heap.size:=by intro i j S;let⟨_,_,_,_,_,O,hw',_⟩:=d.r i j S;grind
  have n1:∀j,¬Y u.heap.size j:=λj y=>absurd (W _ _ y).1 Z;have n2:∀i,¬Y i w.heap.size:=λi y=>absurd (W _ _ y).2 Z;let⟨l,t,p,B,F,G,I,J,K,g,L,H⟩:=D u.heap.size w.heap.size n1 n2 d.I d.M (d.yC C f) (λj s=>by have:=C j s;simp;omega) b n;refine⟨l,t,p,B,fv.I (fv.S n1 n2 d.I d.M) F,λi j S=> ?_,by simp only[é];exact I,J,K,?_,L,by simp at H;omega⟩
  .rcases G i j S with(y|⟨rfl,rfl⟩)|y
   .exact Ç y
   .exact Î ⟨ß _,ß _⟩
   .simp at y;exact Î ⟨Z,Z⟩
  .have hs:=g.r;simp at hs;refine⟨Z,g.I,g.M,g.S,λj N T=> ?_,λj s N=>(g.N j s<|by simp;omega).trans ?_⟩
   .rw[g.C j (by simp;omega) (λi z=>z.elim (T i) λz=>by omega)];simp[Ģ N]
   .simp[Ģ N]
 |@vp Y r r' k k' pv _ D=>
  intro u w d C x E b n;simp only[ã]at b;let⟨c,Q,e,fr,wO,O,hw',S,_⟩:=d.r _ _ pv;have f:u.shape? r=À (e,c.size):=by simp[Θ,O]
  have s:w.shape? r'=À (e,Q.size):=by simp[Θ,hw']
  rw[f]at b;let⟨l,t,p,B,h⟩:=D e c.size Q.size S.adE d C b n;exact⟨l,t,p,B,by simp only[é,s];exact h⟩
 |@NM Y a a' k k' ha _ D=>
  intro u w d C x E b n;simp only[ã]at b;let⟨l,t,p,B,h⟩:=D (u.frozen? a) (w.frozen? a') (d.G ha) d C b n;exact⟨l,t,p,B,by simpa only[é]using h⟩
 |@AJ Y q k k' _ D=>
  intro u w d C x E b n;simp only[ã]at b;cases M:q.forced with
  |true=>
   rw[M]at b;simp only[if_true]at b;let⟨l,t,p,B,h⟩:=D 0 d C b n;exact⟨l,t,p,B,by simpa only[é,M,if_true]using h⟩
  |false=>
   rw[M]at b;simp only[Å,if_false]at b;have S:jk Y X {u with drawn:=u.drawn+1} {w with drawn:=w.drawn+1}:=⟨d.S,by simp[d.N],d.C,d.I,d.M,d.r⟩;rw[d.S,d.N]at b;obtain⟨l,t,p,B,F,G,I,J,K,g,L,H⟩:=D (q.cut<|w.tape w.drawn q) S C (by rwa[d.S,d.N]) n;exact⟨l,t,p,B,F,G,by simp only[é,M,Å,if_false];exact I,J,K,⟨g.r,g.I,g.M,g.S,g.C,g.N⟩,L,H⟩
 |Jy _ D=>
  intro u w d C x E b n;simp only[ã]at b;let⟨l,t,p,B,h⟩:=D d C b n;exact⟨l,t,p,B,by simpa only[é]using h⟩
 |@Dh Y mk k k' hm _ D=>
  intro u w d C x E b n;simp only[ã]at b;let⟨l,t,p,B,F,G,I,J,K,g,L,H⟩:=D d C b<|n.push ⟨ů mk,Ã,É⟩;refine⟨l,t,p,#[⟨ů mk,Ã,É⟩]++B,F,G,?_,J,K,g,λe o=> ?_,H⟩
  .simp only[é];rw[I];rw[<-Ļ,Ł]
  .rcases Ĝ.1 o with o|o
   .simp at o;subst o;rcases hm with rfl|⟨f,rfl⟩
    .exact Î<|Ç U
    .exact Î<|Î ⟨f,U⟩
   .exact L e o
 |fU=>
  intro u w _ _ x E b n;simp only[ã]at b;cases b
 |oR h=>
  intro u w _ _ x E b n;exact absurd b<|h _ _ _
end
inductive jY:Â->Prop
 |mG (b:Bool):jY (Ľ b)
 |iG (k:ú) (n:Int):jY (Ć k n)
 |kz (s:ByteArray):jY (ħ s)
 |lW:jY (Þ ë)
 |oz (n c:Nat):jY (bS ë n c)
 |vl:jY bT
 |vm:jY aW
 |vn:jY (ew ë)
 |vo:jY (.map ë)
 |oQ {cs:Array Â} (h:∀i (h:i<cs.size),jY cs[i]):jY (.agg cs)
 |nU {cs:Array Â} (h:∀i (h:i<cs.size),jY cs[i]):jY (ſ cs)
def jY.jI(h:jY v)(Y:fv):fp Y v v:=by
 induction h with
 |mG b=>exact .mG b
 |iG k n=>exact .iG k n
 |kz s=>exact .kz s
 |lW=>exact .lW
 |oz n c=>exact .oz n c
 |vl=>exact .vl
 |vm=>exact .vm
 |vn=>exact .vn
 |vo=>exact .vo
 |oQ _ b=>exact .oQ U λi c _=>b i c
 |nU _ b=>exact .nU U λi c _=>b i c
def nW(P:Õ):Prop:=∀t i z,P.info? t=À i->i.zero=À z->jY z
def jy{α:Type}:fv->α->α->Prop:=λ_ a b=>a=b
section
variable{Y:fv}
def fH{α β:Type}{V:fv->α->α->Prop}{V':fv->β->β->Prop}{m c:ē α}{f d:α->ē β}(h:fJ P V Y m c) (g:∀b a e,Y.r b->V b a e->fJ P V' b (f a) (d e)):fJ P V' Y (m>>=f) (c>>=d):=fJ.lL h g
def sN{α β:Type}{c:fv->β->β->Prop}{m:ē α}{f d:α->ē β}(h:fJ P jy Y m m) (g:∀b a,Y.r b->fJ P c b (f a) (d a)):fJ P c Y (m>>=f) (m>>=d):= fJ.lL h λb a i j (e:a=i)=>by subst e;exact g b a j
def rE:fJ P (λ_ a b=>a=P/\b=P) Y df df:=.Jy (.fF ⟨U,U⟩)
theorem NP{α:Type}{V:fv->α->α->Prop}{e:Ι}(h:(∃x y s c,e=.bounds x y s c)\/(∃m,e=.error m)\/(∃m,e=.plain m)\/e=.nilDeref):fJ P V Y (runtimePanic e) (runtimePanic e):=by unfold runtimePanic;refine fH rE ?_;rintro f a g _ ⟨b,d⟩;rw[b,d];rcases h with⟨x,y,s,c,rfl⟩|⟨m,rfl⟩|⟨m,rfl⟩|rfl<;>exact .fU
theorem Dj{α:Type}{V:fv->α->α->Prop}{k:ú}{y:Int}{c:ax}:fJ P V Y (boundsPanic k h y c) (boundsPanic k h y c):=by
 unfold boundsPanic;simp only[];split
 .apply sN (.AJ λn=> .fF U);grind [NP]
 .grind [NP]
def yE(t:Á):fJ P (λ_ a b=>a=b/\P.info? t=À a) Y (Δ t) (Δ t):=by
 unfold Δ;apply fH rE;rintro e a b _ ⟨c,d⟩;rw[c,d];cases h:P.info? t with
 |some i=>exact .fF ⟨U,U⟩
 |none=>exact .fU
def jf(t:Á):fJ P (λ_ a b=>a=b/\P.underlying t=À a) Y (ø t) (ø t):=by
 unfold ø;apply fH rE;rintro e a b _ ⟨c,d⟩;rw[c,d];cases h:P.underlying t with
 |some i=>exact .fF ⟨U,U⟩
 |none=>exact .fU
def F2(b:nW P)(t:Á):fJ P fp Y (ω t) (ω t):=by
 unfold ω;apply fH (yE t);rintro d a e _ ⟨rfl,h⟩;cases c:a.zero with
 |some z=>exact .fF ((b t a z h c).jI _)
 |none=>exact .fU
def np(t:Á):fJ P (λ_ a b=>a=b/\∃i,P.info? t=À i/\i.size=a) Y (ay t) (ay t):=by unfold ay;apply fH (yE t);rintro i a b _ ⟨rfl,h⟩;exact .fF ⟨U,_,h,U⟩
def VM(t:Á):fJ P jy Y (ez t) (ez t):=by unfold ez;apply fH (jf t);rintro b a c _ ⟨rfl,_⟩;split<;>exact .fF U
def JC(h:ie Y a p):fJ P fp Y (aX a) (aX p):=.gD h λ_ _ b=> .fF b
def adQ(h:ie Y a p)(b:fp Y v x):fJ P jy Y (ar a v) (ar p x):=.jg h b (.fF U)
def adR:∀{Y:fv} {a b:Ú} {i:Nat} {c d:Array Â},ie Y a b->fW Y c d->fJ P fW Y (Ō a i n c) (Ō b i n d):=by
 induction n with
 |zero=>intro Y a b i c d _ e;exact .fF e
 |succ n h=>
  intro Y a b i c d f e;unfold Ō;apply fH (JC<|f.C i);exact λk v l g j=>h (f.r g)<|(e.I g).VG j
def NQ(h:ie Y a p)(n:Nat):fJ P fW Y (c9 a n) (c9 p n):=adR h<|fW.N Y
def NS:∀{d c:List Â} {Y:fv} {a e:Ú} {i:Nat},ie Y a e->fW Y d.toArray c.toArray->fJ P jy Y (Κ a d i) (Κ e c i):=by
 intro d
 induction d with
 |nil=>
  intro c Y a e i _ b;have:c=[]:=by have:=b.r;simp at this;exact Ā this.symm
  subst this;exact .fF U
 |cons v d h=>
  intro c Y a e i f b;match c,b with
  |[],b=>have:=b.r;simp at this
  |v'::c,b=>
   unfold Κ;refine fH (adQ (f.C i) (by have:=b.C 0 fq fq;simpa using this)) ?_;intro m _ _ g _;apply h (f.r g);refine⟨by have:=b.r;simpa using this,λj k l=> ?_⟩;have:=b.C (j+1) (by simp at k|-;omega) (by simp at l|-;omega);exact(by simpa using this:fp Y _ _).fT g
theorem VN(h:ie Y a p)(t:Á):fJ P fp Y (ae t a) (ae t p):=by
 unfold ae;apply sN (VM t);intro g b d;split
 .apply fH (np t);rintro i n _ f ⟨rfl,_⟩;apply fH (NQ ((h.r d).r f) n);exact λj c k _ e=> .fF (.oQ e.r e.C)
 .exact JC<|h.r d
def adS(h:ie Y a p)(t:Á)(d:fp Y v x):fJ P jy Y (aJ t a v) (aJ t p x):=by
 unfold aJ;apply fH (np t);rintro f n _ b ⟨rfl,_⟩;have c:=(d.fT b).gW;by_cases e:v.cells.size≠n
 .rw[if_pos e];exact .fU
 .rw[if_neg e,if_neg (by rwa[<-c.r])];exact NS (h.r b) c
def AN(e:Á)(h:fW Y d q):fJ P ie Y (dV e d) (dV e q):= .yC h λ_ _ _ _ _ _=> .fF ⟨Î ⟨U,U⟩,U,U⟩
def VO(t:Á)(h:fp Y v x):fJ P ie Y (eO t v) (eO t x):=AN t h.gW
def VP(t:Á)(h:fW Y d q)(a:Nat):fJ P fp Y (part t d a) (part t q a):=by
 unfold part;apply sN (VM t);intro i b e;split
 .apply fH (np t);rintro g n _ f ⟨rfl,_⟩;have:=((h.I e).I f).F0 a<|a+n;exact .fF (.oQ this.r this.C)
 .rcases(h.I e).S a with⟨n,f⟩|⟨v,j,n,f,g⟩
  .rw[n];exact .fU
  .rw[n,f];exact .fF g
def F3(h:fp Y v x):fJ P ie Y (ŧ v) (ŧ x):=by cases h<;>first|exact .fU|(rename_i a;exact .fF a)
def JD(h:fp Y v x):fJ P jy Y (dh v) (dh x):=by cases h<;>first|exact .fF U|exact .fU
def NT(h:fp Y v x):fJ P jy Y (dE v) (dE x):=by unfold dE;apply fH (JD h);rintro b a _ _ rfl;exact .fF U
def VQ(h:fp Y v x):fJ P jy Y (bW v) (bW x):=by cases h<;>first|exact .fF U|exact .fU
def adT(h:fp Y v x):fJ P fW Y (eP v) (eP x):=by cases h<;>first|exact .fU|(rename_i a y;exact .fF ⟨a,y⟩)
def VR(h:fp Y v x):fJ P ie Y (bX v) (bX x):=by cases h<;>first|exact NP (Î<|Î<|Î U)|(rename_i a;exact .fF a)|exact .fU
def adU(b:nW P)(t:Á)(v:Â):fJ P fp Y (Ű t É v) (Ű t É v):=by unfold Ű;apply fH (F2 b t);intro d z e _ h;apply fH (VO t h);exact λf a g _ c=> .fF (.jW c)
def adV(t:Á)(h:fp Y v x):fJ P fp Y (ag t v) (ag t x):=by unfold ag;apply fH (VO t h);exact λc a d _ b=> .fF (.jW b)
theorem adW(t:Á)(h:fp Y v x):fJ P fp Y (Ş t v) (Ş t x):=by unfold Ş;apply fH (F3 h);grind [VN]
def adX(t:Á)(b:fp Y x z)(h:fp Y v jQ):fJ P jy Y (ĳ t x v) (ĳ t z jQ):=by unfold ĳ;apply fH (F3 b);exact λd x z c b=>adS b t<|h.fT c
def adY(h:fp Y v x)(n:Nat):fJ P fp Y (ō v n) (ō x n):=by
 cases h<;>first|exact .fU|skip
 rename_i e f c h;simp only[ō];rcases(fW.mk c h).S n with⟨a,b⟩|⟨v,x,a,b,d⟩
 .rw[a];exact .fU
 .rw[a,b];exact .fF d
def adZ(t:Á)(h:fp Y v x)(n:Nat):fJ P fp Y (ű t v n) (ű t x n):=by
 unfold ű;apply fH (jf t);rintro g d _ a ⟨rfl,_⟩;split
 .rename_i b _;cases i:b[n]? with
  |none=>exact .fU
  |some f=>
   apply fH (adT<|h.fT a);exact λj c k _ e=>VP f.type e f.offset
 .exact .fU
end
section
variable{Y:fv}
def rF{α β:Type}{V:fv->β->β->Prop}{a b:α}{f c:α->ē β}(h:fJ P V Y (f a) (c b)):fJ P V Y (pure a>>=f) (pure b>>=c):=h
def ad1(s:Á)(h:fp Y v x)(n:Nat)(e:∀c f i,P.underlying s=À (di c)->c[n]?=À f->P.info? f.type=À i->i.size≠0): fJ P fp Y (Ŏ s v n) (Ŏ s x n):=by
 unfold Ŏ;apply fH (jf s);rintro r d _ g ⟨rfl,j⟩;cases d<;>try exact .fU
 .rename_i c;simp only[];cases k:c[n]? with
  |none=>exact .fU
  |some f=>
   apply fH (F3<|h.fT g);intro t a u _ l;unfold bY;refine fH (fH (V':=ie) (np f.type) ?_) ?_
   .rintro w z _ m ⟨rfl,i,o,p⟩;have:¬z=0:=by rw[<-p];exact e c f i j k o
    rw[if_neg this,if_neg this];exact .fF ((l.r m).C _)
   .exact λy b B _ q=> .fF (.jW q)
def ad2(t:Á)(h:fp Y x v)(j:fp Y z jQ):fJ P fp Y (ŏ t x z) (ŏ t v jQ):=by
 unfold ŏ;apply fH (JD j);rintro r ⟨k,n⟩ _ l rfl;apply fH (jf t);rintro f d _ m ⟨rfl,s⟩;have g:=(h.fT l).fT m;cases d<;>try exact .fU
 .cases g<;>first|exact .fU|skip
  .refine rF<|fH (jf t) ?_;exact λ_ _ _ _ _=>Dj
  refine rF<|fH (jf t) ?_;rintro o d _ c ⟨rfl,_⟩;simp only[];split
  .apply fH (np _);rintro p b _ e ⟨rfl,_⟩;exact .fF (.jW (((‹ie f _ _›.r c).r e).C _))
  .repeat' (first|exact .fU|exact Dj|split)
 .apply fH (F3 g);intro f a u _ q;refine rF<|fH (jf t) ?_;rintro o d _ c ⟨rfl,_⟩;simp only[];split
  .apply fH (np _);rintro p b _ e ⟨rfl,_⟩;exact .fF (.jW (((q.r c).r e).C _))
  .repeat' (first|exact .fU|exact Dj|split)
def Dk(h:fp Y x v)(y:Nat)(c:ax):fJ P jy Y (ī x y c) (ī v y c):=by
 unfold ī;apply fH (JD h);rintro a ⟨k,n⟩ _ b rfl;simp only[];split
 .exact .fF U
 .exact Dj
def rG(Y:fv)(x a:Option Â):Prop:=(x=ë/\a=ë)\/∃v b,x=À v/\a=À b/\fp Y v b
def rG.r{Y a:fv}(h:Y.r a){x b:Option Â}(r:rG Y x b):rG a x b:=r.imp id λ⟨v,c,d,e,f⟩=>⟨v,c,d,e,f.fT h⟩
def F4(f:Bool)(g i:Nat){l j h k m n:Option Â}(c:rG Y l j)(o:rG Y h k)(t:rG Y m n):fJ P jy Y (Ĩ f g i l h m) (Ĩ f g i j k n):=by
 unfold Ĩ;rcases t with⟨rfl,rfl⟩|⟨B,C,rfl,rfl,u⟩
 .refine rF ?_;rcases o with⟨rfl,rfl⟩|⟨w,x,rfl,rfl,d⟩
  .refine rF ?_;rcases c with⟨rfl,rfl⟩|⟨v,p,rfl,rfl,b⟩
   .exact .fF U
   .apply fH (Dk b _ _);rintro r q _ _ rfl;exact .fF U
  .refine fH (Dk d _ _) ?_;rintro y a _ e rfl;rcases(c.r e)with⟨rfl,rfl⟩|⟨v,p,rfl,rfl,b⟩
   .exact .fF U
   .apply fH (Dk b _ _);rintro r q _ _ rfl;exact .fF U
 .refine fH (Dk u _ _) ?_;rintro D a _ s rfl;rcases o with⟨rfl,rfl⟩|⟨w,x,rfl,rfl,d⟩
  .exact .fU
  .refine fH (Dk (d.fT s) _ _) ?_;rintro y z _ e rfl;rcases(((c.r s).r e))with⟨rfl,rfl⟩|⟨v,p,rfl,rfl,b⟩
   .exact .fF U
   .apply fH (Dk b _ _);rintro r q _ _ rfl;exact .fF U
def ad3(t:Á)(k:fp Y x v){l C h D m u:Option Â}(g:rG Y l C)(i:rG Y h D)(j:rG Y m u):fJ P fp Y (Ų t x l h m) (Ų t v C D u):=by
 unfold Ų;apply fH (jf t);rintro I d _ o ⟨rfl,J⟩;have k:=k.fT o;have g:=g.r o;have i:=i.r o;have j:=j.r o;cases d<;>try exact .fU
 .cases k<;>first|exact .fU|skip
  rename_i s;have e:m.isSome=u.isSome:=by rcases j with⟨rfl,rfl⟩|⟨_,_,rfl,rfl,_⟩<;>rfl
  simp only[e];split
  .exact .fU
  .apply fH (F4 Ã s.size s.size g i<|Ç ⟨U,U⟩);rintro G ⟨a,b,c⟩ _ _ rfl;exact .fF (.kz _)
 .rename_i H;apply fH (VR k);intro G a K B f;apply fH (jf H);rintro L d _ p ⟨rfl,_⟩;have f:=f.r p;cases d<;>try exact .fU
  rename_i n e _;apply fH (F4 Ã n n ((g.r B).r p) ((i.r B).r p)<|(j.r B).r p);rintro E ⟨x,y,z⟩ _ q rfl;apply fH (np e);rintro F w _ r ⟨rfl,_⟩;have f:=(f.r q).r r;refine .fF (.kO ?_ _ _);split
  .exact f
  .exact f.C _
 .rename_i e;cases k<;>first|exact .fU|skip
  .rename_i n c;apply fH (F4 É n c g i j);rintro E ⟨x,y,z⟩ _ q rfl;apply fH (np e);rintro F w _ r ⟨rfl,_⟩;simp only[Option.map_none,ite_self];exact .fF (.oz _ _)
  .rename_i f n c;apply fH (F4 É n c g i j);rintro E ⟨x,y,z⟩ _ q rfl;apply fH (np e);rintro F w _ r ⟨rfl,_⟩;have f:=(f.r q).r r;by_cases e:z=x
   .simp only[e,if_true];exact .fF (.kO f _ _)
   .simp only[e,if_false,bH];exact .fF (.kO (f.C _) _ _)
def ad4(t:Á)(b:fp Y x v){l o h p m q:Option Â}(c:rG Y l o)(f:rG Y h p)(g:rG Y m q):fJ P fp Y (Ő t x l h m) (Ő t v o p q):=by
 unfold Ő;apply fH (jf t);rintro u d _ i ⟨rfl,B⟩;have b:=b.fT i;have c:=c.r i;have f:=f.r i;have g:=g.r i;cases d<;>try exact ad3 t b c f g
 rename_i n e;apply fH (F3 b);intro C a D k j;apply fH (F4 Ã n n (c.r k) (f.r k)<|g.r k);rintro E ⟨x,y,z⟩ _ r rfl;apply fH (np e);rintro F w _ s ⟨rfl,_⟩;have j:=(j.r r).r s;refine .fF (.kO ?_ _ _);split
 .exact j
 .exact j.C _
def ad5(t:Á)(a:fp Y x v)(b:fp Y z jQ):fJ P fp Y (ų t x z) (ų t v jQ):=by
 unfold ų;apply fH (JD b);rintro l ⟨k,n⟩ _ c rfl;apply fH (jf t);rintro m d _ f ⟨rfl,o⟩;have a:=(a.fT c).fT f;cases d<;>try exact .fU
 .cases a<;>first|exact .fU|skip
  simp only[];split
  .exact .fF (.iG _ _)
  .exact Dj
 .rename_i p e;cases a<;>first|exact .fU|skip
  rename_i g h;simp only[];split
  .apply fH (np e);rintro q w _ j ⟨rfl,_⟩;exact VP e ((fW.mk g h).I j) _
  .exact Dj
def ad6(a:UnOp)(b:fp Y x v):fJ P fp Y (bZ a x) (bZ a v):=by cases b<;>cases a<;>first|exact .fU|exact .fF (.iG _ _)|exact .fF (.mG _)
end
section
variable{Y:fv}
def ad7{α β:Type}{g:α->ē β}(d:∀{Y:fv} (a:α),fJ P jy Y (g a)<|g a):∀{Y:fv} (l:List α),fJ P jy Y (l.mapM g) (l.mapM g):=by
 intro Y l
 induction l generalizing Y with
 |nil=>exact .fF U
 |cons a l e=>
  rw[ν];apply sN (d a);intro f b _;apply sN e;exact λh c _=> .fF U
def ad8{α β:Type}{g:α->ē β}(b:∀{Y:fv} (a:α),fJ P jy Y (g a)<|g a)(l:Array α):fJ P jy Y (l.mapM g) (l.mapM g):=by rw[Ĕ];have:=ad7 b (Y:=Y) l.toList;apply fJ.lL this;intro d a c _ (e:a=c);subst e;exact .fF U
def ad9(Y:fv)(p a:Nat×Value):Prop:=p.1=a.1/\fp Y p.2 a.2
inductive vq(Y:fv):List (Nat×Value)->List (Nat×Value)->Prop
 |pw:vq Y [] []
 |wR {p p':Nat×Value} {l l':List (Nat×Value)} (h:ad9 Y p p') (t:vq Y l l'):vq Y (p::l) (p'::l')
def vq.fT{Y a:fv}(h:Y.r a){l b:List (Nat×Value)}(r:vq Y l b):vq a l b:=by
 induction r with
 |pw=>exact .pw
 |wR x _ c=>exact .wR ⟨x.1,x.2.fT h⟩ c
def aea(f:Nat):∀(c a:List Â) (k:Nat) (b d:Array Â),fW Y c.toArray a.toArray->fW Y b d-> fW Y ((c.zipIdx k).foldl (λb (p:Value×Nat)=>b.setIfInBounds (f+p.2) p.1) b) ((a.zipIdx k).foldl (λb (p:Value×Nat)=>b.setIfInBounds (f+p.2) p.1) d):=by
 intro c
 induction c with
 |nil=>
  intro a k b d p e;have:a=[]:=by have:=p.r;simp at this;exact Ā this.symm
  subst this;exact e
 |cons x c g=>
  intro a k b d p e;match a,p with
  |[],p=>have:=p.r;simp at this
  |x'::a,p=>
   simp only[Ĭ,List.foldl_cons];refine g a (k+1) _ _ ⟨by have:=p.r;simpa using this,λj h i=> ?_⟩ (e.qK _ (by have:=p.C 0 fq fq;simpa using this));have:=p.C (j+1) (by simp at h|-;omega) (by simp at i|-;omega);simpa using this
theorem aeb(b:Nat){a c:Array Â}(e:fW Y d q)(f:fW Y a c): fW Y (d.zipIdx.foldl (λa (p:Value×Nat)=>a.setIfInBounds (b+p.2) p.1) a) (q.zipIdx.foldl (λa (p:Value×Nat)=>a.setIfInBounds (b+p.2) p.1) c):=by have:=aea b d.toList q.toList 0 a c (by simpa using e) f;grind [Array.toList_zipIdx]
def JF(d:Nat->Option (Nat×Nat)):∀{l e:List (Nat×Value)} {a b:Array Â},vq Y l e->fW Y a b-> (az d a l=ë)\/∃c h,az d a l=À c/\az d b e=À h/\fW Y c h:=by
 intro l e a b h
 induction h generalizing a b with
 |pw=>intro c;exact Î ⟨a,b,U,U,c⟩
 |@wR p p' l e hp _ ih=>
  intro c;let⟨i,v⟩:=p;let⟨k,m⟩:=p';obtain⟨rfl,g⟩:=hp;unfold az;cases d i with
  |none=>exact Ç U
  |some q=>
   let⟨j,n⟩:=q;have f:=g.gW;simp only[<-f.r,<-c.r];split
   .exact Ç U
   .exact ih<|aeb j f c
def aec(q:nW P)(t:Á){l m:Array (Nat×Value)}(h:vq Y l.toList m.toList):fJ P fp Y (Ŵ t l) (Ŵ t m):=by
 unfold Ŵ;apply fH (F2 q t);intro C z D r s;apply fH (jf t);rintro E d _ o ⟨rfl,F⟩;have p:=(s.fT o).gW;have h:=(h.fT r).fT o;cases d<;>try exact .fU
 .rename_i n e;refine fH (np e) ?_;rintro u w _ b ⟨rfl,_⟩;rcases JF (λi=>À (i*w,w)) (h.fT b) (p.I b)with e|⟨c,v,j,k,g⟩
  .simp only[e];exact .fU
  .simp only[j,k];exact .fF (.oQ g.r g.C)
 .rename_i x;refine sN (ad8 (λ{Y} (f:Field)=>fH (np f.type) λG a H _ y=> ?_) x) ?_
  .obtain⟨rfl,_⟩:=y;exact .fF U
  .intro u B b;rcases JF (B[·]?) (h.fT b) (p.I b)with e|⟨c,v,j,k,g⟩
   .simp only[e];exact .fU
   .simp only[j,k];exact .fF (.oQ g.r g.C)
end
section
variable{Y:fv}
theorem aed(Y:fv):fp Y (default:Â) default:=.mG _
theorem fW.aee{Y:fv}(r:fW Y d q)(i:Nat):fp Y d[i]! q[i]!:=by
 by_cases h:i<d.size
 .have a:i<q.size:=by rwa[<-r.r]
  rw[getElem!_pos d i h,getElem!_pos q i a];exact r.C i h a
 .have a:¬i<q.size:=by rwa[<-r.r]
  grind [getElem,aed]
def fW.G{Y:fv}(r:fW Y d q)(n:Nat):fW Y ((dF n).map (d[· %d.size]!)) ((dF n).map (q[· %q.size]!)):=by refine⟨fq,λi a b=> ?_⟩;simp only[ŵ,<-r.r];exact r.aee _
def fW.yF{Y:fv}(r:fW Y d q)(n:Nat):fW Y (Ŷ d n) (Ŷ q n):=by
 unfold Ŷ;have e:n*d.size=n*q.size:=by rw[r.r]
 rw[<-e];exact r.G _
def aef(f:nW P)(t:Á)(b:Nat){m n:Array (Nat×Value)}(h:vq Y m.toList n.toList):fJ P fp Y (ĭ t b m) (ĭ t b n):=by
 unfold ĭ;apply fH (jf t);rintro v d _ p ⟨rfl,x⟩;have h:=h.fT p;cases d<;>try exact .fU
 rename_i e;apply fH (np e);rintro y w _ o ⟨rfl,_⟩;simp only[];split
 .exact .fU
 split
 .refine rF ?_;rcases JF (λi=>À (i*w,w)) (h.fT o) ((fW.N _).G<|b*w)with e0|⟨c,q,g,j,k⟩
  .rw[e0];exact .fU
  .rw[g,j];exact fH (AN e k) λr a s _ l=> .fF (.kO l _ _)
 .refine fH (F2 f e) λB z C u f=>rF ?_;rcases JF (λi=>À (i*w,w)) ((h.fT o).fT u) (f.gW.G<|b*w)with e0|⟨c,q,g,j,k⟩
  .rw[e0];exact .fU
  .rw[g,j];exact fH (AN e k) λr a s _ l=> .fF (.kO l _ _)
def NU(h:fp Y x v):fJ P jy Y (Α x) (Α v):=by cases h<;>first|exact .fU|exact .fF U
def fW.aeg(Y:fv)(b:Array UInt8):fW Y (b.map λb=>Ć .u8 b.toNat) (b.map λb=>Ć .u8 b.toNat):= ⟨U,λi a _=>by simp only[ŵ];exact .iG _ _⟩
def F5(a n:Nat)(h:fp Y x v):fJ P fW Y (ļ a n x) (ļ a n v):=by
 cases h<;>first|exact .fU|exact .fF (fW.N _)|exact .fF (fW.aeg _ _)|skip
 rename_i b _ _;exact NQ b _
def NV(n:Nat):fJ P jy Y (bP n) (bP n):=by
 unfold bP;split
 .exact .Dh (Ç U) (.fF U)
 .exact .fF U
def aeh(a:Array Á)(t:Á)(h:fp Y x v):fJ P fp Y (ş a t #[x]) (ş a t #[v]):=by
 unfold ş;cases a[0]? with
 |none=>exact .fU
 |some b=>
  apply fH (jf b);rintro f d _ c ⟨rfl,g⟩;have h:=h.fT c;cases d<;>try exact .fU
  .cases h<;>first|exact .fU|exact .fF (.iG _ _)
  .rename_i e;refine fH (jf e) ?_;rintro i d _ j ⟨rfl,_⟩;cases d<;>first|exact .fU|exact .fF (.iG _ _)
  .cases h<;>first|exact .fU|exact .fF (.iG _ _)
  .exact .fF (.iG _ _)
  all_goals cases h<;>first|exact .fU|exact .fF (.iG _ _)
def aei(a:Array Á)(t:Á)(h:fp Y x v):fJ P fp Y (Š a t #[x]) (Š a t #[v]):=by
 unfold Š;cases a[0]? with
 |none=>exact .fU
 |some b=>
  apply fH (jf b);rintro f d _ c ⟨rfl,g⟩;have h:=h.fT c;cases d<;>try exact .fU
  .rename_i e;refine fH (jf e) ?_;rintro i d _ j ⟨rfl,_⟩;cases d<;>first|exact .fU|exact .fF (.iG _ _)
  .cases h<;>first|exact .fU|exact .fF (.iG _ _)
  .exact .fF (.iG _ _)
  all_goals cases h<;>first|exact .fU|exact .fF (.iG _ _)
def aej(g:Array Á)(t:Á)(h:fp Y x v)(a:fp Y z jQ):fJ P fp Y (ő g t #[x,z]) (ő g t #[v,jQ]):=by
 unfold ő;cases g[0]? with
 |none=>exact .fU
 |some l=>
  apply fH (jf l);rintro u d _ i ⟨rfl,B⟩;have h:=h.fT i;have a:=a.fT i;cases d<;>try exact .fU
  rename_i e;cases h<;>first|exact .fU|skip
  .rename_i n c;apply fH (NU a);rintro o m _ b rfl;apply fH (np e);rintro p w _ f ⟨rfl,_⟩;apply fH (F5 w _<|(a.fT b).fT f);exact λq c r j k=> .fF (.iG _ _)
  .rename_i s n c;apply fH (NU a);rintro o m _ b rfl;apply fH (np e);rintro p w _ f ⟨rfl,_⟩;apply fH (F5 w _<|(a.fT b).fT f);intro q c r j k;apply fH (NS (((s.r b).r f).r j)<|by simpa using k);exact λC _ _ _ _=> .fF (.iG _ _)
end
section
variable{Y:fv}
def NW{α:Type}{h:Halt}:∀u x a,(ey h:ē α).run P u≠ĥ x a:=by intro u x a e;cases e
theorem F6{α β:Type}{m:ē α}{f:α->ē β}(h:∀a u x b,(f a).run P u≠ĥ x b):∀u x b,(m>>=f).run P u≠ĥ x b:=by
 intro u x b e;rw[Ä]at e;cases c:m.run P u with
 |ok a w=>rw[c]at e;exact h a _ _ _ e
 |halt z w=>rw[c]at e;cases e
theorem VS{α:Type}:∀u x a,(goPanic v:ē α).run P u≠ĥ x a:=NW
def aek{α:Type}{v:br}:∀u x a,(unsupported v:ē α).run P u≠ĥ x a:=NW
theorem rH{α:Type}(e:Ι):∀u x a,(runtimePanic e:ē α).run P u≠ĥ x a:=by unfold runtimePanic;grind [F6,VS]
def JG{α:Type}{V:fv->α->α->Prop}{e:Ι}{m:ē α}:fJ P V Y (runtimePanic e) m:=.oR (rH e)
def ael(H:nW P)(p g t:Á)(i:(∃e,P.underlying g=À (dj e))\/P.underlying g=À ę){B:Â}(j:fp Y v jQ)(c:fp Y x B): fJ P fp Y (ĸ #[p,g] t #[v,x]) (ĸ #[p,g] t #[jQ,B]):=by
 unfold ĸ;apply fH (jf p);rintro C d _ D ⟨rfl,W⟩;have j:=j.fT D;have c:=c.fT D;cases d<;>try exact .fU
 rename_i e;have r:=j;cases j<;>first|exact .fU|skip
 all_goals
  refine fH (np e) ?_;rintro X w _ E ⟨rfl,_⟩;refine fH (jf g) ?_;rintro ρ3 d1 _ F ⟨rfl,k⟩;rcases i with⟨e1,i⟩|i;all_goals
   rw[i]at k;injection k with k;subst k;refine rF<|fH (NU<|c.fT<|fv.I E F) ?_;rintro ρ4 m _ I rfl;have f:=fv.I (fv.I E F) I;have c:=c.fT f;have r:=r.fT f;simp only[];split
   .apply fH (F5 w m c);intro J q K l u;first
     |exact .fF (.oz _ _)
     |exact fH (NS (((‹ie C _ _›.r f).r l).C _)<|by simpa using u) λL _ _ h _=> .fF (.kO (((‹ie C _ _›.r f).r l).r h) _ _)
   .apply fH (yE e);rintro J G _ l ⟨rfl,_⟩;split
    .exact .oR (wN<|rH _)
    .apply fH (yE e);rintro L G _ h ⟨rfl,_⟩;split
     .refine .oR (wN ?_);simp only[Å,if_false];refine F6 λb=> ?_;simp_all
     .apply sN (.AJ λ_=> .fF U);intro M nc y;apply fH (yE e);rintro N G _ n ⟨rfl,_⟩;apply sN (NV _);intro O _ Q;have f:=fv.I (fv.I (fv.I l h)<|fv.I y n) Q;apply fH (F5 w _<|r.fT f);intro ρa o o' h S;apply fH (F5 w m<|c.fT<|fv.I f h);intro M q K y u;apply fH (F2 H e);intro N z z' n T;exact fH (AN e<|(((S.I y).I n).tO<|u.I n).tO<|T.gW.yF _) λO a a' _ V=> .fF (.kO V _ _)
end
section
variable{Y:fv}
def aem(g:nW P)(t:Á)(i:fp Y v x)(j:fp Y z jQ):fJ P fp Y (Ĺ t v z) (Ĺ t x jQ):=by
 unfold Ĺ;apply fH (jf t);rintro o d _ f ⟨rfl,p⟩;cases d<;>try exact .fU
 rename_i e;apply fH (NT<|i.fT f);rintro q r _ k rfl;apply fH (NT<|(j.fT f).fT k);rintro s u _ y rfl;apply fH (yE e);rintro B C _ D ⟨rfl,_⟩;simp only[];split
 .split
  .exact .oR (wN<|rH _)
  .split
   .exact .oR (wN<|rH _)
   .exact .oR (F6 λ_=>wN<|rH _)
 .apply sN (NV _);intro E _ F;apply fH (np e);rintro G w _ H ⟨rfl,_⟩;split
  .exact rF<|fH (AN e<|(fW.N _).G _) λm a n _ b=> .fF (.kO b _ _)
  .exact fH (F2 g e) λ_ _ _ _ h=>rF<|fH (AN e<|h.gW.G _) λm a n _ b=> .fF (.kO b _ _)
def tP(P:Õ)(t:Á):Prop:=P.underlying t=À .bool\/(∃k,P.underlying t=À (Β k))\/P.underlying t=À ę
def nt:Â->Prop
 |Þ (À _)=>False
 |_=>True
def VT(t:Á)(i:tP P t\/∃e,P.underlying t=À (ð e))(b:fp Y x v)(c:fp Y z jQ)(j:nt x\/nt z):fJ P jy Y (ó t x z) (ó t v jQ):=by
 unfold ó ā Λ;refine fH (jf t) ?_;rintro o d _ g ⟨rfl,a⟩;have b:=b.fT g;have c:=c.fT g;rcases i with(h|⟨k,h⟩|h)|⟨e,h⟩;all_goals
  rw[h]at a;injection a with a;subst a;cases b<;>cases c<;>first|exact .fU|exact .fF U|(simp[nt]at j;done)|skip
 .simp only[];split<;>first|exact .fF U|exact .fU
 .rename_i l n _ _ _;by_cases f:n=0
  .subst f;exact .fF U
  .refine .oR λu x m e=> ?_;simp_all
 .rename_i l n;by_cases f:n=0
  .subst f;exact .fF U
  .refine .oR λu x m e=> ?_;simp_all
end
section
variable{Y:fv}
def JH{r:Nat}(h:Y r i):fJ P (λ_ a b=>a=ë/\b=ë) Y (dm r) (dm i):=.vp h λ_ _ _ _=> .fF ⟨U,U⟩
def VU{r:Nat}(h:Y r i):fJ P (λ_ a b=>a=ë/\b=ë) Y (b9 r) (b9 i):=.vp h λ_ _ _ _=> .fF ⟨U,U⟩
def AO(h:ie Y a p):fJ P (λc x b=>ie c x.1 b.1/\x.2=b.2/\x=(a,Ã)/\b=(p,Ã)) Y (Į a) (Į p):=by unfold Į;apply fH (VU h.1);rintro c x d b ⟨rfl,rfl⟩;exact .fF ⟨h.r b,U,U,U⟩
def aen(h:ie Y a p):fJ P jy Y (aY a) (aY p):=by unfold aY;apply fH (JH h.1);rintro b x c d ⟨rfl,rfl⟩;exact .fF U
def F7(h:ie Y a p):fJ P jy Y (dp a) (dp p):=by
 have f:=h;let⟨g,i,b⟩:=f;unfold dp;cases c:a.spot with
 |some s=>
  rw[c]at b;rw[<-b];exact .fF U
 |none=>
  rw[c]at b;rw[<-b];apply fH rE;rintro k s l d ⟨rfl,e⟩;subst e;apply fH (aen<|h.r d);intro m _ _ j _;refine .vp (j.1 _ _<|d.1 _ _ g) λe n o q=> ?_;simp only[<-i,ç];split
  .exact .fF U
  .split
   .exact .fF U
   .exact .fU
def JJ(c:Bi Y){b d:Ú}(f:ie Y a p)(g:ie Y b d):(a.block==b.block)=(p.block==d.block):=by
 rw[Χ,beq_iff_eq,beq_iff_eq];constructor
 .intro e;exact c.1 _ _ _ f.1<|e▸g.1
 .intro e;exact c.2.1 _ _ _ f.1<|e▸g.1
theorem VW(g:Bi Y){b c:Ú}(d:ie Y a p)(f:ie Y b c):(a==b)=(p==c):=by have e:=JJ g d f;rw[Χ,beq_iff_eq,beq_iff_eq]at e;rw[Χ,beq_iff_eq,beq_iff_eq];let⟨h,i,j⟩:=a;let⟨k,l,m⟩:=p;let⟨n,o,q⟩:=b;let⟨r,s,t⟩:=c;let⟨_,u,v⟩:=d;let⟨_,w,x⟩:=f;grind
theorem VX(f:Bi Y)(n:Y.C=P.globals.size){b d:Ú}(e:ie Y a p)(g:ie Y b d):fJ P jy Y (š a b) (š p d):=by
 unfold š;apply fH rE;rintro o c q h ⟨i,j⟩;rw[i,j];have k:(a.block !=b.block)=(p.block !=d.block):=by simp only[bne];rw[JJ f e g]
 have l:(decide<|a.block≥P.globals.size)=(decide<|p.block≥P.globals.size):=by have:=f.2.2 _ _ e.1;grind
 rw[k,l];split
 .exact .fU
 .apply fH (F7<|e.r h);rintro r x _ m rfl;apply fH (F7<|(g.r h).r m);rintro s y _ t rfl;exact .fF U
def aeo(d:Bi Y)(e:Y.C=P.globals.size)(k:ú){b c:Ú}(f:ie Y a p)(g:ie Y b c):fJ P fp Y (Μ k a b) (Μ k p c):=by unfold Μ;apply fH (VX d e f g);rintro h ⟨x,y⟩ _ _ rfl;exact .fF (.iG _ _)
def aep(e:Bi Y)(f:Y.C=P.globals.size)(c:ġ){b d:Ú}(g:ie Y a p)(h:ie Y b d):fJ P fp Y (Ν c a b) (Ν c p d):=by unfold Ν;refine fH (VX e f g h) ?_;rintro i ⟨x,y⟩ _ _ rfl;cases c<;>first|exact .fF (.mG _)|exact .fU
def VY(k:ú)(b:ie Y a p)(n:Int):fJ P fp Y (Ξ k a n) (Ξ k p n):=by
 unfold Ξ;refine .vp b.1 λe m d f=> ?_;apply rF;apply fH (yE e);rintro g h _ c ⟨rfl,_⟩;simp only[];split
 .exact .fU
 .apply fH (F7<|b.r c);rintro i x _ _ rfl;exact .fF (.iG _ _)
def aer{n:Int}(h:j<=b)(a:ξ P i e j k n=À m):ξ P i e b k n=À m:=by
 unfold ξ at a|-;simp only[bind,Option.bind]at a|-;split at a
 .cases a
 .rename_i f;rw[if_neg f];split at a
  .cases a
  .rename_i g;simp only[g];dsimp only at a;split at a
   .cases a
   .rename_i l;rw[if_neg]
    .exact a
    .intro o;apply l;have:=(λw=>Nat.mul_le_mul_right w h)<|P.bytesOf e;simp at o|-;omega
def aes{i:Á->Bool}:∀{d:Nat} {e:Á} {c a b n:Nat},c<=a->da P i d e c b n=É->da P i d e a b n=É
 |0,_,_,_,_,_,_,h=>by simp[da]at h
 |d+1,e,c,a,b,n,hc,h=>by
  unfold da at h|-;simp only at h|-;split at h
  .cases h
  .rename_i j;rw[if_neg j];rw[bI,ě,ě,ě]at h|-;rcases h with⟨⟨f,g⟩,k⟩|⟨f,g⟩
   .exact Ç ⟨⟨f,by simp at g|-;omega⟩,k⟩
   .exact Î ⟨by simp at f|-;omega,g⟩
def VZ:∀{d:Nat} {e:Á} {c a b:Nat} {u:Á} {n:Nat},c<=a->aZ P d e c b u n=É->aZ P d e a b u n=É
 |0,_,_,_,_,_,_,_,h=>by simp[aZ]at h
 |d+1,e,c,a,b,u,n,hc,h=>by
  unfold aZ at h|-;rw[bI]at h|-;rcases h with h|h
  .exact Ç<|aes hc h
  .right;split at h
   .rename_i f;first|rw[f]|skip
    exact VZ hc h
   .cases h
def aeu{a:Á->Bool}:da P a i e 0 j (n+1)=Ã:=by
 cases i with
 |zero=>simp[da]
 |succ i=>
  unfold da;simp
def aev{k:ú}(a:P.underlying t=À (Β k)):aZ P i e 0 j t (n+1)=Ã:=by
 cases i with
 |zero=>simp[aZ]
 |succ i=>
  unfold aZ;rw[aeu];simp[a]
def V1(t:Á)(d:ie Y a p)(k:ú)(n:Int):fJ P fp Y (ñ #[] t #[Þ<|À a,Ć k n]) (ñ #[] t #[Þ<|À p,Ć k n]):=by
 have f:=d;let⟨c,g,h⟩:=f;unfold ñ;apply rF;simp only[];split
 .apply fH (JH c);rintro i x e b ⟨rfl,rfl⟩;exact .fF (.jW (d.r b))
 .split
  .exact .fU
  .refine .vp c λe m u j=> ?_;apply rF;apply fH rE;rintro i b v l ⟨o,r⟩;rw[o,r,<-g];cases s:ξ P P.depth e (m/P.cellsOf e) a.off n with
   |none=>exact .fU
   |some x=>
    rw[aer (ο<|j.elim (λq=>by omega) λq=>q.1) s];exact .fF (.jW ⟨l.1 _ _ c,U,h⟩)
end
def yH:Obj->Prop
 |Č .. =>False
 |_=>True
inductive kP(P:Õ){α:Type}(V:fv->α->α->Prop):fv->ē α->ē α->Prop
 |gy {Y:fv} {m m':ē α} (h:fJ P V Y m m'):kP P V Y m m'
 |lL {Y:fv} {β:Type} {V0:fv->β->β->Prop} {m m':ē β} {f f':β->ē α} (h:fJ P V0 Y m m') (hf:∀Y' a a',Y.r Y'->V0 Y' a a'->kP P V Y' (f a) (f' a')):kP P V Y (m.bind f) (m'.bind f')
 |Dl {Y:fv} {o:Obj} {g:Nat->α} {m':ē α} (ho:yH o):kP P V Y (.new o λr=>aI<|g r) m'
 |Dm {Y:fv} {m m':ē α} (h:∀u x u',m.run P u=ĥ x u'->∃i o,u.heap.size<=i/\u'.heap[i]?=À o/\yH o):kP P V Y m m'
section
variable{Y:fv}
def kP.aew{α β:Type}{V:fv->α->α->Prop}{i:fv->β->β->Prop}{m e:ē α}{f j:α->β}(h:kP P V Y m e)(k:∀c a d,Y.r c->V c a d->i c (f a) (j d)): kP P i Y (m.bind λa=>aI<|f a) (e.bind λa=>aI<|j a):=by
 induction h with
 |gy h=>exact .gy (h.lL λc a d u w=> .fF (k c a d u w))
 |lL h _ g=>
  rw[ř,ř];exact .lL h λc a d u w=>g c a d u w λx b z l n=>k x b z (fv.I u l) n
 |Dl b=>exact .Dl b
 |@Dm Y m e h=>
  refine .Dm λu x l b=> ?_;rw[Ĵ]at b;cases g:m.run P u with
  |halt z w=>rw[g]at b;cases b
  |ok a w=>
   rw[g]at b;simp only[ã]at b;cases b;exact h u a _ g
def Dn(u a:Æ):Prop:=∀i o,u.heap.size<=i->a.heap[i]?=À o->¬yH o
def kP.fX{α:Type}{V:fv->α->α->Prop}{Y:fv}{m r:ē α}(h:kP P V Y m r):∀{u w:Æ},jk Y X u w->(∀j,X j->j<w.heap.size)->∀{x:α} {c:Æ},m.run P u=ĥ x c->Dn u c->∀d:Array ý,∃(a:fv) (n:α) (s:Æ) (b:Array ý),Y.r a/\(∀i j,a i j->Y i j\/(u.heap.size<=i/\w.heap.size<=j))/\r.runT P w d=(ĥ n s,d++b)/\V a x n/\jk a X c s/\nV Y X w s/\(∀e∈b,AK a X e)/\u.heap.size<=c.heap.size:=by
 induction h with
 |gy h=>intro u w k g x c b _ d;exact h.fX k g b d
 |@lL Y β V0 m r f f' h _ ih=>
  intro u w k g x c b l d;rw[Ĵ]at b;cases t:m.run P u with
  |halt z w=>rw[t]at b;cases b
  |ok a u1=>
   rw[t]at b;let⟨G,H,w1,E,p,q,v,I,J,B,K,C⟩:=h.fX k g t d;let⟨L,n,M,N,F,O,Q,S,T,W,k7,k8⟩:=ih G a H p I J (λj s=>Ô (g j s) B.r) b (λi o s=>l i o<|õ C s)<|d++E;refine⟨L,n,M,E++N,fv.I p F,λi j D=> ?_,?_,S,T,B.fi W λi j D=>(q i j D).imp id λy=>y.2,λe s=> ?_,õ C k8⟩
   .rcases O i j D with y|⟨y1,y2⟩
    .exact q i j y
    .exact Î ⟨õ C y1,õ B.r y2⟩
   .rw[Ñ,v];simp only[];rw[Q,Ļ]
   .rcases Ĝ.1 s with s|s
    .rcases K e s with⟨a,i,y,z2,z3,z4⟩|z
     .exact Ç ⟨a,i,y,F.1 _ _ z2,z3,z4⟩
     .exact Î z
    .exact k7 e s
 |Dl s=>
  intro u w k g x c b l d;simp only[ã]at b;cases b;exact absurd s<|l u.heap.size _ (ß _) fq
 |Dm h=>
  intro u w k g x c b l d;let⟨i,o,p,q,v⟩:=h u x c b;exact absurd v<|l i o p q
end
section
variable{Y:fv}
theorem aex(i:Bi Y)(F:Y.C=P.globals.size)(t:Á)(s:tP P t){j b m:Ú}(e:ie Y a j)(f:ie Y b m):fJ P jy Y (ó t (Þ<|À a)<|Þ<|À b) (ó t (Þ<|À j)<|Þ<|À m):=by
 unfold ó ā Λ;refine fH (jf t) ?_;rintro G d _ g ⟨rfl,c⟩;rcases s with h|⟨k,h⟩|h
 .rw[h]at c;injection c with c;subst c;exact .fU
 .rw[h]at c;injection c with c;subst c;apply fH (AO<|e.r g);rintro H p u l ⟨_,_,rfl,rfl⟩;apply fH (AO<|(f.r g).r l);rintro I q J n ⟨_,_,rfl,rfl⟩;apply fH rE;rintro K p u o ⟨v,w⟩;rw[v,w];have z:=(((e.r g).r l).r n).r o;have B:=(((f.r g).r l).r n).r o;have C:=JJ i e f;have D:(decide<|a.block<P.globals.size)=(decide<|j.block<P.globals.size):=by
   have:=i.2.2 _ _ e.1;grind
  simp only[C,D];split
  .apply fH (F7 z);rintro E x _ r rfl;apply fH (F7<|B.r r);rintro L y _ M rfl;exact .fF U
  .apply fH (yE t);rintro E x _ r ⟨rfl,_⟩;split
   .rw[VW i e f];split
    .exact .fF U
    .exact .fU
   .exact .fU
 .rw[h]at c;injection c with c;subst c;exact .fU
def aey(e:Bi Y)(f:Y.C=P.globals.size)(t:Á)(b:tP P t)(c:fp Y x v)(d:fp Y z jQ):fJ P jy Y (ó t x z) (ó t v jQ):=by
 by_cases a:nt x\/nt z
 .exact VT t (Ç b) c d a
 .have g:=λh=>a<|Ç h;have i:=λh=>a<|Î h;cases c<;>first|exact absurd trivial g|skip
  cases d<;>first|exact absurd trivial i|skip
  rename_i j _ _ k;exact aex e f t b j k
def aez(a:ġ)(k:ú)(x y:Int):fJ P fp Y (ah a k x y) (ah a k x y):=by
 unfold ah;split
 .exact JG
 .cases a<;>first|exact .fU|exact .fF (.iG _ _)
def aeA(a:ġ)(k b:ú)(x y:Int):fJ P fp Y (aK a k x b y) (aK a k x b y):=by
 unfold aK;split
 .exact JG
 .cases a<;>first|exact .fU|exact .fF (.iG _ _)
def aeB(a:ġ)(t:Á)(k b:ú)(x y:Int):fJ P fp Y (Ũ a t (Ć k x)<|Ć b y) (Ũ a t (Ć k x)<|Ć b y):=by
 cases a<;>simp only[Ũ]<;>first|exact aeA _ _ _ _ _|skip
 all_goals
  split
  .exact .fU
  .first|exact .fF (.iG _ _)|exact .fF (.mG _)|exact aez _ _ _ _
def aeC(a:ġ)(t:Á)(x y:ByteArray):fJ P fp Y (Ũ a t (ħ x)<|ħ y) (Ũ a t (ħ x)<|ħ y):=by
 cases a<;>simp only[Ũ,bu]<;>first|exact .fU|exact .fF (.mG _)|skip
 split
 .exact .fU
 .exact .fF (.kz _)
end
section
variable{Y:fv}
def lk{α β:Type}{V0:fv->β->β->Prop}{V:fv->α->α->Prop}{m c:ē β}{f d:β->ē α}(h:fJ P V0 Y m c) (g:∀b a e,Y.r b->V0 b a e->kP P V b (f a) (d e)):kP P V Y (m>>=f) (c>>=d):=.lL h g
def aeD{α β:Type}{V:fv->α->α->Prop}{c:fv->β->β->Prop}{m d:ē α}{f e:α->β}(h:kP P V Y m d)(i:∀b a g,Y.r b->V b a g->c b (f a) (e g)): kP P c Y (m>>=λa=>pure<|f a) (d>>=λa=>pure<|e a):=kP.aew h i
def V2(t:Á)(y:Â):∀u x a,(ñ #[] t #[Þ ë,y]).run P u≠ĥ x a:=by
 unfold ñ;refine F6 λn=> ?_;simp only[];split
 .exact aek
 .split;all_goals simp_all
def Dp(t:Á)(i:fp Y x v)(j:∃p,x=Þ p)(k:ú)(n:Int):kP P fp Y (ŕ t x<|Ć k n) (ŕ t v<|Ć k n):=by
 obtain⟨p,rfl⟩:=j;cases i with
 |lW=>
  unfold ŕ;refine lk (jf t) ?_;rintro e d _ h ⟨rfl,_⟩;cases d<;>simp only[Å,if_false,if_true]<;>first|exact .gy .fU|exact .gy (.oR (V2 t _))
 |jW f=>
  unfold ŕ;refine lk (jf t) ?_;rintro e d _ h ⟨rfl,_⟩;have l:∀{a g:Ú},ie e a g->kP P fp e (Į a>>=λp=>ñ #[] t #[Þ<|À p.1,Ć k n]>>=λc=>match c with|Þ (À b)=>cg b p.2|c=>pure c) (Į g>>=λp=>ñ #[] t #[Þ<|À p.1,Ć k n]>>=λc=>match c with|Þ (À b)=>cg b p.2|c=>pure c):=by intro a g f;refine lk (AO f) ?_;rintro q p r s ⟨m,u,rfl,rfl⟩;refine lk (V1 t m k n) ?_;intro w c y z o;cases o<;>first|exact .Dl trivial|exact .gy (.fF (by constructor<;>assumption))
  cases d<;>simp only[Å,if_false,if_true]<;>first|exact .gy .fU|exact l<|f.r h
def V3(t:Á)(b:fp Y x v)(c:∃p,x=Þ p)(k:ú)(n:Int):kP P fp Y (Ţ t x<|Ć k n) (Ţ t v<|Ć k n):=by
 unfold Ţ;obtain⟨p,rfl⟩:=c;cases b with
 |lW=>exact .gy (.oR (V2 t _))
 |jW a=>
  apply lk (VU a.1);rintro e p f d ⟨rfl,rfl⟩;exact .gy (V1 t (a.r d) k n)
def aeE(P:Õ)(a:ġ)(t:Á)(x y:Â):Prop:=a=aA\/a=aL->(tP P t\/((∃e,P.underlying t=À (ð e))/\(nt x\/nt y)))
def V4(c:Bi Y)(d:Y.C=P.globals.size)(t:Á)(f:tP P t\/((∃e,P.underlying t=À (ð e))/\(nt x\/nt z)))(a:fp Y x v)(b:fp Y z jQ):fJ P jy Y (ó t x z) (ó t v jQ):=by
 rcases f with h|⟨g,i⟩
 .exact aey c d t h a b
 .exact VT t (Î g) a b i
def aeF(m:Bi Y)(n:Y.C=P.globals.size)(c:ġ)(t:Á)(r:aeE P c t x z)(o:fp Y x v)(h:fp Y z jQ):kP P fp Y (Ũ c t x z) (Ũ c t v jQ):=by
 have f:c=aA->fJ P fp Y (ó t x z>>=λb=>pure<|Ľ b) (ó t v jQ>>=λb=>pure<|Ľ b):=by intro e;apply fH (V4 m n t (r<|Ç e) o h);rintro i b _ _ rfl;exact .fF (.mG _)
 have g:c=aL->fJ P fp Y (ó t x z>>=λb=>pure<|Ľ !b) (ó t v jQ>>=λb=>pure<|Ľ !b):=by intro e;apply fH (V4 m n t (r<|Î e) o h);rintro i b _ _ rfl;exact .fF (.mG _)
 cases o with
 |iG k a=>
  cases h with
  |iG d b=>exact .gy (aeB c t k d a b)
  |jW l=>
   cases c<;>first|exact .gy .fU|exact .gy (f U)|exact .gy (g U)|exact Dp t (.jW l) ⟨_,U⟩ _ _|skip
   apply lk (AO l);rintro i p s e ⟨j,_,_,_⟩;exact .gy (VY _ j _)
  |lW=>cases c<;>first|exact .gy .fU|exact .gy (f U)|exact .gy (g U)|exact Dp t .lW ⟨_,U⟩ _ _
  |_=>cases c<;>first|exact .gy .fU|exact .gy (f U)|exact .gy (g U)
 |kz a=>
  cases h with
  |kz b=>exact .gy (aeC c t a b)
  |_=>cases c<;>first|exact .gy .fU|exact .gy (f U)|exact .gy (g U)
 |lW=>
  cases h with
  |iG k b=>
   cases c<;>first|exact .gy .fU|exact .gy (f U)|exact .gy (g U)|exact Dp t .lW ⟨_,U⟩ _ _|skip
   refine lk (jf t) ?_;rintro i d _ e ⟨rfl,_⟩;cases d<;>simp only[Å,if_false,if_true]<;>first|exact V3 t .lW ⟨_,U⟩ _ _|exact Dp t .lW ⟨_,U⟩ _ _
  |_=>cases c<;>first|exact .gy .fU|exact .gy (f U)|exact .gy (g U)
 |jW a=>
  cases h with
  |iG k b=>
   cases c<;>first|exact .gy .fU|exact .gy (f U)|exact .gy (g U)|exact Dp t (.jW a) ⟨_,U⟩ _ _|skip
   .refine lk (jf t) ?_;rintro i d _ e ⟨rfl,_⟩;have a:=a.r e;cases d<;>simp only[Å,if_false,if_true]<;>first|exact V3 t (.jW a) ⟨_,U⟩ _ _|exact Dp t (.jW a) ⟨_,U⟩ _ _
   all_goals
    apply lk (AO a);rintro i p s e ⟨j,_,_,_⟩;exact .gy (VY _ j _)
  |jW l=>
   cases c<;>first|exact .gy .fU|exact .gy (f U)|exact .gy (g U)|skip
   all_goals
    refine lk (AO a) ?_;rintro i p s e ⟨j,_,rfl,rfl⟩;refine lk (AO<|l.r e) ?_;rintro w q B b ⟨d,_,rfl,rfl⟩;have k:=b.2.1<|e.2.1 m;have u:=b.2.2.trans<|e.2.2.trans n;first|exact .gy (aeo k u _ (j.r b) d)|exact .gy (aep k u _ (j.r b) d)
  |_=>cases c<;>first|exact .gy .fU|exact .gy (f U)|exact .gy (g U)
 |_=>
  cases h<;>cases c<;>first|exact .gy .fU|exact .gy (f U)|exact .gy (g U)
end
section
variable{Y:fv}
def aeG(a b:Á)(h:(∃k g,P.underlying a=À (Β k)/\P.underlying b=À (Β g))\/(P.underlying a=À ę/\P.underlying b=À ę))(f:fp Y x v):fJ P fp Y (Œ a b x) (Œ a b v):=by
 unfold Œ;refine fH (jf a) ?_;rintro n d _ l ⟨rfl,c⟩;refine fH (jf b) ?_;rintro o p _ m ⟨rfl,e⟩;have f:=(f.fT l).fT m;rcases h with⟨k,g,i,j⟩|⟨i,j⟩;all_goals
  rw[i]at c;rw[j]at e;injection c with c;injection e with e;subst c e;cases f<;>first|exact .fU|exact .fF (.iG _ _)|exact .fF (.kz _)
inductive py(Y:fv):Ο->Ο->Prop
 |nX {v v':Â} (h:fp Y v v'):py Y (ï v) (ï v')
 |sP:py Y aH aH
 |sQ (f:à) {c c':Array Â} (h:fW Y c c'):py Y (ũ f c) (ũ f c')
def F8(P:Õ)(t:Á):Prop:=tP P t\/∃e,P.underlying t=À (ð e)
def aeH(t:Á)(f:F8 P t)(a g b i:Â):fJ P jy Y (į ā t a b) (į ā t g i):=by
 unfold ā į;refine fH (jf t) ?_;rintro j d _ l ⟨rfl,c⟩;rcases f with(h|⟨k,h⟩|h)|⟨e,h⟩;all_goals
  rw[h]at c;injection c with c;subst c;exact .fF U
def aeI(e:ġ)(t:Á)(c:e=aA\/e=aL->F8 P t)(x y:Ö){d:Â}(h:fp Y v z)(i:fp Y jQ d):fJ P jy Y (ŷ e t x y v jQ) (ŷ e t x y z d):=by
 have g:F8 P t->∀{f:fv} (s:br) (v z jQ d:Â),fJ P jy f (į ā t v jQ>>=λr=>if r=É then unsupported s else pure ()) (į ā t z d>>=λr=>if r=É then unsupported s else pure ()):=by
  intro c f s v z jQ d;apply fH (aeH t c v z jQ d);rintro j r _ _ rfl;split
  .exact .fU
  .exact .fF U
 unfold ŷ;cases e<;>first|exact .fF U|skip
 all_goals
  have c:=c (by first|exact Ç U|exact Î U);cases h<;>cases i<;>first|exact .fF U|skip
 all_goals first
  |(cases x<;>cases y<;>first|exact .fF U|exact g c _ _ _ _ _)
  |(
   simp only[þ,Å,if_false];apply fH rE;rintro f p m n ⟨r,s⟩;rw[r,s];apply fH rE;rintro j q o u ⟨k,l⟩;rw[k,l];split
   .exact .fF U
   .exact g c _ _ _ _ _)
def mS{m a:ē Â}(h:fJ P fp Y m a):fJ P py Y (m>>=λv=>pure<|ï v) (a>>=λv=>pure<|ï v):=h.lL λ_ _ _ _ v=> .fF (.nX v)
def V5{m a:ē Â}(h:kP P fp Y m a):kP P py Y (m>>=λv=>pure<|ï v) (a>>=λv=>pure<|ï v):=aeD h λ_ _ _ _ v=> .nX v
def aeJ{m a:ē Unit}(h:fJ P jy Y m a):fJ P py Y (m>>=λ_=>pure aH) (a>>=λ_=>pure aH):=h.lL λ_ _ _ _ _=> .fF .sP
def aeK(f:à)(b:∃a,P.funcs[f]?=À a/\(a.name== "runtime.NumGoroutine")=Ã/\a.body.isNone=Ã)(e:fW Y d q):fJ P py Y (ĵ f d) (ĵ f q):=by let⟨a,g,h,i⟩:=b;unfold ĵ;apply fH rE;rintro m p n j ⟨k,l⟩;rw[k,l,g];simp only[h,i,Å,if_false];exact .fF (.sQ f (e.I j))
end
inductive km(P:Õ)(ev:Ö->Â):Op->Prop
 |AP (x:Ö):km P ev (.move x)
 |F9 (x:Ö):km P ev (.assign x)
 |wS (c a b:Ö):km P ev (.pick c a b)
 |gL (t:Á):km P ev (.alloc t)
 |NY (t:Á) (x:Ö):km P ev (.box t x)
 |NZ (t:Á) (ps:Array (Nat×Operand)):km P ev (.build t ps)
 |N0 (t:Á) (n:Nat) (ps:Array (Nat×Operand)):km P ev (dG t n ps)
 |gD (t:Á) (a:Ö):km P ev (.load t a)
 |jg (t:Á) (a x:Ö):km P ev (.store t a x)
 |Gb (x:Ö):km P ev (eF x)
 |Dq (op:ġ) (t:Á) (x y:Ö) (r:Á) (h:op=aA\/op=aL->(tP P t\/((∃e,P.underlying t=À (ð e))/\(nt (ev x)\/nt (ev y))))):km P ev (dW op t x y r)
 |N4 (op:UnOp) (t:Á) (x:Ö):km P ev (.unOp op t x)
 |N5 (s d:Á) (x:Ö) (h:(∃k k',P.underlying s=À (Β k)/\P.underlying d=À (Β k'))\/(P.underlying s=À ę/\P.underlying d=À ę)):km P ev (aN s d x)
 |N6 (t:Á) (l c:Ö):km P ev (dX t l c)
 |kO (t:Á) (x:Ö) (lo hi mx:Option Ö):km P ev (.slice t x lo hi mx)
 |N7 (s:Á) (x:Ö) (n:Nat) (h:∀fields f i,P.underlying s=À (di fields)->fields[n]?=À f->P.info? f.type=À i->i.size≠0):km P ev (dY s x n)
 |N8 (t:Á) (x:Ö) (n:Nat):km P ev (.field t x n)
 |N9 (t:Á) (x i:Ö):km P ev (dZ t x i)
 |Oa (t:Á) (x i:Ö):km P ev (.index t x i)
 |F0 (x:Ö) (n:Nat):km P ev (.extract x n)
 |Gc (x:Ö) (ts:Array Á):km P ev (Ω {callee:=ĝ .len,args:=#[x],argTypes:=ts})
 |Gd (x:Ö) (ts:Array Á):km P ev (Ω {callee:=ĝ .cap,args:=#[x],argTypes:=ts})
 |Ge (x y:Ö) (ts:Array Á):km P ev (Ω {callee:=ĝ .copy,args:=#[x,y],argTypes:=ts})
 |tO (x y:Ö) (t0 t1:Á) (h:(∃e,P.underlying t1=À (dj e))\/P.underlying t1=À ę):km P ev (Ω {callee:=ĝ .append,args:=#[x,y],argTypes:=#[t0,t1]})
 |jO (f:à) (args:Array Ö) (ts:Array Á) (V7:ev (aO f)=eN (.func f) #[] #[]) (h:∃fn,P.funcs[f]?=À fn/\(fn.name== "runtime.NumGoroutine")=Ã/\fn.body.isNone=Ã):km P ev (Ω {callee:=cj<|aO f,args:=args,argTypes:=ts})
end Go.Proofs.Y.Lift
namespace Go.Proofs.Y.Lift
open Go Go.Conc
section
variable{Y:fv}
def V8(Y:fv):Ö->Prop
 |ea v=>fp Y v v
 |eB g=>Y g g
 |_=>True
theorem Gf(Y:fv):fp Y ľ ľ:=.nU U λi h=>absurd h fq
def aeL{a a':bF}(h:fW Y a.tmps a'.tmps)(b:V8 Y qQ):fp Y (a.eval qQ) (a'.eval qQ):=by
 cases qQ with
 |tmp t=>
  simp only[å,ĩ];rcases h.S t with⟨f,g⟩|⟨v,d,f,g,c⟩
  .rw[f,g];exact Gf Y
  .rwa[f,g]
 |const v=>exact b
 |global g=>exact .jW ⟨b,U,U⟩
 |func f=>exact .fn _
def aeM(b:Array av)(h:fW Y d q)(j:Nat):ł b d j=ł b q j:=by
 unfold ł;cases(b[j]?).bind (·.dst)with
 |none=>rfl
 |some a=>
  simp only[Option.bind_some];rcases h.S a with⟨c,e⟩|⟨v,g,c,e,f⟩
  .rw[c,e]
  .rw[c,e];cases f<;>rfl
def JK(a:Array av)(o:av)(h:fW Y d q):Ħ o (ł a d)=Ħ o (ł a q):=by have:ł a d=ł a q:=funext<|aeM a h;rw[this]
def aeN{a a':bF}(h:fW Y a.tmps a'.tmps)(d:Option Tmp)(b:fp Y v x):fW Y (a.put d v).tmps (a'.put d x).tmps:=by
 cases d with
 |none=>exact h
 |some d=>exact h.qK d b
end
section
variable{Y:fv}
def V9{b:Ö->Â}(a:Array Ö)(h:∀x∈a,fp Y (xX x)<|b x):fW Y (a.map xX) (a.map b):= ⟨fq,λi c d=>by simp only[ŵ];exact h _<|Array.getElem_mem _⟩
def Wa{c:Ö->Â}(a:Array (Nat×Operand))(h:∀x∈(a.toList.map (·.2)).toArray,fp Y (xX x)<|c x):vq Y (a.map λp=>(p.1,xX p.2)).toList (a.map λp=>(p.1,c p.2)).toList:=by
 simp only[Array.toList_map];have d:∀x∈a.toList.map (·.2),fp Y (xX x) (c x):=λx b=>h x (by simpa using b);generalize a.toList=l at d
 induction l with
 |nil=>exact .pw
 |cons p l e=>exact .wR ⟨U,d _ fq⟩ (e λx b=>d x<|by simp at b|-;exact Î b)
def Ob{a:Ö->Â}(x:Option Ö)(h:∀y,x=À y->fp Y (xX y) (a y)):rG Y (x.map xX) (x.map a):=by
 cases x with
 |none=>exact Ç ⟨U,U⟩
 |some x=>exact Î ⟨_,_,U,U,h x U⟩
def Wb(p:nW P)(D:Bi Y)(E:Y.C=P.globals.size){w:Ö->Â}(F:∀f,w (aO f)=eN (.func f) #[] #[])(B:km P xX o.op)(g:∀x∈o.op.operands,fp Y (xX x)<|w x):kP P py Y (ì xX o) (ì w o):=by
 let⟨O,u,Q,S,T,guard⟩:=o;simp only at B g;unfold ì;simp only[];cases B with
 |AP x=>exact .gy (.fF (py.nX<|g x<|by simp[Ê]))
 |F9 x=>exact .gy (.fF (py.nX<|g x<|by simp[Ê]))
 |wS c a b=>
  apply lk (VQ<|g c<|by simp[Ê]);rintro G r _ k rfl;refine .gy (.fF (py.nX ?_));split
  .exact(g a<|by simp[Ê]).fT k
  .exact(g b<|by simp[Ê]).fT k
 |gL t=>exact .gy (mS<|adU p t _)
 |NY t x=>exact .gy (mS<|adV t<|g x<|by simp[Ê])
 |NZ t z=>exact .gy (mS<|aec p t<|Wa z g)
 |N0 t n z=>exact .gy (mS<|aef p t n<|Wa z g)
 |gD t a=>exact .gy (mS<|adW t<|g a<|by simp[Ê])
 |jg t a x=>exact .gy (aeJ<|adX t (g a<|by simp[Ê])<|g x<|by simp[Ê])
 |Gb x=>
  simp only[];have j:=g x (by simp[Ê]);generalize xX x=v at j;generalize w x=v' at j;cases j<;>first|exact .gy JG|exact .gy (.fF (py.nX<|by constructor<;>assumption))|skip
  rename_i f;cases f<;>exact .gy (.fF (py.nX<|.fn _))
 |Dq u t x y r h=>
  have j:=g x (by simp[Ê]);have C:=g y (by simp[Ê]);apply V5;apply lk (aeI u t (λe=>(h e).imp id λq=>q.1) x y j C);exact λG _ _ k _=>aeF (k.2.1 D) (k.2.2.trans E) u t h (j.fT k)<|C.fT k
 |N4 u t x=>exact .gy (mS<|ad6 u<|g x<|by simp[Ê])
 |N5 s d x h=>exact .gy (mS<|aeG s d h<|g x<|by simp[Ê])
 |N6 t l c=>exact .gy (mS<|aem p t (g l<|by simp[Ê])<|g c<|by simp[Ê])
 |kO t x H I J=>exact .gy (mS<|ad4 t (g x<|by simp[Ê]) (Ob H λy e=>g y<|by simp[Ê,e]) (Ob I λy e=>g y<|by simp[Ê,e])<|Ob J λy e=>g y<|by simp[Ê,e])
 |N7 s x n h=>exact .gy (mS<|ad1 s (g x<|by simp[Ê]) n h)
 |N8 t x n=>exact .gy (mS<|adZ t (g x<|by simp[Ê]) n)
 |N9 t x i=>exact .gy (mS<|ad2 t (g x<|by simp[Ê])<|g i<|by simp[Ê])
 |Oa t x i=>exact .gy (mS<|ad5 t (g x<|by simp[Ê])<|g i<|by simp[Ê])
 |F0 x n=>exact .gy (mS<|adY (g x<|by simp[Ê]) n)
 |Gc x m=>
  simp only[ù,č,Ē,pure_bind,Ø,â,ä];exact .gy (mS<|aeh m _<|g x<|by simp[Ê,ô])
 |Gd x m=>
  simp only[ù,č,Ē,pure_bind,Ø,â,ä];exact .gy (mS<|aei m _<|g x<|by simp[Ê,ô])
 |Ge x y m=>
  simp only[ù,č,Ē,pure_bind,Ø,â,ä];exact .gy (mS<|aej m _ (g x<|by simp[Ê,ô])<|g y<|by simp[Ê,ô])
 |tO x y K L h=>
  simp only[ù,č,Ē,pure_bind,Ø,â,ä];exact .gy (mS<|ael p K L _ h (g x<|by simp[Ê,ô])<|g y<|by simp[Ê,ô])
 |jO f M m N h=>
  simp only[ù,N,F f,İ,č,pure_bind,Ď,ď];exact .gy (aeK f h<|V9 M λx j=>g x<|by simp[Ê,ô,j])
end
def World.tp(u:Æ)(T:ψ)(D:Nat):Æ:={u with tape:=T,drawn:=D}
def vr(T:ψ)(D:Nat)(a:ψ)(b n:Nat):Prop:=∀i,i<n->a (b+i)=T (D+i)
def vr.lY{T:ψ}(h:vr T i xQ j (n+1)):xQ j=T i:=h 0 Z
def vr.jz{T:ψ}(h:vr T i xQ j (n+m)):vr T i xQ j n:=λa b=>h a Z
def vr.Oc{b:ψ}(h:vr xQ i b j (n+m)):vr xQ (i+n) b (j+n) m:=λa c=>by have:=h (n+a) Z;rw[show j+n+a=j+(n+a) by omega,show i+n+a=i+(n+a) by omega];exact this
def rI{α:Type}(P:Õ)(m:ē α):Prop:=∀(u:Æ) (T:ψ) (D:Nat),∃(n:Nat) (v:Æ),
 ∀x c,m.run P ((World.tp u T D))=ĥ x c->c=(World.tp v T<|D+n)/\∀a b,vr T D a b n->m.run P ((World.tp u a b))=ĥ x ((World.tp v a<|b+n))
section
variable{α β:Type}
def AQ{m:ē α}(h:∀u x a,m.run P u=ĥ x a->a=u/\∀b c,m.run P ((World.tp u b c))=ĥ x ((World.tp u b c))):rI P m:=λu T D=>⟨0,u,λx a e=>by let⟨d,f⟩:=h _ x a e;exact⟨d,λb c _=>f b c⟩⟩
def Od{m:ē α}(h:∀u x a,m.run P u≠ĥ x a):rI P m:=λu T D=>⟨0,u,λx a e=>absurd e<|h _ _ _⟩
def aeO{m:ē α}{f:α->ē β}(h:rI P m)(i:∀a,rI P<|f a):rI P (m.bind f):=by
 intro u T D;let⟨n,v,j⟩:=h u T D;cases b:m.run P ((World.tp u T D))with
 |halt z w=>exact⟨0,u,λx c e=>by rw[Ĵ,b]at e;cases e⟩
 |ok a k=>
  obtain⟨rfl,l⟩:=j a k b;let⟨o,w,p⟩:=i a v T<|D+n;refine⟨n+o,w,λx c e=> ?_⟩;rw[Ĵ,b]at e;let⟨q,r⟩:=p x c e;refine⟨by rw[q,cQ],λz d g=> ?_⟩;rw[Ĵ,l z d g.jz,<-cQ];exact r z (d+n) g.Oc
theorem aeP{m a:ē α}(h:∀u,m.run P u=a.run P u)(b:rI P a):rI P m:=by intro u T D;let⟨n,v,c⟩:=b u T D;exact⟨n,v,λx d e=>by grind⟩
def aeQ(q:bU):rI P (π q):=by
 intro u T D;cases a:q.forced with
 |true=>exact⟨0,u,λx d e=>by simp only[π,ã,a,if_true]at e;cases e;exact⟨U,λb c _=>by simp only[π,ã,a,if_true];rfl⟩⟩
 |false=>
  refine⟨1,u,λx d e=> ?_⟩;simp only[π,ã,a,Å,if_false]at e;cases e;refine⟨U,λb c f=> ?_⟩;simp only[π,ã,a,Å,if_false];have g:(World.tp u b c).tape (World.tp u b c).drawn q=T D q:=congrFun f.lY q;rw[g];rfl
def JL{γ:Type}(s:String):(MonadExcept.throw s:Except String γ)=bG s:=rfl
def aeR(a:Ú)(md:Mode):rI P (aX a md):=by
 refine AQ λu x f e=> ?_;simp only[aX,ã]at e|-;cases b:u.cell? a with
 |some v=>
  rw[b]at e;cases e;exact⟨U,λc d=>by simp only[show((World.tp u c d)).cell? a=À x from b]⟩
 |none=>
  rw[b]at e;cases v:u.farLoad P a (md==ċ)with
  |error z=>simp only[v]at e;cases e
  |ok p=>
   simp only[v]at e;cases e;exact⟨U,λc d=>by simp only[show((World.tp u c d)).cell? a=ë from b,show((World.tp u c d)).farLoad P a (md==ċ)=.ok p from v]⟩
def Oe(u:Æ)(a:Ú)(v:Â)(md:Mode):∀T D,((World.tp u T D)).farStore P a v (md==ċ)=(u.farStore P a v<|md==ċ).map λp=>((World.tp p.1 T D),p.2):=by
 intro T D;have c:∀b t,((World.tp u T D)).viewStore P b t a v (md==ċ)=(u.viewStore P b t a v<|md==ċ).map λp=>((World.tp p.1 T D),p.2):=by
  intro b t;unfold bJ;have o:((World.tp u T D)).seen P b t a (md==ċ)=u.seen P b t a (md==ċ):=U;rw[o];simp only[bind,ρ,pure,ς,JL];cases u.seen P b t a (md==ċ)with
  |error e=>simp only[];split<;>rfl
  |ok r=>
   simp only[];repeat' (first|rfl|split)
 unfold Ŧ;have e:((World.tp u T D)).heap=u.heap:=U;cases r:u.heap[a.block]? with
 |none=>simp only[aP,e,r];rfl
 |some o=>
  cases o<;>first
   |(simp only[aP,e,r];rfl)
   |skip
  simp only[e,r,c];cases u.viewStore P _ _ a v (md==ċ)<;>rfl
def aeS(a:Ú)(v:Â)(md:Mode):rI P (ar a v md):=by
 by_cases b:yB v=É
 .intro u T D;cases d:u.cell? a with
  |some y=>
   cases c:u.frozen? a with
   |true=>exact⟨0,u,λx h e=>by simp only[ar]at e;rw[wP b,show((World.tp u T D)).cell? a=À y from d]at e;simp only[show((World.tp u T D)).frozen? a=É from c,if_true]at e;cases e⟩
   |false=>
    refine⟨0,u.setCell a v,λx h e=> ?_⟩;simp only[ar]at e|-;rw[wP b,show((World.tp u T D)).cell? a=À y from d]at e;simp only[show((World.tp u T D)).frozen? a=Ã from c,Å,if_false]at e;cases e;refine⟨U,λf g i=> ?_⟩;rw[wP b,show((World.tp u f g)).cell? a=À y from d];simp only[show((World.tp u f g)).frozen? a=Ã from c,Å,if_false];rfl
  |none=>
   cases c:u.farStore P a v (md==ċ)with
   |error z=>exact⟨0,u,λx h e=>by simp only[ar]at e;rw[wP b,show((World.tp u T D)).cell? a=ë from d]at e;simp only[Oe u a v md T D,c,cm]at e;cases e⟩
   |ok p=>
    refine⟨0,p.1,λx h e=> ?_⟩;simp only[ar]at e|-;rw[wP b,show((World.tp u T D)).cell? a=ë from d]at e;simp only[Oe u a v md T D,c,cm]at e;cases e;refine⟨U,λf g i=> ?_⟩;rw[wP b,show((World.tp u f g)).cell? a=ë from d];simp only[Oe u a v md f g,c,cm];rfl
 .exact Od λu x h e=>by cases v<;>first|exact absurd U b|cases e
def aeT(o:Obj):rI P (eR o):=λu T D=>⟨0,{u with heap:=u.heap.push o},λx a e=>by cases e;exact⟨U,λb c _=>rfl⟩⟩
def aeU(r:Nat):rI P (cu r):=by
 refine AQ λu x d e=> ?_;simp only[cu,ã]at e|-;cases a:u.heap[r]? with
 |none=>rw[a]at e;cases e
 |some o=>
  rw[a]at e;cases o<;>first
   |(cases e;done)
   |(cases e;exact⟨U,λb c=>by simp only[show((World.tp u b c)).heap[r]?=_ from a]⟩)
end
def qL(u:Æ):Prop:=∀(i:Nat) (c:Array Â) (e:Á),u.heap[i]?≠À (Ÿ c e)
structure Kd(u u':Æ):Prop where
 r:qL u->qL u'
 C:∀(i:Nat) (o:Obj),u.heap[i]?=À o->yH o->∃o',u'.heap[i]?=À o'/\yH o'
theorem Kd.gd(u:Æ):Kd u u:=⟨id,λ_ o h k=>⟨o,h,k⟩⟩
def Kd.fi{c:Æ}(h:Kd w u)(k:Kd u c):Kd w c:=⟨λx=>k.r<|h.r x,λi o x y=>by let⟨d,e,f⟩:=h.C i o x y;exact k.C i d e f⟩
def Gi:Halt->Bool
 |.panic _=>É
 |.stuck _=>É
 |ŀ (.initOrder _)=>Ã
 |ŀ _=>É
 |_=>Ã
def oS{α:Type}(P:Õ)(m:ē α):Prop:=∀u,qL u->(∀x a,m.run P u=ĥ x a->Kd u a)/\(∀z a,m.run P u=bV z a->Gi z=É)
section
variable{α β:Type}
def Wc(a:α):oS P (aI a):=λu _=>⟨λx b h=>by cases h;exact Kd.gd u,λz b h=>by cases h⟩
def Gj{z:Halt}(h:Gi z=É):oS P (ey z:ē α):=λu _=>⟨λx a e=>(by cases e),λb a e=>(by cases e;exact h)⟩
def JN{m:ē α}{f:α->ē β}(h:oS P m)(j:∀a,oS P<|f a):oS P (m.bind f):=by
 intro u d;let⟨g,k⟩:=h u d;refine⟨λx i e=> ?_,λz i e=> ?_⟩<;>rw[Ĵ]at e
 .cases b:m.run P u with
  |ok a c=>
   rw[b]at e;exact(g a c b).fi<|(j a c<|(g a c b).r d).1 x i e
  |halt z w=>rw[b]at e;cases e
 .cases b:m.run P u with
  |ok a c=>
   rw[b]at e;exact(j a c<|(g a c b).r d).2 z i e
  |halt c w=>rw[b]at e;cases e;exact k _ _ b
def Wg:oS P df:=λu _=>⟨λx a h=>by cases h;exact Kd.gd u,λz a h=>by cases h⟩
theorem aeV(q:bU):oS P (π q):=by
 intro u b;constructor
 .intro x a e;simp only[π,ã]at e;split at e<;>cases e
  .exact Kd.gd u
  .exact⟨id,λi o h k=>⟨o,h,k⟩⟩
 .intro z a e;simp only[π,ã]at e;grind
def aeW(m:Mark):oS P (mark m):=λu _=>⟨λx a h=>by cases h;exact Kd.gd u,λz a h=>by cases h⟩
def aeX(r:Nat):oS P (cw r):=λu _=>⟨λx a h=>by cases h;exact Kd.gd u,λz a h=>by cases h⟩
def aeY(a:Ú):oS P (eS a):=λu _=>⟨λx b h=>by cases h;exact Kd.gd u,λz b h=>by cases h⟩
theorem aeZ(o:Obj)(h:∀c e,o≠Ÿ c e):oS P (eR o):=by
 intro u b;refine⟨λx d e=> ?_,λz d e=>by cases e⟩;cases e;refine⟨λ_ i c e a=> ?_,λi f a g=>⟨f,?_,g⟩⟩
 .simp only[Array.getElem?_push]at a;split at a
  .grind
  .exact b i c e a
 .grind
theorem Wh{f:Obj->Obj}(n:∀o,yH o->yH (f o))(j:∀o c e,f o=Ÿ c e->∃d g,o=Ÿ d g):Kd u {u with heap:=u.heap.modify b f}:=by
 refine⟨λh i c e a=> ?_,λi o a p=> ?_⟩
 .simp only[Ň]at a;split at a
  .let⟨o,k,l⟩:=ģ.1 a;let⟨d,g,m⟩:=j o c e l;exact h i d g<|m▸k
  .exact h i c e a
 .grind
theorem ae0(a:Ú)(v:Â):Kd u (u.setCell a v):=by
 unfold ĉ;refine Wh (λo b=> ?_) λo c e h=> ?_
 .cases o<;>first|exact b.elim|trivial
 .grind
theorem Wi(b:qL u)(a:Ú)(s:String):Gi (u.noCell a s)=É:=by
 unfold aP;split
 .rename_i h;exact absurd h<|b _ _ _
 .rfl
 .rfl
theorem ae1(a:Ú)(m:Mode):oS P (aX a m):=by
 intro u d;constructor
 .intro x c e;simp only[aX,ã]at e;grind [Kd.gd]
 .intro z c e;simp only[aX,ã]at e;split at e
  .cases e
  .split at e
   .cases e
   .rename_i b;cases e;unfold ŋ at b;split at b
    .split at b<;>cases b;rfl
    .grind [Wi]
theorem ae2{k:Ú}{r:Array Value×TypeId×(Nat×Nat)×Nat×Value×List (Nat×Nat×List UInt8)}(h:w.seen P a t k yQ=.ok r):∃c e d,w.heap[a.block]?=À (Č c e d):=by unfold World.seen at h;simp only[bind,ρ,pure,ς,JL]at h;grind
theorem ae3{k:Ú}{l:List Ú}(h:w.viewStore P a t k v yQ=.ok (u,l)):Kd w u:=by
 have q:∃c e n d f g,w.heap[a.block]?=À (Č d f g)/\u={w with heap:=w.heap.setIfInBounds a.block (Č c e n)}:=by
  unfold bJ at h;cases i:w.seen P a t k yQ with
  |error e=>
   rw[i]at h;simp only[bind,ρ,pure,ς,JL]at h;repeat' (first|contradiction|split at h)
  |ok r=>
   let⟨d,f,g,j⟩:=ae2 i;rw[i]at h;simp only[bind,ρ,pure,ς,JL]at h;repeat' (first|contradiction|split at h)
   all_goals(simp only[Except.ok.injEq,Prod.mk.injEq]at h;obtain⟨rfl,_⟩:=h;exact⟨_,_,_,d,f,g,j,U⟩)
 obtain⟨c,e,n,d,f,g,j,rfl⟩:=q;refine⟨λs i x m r=> ?_,λi o r y=> ?_⟩
 .rw[Ś]at r;split at r
  .grind
  .exact s i x m r
 .by_cases m:a.block=i
  .subst m;rw[j]at r;cases r;exact y.elim
  .grind
theorem ae4(a:Ú)(v:Â)(m:Mode):oS P (ar a v m):=by
 intro u d;by_cases c:yB v=É
 .constructor
  .intro x f e;simp only[ar]at e;rw[wP c]at e;split at e
   .split at e
    .cases e
    .cases e;exact ae0 a v
   .split at e
    .rename_i b;cases e;unfold Ŧ at b;grind [ae3]
    .cases e
  .intro z f e;simp only[ar]at e;rw[wP c]at e;split at e
   .split at e
    .cases e;rfl
    .cases e
   .split at e
    .cases e
    .rename_i b;cases e;unfold Ŧ at b;split at b
     .split at b<;>cases b;rfl
     .grind [Wi]
 .cases v<;>first|exact absurd U c|exact Gj (P:=P) U u d
def fG(P:Õ)(m:ē α):Prop:=oS P m/\rI P m
theorem gI(a:α):fG P (pure a):=⟨Wc a,AQ λu x b e=>by cases e;exact⟨U,λ_ _=>rfl⟩⟩
def Og{z:Halt}(h:Gi z=É):fG P (ey z:ē α):=⟨Gj h,Od λu x a e=>by cases e⟩
theorem gw{m:ē α}{f:α->ē β}(h:fG P m)(b:∀a,fG P<|f a):fG P (m>>=f):=⟨JN h.1 λa=>(b a).1,aeO h.2 λa=>(b a).2⟩
def Oh{m:ē α}{f:α->β}(h:fG P m):fG P (f<$>m):=gw h λ_=>gI _
theorem jh(s:String):fG P (stuck s:ē α):=Og U
def Wj(v:Â):fG P (goPanic v:ē α):=Og U
theorem qM:fG P df:=⟨Wg,AQ λu x a e=>by cases e;exact⟨U,λ_ _=>rfl⟩⟩
theorem sR(q:bU):fG P (π q):=⟨aeV q,aeQ q⟩
def Gk(m:Mark):fG P (mark m):=⟨aeW m,AQ λu x a e=>by cases e;exact⟨U,λ_ _=>rfl⟩⟩
theorem tR(r:Nat):fG P (cw r):=⟨aeX r,AQ λu x a e=>by cases e;exact⟨U,λ_ _=>rfl⟩⟩
theorem Oi(a:Ú):fG P (eS a):=⟨aeY a,AQ λu x b e=>by cases e;exact⟨U,λ_ _=>rfl⟩⟩
def JO(o:Obj)(h:∀c e,o≠Ÿ c e):fG P (eR o):=⟨aeZ o h,aeT o⟩
def Gl(a:Ú)(m:Mode):fG P (aX a m):=⟨ae1 a m,aeR a m⟩
def ae5(a:Ú)(v:Â)(m:Mode):fG P (ar a v m):=⟨ae4 a v m,aeS a v m⟩
theorem JP{m m':ē α}(h:∀u,m.run P u=m'.run P u)(a:fG P m'):fG P m:=⟨λu b=>by have:=a.1 u b;rwa[<-h u]at this,aeP h a.2⟩
end
section
variable{α:Type}
def nu(u:br)(h:Gi (ŀ u)=É):fG P (unsupported u:ē α):=Og h
def Gm(e:Á)(c:Array Â):fG P (dV e c):=by unfold dV;exact gw (JO _<|by intro _ _ h;cases h) λ_=>gI _
def Wk(t:Á)(v:Â):fG P (eO t v):=Gm _ _
def vt(t:Á):fG P (Δ t):=by unfold Δ;repeat' (first|(with_reducible first|exact gI _|exact jh _|exact qM|refine gw ?_ λ_=> ?_)|split)
theorem rJ(t:Á):fG P (ø t):=by unfold ø;repeat' (first|(with_reducible first|exact gI _|exact jh _|exact qM|refine gw ?_ λ_=> ?_)|split)
def tS{p:Prop}(h:p:=by repeat' (first|(with_reducible first|exact gI _|exact jh _|exact qM|exact rJ _|exact Wj _|exact Wk _ _|exact sR _|exact vt _|exact Gl _ _|exact tR _|exact Gk _|refine gw ?_ (λ_=> ?_)|refine Oh ?_|refine nu _ ?_)|split|rfl)):p:=h
def JQ(t:Á):fG P (Ū t):=by unfold Ū;exact tS
def wT(e:Ι):fG P (runtimePanic e:ē α):=by unfold runtimePanic;repeat' (first|(with_reducible first|exact JQ _|refine gw ?_ λ_=> ?_)|split|exact tS)
def Wl(k:ú)(x y:Int)(c:ax):fG P (boundsPanic k x y c:ē α):=by unfold boundsPanic;simp only[];repeat' (first|(with_reducible first|exact wT _|refine gw ?_ λ_=> ?_)|split|exact tS)
def ae6(r:Nat):oS P (cu r):=by
 intro u b;constructor
 .intro x a e;simp only[cu,ã]at e;split at e<;>first|(cases e;done)|(cases e;exact Kd.gd u)
 .intro z a e;simp only[cu,ã]at e;split at e<;>first|(cases e;done)|(cases e;rfl)
theorem Wm(r:Nat):fG P (cu r):=⟨ae6 r,aeU r⟩
def JR(t:Á):fG P (ω t):=by unfold ω;exact tS
def tT(t:Á):fG P (ay t):=by unfold ay;exact tS
def Oj(t:Á):fG P (ez t):=by unfold ez;exact tS
def Wn(a:Ú):∀(n i:Nat) (b:Array Â),fG P<|Ō a i n b
 |0,i,b=>gI _
 |n+1,i,b=>by unfold Ō;exact gw (Gl _ _) λ_=>Wn a n _ _
def Ol(a:Ú)(n:Nat):fG P (c9 a n):=Wn a n _ _
def JS(a:Ú):∀(b:List Â) (i:Nat),fG P<|Κ a b i
 |[],i=>gI _
 |v::b,i=>by unfold Κ;exact gw (ae5 _ _ _) λ_=>JS a b _
theorem Wo(t:Á)(a:Ú):fG P (ae t a):=by unfold ae;repeat' (first|(with_reducible first|exact tT _|exact Oj _|exact Ol _ _|refine gw ?_ λ_=> ?_)|split|exact tS)
def ae7(t:Á)(a:Ú)(v:Â):fG P (aJ t a v):=by unfold aJ;repeat' (first|(with_reducible first|exact tT _|exact JS _ _ _|refine gw ?_ λ_=> ?_)|split|exact tS)
def Wp(t:Á)(c:Array Â)(o:Nat):fG P (part t c o):=by unfold part;repeat' (first|(with_reducible first|exact tT _|exact Oj _|refine gw ?_ λ_=> ?_)|split|exact tS)
def Wq(v:Â):fG P (ŧ v):=by unfold ŧ;exact tS
def Wr(v:Â):fG P (dh v):=by unfold dh;exact tS
def j5{p:Prop}(h:p:=by repeat' (first|(with_reducible first|exact gI _|exact jh _|exact qM|exact rJ _|exact Wj _|exact Wk _ _|exact JQ _|exact sR _|exact wT _|exact vt _|exact Gl _ _|exact tT _|exact Oj _|exact Ol _ _|exact JS _ _ _|exact Wr _|exact JR _|exact ae7 _ _ _|exact Wo _ _|exact Wq _|exact Wp _ _ _|exact tR _|exact Wm _|exact Wl _ _ _ _|exact Gk _|refine gw ?_ (λ_=> ?_)|refine Oh ?_|refine nu _ ?_)|split|rfl)):p:=h
def Gn(v:Â):fG P (dE v):=by unfold dE;exact j5
def JU(v:Â):fG P (bW v):=by unfold bW;exact j5
def ae8(v:Â):fG P (eP v):=by unfold eP;exact j5
theorem Ws(v:Â):fG P (bX v):=by unfold bX;exact j5
def Wt(t:Á)(b:Bool)(v:Â):fG P (Ű t b v):=by unfold Ű;exact j5
def Wu(t:Á)(v:Â):fG P (ag t v):=by unfold ag;exact j5
def Wv(t:Á)(v:Â):fG P (Ş t v):=by unfold Ş;exact j5
def Ww(t:Á)(a v:Â):fG P (ĳ t a v):=by unfold ĳ;exact j5
def Wx(v:Â)(n:Nat):fG P (ō v n):=by unfold ō;exact j5
def Wy(t:Á)(v:Â)(n:Nat):fG P (ű t v n):=by unfold ű;repeat' (first|(with_reducible first|exact ae8 _|refine gw ?_ λ_=> ?_)|split|exact j5)
def Wz{γ δ:Type}(f:γ->ē δ)(a:∀x,fG P<|f x):∀l:List γ,fG P<|l.mapM f
 |[]=>by rw[cS];exact gI _
 |x::l=>by rw[ν];exact gw (a x) λ_=>gw (Wz f a l) λ_=>gI _
theorem WA{γ δ:Type}(f:γ->ē δ)(a:∀x,fG P<|f x)(l:Array γ):fG P (l.mapM f):=by rw[Ĕ];exact Oh<|Wz f a _
def ae9(l:Array Field):fG P (l.mapM λf=>do pure (f.offset,<-ay f.type)):=WA _ (λ_=>gw (tT _) λ_=>gI _) l
def JV(r:Nat):fG P (dm r):=by unfold dm;exact j5
def WB(r:Nat):fG P (b9 r):=by unfold b9;exact j5
def WC(a:Ú):fG P (aY a):=by unfold aY;repeat' (first|(with_reducible first|exact JV _|refine gw ?_ λ_=> ?_)|split|exact j5)
def AR(a:Ú):fG P (dp a):=by unfold dp;repeat' (first|(with_reducible first|exact gI _|exact jh _|exact qM|exact tR _|exact WC _|refine gw ?_ λ_=> ?_)|split|simp only[]|(rename_i b;cases b<;>simp only[Å,if_false,if_true,þ,Ă]))
def Dr(a:Ú):fG P (Į a):=by unfold Į;repeat' (first|(with_reducible first|exact WB _|refine gw ?_ λ_=> ?_)|split|exact j5)
def afa(a:Ú)(x y:Nat):fG P (partAt a x y):=by unfold partAt;repeat' (first|(with_reducible first|exact AR _|refine gw ?_ λ_=> ?_)|split|exact j5)
def afb(a:Ú)(f:Field):fG P (bY a f):=by unfold bY;repeat' (first|(with_reducible first|exact afa _ _ _|refine gw ?_ λ_=> ?_)|split|exact j5)
def WE(s:Á)(v:Â)(n:Nat):fG P (Ŏ s v n):=by unfold Ŏ;repeat' (first|(with_reducible first|exact afb _ _|refine gw ?_ λ_=> ?_)|split|exact j5)
def WG(t:Á)(x i:Â):fG P (ŏ t x i):=by unfold ŏ;repeat' (first|(with_reducible first|exact gI _|exact jh _|exact rJ _|exact Wl _ _ _ _|exact tT _|exact Wq _|exact Wr _|refine gw ?_ (λ_=> ?_)|refine nu _ ?_)|split|rfl|simp only[])
def afc(x:Â)(y:Nat)(c:ax):fG P (ī x y c):=by unfold ī;exact j5
def WH(b:Bool)(l c:Nat)(x y z:Option Â):fG P (Ĩ b l c x y z):=by unfold Ĩ;repeat' (first|(with_reducible first|exact afc _ _ _|refine gw ?_ λ_=> ?_)|split|exact j5)
def afd(t:Á)(v:Â)(x y z:Option Â):fG P (Ų t v x y z):=by unfold Ų;repeat' (first|(with_reducible first|exact Ws _|exact WH _ _ _ _ _ _|refine gw ?_ λ_=> ?_)|split|exact j5)
def WI(t:Á)(v:Â)(x y z:Option Â):fG P (Ő t v x y z):=by unfold Ő;repeat' (first|(with_reducible first|exact WH _ _ _ _ _ _|exact afd _ _ _ _ _|refine gw ?_ λ_=> ?_)|split|exact j5)
def WJ(t:Á)(x i:Â):fG P (ų t x i):=by unfold ų;exact j5
def WK(o:ġ)(k:ú)(x y:Int):fG P (dH o k x y):=by unfold dH;exact j5
def WL(o:ġ)(k:ú)(x y:Int):fG P (eb o k x y):=by unfold eb;exact j5
def WM(o:UnOp)(v:Â):fG P (bZ o v):=by unfold bZ;repeat' (first|(with_reducible first|exact WK _ _ _ _|exact WL _ _ _ _)|split|exact j5)
def WN(t:Á)(a:Array (Nat×Value)):fG P (Ŵ t a):=by unfold Ŵ;repeat' (first|(with_reducible first|exact ae9 _|refine gw ?_ λ_=> ?_)|split|exact j5)
def WO(t:Á)(n:Nat)(a:Array (Nat×Value)):fG P (ĭ t n a):=by unfold ĭ;repeat' (first|(with_reducible first|exact gI _|exact jh _|exact Gm _ _|exact rJ _|exact JR _|exact tT _|refine gw ?_ (λ_=> ?_)|refine nu _ ?_)|split|rfl|simp only[]|(rename_i b;cases b<;>simp only[Å,if_false,if_true,þ,Ă]))
def Om(n:Nat):fG P (bP n):=by unfold bP;exact j5
def WQ(t:Á)(x y:Â):fG P (Ĺ t x y):=by unfold Ĺ;repeat' (first|(with_reducible first|exact gI _|exact jh _|exact sR _|exact Gm _ _|exact vt _|exact rJ _|exact wT _|exact JR _|exact tT _|exact Gn _|exact Om _|refine gw ?_ λ_=> ?_)|split|simp only[]|(rename_i b;cases b<;>simp only[Å,if_false,if_true,þ,Ă]))
def WR(v:Â):fG P (Α v):=by unfold Α;exact j5
def WS(s n:Nat)(v:Â):fG P (ļ s n v):=by unfold ļ;exact j5
def afe(a:Ú)(n:Nat):fG P (aB a n):=by unfold aB;exact j5
def aff(s l n:Nat)(b:Option Ú)(v:Â):fG P (bb s l n b v):=by unfold bb;repeat' (first|(with_reducible first|exact gI _|exact Oi _|exact afe _ _|refine gw ?_ λ_=> ?_)|split|simp only[]|(rename_i b;cases b<;>simp only[Å,if_false,if_true,þ,Ă]))
def WT(a:Array Á)(t:Á)(x:Array Â):fG P (ş a t x):=by unfold ş;exact j5
def WU(a:Array Á)(t:Á)(x:Array Â):fG P (Š a t x):=by unfold Š;exact j5
def WV(a:Array Á)(t:Á)(x:Array Â):fG P (ő a t x):=by unfold ő;repeat' (first|(with_reducible first|exact WR _|exact WS _ _ _|refine gw ?_ λ_=> ?_)|split|exact j5)
def WW(a:Array Á)(t:Á)(x:Array Â):fG P (ĸ a t x):=by unfold ĸ;repeat' (first|(with_reducible first|exact gI _|exact jh _|exact sR _|exact Gk _|exact Gm _ _|exact vt _|exact rJ _|exact wT _|exact JR _|exact tT _|exact JS _ _ _|exact Gn _|exact Om _|exact WR _|exact WS _ _ _|exact aff _ _ _ _ _|refine gw ?_ (λ_=> ?_)|refine nu _ ?_)|split|rfl|(rename_i b;cases b<;>simp only[Å,if_false,if_true,þ,Ă]))
end
section
variable{α:Type}
theorem On(o:ġ)(k:ı)(x y:Nat):fG P (cU o k x y):=by unfold cU;repeat' (first|(with_reducible first|exact gI _|exact jh _|exact sR _|refine gw ?_ λ_=> ?_)|split|simp only[]|(rename_i b;cases b<;>simp only[Å,if_false,if_true,þ,Ă]))
theorem Oo(o:ġ)(k:ı)(x y:Nat):fG P (dI o k x y):=by unfold dI;grind [gI,jh]
theorem afg(s:ı)(b:Nat)(d:ı):fG P (aQ s b d):=by unfold aQ;grind [gI,sR,gw]
theorem WX(s:ı)(b:Nat)(d:ú):fG P (bK s b d):=by unfold bK;grind [gI,sR,gw]
theorem afh(o:ġ)(k:ı)(x y:Nat):fG P (bg o k x y):=by unfold bg;grind [gI,jh,On,gw]
def nz{p:Prop}(h:p:=by repeat' (first|(with_reducible first|exact gI _|exact jh _|exact sR _|exact On _ _ _ _|exact JU _|exact Oo _ _ _ _|exact afg _ _ _|exact afh _ _ _ _|exact wT _|exact qM|exact AR _|exact tR _|exact Gn _|exact JV _|exact rJ _|exact Dr _|exact WB _|refine gw ?_ (λ_=> ?_)|refine nu _ ?_)|split|rfl)):p:=h
def WY(o:ġ)(k:ı)(x y:Nat):fG P (cx o k x y):=by unfold cx;exact nz
def afi(s:ı)(b:Nat)(d:ı):fG P (bL s b d):=by unfold bL;exact nz
def Oq(x y:Nat):fG P (cy x y):=by unfold cy;exact nz
def Ot(x y:Nat):fG P (cz x y):=by unfold cz;exact nz
def Ou(x y:Nat):fG P (cA x y):=by unfold cA;exact nz
def afj(x y:Nat):fG P (cB x y):=by unfold cB;exact nz
def afk(a b c d:Nat):fG P (aC a b c d):=by unfold aC;repeat' (first|(with_reducible first|exact Oq _ _|exact Ot _ _|exact Ou _ _|refine gw ?_ λ_=> ?_)|split|exact nz)
def afl(s a b c d:Nat):fG P (σ s a b c d):=by unfold σ;repeat' (first|(with_reducible first|exact Oq _ _|exact Ot _ _|exact Ou _ _|refine gw ?_ λ_=> ?_)|split|exact nz)
def afm(a b c d:Nat):fG P (ai a b c d):=by unfold ai;repeat' (first|(with_reducible first|exact gI _|exact WY _ _ _ _|exact Oq _ _|exact Ot _ _|exact Ou _ _|exact afj _ _|exact afl _ _ _ _ _|refine gw ?_ λ_=> ?_)|split|simp only[])
def WZ(o:ġ)(k:ı)(a b c d:Nat):fG P (dq o k a b c d):=by unfold dq;repeat' (first|(with_reducible first|exact WY _ _ _ _|exact afi _ _ _|exact afk _ _ _ _|exact afm _ _ _ _|refine gw ?_ λ_=> ?_)|split|exact nz)
def afn(o:ġ)(k:ú)(x y:Int):fG P (ah o k x y):=by unfold ah;exact nz
def W0(o:ġ)(x y:Int):fG P (eG o x y):=by unfold eG;exact nz
def afo(o:ġ)(k:ú)(x:Int)(a:ú)(y:Int):fG P (aK o k x a y):=by unfold aK;exact nz
def Ov(o:ġ)(x y:ByteArray):fG P (bu o x y):=by unfold bu;exact nz
def W3(a b:Ú):fG P (š a b):=by unfold š;exact nz
def afp(k:ú)(a b:Ú):fG P (Μ k a b):=by unfold Μ;repeat' (first|(with_reducible first|exact W3 _ _|refine gw ?_ λ_=> ?_)|split|exact nz)
def afq(o:ġ)(a b:Ú):fG P (Ν o a b):=by unfold Ν;repeat' (first|(with_reducible first|exact W3 _ _|refine gw ?_ λ_=> ?_)|split|exact nz)
def afr(k:ú)(a:Ú)(n:Int):fG P (Ξ k a n):=by unfold Ξ;repeat' (first|(with_reducible first|exact gI _|exact tR _|exact vt _|exact AR _|refine gw ?_ (λ_=> ?_)|refine nu _ ?_)|split|rfl|simp only[]|(rename_i b;cases b<;>simp only[Å,if_false,if_true,þ,Ă]))
def W4(a:Array Á)(t:Á)(x y:Â):fG P (ñ a t #[x,y]):=by
 unfold ñ;cases x<;>first|exact jh _|skip
 refine gw (Gn y) λn=> ?_;exact nz
def afs(a:Ú)(b:Bool):fG P (cg a b):=by unfold cg;repeat' (first|(with_reducible first|exact gI _|refine gw ?_ (λ_=> ?_)|refine JO _ ?_)|split|(intro _ _ h;cases h;done))
def afu(t:Á)(x y:Â):fG P (ŕ t x y):=by unfold ŕ;repeat' (first|(with_reducible first|exact W4 _ _ _ _|exact afs _ _|refine gw ?_ λ_=> ?_)|split|exact nz)
def afv(t:Á)(x y:Â):fG P (Ţ t x y):=by unfold Ţ;repeat' (first|(with_reducible first|exact W4 _ _ _ _|refine gw ?_ λ_=> ?_)|split|exact nz)
theorem wU{γ:Type}{d:dJ}(h:P.underlying t=À d){f:dJ->ē γ}(a:fG P (f d)):fG P (ø t>>=f):=by
 have e:∀u,(ø t).run P u=ĥ d u:=by intro u;unfold ø;simp_all
 grind [JP,Ä,È]
def W5(t:Á)(x y:Â)(a:tP P t\/((∃e,P.underlying t=À (ð e))/\(nt x\/nt y))):fG P (ó t x y):=by
 unfold ó ā Λ;rcases a with(h|⟨k,h⟩|h)|⟨⟨e,h⟩,k⟩<;>refine wU h ?_
 .repeat' (first|(with_reducible first|exact gI _|exact jh _|exact qM|exact vt _|exact AR _|exact Dr _|refine gw ?_ (λ_=> ?_)|refine nu _ ?_)|contradiction|split)
 .repeat' (first|(with_reducible first|exact gI _|exact jh _|exact qM|exact vt _|exact AR _|exact Dr _|refine gw ?_ (λ_=> ?_)|refine nu _ ?_)|contradiction|split|rfl)
 .repeat' (first|(with_reducible first|exact gI _|exact jh _|exact qM|exact vt _|exact AR _|exact Dr _|refine gw ?_ (λ_=> ?_)|refine nu _ ?_)|contradiction|split)
 .repeat' (first|(with_reducible first|exact gI _|exact jh _|exact qM|exact vt _|exact AR _|exact Dr _|refine gw ?_ (λ_=> ?_)|refine nu _ ?_)|contradiction|exact(Or.elim k id id:False).elim|split)
def afw(t:Á)(a:F8 P t)(x y:Â):fG P (į ā t x y):=by unfold ā į;rcases a with(h|⟨k,h⟩|h)|⟨e,h⟩<;>refine wU h ?_<;>(cases x<;>cases y<;>exact gI _)
theorem W6(c:ġ)(t:Á)(d:c=aA\/c=aL->F8 P t)(x y:Ö)(a b:Â):fG P (ŷ c t x y a b):=by
 unfold ŷ;by_cases e:c=aA\/c=aL
 .have f:=d e;rcases e with rfl|rfl;all_goals
   repeat' (first|(with_reducible first|exact afw _ f _ _|refine gw ?_ λ_=> ?_)|split|exact nz)
 .grind [gI]
end
section
variable{α:Type}
theorem afx(k:ú)(n:Int):fG P (cV k n):=by unfold cV;grind [gI]
theorem W7(n:Int):fG P (bh n):=by unfold bh;grind [gI]
def afy(a:ġ)(t:Á)(x y:Â)(h:a=aA\/a=aL->(tP P t\/((∃e,P.underlying t=À (ð e))/\(nt x\/nt y)))):fG P (Ũ a t x y):=by unfold Ũ;repeat' (first|(with_reducible first|exact W5 _ _ _ (h<|Ç U)|exact W5 _ _ _ (h<|Î U)|exact gI _|exact jh _|exact rJ _|exact Dr _|exact WK _ _ _ _|exact WL _ _ _ _|exact On _ _ _ _|exact Oo _ _ _ _|exact WZ _ _ _ _ _ _|exact afn _ _ _ _|exact W0 _ _ _|exact afo _ _ _ _ _|exact Ov _ _ _|exact afp _ _ _|exact afq _ _ _|exact afr _ _ _|exact afu _ _ _|exact afv _ _ _|refine gw ?_ (λ_=> ?_)|refine nu _ ?_)|contradiction|split|rfl)
def afz(s d:Á)(x:Â)(h:(∃k a,P.underlying s=À (Β k)/\P.underlying d=À (Β a))\/(P.underlying s=À ę/\P.underlying d=À ę)):fG P (Œ s d x):=by
 unfold Œ;rcases h with⟨k,a,b,c⟩|⟨b,c⟩<;>refine wU b<|wU c ?_
 .repeat' (first|(with_reducible first|exact afx _ _|exact gI _|exact WX _ _ _|refine nu _ ?_)|contradiction|split|rfl)
 .repeat' (first|(with_reducible first|exact W7 _|exact gI _|exact WX _ _ _|refine nu _ ?_)|contradiction|split|rfl)
def W8:∀(l:List FieldStep) (t:Á) (x:Option Â),fG P<|bx l t x
 |[],t,x=>by unfold bx;exact gI _
 |s::l,t,x=>by unfold bx;repeat' (first|(with_reducible first|exact W8 l _ _|exact gI _|exact jh _|exact rJ _|exact Wp _ _ _|refine gw ?_ λ_=> ?_)|split|(intro _ _ h;cases h;done)|rfl|simp only[]|(rename_i b;cases b<;>simp only[Å,if_false,if_true,þ,Ă]))
def W9:∀(n:Nat) (t:Á) (v:Â) (s:String),fG P<|aR n t v s
 |0,t,v,s=>by unfold aR;exact gI _
 |n+1,t,v,s=>by unfold aR;repeat' (first|(with_reducible first|exact W9 n _ _ _|exact W8 _ _ _|exact gI _|exact jh _|exact vt _|exact rJ _|refine gw ?_ λ_=> ?_)|split|(intro _ _ h;cases h;done)|rfl|simp only[]|(rename_i b;cases b<;>simp only[Å,if_false,if_true,þ,Ă]))
def lZ{m:ē Â}(h:fG P m):fG P (m>>=λv=>pure<|ï v):=gw h λ_=>gI _
theorem afA(f:à)(b:∃a,P.funcs[f]?=À a/\(a.name== "runtime.NumGoroutine")=Ã/\a.body.isNone=Ã)(c:Array Â):fG P (ĵ f c):=by let⟨a,d,e,g⟩:=b;refine JP (m':=pure<|ũ f c) (λu=> ?_)<|gI _;unfold ĵ;rw[Ä,ă];grind [È,Å]
def afB(j:km P xX o.op):fG P (ì xX o):=by
 let⟨k,g,m,p,u,guard⟩:=o;simp only at j;unfold ì;simp only[];cases j with
 |AP x=>exact gI _
 |F9 x=>exact gI _
 |wS c a b=>exact gw (JU _) λ_=>gI _
 |gL t=>exact lZ<|Wt _ _ _
 |NY t x=>exact lZ<|Wu _ _
 |NZ t b=>exact lZ<|WN _ _
 |N0 t n b=>exact lZ<|WO _ _ _
 |gD t a=>exact lZ<|Wv _ _
 |jg t a x=>exact gw (Ww _ _ _) λ_=>gI _
 |Gb x=>
  simp only[];repeat' (first|(with_reducible first|exact W9 _ _ _ _|exact gI _|exact qM|exact wT _|exact JU _|exact Wt _ _ _|exact Wu _ _|exact Wv _ _|exact Ww _ _ _|exact Wx _ _|exact Wy _ _ _|exact WE _ _ _|exact WG _ _ _|exact WI _ _ _ _ _|exact WJ _ _ _|exact WM _ _|exact WN _ _|exact WO _ _ _|exact WQ _ _ _|exact WT _ _ _|exact WU _ _ _|exact WV _ _ _|exact WW _ _ _|refine gw ?_ (λ_=> ?_)|refine nu _ ?_)|split|rfl)
 |Dq g t x y r h=>exact lZ<|gw (W6 g t (λe=>(h e).imp id λq=>q.1) x y _ _) λ_=>afy g t _ _ h
 |N4 g t x=>exact lZ<|WM _ _
 |N5 s d x h=>exact lZ<|afz s d _ h
 |N6 t l c=>exact lZ<|WQ _ _ _
 |kO t x b a c=>exact lZ<|WI _ _ _ _ _
 |N7 s x n h=>exact lZ<|WE _ _ _
 |N8 t x n=>exact lZ<|Wy _ _ _
 |N9 t x i=>exact lZ<|WG _ _ _
 |Oa t x i=>exact lZ<|WJ _ _ _
 |F0 x n=>exact lZ<|Wx _ _
 |Gc x a=>
  simp only[ù,č,Ē,pure_bind,Ø,â,ä];exact lZ<|WT _ _ _
 |Gd x a=>
  simp only[ù,č,Ē,pure_bind,Ø,â,ä];exact lZ<|WU _ _ _
 |Ge x y a=>
  simp only[ù,č,Ē,pure_bind,Ø,â,ä];exact lZ<|WV _ _ _
 |tO x y b c h=>
  simp only[ù,č,Ē,pure_bind,Ø,â,ä];exact lZ<|WW _ _ _
 |jO f c a b h=>
  simp only[ù,b,İ,č,pure_bind,Ď,ď];exact afA f h _
end
def fm(f:à)(t:Array Â)(k:List ś):Ę:=(base f).at ⟨t,[]⟩ k
structure St where
 f:à
 t:Array Â
 k:List ś
 C:Bool
 L:List (FuncId×Array Value×List ś)
def St.r(s:St)(cs:List Ę):Ó:=G (if s.C then{fm s.f s.t s.k with mode:=.returning}else fm s.f s.t s.k)<|s.L.map (λx=>fm x.1 x.2.1 x.2.2)++cs
def pz(t:Array Â)(d:Option Tmp)(v:Â):Array Â:=(Act.put ⟨t,[]⟩ d v).tmps
def sS(t:Array Â)(d:Option Tmp)(v:Â):Act.put ⟨t,[]⟩ d v=⟨pz t d v,[]⟩:=by cases d<;>rfl
inductive LS(P:Õ):St->Æ->St->Æ->Prop
 |pw {f t L u:_}:LS P ⟨f,t,[],Ã,L⟩ u ⟨f,t,[],É,L⟩ u
 |vu {f t k L u:_}:LS P ⟨f,t,Đ .ret::k,Ã,L⟩ u ⟨f,t,Đ .ret::k,É,L⟩ u
 |sP {f t k L u:_}:LS P ⟨f,t,Đ eT::k,Ã,L⟩ u ⟨f,t,k,Ã,L⟩ u
 |wV {f t k L u l:_}:LS P ⟨f,t,Đ (ec l)::k,Ã,L⟩ u ⟨f,t,k,Ã,L⟩ u
 |yI {f t k L u id:_}:LS P ⟨f,t,dK id::k,Ã,L⟩ u ⟨f,t,k,Ã,L⟩ u
 |vv {f t k L u c:_}:LS P ⟨f,t,dL c::k,Ã,L⟩ u ⟨f,t,k,Ã,L⟩ u
 |rK {f t k L u x y:_}:LS P ⟨f,t,Đ (.seq x y)::k,Ã,L⟩ u ⟨f,t,Đ x::Đ y::k,Ã,L⟩ u
 |tU {f t k L u c x y b:_} (h:å ⟨t,[]⟩ c=Ľ b):LS P ⟨f,t,Đ (bz c x y)::k,Ã,L⟩ u ⟨f,t,Đ (if b then x else y)::k,Ã,L⟩ u
 |rL {f t k L u id c:_}:LS P ⟨f,t,Đ (ef id c)::k,Ã,L⟩ u ⟨f,t,Đ c::dK id::k,Ã,L⟩ u
 |wW {f t k L u c:_}:LS P ⟨f,t,Đ (eU c)::k,Ã,L⟩ u ⟨f,t,Đ c::dr c::k,Ã,L⟩ u
 |wY {f t k L u c:_}:LS P ⟨f,t,dr c::k,Ã,L⟩ u ⟨f,t,Đ c::dr c::k,Ã,L⟩ u
 |wZ {f t k L u c:_}:LS P ⟨f,t,Đ (eg c)::k,Ã,L⟩ u ⟨f,t,Đ c::dL c::k,Ã,L⟩ u
 |w7 {f t k L u id k':_} (h:cD id k=À k'):LS P ⟨f,t,Đ (eV id)::k,Ã,L⟩ u ⟨f,t,k',Ã,L⟩ u
 |xa {f t k L u l k':_} (h:cE l k=À k'):LS P ⟨f,t,Đ (eW l)::k,Ã,L⟩ u ⟨f,t,k',Ã,L⟩ u
 |tV {f t k L u id ops:_}:LS P ⟨f,t,Đ (bQ id ops Ã)::k,Ã,L⟩ u ⟨f,t,á ops (List.range ops.size)::k,Ã,L⟩ u
 |AS {f t k L u id ops:_}:LS P ⟨f,t,Đ (bQ id ops É)::k,Ã,L⟩ u ⟨f,t,á ops (bM (P.follows .mixedOrders) ops<|u.tape u.drawn<|.order f id)::k,Ã,L⟩ {u with drawn:=u.drawn+1}
 |Gp {f t k L u ops:_}:LS P ⟨f,t,á ops []::k,Ã,L⟩ u ⟨f,t,k,Ã,L⟩ u
 |Ds {f t k L u ops i rest o:_} (ho:ops[i]?=À o) (hw:Ħ o (ł ops t)=Ã):LS P ⟨f,t,á ops (i::rest)::k,Ã,L⟩ u ⟨f,pz t o.dst ľ,á ops rest::k,Ã,L⟩ u
 |nX {f t k L u ops i rest o v u':_} (ho:ops[i]?=À o) (hw:Ħ o (ł ops t)=É) (hr:(ì (å ⟨t,[]⟩) o).run P u=ĥ (ï v) u'):LS P ⟨f,t,á ops (i::rest)::k,Ã,L⟩ u ⟨f,pz t o.dst v,á ops rest::k,Ã,L⟩ u'
 |AT {f t k L u ops i rest o u':_} (ho:ops[i]?=À o) (hw:Ħ o (ł ops t)=É) (hr:(ì (å ⟨t,[]⟩) o).run P u=ĥ aH u'):LS P ⟨f,t,á ops (i::rest)::k,Ã,L⟩ u ⟨f,pz t o.dst ľ,á ops rest::k,Ã,L⟩ u'
 |sQ {f t k L u ops i rest o g args fn c u':_} (ho:ops[i]?=À o) (hw:Ħ o (ł ops t)=É) (hr:(ì (å ⟨t,[]⟩) o).run P u=ĥ (ũ g args) u') (hf:P.funcs[g]?=À fn) (hb:fn.body=À c):LS P ⟨f,t,á ops (i::rest)::k,Ã,L⟩ u ⟨g,args++ĺ (fn.ntmps-args.size) ľ,[Đ c],Ã,(f,t,á ops (i::rest)::k)::L⟩ u'
 |Dt {f t k L u ops i rest:_} (ho:(ops:Array av)[(i:Nat)]?=ë):LS P ⟨f,t,á ops (i::rest)::k,Ã,L⟩ u ⟨f,t,á ops rest::k,Ã,L⟩ u
 |xb {f t k L u g t' ops i rest k' v fn u':_} (hf:P.funcs[f]?=À fn) (hr:(Ī fn t).run P u=ĥ v u'):LS P ⟨f,t,k,É,(g,t',á ops (i::rest)::k')::L⟩ u ⟨g,pz t' ((ops[i]?).bind (·.dst)) v,á ops rest::k',Ã,L⟩ u'
inductive mH(GL:Nat->Prop):Ö->Prop
 |Xa (t:Tmp):mH GL (.tmp t)
 |Xb {v:Â} (h:jY v):mH GL (ea v)
 |Xc {g:Nat} (h:GL g):mH GL (eB g)
 |Xd (f:à):mH GL (aO f)
structure mU(P:Õ)(GL:Nat->Prop)(fc:à->Prop)(o:av):Prop where
 mV:∀{Y:fv} {Sh:Nat->Prop} {t t':Array Â} {u w:Æ},nW P->Y.C=P.globals.size->(∀g,GL g->Y g g)->fW Y t t'->jk Y Sh u w->(∀j,Sh j->j<w.heap.size)->∀{x:Ο} {u':Æ},(ì (å ⟨t,[]⟩) o).run P u=ĥ x u'->Dn u u'->
  ∃(Y':fv) (x':Ο) (w':Æ) (Xe:Array ý),Y.r Y'/\(∀i j,Y' i j->Y i j\/(u.heap.size<=i/\w.heap.size<=j))/\(ì (å ⟨t',[]⟩) o).runT P w #[]=(ĥ x' w',#[]++Xe)/\py Y' x x'/\jk Y' Sh u' w'/\nV Y Sh w w'/\(∀e∈Xe,AK Y' Sh e)/\u.heap.size<=u'.heap.size
 r:∀a:bF,fG P<|ì a.eval o
 I:∀(a:bF) (u:Æ) (n:Ο) (u':Æ),(ì a.eval o).run P u=ĥ n u'->(∃v,n=ï v)\/n=aH\/∃f c,n=ũ f c
 C:∀(a:bF) (u:Æ) (f:à) (c:Array Â) (u':Æ),(ì a.eval o).run P u=ĥ (ũ f c) u'->fc f
inductive kQ(P:Õ)(GL:Nat->Prop)(fc:à->Prop):ak->Prop
 |vu:kQ P GL fc .ret
 |sP:kQ P GL fc eT
 |wV (l:Nat):kQ P GL fc (ec l)
 |w7 (id:Nat):kQ P GL fc (eV id)
 |xa (l:Nat):kQ P GL fc (eW l)
 |rK {x y:ak} (hx:kQ P GL fc x) (hy:kQ P GL fc y):kQ P GL fc (.seq x y)
 |tU {c:Ö} {x y:ak} (hc:mH GL c) (hx:kQ P GL fc x) (hy:kQ P GL fc y):kQ P GL fc (bz c x y)
 |rL (id:Nat) {c:ak} (h:kQ P GL fc c):kQ P GL fc (ef id c)
 |wW {c:ak} (h:kQ P GL fc c):kQ P GL fc (eU c)
 |wZ {c:ak} (h:kQ P GL fc c):kQ P GL fc (eg c)
 |tV (id:Nat) {ops:Array av} (draw:Bool) (h:∀o∈ops,mU P GL fc o):kQ P GL fc (bQ id ops draw)
 |nY (Xf:String):kQ P GL fc (du Xf)
inductive AU(P:Õ)(GL:Nat->Prop)(fc:à->Prop):ś->Prop
 |rM {c:ak} (h:kQ P GL fc c):AU P GL fc (Đ c)
 |yI (id:Nat):AU P GL fc (dK id)
 |vv {c:ak} (h:kQ P GL fc c):AU P GL fc (dL c)
 |wY {c:ak} (h:kQ P GL fc c):AU P GL fc (dr c)
 |xc {ops:Array av} (is:List Nat) (h:∀o∈ops,mU P GL fc o):AU P GL fc (á ops is)
def sT(P:Õ)(a:Nat->Prop)(b:à->Prop)(k:List ś):Prop:=∀i∈k,AU P a b i
structure lC(P:Õ)(GL:Nat->Prop)(fc:à->Prop)(s:St):Prop where
 gk:sT P GL fc s.k
 fA:∀x∈s.L,sT P GL fc x.2.2
def pA(P:Õ)(d:Nat->Prop)(a:à->Prop):Prop:=∀f,a f->∀b c,P.funcs[f]?=À b->b.body=À c->kQ P d a c
section
variable{GL:Nat->Prop}{fc:à->Prop}
def afC{a:ak}(h:kQ P GL fc wX):bj wX i=À a->kQ P GL fc a:=by
 induction h generalizing a with
 |rK j b d f=>
  intro e;simp only[bj]at e;split at e
  .rename_i r g;cases e;exact .rK (d g) b
  .exact f e
 |wV k=>
  intro e;simp only[bj]at e;split at e<;>cases e;exact .sP
 |_=>intro e;simp only[bj]at e;cases e
def afD{id:Nat}:∀{k a:List ś},sT P GL fc k->cD id k=À a->sT P GL fc a:=by
 intro k
 induction k with
 |nil=>intro a _ e;simp[cD]at e
 |cons i k c=>
  intro a h e;have b:=λj d=>h j<|ò _ d;cases i with
  |inBlock f=>
   simp only[cD]at e;split at e
   .cases e;exact b
   .exact c b e
  |_=>simp only[cD]at e;exact c b e
def afE:∀{k c:List ś},sT P GL fc k->cE i k=À c->sT P GL fc c:=by
 intro k
 induction k with
 |nil=>intro c _ e;simp[cE]at e
 |cons a k f=>
  intro c h e;have d:=λj b=>h j<|ò _ b;cases a with
  |inScope m=>
   simp only[cE]at e;have g:kQ P GL fc m:=by cases h _ (î ..)with|vv h=>exact h
   split at e
   .rename_i r n;cases e;intro j b;rcases œ.1 b with rfl|b
    .exact .rM (afC g n)
    .rcases œ.1 b with rfl|b
     .exact .vv g
     .exact d j b
   .exact f d e
  |_=>simp only[cE]at e;exact f d e
def nZ{i:ś}(h:sT P GL fc (i::L)):sT P GL fc L:=λj a=>h j<|ò _ a
def oT{i:ś}(b:AU P GL fc i)(h:sT P GL fc L):sT P GL fc (i::L):=λj a=>by
 rcases œ.1 a with rfl|a
 .exact b
 .exact h j a
def yJ{c:ak}{k:List ś}(h:sT P GL fc (Đ c::k)):kQ P GL fc c:=by cases h _ (î ..)with|rM h=>exact h
def pB{ops:Array av}{k:List ś}(h:sT P GL fc (á ops jJ::k)):∀o∈ops,mU P GL fc o:=by cases h _ (î ..)with|xc _ h=>exact h
def LS.ok(i:pA P GL fc)(k:∀o a u f l w,mU P GL fc o->(ì (å a) o).run P u=ĥ (ũ f l) w->fc f){s g:St}(h:LS P s u g w)(ok:lC P GL fc s):lC P GL fc g:=by
 let⟨c,d⟩:=ok;cases h with
 |pw=>exact⟨c,d⟩
 |vu=>exact⟨c,d⟩
 |sP=>exact⟨nZ c,d⟩
 |wV=>exact⟨nZ c,d⟩
 |yI=>exact⟨nZ c,d⟩
 |vv=>exact⟨nZ c,d⟩
 |rK=>
  cases yJ c with
  |rK e j=>exact⟨oT (.rM e)<|oT (.rM j)<|nZ c,d⟩
 |@tU _ _ _ _ _ _ _ _ b _=>
  cases yJ c with
  |tU _ e j=>exact⟨oT (.rM (by cases b<;>simp[e,j]))<|nZ c,d⟩
 |rL=>
  cases yJ c with
  |rL _ h=>exact⟨oT (.rM h)<|oT (.yI _)<|nZ c,d⟩
 |wW=>
  cases yJ c with
  |wW h=>exact⟨oT (.rM h)<|oT (.wY h)<|nZ c,d⟩
 |wY=>
  cases c _ (î ..)with
  |wY h=>exact⟨oT (.rM h) c,d⟩
 |wZ=>
  cases yJ c with
  |wZ h=>exact⟨oT (.rM h)<|oT (.vv h)<|nZ c,d⟩
 |w7 h=>exact⟨afD (nZ c) h,d⟩
 |xa h=>exact⟨afE (nZ c) h,d⟩
 |tV=>
  cases yJ c with
  |tV _ _ h=>exact⟨oT (.xc _ h)<|nZ c,d⟩
 |AS=>
  cases yJ c with
  |tV _ _ h=>exact⟨oT (.xc _ h)<|nZ c,d⟩
 |Gp=>exact⟨nZ c,d⟩
 |Ds=>exact⟨oT (.xc _ (pB c))<|nZ c,d⟩
 |nX=>exact⟨oT (.xc _ (pB c))<|nZ c,d⟩
 |AT=>exact⟨oT (.xc _ (pB c))<|nZ c,d⟩
 |sQ m _ n p q=>
  refine⟨λj r=> ?_,λx e=> ?_⟩
  .have:=ū.1 r;rw[this];exact .rM (i _ (k _ _ _ _ _ _ (pB c _<|Û m) n) _ _ p q)
  .rcases œ.1 e with rfl|e
   .exact c
   .exact d x e
 |Dt=>exact⟨oT (.xc _ (pB c))<|nZ c,d⟩
 |xb=>
  have j:=d _<|î ..;exact⟨oT (.xc _ (pB j))<|nZ j,λx e=>d x<|ò _ e⟩
end
structure JX(Y:fv)(x y:FuncId×Array Value×List ś):Prop where
 f:x.1=y.1
 t:fW Y x.2.1 y.2.1
 k:x.2.2=y.2.2
inductive Du(Y:fv):List (FuncId×Array Value×List ś)->List (FuncId×Array Value×List ś)->Prop
 |pw:Du Y [] []
 |wR {x y:FuncId×Array Value×List ś} {L L':List (FuncId×Array Value×List ś)} (h:JX Y x y) (hs:Du Y L L'):Du Y (x::L) (y::L')
structure JY(Y:fv)(s s':St):Prop where
 f:s.f=s'.f
 t:fW Y s.t s'.t
 k:s.k=s'.k
 vu:s.C=s'.C
 L:Du Y s.L s'.L
def JX.fT{Y a:fv}(h:Y.r a){x y:FuncId×Array Value×List ś}(r:JX Y x y):JX a x y:=⟨r.f,r.t.I h,r.k⟩
def JZ{Y b:fv}(h:Y.r b){L c:List (FuncId×Array Value×List ś)}(r:Du Y L c):Du b L c:=by
 induction r with
 |pw=>exact .pw
 |wR a _ d=>exact .wR (a.fT h) d
section
variable{Y:fv}{j:Nat->Prop}{p:à->Prop}
def afF(a:∀g,X g->Y g g)(h:mH X qQ):V8 Y qQ:=by
 cases h with
 |Xa t=>trivial
 |Xb h=>exact h.jI Y
 |Xc h=>exact a _ h
 |Xd f=>trivial
def xd(b:∀g,X g->Y g g)(h:fW Y d q)(c:mH X qQ):fp Y (å ⟨d,[]⟩ qQ) (å ⟨q,[]⟩ qQ):= aeL (a:=⟨d,[]⟩) (a':=⟨q,[]⟩) h<|afF b c
def pz.r{b:Array Â}(h:fW Y q b)(d:Option Tmp)(c:fp Y v x):fW Y (pz q d v) (pz b d x):= aeN (a:=⟨q,[]⟩) (a':=⟨b,[]⟩) h d c
def Xg(n:Nat):fW Y (ĺ n ľ) (ĺ n ľ):=⟨U,λi a b=>by simp only[Array.getElem_replicate];exact Gf Y⟩
def afG(B:km P xX o.op)(i:(ì xX o).run P u=ĥ (ũ F d) W):∃q l,o.op=Ω {callee:=cj<|aO F,args:=q,argTypes:=l}:=by
 have n:∀{m:ē Â} {x:Ο} {k p:Æ},(m>>=λv=>pure (ï v):ē Ο).run P k=ĥ x p->∃v,x=ï v:=by
  intro m x k p e;rw[Ä]at e;cases j:m.run P k with
  |ok a w=>rw[j]at e;cases e;exact⟨a,U⟩
  |halt z w=>rw[j]at e;cases e
 have C:∀{m:ē Unit} {x:Ο} {k p:Æ},(m>>=λ_=>pure aH:ē Ο).run P k=ĥ x p->x=aH:=by
  intro m x k p e;rw[Ä]at e;cases j:m.run P k with
  |ok a w=>rw[j]at e;cases e;rfl
  |halt z w=>rw[j]at e;cases e
 let⟨E,s,G,H,I,guard⟩:=o;simp only at B|-;unfold ì at i;simp only[]at i;cases B with
 |AP x=>cases i
 |F9 x=>cases i
 |wS c a b=>
  rw[Ä]at i;cases j:(bW<|xX c).run P u with
  |ok a w=>rw[j]at i;cases i
  |halt z w=>rw[j]at i;cases i
 |jg t a x=>exact absurd (C i) fq
 |Gb x=>
  simp only[]at i;split at i;all_goals first
   |(cases i;done)
   |exact absurd i<|rH _ _ _ _
   |(
    split at i;all_goals first
     |(cases i;done)
     |exact absurd i<|rH _ _ _ _
     |(
      rw[Ä,ă]at i;simp only[È]at i;rw[Ä]at i;revert i;generalize ã P (aR _ _ _ _) u=z;intro i;cases z with
      |halt z w=>cases i
      |ok a w=>
       simp only[È]at i;split at i
       .rw[Ä]at i;cases i
       .cases i))
 |Gc x l=>simp only[ù,č,Ē,pure_bind,Ø,â,ä]at i;let⟨v,e⟩:=n i;cases e
 |Gd x l=>simp only[ù,č,Ē,pure_bind,Ø,â,ä]at i;let⟨v,e⟩:=n i;cases e
 |Ge x y l=>simp only[ù,č,Ē,pure_bind,Ø,â,ä]at i;let⟨v,e⟩:=n i;cases e
 |tO x y b c h=>simp only[ù,č,Ē,pure_bind,Ø,â,ä]at i;let⟨v,e⟩:=n i;cases e
 |jO g q l b h=>
  let⟨J,c,r,D⟩:=h;simp only[ù,b,İ,č,pure_bind,Ď,ď,ĵ]at i;rw[Ä,ă]at i;simp only[È,c,r,D,Å,if_false]at i;cases i;exact⟨q,l,U⟩
 |Dq s t x y r h=>
  rw[Ä]at i;cases j:ã P (ŷ s t x y (xX x) (xX y)>>=λ_=>Ũ s t (xX x)<|xX y) u with
  |ok a w=>rw[j]at i;cases i
  |halt z w=>rw[j]at i;cases i
 |_=>let⟨v,e⟩:=n i;cases e
theorem Xh(j:Func)(h:fW Y d q):fJ P fp Y (Ī j d) (Ī j q):=by
 have k:∀(f:fv),Y.r f->∀n,fp f (d.getD n ľ) (q.getD n ľ):=by intro f a n;simp only[ĩ];rcases(h.I a).S n with⟨b,e⟩|⟨v,u,b,e,m⟩;all_goals grind [Gf]
 unfold Ī;refine fH (V:=fW) ?_ ?_
 .rw[Ĕ,Ĕ];have w:∀(l:List ResultVar) (c:fv),Y.r c->fJ P (λf (a o:List Â)=>fW f a.toArray o.toArray) c (l.mapM fun|ResultVar.tmp n=>pure (d.getD n ľ)|ResultVar.cell a e=>do ae e (<-bX (d.getD a ľ))) (l.mapM fun|ResultVar.tmp n=>pure (q.getD n ľ)|ResultVar.cell a e=>do ae e (<-bX (q.getD a ľ))):=by
   intro l
   induction l with
   |nil=>intro c _;simp only[cS];exact .fF (fW.N _)
   |cons r l x=>
    intro c g;simp only[ν];refine fH (V:=fp) ?_ ?_
    .cases r with
     |tmp n=>exact .fF (k c g n)
     |cell a e=>
      apply fH (VR<|k c g a);exact λp b s _ i=>VN i e
    .intro p v u e m;apply fH (x p<|fv.I g e);intro z s i y b;refine .fF ?_;have:=(fW.M<|m.fT y).tO b;simpa using this
  exact fJ.lL (w _ Y<|fv.M _) λf a o _ e=> .fF e
 .intro c s i _ b;refine .fF ?_;by_cases e:s.size=1
  .have a:i.size=1:=by rwa[<-b.r]
   rw[dif_pos e,dif_pos a];exact b.C 0 _ _
  .have a:¬i.size=1:=by rwa[<-b.r]
   rw[dif_neg e,dif_neg a];exact .nU b.r b.C
end
section
variable{Y:fv}{d:Nat->Prop}{l:à->Prop}
def jb(P:Õ)(Y:fv)(d:Nat->Prop)(main:Bool)(cs:List Ę)(h:St)(u w:Æ)(k:St)(c:Æ):Prop:=
 ∃(a:fv) (f:St) (b:Æ) (g:Array ý),Ù P main (h.r cs) w=aS (f.r cs) b g/\JY a k f/\Y.r a/\(∀i j,a i j->Y i j\/(u.heap.size<=i/\w.heap.size<=j))/\jk a d c b/\nV Y d w b/\(∀e∈g,AK a d e)/\u.heap.size<=c.heap.size
def jb.r{main:Bool}{cs:List Ę}{a b s1':St}(c:jk Y d u w)(h:Ù P main (a.r cs) w=aS (s1'.r cs) w #[])(f:JY Y b s1'):jb P Y d main cs a u w b u:= ⟨Y,s1',w,#[],h,f,fv.M _,λ_ _ h=>Ç h,c,nV.gd _ _ w,λe g=>absurd g fq,ß _⟩
def J0{α:Type}{m:ē α}{x:α}(h:m.runT P w #[]=(ĥ x u,#[]++V)):m.run P w=ĥ x u/\m.events P w #[]=V:=by simp_all
def Gq{main:Bool}{k:List ś}{c:Ę}{cs:List Ę}{es:Array ý}(a:P.funcs[F]?=À s)(b:(Ī s q).runT P w #[]=(ĥ v u,es)): Ù P main (G {fm F q k with mode:=.returning}<|c::cs) w=aS (G (c.finish v) cs) u (seen P F es):=by simp[G,Ù,dw,doReturn,fm,Frame.at,base,a,b,Ź,-ź]
def LS.mV(hz:nW P)(hb:Y.C=P.globals.size)(hG:∀g,X g->Y g g){s s1 s':St}(h:LS P s u s1 W)(hs:JY Y s s')(ok:lC P X l s)(n:jk Y d u w)(hl:∀j,d j->j<w.heap.size)(Q:Dn u W)(main:Bool)(cs:List Ę): jb P Y d main cs s' u w s1 W:=by
 let⟨f',r,k',ret',p⟩:=s';let⟨S,m,T,e3,q⟩:=hs;simp only at S T e3 m q;subst S T e3;cases h with
 |pw=>exact .r (s1':=⟨_,r,_,É,p⟩) n (by simp[St.r,fm,base,G,Ù,Ì,Frame.at]) ⟨U,m,U,U,q⟩
 |vu=>exact .r (s1':=⟨_,r,_,É,p⟩) n (by simp[St.r,fm,base,G,Ù,Ì,Frame.at]) ⟨U,m,U,U,q⟩
 |sP=>exact .r (s1':=⟨_,r,_,Ã,p⟩) n (by simp[St.r,fm,base,G,Ù,Ì,Frame.at]) ⟨U,m,U,U,q⟩
 |wV=>exact .r (s1':=⟨_,r,_,Ã,p⟩) n (by simp[St.r,fm,base,G,Ù,Ì,Frame.at]) ⟨U,m,U,U,q⟩
 |yI=>exact .r (s1':=⟨_,r,_,Ã,p⟩) n (by simp[St.r,fm,base,G,Ù,Ì,Frame.at]) ⟨U,m,U,U,q⟩
 |vv=>exact .r (s1':=⟨_,r,_,Ã,p⟩) n (by simp[St.r,fm,base,G,Ù,Ì,Frame.at]) ⟨U,m,U,U,q⟩
 |rK=>exact .r (s1':=⟨_,r,_,Ã,p⟩) n (by simp[St.r,fm,base,G,Ù,Ì,Frame.at]) ⟨U,m,U,U,q⟩
 |@tU _ _ _ _ _ c _ _ b hc'=>
  have V:=xd hG m (by cases yJ ok.gk with|tU Q _ _=>exact Q);rw[hc']at V;have e:å ⟨r,[]⟩ c=Ľ b:=by generalize å ⟨r,[]⟩ c=v' at V;cases V;rfl
  exact .r (s1':=⟨_,r,_,Ã,p⟩) n (cF e) ⟨U,m,U,U,q⟩
 |rL=>exact .r (s1':=⟨_,r,_,Ã,p⟩) n (by simp[St.r,fm,base,G,Ù,Ì,Frame.at]) ⟨U,m,U,U,q⟩
 |wW=>exact .r (s1':=⟨_,r,_,Ã,p⟩) n (by simp[St.r,fm,base,G,Ù,Ì,Frame.at]) ⟨U,m,U,U,q⟩
 |wY=>exact .r (s1':=⟨_,r,_,Ã,p⟩) n (by simp[St.r,fm,base,G,Ù,Ì,Frame.at]) ⟨U,m,U,U,q⟩
 |wZ=>exact .r (s1':=⟨_,r,_,Ã,p⟩) n (by simp[St.r,fm,base,G,Ù,Ì,Frame.at]) ⟨U,m,U,U,q⟩
 |w7 B=>exact .r (s1':=⟨_,r,_,Ã,p⟩) n (by simp[St.r,fm,base,G,Ù,Ì,Frame.at,B]) ⟨U,m,U,U,q⟩
 |xa B=>exact .r (s1':=⟨_,r,_,Ã,p⟩) n (by simp[St.r,fm,base,G,Ù,Ì,Frame.at,B]) ⟨U,m,U,U,q⟩
 |tV=>exact .r (s1':=⟨_,r,_,Ã,p⟩) n (by simp[St.r,fm,base,G,Ù,Ì,Frame.at]) ⟨U,m,U,U,q⟩
 |@AS f t k L _ id ops=>
  refine⟨Y,⟨f,r,á ops (bM (P.follows .mixedOrders) ops<|w.tape w.drawn<|.order f id)::k,Ã,p⟩,{w with drawn:=w.drawn+1},#[],Ż,⟨U,m,?_,U,q⟩,fv.M _,λ_ _ h=>Ç h,⟨n.S,by simp[n.N],n.C,n.I,n.M,n.r⟩,⟨ß _,U,U,U,λ_ _ _=>rfl,λ_ _ _=>rfl⟩,λe B=>absurd B fq,ß _⟩;simp only[n.S,n.N]
 |Gp=>exact .r (s1':=⟨_,r,_,Ã,p⟩) n (by simp[St.r,fm,base,G,Ù,Ì,Frame.at]) ⟨U,m,U,U,q⟩
 |@Ds f t k L _ ops i rest o ho hw=>
  rw[JK _ _ m]at hw;have:=υ (P:=P) (main:=main) (b:=base f) (a:=⟨r,[]⟩) (k:=k) (cs:=p.map (λx=>fm x.1 x.2.1 x.2.2)++cs) (w:=w) (rest:=rest) ho hw;rw[sS]at this;exact .r (s1':=⟨f,pz r o.dst ľ,á ops rest::k,Ã,p⟩) n this ⟨U,pz.r m _<|Gf Y,U,U,q⟩
 |@nX f t k L _ ops i rest o v _ ho hw hr=>
  rw[JK _ _ m]at hw;let⟨C,x',E,es,z,F,D,H,I,J,K,M⟩:=(pB ok.gk _<|Û ho).mV hz hb hG m n hl hr Q;let⟨N,O⟩:=J0 D;cases H with
  |nX V=>
   have:=bA (main:=main) (b:=base f) (k:=k) (cs:=p.map (λx=>fm x.1 x.2.1 x.2.2)++cs) (rest:=rest) ho hw (by simp[base]) N;rw[sS]at this;rename_i v';exact⟨C,⟨f,pz r o.dst v',á ops rest::k,Ã,p⟩,E,_,this,⟨U,pz.r (m.I z) _ V,U,U,JZ z q⟩,z,F,I,J,λe B=>K e (by have:=cG B;rwa[O]at this),M⟩
 |@AT f t k L _ ops i rest o _ ho hw hr=>
  rw[JK _ _ m]at hw;let⟨C,x',E,es,z,F,D,H,I,J,K,M⟩:=(pB ok.gk _<|Û ho).mV hz hb hG m n hl hr Q;let⟨N,O⟩:=J0 D;cases H with
  |sP=>
   have:=cH (main:=main) (b:=base f) (k:=k) (cs:=p.map (λx=>fm x.1 x.2.1 x.2.2)++cs) (rest:=rest) ho hw (by simp[base]) N;rw[sS]at this;exact⟨C,⟨f,pz r o.dst ľ,á ops rest::k,Ã,p⟩,E,_,this,⟨U,pz.r (m.I z) _<|Gf C,U,U,JZ z q⟩,z,F,I,J,λe B=>K e (by have:=cG B;rwa[O]at this),M⟩
 |@sQ f t k L _ ops i rest o g args fn c _ ho hw hr hf J3=>
  rw[JK _ _ m]at hw;let⟨C,x',E,es,z,F,D,H,I,J,K,M⟩:=(pB ok.gk _<|Û ho).mV hz hb hG m n hl hr Q;let⟨N,O⟩:=J0 D;cases H with
  |sQ _ sU=>
   have:=bB (main:=main) (b:=base f) (k:=k) (cs:=p.map (λx=>fm x.1 x.2.1 x.2.2)++cs) (rest:=rest) ho hw (by simp[base]) N;rw[cI _ hf J3]at this;rename_i Xi;refine⟨C,⟨g,Xi++ĺ (fn.ntmps-Xi.size) ľ,[Đ c],Ã,(f,r,á ops (i::rest)::k)::p⟩,E,_,this,⟨U,?_,U,U,.wR ⟨U,m.I z,U⟩ (JZ z q)⟩,z,F,I,J,λe B=>K e (by have:=cG B;rwa[O]at this),M⟩;rw[sU.r];exact sU.tO<|Xg _
 |@Dt f t k L _ ops i rest ho=>exact .r (s1':=⟨f,r,á ops rest::k,Ã,p⟩) n (by simp[St.r,fm,base,G,Ù,Ì,Frame.at,ho,aT]) ⟨U,m,U,U,q⟩
 |@xb f t k L _ g t2' ops i rest k3 v fn _ hf hr=>
  cases q with
  |wR hx q=>
   rename_i y Xj;let⟨g',t2,k2⟩:=y;let⟨S,J4,T⟩:=hx;simp only at S T J4;subst S T;let⟨C,v',E,es,z,F,D,H,I,J,K,M⟩:=(Xh fn m).fX n hl hr #[];let⟨N,O⟩:=J0 D;refine⟨C,⟨g,pz t2 ((ops[i]?).bind (·.dst)) v',á ops rest::k3,Ã,Xj⟩,E,seen P f es,?_,⟨U,pz.r (J4.I z) _ H,U,U,JZ z q⟩,z,F,I,J,λe B=>K e<|mem_seen B,M⟩;have AV:=ε (base g) ⟨t2,[]⟩ ops i rest k3 v';rw[sS]at AV;have nA:=Gq (main:=main) (k:=k) (c:=fm g t2<|á ops (i::rest)::k3) (cs:=Xj.map (λx=>fm x.1 x.2.1 x.2.2)++cs) hf D;unfold fm at nA;rwa[AV,Ď]at nA
end
inductive p7(P:Õ)(kn:Â->Æ->Prop):St->Æ->Prop
 |jP {f:à} {t:Array Â} {k:List ś} {u:Æ} {fn:Func} {v:Â} (hf:P.funcs[f]?=À fn) (hr:∀tp d,(Ī fn t).run P {u with tape:=tp,drawn:=d}=ĥ v {u with tape:=tp,drawn:=d}) (hp:kn v u):p7 P kn ⟨f,t,k,É,[]⟩ u
 |jR {s:St} {u:Æ} (S:ψ->Nat->St) (U:ψ->Nat->Æ) (h:∀tp d,LS P s {u with tape:=tp,drawn:=d} (S tp d)<|U tp d) (hc:∀tp d,Dn u<|U tp d) (ih:∀tp d,p7 P kn (S tp d)<|U tp d):p7 P kn s u
structure yK(M:Nat->Prop)(w w₁:Æ):Prop where
 r:w.heap.size<=w₁.heap.size
 C:∀j,M j->w₁.heap[j]?=w.heap[j]?
def J5(O b:Nat->Prop)(e:ý):Prop:=
 (∃a:Ú,e.loc=û a/\e.sync=Ã/\(O a.block\/(b a.block/\e.write=Ã)))\/e.loc=ů de\/∃f,e.loc=ů (.extern f)
structure J6(Rd O O':Nat->Prop)(w w':Æ)(es:Array ý):Prop where
 r:w.heap.size<=w'.heap.size
 M:∀j,O j->O' j
 I:∀j,O' j->O j\/w.heap.size<=j
 fA:∀j,O' j->j<w'.heap.size
 jZ:∀j,j<w.heap.size->¬O j->w'.heap[j]?=w.heap[j]?
 N:w'.os=w.os
 S:w'.output=w.output
 Y:w'.tape=w.tape
 C:∀e∈es,J5 O' Rd e
inductive vw(P:Õ)(main:Bool)(Rd:Nat->Prop)(Stop:(Nat->Prop)->Ó->Æ->Prop):(Nat->Prop)->Ó->Æ->Prop
 |fD {O:Nat->Prop} {g:Ó} {w:Æ} (h:∀w₁,yK (λj=>O j\/Rd j) w w₁->Stop O g w₁):vw P main Rd Stop O g w
 |jR {O:Nat->Prop} {g:Ó} {w:Æ} (G':Æ->Ó) (W':Æ->Æ) (E':Æ->Array ý) (O':Æ->Nat->Prop) (iN:g.status=Ð)
  (h:∀w₁,yK (λj=>O j\/Rd j) w w₁->Ù P main g w₁=aS (G' w₁) (W' w₁) (E' w₁))
  (hd:∀w₁,yK (λj=>O j\/Rd j) w w₁->J6 Rd O (O' w₁) w₁ (W' w₁) (E' w₁))
  (ih:∀w₁,yK (λj=>O j\/Rd j) w w₁->vw P main Rd Stop (O' w₁) (G' w₁) (W' w₁)):vw P main Rd Stop O g w
instance:Nonempty fv:=⟨⟨λ_ _=>False,0⟩⟩
instance:Nonempty St:=⟨⟨0,#[],[],Ã,[]⟩⟩
instance:Nonempty (Goroutine×World×Array Event×(Nat->Prop)):=⟨(default,default,#[],λ_=>False)⟩
section
variable{Y:fv}{b Rd:Nat->Prop}{l:à->Prop}{main:Bool}{Stop:(Nat->Prop)->Ó->Æ->Prop}
def vw.mk(i:g.status=Ð) (h:∀a,yK (λj=>X j\/Rd j) w a->∃c b d e,Ù P main g a=aS c b d/\J6 Rd X e a b d/\vw P main Rd Stop e c b):vw P main Rd Stop X g w:=by
 let p:=λ(a:Æ) (x:Goroutine×World×Array Event×(Nat->Prop))=>Ù P main g a=aS x.1 x.2.1 x.2.2.1/\J6 Rd X x.2.2.2 a x.2.1 x.2.2.1/\vw P main Rd Stop x.2.2.2 x.1 x.2.1
 have f:∀a,yK (λj=>X j\/Rd j) w a->p a (Classical.epsilon<|p a):=λa r=>Classical.epsilon_spec (let⟨c,b,d,e,h⟩:=h a r;⟨(c,b,d,e),h⟩);exact .jR (λa=>(Classical.epsilon<|p a).1) (λa=>(Classical.epsilon<|p a).2.1) (λa=>(Classical.epsilon<|p a).2.2.1) (λa=>(Classical.epsilon<|p a).2.2.2) i (λa r=>(f a r).1) (λa r=>(f a r).2.1) λa r=>(f a r).2.2
def rN(Y:fv)(b:Nat->Prop)(u w:Æ):Prop:=jk Y b {u with tape:=w.tape,drawn:=w.drawn} w
def ft(Y:fv)(b:Nat->Prop)(j:Nat):Prop:=(∃i,Y i j)/\¬b j
theorem rN.kg{w₁:Æ}(h:rN Y b u w)(p:∀i j,Y i j->b j->Rd j)(r:yK (λj=>ft Y b j\/Rd j) w w₁):rN Y b u w₁:=by
 refine⟨U,U,h.C,h.I,õ h.M r.r,λi j a=> ?_⟩;let⟨c,d,e,f,g,k,l,m,n,o⟩:=h.r i j a;refine⟨c,d,e,f,g,k,?_,m,n,o⟩;rw[r.C j ?_]
 .exact l
 .by_cases s:b j
  .grind
  .exact Ç ⟨⟨i,a⟩,s⟩
def jk.to0(h:jk Y b u w):rN Y b u w:=⟨U,U,h.C,h.I,h.M,h.r⟩
def jk.vx(h:jk Y b u w)(tp:ψ)(d:Nat):rN Y b {u with tape:=tp,drawn:=d} w:=⟨U,U,h.C,h.I,h.M,h.r⟩
theorem afH{c:fv}(k:∀i j,c i j->b j->Rd j){e:ý}(h:AK c b e):J5 (ft c b) Rd e:=by
 rcases h with⟨a,i,d,f,g,l⟩|h|h
 .by_cases s:b a.block
  .refine Ç ⟨a,d,g,Î ⟨k _ _ f s,?_⟩⟩;grind
  .exact Ç ⟨a,d,g,Ç ⟨⟨i,f⟩,s⟩⟩
 .exact Î<|Ç h
 .exact Î<|Î h
def Xk{c:fv}(f:Y.r c)(g:∀i j,c i j->Y i j\/(u.heap.size<=i/\w.heap.size<=j))(k:jk c b W jX)(d:nV Y b w jX)(l:∀e∈V,AK c b e)(m:∀i j,c i j->b j->Rd j): J6 Rd (ft Y b) (ft c b) w jX V where
 r:=d.r;M j h:=⟨let⟨i,a⟩:=h.1;⟨i,f.1 _ _ a⟩,h.2⟩;I j h:=by
  let⟨⟨i,a⟩,s⟩:=h;rcases g i j a with x|x
  .exact Ç ⟨⟨i,x⟩,s⟩
  .exact Î x.2
 fA j h:=by let⟨⟨i,a⟩,_⟩:=h;let⟨_,_,_,_,_,_,x,_⟩:=k.r i j a;exact(Ë.1 x).1
 jZ j hj hn:=by
  by_cases x:∃i,Y i j
  .by_cases s:b j
   .exact d.N j s hj
   .exact absurd ⟨x,s⟩ hn
  .exact d.C j hj λi a=>x ⟨i,a⟩
 N:=d.I;S:=d.M;Y:=d.S;C e he:=afH m<|l e he
def Gr(Y:fv)(b:Nat->Prop)(f:Â->Æ->Prop)(c:Ę)(h:List Ę)(O:Nat->Prop)(g:Ó)(w:Æ):Prop:=
 ∃(a:fv) (d:Æ) (v e:Â),Y.r a/\O=ft a b/\rN a b d w/\fp a v e/\f v d/\g=G (c.finish e) h
def p7.Ow(hz:nW P)(hP:pA P X l){s:St}(h:p7 P vQ s u):∀{Y Gs:fv} {s':St} {w:Æ},Gs.r Y->Y.C=P.globals.size->(∀g,X g->Y g g)->JY Y s s'->lC P X l s->rN Y b u w->(∀j,b j->j<w.heap.size)->(∀i j,Y i j->b j->Rd j)->∀(c:Ę) (cs:List Ę),vw P main Rd (Gr Gs b vQ c cs) (ft Y b) (s'.r<|c::cs) w:=by
 have hE:∀o a u f F G,mU P X l o->(ì (å a) o).run P u=ĥ (ũ f F) G->l f:=by exact λo a u f F G d H=>d.C a u f F G H
 induction h with
 |@jP f t k u fn v hf H hp=>
  intro Y Gs s' w I J K L M N O n c cs;let⟨f',t',k',ret',L'⟩:=s';let⟨V,W,e2,e3,hL⟩:=L;simp only at V e2 e3 W hL;subst V e2 e3;cases hL;refine .mk rfl λp r=> ?_;have d:=λj s=>Ô (O j s) r.r;let⟨z,v',w',es,B,C,m,D,q,E,Q,h8⟩:=(Xh fn W).fX (N.kg n r) d (H _ _) #[];have y:=λi j T s=>(C i j T).elim (λx=>n i j x s) λx=>absurd (d j s) Z;refine⟨_,w',_,ft z b,Gq hf m,Xk B C q E (λe he=>Q e (by have:=mem_seen he;simpa using this)) y,.fD λxe e=>⟨z,u,v,v',fv.I I B,rfl,rN.kg (q.vx _ _) y e,D,hp,rfl⟩⟩
 |@jR s u S U h hc _ ih=>
  intro Y Gs s' w I J K L M N O n c cs;refine .mk rfl λp r=> ?_;have d:=λj s=>Ô (O j s) r.r;let⟨z,H,e,es,B,C,m,D,q,E,Q,h8⟩:=(h p.tape p.drawn).mV hz J K L M (N.kg n r) d (hc p.tape p.drawn) main<|c::cs;have y:=λi j T s=>(D i j T).elim (λx=>n i j x s) λx=>absurd (d j s) Z;refine⟨_,e,es,ft z b,B,Xk m D q E Q y,ih _ _ (fv.I I m) (m.2.2.trans J) (λg x=>m.1 _ _<|K g x) C ((h _ _).ok hP hE M) q.to0 (λj s=>Ô (d j s) E.r) y c cs⟩
end
def p8:Ę:={(default:Ę)with fn:=0,todo:=[Đ<|du ""],defers:=[{target:=.nil,args:=#[]}],mode:=.run,kind:=.normal}
def St.I(s:St):Ę:=if s.C then{fm s.f s.t s.k with mode:=.returning}else fm s.f s.t s.k
def fA(L:List (FuncId×Array Value×List ś)):List Ę:=L.map (λx=>fm x.1 x.2.1 x.2.2)++[p8]
def LM(s:St)(u:Æ):bR:=aU s.I (fA s.L) u
section
variable{GL:Nat->Prop}{fc:à->Prop}{Q:Â->Æ->Prop}
def Dv{cs:List Ę}{a:Ę}{es:Array ý}(h:Ù P É (G f cs) w=aS (G a qX) u es):dT P (aU f cs w)=ň (aU a qX u):= step_lone_go<|by show(Ù P É (G f cs) w).bare=_;rw[h];rfl
def J7{fr:Ę}{cs:List Ę}{o:Outcome}{es:Array ý}(h:Ù P É (G fr cs) w=eX o u es):dT P (aU fr cs w)=.ended o u:= step_lone_ended<|by show(Ù P É (G fr cs) w).bare=_;rw[h];rfl
def mW(P:Õ)(Q:Â->Æ->Prop)(n:Nat)(m:bR):Prop:=∃b v a,dx P n m=ň (aU b [p8] a)/\b.leaving P a (.returned v)/\Q v a
def mW.r{m a:bR}(h:mW P Q (n+1) m)(b:dT P m=ň a):mW P Q n a:=by let⟨c,v,d,e,f⟩:=h;exact⟨c,v,d,by simpa only[dx,b]using e,f⟩
def mW.M{m:bR}{o:Outcome}(h:mW P Q (n+1) m)(b:dT P m=.ended o w):False:=by let⟨c,v,d,a,e⟩:=h;simp only[dx,b]at a;cases a
theorem Xl{fr:Ę}{cs:List Ę}(h:aU fr cs w=aU f qX u):fr=f/\cs=qX/\w=u:=by simp only[aU,Machine.mk.injEq,Array.mk.injEq,List.cons.injEq,Goroutine.mk.injEq]at h;grind
theorem mW.C{cs:List Ę}(h:mW P Q 0 (aU f cs w)):cs=[p8]/\∃v,f.leaving P w (.returned v)/\Q v w:=by let⟨b,v,c,a,d,e⟩:=h;simp only[dx,Stepped.next.injEq]at a;grind [Xl]
def afI(h:mW P Q n (aU p8 [] u)):False:=by
 cases n with
 |zero=>let⟨a,_⟩:=h.C;cases a
 |succ n=>exact h.M<|J7 (es:=#[])<|by simp[G,Ù,Ì,p8];exact⟨U,U⟩
def afJ{a:List ei}(h:mW P Q n (aU (p8.raise a) [] u)):False:=by
 cases n with
 |zero=>let⟨b,_⟩:=h.C;cases b
 |succ n=>exact h.M<|J7 (es:=#[])<|by simp[G,Ù,p8,Ŗ,dw,callDeferred];exact⟨U,U⟩
def afK(b:List ei):∀(L:List (FuncId×Array Value×List ś)) (f:à) (t:Array Â) (k:List ś) (u:Æ) (n:Nat),(∃a,P.funcs[f]?=À a)->(∀x∈L,∃a,P.funcs[x.1]?=À a)->¬mW P Q n (aU ((fm f t k).raise b) (fA L) u):=by
 intro L
 induction L with
 |nil=>
  intro f t k u n ⟨a,c⟩ _ h;cases n with
  |zero=>let⟨_,v,y,_⟩:=h.C;exact absurd y.1<|by simp[Ŗ,fm,Frame.at]
  |succ n=>
   have d:dT P (aU ((fm f t k).raise b) (fA []) u)=ň (aU (p8.raise b) [] u):=Dv (es:=#[]) (by simp[G,Ù,fm,base,Frame.at,Ŗ,dw,cW,c,fA]);exact afJ<|h.r d
 |cons x L e=>
  intro f t k u n ⟨a,c⟩ d h;cases n with
  |zero=>let⟨_,v,y,_⟩:=h.C;exact absurd y.1<|by simp[Ŗ,fm,Frame.at]
  |succ n=>
   exact e x.1 x.2.1 x.2.2 u n (d x<|î ..) (λy v=>d y<|ò _ v)<|h.r<|Dv (es:=#[])<|by simp[G,Ù,fm,base,Frame.at,Ŗ,dw,cW,c,fA]
structure Ok(P:Õ)(GL:Nat->Prop)(fc:à->Prop)(s:St):Prop where
 r:lC P GL fc s
 I:fc s.f
 C:∀x∈s.L,fc x.1/\∃ops i rest k,x.2.2=á ops (i::rest)::k
def tW(P:Õ)(fc:à->Prop):Prop:=∀f,fc f->∃a c,P.funcs[f]?=À a/\a.body=À c
theorem Ox{t:Array Â}:fG P (Ī s t):=by unfold Ī;grind [gw,WA,gI,Ws,Wo]
def afL(k:km P xX o.op){n:Ο}(d:(ì xX o).run P u=ĥ n W):(∃v,n=ï v)\/n=aH\/∃f c,n=ũ f c:=by
 have i:∀{m:ē Â} {x:Ο} {j l:Æ},(m>>=λv=>pure (ï v):ē Ο).run P j=ĥ x l->∃v,x=ï v:=by
  intro m x j l e;rw[Ä]at e;cases g:m.run P j with
  |ok a w=>rw[g]at e;cases e;exact⟨a,U⟩
  |halt z w=>rw[g]at e;cases e
 let⟨p,e,q,s,B,guard⟩:=o;simp only at k;unfold ì at d;simp only[]at d;cases k with
 |AP x=>cases d;exact Ç ⟨_,U⟩
 |F9 x=>cases d;exact Ç ⟨_,U⟩
 |wS c a b=>
  rw[Ä]at d;cases g:(bW<|xX c).run P u with
  |ok a w=>rw[g]at d;cases d;exact Ç ⟨_,U⟩
  |halt z w=>rw[g]at d;cases d
 |jg t a x=>
  rw[Ä]at d;cases g:(ĳ t (xX a)<|xX x).run P u with
  |ok a w=>rw[g]at d;cases d;exact Î<|Ç U
  |halt z w=>rw[g]at d;cases d
 |Gb x=>
  simp only[]at d;split at d;all_goals first
   |(cases d;exact Ç ⟨_,U⟩)
   |exact absurd d<|rH _ _ _ _
   |(
    split at d;all_goals first
     |(cases d;exact Ç ⟨_,U⟩)
     |exact absurd d<|rH _ _ _ _
     |(
      rw[Ä,ă]at d;simp only[È]at d;rw[Ä]at d;revert d;generalize ã P (aR _ _ _ _) u=z;intro d;cases z with
      |halt z w=>cases d
      |ok a w=>
       simp only[È]at d;split at d
       .rw[Ä]at d;cases d
       .cases d;exact Ç ⟨_,U⟩))
 |Gc x a=>simp only[ù,č,Ē,pure_bind,Ø,â,ä]at d;exact Ç<|i d
 |Gd x a=>simp only[ù,č,Ē,pure_bind,Ø,â,ä]at d;exact Ç<|i d
 |Ge x y a=>simp only[ù,č,Ē,pure_bind,Ø,â,ä]at d;exact Ç<|i d
 |tO x y b g h=>simp only[ù,č,Ē,pure_bind,Ø,â,ä]at d;exact Ç<|i d
 |jO g C a b h=>
  let⟨D,r,w,z⟩:=h;simp only[ù,b,İ,č,pure_bind,Ď,ď,ĵ]at d;rw[Ä,ă]at d;simp only[È,r,w,z,Å,if_false]at d;cases d;exact Î<|Î ⟨_,_,U⟩
 |Dq e t x y r h=>exact Ç<|i d
 |_=>exact Ç<|i d
def mW.I(_hP:pA P GL fc)(hF:tW P fc){n:Nat}{s:St}{u:Æ}(ok:Ok P GL fc s)(hu:qL u)(h:mW P Q n (LM s u)): (n=0/\s.C=É/\s.L=[]/\∃fn v,P.funcs[s.f]?=À fn/\(Ī fn s.t).run P u=ĥ v u/\Q v u)\/∃m s' u',n=m+1/\LS P s u s' u'/\mW P Q m (LM s' u'):=by
 let⟨f,t,k,ret,L⟩:=s;let⟨⟨top,lw⟩,fs,ls⟩:=ok;simp only at top lw fs ls;let⟨fn,c,hfn,hbody⟩:=hF f fs;cases n with
 |zero=>
  let⟨h1,v,h2,h3⟩:=h.C;have hL:L=[]:=by simp only[fA]at h1;simp_all
  subst hL;let⟨m1,_,_,fn',m4,m5⟩:=h2;have afM:ret=É:=by
   cases ret with
   |true=>rfl
   |false=>simp[St.I,fm,Frame.at]at m1
  subst afM;exact Ç ⟨U,U,U,fn',v,m4,m5,h3⟩
 |succ n=>
  have go:∀{s':St} {u':Æ},LS P ⟨f,t,k,ret,L⟩ u s' u'->(∃es,Ù P É ((⟨f,t,k,ret,L⟩:St).r [p8]) u=aS (s'.r [p8]) u' es)->(n+1=0/\ret=É/\L=[]/\∃fn v,P.funcs[f]?=À fn/\(Ī fn t).run P u=ĥ v u/\Q v u)\/∃m s' u',n+1=m+1/\LS P ⟨f,t,k,ret,L⟩ u s' u'/\mW P Q m (LM s' u'):=by intro s' u' hl ⟨es,he⟩;exact Î ⟨n,s',u',U,hl,h.r<|Dv he⟩
  have bad:(∃o w es,Ù P É ((⟨f,t,k,ret,L⟩:St).r [p8]) u=eX o w es)->False:=λ⟨_,_,_,he⟩=>h.M<|J7 he;cases ret with
  |true=>
   cases hr:(Ī fn t).runT P u #[]with
   |mk r es=>
    cases r with
    |halt z w=>
     refine absurd ?_ id;cases z<;>exact bad ⟨_,_,_,by simp[St.r,fm,base,G,Ù,dw,Frame.at,hfn,hr,Ź,-ź];exact⟨U,U,U⟩⟩
    |ok v u'=>
     cases L with
     |nil=>
      exact absurd (h.r<|Dv<|Gq hfn hr) afI
     |cons x L=>
      let⟨g,t',k'⟩:=x;let⟨_,ops,i,rest,k2,e⟩:=ls _<|î ..;simp only at e;subst e;refine go (.xb hfn (by rw[<-Ρ P (Ī fn t) u #[],hr])) ⟨seen P f es,?_⟩;have nA:=Gq (main:=É) (k:=k) (c:=fm g t'<|á ops (i::rest)::k2) (cs:=fA L) hfn hr;have AV:=ε (base g) ⟨t',[]⟩ ops i rest k2 v;rw[sS]at AV;unfold fm at nA;rwa[AV]at nA
  |false=>
   cases k with
   |nil=>exact go .pw ⟨_,by simp[St.r,fm,base,G,Ù,Ì,Frame.at];rfl⟩
   |cons it k=>
    have ti:=top it<|î ..;cases ti with
    |yI id=>exact go .yI ⟨_,by simp[St.r,fm,base,G,Ù,Ì,Frame.at];rfl⟩
    |vv _=>exact go .vv ⟨_,by simp[St.r,fm,base,G,Ù,Ì,Frame.at];rfl⟩
    |wY _=>exact go .wY ⟨_,by simp[St.r,fm,base,G,Ù,Ì,Frame.at];rfl⟩
    |rM hc=>
     cases hc with
     |vu=>exact go .vu ⟨_,by simp[St.r,fm,base,G,Ù,Ì,Frame.at];rfl⟩
     |sP=>exact go .sP ⟨_,by simp[St.r,fm,base,G,Ù,Ì,Frame.at];rfl⟩
     |wV l=>exact go .wV ⟨_,by simp[St.r,fm,base,G,Ù,Ì,Frame.at];rfl⟩
     |rK hx hy=>exact go .rK ⟨_,by simp[St.r,fm,base,G,Ù,Ì,Frame.at];rfl⟩
     |rL id _=>exact go .rL ⟨_,by simp[St.r,fm,base,G,Ù,Ì,Frame.at];rfl⟩
     |wW _=>exact go .wW ⟨_,by simp[St.r,fm,base,G,Ù,Ì,Frame.at];rfl⟩
     |wZ _=>exact go .wZ ⟨_,by simp[St.r,fm,base,G,Ù,Ì,Frame.at];rfl⟩
     |nY Xf=>exact(bad ⟨_,_,_,by simp[St.r,fm,base,G,Ù,Ì,Frame.at];exact⟨U,U,U⟩⟩).elim
     |w7 id=>
      cases he:cD id k with
      |none=>exact(bad ⟨_,_,_,by simp[St.r,fm,base,G,Ù,Ì,Frame.at,he];exact⟨U,U,U⟩⟩).elim
      |some k'=>exact go (.w7 he) ⟨_,by simp[St.r,fm,base,G,Ù,Ì,Frame.at,he];rfl⟩
     |xa l=>
      cases he:cE l k with
      |none=>exact(bad ⟨_,_,_,by simp[St.r,fm,base,G,Ù,Ì,Frame.at,he];exact⟨U,U,U⟩⟩).elim
      |some k'=>exact go (.xa he) ⟨_,by simp[St.r,fm,base,G,Ù,Ì,Frame.at,he];rfl⟩
     |@tU c x y _ _ _=>
      by_cases hb:∃b,å ⟨t,[]⟩ c=Ľ b
      .let⟨b,hb⟩:=hb;exact go (.tU hb) ⟨_,cF hb⟩
      .refine(bad ⟨.stuck "cond: bool expected" ((fm f t<|Đ (bz c x y)::k).pos P),u,#[],?_⟩).elim;have V7:(fm f t<|Đ (bz c x y)::k).eval c=å ⟨t,[]⟩ c:=Frame.eval_at _ _ _ _;have hx:Ù P É (G (fm f t<|Đ (bz c x y)::k)<|fA L) u=(match(fm f t<|Đ (bz c x y)::k).eval c with
        |Ľ b=>aS (G (fm f t<|Đ (if b then x else y)::k)<|fA L) u
        |_=>eX (.stuck "cond: bool expected" ((fm f t (Đ (bz c x y)::k)).pos P)) u):=by
        simp only[G,Ù,Ì,fm,Frame.at];rfl
       refine hx.trans ?_;rw[V7];generalize å ⟨t,[]⟩ c=v at hb;cases v<;>first|exact absurd ⟨_,U⟩ hb|rfl
     |tV id draw _=>
      cases draw with
      |false=>exact go .tV ⟨_,by simp[St.r,fm,base,G,Ù,Ì,Frame.at];rfl⟩
      |true=>exact go .AS ⟨_,Ż⟩
    |xc is hO=>
     rename_i ops;cases is with
     |nil=>exact go .Gp ⟨_,by simp[St.r,fm,base,G,Ù,Ì,Frame.at];rfl⟩
     |cons i rest=>
      cases ho:ops[i]? with
      |none=>exact go (.Dt ho) ⟨_,by simp[St.r,fm,base,G,Ù,Ì,Frame.at,ho,aT];rfl⟩
      |some o=>
       cases hw:Ħ o (ł ops t)with
       |false=>
        have:=υ (P:=P) (main:=É) (b:=base f) (a:=⟨t,[]⟩) (k:=k) (cs:=fA L) (w:=u) (rest:=rest) ho hw;rw[sS]at this;exact go (.Ds ho hw) ⟨_,this⟩
       |true=>
        have oo:=hO o<|Û ho;have pC:=stepG_oper (P:=P) (main:=É) (b:=base f) (a:=⟨t,[]⟩) (k:=k) (cs:=fA L) (w:=u) (rest:=rest) ho hw;cases hr:(ì (å ⟨t,[]⟩) o).runT P u #[]with
        |mk r es=>
         have pv:(ì (å ⟨t,[]⟩) o).run P u=r:=by rw[<-Ρ P _ u #[],hr]
         cases r with
         |halt z w=>
          have hz:=((oo.r ⟨t,[]⟩).1 u hu).2 z w pv;cases z with
          |panic v=>
           have hs:dT P (LM ⟨f,t,á ops (i::rest)::k,Ã,L⟩ u)=ň (aU ((fm f t<|á ops (i::rest)::k).raise [{v,recovered:=Ã}]) (fA L) w):= Dv (es:=seen P f es) (pC.trans<|by simp[bC,hr,G,Frame.at,fm,base,Ź,Ŗ,-ź]);exact absurd (h.r hs) (afK _ L f t _ w n ⟨fn,hfn⟩ λx hx=>let⟨fn',_,h1,_⟩:=hF x.1 (ls x hx).1;⟨fn',h1⟩)
          |stuck s=>exact(bad ⟨_,_,_,pC.trans<|by simp[bC,hr,Frame.at,base,Ź,-ź];exact⟨U,U,U⟩⟩).elim
          |unsupported un=>
           cases un<;>first|(cases hz;done)|exact(bad ⟨_,_,_,pC.trans<|by simp[bC,hr,Frame.at,base,Ź,-ź];exact⟨U,U,U⟩⟩).elim
          |_=>cases hz
         |ok nx u'=>
          rcases oo.I ⟨t,[]⟩ u nx u' pv with⟨v,rfl⟩|rfl|⟨g,args,rfl⟩
          .have:=bA (main:=É) (b:=base f) (k:=k) (cs:=fA L) (rest:=rest) ho hw (by simp[base]) pv;rw[sS]at this;exact go (.nX ho hw pv) ⟨_,this⟩
          .have:=cH (main:=É) (b:=base f) (k:=k) (cs:=fA L) (rest:=rest) ho hw (by simp[base]) pv;rw[sS]at this;exact go (.AT ho hw pv) ⟨_,this⟩
          .let⟨fn',c',h1,h2⟩:=hF g<|oo.C ⟨t,[]⟩ u g args u' pv;have:=bB (main:=É) (b:=base f) (k:=k) (cs:=fA L) (rest:=rest) ho hw (by simp[base]) pv;rw[cI _ h1 h2]at this;exact go (.sQ ho hw pv h1 h2) ⟨_,this⟩
end
def ko(u:Æ):Prop:=∀(i:Nat) (o:Obj),u.heap[i]?=À o->¬yH o
def ko.qL(h:ko u):qL u:=λi _ _ a=>h i _ a trivial
def xf(a:Â->Æ->Prop):Prop:=∀v u T D,a v u->a v ((World.tp u T D))
section
variable{GL:Nat->Prop}{fc:à->Prop}{kn:Â->Æ->Prop}
def LS.Ow{s s':St}(h:LS P s u s' W)(cs:List Ę):∃j,Ù P É (s.r cs) u=aS (s'.r cs) W j:=by
 cases h with
 |@tU f t k L _ c x y b hc=>exact⟨_,cF hc⟩
 |w7 e=>exact⟨_,by simp[St.r,fm,base,G,Ù,Ì,Frame.at,e];rfl⟩
 |xa e=>exact⟨_,by simp[St.r,fm,base,G,Ù,Ì,Frame.at,e];rfl⟩
 |@AS f t k L _ id ops=>exact⟨_,Ż⟩
 |@Dt f t k L _ ops i rest ho=>exact⟨_,by simp[St.r,fm,base,G,Ù,Ì,Frame.at,ho,aT];rfl⟩
 |@Ds f t k L _ ops i rest o ho hw=>
  have:=υ (P:=P) (main:=É) (b:=base f) (a:=⟨t,[]⟩) (k:=k) (cs:=L.map (λx=>fm x.1 x.2.1 x.2.2)++cs) (w:=u) (rest:=rest) ho hw;rw[sS]at this;exact⟨_,this⟩
 |@nX f t k L _ ops i rest o v _ ho hw hr=>
  have:=bA (main:=É) (b:=base f) (k:=k) (cs:=L.map (λx=>fm x.1 x.2.1 x.2.2)++cs) (rest:=rest) ho hw (by simp[base]) hr;rw[sS]at this;exact⟨_,this⟩
 |@AT f t k L _ ops i rest o _ ho hw hr=>
  have:=cH (main:=É) (b:=base f) (k:=k) (cs:=L.map (λx=>fm x.1 x.2.1 x.2.2)++cs) (rest:=rest) ho hw (by simp[base]) hr;rw[sS]at this;exact⟨_,this⟩
 |@sQ f t k L _ ops i rest o g args fn c _ ho hw hr hf hb=>
  have:=bB (main:=É) (b:=base f) (k:=k) (cs:=L.map (λx=>fm x.1 x.2.1 x.2.2)++cs) (rest:=rest) ho hw (by simp[base]) hr;rw[cI _ hf hb]at this;exact⟨_,this⟩
 |@xb f t k L _ g t' ops i rest k' v fn _ hf hr=>
  cases l:(Ī fn t).runT P u #[]with
  |mk r j=>
   have e:r=ĥ v W:=by rw[<-hr,<-Ρ P (Ī fn t) u #[],l]
   subst e;have d:=Gq (main:=É) (k:=k) (c:=fm g t'<|á ops (i::rest)::k') (cs:=L.map (λx=>fm x.1 x.2.1 x.2.2)++cs) hf l;have x:=ε (base g) ⟨t',[]⟩ ops i rest k' v;rw[sS]at x;unfold fm at d;rw[x]at d;exact⟨_,d⟩
 |_=>exact⟨_,by simp[St.r,fm,base,G,Ù,Ì,Frame.at];rfl⟩
def LS.vy{s a:St}(h:LS P s u a w):dT P (LM s u)=ň (LM a w):= let⟨_,b⟩:=h.Ow [p8];Dv b
def LS.Oy(j:pA P GL fc){s g:St}(h:LS P s u g w)(ok:Ok P GL fc s):Ok P GL fc g:=by
 have i:∀o a u f e w,mU P GL fc o->(ì (å a) o).run P u=ĥ (ũ f e) w->fc f:=by exact λo a u f e w c d=>c.C a u f e w d
 refine⟨h.ok j i ok.r,?_,?_⟩
 .cases h with
  |sQ c _ d _ _=>exact i _ _ _ _ _ _ (pB ok.r.gk _<|Û c) d
  |xb=>exact(ok.C _<|î ..).1
  |_=>exact ok.I
 .cases h with
  |sQ c _ d _ _=>
   intro x b;rcases œ.1 b with rfl|b
   .exact⟨ok.I,_,_,_,_,U⟩
   .exact ok.C x b
  |xb=>exact λx b=>ok.C x<|ò _ b
  |_=>exact ok.C
def LS.kd{s c:St}{u b:Æ}(h:LS P s u c b)(ok:lC P GL fc s)(a:qL u):Kd u b:=by
 cases h with
 |nX k _ i=>exact(((pB ok.gk _<|Û k).r _).1 u a).1 _ _ i
 |AT k _ i=>exact(((pB ok.gk _<|Û k).r _).1 u a).1 _ _ i
 |sQ k _ i _ _=>exact(((pB ok.gk _<|Û k).r _).1 u a).1 _ _ i
 |xb _ i=>exact(Ox.1 u a).1 _ _ i
 |AS=>exact⟨id,λi o h k=>⟨o,h,k⟩⟩
 |_=>exact Kd.gd u
def LS.afN{s o:St}{u p:Æ}{T:ψ}{D:Nat}(h:LS P s ((World.tp u T D)) o p)(ok:lC P GL fc s):∃n v,p=(World.tp v T<|D+n)/\∀a b,vr T D a b n->LS P s ((World.tp u a b)) o ((World.tp v a<|b+n)):=by
 cases h with
 |nX c e g=>
  obtain⟨n,v,i⟩:=((pB ok.gk _<|Û c).r ⟨_,[]⟩).2 u T D;obtain⟨j,l⟩:=i _ _ g;exact⟨n,v,j,λa b d=> .nX c e (l a b d)⟩
 |AT c e g=>
  obtain⟨n,v,i⟩:=((pB ok.gk _<|Û c).r ⟨_,[]⟩).2 u T D;obtain⟨j,l⟩:=i _ _ g;exact⟨n,v,j,λa b d=> .AT c e (l a b d)⟩
 |sQ c e g m q=>
  obtain⟨n,v,i⟩:=((pB ok.gk _<|Û c).r ⟨_,[]⟩).2 u T D;obtain⟨j,l⟩:=i _ _ g;exact⟨n,v,j,λa b d=> .sQ c e (l a b d) m q⟩
 |xb m g=>
  obtain⟨n,v,i⟩:=(Ox).2 u T D;obtain⟨j,l⟩:=i _ _ g;exact⟨n,v,j,λa b d=> .xb m (l a b d)⟩
 |@AS f t k L _ id ops=>
  refine⟨1,u,U,λa b d=> ?_⟩;have g:=LS.AS (P:=P) (f:=f) (t:=t) (k:=k) (L:=L) (u:=(World.tp u a b)) (id:=id) (ops:=ops);have i:((World.tp u a b)).tape ((World.tp u a b)).drawn=((World.tp u T D)).tape ((World.tp u T D)).drawn:=d.lY;rwa[i]at g
 |pw=>exact⟨0,u,U,λ_ _ _=> .pw⟩
 |vu=>exact⟨0,u,U,λ_ _ _=> .vu⟩
 |sP=>exact⟨0,u,U,λ_ _ _=> .sP⟩
 |wV=>exact⟨0,u,U,λ_ _ _=> .wV⟩
 |yI=>exact⟨0,u,U,λ_ _ _=> .yI⟩
 |vv=>exact⟨0,u,U,λ_ _ _=> .vv⟩
 |rK=>exact⟨0,u,U,λ_ _ _=> .rK⟩
 |tU h=>exact⟨0,u,U,λ_ _ _=> .tU h⟩
 |rL=>exact⟨0,u,U,λ_ _ _=> .rL⟩
 |wW=>exact⟨0,u,U,λ_ _ _=> .wW⟩
 |wY=>exact⟨0,u,U,λ_ _ _=> .wY⟩
 |wZ=>exact⟨0,u,U,λ_ _ _=> .wZ⟩
 |w7 h=>exact⟨0,u,U,λ_ _ _=> .w7 h⟩
 |xa h=>exact⟨0,u,U,λ_ _ _=> .xa h⟩
 |tV=>exact⟨0,u,U,λ_ _ _=> .tV⟩
 |Gp=>exact⟨0,u,U,λ_ _ _=> .Gp⟩
 |Ds c e=>exact⟨0,u,U,λ_ _ _=> .Ds c e⟩
 |Dt c=>exact⟨0,u,U,λ_ _ _=> .Dt c⟩
def mW.gW(c:pA P GL fc)(hF:tW P fc)(g:∀v u,vQ v u->ko u):∀(n:Nat) {s:St} {u:Æ},Ok P GL fc s->qL u->mW P vQ n (LM s u)->ko u:=by
 intro n
 induction n with
 |zero=>
  intro s u a b h;rcases h.I c hF a b with⟨_,_,_,_,v,_,_,d⟩|⟨m,_,_,e,_⟩
  .exact g v u d
  .cases e
 |succ n j=>
  intro s u a b h;rcases h.I c hF a b with⟨e,_⟩|⟨m,w,x,e,d,k⟩
  .cases e
  .cases e;have f:=d.kd a.r b;intro i o l p;let⟨q,r,t⟩:=f.C i o l p;exact j (d.Oy c a) (f.r b) k i q r t
def p7.afO(b:xf kn){s:St}(h:p7 P kn s u)(T:ψ)(D:Nat):p7 P kn s ((World.tp u T D)):=by
 cases h with
 |jP a S c=>exact .jP a S (b _ _ T D c)
 |jR S a h c d=>exact .jR S a h c d
def Xm(m:xf kn)(o:∀v u,vQ v u->kn v u){s:St}(c:s.C=É)(b:s.L=[])(e:∃g v,P.funcs[s.f]?=À g/\(Ī g s.t).run P ((World.tp u xQ i))=ĥ v ((World.tp u xQ i))/\vQ v ((World.tp u xQ i))):p7 P kn s u:=by
 obtain⟨f,t,k,z,L⟩:=s;simp only at c b;subst c b;obtain⟨g,v,p,q,r⟩:=e;refine .jP (v:=v) p (λh d=> ?_) ?_
 .obtain⟨n,w,c⟩:=(Ox).2 u xQ i;obtain⟨b,e⟩:=c _ _ q;have x:n=0:=by
   have:((World.tp u xQ i)).drawn=((World.tp w xQ<|i+n)).drawn:=by rw[<-b]
   simp only[World.tp]at this;omega
  subst x;have y:(World.tp w h d)=(World.tp u h d):=by
   have a:((World.tp u xQ i)).heap=((World.tp w xQ<|i+0)).heap:=by rw[<-b]
   have j:((World.tp u xQ i)).os=((World.tp w xQ<|i+0)).os:=by rw[<-b]
   have l:((World.tp u xQ i)).output=((World.tp w xQ<|i+0)).output:=by rw[<-b]
   simp only[World.tp]at a j l|-;rw[a,j,l]
  have:=e h d (λa j=>by omega);rwa[show d+0=d from rfl,y]at this
 .have:=m v _ u.tape u.drawn<|o v _ r;exact this
structure J8 where
 s:St
 u:Æ
 D:Nat
 T:ψ
 n:Nat
structure J9(P:Õ)(GL:Nat->Prop)(fc:à->Prop)(kn:Â->Æ->Prop)(s0:St)(u0:Æ)(x:J8):Prop where
 ok:Ok P GL fc x.s
 afP:qL x.u
 afQ:¬p7 P kn x.s x.u
 oU:∀T',(∀i,i<x.D->T' i=x.T i)->dx P x.n (LM s0<|(World.tp u0 T' 0))=ň (LM x.s<|(World.tp x.u T' x.D))
def Xn{m:bR}{s:St}{N:Nat}(a:dx P n m=ň (LM s u))(e:mW P vQ N m):∃k,N=n+k/\mW P vQ k (LM s u):=by
 by_cases f:n<=N
 .obtain⟨k,rfl⟩:=Ε f;refine⟨k,U,?_⟩;let⟨g,v,c,b,d⟩:=e;rw[dM,a]at b;exact⟨g,v,c,b,d⟩
 .obtain⟨k,rfl⟩:=Nat.exists_eq_add_of_lt<|Nat.lt_of_not_le f;let⟨g,v,c,b,d,_⟩:=e;rw[show N+k+1=N+(k+1) by omega,dM,b]at a;simp only[dx,step_leave_returned d]at a;cases k with
  |zero=>
   simp only[dx,Stepped.next.injEq]at a;have:=(Xl a).2.1;simp[fA]at this
  |succ k=>
   simp only[dx,(J7 (P:=P) (fr:=p8) (cs:=[]) (w:=c) (es:=#[])<|by simp[G,Ù,Ì,p8];exact⟨U,U⟩)]at a;cases a
theorem Oz(f:pA P GL fc)(hF:tW P fc)(t:xf kn)(C:∀v u,vQ v u->ko u)(E:∀v u,vQ v u->kn v u){j:St}(F:∀T,∃n,mW P vQ n<|LM j<|(World.tp w T 0)){x:J8}(G:J9 P GL fc kn j w x): ∃y:J8,J9 P GL fc kn j w y/\y.n=x.n+1/\x.D<=y.D/\∀i,i<x.D->y.T i=x.T i:=by
 let⟨s,u,D,T,n⟩:=x;let⟨ok,pend,l,q⟩:=G;simp only at ok pend l q;have H:∃y d,∀a g,LS P s ((World.tp u y d)) a g->Dn u g->¬p7 P kn a g:=by
  refine Classical.byContradiction λo=>l ?_;have c:∀y d,∃p:St×World,LS P s ((World.tp u y d)) p.1 p.2/\Dn u p.2/\p7 P kn p.1 p.2:=by simp_all
  exact .jR (λy d=>(Classical.choose<|c y d).1) (λy d=>(Classical.choose<|c y d).2) (λy d=>(Classical.choose_spec<|c y d).1) (λy d=>(Classical.choose_spec<|c y d).2.1) λy d=>(Classical.choose_spec<|c y d).2.2
 let⟨y,d,I⟩:=H;let p:ψ:=λi=>if i<D then T i else y (d+(i-D))
 have r:∀i,i<D->p i=T i:=λi h=>if_pos h;have J:=λi=>by show(if D+i<D then T (D+i)else y (d+(D+i-D)))=y (d+i);grind
 let⟨N,K⟩:=F p;let⟨k,_,L⟩:=Xn (q p r) K;have b:qL ((World.tp u p D)):=pend;rcases L.I f hF ok b with⟨_,M,O,S⟩|⟨m,a,g,_,e,V⟩
 .exact absurd (Xm t E M O S) l
 .obtain⟨c,v,rfl,z⟩:=e.afN ok.r;have W:¬p7 P kn a v:=λX=>I a _ (z y d λi _=>(J i).symm) (λi o _ B=>(mW.gW f hF C m (e.Oy f ok) ((e.kd ok.r b).r b) V) i o B)<|X.afO t y<|d+c;refine⟨⟨a,v,D+c,p,n+1⟩,⟨e.Oy f ok,(e.kd ok.r b).r b,W,λo B=> ?_⟩,U,fq,r⟩;rw[dM,(q o λi h=>(B i<|by simp only;omega).trans<|r i h)];simp only[dx,(z o D λi h=>B (D+i)<|by simp only;omega).vy]
theorem afR(b:pA P GL fc)(hF:tW P fc)(c:xf kn){Q:Â->Æ->Prop}(g:∀v u,Q v u->ko u)(d:∀v u,Q v u->kn v u){a:St}(ok:Ok P GL fc a)(q:qL w)(f:∀T,∃n,mW P Q n<|LM a<|(World.tp w T 0)):p7 P kn a w:=by
 refine Classical.byContradiction λr=> ?_;have s:J9 P GL fc kn a w ⟨a,w,0,λ_ _=>0,0⟩:=⟨ok,q,r,λI _=>rfl⟩;let F:Nat->{x:J8//J9 P GL fc kn a w x}:=λk=>Nat.rec ⟨_,s⟩ (λ_ x=>⟨Classical.choose<|Oz b hF c g d f x.2,(Classical.choose_spec<|Oz b hF c g d f x.2).1⟩) k
 have l:=λk=>(Classical.choose_spec<|Oz b hF c g d f (F k).2).2;have t:∀k,(F k).1.n=k:=by
  intro k
  induction k with
  |zero=>rfl
  |succ k e=>rw[(l k).1,e]
 have J:∀j k,(F j).1.D<=(F<|j+k).1.D/\∀i,i<(F j).1.D->(F<|j+k).1.T i=(F j).1.T i:=by
  intro j k
  induction k with
  |zero=>exact⟨ß _,λ_ _=>rfl⟩
  |succ k e=>
   have:=(l<|j+k).2;exact⟨õ e.1 this.1,λi m=>(this.2 i<|Ô m e.1).trans<|e.2 i m⟩
 have K:∀j k i,i<(F j).1.D->i<(F k).1.D->(F j).1.T i=(F k).1.T i:=by intro j k i e o;rcases Nat.le_total j k with h|h;all_goals grind [Ε]
 let T:ψ:=λi=>open Classical in if h:∃k,i<(F k).1.D then(F<|Classical.choose h).1.T i else λ_=>0
 have y:∀k i,i<(F k).1.D->T i=(F k).1.T i:=by intro k i m;have e:∃k,i<(F k).1.D:=⟨k,m⟩;show(open Classical in if h:∃k,i<(F k).1.D then(F<|Classical.choose h).1.T i else λ_=>0)=_;rw[dif_pos e];grind
 let⟨N,z⟩:=f T;have p:=(F N).2.oU T<|y N;rw[t N]at p;let⟨k,e,o⟩:=Xn p z;have B:k=0:=Z
 subst B;have C:qL ((World.tp (F N).1.u T<|(F N).1.D)):=(F N).2.afP;rcases o.I b hF (F N).2.ok C with⟨_,E,G,H⟩|⟨m,_,_,e,_⟩
 .exact(F N).2.afQ<|Xm c d E G H
 .cases e
end
section
variable{m:à->Prop}
def OA(f:à)(b:Func)(c:ak)(a:Array Â):St:=⟨f,a++ĺ (b.ntmps-a.size) ľ,[Đ c],Ã,[]⟩
def Xo(a:Array Â)(b:P.funcs[F]?=À s)(d:s.body=À wX):dN P F a .normal=(OA F s wX a).I:=cI a b d
def afS(b:pA P X m)(hF:tW P m)(l:xf vQ)(g:m F)(j:P.funcs[F]?=À s)(k:s.body=À wX)(o:ko u) (p:∀T,Calls P F d ((World.tp u T 0)) fun|.returned v,u'=>vQ v u'/\ko u'|_,_=>False):p7 P vQ (OA F s wX d) u:=by
 refine afR b hF l (Q:=λv u=>vQ v u/\ko u) (λv u h=>h.2) (λv u h=>h.1) ⟨⟨λi q=> ?_,λx h=>by cases h⟩,g,λx h=>by cases h⟩ o.qL λT=> ?_
 .rw[ū.1 q];exact .rM (b F g s wX j k)
 .let⟨e,r,t,a,w,_,y⟩:=p T [p8];cases e with
  |returned v=>
   let⟨n,z⟩:=w;refine⟨n,t,v,r,?_,y,a⟩;rw[<-z,Xo d j k];rfl
  |panicked n=>exact a.elim
  |outgrown=>exact a.elim
def afT(r:nW P)(b:pA P X m)(hF:tW P m)(t:xf vQ)(n:m F)(e:P.funcs[F]?=À s)(h:s.body=À wX)(y:ko u) (z:∀T,Calls P F d ((World.tp u T 0)) fun|.returned v,u'=>vQ v u'/\ko u'|_,_=>False) {Y:fv} {a o:Nat->Prop} (B:Y.C=P.globals.size) (C:∀g,X g->Y g g) (p:fW Y d q) (D:rN Y a u w) (E:∀j,a j->j<w.heap.size) (H:∀i j,Y i j->a j->o j) (main:Bool) (k:Ę) (l:List Ę): vw P main o (Gr Y a vQ k l) (ft Y a) (G (dN P F q .normal)<|k::l) w:=by
 have:=(afS b hF t n e h y z).Ow (main:=main) r b (Y:=Y) (Gs:=Y) (s':=OA F s wX q) (fv.M _) B C ⟨U,?_,U,U,.pw⟩ ⟨λi I=> ?_,λx J=>by cases J⟩ D E H k l
 .rw[Xo q e h];exact this
 .show fW Y (d++_) (q++_);rw[p.r];exact p.tO<|Xg _
 .rw[ū.1 I];exact .rM (b F n s wX e h)
def yL:Â->Bool
 |Ľ _|Ć _ _|ħ _|Þ ë|bS ë _ _|bT|aW|ew ë|.map ë=>É
 |_=>Ã
def OB:Â->Bool
 |.agg a=>a.all yL
 |ſ a=>a.all yL
 |v=>yL v
def Gt(h:yL v=É):jY v:=by
 cases v with
 |bool b=>exact .mG b
 |int k n=>exact .iG k n
 |string s=>exact .kz s
 |pointer p=>cases p with
  |none=>exact .lW
  |some a=>cases h
 |slice p n c=>cases p with
  |none=>exact .oz n c
  |some a=>cases h
 |nilFunc=>exact .vl
 |nilIface=>exact .vm
 |chan p=>cases p with
  |none=>exact .vn
  |some a=>cases h
 |map p=>cases p with
  |none=>exact .vo
  |some a=>cases h
 |_=>cases h
def afU(h:OB v=É):jY v:=by
 cases v with
 |agg b=>exact .oQ λi a=>Gt<|(Ń.1 h) i a
 |tuple b=>exact .nU λi a=>Gt<|(Ń.1 h) i a
 |_=>exact Gt h
def xg(X:Nat->Bool):Ö->Bool
 |.tmp _=>É
 |ea v=>OB v
 |eB g=>X g
 |aO _=>É
theorem Ka{g:Nat->Bool}(h:xg g qQ=É):mH (λj=>g j=É) qQ:=by
 cases qQ with
 |tmp t=>exact .Xa t
 |const v=>exact .Xb (afU h)
 |global j=>exact .Xc h
 |func f=>exact .Xd f
def OC(P:Õ)(t:Á):Bool:=match P.underlying t with
 |some .bool=>É
 |some (Β _)=>É
 |some ę=>É
 |_=>Ã
def afV(h:OC P t=É):tP P t:=by
 unfold OC at h;split at h
 .rename_i e;exact Ç e
 .rename_i k e;exact Î<|Ç ⟨k,e⟩
 .rename_i e;exact Î<|Î e
 .cases h
def Kb:Ö->Bool
 |ea (Þ ë)=>É
 |_=>Ã
def Xp(h:Kb qQ=É):nt (y.eval qQ):=by
 unfold Kb at h;split at h
 .trivial
 .cases h
def OD(P:Õ)(t:Á)(x y:Ö):Bool:=OC P t||((match P.underlying t with|some (ð _)=>É|_=>Ã)&&(Kb x||Kb y))
theorem afW{a:bF}{y:Ö}(h:OD P t qQ y=É):tP P t\/((∃e,P.underlying t=À (ð e))/\(nt (a.eval qQ)\/nt (a.eval y))):=by
 unfold OD at h;rcases Ŝ.1 h with h|h
 .exact Ç<|afV h
 .let⟨b,e⟩:=Ü.1 h;refine Î ⟨?_,(Ŝ.1 e).imp Xp Xp⟩;grind
def OG(P:Õ)(s d:Á):Bool:=match P.underlying s,P.underlying d with
 |some (Β _),À (Β _)=>É
 |some ę,À ę=>É
 |_,_=>Ã
theorem afX(h:OG P e t=É):(∃k a,P.underlying e=À (Β k)/\P.underlying t=À (Β a))\/(P.underlying e=À ę/\P.underlying t=À ę):=by unfold OG at h;grind
def OH(P:Õ)(s:Á)(n:Nat):Bool:=match P.underlying s with
 |some (di fields)=>match fields[n]? with
  |some f=>match P.info? f.type with
   |some i=>i.size !=0
   |none=>Ã
  |none=>Ã
 |_=>Ã
def afY(h:OH P e n=É):∀a f i,P.underlying e=À (di a)->a[n]?=À f->P.info? f.type=À i->i.size≠0:=by intro a f i b c d;simp only[OH,b,c,d]at h;simpa using h
def OJ(P:Õ)(m:à->Bool)(f:à):Bool:=m f&&(match P.funcs[f]? with
 |some a=> !(a.name== "runtime.NumGoroutine")&&!a.body.isNone
 |none=>Ã)
theorem Xq{g:à->Bool}(h:OJ P g F=É):g F=É/\∃a,P.funcs[F]?=À a/\(a.name== "runtime.NumGoroutine")=Ã/\a.body.isNone=Ã:=by let⟨b,c⟩:=Ü.1 h;grind
def Xr(P:Õ):List Á->Bool
 |[_,t1]=>(match P.underlying t1 with|some (dj _)=>É|some ę=>É|_=>Ã)
 |_=>Ã
def Xs(P:Õ)(m:à->Bool)(b:Callee)(a:List Ö)(c:List Á):Bool:=match b with
 |ĝ .len=>a.length==1
 |ĝ .cap=>a.length==1
 |ĝ .copy=>a.length==2
 |ĝ .append=>a.length==2&&Xr P c
 |cj (aO f)=>OJ P m f
 |_=>Ã
def Dw(P:Õ)(m:à->Bool):Op->Bool
 |.move _|.assign _|.pick _ _ _|.alloc _|.box _ _|.build _ _|dG _ _ _|.load _ _|.store _ _ _|eF _|.unOp _ _ _|dX _ _ _|.slice _ _ _ _ _|.field _ _ _|dZ _ _ _|.index _ _ _|.extract _ _=>É
 |dW c t x y _=>if c==aA||c==aL then OD P t x y else É
 |aN s d _=>OG P s d
 |dY s _ n=>OH P s n
 |Ω c=>Xs P m c.callee c.args.toList c.argTypes.toList
 |_=>Ã
def Ke{a:Array Ö}(h:(a.toList.length==1)=É):∃x,a=#[x]:=by
 let⟨l⟩:=a;match l,h with
 |[x],_=>exact⟨x,U⟩
def OL{a:Array Ö}(h:(a.toList.length==2)=É):∃x y,a=#[x,y]:=by
 let⟨l⟩:=a;match l,h with
 |[x,y],_=>exact⟨x,y,U⟩
def afZ{g:à->Bool}{k:Op}(h:Dw P g k=É)(a:bF):km P a.eval k:=by
 cases k with
 |binOp o t x y r=>
  refine .Dq o t x y r λe=> ?_;have:(o==aA||o==aL)=É:=by rcases e with rfl|rfl<;>rfl
  simp only[Dw,if_pos this]at h;exact afW h
 |convert s d x=>exact .N5 _ _ _ (afX h)
 |fieldAddr s x n=>exact .N7 _ _ _ (afY h)
 |call c=>
  let⟨z,B,j⟩:=c;simp only[Dw]at h;unfold Xs at h;split at h
  .obtain⟨x,rfl⟩:=Ke h;exact .Gc x j
  .obtain⟨x,rfl⟩:=Ke h;exact .Gd x j
  .obtain⟨x,y,rfl⟩:=OL h;exact .Ge x y j
  .let⟨q,f⟩:=Ü.1 h;obtain⟨x,y,rfl⟩:=OL q;let⟨l⟩:=j;match l,f with
   |[t0,t1],f=>
    refine .tO x y t0 t1 ?_;simp only[Xr]at f;split at f
    .rename_i e m;exact Ç ⟨e,m⟩
    .rename_i m;exact Î m
    .cases f
  .exact .jO _ _ _ U (Xq h).2
  .cases h
 |move x=>exact .AP x
 |assign x=>exact .F9 x
 |pick c a b=>exact .wS c a b
 |alloc t=>exact .gL t
 |box t x=>exact .NY t x
 |build t p=>exact .NZ t p
 |buildSlice t n p=>exact .N0 t n p
 |load t a=>exact .gD t a
 |store t a x=>exact .jg t a x
 |nilCheck x=>exact .Gb x
 |unOp o t x=>exact .N4 o t x
 |makeSlice t l c=>exact .N6 t l c
 |slice t x u v w=>exact .kO t x u v w
 |field t x n=>exact .N8 t x n
 |indexAddr t x i=>exact .N9 t x i
 |index t x i=>exact .Oa t x i
 |extract x n=>exact .F0 x n
 |_=>simp[Dw]at h
def OM(P:Õ)(X:Nat->Bool)(m:à->Bool)(o:av):Bool:=Dw P m o.op&&o.op.operands.all (xg X)
def af0{X:Nat->Prop}{m:à->Prop}{o:av}(op:∀a:bF,km P a.eval o.op)(opd:∀x∈o.op.operands,mH X x)(calls:∀f args ts,o.op=Ω {callee:=cj<|aO f,args:=args,argTypes:=ts}->m f):mU P X m o where
 mV hz hb hG ht hW hl x u' hr hc:=(Wb hz hW.C hb (λf=>rfl) (op _) λx hx=>xd hG ht<|opd x hx).fX hW hl hr hc #[];r a:=afB<|op a;I a u n u' hr:=afL (op a) hr;C a u f c u' hr:=let⟨as,ts,e⟩:=afG (op a) hr;calls f as ts e
theorem af2{g:Nat->Bool}{k:à->Bool}(h:OM P g k o=É):mU P (λj=>g j=É) (λf=>k f=É) o:=by
 let⟨j,b⟩:=Ü.1 h;refine af0 (λa=>afZ j a) (λx a=>Ka ?_) λf a x e=> ?_
 .grind [ŉ]
 .rw[e]at j;exact(Xq<|show OJ P k f=É from j).1
end
section
variable{Y:fv}{g:à->Prop}{α:Type}
def Dx(m:(Ö->Â)->ē Â)(e:∀b,ì b o=m b>>=λv=>pure<|ï v) (i:∀(Y:fv) (b h:Ö->Â),nW P->Bi Y->Y.C=P.globals.size->(∀x∈o.op.operands,fp Y (b x)<|h x)->kP P fp Y (m b) (m h)) (j:∀b,fG P<|m b) (k:∀x∈o.op.operands,mH X x):mU P X g o where
 mV hz hb hG ht hW hl x u' hr hc:=by rw[e]at hr|-;exact(V5<|i _ _ _ hz hW.C hb λx d=>xd hG ht<|k x d).fX hW hl hr hc #[]
 r a:=by rw[e];exact lZ<|j _
 I a u n u' hr:=by
  rw[e,Ä]at hr;cases d:(m a.eval).run P u with
  |ok v w=>rw[d]at hr;cases hr;exact Ç ⟨v,U⟩
  |halt z w=>rw[d]at hr;cases hr
 C a u f c u' hr:=by
  rw[e,Ä]at hr;cases d:(m a.eval).run P u with
  |ok v w=>rw[d]at hr;cases hr
  |halt z w=>rw[d]at hr;cases hr
theorem af3(a:o.op=cJ t qQ)(b:∀y∈o.op.operands,mH X y):mU P X g o:=by
 refine Dx (λd=>ŝ t<|d qQ) (λd=> ?_) (λY d c _ _ _ h=> .gy ?_) (λd=> ?_) b
 .unfold ì;rw[a]
 .unfold ŝ;apply fH (jf t);rintro e d _ c ⟨rfl,_⟩;split
  .exact .fU
  .exact .fF (.yA t ((h qQ<|by rw[a];simp[Ê]).fT c))
 .unfold ŝ;grind [gI,jh,rJ,gw]
theorem af4(c:Sys):oS P (sys c):=by
 intro u hu;refine⟨λx u' e=> ?_,λz u' e=>by cases e⟩;have:u'.heap=u.heap:=by
  simp only[sys,ã]at e;cases e;unfold World.sys;have ask:∀{γ:Type} (b:Ask γ) (w:Æ),(w.ask b).2.heap=w.heap:=by
   intro γ b
   induction b with
   |done a=>intro w;rfl
   |ask what range k ih=>
    intro w;simp only[World.ask];split
    .exact ih 0 w
    .exact ih _ _
  grind
 exact⟨λh i c e he=>h i c e (by rwa[<-this]),λi o he ho=>⟨o,by rwa[this],ho⟩⟩
theorem Xt(x:Â):∀u y a,(ż x).run P u≠ĥ y a:=by
 unfold ż;cases x<;>simp only[]<;>first|exact NW|skip
 grind [F6,VS,rH]
def af5(x:Â):fG P (ż x):=by
 refine⟨?_,Od<|Xt x⟩;unfold ż;cases x<;>simp only[]<;>first|exact Gj U|skip
 refine JN ?_ λa=> ?_
 .unfold Instr.panicnil;refine JN (af4 _) λr=> ?_;cases r<;>first|exact Gj U|skip
  exact JN Wg λ_=>Wc _
 .split
  .exact Gj U
  .exact(wT _).1
def af6(b:o.op=.panic qQ)(c:∀y∈o.op.operands,mH X y):mU P X g o:=by refine Dx (λa=>ż<|a qQ) (λa=> ?_) (λY a d _ _ _ h=> .gy (.oR (Xt _))) (λa=>af5 _) c;unfold ì;rw[b]
def af7(c:fp Y x v)(d:fp Y z jQ):fJ P fp Y (Ĳ x z) (Ĳ v jQ):=by
 cases c<;>cases d<;>first|exact .fU|exact .fF (.iG _ _)|skip
 refine fH (V:=fp) (.fF (.mG _)) λf a g _ e=> ?_;apply fH (VQ e);rintro h b _ _ rfl;exact .fF (.kz _)
def af8(x y:Â):fG P (Ĳ x y):=by unfold Ĳ;repeat' (first|(with_reducible first|exact gI _|exact jh _|exact sR _|exact JU _|exact Ov _ _ _|refine gw ?_ (λ_=> ?_)|refine nu _ ?_)|split|rfl)
def af9:∀{l b:List Â} {Y:fv} {x c:Â},fp Y x c->fW Y l.toArray b.toArray->fJ P fp Y (l.foldlM Ĳ x) (b.foldlM Ĳ c):=by
 intro l
 induction l with
 |nil=>
  intro b Y x c d a;have:b=[]:=by have:=a.r;simp at this;exact Ā this.symm
  subst this;rw[ζ,ζ];exact .fF d
 |cons v l e=>
  intro b Y x c d a;match b,a with
  |[],a=>have:=a.r;simp at this
  |v'::b,a=>
   rw[Ζ,Ζ];refine fH (af7 d (by have:=a.C 0 fq fq;simpa using this)) ?_;intro k y m f g;refine e g ⟨by have:=a.r;simpa using this,λj h i=> ?_⟩;have:=a.C (j+1) (by simp at h|-;omega) (by simp at i|-;omega);exact(by simpa using this:fp Y _ _).fT f
theorem Xu:∀(l:List Â) (x:Â),fG P<|l.foldlM Ĳ x
 |[],x=>by rw[ζ];exact gI _
 |v::l,x=>by rw[Ζ];exact gw (af8 _ _) λy=>Xu l y
def aga(a:Array Á)(t:Á)(h:fW Y d q):fJ P fp Y (ń a t d) (ń a t q):=by
 let⟨l⟩:=d;let⟨b⟩:=q;unfold ń;match l,b,h with
 |[],_,_=>exact .fU
 |v::l,[],h=>have:=h.r;simp at this
 |v::l,v'::b,h=>
  refine af9 (by have:=h.C 0 fq fq;simpa using this) ⟨by have:=h.r;simpa using this,λj e f=> ?_⟩;have:=h.C (j+1) (by simp at e|-;omega) (by simp at f|-;omega);exact(by simpa using this:fp Y _ _)
theorem agb(a:Array Á)(t:Á)(c:Array Â):fG P (ń a t c):=by let⟨l⟩:=c;unfold ń;grind [jh,Xu]
def agc{b:Array Ö}{c:Array Á}(d:o.op=Ω {callee:=ĝ .min,args:=b,argTypes:=c})(e:∀y∈o.op.operands,mH X y):mU P X g o:=by refine Dx (λa=>ń c o.type<|b.map a) (λa=> ?_) (λY a i _ _ _ h=> .gy (aga _ _<|V9 b λz f=>h z<|by rw[d];simp[Ê,ô,f])) (λa=>agb _ _ _) e;unfold ì;rw[d];simp only[ù,č,Ē,pure_bind]
def agd{β:Type}{f g:Â->β->ē (ForInStep β)}(k:∀a v e b,Y.r a->fp a v e->fJ P jy a (f v b) (g e b)):∀{l d:List Â} {a:fv} (b:β),Y.r a->fW a l.toArray d.toArray->fJ P jy a (forIn l b f) (forIn d b g):=by
 intro l
 induction l with
 |nil=>
  intro d a b _ c;have:d=[]:=by have:=c.r;simp at this;exact Ā this.symm
  subst this;rw[φ,φ];exact .fF U
 |cons v l m=>
  intro d a b h c;match d,c with
  |[],c=>have:=c.r;simp at this
  |e::d,c=>
   rw[η,η];refine fH (k a v e b h (by have:=c.C 0 fq fq;simpa using this)) ?_;rintro p r _ i rfl;cases r with
   |done b=>exact .fF U
   |yield b=>
    apply m b (fv.I h i);refine⟨by have:=c.r;simpa using this,λj n o=> ?_⟩;have:=c.C (j+1) (by simp at n|-;omega) (by simp at o|-;omega);exact(by simpa using this:fp a _ _).fT i
theorem Xv{β:Type}{f:Â->β->ē (ForInStep β)}(a:∀v b,fG P<|f v b):∀(l:List Â) (b:β),fG P<|forIn l b f
 |[],b=>by rw[φ];exact gI _
 |v::l,b=>by
  rw[η];refine gw (a v b) λr=> ?_;cases r with
  |done b=>exact gI _
  |yield b=>exact Xv a l b
def agf(d:fp Y x v):fJ P fp Y (ü x) (ü v):=by
 cases d<;>first|exact .fU|exact .fF (.kz _)|skip
 rename_i h n c;unfold ü;apply fH (NQ h n);intro e j l m f;simp only[<-aE];refine fH (agd (Y:=e) ?_ _ (fv.M _) f) ?_
 .intro g a o b _ i;cases i<;>first|exact .fU|skip
  rename_i k n;cases k<;>first|exact .fU|exact .fF U
 .rintro g s _ _ rfl;exact .fF (.kz _)
theorem agh(x:Â):fG P (ü x):=by
 unfold ü;split
 .exact gI _
 .refine gw (Ol _ _) λa=> ?_;simp only[<-aE];grind [gw,Xv,gI,jh]
 .exact jh _
theorem agi(i:o.op=aN t T qQ)(k:P.underlying t=À (dj e))(l:P.underlying T=À ę)(m:P.underlying e=À (Β .u8))(n:∀y∈o.op.operands,mH X y):mU P X g o:=by
 refine Dx (λa=>Œ t T<|a qQ) (λa=> ?_) (λY a f _ _ _ h=> .gy ?_) (λa=> ?_) n
 .unfold ì;rw[i]
 .unfold Œ;refine fH (jf t) ?_;rintro z B _ p ⟨rfl,b⟩;rw[k]at b;injection b with b;subst b;refine fH (jf T) ?_;rintro q C _ r ⟨rfl,c⟩;rw[l]at c;injection c with c;subst c;have j:=((h qQ<|by rw[i];simp[Ê]).fT p).fT r;have u:fJ P fp q (ø e>>=λy=>match y with|Β .u8=>ü (a qQ)|Β .i32=>aF (a qQ)|_=>stuck "Convert: a slice of what to string?") (ø e>>=λy=>match y with|Β .u8=>ü (f qQ)|Β .i32=>aF (f qQ)|_=>stuck "Convert: a slice of what to string?"):=by
   apply fH (jf e);rintro D E _ w ⟨rfl,h⟩;rw[m]at h;injection h with h;subst h;exact agf<|j.fT w
  generalize a qQ=v at*;generalize f qQ=v' at*;cases j<;>first|exact u|exact .fU|exact .fF (.kz _)|skip
 .unfold Œ;grind [wU,agh,W7,gI]
end
section
variable{Y:fv}{b:à->Prop}{α:Type}
def Xw(i:∀(Y:fv) (a g:bF),nW P->Bi Y->Y.C=P.globals.size->(∀x∈o.op.operands,fp Y (a.eval x)<|g.eval x)->kP P py Y (ì a.eval o) (ì g.eval o)) (j:∀a:bF,fG P<|ì a.eval o) (h:∀(a:bF) (u:Æ) (n:Ο) (d:Æ),(ì a.eval o).run P u=ĥ n d->∃v,n=ï v) (k:∀x∈o.op.operands,mH X x):mU P X b o where
 mV hz hb hG ht hW hl x d hr hc:=(i _ ⟨_,[]⟩ ⟨_,[]⟩ hz hW.C hb λx e=>xd hG ht<|k x e).fX hW hl hr hc #[];r a:=j a;I a u n d hr:=Ç<|h a u n d hr;C a u f c d hr:=by let⟨v,e⟩:=h a u _ d hr;cases e
def agj{e:Array Â->ē Â}{k:Array Á}(g:o.op=Ω {callee:=cj<|aO F,args:=#[qQ],argTypes:=k})(l:P.funcs[F]?=À s)(m:(s.name== "runtime.NumGoroutine")=Ã)(q:s.body.isNone=É)(r:Extern.findNext s=ë)(t:Extern.find s=À e) (B:∀(Y:fv) (v i:Â),fp Y v i->fJ P fp Y (e #[v]) (e #[i])) (C:∀v,fG P<|e #[v]) (D:∀y∈o.op.operands,mH X y):mU P X b o:=by
 have c:∀a:bF,ì a.eval o=ĵ F #[a.eval qQ]:=by intro a;unfold ì;rw[g];simp only[ù,å,İ,č,pure_bind,Ď,ď,Ø,â,ä]
 have j:∀(v:Â) (u:Æ),(ĵ F #[v]).run P u=(mark (.extern F)>>=λ_=>e #[v]>>=λy=>pure (ï y):ē Ο).run P u:=by intro v u;unfold ĵ;simp_all
 refine Xw (λY a w _ _ _ h=> ?_) (λa=> ?_) (λa u n E d=> ?_) D
 .rw[c,c];unfold ĵ;refine .gy (fH rE ?_);rintro I p J w ⟨z,G⟩;rw[z,G];simp only[l,m,q,r,t,Å,if_false,if_true];apply fH (V:=jy) (.Dh (Î ⟨F,U⟩) (.fF U));exact λK _ _ H _=>mS<|B _ _ _<|((h qQ<|by rw[g];simp[Ê,ô]).fT w).fT H
 .rw[c];exact JP (j _)<|gw (Gk _) λ_=>lZ<|C _
 .rw[c,j,Ä]at d;simp only[mark,ã,È]at d;have:ã P (e #[a.eval qQ]>>=λy=>pure (ï y):ē Ο) u=ĥ n E:=d;rw[Ä]at this;cases h:(e #[a.eval qQ]).run P u with
  |ok v w=>rw[h]at this;cases this;exact⟨v,U⟩
  |halt z w=>rw[h]at this;cases this
def agk(x a:Â)(h:fp Y x a):fJ P fp Y (Ŀ #[x]) (Ŀ #[a]):=.fF h
def agl(x:Â):fG P (Ŀ #[x]):=gI _
def Xx:∀(n t:Nat) {c a:Array Â},fW Y c a->fW Y (ņ n t c) (ņ n t a)
 |0,_,_,_,h=>h
 |n+1,t,_,_,h=>Xx n (t/256)<|h.VG<|.iG _ _
def agm(b:Array Á)(t:Á)(v c:Â)(h:fp Y v c):fJ P fp Y (Ċ b #[t] #[v]) (Ċ b #[t] #[c]):=by
 cases h<;>first|exact .fU|skip
 rename_i k n;cases k<;>first|exact .fU|skip
 refine fH (jf t) ?_;rintro j d _ l ⟨rfl,_⟩;cases d<;>first|exact .fU|skip
 rename_i e _;simp only[];split
 .exact .oR (wN<|rH _)
 .apply sN (.AJ λn=> .fF U);intro m f _;apply sN (NV _);intro o _ _;apply sN (.AJ λn=> .fF U);intro p g _;apply fH (AN e<|Xx f g<|fW.N _);exact λq a r _ i=> .fF (.kO i _ _)
def agn(a:Array Á)(t:Á)(v:Â):fG P (Ċ a #[t] #[v]):=by
 cases v<;>first|exact jh _|skip
 rename_i k n;cases k<;>first|exact jh _|skip
 refine gw (rJ t) λd=> ?_;cases d<;>first|exact jh _|skip
 repeat' (first|(with_reducible first|exact gI _|exact jh _|exact sR _|exact Gm _ _|exact rJ _|exact wT _|exact Om _|refine gw ?_ λ_=> ?_)|split)
def agp(f:Array Á)(t:Á)(j:fp Y x v):kP P fp Y (ė f t #[x]) (ė f t #[v]):=by
 cases j<;>first|exact .gy .fU|exact .gy (.fF .lW)|skip
 rename_i a g h n c;change kP P fp Y (ite _ _ _) (ite _ _ _);by_cases i:c≠0
 .simp only[if_pos i];exact .gy (.fF (.jW h))
 .simp only[if_neg i];apply lk (JH h.1);rintro l b m o ⟨rfl,rfl⟩;simp only[Option.isSome_none,Å,if_false];refine lk (V0:=λ_ a g=>a=g) ?_ ?_
  .unfold Ū;refine fH (jf t) ?_;rintro k d _ p ⟨rfl,_⟩;cases d<;>first|exact .fU|exact .fF U
  .rintro k e _ _ rfl;exact .Dl trivial
def agq(b:Array Á)(t:Á)(x:Â):fG P (ė b t #[x]):=by
 cases x<;>first|exact jh _|skip
 rename_i p n c;cases p with
 |none=>exact gI _
 |some a=>
  change fG P (ite _ _ _);repeat' (first|(with_reducible first|exact gI _|exact jh _|exact JQ _|exact JV _|refine gw ?_ (λ_=> ?_)|refine JO _ ?_)|split|(intro _ _ h;cases h;done))
def agr{c:Array Á}(d:o.op=Ω {callee:=ĝ bl,args:=#[qQ],argTypes:=c})(e:∀y∈o.op.operands,mH X y):mU P X b o:=by refine Dx (λa=>ė c o.type #[a qQ]) (λa=> ?_) (λY a f _ _ _ h=>agp _ _<|h qQ<|by rw[d];simp[Ê,ô]) (λa=>agq _ _ _) e;unfold ì;rw[d];simp only[ù,č,Ē,pure_bind,Ø,â,ä]
end
section
variable{Y:fv}{f:Nat->Prop}{g:à->Prop}{α:Type}
def Xy(h:ie Y a p):fJ P ie Y (Ž a) (Ž p):=by unfold Ž;apply fH (JH h.1);rintro c x d b ⟨rfl,rfl⟩;exact .fF (h.r b)
def agt{r:Nat}(h:Y r i):fJ P (λ_ c q=>∃n a,c=À n/\q=À a/\n<=a) Y (dy r) (dy i):=.vp h λ_ n a c=> .fF ⟨n,a,U,U,c.elim (λq=>by omega) λq=>q.1⟩
def Xz(h:ie Y a p)(t:Á)(n:Nat):fJ P (λ_ b e=>b=É->e=É) Y (Ą a t n) (Ą p t n):=by unfold Ą;apply fH rE;rintro i b j c ⟨d,f⟩;rw[d,f];refine .vp (c.1 _ _ h.1) λe m k g=> ?_;rw[h.2.1];exact .fF λq=>VZ (ο<|g.elim (λq=>by omega) λq=>q.1) q
def agu(a:Ú):fG P (Ž a):=by unfold Ž;repeat' (first|(with_reducible first|exact gI _|exact qM|exact tR _|exact JV _|refine gw ?_ (λ_=> ?_)|refine nu _ ?_)|split|rfl)
theorem agv(r:Nat):fG P (dy r):=by unfold dy;grind [gI,tR,Wm,gw]
theorem XA(a:Ú)(t:Á)(n:Nat):fG P (Ą a t n):=by unfold Ą;grind [gI,qM,tR,gw]
theorem agw(l:P.underlying e=À (ð t))(m:P.underlying T=À đ)(o:fp Y x v):kP P fp Y (ö e T x) (ö e T v):=by
 unfold ö;refine lk (jf e) ?_;rintro z B _ p ⟨rfl,f⟩;rw[l]at f;injection f with f;subst f;refine lk (jf T) ?_;rintro C D _ q ⟨rfl,g⟩;rw[m]at g;injection g with g;subst g;have r:=(o.fT p).fT q;cases r<;>first|exact .gy .fU|exact .gy (.fF .lW)|skip
 rename_i a E h;refine lk (Xy h) ?_;intro F b j G i;refine lk (agt i.1) ?_;rintro H c I u ⟨w,J,rfl,rfl,K⟩;refine lk (np t) ?_;rintro L n _ y ⟨rfl,_⟩;rw[i.2.1,i.2.2];simp only[];by_cases k:(decide (n=0)||(decide (j.off≥w)&&j.spot.isNone))=É
 .rw[if_pos k];exact .Dl trivial
 .rw[if_neg k,if_neg]
  .exact .gy (.fF (.jW ((i.r u).r y)))
  .grind
theorem agx{d:Á}(l:P.underlying T=À đ)(o:P.underlying d=À (ð t))(q:fp Y x z):kP P fp Y (ö T d x) (ö T d z):=by
 unfold ö;refine lk (jf T) ?_;rintro F G _ r ⟨rfl,f⟩;rw[l]at f;injection f with f;subst f;refine lk (jf d) ?_;rintro H I _ w ⟨rfl,g⟩;rw[o]at g;injection g with g;subst g;have y:=(q.fT r).fT w;cases y<;>first|exact .gy .fU|exact .gy (.fF .lW)|skip
 rename_i a J h;refine lk (Xy h) ?_;intro K b B L i;refine lk (np t) ?_;rintro M n _ j ⟨rfl,_⟩;refine lk (Xz (i.r j) t 1) ?_;rintro C v N D O;have Q:kP P fp C (pure<|Þ<|À b) (pure<|Þ<|À B):=.gy (.fF (.jW ((i.r j).r D)));by_cases E:(decide (n=0)||v)=É
 .grind
 .rw[if_neg E];refine .Dm λu x S c=> ?_;rw[Ä]at c;simp only[cw,ã,È]at c;cases k:u.shape? b.block with
  |none=>rw[k]at c;cases c
  |some p=>
   let⟨e,m⟩:=p;rw[k]at c;simp only[Ä,ă,È]at c;split at c
   .cases c
   .cases c;exact⟨u.heap.size,.view b t,ß _,fq,trivial⟩
theorem agy(h:(P.underlying e=À (ð t)/\P.underlying T=À đ)\/(P.underlying e=À đ/\P.underlying T=À (ð t)))(x:Â):fG P (ö e T x):=by
 unfold ö;rcases h with⟨b,c⟩|⟨b,c⟩<;>refine wU b<|wU c ?_;all_goals
  cases x<;>first|exact jh _|skip
  rename_i p;cases p with
  |none=>exact gI _
  |some a=>
   repeat' (first|(with_reducible first|exact agu _|exact agv _|exact XA _ _ _|exact gI _|exact jh _|exact qM|exact tR _|exact tT _|refine gw ?_ (λ_=> ?_)|refine nu _ ?_|refine JO _ ?_)|split|(intro _ _ h;cases h;done)|rfl)
theorem XB(b:o.op=aN e T qQ)(h:(P.underlying e=À (ð t)/\P.underlying T=À đ)\/(P.underlying e=À đ/\P.underlying T=À (ð t)))(c:∀y∈o.op.operands,mH X y):mU P X g o:=by
 refine Dx (λa=>Œ e T<|a qQ) (λa=> ?_) (λY a i _ _ _ f=> ?_) (λa=> ?_) c
 .unfold ì;rw[b]
 .unfold Œ;apply lk (jf e);rintro j k _ a ⟨rfl,l⟩;apply lk (jf T);rintro m n _ i ⟨rfl,p⟩;have q:=((f qQ<|by rw[b];simp[Ê]).fT a).fT i;grind [agw,agx]
 .unfold Œ;grind [agy,wU]
theorem agz(a:Ú)(n:Nat):oS P (eZ a n):=by
 intro u f;refine⟨λx b e=> ?_,λz b e=>by cases e⟩;cases e;unfold Ė;split
 .exact Kd.gd u
 .refine Wh (λo d=> ?_) λo c e h=> ?_
  .cases o<;>first|exact d.elim|trivial
  .grind
def agA(a:Ú)(n:Nat):fG P (eZ a n):=by
 refine⟨agz a n,λu T D=>⟨0,u.freeze a n,λx b e=> ?_⟩⟩;have c:∀T D,(World.tp u T D).freeze a n=World.tp (u.freeze a n) T D:=by intro T D;unfold Ė;split<;>rfl
 simp_all
def XC:∀(n:Nat) {Y:fv} {a c:Ú} (d:ByteArray),ie Y a c->fJ P jy Y (ĕ a d n) (ĕ c d n)
 |0,_,_,_,_,_=> .fF U
 |n+1,Y,a,c,d,h=>by
  unfold ĕ;refine fH (JC h) ?_;intro g v i e f;cases f<;>first|exact .fU|skip
  rename_i k b;cases k<;>first|exact .fU|exact XC n _<|(h.r e).C 1
def XD:∀(n:Nat) (a:Ú) (b:ByteArray),fG P<|ĕ a b n
 |0,_,_=>gI _
 |n+1,a,b=>by
  unfold ĕ;refine gw (Gl _ _) λv=> ?_;split
  .exact XD n _ _
  .exact jh _
def jK(pt:Á)(a:Ú)(n:Nat):ē ByteArray:=do
 if<-Ą a (<-Ū pt) n then ĕ a .empty n else unsupported (ť "String: not so many bytes at ptr")
def agB(pt:Á)(h:ie Y a p)(n:Nat):fJ P jy Y (jK pt a n) (jK pt p n):=by
 unfold jK;refine fH (V:=jy) ?_ ?_
 .unfold Ū;refine fH (jf pt) ?_;rintro f d _ c ⟨rfl,_⟩;cases d<;>first|exact .fU|exact .fF U
 .rintro i e _ d rfl;apply fH (Xz (h.r d) e n);rintro f b j c g;cases b with
  |true=>rw[g U];exact XC n _<|(h.r d).r c
  |false=>exact .fU
def agC[AG P](F:jk Y f u w)(h:ie Y a p){pt:Á}(G:∀u l j,(Ū pt).run P u=ĥ l j->∃k,P.underlying l=À (Β k))(g:(jK pt a<|n+1).run P u=ĥ B W):¬f p.block:=by
 intro H;let⟨c,L,e,M,N,r,O,Q,t,_⟩:=F.r _ _ h.1;let⟨_,_,_,_,o⟩:=t H;unfold jK at g;rw[Ä]at g;cases i:(Ū pt).run P u with
 |halt z x=>rw[i]at g;cases g
 |ok l j=>
  have I:j=u:=by
   unfold Ū at i;rw[Ä]at i;unfold ø at i;rw[Ä,ă]at i;simp only[È]at i;cases D:P.underlying pt with
   |none=>rw[D]at i;cases i
   |some d=>
    rw[D]at i;cases d<;>cases i<;>rfl
  subst I;rw[i]at g;simp only[È]at g;rw[Ä]at g;have y:∃b,(Ą a l<|n+1).run P j=ĥ b j:=by unfold Ą;rw[Ä,ă];simp only[È];rw[Ä];simp only[cw,ã,È];split<;>exact⟨_,U⟩
  rcases o with o|o;rotate_left
  .let⟨k,J⟩:=G _ _ _ i;have K:(Ą a l<|n+1).run P j=ĥ Ã j:=by
    unfold Ą;rw[Ä,ă];simp only[È];rw[Ä];simp only[cw,ã,È];have t:j.shape? a.block=À (e,c.size):=by simp[Θ,r]
    rw[t];simp only[Nat.div_eq_of_lt<|AG.lt e c.size o,aev J];rfl
   rw[K]at g;cases g
  let⟨b,y⟩:=y;rw[y]at g;simp only[È]at g;split at g
  .unfold ĕ at g;rw[Ä]at g;simp only[aX,ã]at g;cases C:j.cell? a with
   |none=>
    rw[C]at g;simp only[ŋ,r]at g;cases g
   |some v=>
    rw[C]at g;simp only[È]at g;have q:=C;rw[AL r]at q;cases E:a.spot with
    |some x=>rw[E]at q;cases q
    |none=>
     rw[E]at q;have:=o _ _ (by simpa using q);cases v<;>first|(cases g;done)|skip
     rename_i k m;cases k<;>first|(cases g;done)|cases this
  .cases g
end
section
variable{Y:fv}{d:Nat->Prop}{f:à->Prop}{α:Type}
def yM(a:Á)(p:Option Ú)(n:Int):ē Â:=ê #[a] a #[Þ p,Ć Ŋ n]
def yN(pt a t:Á)(p:Option Ú)(k:ú)(n:Int):ê #[pt,a] t #[Þ p,Ć k n]=yM pt p n:=by cases p<;>rfl
section
variable{pt:Á}{p:Option Ú}
def XF(a:h<0):∃c,∃k:PUnit->ē Â,yM pt p h=(runtimePanic c>>=k):=⟨_,_,if_pos a⟩
def XG(a:¬h<0)(b:h>Ŋ.max):∃c,yM pt p h=unsupported (ť c):=⟨_,(if_neg a).trans<|if_pos b⟩
def ON(a:¬h<0)(b:¬h>Ŋ.max)(c:h=0):yM pt p h=pure (ħ .empty):=by cases p<;>exact(if_neg a).trans<|(if_neg b).trans<|if_pos c
def agD(a:¬h<0)(b:¬h>Ŋ.max)(d:¬h=0):∃c,yM pt ë h=runtimePanic c:=⟨_,(if_neg a).trans<|(if_neg b).trans<|if_neg d⟩
end
def XH(pt:Á)(a:Ú)(c:¬h<0)(d:¬h>Ŋ.max)(e:¬h=0): yM pt (À a) h=(jK pt a h.toNat>>=λs=>eZ a h.toNat>>=λ_=>pure<|ħ s):=by refine((if_neg c).trans<|(if_neg d).trans<|if_neg e).trans ?_;unfold jK;show _=ç (ç _ _) _;rw[ř];congr 1;funext et;show ç _ _=ç (ç _ _) _;rw[ř];congr 1;funext b;cases b<;>rfl
def agE(pt:Á)(p:Option Ú)(n:Int):fG P (yM pt p n):=by cases p<;>show fG P (if n<0 then _ else _)<;>repeat' (first|(with_reducible first|exact XA _ _ _|exact XD _ _ _|exact agA _ _|exact gI _|exact JQ _|exact wT _|refine gw ?_ (λ_=> ?_)|refine nu _ ?_)|split|rfl)
theorem agF(_hW:jk Y d u w):∀(n:Nat) {a i:Ú} {j s:ByteArray},ie Y a i->a.spot=ë->(ĕ a j n).run P u=ĥ s W->∀c e f,u.heap[a.block]?=À (Č c e f)->a.off<=c.size->a.off+n<=c.size:=by
 intro n
 induction n with
 |zero=>intro a i j s _ _ _ c e f _ r;exact r
 |succ n t=>
  intro a i j s h p b c e f l _;unfold ĕ at b;rw[Ä]at b;simp only[aX,ã]at b;cases o:u.cell? a with
  |none=>
   rw[o]at b;simp only[ŋ,l]at b;cases b
  |some v=>
   rw[o]at b;simp only[È]at b;have q:=o;rw[AL l,p]at q;have y:=(Ë.1<|by simpa using q).1;cases v<;>first|(cases b;done)|skip
   rename_i k m;cases k<;>first|(cases b;done)|skip
   have g:a.add 1={a with off:=a.off+1}:=by unfold Addr.add;grind
   have x:=h.C 1;have:=t x (by rwa[g]) b c e f (by rwa[g]) (by rw[g];simp only;omega);rw[g]at this;simp only at this;omega
end
section
variable{Y:fv}{g:Nat->Prop}{r:à->Prop}{α:Type}
def OO(pt a t:Á)(p:Option Ú)(y:Â):ê #[pt,a] t #[Þ p,y]=(dE y>>=λn=>yM pt p n):=by cases p<;>rfl
def XJ:∀(n:Nat) {a:Ú} {f s:ByteArray} {u c:Æ},(ĕ a f n).run P u=ĥ s c->c=u
 |0,_,_,_,_,_,h=>by cases h;rfl
 |n+1,a,f,s,u,c,h=>by
  unfold ĕ at h;rw[Ä]at h;have g:∀v b,(aX a).run P u=ĥ v b->b=u:=by
   intro v b e;simp only[aX,ã]at e;split at e
   .cases e;rfl
   .split at e<;>cases e;rfl
  cases d:(aX a).run P u with
  |halt z w=>rw[d]at h;cases h
  |ok v b=>
   have:=g v b d;subst this;rw[d]at h;simp only[È]at h;cases v<;>first|(cases h;done)|skip
   rename_i k m;cases k<;>first|(cases h;done)|exact XJ n h
def agG{pt:Á}(c:(jK pt a n).run P u=ĥ B w):w=u/\(ĕ a .empty n).run P u=ĥ B u:=by
 unfold jK at c;rw[Ä]at c;cases e:(Ū pt).run P u with
 |halt z x=>rw[e]at c;cases c
 |ok z x=>
  have f:x=u:=by
   unfold Ū at e;rw[Ä]at e;unfold ø at e;rw[Ä,ă]at e;simp only[È]at e;cases b:P.underlying pt with
   |none=>rw[b]at e;cases e
   |some d=>
    rw[b]at e;cases d<;>cases e<;>rfl
  subst f;rw[e]at c;simp only[È]at c;rw[Ä]at c;have d:∃b,(Ą a z n).run P x=ĥ b x:=by unfold Ą;rw[Ä,ă];simp only[È];rw[Ä];simp only[cw,ã,È];split<;>exact⟨_,U⟩
  let⟨b,d⟩:=d;rw[d]at c;simp only[È]at c;split at c
  .have:=XJ n c;subst this;exact⟨U,c⟩
  .cases c
def Kf(P:Õ)(t:Á):Bool:=match P.underlying t with
 |some (ð e)=>(match P.underlying e with|some (Β _)=>É|_=>Ã)
 |_=>Ã
theorem agH{P:Õ}{pt:Á}(h:Kf P pt=É):∀u b c,(Ū pt).run P u=ĥ b c->∃k,P.underlying b=À (Β k):=by
 intro u b c a;unfold Ū ø at a;rw[Ä,Ä,ă]at a;simp only[È]at a;unfold Kf at h;split at h
 .rename_i e d;rw[d]at a;cases a;grind
 .cases h
def agI[AG P]{y:Ö}{pt:Á}(W:o.op=Ω {callee:=ĝ cX,args:=#[qQ,y],argTypes:=#[pt,T]})(hpt:Kf P pt=É)(XK:∀z∈o.op.operands,mH X z):mU P X r o:=by
 have he:∀M:Ö->Â,ì M o=(ê #[pt,T] o.type #[M qQ,M y]>>=λv=>pure<|ï v):=by intro M;unfold ì;rw[W];simp only[ù,č,Ē,pure_bind,Ø,â,ä]
 have N:∀v w:Â,fG P (ê #[pt,T] o.type #[v,w]):=by
  intro v w;cases v<;>first|exact jh _|skip
  rw[OO];exact gw (Gn _) λn=>agE _ _ _
 have hk:∀(a:bF) (u:Æ) (n:Ο) (C:Æ),(ì a.eval o).run P u=ĥ n C->∃v,n=ï v:=by
  intro a u n C b;rw[he,Ä]at b;cases O:(ê #[pt,T] o.type #[a.eval qQ,a.eval y]).run P u with
  |ok v w=>rw[O]at b;cases b;exact⟨v,U⟩
  |halt z w=>rw[O]at b;cases b
 refine⟨?_,λa=>by rw[he];exact lZ<|N _ _,λa u n C b=>Ç<|hk a u n C b,λa u f c C b=>by let⟨v,e⟩:=hk a u _ C b;cases e⟩;intro Y g t t' u w hz hb hG ht J hl z C b hc;have hx:=xd hG ht (XK qQ<|by rw[W];simp[Ê,ô]);have Q:=xd hG ht (XK y<|by rw[W];simp[Ê,ô]);rw[he]at b|-;generalize å ⟨t,[]⟩ qQ=v at hx b;generalize å ⟨t',[]⟩ qQ=v' at hx|-;generalize å ⟨t,[]⟩ y=l at Q b;generalize å ⟨t',[]⟩ y=l' at Q|-;have E:fJ P fp Y (ê #[pt,T] o.type #[v,l]) (ê #[pt,T] o.type #[v',l'])->∃(K:fv) (x':Ο) (w':Æ) (S:Array ý),Y.r K/\(∀i j,K i j->Y i j\/(u.heap.size<=i/\w.heap.size<=j))/\(ê #[pt,T] o.type #[v',l']>>=λv=>pure (ï v):ē Ο).runT P w #[]=(ĥ x' w',#[]++S)/\py K z x'/\jk K g C w'/\nV Y g w w'/\(∀e∈S,AK K g e)/\u.heap.size<=C.heap.size:= λh=>(mS h).fX J hl b #[];cases hx with
 |lW=>
  apply E;rw[OO,OO];apply fH (NT Q);rintro XL n _ _ rfl;by_cases B:n<0
  .let⟨c,k,q⟩:=XF (pt:=pt) (p:=ë) B;rw[q];exact .oR (wN<|rH _)
  .by_cases d:n>Ŋ.max
   .let⟨c,q⟩:=XG (pt:=pt) (p:=ë) B d;rw[q];exact .fU
   .by_cases D:n=0
    .rw[ON B d D];exact .fF (.kz _)
    .let⟨c,q⟩:=agD (pt:=pt) B d D;rw[q];apply JG
 |jW F=>
  rename_i a a';cases Q with
  |iG k n=>
   by_cases B:n<0
   .apply E;let⟨c,k,q⟩:=XF (pt:=pt) (p:=À a) B;rw[yN,yN,q];exact .oR (wN<|rH _)
   .by_cases d:n>Ŋ.max
    .apply E;let⟨c,q⟩:=XG (pt:=pt) (p:=À a) B d;rw[yN,yN,q];exact .fU
    .by_cases D:n=0
     .apply E;rw[yN,yN,ON B d D,ON B d D];exact .fF (.kz _)
     .rw[yN,XH pt a B d D]at b;rw[yN,XH pt a' B d D];obtain⟨m,O⟩:∃m,n.toNat=m+1:=⟨n.toNat-1,Z⟩;rw[O]at b|-;cases L:(jK pt a<|m+1).run P u with
      |halt z w=>
       rw[Ä,Ä,L]at b;cases b
      |ok s u1=>
       obtain⟨rfl,XM⟩:=agG L;rw[Ä,Ä,L]at b;have AW:=b;cases AW;let⟨XL,s',w1,es,k1,k2,k3,k4,k5,G,k7,k8⟩:=(agB pt F<|m+1).fX J hl L #[];have S:=k4;subst S;let⟨c,c',e,fr,wO,V,hw,sU,_⟩:=J.r _ _ F.1;have XO:a.spot=ë/\a.off<c.size:=by
        have H:=XM;unfold ĕ at H;rw[Ä]at H;simp only[aX,ã]at H;cases I:u1.cell? a with
        |none=>
         rw[I]at H;simp only[ŋ,V]at H;cases H
        |some v=>
         rw[AL V]at I;cases oV:a.spot with
         |some qQ=>rw[oV]at I;cases I
         |none=>rw[oV]at I;exact⟨U,(Ë.1<|by simpa using I).1⟩
       have fits:∀c e fr,u1.heap[a.block]?=À (Č c e fr)->a.off+(m+1)<=c.size:=by intro c2 e2 qN d;rw[V]at d;injection d with d;injection d with q1 q2 q3;subst q1;exact agF J (m+1) F XO.1 XM c e fr V<|Nat.le_of_lt XO.2
       refine⟨XL,ï<|ħ s,w1.freeze a'<|m+1,es,k1,k2,?_,.nX (.kz s),k5.adP (F.r k1) (m+1) fits,?_,k7,by rw[JA];exact ß _⟩
       .show é P (ç (ç _ _) _) w #[]=_;rw[Ñ,Ñ,k3];rfl
       .refine⟨by rw[JA];exact G.r,adL.trans G.I,adM.trans G.M,NN.trans G.S,λj hj N=> ?_,λj hs hj=> ?_⟩
        .rw[JB (λe=>N a.block<|by rw[<-e];exact F.1)];exact G.C j hj N
        .rw[JB (λe=>(agC J F (agH hpt) L)<|by rwa[e])];exact G.N j hs hj
  |_=>exact E .fU
 |_=>exact E .fU
end
section
variable{Y:fv}{g:Nat->Prop}{i:à->Prop}{α:Type}
theorem agJ(a:Ú):fG P (bm a):=by unfold bm;grind [gI,tR,Oi,gw]
theorem agK(a b:Ú):fG P (cK a b):=by unfold cK;grind [agJ,gI,tR,gw]
def agL(a b:Ú):fG P (Ŭ a b):=by unfold Ŭ;repeat' (first|(with_reducible first|exact agK _ _|exact gI _|exact sR _|exact Oi _|exact WC _|refine gw ?_ (λ_=> ?_)|refine nu _ ?_)|split|rfl)
def XP(h:P.underlying t=À (ð e))(x y:Â):fG P (ó t x y):=by unfold ó ā Λ;refine wU h ?_;repeat' (first|(with_reducible first|exact agL _ _|exact gI _|exact jh _|exact sR _|exact tT _|refine gw ?_ λ_=> ?_)|contradiction|split)
def agM{a:ġ}(b:a=aA\/a=aL)(h:P.underlying t=À (ð e))(x y:Â):fG P (Ũ a t x y):=by
 have c:=XP h x y;rcases b with rfl|rfl;all_goals
  unfold Ũ;repeat' (first|(with_reducible first|exact XP h _ _|exact gI _|exact jh _|exact Oo _ _ _ _|exact WZ _ _ _ _ _ _|exact W0 _ _ _|exact Ov _ _ _|refine gw ?_ λ_=> ?_)|contradiction|split)
def yO(u:Æ)(r:Nat):Prop:=∃c e a,u.heap[r]?=À (Č c e a)/\a.2<=c.size
def Kg(a:Ú)(u:Æ)(b:Array ý):(eS a).runT P u b=(ĥ (u.frozen? a) u,b):=rfl
def Kh{r:Nat}(h:u.heap[r]?=À (Č d e xJ))(a:Array ý):(cw r).runT P u a=(ĥ (À (e,d.size)) u,a):=by simp only[cw,é,Θ,h]
def XQ(h:yO u a.block)(b:Array ý):(bm a).runT P u b=(ĥ (u.frozen? a) u,b):=by
 let⟨c,e,f,d,g⟩:=h;unfold bm;show é P (ç _ _) u b=_;rw[Ñ,Kg];cases i:u.frozen? a with
 |true=>rfl
 |false=>
  simp only[Å,if_false];show é P (ç _ _) u b=_;rw[Ñ,Kh d];simp only[];rw[Kg];have:u.frozen? {block:=a.block,off:=c.size}=Ã:=by simp only[Ĉ,d];simp;omega
  rw[this]
def XR(f:u.heap[a.block]?=À (Č d e xJ))(g:xJ.2<=d.size)(b:u.frozen? a=É):d.size≠0:=by simp only[Ĉ,f]at b;simp at b;omega
def agN(i:yO u a.block)(j:yO u p.block)(k:(u.frozen? a&&u.frozen? p)=Ã)(g:Array ý):(cK a p).runT P u g=(ĥ Ã u,g):=by
 have q:=i;have r:=j;let⟨c,e,w,l,s⟩:=q;let⟨d,f,x,m,t⟩:=r;unfold cK;show é P (ç _ _) u g=_;rw[Ñ,XQ i];simp only[];show é P (ç _ _) u g=_;rw[Ñ,XQ j];simp only[];show é P (ç (ç _ _) _) u g=_;rw[Ñ,Ñ,Kh l];simp only[];show é P (ç (ç _ _) _) u g=_;rw[Ñ,Ñ,Kh m];simp only[];congr 2;cases o:u.frozen? a with
 |true=>
  rw[o]at k;have h:u.frozen? p=Ã:=by simpa using k
  have:=XR l s o;simp only[h];cases v:c.size with
  |zero=>exact absurd v this
  |succ n=>rfl
 |false=>
  cases h:u.frozen? p with
  |true=>
   have:=XR m t h;cases v:d.size with
   |zero=>exact absurd v this
   |succ n=>rfl
  |false=>rfl
def XS(h:yO u a.block)(b:Array ý):(aY a).runT P u b=(ĥ () u,b):=by let⟨c,e,f,d,g⟩:=h;unfold aY dm;show é P (ç (ç _ _) _) u b=_;rw[Ñ,Ñ,Kh d];rfl
def XT(e:yO u a.block)(f:yO u p.block)(c:Array ý):(Ŭ a p).runT P u c= if(a.block==p.block)=É then(ĥ (a==p) u,c)else if(u.frozen? a&&u.frozen? p)=É then(bV (ŀ .addressObserved) u,c)else(ĥ Ã u,c):=by
 unfold Ŭ;by_cases h:(a.block==p.block)=É
 .simp_all
 .rw[if_neg h,if_neg h];show é P (ç _ _) u c=_;rw[Ñ,Kg];simp only[];show é P (ç _ _) u c=_;rw[Ñ,Kg];simp only[];by_cases d:(u.frozen? a&&u.frozen? p)=É
  .simp_all
  .rw[if_neg d,if_neg d];show é P (ç _ _) u c=_;rw[Ñ,XS e];simp only[];show é P (ç _ _) u c=_;rw[Ñ,XS f];simp only[];show é P (ç _ _) u c=_;rw[Ñ,agN e f (by simpa using d)];rfl
end
section
variable{Y:fv}{g:Nat->Prop}{j:à->Prop}
def agO{d:dJ}(h:P.underlying t=À d)(u:Æ)(a:Array ý):(ø t).runT P u a=(ĥ d u,a):=by unfold ø;simp_all
theorem agP(h:P.info? t=À zJ)(u:Æ)(a:Array ý):(ay t).runT P u a=(ĥ zJ.size u,a):=by
 unfold ay;show é P (ç _ _) u a=_;rw[Ñ];have:(Δ t).runT P u a=(ĥ zJ u,a):=by unfold Δ;simp_all
 rw[this];rfl
theorem XU(h:P.underlying t=À (ð e))(d:P.info? e=À zJ)(f:zJ.size≠0)(a b:Ú)(u:Æ)(c:Array ý):(ó t (Þ<|À a)<|Þ<|À b).runT P u c=(Ŭ a b).runT P u c:=by unfold ó ā Λ;show é P (ç _ _) u c=_;rw[Ñ,agO h];simp only[];show é P (ç _ _) u c=_;grind [Ñ,agP]
def iB(a:ġ)(r:Bool):Bool:=if a=aA then r else !r
def XV{d:ġ}(k:d=aA\/d=aL)(h:P.underlying t=À (ð e))(g:P.info? e=À zJ)(j:zJ.size≠0)(x y:Ö)(a b:Ú)(u:Æ)(c:Array ý): ((ŷ d t x y (Þ<|À a) (Þ<|À b)>>=λ_=>Ũ d t (Þ<|À a)<|Þ<|À b)>>=λv=>pure (ï v):ē Ο).runT P u c= match(Ŭ a b).runT P u c with
 |(ĥ r u',f)=>(ĥ (ï<|Ľ<|iB d r) u',f)
 |(bV z u',f)=>(bV z u',f):=by
 rcases k with rfl|rfl
 .show é P (ç (ç (ó t (Þ<|À a)<|Þ<|À b) λr=>aI<|Ľ r) λv=>aI<|ï v) u c=_;rw[Ñ,Ñ,XU h g j];cases(Ŭ a b).runT P u c with
  |mk r f=>cases r<;>rfl
 .show é P (ç (ç (ó t (Þ<|À a)<|Þ<|À b) λr=>aI<|Ľ !r) λv=>aI<|ï v) u c=_;rw[Ñ,Ñ,XU h g j];cases(Ŭ a b).runT P u c with
  |mk r f=>cases r<;>rfl
theorem agQ{m:ġ}{r:Á}{y:Ö}(E:o.op=dW m t qQ y r)(H:m=aA\/m=aL)(h:P.underlying t=À (ð e))(T:P.info? e=À zJ)(V:zJ.size≠0)(I:∀z∈o.op.operands,mH X z):mU P X j o:=by
 have J:∀B:Ö->Â,ì B o=((ŷ m t qQ y (B qQ) (B y)>>=λ_=>Ũ m t (B qQ)<|B y)>>=λv=>pure<|ï v):=by intro B;unfold ì;rw[E]
 have W:∀(a:bF) (u:Æ) (n:Ο) (s:Æ),(ì a.eval o).run P u=ĥ n s->∃v,n=ï v:=by
  intro a u n s k;rw[J,Ä]at k;cases C:(ŷ m t qQ y (a.eval qQ) (a.eval y)>>=λ_=>Ũ m t (a.eval qQ)<|a.eval y).run P u with
  |ok v w=>rw[C]at k;cases k;exact⟨v,U⟩
  |halt z w=>rw[C]at k;cases k
 refine⟨?_,λa=> ?_,λa u n s k=>Ç<|W a u n s k,λa u f c s k=>by let⟨v,e⟩:=W a u _ s k;cases e⟩
 .intro Y g D XW u w K hb L M p hl z s k hc;have N:=xd L M (I qQ<|by rw[E];simp[Ê]);have O:=xd L M (I y<|by rw[E];simp[Ê]);by_cases Q:nt (å ⟨D,[]⟩ qQ)\/nt (å ⟨D,[]⟩ y)
  .have hOk:km P (å ⟨D,[]⟩) o.op:=by
    rw[E];exact .Dq m t qQ y r λ_=>Î ⟨⟨e,h⟩,Q⟩
   exact(Wb K p.C hb (λf=>rfl) hOk λz K=>xd L M<|I z K).fX p hl k hc #[]
  .have n1:=λq=>Q<|Ç q;have n2:=λq=>Q<|Î q;rw[J]at k|-;generalize å ⟨D,[]⟩ qQ=v at N k n1;generalize å ⟨XW,[]⟩ qQ=v' at N|-;generalize å ⟨D,[]⟩ y=l at O k n2;generalize å ⟨XW,[]⟩ y=l' at O|-;cases N<;>first|exact absurd trivial n1|skip
   cases O<;>first|exact absurd trivial n2|skip
   rename_i a a' F b b' G;have fit:∀{c S:Ú},ie Y c S->yO u c.block/\yO w S.block:=by intro c S hcc;let⟨d,d',e2,fr,wO,hu,hw,sU,p9,OP,hfr⟩:=p.r _ _ hcc.1;refine⟨⟨d,e2,fr,hu,hfr⟩,d',e2,wO,hw,?_⟩;refine õ ?_ sU.I;grind
   let⟨fa,fa'⟩:=fit F;let⟨fb,fb'⟩:=fit G;rw[<-Ρ P _ u #[],XV H h T V,XT fa fb]at k;rw[XV H h T V,XT fa' fb'];rw[<-(JJ p.C F G),<-(VW p.C F G)];by_cases q:(a.block==b.block)=É
   .rw[if_pos q]at k|-;cases k;exact⟨Y,_,w,#[],fv.M _,λ_ _ q=>Ç q,U,.nX (.mG _),p,nV.gd _ _ _,λ_ C=>absurd C fq,ß _⟩
   .rw[if_neg q]at k|-;by_cases q2:(u.frozen? a&&u.frozen? b)=É
    .grind
    .rw[if_neg q2]at k;have q3:¬(w.frozen? a'&&w.frozen? b')=É:=by
      intro q4;let⟨z1,z2⟩:=Ü.1 q4;exact q2<|Ü.2 ⟨p.G F z1,p.G G z2⟩
     rw[if_neg q3];cases k;exact⟨Y,_,w,#[],fv.M _,λ_ _ q=>Ç q,U,.nX (.mG _),p,nV.gd _ _ _,λ_ C=>absurd C fq,ß _⟩
 .rw[J];exact lZ<|gw (W6 m t (λ_=>Î ⟨e,h⟩) qQ y _ _) λ_=>agM H h _ _
end
def OQ(P:Õ)(s d:Á):Bool:=match P.underlying s,P.underlying d with
 |some (dj e),À ę=>(match P.underlying e with|some (Β .u8)=>É|_=>Ã)
 |some (ð _),À đ=>É
 |some đ,À (ð _)=>É
 |_,_=>Ã
def OS(P:Õ)(t:Á):Bool:=match P.underlying t with
 |some (ð e)=>(match P.info? e with|some i=>i.size !=0|none=>Ã)
 |_=>Ã
def OT(P:Õ)(b:à->Bool)(c:Callee)(a:List Ö)(d:List Á):Bool:=match c with
 |ĝ .min=>a.length !=0
 |ĝ bl=>a.length==1
 |ĝ cX=>a.length==2&&(match d with|[t,_]=>Kf P t|_=>Ã)
 |cj (aO f)=>b f&&a.length==1
 |_=>Ã
def OU(P:Õ)(a:à->Bool):Op->Bool
 |cJ _ _|.panic _=>É
 |dW c t _ _ _=>(c==aA||c==aL)&&OS P t
 |aN s d _=>OQ P s d
 |Ω c=>OT P a c.callee c.args.toList c.argTypes.toList
 |_=>Ã
def Dy(P:Õ)(a:Nat->Bool)(b c:à->Bool)(o:av):Bool:=OM P a b o||(OU P c o.op&&o.op.operands.all (xg a))
def Gu(P:Õ)(c:à->Bool):Prop:=∀f,c f=É->∃a e,P.funcs[f]?=À a/\(a.name== "runtime.NumGoroutine")=Ã/\a.body.isNone=É/\Extern.findNext a=ë/\Extern.find a=À e/\
 (∀(Y:fv) (v b:Â),fp Y v b->fJ P fp Y (e #[v]) (e #[b]))/\∀v,fG P<|e #[v]
theorem Ki[AG P]{g:Nat->Bool}{k x:à->Bool}(C:Gu P x)(h:Dy P g k x o=É):mU P (λj=>g j=É) (λf=>k f=É) o:=by
 rcases Ŝ.1 h with h|h
 .exact af2 h
 .let⟨v,S⟩:=Ü.1 h;have q:∀z∈o.op.operands,mH (λj=>g j=É) z:=by
   grind [ŉ,Ka,Ń]
  cases n:o.op with
  |makeInterface t y=>exact af3 n q
  |panic y=>exact af6 n q
  |binOp w t a b r=>
   rw[n]at v;let⟨T,m⟩:=Ü.1 (show((w==aA||w==aL)&&OS P t)=É from v);have D:w=aA\/w=aL:=by grind
   unfold OS at m;split at m
   .rename_i e E;split at m
    .rename_i i F;exact agQ n D E F (by simpa using m) q
    .cases m
   .cases m
  |convert s d y=>
   rw[n]at v;have m:OQ P s d=É:=v;unfold OQ at m;split at m
   .rename_i e u p;split at m
    .rename_i G;exact agi n u p G q
    .cases m
   .rename_i t u p;exact XB n (Ç ⟨u,p⟩) q
   .rename_i t u p;exact XB n (Î ⟨u,p⟩) q
   .cases m
  |call c=>
   rw[n]at v;let⟨H,I,B⟩:=c;have m:OT P x H I.toList B.toList=É:=v;unfold OT at m;split at m
   .exact agc n q
   .obtain⟨y,rfl⟩:=Ke m;exact agr n q
   .let⟨u,p⟩:=Ü.1 m;obtain⟨y,z,rfl⟩:=OL u;let⟨l⟩:=B;match l,p with
    |[t1,t2],p=>exact agI n p q
   .rename_i f;let⟨u,p⟩:=Ü.1 m;obtain⟨y,rfl⟩:=Ke p;let⟨V,e,J,K,L,M,N,O,Q⟩:=C f u;exact agj n J K L M N O Q q
   .cases m
  |_=>rw[n]at v;simp[OU]at v
def n5(P:Õ)(a:Nat->Bool)(b d:à->Bool):ak->Bool
 |.ret|eT|ec _|eV _|eW _=>É
 |.seq x y=>n5 P a b d x&&n5 P a b d y
 |bz c x y=>xg a c&&n5 P a b d x&&n5 P a b d y
 |ef _ c|eU c|eg c=>n5 P a b d c
 |bQ _ c _=>c.all<|Dy P a b d
 |du _=>É
 |_=>Ã
def vz[AG P]{g:Nat->Bool}{k x:à->Bool}(a:Gu P x):∀{c:ak},n5 P g k x c=É->kQ P (λj=>g j=É) (λf=>k f=É) c
 |.ret,_=> .vu
 |eT,_=> .sP
 |ec l,_=> .wV l
 |eV l,_=> .w7 l
 |eW l,_=> .xa l
 |.seq y z,h=>by let⟨f,i⟩:=Ü.1 (show(n5 P g k x y&&n5 P g k x z)=É from h);exact .rK (vz a f) (vz a i)
 |bz c y z,h=>by let⟨f,i⟩:=Ü.1 (show(xg g c&&n5 P g k x y&&n5 P g k x z)=É from h);let⟨j,f⟩:=Ü.1 f;exact .tU (Ka j) (vz a f) (vz a i)
 |ef id c,h=> .rL id (vz a<|show n5 P g k x c=É from h)
 |eU c,h=> .wW (vz a<|show n5 P g k x c=É from h)
 |eg c,h=> .wZ (vz a<|show n5 P g k x c=É from h)
 |bQ id ops d,h=> .tV id d λo f=>by obtain⟨i,j,rfl⟩:=ŉ.1 f;exact Ki a<|Ń.1 (show ops.all (Dy P g k x)=É from h) i j
 |.rangeFunc _ _ _ _,h=>by simp[n5]at h
 |du w,_=> .nY w
end Go.Proofs.Y.Lift
namespace Go.Proofs.Y.fx
open Go Go.Conc Go.Proofs.Y.Lift
def qO(t:ğ)(g:Nat)(l:dU):Prop:=∀p a,Ě t p=À a->a.loc=l->bD t g p
def pD(t:ğ)(g:Nat)(l:dU):Prop:=∀p a,Ě t p=À a->a.loc=l->a.write=É->bD t g p
def qO.r{t:ğ}{l:dU}(h:qO t i l):pD t i l:=λp a b c _=>h p a b c
section
variable{t u:ğ}{g:Nat}{l:dU}
theorem mX{a:dP}(h:Ě (t++u) i=À a):(i<t.size/\Ě t i=À a)\/(t.size<=i/\∃x∈u,x.act.touch?=À a/\(t++u)[i]?=À x):=by
 let⟨x,c,d⟩:=dQ h;rcases getElem?_append_cases c with⟨b,e⟩|⟨b,f⟩
 .exact Ç ⟨b,by rwa[touchAt_of e]⟩
 .grind
theorem qO.C(h:qO t g l)(j:∀c∈u,∀b,c.act.touch?=À b->b.loc=l->c.g=g):qO (t++u) g l:=by
 intro p a e f;rcases mX e with⟨_,d⟩|⟨_,c,d,k,i⟩
 .exact(h p a d f).app u
 .have:=bn i;grind
theorem pD.r(h:pD t g l)(k:∀c∈u,∀b,c.act.touch?=À b->b.loc=l->b.write=É->c.g=g):pD (t++u) g l:=by
 intro p a e f i;rcases mX e with⟨_,d⟩|⟨_,c,d,m,j⟩
 .exact(h p a d f i).app u
 .have:=bn j;grind
def qO.yC(h:∀p a,Ě t p=À a->a.loc≠l):qO t g l:=λp a b c=>absurd c<|h p a b
theorem OV(h:∀c,¬eI c t)(l:∀d∈u,d.g=g)(m:∀d∈u,∀b,d.act.touch?=À b->(b.write=Ã/\pD t g b.loc)\/qO t g b.loc\/(b.kind=Ŕ/\∀p a,Ě t p=À a->a.loc=b.loc->a.kind=e7->bD t g p)):∀c,¬eI c (t++u):=by
 intro c;refine noRace_append (h c) l λi a f d n b o r=> ?_;let⟨j,v,e,w⟩:=r;rcases m d n b o with⟨s,k⟩|q|⟨s,k⟩
 .rcases e with e|e
  .exact k i a f j e
  .grind
 .exact q i a f j
 .grind
theorem AX(f:∀c,¬eI c t)(r:∀d∈u,d.act.touch?=ë):∀c,¬eI c (t++u):=by
 intro c;rintro⟨i,j,g,⟨a,b,h,k,l⟩,m,n⟩;rcases mX k with⟨s,e⟩|⟨_,d,e,v,_⟩
 .rcases mX h with⟨o,p⟩|⟨o,_⟩
  .exact f c ⟨i,j,g,⟨a,b,p,e,l⟩,λq=>m<|ek u q,λq=>n<|ek u q⟩
  .omega
 .grind
end
structure ff where
 O:Nat->Prop
 I:Nat->Prop
 r:Ú->Prop
 N:Ú->Prop
 K:Ú->Prop
 d:Nat
 q:Prop
 w:Æ
def ff.M(l:ff):Nat->Prop:=λj=>l.O j\/l.I j
def ff.C(l:ff):Ú->Prop:=λa=>l.r a\/l.N a
structure fI(l:ff)(w w₁:Æ):Prop where
 r:w.heap.size<=w₁.heap.size
 I:∀j,l.M j->w₁.heap[j]?=w.heap[j]?
 N:∀a,l.C a->w₁.cell? a=w.cell? a
 Y:∀a,l.C a->w₁.frozen? a=w.frozen? a
 S:∀a,l.K a->(w.cell? a).isSome=É->(w₁.cell? a).isSome=É
theorem fI.gd(l:ff)(w:Æ):fI l w w:=⟨ß _,λ_ _=>rfl,λ_ _=>rfl,λ_ _=>rfl,λ_ _ h=>h⟩
def fI.fi{l:ff}{c:Æ}(h:fI l w u)(k:fI l u c):fI l w c:= ⟨õ h.r k.r,λj d=>(k.I j d).trans<|h.I j d,λj d=>(k.N j d).trans<|h.N j d,λj d=>(k.Y j d).trans<|h.Y j d,λw e q=>k.S w e<|h.S w e q⟩
def kY(w:Æ)(b:Nat):Option (Nat×Nat):=match w.heap[b]? with
 |some (Č _ _ fr)=>À fr
 |_=>ë
def xh{w':Æ}(h:w'.heap[b]?=w.heap[b]?):kY w' b=kY w b:=by unfold kY;rw[h]
theorem XX(w:Æ)(a:Ú):w.frozen? a=match kY w a.block with
 |some (lo,hi)=>decide (lo<=a.off)&&decide (a.off<hi)
 |none=>Ã:=by
 unfold Ĉ kY;grind
def Kj(h:kY u a.block=kY w a.block):u.frozen? a=w.frozen? a:=by rw[XX,XX,h]
def yP(l:ff)(e:ý):Prop:=
 (∃a:Ú,e.loc=û a/\(l.O a.block\/l.r a\/((l.I a.block\/l.N a)/\e.write=Ã/\e.sync=Ã)))\/e.loc=ů de\/(∃f,e.loc=ů (.extern f))\/e.loc=ů cL\/e.loc=ů dz\/
 ∃a:Ú,l.O a.block/\(e.loc=ů (.read a)\/e.loc=ů (.write a)\/e.loc=ů (Ķ a)\/e.loc=ů (cM a))
structure mI(l l':ff)(w w':Æ)(es:Array ý):Prop where
 C:w.heap.size<=w'.heap.size
 N:∀j,l'.O j->l.O j\/w.heap.size<=j
 fA:∀j,l'.O j->j<w'.heap.size
 rd:l'.I=l.I
 r:l'.r=l.r
 I:l'.N=l.N
 k:l'.K=l.K
 jZ:∀j,j<w.heap.size->¬l.O j->(∀a:Ú,a.block=j->¬l.r a)->w'.heap[j]?=w.heap[j]?
 M:∀a:Ú,a.block<w.heap.size->¬l.O a.block->¬l.r a->w'.cell? a=w.cell? a
 S:∀a:Ú,a.block<w.heap.size->¬l.O a.block->kY w' a.block=kY w a.block
 c:w'.os=w.os
 f:w'.output=w.output
 i:w'.tape=w.tape
 b:∀e∈es,yP l' e
 g:l'.d=ŭ l.d es
 q:l'.q=l.q
 h:l.q->w'=w/\(∀e∈es,e.mute=É)/\l'.O=l.O
 Y:l'.w=w'
structure OW(t:ğ)(g:Nat)(l:ff):Prop where
 ft:∀a:Ú,l.O a.block->qO t g (û a)
 rd:∀a:Ú,l.I a.block->pD t g (û a)
 C:∀a:Ú,l.r a->qO t g (û a)
 r:∀a:Ú,l.N a->pD t g (û a)
theorem XY{l:ff}{e:ý}(h:yP l e){b:dP}(c:(è e).touch?=À b):∃a:Ú,b.loc=û a/\(l.O a.block\/l.r a\/((l.I a.block\/l.N a)/\b.write=Ã)):=by
 let⟨k,i,j⟩:=e;rcases h with⟨a,g,d⟩|h|⟨f,h⟩|h|h|⟨a,g,d⟩
 .simp only at g d;subst g;have:(è ⟨û a,i,j⟩).touch?=À ⟨û a,i,if j then Ŕ else e7⟩:=U;grind
 .simp only at h;subst h;simp[è,ÿ]at c
 .simp only at h;subst h;simp[è,ÿ]at c
 .simp only at h;subst h;simp[è,ÿ]at c
 .simp only at h;subst h;simp[è,ÿ]at c
 .simp only at d;rcases d with rfl|rfl|rfl|rfl<;>simp[è,ÿ]at c<;>subst c;all_goals grind
def agR{l:ff}(d:∀j,l.O j->j<i)(k:∀j,l.I j->j<i)(g:∀a:Ú,l.C a->a.block<i){e:ý}(h:yP l e):(è e).low i:=by
 let⟨m,n,o⟩:=e;rcases h with⟨a,c,b⟩|h|⟨f,h⟩|h|h|⟨a,c,b⟩
 .simp only at c b;subst c;rcases b with h|h|⟨h|h,_⟩
  .exact d _ h
  .exact g _<|Ç h
  .exact k _ h
  .exact g _<|Î h
 .simp only at h;subst h;trivial
 .simp only at h;subst h;trivial
 .simp only at h;subst h;trivial
 .simp only at h;subst h;trivial
 .simp only at b;rcases b with rfl|rfl|rfl|rfl<;>exact d _ c
def XZ(B:Nat)(t:ğ):Prop:=∀a∈t,a.act.low B
def X0(h:XZ i qJ){a:dP}(g:Ě qJ n=À a){x:Ú}(d:a.loc=û x):x.block<i:=by
 let⟨f,j,b⟩:=dQ g;have c:=h f<|Û j;revert b c;cases f.act with
 |access e=>
  intro b c;simp only[ÿ,ž]at b;subst b;simp only at d;simp only[MemAct.low,d,Loc.low]at c;exact c
 |mark m=>
  intro b c;cases m<;>simp[ÿ]at b;all_goals
   subst b;simp only[Loc.cell.injEq]at d;subst d;exact c
 |_=>intro b _;simp[ÿ]at b
theorem oA{a:String}:∀op∈Í i F a V,op.g=i:=λop b=>by obtain⟨e,_,rfl⟩:=í (op:=op) b;rfl
structure iW(B0:Nat)(Live:Nat->Prop)(Y:Nat->Prop)(lot:Nat->ff)(w:Æ)(t:ğ):Prop where
 o:∀i j,Live i->Live j->i≠j->∀b,(lot i).O b->¬(lot j).M b
 h:∀i j,Live i->Live j->i≠j->∀a,(lot i).r a->¬(lot j).C a
 m:∀i,Live i->∀b,(lot i).O b->¬(lot i).I b
 g:∀i,Live i->∀a,(lot i).r a->¬(lot i).N a
 I:∀i,Live i->∀b,(lot i).M b->¬Y b
 e:∀i,Live i->∀a,(lot i).C a->Y a.block
 fA:∀i,Live i->∀b,(lot i).M b->b<w.heap.size
 N:∀b,Y b->b<w.heap.size
 r:∀i,Live i->fI (lot i) (lot i).w w
 S:∀i,Live i->OW t i (lot i)
 f:∀i,Live i->Τ t i=(lot i).d
 l:∀said,¬eI said t
 q:XZ w.heap.size t
 s:∀p a c,Ě t p=À a->a.loc=.obj c->a.kind=e7->c<B0
 n:∀i,Live i->∀a,(lot i).K a->Y a.block/\∀k,Live k->¬(lot k).r a
def gA(lot:Nat->ff)(i:Nat)(l:ff):Nat->ff:=λk=>if k=i then l else lot k
theorem gX(a:Nat->ff)(i:Nat)(l:ff):gA a i l i=l:=if_pos U
theorem gJ(a:Nat->ff)(l:ff)(h:k≠i):gA a i l k=a k:=if_neg h
section
variable{B0:Nat}{Live Y:Nat->Prop}{lot:Nat->ff}{w':Æ}{t u:ğ}
def OX{g:Nat}(a:k≠g)(t:ğ){u:ğ}(b:∀c∈u,c.g=g):Τ (t++u) k=Τ t k:= Deaf_other t (g:=k) (g':=g) (ą a) _ b
def iW.at(h:iW B0 Live Y lot w t)(d:Nat):iW B0 Live Y lot (w.at d) t:= ⟨h.o,h.h,h.m,h.g,h.I,h.e,h.fA,h.N,λi a=>⟨(h.r i a).r,(h.r i a).I,(h.r i a).N,(h.r i a).Y,(h.r i a).S⟩,h.S,h.f,h.l,h.q,h.s,h.n⟩
def iW.agS(h:iW B0 Live Y lot w t)(r:Live i){s:ff}(l:mI (lot i) s w w' V)(E:à)(F:String): iW B0 Live Y (gA lot i s) w' (t++Í i E F V):=by
 have G:=l.N;have Q:∀b,s.M b->(lot i).M b\/w.heap.size<=b:=λb g=>g.elim (λq=>(G b q).imp Ç id) (λq=>Ç<|Î<|by rwa[<-l.rd]);have J:∀a,s.C a↔(lot i).C a:=λa=>by unfold ff.C;rw[l.r,l.I]
 have I:=λk f a d=>h.N _<|h.e k f a d;have L:∀k,Live k->k≠i->∀b,(lot k).M b->¬s.O b:=by
  intro k f y b g c;rcases G b c with q|q
  .exact h.o i k r f (ą y) b q g
  .have:=h.fA k f b g;omega
 have H:∀m∈Í i E F V,∀b,m.act.touch?=À b->∃a:Ú,b.loc=û a/\(s.O a.block\/s.r a\/((s.I a.block\/s.N a)/\b.write=Ã)):=by intro m o b g;obtain⟨e,N,rfl⟩:=í o;exact XY (l.b e N) g
 have T:∀a:Ú,s.O a.block->qO t i (û a):=by
  intro a d;rcases G _ d with q|q
  .exact(h.S i r).ft a q
  .exact .yC λp x P n=>by have:=X0 h.q P n;omega
 have D:OW t i s:=⟨T,λa d=>(h.S i r).rd a (by rwa[<-l.rd]),λa d=>(h.S i r).C a (by rwa[<-l.r]),λa d=>(h.S i r).r a<|by rwa[<-l.I]⟩;refine⟨?_,?_,?_,?_,?_,?_,?_,λb g=>Ô (h.N b g) l.C,?_,?_,?_,?_,?_,?_,?_⟩
 .intro k j f u y b g;by_cases c:k=i
  .subst c;rw[gX]at g;rw[gJ lot _<|ą y];exact λq=>L j u (ą y) b q g
  .rw[gJ lot _ c]at g;by_cases v:j=i
   .subst v;rw[gX];intro q;rcases Q b q with z|z
    .exact h.o k j f u y b g z
    .have:=h.fA k f b<|Ç g;omega
   .rw[gJ lot _ v];exact h.o k j f u y b g
 .intro k j f u y a d;by_cases c:k=i
  .subst c;rw[gX,l.r]at d;rw[gJ lot _<|ą y];exact h.h k j f u y a d
  .rw[gJ lot _ c]at d;by_cases v:j=i
   .subst v;rw[gX,J];exact h.h k j f u y a d
   .rw[gJ lot _ v];exact h.h k j f u y a d
 .intro k f b g;by_cases c:k=i
  .subst c;rw[gX]at g|-;rw[l.rd];rcases G b g with z|z
   .exact h.m k f b z
   .intro q;have:=h.fA k f b<|Î q;omega
  .rw[gJ lot _ c]at g|-;exact h.m k f b g
 .intro k f a d;by_cases c:k=i
  .subst c;rw[gX]at d|-;rw[l.I];rw[l.r]at d;exact h.g k f a d
  .rw[gJ lot _ c]at d|-;exact h.g k f a d
 .intro k f b g;by_cases c:k=i
  .subst c;rw[gX]at g;rcases Q b g with z|z
   .exact h.I k f b z
   .intro y;have:=h.N b y;omega
  .rw[gJ lot _ c]at g;exact h.I k f b g
 .intro k f a d;by_cases c:k=i
  .subst c;rw[gX,J]at d;exact h.e k f a d
  .rw[gJ lot _ c]at d;exact h.e k f a d
 .intro k f b g;by_cases c:k=i
  .subst c;rw[gX]at g;exact g.elim (l.fA b) λq=>Ô (h.fA k f b<|Î<|by rwa[<-l.rd]) l.C
  .rw[gJ lot _ c]at g;exact Ô (h.fA k f b g) l.C
 .intro k f;by_cases c:k=i
  .subst c;rw[gX,l.Y];exact fI.gd _ _
  .rw[gJ lot _ c];refine(h.r k f).fi ⟨l.C,λb g=>l.jZ b (h.fA k f b g) (λq=>h.o i k r f (ą c) b q g) (λa d q=>h.I k f b g<|by rw[<-d];exact h.e i r a<|Ç q),λa d=>l.M a (I k f a d) (λq=>h.I i r _ (Ç q)<|h.e k f a d) λq=>h.h i k r f (ą c) a q d,λa d=>Kj (l.S a (I k f a d) λq=>h.I i r _ (Ç q)<|h.e k f a d),λa d q=> ?_⟩;let⟨y,v⟩:=h.n k f a d;rwa[l.M a (h.N _ y) (λq=>h.I i r _ (Ç q) y)<|v i r]
 .intro k f;by_cases c:k=i
  .subst c;rw[gX];exact⟨λa d=>(D.ft a d).C λm o _ _ _=>oA m o,λa d=>(D.rd a d).r λm o _ _ _ _=>oA m o,λa d=>(D.C a d).C λm o _ _ _=>oA m o,λa d=>(D.r a d).r λm o _ _ _ _=>oA m o⟩
  .rw[gJ lot _ c];have W:∀a:Ú,(lot k).O a.block->∀m∈Í i E F V,∀b,m.act.touch?=À b->b.loc=û a->False:=by
    intro a d m o b g n;let⟨x,y,v⟩:=H m o b g;rw[y]at n;injection n with n;subst n;rcases v with q|q|⟨q|q,_⟩
    .exact L k f c _ (Ç d) q
    .exact h.I k f _ (Ç d)<|h.e i r x<|Ç<|by rwa[<-l.r]
    .exact h.o k i f r c _ d<|Î<|by rwa[<-l.rd]
    .exact h.I k f _ (Ç d)<|h.e i r x<|Î<|by rwa[<-l.I]
   have X:∀a:Ú,(lot k).I a.block->∀m∈Í i E F V,∀b,m.act.touch?=À b->b.loc=û a->b.write=É->False:=by
    intro a d m o b g n B;let⟨x,y,v⟩:=H m o b g;rw[y]at n;injection n with n;subst n;rcases v with q|q|⟨_,q⟩
    .exact L k f c _ (Î d) q
    .exact h.I k f _ (Î d)<|h.e i r x<|Ç<|by rwa[<-l.r]
    .rw[q]at B;cases B
   have S:∀a:Ú,(lot k).C a->∀m∈Í i E F V,∀b,m.act.touch?=À b->b.loc=û a->(s.I a.block\/s.N a)/\b.write=Ã:=by
    intro a d m o b g n;let⟨x,y,v⟩:=H m o b g;rw[y]at n;injection n with n;subst n;rcases v with q|q|q
    .exfalso;rcases G _ q with z|z
     .exact h.I i r _ (Ç z)<|h.e k f x d
     .have:=I k f x d;omega
    .exact absurd d<|h.h i k r f (ą c) x<|by rwa[<-l.r]
    .exact q
   refine⟨λa d=>((h.S k f).ft a d).C λm o b g n=>(W a d m o b g n).elim,λa d=>((h.S k f).rd a d).r λm o b g n B=>(X a d m o b g n B).elim,λa d=>((h.S k f).C a d).C λm o b g n=> ?_,λa d=>((h.S k f).r a d).r λm o b g n B=> ?_⟩
   .exfalso;obtain⟨q|q,_⟩:=S a (Ç d) m o b g n
    .exact h.I i r _ (Î<|by rwa[<-l.rd])<|h.e k f a<|Ç d
    .exact h.h k i f r c a d<|Î<|by rwa[<-l.I]
   .have:=(S a (Î d) m o b g n).2;rw[this]at B;cases B
 .intro k f;by_cases c:k=i
  .subst c;rw[gX,l.g,Deaf_own,h.f k f]
  .rw[gJ lot _ c,OX c t oA];exact h.f k f
 .refine OV h.l oA λm o b g=> ?_;let⟨a,y,v⟩:=H m o b g;rw[y];rcases v with q|q|⟨q,B⟩
  .exact Î<|Ç<|D.ft a q
  .exact Î<|Ç<|D.C a q
  .exact Ç ⟨B,q.elim (D.rd a)<|D.r a⟩
 .intro m o;rcases Ĝ.1 o with q|q
  .exact MemAct.low_mono l.C<|h.q m q
  .obtain⟨e,N,rfl⟩:=í q;refine agR l.fA (λj u=>Ô (h.fA i r j<|Î<|by rwa[<-l.rd]) l.C) (λa d=> ?_)<|l.b e N;rw[J]at d;exact Ô (I i r a d) l.C
 .intro p a c d n f;rcases mX d with⟨_,y⟩|⟨_,m,y,v,_⟩
  .exact h.s p a c y n f
  .let⟨x,P,_⟩:=H m y a v;rw[P]at n;cases n
 .intro k f a d;have y:∀j,(gA lot i s j).r=(lot j).r:=λj=>by
   by_cases e:j=i
   .subst e;rw[gX,l.r]
   .rw[gJ lot _ e]
  have c:(gA lot i s k).K=(lot k).K:=by
   by_cases e:k=i
   .subst e;rw[gX,l.k]
   .rw[gJ lot _ e]
  rw[c]at d;exact⟨(h.n k f a d).1,λj u=>by rw[y];exact(h.n k f a d).2 j u⟩
end
def Gv(Live Y:Nat->Prop)(d:Nat->ff)(b:dP):Prop:=(∃a:Ú,b.loc=û a/\Y a.block/\∀k,Live k->¬(d k).C a)\/∃c,b.loc=.obj c/\Y c/\b.kind=Ŕ
structure qa(Live Y:Nat->Prop)(lot:Nat->ff)(w w':Æ):Prop where
 r:w'.heap.size=w.heap.size
 jZ:∀j,¬Y j->w'.heap[j]?=w.heap[j]?
 M:∀k,Live k->∀a,(lot k).C a->w'.cell? a=w.cell? a
 N:∀k,Live k->∀a,(lot k).C a->w'.frozen? a=w.frozen? a
 I:∀a,(w.cell? a).isSome=É->(w'.cell? a).isSome=É
theorem qa.gd(Live Y:Nat->Prop)(a:Nat->ff)(w:Æ):qa Live Y a w w:=⟨U,λ_ _=>rfl,λ_ _ _ _=>rfl,λ_ _ _ _=>rfl,λ_ h=>h⟩
structure vA(w':Æ)(l l':ff):Prop where
 O:l'.O=l.O
 N:l'.I=l.I
 r:l'.r=l.r
 I:l'.N=l.N
 K:l'.K=l.K
 w:l'.w=l.w\/l'.w=w'
theorem vA.gd(w':Æ)(l:ff):vA w' l l:=⟨U,U,U,U,U,Ç U⟩
def vA.M{w':Æ}{l a:ff}(h:vA w' l a):a.M=l.M:=by unfold ff.M;rw[h.O,h.N]
def vA.C{w':Æ}{l a:ff}(h:vA w' l a):a.C=l.C:=by unfold ff.C;rw[h.r,h.I]
def fI.agT{l c:ff}(h:vA w l c)(r:fI l u W):fI c u W:= ⟨r.r,by rw[h.M];exact r.I,by rw[h.C];exact r.N,by rw[h.C];exact r.Y,by rw[h.K];exact r.S⟩
section
variable{Live Y:Nat->Prop}{lot o:Nat->ff}{w':Æ}{t u:ğ}
def iW.G(h:iW n Live Y lot w t)(m:∀k,vA w' (lot k)<|o k)(s:qa Live Y lot w w')(B:∀l∈u,∀b,l.act.touch?=À b->Gv Live Y lot b)(g:∀l∈u,l.act.low w.heap.size)(E:∀F,¬eI F (t++u))(G:∀k,Live k->Τ (t++u) k=(o k).d):iW n Live Y o w' (t++u) where
 o i j hi v ll b q:=by rw[(m j).M];exact h.o i j hi v ll b<|by rwa[<-(m i).O]
 h i j hi v ll a f:=by rw[(m j).C];exact h.h i j hi v ll a<|by rwa[<-(m i).r]
 m i hi b q:=by rw[(m i).N];exact h.m i hi b<|by rwa[<-(m i).O]
 g i hi a f:=by rw[(m i).I];exact h.g i hi a<|by rwa[<-(m i).r]
 I i hi b q:=h.I i hi b (by rwa[<-(m i).M]);e i hi a f:=h.e i hi a (by rwa[<-(m i).C]);fA i hi b q:=by rw[s.r];exact h.fA i hi b<|by rwa[<-(m i).M]
 N b q:=by rw[s.r];exact h.N b q
 r i hi:=by
  rcases(m i).w with e|e
  .rw[e];refine((h.r i hi).fi ⟨dC s.r.symm,λj v=>s.jZ j<|h.I i hi j v,λa f=>s.M i hi a f,λa f=>s.N i hi a f,λa _=>s.I a⟩).agT<|m i
  .rw[e];exact fI.gd _ _
 S i hi:=by
  have z:∀a:Ú,(lot i).M a.block->∀l∈u,∀b,l.act.touch?=À b->b.loc=û a->False:=by
   intro a f l e b q g;rcases B l e b q with⟨x,r,y,_⟩|⟨c,r,_⟩
   .rw[r]at g;injection g with g;subst g;exact h.I i hi _ f y
   .rw[r]at g;cases g
  have D:∀a:Ú,(lot i).C a->∀l∈u,∀b,l.act.touch?=À b->b.loc=û a->False:=by
   intro a f l e b q g;rcases B l e b q with⟨x,r,_,y⟩|⟨c,r,_⟩
   .rw[r]at g;injection g with g;subst g;exact y i hi f
   .rw[r]at g;cases g
  exact⟨λa f=>((h.S i hi).ft a<|by rwa[<-(m i).O]).C λl e b q g=>(z a (Ç<|by rwa[<-(m i).O]) l e b q g).elim,λa f=>((h.S i hi).rd a<|by rwa[<-(m i).N]).r λl e b q g _=>(z a (Î<|by rwa[<-(m i).N]) l e b q g).elim,λa f=>((h.S i hi).C a<|by rwa[<-(m i).r]).C λl e b q g=>(D a (Ç<|by rwa[<-(m i).r]) l e b q g).elim,λa f=>((h.S i hi).r a<|by rwa[<-(m i).I]).r λl e b q g _=>(D a (Î<|by rwa[<-(m i).I]) l e b q g).elim⟩
 f:=G;l:=E;q l e:=by rw[s.r];exact(Ĝ.1 e).elim (h.q l)<|g l
 s p a c f g z:=by
  rcases mX f with⟨_,r⟩|⟨_,l,r,y,_⟩
  .exact h.s p a c r g z
  .rcases B l r a y with⟨x,D,_⟩|⟨x,_,_,D⟩
   .rw[D]at g;cases g
   .rw[D]at z;cases z
 n i hi a f:=by rw[(m i).K]at f;exact⟨(h.n i hi a f).1,λk z=>by rw[(m k).r];exact(h.n i hi a f).2 k z⟩
end
structure gC(l:ff):Prop where
 c:∀b,l.O b->¬l.I b
 Y:∀a,l.r a->¬l.N a
 N:∀a,l.C a->¬l.M a.block
 fA:∀b,l.M b->b<l.w.heap.size
 I:∀a,l.C a->a.block<l.w.heap.size
 S:∀a,l.K a->¬l.M a.block/\a.block<l.w.heap.size/\¬l.r a
def iW.M{Live Y:Nat->Prop}{c:Nat->ff}(h:iW n Live Y c w qJ)(b:Live i):gC {c i with w:=w} where
 c:=h.m i b;Y:=h.g i b;N a ha hb:=h.I i b _ hb<|h.e i b a ha;fA:=h.fA i b;I a ha:=h.N _<|h.e i b a ha;S a ha:=⟨λq=>h.I i b _ q (h.n i b a ha).1,h.N _ (h.n i b a ha).1,(h.n i b a ha).2 i b⟩
abbrev Jd:=ff->Ó->Prop
inductive fl(P:Õ)(main:Bool)(Stop:Jd):Jd
 |fD {l:ff} {g:Ó} (h:∀w₁,fI l l.w w₁->Stop {l with w:=w₁} g):fl P main Stop l g
 |jR {l:ff} {g:Ó} (G':Æ->Ó) (W':Æ->Æ) (E':Æ->Array ý) (L':Æ->ff) (iN:g.status=Ð)
  (h:∀w₁,fI l l.w w₁->Ù P main g w₁=aS (G' w₁) (W' w₁) (E' w₁)) (hd:∀w₁,fI l l.w w₁->mI l (L' w₁) w₁ (W' w₁) (E' w₁))
  (ih:∀w₁,fI l l.w w₁->fl P main Stop (L' w₁) (G' w₁)):fl P main Stop l g
instance:Nonempty ff:=⟨⟨λ_=>False,λ_=>False,λ_=>False,λ_=>False,λ_=>False,0,False,default⟩⟩
instance:Nonempty (Goroutine×World×Array Event×ff):=⟨(default,default,#[],Classical.choice inferInstance)⟩
section
variable{main:Bool}{Stop m:Jd}
def fl.mk{l:ff}(i:g.status=Ð) (h:∀a,fI l l.w a->∃b c d e,Ù P main g a=aS b c d/\mI l e a c d/\fl P main Stop e b):fl P main Stop l g:=by
 let p:=λ(a:Æ) (x:Goroutine×World×Array Event×ff)=>Ù P main g a=aS x.1 x.2.1 x.2.2.1/\mI l x.2.2.2 a x.2.1 x.2.2.1/\fl P main Stop x.2.2.2 x.1
 have f:∀a,fI l l.w a->p a (Classical.epsilon<|p a):=λa r=>Classical.epsilon_spec (let⟨b,c,d,e,h⟩:=h a r;⟨(b,c,d,e),h⟩);exact .jR (λa=>(Classical.epsilon<|p a).1) (λa=>(Classical.epsilon<|p a).2.1) (λa=>(Classical.epsilon<|p a).2.2.1) (λa=>(Classical.epsilon<|p a).2.2.2) i (λa r=>(f a r).1) (λa r=>(f a r).2.1) λa r=>(f a r).2.2
def fl.kg{l:ff}{w₁:Æ}(h:fl P main Stop l g)(r:fI l l.w w₁):fl P main Stop {l with w:=w₁} g:=by
 have e:∀{a b:Æ},fI {l with w:=w₁} a b->fI l a b:=λq=>⟨q.r,q.I,q.N,q.Y,q.S⟩;cases h with
 |fD h=>exact .fD λc d=>h c<|r.fi<|e d
 |jR f i j m n h o p=>
  exact .jR f i j m n (λc d=>h c<|r.fi<|e d) (λc d=>let q:=o c<|r.fi<|e d;⟨q.C,q.N,q.fA,q.rd,q.r,q.I,q.k,q.jZ,q.M,q.S,q.c,q.f,q.i,q.b,q.g,q.q,q.h,q.Y⟩) λc d=>p c<|r.fi<|e d
def fl.fT(a:∀l g,Stop l g->m l g){l:ff}(h:fl P main Stop l g):fl P main m l g:=by
 induction h with
 |fD h=>exact .fD λb r=>a _ _<|h b r
 |jR b r c d e h f _ i=>exact .jR b r c d e h f i
def fl.fi{l:ff}(h:fl P main (fl P main Stop) l g):fl P main Stop l g:=by
 induction h with
 |fD h=>exact h _<|fI.gd _ _
 |jR a b c d e h f _ i=>exact .jR a b c d e h f i
def fl.lL(a:∀l g,Stop l g->fl P main m l g){l:ff}(h:fl P main Stop l g):fl P main m l g:=(h.fT a).fi
end
inductive gB where
 |fD:gB
 |jR (k:Æ->gB):gB
def X1(x:gB):gB->Prop
 |.fD=>False
 |.jR k=>∃w,x=k w
def X2:WellFounded X1:=⟨λa=>by
 induction a with
 |fD=>exact⟨_,λy h=>h.elim⟩
 |jR k b=>exact⟨_,λy ⟨w,h⟩=>h▸b w⟩⟩
def ln(P:Õ)(b:Bool)(c:Jd):gB->Jd
 |.fD,l,g=>∀a,fI l l.w a->c {l with w:=a} g
 |.jR k,l,g=>g.status=Ð/\∀a,fI l l.w a->∃d e f h,Ù P b g a=aS d e f/\mI l h a e f/\ln P b c (k a) h d
section
variable{main:Bool}{Stop:Jd}
theorem jq{l:ff}(h:fl P main Stop l g):∃tr,ln P main Stop tr l g:=by
 induction h with
 |fD h=>exact⟨.fD,h⟩
 |@jR l g G' W' E' L' iN h hd _ ih=>
  have b:∀a,∃tr,fI l l.w a->ln P main Stop tr (L' a) (G' a):=by
   intro a;by_cases r:fI l l.w a
   .grind
   .exact⟨.fD,λq=>absurd q r⟩
  refine⟨.jR λa=>Classical.choose<|b a,iN,λa r=>⟨G' a,W' a,E' a,L' a,h a r,hd a r,Classical.choose_spec (b a) r⟩⟩
end
theorem agU{l:ff}{b:Nat->Prop}(d:∀j,X j->l.O j)(f:∀j,b j->l.I j){e:ý}(h:J5 X b e):yP l e:=by
 rcases h with⟨a,c,g,i⟩|h|h
 .refine Ç ⟨a,c,?_⟩;grind
 .exact Î<|Ç h
 .exact Î<|Î<|Ç h
theorem agV{b:Nat->Prop}(h:∀e∈V,J5 X b e)(d:Nat):ŭ d V=d:=by refine bq (λe c=> ?_) d;rcases h e c with⟨a,g,_⟩|h|⟨f,h⟩;all_goals grind
theorem gO{w':Æ}(h:w'.heap[a.block]?=w.heap[a.block]?):w'.cell? a=w.cell? a:=by unfold Ġ;rw[h]
def xi(h:u.heap[a.block]?=w.heap[a.block]?):u.frozen? a=w.frozen? a:=by unfold Ĉ;rw[h]
def agW{t:(Nat->Prop)->Ó->Æ->Prop}{O:Nat->Prop}(h:vw P yQ X t O g w):∀l:ff,l.w=w->(∀j,O j->l.O j)->(∀j,X j->l.I j)->(∀j,l.O j->j<w.heap.size)->¬l.q-> fl P yQ (λa b=>∃f,t f b a.w/\(∀j,O j->f j)/\(∀j,f j->a.O j)/\(∀j,l.O j->a.O j)/\(∀j,a.O j->l.O j\/f j)/\(∀j,a.O j->l.O j\/w.heap.size<=j)/\a.I=l.I/\a.r=l.r/\a.N=l.N/\a.d=l.d/\a.q=l.q/\a.K=l.K) l g:=by
 induction h with
 |@fD O g w h=>
  intro l e i m _ _;refine .fD λb r=>⟨O,h b ⟨by rw[<-e];exact r.r,λj c=>by rw[r.I j (c.elim (λq=>Ç<|i j q) λq=>Î<|m j q),e]⟩,λ_ q=>q,i,λ_ q=>q,λ_ q=>Ç q,λ_ q=>Ç q,U,U,U,U,U,U⟩
 |@jR O g w G' W' E' f iN h hd _ ih=>
  intro l e i m C u;refine .mk iN λb r=> ?_;have n:yK (λj=>O j\/X j) w b:=⟨by rw[<-e];exact r.r,λj c=>by rw[r.I j (c.elim (λq=>Ç<|i j q) λq=>Î<|m j q),e]⟩;have D:=hd b n;have o:=n.r;have v:∀j,(l.O j\/f b j)->j<(W' b).heap.size:=λj c=>c.elim (λq=>Ô (C j q)<|õ o D.r)<|D.fA j;have p:∀j,j<b.heap.size->¬l.O j->(W' b).heap[j]?=b.heap[j]?:=λj c k=>D.jZ j c λq=>k<|i j q;refine⟨G' b,W' b,E' b,{l with O:=λj=>l.O j\/f b j,w:=W' b},h b n,⟨D.r,λj c=>c.elim Ç λq=>(D.I j q).imp (i j) id,v,U,U,U,U,λj c k _=>p j c k,λa s k _=>gO<|p _ s k,λa s k=>xh<|p _ s k,D.N,D.S,D.Y,λx E=>agU (l:={l with O:=λj=>l.O j\/f b j,w:=W' b}) (λj q=>Î q) m<|D.C x E,(agV D.C _).symm,U,λq=>absurd q u,U⟩,?_⟩;have:=ih b n {l with O:=λj=>l.O j\/f b j,w:=W' b} U (λj q=>Î q) m v u;apply this.fT;rintro N Q ⟨F,G,B,H,I,J,L,M⟩;refine⟨F,G,λj q=>B j<|D.M j q,H,λj q=>I j<|Ç q,λj q=> ?_,λj q=> ?_,M⟩
  .rcases J j q with(z|z)|z
   .exact Ç z
   .exact Î<|B j z
   .exact Î z
  .rcases L j q with(z|z)|z
   .exact Ç z
   .rcases D.I j z with y|y
    .exact Ç<|i j y
    .exact Î<|õ o y
   .exact Î<|õ (õ o D.r) z
def kD(a:Ú):ý:=⟨û a,Ã,É⟩
def mY(a:Ú):ý:=⟨û a,É,É⟩
def j0(m:Mark):ý:=⟨ů m,Ã,É⟩
def gi:Int:=4294967296
def Dz(c:Nat):Array ý:=#[⟨.obj c,Ã,É⟩,⟨.obj c,É,É⟩]
section
variable(P:Õ)(main:Bool)
def Gw(m:Mark)(N:Jd):Jd:=λl g=>g.status=Ð/\∃a,(∀b,Ù P main g b=aS a b #[j0 m])/\fl P main N l a
def X3(a:Ú)(N:Int->Jd):Jd:=λl g=>g.status=Ð/\∀v,∃c,(∀b:Æ,b.cell? a=À (Ć æ v)->Ù P main g b=aS c b #[kD a])/\fl P main (N v) l c
def OY(a:Ú)(d:Int)(N:Int->Jd):Jd:=λl g=>g.status=Ð/\∀v,∃c,(∀b:Æ,b.cell? a=À (Ć æ v)->b.frozen? a=Ã->Ù P main g b=aS c (b.setCell a<|Ć æ<|æ.wrap<|v+d) #[kD a,mY a])/\N (æ.wrap<|v+d) l c
def agX(a:Ú)(v:Int)(N:Jd):Jd:=λl g=>g.status=Ð/\∃c,(∀(b:Æ) (x:Int),b.cell? a=À (Ć æ x)->b.frozen? a=Ã->Ù P main g b=aS c (b.setCell a<|Ć æ v) #[mY a])/\fl P main N l c
def agY(a:Ú)(N:Jd):Jd:=λl g=>g.status=Ð/\g.offers=ë/\(∀b:Æ,b.cell? a=À (Ć ŗ 0)->Ù P main g b=aS {g with status:=Ů} b #[])/\
 ∃c,(∀(b:Æ) (n:Int),n≠0->b.cell? a=À (Ć ŗ n)->b.frozen? a=Ã->Ù P main g b=aS c (b.setCell a<|Ć ŗ<|n-1) (semEvents a))/\fl P main N l c
def agZ(a:Ú)(N:Jd):Jd:=λl g=>g.status=Ð/\mayWake P g=É/\∃c,c.status=Ð/\(∀(b:Æ) (n:Int),b.cell? a=À (Ć ŗ n)->b.frozen? a=Ã->Ù P main g b=aS c (b.setCell a<|Ć ŗ<|ŗ.wrap<|n+1) (semEvents a))/\N l c
def xj(c:Nat)(z:Â)(N:Option Â->Jd):Jd:=λl g=>g.status=Ð/\g.offers=ë/\(∀x,Ù P main g x=.comm g #[θ c z] É (.recv É) x #[])/\
 ∀x:Option Â,fl P main (N x) l {g with frame:=g.frame.finish (ſ #[x.getD z,Ľ x.isSome])}
def AY(c:Nat)(v:Â)(N:Jd):Jd:=λl g=>g.status=Ð/\g.offers=ë/\(∀a,∃b,Ù P main g a=.comm g #[scase c v b] É .send a #[])/\fl P main N l {g with frame:=g.frame.finish ľ}
def Kk(c:Nat)(N:Jd):Jd:=λl g=>g.status=Ð/\mayWake P g=É/\∃a,a.status=Ð/\(∀(b:Æ) cap buf s r tm,b.heap[c]?=À (χ cap buf Ã s r tm)->Ù P main g b=aS a (b.setChan c cap buf É s r tm) (Dz c))/\fl P main N l a
def pE(n:Nat):Jd:=λl g=>QuitsD P n l.d g
inductive SP where
 |gk (n:Nat)
 |ld (v:Int) (m:Nat)
def DC(a:Ú)(B:Nat)(d e:Int->Jd)(p:SP):Jd:=λl g=>∃T:SP->Ó->Prop,T p g/\∀p g,T p g->g.status=Ð/\match p with
 |.gk (n+1)=>n+1<=B/\(T (.gk 0) g\/∀b,∃c,Ù P main g b=aS c b #[]/\T (.gk n) c)
 |.gk 0=>∀v,∃c,(∀b:Æ,b.cell? a=À (Ć æ v)->Ù P main g b=aS c b #[kD a])/\(if 0<=v/\v<gi then v<1000000->fl P main (d v) l c else(gi<=v/\v<gi*2147483648/\v%gi<1000000)->∃m,m<=B/\T (.ld v m) c)
 |.ld v (m+1)=>gi<=v/\m+1<=B/\(T (.ld v 0) g\/∀b,∃c,Ù P main g b=aS c b #[]/\T (.ld v m) c)
 |.ld v 0=>gi<=v/\(∃c,(∀b:Æ,b.cell? a=À (Ć æ v)->b.frozen? a=Ã->Ù P main g b=aS c (b.setCell a<|Ć æ<|æ.wrap<|v+1) #[kD a,mY a])/\fl P main (e v) l c)/\
  ∃c,(∀(b:Æ) (x:Int),x≠v->b.cell? a=À (Ć æ x)->b.frozen? a=Ã->Ù P main g b=aS c b #[kD a])/\∃n,n<=B/\T (.gk n) c
end
section
variable{P:Õ}{main:Bool}
def Kl{e f:Int->Jd}{p:SP}{l:ff}{w₁:Æ}(h:DC P main a i e f p l g)(r:fI l l.w w₁):DC P main a i e f p {l with w:=w₁} g:=by
 let⟨T,o,h⟩:=h;refine⟨T,o,λp g j=>⟨(h p g j).1,?_⟩⟩;have:=(h p g j).2;match p,this with
 |.gk (n+1),q=>exact q
 |.gk 0,q=>
  intro v;let⟨c,d,b⟩:=q v;refine⟨c,d,?_⟩;by_cases k:0<=v/\v<gi
  .rw[if_pos k]at b|-;exact λq=>(b q).kg r
  .rw[if_neg k]at b|-;exact b
 |.ld v (m+1),q=>exact q
 |.ld v 0,⟨q0,⟨c,d,b⟩,q⟩=>exact⟨q0,⟨c,d,b.kg r⟩,q⟩
end
inductive iD where
 |no|iE|sV (c:Nat) (z:Â)
inductive xk(g0:Ó):iD->Ó->Prop
 |fX {k:iD}:xk g0 k g0
 |n7 (h:g0.status=Ð) (ho:g0.offers=ë):xk g0 .iE {g0 with status:=Ů}
 |tX (c:Nat) (z:Â) (h:g0.status=Ð):xk g0 (.sV c z) (Γ g0 #[θ c z]<|.recv É)
 |nD (c:Nat) (z:Â) (h:g0.status=Ð):xk g0 (.sV c z) {Γ g0 #[θ c z] (.recv É)with status:=Ð}
section
variable{P:Õ}
theorem ag0(h:g.status=Ð\/g.status=Ğ)(w:Æ):g.again w=g:=by unfold ι;grind
theorem OZ{a o:Ó}(h:o.status=Ð\/o.status=Ğ):ţ P g a w o=o:=by unfold ţ;grind [ag0]
def xk.Gx{g0 a b:Ó}{k:iD}(h:xk g0 k g)(d:g0.status=Ð\/g0.status=Ğ):xk g0 k (ţ P a b w g):=by
 cases h with
 |fX=>rw[OZ d];exact .fX
 |n7 h c=>
  unfold ţ;split
  .have:ι w {g0 with status:=Ů}=g0:=by
    let⟨z,e,st,f,i⟩:=g0;simp only at h c;subst h c;rfl
   rw[this];exact .fX
  .exact .n7 h c
 |tX c z h=>
  unfold ţ;split
  .unfold ι Γ;simp only[];split
   .exact .nD c z h
   .exact .tX c z h
  .exact .tX c z h
 |nD c z h=>
  rw[OZ<|Ç U];exact .nD c z h
end
structure gP(P:Õ)(B0:Nat)(Y:Nat->Prop)(S:Nat->Jd)(tr:Nat->gB)(kp:Nat->iD)(lot:Nat->ff)(gs:Array Ó)(w:Æ)(t:ğ):Prop where
 r:iW B0 (λi=>i<gs.size) Y lot w t
 C:∀i g,gs[i]?=À g->∃g0,ln P (i==0) (S i) (tr i) (lot i) g0/\xk g0 (kp i) g/\(g0.status=Ð\/g0.status=Ğ)/\(g=g0\/tr i=.fD)
 I:∀j,gs.size<=j->Τ t j=0
def fC{α:Type}(f:Nat->α)(i:Nat)(x:α):Nat->α:=λk=>if k=i then x else f k
theorem gH{α:Type}(f:Nat->α)(i:Nat)(x:α):fC f i x i=x:=if_pos U
theorem fK{α:Type}(f:Nat->α)(x:α)(h:k≠i):fC f i x k=f k:=if_neg h
section
variable{P:Õ}{B0:Nat}{Y:Nat->Prop}{S:Nat->Jd}{tr:Nat->gB}{kp:Nat->iD}{lot:Nat->ff}{gs:Array Ó}{w':Æ}{t:ğ}{sl:Option (Nat×Nat)}
theorem O0{a:Ó}(b:gs[i]?=À g)(h:Ù P (i==0) g w=aS a w' V): ∃gs',cZ P (ķ gs w sl) i=(ň<|ķ gs' w' sl,Í i g.frame.fn g.frame.place V)/\gs'.size=gs.size/\gs'[i]?=À a/\∀k,k≠i->gs'[k]?=gs[k]?.map (ţ P g a w'):=by refine⟨_,runT_crowd_go b h,fq,by simp[(Ë.1 b).1],λk c=> ?_⟩;grind
def gP.at(a:gP P B0 Y S tr kp lot gs w t)(d:Nat):gP P B0 Y S tr kp lot gs (w.at d) t:=⟨a.r.at d,a.C,a.I⟩
theorem gP.X4(f:gP P B0 Y S tr kp lot gs w t){a:Ó}{J:Jd}{T:gB}{K:iD}{d:ff}(h:gs[i]?=À g)(o:Ù P (i==0) g w=aS a w' V) (B:iW B0 (λi=>i<gs.size) Y (gA lot i d) w' (t++Í i g.frame.fn g.frame.place V)) (hF:ln P (i==0) J T d a) (p:a.status=Ð\/a.status=Ğ): ∃b,cZ P (ķ gs w sl) i=(ň<|ķ b w' sl,Í i g.frame.fn g.frame.place V)/\b.size=gs.size/\b[i]?=À a/\(∀k,k≠i->b[k]?=gs[k]?.map (ţ P g a w'))/\ gP P B0 Y (fC S i J) (fC tr i T) (fC kp i K) (gA lot i d) b w' (t++Í i g.frame.fn g.frame.place V):=by
 obtain⟨b,q,r,l,m⟩:=O0 h o;have C:=(Ë.1 h).1;refine⟨b,q,r,l,m,?_,λk x c=> ?_,λj D=> ?_⟩
 .grind
 .by_cases e:k=i
  .subst e;rw[l]at c;obtain rfl:=Ĥ c;rw[gH,gH,gH,gX];exact⟨a,hF,.fX,p,Ç U⟩
  .rw[m k e]at c;obtain⟨y,s,rfl⟩:=ģ.1 c;rw[fK S _ e,fK tr _ e,fK kp _ e,gJ lot _ e];let⟨g0,u,v,n,z⟩:=f.C k y s;refine⟨g0,u,v.Gx n,n,z.imp (λe=> ?_) id⟩;grind [OZ]
 .rw[OX Z t oA];exact f.I j Z
theorem ag1{J:Jd}{k:Æ->gB}{l:ff}(h:ln P yQ J (.jR k) l g):g.status=Ð:=h.1
def gP.ft(f:gP P B0 Y S tr kp lot gs w t){k:Æ->gB}(m:gs[i]?=À g)(n:tr i=.jR k)(s:∀l g,S i l g->g.status=Ð\/g.status=Ğ): ∃c w' d h,cZ P (ķ gs w sl) i=(ň<|ķ c w' sl,Í i g.frame.fn g.frame.place d)/\c.size=gs.size/\(∃b,c[i]?=À b/\(b.status=Ð\/b.status=Ğ))/\(∀k,k≠i->∃a j:Ó,c[k]?=gs[k]?.map (ţ P a j w'))/\mI (lot i) h w w' d/\ gP P B0 Y S (fC tr i<|k w) kp (gA lot i h) c w' (t++Í i g.frame.fn g.frame.place d):=by
 have o:=(Ë.1 m).1;let⟨g0,hF,F,_,u⟩:=f.C i g m;obtain rfl:g=g0:=u.resolve_right (by rw[n];simp);rw[n]at hF;let⟨G,hF⟩:=hF;let⟨b,w',d,h,v,p,e⟩:=hF w<|f.r.r i o;have q:b.status=Ð\/b.status=Ğ:=by
  cases j:k w with
  |fD=>rw[j]at e;exact s _ _<|e _<|fI.gd _ _
  |jR r=>rw[j]at e;exact Ç e.1
 obtain⟨c,x,y,z,B,r⟩:=f.X4 m v (f.r.agS o p _ _) e q;refine⟨c,w',d,h,x,y,⟨b,z,q⟩,λj C=>⟨g,b,B j C⟩,p,?_⟩;have D:fC S i (S i)=S:=by funext j;unfold fC;split<;>simp[*]
 have E:fC kp i (kp i)=kp:=by funext j;unfold fC;split<;>simp[*]
 rwa[D,E]at r
theorem gP.qP(c:gP P B0 Y S tr kp lot gs w t){a:Ó}{J:Jd}{K:iD}{T:gB}(l:gs[i]?=À g)(m:Ù P (i==0) g w=aS a w' V)(n:qa (λi=>i<gs.size) Y lot w w') (hF:ln P (i==0) J T {lot i with d:=ŭ (lot i).d V,w:=w'} a) (o:a.status=Ð\/a.status=Ğ) (p:∀e∈V,(∀b,(è e).touch?=À b->Gv (λi=>i<gs.size) Y lot b)/\(è e).low w.heap.size) (q:∀r,¬eI r (t++Í i g.frame.fn g.frame.place V)): ∃gs',cZ P (ķ gs w sl) i=(ň<|ķ gs' w' sl,Í i g.frame.fn g.frame.place V)/\gs'.size=gs.size/\gs'[i]?=À a/\(∀k,k≠i->gs'[k]?=gs[k]?.map (ţ P g a w'))/\ gP P B0 Y (fC S i J) (fC tr i T) (fC kp i K) (gA lot i {lot i with d:=ŭ (lot i).d V,w:=w'}) gs' w' (t++Í i g.frame.fn g.frame.place V):=by
 refine c.X4 l m (c.r.G (λk=> ?_) n (λh f b j=> ?_) (λh f=> ?_) q λk h=> ?_) hF o
 .by_cases e:k=i
  .subst e;rw[gX];exact⟨U,U,U,U,U,Î U⟩
  .grind [gJ,vA.gd]
 .obtain⟨e,j,rfl⟩:=í f;grind
 .obtain⟨e,j,rfl⟩:=í f;exact(p e j).2
 .by_cases e:k=i
  .subst e;rw[gX,Deaf_own,c.r.f k h]
  .rw[gJ lot _ e,OX e t oA];exact c.r.f k h
def gP.O1(h:gP P B0 Y S tr kp lot gs w t)(p:gs[i]?=À g)(x:i≠0)(l:g.status=Ð)(q:kp i=.no)(y:tr i=.fD)(z:S i=pE P n): ∃c f b,n=b+1/\cZ P (ķ gs w sl) i=(ň<|ķ c w sl,Í i g.frame.fn g.frame.place f)/\c.size=gs.size/\(∀k,k≠i->∃a e:Ó,c[k]?=gs[k]?.map (ţ P a e w))/\(∀e∈f,e.mute=É)/\ gP P B0 Y (fC S i<|pE P b) tr kp (gA lot i {lot i with d:=ŭ (lot i).d f,w:=w}) c w (t++Í i g.frame.fn g.frame.place f):=by
 let⟨g0,hF,r,L,_⟩:=h.C i g p;have B:g=g0:=by
  rw[q]at r;cases r with
  |fX=>rfl
 subst B;rw[y,z]at hF;have s:=hF w<|h.r.r i<|(Ë.1 p).1;cases n with
 |zero=>rw[s.1]at l;cases l
 |succ n=>
  rcases s with⟨C,_⟩|⟨_,D,f,a,E,u⟩
  .rw[C]at l;cases l
  have m:(i==0)=Ã:=by simpa using x
  have F:fC kp i .no=kp:=by funext j;unfold fC;split<;>simp[*]
  have G:fC tr i .fD=tr:=by funext j;unfold fC;split<;>simp[*]
  obtain⟨c,H,I,_,K,v⟩:=h.qP (J:=pE P n) (T:=.fD) p (by rw[m];exact E w) (qa.gd _ _ _ _) (λ_ _=>u) u.status (λe o=>⟨λb m=>(by rw[ep<|a e o]at m;cases m),low_mute (a e o) _⟩) (AX h.r.l λM b=>by obtain⟨e,o,rfl⟩:=í b;exact ep<|a e o);rw[F,G]at v;exact⟨c,f,n,U,H,I,λk q=>⟨g,D,K k q⟩,a,v⟩
end
def xl(u:ğ):Prop:=∀a∈u,a.act.touch?=ë/\∀m,a.act≠Ř m
theorem ag2(t:ğ)(a:c8)(b:a.act≠Ř cL)(c:a.act≠Ř dz)(j:Nat):Τ (t.push a) j=Τ t j:=by
 have d:t.push a=t++#[a]:=fq
 unfold Τ;rw[d,show(t++#[a]).size=t.size+1 by simp];show(match(t++#[a])[t.size]? with
  |some {g:=h,act:=Ř cL, .. }=>if h=j then(t++#[a]).deaf j t.size+1 else(t++#[a]).deaf j t.size
  |some {g:=h,act:=Ř dz, .. }=>if h=j then(t++#[a]).deaf j t.size-1 else(t++#[a]).deaf j t.size
  |_=>(t++#[a]).deaf j t.size)=_
 have e:(t++#[a])[t.size]?=À a:=fq
 rw[e];let⟨g,f,i,k⟩:=a;simp only at b c;split
 .grind
 .grind
 .exact cO<|ß _
def X5(t:ğ):∀(u:List c8),(∀a∈u,a.act≠Ř cL/\a.act≠Ř dz)->∀j,Τ (t++u.toArray) j=Τ t j
 |[],_,j=>by simp
 |a::u,h,j=>by
  have e:t++(a::u).toArray=(t.push a)++u.toArray:=by apply Array.ext';simp
  rw[e,X5 (t.push a) u (λx b=>h x<|by simp[b]) j];exact ag2 t a (h a fq).1 (h a fq).2 j
def Km{u:ğ}(h:xl u)(j:Nat):Τ (qJ++u) j=Τ qJ j:=by have:=X5 qJ u.toList (λa b=>⟨(h a<|by simpa using b).2 _,(h a<|by simpa using b).2 _⟩) j;simpa using this
section
variable{S:Nat->Jd}{C:Nat->gB}{B:Nat->iD}{lot:Nat->ff}{u:ğ}{sl:Option (Nat×Nat)}
def iW.ag3{Live:Nat->Prop}(h:iW i Live X lot w qJ)(f:qa Live X lot w W)(c:xl u)(g:∀a∈u,a.act.low w.heap.size):iW i Live X lot W (qJ++u):= h.G (λk=>vA.gd _ _) f (λa d b e=>by rw[(c a d).1]at e;cases e) g (AX h.l λa d=>(c a d).1) λk b=>by rw[Km c];exact h.f k b
def Kn{Live:Nat->Prop}{r:Nat}{x:Bool}(y:X i)(p:w.heap[i]?=À (χ n d yQ j r x))(f g h:Nat)(l:Array Â)(m o:Bool):qa Live X lot w (w.setChan i f l m g h o):=by
 have q:∀b,b≠i->(w.setChan i f l m g h o).heap[b]?=w.heap[b]?:=λb u=>by unfold au;simp only;exact Ï<|ą u
 have v:(w.setChan i f l m g h o).heap[i]?=À (χ f l m g h o):=by unfold au;simp[(Ë.1 p).1]
 refine⟨by unfold au;simp,λb u=>q b λe=>u<|e▸y,λk _ a _=> ?_,λk _ a _=> ?_,λa t=> ?_⟩
 .by_cases e:a.block=i
  .unfold Ġ;rw[e,v,p]
  .unfold Ġ;rw[q _ e]
 .by_cases e:a.block=i
  .unfold Ĉ;rw[e,v,p]
  .unfold Ĉ;rw[q _ e]
 .by_cases e:a.block=i
  .unfold Ġ at t;rw[e,p]at t;cases t
  .have:(w.setChan i f l m g h o).cell? a=w.cell? a:=by unfold Ġ;rw[q _ e]
   rwa[this]
def gP.G(b:gP P i X S C B lot E w qJ){J:Jd}{T:gB}{K:iD}(d:n<E.size)(f:qa (λn=>n<E.size) X lot w W)(c:xl u)(h:∀l∈u,l.act.low w.heap.size) (hF:ln P (n==0) J T (lot n) g) (m:g.status=Ð\/g.status=Ğ): gP P i X (fC S n J) (fC C n T) (fC B n K) lot (E.setIfInBounds n g) W (qJ++u):=by
 refine⟨?_,λk x a=> ?_,λj o=> ?_⟩
 .rw[show(λj=>j<(E.setIfInBounds n g).size)=(λj=>j<E.size) by simp];exact b.r.ag3 f c h
 .by_cases e:k=n
  .subst e;rw[Ò d]at a;obtain rfl:=Ĥ a;rw[gH,gH,gH];exact⟨_,hF,.fX,m,Ç U⟩
  .rw[Ï<|ą e]at a;rw[fK S _ e,fK C _ e,fK B _ e];exact b.C k x a
 .rw[Km c];exact b.I j<|by simpa using o
def O2{γ δ:Type}{f:γ->List δ}:∀{l:List γ},(∀x∈l,f x=[])->l.flatMap f=[]
 |[],_=>rfl
 |x::l,h=>by rw[aV,h x fq,O2 λy a=>h y (by simp[a])];rfl
def yR(r:Nat)(b:Bool)(g:Ó):Prop:=g.status=Ů/\∃a d,g.offers=À (a,d)/\∃c∈a,(c.send.isSome==b)=É/\(match c.chan with|ew (À r')=>r'==r|_=>Ã)=É
theorem X6{r:Nat}{E:Array Ó}(h:∀(i:Nat) (g:Ó),E[i]?=À g->¬yR r yQ g):Η E r yQ=[]:=by
 unfold Η;refine O2 λx m=> ?_;let⟨g,i⟩:=x;have d:E[i]?=À g:=by grind
 simp only[];split
 .rename_i b e f j;rw[aj,Υ];intro y n a;let⟨c,k⟩:=y;have l:c∈b:=by
   grind
  simp only[ě]at a;exact h i g d ⟨f,b,e,j,c,l,a.1,by have:=a.2;revert this;cases c.chan<;>first|exact id|(rename_i q;cases q<;>exact id)⟩
 .rfl
def X7{γ δ:Type}(f:γ×Nat->List δ):∀(L:List γ) (n h:Nat) (x:γ),(∀y k,k≠h->(y,k)∈L.zipIdx n->f (y,k)=[])->n<=h->L[h-n]?=À x->(L.zipIdx n).flatMap f=f (x,h)
 |[],n,h,x,_,_,hx=>by simp at hx
 |a::L,n,h,x,hf,hn,hx=>by
  rw[Ĭ,aV];by_cases e:h=n
  .subst e;have:a=x:=by simpa using hx
   subst this;rw[O2 ?_,List.append_nil];intro y b;let⟨y,k⟩:=y;refine hf y k ?_ (by rw[Ĭ];exact ò _ b);have:=List.le_snd_of_mem_zipIdx b;simp only at this;omega
  .rw[hf a n Z (by rw[Ĭ];exact î ..),List.nil_append];refine X7 f L (n+1) h x (λy k c b=>hf y k c<|by rw[Ĭ];exact ò _ b) Z ?_;have b:h-n=(h-(n+1))+1:=Z
   rw[b]at hx;simpa using hx
theorem ag4{E:Array Ó}(l:E[n]?=À g)(m:g.status=Ů)(o:g.offers=À (#[θ i z],.recv É))(p:∀(a:Nat) (b:Ó),a≠n->E[a]?=À b->¬yR i Ã b):Η E i Ã=[(n,0)]:=by
 unfold Η;have e:E.zipIdx.toList=E.toList.zipIdx:=fq
 rw[e];rw[X7 _ E.toList 0 n g (λy k r B=> ?_) (dD _) (by simpa using l)]
 .simp[m,o,θ]
 .have s:E[k]?=À y:=by
   grind
  simp only[];split
  .rename_i j t u v;rw[aj,Υ];intro x C d;let⟨f,D⟩:=x;have w:f∈j:=by
    grind
   simp only[ě]at d;exact p k y r s ⟨u,j,t,v,f,w,d.1,by have:=d.2;revert this;cases f.chan<;>first|exact id|(rename_i q;cases q<;>exact id)⟩
  .rfl
theorem O3(h:(E.setIfInBounds i ph)[k]?=À g):g.status=Ğ\/(k≠i/\E[k]?=À g):=by
 by_cases e:k=i
 .subst e;rw[Ś]at h;simp only[if_true]at h;split at h
  .left;obtain rfl:=Ĥ h;rfl
  .cases h
 .grind
theorem gP.O4(l:gP P i X S C B lot E w qJ)(c a:Nat):Η (E.setIfInBounds a ph) c É=[]:=by
 refine X6 λk x m=> ?_;rintro⟨d,p,r,b,n,f,o,_⟩;rcases O3 m with q|⟨_,q⟩
 .grind
 .let⟨g0,_,g,j,_⟩:=l.C k x q;generalize B k=K at g;cases g with
  |fX=>rw[d]at j;rcases j with e|e<;>cases e
  |n7 h e=>simp only[e]at b;cases b
  |tX e z h=>
   simp only[Γ,ž,Prod.mk.injEq]at b;rw[<-b.1]at f;have:n=θ e z:=by simpa using f
   subst this;cases o
  |nD e z h=>cases d
def gP.O5(e:gP P i X S C B lot E w qJ){N:Option Â->Jd}(f:E[n]?=À g)(k:g.status=Ð)(l:B n=.sV j z)(m:C n=.fD)(o:S n=xj P (n==0) j z N): ∃a,ln P (n==0) (S n) (C n) (lot n) a/\a.status=Ð/\a.offers=ë/\Ù P (n==0) g w=.comm a #[θ j z] É (.recv É) w #[]/\∀x:Option Â,fl P (n==0) (N x) (lot n) {a with frame:=a.frame.finish (ſ #[x.getD z,Ľ x.isSome])}:=by
 let⟨a,hF,b,_,_⟩:=e.C n g f;have p:=hF;rw[o,m]at hF;let⟨x,q,d,r⟩:=hF _<|fI.gd _ _;rw[l]at b;refine⟨a,p,x,q,?_,r⟩;cases b with
 |fX=>exact d w
 |tX j z h=>cases k
 |nD j z h=>rw[stepG_tries];rw[show({a with status:=Ð}:Ó)=a by cases a;simp only at x;subst x;rfl];exact d w
def yS{g0:Ó}{a:Array CommCase}{b:CommShape}{ok:Bool}(c:g0.status=Ð)(d:g0.offers=ë):g0.finishComm P a b h v ok={g0 with frame:=g0.frame.finish (commResult a b h v ok)}:=by let⟨f,a,st,e,o⟩:=g0;simp only at c d;subst c d;rfl
def gP.nF(e:gP P i X S C B lot E w qJ){N:Option Â->Jd}(h:E[n]?=À g)(G:g.status=Ð)(l:B n=.sV j z)(H:C n=.fD)(I:S n=xj P (n==0) j z N)(p:X j){r:Nat}{o:Bool}(q:w.heap[j]?=À (χ b d yQ m r o))(t:d[0]?=À v)(K:iD): ∃a u T f,cZ P (ķ E w sl) n=(ň<|ķ a (w.setChan j b (d.extract 1 d.size) yQ m (r+1) o) sl,u)/\a.size=E.size/\a[n]?=À f/\f.status=Ð/\(∀k,k≠n->a[k]?=E[k]?)/\xl u/\ gP P i X (fC S n<|N<|À v) (fC C n T) (fC B n K) lot a (w.setChan j b (d.extract 1 d.size) yQ m (r+1) o) (qJ++u):=by
 have x:=(Ë.1 h).1;let⟨g0,_,f,y,J,L⟩:=e.O5 h G l H I;have D:d.getD 0 ľ=v:=by simp[ĩ,t]
 have M:=crowd_recv_buf (sl:=sl) h J q ((Ë.1 t).1)<|e.O4 j n;let⟨T,O⟩:=jq<|L<|À v;refine⟨_,_,T,{g0 with frame:=g0.frame.finish (ſ #[v,Ľ É])},M,fq,?_,f,λk l=>Ï<|ą l,?_,?_⟩
 .rw[yS f y,D,Ò x];rfl
 .intro F a;simp[Í]at a;rcases a with rfl|rfl<;>exact⟨U,fq⟩
 .rw[yS f y,D];refine e.G x (Kn p q _ _ _ _ _ _) ?_ ?_ O<|Ç f
  .intro F a;simp[Í]at a;rcases a with rfl|rfl<;>exact⟨U,fq⟩
  .intro F a;simp[Í]at a;rcases a with rfl|rfl<;>exact e.r.N j p
def gP.ji(e:gP P i X S C B lot E w qJ){N:Option Â->Jd}(h:E[n]?=À g)(q:g.status=Ð)(l:B n=.sV j z)(t:C n=.fD)(v:S n=xj P (n==0) j z N)(x:X j){r:Nat}(y:w.heap[j]?=À (χ b #[] É k r yQ))(K:iD): ∃d u T f,cZ P (ķ E w sl) n=(ň<|ķ d w sl,u)/\d.size=E.size/\d[n]?=À f/\f.status=Ð/\(∀a,a≠n->d[a]?=E[a]?)/\xl u/\ gP P i X (fC S n<|N ë) (fC C n T) (fC B n K) lot d w (qJ++u):=by
 have m:=(Ë.1 h).1;let⟨g0,_,f,o,D,F⟩:=e.O5 h q l t v;let⟨T,G⟩:=jq<|F ë;refine⟨_,_,T,{g0 with frame:=g0.frame.finish (ſ #[z,Ľ Ã])},crowd_recv_closed (sl:=sl) h D y<|e.O4 j n,fq,?_,f,λa l=>Ï<|ą l,?_,?_⟩
 .rw[yS f o,Ò m];rfl
 .intro p d;simp[Í]at d;subst d;exact⟨U,fq⟩
 .rw[yS f o];refine e.G m (qa.gd _ _ _ _) ?_ ?_ G<|Ç f
  .intro p d;simp[Í]at d;subst d;exact⟨U,fq⟩
  .intro p d;simp[Í]at d;subst d;exact e.r.N j x
def gP.ag5(f:gP P i X S C B lot E w qJ){N:Option Â->Jd}(m:E[n]?=À g)(u:g.status=Ð)(h:B n=.sV j z)(o:C n=.fD)(v:S n=xj P (n==0) j z N){r:Nat}(p:w.heap[j]?=À (χ b #[] Ã k r yQ)): ∃d e,cZ P (ķ E w sl) n=(ň<|ķ d w sl,#[])/\d.size=E.size/\d[n]?=À e/\e.status=Ů/\(∀a,a≠n->d[a]?=E[a]?)/\gP P i X S C B lot d w qJ:=by
 have q:=(Ë.1 m).1;let⟨g0,hF,t,G,y,H⟩:=f.O5 m u h o v;have D:=crowd_waits (sl:=sl) m y (λd e=>by
  have:d=θ j z:=by simpa using e
  subst this;exact⟨by simp[illMade,θ,p],by simp[ways,θ,p,f.O4 j n]⟩)
 refine⟨_,Γ g0 #[θ j z]<|.recv É,?_,fq,Ò q,U,λa h=>Ï<|ą h,?_,λa x l=> ?_,λd F=>f.I d<|by simpa using F⟩
 .rw[D];rfl
 .rw[show(λd=>d<(E.setIfInBounds n<|Γ g0 #[θ j z]<|.recv É).size)=(λd=>d<E.size) by simp];exact f.r
 .by_cases e:a=n
  .subst e;rw[Ò q]at l;obtain rfl:=Ĥ l;refine⟨g0,hF,?_,Ç t,Î o⟩;rw[h];exact .tX j z t
  .rw[Ï<|ą e]at l;exact f.C a x l
def gP.iO(f:gP P i X S C B lot E w qJ){N:Jd}(h:E[n]?=À g)(l:B n=.no)(F:C n=.fD)(G:S n=AY P (n==0) b v N)(p:X b){r:Nat}(t:w.heap[b]?=À (χ m d Ã J r yQ))(H:d.size<m) (I:∀(k:Nat) (x:Ó),E[k]?=À x->¬yR b Ã x): ∃e u T a,cZ P (ķ E w sl) n=(ň<|ķ e (w.setChan b m (d.push v) Ã (J+1) r yQ) sl,u)/\e.size=E.size/\e[n]?=À a/\a.status=Ð/\(∀k,k≠n->e[k]?=E[k]?)/\xl u/\ gP P i X (fC S n N) (fC C n T) B lot e (w.setChan b m (d.push v) Ã (J+1) r yQ) (qJ++u):=by
 have y:=(Ë.1 h).1;let⟨g0,hF,z,_,_⟩:=f.C n g h;rw[l]at z;cases z with
 |fX=>
  rw[G,F]at hF;let⟨a,D,o,K⟩:=hF _<|fI.gd _ _;let⟨V,o⟩:=o w;have L:Η (E.setIfInBounds n ph) b Ã=[]:=X6 λk x M=>by
   rcases O3 M with q|⟨_,q⟩
   .rintro⟨e,_⟩;rw[q]at e;cases e
   .exact I k x q
  let⟨T,O⟩:=jq K;have Q:fC B n .no=B:=by funext j;unfold fC;split<;>simp[*]
  refine⟨_,_,T,{g with frame:=g.frame.finish ľ},crowd_send_room (sl:=sl) h o t H L,fq,?_,a,λk l=>Ï<|ą l,?_,?_⟩
  .rw[yS a D,Ò y];rfl
  .intro q e;simp[Í]at e;rcases e with rfl|rfl<;>exact⟨U,fq⟩
  .rw[yS a D,<-Q];refine f.G y (Kn p t _ _ _ _ _ _) ?_ ?_ O<|Ç a
   .intro q e;simp[Í]at e;rcases e with rfl|rfl<;>exact⟨U,fq⟩
   .intro q e;simp[Í]at e;rcases e with rfl|rfl<;>exact f.r.N b p
def gP.ag6(o:gP P i X S C B lot E w qJ){p:Ó}{N:Jd}{D:Option Â->Jd}(F:E[n]?=À g)(f:B n=.no)(ht:C n=.fD)(hs:S n=AY P (n==0) b v N)(L:X b){r:Nat}(M:w.heap[b]?=À (χ J d Ã j9 r yQ)) (G:j≠n) (t:E[j]?=À p) (O:p.status=Ů) (Ko:B j=.sV b z) (O6:C j=.fD) (Kp:S j=xj P (j==0) b z D) (K:iD) (hp:∀(k:Nat) (x:Ó),k≠j->E[k]?=À x->¬yR b Ã x): ∃e u T y h q,cZ P (ķ E w sl) n=(ň<|ķ e (w.setChan b J d Ã (j9+1) (r+1) yQ) sl,u)/\e.size=E.size/\e[n]?=À h/\h.status=Ð/\e[j]?=À q/\q.status=Ð/\(∀k,k≠n->k≠j->e[k]?=E[k]?)/\xl u/\ gP P i X (fC (fC S j<|D<|À v) n N) (fC (fC C j y) n T) (fC (fC B j K) n .no) lot e (w.setChan b J d Ã (j9+1) (r+1) yQ) (qJ++u):=by
 have Q:=(Ë.1 F).1;have V:=(Ë.1 t).1;let⟨g0,hF,W,_,_⟩:=o.C n g F;let⟨a,Y,X8,au4,_⟩:=o.C j p t;rw[f]at W;rw[Ko]at X8;cases W with
 |fX=>
  rw[hs,ht]at hF;let⟨H,h2,I,h4⟩:=hF _<|fI.gd _ _;let⟨z',I⟩:=I w;rw[Kp,O6]at Y;let⟨l,k2,k3,k4⟩:=Y _<|fI.gd _ _;have DF:p=Γ a #[θ b z] (.recv É):=by
   cases X8 with
   |fX=>rw[O]at l;cases l
   |tX _ _ h=>rfl
   |nD _ _ h=>cases O
  subst DF;have hpn:Η (E.setIfInBounds n ph) b Ã=[(j,0)]:=ag4 (by rwa[Ï<|ą G]) U U λk x f hx=>by
   rcases O3 hx with q|⟨_,q⟩
   .rintro⟨e,_⟩;rw[q]at e;cases e
   .exact hp k x f q
  have O7:=crowd_send_meets (sl:=sl) F I M G t hpn;let⟨T,hT⟩:=jq h4;let⟨y,hTj⟩:=jq<|k4<|À v;rw[yS H h2,yS l k2]at O7;have q:∀{h:c8},h∈Í n g.frame.fn g.frame.place #[]++#[{g:=n,fn:=g.frame.fn,pos:=g.frame.place,act:=.send b j9},{g:=j,fn:=a.frame.fn,pos:=a.frame.place,act:=.recv b r J},{g:=n,fn:=g.frame.fn,pos:=g.frame.place,act:=.sendDone b j9},{g:=j,fn:=a.frame.fn,pos:=a.frame.place,act:=.recvDone b r}]->(h.act.touch?=ë/\∀m,h.act≠Ř m)/\h.act.low w.heap.size:=by intro h e;simp[Í]at e;rcases e with rfl|rfl|rfl|rfl<;>exact⟨⟨U,fq⟩,o.r.N b L⟩
  refine⟨_,_,T,y,{g with frame:=g.frame.finish ľ},{a with frame:=a.frame.finish (ſ #[v,Ľ É])},O7,fq,?_,H,?_,l,λk f tY=> ?_,λh e=>(q e).1,?_⟩
  .rw[Ò (by simpa using Q)];rfl
  .rw[Ï<|ą G,Ò V];rfl
  .rw[Ï<|ą f,Ï<|ą tY]
  .have m:gP P i X (fC S j<|D<|À v) (fC C j y) (fC B j K) lot (E.setIfInBounds j {a with frame:=a.frame.finish (ſ #[v,Ľ É])}) w (qJ++#[]):=o.G V (qa.gd _ _ _ _) (λh e=>by simp at e) (λh e=>by simp at e) hTj<|Ç l;rw[ď]at m;refine m.G (by simpa using Q) (Kn L M _ _ _ _ _ _) (λh e=>(q e).1) (λh e=>(q e).2) hT<|Ç H
theorem gP.kZ(o:gP P i X S C B lot E w qJ){N:Jd}(I:E[n]?=À g)(K:B n=.no)(ht:C n=.fD)(hs:S n=Kk P (n==0) J N)(L:X J)(hB:i<=J){r:Nat}(O:w.heap[J]?=À (χ j9 q Ã j7 r yQ)): ∃t u T G,cZ P (ķ E w sl) n=(ň<|ķ t (w.setChan J j9 q É j7 r yQ) sl,u)/\t.size=E.size/\t[n]?=À G/\G.status=Ð/\(∀k x,k≠n->E[k]?=À x->t[k]?=À (x.again<|w.setChan J j9 q É j7 r yQ))/\(∀l∈u,l.g=n)/\(∀l∈u,∀b,l.act.touch?=À b->b.loc=.obj J/\b.kind=Ŕ)/\(∀l∈u,∀m,l.act≠Ř m)/\ gP P i X (fC S n N) (fC C n T) B (gA lot n {lot n with w:=w.setChan J j9 q É j7 r yQ}) t (w.setChan J j9 q É j7 r yQ) (qJ++u):=by
 have H:=(Ë.1 I).1;have Q:=o.r.N J L;let⟨g0,hF,V,_,_⟩:=o.C n g I;rw[K]at V;cases V with
 |fX=>
  rw[hs,ht]at hF;let⟨h1,h2,G,M,h4,h5⟩:=hF w<|o.r.r n H;have v:=Kn (lot:=lot) (Live:=λn=>n<E.size) L O j9 j7 r q É yQ;have y:fI (lot n) w (w.setChan J j9 q É j7 r yQ):=⟨dC v.r.symm,λj hj=>v.jZ j<|o.r.I n H j hj,λa z=>v.M n H a z,λa z=>v.N n H a z,λa _=>v.I a⟩;let⟨T,hT⟩:=jq<|h5.kg ⟨y.r,y.I,y.N,y.Y,y.S⟩;have W:ŭ (lot n).d (Dz J)=(lot n).d:=bq (λe f=>by simp[Dz]at f;grind) _;have D:∀e∈Dz J,(∀b,(è e).touch?=À b->b.loc=.obj J/\b.kind=Ŕ)/\(è e).low w.heap.size:=by
   intro e f;simp[Dz]at f;rcases f with rfl|rfl
   .exact⟨λb h=>by simp[è,ÿ]at h;subst h;exact⟨U,U⟩,Q⟩
   .exact⟨λb h=>by simp[è,ÿ]at h,Q⟩
  have e2:fC B n .no=B:=by funext j;unfold fC;split<;>simp[*]
  obtain⟨t,q1,q2,q3,q4,Y⟩:=o.qP I (h4 w j9 q j7 r yQ O) v (by rwa[W]) (Ç M) (λe f=>⟨λb h=>Î ⟨J,((D e f).1 b h).1,L,((D e f).1 b h).2⟩,(D e f).2⟩) (OV o.r.l oA λl F b h=>by obtain⟨e,f,rfl⟩:=í F;let⟨z1,z2⟩:=(D e f).1 b h;refine Î (Î ⟨z2,λp a z hl rO=> ?_⟩);have:=o.r.s p a J z (by rw[hl,z1]) rO;omega);rw[W,e2]at Y;refine⟨t,_,T,G,q1,q2,q3,M,λk x K p=> ?_,oA,λl F b h=> ?_,λl F=> ?_,Y⟩
  .rw[q4 k K,p];simp only[bH,ž];unfold ţ;rw[if_pos (by simp[h2,M])]
  .obtain⟨e,f,rfl⟩:=í F;exact(D e f).1 b h
  .obtain⟨e,f,rfl⟩:=í F;simp[Dz]at f;intro m;rcases f with rfl|rfl<;>simp[è]
end
def fQ(b:Nat):Ú:=⟨b,0,ë⟩
def gZ(b:Nat):Ú:=⟨b,1,ë⟩
inductive GS where
 |cl (c reg:Nat)
 |jK (reg:Nat)
 |hD (r s:Nat)
def GS.st:GS->Int
 |.cl c a=>c*gi+a
 |.jK a=>a
 |.hD _ _=>0
def GS.sm:GS->Int
 |.hD _ s=>s
 |_=>0
def GS.ok:GS->Prop
 |.cl c r=>c<1000000/\r<1000000/\(c=0->r=0)
 |.jK r=>0<r/\r<1000000
 |.hD r s=>r+s<1000000
structure ij(w:Æ)(b:Nat)(G:GS):Prop where
 C:w.cell? (fQ b)=À (Ć æ G.st)
 M:w.cell? (gZ b)=À (Ć ŗ G.sm)
 I:w.frozen? (fQ b)=Ã
 N:w.frozen? (gZ b)=Ã
 r:G.ok
theorem AZ(h:w.cell? a=À x):(w.setCell a v).cell? a=À v:=by unfold Ġ at h|-;unfold ĉ;grind
theorem yT(h:a.block≠p.block\/a.off≠p.off):(w.setCell a v).cell? p=w.cell? p:=by unfold Ġ ĉ;grind
theorem O8:kY (w.setCell a v) b=kY w b:=by unfold kY ĉ;grind
def sW:(w.setCell a v).frozen? p=w.frozen? p:=by simp_all
theorem lD(h:j≠a.block):(w.setCell a v).heap[j]?=w.heap[j]?:=by unfold ĉ;grind
def j4:(w.setCell a v).heap.size=w.heap.size:=by simp_all
theorem yU(h:(w.cell? p).isSome=É):((w.setCell a v).cell? p).isSome=É:=by unfold Ġ ĉ at*;grind
theorem ag7{Live Y:Nat->Prop}{c:Nat->ff}(f:Y a.block)(l:a.spot=ë)(m:∀k,Live k->¬(c k).C a)(g:∀k,Live k->∀b,(c k).C b->b.spot=ë):qa Live Y c w (w.setCell a v):=by
 refine⟨j4,λj h=>lD λe=>h<|e▸f,λk i b d=>yT ?_,λ_ _ _ _=>sW,λb d=>yU d⟩;by_cases e:a.block=b.block
 .right;intro n;have:=g k i b d;let⟨o,p,q⟩:=b;let⟨r,s,t⟩:=a;grind
 .exact Ç e
section
variable{b:Nat}{G:GS}
def ij.vB(h:ij w b G)(a:u.cell? (fQ b)=w.cell? (fQ b))(c:u.cell? (gZ b)=w.cell? (gZ b))(d:u.frozen? (fQ b)=w.frozen? (fQ b))(e:u.frozen? (gZ b)=w.frozen? (gZ b)):ij u b G:= ⟨a.trans h.C,c.trans h.M,d.trans h.I,e.trans h.N,h.r⟩
def ij.iX(h:ij w b G)(c:a.block≠b):ij (w.setCell a v) b G:= h.vB (yT<|Ç c) (yT<|Ç c) sW sW
def ij.Kq{G':GS}(h:ij w b G)(a:G'.sm=G.sm)(d:G'.ok)(e:c=G'.st):ij (w.setCell (fQ b)<|Ć æ c) b G':= ⟨by rw[AZ h.C,e],by rw[yT (Î<|by simp[fQ,gZ]),h.M,a],by rw[sW,h.I],by rw[sW,h.N],d⟩
def ij.X9{G':GS}(h:ij w b G)(a:G'.st=G.st)(d:G'.ok)(e:c=G'.sm):ij (w.setCell (gZ b)<|Ć ŗ c) b G':= ⟨by rw[yT (Î<|by simp[fQ,gZ]),h.C,a],by rw[AZ h.M,e],by rw[sW,h.I],by rw[sW,h.N],d⟩
end
theorem Kr(a:0<=h)(b:h<18446744073709551616):æ.wrap h=h:=by have:æ.wrap h=h%18446744073709551616:=rfl;rw[this];omega
def ag8(a:4294967296<=h)(b:h<18446744073709551616):æ.wrap (h+18446744069414584320)=h-4294967296:=by have:æ.wrap (h+18446744069414584320)=(h+18446744069414584320)%18446744073709551616:=rfl;rw[this];omega
theorem ag9(a:0<=h)(b:h<4294967296):ŗ.wrap h=h:=by have:ŗ.wrap h=h%4294967296:=rfl;rw[this];omega
def qR:Int:=18446744069414584320
def GS.jP:GS->GS
 |.cl (c+1) reg=>if c=0/\0<reg then .jK reg else .cl c reg
 |G=>G
section
variable{b:Nat}
theorem ij.aha(h:ij w b (.cl i 0))(a:i+1<1000000):æ.wrap ((GS.cl i 0).st+gi)=(GS.cl (i+1) 0).st/\ij (w.setCell (fQ b)<|Ć æ<|æ.wrap<|(GS.cl i 0).st+gi) b (.cl (i+1) 0):=by
 have e:æ.wrap ((GS.cl i 0).st+gi)=(GS.cl (i+1) 0).st:=by simp only[GS.st,gi];grind [Kr]
 exact⟨e,h.Kq (G':=.cl (i+1) 0) U ⟨a,Z,Z⟩ e⟩
def ij.jP(h:ij w b (.cl (i+1) n)):æ.wrap ((GS.cl (i+1) n).st+qR)=(GS.jP<|.cl (i+1) n).st/\ij (w.setCell (fQ b)<|Ć æ<|æ.wrap<|(GS.cl (i+1) n).st+qR) b (GS.jP<|.cl (i+1) n):=by
 let⟨f,a,g⟩:=h.r;have d:æ.wrap ((GS.cl (i+1) n).st+qR)=(i:Int)*gi+n:=by simp only[GS.st,gi,qR];rw[ag8 Z Z];omega
 have e:æ.wrap ((GS.cl (i+1) n).st+qR)=(GS.jP<|.cl (i+1) n).st:=by
  rw[d];simp only[GS.jP];by_cases q:i=0/\0<n
  .rw[if_pos q];obtain⟨rfl,_⟩:=q;simp[GS.st]
  .rw[if_neg q];rfl
 refine⟨e,h.Kq ?_ ?_ e⟩
 .simp only[GS.jP];split<;>rfl
 .simp only[GS.jP];by_cases q:i=0/\0<n
  .rw[if_pos q];exact⟨q.2,a⟩
  .rw[if_neg q];exact⟨Z,a,λe=>by omega⟩
theorem ij.Ya(h:ij w b (.cl i n))(f:0<i)(a:n+1<1000000):æ.wrap ((GS.cl i n).st+1)=(GS.cl i<|n+1).st/\ij (w.setCell (fQ b)<|Ć æ<|æ.wrap<|(GS.cl i n).st+1) b (.cl i (n+1)):=by
 let⟨d,g,j⟩:=h.r;have e:æ.wrap ((GS.cl i n).st+1)=(GS.cl i<|n+1).st:=by simp only[GS.st,gi];grind [Kr]
 exact⟨e,h.Kq (G':=.cl i (n+1)) U ⟨d,a,λe=>by omega⟩ e⟩
def ij.Yb(h:ij w b (.jK i)):ij (w.setCell (fQ b)<|Ć æ 0) b (.hD i 0):= h.Kq (G':=.hD i 0) U (by have:=h.r;simp only[GS.ok]at this|-;omega) U
theorem ij.jI{r:Nat}(h:ij w b (.hD (r+1) i)):ij (w.setCell (gZ b)<|Ć ŗ<|ŗ.wrap<|(GS.hD (r+1) i).sm+1) b (.hD r (i+1)):=by have:=h.r;simp only[GS.ok]at this;refine h.X9 (G':=.hD r (i+1)) U (by simp only[GS.ok];omega) ?_;simp only[GS.sm];grind [ag9]
def ij.kE{r:Nat}(h:ij w b (.hD r (i+1))):ij (w.setCell (gZ b)<|Ć ŗ<|(GS.hD r<|i+1).sm-1) b (.hD r i):=by have:=h.r;simp only[GS.ok]at this;refine h.X9 (G':=.hD r i) U (by simp only[GS.ok];omega) ?_;simp only[GS.sm];omega
def ij.ahb{G:GS}(h:ij w b G):(0<=G.st/\G.st<gi)↔∀c a,G=.cl c a->c=0:=by
 have d:=h.r;cases G with
 |cl c a=>
  let⟨r,s,f⟩:=d;simp only[GS.st,gi];constructor
  .intro q g i e;cases e;omega
  .intro q;have:=q c a U;subst this;omega
 |jK a=>simp only[GS.ok]at d;simp only[GS.st,gi];exact⟨λ_ _ _ e=>(by cases e),λ_=>by omega⟩
 |hD r s=>simp only[GS.st,gi];exact⟨λ_ _ _ e=>(by cases e),λ_=>by omega⟩
end
inductive jL where
 |jI|iJ|gD (W:Nat)|jg (W:Nat)|iE (r:Nat)
inductive jA where
 |jc|mh (p:SP)|wr|kE|gD|lq
section
variable(P:Õ)(main:Bool)(B:Nat)(b:Nat)(J:Jd)
def Gy:Nat->Jd
 |0=>J
 |r+1=>λl g=>l.d=1/\agZ P main (gZ b) (match r with|0=>J|_=>fl P main<|Gy r) l g
def Ks(W:Nat):Jd:=λl g=>l.d=1/\agX P main (fQ b) 0 (Gy P main b J W) l g
def Kt(W:Nat):Jd:=λl g=>l.d=1/\X3 P main (fQ b) (λv=>if v=(W:Int)then Ks P main b J W else λ_ _=>True) l g
def O9:Jd:=λl g=>l.d=1/\OY P main (fQ b) qR (λs=>if s=0\/(gi<=s/\s<1000000*gi/\s%gi<1000000)then J else if 0<s/\s<1000000 then fl P main (Kt P main b J s.toNat)else λ_ _=>True) l g
def yV:Jd:=λl g=>l.d=0/\Gw P main (Ķ<|fQ b) (O9 P main b J) l g
def DG:jL->Jd
 |.jI=>yV P main b J
 |.iJ=>O9 P main b J
 |.gD W=>Kt P main b J W
 |.jg W=>Ks P main b J W
 |.iE r=>Gy P main b J r
def Gz:Jd:=λl g=>l.d=0/\Gw P main (cM<|fQ b) J l g
def Yc:Jd:=λl g=>l.d=1/\X3 P main (fQ b) (λv=>if v=0 then Gz P main b J else λ_ _=>True) l g
def Ku:Jd:=λl g=>l.d=1/\agY P main (gZ b) (Yc P main b J) l g
def Pa:Jd:=λl g=>l.d=1/\Gw P main (.write<|gZ b) (Ku P main b J) l g
def Pd(p:SP):Jd:=λl g=>l.d=1/\DC P main (fQ b) B (λ_=>Gz P main b J) (λv=>if v%gi=0 then Pa P main b J else Ku P main b J) p l g
def qS:jA->Jd
 |.jc=>λl g=>∃k,k<=B/\Pd P main B b J (.gk k) l g
 |.mh p=>Pd P main B b J p
 |.wr=>Pa P main b J
 |.kE=>Ku P main b J
 |.gD=>Yc P main b J
 |.lq=>Gz P main b J
end
section
variable{P:Õ}{Y:Nat->Prop}{S:Nat->Jd}{tr:Nat->gB}{f:Nat->iD}{lot:Nat->ff}{gs:Array Ó}{t:ğ}
theorem iW.C{Live:Nat->Prop}(h:iW n Live Y lot w t)(E:Live i){l:ff}(s:∀b,l.O b->(lot i).O b) (x:∀b,l.I b->(lot i).M b\/(b<w.heap.size/\¬Y b/\(∀k,Live k->¬(lot k).O b)/\∀a:Ú,a.block=b->pD t i (û a))) (u:∀a,l.r a->(lot i).r a) (y:∀a,l.N a->(lot i).C a\/(Y a.block/\(∀k,Live k->¬(lot k).r a)/\pD t i (û a))) (F:l.K=(lot i).K) (D:l.d=(lot i).d) (G:l.w=w) (H:∀b,l.O b->¬l.I b) (I:∀a,l.r a->¬l.N a):iW n Live Y (gA lot i l) w t:=by
 have v:∀b,l.M b->(lot i).M b\/(b<w.heap.size/\¬Y b/\(∀k,Live k->¬(lot k).O b)/\∀a:Ú,a.block=b->pD t i (û a)):=λb g=>g.elim (λq=>Ç<|Ç<|s b q)<|x b;have B:∀a,l.C a->(lot i).C a\/(Y a.block/\(∀k,Live k->¬(lot k).r a)/\pD t i (û a)):=λa f=>f.elim (λq=>Ç<|Ç<|u a q)<|y a;refine⟨λk j c o m b g=> ?_,λk j c o m a f=> ?_,λk c b g=> ?_,λk c a f=> ?_,λk c b g=> ?_,λk c a f=> ?_,λk c b g=> ?_,h.N,λk c=> ?_,λk c=> ?_,λk c=> ?_,h.l,h.q,h.s,λk c a f=> ?_⟩
 .by_cases e:k=i
  .subst e;rw[gX]at g;rw[gJ lot _<|ą m];exact h.o k j c o m b<|s b g
  .rw[gJ lot _ e]at g;by_cases p:j=i
   .subst p;rw[gX];intro q;rcases v b q with z|⟨_,_,z,_⟩
    .exact h.o k j c o m b g z
    .exact z k c g
   .rw[gJ lot _ p];exact h.o k j c o m b g
 .by_cases e:k=i
  .subst e;rw[gX]at f;rw[gJ lot _<|ą m];exact h.h k j c o m a<|u a f
  .rw[gJ lot _ e]at f;by_cases p:j=i
   .subst p;rw[gX];intro q;rcases B a q with z|⟨_,z,_⟩
    .exact h.h k j c o m a f z
    .exact z k c f
   .rw[gJ lot _ p];exact h.h k j c o m a f
 .by_cases e:k=i
  .grind [gX]
  .rw[gJ lot _ e]at g|-;exact h.m k c b g
 .by_cases e:k=i
  .grind [gX]
  .rw[gJ lot _ e]at f|-;exact h.g k c a f
 .by_cases e:k=i
  .subst e;rw[gX]at g;exact(v b g).elim (h.I k c b) λz=>z.2.1
  .rw[gJ lot _ e]at g;exact h.I k c b g
 .by_cases e:k=i
  .subst e;rw[gX]at f;exact(B a f).elim (h.e k c a) λz=>z.1
  .rw[gJ lot _ e]at f;exact h.e k c a f
 .by_cases e:k=i
  .subst e;rw[gX]at g;exact(v b g).elim (h.fA k c b) λz=>z.1
  .rw[gJ lot _ e]at g;exact h.fA k c b g
 .by_cases e:k=i
  .grind [gX,fI.gd]
  .rw[gJ lot _ e];exact h.r k c
 .by_cases e:k=i
  .subst e;rw[gX];refine⟨λa f=>(h.S k c).ft a<|s _ f,λa f=> ?_,λa f=>(h.S k c).C a<|u a f,λa f=> ?_⟩
   .rcases x _ f with(z|z)|⟨_,_,_,z⟩
    .exact((h.S k c).ft a z).r
    .exact(h.S k c).rd a z
    .exact z a U
   .rcases y _ f with(z|z)|⟨_,_,z⟩
    .exact((h.S k c).C a z).r
    .exact(h.S k c).r a z
    .exact z
  .rw[gJ lot _ e];exact h.S k c
 .by_cases e:k=i
  .subst e;rw[gX,D];exact h.f k c
  .rw[gJ lot _ e];exact h.f k c
 .have e:(lot k).K a:=by
   grind [gX,gJ]
  let⟨p,q⟩:=h.n k c a e;grind [gX,gJ]
def gP.M(b:gP P n Y S tr f lot gs w t){J:Jd}{T:gB}{K:iD}{l:ff}(c:gs[i]?=À g)(d:g.status=Ð\/g.status=Ğ)(h:iW n (λi=>i<gs.size) Y (gA lot i l) w t)(hF:ln P (i==0) J T l g): gP P n Y (fC S i J) (fC tr i T) (fC f i K) (gA lot i l) gs w t:=by
 refine⟨h,λk x a=> ?_,b.I⟩;by_cases e:k=i
 .subst e;rw[c]at a;obtain rfl:=Ĥ a;rw[gH,gH,gH,gX];exact⟨g,hF,.fX,d,Ç U⟩
 .rw[fK S _ e,fK tr _ e,fK f _ e,gJ lot _ e];exact b.C k x a
end
end Go.Proofs.Y.fx
namespace Go.Proofs.Y.fx
open Go Go.Conc Go.Proofs.Y.Lift
open Go.ConcN (RelBy fork_knows)
def A0(t:ğ)(p:Nat)(l:dU):Prop:=∀q a,Ě t q=À a->a.loc=l->a.write=É->Before t q p
theorem A0.Pe{u:ğ}{l:dU}(h:A0 qJ i l)(j:∀c∈u,∀b,c.act.touch?=À b->b.loc=l->b.write=É->False):A0 (qJ++u) i l:=by
 intro q a e f g;rcases mX e with⟨_,d⟩|⟨_,c,d,k,_⟩
 .exact(h q a d f g).app u
 .grind
def A0.ahc{l:dU}(h:A0 qJ i l)(b:bD qJ n i):pD qJ n l:=λq a c d e=>Knows.of_before (h q a c d e) b
theorem ahd{l:dU}(h:pD qJ i l)(c:wQ.g=i)(j:wQ.act.touch?=ë):A0 (qJ++#[wQ]) qJ.size l:=by
 intro q a d e f;rcases mX d with⟨_,b⟩|⟨_,k,b,m,_⟩
 .exact Î<|(h q a b e f).hb_new (ß _) (by rw[ć<|ß _];simp) c
 .grind
structure Fx where
 L:Nat
 m:Nat
 C:Nat
 I:Nat->Nat
def Fx.M(F:Fx)(b:Nat):Prop:=b=F.C\/∃k,k<=F.m/\b=F.I k
def Fx.G(F:Fx)(x:Ú):Prop:=∃b,F.M b/\(x=fQ b\/x=gZ b)
def jj(F:Fx)(k:Nat):Ú:=⟨F.I k,2,ë⟩
def Fx.Pf(F:Fx)(a:Nat->Option Nat)(x:Ú)(g:Option Nat):Prop:=(x=gZ F.C/\g=À 0)\/∃k j,k<=F.m/\x=gZ (F.I k)/\a k=À j/\g=À (F.L+1+j)
structure TI(F:Fx)(t0:Nat)(jr:dU->Prop)(sp rl:Nat)(V:Nat->Nat->Prop)(pk:Nat->Nat)(fs:Nat->Option Nat)(rx:Nat->Prop)(ql:Nat->Nat)(t:ğ):Prop where
 N:t0<=t.size
 M:∀p a x,Ě t p=À a->a.loc=û x->F.G x->(p<t0/\t.g? p=À 0)\/a.kind=Ŕ\/(a.kind=.said/\F.Pf fs x (t.g? p))
 A4:∀x,x<sp->∀p,p<t0->t.g? p=À 0->bD t (F.L+x) p
 Y:∀k,1<=k->k<=rl->t.act? (pk k)=À (Ř<|Ķ<|fQ<|F.I k)/\t.g? (pk k)=À F.L/\t.heard (pk k)
 I:∀k,1<=k->k<=rl->∀a:Ú,(V k a.block\/a=jj F k)->A0 t (pk k) (û a)
 c:∀b,F.M b->NoRelease (fQ b) t
 r:∀x,x<sp->rx x->RelBy (fQ F.C) t (F.L+x) (ql x)/\∀p a,Ě t p=À a->t.g? p=À (F.L+x)->p<=ql x\/((∃y:Ú,a.loc=û y/\y.block=F.C)/\a.kind=Ŕ)
 S:∀p a,t0<=p->Ě t p=À a->t.g? p=À 0\/∃x,x<sp/\t.g? p=À (F.L+x)
 e:∀p a,p<t0->Ě t p=À a->a.loc.isMemory=É->bD t 0 p\/(jr a.loc/\a.kind=Ŕ)
 d:∀p g,p<t0->t.g? p=À g->g≠0->t.counts p->∃j,t.g? j=À 0/\HappensBefore t p j
section
variable{F:Fx}{t0:Nat}{jr:dU->Prop}{sp rl:Nat}{V:Nat->Nat->Prop}{pk:Nat->Nat}{fs:Nat->Option Nat}{rx:Nat->Prop}{ql:Nat->Nat}{t u:ğ}
theorem Kv(h:t.g? i=À n):i<t.size:=by unfold Ņ at h;grind
def GA(h:t.g? i=À n):(t++u).g? i=À n:=by rwa[aG<|Kv h]
theorem Pg{a:dP}(h:Ě t i=À a):i<t.size:=by let⟨b,c,_⟩:=dQ h;grind
structure Kw(F:Fx)(sp rl:Nat)(V:Nat->Nat->Prop)(fs:Nat->Option Nat)(rx:Nat->Prop)(t u:ğ)(i:Nat):Prop where
 C:∀op∈u,∀a,op.act.touch?=À a->op.g=i
 S:i=0\/(∃x,x<sp/\i=F.L+x)\/∀op∈u,op.act.touch?=ë
 M:∀op∈u,∀a x,op.act.touch?=À a->a.loc=û x->F.G x->a.kind=Ŕ\/(a.kind=.said/\F.Pf fs x (À i))
 fP:∀op∈u,∀(a:dP) (y:Ú),op.act.touch?=À a->a.write=É->a.loc=û y->∀k,1<=k->k<=rl->¬V k y.block/\y≠jj F k
 N:∀op∈u,∀b,F.M b->op.act≠Ř (dR<|fQ b)
 I:∀x,x<sp->rx x->(∀r,RelBy (fQ F.C) t (F.L+x) r->RelBy (fQ F.C) (t++u) (F.L+x) r)/\(F.L+x=i->∀op∈u,∀a,op.act.touch?=À a->(∃y:Ú,a.loc=û y/\y.block=F.C)/\a.kind=Ŕ)
def TI.C(h:TI F t0 jr sp rl V pk fs rx ql t)(f:Kw F sp rl V fs rx t u i):TI F t0 jr sp rl V pk fs rx ql (t++u) where
 N:=by rw[Array.size_append];have:=h.N;omega
 M p a x n y hc:=by
  rcases mX n with⟨d,c⟩|⟨d,m,c,l,j⟩
  .rw[aG d];exact h.M p a x c y hc
  .refine Î ((f.M m c a x l y hc).imp id λq=>⟨q.1,?_⟩);have:(t++u).g? p=À i:=by unfold Ņ;rw[j];simp[f.C m c a l]
   rw[this];exact q.2
 A4 x r p d o:=(h.A4 x r p d<|by rwa[aG<|Ô d h.N]at o).app u;Y k c l:=by let⟨v,s,b⟩:=h.Y k c l;have w:=Kv s;exact⟨by rwa[dS w],GA s,(heard_old w).2 b⟩
 I k c l a n:=(h.I k c l a n).Pe λm B b z y C=>by have:=f.fP m B b a z C y k c l;exact n.elim this.1 this.2
 c b z:=(h.c b z).app λm B=>f.N m B b z;r x r hr:=by
  let⟨v,s⟩:=h.r x r hr;let⟨D,E⟩:=f.I x r hr;refine⟨D _ v,λp a n o=> ?_⟩;rcases mX n with⟨d,c⟩|⟨d,m,c,l,j⟩
  .exact s p a c<|by rwa[aG d]at o
  .have e:(t++u).g? p=À i:=by unfold Ņ;rw[j];simp[f.C m c a l]
   rw[e]at o;exact Î<|E (Ĥ o).symm m c a l
 S p a d n:=by
  rcases mX n with⟨D,c⟩|⟨_,m,c,l,j⟩
  .rw[aG D];exact h.S p a d c
  .have e:(t++u).g? p=À i:=by unfold Ņ;rw[j];simp[f.C m c a l]
   rw[e];rcases f.S with q|⟨x,r,q⟩|q
   .exact Ç<|by rw[q]
   .exact Î ⟨x,r,by rw[q]⟩
   .rw[q m c]at l;cases l
 e p a d n hm:=by rw[touchAt_old<|Ô d h.N]at n;exact(h.e p a d n hm).imp (·.app u) id
 d p g d o ll hc:=by have w:=Ô d h.N;rw[aG w]at o;rw[eu w]at hc;let⟨j,v,s⟩:=h.d p g d o ll hc;exact⟨j,GA v,ek u s⟩
theorem yW(f:∀c∈u,c.act.touch?=ë)(h:∀c∈u,∀b,F.M b->c.act≠Ř (dR<|fQ b)):Kw F sp rl V fs rx t u 0 where
 C c e a d:=by rw[f c e]at d;cases d
 S:=Ç U;M c e a x d:=by rw[f c e]at d;cases d
 fP c e a y d:=by rw[f c e]at d;cases d
 N:=h;I x hx g:=by refine⟨λr g=>g.app λj l m i=> ?_,λ_ c e a d=>by rw[f c e]at d;cases d⟩;let⟨z,k,_⟩:=i;rcases mX k with⟨q,_⟩|⟨_,c,n,o,_⟩;all_goals grind
def TI.ahe(h:TI F t0 jr sp rl V pk fs rx ql t){b:Nat->Option Nat}(c:∀k y,fs k=À y->b k=À y):TI F t0 jr sp rl V pk b rx ql t:= {h with M:=λp a x d e f=>(h.M p a x d e f).imp id (Or.imp id λq=>⟨q.1,q.2.imp id λ⟨k,j,g,i,l,m⟩=>⟨k,j,g,i,c k j l,m⟩⟩)}
theorem TI.GB(h:TI F t0 jr sp rl V pk fs rx ql t){y:c8}(j:wQ.g=0/\wQ.act=.go (F.L+sp))(k:y.g=F.L+sp/\y.act=.start)(m:Τ t 0=0)(n:Τ t (F.L+sp)=0)(B:¬rx sp)(o:∀wQ,rx wQ->wQ<sp):TI F t0 jr (sp+1) rl V pk fs rx ql (t++#[wQ,y]):=by
 have q:∀c∈#[wQ,y],c.act.touch?=ë:=by
  intro c a;simp at a;rcases a with rfl|rfl
  .rw[j.2];rfl
  .rw[k.2];rfl
 have r:∀c∈#[wQ,y],∀b,F.M b->c.act≠Ř (dR<|fQ b):=by grind
 have d:=h.C<|yW q r;refine{d with A4:=λz s p f i=> ?_,r:=λz s l=>d.r z (o z l) l,S:=λp a f u=>((d.S p a f u).imp id λ⟨z,v,e⟩=>⟨z,Z,e⟩)}
 .by_cases e:z<sp
  .exact d.A4 z e p f i
  .obtain rfl:z=sp:=Z
   rw[aG<|Ô f h.N]at i;let⟨c,v,w⟩:=ģ.1 i;have:=bn v;rw[w]at this;exact cP j k m n this
theorem ahf{y:c8}(d:wQ.g=0/\wQ.act=.go k)(e:y.g=k/\y.act=.start)(j:Τ t 0=0)(m:Τ t k=0){l:dU}:(qO t 0 l->qO (t++#[wQ,y]) k l)/\(pD t 0 l->pD (t++#[wQ,y]) k l):=by
 have q:∀c∈#[wQ,y],c.act.touch?=ë:=by
  intro c a;simp at a;rcases a with rfl|rfl
  .rw[d.2];rfl
  .rw[e.2];rfl
 refine⟨λh p a f i=> ?_,λh p a f i n=> ?_⟩
 .rcases mX f with⟨_,b⟩|⟨_,c,b,o,_⟩
  .exact cP d e j m<|h p a b i
  .grind
 .rcases mX f with⟨_,b⟩|⟨_,c,b,o,_⟩
  .exact cP d e j m<|h p a b i n
  .grind
theorem TI.ahg(h:TI F t0 jr sp rl V pk fs rx ql t)(f:wQ.g=F.L)(i:wQ.act=Ř (Ķ<|fQ<|F.I<|rl+1))(l:Τ t F.L=0)(q:∀a:Ú,(V (rl+1) a.block\/a=jj F (rl+1))->pD t F.L (û a)): TI F t0 jr sp (rl+1) V (fC pk (rl+1) t.size) fs rx ql (t++#[wQ]):=by
 have m:∀c∈#[wQ],c.act.touch?=ë:=by
  intro c e;have:c=wQ:=by simpa using e
  rw[this,i];rfl
 have d:=h.C (yW m λc e b _=>by grind);have n:(t++#[wQ])[t.size]?=À wQ:=by rw[ć<|ß _];simp
 have j:∀k,k<=rl->fC pk (rl+1) t.size k=pk k:=λk r=>fK pk _ Z;refine{d with Y:=λk b o=> ?_,I:=λk b o a p=> ?_}
 .by_cases e:k=rl+1
  .subst e;rw[gH];exact⟨by rw[eE n,i],by simp[Ņ,f],⟨F.L,by simp[Ņ,f],by rwa[cO<|ß _]⟩⟩
  .rw[j k Z];exact d.Y k b Z
 .by_cases e:k=rl+1
  .grind [gH,ahd]
  .rw[j k Z];exact d.I k b Z a p
theorem TI.ahh(h:TI F t0 jr sp rl V pk fs rx ql t){x:Nat}(r:x<sp)(d:wQ.g=F.L+x)(f:wQ.act=Ř (Ķ<|fQ F.C))(k:Τ t (F.L+x)=0)(s:¬rx x): TI F t0 jr sp rl V pk fs (λz=>rx z\/z=x) (fC ql x t.size) (t++#[wQ]):=by
 have l:∀c∈#[wQ],c.act.touch?=ë:=by
  intro c a;have:c=wQ:=by simpa using a
  rw[this,f];rfl
 have j:=h.C (yW l λc a b _=>by grind);have b:(t++#[wQ])[t.size]?=À wQ:=by rw[ć<|ß _];simp
 refine{j with r:=λz m n=> ?_};by_cases e:z=x
 .subst e;rw[gH];refine⟨⟨by rw[eE b,f],by simp[Ņ,d],⟨F.L+z,by simp[Ņ,d],by rwa[cO<|ß _]⟩,λi u o=> ?_⟩,λp a q _=>Ç ?_⟩
  .have:=Kv o;simp at this;omega
  .have:=Pg q;simp at this;omega
 .rw[fK ql _ e];exact j.r z m<|n.resolve_right e
def Yd(e:t.act? i=À (Ř<|Ķ a))(f:t.g? i=À k)(h:t.heard i)(l:NoRelease a t)(c:wQ.g=n)(m:wQ.act=Ř (cM a))(o:Τ t n=0):bD (t++#[wQ]) n i:=by
 have b:=Kv f;have d:(t++#[wQ])[t.size]?=À wQ:=by rw[ć<|ß _];simp
 refine⟨t.size,wQ,d,c,Î<|.single<|Î ⟨.marked b (Î<|by rwa[dS b]) (by rw[eE d,m]) λj _ q=> ?_,(heard_old b).2 h,⟨n,by simp[Ņ,c],by rwa[cO<|ß _]⟩⟩⟩;rw[dS q];exact l j
theorem TI.kZ(h:TI F t0 jr sp rl V pk fs rx ql t)(G:wQ.g=0)(o:wQ.act=Ř (cM<|fQ F.C))(H:Τ t 0=0)(k:∀x,x<sp->rx x): (∀p a,Ě (t++#[wQ]) p=À a->a.loc.isMemory=É->bD (t++#[wQ]) 0 p\/((jr a.loc\/∃x:Ú,a.loc=û x/\x.block=F.C)/\a.kind=Ŕ))/\(t++#[wQ]).HandedOver:=by
 have Q:wQ.act.touch?=ë:=by rw[o];rfl
 have s:=λx c=>by let⟨b,_⟩:=h.r x c<|k x c;exact Yd b.act b.g b.heard (h.c _<|Ç U) G o H
 have u:∀p a,Ě (t++#[wQ]) p=À a->p<t.size/\Ě t p=À a:=λp a l=>by rcases mX l with q|⟨_,v,d,w,_⟩;all_goals grind
 have B:∀p q x,t.g? p=À (F.L+x)->t.g? q=À (F.L+x)->p<=q->Before (t++#[wQ]) p q:=λp q x d w S=>by
  rcases Nat.lt_or_ge p q with f|i
  .exact Î<|.single<|Ç ⟨f,_,GA d,GA w⟩
  .exact Ç Z
 refine⟨λp a l I=> ?_,λp g C J K=> ?_⟩
 .let⟨f,d⟩:=u p a l;by_cases e:p<t0
  .rcases h.e p a e d I with q|⟨b,i⟩
   .exact Ç<|q.app _
   .grind
  .rcases h.S p a Z d with q|⟨x,c,q⟩
   .let⟨v,m,n⟩:=ģ.1 q;have:=bn m;rw[n]at this;exact Ç<|this.app _
   .let⟨b,i⟩:=h.r x c<|k x c;rcases i p a d q with z|⟨j,P⟩
    .exact Ç<|Knows.of_before (B p (ql x) x q b.g z)<|s x c
    .grind
 .let⟨z,D,M,N⟩:=K;let⟨f,d⟩:=u p z D;have O:t.g? p=À g:=by rwa[aG f]at C
  have E:=(eu f).1 ⟨z,D,M,N⟩;by_cases e:p<t0
  .let⟨j,b,i⟩:=h.d p g e O J E;exact⟨j,GA b,ek _ i⟩
  .rcases h.S p z Z d with q|⟨x,c,q⟩
   .grind
   .let⟨b,_⟩:=h.r x c<|k x c;let⟨r,v,m,n,i⟩:=s x c;have j:(t++#[wQ]).g? r=À 0:=by unfold Ņ;rw[m];simp[n]
    refine⟨r,j,?_⟩;rcases(B p (ql x) x q b.g<|Nat.le_of_not_lt λP=>b.after p P q E).trans i with P|P;all_goals grind
end
end Go.Proofs.Y.fx
namespace Go.Proofs.Y.fx
open Go Go.Conc Go.Proofs.Y.Lift
open Go.ConcN (sumTo)
structure Ph extends Fx where
 P:Õ
 S:Nat
 n:Nat
 q:Nat
 Y:Nat
 f:Nat
 r:Nat->Nat
 a:Nat->Nat
 b:Nat->Nat
 c:Nat->Â
 z:Â
 B:Nat
 γ:Type
 l:γ
 i:Nat->Prop
 p:Nat->γ->γ->Prop
 d:Nat->γ->(Nat->Prop)->Æ->Prop
 o:Nat->ByteArray
 k:Nat->ByteArray
 g:Nat->(Nat->Nat)->Jd
 h:Nat->Jd
 e:Nat->Nat->Jd
 j:(Nat->Nat)->Jd
inductive nG(F:Ph):Nat->F.γ->Prop
 |vx:nG F 0 F.l
 |DL {k:Nat} {s s':F.γ} (h:nG F k s) (hn:F.p k s s'):nG F (k+1) s'
def ju(F:Ph)(p:Nat):Ú:=⟨F.Y,p,ë⟩
inductive gf where
 |go (j:Nat)|lM (j:Nat)|rd (j:Nat)|iJ (j:Nat)|iO (r:Nat)|kZ (r:Nat)|fE (p:jA)|gl
inductive jD where
 |kR (k:Nat)|mk (k:Nat)|dn (k:Nat) (p:jL)
inductive gQ where
 |nF (r:Nat)|fE (r:Nat) (p:jA)|jO (r:Nat)|oU (r:Nat)
inductive iq where
 |oW|gl (p:jL)|jz (N:Nat)
section
variable(F:Ph)
def GD:Jd:=λl g=>∃N,QuitsD F.P N l.d g
def kF(l:ff):ff:={l with O:=λ_=>False,I:=λ_=>False,r:=λ_=>False,N:=λ_=>False,q:=True}
def A5:Jd:=λl g=>DG F.P Ã F.C (GD F) .jI (kF l) g
def DR(c j r:Nat):Jd:=xj F.P Ã c F.z λx=>match x with
 |some v=>λl g=>v=F.c (j+r*F.n)->qS F.P Ã F.B (F.I<|F.r<|j+r*F.n) (F.e c<|j+r*F.n) .jc l g
 |none=>A5 F
def vC(l:ff)(i:Nat):ff:={l with r:=λa=>l.r a/\a≠ju F (F.a i),N:=λa=>l.N a\/a=ju F (F.a i)}
def qc(l:ff)(k:Nat):ff:={l with O:=λ_=>False,I:=l.M,r:=λa=>l.r a/\a≠ju F (F.b k)/\a≠jj F.toFx k,N:=λa=>l.N a\/a=ju F (F.b k)\/a=jj F.toFx k}
def JW(c j:Nat):gQ->Jd
 |.nF r=>DR F c j r
 |.fE r p=>qS F.P Ã F.B (F.I<|F.r<|j+r*F.n) (F.e c<|j+r*F.n) p
 |.jO r=>F.e c<|j+r*F.n
 |.oU r=>λl g=>l.w.cell? (ju F<|F.a<|j+r*F.n)=À (ħ<|F.k<|j+r*F.n)/\DR F c j (r+1) (vC F l<|j+r*F.n) g
def JI(sg:Nat->F.γ):jD->Jd
 |.kR k=>F.h k
 |.mk k=>λl g=>∃p V,F.p (k-1) (sg<|k-1) p/\F.d k p V l.w/\(∀b,V b->l.M b)/\l.w.cell? (ju F<|F.b k)=À (ħ<|F.o k)/\DG F.P Ã (F.I k) (fl F.P Ã<|F.h k) .jI (qc F l k) g
 |.dn k p=>DG F.P Ã (F.I k) (fl F.P Ã<|F.h k) p
def JE:iq->Jd
 |.oW=>A5 F
 |.gl p=>DG F.P Ã F.C (GD F) p
 |.jz N=>pE F.P N
def Kx(j:Nat)(a:Nat->Nat):Jd:=λl g=>∃c,F.g j (fC a (j-1) c) l g
def Ye(j:Nat)(a:Nat->Nat):Jd:=λl g=>l.d=1/\Gw F.P É (.read<|gZ F.C) (Kx F j a) l g
def Pj(j:Nat)(a:Nat->Nat):Jd:=λl g=>l.d=1/\OY F.P É (fQ F.C) gi (λs=>if s=gi then fl F.P É (Ye F j a)else if gi<s/\s<1000000*gi/\s%gi=0 then fl F.P É (Kx F j a)else λ_ _=>True) l g
def A6(a:Nat->Nat):Nat->Jd
 |0=>qS F.P É F.B F.C (F.j a) .jc
 |r+1=>Kk F.P É (a<|F.n-(r+1))<|A6 a r
def GF(a:Nat->Nat):Nat->Jd
 |0=>A6 F a F.n
 |r+1=>AY F.P É (a<|(F.q-(r+1))%F.n) (F.c<|F.q-(r+1))<|GF a r
def JM(dk:Nat->Nat):gf->Jd
 |.go j=>F.g j dk
 |.lM j=>Kx F j dk
 |.rd j=>Ye F j dk
 |.iJ j=>Pj F j dk
 |.iO r=>GF F dk r
 |.kZ r=>A6 F dk r
 |.fE p=>qS F.P É F.B F.C (F.j dk) p
 |.gl=>F.j dk
def ma(x:Nat)(a:Ú):Prop:=if x=0 then(∃k,1<=k/\k<=F.m/\(a=jj F.toFx k\/a=ju F (F.b k)))else∃i,i<F.q/\i%F.n=x-1/\a=ju F (F.a i)
end
def gf.sp(n:Nat):gf->Nat
 |.go j|.lM j|.rd j|.iJ j=>j
 |_=>n+1
def gf.ad(n:Nat):gf->Nat
 |.iJ j=>j
 |.go j|.lM j|.rd j=>j+1
 |_=>n+1
def gf.mJ(q:Nat):gf->Nat
 |.go _|.lM _|.rd _|.iJ _=>0
 |.iO r=>q-r
 |_=>q
def gf.ji(n:Nat):gf->Nat
 |.kZ r=>n-r
 |.fE _|.gl=>n
 |_=>0
def jA.sX:jA->Nat
 |.wr|.kE=>1
 |_=>0
def gf.gF:gf->Nat
 |.fE p=>p.sX
 |_=>0
def jL.kS:jL->Nat
 |.jI|.iJ=>1
 |_=>0
def iq.kS:iq->Nat
 |.oW=>1
 |.gl p=>p.kS
 |_=>0
def iq.oB:iq->Prop
 |.oW=>False
 |_=>True
def mj:Option iq->Nat
 |none=>1
 |some e=>e.kS
def jL.iB:jL->Prop
 |.jI=>False
 |_=>True
def iq.iB:iq->Prop
 |.oW=>False
 |.gl p=>p.iB
 |_=>True
def jD.md:jD->Nat
 |.kR k=>k
 |.mk k=>k-1
 |.dn k _=>k
def jD.rl:jD->Nat
 |.kR k=>k
 |.mk k=>k-1
 |.dn k .jI=>k-1
 |.dn k _=>k
def jD.od:jD->Nat
 |.kR k=>k
 |.mk k=>k-1
 |.dn k .jI|.dn k .iJ=>k-1
 |.dn k _=>k
def gQ.iR:gQ->Nat
 |.nF r=>r
 |.fE r _|.jO r|.oU r=>r+1
def gQ.kG:gQ->Nat
 |.nF r|.fE r _|.jO r|.oU r=>r
def gQ.gF(F:Ph)(j:Nat)(k:Nat):gQ->Nat
 |.fE r p=>if F.r (j+r*F.n)=k then p.sX else 0
 |_=>0
structure fZ(F:Ph) where
 M:gf
 S:jD
 C:Nat->gQ
 N:Nat->Option iq
 I:Nat->Nat
 c:Nat->F.γ
 V:Nat->Nat->Prop
 e:Nat->Nat
 d:Nat->Option Nat
 f:Nat->Nat
 b:GS
 a:Nat->GS
 g:Option Nat
 h:Nat->Nat
section
variable{F:Ph}
def fZ.r(E:fZ F):Nat:=E.M.sp F.n
def fZ.G(E:fZ F)(x:Nat):Nat:=if x<E.M.ad F.n then mj (E.N x)else 0
def fZ.iB(E:fZ F)(x:Nat):Prop:=∃e,E.N x=À e/\e.iB
def fZ.oB(E:fZ F)(x:Nat):Prop:=∃e,E.N x=À e/\e.oB
def fZ.Y(E:fZ F)(b:Nat):Prop:=F.M b\/b=F.Y\/∃j,j+2<=E.r/\b=E.I j
def tZ(n j Q s:Nat):Prop:=∀i,i<s↔j+i*n<Q
def kM:gf->iD
 |.fE .kE=> .iE
 |_=> .no
def kW(F:Ph)(c:Nat):gQ->iD
 |.nF _=> .sV c F.z
 |.fE _ .kE=> .iE
 |_=> .no
end
structure Ph.Ok(F:Ph):Prop where
 N:1<=F.n
 r:1<=F.L
 gp:F.n+F.q+F.m<1000
 I:∀i,i<F.q->F.r i<=F.m
 M:∀k,k<=F.m->F.I k≠F.C
 S:∀k k',k<=F.m->k'<=F.m->F.I k=F.I k'->k=k'
 C:¬F.M F.Y
 a:∀i i',i<F.q->i'<F.q->F.a i=F.a i'->i=i'
 pi:∀k k',1<=k->k<=F.m->1<=k'->k'<=F.m->F.b k=F.b k'->k=k'
 Pk:∀i k,i<F.q->1<=k->k<=F.m->F.a i≠F.b k
 gy:∀b,F.M b\/b=F.Y->F.S<=b
 Y:(∀k,1<=k->k<=F.m->F.b k≠F.f)/\∀i,i<F.q->F.a i≠F.f
structure iL(F:Ph)(E:fZ F)(lot:Nat->ff)(sz:Nat)(w:Æ):Prop where
 gW:∀i,i<sz->∀a,(lot i).C a->(∃k,k<=F.m/\a=jj F.toFx k)\/∃p,p≠F.f/\a=ju F p
 o:∀x,E.r<=x->x<=F.n->∀a,ma F x a->(lot 0).r a
 lY:E.r<=F.n->(lot 0).N (jj F.toFx 0)/\∀b,F.i b->(lot 0).I b
 e:0<E.r->∀k,E.S.md<k->k<=F.m->(lot F.L).r (jj F.toFx k)/\(lot F.L).r (ju F<|F.b k)
 f:0<E.r->E.N 0=ë->(lot F.L).N (jj F.toFx E.S.md)/\∀b,E.V E.S.md b->(lot F.L).I b
 h:∀j,j+2<=E.r->E.N (j+1)=ë->∀r,j+r*F.n<F.q->(E.C j).kG<=r->(lot<|F.L+1+j).r (ju F<|F.a<|j+r*F.n)
 l:∀j,j+2<=E.r->E.N (j+1)=ë->(lot<|F.L+1+j).N (jj F.toFx 0)/\∀b,F.i b->(lot<|F.L+1+j).I b
 S:∀x,E.oB x->lot (F.L+x)=kF (lot<|F.L+x)
 M:∀i,(i=0\/∃x,x<E.r/\i=F.L+x/\¬E.oB x)->¬(lot i).q
 c:∀i,0<i->i<F.L->lot i=kF (lot i)
 I:∀k,k<=E.S.md->∀b,E.V k b->b<w.heap.size/\¬E.Y b/\∀i,i<sz->¬(lot i).O b
 N:∀k,k<=E.S.md->∀i,i<sz->¬(lot i).r (jj F.toFx k)
 g:∀k,1<=k->k<=E.S.md->∀i,i<sz->¬(lot i).r (ju F<|F.b k)
 d:∀j,j+2<=E.r->∀r,j+r*F.n<F.q->r<(E.C j).kG->∀i,i<sz->¬(lot i).r (ju F<|F.a<|j+r*F.n)
structure Wd(F:Ph)(E:fZ F)(w:Æ):Prop where
 C:ij w F.C E.b
 I:∀k,k<=F.m->ij w (F.I k) (E.a k)
 jM:∀j,j+2<=E.r->∃buf s,w.heap[E.I j]?=À (χ F.q buf (decide<|j<E.M.ji F.n) s (E.C j).iR Ã)/\tZ F.n j (E.M.mJ F.q) s/\(E.C j).iR<=s/\buf.size=s-(E.C j).iR/\∀i,i<s-(E.C j).iR->buf[i]?=À (F.c<|j+((E.C j).iR+i)*F.n)
 M:∀k,k<=E.S.md->nG F k (E.c k)/\F.d k (E.c k) (E.V k) w
 S:∀k,1<=k->k<=E.S.md->w.cell? (ju F<|F.b k)=À (ħ<|F.o k)
 N:∀j,j+2<=E.r->∀r,j+r*F.n<F.q->r<(E.C j).kG->w.cell? (ju F<|F.a<|j+r*F.n)=À (ħ<|F.k<|j+r*F.n)
structure Ps(F:Ph)(E:fZ F):Prop where
 v:E.V 0=F.i
 C:∀j,E.M=.go j\/E.M=.lM j\/E.M=.rd j\/E.M=.iJ j->j<=F.n
 K:∀j,E.M=.lM j\/E.M=.rd j\/E.M=.iJ j->1<=j
 L:∀r,(E.M=.iO r->r<=F.q)/\(E.M=.kZ r->r<=F.n)
 J:E.r=0->E.S=.kR 0
 I:∀k,(E.S=.kR k->k<=F.m)/\(E.S=.mk k->1<=k/\k<=F.m)/\(∀p,E.S=.dn k p->1<=k/\k<=F.m)
 z:∀j,E.r<j+2->E.C j=.nF 0
 d:∀j r,j+2<=E.r->((∃p,E.C j=.fE r p)\/E.C j=.jO r\/E.C j=.oU r)->j+r*F.n<F.q
 l:∀j,j+2<=E.r->E.N (j+1)≠ë->j<E.M.ji F.n/\∃r,E.C j=.nF r/\∀i,j+i*F.n<F.q->i<r
 f:E.N 0≠ë->E.S=.kR F.m
 h:∀x,E.r<=x->E.N x=ë
 M:∀j j',j+2<=E.r->j'+2<=E.r->E.I j=E.I j'->j=j'
 o:∀j,j+2<=E.r->¬F.M (E.I j)/\E.I j≠F.Y/\F.S<=E.I j
 t:∀c reg,E.b=.cl c reg->c=bE (F.n+1) E.G/\reg=E.M.gF
 g:∀reg,E.b=.jK reg->bE (F.n+1) E.G=0/\reg=E.M.gF/\∃x,x<E.r/\E.g=À x/\(E.N x=À (.gl (.gD reg))\/E.N x=À (.gl (.jg reg)))
 u:∀r s,E.b=.hD r s->bE (F.n+1) E.G=0/\r+s=E.M.gF/\(0<r->∃x,x<E.r/\E.g=À x/\E.N x=À (.gl (.iE r)))
 N:∀x p,E.N x=À (.gl p)->(∀W,p=.gD W\/p=.jg W->E.g=À x/\E.b=.jK W)/\(∀r,p=.iE r->0<r/\E.g=À x/\∃s,E.b=.hD r s)
 B:E.M=.fE .gD\/E.M=.fE .lq\/E.M=.gl->bE (F.n+1) E.G=0
 e:∀k,1<=k->k<=F.m->E.S.od<k->E.a k=.cl 1 (bE F.n λj=>(E.C j).gF F j k)
 Y:∀k,k<=F.m->k<=E.S.od->(∃W,(E.S=.dn k (.gD W)\/E.S=.dn k (.jg W))/\E.a k=.jK W/\W=bE F.n λj=>(E.C j).gF F j k)\/(∃r s,E.S=.dn k (.iE r)/\0<r/\E.a k=.hD r s/\r+s=bE F.n λj=>(E.C j).gF F j k)\/((∀p,E.S≠ .dn k p)/\((E.a k=.cl 0 0/\(bE F.n λj=>(E.C j).gF F j k)=0)\/∃s,E.a k=.hD 0 s/\s=bE F.n λj=>(E.C j).gF F j k))
 w:∀j r,j+2<=E.r->(E.C j=.fE r .gD\/E.C j=.fE r .lq\/E.C j=.jO r)->F.r (j+r*F.n)<=E.S.od
 H:∀j r,j+2<=E.r->E.C j=.fE r .gD->∃a b,E.a (F.r<|j+r*F.n)=.hD a b
 O:E.M=.fE .gD->∃a b,E.b=.hD a b
 S:(∀p,E.M≠ .fE p)->E.M≠ .gl->∃c,E.b=.cl c 0
 y:∀k,k<=F.m->E.a k=.cl 1 0->E.d k=ë
 D:∀j r,j+2<=E.r->E.C j=.fE r .wr->E.d (F.r<|j+r*F.n)=À j
def fj(F:Ph)(E:fZ F)(a:Array Ó)(w:Æ):Prop:=∀i g,a[i]?=À g->g.status=Ů->
 (i=0/\E.M=.fE .kE/\E.b.sm=0)\/(∃j,j+2<=E.r/\E.N (j+1)=ë/\i=F.L+1+j/\((∃r,E.C j=.fE r .kE/\(E.a<|F.r<|j+r*F.n).sm=0)\/∃r b s c,E.C j=.nF r/\w.heap[E.I j]?=À (χ b #[] Ã s c Ã)))
structure PI(F:Ph)(t0:Nat)(jr:dU->Prop)(E:fZ F)(S:Nat->Jd)(tr:Nat->gB)(kp:Nat->iD)(lot:Nat->ff)(gs:Array Ó)(w:Æ)(t:ğ):Prop where
 b:gs.size=F.L+E.r
 I:gP F.P F.S E.Y S tr kp lot gs w t
 h:S 0=JM F E.I E.M/\kp 0=kM E.M
 m:0<E.r->E.N 0=ë->S F.L=JI F E.c E.S/\kp F.L=.no
 g:∀j,j+2<=E.r->E.N (j+1)=ë->S (F.L+1+j)=JW F (E.I j) j (E.C j)/\kp (F.L+1+j)=kW F (E.I j) (E.C j)
 k:∀x e,x<E.r->E.N x=À e->S (F.L+x)=JE F e/\kp (F.L+x)=.no/\((∃N,e=.jz N)->tr (F.L+x)=.fD)
 l:∀i,0<i->i<F.L->S i=pE F.P (E.h i)/\tr i=.fD/\kp i=.no
 a:iL F E lot gs.size w
 M:Wd F E w
 C:Ps F E
 d:TI F.toFx t0 jr E.r (E.S.rl) E.V E.e E.d E.iB E.f t
 c:fj F E gs w
 f:∀j r,j+2<=E.r->E.C j=.jO r->1<=F.r (j+r*F.n)->bD t (F.L+1+j) (E.e<|F.r<|j+r*F.n)
structure gU(F:Ph):Prop where
 C:F.Ok
 S:∀k s V w w',F.d k s V w->(∀b,V b->w'.heap[b]?=w.heap[b]?)->w'.cell? (jj F.toFx k)=w.cell? (jj F.toFx k)->w'.cell? (ju F F.f)=w.cell? (ju F F.f)->kY w' F.Y=kY w F.Y->(w'.os=w.os/\w'.output=w.output)->F.d k s V w'
 GG:∀j dk l g w₁,F.g j dk l g->fI l l.w w₁->F.g j dk {l with w:=w₁} g
 I:∀j dk l g,F.g j dk l g->g.status=Ð
 N:∀k l g,F.h k l g->g.status=Ð
 Y:∀c i l g,F.e c i l g->g.status=Ð
 M:∀dk l g,F.j dk l g->g.status=Ð
 go:∀j dk l g,j<=F.n->F.g j dk l g->gC l->l.d=0/\∃(g' child:Ó) (X:Nat->Prop),g'.status=Ð/\child.status=Ð/\(∀w₁,Ù F.P É g w₁=.spawn g' child w₁ #[])/\(∀b,X b->l.O b)/\
  (1<=j->l.O (dk<|j-1)/\¬X (dk<|j-1)/\l.w.heap[dk<|j-1]?=À (χ F.q #[] Ã 0 0 Ã)/\F.S<=dk (j-1))/\
  (∀l':ff,gC l'->(∀b,X b\/l.I b->l'.I b)->l'.w=l.w->l'.d=0->¬l'.q->(∀b,¬l'.O b)->l'.K=l.K->l'.N=l.N->(∀a,l'.r a->l.r a)->fl F.P Ã (if j=0 then F.h 0 else DR F (dk<|j-1) (j-1) 0) l' child)/\
  (∀l':ff,gC l'->l'.O=(λb=>l.O b/\¬X b/\(1<=j->b≠dk (j-1)))->(∀b,X b\/l.I b->l'.I b)->l'.w=l.w->l'.d=0->l'.q=l.q->l'.K=l.K->l'.N=l.N->(∀a,l'.r a->l.r a)->fl F.P É (JM F dk<|if j<F.n then .iJ (j+1)else .iO F.q) l' g')
 f:∀k s V l g,k<F.m->F.h k l g->gC l->nG F k s->F.d k s V l.w->(∀b,V b->l.I b)->l.N (jj F.toFx k)->l.r (jj F.toFx<|k+1)->l.r (ju F<|F.b<|k+1)->∀sg:Nat->F.γ,sg k=s->fl F.P Ã (JI F sg<|.mk (k+1)) l g
 h:∀l g,F.h F.m l g->gC l->fl F.P Ã (A5 F) l g
 e:∀c j r s V l g,j+r*F.n<F.q->F.e c (j+r*F.n) l g->∀l':ff,gC l'->l'.O=l.O->(∀b,l.I b\/V b->l'.I b)->l'.w=l.w->l'.d=l.d->l'.q=l.q->l'.r=l.r->l'.K=l.K->nG F (F.r<|j+r*F.n) s->F.d (F.r<|j+r*F.n) s V l.w->l'.N (jj F.toFx<|F.r<|j+r*F.n)->l'.r (ju F<|F.a<|j+r*F.n)->fl F.P Ã (JW F c j<|.oU r) l' g
end Go.Proofs.Y.fx
