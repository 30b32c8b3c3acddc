/- Undone: the texts of the proof, packed by program out of some 250: remarks struck, names and blanks shortened, for the limit of a claim's size. -/
import Derived.KernelRfl
import Derived.Conc.Own
import Derived.Conc.Events
import Derived.Laws.Sem
import Derived.Conc.Own5
import Derived.Conc.CompanyDraw
import Derived.Conc.Know
import Derived.Conc.Beside
import Derived.Conc.MarkLaws
import Derived.Conc.CrowdComm
import Derived.Conc.CrowdTrace
import Derived.Conc.CrowdBase
set_option linter.all false
set_option maxRecDepth 1000000
set_option maxHeartbeats 8000000
open Option renaming some->À,none->ë,map_eq_some_iff->ģ,map_some->bH
open Go renaming TypeId->Á,Value->Â,World->Æ,Goroutine->Ó,Program->Õ,Operand->Ö,stepG->Ù,Addr->Ú,FuncId->à,execOp->ì,underlying->ø,resolve->ù,IntKind->ú,Event->ý,run_program->ă,variablesAt->Ą,invoke->č,builtin->Ē,Sem->ē,loadBytes->ĕ,Frame->Ę,Trace->ğ,BinOp->ġ,results->Ī,behindNumber->Į,FloatKind->ı,callFunc->ĵ,undef->ľ,yielded->ł,loadCellsFrom->Ō,convert->Œ,movedNumber->ŕ,Item->ś,movedPointer->Ţ,binOp->Ũ,elemOf->Ū,sameAddr->Ŭ,deafBehind->ŭ,eqGuard->ŷ,typeInfo->Δ,partners->Η,RuntimeError->Ι,storeCells->Κ,Next->Ο,cellAtBytes->ξ,choose->π,Tape->ψ,zeroValue->ω,loadVar->ae,Code->ak,store->ar,Oper->av,BoundsCode->ax,sizeOf->ay,storeVar->aJ,nilAhead->aR,lone->aU,load->aX,noView->aY,liesAt->aZ,findLabel->bj,stringish->bm,Unsupported->br,followBlind->bx,Act->bF,askRoom->bP,Machine->bR,Question->bU,asBool->bW,asAddr->bX,fieldPlace->bY,numberAt->b9,asNumber->cg,getObj->cu,shape->cw,exitTo->cD,gotoIn->cE,mayBeOne->cK,runT->cZ,MemOp->c8,loadCells->c9,rowAt->da,program->df,asIntOf->dh,viewAt->dm,byteOf->dq,unwind->dx,runN->dy,cellsIn->dz,asInt->dD,TypeDesc->dI,runN_add->dL,Touch->dO,step->dS,Loc->dT,newRow->dU,PanicEntry->eh,isAgg->ey,Race->eG,newVar->eM,asAgg->eN,newObj->eO,frozen->eP,freeze->eX
open Bool renaming false->Ã,false_eq_true->Å,true->É,and_eq_true_iff->Ü,not_true->þ,not_false->Ă,and_eq_true->ě,or_eq_true_iff->Ŝ,eq_iff_iff->Χ,or_eq_true->bI
open Go.Sem renaming run_bind->Ä,runT_bind'->Ñ,run->ã,bind->ç,runT->é,run_bind'->Ĵ,bind_assoc'->ř,runT_eq->ź,runT_fst->Ρ,pure->aI,store->dc,halt->ew
open Or renaming inl->Ç,inr->Î
open Go.Result renaming andThen_ok->È,ok->ĥ,halt->bV
open Go.Op renaming operands->Ê,equal->ó,maxDepth->ā,eqGuardIn->į,twoPlaces->š,equalIn->Λ,addrSub->Μ,addrCmp->Ν,addrMod->Ξ,call->Ω,intDiv->ah,shift->aK,convert->aN,stringOp->bu,unary->bZ,makeInterface->cJ,floatArith->cU,complexOp->dr,buildSlice->dF,intArith->dG,floatCmp->dH,binOp->dV,makeSlice->dW,fieldAddr->dX,indexAddr->dY,intBits->ea,nilCheck->eD,intCmp->eE
open Array renaming getElem?_eq_some_iff->Ë,getElem?_setIfInBounds_ne->Ï,getElem?_setIfInBounds_self_of_lt->Ò,mem_of_getElem?->Û,getElem?_eq_getElem->Ý,getElem?_append_right->ć,empty_append->Ď,append_empty->ď,mapM_eq_mapM_toList->Ĕ,mem_append->Ĝ,getElem?_push_lt->Ģ,getD_eq_getD_getElem?->ĩ,replicate->ĺ,append_assoc->Ļ,append_singleton->Ł,all_eq_true->Ń,getElem?_modify->Ň,mem_iff_getElem->ŉ,getElem?_setIfInBounds->Ś,getElem_map->ŵ,getElem_extract->κ,forIn_toList->aE,range->dE
open Go.stepG renaming exec->Ì,apply->bC
open Go.MemOp renaming ofEvents->Í
open Go.GoStatus renaming running->Ð,finished->Ğ,blocked->Ů
open Nat renaming lt_of_lt_of_le->Ô,le_refl->ß,le_trans->õ,exists_eq_add_of_le->Ε,div_le_div_right->ο,add_assoc->cQ,le_of_eq->dB,zero_le->dC
open List renaming map_toArray->Ø,map_cons->â,map_nil->ä,mem_cons_self->î,mem_cons_of_mem->ò,eq_nil_of_length_eq_zero->Ā,zipIdx_cons->Ĭ,mem_cons->œ,mem_singleton->ū,foldlM_cons->Ζ,filter_eq_nil_iff->Υ,foldlM_nil->ζ,forIn_cons->η,mapM_cons->ν,forIn_nil->φ,map_eq_nil_iff->aj,flatMap_cons->aV,mapM_nil->cS
open Go.Value renaming pointer->Þ,int->Ć,string->ħ,bool->Ľ,tuple->ſ,nilIface->aW,slice->bS,nilFunc->bT,chan->eu,func->eL
open Go.Item renaming inRegion->á,code->Đ,inLoop->dt,inBlock->dJ,inScope->dK
open Go.Act renaming eval->å
open Go.IntKind renaming u64->æ,i64->Ŋ,u32->ŗ
open Go.MemAct renaming ofEvent->è,touch?->ÿ,mark->Ř
open Go.Builtin renaming unsafeString_->ê,unsafeAdd_->ñ,unsafeSliceData_->ė,min2->Ĳ,append_->ĸ,firstCells->ļ,min_->ń,copy_->ő,len_->ş,cap_->Š,zeroCells->Ŷ,lenOf->Α,holdsCells->aB,mayShare->bb,unsafeSliceData->bl,unsafeString->cX
open Go.Conc renaming mem_ofEvents->í,touchAt->Ě,crowd->ķ,woken->ţ,stepG_region_draw->Ż,parked->Γ,Deaf->Τ,rcase->θ,stepG_unwanted->υ,g?_old->aG,knows_own->bn,deafBehind_still->bq,stepG_value->bA,stepG_enter->bB,Knows->bD,stepG_cond->cF,mem_listed->cG,stepG_none->cH,enter_at->cI,deaf_old->cO,touch_of->dP,act?_old->dR,hb_app->ei,touch_mute->ek,counts_old->ep,act?_of->eC
open Go.Next renaming value->ï,enter->ũ,skip->aH
open Go.TypeDesc renaming pointer->ð,unsafePointer->đ,string->ę,int->Β,struct->di,slice->dj
open Go.Call renaming operands->ô
open Go.Conv renaming unsafePointer->ö,bytesToString->ü,seenAt->Ž,runesToString->aF,floatToFloat->aQ,intToString->bh,floatToInt->bK,intToInt->cV
open Go.Loc renaming cell->û,mark->ů
open Ne renaming symm->ą
open Go.World renaming frozen?->Ĉ,setCell->ĉ,freeze->Ė,cell?->Ġ,farLoad->ŋ,farStore->Ŧ,shape?->Θ,setChan->au,noCell->aP,viewStore->bJ
open Go.Extern.BytealgMakeNoZero renaming makeNoZero->Ċ,digits->ņ
open Go.Mode renaming atomic->ċ,plain->Ť
open Go.Obj renaming cells->Č,pending->Ÿ,chan->χ
open Go.Callee renaming builtin->ĝ,value->cj
open Option.some renaming inj->Ĥ,injEq->ž
open Go.Region renaming wanted->Ħ,schedule->bM,Mode->eJ
open Go.Instr renaming sliceBounds->Ĩ,sliceBound->ī,buildSlice->ĭ,storeAt->ĳ,makeSlice->Ĺ,extract->ō,fieldAt->Ŏ,indexAt->ŏ,sliceAt->Ő,makeInterface->ŝ,loadAt->Ş,sureAddr->ŧ,alloc->Ű,field->ű,slice->Ų,index->ų,build->Ŵ,panic->ż,box->ag,fill->az
open Go.Deferred renaming ofValue->İ
open Go.Mark renaming releaseMerge->Ķ,disable->cL,acquire->cM,noRoom->de,enable->dA,release->dQ
open Go.Extern.AbiNoEscape renaming same->Ŀ
open Go.Halt renaming unsupported->ŀ
open Go.Trace renaming g?->Ņ
open Go.Stepped renaming next->ň
open Go.Touch.Kind renaming atomic->Ŕ,plain->eZ
open Go.Frame renaming raise->Ŗ,finish_at->ε,finish->aT,catches->cW,enter->dM
open Go.Unsupported renaming unsafePointer->ť
open Go.GStep renaming after->Ź,go->aS,ended->eV
open Go.Goroutine renaming again->ι
open Except renaming bind->ρ,pure->ς,error->bG,map->cm
open Go.Op.Complex renaming corrected->σ,quotient->ai,product->aC,arith->bg,conv->bL,cmp->cx,mul->cy,add->cz,sub->cA,quo->cB
open Go.BinOp renaming eql->aA,neq->aL
open Go.Operand renaming func->aO,const->dZ,global->ez
open Go.Code renaming cond->bz,region->bQ,refuse->dw,label->eb,block->ec,scope->ef,skip->eR,loop->eS,exit->eT,goto->eU
open Go.ConcN renaming sumTo->bE,fork_knows->cP
variable{i n j b k m J j9 j7 j6:Nat}{w u W jX:Æ}{v x z jQ:Â}{g:Ó}{a p:Ú}{h c:Int}{e t T:Á}{d q:Array Â}{P:Õ}{y:bF}{B:ByteArray}{X:Nat->Prop}{O:Option Ú}{l:List Â}{yQ:Bool}{K H:bF->Æ->Prop}{o:av}{D:Nat->Nat}{E:Array Ó}{L:List ś}{jJ:List Nat}{qX:List Ę}{qQ:Ö}{qJ:ğ}{zX:dT->Prop}{zQ:List Int}{zJ:Go.TypeInfo}{xX:Ö->Â}{xQ:ψ}{xJ:Nat×Nat}{wX:ak}{wQ:c8}{wJ:Array Bool}{vX:List ByteArray}{vQ:Â->Æ->Prop}{vJ:Go.Exit->bF->Æ->Prop}{yX:eJ}{Q:Array av}{f:Ę}{V:Array ý}{F:à}{s:Go.Func}
namespace Go.Proofs
theorem U{A:Sort _}{a:A}:a=a:=rfl
theorem Z{p:Prop}(h:p:=by omega):p:=h
theorem A{p:Prop}(h:p:=by decide):p:=h
theorem fl{p:Prop}(h:p:=by simp):p:=h
theorem ft{p:Prop}(h:p:=by kernel_rfl):p:=h
theorem fP{p:Prop}(h:p:=by rfl):p:=h
end Go.Proofs
namespace Go.Proofs.Y.Lift
open Go
abbrev fg{α:Type}:α->Prop:=λ_=>False
structure fw where
 jG:Nat->Nat->Prop
 C:Nat
instance:CoeFun fw λ_=>Nat->Nat->Prop:=⟨fw.jG⟩
def Bi(Y:fw):Prop:=(∀i j a,Y i j->Y i a->j=a)/\(∀i a j,Y i j->Y a j->i=a)/\(∀i j,Y i j->(i<Y.C↔j<Y.C))
def fw.r(Y a:fw):Prop:=(∀i j,Y i j->a i j)/\(Bi Y->Bi a)/\a.C=Y.C
def fw.N(Y:fw)(r a:Nat):fw:=⟨λi j=>Y i j\/(i=r/\j=a),Y.C⟩
def fw.M(Y:fw):Y.r Y:=⟨λ_ _ h=>h,id,U⟩
theorem fw.I{a b c:fw}(h:a.r b)(k:b.r c):a.r c:=⟨λi j x=>k.1 i j<|h.1 i j x,λx=>k.2.1<|h.2.1 x,k.2.2.trans h.2.2⟩
theorem fw.S{Y:fw}{r:Nat}(c:∀j,¬Y r j)(d:∀a,¬Y a i)(f:Y.C<=r)(g:Y.C<=i):Y.r (Y.N r i):=by
 refine⟨λ_ _ h=>Ç h,λb=>⟨?_,?_,?_⟩,U⟩
 .rintro a j k (x|⟨rfl,rfl⟩) (y|⟨e,rfl⟩)
  .exact b.1 _ _ _ x y
  .grind
  .grind
  .rfl
 .rintro a k j (x|⟨rfl,rfl⟩) (y|⟨rfl,e⟩)
  .exact b.2.1 _ _ _ x y
  .grind
  .grind
  .rfl
 .rintro a j (x|⟨rfl,rfl⟩)
  .exact b.2.2 _ _ x
  .show(a<Y.C↔j<Y.C);omega
def hD(Y:fw)(a b:Ú):Prop:=Y a.block b.block/\a.off=b.off/\a.spot=b.spot
def hD.r{Y b:fw}(h:Y.r b)(r:hD Y a p):hD b a p:=⟨h.1 _ _ r.1,r.2⟩
def hD.C{Y:fw}(r:hD Y a p)(n:Nat):hD Y (a.add n) (p.add n):=by
 let⟨b,c,d⟩:=r;unfold Addr.add;by_cases e:n=0
 .rw[if_pos e,if_pos e];exact⟨b,c,d⟩
 .rw[if_neg e,if_neg e];exact⟨b,by simp[c],U⟩
inductive fp(Y:fw):Â->Â->Prop
 |mG (b:Bool):fp Y (Ľ b) (Ľ b)
 |iG (k:ú) (n:Int):fp Y (Ć k n) (Ć k n)
 |ko (s:ByteArray):fp Y (ħ s) (ħ s)
 |lW:fp Y (Þ ë) (Þ ë)
 |jT {a a':Ú} (h:hD Y a a'):fp Y (Þ<|À a) (Þ<|À a')
 |oz (n c:Nat):fp Y (bS ë n c) (bS ë n c)
 |kP {a a':Ú} (h:hD Y a a') (n c:Nat):fp Y (bS (À a) n c) (bS (À a') n c)
 |vv:fp Y bT bT
 |fn (f:Fn):fp Y (eL f #[] #[]) (eL f #[] #[])
 |vw:fp Y aW aW
 |vx:fp Y (eu ë) (eu ë)
 |vy:fp Y (.map ë) (.map ë)
 |yJ (t:Á) {v v':Â} (h:fp Y v v'):fp Y (.iface t v) (.iface t v')
 |oO {cs lX:Array Â} (hs:cs.size=lX.size) (h:∀i (h1:i<cs.size) (h2:i<lX.size),fp Y cs[i] lX[i]):fp Y (.agg cs) (.agg lX)
 |nT {cs lX:Array Â} (hs:cs.size=lX.size) (h:∀i (h1:i<cs.size) (h2:i<lX.size),fp Y cs[i] lX[i]):fp Y (ſ cs) (ſ lX)
def fp.fR{Y a:fw}(h:Y.r a)(r:fp Y v x):fp a v x:=by
 induction r with
 |mG b=>exact .mG b
 |iG k n=>exact .iG k n
 |ko s=>exact .ko s
 |lW=>exact .lW
 |jT b=>exact .jT (b.r h)
 |oz n c=>exact .oz n c
 |kP b n c=>exact .kP (b.r h) n c
 |vv=>exact .vv
 |fn f=>exact .fn f
 |vw=>exact .vw
 |vx=>exact .vx
 |vy=>exact .vy
 |yJ t _ b=>exact .yJ t b
 |oO c _ b=>exact .oO c b
 |nT c _ b=>exact .nT c b
structure fT(Y:fw)(cs lX:Array Â):Prop where
 r:cs.size=lX.size
 C:∀i (h1:i<cs.size) (h2:i<lX.size),fp Y cs[i] lX[i]
def fT.I{Y a:fw}(h:Y.r a){cs:Array Â}(r:fT Y cs d):fT a cs d:=⟨r.r,λi b c=>(r.C i b c).fR h⟩
theorem fT.S{Y:fw}(r:fT Y d q)(i:Nat):(d[i]?=ë/\q[i]?=ë)\/∃v b,d[i]?=À v/\q[i]?=À b/\fp Y v b:=by
 by_cases h:i<d.size
 .have a:i<q.size:=by rwa[<-r.r]
  exact Î ⟨d[i],q[i],Ý h,Ý a,r.C i h a⟩
 .have a:¬i<q.size:=by rwa[<-r.r]
  grind
def fT.N(Y:fw):fT Y #[] #[]:=⟨U,λi h=>absurd h fl⟩
theorem fT.Vy{Y:fw}(r:fT Y d q)(h:fp Y v x):fT Y (d.push v) (q.push x):=by
 refine⟨by simp[r.r],λi b c=> ?_⟩;simp only[Array.getElem_push];have e:=r.r;by_cases a:i<d.size
 .rw[dif_pos a,dif_pos Z];exact r.C i a Z
 .grind
theorem fT.qN{Y:fw}(r:fT Y d q)(n:Nat)(h:fp Y v x):fT Y (d.setIfInBounds n v) (q.setIfInBounds n x):=by
 refine⟨by simp[r.r],λi c e=> ?_⟩;have f:i<d.size:=by simpa using c
 have g:i<q.size:=by simpa using e
 have a:(d.setIfInBounds n v)[i]?=if n=i then À v else d[i]?:=by grind
 have b:(q.setIfInBounds n x)[i]?=if n=i then À x else q[i]?:=by grind
 rw[Ý c]at a;rw[Ý e]at b;by_cases j:n=i
 .grind
 .rw[if_neg j]at a b;rw[Ý f]at a;rw[Ý g]at b;injection a with a;injection b with b;rw[a,b];exact r.C i f g
def fT.tW{Y:fw}{cs b:Array Â}(r:fT Y cs d)(t:fT Y q b):fT Y (cs++q) (d++b):=by
 refine⟨by simp[r.r,t.r],λi c g=> ?_⟩;have e:=r.r;have f:=t.r;simp only[Array.getElem_append];by_cases a:i<cs.size
 .rw[dif_pos a,dif_pos Z];exact r.C i a Z
 .rw[dif_neg a,dif_neg Z];have:=t.C (i-cs.size) (by simp at c;omega) (by simp at c;omega);simpa[e]using this
def fT.FY{Y:fw}(r:fT Y d q)(a b:Nat):fT Y (d.extract a b) (q.extract a b):=by refine⟨by simp[r.r],λi c e=> ?_⟩;rw[κ ..,κ ..];exact r.C _ _ _
def fT.M{Y:fw}(h:fp Y v x):fT Y #[v] #[x]:= ⟨U,λi a b=>by have:i=0:=(by simpa using a);subst this;exact h⟩
def fp.gU{Y:fw}(h:fp Y v x):fT Y v.cells x.cells:=by
 cases h with
 |oO a h=>exact⟨a,h⟩
 |mG b=>exact fT.M<|.mG b
 |iG k n=>exact fT.M<|.iG k n
 |ko s=>exact fT.M<|.ko s
 |lW=>exact fT.M .lW
 |jT b=>exact fT.M<|.jT b
 |oz n c=>exact fT.M<|.oz n c
 |kP b n c=>exact fT.M<|.kP b n c
 |vv=>exact fT.M .vv
 |fn f=>exact fT.M<|.fn f
 |vw=>exact fT.M .vw
 |vx=>exact fT.M .vx
 |vy=>exact fT.M .vy
 |yJ t b=>exact fT.M<|.yJ t b
 |nT a h=>exact fT.M<|.nT a h
def yK:Â->Bool
 |.agg _|ſ _=>Ã
 |_=>É
def FZ(e:Á)(n:Nat):Prop:=(e=304\/e=305)/\n<=16
class AO (P:Õ):Prop where
 lt:∀e n,FZ e n->n<P.cellsOf e
def Db(e:Á)(n a:Nat):Prop:=n=a\/(n<=a/\FZ e n)
structure pg(Y:fw)(s:Prop)(e:Á)(c c':Array Â):Prop where
 r:∀i (_:i<c.size) (_:i<c'.size),fp Y c[i] c'[i]
 I:c.size<=c'.size
 C:c.size=c'.size\/(s/\FZ e c.size)
section
variable{Y d:fw}{s:Prop}{c c':Array Â}
def pg.M(h:fT Y c c'):pg Y s e c c':=⟨h.C,by rw[h.r];exact ß _,Ç h.r⟩
def pg.N(h:pg Y s e c c')(a:¬s):fT Y c c':=⟨h.C.resolve_right λq=>a q.1,h.r⟩
def pg.fR(h:pg Y s e c c')(l:Y.r d):pg d s e c c':=⟨λi a b=>(h.r i a b).fR l,h.I,h.C⟩
theorem pg.AP(h:pg Y s e c c')(i:Nat):(c[i]?=ë/\True)\/∃v a,c[i]?=À v/\c'[i]?=À a/\fp Y v a:=by
 by_cases q:i<c.size
 .have b:=Ô q h.I;exact Î ⟨c[i],c'[i],Ý q,Ý b,h.r i q b⟩
 .grind
def pg.adN(h:pg Y s e c c'):Db e c.size c'.size:=h.C.imp id λq=>⟨h.I,q.2⟩
end
inductive fI(P:Õ){α:Type}(V:fw->α->α->Prop):fw->ē α->ē α->Prop
 |fD {Y:fw} {a a':α} (h:V Y a a'):fI P V Y (aI a) (aI a')
 |gB {Y:fw} {a a':Ú} {k k':Â->ē α} (ha:hD Y a a') (hk:∀v v',fp Y v v'->fI P V Y (k v) (k' v')):fI P V Y (.load Ť a k) (.load Ť a' k')
 |jf {Y:fw} {a a':Ú} {v v':Â} {k k':ē α} (ha:hD Y a a') (hv:fp Y v v') (hk:fI P V Y k k'):fI P V Y (dc Ť a v k) (dc Ť a' v' k')
 |yL {Y:fw} {c c':Array Â} {e:Á} {k k':Nat->ē α} (hc:fT Y c c') (hk:∀r r',(∀j,¬Y r j)->(∀i,¬Y i r')->Y.C<=r->Y.C<=r'->fI P V (Y.N r r') (k r) (k' r')):fI P V Y (.new (Č c e) k) (.new (Č c' e) k')
 |vz {Y:fw} {r r':Nat} {k k':Option (TypeId×Nat)->ē α} (hr:Y r r') (hk:∀e n n',Db e n n'->fI P V Y (k<|À (e,n)) (k'<|À (e,n'))):fI P V Y (.shape r k) (.shape r' k')
 |NV {Y:fw} {a a':Ú} {k k':Bool->ē α} (ha:hD Y a a') (hk:∀b b',(b'=É->b=É)->fI P V Y (k b) (k' b')):fI P V Y (.frozen a k) (.frozen a' k')
 |AQ {Y:fw} {q:bU} {k k':Nat->ē α} (hk:∀n,fI P V Y (k n)<|k' n):fI P V Y (.choose q k) (.choose q k')
 |Ju {Y:fw} {k k':Õ->ē α} (hk:fI P V Y (k P) (k' P)):fI P V Y (.program k) (.program k')
 |Dc {Y:fw} {m:Mark} {k k':ē α} (hm:m=de\/∃f,m=.extern f) (hk:fI P V Y k k'):fI P V Y (.mark m k) (.mark m k')
 |fS {Y:fw} {h:Halt} {m:ē α}:fI P V Y (ew h) m
 |oP {Y:fw} {m m':ē α} (h:∀u x u',m.run P u≠ĥ x u'):fI P V Y m m'
def wT{α β:Type}{m:ē α}{f:α->ē β}(h:∀u x b,m.run P u≠ĥ x b):∀u x b,(m.bind f).run P u≠ĥ x b:=by
 intro u x b e;have c:(m>>=f).run P u=ĥ x b:=e;rw[Ä]at c;cases d:m.run P u with
 |ok a w=>exact h _ _ _ d
 |halt z w=>rw[d]at c;cases c
def fI.lG{α β:Type}{V:fw->α->α->Prop}{l:fw->β->β->Prop}{Y:fw}{m o:ē α}{f p:α->ē β}(h:fI P V Y m o) (g:∀i a k,Y.r i->V i a k->fI P l i (f a) (p k)):fI P l Y (m.bind f) (o.bind p):=by
 induction h with
 |fD h=>exact g _ _ _ (fw.M _) h
 |gB j _ d=>exact .gB j λv c b=>d v c b g
 |jf j b _ d=>exact .jf j b (d g)
 |yL q _ d=>exact .yL q λr s c e n v=>d r s c e n v λi a k t b=>g i a k (fw.I (fw.S c e n v) t) b
 |vz b _ d=>exact .vz b λe n v c=>d e n v c g
 |NV j _ d=>exact .NV j λb c v=>d b c v g
 |AQ _ d=>exact .AQ λn=>d n g
 |Ju _ d=>exact .Ju (d g)
 |Dc c _ d=>exact .Dc c (d g)
 |fS=>exact .fS
 |oP h=>exact .oP (wT h)
def yM:Â->Bool
 |Ć .u8 _=>É
 |_=>Ã
def Dd(c:Array Â):Prop:=∀(k:Nat) (v:Â),c[k]?=À v->yM v=Ã
structure jk(Y:fw)(Sh:Nat->Prop)(u w:Æ):Prop where
 S:u.tape=w.tape
 N:u.drawn=w.drawn
 C:Bi Y
 I:Y.C<=u.heap.size
 M:Y.C<=w.heap.size
 r:∀i j,Y i j->∃c c' e fr wU,u.heap[i]?=À (Č c e fr)/\w.heap[j]?=À (Č c' e wU)/\pg Y (Sh j) e c c'/\(Sh j->fr.1=0/\c.size<=fr.2/\wU.2<=fr.2/\0<c.size/\(Dd c\/FZ e c.size))/\(¬Sh j->fr=wU)/\fr.2<=c.size
structure nU(Y:fw)(Sh:Nat->Prop)(w w':Æ):Prop where
 r:w.heap.size<=w'.heap.size
 I:w'.os=w.os
 M:w'.output=w.output
 S:w'.tape=w.tape
 C:∀j,j<w.heap.size->(∀i,¬Y i j)->w'.heap[j]?=w.heap[j]?
 N:∀j,Sh j->j<w.heap.size->w'.heap[j]?=w.heap[j]?
def AR(Y:fw)(b:Nat->Prop)(e:ý):Prop:=
 (∃(a:Ú) (i:Nat),e.loc=û a/\Y i a.block/\e.sync=Ã/\(e.write=É->¬b a.block))\/e.loc=ů de\/∃f,e.loc=ů (.extern f)
def wV{α:Type}{m:Mode}{k:ē α}(h:yK v=É): ã P (dc m a v k) w=(match w.cell? a with
 |some _=>if w.frozen? a then bV (ŀ<|ť "a write to bytes that a string shares") w else k.run P (w.setCell a v)
 |none=>match w.farStore P a v (m==ċ)with
  |.ok (w,_)=>k.run P w
  |bG h=>bV h w):=by
 cases v<;>first|rfl|cases h
def adO{α:Type}{m:Mode}{k:ē α}(h:yK v=É): é P (dc m a v k) w V=(match w.cell? a with
 |some _=>
  if w.frozen? a then(bV (ŀ<|ť "a write to bytes that a string shares") w,V)
  else k.runT P (w.setCell a v) (V.push ⟨û a,É,m==ċ⟩)
 |none=>match w.farStore P a v (m==ċ)with
  |.ok (w,touched)=>k.runT P w (V++touched.toArray.map (⟨.cell ·,É,m==.atomic⟩))
  |bG h=>(bV h w,V)):=by
 cases v<;>first|rfl|cases h
def adP{α:Type}{m:Mode}{k:ē α}(h:yK v=Ã){x:α}:ã P (dc m a v k) w≠ĥ x u:=by cases v<;>first|exact Bool.noConfusion h|(intro e;simp[ã]at e)
def adQ{Y:fw}(h:fp Y v x):yK x=yK v:=by cases h<;>rfl
section
variable{Y:fw}
def AS(h:u.heap[a.block]?=À (Č d e xJ)):u.cell? a=if a.spot.isSome then ë else d[a.off]?:=by simp[Ġ,h]
def adR(h:u.heap[a.block]?=À (Č d e xJ))(b:Bool):∃x,u.farLoad P a b=bG x:=by simp[ŋ,h]
def adS(h:u.heap[a.block]?=À (Č d e xJ))(b:Bool):∃x,u.farStore P a v b=bG x:=by simp[Ŧ,h]
def jk.gB(h:jk Y X u w){a':Ú}(i:hD Y a a')(b:u.cell? a=À v):∃f,w.cell? a'=À f/\fp Y v f:=by
 let⟨j,k,l⟩:=i;let⟨c,s,e,t,y,m,n,o,_⟩:=h.r _ _ j;rw[AS m]at b;rw[AS n,<-k,<-l];cases g:a.spot with
 |some x=>rw[g]at b;cases b
 |none=>
  rw[g]at b;rcases o.AP a.off with⟨d,_⟩|⟨x,p,d,q,r⟩
  .simp[d]at b
  .simp[d]at b;subst b;exact⟨p,by simp[q],r⟩
theorem jk.adT(h:jk Y X u w)(g:hD Y a p)(i:u.cell? a=À v)(j:u.frozen? a=Ã):¬X p.block/\w.frozen? p=Ã:=by
 let⟨k,l,q⟩:=g;let⟨c,r,e,b,s,d,m,t,x,n,y⟩:=h.r _ _ k;rw[AS d]at i;have z:a.off<c.size:=by grind
 have o:(decide (b.1<=a.off)&&decide (a.off<b.2))=Ã:=by simpa[Ĉ,d]using j
 have f:¬X p.block:=by grind
 refine⟨f,?_⟩;have:=n f;subst this;simp only[Ĉ,m,<-l];exact o
def Vz{w:Æ}(h:w.heap[a.block]?=À (Č d e xJ))(b:a.spot=ë): (w.setCell a v).heap[a.block]?=À (Č (d.setIfInBounds a.off v) e xJ):=by simp[ĉ,Ň,h,b]
def kg{w:Æ}:(w.setCell a v).heap.size=w.heap.size:=by simp[ĉ]
def Jv{w:Æ}(h:a.block≠j):(w.setCell a v).heap[j]?=w.heap[j]?:=by simp[ĉ,Ň,h]
def jk.jf(h:jk Y X u w)(B:hD Y a p)(C:fp Y v z)(D:u.cell? a=À x)(m:¬X p.block):jk Y X (u.setCell a v) (w.setCell p z):=by
 let⟨d,E,F⟩:=B;have n:a.spot=ë:=by let⟨c,o,e,f,g,b,_⟩:=h.r _ _ d;rw[AS b]at D;simp_all
 refine⟨h.S,h.N,h.C,by rw[kg];exact h.I,by rw[kg];exact h.M,λi j k=> ?_⟩;let⟨c,o,e,f,g,b,q,r,G,t,y⟩:=h.r i j k;by_cases l:a.block=i
 .subst l;have:j=p.block:=h.C.1 _ _ _ k d;subst this;exact⟨_,_,e,f,g,Vz b n,Vz q (by rw[<-F,n]),by rw[<-E];exact pg.M<|(r.N m).qN _ C,λs=>absurd s m,t,by simpa using y⟩
 .exact⟨c,o,e,f,g,by rwa[Jv l],by rwa[Jv λe=>l<|h.C.2.1 _ _ _ d<|e▸k],r,G,t,y⟩
theorem jk.yL(h:jk Y X u w)(m:∀j,X j->j<w.heap.size)(n:fT Y d q): jk (Y.N u.heap.size w.heap.size) X {u with heap:=u.heap.push (Č d e)} {w with heap:=w.heap.push (Č q e)}:=by
 have a:∀i j,Y i j->i<u.heap.size/\j<w.heap.size:=by intro i j s;let⟨_,_,_,_,_,f,g,_⟩:=h.r i j s;grind
 have b:=fw.S (Y:=Y) (λj x=>absurd (a _ _ x).1 Z) (λi x=>absurd (a _ _ x).2 Z) h.I h.M;refine⟨h.S,h.N,b.2.1 h.C,by have:=h.I;simp[fw.N];omega,by have:=h.M;simp[fw.N];omega,?_⟩
 .rintro i j (x|⟨rfl,rfl⟩)
  .let⟨s,o,p,r,t,f,g,v,y,z,B⟩:=h.r i j x;let⟨k,l⟩:=a i j x;exact⟨s,o,p,r,t,by simp only[Ģ k];rw[<-f,Ý k],by simp only[Ģ l];rw[<-g,Ý l],v.fR b,y,z,B⟩
  .exact⟨d,q,e,(0,0),(0,0),fl,fl,pg.M<|n.I b,λs=>absurd (m _ s) Z,λ_=>rfl,dC _⟩
theorem nU.fX(Y:fw)(X:Nat->Prop)(w:Æ):nU Y X w w:=⟨ß _,U,U,U,λ_ _ _=>rfl,λ_ _ _=>rfl⟩
def nU.ff{b:fw}{w₁:Æ}(h:nU Y X w w₁)(k:nU b X w₁ u)(d:∀i j,b i j->Y i j\/w.heap.size<=j):nU Y X w u:= ⟨õ h.r k.r,k.I.trans h.I,k.M.trans h.M,k.S.trans h.S,λj a c=>(k.C j (Ô a h.r) λi y=>(d i j y).elim (c i) λz=>by omega).trans<|h.C j a c,λj s a=>(k.N j s<|Ô a h.r).trans<|h.N j s a⟩
def Jw{w:Æ}:(w.freeze a n).heap.size=w.heap.size:=by unfold Ė;split<;>simp
def adU{w:Æ}:(w.freeze a n).os=w.os:=by unfold Ė;split<;>rfl
def adV{w:Æ}:(w.freeze a n).output=w.output:=by unfold Ė;split<;>rfl
def NW{w:Æ}:(w.freeze a n).tape=w.tape:=by unfold Ė;split<;>rfl
def VA{w:Æ}:(w.freeze a n).drawn=w.drawn:=by unfold Ė;split<;>rfl
theorem Jx{w:Æ}(h:a.block≠j):(w.freeze a n).heap[j]?=w.heap[j]?:=by unfold Ė;split;all_goals grind
def sN(a:Ú)(n:Nat)(b:Nat×Nat):Nat×Nat:=if n=0 then b else if b.1==b.2 then(a.off,a.off+n)else(min b.1 a.off,max b.2<|a.off+n)
theorem VB{w:Æ}(h:w.heap[a.block]?=À (Č d e xJ)):(w.freeze a n).heap[a.block]?=À (Č d e<|sN a n xJ):=by unfold Ė sN;grind
def VC(h:a.off=p.off)(n:Nat)(b:Nat×Nat):sN a n b=sN p n b:=by unfold sN;rw[h]
theorem adW(h:a.off+n<=i)(b:xJ.2<=i):(sN a n xJ).2<=i:=by unfold sN;grind
theorem adX{b:Nat×Nat}(c:0<i)(d:xJ.1=0)(e:i<=xJ.2)(f:b.2<=xJ.2):(sN a n xJ).1=0/\i<=(sN a n xJ).2/\(sN a n b).2<=(sN a n xJ).2:=by unfold sN;grind
def jk.adY(h:jk Y X u w)(y:hD Y a p)(n:Nat)(z:∀c e b,u.heap[a.block]?=À (Č c e b)->a.off+n<=c.size):jk Y X (u.freeze a n) (w.freeze p n):=by
 obtain⟨k,l,I⟩:=y;refine⟨NW.trans<|h.S.trans NW.symm,VA.trans<|h.N.trans VA.symm,h.C,by rw[Jw];exact h.I,by rw[Jw];exact h.M,λi j d=> ?_⟩;obtain⟨c,m,e,b,B,f,o,q,r,t,v⟩:=h.r i j d;by_cases g:a.block=i
 .subst g;have:j=p.block:=h.C.1 _ _ _ d k;subst this;refine⟨c,m,e,_,_,VB f,VB o,q,λs=> ?_,λs=> ?_,adW (z _ _ _ f) v⟩
  .obtain⟨C,D,E,x⟩:=r s;rw[<-VC l];obtain⟨F,G,H⟩:=adX x.1 C D E;exact⟨F,G,H,x⟩
  .rw[t s,VC l]
 .exact⟨c,m,e,b,B,by rwa[Jx g],by rwa[Jx λe=>g<|h.C.2.1 _ _ _ k<|e▸d],q,r,t,v⟩
theorem jk.G(h:jk Y X u w)(b:hD Y a p):w.frozen? p=É->u.frozen? a=É:=by let⟨d,f,j⟩:=b;let⟨c,k,e,l,m,g,i,n,o,q,r⟩:=h.r _ _ d;simp only[Ĉ,g,i,<-f,ě,decide_eq_true_eq];rintro⟨x,y⟩;by_cases s:X p.block;all_goals grind
theorem fI.gl{α:Type}{V:fw->α->α->Prop}{Y:fw}{m m':ē α}(h:fI P V Y m m'):∀{u w:Æ},jk Y X u w->(∀j,X j->j<w.heap.size)->∀{x:α} {E:Æ},m.run P u=ĥ x E->∀n:Array ý,∃(l:fw) (t:α) (p:Æ) (B:Array ý),Y.r l/\(∀i j,l i j->Y i j\/(u.heap.size<=i/\w.heap.size<=j))/\m'.runT P w n=(ĥ t p,n++B)/\V l x t/\jk l X E p/\nU Y X w p/\(∀e∈B,AR l X e)/\u.heap.size<=E.heap.size:=by
 induction h with
 |fD h=>
  intro u w d _ x E b n;simp only[ã]at b;cases b;exact⟨_,_,w,#[],fw.M _,λ_ _ h=>Ç h,by simp[é],h,d,nU.fX _ _ _,λe o=>by simp at o,ß _⟩
 |@gB Y a a' k k' ha hk D=>
  intro u w d C x E b n;simp only[ã]at b;cases f:u.cell? a with
  |none=>
   let⟨c,Q,e,fr,wU,O,_⟩:=d.r _ _ ha.1;let⟨z,s⟩:=adR (P:=P) O<|Ť==ċ;rw[f]at b;simp only[s]at b;cases b
  |some v=>
   rw[f]at b;let⟨W,S,y⟩:=d.gB ha f;let⟨l,t,p,B,F,G,I,J,K,g,L,H⟩:=D v W y d C b<|n.push ⟨û a',Ã,Ã⟩;refine⟨l,t,p,#[⟨û a',Ã,Ã⟩]++B,F,G,?_,J,K,g,λe o=> ?_,H⟩
   .simp only[é,S];rw[show((Ť==ċ)=Ã)from U,I];rw[<-Ļ,Ł]
   .rcases Ĝ.1 o with o|o
    .simp at o;subst o;exact Ç ⟨a',_,U,F.1 _ _ ha.1,U,λe=>by cases e⟩
    .exact L e o
 |@jf Y a a' v W k k' ha hv _ D=>
  intro u w d C x E b n;cases ho:yK v with
  |false=>exact absurd b<|adP ho
  |true=>
   rw[wV ho]at b;cases f:u.cell? a with
   |none=>
    let⟨c,Q,e,fr,wU,O,_⟩:=d.r _ _ ha.1;let⟨z,s⟩:=adS (P:=P) (v:=v) O<|Ť==ċ;rw[f]at b;simp only[s]at b;cases b
   |some y=>
    rw[f]at b;cases M:u.frozen? a with
    |true=>rw[M]at b;simp at b
    |false=>
     simp only[M,Å,if_false]at b;let⟨ns,hf'⟩:=d.adT ha f M;let⟨y',NY,_⟩:=d.gB ha f;let⟨l,t,p,B,F,G,I,J,K,g,L,H⟩:=D (d.jf ha hv f ns) (by rwa[kg]) b<|n.push ⟨û a',É,Ã⟩;have S:(w.setCell a' W).heap.size=w.heap.size:=kg;have VD:(u.setCell a v).heap.size=u.heap.size:=kg;refine⟨l,t,p,#[⟨û a',É,Ã⟩]++B,F,by rwa[S,VD]at G,?_,J,K,?_,λe o=> ?_,by rwa[VD]at H⟩
     .rw[adO<|(adQ hv).trans ho,NY];simp only[hf',Å,if_false];rw[show((Ť==ċ)=Ã)from U,I];rw[<-Ļ,Ł]
     .refine⟨by rw[<-S];exact g.r,g.I,g.M,g.S,λj N T=> ?_,λj s N=>(g.N j s<|by rwa[S]).trans<|Jv λe=>ns<|e▸s⟩;rw[g.C j (by rwa[S]) T];exact Jv λe=>T a.block<|e▸ha.1
     .rcases Ĝ.1 o with o|o
      .simp at o;subst o;exact Ç ⟨a',_,U,F.1 _ _ ha.1,U,λ_=>ns⟩
      .exact L e o
 |@yL Y c Q e k k' f _ D=>
  intro u w d C x E b n;simp only[ã]at b;have W:∀i j,Y i j->i<u.heap.size/\j<w.heap.size:=by intro i j S;let⟨_,_,_,_,_,O,hw',_⟩:=d.r i j S;grind
  have n1:∀j,¬Y u.heap.size j:=λj y=>absurd (W _ _ y).1 Z;have n2:∀i,¬Y i w.heap.size:=λi y=>absurd (W _ _ y).2 Z;let⟨l,t,p,B,F,G,I,J,K,g,L,H⟩:=D u.heap.size w.heap.size n1 n2 d.I d.M (d.yL C f) (λj s=>by have:=C j s;simp;omega) b n;refine⟨l,t,p,B,fw.I (fw.S n1 n2 d.I d.M) F,λi j S=> ?_,by simp only[é];exact I,J,K,?_,L,by simp at H;omega⟩
  .rcases G i j S with(y|⟨rfl,rfl⟩)|y
   .exact Ç y
   .exact Î ⟨ß _,ß _⟩
   .simp at y;exact Î ⟨Z,Z⟩
  .have hs:=g.r;simp at hs;refine⟨Z,g.I,g.M,g.S,λj N T=> ?_,λj s N=>(g.N j s<|by simp;omega).trans ?_⟩
   .rw[g.C j (by simp;omega) (λi z=>z.elim (T i) λz=>by omega)];simp[Ģ N]
   .simp[Ģ N]
 |@vz Y r r' k k' pj _ D=>
  intro u w d C x E b n;simp only[ã]at b;let⟨c,Q,e,fr,wU,O,hw',S,_⟩:=d.r _ _ pj;have f:u.shape? r=À (e,c.size):=by simp[Θ,O]
  have s:w.shape? r'=À (e,Q.size):=by simp[Θ,hw']
  rw[f]at b;let⟨l,t,p,B,h⟩:=D e c.size Q.size S.adN d C b n;exact⟨l,t,p,B,by simp only[é,s];exact h⟩
 |@NV Y a a' k k' ha _ D=>
  intro u w d C x E b n;simp only[ã]at b;let⟨l,t,p,B,h⟩:=D (u.frozen? a) (w.frozen? a') (d.G ha) d C b n;exact⟨l,t,p,B,by simpa only[é]using h⟩
 |@AQ Y q k k' _ D=>
  intro u w d C x E b n;simp only[ã]at b;cases M:q.forced with
  |true=>
   rw[M]at b;simp only[if_true]at b;let⟨l,t,p,B,h⟩:=D 0 d C b n;exact⟨l,t,p,B,by simpa only[é,M,if_true]using h⟩
  |false=>
   rw[M]at b;simp only[Å,if_false]at b;have S:jk Y X {u with drawn:=u.drawn+1} {w with drawn:=w.drawn+1}:=⟨d.S,by simp[d.N],d.C,d.I,d.M,d.r⟩;rw[d.S,d.N]at b;obtain⟨l,t,p,B,F,G,I,J,K,g,L,H⟩:=D (q.cut<|w.tape w.drawn q) S C (by rwa[d.S,d.N]) n;exact⟨l,t,p,B,F,G,by simp only[é,M,Å,if_false];exact I,J,K,⟨g.r,g.I,g.M,g.S,g.C,g.N⟩,L,H⟩
 |Ju _ D=>
  intro u w d C x E b n;simp only[ã]at b;let⟨l,t,p,B,h⟩:=D d C b n;exact⟨l,t,p,B,by simpa only[é]using h⟩
 |@Dc Y mk k k' hm _ D=>
  intro u w d C x E b n;simp only[ã]at b;let⟨l,t,p,B,F,G,I,J,K,g,L,H⟩:=D d C b<|n.push ⟨ů mk,Ã,É⟩;refine⟨l,t,p,#[⟨ů mk,Ã,É⟩]++B,F,G,?_,J,K,g,λe o=> ?_,H⟩
  .simp only[é];rw[I];rw[<-Ļ,Ł]
  .rcases Ĝ.1 o with o|o
   .simp at o;subst o;rcases hm with rfl|⟨f,rfl⟩
    .exact Î<|Ç U
    .exact Î<|Î ⟨f,U⟩
   .exact L e o
 |fS=>
  intro u w _ _ x E b n;simp only[ã]at b;cases b
 |oP h=>
  intro u w _ _ x E b n;exact absurd b<|h _ _ _
end
inductive jU:Â->Prop
 |mG (b:Bool):jU (Ľ b)
 |iG (k:ú) (n:Int):jU (Ć k n)
 |ko (s:ByteArray):jU (ħ s)
 |lW:jU (Þ ë)
 |oz (n c:Nat):jU (bS ë n c)
 |vv:jU bT
 |vw:jU aW
 |vx:jU (eu ë)
 |vy:jU (.map ë)
 |oO {cs:Array Â} (h:∀i (h:i<cs.size),jU cs[i]):jU (.agg cs)
 |nT {cs:Array Â} (h:∀i (h:i<cs.size),jU cs[i]):jU (ſ cs)
def jU.jG(h:jU v)(Y:fw):fp Y v v:=by
 induction h with
 |mG b=>exact .mG b
 |iG k n=>exact .iG k n
 |ko s=>exact .ko s
 |lW=>exact .lW
 |oz n c=>exact .oz n c
 |vv=>exact .vv
 |vw=>exact .vw
 |vx=>exact .vx
 |vy=>exact .vy
 |oO _ b=>exact .oO U λi c _=>b i c
 |nT _ b=>exact .nT U λi c _=>b i c
def nV(P:Õ):Prop:=∀t i z,P.info? t=À i->i.zero=À z->jU z
def jv{α:Type}:fw->α->α->Prop:=λ_ a b=>a=b
section
variable{Y:fw}
def fF{α β:Type}{V:fw->α->α->Prop}{V':fw->β->β->Prop}{m c:ē α}{f d:α->ē β}(h:fI P V Y m c) (g:∀b a e,Y.r b->V b a e->fI P V' b (f a) (d e)):fI P V' Y (m>>=f) (c>>=d):=fI.lG h g
def sP{α β:Type}{c:fw->β->β->Prop}{m:ē α}{f d:α->ē β}(h:fI P jv Y m m) (g:∀b a,Y.r b->fI P c b (f a) (d a)):fI P c Y (m>>=f) (m>>=d):= fI.lG h λb a i j (e:a=i)=>by subst e;exact g b a j
def rB:fI P (λ_ a b=>a=P/\b=P) Y df df:=.Ju (.fD ⟨U,U⟩)
theorem NZ{α:Type}{V:fw->α->α->Prop}{e:Ι}(h:(∃x y s c,e=.bounds x y s c)\/(∃m,e=.error m)\/(∃m,e=.plain m)\/e=.nilDeref):fI P V Y (runtimePanic e) (runtimePanic e):=by unfold runtimePanic;refine fF rB ?_;rintro f a g _ ⟨b,d⟩;rw[b,d];rcases h with⟨x,y,s,c,rfl⟩|⟨m,rfl⟩|⟨m,rfl⟩|rfl<;>exact .fS
theorem De{α:Type}{V:fw->α->α->Prop}{k:ú}{y:Int}{c:ax}:fI P V Y (boundsPanic k h y c) (boundsPanic k h y c):=by
 unfold boundsPanic;simp only[];split
 .apply sP (.AQ λn=> .fD U);grind [NZ]
 .grind [NZ]
def yN(t:Á):fI P (λ_ a b=>a=b/\P.info? t=À a) Y (Δ t) (Δ t):=by
 unfold Δ;apply fF rB;rintro e a b _ ⟨c,d⟩;rw[c,d];cases h:P.info? t with
 |some i=>exact .fD ⟨U,U⟩
 |none=>exact .fS
def je(t:Á):fI P (λ_ a b=>a=b/\P.underlying t=À a) Y (ø t) (ø t):=by
 unfold ø;apply fF rB;rintro e a b _ ⟨c,d⟩;rw[c,d];cases h:P.underlying t with
 |some i=>exact .fD ⟨U,U⟩
 |none=>exact .fS
def F0(b:nV P)(t:Á):fI P fp Y (ω t) (ω t):=by
 unfold ω;apply fF (yN t);rintro d a e _ ⟨rfl,h⟩;cases c:a.zero with
 |some z=>exact .fD ((b t a z h c).jG _)
 |none=>exact .fS
def nn(t:Á):fI P (λ_ a b=>a=b/\∃i,P.info? t=À i/\i.size=a) Y (ay t) (ay t):=by unfold ay;apply fF (yN t);rintro i a b _ ⟨rfl,h⟩;exact .fD ⟨U,_,h,U⟩
def VE(t:Á):fI P jv Y (ey t) (ey t):=by unfold ey;apply fF (je t);rintro b a c _ ⟨rfl,_⟩;split<;>exact .fD U
def Jy(h:hD Y a p):fI P fp Y (aX a) (aX p):=.gB h λ_ _ b=> .fD b
def adZ(h:hD Y a p)(b:fp Y v x):fI P jv Y (ar a v) (ar p x):=.jf h b (.fD U)
def ad1:∀{Y:fw} {a b:Ú} {i:Nat} {c d:Array Â},hD Y a b->fT Y c d->fI P fT Y (Ō a i n c) (Ō b i n d):=by
 induction n with
 |zero=>intro Y a b i c d _ e;exact .fD e
 |succ n h=>
  intro Y a b i c d f e;unfold Ō;apply fF (Jy<|f.C i);exact λk v l g j=>h (f.r g)<|(e.I g).Vy j
def N0(h:hD Y a p)(n:Nat):fI P fT Y (c9 a n) (c9 p n):=ad1 h<|fT.N Y
def N4:∀{d c:List Â} {Y:fw} {a e:Ú} {i:Nat},hD Y a e->fT Y d.toArray c.toArray->fI P jv Y (Κ a d i) (Κ e c i):=by
 intro d
 induction d with
 |nil=>
  intro c Y a e i _ b;have:c=[]:=by have:=b.r;simp at this;exact Ā this.symm
  subst this;exact .fD U
 |cons v d h=>
  intro c Y a e i f b;match c,b with
  |[],b=>have:=b.r;simp at this
  |v'::c,b=>
   unfold Κ;refine fF (adZ (f.C i) (by have:=b.C 0 fl fl;simpa using this)) ?_;intro m _ _ g _;apply h (f.r g);refine⟨by have:=b.r;simpa using this,λj k l=> ?_⟩;have:=b.C (j+1) (by simp at k|-;omega) (by simp at l|-;omega);exact(by simpa using this:fp Y _ _).fR g
theorem VF(h:hD Y a p)(t:Á):fI P fp Y (ae t a) (ae t p):=by
 unfold ae;apply sP (VE t);intro g b d;split
 .apply fF (nn t);rintro i n _ f ⟨rfl,_⟩;apply fF (N0 ((h.r d).r f) n);exact λj c k _ e=> .fD (.oO e.r e.C)
 .exact Jy<|h.r d
def ad2(h:hD Y a p)(t:Á)(d:fp Y v x):fI P jv Y (aJ t a v) (aJ t p x):=by
 unfold aJ;apply fF (nn t);rintro f n _ b ⟨rfl,_⟩;have c:=(d.fR b).gU;by_cases e:v.cells.size≠n
 .rw[if_pos e];exact .fS
 .rw[if_neg e,if_neg (by rwa[<-c.r])];exact N4 (h.r b) c
def AT(e:Á)(h:fT Y d q):fI P hD Y (dU e d) (dU e q):= .yL h λ_ _ _ _ _ _=> .fD ⟨Î ⟨U,U⟩,U,U⟩
def VG(t:Á)(h:fp Y v x):fI P hD Y (eM t v) (eM t x):=AT t h.gU
def VH(t:Á)(h:fT Y d q)(a:Nat):fI P fp Y (part t d a) (part t q a):=by
 unfold part;apply sP (VE t);intro i b e;split
 .apply fF (nn t);rintro g n _ f ⟨rfl,_⟩;have:=((h.I e).I f).FY a<|a+n;exact .fD (.oO this.r this.C)
 .rcases(h.I e).S a with⟨n,f⟩|⟨v,j,n,f,g⟩
  .rw[n];exact .fS
  .rw[n,f];exact .fD g
def F1(h:fp Y v x):fI P hD Y (ŧ v) (ŧ x):=by cases h<;>first|exact .fS|(rename_i a;exact .fD a)
def Jz(h:fp Y v x):fI P jv Y (dh v) (dh x):=by cases h<;>first|exact .fD U|exact .fS
def N5(h:fp Y v x):fI P jv Y (dD v) (dD x):=by unfold dD;apply fF (Jz h);rintro b a _ _ rfl;exact .fD U
def VI(h:fp Y v x):fI P jv Y (bW v) (bW x):=by cases h<;>first|exact .fD U|exact .fS
def ad3(h:fp Y v x):fI P fT Y (eN v) (eN x):=by cases h<;>first|exact .fS|(rename_i a y;exact .fD ⟨a,y⟩)
def VJ(h:fp Y v x):fI P hD Y (bX v) (bX x):=by cases h<;>first|exact NZ (Î<|Î<|Î U)|(rename_i a;exact .fD a)|exact .fS
def ad4(b:nV P)(t:Á)(v:Â):fI P fp Y (Ű t É v) (Ű t É v):=by unfold Ű;apply fF (F0 b t);intro d z e _ h;apply fF (VG t h);exact λf a g _ c=> .fD (.jT c)
def ad5(t:Á)(h:fp Y v x):fI P fp Y (ag t v) (ag t x):=by unfold ag;apply fF (VG t h);exact λc a d _ b=> .fD (.jT b)
theorem ad6(t:Á)(h:fp Y v x):fI P fp Y (Ş t v) (Ş t x):=by unfold Ş;apply fF (F1 h);grind [VF]
def ad7(t:Á)(b:fp Y x z)(h:fp Y v jQ):fI P jv Y (ĳ t x v) (ĳ t z jQ):=by unfold ĳ;apply fF (F1 b);exact λd x z c b=>ad2 b t<|h.fR c
def ad8(h:fp Y v x)(n:Nat):fI P fp Y (ō v n) (ō x n):=by
 cases h<;>first|exact .fS|skip
 rename_i e f c h;simp only[ō];rcases(fT.mk c h).S n with⟨a,b⟩|⟨v,x,a,b,d⟩
 .rw[a];exact .fS
 .rw[a,b];exact .fD d
def ad9(t:Á)(h:fp Y v x)(n:Nat):fI P fp Y (ű t v n) (ű t x n):=by
 unfold ű;apply fF (je t);rintro g d _ a ⟨rfl,_⟩;split
 .rename_i b _;cases i:b[n]? with
  |none=>exact .fS
  |some f=>
   apply fF (ad3<|h.fR a);exact λj c k _ e=>VH f.type e f.offset
 .exact .fS
end
section
variable{Y:fw}
def rC{α β:Type}{V:fw->β->β->Prop}{a b:α}{f c:α->ē β}(h:fI P V Y (f a) (c b)):fI P V Y (pure a>>=f) (pure b>>=c):=h
def aea(s:Á)(h:fp Y v x)(n:Nat)(e:∀c f i,P.underlying s=À (di c)->c[n]?=À f->P.info? f.type=À i->i.size≠0): fI P fp Y (Ŏ s v n) (Ŏ s x n):=by
 unfold Ŏ;apply fF (je s);rintro r d _ g ⟨rfl,j⟩;cases d<;>try exact .fS
 .rename_i c;simp only[];cases k:c[n]? with
  |none=>exact .fS
  |some f=>
   apply fF (F1<|h.fR g);intro t a u _ l;unfold bY;refine fF (fF (V':=hD) (nn f.type) ?_) ?_
   .rintro w z _ m ⟨rfl,i,o,p⟩;have:¬z=0:=by rw[<-p];exact e c f i j k o
    rw[if_neg this,if_neg this];exact .fD ((l.r m).C _)
   .exact λy b B _ q=> .fD (.jT q)
def aeb(t:Á)(h:fp Y x v)(j:fp Y z jQ):fI P fp Y (ŏ t x z) (ŏ t v jQ):=by
 unfold ŏ;apply fF (Jz j);rintro r ⟨k,n⟩ _ l rfl;apply fF (je t);rintro f d _ m ⟨rfl,s⟩;have g:=(h.fR l).fR m;cases d<;>try exact .fS
 .cases g<;>first|exact .fS|skip
  .refine rC<|fF (je t) ?_;exact λ_ _ _ _ _=>De
  refine rC<|fF (je t) ?_;rintro o d _ c ⟨rfl,_⟩;simp only[];split
  .apply fF (nn _);rintro p b _ e ⟨rfl,_⟩;exact .fD (.jT (((‹hD f _ _›.r c).r e).C _))
  .repeat' (first|exact .fS|exact De|split)
 .apply fF (F1 g);intro f a u _ q;refine rC<|fF (je t) ?_;rintro o d _ c ⟨rfl,_⟩;simp only[];split
  .apply fF (nn _);rintro p b _ e ⟨rfl,_⟩;exact .fD (.jT (((q.r c).r e).C _))
  .repeat' (first|exact .fS|exact De|split)
def Df(h:fp Y x v)(y:Nat)(c:ax):fI P jv Y (ī x y c) (ī v y c):=by
 unfold ī;apply fF (Jz h);rintro a ⟨k,n⟩ _ b rfl;simp only[];split
 .exact .fD U
 .exact De
def rD(Y:fw)(x a:Option Â):Prop:=(x=ë/\a=ë)\/∃v b,x=À v/\a=À b/\fp Y v b
def rD.r{Y a:fw}(h:Y.r a){x b:Option Â}(r:rD Y x b):rD a x b:=r.imp id λ⟨v,c,d,e,f⟩=>⟨v,c,d,e,f.fR h⟩
def F2(f:Bool)(g i:Nat){l j h k m n:Option Â}(c:rD Y l j)(o:rD Y h k)(t:rD Y m n):fI P jv Y (Ĩ f g i l h m) (Ĩ f g i j k n):=by
 unfold Ĩ;rcases t with⟨rfl,rfl⟩|⟨B,C,rfl,rfl,u⟩
 .refine rC ?_;rcases o with⟨rfl,rfl⟩|⟨w,x,rfl,rfl,d⟩
  .refine rC ?_;rcases c with⟨rfl,rfl⟩|⟨v,p,rfl,rfl,b⟩
   .exact .fD U
   .apply fF (Df b _ _);rintro r q _ _ rfl;exact .fD U
  .refine fF (Df d _ _) ?_;rintro y a _ e rfl;rcases(c.r e)with⟨rfl,rfl⟩|⟨v,p,rfl,rfl,b⟩
   .exact .fD U
   .apply fF (Df b _ _);rintro r q _ _ rfl;exact .fD U
 .refine fF (Df u _ _) ?_;rintro D a _ s rfl;rcases o with⟨rfl,rfl⟩|⟨w,x,rfl,rfl,d⟩
  .exact .fS
  .refine fF (Df (d.fR s) _ _) ?_;rintro y z _ e rfl;rcases(((c.r s).r e))with⟨rfl,rfl⟩|⟨v,p,rfl,rfl,b⟩
   .exact .fD U
   .apply fF (Df b _ _);rintro r q _ _ rfl;exact .fD U
def aec(t:Á)(k:fp Y x v){l C h D m u:Option Â}(g:rD Y l C)(i:rD Y h D)(j:rD Y m u):fI P fp Y (Ų t x l h m) (Ų t v C D u):=by
 unfold Ų;apply fF (je t);rintro I d _ o ⟨rfl,J⟩;have k:=k.fR o;have g:=g.r o;have i:=i.r o;have j:=j.r o;cases d<;>try exact .fS
 .cases k<;>first|exact .fS|skip
  rename_i s;have e:m.isSome=u.isSome:=by rcases j with⟨rfl,rfl⟩|⟨_,_,rfl,rfl,_⟩<;>rfl
  simp only[e];split
  .exact .fS
  .apply fF (F2 Ã s.size s.size g i<|Ç ⟨U,U⟩);rintro G ⟨a,b,c⟩ _ _ rfl;exact .fD (.ko _)
 .rename_i H;apply fF (VJ k);intro G a K B f;apply fF (je H);rintro L d _ p ⟨rfl,_⟩;have f:=f.r p;cases d<;>try exact .fS
  rename_i n e _;apply fF (F2 Ã n n ((g.r B).r p) ((i.r B).r p)<|(j.r B).r p);rintro E ⟨x,y,z⟩ _ q rfl;apply fF (nn e);rintro F w _ r ⟨rfl,_⟩;have f:=(f.r q).r r;refine .fD (.kP ?_ _ _);split
  .exact f
  .exact f.C _
 .rename_i e;cases k<;>first|exact .fS|skip
  .rename_i n c;apply fF (F2 É n c g i j);rintro E ⟨x,y,z⟩ _ q rfl;apply fF (nn e);rintro F w _ r ⟨rfl,_⟩;simp only[Option.map_none,ite_self];exact .fD (.oz _ _)
  .rename_i f n c;apply fF (F2 É n c g i j);rintro E ⟨x,y,z⟩ _ q rfl;apply fF (nn e);rintro F w _ r ⟨rfl,_⟩;have f:=(f.r q).r r;by_cases e:z=x
   .simp only[e,if_true];exact .fD (.kP f _ _)
   .simp only[e,if_false,bH];exact .fD (.kP (f.C _) _ _)
def aed(t:Á)(b:fp Y x v){l o h p m q:Option Â}(c:rD Y l o)(f:rD Y h p)(g:rD Y m q):fI P fp Y (Ő t x l h m) (Ő t v o p q):=by
 unfold Ő;apply fF (je t);rintro u d _ i ⟨rfl,B⟩;have b:=b.fR i;have c:=c.r i;have f:=f.r i;have g:=g.r i;cases d<;>try exact aec t b c f g
 rename_i n e;apply fF (F1 b);intro C a D k j;apply fF (F2 Ã n n (c.r k) (f.r k)<|g.r k);rintro E ⟨x,y,z⟩ _ r rfl;apply fF (nn e);rintro F w _ s ⟨rfl,_⟩;have j:=(j.r r).r s;refine .fD (.kP ?_ _ _);split
 .exact j
 .exact j.C _
def aee(t:Á)(a:fp Y x v)(b:fp Y z jQ):fI P fp Y (ų t x z) (ų t v jQ):=by
 unfold ų;apply fF (Jz b);rintro l ⟨k,n⟩ _ c rfl;apply fF (je t);rintro m d _ f ⟨rfl,o⟩;have a:=(a.fR c).fR f;cases d<;>try exact .fS
 .cases a<;>first|exact .fS|skip
  simp only[];split
  .exact .fD (.iG _ _)
  .exact De
 .rename_i p e;cases a<;>first|exact .fS|skip
  rename_i g h;simp only[];split
  .apply fF (nn e);rintro q w _ j ⟨rfl,_⟩;exact VH e ((fT.mk g h).I j) _
  .exact De
def aef(a:UnOp)(b:fp Y x v):fI P fp Y (bZ a x) (bZ a v):=by cases b<;>cases a<;>first|exact .fS|exact .fD (.iG _ _)|exact .fD (.mG _)
end
section
variable{Y:fw}
def aeg{α β:Type}{g:α->ē β}(d:∀{Y:fw} (a:α),fI P jv Y (g a)<|g a):∀{Y:fw} (l:List α),fI P jv Y (l.mapM g) (l.mapM g):=by
 intro Y l
 induction l generalizing Y with
 |nil=>exact .fD U
 |cons a l e=>
  rw[ν];apply sP (d a);intro f b _;apply sP e;exact λh c _=> .fD U
def aeh{α β:Type}{g:α->ē β}(b:∀{Y:fw} (a:α),fI P jv Y (g a)<|g a)(l:Array α):fI P jv Y (l.mapM g) (l.mapM g):=by rw[Ĕ];have:=aeg b (Y:=Y) l.toList;apply fI.lG this;intro d a c _ (e:a=c);subst e;exact .fD U
def aei(Y:fw)(p a:Nat×Value):Prop:=p.1=a.1/\fp Y p.2 a.2
inductive vA(Y:fw):List (Nat×Value)->List (Nat×Value)->Prop
 |pn:vA Y [] []
 |wW {p p':Nat×Value} {l l':List (Nat×Value)} (h:aei Y p p') (t:vA Y l l'):vA Y (p::l) (p'::l')
def vA.fR{Y a:fw}(h:Y.r a){l b:List (Nat×Value)}(r:vA Y l b):vA a l b:=by
 induction r with
 |pn=>exact .pn
 |wW x _ c=>exact .wW ⟨x.1,x.2.fR h⟩ c
def aej(f:Nat):∀(c a:List Â) (k:Nat) (b d:Array Â),fT Y c.toArray a.toArray->fT Y b d-> fT Y ((c.zipIdx k).foldl (λb (p:Value×Nat)=>b.setIfInBounds (f+p.2) p.1) b) ((a.zipIdx k).foldl (λb (p:Value×Nat)=>b.setIfInBounds (f+p.2) p.1) d):=by
 intro c
 induction c with
 |nil=>
  intro a k b d p e;have:a=[]:=by have:=p.r;simp at this;exact Ā this.symm
  subst this;exact e
 |cons x c g=>
  intro a k b d p e;match a,p with
  |[],p=>have:=p.r;simp at this
  |x'::a,p=>
   simp only[Ĭ,List.foldl_cons];refine g a (k+1) _ _ ⟨by have:=p.r;simpa using this,λj h i=> ?_⟩ (e.qN _ (by have:=p.C 0 fl fl;simpa using this));have:=p.C (j+1) (by simp at h|-;omega) (by simp at i|-;omega);simpa using this
theorem aek(b:Nat){a c:Array Â}(e:fT Y d q)(f:fT Y a c): fT Y (d.zipIdx.foldl (λa (p:Value×Nat)=>a.setIfInBounds (b+p.2) p.1) a) (q.zipIdx.foldl (λa (p:Value×Nat)=>a.setIfInBounds (b+p.2) p.1) c):=by have:=aej b d.toList q.toList 0 a c (by simpa using e) f;grind [Array.toList_zipIdx]
def JA(d:Nat->Option (Nat×Nat)):∀{l e:List (Nat×Value)} {a b:Array Â},vA Y l e->fT Y a b-> (az d a l=ë)\/∃c h,az d a l=À c/\az d b e=À h/\fT Y c h:=by
 intro l e a b h
 induction h generalizing a b with
 |pn=>intro c;exact Î ⟨a,b,U,U,c⟩
 |@wW p p' l e hp _ ih=>
  intro c;let⟨i,v⟩:=p;let⟨k,m⟩:=p';obtain⟨rfl,g⟩:=hp;unfold az;cases d i with
  |none=>exact Ç U
  |some q=>
   let⟨j,n⟩:=q;have f:=g.gU;simp only[<-f.r,<-c.r];split
   .exact Ç U
   .exact ih<|aek j f c
def ael(q:nV P)(t:Á){l m:Array (Nat×Value)}(h:vA Y l.toList m.toList):fI P fp Y (Ŵ t l) (Ŵ t m):=by
 unfold Ŵ;apply fF (F0 q t);intro C z D r s;apply fF (je t);rintro E d _ o ⟨rfl,F⟩;have p:=(s.fR o).gU;have h:=(h.fR r).fR o;cases d<;>try exact .fS
 .rename_i n e;refine fF (nn e) ?_;rintro u w _ b ⟨rfl,_⟩;rcases JA (λi=>À (i*w,w)) (h.fR b) (p.I b)with e|⟨c,v,j,k,g⟩
  .simp only[e];exact .fS
  .simp only[j,k];exact .fD (.oO g.r g.C)
 .rename_i x;refine sP (aeh (λ{Y} (f:Field)=>fF (nn f.type) λG a H _ y=> ?_) x) ?_
  .obtain⟨rfl,_⟩:=y;exact .fD U
  .intro u B b;rcases JA (B[·]?) (h.fR b) (p.I b)with e|⟨c,v,j,k,g⟩
   .simp only[e];exact .fS
   .simp only[j,k];exact .fD (.oO g.r g.C)
end
section
variable{Y:fw}
theorem aem(Y:fw):fp Y (default:Â) default:=.mG _
theorem fT.aen{Y:fw}(r:fT Y d q)(i:Nat):fp Y d[i]! q[i]!:=by
 by_cases h:i<d.size
 .have a:i<q.size:=by rwa[<-r.r]
  rw[getElem!_pos d i h,getElem!_pos q i a];exact r.C i h a
 .have a:¬i<q.size:=by rwa[<-r.r]
  grind [getElem,aem]
def fT.G{Y:fw}(r:fT Y d q)(n:Nat):fT Y ((dE n).map (d[· %d.size]!)) ((dE n).map (q[· %q.size]!)):=by refine⟨fl,λi a b=> ?_⟩;simp only[ŵ,<-r.r];exact r.aen _
def fT.yO{Y:fw}(r:fT Y d q)(n:Nat):fT Y (Ŷ d n) (Ŷ q n):=by
 unfold Ŷ;have e:n*d.size=n*q.size:=by rw[r.r]
 rw[<-e];exact r.G _
def aeo(f:nV P)(t:Á)(b:Nat){m n:Array (Nat×Value)}(h:vA Y m.toList n.toList):fI P fp Y (ĭ t b m) (ĭ t b n):=by
 unfold ĭ;apply fF (je t);rintro v d _ p ⟨rfl,x⟩;have h:=h.fR p;cases d<;>try exact .fS
 rename_i e;apply fF (nn e);rintro y w _ o ⟨rfl,_⟩;simp only[];split
 .exact .fS
 split
 .refine rC ?_;rcases JA (λi=>À (i*w,w)) (h.fR o) ((fT.N _).G<|b*w)with e0|⟨c,q,g,j,k⟩
  .rw[e0];exact .fS
  .rw[g,j];exact fF (AT e k) λr a s _ l=> .fD (.kP l _ _)
 .refine fF (F0 f e) λB z C u f=>rC ?_;rcases JA (λi=>À (i*w,w)) ((h.fR o).fR u) (f.gU.G<|b*w)with e0|⟨c,q,g,j,k⟩
  .rw[e0];exact .fS
  .rw[g,j];exact fF (AT e k) λr a s _ l=> .fD (.kP l _ _)
def N6(h:fp Y x v):fI P jv Y (Α x) (Α v):=by cases h<;>first|exact .fS|exact .fD U
def fT.aep(Y:fw)(b:Array UInt8):fT Y (b.map λb=>Ć .u8 b.toNat) (b.map λb=>Ć .u8 b.toNat):= ⟨U,λi a _=>by simp only[ŵ];exact .iG _ _⟩
def F3(a n:Nat)(h:fp Y x v):fI P fT Y (ļ a n x) (ļ a n v):=by
 cases h<;>first|exact .fS|exact .fD (fT.N _)|exact .fD (fT.aep _ _)|skip
 rename_i b _ _;exact N0 b _
def N7(n:Nat):fI P jv Y (bP n) (bP n):=by
 unfold bP;split
 .exact .Dc (Ç U) (.fD U)
 .exact .fD U
def aer(a:Array Á)(t:Á)(h:fp Y x v):fI P fp Y (ş a t #[x]) (ş a t #[v]):=by
 unfold ş;cases a[0]? with
 |none=>exact .fS
 |some b=>
  apply fF (je b);rintro f d _ c ⟨rfl,g⟩;have h:=h.fR c;cases d<;>try exact .fS
  .cases h<;>first|exact .fS|exact .fD (.iG _ _)
  .rename_i e;refine fF (je e) ?_;rintro i d _ j ⟨rfl,_⟩;cases d<;>first|exact .fS|exact .fD (.iG _ _)
  .cases h<;>first|exact .fS|exact .fD (.iG _ _)
  .exact .fD (.iG _ _)
  all_goals cases h<;>first|exact .fS|exact .fD (.iG _ _)
def aes(a:Array Á)(t:Á)(h:fp Y x v):fI P fp Y (Š a t #[x]) (Š a t #[v]):=by
 unfold Š;cases a[0]? with
 |none=>exact .fS
 |some b=>
  apply fF (je b);rintro f d _ c ⟨rfl,g⟩;have h:=h.fR c;cases d<;>try exact .fS
  .rename_i e;refine fF (je e) ?_;rintro i d _ j ⟨rfl,_⟩;cases d<;>first|exact .fS|exact .fD (.iG _ _)
  .cases h<;>first|exact .fS|exact .fD (.iG _ _)
  .exact .fD (.iG _ _)
  all_goals cases h<;>first|exact .fS|exact .fD (.iG _ _)
def aeu(g:Array Á)(t:Á)(h:fp Y x v)(a:fp Y z jQ):fI P fp Y (ő g t #[x,z]) (ő g t #[v,jQ]):=by
 unfold ő;cases g[0]? with
 |none=>exact .fS
 |some l=>
  apply fF (je l);rintro u d _ i ⟨rfl,B⟩;have h:=h.fR i;have a:=a.fR i;cases d<;>try exact .fS
  rename_i e;cases h<;>first|exact .fS|skip
  .rename_i n c;apply fF (N6 a);rintro o m _ b rfl;apply fF (nn e);rintro p w _ f ⟨rfl,_⟩;apply fF (F3 w _<|(a.fR b).fR f);exact λq c r j k=> .fD (.iG _ _)
  .rename_i s n c;apply fF (N6 a);rintro o m _ b rfl;apply fF (nn e);rintro p w _ f ⟨rfl,_⟩;apply fF (F3 w _<|(a.fR b).fR f);intro q c r j k;apply fF (N4 (((s.r b).r f).r j)<|by simpa using k);exact λC _ _ _ _=> .fD (.iG _ _)
end
section
variable{Y:fw}
def N8{α:Type}{h:Halt}:∀u x a,(ew h:ē α).run P u≠ĥ x a:=by intro u x a e;cases e
theorem F4{α β:Type}{m:ē α}{f:α->ē β}(h:∀a u x b,(f a).run P u≠ĥ x b):∀u x b,(m>>=f).run P u≠ĥ x b:=by
 intro u x b e;rw[Ä]at e;cases c:m.run P u with
 |ok a w=>rw[c]at e;exact h a _ _ _ e
 |halt z w=>rw[c]at e;cases e
theorem VK{α:Type}:∀u x a,(goPanic v:ē α).run P u≠ĥ x a:=N8
def aev{α:Type}{v:br}:∀u x a,(unsupported v:ē α).run P u≠ĥ x a:=N8
theorem rE{α:Type}(e:Ι):∀u x a,(runtimePanic e:ē α).run P u≠ĥ x a:=by unfold runtimePanic;grind [F4,VK]
def JB{α:Type}{V:fw->α->α->Prop}{e:Ι}{m:ē α}:fI P V Y (runtimePanic e) m:=.oP (rE e)
def aew(H:nV P)(p g t:Á)(i:(∃e,P.underlying g=À (dj e))\/P.underlying g=À ę){B:Â}(j:fp Y v jQ)(c:fp Y x B): fI P fp Y (ĸ #[p,g] t #[v,x]) (ĸ #[p,g] t #[jQ,B]):=by
 unfold ĸ;apply fF (je p);rintro C d _ D ⟨rfl,W⟩;have j:=j.fR D;have c:=c.fR D;cases d<;>try exact .fS
 rename_i e;have r:=j;cases j<;>first|exact .fS|skip
 all_goals
  refine fF (nn e) ?_;rintro X w _ E ⟨rfl,_⟩;refine fF (je g) ?_;rintro ρ3 d1 _ F ⟨rfl,k⟩;rcases i with⟨e1,i⟩|i;all_goals
   rw[i]at k;injection k with k;subst k;refine rC<|fF (N6<|c.fR<|fw.I E F) ?_;rintro ρ4 m _ I rfl;have f:=fw.I (fw.I E F) I;have c:=c.fR f;have r:=r.fR f;simp only[];split
   .apply fF (F3 w m c);intro J q K l u;first
     |exact .fD (.oz _ _)
     |exact fF (N4 (((‹hD C _ _›.r f).r l).C _)<|by simpa using u) λL _ _ h _=> .fD (.kP (((‹hD C _ _›.r f).r l).r h) _ _)
   .apply fF (yN e);rintro J G _ l ⟨rfl,_⟩;split
    .exact .oP (wT<|rE _)
    .apply fF (yN e);rintro L G _ h ⟨rfl,_⟩;split
     .refine .oP (wT ?_);simp only[Å,if_false];refine F4 λb=> ?_;simp_all
     .apply sP (.AQ λ_=> .fD U);intro M nc y;apply fF (yN e);rintro N G _ n ⟨rfl,_⟩;apply sP (N7 _);intro O _ Q;have f:=fw.I (fw.I (fw.I l h)<|fw.I y n) Q;apply fF (F3 w _<|r.fR f);intro ρa o o' h S;apply fF (F3 w m<|c.fR<|fw.I f h);intro M q K y u;apply fF (F0 H e);intro N z z' n T;exact fF (AT e<|(((S.I y).I n).tW<|u.I n).tW<|T.gU.yO _) λO a a' _ V=> .fD (.kP V _ _)
end
section
variable{Y:fw}
def aex(g:nV P)(t:Á)(i:fp Y v x)(j:fp Y z jQ):fI P fp Y (Ĺ t v z) (Ĺ t x jQ):=by
 unfold Ĺ;apply fF (je t);rintro o d _ f ⟨rfl,p⟩;cases d<;>try exact .fS
 rename_i e;apply fF (N5<|i.fR f);rintro q r _ k rfl;apply fF (N5<|(j.fR f).fR k);rintro s u _ y rfl;apply fF (yN e);rintro B C _ D ⟨rfl,_⟩;simp only[];split
 .split
  .exact .oP (wT<|rE _)
  .split
   .exact .oP (wT<|rE _)
   .exact .oP (F4 λ_=>wT<|rE _)
 .apply sP (N7 _);intro E _ F;apply fF (nn e);rintro G w _ H ⟨rfl,_⟩;split
  .exact rC<|fF (AT e<|(fT.N _).G _) λm a n _ b=> .fD (.kP b _ _)
  .exact fF (F0 g e) λ_ _ _ _ h=>rC<|fF (AT e<|h.gU.G _) λm a n _ b=> .fD (.kP b _ _)
def tX(P:Õ)(t:Á):Prop:=P.underlying t=À .bool\/(∃k,P.underlying t=À (Β k))\/P.underlying t=À ę
def np:Â->Prop
 |Þ (À _)=>False
 |_=>True
def VL(t:Á)(i:tX P t\/∃e,P.underlying t=À (ð e))(b:fp Y x v)(c:fp Y z jQ)(j:np x\/np z):fI P jv Y (ó t x z) (ó t v jQ):=by
 unfold ó ā Λ;refine fF (je t) ?_;rintro o d _ g ⟨rfl,a⟩;have b:=b.fR g;have c:=c.fR g;rcases i with(h|⟨k,h⟩|h)|⟨e,h⟩;all_goals
  rw[h]at a;injection a with a;subst a;cases b<;>cases c<;>first|exact .fS|exact .fD U|(simp[np]at j;done)|skip
 .simp only[];split<;>first|exact .fD U|exact .fS
 .rename_i l n _ _ _;by_cases f:n=0
  .subst f;exact .fD U
  .refine .oP λu x m e=> ?_;simp_all
 .rename_i l n;by_cases f:n=0
  .subst f;exact .fD U
  .refine .oP λu x m e=> ?_;simp_all
end
section
variable{Y:fw}
def JC{r:Nat}(h:Y r i):fI P (λ_ a b=>a=ë/\b=ë) Y (dm r) (dm i):=.vz h λ_ _ _ _=> .fD ⟨U,U⟩
def VM{r:Nat}(h:Y r i):fI P (λ_ a b=>a=ë/\b=ë) Y (b9 r) (b9 i):=.vz h λ_ _ _ _=> .fD ⟨U,U⟩
def AU(h:hD Y a p):fI P (λc x b=>hD c x.1 b.1/\x.2=b.2/\x=(a,Ã)/\b=(p,Ã)) Y (Į a) (Į p):=by unfold Į;apply fF (VM h.1);rintro c x d b ⟨rfl,rfl⟩;exact .fD ⟨h.r b,U,U,U⟩
def aey(h:hD Y a p):fI P jv Y (aY a) (aY p):=by unfold aY;apply fF (JC h.1);rintro b x c d ⟨rfl,rfl⟩;exact .fD U
def F5(h:hD Y a p):fI P jv Y (dq a) (dq p):=by
 have f:=h;let⟨g,i,b⟩:=f;unfold dq;cases c:a.spot with
 |some s=>
  rw[c]at b;rw[<-b];exact .fD U
 |none=>
  rw[c]at b;rw[<-b];apply fF rB;rintro k s l d ⟨rfl,e⟩;subst e;apply fF (aey<|h.r d);intro m _ _ j _;refine .vz (j.1 _ _<|d.1 _ _ g) λe n o q=> ?_;simp only[<-i,ç];split
  .exact .fD U
  .split
   .exact .fD U
   .exact .fS
def JD(c:Bi Y){b d:Ú}(f:hD Y a p)(g:hD Y b d):(a.block==b.block)=(p.block==d.block):=by
 rw[Χ,beq_iff_eq,beq_iff_eq];constructor
 .intro e;exact c.1 _ _ _ f.1<|e▸g.1
 .intro e;exact c.2.1 _ _ _ f.1<|e▸g.1
theorem VN(g:Bi Y){b c:Ú}(d:hD Y a p)(f:hD Y b c):(a==b)=(p==c):=by have e:=JD g d f;rw[Χ,beq_iff_eq,beq_iff_eq]at e;rw[Χ,beq_iff_eq,beq_iff_eq];let⟨h,i,j⟩:=a;let⟨k,l,m⟩:=p;let⟨n,o,q⟩:=b;let⟨r,s,t⟩:=c;let⟨_,u,v⟩:=d;let⟨_,w,x⟩:=f;grind
theorem VO(f:Bi Y)(n:Y.C=P.globals.size){b d:Ú}(e:hD Y a p)(g:hD Y b d):fI P jv Y (š a b) (š p d):=by
 unfold š;apply fF rB;rintro o c q h ⟨i,j⟩;rw[i,j];have k:(a.block !=b.block)=(p.block !=d.block):=by simp only[bne];rw[JD f e g]
 have l:(decide<|a.block≥P.globals.size)=(decide<|p.block≥P.globals.size):=by have:=f.2.2 _ _ e.1;grind
 rw[k,l];split
 .exact .fS
 .apply fF (F5<|e.r h);rintro r x _ m rfl;apply fF (F5<|(g.r h).r m);rintro s y _ t rfl;exact .fD U
def aez(d:Bi Y)(e:Y.C=P.globals.size)(k:ú){b c:Ú}(f:hD Y a p)(g:hD Y b c):fI P fp Y (Μ k a b) (Μ k p c):=by unfold Μ;apply fF (VO d e f g);rintro h ⟨x,y⟩ _ _ rfl;exact .fD (.iG _ _)
def aeA(e:Bi Y)(f:Y.C=P.globals.size)(c:ġ){b d:Ú}(g:hD Y a p)(h:hD Y b d):fI P fp Y (Ν c a b) (Ν c p d):=by unfold Ν;refine fF (VO e f g h) ?_;rintro i ⟨x,y⟩ _ _ rfl;cases c<;>first|exact .fD (.mG _)|exact .fS
def VP(k:ú)(b:hD Y a p)(n:Int):fI P fp Y (Ξ k a n) (Ξ k p n):=by
 unfold Ξ;refine .vz b.1 λe m d f=> ?_;apply rC;apply fF (yN e);rintro g h _ c ⟨rfl,_⟩;simp only[];split
 .exact .fS
 .apply fF (F5<|b.r c);rintro i x _ _ rfl;exact .fD (.iG _ _)
def aeB{n:Int}(h:j<=b)(a:ξ P i e j k n=À m):ξ P i e b k n=À m:=by
 unfold ξ at a|-;simp only[bind,Option.bind]at a|-;split at a
 .cases a
 .rename_i f;rw[if_neg f];split at a
  .cases a
  .rename_i g;simp only[g];dsimp only at a;split at a
   .cases a
   .rename_i l;rw[if_neg]
    .exact a
    .intro o;apply l;have:=(λw=>Nat.mul_le_mul_right w h)<|P.bytesOf e;simp at o|-;omega
def aeC{i:Á->Bool}:∀{d:Nat} {e:Á} {c a b n:Nat},c<=a->da P i d e c b n=É->da P i d e a b n=É
 |0,_,_,_,_,_,_,h=>by simp[da]at h
 |d+1,e,c,a,b,n,hc,h=>by
  unfold da at h|-;simp only at h|-;split at h
  .cases h
  .rename_i j;rw[if_neg j];rw[bI,ě,ě,ě]at h|-;rcases h with⟨⟨f,g⟩,k⟩|⟨f,g⟩
   .exact Ç ⟨⟨f,by simp at g|-;omega⟩,k⟩
   .exact Î ⟨by simp at f|-;omega,g⟩
def VQ:∀{d:Nat} {e:Á} {c a b:Nat} {u:Á} {n:Nat},c<=a->aZ P d e c b u n=É->aZ P d e a b u n=É
 |0,_,_,_,_,_,_,_,h=>by simp[aZ]at h
 |d+1,e,c,a,b,u,n,hc,h=>by
  unfold aZ at h|-;rw[bI]at h|-;rcases h with h|h
  .exact Ç<|aeC hc h
  .right;split at h
   .rename_i f;first|rw[f]|skip
    exact VQ hc h
   .cases h
def aeD{a:Á->Bool}:da P a i e 0 j (n+1)=Ã:=by
 cases i with
 |zero=>simp[da]
 |succ i=>
  unfold da;simp
def aeE{k:ú}(a:P.underlying t=À (Β k)):aZ P i e 0 j t (n+1)=Ã:=by
 cases i with
 |zero=>simp[aZ]
 |succ i=>
  unfold aZ;rw[aeD];simp[a]
def VR(t:Á)(d:hD Y a p)(k:ú)(n:Int):fI P fp Y (ñ #[] t #[Þ<|À a,Ć k n]) (ñ #[] t #[Þ<|À p,Ć k n]):=by
 have f:=d;let⟨c,g,h⟩:=f;unfold ñ;apply rC;simp only[];split
 .apply fF (JC c);rintro i x e b ⟨rfl,rfl⟩;exact .fD (.jT (d.r b))
 .split
  .exact .fS
  .refine .vz c λe m u j=> ?_;apply rC;apply fF rB;rintro i b v l ⟨o,r⟩;rw[o,r,<-g];cases s:ξ P P.depth e (m/P.cellsOf e) a.off n with
   |none=>exact .fS
   |some x=>
    rw[aeB (ο<|j.elim (λq=>by omega) λq=>q.1) s];exact .fD (.jT ⟨l.1 _ _ c,U,h⟩)
end
def yP:Obj->Prop
 |Č .. =>False
 |_=>True
inductive kQ(P:Õ){α:Type}(V:fw->α->α->Prop):fw->ē α->ē α->Prop
 |gu {Y:fw} {m m':ē α} (h:fI P V Y m m'):kQ P V Y m m'
 |lG {Y:fw} {β:Type} {V0:fw->β->β->Prop} {m m':ē β} {f f':β->ē α} (h:fI P V0 Y m m') (hf:∀Y' a a',Y.r Y'->V0 Y' a a'->kQ P V Y' (f a) (f' a')):kQ P V Y (m.bind f) (m'.bind f')
 |Dg {Y:fw} {o:Obj} {g:Nat->α} {m':ē α} (ho:yP o):kQ P V Y (.new o λr=>aI<|g r) m'
 |Dh {Y:fw} {m m':ē α} (h:∀u x u',m.run P u=ĥ x u'->∃i o,u.heap.size<=i/\u'.heap[i]?=À o/\yP o):kQ P V Y m m'
section
variable{Y:fw}
def kQ.aeF{α β:Type}{V:fw->α->α->Prop}{i:fw->β->β->Prop}{m e:ē α}{f j:α->β}(h:kQ P V Y m e)(k:∀c a d,Y.r c->V c a d->i c (f a) (j d)): kQ P i Y (m.bind λa=>aI<|f a) (e.bind λa=>aI<|j a):=by
 induction h with
 |gu h=>exact .gu (h.lG λc a d u w=> .fD (k c a d u w))
 |lG h _ g=>
  rw[ř,ř];exact .lG h λc a d u w=>g c a d u w λx b z l n=>k x b z (fw.I u l) n
 |Dg b=>exact .Dg b
 |@Dh Y m e h=>
  refine .Dh λu x l b=> ?_;rw[Ĵ]at b;cases g:m.run P u with
  |halt z w=>rw[g]at b;cases b
  |ok a w=>
   rw[g]at b;simp only[ã]at b;cases b;exact h u a _ g
def Di(u a:Æ):Prop:=∀i o,u.heap.size<=i->a.heap[i]?=À o->¬yP o
def kQ.gl{α:Type}{V:fw->α->α->Prop}{Y:fw}{m r:ē α}(h:kQ P V Y m r):∀{u w:Æ},jk Y X u w->(∀j,X j->j<w.heap.size)->∀{x:α} {c:Æ},m.run P u=ĥ x c->Di u c->∀d:Array ý,∃(a:fw) (n:α) (s:Æ) (b:Array ý),Y.r a/\(∀i j,a i j->Y i j\/(u.heap.size<=i/\w.heap.size<=j))/\r.runT P w d=(ĥ n s,d++b)/\V a x n/\jk a X c s/\nU Y X w s/\(∀e∈b,AR a X e)/\u.heap.size<=c.heap.size:=by
 induction h with
 |gu h=>intro u w k g x c b _ d;exact h.gl k g b d
 |@lG Y β V0 m r f f' h _ ih=>
  intro u w k g x c b l d;rw[Ĵ]at b;cases t:m.run P u with
  |halt z w=>rw[t]at b;cases b
  |ok a u1=>
   rw[t]at b;let⟨G,H,w1,E,p,q,v,I,J,B,K,C⟩:=h.gl k g t d;let⟨L,n,M,N,F,O,Q,S,T,W,k7,k8⟩:=ih G a H p I J (λj s=>Ô (g j s) B.r) b (λi o s=>l i o<|õ C s)<|d++E;refine⟨L,n,M,E++N,fw.I p F,λi j D=> ?_,?_,S,T,B.ff W λi j D=>(q i j D).imp id λy=>y.2,λe s=> ?_,õ C k8⟩
   .rcases O i j D with y|⟨y1,y2⟩
    .exact q i j y
    .exact Î ⟨õ C y1,õ B.r y2⟩
   .rw[Ñ,v];simp only[];rw[Q,Ļ]
   .rcases Ĝ.1 s with s|s
    .rcases K e s with⟨a,i,y,z2,z3,z4⟩|z
     .exact Ç ⟨a,i,y,F.1 _ _ z2,z3,z4⟩
     .exact Î z
    .exact k7 e s
 |Dg s=>
  intro u w k g x c b l d;simp only[ã]at b;cases b;exact absurd s<|l u.heap.size _ (ß _) fl
 |Dh h=>
  intro u w k g x c b l d;let⟨i,o,p,q,v⟩:=h u x c b;exact absurd v<|l i o p q
end
section
variable{Y:fw}
theorem aeG(i:Bi Y)(F:Y.C=P.globals.size)(t:Á)(s:tX P t){j b m:Ú}(e:hD Y a j)(f:hD Y b m):fI P jv Y (ó t (Þ<|À a)<|Þ<|À b) (ó t (Þ<|À j)<|Þ<|À m):=by
 unfold ó ā Λ;refine fF (je t) ?_;rintro G d _ g ⟨rfl,c⟩;rcases s with h|⟨k,h⟩|h
 .rw[h]at c;injection c with c;subst c;exact .fS
 .rw[h]at c;injection c with c;subst c;apply fF (AU<|e.r g);rintro H p u l ⟨_,_,rfl,rfl⟩;apply fF (AU<|(f.r g).r l);rintro I q J n ⟨_,_,rfl,rfl⟩;apply fF rB;rintro K p u o ⟨v,w⟩;rw[v,w];have z:=(((e.r g).r l).r n).r o;have B:=(((f.r g).r l).r n).r o;have C:=JD i e f;have D:(decide<|a.block<P.globals.size)=(decide<|j.block<P.globals.size):=by
   have:=i.2.2 _ _ e.1;grind
  simp only[C,D];split
  .apply fF (F5 z);rintro E x _ r rfl;apply fF (F5<|B.r r);rintro L y _ M rfl;exact .fD U
  .apply fF (yN t);rintro E x _ r ⟨rfl,_⟩;split
   .rw[VN i e f];split
    .exact .fD U
    .exact .fS
   .exact .fS
 .rw[h]at c;injection c with c;subst c;exact .fS
def aeH(e:Bi Y)(f:Y.C=P.globals.size)(t:Á)(b:tX P t)(c:fp Y x v)(d:fp Y z jQ):fI P jv Y (ó t x z) (ó t v jQ):=by
 by_cases a:np x\/np z
 .exact VL t (Ç b) c d a
 .have g:=λh=>a<|Ç h;have i:=λh=>a<|Î h;cases c<;>first|exact absurd trivial g|skip
  cases d<;>first|exact absurd trivial i|skip
  rename_i j _ _ k;exact aeG e f t b j k
def aeI(a:ġ)(k:ú)(x y:Int):fI P fp Y (ah a k x y) (ah a k x y):=by
 unfold ah;split
 .exact JB
 .cases a<;>first|exact .fS|exact .fD (.iG _ _)
def aeJ(a:ġ)(k b:ú)(x y:Int):fI P fp Y (aK a k x b y) (aK a k x b y):=by
 unfold aK;split
 .exact JB
 .cases a<;>first|exact .fS|exact .fD (.iG _ _)
def aeK(a:ġ)(t:Á)(k b:ú)(x y:Int):fI P fp Y (Ũ a t (Ć k x)<|Ć b y) (Ũ a t (Ć k x)<|Ć b y):=by
 cases a<;>simp only[Ũ]<;>first|exact aeJ _ _ _ _ _|skip
 all_goals
  split
  .exact .fS
  .first|exact .fD (.iG _ _)|exact .fD (.mG _)|exact aeI _ _ _ _
def aeL(a:ġ)(t:Á)(x y:ByteArray):fI P fp Y (Ũ a t (ħ x)<|ħ y) (Ũ a t (ħ x)<|ħ y):=by
 cases a<;>simp only[Ũ,bu]<;>first|exact .fS|exact .fD (.mG _)|skip
 split
 .exact .fS
 .exact .fD (.ko _)
end
section
variable{Y:fw}
def lj{α β:Type}{V0:fw->β->β->Prop}{V:fw->α->α->Prop}{m c:ē β}{f d:β->ē α}(h:fI P V0 Y m c) (g:∀b a e,Y.r b->V0 b a e->kQ P V b (f a) (d e)):kQ P V Y (m>>=f) (c>>=d):=.lG h g
def aeM{α β:Type}{V:fw->α->α->Prop}{c:fw->β->β->Prop}{m d:ē α}{f e:α->β}(h:kQ P V Y m d)(i:∀b a g,Y.r b->V b a g->c b (f a) (e g)): kQ P c Y (m>>=λa=>pure<|f a) (d>>=λa=>pure<|e a):=kQ.aeF h i
def VS(t:Á)(y:Â):∀u x a,(ñ #[] t #[Þ ë,y]).run P u≠ĥ x a:=by
 unfold ñ;refine F4 λn=> ?_;simp only[];split
 .exact aev
 .split;all_goals simp_all
def Dj(t:Á)(i:fp Y x v)(j:∃p,x=Þ p)(k:ú)(n:Int):kQ P fp Y (ŕ t x<|Ć k n) (ŕ t v<|Ć k n):=by
 obtain⟨p,rfl⟩:=j;cases i with
 |lW=>
  unfold ŕ;refine lj (je t) ?_;rintro e d _ h ⟨rfl,_⟩;cases d<;>simp only[Å,if_false,if_true]<;>first|exact .gu .fS|exact .gu (.oP (VS t _))
 |jT f=>
  unfold ŕ;refine lj (je t) ?_;rintro e d _ h ⟨rfl,_⟩;have l:∀{a g:Ú},hD e a g->kQ P fp e (Į a>>=λp=>ñ #[] t #[Þ<|À p.1,Ć k n]>>=λc=>match c with|Þ (À b)=>cg b p.2|c=>pure c) (Į g>>=λp=>ñ #[] t #[Þ<|À p.1,Ć k n]>>=λc=>match c with|Þ (À b)=>cg b p.2|c=>pure c):=by intro a g f;refine lj (AU f) ?_;rintro q p r s ⟨m,u,rfl,rfl⟩;refine lj (VR t m k n) ?_;intro w c y z o;cases o<;>first|exact .Dg trivial|exact .gu (.fD (by constructor<;>assumption))
  cases d<;>simp only[Å,if_false,if_true]<;>first|exact .gu .fS|exact l<|f.r h
def VT(t:Á)(b:fp Y x v)(c:∃p,x=Þ p)(k:ú)(n:Int):kQ P fp Y (Ţ t x<|Ć k n) (Ţ t v<|Ć k n):=by
 unfold Ţ;obtain⟨p,rfl⟩:=c;cases b with
 |lW=>exact .gu (.oP (VS t _))
 |jT a=>
  apply lj (VM a.1);rintro e p f d ⟨rfl,rfl⟩;exact .gu (VR t (a.r d) k n)
def aeN(P:Õ)(a:ġ)(t:Á)(x y:Â):Prop:=a=aA\/a=aL->(tX P t\/((∃e,P.underlying t=À (ð e))/\(np x\/np y)))
def VU(c:Bi Y)(d:Y.C=P.globals.size)(t:Á)(f:tX P t\/((∃e,P.underlying t=À (ð e))/\(np x\/np z)))(a:fp Y x v)(b:fp Y z jQ):fI P jv Y (ó t x z) (ó t v jQ):=by
 rcases f with h|⟨g,i⟩
 .exact aeH c d t h a b
 .exact VL t (Î g) a b i
def aeO(m:Bi Y)(n:Y.C=P.globals.size)(c:ġ)(t:Á)(r:aeN P c t x z)(o:fp Y x v)(h:fp Y z jQ):kQ P fp Y (Ũ c t x z) (Ũ c t v jQ):=by
 have f:c=aA->fI P fp Y (ó t x z>>=λb=>pure<|Ľ b) (ó t v jQ>>=λb=>pure<|Ľ b):=by intro e;apply fF (VU m n t (r<|Ç e) o h);rintro i b _ _ rfl;exact .fD (.mG _)
 have g:c=aL->fI P fp Y (ó t x z>>=λb=>pure<|Ľ !b) (ó t v jQ>>=λb=>pure<|Ľ !b):=by intro e;apply fF (VU m n t (r<|Î e) o h);rintro i b _ _ rfl;exact .fD (.mG _)
 cases o with
 |iG k a=>
  cases h with
  |iG d b=>exact .gu (aeK c t k d a b)
  |jT l=>
   cases c<;>first|exact .gu .fS|exact .gu (f U)|exact .gu (g U)|exact Dj t (.jT l) ⟨_,U⟩ _ _|skip
   apply lj (AU l);rintro i p s e ⟨j,_,_,_⟩;exact .gu (VP _ j _)
  |lW=>cases c<;>first|exact .gu .fS|exact .gu (f U)|exact .gu (g U)|exact Dj t .lW ⟨_,U⟩ _ _
  |_=>cases c<;>first|exact .gu .fS|exact .gu (f U)|exact .gu (g U)
 |ko a=>
  cases h with
  |ko b=>exact .gu (aeL c t a b)
  |_=>cases c<;>first|exact .gu .fS|exact .gu (f U)|exact .gu (g U)
 |lW=>
  cases h with
  |iG k b=>
   cases c<;>first|exact .gu .fS|exact .gu (f U)|exact .gu (g U)|exact Dj t .lW ⟨_,U⟩ _ _|skip
   refine lj (je t) ?_;rintro i d _ e ⟨rfl,_⟩;cases d<;>simp only[Å,if_false,if_true]<;>first|exact VT t .lW ⟨_,U⟩ _ _|exact Dj t .lW ⟨_,U⟩ _ _
  |_=>cases c<;>first|exact .gu .fS|exact .gu (f U)|exact .gu (g U)
 |jT a=>
  cases h with
  |iG k b=>
   cases c<;>first|exact .gu .fS|exact .gu (f U)|exact .gu (g U)|exact Dj t (.jT a) ⟨_,U⟩ _ _|skip
   .refine lj (je t) ?_;rintro i d _ e ⟨rfl,_⟩;have a:=a.r e;cases d<;>simp only[Å,if_false,if_true]<;>first|exact VT t (.jT a) ⟨_,U⟩ _ _|exact Dj t (.jT a) ⟨_,U⟩ _ _
   all_goals
    apply lj (AU a);rintro i p s e ⟨j,_,_,_⟩;exact .gu (VP _ j _)
  |jT l=>
   cases c<;>first|exact .gu .fS|exact .gu (f U)|exact .gu (g U)|skip
   all_goals
    refine lj (AU a) ?_;rintro i p s e ⟨j,_,rfl,rfl⟩;refine lj (AU<|l.r e) ?_;rintro w q B b ⟨d,_,rfl,rfl⟩;have k:=b.2.1<|e.2.1 m;have u:=b.2.2.trans<|e.2.2.trans n;first|exact .gu (aez k u _ (j.r b) d)|exact .gu (aeA k u _ (j.r b) d)
  |_=>cases c<;>first|exact .gu .fS|exact .gu (f U)|exact .gu (g U)
 |_=>
  cases h<;>cases c<;>first|exact .gu .fS|exact .gu (f U)|exact .gu (g U)
end
section
variable{Y:fw}
def aeP(a b:Á)(h:(∃k g,P.underlying a=À (Β k)/\P.underlying b=À (Β g))\/(P.underlying a=À ę/\P.underlying b=À ę))(f:fp Y x v):fI P fp Y (Œ a b x) (Œ a b v):=by
 unfold Œ;refine fF (je a) ?_;rintro n d _ l ⟨rfl,c⟩;refine fF (je b) ?_;rintro o p _ m ⟨rfl,e⟩;have f:=(f.fR l).fR m;rcases h with⟨k,g,i,j⟩|⟨i,j⟩;all_goals
  rw[i]at c;rw[j]at e;injection c with c;injection e with e;subst c e;cases f<;>first|exact .fS|exact .fD (.iG _ _)|exact .fD (.ko _)
inductive po(Y:fw):Ο->Ο->Prop
 |nW {v v':Â} (h:fp Y v v'):po Y (ï v) (ï v')
 |sQ:po Y aH aH
 |sR (f:à) {c c':Array Â} (h:fT Y c c'):po Y (ũ f c) (ũ f c')
def F6(P:Õ)(t:Á):Prop:=tX P t\/∃e,P.underlying t=À (ð e)
def aeQ(t:Á)(f:F6 P t)(a g b i:Â):fI P jv Y (į ā t a b) (į ā t g i):=by
 unfold ā į;refine fF (je t) ?_;rintro j d _ l ⟨rfl,c⟩;rcases f with(h|⟨k,h⟩|h)|⟨e,h⟩;all_goals
  rw[h]at c;injection c with c;subst c;exact .fD U
def aeR(e:ġ)(t:Á)(c:e=aA\/e=aL->F6 P t)(x y:Ö){d:Â}(h:fp Y v z)(i:fp Y jQ d):fI P jv Y (ŷ e t x y v jQ) (ŷ e t x y z d):=by
 have g:F6 P t->∀{f:fw} (s:br) (v z jQ d:Â),fI P jv f (į ā t v jQ>>=λr=>if r=É then unsupported s else pure ()) (į ā t z d>>=λr=>if r=É then unsupported s else pure ()):=by
  intro c f s v z jQ d;apply fF (aeQ t c v z jQ d);rintro j r _ _ rfl;split
  .exact .fS
  .exact .fD U
 unfold ŷ;cases e<;>first|exact .fD U|skip
 all_goals
  have c:=c (by first|exact Ç U|exact Î U);cases h<;>cases i<;>first|exact .fD U|skip
 all_goals first
  |(cases x<;>cases y<;>first|exact .fD U|exact g c _ _ _ _ _)
  |(
   simp only[þ,Å,if_false];apply fF rB;rintro f p m n ⟨r,s⟩;rw[r,s];apply fF rB;rintro j q o u ⟨k,l⟩;rw[k,l];split
   .exact .fD U
   .exact g c _ _ _ _ _)
def mS{m a:ē Â}(h:fI P fp Y m a):fI P po Y (m>>=λv=>pure<|ï v) (a>>=λv=>pure<|ï v):=h.lG λ_ _ _ _ v=> .fD (.nW v)
def VW{m a:ē Â}(h:kQ P fp Y m a):kQ P po Y (m>>=λv=>pure<|ï v) (a>>=λv=>pure<|ï v):=aeM h λ_ _ _ _ v=> .nW v
def aeS{m a:ē Unit}(h:fI P jv Y m a):fI P po Y (m>>=λ_=>pure aH) (a>>=λ_=>pure aH):=h.lG λ_ _ _ _ _=> .fD .sQ
def aeT(f:à)(b:∃a,P.funcs[f]?=À a/\(a.name== "runtime.NumGoroutine")=Ã/\a.body.isNone=Ã)(e:fT Y d q):fI P po Y (ĵ f d) (ĵ f q):=by let⟨a,g,h,i⟩:=b;unfold ĵ;apply fF rB;rintro m p n j ⟨k,l⟩;rw[k,l,g];simp only[h,i,Å,if_false];exact .fD (.sR f (e.I j))
end
inductive kq(P:Õ)(ev:Ö->Â):Op->Prop
 |wY (x:Ö):kq P ev (.move x)
 |F7 (x:Ö):kq P ev (.assign x)
 |wZ (c a b:Ö):kq P ev (.pick c a b)
 |gK (t:Á):kq P ev (.alloc t)
 |N9 (t:Á) (x:Ö):kq P ev (.box t x)
 |Oa (t:Á) (ps:Array (Nat×Operand)):kq P ev (.build t ps)
 |Ob (t:Á) (n:Nat) (ps:Array (Nat×Operand)):kq P ev (dF t n ps)
 |gB (t:Á) (a:Ö):kq P ev (.load t a)
 |jf (t:Á) (a x:Ö):kq P ev (.store t a x)
 |F8 (x:Ö):kq P ev (eD x)
 |Dk (op:ġ) (t:Á) (x y:Ö) (r:Á) (h:op=aA\/op=aL->(tX P t\/((∃e,P.underlying t=À (ð e))/\(np (ev x)\/np (ev y))))):kq P ev (dV op t x y r)
 |Oc (op:UnOp) (t:Á) (x:Ö):kq P ev (.unOp op t x)
 |Od (s d:Á) (x:Ö) (h:(∃k k',P.underlying s=À (Β k)/\P.underlying d=À (Β k'))\/(P.underlying s=À ę/\P.underlying d=À ę)):kq P ev (aN s d x)
 |Oe (t:Á) (l c:Ö):kq P ev (dW t l c)
 |kP (t:Á) (x:Ö) (lo hi mx:Option Ö):kq P ev (.slice t x lo hi mx)
 |Og (s:Á) (x:Ö) (n:Nat) (h:∀fields f i,P.underlying s=À (di fields)->fields[n]?=À f->P.info? f.type=À i->i.size≠0):kq P ev (dX s x n)
 |Oh (t:Á) (x:Ö) (n:Nat):kq P ev (.field t x n)
 |Oi (t:Á) (x i:Ö):kq P ev (dY t x i)
 |Oj (t:Á) (x i:Ö):kq P ev (.index t x i)
 |FY (x:Ö) (n:Nat):kq P ev (.extract x n)
 |F9 (x:Ö) (ts:Array Á):kq P ev (Ω {callee:=ĝ .len,args:=#[x],argTypes:=ts})
 |Gb (x:Ö) (ts:Array Á):kq P ev (Ω {callee:=ĝ .cap,args:=#[x],argTypes:=ts})
 |Gc (x y:Ö) (ts:Array Á):kq P ev (Ω {callee:=ĝ .copy,args:=#[x,y],argTypes:=ts})
 |tW (x y:Ö) (t0 t1:Á) (h:(∃e,P.underlying t1=À (dj e))\/P.underlying t1=À ę):kq P ev (Ω {callee:=ĝ .append,args:=#[x,y],argTypes:=#[t0,t1]})
 |jM (f:à) (args:Array Ö) (ts:Array Á) (VX:ev (aO f)=eL (.func f) #[] #[]) (h:∃fn,P.funcs[f]?=À fn/\(fn.name== "runtime.NumGoroutine")=Ã/\fn.body.isNone=Ã):kq P ev (Ω {callee:=cj<|aO f,args:=args,argTypes:=ts})
end Go.Proofs.Y.Lift
namespace Go.Proofs.Y.Lift
open Go Go.Conc
section
variable{Y:fw}
def VY(Y:fw):Ö->Prop
 |dZ v=>fp Y v v
 |ez g=>Y g g
 |_=>True
theorem Gd(Y:fw):fp Y ľ ľ:=.nT U λi h=>absurd h fl
def aeU{a a':bF}(h:fT Y a.tmps a'.tmps)(b:VY Y qQ):fp Y (a.eval qQ) (a'.eval qQ):=by
 cases qQ with
 |tmp t=>
  simp only[å,ĩ];rcases h.S t with⟨f,g⟩|⟨v,d,f,g,c⟩
  .rw[f,g];exact Gd Y
  .rwa[f,g]
 |const v=>exact b
 |global g=>exact .jT ⟨b,U,U⟩
 |func f=>exact .fn _
def aeV(b:Array av)(h:fT Y d q)(j:Nat):ł b d j=ł b q j:=by
 unfold ł;cases(b[j]?).bind (·.dst)with
 |none=>rfl
 |some a=>
  simp only[Option.bind_some];rcases h.S a with⟨c,e⟩|⟨v,g,c,e,f⟩
  .rw[c,e]
  .rw[c,e];cases f<;>rfl
def JF(a:Array av)(o:av)(h:fT Y d q):Ħ o (ł a d)=Ħ o (ł a q):=by have:ł a d=ł a q:=funext<|aeV a h;rw[this]
def aeW{a a':bF}(h:fT Y a.tmps a'.tmps)(d:Option Tmp)(b:fp Y v x):fT Y (a.put d v).tmps (a'.put d x).tmps:=by
 cases d with
 |none=>exact h
 |some d=>exact h.qN d b
end
section
variable{Y:fw}
def VZ{b:Ö->Â}(a:Array Ö)(h:∀x∈a,fp Y (xX x)<|b x):fT Y (a.map xX) (a.map b):= ⟨fl,λi c d=>by simp only[ŵ];exact h _<|Array.getElem_mem _⟩
def V1{c:Ö->Â}(a:Array (Nat×Operand))(h:∀x∈(a.toList.map (·.2)).toArray,fp Y (xX x)<|c x):vA Y (a.map λp=>(p.1,xX p.2)).toList (a.map λp=>(p.1,c p.2)).toList:=by
 simp only[Array.toList_map];have d:∀x∈a.toList.map (·.2),fp Y (xX x) (c x):=λx b=>h x (by simpa using b);generalize a.toList=l at d
 induction l with
 |nil=>exact .pn
 |cons p l e=>exact .wW ⟨U,d _ fl⟩ (e λx b=>d x<|by simp at b|-;exact Î b)
def Ol{a:Ö->Â}(x:Option Ö)(h:∀y,x=À y->fp Y (xX y) (a y)):rD Y (x.map xX) (x.map a):=by
 cases x with
 |none=>exact Ç ⟨U,U⟩
 |some x=>exact Î ⟨_,_,U,U,h x U⟩
def V2(p:nV P)(D:Bi Y)(E:Y.C=P.globals.size){w:Ö->Â}(F:∀f,w (aO f)=eL (.func f) #[] #[])(B:kq P xX o.op)(g:∀x∈o.op.operands,fp Y (xX x)<|w x):kQ P po Y (ì xX o) (ì w o):=by
 let⟨O,u,Q,S,T,guard⟩:=o;simp only at B g;unfold ì;simp only[];cases B with
 |wY x=>exact .gu (.fD (po.nW<|g x<|by simp[Ê]))
 |F7 x=>exact .gu (.fD (po.nW<|g x<|by simp[Ê]))
 |wZ c a b=>
  apply lj (VI<|g c<|by simp[Ê]);rintro G r _ k rfl;refine .gu (.fD (po.nW ?_));split
  .exact(g a<|by simp[Ê]).fR k
  .exact(g b<|by simp[Ê]).fR k
 |gK t=>exact .gu (mS<|ad4 p t _)
 |N9 t x=>exact .gu (mS<|ad5 t<|g x<|by simp[Ê])
 |Oa t z=>exact .gu (mS<|ael p t<|V1 z g)
 |Ob t n z=>exact .gu (mS<|aeo p t n<|V1 z g)
 |gB t a=>exact .gu (mS<|ad6 t<|g a<|by simp[Ê])
 |jf t a x=>exact .gu (aeS<|ad7 t (g a<|by simp[Ê])<|g x<|by simp[Ê])
 |F8 x=>
  simp only[];have j:=g x (by simp[Ê]);generalize xX x=v at j;generalize w x=v' at j;cases j<;>first|exact .gu JB|exact .gu (.fD (po.nW<|by constructor<;>assumption))|skip
  rename_i f;cases f<;>exact .gu (.fD (po.nW<|.fn _))
 |Dk u t x y r h=>
  have j:=g x (by simp[Ê]);have C:=g y (by simp[Ê]);apply VW;apply lj (aeR u t (λe=>(h e).imp id λq=>q.1) x y j C);exact λG _ _ k _=>aeO (k.2.1 D) (k.2.2.trans E) u t h (j.fR k)<|C.fR k
 |Oc u t x=>exact .gu (mS<|aef u<|g x<|by simp[Ê])
 |Od s d x h=>exact .gu (mS<|aeP s d h<|g x<|by simp[Ê])
 |Oe t l c=>exact .gu (mS<|aex p t (g l<|by simp[Ê])<|g c<|by simp[Ê])
 |kP t x H I J=>exact .gu (mS<|aed t (g x<|by simp[Ê]) (Ol H λy e=>g y<|by simp[Ê,e]) (Ol I λy e=>g y<|by simp[Ê,e])<|Ol J λy e=>g y<|by simp[Ê,e])
 |Og s x n h=>exact .gu (mS<|aea s (g x<|by simp[Ê]) n h)
 |Oh t x n=>exact .gu (mS<|ad9 t (g x<|by simp[Ê]) n)
 |Oi t x i=>exact .gu (mS<|aeb t (g x<|by simp[Ê])<|g i<|by simp[Ê])
 |Oj t x i=>exact .gu (mS<|aee t (g x<|by simp[Ê])<|g i<|by simp[Ê])
 |FY x n=>exact .gu (mS<|ad8 (g x<|by simp[Ê]) n)
 |F9 x m=>
  simp only[ù,č,Ē,pure_bind,Ø,â,ä];exact .gu (mS<|aer m _<|g x<|by simp[Ê,ô])
 |Gb x m=>
  simp only[ù,č,Ē,pure_bind,Ø,â,ä];exact .gu (mS<|aes m _<|g x<|by simp[Ê,ô])
 |Gc x y m=>
  simp only[ù,č,Ē,pure_bind,Ø,â,ä];exact .gu (mS<|aeu m _ (g x<|by simp[Ê,ô])<|g y<|by simp[Ê,ô])
 |tW x y K L h=>
  simp only[ù,č,Ē,pure_bind,Ø,â,ä];exact .gu (mS<|aew p K L _ h (g x<|by simp[Ê,ô])<|g y<|by simp[Ê,ô])
 |jM f M m N h=>
  simp only[ù,N,F f,İ,č,pure_bind,Ď,ď];exact .gu (aeT f h<|VZ M λx j=>g x<|by simp[Ê,ô,j])
end
def World.tp(u:Æ)(T:ψ)(D:Nat):Æ:={u with tape:=T,drawn:=D}
def vB(T:ψ)(D:Nat)(a:ψ)(b n:Nat):Prop:=∀i,i<n->a (b+i)=T (D+i)
def vB.lY{T:ψ}(h:vB T i xQ j (n+1)):xQ j=T i:=h 0 Z
def vB.jw{T:ψ}(h:vB T i xQ j (n+m)):vB T i xQ j n:=λa b=>h a Z
def vB.Om{b:ψ}(h:vB xQ i b j (n+m)):vB xQ (i+n) b (j+n) m:=λa c=>by have:=h (n+a) Z;rw[show j+n+a=j+(n+a) by omega,show i+n+a=i+(n+a) by omega];exact this
def rF{α:Type}(P:Õ)(m:ē α):Prop:=∀(u:Æ) (T:ψ) (D:Nat),∃(n:Nat) (v:Æ),
 ∀x c,m.run P ((World.tp u T D))=ĥ x c->c=(World.tp v T<|D+n)/\∀a b,vB T D a b n->m.run P ((World.tp u a b))=ĥ x ((World.tp v a<|b+n))
section
variable{α β:Type}
def AV{m:ē α}(h:∀u x a,m.run P u=ĥ x a->a=u/\∀b c,m.run P ((World.tp u b c))=ĥ x ((World.tp u b c))):rF P m:=λu T D=>⟨0,u,λx a e=>by let⟨d,f⟩:=h _ x a e;exact⟨d,λb c _=>f b c⟩⟩
def On{m:ē α}(h:∀u x a,m.run P u≠ĥ x a):rF P m:=λu T D=>⟨0,u,λx a e=>absurd e<|h _ _ _⟩
def aeX{m:ē α}{f:α->ē β}(h:rF P m)(i:∀a,rF P<|f a):rF P (m.bind f):=by
 intro u T D;let⟨n,v,j⟩:=h u T D;cases b:m.run P ((World.tp u T D))with
 |halt z w=>exact⟨0,u,λx c e=>by rw[Ĵ,b]at e;cases e⟩
 |ok a k=>
  obtain⟨rfl,l⟩:=j a k b;let⟨o,w,p⟩:=i a v T<|D+n;refine⟨n+o,w,λx c e=> ?_⟩;rw[Ĵ,b]at e;let⟨q,r⟩:=p x c e;refine⟨by rw[q,cQ],λz d g=> ?_⟩;rw[Ĵ,l z d g.jw,<-cQ];exact r z (d+n) g.Om
theorem aeY{m a:ē α}(h:∀u,m.run P u=a.run P u)(b:rF P a):rF P m:=by intro u T D;let⟨n,v,c⟩:=b u T D;exact⟨n,v,λx d e=>by grind⟩
def aeZ(q:bU):rF P (π q):=by
 intro u T D;cases a:q.forced with
 |true=>exact⟨0,u,λx d e=>by simp only[π,ã,a,if_true]at e;cases e;exact⟨U,λb c _=>by simp only[π,ã,a,if_true];rfl⟩⟩
 |false=>
  refine⟨1,u,λx d e=> ?_⟩;simp only[π,ã,a,Å,if_false]at e;cases e;refine⟨U,λb c f=> ?_⟩;simp only[π,ã,a,Å,if_false];have g:(World.tp u b c).tape (World.tp u b c).drawn q=T D q:=congrFun f.lY q;rw[g];rfl
def JG{γ:Type}(s:String):(MonadExcept.throw s:Except String γ)=bG s:=rfl
def ae0(a:Ú)(md:Mode):rF P (aX a md):=by
 refine AV λu x f e=> ?_;simp only[aX,ã]at e|-;cases b:u.cell? a with
 |some v=>
  rw[b]at e;cases e;exact⟨U,λc d=>by simp only[show((World.tp u c d)).cell? a=À x from b]⟩
 |none=>
  rw[b]at e;cases v:u.farLoad P a (md==ċ)with
  |error z=>simp only[v]at e;cases e
  |ok p=>
   simp only[v]at e;cases e;exact⟨U,λc d=>by simp only[show((World.tp u c d)).cell? a=ë from b,show((World.tp u c d)).farLoad P a (md==ċ)=.ok p from v]⟩
def Oo(u:Æ)(a:Ú)(v:Â)(md:Mode):∀T D,((World.tp u T D)).farStore P a v (md==ċ)=(u.farStore P a v<|md==ċ).map λp=>((World.tp p.1 T D),p.2):=by
 intro T D;have c:∀b t,((World.tp u T D)).viewStore P b t a v (md==ċ)=(u.viewStore P b t a v<|md==ċ).map λp=>((World.tp p.1 T D),p.2):=by
  intro b t;unfold bJ;have o:((World.tp u T D)).seen P b t a (md==ċ)=u.seen P b t a (md==ċ):=U;rw[o];simp only[bind,ρ,pure,ς,JG];cases u.seen P b t a (md==ċ)with
  |error e=>simp only[];split<;>rfl
  |ok r=>
   simp only[];repeat' (first|rfl|split)
 unfold Ŧ;have e:((World.tp u T D)).heap=u.heap:=U;cases r:u.heap[a.block]? with
 |none=>simp only[aP,e,r];rfl
 |some o=>
  cases o<;>first
   |(simp only[aP,e,r];rfl)
   |skip
  simp only[e,r,c];cases u.viewStore P _ _ a v (md==ċ)<;>rfl
def ae1(a:Ú)(v:Â)(md:Mode):rF P (ar a v md):=by
 by_cases b:yK v=É
 .intro u T D;cases d:u.cell? a with
  |some y=>
   cases c:u.frozen? a with
   |true=>exact⟨0,u,λx h e=>by simp only[ar]at e;rw[wV b,show((World.tp u T D)).cell? a=À y from d]at e;simp only[show((World.tp u T D)).frozen? a=É from c,if_true]at e;cases e⟩
   |false=>
    refine⟨0,u.setCell a v,λx h e=> ?_⟩;simp only[ar]at e|-;rw[wV b,show((World.tp u T D)).cell? a=À y from d]at e;simp only[show((World.tp u T D)).frozen? a=Ã from c,Å,if_false]at e;cases e;refine⟨U,λf g i=> ?_⟩;rw[wV b,show((World.tp u f g)).cell? a=À y from d];simp only[show((World.tp u f g)).frozen? a=Ã from c,Å,if_false];rfl
  |none=>
   cases c:u.farStore P a v (md==ċ)with
   |error z=>exact⟨0,u,λx h e=>by simp only[ar]at e;rw[wV b,show((World.tp u T D)).cell? a=ë from d]at e;simp only[Oo u a v md T D,c,cm]at e;cases e⟩
   |ok p=>
    refine⟨0,p.1,λx h e=> ?_⟩;simp only[ar]at e|-;rw[wV b,show((World.tp u T D)).cell? a=ë from d]at e;simp only[Oo u a v md T D,c,cm]at e;cases e;refine⟨U,λf g i=> ?_⟩;rw[wV b,show((World.tp u f g)).cell? a=ë from d];simp only[Oo u a v md f g,c,cm];rfl
 .exact On λu x h e=>by cases v<;>first|exact absurd U b|cases e
def ae2(o:Obj):rF P (eO o):=λu T D=>⟨0,{u with heap:=u.heap.push o},λx a e=>by cases e;exact⟨U,λb c _=>rfl⟩⟩
def ae3(r:Nat):rF P (cu r):=by
 refine AV λu x d e=> ?_;simp only[cu,ã]at e|-;cases a:u.heap[r]? with
 |none=>rw[a]at e;cases e
 |some o=>
  rw[a]at e;cases o<;>first
   |(cases e;done)
   |(cases e;exact⟨U,λb c=>by simp only[show((World.tp u b c)).heap[r]?=_ from a]⟩)
end
def qO(u:Æ):Prop:=∀(i:Nat) (c:Array Â) (e:Á),u.heap[i]?≠À (Ÿ c e)
structure Kd(u u':Æ):Prop where
 r:qO u->qO u'
 C:∀(i:Nat) (o:Obj),u.heap[i]?=À o->yP o->∃o',u'.heap[i]?=À o'/\yP o'
theorem Kd.fX(u:Æ):Kd u u:=⟨id,λ_ o h k=>⟨o,h,k⟩⟩
def Kd.ff{c:Æ}(h:Kd w u)(k:Kd u c):Kd w c:=⟨λx=>k.r<|h.r x,λi o x y=>by let⟨d,e,f⟩:=h.C i o x y;exact k.C i d e f⟩
def Ge:Halt->Bool
 |.panic _=>É
 |.stuck _=>É
 |ŀ (.initOrder _)=>Ã
 |ŀ _=>É
 |_=>Ã
def oQ{α:Type}(P:Õ)(m:ē α):Prop:=∀u,qO u->(∀x a,m.run P u=ĥ x a->Kd u a)/\(∀z a,m.run P u=bV z a->Ge z=É)
section
variable{α β:Type}
def V3(a:α):oQ P (aI a):=λu _=>⟨λx b h=>by cases h;exact Kd.fX u,λz b h=>by cases h⟩
def Gf{z:Halt}(h:Ge z=É):oQ P (ew z:ē α):=λu _=>⟨λx a e=>(by cases e),λb a e=>(by cases e;exact h)⟩
def JH{m:ē α}{f:α->ē β}(h:oQ P m)(j:∀a,oQ P<|f a):oQ P (m.bind f):=by
 intro u d;let⟨g,k⟩:=h u d;refine⟨λx i e=> ?_,λz i e=> ?_⟩<;>rw[Ĵ]at e
 .cases b:m.run P u with
  |ok a c=>
   rw[b]at e;exact(g a c b).ff<|(j a c<|(g a c b).r d).1 x i e
  |halt z w=>rw[b]at e;cases e
 .cases b:m.run P u with
  |ok a c=>
   rw[b]at e;exact(j a c<|(g a c b).r d).2 z i e
  |halt c w=>rw[b]at e;cases e;exact k _ _ b
def V4:oQ P df:=λu _=>⟨λx a h=>by cases h;exact Kd.fX u,λz a h=>by cases h⟩
theorem ae4(q:bU):oQ P (π q):=by
 intro u b;constructor
 .intro x a e;simp only[π,ã]at e;split at e<;>cases e
  .exact Kd.fX u
  .exact⟨id,λi o h k=>⟨o,h,k⟩⟩
 .intro z a e;simp only[π,ã]at e;grind
def ae5(m:Mark):oQ P (mark m):=λu _=>⟨λx a h=>by cases h;exact Kd.fX u,λz a h=>by cases h⟩
def ae6(r:Nat):oQ P (cw r):=λu _=>⟨λx a h=>by cases h;exact Kd.fX u,λz a h=>by cases h⟩
def ae7(a:Ú):oQ P (eP a):=λu _=>⟨λx b h=>by cases h;exact Kd.fX u,λz b h=>by cases h⟩
theorem ae8(o:Obj)(h:∀c e,o≠Ÿ c e):oQ P (eO o):=by
 intro u b;refine⟨λx d e=> ?_,λz d e=>by cases e⟩;cases e;refine⟨λ_ i c e a=> ?_,λi f a g=>⟨f,?_,g⟩⟩
 .simp only[Array.getElem?_push]at a;split at a
  .grind
  .exact b i c e a
 .grind
theorem V5{f:Obj->Obj}(n:∀o,yP o->yP (f o))(j:∀o c e,f o=Ÿ c e->∃d g,o=Ÿ d g):Kd u {u with heap:=u.heap.modify b f}:=by
 refine⟨λh i c e a=> ?_,λi o a p=> ?_⟩
 .simp only[Ň]at a;split at a
  .let⟨o,k,l⟩:=ģ.1 a;let⟨d,g,m⟩:=j o c e l;exact h i d g<|m▸k
  .exact h i c e a
 .grind
theorem ae9(a:Ú)(v:Â):Kd u (u.setCell a v):=by
 unfold ĉ;refine V5 (λo b=> ?_) λo c e h=> ?_
 .cases o<;>first|exact b.elim|trivial
 .grind
theorem V7(b:qO u)(a:Ú)(s:String):Ge (u.noCell a s)=É:=by
 unfold aP;split
 .rename_i h;exact absurd h<|b _ _ _
 .rfl
 .rfl
theorem afa(a:Ú)(m:Mode):oQ P (aX a m):=by
 intro u d;constructor
 .intro x c e;simp only[aX,ã]at e;grind [Kd.fX]
 .intro z c e;simp only[aX,ã]at e;split at e
  .cases e
  .split at e
   .cases e
   .rename_i b;cases e;unfold ŋ at b;split at b
    .split at b<;>cases b;rfl
    .grind [V7]
theorem afb{k:Ú}{r:Array Value×TypeId×(Nat×Nat)×Nat×Value×List (Nat×Nat×List UInt8)}(h:w.seen P a t k yQ=.ok r):∃c e d,w.heap[a.block]?=À (Č c e d):=by unfold World.seen at h;simp only[bind,ρ,pure,ς,JG]at h;grind
theorem afc{k:Ú}{l:List Ú}(h:w.viewStore P a t k v yQ=.ok (u,l)):Kd w u:=by
 have q:∃c e n d f g,w.heap[a.block]?=À (Č d f g)/\u={w with heap:=w.heap.setIfInBounds a.block (Č c e n)}:=by
  unfold bJ at h;cases i:w.seen P a t k yQ with
  |error e=>
   rw[i]at h;simp only[bind,ρ,pure,ς,JG]at h;repeat' (first|contradiction|split at h)
  |ok r=>
   let⟨d,f,g,j⟩:=afb i;rw[i]at h;simp only[bind,ρ,pure,ς,JG]at h;repeat' (first|contradiction|split at h)
   all_goals(simp only[Except.ok.injEq,Prod.mk.injEq]at h;obtain⟨rfl,_⟩:=h;exact⟨_,_,_,d,f,g,j,U⟩)
 obtain⟨c,e,n,d,f,g,j,rfl⟩:=q;refine⟨λs i x m r=> ?_,λi o r y=> ?_⟩
 .rw[Ś]at r;split at r
  .grind
  .exact s i x m r
 .by_cases m:a.block=i
  .subst m;rw[j]at r;cases r;exact y.elim
  .grind
theorem afd(a:Ú)(v:Â)(m:Mode):oQ P (ar a v m):=by
 intro u d;by_cases c:yK v=É
 .constructor
  .intro x f e;simp only[ar]at e;rw[wV c]at e;split at e
   .split at e
    .cases e
    .cases e;exact ae9 a v
   .split at e
    .rename_i b;cases e;unfold Ŧ at b;grind [afc]
    .cases e
  .intro z f e;simp only[ar]at e;rw[wV c]at e;split at e
   .split at e
    .cases e;rfl
    .cases e
   .split at e
    .cases e
    .rename_i b;cases e;unfold Ŧ at b;split at b
     .split at b<;>cases b;rfl
     .grind [V7]
 .cases v<;>first|exact absurd U c|exact Gf (P:=P) U u d
def fE(P:Õ)(m:ē α):Prop:=oQ P m/\rF P m
theorem gG(a:α):fE P (pure a):=⟨V3 a,AV λu x b e=>by cases e;exact⟨U,λ_ _=>rfl⟩⟩
def Oq{z:Halt}(h:Ge z=É):fE P (ew z:ē α):=⟨Gf h,On λu x a e=>by cases e⟩
theorem gq{m:ē α}{f:α->ē β}(h:fE P m)(b:∀a,fE P<|f a):fE P (m>>=f):=⟨JH h.1 λa=>(b a).1,aeX h.2 λa=>(b a).2⟩
def Ot{m:ē α}{f:α->β}(h:fE P m):fE P (f<$>m):=gq h λ_=>gG _
theorem jg(s:String):fE P (stuck s:ē α):=Oq U
def V8(v:Â):fE P (goPanic v:ē α):=Oq U
theorem qP:fE P df:=⟨V4,AV λu x a e=>by cases e;exact⟨U,λ_ _=>rfl⟩⟩
theorem sS(q:bU):fE P (π q):=⟨ae4 q,aeZ q⟩
def Gi(m:Mark):fE P (mark m):=⟨ae5 m,AV λu x a e=>by cases e;exact⟨U,λ_ _=>rfl⟩⟩
theorem tY(r:Nat):fE P (cw r):=⟨ae6 r,AV λu x a e=>by cases e;exact⟨U,λ_ _=>rfl⟩⟩
theorem Ou(a:Ú):fE P (eP a):=⟨ae7 a,AV λu x b e=>by cases e;exact⟨U,λ_ _=>rfl⟩⟩
def JJ(o:Obj)(h:∀c e,o≠Ÿ c e):fE P (eO o):=⟨ae8 o h,ae2 o⟩
def Gj(a:Ú)(m:Mode):fE P (aX a m):=⟨afa a m,ae0 a m⟩
def afe(a:Ú)(v:Â)(m:Mode):fE P (ar a v m):=⟨afd a v m,ae1 a v m⟩
theorem JK{m m':ē α}(h:∀u,m.run P u=m'.run P u)(a:fE P m'):fE P m:=⟨λu b=>by have:=a.1 u b;rwa[<-h u]at this,aeY h a.2⟩
end
section
variable{α:Type}
def nt(u:br)(h:Ge (ŀ u)=É):fE P (unsupported u:ē α):=Oq h
def Gk(e:Á)(c:Array Â):fE P (dU e c):=by unfold dU;exact gq (JJ _<|by intro _ _ h;cases h) λ_=>gG _
def V9(t:Á)(v:Â):fE P (eM t v):=Gk _ _
def vC(t:Á):fE P (Δ t):=by unfold Δ;repeat' (first|(with_reducible first|exact gG _|exact jg _|exact qP|refine gq ?_ λ_=> ?_)|split)
theorem rG(t:Á):fE P (ø t):=by unfold ø;repeat' (first|(with_reducible first|exact gG _|exact jg _|exact qP|refine gq ?_ λ_=> ?_)|split)
def tZ{p:Prop}(h:p:=by repeat' (first|(with_reducible first|exact gG _|exact jg _|exact qP|exact rG _|exact V8 _|exact V9 _ _|exact sS _|exact vC _|exact Gj _ _|exact tY _|exact Gi _|refine gq ?_ (λ_=> ?_)|refine Ot ?_|refine nt _ ?_)|split|rfl)):p:=h
def JL(t:Á):fE P (Ū t):=by unfold Ū;exact tZ
def w7(e:Ι):fE P (runtimePanic e:ē α):=by unfold runtimePanic;repeat' (first|(with_reducible first|exact JL _|refine gq ?_ λ_=> ?_)|split|exact tZ)
def Wa(k:ú)(x y:Int)(c:ax):fE P (boundsPanic k x y c:ē α):=by unfold boundsPanic;simp only[];repeat' (first|(with_reducible first|exact w7 _|refine gq ?_ λ_=> ?_)|split|exact tZ)
def aff(r:Nat):oQ P (cu r):=by
 intro u b;constructor
 .intro x a e;simp only[cu,ã]at e;split at e<;>first|(cases e;done)|(cases e;exact Kd.fX u)
 .intro z a e;simp only[cu,ã]at e;split at e<;>first|(cases e;done)|(cases e;rfl)
theorem Wb(r:Nat):fE P (cu r):=⟨aff r,ae3 r⟩
def JN(t:Á):fE P (ω t):=by unfold ω;exact tZ
def ua(t:Á):fE P (ay t):=by unfold ay;exact tZ
def Ov(t:Á):fE P (ey t):=by unfold ey;exact tZ
def Wc(a:Ú):∀(n i:Nat) (b:Array Â),fE P<|Ō a i n b
 |0,i,b=>gG _
 |n+1,i,b=>by unfold Ō;exact gq (Gj _ _) λ_=>Wc a n _ _
def Ow(a:Ú)(n:Nat):fE P (c9 a n):=Wc a n _ _
def JO(a:Ú):∀(b:List Â) (i:Nat),fE P<|Κ a b i
 |[],i=>gG _
 |v::b,i=>by unfold Κ;exact gq (afe _ _ _) λ_=>JO a b _
theorem Wg(t:Á)(a:Ú):fE P (ae t a):=by unfold ae;repeat' (first|(with_reducible first|exact ua _|exact Ov _|exact Ow _ _|refine gq ?_ λ_=> ?_)|split|exact tZ)
def afg(t:Á)(a:Ú)(v:Â):fE P (aJ t a v):=by unfold aJ;repeat' (first|(with_reducible first|exact ua _|exact JO _ _ _|refine gq ?_ λ_=> ?_)|split|exact tZ)
def Wh(t:Á)(c:Array Â)(o:Nat):fE P (part t c o):=by unfold part;repeat' (first|(with_reducible first|exact ua _|exact Ov _|refine gq ?_ λ_=> ?_)|split|exact tZ)
def Wi(v:Â):fE P (ŧ v):=by unfold ŧ;exact tZ
def Wj(v:Â):fE P (dh v):=by unfold dh;exact tZ
def kh{p:Prop}(h:p:=by repeat' (first|(with_reducible first|exact gG _|exact jg _|exact qP|exact rG _|exact V8 _|exact V9 _ _|exact JL _|exact sS _|exact w7 _|exact vC _|exact Gj _ _|exact ua _|exact Ov _|exact Ow _ _|exact JO _ _ _|exact Wj _|exact JN _|exact afg _ _ _|exact Wg _ _|exact Wi _|exact Wh _ _ _|exact tY _|exact Wb _|exact Wa _ _ _ _|exact Gi _|refine gq ?_ (λ_=> ?_)|refine Ot ?_|refine nt _ ?_)|split|rfl)):p:=h
def Gl(v:Â):fE P (dD v):=by unfold dD;exact kh
def JP(v:Â):fE P (bW v):=by unfold bW;exact kh
def afh(v:Â):fE P (eN v):=by unfold eN;exact kh
theorem Wk(v:Â):fE P (bX v):=by unfold bX;exact kh
def Wl(t:Á)(b:Bool)(v:Â):fE P (Ű t b v):=by unfold Ű;exact kh
def Wm(t:Á)(v:Â):fE P (ag t v):=by unfold ag;exact kh
def Wn(t:Á)(v:Â):fE P (Ş t v):=by unfold Ş;exact kh
def Wo(t:Á)(a v:Â):fE P (ĳ t a v):=by unfold ĳ;exact kh
def Wp(v:Â)(n:Nat):fE P (ō v n):=by unfold ō;exact kh
def Wq(t:Á)(v:Â)(n:Nat):fE P (ű t v n):=by unfold ű;repeat' (first|(with_reducible first|exact afh _|refine gq ?_ λ_=> ?_)|split|exact kh)
def Wr{γ δ:Type}(f:γ->ē δ)(a:∀x,fE P<|f x):∀l:List γ,fE P<|l.mapM f
 |[]=>by rw[cS];exact gG _
 |x::l=>by rw[ν];exact gq (a x) λ_=>gq (Wr f a l) λ_=>gG _
theorem Ws{γ δ:Type}(f:γ->ē δ)(a:∀x,fE P<|f x)(l:Array γ):fE P (l.mapM f):=by rw[Ĕ];exact Ot<|Wr f a _
def afi(l:Array Field):fE P (l.mapM λf=>do pure (f.offset,<-ay f.type)):=Ws _ (λ_=>gq (ua _) λ_=>gG _) l
def JQ(r:Nat):fE P (dm r):=by unfold dm;exact kh
def Wt(r:Nat):fE P (b9 r):=by unfold b9;exact kh
def Wu(a:Ú):fE P (aY a):=by unfold aY;repeat' (first|(with_reducible first|exact JQ _|refine gq ?_ λ_=> ?_)|split|exact kh)
def AW(a:Ú):fE P (dq a):=by unfold dq;repeat' (first|(with_reducible first|exact gG _|exact jg _|exact qP|exact tY _|exact Wu _|refine gq ?_ λ_=> ?_)|split|simp only[]|(rename_i b;cases b<;>simp only[Å,if_false,if_true,þ,Ă]))
def Dl(a:Ú):fE P (Į a):=by unfold Į;repeat' (first|(with_reducible first|exact Wt _|refine gq ?_ λ_=> ?_)|split|exact kh)
def afj(a:Ú)(x y:Nat):fE P (partAt a x y):=by unfold partAt;repeat' (first|(with_reducible first|exact AW _|refine gq ?_ λ_=> ?_)|split|exact kh)
def afk(a:Ú)(f:Field):fE P (bY a f):=by unfold bY;repeat' (first|(with_reducible first|exact afj _ _ _|refine gq ?_ λ_=> ?_)|split|exact kh)
def Wv(s:Á)(v:Â)(n:Nat):fE P (Ŏ s v n):=by unfold Ŏ;repeat' (first|(with_reducible first|exact afk _ _|refine gq ?_ λ_=> ?_)|split|exact kh)
def Ww(t:Á)(x i:Â):fE P (ŏ t x i):=by unfold ŏ;repeat' (first|(with_reducible first|exact gG _|exact jg _|exact rG _|exact Wa _ _ _ _|exact ua _|exact Wi _|exact Wj _|refine gq ?_ (λ_=> ?_)|refine nt _ ?_)|split|rfl|simp only[])
def afl(x:Â)(y:Nat)(c:ax):fE P (ī x y c):=by unfold ī;exact kh
def Wx(b:Bool)(l c:Nat)(x y z:Option Â):fE P (Ĩ b l c x y z):=by unfold Ĩ;repeat' (first|(with_reducible first|exact afl _ _ _|refine gq ?_ λ_=> ?_)|split|exact kh)
def afm(t:Á)(v:Â)(x y z:Option Â):fE P (Ų t v x y z):=by unfold Ų;repeat' (first|(with_reducible first|exact Wk _|exact Wx _ _ _ _ _ _|refine gq ?_ λ_=> ?_)|split|exact kh)
def Wy(t:Á)(v:Â)(x y z:Option Â):fE P (Ő t v x y z):=by unfold Ő;repeat' (first|(with_reducible first|exact Wx _ _ _ _ _ _|exact afm _ _ _ _ _|refine gq ?_ λ_=> ?_)|split|exact kh)
def Wz(t:Á)(x i:Â):fE P (ų t x i):=by unfold ų;exact kh
def WA(o:ġ)(k:ú)(x y:Int):fE P (dG o k x y):=by unfold dG;exact kh
def WB(o:ġ)(k:ú)(x y:Int):fE P (ea o k x y):=by unfold ea;exact kh
def WC(o:UnOp)(v:Â):fE P (bZ o v):=by unfold bZ;repeat' (first|(with_reducible first|exact WA _ _ _ _|exact WB _ _ _ _)|split|exact kh)
def WE(t:Á)(a:Array (Nat×Value)):fE P (Ŵ t a):=by unfold Ŵ;repeat' (first|(with_reducible first|exact afi _|refine gq ?_ λ_=> ?_)|split|exact kh)
def WG(t:Á)(n:Nat)(a:Array (Nat×Value)):fE P (ĭ t n a):=by unfold ĭ;repeat' (first|(with_reducible first|exact gG _|exact jg _|exact Gk _ _|exact rG _|exact JN _|exact ua _|refine gq ?_ (λ_=> ?_)|refine nt _ ?_)|split|rfl|simp only[]|(rename_i b;cases b<;>simp only[Å,if_false,if_true,þ,Ă]))
def Ox(n:Nat):fE P (bP n):=by unfold bP;exact kh
def WH(t:Á)(x y:Â):fE P (Ĺ t x y):=by unfold Ĺ;repeat' (first|(with_reducible first|exact gG _|exact jg _|exact sS _|exact Gk _ _|exact vC _|exact rG _|exact w7 _|exact JN _|exact ua _|exact Gl _|exact Ox _|refine gq ?_ λ_=> ?_)|split|simp only[]|(rename_i b;cases b<;>simp only[Å,if_false,if_true,þ,Ă]))
def WI(v:Â):fE P (Α v):=by unfold Α;exact kh
def WJ(s n:Nat)(v:Â):fE P (ļ s n v):=by unfold ļ;exact kh
def afn(a:Ú)(n:Nat):fE P (aB a n):=by unfold aB;exact kh
def afo(s l n:Nat)(b:Option Ú)(v:Â):fE P (bb s l n b v):=by unfold bb;repeat' (first|(with_reducible first|exact gG _|exact Ou _|exact afn _ _|refine gq ?_ λ_=> ?_)|split|simp only[]|(rename_i b;cases b<;>simp only[Å,if_false,if_true,þ,Ă]))
def WK(a:Array Á)(t:Á)(x:Array Â):fE P (ş a t x):=by unfold ş;exact kh
def WL(a:Array Á)(t:Á)(x:Array Â):fE P (Š a t x):=by unfold Š;exact kh
def WM(a:Array Á)(t:Á)(x:Array Â):fE P (ő a t x):=by unfold ő;repeat' (first|(with_reducible first|exact WI _|exact WJ _ _ _|refine gq ?_ λ_=> ?_)|split|exact kh)
def WN(a:Array Á)(t:Á)(x:Array Â):fE P (ĸ a t x):=by unfold ĸ;repeat' (first|(with_reducible first|exact gG _|exact jg _|exact sS _|exact Gi _|exact Gk _ _|exact vC _|exact rG _|exact w7 _|exact JN _|exact ua _|exact JO _ _ _|exact Gl _|exact Ox _|exact WI _|exact WJ _ _ _|exact afo _ _ _ _ _|refine gq ?_ (λ_=> ?_)|refine nt _ ?_)|split|rfl|(rename_i b;cases b<;>simp only[Å,if_false,if_true,þ,Ă]))
end
section
variable{α:Type}
theorem Oy(o:ġ)(k:ı)(x y:Nat):fE P (cU o k x y):=by unfold cU;repeat' (first|(with_reducible first|exact gG _|exact jg _|exact sS _|refine gq ?_ λ_=> ?_)|split|simp only[]|(rename_i b;cases b<;>simp only[Å,if_false,if_true,þ,Ă]))
theorem Oz(o:ġ)(k:ı)(x y:Nat):fE P (dH o k x y):=by unfold dH;grind [gG,jg]
theorem afp(s:ı)(b:Nat)(d:ı):fE P (aQ s b d):=by unfold aQ;grind [gG,sS,gq]
theorem WO(s:ı)(b:Nat)(d:ú):fE P (bK s b d):=by unfold bK;grind [gG,sS,gq]
theorem afq(o:ġ)(k:ı)(x y:Nat):fE P (bg o k x y):=by unfold bg;grind [gG,jg,Oy,gq]
def nu{p:Prop}(h:p:=by repeat' (first|(with_reducible first|exact gG _|exact jg _|exact sS _|exact Oy _ _ _ _|exact JP _|exact Oz _ _ _ _|exact afp _ _ _|exact afq _ _ _ _|exact w7 _|exact qP|exact AW _|exact tY _|exact Gl _|exact JQ _|exact rG _|exact Dl _|exact Wt _|refine gq ?_ (λ_=> ?_)|refine nt _ ?_)|split|rfl)):p:=h
def WQ(o:ġ)(k:ı)(x y:Nat):fE P (cx o k x y):=by unfold cx;exact nu
def afr(s:ı)(b:Nat)(d:ı):fE P (bL s b d):=by unfold bL;exact nu
def OA(x y:Nat):fE P (cy x y):=by unfold cy;exact nu
def OB(x y:Nat):fE P (cz x y):=by unfold cz;exact nu
def OC(x y:Nat):fE P (cA x y):=by unfold cA;exact nu
def afs(x y:Nat):fE P (cB x y):=by unfold cB;exact nu
def afu(a b c d:Nat):fE P (aC a b c d):=by unfold aC;repeat' (first|(with_reducible first|exact OA _ _|exact OB _ _|exact OC _ _|refine gq ?_ λ_=> ?_)|split|exact nu)
def afv(s a b c d:Nat):fE P (σ s a b c d):=by unfold σ;repeat' (first|(with_reducible first|exact OA _ _|exact OB _ _|exact OC _ _|refine gq ?_ λ_=> ?_)|split|exact nu)
def afw(a b c d:Nat):fE P (ai a b c d):=by unfold ai;repeat' (first|(with_reducible first|exact gG _|exact WQ _ _ _ _|exact OA _ _|exact OB _ _|exact OC _ _|exact afs _ _|exact afv _ _ _ _ _|refine gq ?_ λ_=> ?_)|split|simp only[])
def WR(o:ġ)(k:ı)(a b c d:Nat):fE P (dr o k a b c d):=by unfold dr;repeat' (first|(with_reducible first|exact WQ _ _ _ _|exact afr _ _ _|exact afu _ _ _ _|exact afw _ _ _ _|refine gq ?_ λ_=> ?_)|split|exact nu)
def afx(o:ġ)(k:ú)(x y:Int):fE P (ah o k x y):=by unfold ah;exact nu
def WS(o:ġ)(x y:Int):fE P (eE o x y):=by unfold eE;exact nu
def afy(o:ġ)(k:ú)(x:Int)(a:ú)(y:Int):fE P (aK o k x a y):=by unfold aK;exact nu
def OD(o:ġ)(x y:ByteArray):fE P (bu o x y):=by unfold bu;exact nu
def WT(a b:Ú):fE P (š a b):=by unfold š;exact nu
def afz(k:ú)(a b:Ú):fE P (Μ k a b):=by unfold Μ;repeat' (first|(with_reducible first|exact WT _ _|refine gq ?_ λ_=> ?_)|split|exact nu)
def afA(o:ġ)(a b:Ú):fE P (Ν o a b):=by unfold Ν;repeat' (first|(with_reducible first|exact WT _ _|refine gq ?_ λ_=> ?_)|split|exact nu)
def afB(k:ú)(a:Ú)(n:Int):fE P (Ξ k a n):=by unfold Ξ;repeat' (first|(with_reducible first|exact gG _|exact tY _|exact vC _|exact AW _|refine gq ?_ (λ_=> ?_)|refine nt _ ?_)|split|rfl|simp only[]|(rename_i b;cases b<;>simp only[Å,if_false,if_true,þ,Ă]))
def WU(a:Array Á)(t:Á)(x y:Â):fE P (ñ a t #[x,y]):=by
 unfold ñ;cases x<;>first|exact jg _|skip
 refine gq (Gl y) λn=> ?_;exact nu
def afC(a:Ú)(b:Bool):fE P (cg a b):=by unfold cg;repeat' (first|(with_reducible first|exact gG _|refine gq ?_ (λ_=> ?_)|refine JJ _ ?_)|split|(intro _ _ h;cases h;done))
def afD(t:Á)(x y:Â):fE P (ŕ t x y):=by unfold ŕ;repeat' (first|(with_reducible first|exact WU _ _ _ _|exact afC _ _|refine gq ?_ λ_=> ?_)|split|exact nu)
def afE(t:Á)(x y:Â):fE P (Ţ t x y):=by unfold Ţ;repeat' (first|(with_reducible first|exact WU _ _ _ _|refine gq ?_ λ_=> ?_)|split|exact nu)
theorem xa{γ:Type}{d:dI}(h:P.underlying t=À d){f:dI->ē γ}(a:fE P (f d)):fE P (ø t>>=f):=by
 have e:∀u,(ø t).run P u=ĥ d u:=by intro u;unfold ø;simp_all
 grind [JK,Ä,È]
def WV(t:Á)(x y:Â)(a:tX P t\/((∃e,P.underlying t=À (ð e))/\(np x\/np y))):fE P (ó t x y):=by
 unfold ó ā Λ;rcases a with(h|⟨k,h⟩|h)|⟨⟨e,h⟩,k⟩<;>refine xa h ?_
 .repeat' (first|(with_reducible first|exact gG _|exact jg _|exact qP|exact vC _|exact AW _|exact Dl _|refine gq ?_ (λ_=> ?_)|refine nt _ ?_)|contradiction|split)
 .repeat' (first|(with_reducible first|exact gG _|exact jg _|exact qP|exact vC _|exact AW _|exact Dl _|refine gq ?_ (λ_=> ?_)|refine nt _ ?_)|contradiction|split|rfl)
 .repeat' (first|(with_reducible first|exact gG _|exact jg _|exact qP|exact vC _|exact AW _|exact Dl _|refine gq ?_ (λ_=> ?_)|refine nt _ ?_)|contradiction|split)
 .repeat' (first|(with_reducible first|exact gG _|exact jg _|exact qP|exact vC _|exact AW _|exact Dl _|refine gq ?_ (λ_=> ?_)|refine nt _ ?_)|contradiction|exact(Or.elim k id id:False).elim|split)
def afF(t:Á)(a:F6 P t)(x y:Â):fE P (į ā t x y):=by unfold ā į;rcases a with(h|⟨k,h⟩|h)|⟨e,h⟩<;>refine xa h ?_<;>(cases x<;>cases y<;>exact gG _)
theorem WW(c:ġ)(t:Á)(d:c=aA\/c=aL->F6 P t)(x y:Ö)(a b:Â):fE P (ŷ c t x y a b):=by
 unfold ŷ;by_cases e:c=aA\/c=aL
 .have f:=d e;rcases e with rfl|rfl;all_goals
   repeat' (first|(with_reducible first|exact afF _ f _ _|refine gq ?_ λ_=> ?_)|split|exact nu)
 .grind [gG]
end
section
variable{α:Type}
theorem afG(k:ú)(n:Int):fE P (cV k n):=by unfold cV;grind [gG]
theorem WX(n:Int):fE P (bh n):=by unfold bh;grind [gG]
def afH(a:ġ)(t:Á)(x y:Â)(h:a=aA\/a=aL->(tX P t\/((∃e,P.underlying t=À (ð e))/\(np x\/np y)))):fE P (Ũ a t x y):=by unfold Ũ;repeat' (first|(with_reducible first|exact WV _ _ _ (h<|Ç U)|exact WV _ _ _ (h<|Î U)|exact gG _|exact jg _|exact rG _|exact Dl _|exact WA _ _ _ _|exact WB _ _ _ _|exact Oy _ _ _ _|exact Oz _ _ _ _|exact WR _ _ _ _ _ _|exact afx _ _ _ _|exact WS _ _ _|exact afy _ _ _ _ _|exact OD _ _ _|exact afz _ _ _|exact afA _ _ _|exact afB _ _ _|exact afD _ _ _|exact afE _ _ _|refine gq ?_ (λ_=> ?_)|refine nt _ ?_)|contradiction|split|rfl)
def afI(s d:Á)(x:Â)(h:(∃k a,P.underlying s=À (Β k)/\P.underlying d=À (Β a))\/(P.underlying s=À ę/\P.underlying d=À ę)):fE P (Œ s d x):=by
 unfold Œ;rcases h with⟨k,a,b,c⟩|⟨b,c⟩<;>refine xa b<|xa c ?_
 .repeat' (first|(with_reducible first|exact afG _ _|exact gG _|exact WO _ _ _|refine nt _ ?_)|contradiction|split|rfl)
 .repeat' (first|(with_reducible first|exact WX _|exact gG _|exact WO _ _ _|refine nt _ ?_)|contradiction|split|rfl)
def WY:∀(l:List FieldStep) (t:Á) (x:Option Â),fE P<|bx l t x
 |[],t,x=>by unfold bx;exact gG _
 |s::l,t,x=>by unfold bx;repeat' (first|(with_reducible first|exact WY l _ _|exact gG _|exact jg _|exact rG _|exact Wh _ _ _|refine gq ?_ λ_=> ?_)|split|(intro _ _ h;cases h;done)|rfl|simp only[]|(rename_i b;cases b<;>simp only[Å,if_false,if_true,þ,Ă]))
def WZ:∀(n:Nat) (t:Á) (v:Â) (s:String),fE P<|aR n t v s
 |0,t,v,s=>by unfold aR;exact gG _
 |n+1,t,v,s=>by unfold aR;repeat' (first|(with_reducible first|exact WZ n _ _ _|exact WY _ _ _|exact gG _|exact jg _|exact vC _|exact rG _|refine gq ?_ λ_=> ?_)|split|(intro _ _ h;cases h;done)|rfl|simp only[]|(rename_i b;cases b<;>simp only[Å,if_false,if_true,þ,Ă]))
def lZ{m:ē Â}(h:fE P m):fE P (m>>=λv=>pure<|ï v):=gq h λ_=>gG _
theorem afJ(f:à)(b:∃a,P.funcs[f]?=À a/\(a.name== "runtime.NumGoroutine")=Ã/\a.body.isNone=Ã)(c:Array Â):fE P (ĵ f c):=by let⟨a,d,e,g⟩:=b;refine JK (m':=pure<|ũ f c) (λu=> ?_)<|gG _;unfold ĵ;rw[Ä,ă];grind [È,Å]
def afK(j:kq P xX o.op):fE P (ì xX o):=by
 let⟨k,g,m,p,u,guard⟩:=o;simp only at j;unfold ì;simp only[];cases j with
 |wY x=>exact gG _
 |F7 x=>exact gG _
 |wZ c a b=>exact gq (JP _) λ_=>gG _
 |gK t=>exact lZ<|Wl _ _ _
 |N9 t x=>exact lZ<|Wm _ _
 |Oa t b=>exact lZ<|WE _ _
 |Ob t n b=>exact lZ<|WG _ _ _
 |gB t a=>exact lZ<|Wn _ _
 |jf t a x=>exact gq (Wo _ _ _) λ_=>gG _
 |F8 x=>
  simp only[];repeat' (first|(with_reducible first|exact WZ _ _ _ _|exact gG _|exact qP|exact w7 _|exact JP _|exact Wl _ _ _|exact Wm _ _|exact Wn _ _|exact Wo _ _ _|exact Wp _ _|exact Wq _ _ _|exact Wv _ _ _|exact Ww _ _ _|exact Wy _ _ _ _ _|exact Wz _ _ _|exact WC _ _|exact WE _ _|exact WG _ _ _|exact WH _ _ _|exact WK _ _ _|exact WL _ _ _|exact WM _ _ _|exact WN _ _ _|refine gq ?_ (λ_=> ?_)|refine nt _ ?_)|split|rfl)
 |Dk g t x y r h=>exact lZ<|gq (WW g t (λe=>(h e).imp id λq=>q.1) x y _ _) λ_=>afH g t _ _ h
 |Oc g t x=>exact lZ<|WC _ _
 |Od s d x h=>exact lZ<|afI s d _ h
 |Oe t l c=>exact lZ<|WH _ _ _
 |kP t x b a c=>exact lZ<|Wy _ _ _ _ _
 |Og s x n h=>exact lZ<|Wv _ _ _
 |Oh t x n=>exact lZ<|Wq _ _ _
 |Oi t x i=>exact lZ<|Ww _ _ _
 |Oj t x i=>exact lZ<|Wz _ _ _
 |FY x n=>exact lZ<|Wp _ _
 |F9 x a=>
  simp only[ù,č,Ē,pure_bind,Ø,â,ä];exact lZ<|WK _ _ _
 |Gb x a=>
  simp only[ù,č,Ē,pure_bind,Ø,â,ä];exact lZ<|WL _ _ _
 |Gc x y a=>
  simp only[ù,č,Ē,pure_bind,Ø,â,ä];exact lZ<|WM _ _ _
 |tW x y b c h=>
  simp only[ù,č,Ē,pure_bind,Ø,â,ä];exact lZ<|WN _ _ _
 |jM f c a b h=>
  simp only[ù,b,İ,č,pure_bind,Ď,ď];exact afJ f h _
end
def fm(f:à)(t:Array Â)(k:List ś):Ę:=(base f).at ⟨t,[]⟩ k
structure St where
 f:à
 t:Array Â
 k:List ś
 C:Bool
 L:List (FuncId×Array Value×List ś)
def St.r(s:St)(cs:List Ę):Ó:=G (if s.C then{fm s.f s.t s.k with mode:=.returning}else fm s.f s.t s.k)<|s.L.map (λx=>fm x.1 x.2.1 x.2.2)++cs
def pv(t:Array Â)(d:Option Tmp)(v:Â):Array Â:=(Act.put ⟨t,[]⟩ d v).tmps
def sT(t:Array Â)(d:Option Tmp)(v:Â):Act.put ⟨t,[]⟩ d v=⟨pv t d v,[]⟩:=by cases d<;>rfl
inductive LS(P:Õ):St->Æ->St->Æ->Prop
 |pn {f t L u:_}:LS P ⟨f,t,[],Ã,L⟩ u ⟨f,t,[],É,L⟩ u
 |vD {f t k L u:_}:LS P ⟨f,t,Đ .ret::k,Ã,L⟩ u ⟨f,t,Đ .ret::k,É,L⟩ u
 |sQ {f t k L u:_}:LS P ⟨f,t,Đ eR::k,Ã,L⟩ u ⟨f,t,k,Ã,L⟩ u
 |xb {f t k L u l:_}:LS P ⟨f,t,Đ (eb l)::k,Ã,L⟩ u ⟨f,t,k,Ã,L⟩ u
 |yR {f t k L u id:_}:LS P ⟨f,t,dJ id::k,Ã,L⟩ u ⟨f,t,k,Ã,L⟩ u
 |vE {f t k L u c:_}:LS P ⟨f,t,dK c::k,Ã,L⟩ u ⟨f,t,k,Ã,L⟩ u
 |rH {f t k L u x y:_}:LS P ⟨f,t,Đ (.seq x y)::k,Ã,L⟩ u ⟨f,t,Đ x::Đ y::k,Ã,L⟩ u
 |uf {f t k L u c x y b:_} (h:å ⟨t,[]⟩ c=Ľ b):LS P ⟨f,t,Đ (bz c x y)::k,Ã,L⟩ u ⟨f,t,Đ (if b then x else y)::k,Ã,L⟩ u
 |rI {f t k L u id c:_}:LS P ⟨f,t,Đ (ec id c)::k,Ã,L⟩ u ⟨f,t,Đ c::dJ id::k,Ã,L⟩ u
 |xc {f t k L u c:_}:LS P ⟨f,t,Đ (eS c)::k,Ã,L⟩ u ⟨f,t,Đ c::dt c::k,Ã,L⟩ u
 |xd {f t k L u c:_}:LS P ⟨f,t,dt c::k,Ã,L⟩ u ⟨f,t,Đ c::dt c::k,Ã,L⟩ u
 |xe {f t k L u c:_}:LS P ⟨f,t,Đ (ef c)::k,Ã,L⟩ u ⟨f,t,Đ c::dK c::k,Ã,L⟩ u
 |xf {f t k L u id k':_} (h:cD id k=À k'):LS P ⟨f,t,Đ (eT id)::k,Ã,L⟩ u ⟨f,t,k',Ã,L⟩ u
 |xg {f t k L u l k':_} (h:cE l k=À k'):LS P ⟨f,t,Đ (eU l)::k,Ã,L⟩ u ⟨f,t,k',Ã,L⟩ u
 |ug {f t k L u id ops:_}:LS P ⟨f,t,Đ (bQ id ops Ã)::k,Ã,L⟩ u ⟨f,t,á ops (List.range ops.size)::k,Ã,L⟩ u
 |AX {f t k L u id ops:_}:LS P ⟨f,t,Đ (bQ id ops É)::k,Ã,L⟩ u ⟨f,t,á ops (bM (P.follows .mixedOrders) ops<|u.tape u.drawn<|.order f id)::k,Ã,L⟩ {u with drawn:=u.drawn+1}
 |Gm {f t k L u ops:_}:LS P ⟨f,t,á ops []::k,Ã,L⟩ u ⟨f,t,k,Ã,L⟩ u
 |Dm {f t k L u ops i rest o:_} (ho:ops[i]?=À o) (hw:Ħ o (ł ops t)=Ã):LS P ⟨f,t,á ops (i::rest)::k,Ã,L⟩ u ⟨f,pv t o.dst ľ,á ops rest::k,Ã,L⟩ u
 |nW {f t k L u ops i rest o v u':_} (ho:ops[i]?=À o) (hw:Ħ o (ł ops t)=É) (hr:(ì (å ⟨t,[]⟩) o).run P u=ĥ (ï v) u'):LS P ⟨f,t,á ops (i::rest)::k,Ã,L⟩ u ⟨f,pv t o.dst v,á ops rest::k,Ã,L⟩ u'
 |AY {f t k L u ops i rest o u':_} (ho:ops[i]?=À o) (hw:Ħ o (ł ops t)=É) (hr:(ì (å ⟨t,[]⟩) o).run P u=ĥ aH u'):LS P ⟨f,t,á ops (i::rest)::k,Ã,L⟩ u ⟨f,pv t o.dst ľ,á ops rest::k,Ã,L⟩ u'
 |sR {f t k L u ops i rest o g args fn c u':_} (ho:ops[i]?=À o) (hw:Ħ o (ł ops t)=É) (hr:(ì (å ⟨t,[]⟩) o).run P u=ĥ (ũ g args) u') (hf:P.funcs[g]?=À fn) (hb:fn.body=À c):LS P ⟨f,t,á ops (i::rest)::k,Ã,L⟩ u ⟨g,args++ĺ (fn.ntmps-args.size) ľ,[Đ c],Ã,(f,t,á ops (i::rest)::k)::L⟩ u'
 |Dn {f t k L u ops i rest:_} (ho:(ops:Array av)[(i:Nat)]?=ë):LS P ⟨f,t,á ops (i::rest)::k,Ã,L⟩ u ⟨f,t,á ops rest::k,Ã,L⟩ u
 |xh {f t k L u g t' ops i rest k' v fn u':_} (hf:P.funcs[f]?=À fn) (hr:(Ī fn t).run P u=ĥ v u'):LS P ⟨f,t,k,É,(g,t',á ops (i::rest)::k')::L⟩ u ⟨g,pv t' ((ops[i]?).bind (·.dst)) v,á ops rest::k',Ã,L⟩ u'
inductive mH(GL:Nat->Prop):Ö->Prop
 |W0 (t:Tmp):mH GL (.tmp t)
 |W3 {v:Â} (h:jU v):mH GL (dZ v)
 |W4 {g:Nat} (h:GL g):mH GL (ez g)
 |W5 (f:à):mH GL (aO f)
structure mT(P:Õ)(GL:Nat->Prop)(e8:à->Prop)(o:av):Prop where
 mU:∀{Y:fw} {Sh:Nat->Prop} {t t':Array Â} {u w:Æ},nV P->Y.C=P.globals.size->(∀g,GL g->Y g g)->fT Y t t'->jk Y Sh u w->(∀j,Sh j->j<w.heap.size)->∀{x:Ο} {u':Æ},(ì (å ⟨t,[]⟩) o).run P u=ĥ x u'->Di u u'->
  ∃(Y':fw) (x':Ο) (w':Æ) (W6:Array ý),Y.r Y'/\(∀i j,Y' i j->Y i j\/(u.heap.size<=i/\w.heap.size<=j))/\(ì (å ⟨t',[]⟩) o).runT P w #[]=(ĥ x' w',#[]++W6)/\po Y' x x'/\jk Y' Sh u' w'/\nU Y Sh w w'/\(∀e∈W6,AR Y' Sh e)/\u.heap.size<=u'.heap.size
 r:∀a:bF,fE P<|ì a.eval o
 I:∀(a:bF) (u:Æ) (n:Ο) (u':Æ),(ì a.eval o).run P u=ĥ n u'->(∃v,n=ï v)\/n=aH\/∃f c,n=ũ f c
 C:∀(a:bF) (u:Æ) (f:à) (c:Array Â) (u':Æ),(ì a.eval o).run P u=ĥ (ũ f c) u'->e8 f
inductive kR(P:Õ)(GL:Nat->Prop)(e8:à->Prop):ak->Prop
 |vD:kR P GL e8 .ret
 |sQ:kR P GL e8 eR
 |xb (l:Nat):kR P GL e8 (eb l)
 |xf (id:Nat):kR P GL e8 (eT id)
 |xg (l:Nat):kR P GL e8 (eU l)
 |rH {x y:ak} (hx:kR P GL e8 x) (hy:kR P GL e8 y):kR P GL e8 (.seq x y)
 |uf {c:Ö} {x y:ak} (hc:mH GL c) (hx:kR P GL e8 x) (hy:kR P GL e8 y):kR P GL e8 (bz c x y)
 |rI (id:Nat) {c:ak} (h:kR P GL e8 c):kR P GL e8 (ec id c)
 |xc {c:ak} (h:kR P GL e8 c):kR P GL e8 (eS c)
 |xe {c:ak} (h:kR P GL e8 c):kR P GL e8 (ef c)
 |ug (id:Nat) {ops:Array av} (draw:Bool) (h:∀o∈ops,mT P GL e8 o):kR P GL e8 (bQ id ops draw)
 |nX (W7:String):kR P GL e8 (dw W7)
inductive AZ(P:Õ)(GL:Nat->Prop)(e8:à->Prop):ś->Prop
 |rJ {c:ak} (h:kR P GL e8 c):AZ P GL e8 (Đ c)
 |yR (id:Nat):AZ P GL e8 (dJ id)
 |vE {c:ak} (h:kR P GL e8 c):AZ P GL e8 (dK c)
 |xd {c:ak} (h:kR P GL e8 c):AZ P GL e8 (dt c)
 |xi {ops:Array av} (is:List Nat) (h:∀o∈ops,mT P GL e8 o):AZ P GL e8 (á ops is)
def sU(P:Õ)(a:Nat->Prop)(b:à->Prop)(k:List ś):Prop:=∀i∈k,AZ P a b i
structure lH(P:Õ)(GL:Nat->Prop)(e8:à->Prop)(s:St):Prop where
 fZ:sU P GL e8 s.k
 fx:∀x∈s.L,sU P GL e8 x.2.2
def pw(P:Õ)(d:Nat->Prop)(a:à->Prop):Prop:=∀f,a f->∀b c,P.funcs[f]?=À b->b.body=À c->kR P d a c
section
variable{GL:Nat->Prop}{e8:à->Prop}
def afL{a:ak}(h:kR P GL e8 wX):bj wX i=À a->kR P GL e8 a:=by
 induction h generalizing a with
 |rH j b d f=>
  intro e;simp only[bj]at e;split at e
  .rename_i r g;cases e;exact .rH (d g) b
  .exact f e
 |xb k=>
  intro e;simp only[bj]at e;split at e<;>cases e;exact .sQ
 |_=>intro e;simp only[bj]at e;cases e
def afM{id:Nat}:∀{k a:List ś},sU P GL e8 k->cD id k=À a->sU P GL e8 a:=by
 intro k
 induction k with
 |nil=>intro a _ e;simp[cD]at e
 |cons i k c=>
  intro a h e;have b:=λj d=>h j<|ò _ d;cases i with
  |inBlock f=>
   simp only[cD]at e;split at e
   .cases e;exact b
   .exact c b e
  |_=>simp only[cD]at e;exact c b e
def afN:∀{k c:List ś},sU P GL e8 k->cE i k=À c->sU P GL e8 c:=by
 intro k
 induction k with
 |nil=>intro c _ e;simp[cE]at e
 |cons a k f=>
  intro c h e;have d:=λj b=>h j<|ò _ b;cases a with
  |inScope m=>
   simp only[cE]at e;have g:kR P GL e8 m:=by cases h _ (î ..)with|vE h=>exact h
   split at e
   .rename_i r n;cases e;intro j b;rcases œ.1 b with rfl|b
    .exact .rJ (afL g n)
    .rcases œ.1 b with rfl|b
     .exact .vE g
     .exact d j b
   .exact f d e
  |_=>simp only[cE]at e;exact f d e
def nY{i:ś}(h:sU P GL e8 (i::L)):sU P GL e8 L:=λj a=>h j<|ò _ a
def oR{i:ś}(b:AZ P GL e8 i)(h:sU P GL e8 L):sU P GL e8 (i::L):=λj a=>by
 rcases œ.1 a with rfl|a
 .exact b
 .exact h j a
def yS{c:ak}{k:List ś}(h:sU P GL e8 (Đ c::k)):kR P GL e8 c:=by cases h _ (î ..)with|rJ h=>exact h
def py{ops:Array av}{k:List ś}(h:sU P GL e8 (á ops jJ::k)):∀o∈ops,mT P GL e8 o:=by cases h _ (î ..)with|xi _ h=>exact h
def LS.ok(i:pw P GL e8)(k:∀o a u f l w,mT P GL e8 o->(ì (å a) o).run P u=ĥ (ũ f l) w->e8 f){s g:St}(h:LS P s u g w)(ok:lH P GL e8 s):lH P GL e8 g:=by
 let⟨c,d⟩:=ok;cases h with
 |pn=>exact⟨c,d⟩
 |vD=>exact⟨c,d⟩
 |sQ=>exact⟨nY c,d⟩
 |xb=>exact⟨nY c,d⟩
 |yR=>exact⟨nY c,d⟩
 |vE=>exact⟨nY c,d⟩
 |rH=>
  cases yS c with
  |rH e j=>exact⟨oR (.rJ e)<|oR (.rJ j)<|nY c,d⟩
 |@uf _ _ _ _ _ _ _ _ b _=>
  cases yS c with
  |uf _ e j=>exact⟨oR (.rJ (by cases b<;>simp[e,j]))<|nY c,d⟩
 |rI=>
  cases yS c with
  |rI _ h=>exact⟨oR (.rJ h)<|oR (.yR _)<|nY c,d⟩
 |xc=>
  cases yS c with
  |xc h=>exact⟨oR (.rJ h)<|oR (.xd h)<|nY c,d⟩
 |xd=>
  cases c _ (î ..)with
  |xd h=>exact⟨oR (.rJ h) c,d⟩
 |xe=>
  cases yS c with
  |xe h=>exact⟨oR (.rJ h)<|oR (.vE h)<|nY c,d⟩
 |xf h=>exact⟨afM (nY c) h,d⟩
 |xg h=>exact⟨afN (nY c) h,d⟩
 |ug=>
  cases yS c with
  |ug _ _ h=>exact⟨oR (.xi _ h)<|nY c,d⟩
 |AX=>
  cases yS c with
  |ug _ _ h=>exact⟨oR (.xi _ h)<|nY c,d⟩
 |Gm=>exact⟨nY c,d⟩
 |Dm=>exact⟨oR (.xi _ (py c))<|nY c,d⟩
 |nW=>exact⟨oR (.xi _ (py c))<|nY c,d⟩
 |AY=>exact⟨oR (.xi _ (py c))<|nY c,d⟩
 |sR m _ n p q=>
  refine⟨λj r=> ?_,λx e=> ?_⟩
  .have:=ū.1 r;rw[this];exact .rJ (i _ (k _ _ _ _ _ _ (py c _<|Û m) n) _ _ p q)
  .rcases œ.1 e with rfl|e
   .exact c
   .exact d x e
 |Dn=>exact⟨oR (.xi _ (py c))<|nY c,d⟩
 |xh=>
  have j:=d _<|î ..;exact⟨oR (.xi _ (py j))<|nY j,λx e=>d x<|ò _ e⟩
end
structure JR(Y:fw)(x y:FuncId×Array Value×List ś):Prop where
 f:x.1=y.1
 t:fT Y x.2.1 y.2.1
 k:x.2.2=y.2.2
inductive Dp(Y:fw):List (FuncId×Array Value×List ś)->List (FuncId×Array Value×List ś)->Prop
 |pn:Dp Y [] []
 |wW {x y:FuncId×Array Value×List ś} {L L':List (FuncId×Array Value×List ś)} (h:JR Y x y) (hs:Dp Y L L'):Dp Y (x::L) (y::L')
structure JS(Y:fw)(s s':St):Prop where
 f:s.f=s'.f
 t:fT Y s.t s'.t
 k:s.k=s'.k
 vD:s.C=s'.C
 L:Dp Y s.L s'.L
def JR.fR{Y a:fw}(h:Y.r a){x y:FuncId×Array Value×List ś}(r:JR Y x y):JR a x y:=⟨r.f,r.t.I h,r.k⟩
def JU{Y b:fw}(h:Y.r b){L c:List (FuncId×Array Value×List ś)}(r:Dp Y L c):Dp b L c:=by
 induction r with
 |pn=>exact .pn
 |wW a _ d=>exact .wW (a.fR h) d
section
variable{Y:fw}{j:Nat->Prop}{p:à->Prop}
def afO(a:∀g,X g->Y g g)(h:mH X qQ):VY Y qQ:=by
 cases h with
 |W0 t=>trivial
 |W3 h=>exact h.jG Y
 |W4 h=>exact a _ h
 |W5 f=>trivial
def xj(b:∀g,X g->Y g g)(h:fT Y d q)(c:mH X qQ):fp Y (å ⟨d,[]⟩ qQ) (å ⟨q,[]⟩ qQ):= aeU (a:=⟨d,[]⟩) (a':=⟨q,[]⟩) h<|afO b c
def pv.r{b:Array Â}(h:fT Y q b)(d:Option Tmp)(c:fp Y v x):fT Y (pv q d v) (pv b d x):= aeW (a:=⟨q,[]⟩) (a':=⟨b,[]⟩) h d c
def W8(n:Nat):fT Y (ĺ n ľ) (ĺ n ľ):=⟨U,λi a b=>by simp only[Array.getElem_replicate];exact Gd Y⟩
def afP(B:kq P xX o.op)(i:(ì xX o).run P u=ĥ (ũ F d) W):∃q l,o.op=Ω {callee:=cj<|aO F,args:=q,argTypes:=l}:=by
 have n:∀{m:ē Â} {x:Ο} {k p:Æ},(m>>=λv=>pure (ï v):ē Ο).run P k=ĥ x p->∃v,x=ï v:=by
  intro m x k p e;rw[Ä]at e;cases j:m.run P k with
  |ok a w=>rw[j]at e;cases e;exact⟨a,U⟩
  |halt z w=>rw[j]at e;cases e
 have C:∀{m:ē Unit} {x:Ο} {k p:Æ},(m>>=λ_=>pure aH:ē Ο).run P k=ĥ x p->x=aH:=by
  intro m x k p e;rw[Ä]at e;cases j:m.run P k with
  |ok a w=>rw[j]at e;cases e;rfl
  |halt z w=>rw[j]at e;cases e
 let⟨E,s,G,H,I,guard⟩:=o;simp only at B|-;unfold ì at i;simp only[]at i;cases B with
 |wY x=>cases i
 |F7 x=>cases i
 |wZ c a b=>
  rw[Ä]at i;cases j:(bW<|xX c).run P u with
  |ok a w=>rw[j]at i;cases i
  |halt z w=>rw[j]at i;cases i
 |jf t a x=>exact absurd (C i) fl
 |F8 x=>
  simp only[]at i;split at i;all_goals first
   |(cases i;done)
   |exact absurd i<|rE _ _ _ _
   |(
    split at i;all_goals first
     |(cases i;done)
     |exact absurd i<|rE _ _ _ _
     |(
      rw[Ä,ă]at i;simp only[È]at i;rw[Ä]at i;revert i;generalize ã P (aR _ _ _ _) u=z;intro i;cases z with
      |halt z w=>cases i
      |ok a w=>
       simp only[È]at i;split at i
       .rw[Ä]at i;cases i
       .cases i))
 |F9 x l=>simp only[ù,č,Ē,pure_bind,Ø,â,ä]at i;let⟨v,e⟩:=n i;cases e
 |Gb x l=>simp only[ù,č,Ē,pure_bind,Ø,â,ä]at i;let⟨v,e⟩:=n i;cases e
 |Gc x y l=>simp only[ù,č,Ē,pure_bind,Ø,â,ä]at i;let⟨v,e⟩:=n i;cases e
 |tW x y b c h=>simp only[ù,č,Ē,pure_bind,Ø,â,ä]at i;let⟨v,e⟩:=n i;cases e
 |jM g q l b h=>
  let⟨J,c,r,D⟩:=h;simp only[ù,b,İ,č,pure_bind,Ď,ď,ĵ]at i;rw[Ä,ă]at i;simp only[È,c,r,D,Å,if_false]at i;cases i;exact⟨q,l,U⟩
 |Dk s t x y r h=>
  rw[Ä]at i;cases j:ã P (ŷ s t x y (xX x) (xX y)>>=λ_=>Ũ s t (xX x)<|xX y) u with
  |ok a w=>rw[j]at i;cases i
  |halt z w=>rw[j]at i;cases i
 |_=>let⟨v,e⟩:=n i;cases e
theorem W9(j:Func)(h:fT Y d q):fI P fp Y (Ī j d) (Ī j q):=by
 have k:∀(f:fw),Y.r f->∀n,fp f (d.getD n ľ) (q.getD n ľ):=by intro f a n;simp only[ĩ];rcases(h.I a).S n with⟨b,e⟩|⟨v,u,b,e,m⟩;all_goals grind [Gd]
 unfold Ī;refine fF (V:=fT) ?_ ?_
 .rw[Ĕ,Ĕ];have w:∀(l:List ResultVar) (c:fw),Y.r c->fI P (λf (a o:List Â)=>fT f a.toArray o.toArray) c (l.mapM fun|ResultVar.tmp n=>pure (d.getD n ľ)|ResultVar.cell a e=>do ae e (<-bX (d.getD a ľ))) (l.mapM fun|ResultVar.tmp n=>pure (q.getD n ľ)|ResultVar.cell a e=>do ae e (<-bX (q.getD a ľ))):=by
   intro l
   induction l with
   |nil=>intro c _;simp only[cS];exact .fD (fT.N _)
   |cons r l x=>
    intro c g;simp only[ν];refine fF (V:=fp) ?_ ?_
    .cases r with
     |tmp n=>exact .fD (k c g n)
     |cell a e=>
      apply fF (VJ<|k c g a);exact λp b s _ i=>VF i e
    .intro p v u e m;apply fF (x p<|fw.I g e);intro z s i y b;refine .fD ?_;have:=(fT.M<|m.fR y).tW b;simpa using this
  exact fI.lG (w _ Y<|fw.M _) λf a o _ e=> .fD e
 .intro c s i _ b;refine .fD ?_;by_cases e:s.size=1
  .have a:i.size=1:=by rwa[<-b.r]
   rw[dif_pos e,dif_pos a];exact b.C 0 _ _
  .have a:¬i.size=1:=by rwa[<-b.r]
   rw[dif_neg e,dif_neg a];exact .nT b.r b.C
end
section
variable{Y:fw}{d:Nat->Prop}{l:à->Prop}
def jb(P:Õ)(Y:fw)(d:Nat->Prop)(main:Bool)(cs:List Ę)(h:St)(u w:Æ)(k:St)(c:Æ):Prop:=
 ∃(a:fw) (f:St) (b:Æ) (g:Array ý),Ù P main (h.r cs) w=aS (f.r cs) b g/\JS a k f/\Y.r a/\(∀i j,a i j->Y i j\/(u.heap.size<=i/\w.heap.size<=j))/\jk a d c b/\nU Y d w b/\(∀e∈g,AR a d e)/\u.heap.size<=c.heap.size
def jb.r{main:Bool}{cs:List Ę}{a b s1':St}(c:jk Y d u w)(h:Ù P main (a.r cs) w=aS (s1'.r cs) w #[])(f:JS Y b s1'):jb P Y d main cs a u w b u:= ⟨Y,s1',w,#[],h,f,fw.M _,λ_ _ h=>Ç h,c,nU.fX _ _ w,λe g=>absurd g fl,ß _⟩
def JV{α:Type}{m:ē α}{x:α}(h:m.runT P w #[]=(ĥ x u,#[]++V)):m.run P w=ĥ x u/\m.events P w #[]=V:=by simp_all
def Gn{main:Bool}{k:List ś}{c:Ę}{cs:List Ę}{es:Array ý}(a:P.funcs[F]?=À s)(b:(Ī s q).runT P w #[]=(ĥ v u,es)): Ù P main (G {fm F q k with mode:=.returning}<|c::cs) w=aS (G (c.finish v) cs) u (seen P F es):=by simp[G,Ù,dx,doReturn,fm,Frame.at,base,a,b,Ź,-ź]
def LS.mU(hz:nV P)(hb:Y.C=P.globals.size)(hG:∀g,X g->Y g g){s s1 s':St}(h:LS P s u s1 W)(hs:JS Y s s')(ok:lH P X l s)(n:jk Y d u w)(hl:∀j,d j->j<w.heap.size)(Q:Di u W)(main:Bool)(cs:List Ę): jb P Y d main cs s' u w s1 W:=by
 let⟨f',r,k',ret',p⟩:=s';let⟨S,m,T,e3,q⟩:=hs;simp only at S T e3 m q;subst S T e3;cases h with
 |pn=>exact .r (s1':=⟨_,r,_,É,p⟩) n (by simp[St.r,fm,base,G,Ù,Ì,Frame.at]) ⟨U,m,U,U,q⟩
 |vD=>exact .r (s1':=⟨_,r,_,É,p⟩) n (by simp[St.r,fm,base,G,Ù,Ì,Frame.at]) ⟨U,m,U,U,q⟩
 |sQ=>exact .r (s1':=⟨_,r,_,Ã,p⟩) n (by simp[St.r,fm,base,G,Ù,Ì,Frame.at]) ⟨U,m,U,U,q⟩
 |xb=>exact .r (s1':=⟨_,r,_,Ã,p⟩) n (by simp[St.r,fm,base,G,Ù,Ì,Frame.at]) ⟨U,m,U,U,q⟩
 |yR=>exact .r (s1':=⟨_,r,_,Ã,p⟩) n (by simp[St.r,fm,base,G,Ù,Ì,Frame.at]) ⟨U,m,U,U,q⟩
 |vE=>exact .r (s1':=⟨_,r,_,Ã,p⟩) n (by simp[St.r,fm,base,G,Ù,Ì,Frame.at]) ⟨U,m,U,U,q⟩
 |rH=>exact .r (s1':=⟨_,r,_,Ã,p⟩) n (by simp[St.r,fm,base,G,Ù,Ì,Frame.at]) ⟨U,m,U,U,q⟩
 |@uf _ _ _ _ _ c _ _ b hc'=>
  have V:=xj hG m (by cases yS ok.fZ with|uf Q _ _=>exact Q);rw[hc']at V;have e:å ⟨r,[]⟩ c=Ľ b:=by generalize å ⟨r,[]⟩ c=v' at V;cases V;rfl
  exact .r (s1':=⟨_,r,_,Ã,p⟩) n (cF e) ⟨U,m,U,U,q⟩
 |rI=>exact .r (s1':=⟨_,r,_,Ã,p⟩) n (by simp[St.r,fm,base,G,Ù,Ì,Frame.at]) ⟨U,m,U,U,q⟩
 |xc=>exact .r (s1':=⟨_,r,_,Ã,p⟩) n (by simp[St.r,fm,base,G,Ù,Ì,Frame.at]) ⟨U,m,U,U,q⟩
 |xd=>exact .r (s1':=⟨_,r,_,Ã,p⟩) n (by simp[St.r,fm,base,G,Ù,Ì,Frame.at]) ⟨U,m,U,U,q⟩
 |xe=>exact .r (s1':=⟨_,r,_,Ã,p⟩) n (by simp[St.r,fm,base,G,Ù,Ì,Frame.at]) ⟨U,m,U,U,q⟩
 |xf B=>exact .r (s1':=⟨_,r,_,Ã,p⟩) n (by simp[St.r,fm,base,G,Ù,Ì,Frame.at,B]) ⟨U,m,U,U,q⟩
 |xg B=>exact .r (s1':=⟨_,r,_,Ã,p⟩) n (by simp[St.r,fm,base,G,Ù,Ì,Frame.at,B]) ⟨U,m,U,U,q⟩
 |ug=>exact .r (s1':=⟨_,r,_,Ã,p⟩) n (by simp[St.r,fm,base,G,Ù,Ì,Frame.at]) ⟨U,m,U,U,q⟩
 |@AX f t k L _ id ops=>
  refine⟨Y,⟨f,r,á ops (bM (P.follows .mixedOrders) ops<|w.tape w.drawn<|.order f id)::k,Ã,p⟩,{w with drawn:=w.drawn+1},#[],Ż,⟨U,m,?_,U,q⟩,fw.M _,λ_ _ h=>Ç h,⟨n.S,by simp[n.N],n.C,n.I,n.M,n.r⟩,⟨ß _,U,U,U,λ_ _ _=>rfl,λ_ _ _=>rfl⟩,λe B=>absurd B fl,ß _⟩;simp only[n.S,n.N]
 |Gm=>exact .r (s1':=⟨_,r,_,Ã,p⟩) n (by simp[St.r,fm,base,G,Ù,Ì,Frame.at]) ⟨U,m,U,U,q⟩
 |@Dm f t k L _ ops i rest o ho hw=>
  rw[JF _ _ m]at hw;have:=υ (P:=P) (main:=main) (b:=base f) (a:=⟨r,[]⟩) (k:=k) (cs:=p.map (λx=>fm x.1 x.2.1 x.2.2)++cs) (w:=w) (rest:=rest) ho hw;rw[sT]at this;exact .r (s1':=⟨f,pv r o.dst ľ,á ops rest::k,Ã,p⟩) n this ⟨U,pv.r m _<|Gd Y,U,U,q⟩
 |@nW f t k L _ ops i rest o v _ ho hw hr=>
  rw[JF _ _ m]at hw;let⟨C,x',E,es,z,F,D,H,I,J,K,M⟩:=(py ok.fZ _<|Û ho).mU hz hb hG m n hl hr Q;let⟨N,O⟩:=JV D;cases H with
  |nW V=>
   have:=bA (main:=main) (b:=base f) (k:=k) (cs:=p.map (λx=>fm x.1 x.2.1 x.2.2)++cs) (rest:=rest) ho hw (by simp[base]) N;rw[sT]at this;rename_i v';exact⟨C,⟨f,pv r o.dst v',á ops rest::k,Ã,p⟩,E,_,this,⟨U,pv.r (m.I z) _ V,U,U,JU z q⟩,z,F,I,J,λe B=>K e (by have:=cG B;rwa[O]at this),M⟩
 |@AY f t k L _ ops i rest o _ ho hw hr=>
  rw[JF _ _ m]at hw;let⟨C,x',E,es,z,F,D,H,I,J,K,M⟩:=(py ok.fZ _<|Û ho).mU hz hb hG m n hl hr Q;let⟨N,O⟩:=JV D;cases H with
  |sQ=>
   have:=cH (main:=main) (b:=base f) (k:=k) (cs:=p.map (λx=>fm x.1 x.2.1 x.2.2)++cs) (rest:=rest) ho hw (by simp[base]) N;rw[sT]at this;exact⟨C,⟨f,pv r o.dst ľ,á ops rest::k,Ã,p⟩,E,_,this,⟨U,pv.r (m.I z) _<|Gd C,U,U,JU z q⟩,z,F,I,J,λe B=>K e (by have:=cG B;rwa[O]at this),M⟩
 |@sR f t k L _ ops i rest o g args fn c _ ho hw hr hf JX=>
  rw[JF _ _ m]at hw;let⟨C,x',E,es,z,F,D,H,I,J,K,M⟩:=(py ok.fZ _<|Û ho).mU hz hb hG m n hl hr Q;let⟨N,O⟩:=JV D;cases H with
  |sR _ pz=>
   have:=bB (main:=main) (b:=base f) (k:=k) (cs:=p.map (λx=>fm x.1 x.2.1 x.2.2)++cs) (rest:=rest) ho hw (by simp[base]) N;rw[cI _ hf JX]at this;rename_i Xa;refine⟨C,⟨g,Xa++ĺ (fn.ntmps-Xa.size) ľ,[Đ c],Ã,(f,r,á ops (i::rest)::k)::p⟩,E,_,this,⟨U,?_,U,U,.wW ⟨U,m.I z,U⟩ (JU z q)⟩,z,F,I,J,λe B=>K e (by have:=cG B;rwa[O]at this),M⟩;rw[pz.r];exact pz.tW<|W8 _
 |@Dn f t k L _ ops i rest ho=>exact .r (s1':=⟨f,r,á ops rest::k,Ã,p⟩) n (by simp[St.r,fm,base,G,Ù,Ì,Frame.at,ho,aT]) ⟨U,m,U,U,q⟩
 |@xh f t k L _ g t2' ops i rest k3 v fn _ hf hr=>
  cases q with
  |wW hx q=>
   rename_i y Xb;let⟨g',t2,k2⟩:=y;let⟨S,JY,T⟩:=hx;simp only at S T JY;subst S T;let⟨C,v',E,es,z,F,D,H,I,J,K,M⟩:=(W9 fn m).gl n hl hr #[];let⟨N,O⟩:=JV D;refine⟨C,⟨g,pv t2 ((ops[i]?).bind (·.dst)) v',á ops rest::k3,Ã,Xb⟩,E,seen P f es,?_,⟨U,pv.r (JY.I z) _ H,U,U,JU z q⟩,z,F,I,J,λe B=>K e<|mem_seen B,M⟩;have A0:=ε (base g) ⟨t2,[]⟩ ops i rest k3 v';rw[sT]at A0;have ny:=Gn (main:=main) (k:=k) (c:=fm g t2<|á ops (i::rest)::k3) (cs:=Xb.map (λx=>fm x.1 x.2.1 x.2.2)++cs) hf D;unfold fm at ny;rwa[A0,Ď]at ny
end
inductive qa(P:Õ)(kr:Â->Æ->Prop):St->Æ->Prop
 |jN {f:à} {t:Array Â} {k:List ś} {u:Æ} {fn:Func} {v:Â} (hf:P.funcs[f]?=À fn) (hr:∀tp d,(Ī fn t).run P {u with tape:=tp,drawn:=d}=ĥ v {u with tape:=tp,drawn:=d}) (hp:kr v u):qa P kr ⟨f,t,k,É,[]⟩ u
 |jA {s:St} {u:Æ} (S:ψ->Nat->St) (U:ψ->Nat->Æ) (h:∀tp d,LS P s {u with tape:=tp,drawn:=d} (S tp d)<|U tp d) (hc:∀tp d,Di u<|U tp d) (ih:∀tp d,qa P kr (S tp d)<|U tp d):qa P kr s u
structure yT(M:Nat->Prop)(w w₁:Æ):Prop where
 r:w.heap.size<=w₁.heap.size
 C:∀j,M j->w₁.heap[j]?=w.heap[j]?
def JZ(O b:Nat->Prop)(e:ý):Prop:=
 (∃a:Ú,e.loc=û a/\e.sync=Ã/\(O a.block\/(b a.block/\e.write=Ã)))\/e.loc=ů de\/∃f,e.loc=ů (.extern f)
structure J0(Rd O O':Nat->Prop)(w w':Æ)(es:Array ý):Prop where
 r:w.heap.size<=w'.heap.size
 M:∀j,O j->O' j
 I:∀j,O' j->O j\/w.heap.size<=j
 fx:∀j,O' j->j<w'.heap.size
 jV:∀j,j<w.heap.size->¬O j->w'.heap[j]?=w.heap[j]?
 N:w'.os=w.os
 S:w'.output=w.output
 Y:w'.tape=w.tape
 C:∀e∈es,JZ O' Rd e
inductive vF(P:Õ)(main:Bool)(Rd:Nat->Prop)(Stop:(Nat->Prop)->Ó->Æ->Prop):(Nat->Prop)->Ó->Æ->Prop
 |fB {O:Nat->Prop} {g:Ó} {w:Æ} (h:∀w₁,yT (λj=>O j\/Rd j) w w₁->Stop O g w₁):vF P main Rd Stop O g w
 |jA {O:Nat->Prop} {g:Ó} {w:Æ} (G':Æ->Ó) (W':Æ->Æ) (E':Æ->Array ý) (O':Æ->Nat->Prop) (iK:g.status=Ð)
  (h:∀w₁,yT (λj=>O j\/Rd j) w w₁->Ù P main g w₁=aS (G' w₁) (W' w₁) (E' w₁))
  (hd:∀w₁,yT (λj=>O j\/Rd j) w w₁->J0 Rd O (O' w₁) w₁ (W' w₁) (E' w₁))
  (ih:∀w₁,yT (λj=>O j\/Rd j) w w₁->vF P main Rd Stop (O' w₁) (G' w₁) (W' w₁)):vF P main Rd Stop O g w
instance:Nonempty fw:=⟨⟨λ_ _=>False,0⟩⟩
instance:Nonempty St:=⟨⟨0,#[],[],Ã,[]⟩⟩
instance:Nonempty (Goroutine×World×Array Event×(Nat->Prop)):=⟨(default,default,#[],λ_=>False)⟩
section
variable{Y:fw}{b Rd:Nat->Prop}{l:à->Prop}{main:Bool}{Stop:(Nat->Prop)->Ó->Æ->Prop}
def vF.mk(i:g.status=Ð) (h:∀a,yT (λj=>X j\/Rd j) w a->∃c b d e,Ù P main g a=aS c b d/\J0 Rd X e a b d/\vF P main Rd Stop e c b):vF P main Rd Stop X g w:=by
 let p:=λ(a:Æ) (x:Goroutine×World×Array Event×(Nat->Prop))=>Ù P main g a=aS x.1 x.2.1 x.2.2.1/\J0 Rd X x.2.2.2 a x.2.1 x.2.2.1/\vF P main Rd Stop x.2.2.2 x.1 x.2.1
 have f:∀a,yT (λj=>X j\/Rd j) w a->p a (Classical.epsilon<|p a):=λa r=>Classical.epsilon_spec (let⟨c,b,d,e,h⟩:=h a r;⟨(c,b,d,e),h⟩);exact .jA (λa=>(Classical.epsilon<|p a).1) (λa=>(Classical.epsilon<|p a).2.1) (λa=>(Classical.epsilon<|p a).2.2.1) (λa=>(Classical.epsilon<|p a).2.2.2) i (λa r=>(f a r).1) (λa r=>(f a r).2.1) λa r=>(f a r).2.2
def rK(Y:fw)(b:Nat->Prop)(u w:Æ):Prop:=jk Y b {u with tape:=w.tape,drawn:=w.drawn} w
def fq(Y:fw)(b:Nat->Prop)(j:Nat):Prop:=(∃i,Y i j)/\¬b j
theorem rK.ki{w₁:Æ}(h:rK Y b u w)(p:∀i j,Y i j->b j->Rd j)(r:yT (λj=>fq Y b j\/Rd j) w w₁):rK Y b u w₁:=by
 refine⟨U,U,h.C,h.I,õ h.M r.r,λi j a=> ?_⟩;let⟨c,d,e,f,g,k,l,m,n,o⟩:=h.r i j a;refine⟨c,d,e,f,g,k,?_,m,n,o⟩;rw[r.C j ?_]
 .exact l
 .by_cases s:b j
  .grind
  .exact Ç ⟨⟨i,a⟩,s⟩
def jk.to0(h:jk Y b u w):rK Y b u w:=⟨U,U,h.C,h.I,h.M,h.r⟩
def jk.vG(h:jk Y b u w)(tp:ψ)(d:Nat):rK Y b {u with tape:=tp,drawn:=d} w:=⟨U,U,h.C,h.I,h.M,h.r⟩
theorem afQ{c:fw}(k:∀i j,c i j->b j->Rd j){e:ý}(h:AR c b e):JZ (fq c b) Rd e:=by
 rcases h with⟨a,i,d,f,g,l⟩|h|h
 .by_cases s:b a.block
  .refine Ç ⟨a,d,g,Î ⟨k _ _ f s,?_⟩⟩;grind
  .exact Ç ⟨a,d,g,Ç ⟨⟨i,f⟩,s⟩⟩
 .exact Î<|Ç h
 .exact Î<|Î h
def Xc{c:fw}(f:Y.r c)(g:∀i j,c i j->Y i j\/(u.heap.size<=i/\w.heap.size<=j))(k:jk c b W jX)(d:nU Y b w jX)(l:∀e∈V,AR c b e)(m:∀i j,c i j->b j->Rd j): J0 Rd (fq Y b) (fq c b) w jX V where
 r:=d.r;M j h:=⟨let⟨i,a⟩:=h.1;⟨i,f.1 _ _ a⟩,h.2⟩;I j h:=by
  let⟨⟨i,a⟩,s⟩:=h;rcases g i j a with x|x
  .exact Ç ⟨⟨i,x⟩,s⟩
  .exact Î x.2
 fx j h:=by let⟨⟨i,a⟩,_⟩:=h;let⟨_,_,_,_,_,_,x,_⟩:=k.r i j a;exact(Ë.1 x).1
 jV j hj hn:=by
  by_cases x:∃i,Y i j
  .by_cases s:b j
   .exact d.N j s hj
   .exact absurd ⟨x,s⟩ hn
  .exact d.C j hj λi a=>x ⟨i,a⟩
 N:=d.I;S:=d.M;Y:=d.S;C e he:=afQ m<|l e he
def Gp(Y:fw)(b:Nat->Prop)(f:Â->Æ->Prop)(c:Ę)(h:List Ę)(O:Nat->Prop)(g:Ó)(w:Æ):Prop:=
 ∃(a:fw) (d:Æ) (v e:Â),Y.r a/\O=fq a b/\rK a b d w/\fp a v e/\f v d/\g=G (c.finish e) h
def qa.OG(hz:nV P)(hP:pw P X l){s:St}(h:qa P vQ s u):∀{Y Gq:fw} {s':St} {w:Æ},Gq.r Y->Y.C=P.globals.size->(∀g,X g->Y g g)->JS Y s s'->lH P X l s->rK Y b u w->(∀j,b j->j<w.heap.size)->(∀i j,Y i j->b j->Rd j)->∀(c:Ę) (cs:List Ę),vF P main Rd (Gp Gq b vQ c cs) (fq Y b) (s'.r<|c::cs) w:=by
 have hE:∀o a u f F G,mT P X l o->(ì (å a) o).run P u=ĥ (ũ f F) G->l f:=by exact λo a u f F G d H=>d.C a u f F G H
 induction h with
 |@jN f t k u fn v hf H hp=>
  intro Y Gq s' w I J K L M N O n c cs;let⟨f',t',k',ret',L'⟩:=s';let⟨V,W,e2,e3,hL⟩:=L;simp only at V e2 e3 W hL;subst V e2 e3;cases hL;refine .mk rfl λp r=> ?_;have d:=λj s=>Ô (O j s) r.r;let⟨z,v',w',es,B,C,m,D,q,E,Q,h8⟩:=(W9 fn W).gl (N.ki n r) d (H _ _) #[];have y:=λi j T s=>(C i j T).elim (λx=>n i j x s) λx=>absurd (d j s) Z;refine⟨_,w',_,fq z b,Gn hf m,Xc B C q E (λe he=>Q e (by have:=mem_seen he;simpa using this)) y,.fB λxk e=>⟨z,u,v,v',fw.I I B,rfl,rK.ki (q.vG _ _) y e,D,hp,rfl⟩⟩
 |@jA s u S U h hc _ ih=>
  intro Y Gq s' w I J K L M N O n c cs;refine .mk rfl λp r=> ?_;have d:=λj s=>Ô (O j s) r.r;let⟨z,H,e,es,B,C,m,D,q,E,Q,h8⟩:=(h p.tape p.drawn).mU hz J K L M (N.ki n r) d (hc p.tape p.drawn) main<|c::cs;have y:=λi j T s=>(D i j T).elim (λx=>n i j x s) λx=>absurd (d j s) Z;refine⟨_,e,es,fq z b,B,Xc m D q E Q y,ih _ _ (fw.I I m) (m.2.2.trans J) (λg x=>m.1 _ _<|K g x) C ((h _ _).ok hP hE M) q.to0 (λj s=>Ô (d j s) E.r) y c cs⟩
end
def qc:Ę:={(default:Ę)with fn:=0,todo:=[Đ<|dw ""],defers:=[{target:=.nil,args:=#[]}],mode:=.run,kind:=.normal}
def St.I(s:St):Ę:=if s.C then{fm s.f s.t s.k with mode:=.returning}else fm s.f s.t s.k
def fx(L:List (FuncId×Array Value×List ś)):List Ę:=L.map (λx=>fm x.1 x.2.1 x.2.2)++[qc]
def LM(s:St)(u:Æ):bR:=aU s.I (fx s.L) u
section
variable{GL:Nat->Prop}{e8:à->Prop}{Q:Â->Æ->Prop}
def Dq{cs:List Ę}{a:Ę}{es:Array ý}(h:Ù P É (G f cs) w=aS (G a qX) u es):dS P (aU f cs w)=ň (aU a qX u):= step_lone_go<|by show(Ù P É (G f cs) w).bare=_;rw[h];rfl
def J3{fr:Ę}{cs:List Ę}{o:Outcome}{es:Array ý}(h:Ù P É (G fr cs) w=eV o u es):dS P (aU fr cs w)=.ended o u:= step_lone_ended<|by show(Ù P É (G fr cs) w).bare=_;rw[h];rfl
def mV(P:Õ)(Q:Â->Æ->Prop)(n:Nat)(m:bR):Prop:=∃b v a,dy P n m=ň (aU b [qc] a)/\b.leaving P a (.returned v)/\Q v a
def mV.r{m a:bR}(h:mV P Q (n+1) m)(b:dS P m=ň a):mV P Q n a:=by let⟨c,v,d,e,f⟩:=h;exact⟨c,v,d,by simpa only[dy,b]using e,f⟩
def mV.M{m:bR}{o:Outcome}(h:mV P Q (n+1) m)(b:dS P m=.ended o w):False:=by let⟨c,v,d,a,e⟩:=h;simp only[dy,b]at a;cases a
theorem Xd{fr:Ę}{cs:List Ę}(h:aU fr cs w=aU f qX u):fr=f/\cs=qX/\w=u:=by simp only[aU,Machine.mk.injEq,Array.mk.injEq,List.cons.injEq,Goroutine.mk.injEq]at h;grind
theorem mV.C{cs:List Ę}(h:mV P Q 0 (aU f cs w)):cs=[qc]/\∃v,f.leaving P w (.returned v)/\Q v w:=by let⟨b,v,c,a,d,e⟩:=h;simp only[dy,Stepped.next.injEq]at a;grind [Xd]
def afR(h:mV P Q n (aU qc [] u)):False:=by
 cases n with
 |zero=>let⟨a,_⟩:=h.C;cases a
 |succ n=>exact h.M<|J3 (es:=#[])<|by simp[G,Ù,Ì,qc];exact⟨U,U⟩
def afS{a:List eh}(h:mV P Q n (aU (qc.raise a) [] u)):False:=by
 cases n with
 |zero=>let⟨b,_⟩:=h.C;cases b
 |succ n=>exact h.M<|J3 (es:=#[])<|by simp[G,Ù,qc,Ŗ,dx,callDeferred];exact⟨U,U⟩
def afT(b:List eh):∀(L:List (FuncId×Array Value×List ś)) (f:à) (t:Array Â) (k:List ś) (u:Æ) (n:Nat),(∃a,P.funcs[f]?=À a)->(∀x∈L,∃a,P.funcs[x.1]?=À a)->¬mV P Q n (aU ((fm f t k).raise b) (fx L) u):=by
 intro L
 induction L with
 |nil=>
  intro f t k u n ⟨a,c⟩ _ h;cases n with
  |zero=>let⟨_,v,y,_⟩:=h.C;exact absurd y.1<|by simp[Ŗ,fm,Frame.at]
  |succ n=>
   have d:dS P (aU ((fm f t k).raise b) (fx []) u)=ň (aU (qc.raise b) [] u):=Dq (es:=#[]) (by simp[G,Ù,fm,base,Frame.at,Ŗ,dx,cW,c,fx]);exact afS<|h.r d
 |cons x L e=>
  intro f t k u n ⟨a,c⟩ d h;cases n with
  |zero=>let⟨_,v,y,_⟩:=h.C;exact absurd y.1<|by simp[Ŗ,fm,Frame.at]
  |succ n=>
   exact e x.1 x.2.1 x.2.2 u n (d x<|î ..) (λy v=>d y<|ò _ v)<|h.r<|Dq (es:=#[])<|by simp[G,Ù,fm,base,Frame.at,Ŗ,dx,cW,c,fx]
structure Ok(P:Õ)(GL:Nat->Prop)(e8:à->Prop)(s:St):Prop where
 r:lH P GL e8 s
 I:e8 s.f
 C:∀x∈s.L,e8 x.1/\∃ops i rest k,x.2.2=á ops (i::rest)::k
def uh(P:Õ)(e8:à->Prop):Prop:=∀f,e8 f->∃a c,P.funcs[f]?=À a/\a.body=À c
theorem OH{t:Array Â}:fE P (Ī s t):=by unfold Ī;grind [gq,Ws,gG,Wk,Wg]
def afU(k:kq P xX o.op){n:Ο}(d:(ì xX o).run P u=ĥ n W):(∃v,n=ï v)\/n=aH\/∃f c,n=ũ f c:=by
 have i:∀{m:ē Â} {x:Ο} {j l:Æ},(m>>=λv=>pure (ï v):ē Ο).run P j=ĥ x l->∃v,x=ï v:=by
  intro m x j l e;rw[Ä]at e;cases g:m.run P j with
  |ok a w=>rw[g]at e;cases e;exact⟨a,U⟩
  |halt z w=>rw[g]at e;cases e
 let⟨p,e,q,s,B,guard⟩:=o;simp only at k;unfold ì at d;simp only[]at d;cases k with
 |wY x=>cases d;exact Ç ⟨_,U⟩
 |F7 x=>cases d;exact Ç ⟨_,U⟩
 |wZ c a b=>
  rw[Ä]at d;cases g:(bW<|xX c).run P u with
  |ok a w=>rw[g]at d;cases d;exact Ç ⟨_,U⟩
  |halt z w=>rw[g]at d;cases d
 |jf t a x=>
  rw[Ä]at d;cases g:(ĳ t (xX a)<|xX x).run P u with
  |ok a w=>rw[g]at d;cases d;exact Î<|Ç U
  |halt z w=>rw[g]at d;cases d
 |F8 x=>
  simp only[]at d;split at d;all_goals first
   |(cases d;exact Ç ⟨_,U⟩)
   |exact absurd d<|rE _ _ _ _
   |(
    split at d;all_goals first
     |(cases d;exact Ç ⟨_,U⟩)
     |exact absurd d<|rE _ _ _ _
     |(
      rw[Ä,ă]at d;simp only[È]at d;rw[Ä]at d;revert d;generalize ã P (aR _ _ _ _) u=z;intro d;cases z with
      |halt z w=>cases d
      |ok a w=>
       simp only[È]at d;split at d
       .rw[Ä]at d;cases d
       .cases d;exact Ç ⟨_,U⟩))
 |F9 x a=>simp only[ù,č,Ē,pure_bind,Ø,â,ä]at d;exact Ç<|i d
 |Gb x a=>simp only[ù,č,Ē,pure_bind,Ø,â,ä]at d;exact Ç<|i d
 |Gc x y a=>simp only[ù,č,Ē,pure_bind,Ø,â,ä]at d;exact Ç<|i d
 |tW x y b g h=>simp only[ù,č,Ē,pure_bind,Ø,â,ä]at d;exact Ç<|i d
 |jM g C a b h=>
  let⟨D,r,w,z⟩:=h;simp only[ù,b,İ,č,pure_bind,Ď,ď,ĵ]at d;rw[Ä,ă]at d;simp only[È,r,w,z,Å,if_false]at d;cases d;exact Î<|Î ⟨_,_,U⟩
 |Dk e t x y r h=>exact Ç<|i d
 |_=>exact Ç<|i d
def mV.I(_hP:pw P GL e8)(hF:uh P e8){n:Nat}{s:St}{u:Æ}(ok:Ok P GL e8 s)(hu:qO u)(h:mV P Q n (LM s u)): (n=0/\s.C=É/\s.L=[]/\∃fn v,P.funcs[s.f]?=À fn/\(Ī fn s.t).run P u=ĥ v u/\Q v u)\/∃m s' u',n=m+1/\LS P s u s' u'/\mV P Q m (LM s' u'):=by
 let⟨f,t,k,ret,L⟩:=s;let⟨⟨top,lw⟩,fs,ls⟩:=ok;simp only at top lw fs ls;let⟨fn,c,hfn,hbody⟩:=hF f fs;cases n with
 |zero=>
  let⟨h1,v,h2,h3⟩:=h.C;have hL:L=[]:=by simp only[fx]at h1;simp_all
  subst hL;let⟨m1,_,_,fn',m4,m5⟩:=h2;have afV:ret=É:=by
   cases ret with
   |true=>rfl
   |false=>simp[St.I,fm,Frame.at]at m1
  subst afV;exact Ç ⟨U,U,U,fn',v,m4,m5,h3⟩
 |succ n=>
  have go:∀{s':St} {u':Æ},LS P ⟨f,t,k,ret,L⟩ u s' u'->(∃es,Ù P É ((⟨f,t,k,ret,L⟩:St).r [qc]) u=aS (s'.r [qc]) u' es)->(n+1=0/\ret=É/\L=[]/\∃fn v,P.funcs[f]?=À fn/\(Ī fn t).run P u=ĥ v u/\Q v u)\/∃m s' u',n+1=m+1/\LS P ⟨f,t,k,ret,L⟩ u s' u'/\mV P Q m (LM s' u'):=by intro s' u' hl ⟨es,he⟩;exact Î ⟨n,s',u',U,hl,h.r<|Dq he⟩
  have bad:(∃o w es,Ù P É ((⟨f,t,k,ret,L⟩:St).r [qc]) u=eV o w es)->False:=λ⟨_,_,_,he⟩=>h.M<|J3 he;cases ret with
  |true=>
   cases hr:(Ī fn t).runT P u #[]with
   |mk r es=>
    cases r with
    |halt z w=>
     refine absurd ?_ id;cases z<;>exact bad ⟨_,_,_,by simp[St.r,fm,base,G,Ù,dx,Frame.at,hfn,hr,Ź,-ź];exact⟨U,U,U⟩⟩
    |ok v u'=>
     cases L with
     |nil=>
      exact absurd (h.r<|Dq<|Gn hfn hr) afR
     |cons x L=>
      let⟨g,t',k'⟩:=x;let⟨_,ops,i,rest,k2,e⟩:=ls _<|î ..;simp only at e;subst e;refine go (.xh hfn (by rw[<-Ρ P (Ī fn t) u #[],hr])) ⟨seen P f es,?_⟩;have ny:=Gn (main:=É) (k:=k) (c:=fm g t'<|á ops (i::rest)::k2) (cs:=fx L) hfn hr;have A0:=ε (base g) ⟨t',[]⟩ ops i rest k2 v;rw[sT]at A0;unfold fm at ny;rwa[A0]at ny
  |false=>
   cases k with
   |nil=>exact go .pn ⟨_,by simp[St.r,fm,base,G,Ù,Ì,Frame.at];rfl⟩
   |cons it k=>
    have ti:=top it<|î ..;cases ti with
    |yR id=>exact go .yR ⟨_,by simp[St.r,fm,base,G,Ù,Ì,Frame.at];rfl⟩
    |vE _=>exact go .vE ⟨_,by simp[St.r,fm,base,G,Ù,Ì,Frame.at];rfl⟩
    |xd _=>exact go .xd ⟨_,by simp[St.r,fm,base,G,Ù,Ì,Frame.at];rfl⟩
    |rJ hc=>
     cases hc with
     |vD=>exact go .vD ⟨_,by simp[St.r,fm,base,G,Ù,Ì,Frame.at];rfl⟩
     |sQ=>exact go .sQ ⟨_,by simp[St.r,fm,base,G,Ù,Ì,Frame.at];rfl⟩
     |xb l=>exact go .xb ⟨_,by simp[St.r,fm,base,G,Ù,Ì,Frame.at];rfl⟩
     |rH hx hy=>exact go .rH ⟨_,by simp[St.r,fm,base,G,Ù,Ì,Frame.at];rfl⟩
     |rI id _=>exact go .rI ⟨_,by simp[St.r,fm,base,G,Ù,Ì,Frame.at];rfl⟩
     |xc _=>exact go .xc ⟨_,by simp[St.r,fm,base,G,Ù,Ì,Frame.at];rfl⟩
     |xe _=>exact go .xe ⟨_,by simp[St.r,fm,base,G,Ù,Ì,Frame.at];rfl⟩
     |nX W7=>exact(bad ⟨_,_,_,by simp[St.r,fm,base,G,Ù,Ì,Frame.at];exact⟨U,U,U⟩⟩).elim
     |xf id=>
      cases he:cD id k with
      |none=>exact(bad ⟨_,_,_,by simp[St.r,fm,base,G,Ù,Ì,Frame.at,he];exact⟨U,U,U⟩⟩).elim
      |some k'=>exact go (.xf he) ⟨_,by simp[St.r,fm,base,G,Ù,Ì,Frame.at,he];rfl⟩
     |xg l=>
      cases he:cE l k with
      |none=>exact(bad ⟨_,_,_,by simp[St.r,fm,base,G,Ù,Ì,Frame.at,he];exact⟨U,U,U⟩⟩).elim
      |some k'=>exact go (.xg he) ⟨_,by simp[St.r,fm,base,G,Ù,Ì,Frame.at,he];rfl⟩
     |@uf c x y _ _ _=>
      by_cases hb:∃b,å ⟨t,[]⟩ c=Ľ b
      .let⟨b,hb⟩:=hb;exact go (.uf hb) ⟨_,cF hb⟩
      .refine(bad ⟨.stuck "cond: bool expected" ((fm f t<|Đ (bz c x y)::k).pos P),u,#[],?_⟩).elim;have VX:(fm f t<|Đ (bz c x y)::k).eval c=å ⟨t,[]⟩ c:=Frame.eval_at _ _ _ _;have hx:Ù P É (G (fm f t<|Đ (bz c x y)::k)<|fx L) u=(match(fm f t<|Đ (bz c x y)::k).eval c with
        |Ľ b=>aS (G (fm f t<|Đ (if b then x else y)::k)<|fx L) u
        |_=>eV (.stuck "cond: bool expected" ((fm f t (Đ (bz c x y)::k)).pos P)) u):=by
        simp only[G,Ù,Ì,fm,Frame.at];rfl
       refine hx.trans ?_;rw[VX];generalize å ⟨t,[]⟩ c=v at hb;cases v<;>first|exact absurd ⟨_,U⟩ hb|rfl
     |ug id draw _=>
      cases draw with
      |false=>exact go .ug ⟨_,by simp[St.r,fm,base,G,Ù,Ì,Frame.at];rfl⟩
      |true=>exact go .AX ⟨_,Ż⟩
    |xi is hO=>
     rename_i ops;cases is with
     |nil=>exact go .Gm ⟨_,by simp[St.r,fm,base,G,Ù,Ì,Frame.at];rfl⟩
     |cons i rest=>
      cases ho:ops[i]? with
      |none=>exact go (.Dn ho) ⟨_,by simp[St.r,fm,base,G,Ù,Ì,Frame.at,ho,aT];rfl⟩
      |some o=>
       cases hw:Ħ o (ł ops t)with
       |false=>
        have:=υ (P:=P) (main:=É) (b:=base f) (a:=⟨t,[]⟩) (k:=k) (cs:=fx L) (w:=u) (rest:=rest) ho hw;rw[sT]at this;exact go (.Dm ho hw) ⟨_,this⟩
       |true=>
        have oo:=hO o<|Û ho;have oA:=stepG_oper (P:=P) (main:=É) (b:=base f) (a:=⟨t,[]⟩) (k:=k) (cs:=fx L) (w:=u) (rest:=rest) ho hw;cases hr:(ì (å ⟨t,[]⟩) o).runT P u #[]with
        |mk r es=>
         have pj:(ì (å ⟨t,[]⟩) o).run P u=r:=by rw[<-Ρ P _ u #[],hr]
         cases r with
         |halt z w=>
          have hz:=((oo.r ⟨t,[]⟩).1 u hu).2 z w pj;cases z with
          |panic v=>
           have hs:dS P (LM ⟨f,t,á ops (i::rest)::k,Ã,L⟩ u)=ň (aU ((fm f t<|á ops (i::rest)::k).raise [{v,recovered:=Ã}]) (fx L) w):= Dq (es:=seen P f es) (oA.trans<|by simp[bC,hr,G,Frame.at,fm,base,Ź,Ŗ,-ź]);exact absurd (h.r hs) (afT _ L f t _ w n ⟨fn,hfn⟩ λx hx=>let⟨fn',_,h1,_⟩:=hF x.1 (ls x hx).1;⟨fn',h1⟩)
          |stuck s=>exact(bad ⟨_,_,_,oA.trans<|by simp[bC,hr,Frame.at,base,Ź,-ź];exact⟨U,U,U⟩⟩).elim
          |unsupported un=>
           cases un<;>first|(cases hz;done)|exact(bad ⟨_,_,_,oA.trans<|by simp[bC,hr,Frame.at,base,Ź,-ź];exact⟨U,U,U⟩⟩).elim
          |_=>cases hz
         |ok nx u'=>
          rcases oo.I ⟨t,[]⟩ u nx u' pj with⟨v,rfl⟩|rfl|⟨g,args,rfl⟩
          .have:=bA (main:=É) (b:=base f) (k:=k) (cs:=fx L) (rest:=rest) ho hw (by simp[base]) pj;rw[sT]at this;exact go (.nW ho hw pj) ⟨_,this⟩
          .have:=cH (main:=É) (b:=base f) (k:=k) (cs:=fx L) (rest:=rest) ho hw (by simp[base]) pj;rw[sT]at this;exact go (.AY ho hw pj) ⟨_,this⟩
          .let⟨fn',c',h1,h2⟩:=hF g<|oo.C ⟨t,[]⟩ u g args u' pj;have:=bB (main:=É) (b:=base f) (k:=k) (cs:=fx L) (rest:=rest) ho hw (by simp[base]) pj;rw[cI _ h1 h2]at this;exact go (.sR ho hw pj h1 h2) ⟨_,this⟩
end
def kt(u:Æ):Prop:=∀(i:Nat) (o:Obj),u.heap[i]?=À o->¬yP o
def kt.qO(h:kt u):qO u:=λi _ _ a=>h i _ a trivial
def xl(a:Â->Æ->Prop):Prop:=∀v u T D,a v u->a v ((World.tp u T D))
section
variable{GL:Nat->Prop}{e8:à->Prop}{kr:Â->Æ->Prop}
def LS.OG{s s':St}(h:LS P s u s' W)(cs:List Ę):∃j,Ù P É (s.r cs) u=aS (s'.r cs) W j:=by
 cases h with
 |@uf f t k L _ c x y b hc=>exact⟨_,cF hc⟩
 |xf e=>exact⟨_,by simp[St.r,fm,base,G,Ù,Ì,Frame.at,e];rfl⟩
 |xg e=>exact⟨_,by simp[St.r,fm,base,G,Ù,Ì,Frame.at,e];rfl⟩
 |@AX f t k L _ id ops=>exact⟨_,Ż⟩
 |@Dn f t k L _ ops i rest ho=>exact⟨_,by simp[St.r,fm,base,G,Ù,Ì,Frame.at,ho,aT];rfl⟩
 |@Dm f t k L _ ops i rest o ho hw=>
  have:=υ (P:=P) (main:=É) (b:=base f) (a:=⟨t,[]⟩) (k:=k) (cs:=L.map (λx=>fm x.1 x.2.1 x.2.2)++cs) (w:=u) (rest:=rest) ho hw;rw[sT]at this;exact⟨_,this⟩
 |@nW f t k L _ ops i rest o v _ ho hw hr=>
  have:=bA (main:=É) (b:=base f) (k:=k) (cs:=L.map (λx=>fm x.1 x.2.1 x.2.2)++cs) (rest:=rest) ho hw (by simp[base]) hr;rw[sT]at this;exact⟨_,this⟩
 |@AY f t k L _ ops i rest o _ ho hw hr=>
  have:=cH (main:=É) (b:=base f) (k:=k) (cs:=L.map (λx=>fm x.1 x.2.1 x.2.2)++cs) (rest:=rest) ho hw (by simp[base]) hr;rw[sT]at this;exact⟨_,this⟩
 |@sR f t k L _ ops i rest o g args fn c _ ho hw hr hf hb=>
  have:=bB (main:=É) (b:=base f) (k:=k) (cs:=L.map (λx=>fm x.1 x.2.1 x.2.2)++cs) (rest:=rest) ho hw (by simp[base]) hr;rw[cI _ hf hb]at this;exact⟨_,this⟩
 |@xh f t k L _ g t' ops i rest k' v fn _ hf hr=>
  cases l:(Ī fn t).runT P u #[]with
  |mk r j=>
   have e:r=ĥ v W:=by rw[<-hr,<-Ρ P (Ī fn t) u #[],l]
   subst e;have d:=Gn (main:=É) (k:=k) (c:=fm g t'<|á ops (i::rest)::k') (cs:=L.map (λx=>fm x.1 x.2.1 x.2.2)++cs) hf l;have x:=ε (base g) ⟨t',[]⟩ ops i rest k' v;rw[sT]at x;unfold fm at d;rw[x]at d;exact⟨_,d⟩
 |_=>exact⟨_,by simp[St.r,fm,base,G,Ù,Ì,Frame.at];rfl⟩
def LS.vH{s a:St}(h:LS P s u a w):dS P (LM s u)=ň (LM a w):= let⟨_,b⟩:=h.OG [qc];Dq b
def LS.OJ(j:pw P GL e8){s g:St}(h:LS P s u g w)(ok:Ok P GL e8 s):Ok P GL e8 g:=by
 have i:∀o a u f e w,mT P GL e8 o->(ì (å a) o).run P u=ĥ (ũ f e) w->e8 f:=by exact λo a u f e w c d=>c.C a u f e w d
 refine⟨h.ok j i ok.r,?_,?_⟩
 .cases h with
  |sR c _ d _ _=>exact i _ _ _ _ _ _ (py ok.r.fZ _<|Û c) d
  |xh=>exact(ok.C _<|î ..).1
  |_=>exact ok.I
 .cases h with
  |sR c _ d _ _=>
   intro x b;rcases œ.1 b with rfl|b
   .exact⟨ok.I,_,_,_,_,U⟩
   .exact ok.C x b
  |xh=>exact λx b=>ok.C x<|ò _ b
  |_=>exact ok.C
def LS.kd{s c:St}{u b:Æ}(h:LS P s u c b)(ok:lH P GL e8 s)(a:qO u):Kd u b:=by
 cases h with
 |nW k _ i=>exact(((py ok.fZ _<|Û k).r _).1 u a).1 _ _ i
 |AY k _ i=>exact(((py ok.fZ _<|Û k).r _).1 u a).1 _ _ i
 |sR k _ i _ _=>exact(((py ok.fZ _<|Û k).r _).1 u a).1 _ _ i
 |xh _ i=>exact(OH.1 u a).1 _ _ i
 |AX=>exact⟨id,λi o h k=>⟨o,h,k⟩⟩
 |_=>exact Kd.fX u
def LS.afW{s o:St}{u p:Æ}{T:ψ}{D:Nat}(h:LS P s ((World.tp u T D)) o p)(ok:lH P GL e8 s):∃n v,p=(World.tp v T<|D+n)/\∀a b,vB T D a b n->LS P s ((World.tp u a b)) o ((World.tp v a<|b+n)):=by
 cases h with
 |nW c e g=>
  obtain⟨n,v,i⟩:=((py ok.fZ _<|Û c).r ⟨_,[]⟩).2 u T D;obtain⟨j,l⟩:=i _ _ g;exact⟨n,v,j,λa b d=> .nW c e (l a b d)⟩
 |AY c e g=>
  obtain⟨n,v,i⟩:=((py ok.fZ _<|Û c).r ⟨_,[]⟩).2 u T D;obtain⟨j,l⟩:=i _ _ g;exact⟨n,v,j,λa b d=> .AY c e (l a b d)⟩
 |sR c e g m q=>
  obtain⟨n,v,i⟩:=((py ok.fZ _<|Û c).r ⟨_,[]⟩).2 u T D;obtain⟨j,l⟩:=i _ _ g;exact⟨n,v,j,λa b d=> .sR c e (l a b d) m q⟩
 |xh m g=>
  obtain⟨n,v,i⟩:=(OH).2 u T D;obtain⟨j,l⟩:=i _ _ g;exact⟨n,v,j,λa b d=> .xh m (l a b d)⟩
 |@AX f t k L _ id ops=>
  refine⟨1,u,U,λa b d=> ?_⟩;have g:=LS.AX (P:=P) (f:=f) (t:=t) (k:=k) (L:=L) (u:=(World.tp u a b)) (id:=id) (ops:=ops);have i:((World.tp u a b)).tape ((World.tp u a b)).drawn=((World.tp u T D)).tape ((World.tp u T D)).drawn:=d.lY;rwa[i]at g
 |pn=>exact⟨0,u,U,λ_ _ _=> .pn⟩
 |vD=>exact⟨0,u,U,λ_ _ _=> .vD⟩
 |sQ=>exact⟨0,u,U,λ_ _ _=> .sQ⟩
 |xb=>exact⟨0,u,U,λ_ _ _=> .xb⟩
 |yR=>exact⟨0,u,U,λ_ _ _=> .yR⟩
 |vE=>exact⟨0,u,U,λ_ _ _=> .vE⟩
 |rH=>exact⟨0,u,U,λ_ _ _=> .rH⟩
 |uf h=>exact⟨0,u,U,λ_ _ _=> .uf h⟩
 |rI=>exact⟨0,u,U,λ_ _ _=> .rI⟩
 |xc=>exact⟨0,u,U,λ_ _ _=> .xc⟩
 |xd=>exact⟨0,u,U,λ_ _ _=> .xd⟩
 |xe=>exact⟨0,u,U,λ_ _ _=> .xe⟩
 |xf h=>exact⟨0,u,U,λ_ _ _=> .xf h⟩
 |xg h=>exact⟨0,u,U,λ_ _ _=> .xg h⟩
 |ug=>exact⟨0,u,U,λ_ _ _=> .ug⟩
 |Gm=>exact⟨0,u,U,λ_ _ _=> .Gm⟩
 |Dm c e=>exact⟨0,u,U,λ_ _ _=> .Dm c e⟩
 |Dn c=>exact⟨0,u,U,λ_ _ _=> .Dn c⟩
def mV.gU(c:pw P GL e8)(hF:uh P e8)(g:∀v u,vQ v u->kt u):∀(n:Nat) {s:St} {u:Æ},Ok P GL e8 s->qO u->mV P vQ n (LM s u)->kt u:=by
 intro n
 induction n with
 |zero=>
  intro s u a b h;rcases h.I c hF a b with⟨_,_,_,_,v,_,_,d⟩|⟨m,_,_,e,_⟩
  .exact g v u d
  .cases e
 |succ n j=>
  intro s u a b h;rcases h.I c hF a b with⟨e,_⟩|⟨m,w,x,e,d,k⟩
  .cases e
  .cases e;have f:=d.kd a.r b;intro i o l p;let⟨q,r,t⟩:=f.C i o l p;exact j (d.OJ c a) (f.r b) k i q r t
def qa.afX(b:xl kr){s:St}(h:qa P kr s u)(T:ψ)(D:Nat):qa P kr s ((World.tp u T D)):=by
 cases h with
 |jN a S c=>exact .jN a S (b _ _ T D c)
 |jA S a h c d=>exact .jA S a h c d
def Xe(m:xl kr)(o:∀v u,vQ v u->kr v u){s:St}(c:s.C=É)(b:s.L=[])(e:∃g v,P.funcs[s.f]?=À g/\(Ī g s.t).run P ((World.tp u xQ i))=ĥ v ((World.tp u xQ i))/\vQ v ((World.tp u xQ i))):qa P kr s u:=by
 obtain⟨f,t,k,z,L⟩:=s;simp only at c b;subst c b;obtain⟨g,v,p,q,r⟩:=e;refine .jN (v:=v) p (λh d=> ?_) ?_
 .obtain⟨n,w,c⟩:=(OH).2 u xQ i;obtain⟨b,e⟩:=c _ _ q;have x:n=0:=by
   have:((World.tp u xQ i)).drawn=((World.tp w xQ<|i+n)).drawn:=by rw[<-b]
   simp only[World.tp]at this;omega
  subst x;have y:(World.tp w h d)=(World.tp u h d):=by
   have a:((World.tp u xQ i)).heap=((World.tp w xQ<|i+0)).heap:=by rw[<-b]
   have j:((World.tp u xQ i)).os=((World.tp w xQ<|i+0)).os:=by rw[<-b]
   have l:((World.tp u xQ i)).output=((World.tp w xQ<|i+0)).output:=by rw[<-b]
   simp only[World.tp]at a j l|-;rw[a,j,l]
  have:=e h d (λa j=>by omega);rwa[show d+0=d from rfl,y]at this
 .have:=m v _ u.tape u.drawn<|o v _ r;exact this
structure J4 where
 s:St
 u:Æ
 D:Nat
 T:ψ
 n:Nat
structure J5(P:Õ)(GL:Nat->Prop)(e8:à->Prop)(kr:Â->Æ->Prop)(s0:St)(u0:Æ)(x:J4):Prop where
 ok:Ok P GL e8 x.s
 afY:qO x.u
 afZ:¬qa P kr x.s x.u
 oS:∀T',(∀i,i<x.D->T' i=x.T i)->dy P x.n (LM s0<|(World.tp u0 T' 0))=ň (LM x.s<|(World.tp x.u T' x.D))
def Xf{m:bR}{s:St}{N:Nat}(a:dy P n m=ň (LM s u))(e:mV P vQ N m):∃k,N=n+k/\mV P vQ k (LM s u):=by
 by_cases f:n<=N
 .obtain⟨k,rfl⟩:=Ε f;refine⟨k,U,?_⟩;let⟨g,v,c,b,d⟩:=e;rw[dL,a]at b;exact⟨g,v,c,b,d⟩
 .obtain⟨k,rfl⟩:=Nat.exists_eq_add_of_lt<|Nat.lt_of_not_le f;let⟨g,v,c,b,d,_⟩:=e;rw[show N+k+1=N+(k+1) by omega,dL,b]at a;simp only[dy,step_leave_returned d]at a;cases k with
  |zero=>
   simp only[dy,Stepped.next.injEq]at a;have:=(Xd a).2.1;simp[fx]at this
  |succ k=>
   simp only[dy,(J3 (P:=P) (fr:=qc) (cs:=[]) (w:=c) (es:=#[])<|by simp[G,Ù,Ì,qc];exact⟨U,U⟩)]at a;cases a
theorem OL(f:pw P GL e8)(hF:uh P e8)(t:xl kr)(C:∀v u,vQ v u->kt u)(E:∀v u,vQ v u->kr v u){j:St}(F:∀T,∃n,mV P vQ n<|LM j<|(World.tp w T 0)){x:J4}(G:J5 P GL e8 kr j w x): ∃y:J4,J5 P GL e8 kr j w y/\y.n=x.n+1/\x.D<=y.D/\∀i,i<x.D->y.T i=x.T i:=by
 let⟨s,u,D,T,n⟩:=x;let⟨ok,pend,l,q⟩:=G;simp only at ok pend l q;have H:∃y d,∀a g,LS P s ((World.tp u y d)) a g->Di u g->¬qa P kr a g:=by
  refine Classical.byContradiction λo=>l ?_;have c:∀y d,∃p:St×World,LS P s ((World.tp u y d)) p.1 p.2/\Di u p.2/\qa P kr p.1 p.2:=by simp_all
  exact .jA (λy d=>(Classical.choose<|c y d).1) (λy d=>(Classical.choose<|c y d).2) (λy d=>(Classical.choose_spec<|c y d).1) (λy d=>(Classical.choose_spec<|c y d).2.1) λy d=>(Classical.choose_spec<|c y d).2.2
 let⟨y,d,I⟩:=H;let p:ψ:=λi=>if i<D then T i else y (d+(i-D))
 have r:∀i,i<D->p i=T i:=λi h=>if_pos h;have J:=λi=>by show(if D+i<D then T (D+i)else y (d+(D+i-D)))=y (d+i);grind
 let⟨N,K⟩:=F p;let⟨k,_,L⟩:=Xf (q p r) K;have b:qO ((World.tp u p D)):=pend;rcases L.I f hF ok b with⟨_,M,O,S⟩|⟨m,a,g,_,e,V⟩
 .exact absurd (Xe t E M O S) l
 .obtain⟨c,v,rfl,z⟩:=e.afW ok.r;have W:¬qa P kr a v:=λX=>I a _ (z y d λi _=>(J i).symm) (λi o _ B=>(mV.gU f hF C m (e.OJ f ok) ((e.kd ok.r b).r b) V) i o B)<|X.afX t y<|d+c;refine⟨⟨a,v,D+c,p,n+1⟩,⟨e.OJ f ok,(e.kd ok.r b).r b,W,λo B=> ?_⟩,U,fl,r⟩;rw[dL,(q o λi h=>(B i<|by simp only;omega).trans<|r i h)];simp only[dy,(z o D λi h=>B (D+i)<|by simp only;omega).vH]
theorem af0(b:pw P GL e8)(hF:uh P e8)(c:xl kr){Q:Â->Æ->Prop}(g:∀v u,Q v u->kt u)(d:∀v u,Q v u->kr v u){a:St}(ok:Ok P GL e8 a)(q:qO w)(f:∀T,∃n,mV P Q n<|LM a<|(World.tp w T 0)):qa P kr a w:=by
 refine Classical.byContradiction λr=> ?_;have s:J5 P GL e8 kr a w ⟨a,w,0,λ_ _=>0,0⟩:=⟨ok,q,r,λI _=>rfl⟩;let F:Nat->{x:J4//J5 P GL e8 kr a w x}:=λk=>Nat.rec ⟨_,s⟩ (λ_ x=>⟨Classical.choose<|OL b hF c g d f x.2,(Classical.choose_spec<|OL b hF c g d f x.2).1⟩) k
 have l:=λk=>(Classical.choose_spec<|OL b hF c g d f (F k).2).2;have t:∀k,(F k).1.n=k:=by
  intro k
  induction k with
  |zero=>rfl
  |succ k e=>rw[(l k).1,e]
 have J:∀j k,(F j).1.D<=(F<|j+k).1.D/\∀i,i<(F j).1.D->(F<|j+k).1.T i=(F j).1.T i:=by
  intro j k
  induction k with
  |zero=>exact⟨ß _,λ_ _=>rfl⟩
  |succ k e=>
   have:=(l<|j+k).2;exact⟨õ e.1 this.1,λi m=>(this.2 i<|Ô m e.1).trans<|e.2 i m⟩
 have K:∀j k i,i<(F j).1.D->i<(F k).1.D->(F j).1.T i=(F k).1.T i:=by intro j k i e o;rcases Nat.le_total j k with h|h;all_goals grind [Ε]
 let T:ψ:=λi=>open Classical in if h:∃k,i<(F k).1.D then(F<|Classical.choose h).1.T i else λ_=>0
 have y:∀k i,i<(F k).1.D->T i=(F k).1.T i:=by intro k i m;have e:∃k,i<(F k).1.D:=⟨k,m⟩;show(open Classical in if h:∃k,i<(F k).1.D then(F<|Classical.choose h).1.T i else λ_=>0)=_;rw[dif_pos e];grind
 let⟨N,z⟩:=f T;have p:=(F N).2.oS T<|y N;rw[t N]at p;let⟨k,e,o⟩:=Xf p z;have B:k=0:=Z
 subst B;have C:qO ((World.tp (F N).1.u T<|(F N).1.D)):=(F N).2.afY;rcases o.I b hF (F N).2.ok C with⟨_,E,G,H⟩|⟨m,_,_,e,_⟩
 .exact(F N).2.afZ<|Xe c d E G H
 .cases e
end
section
variable{m:à->Prop}
def OM(f:à)(b:Func)(c:ak)(a:Array Â):St:=⟨f,a++ĺ (b.ntmps-a.size) ľ,[Đ c],Ã,[]⟩
def Xg(a:Array Â)(b:P.funcs[F]?=À s)(d:s.body=À wX):dM P F a .normal=(OM F s wX a).I:=cI a b d
def af2(b:pw P X m)(hF:uh P m)(l:xl vQ)(g:m F)(j:P.funcs[F]?=À s)(k:s.body=À wX)(o:kt u) (p:∀T,Calls P F d ((World.tp u T 0)) fun|.returned v,u'=>vQ v u'/\kt u'|_,_=>False):qa P vQ (OM F s wX d) u:=by
 refine af0 b hF l (Q:=λv u=>vQ v u/\kt u) (λv u h=>h.2) (λv u h=>h.1) ⟨⟨λi q=> ?_,λx h=>by cases h⟩,g,λx h=>by cases h⟩ o.qO λT=> ?_
 .rw[ū.1 q];exact .rJ (b F g s wX j k)
 .let⟨e,r,t,a,w,_,y⟩:=p T [qc];cases e with
  |returned v=>
   let⟨n,z⟩:=w;refine⟨n,t,v,r,?_,y,a⟩;rw[<-z,Xg d j k];rfl
  |panicked n=>exact a.elim
  |outgrown=>exact a.elim
def af3(r:nV P)(b:pw P X m)(hF:uh P m)(t:xl vQ)(n:m F)(e:P.funcs[F]?=À s)(h:s.body=À wX)(y:kt u) (z:∀T,Calls P F d ((World.tp u T 0)) fun|.returned v,u'=>vQ v u'/\kt u'|_,_=>False) {Y:fw} {a o:Nat->Prop} (B:Y.C=P.globals.size) (C:∀g,X g->Y g g) (p:fT Y d q) (D:rK Y a u w) (E:∀j,a j->j<w.heap.size) (H:∀i j,Y i j->a j->o j) (main:Bool) (k:Ę) (l:List Ę): vF P main o (Gp Y a vQ k l) (fq Y a) (G (dM P F q .normal)<|k::l) w:=by
 have:=(af2 b hF t n e h y z).OG (main:=main) r b (Y:=Y) (Gq:=Y) (s':=OM F s wX q) (fw.M _) B C ⟨U,?_,U,U,.pn⟩ ⟨λi I=> ?_,λx J=>by cases J⟩ D E H k l
 .rw[Xg q e h];exact this
 .show fT Y (d++_) (q++_);rw[p.r];exact p.tW<|W8 _
 .rw[ū.1 I];exact .rJ (b F n s wX e h)
def yU:Â->Bool
 |Ľ _|Ć _ _|ħ _|Þ ë|bS ë _ _|bT|aW|eu ë|.map ë=>É
 |_=>Ã
def ON:Â->Bool
 |.agg a=>a.all yU
 |ſ a=>a.all yU
 |v=>yU v
def Gr(h:yU v=É):jU v:=by
 cases v with
 |bool b=>exact .mG b
 |int k n=>exact .iG k n
 |string s=>exact .ko s
 |pointer p=>cases p with
  |none=>exact .lW
  |some a=>cases h
 |slice p n c=>cases p with
  |none=>exact .oz n c
  |some a=>cases h
 |nilFunc=>exact .vv
 |nilIface=>exact .vw
 |chan p=>cases p with
  |none=>exact .vx
  |some a=>cases h
 |map p=>cases p with
  |none=>exact .vy
  |some a=>cases h
 |_=>cases h
def af4(h:ON v=É):jU v:=by
 cases v with
 |agg b=>exact .oO λi a=>Gr<|(Ń.1 h) i a
 |tuple b=>exact .nT λi a=>Gr<|(Ń.1 h) i a
 |_=>exact Gr h
def xm(X:Nat->Bool):Ö->Bool
 |.tmp _=>É
 |dZ v=>ON v
 |ez g=>X g
 |aO _=>É
theorem J6{g:Nat->Bool}(h:xm g qQ=É):mH (λj=>g j=É) qQ:=by
 cases qQ with
 |tmp t=>exact .W0 t
 |const v=>exact .W3 (af4 h)
 |global j=>exact .W4 h
 |func f=>exact .W5 f
def OO(P:Õ)(t:Á):Bool:=match P.underlying t with
 |some .bool=>É
 |some (Β _)=>É
 |some ę=>É
 |_=>Ã
def af5(h:OO P t=É):tX P t:=by
 unfold OO at h;split at h
 .rename_i e;exact Ç e
 .rename_i k e;exact Î<|Ç ⟨k,e⟩
 .rename_i e;exact Î<|Î e
 .cases h
def J7:Ö->Bool
 |dZ (Þ ë)=>É
 |_=>Ã
def Xh(h:J7 qQ=É):np (y.eval qQ):=by
 unfold J7 at h;split at h
 .trivial
 .cases h
def OP(P:Õ)(t:Á)(x y:Ö):Bool:=OO P t||((match P.underlying t with|some (ð _)=>É|_=>Ã)&&(J7 x||J7 y))
theorem af6{a:bF}{y:Ö}(h:OP P t qQ y=É):tX P t\/((∃e,P.underlying t=À (ð e))/\(np (a.eval qQ)\/np (a.eval y))):=by
 unfold OP at h;rcases Ŝ.1 h with h|h
 .exact Ç<|af5 h
 .let⟨b,e⟩:=Ü.1 h;refine Î ⟨?_,(Ŝ.1 e).imp Xh Xh⟩;grind
def OQ(P:Õ)(s d:Á):Bool:=match P.underlying s,P.underlying d with
 |some (Β _),À (Β _)=>É
 |some ę,À ę=>É
 |_,_=>Ã
theorem af7(h:OQ P e t=É):(∃k a,P.underlying e=À (Β k)/\P.underlying t=À (Β a))\/(P.underlying e=À ę/\P.underlying t=À ę):=by unfold OQ at h;grind
def OS(P:Õ)(s:Á)(n:Nat):Bool:=match P.underlying s with
 |some (di fields)=>match fields[n]? with
  |some f=>match P.info? f.type with
   |some i=>i.size !=0
   |none=>Ã
  |none=>Ã
 |_=>Ã
def af8(h:OS P e n=É):∀a f i,P.underlying e=À (di a)->a[n]?=À f->P.info? f.type=À i->i.size≠0:=by intro a f i b c d;simp only[OS,b,c,d]at h;simpa using h
def OT(P:Õ)(m:à->Bool)(f:à):Bool:=m f&&(match P.funcs[f]? with
 |some a=> !(a.name== "runtime.NumGoroutine")&&!a.body.isNone
 |none=>Ã)
theorem Xi{g:à->Bool}(h:OT P g F=É):g F=É/\∃a,P.funcs[F]?=À a/\(a.name== "runtime.NumGoroutine")=Ã/\a.body.isNone=Ã:=by let⟨b,c⟩:=Ü.1 h;grind
def Xj(P:Õ):List Á->Bool
 |[_,t1]=>(match P.underlying t1 with|some (dj _)=>É|some ę=>É|_=>Ã)
 |_=>Ã
def Xk(P:Õ)(m:à->Bool)(b:Callee)(a:List Ö)(c:List Á):Bool:=match b with
 |ĝ .len=>a.length==1
 |ĝ .cap=>a.length==1
 |ĝ .copy=>a.length==2
 |ĝ .append=>a.length==2&&Xj P c
 |cj (aO f)=>OT P m f
 |_=>Ã
def Dr(P:Õ)(m:à->Bool):Op->Bool
 |.move _|.assign _|.pick _ _ _|.alloc _|.box _ _|.build _ _|dF _ _ _|.load _ _|.store _ _ _|eD _|.unOp _ _ _|dW _ _ _|.slice _ _ _ _ _|.field _ _ _|dY _ _ _|.index _ _ _|.extract _ _=>É
 |dV c t x y _=>if c==aA||c==aL then OP P t x y else É
 |aN s d _=>OQ P s d
 |dX s _ n=>OS P s n
 |Ω c=>Xk P m c.callee c.args.toList c.argTypes.toList
 |_=>Ã
def J8{a:Array Ö}(h:(a.toList.length==1)=É):∃x,a=#[x]:=by
 let⟨l⟩:=a;match l,h with
 |[x],_=>exact⟨x,U⟩
def OU{a:Array Ö}(h:(a.toList.length==2)=É):∃x y,a=#[x,y]:=by
 let⟨l⟩:=a;match l,h with
 |[x,y],_=>exact⟨x,y,U⟩
def af9{g:à->Bool}{k:Op}(h:Dr P g k=É)(a:bF):kq P a.eval k:=by
 cases k with
 |binOp o t x y r=>
  refine .Dk o t x y r λe=> ?_;have:(o==aA||o==aL)=É:=by rcases e with rfl|rfl<;>rfl
  simp only[Dr,if_pos this]at h;exact af6 h
 |convert s d x=>exact .Od _ _ _ (af7 h)
 |fieldAddr s x n=>exact .Og _ _ _ (af8 h)
 |call c=>
  let⟨z,B,j⟩:=c;simp only[Dr]at h;unfold Xk at h;split at h
  .obtain⟨x,rfl⟩:=J8 h;exact .F9 x j
  .obtain⟨x,rfl⟩:=J8 h;exact .Gb x j
  .obtain⟨x,y,rfl⟩:=OU h;exact .Gc x y j
  .let⟨q,f⟩:=Ü.1 h;obtain⟨x,y,rfl⟩:=OU q;let⟨l⟩:=j;match l,f with
   |[t0,t1],f=>
    refine .tW x y t0 t1 ?_;simp only[Xj]at f;split at f
    .rename_i e m;exact Ç ⟨e,m⟩
    .rename_i m;exact Î m
    .cases f
  .exact .jM _ _ _ U (Xi h).2
  .cases h
 |move x=>exact .wY x
 |assign x=>exact .F7 x
 |pick c a b=>exact .wZ c a b
 |alloc t=>exact .gK t
 |box t x=>exact .N9 t x
 |build t p=>exact .Oa t p
 |buildSlice t n p=>exact .Ob t n p
 |load t a=>exact .gB t a
 |store t a x=>exact .jf t a x
 |nilCheck x=>exact .F8 x
 |unOp o t x=>exact .Oc o t x
 |makeSlice t l c=>exact .Oe t l c
 |slice t x u v w=>exact .kP t x u v w
 |field t x n=>exact .Oh t x n
 |indexAddr t x i=>exact .Oi t x i
 |index t x i=>exact .Oj t x i
 |extract x n=>exact .FY x n
 |_=>simp[Dr]at h
def OV(P:Õ)(X:Nat->Bool)(m:à->Bool)(o:av):Bool:=Dr P m o.op&&o.op.operands.all (xm X)
def aga{X:Nat->Prop}{m:à->Prop}{o:av}(op:∀a:bF,kq P a.eval o.op)(opd:∀x∈o.op.operands,mH X x)(calls:∀f args ts,o.op=Ω {callee:=cj<|aO f,args:=args,argTypes:=ts}->m f):mT P X m o where
 mU hz hb hG ht hW hl x u' hr hc:=(V2 hz hW.C hb (λf=>rfl) (op _) λx hx=>xj hG ht<|opd x hx).gl hW hl hr hc #[];r a:=afK<|op a;I a u n u' hr:=afU (op a) hr;C a u f c u' hr:=let⟨as,ts,e⟩:=afP (op a) hr;calls f as ts e
theorem agb{g:Nat->Bool}{k:à->Bool}(h:OV P g k o=É):mT P (λj=>g j=É) (λf=>k f=É) o:=by
 let⟨j,b⟩:=Ü.1 h;refine aga (λa=>af9 j a) (λx a=>J6 ?_) λf a x e=> ?_
 .grind [ŉ]
 .rw[e]at j;exact(Xi<|show OT P k f=É from j).1
end
section
variable{Y:fw}{g:à->Prop}{α:Type}
def Ds(m:(Ö->Â)->ē Â)(e:∀b,ì b o=m b>>=λv=>pure<|ï v) (i:∀(Y:fw) (b h:Ö->Â),nV P->Bi Y->Y.C=P.globals.size->(∀x∈o.op.operands,fp Y (b x)<|h x)->kQ P fp Y (m b) (m h)) (j:∀b,fE P<|m b) (k:∀x∈o.op.operands,mH X x):mT P X g o where
 mU hz hb hG ht hW hl x u' hr hc:=by rw[e]at hr|-;exact(VW<|i _ _ _ hz hW.C hb λx d=>xj hG ht<|k x d).gl hW hl hr hc #[]
 r a:=by rw[e];exact lZ<|j _
 I a u n u' hr:=by
  rw[e,Ä]at hr;cases d:(m a.eval).run P u with
  |ok v w=>rw[d]at hr;cases hr;exact Ç ⟨v,U⟩
  |halt z w=>rw[d]at hr;cases hr
 C a u f c u' hr:=by
  rw[e,Ä]at hr;cases d:(m a.eval).run P u with
  |ok v w=>rw[d]at hr;cases hr
  |halt z w=>rw[d]at hr;cases hr
theorem agc(a:o.op=cJ t qQ)(b:∀y∈o.op.operands,mH X y):mT P X g o:=by
 refine Ds (λd=>ŝ t<|d qQ) (λd=> ?_) (λY d c _ _ _ h=> .gu ?_) (λd=> ?_) b
 .unfold ì;rw[a]
 .unfold ŝ;apply fF (je t);rintro e d _ c ⟨rfl,_⟩;split
  .exact .fS
  .exact .fD (.yJ t ((h qQ<|by rw[a];simp[Ê]).fR c))
 .unfold ŝ;grind [gG,jg,rG,gq]
theorem agd(c:Sys):oQ P (sys c):=by
 intro u hu;refine⟨λx u' e=> ?_,λz u' e=>by cases e⟩;have:u'.heap=u.heap:=by
  simp only[sys,ã]at e;cases e;unfold World.sys;have ask:∀{γ:Type} (b:Ask γ) (w:Æ),(w.ask b).2.heap=w.heap:=by
   intro γ b
   induction b with
   |done a=>intro w;rfl
   |ask what range k ih=>
    intro w;simp only[World.ask];split
    .exact ih 0 w
    .exact ih _ _
  grind
 exact⟨λh i c e he=>h i c e (by rwa[<-this]),λi o he ho=>⟨o,by rwa[this],ho⟩⟩
theorem Xl(x:Â):∀u y a,(ż x).run P u≠ĥ y a:=by
 unfold ż;cases x<;>simp only[]<;>first|exact N8|skip
 grind [F4,VK,rE]
def agf(x:Â):fE P (ż x):=by
 refine⟨?_,On<|Xl x⟩;unfold ż;cases x<;>simp only[]<;>first|exact Gf U|skip
 refine JH ?_ λa=> ?_
 .unfold Instr.panicnil;refine JH (agd _) λr=> ?_;cases r<;>first|exact Gf U|skip
  exact JH V4 λ_=>V3 _
 .split
  .exact Gf U
  .exact(w7 _).1
def agh(b:o.op=.panic qQ)(c:∀y∈o.op.operands,mH X y):mT P X g o:=by refine Ds (λa=>ż<|a qQ) (λa=> ?_) (λY a d _ _ _ h=> .gu (.oP (Xl _))) (λa=>agf _) c;unfold ì;rw[b]
def agi(c:fp Y x v)(d:fp Y z jQ):fI P fp Y (Ĳ x z) (Ĳ v jQ):=by
 cases c<;>cases d<;>first|exact .fS|exact .fD (.iG _ _)|skip
 refine fF (V:=fp) (.fD (.mG _)) λf a g _ e=> ?_;apply fF (VI e);rintro h b _ _ rfl;exact .fD (.ko _)
def agj(x y:Â):fE P (Ĳ x y):=by unfold Ĳ;repeat' (first|(with_reducible first|exact gG _|exact jg _|exact sS _|exact JP _|exact OD _ _ _|refine gq ?_ (λ_=> ?_)|refine nt _ ?_)|split|rfl)
def agk:∀{l b:List Â} {Y:fw} {x c:Â},fp Y x c->fT Y l.toArray b.toArray->fI P fp Y (l.foldlM Ĳ x) (b.foldlM Ĳ c):=by
 intro l
 induction l with
 |nil=>
  intro b Y x c d a;have:b=[]:=by have:=a.r;simp at this;exact Ā this.symm
  subst this;rw[ζ,ζ];exact .fD d
 |cons v l e=>
  intro b Y x c d a;match b,a with
  |[],a=>have:=a.r;simp at this
  |v'::b,a=>
   rw[Ζ,Ζ];refine fF (agi d (by have:=a.C 0 fl fl;simpa using this)) ?_;intro k y m f g;refine e g ⟨by have:=a.r;simpa using this,λj h i=> ?_⟩;have:=a.C (j+1) (by simp at h|-;omega) (by simp at i|-;omega);exact(by simpa using this:fp Y _ _).fR f
theorem Xm:∀(l:List Â) (x:Â),fE P<|l.foldlM Ĳ x
 |[],x=>by rw[ζ];exact gG _
 |v::l,x=>by rw[Ζ];exact gq (agj _ _) λy=>Xm l y
def agl(a:Array Á)(t:Á)(h:fT Y d q):fI P fp Y (ń a t d) (ń a t q):=by
 let⟨l⟩:=d;let⟨b⟩:=q;unfold ń;match l,b,h with
 |[],_,_=>exact .fS
 |v::l,[],h=>have:=h.r;simp at this
 |v::l,v'::b,h=>
  refine agk (by have:=h.C 0 fl fl;simpa using this) ⟨by have:=h.r;simpa using this,λj e f=> ?_⟩;have:=h.C (j+1) (by simp at e|-;omega) (by simp at f|-;omega);exact(by simpa using this:fp Y _ _)
theorem agm(a:Array Á)(t:Á)(c:Array Â):fE P (ń a t c):=by let⟨l⟩:=c;unfold ń;grind [jg,Xm]
def agn{b:Array Ö}{c:Array Á}(d:o.op=Ω {callee:=ĝ .min,args:=b,argTypes:=c})(e:∀y∈o.op.operands,mH X y):mT P X g o:=by refine Ds (λa=>ń c o.type<|b.map a) (λa=> ?_) (λY a i _ _ _ h=> .gu (agl _ _<|VZ b λz f=>h z<|by rw[d];simp[Ê,ô,f])) (λa=>agm _ _ _) e;unfold ì;rw[d];simp only[ù,č,Ē,pure_bind]
def agp{β:Type}{f g:Â->β->ē (ForInStep β)}(k:∀a v e b,Y.r a->fp a v e->fI P jv a (f v b) (g e b)):∀{l d:List Â} {a:fw} (b:β),Y.r a->fT a l.toArray d.toArray->fI P jv a (forIn l b f) (forIn d b g):=by
 intro l
 induction l with
 |nil=>
  intro d a b _ c;have:d=[]:=by have:=c.r;simp at this;exact Ā this.symm
  subst this;rw[φ,φ];exact .fD U
 |cons v l m=>
  intro d a b h c;match d,c with
  |[],c=>have:=c.r;simp at this
  |e::d,c=>
   rw[η,η];refine fF (k a v e b h (by have:=c.C 0 fl fl;simpa using this)) ?_;rintro p r _ i rfl;cases r with
   |done b=>exact .fD U
   |yield b=>
    apply m b (fw.I h i);refine⟨by have:=c.r;simpa using this,λj n o=> ?_⟩;have:=c.C (j+1) (by simp at n|-;omega) (by simp at o|-;omega);exact(by simpa using this:fp a _ _).fR i
theorem Xn{β:Type}{f:Â->β->ē (ForInStep β)}(a:∀v b,fE P<|f v b):∀(l:List Â) (b:β),fE P<|forIn l b f
 |[],b=>by rw[φ];exact gG _
 |v::l,b=>by
  rw[η];refine gq (a v b) λr=> ?_;cases r with
  |done b=>exact gG _
  |yield b=>exact Xn a l b
def agq(d:fp Y x v):fI P fp Y (ü x) (ü v):=by
 cases d<;>first|exact .fS|exact .fD (.ko _)|skip
 rename_i h n c;unfold ü;apply fF (N0 h n);intro e j l m f;simp only[<-aE];refine fF (agp (Y:=e) ?_ _ (fw.M _) f) ?_
 .intro g a o b _ i;cases i<;>first|exact .fS|skip
  rename_i k n;cases k<;>first|exact .fS|exact .fD U
 .rintro g s _ _ rfl;exact .fD (.ko _)
theorem agr(x:Â):fE P (ü x):=by
 unfold ü;split
 .exact gG _
 .refine gq (Ow _ _) λa=> ?_;simp only[<-aE];grind [gq,Xn,gG,jg]
 .exact jg _
theorem agt(i:o.op=aN t T qQ)(k:P.underlying t=À (dj e))(l:P.underlying T=À ę)(m:P.underlying e=À (Β .u8))(n:∀y∈o.op.operands,mH X y):mT P X g o:=by
 refine Ds (λa=>Œ t T<|a qQ) (λa=> ?_) (λY a f _ _ _ h=> .gu ?_) (λa=> ?_) n
 .unfold ì;rw[i]
 .unfold Œ;refine fF (je t) ?_;rintro z B _ p ⟨rfl,b⟩;rw[k]at b;injection b with b;subst b;refine fF (je T) ?_;rintro q C _ r ⟨rfl,c⟩;rw[l]at c;injection c with c;subst c;have j:=((h qQ<|by rw[i];simp[Ê]).fR p).fR r;have u:fI P fp q (ø e>>=λy=>match y with|Β .u8=>ü (a qQ)|Β .i32=>aF (a qQ)|_=>stuck "Convert: a slice of what to string?") (ø e>>=λy=>match y with|Β .u8=>ü (f qQ)|Β .i32=>aF (f qQ)|_=>stuck "Convert: a slice of what to string?"):=by
   apply fF (je e);rintro D E _ w ⟨rfl,h⟩;rw[m]at h;injection h with h;subst h;exact agq<|j.fR w
  generalize a qQ=v at*;generalize f qQ=v' at*;cases j<;>first|exact u|exact .fS|exact .fD (.ko _)|skip
 .unfold Œ;grind [xa,agr,WX,gG]
end
section
variable{Y:fw}{b:à->Prop}{α:Type}
def Xo(i:∀(Y:fw) (a g:bF),nV P->Bi Y->Y.C=P.globals.size->(∀x∈o.op.operands,fp Y (a.eval x)<|g.eval x)->kQ P po Y (ì a.eval o) (ì g.eval o)) (j:∀a:bF,fE P<|ì a.eval o) (h:∀(a:bF) (u:Æ) (n:Ο) (d:Æ),(ì a.eval o).run P u=ĥ n d->∃v,n=ï v) (k:∀x∈o.op.operands,mH X x):mT P X b o where
 mU hz hb hG ht hW hl x d hr hc:=(i _ ⟨_,[]⟩ ⟨_,[]⟩ hz hW.C hb λx e=>xj hG ht<|k x e).gl hW hl hr hc #[];r a:=j a;I a u n d hr:=Ç<|h a u n d hr;C a u f c d hr:=by let⟨v,e⟩:=h a u _ d hr;cases e
def agu{e:Array Â->ē Â}{k:Array Á}(g:o.op=Ω {callee:=cj<|aO F,args:=#[qQ],argTypes:=k})(l:P.funcs[F]?=À s)(m:(s.name== "runtime.NumGoroutine")=Ã)(q:s.body.isNone=É)(r:Extern.findNext s=ë)(t:Extern.find s=À e) (B:∀(Y:fw) (v i:Â),fp Y v i->fI P fp Y (e #[v]) (e #[i])) (C:∀v,fE P<|e #[v]) (D:∀y∈o.op.operands,mH X y):mT P X b o:=by
 have c:∀a:bF,ì a.eval o=ĵ F #[a.eval qQ]:=by intro a;unfold ì;rw[g];simp only[ù,å,İ,č,pure_bind,Ď,ď,Ø,â,ä]
 have j:∀(v:Â) (u:Æ),(ĵ F #[v]).run P u=(mark (.extern F)>>=λ_=>e #[v]>>=λy=>pure (ï y):ē Ο).run P u:=by intro v u;unfold ĵ;simp_all
 refine Xo (λY a w _ _ _ h=> ?_) (λa=> ?_) (λa u n E d=> ?_) D
 .rw[c,c];unfold ĵ;refine .gu (fF rB ?_);rintro I p J w ⟨z,G⟩;rw[z,G];simp only[l,m,q,r,t,Å,if_false,if_true];apply fF (V:=jv) (.Dc (Î ⟨F,U⟩) (.fD U));exact λK _ _ H _=>mS<|B _ _ _<|((h qQ<|by rw[g];simp[Ê,ô]).fR w).fR H
 .rw[c];exact JK (j _)<|gq (Gi _) λ_=>lZ<|C _
 .rw[c,j,Ä]at d;simp only[mark,ã,È]at d;have:ã P (e #[a.eval qQ]>>=λy=>pure (ï y):ē Ο) u=ĥ n E:=d;rw[Ä]at this;cases h:(e #[a.eval qQ]).run P u with
  |ok v w=>rw[h]at this;cases this;exact⟨v,U⟩
  |halt z w=>rw[h]at this;cases this
def agv(x a:Â)(h:fp Y x a):fI P fp Y (Ŀ #[x]) (Ŀ #[a]):=.fD h
def agw(x:Â):fE P (Ŀ #[x]):=gG _
def Xp:∀(n t:Nat) {c a:Array Â},fT Y c a->fT Y (ņ n t c) (ņ n t a)
 |0,_,_,_,h=>h
 |n+1,t,_,_,h=>Xp n (t/256)<|h.Vy<|.iG _ _
def agx(b:Array Á)(t:Á)(v c:Â)(h:fp Y v c):fI P fp Y (Ċ b #[t] #[v]) (Ċ b #[t] #[c]):=by
 cases h<;>first|exact .fS|skip
 rename_i k n;cases k<;>first|exact .fS|skip
 refine fF (je t) ?_;rintro j d _ l ⟨rfl,_⟩;cases d<;>first|exact .fS|skip
 rename_i e _;simp only[];split
 .exact .oP (wT<|rE _)
 .apply sP (.AQ λn=> .fD U);intro m f _;apply sP (N7 _);intro o _ _;apply sP (.AQ λn=> .fD U);intro p g _;apply fF (AT e<|Xp f g<|fT.N _);exact λq a r _ i=> .fD (.kP i _ _)
def agy(a:Array Á)(t:Á)(v:Â):fE P (Ċ a #[t] #[v]):=by
 cases v<;>first|exact jg _|skip
 rename_i k n;cases k<;>first|exact jg _|skip
 refine gq (rG t) λd=> ?_;cases d<;>first|exact jg _|skip
 repeat' (first|(with_reducible first|exact gG _|exact jg _|exact sS _|exact Gk _ _|exact rG _|exact w7 _|exact Ox _|refine gq ?_ λ_=> ?_)|split)
def agz(f:Array Á)(t:Á)(j:fp Y x v):kQ P fp Y (ė f t #[x]) (ė f t #[v]):=by
 cases j<;>first|exact .gu .fS|exact .gu (.fD .lW)|skip
 rename_i a g h n c;change kQ P fp Y (ite _ _ _) (ite _ _ _);by_cases i:c≠0
 .simp only[if_pos i];exact .gu (.fD (.jT h))
 .simp only[if_neg i];apply lj (JC h.1);rintro l b m o ⟨rfl,rfl⟩;simp only[Option.isSome_none,Å,if_false];refine lj (V0:=λ_ a g=>a=g) ?_ ?_
  .unfold Ū;refine fF (je t) ?_;rintro k d _ p ⟨rfl,_⟩;cases d<;>first|exact .fS|exact .fD U
  .rintro k e _ _ rfl;exact .Dg trivial
def agA(b:Array Á)(t:Á)(x:Â):fE P (ė b t #[x]):=by
 cases x<;>first|exact jg _|skip
 rename_i p n c;cases p with
 |none=>exact gG _
 |some a=>
  change fE P (ite _ _ _);repeat' (first|(with_reducible first|exact gG _|exact jg _|exact JL _|exact JQ _|refine gq ?_ (λ_=> ?_)|refine JJ _ ?_)|split|(intro _ _ h;cases h;done))
def agB{c:Array Á}(d:o.op=Ω {callee:=ĝ bl,args:=#[qQ],argTypes:=c})(e:∀y∈o.op.operands,mH X y):mT P X b o:=by refine Ds (λa=>ė c o.type #[a qQ]) (λa=> ?_) (λY a f _ _ _ h=>agz _ _<|h qQ<|by rw[d];simp[Ê,ô]) (λa=>agA _ _ _) e;unfold ì;rw[d];simp only[ù,č,Ē,pure_bind,Ø,â,ä]
end
section
variable{Y:fw}{f:Nat->Prop}{g:à->Prop}{α:Type}
def Xq(h:hD Y a p):fI P hD Y (Ž a) (Ž p):=by unfold Ž;apply fF (JC h.1);rintro c x d b ⟨rfl,rfl⟩;exact .fD (h.r b)
def agC{r:Nat}(h:Y r i):fI P (λ_ c q=>∃n a,c=À n/\q=À a/\n<=a) Y (dz r) (dz i):=.vz h λ_ n a c=> .fD ⟨n,a,U,U,c.elim (λq=>by omega) λq=>q.1⟩
def Xr(h:hD Y a p)(t:Á)(n:Nat):fI P (λ_ b e=>b=É->e=É) Y (Ą a t n) (Ą p t n):=by unfold Ą;apply fF rB;rintro i b j c ⟨d,f⟩;rw[d,f];refine .vz (c.1 _ _ h.1) λe m k g=> ?_;rw[h.2.1];exact .fD λq=>VQ (ο<|g.elim (λq=>by omega) λq=>q.1) q
def agD(a:Ú):fE P (Ž a):=by unfold Ž;repeat' (first|(with_reducible first|exact gG _|exact qP|exact tY _|exact JQ _|refine gq ?_ (λ_=> ?_)|refine nt _ ?_)|split|rfl)
theorem agE(r:Nat):fE P (dz r):=by unfold dz;grind [gG,tY,Wb,gq]
theorem Xs(a:Ú)(t:Á)(n:Nat):fE P (Ą a t n):=by unfold Ą;grind [gG,qP,tY,gq]
theorem agF(l:P.underlying e=À (ð t))(m:P.underlying T=À đ)(o:fp Y x v):kQ P fp Y (ö e T x) (ö e T v):=by
 unfold ö;refine lj (je e) ?_;rintro z B _ p ⟨rfl,f⟩;rw[l]at f;injection f with f;subst f;refine lj (je T) ?_;rintro C D _ q ⟨rfl,g⟩;rw[m]at g;injection g with g;subst g;have r:=(o.fR p).fR q;cases r<;>first|exact .gu .fS|exact .gu (.fD .lW)|skip
 rename_i a E h;refine lj (Xq h) ?_;intro F b j G i;refine lj (agC i.1) ?_;rintro H c I u ⟨w,J,rfl,rfl,K⟩;refine lj (nn t) ?_;rintro L n _ y ⟨rfl,_⟩;rw[i.2.1,i.2.2];simp only[];by_cases k:(decide (n=0)||(decide (j.off≥w)&&j.spot.isNone))=É
 .rw[if_pos k];exact .Dg trivial
 .rw[if_neg k,if_neg]
  .exact .gu (.fD (.jT ((i.r u).r y)))
  .grind
theorem agG{d:Á}(l:P.underlying T=À đ)(o:P.underlying d=À (ð t))(q:fp Y x z):kQ P fp Y (ö T d x) (ö T d z):=by
 unfold ö;refine lj (je T) ?_;rintro F G _ r ⟨rfl,f⟩;rw[l]at f;injection f with f;subst f;refine lj (je d) ?_;rintro H I _ w ⟨rfl,g⟩;rw[o]at g;injection g with g;subst g;have y:=(q.fR r).fR w;cases y<;>first|exact .gu .fS|exact .gu (.fD .lW)|skip
 rename_i a J h;refine lj (Xq h) ?_;intro K b B L i;refine lj (nn t) ?_;rintro M n _ j ⟨rfl,_⟩;refine lj (Xr (i.r j) t 1) ?_;rintro C v N D O;have Q:kQ P fp C (pure<|Þ<|À b) (pure<|Þ<|À B):=.gu (.fD (.jT ((i.r j).r D)));by_cases E:(decide (n=0)||v)=É
 .grind
 .rw[if_neg E];refine .Dh λu x S c=> ?_;rw[Ä]at c;simp only[cw,ã,È]at c;cases k:u.shape? b.block with
  |none=>rw[k]at c;cases c
  |some p=>
   let⟨e,m⟩:=p;rw[k]at c;simp only[Ä,ă,È]at c;split at c
   .cases c
   .cases c;exact⟨u.heap.size,.view b t,ß _,fl,trivial⟩
theorem agH(h:(P.underlying e=À (ð t)/\P.underlying T=À đ)\/(P.underlying e=À đ/\P.underlying T=À (ð t)))(x:Â):fE P (ö e T x):=by
 unfold ö;rcases h with⟨b,c⟩|⟨b,c⟩<;>refine xa b<|xa c ?_;all_goals
  cases x<;>first|exact jg _|skip
  rename_i p;cases p with
  |none=>exact gG _
  |some a=>
   repeat' (first|(with_reducible first|exact agD _|exact agE _|exact Xs _ _ _|exact gG _|exact jg _|exact qP|exact tY _|exact ua _|refine gq ?_ (λ_=> ?_)|refine nt _ ?_|refine JJ _ ?_)|split|(intro _ _ h;cases h;done)|rfl)
theorem Xt(b:o.op=aN e T qQ)(h:(P.underlying e=À (ð t)/\P.underlying T=À đ)\/(P.underlying e=À đ/\P.underlying T=À (ð t)))(c:∀y∈o.op.operands,mH X y):mT P X g o:=by
 refine Ds (λa=>Œ e T<|a qQ) (λa=> ?_) (λY a i _ _ _ f=> ?_) (λa=> ?_) c
 .unfold ì;rw[b]
 .unfold Œ;apply lj (je e);rintro j k _ a ⟨rfl,l⟩;apply lj (je T);rintro m n _ i ⟨rfl,p⟩;have q:=((f qQ<|by rw[b];simp[Ê]).fR a).fR i;grind [agF,agG]
 .unfold Œ;grind [agH,xa]
theorem agI(a:Ú)(n:Nat):oQ P (eX a n):=by
 intro u f;refine⟨λx b e=> ?_,λz b e=>by cases e⟩;cases e;unfold Ė;split
 .exact Kd.fX u
 .refine V5 (λo d=> ?_) λo c e h=> ?_
  .cases o<;>first|exact d.elim|trivial
  .grind
def agJ(a:Ú)(n:Nat):fE P (eX a n):=by
 refine⟨agI a n,λu T D=>⟨0,u.freeze a n,λx b e=> ?_⟩⟩;have c:∀T D,(World.tp u T D).freeze a n=World.tp (u.freeze a n) T D:=by intro T D;unfold Ė;split<;>rfl
 simp_all
def Xu:∀(n:Nat) {Y:fw} {a c:Ú} (d:ByteArray),hD Y a c->fI P jv Y (ĕ a d n) (ĕ c d n)
 |0,_,_,_,_,_=> .fD U
 |n+1,Y,a,c,d,h=>by
  unfold ĕ;refine fF (Jy h) ?_;intro g v i e f;cases f<;>first|exact .fS|skip
  rename_i k b;cases k<;>first|exact .fS|exact Xu n _<|(h.r e).C 1
def Xv:∀(n:Nat) (a:Ú) (b:ByteArray),fE P<|ĕ a b n
 |0,_,_=>gG _
 |n+1,a,b=>by
  unfold ĕ;refine gq (Gj _ _) λv=> ?_;split
  .exact Xv n _ _
  .exact jg _
def jH(pt:Á)(a:Ú)(n:Nat):ē ByteArray:=do
 if<-Ą a (<-Ū pt) n then ĕ a .empty n else unsupported (ť "String: not so many bytes at ptr")
def agK(pt:Á)(h:hD Y a p)(n:Nat):fI P jv Y (jH pt a n) (jH pt p n):=by
 unfold jH;refine fF (V:=jv) ?_ ?_
 .unfold Ū;refine fF (je pt) ?_;rintro f d _ c ⟨rfl,_⟩;cases d<;>first|exact .fS|exact .fD U
 .rintro i e _ d rfl;apply fF (Xr (h.r d) e n);rintro f b j c g;cases b with
  |true=>rw[g U];exact Xu n _<|(h.r d).r c
  |false=>exact .fS
def agL[AO P](F:jk Y f u w)(h:hD Y a p){pt:Á}(G:∀u l j,(Ū pt).run P u=ĥ l j->∃k,P.underlying l=À (Β k))(g:(jH pt a<|n+1).run P u=ĥ B W):¬f p.block:=by
 intro H;let⟨c,L,e,M,N,r,O,Q,t,_⟩:=F.r _ _ h.1;let⟨_,_,_,_,o⟩:=t H;unfold jH at g;rw[Ä]at g;cases i:(Ū pt).run P u with
 |halt z x=>rw[i]at g;cases g
 |ok l j=>
  have I:j=u:=by
   unfold Ū at i;rw[Ä]at i;unfold ø at i;rw[Ä,ă]at i;simp only[È]at i;cases D:P.underlying pt with
   |none=>rw[D]at i;cases i
   |some d=>
    rw[D]at i;cases d<;>cases i<;>rfl
  subst I;rw[i]at g;simp only[È]at g;rw[Ä]at g;have y:∃b,(Ą a l<|n+1).run P j=ĥ b j:=by unfold Ą;rw[Ä,ă];simp only[È];rw[Ä];simp only[cw,ã,È];split<;>exact⟨_,U⟩
  rcases o with o|o;rotate_left
  .let⟨k,J⟩:=G _ _ _ i;have K:(Ą a l<|n+1).run P j=ĥ Ã j:=by
    unfold Ą;rw[Ä,ă];simp only[È];rw[Ä];simp only[cw,ã,È];have t:j.shape? a.block=À (e,c.size):=by simp[Θ,r]
    rw[t];simp only[Nat.div_eq_of_lt<|AO.lt e c.size o,aeE J];rfl
   rw[K]at g;cases g
  let⟨b,y⟩:=y;rw[y]at g;simp only[È]at g;split at g
  .unfold ĕ at g;rw[Ä]at g;simp only[aX,ã]at g;cases C:j.cell? a with
   |none=>
    rw[C]at g;simp only[ŋ,r]at g;cases g
   |some v=>
    rw[C]at g;simp only[È]at g;have q:=C;rw[AS r]at q;cases E:a.spot with
    |some x=>rw[E]at q;cases q
    |none=>
     rw[E]at q;have:=o _ _ (by simpa using q);cases v<;>first|(cases g;done)|skip
     rename_i k m;cases k<;>first|(cases g;done)|cases this
  .cases g
end
section
variable{Y:fw}{d:Nat->Prop}{f:à->Prop}{α:Type}
def yV(a:Á)(p:Option Ú)(n:Int):ē Â:=ê #[a] a #[Þ p,Ć Ŋ n]
def yW(pt a t:Á)(p:Option Ú)(k:ú)(n:Int):ê #[pt,a] t #[Þ p,Ć k n]=yV pt p n:=by cases p<;>rfl
section
variable{pt:Á}{p:Option Ú}
def Xw(a:h<0):∃c,∃k:PUnit->ē Â,yV pt p h=(runtimePanic c>>=k):=⟨_,_,if_pos a⟩
def Xx(a:¬h<0)(b:h>Ŋ.max):∃c,yV pt p h=unsupported (ť c):=⟨_,(if_neg a).trans<|if_pos b⟩
def OW(a:¬h<0)(b:¬h>Ŋ.max)(c:h=0):yV pt p h=pure (ħ .empty):=by cases p<;>exact(if_neg a).trans<|(if_neg b).trans<|if_pos c
def agM(a:¬h<0)(b:¬h>Ŋ.max)(d:¬h=0):∃c,yV pt ë h=runtimePanic c:=⟨_,(if_neg a).trans<|(if_neg b).trans<|if_neg d⟩
end
def Xy(pt:Á)(a:Ú)(c:¬h<0)(d:¬h>Ŋ.max)(e:¬h=0): yV pt (À a) h=(jH pt a h.toNat>>=λs=>eX a h.toNat>>=λ_=>pure<|ħ s):=by refine((if_neg c).trans<|(if_neg d).trans<|if_neg e).trans ?_;unfold jH;show _=ç (ç _ _) _;rw[ř];congr 1;funext et;show ç _ _=ç (ç _ _) _;rw[ř];congr 1;funext b;cases b<;>rfl
def agN(pt:Á)(p:Option Ú)(n:Int):fE P (yV pt p n):=by cases p<;>show fE P (if n<0 then _ else _)<;>repeat' (first|(with_reducible first|exact Xs _ _ _|exact Xv _ _ _|exact agJ _ _|exact gG _|exact JL _|exact w7 _|refine gq ?_ (λ_=> ?_)|refine nt _ ?_)|split|rfl)
theorem agO(_hW:jk Y d u w):∀(n:Nat) {a i:Ú} {j s:ByteArray},hD Y a i->a.spot=ë->(ĕ a j n).run P u=ĥ s W->∀c e f,u.heap[a.block]?=À (Č c e f)->a.off<=c.size->a.off+n<=c.size:=by
 intro n
 induction n with
 |zero=>intro a i j s _ _ _ c e f _ r;exact r
 |succ n t=>
  intro a i j s h p b c e f l _;unfold ĕ at b;rw[Ä]at b;simp only[aX,ã]at b;cases o:u.cell? a with
  |none=>
   rw[o]at b;simp only[ŋ,l]at b;cases b
  |some v=>
   rw[o]at b;simp only[È]at b;have q:=o;rw[AS l,p]at q;have y:=(Ë.1<|by simpa using q).1;cases v<;>first|(cases b;done)|skip
   rename_i k m;cases k<;>first|(cases b;done)|skip
   have g:a.add 1={a with off:=a.off+1}:=by unfold Addr.add;grind
   have x:=h.C 1;have:=t x (by rwa[g]) b c e f (by rwa[g]) (by rw[g];simp only;omega);rw[g]at this;simp only at this;omega
end
section
variable{Y:fw}{g:Nat->Prop}{r:à->Prop}{α:Type}
def OX(pt a t:Á)(p:Option Ú)(y:Â):ê #[pt,a] t #[Þ p,y]=(dD y>>=λn=>yV pt p n):=by cases p<;>rfl
def Xz:∀(n:Nat) {a:Ú} {f s:ByteArray} {u c:Æ},(ĕ a f n).run P u=ĥ s c->c=u
 |0,_,_,_,_,_,h=>by cases h;rfl
 |n+1,a,f,s,u,c,h=>by
  unfold ĕ at h;rw[Ä]at h;have g:∀v b,(aX a).run P u=ĥ v b->b=u:=by
   intro v b e;simp only[aX,ã]at e;split at e
   .cases e;rfl
   .split at e<;>cases e;rfl
  cases d:(aX a).run P u with
  |halt z w=>rw[d]at h;cases h
  |ok v b=>
   have:=g v b d;subst this;rw[d]at h;simp only[È]at h;cases v<;>first|(cases h;done)|skip
   rename_i k m;cases k<;>first|(cases h;done)|exact Xz n h
def agP{pt:Á}(c:(jH pt a n).run P u=ĥ B w):w=u/\(ĕ a .empty n).run P u=ĥ B u:=by
 unfold jH at c;rw[Ä]at c;cases e:(Ū pt).run P u with
 |halt z x=>rw[e]at c;cases c
 |ok z x=>
  have f:x=u:=by
   unfold Ū at e;rw[Ä]at e;unfold ø at e;rw[Ä,ă]at e;simp only[È]at e;cases b:P.underlying pt with
   |none=>rw[b]at e;cases e
   |some d=>
    rw[b]at e;cases d<;>cases e<;>rfl
  subst f;rw[e]at c;simp only[È]at c;rw[Ä]at c;have d:∃b,(Ą a z n).run P x=ĥ b x:=by unfold Ą;rw[Ä,ă];simp only[È];rw[Ä];simp only[cw,ã,È];split<;>exact⟨_,U⟩
  let⟨b,d⟩:=d;rw[d]at c;simp only[È]at c;split at c
  .have:=Xz n c;subst this;exact⟨U,c⟩
  .cases c
def J9(P:Õ)(t:Á):Bool:=match P.underlying t with
 |some (ð e)=>(match P.underlying e with|some (Β _)=>É|_=>Ã)
 |_=>Ã
theorem agQ{P:Õ}{pt:Á}(h:J9 P pt=É):∀u b c,(Ū pt).run P u=ĥ b c->∃k,P.underlying b=À (Β k):=by
 intro u b c a;unfold Ū ø at a;rw[Ä,Ä,ă]at a;simp only[È]at a;unfold J9 at h;split at h
 .rename_i e d;rw[d]at a;cases a;grind
 .cases h
def agR[AO P]{y:Ö}{pt:Á}(W:o.op=Ω {callee:=ĝ cX,args:=#[qQ,y],argTypes:=#[pt,T]})(hpt:J9 P pt=É)(Ka:∀z∈o.op.operands,mH X z):mT P X r o:=by
 have he:∀M:Ö->Â,ì M o=(ê #[pt,T] o.type #[M qQ,M y]>>=λv=>pure<|ï v):=by intro M;unfold ì;rw[W];simp only[ù,č,Ē,pure_bind,Ø,â,ä]
 have N:∀v w:Â,fE P (ê #[pt,T] o.type #[v,w]):=by
  intro v w;cases v<;>first|exact jg _|skip
  rw[OX];exact gq (Gl _) λn=>agN _ _ _
 have hk:∀(a:bF) (u:Æ) (n:Ο) (C:Æ),(ì a.eval o).run P u=ĥ n C->∃v,n=ï v:=by
  intro a u n C b;rw[he,Ä]at b;cases O:(ê #[pt,T] o.type #[a.eval qQ,a.eval y]).run P u with
  |ok v w=>rw[O]at b;cases b;exact⟨v,U⟩
  |halt z w=>rw[O]at b;cases b
 refine⟨?_,λa=>by rw[he];exact lZ<|N _ _,λa u n C b=>Ç<|hk a u n C b,λa u f c C b=>by let⟨v,e⟩:=hk a u _ C b;cases e⟩;intro Y g t t' u w hz hb hG ht J hl z C b hc;have hx:=xj hG ht (Ka qQ<|by rw[W];simp[Ê,ô]);have Q:=xj hG ht (Ka y<|by rw[W];simp[Ê,ô]);rw[he]at b|-;generalize å ⟨t,[]⟩ qQ=v at hx b;generalize å ⟨t',[]⟩ qQ=v' at hx|-;generalize å ⟨t,[]⟩ y=l at Q b;generalize å ⟨t',[]⟩ y=l' at Q|-;have E:fI P fp Y (ê #[pt,T] o.type #[v,l]) (ê #[pt,T] o.type #[v',l'])->∃(K:fw) (x':Ο) (w':Æ) (S:Array ý),Y.r K/\(∀i j,K i j->Y i j\/(u.heap.size<=i/\w.heap.size<=j))/\(ê #[pt,T] o.type #[v',l']>>=λv=>pure (ï v):ē Ο).runT P w #[]=(ĥ x' w',#[]++S)/\po K z x'/\jk K g C w'/\nU Y g w w'/\(∀e∈S,AR K g e)/\u.heap.size<=C.heap.size:= λh=>(mS h).gl J hl b #[];cases hx with
 |lW=>
  apply E;rw[OX,OX];apply fF (N5 Q);rintro XA n _ _ rfl;by_cases B:n<0
  .let⟨c,k,q⟩:=Xw (pt:=pt) (p:=ë) B;rw[q];exact .oP (wT<|rE _)
  .by_cases d:n>Ŋ.max
   .let⟨c,q⟩:=Xx (pt:=pt) (p:=ë) B d;rw[q];exact .fS
   .by_cases D:n=0
    .rw[OW B d D];exact .fD (.ko _)
    .let⟨c,q⟩:=agM (pt:=pt) B d D;rw[q];apply JB
 |jT F=>
  rename_i a a';cases Q with
  |iG k n=>
   by_cases B:n<0
   .apply E;let⟨c,k,q⟩:=Xw (pt:=pt) (p:=À a) B;rw[yW,yW,q];exact .oP (wT<|rE _)
   .by_cases d:n>Ŋ.max
    .apply E;let⟨c,q⟩:=Xx (pt:=pt) (p:=À a) B d;rw[yW,yW,q];exact .fS
    .by_cases D:n=0
     .apply E;rw[yW,yW,OW B d D,OW B d D];exact .fD (.ko _)
     .rw[yW,Xy pt a B d D]at b;rw[yW,Xy pt a' B d D];obtain⟨m,O⟩:∃m,n.toNat=m+1:=⟨n.toNat-1,Z⟩;rw[O]at b|-;cases L:(jH pt a<|m+1).run P u with
      |halt z w=>
       rw[Ä,Ä,L]at b;cases b
      |ok s u1=>
       obtain⟨rfl,XB⟩:=agP L;rw[Ä,Ä,L]at b;have A1:=b;cases A1;let⟨XA,s',w1,es,k1,k2,k3,k4,k5,G,k7,k8⟩:=(agK pt F<|m+1).gl J hl L #[];have S:=k4;subst S;let⟨c,c',e,fr,wU,V,hw,pz,_⟩:=J.r _ _ F.1;have XC:a.spot=ë/\a.off<c.size:=by
        have H:=XB;unfold ĕ at H;rw[Ä]at H;simp only[aX,ã]at H;cases I:u1.cell? a with
        |none=>
         rw[I]at H;simp only[ŋ,V]at H;cases H
        |some v=>
         rw[AS V]at I;cases oT:a.spot with
         |some qQ=>rw[oT]at I;cases I
         |none=>rw[oT]at I;exact⟨U,(Ë.1<|by simpa using I).1⟩
       have fits:∀c e fr,u1.heap[a.block]?=À (Č c e fr)->a.off+(m+1)<=c.size:=by intro c2 e2 qR d;rw[V]at d;injection d with d;injection d with q1 q2 q3;subst q1;exact agO J (m+1) F XC.1 XB c e fr V<|Nat.le_of_lt XC.2
       refine⟨XA,ï<|ħ s,w1.freeze a'<|m+1,es,k1,k2,?_,.nW (.ko s),k5.adY (F.r k1) (m+1) fits,?_,k7,by rw[Jw];exact ß _⟩
       .show é P (ç (ç _ _) _) w #[]=_;rw[Ñ,Ñ,k3];rfl
       .refine⟨by rw[Jw];exact G.r,adU.trans G.I,adV.trans G.M,NW.trans G.S,λj hj N=> ?_,λj hs hj=> ?_⟩
        .rw[Jx (λe=>N a.block<|by rw[<-e];exact F.1)];exact G.C j hj N
        .rw[Jx (λe=>(agL J F (agQ hpt) L)<|by rwa[e])];exact G.N j hs hj
  |_=>exact E .fS
 |_=>exact E .fS
end
section
variable{Y:fw}{g:Nat->Prop}{i:à->Prop}{α:Type}
theorem agS(a:Ú):fE P (bm a):=by unfold bm;grind [gG,tY,Ou,gq]
theorem agT(a b:Ú):fE P (cK a b):=by unfold cK;grind [agS,gG,tY,gq]
def agU(a b:Ú):fE P (Ŭ a b):=by unfold Ŭ;repeat' (first|(with_reducible first|exact agT _ _|exact gG _|exact sS _|exact Ou _|exact Wu _|refine gq ?_ (λ_=> ?_)|refine nt _ ?_)|split|rfl)
def XD(h:P.underlying t=À (ð e))(x y:Â):fE P (ó t x y):=by unfold ó ā Λ;refine xa h ?_;repeat' (first|(with_reducible first|exact agU _ _|exact gG _|exact jg _|exact sS _|exact ua _|refine gq ?_ λ_=> ?_)|contradiction|split)
def agV{a:ġ}(b:a=aA\/a=aL)(h:P.underlying t=À (ð e))(x y:Â):fE P (Ũ a t x y):=by
 have c:=XD h x y;rcases b with rfl|rfl;all_goals
  unfold Ũ;repeat' (first|(with_reducible first|exact XD h _ _|exact gG _|exact jg _|exact Oz _ _ _ _|exact WR _ _ _ _ _ _|exact WS _ _ _|exact OD _ _ _|refine gq ?_ λ_=> ?_)|contradiction|split)
def yY(u:Æ)(r:Nat):Prop:=∃c e a,u.heap[r]?=À (Č c e a)/\a.2<=c.size
def Kb(a:Ú)(u:Æ)(b:Array ý):(eP a).runT P u b=(ĥ (u.frozen? a) u,b):=rfl
def Ke{r:Nat}(h:u.heap[r]?=À (Č d e xJ))(a:Array ý):(cw r).runT P u a=(ĥ (À (e,d.size)) u,a):=by simp only[cw,é,Θ,h]
def XF(h:yY u a.block)(b:Array ý):(bm a).runT P u b=(ĥ (u.frozen? a) u,b):=by
 let⟨c,e,f,d,g⟩:=h;unfold bm;show é P (ç _ _) u b=_;rw[Ñ,Kb];cases i:u.frozen? a with
 |true=>rfl
 |false=>
  simp only[Å,if_false];show é P (ç _ _) u b=_;rw[Ñ,Ke d];simp only[];rw[Kb];have:u.frozen? {block:=a.block,off:=c.size}=Ã:=by simp only[Ĉ,d];simp;omega
  rw[this]
def XG(f:u.heap[a.block]?=À (Č d e xJ))(g:xJ.2<=d.size)(b:u.frozen? a=É):d.size≠0:=by simp only[Ĉ,f]at b;simp at b;omega
def agW(i:yY u a.block)(j:yY u p.block)(k:(u.frozen? a&&u.frozen? p)=Ã)(g:Array ý):(cK a p).runT P u g=(ĥ Ã u,g):=by
 have q:=i;have r:=j;let⟨c,e,w,l,s⟩:=q;let⟨d,f,x,m,t⟩:=r;unfold cK;show é P (ç _ _) u g=_;rw[Ñ,XF i];simp only[];show é P (ç _ _) u g=_;rw[Ñ,XF j];simp only[];show é P (ç (ç _ _) _) u g=_;rw[Ñ,Ñ,Ke l];simp only[];show é P (ç (ç _ _) _) u g=_;rw[Ñ,Ñ,Ke m];simp only[];congr 2;cases o:u.frozen? a with
 |true=>
  rw[o]at k;have h:u.frozen? p=Ã:=by simpa using k
  have:=XG l s o;simp only[h];cases v:c.size with
  |zero=>exact absurd v this
  |succ n=>rfl
 |false=>
  cases h:u.frozen? p with
  |true=>
   have:=XG m t h;cases v:d.size with
   |zero=>exact absurd v this
   |succ n=>rfl
  |false=>rfl
def XH(h:yY u a.block)(b:Array ý):(aY a).runT P u b=(ĥ () u,b):=by let⟨c,e,f,d,g⟩:=h;unfold aY dm;show é P (ç (ç _ _) _) u b=_;rw[Ñ,Ñ,Ke d];rfl
def XJ(e:yY u a.block)(f:yY u p.block)(c:Array ý):(Ŭ a p).runT P u c= if(a.block==p.block)=É then(ĥ (a==p) u,c)else if(u.frozen? a&&u.frozen? p)=É then(bV (ŀ .addressObserved) u,c)else(ĥ Ã u,c):=by
 unfold Ŭ;by_cases h:(a.block==p.block)=É
 .simp_all
 .rw[if_neg h,if_neg h];show é P (ç _ _) u c=_;rw[Ñ,Kb];simp only[];show é P (ç _ _) u c=_;rw[Ñ,Kb];simp only[];by_cases d:(u.frozen? a&&u.frozen? p)=É
  .simp_all
  .rw[if_neg d,if_neg d];show é P (ç _ _) u c=_;rw[Ñ,XH e];simp only[];show é P (ç _ _) u c=_;rw[Ñ,XH f];simp only[];show é P (ç _ _) u c=_;rw[Ñ,agW e f (by simpa using d)];rfl
end
section
variable{Y:fw}{g:Nat->Prop}{j:à->Prop}
def agX{d:dI}(h:P.underlying t=À d)(u:Æ)(a:Array ý):(ø t).runT P u a=(ĥ d u,a):=by unfold ø;simp_all
theorem agY(h:P.info? t=À zJ)(u:Æ)(a:Array ý):(ay t).runT P u a=(ĥ zJ.size u,a):=by
 unfold ay;show é P (ç _ _) u a=_;rw[Ñ];have:(Δ t).runT P u a=(ĥ zJ u,a):=by unfold Δ;simp_all
 rw[this];rfl
theorem XK(h:P.underlying t=À (ð e))(d:P.info? e=À zJ)(f:zJ.size≠0)(a b:Ú)(u:Æ)(c:Array ý):(ó t (Þ<|À a)<|Þ<|À b).runT P u c=(Ŭ a b).runT P u c:=by unfold ó ā Λ;show é P (ç _ _) u c=_;rw[Ñ,agX h];simp only[];show é P (ç _ _) u c=_;grind [Ñ,agY]
def iz(a:ġ)(r:Bool):Bool:=if a=aA then r else !r
def XL{d:ġ}(k:d=aA\/d=aL)(h:P.underlying t=À (ð e))(g:P.info? e=À zJ)(j:zJ.size≠0)(x y:Ö)(a b:Ú)(u:Æ)(c:Array ý): ((ŷ d t x y (Þ<|À a) (Þ<|À b)>>=λ_=>Ũ d t (Þ<|À a)<|Þ<|À b)>>=λv=>pure (ï v):ē Ο).runT P u c= match(Ŭ a b).runT P u c with
 |(ĥ r u',f)=>(ĥ (ï<|Ľ<|iz d r) u',f)
 |(bV z u',f)=>(bV z u',f):=by
 rcases k with rfl|rfl
 .show é P (ç (ç (ó t (Þ<|À a)<|Þ<|À b) λr=>aI<|Ľ r) λv=>aI<|ï v) u c=_;rw[Ñ,Ñ,XK h g j];cases(Ŭ a b).runT P u c with
  |mk r f=>cases r<;>rfl
 .show é P (ç (ç (ó t (Þ<|À a)<|Þ<|À b) λr=>aI<|Ľ !r) λv=>aI<|ï v) u c=_;rw[Ñ,Ñ,XK h g j];cases(Ŭ a b).runT P u c with
  |mk r f=>cases r<;>rfl
theorem agZ{m:ġ}{r:Á}{y:Ö}(E:o.op=dV m t qQ y r)(H:m=aA\/m=aL)(h:P.underlying t=À (ð e))(T:P.info? e=À zJ)(V:zJ.size≠0)(I:∀z∈o.op.operands,mH X z):mT P X j o:=by
 have J:∀B:Ö->Â,ì B o=((ŷ m t qQ y (B qQ) (B y)>>=λ_=>Ũ m t (B qQ)<|B y)>>=λv=>pure<|ï v):=by intro B;unfold ì;rw[E]
 have W:∀(a:bF) (u:Æ) (n:Ο) (s:Æ),(ì a.eval o).run P u=ĥ n s->∃v,n=ï v:=by
  intro a u n s k;rw[J,Ä]at k;cases C:(ŷ m t qQ y (a.eval qQ) (a.eval y)>>=λ_=>Ũ m t (a.eval qQ)<|a.eval y).run P u with
  |ok v w=>rw[C]at k;cases k;exact⟨v,U⟩
  |halt z w=>rw[C]at k;cases k
 refine⟨?_,λa=> ?_,λa u n s k=>Ç<|W a u n s k,λa u f c s k=>by let⟨v,e⟩:=W a u _ s k;cases e⟩
 .intro Y g D XM u w K hb L M p hl z s k hc;have N:=xj L M (I qQ<|by rw[E];simp[Ê]);have O:=xj L M (I y<|by rw[E];simp[Ê]);by_cases Q:np (å ⟨D,[]⟩ qQ)\/np (å ⟨D,[]⟩ y)
  .have hOk:kq P (å ⟨D,[]⟩) o.op:=by
    rw[E];exact .Dk m t qQ y r λ_=>Î ⟨⟨e,h⟩,Q⟩
   exact(V2 K p.C hb (λf=>rfl) hOk λz K=>xj L M<|I z K).gl p hl k hc #[]
  .have n1:=λq=>Q<|Ç q;have n2:=λq=>Q<|Î q;rw[J]at k|-;generalize å ⟨D,[]⟩ qQ=v at N k n1;generalize å ⟨XM,[]⟩ qQ=v' at N|-;generalize å ⟨D,[]⟩ y=l at O k n2;generalize å ⟨XM,[]⟩ y=l' at O|-;cases N<;>first|exact absurd trivial n1|skip
   cases O<;>first|exact absurd trivial n2|skip
   rename_i a a' F b b' G;have fit:∀{c S:Ú},hD Y c S->yY u c.block/\yY w S.block:=by intro c S hcc;let⟨d,d',e2,fr,wU,hu,hw,pz,qd,Dt,hfr⟩:=p.r _ _ hcc.1;refine⟨⟨d,e2,fr,hu,hfr⟩,d',e2,wU,hw,?_⟩;refine õ ?_ pz.I;grind
   let⟨fa,fa'⟩:=fit F;let⟨fb,fb'⟩:=fit G;rw[<-Ρ P _ u #[],XL H h T V,XJ fa fb]at k;rw[XL H h T V,XJ fa' fb'];rw[<-(JD p.C F G),<-(VN p.C F G)];by_cases q:(a.block==b.block)=É
   .rw[if_pos q]at k|-;cases k;exact⟨Y,_,w,#[],fw.M _,λ_ _ q=>Ç q,U,.nW (.mG _),p,nU.fX _ _ _,λ_ C=>absurd C fl,ß _⟩
   .rw[if_neg q]at k|-;by_cases q2:(u.frozen? a&&u.frozen? b)=É
    .grind
    .rw[if_neg q2]at k;have q3:¬(w.frozen? a'&&w.frozen? b')=É:=by
      intro q4;let⟨z1,z2⟩:=Ü.1 q4;exact q2<|Ü.2 ⟨p.G F z1,p.G G z2⟩
     rw[if_neg q3];cases k;exact⟨Y,_,w,#[],fw.M _,λ_ _ q=>Ç q,U,.nW (.mG _),p,nU.fX _ _ _,λ_ C=>absurd C fl,ß _⟩
 .rw[J];exact lZ<|gq (WW m t (λ_=>Î ⟨e,h⟩) qQ y _ _) λ_=>agV H h _ _
end
def OY(P:Õ)(s d:Á):Bool:=match P.underlying s,P.underlying d with
 |some (dj e),À ę=>(match P.underlying e with|some (Β .u8)=>É|_=>Ã)
 |some (ð _),À đ=>É
 |some đ,À (ð _)=>É
 |_,_=>Ã
def OZ(P:Õ)(t:Á):Bool:=match P.underlying t with
 |some (ð e)=>(match P.info? e with|some i=>i.size !=0|none=>Ã)
 |_=>Ã
def O0(P:Õ)(b:à->Bool)(c:Callee)(a:List Ö)(d:List Á):Bool:=match c with
 |ĝ .min=>a.length !=0
 |ĝ bl=>a.length==1
 |ĝ cX=>a.length==2&&(match d with|[t,_]=>J9 P t|_=>Ã)
 |cj (aO f)=>b f&&a.length==1
 |_=>Ã
def O1(P:Õ)(a:à->Bool):Op->Bool
 |cJ _ _|.panic _=>É
 |dV c t _ _ _=>(c==aA||c==aL)&&OZ P t
 |aN s d _=>OY P s d
 |Ω c=>O0 P a c.callee c.args.toList c.argTypes.toList
 |_=>Ã
def Du(P:Õ)(a:Nat->Bool)(b c:à->Bool)(o:av):Bool:=OV P a b o||(O1 P c o.op&&o.op.operands.all (xm a))
def Gs(P:Õ)(c:à->Bool):Prop:=∀f,c f=É->∃a e,P.funcs[f]?=À a/\(a.name== "runtime.NumGoroutine")=Ã/\a.body.isNone=É/\Extern.findNext a=ë/\Extern.find a=À e/\
 (∀(Y:fw) (v b:Â),fp Y v b->fI P fp Y (e #[v]) (e #[b]))/\∀v,fE P<|e #[v]
theorem Kf[AO P]{g:Nat->Bool}{k x:à->Bool}(C:Gs P x)(h:Du P g k x o=É):mT P (λj=>g j=É) (λf=>k f=É) o:=by
 rcases Ŝ.1 h with h|h
 .exact agb h
 .let⟨v,S⟩:=Ü.1 h;have q:∀z∈o.op.operands,mH (λj=>g j=É) z:=by
   grind [ŉ,J6,Ń]
  cases n:o.op with
  |makeInterface t y=>exact agc n q
  |panic y=>exact agh n q
  |binOp w t a b r=>
   rw[n]at v;let⟨T,m⟩:=Ü.1 (show((w==aA||w==aL)&&OZ P t)=É from v);have D:w=aA\/w=aL:=by grind
   unfold OZ at m;split at m
   .rename_i e E;split at m
    .rename_i i F;exact agZ n D E F (by simpa using m) q
    .cases m
   .cases m
  |convert s d y=>
   rw[n]at v;have m:OY P s d=É:=v;unfold OY at m;split at m
   .rename_i e u p;split at m
    .rename_i G;exact agt n u p G q
    .cases m
   .rename_i t u p;exact Xt n (Ç ⟨u,p⟩) q
   .rename_i t u p;exact Xt n (Î ⟨u,p⟩) q
   .cases m
  |call c=>
   rw[n]at v;let⟨H,I,B⟩:=c;have m:O0 P x H I.toList B.toList=É:=v;unfold O0 at m;split at m
   .exact agn n q
   .obtain⟨y,rfl⟩:=J8 m;exact agB n q
   .let⟨u,p⟩:=Ü.1 m;obtain⟨y,z,rfl⟩:=OU u;let⟨l⟩:=B;match l,p with
    |[t1,t2],p=>exact agR n p q
   .rename_i f;let⟨u,p⟩:=Ü.1 m;obtain⟨y,rfl⟩:=J8 p;let⟨V,e,J,K,L,M,N,O,Q⟩:=C f u;exact agu n J K L M N O Q q
   .cases m
  |_=>rw[n]at v;simp[O1]at v
def nZ(P:Õ)(a:Nat->Bool)(b d:à->Bool):ak->Bool
 |.ret|eR|eb _|eT _|eU _=>É
 |.seq x y=>nZ P a b d x&&nZ P a b d y
 |bz c x y=>xm a c&&nZ P a b d x&&nZ P a b d y
 |ec _ c|eS c|ef c=>nZ P a b d c
 |bQ _ c _=>c.all<|Du P a b d
 |dw _=>É
 |_=>Ã
def vI[AO P]{g:Nat->Bool}{k x:à->Bool}(a:Gs P x):∀{c:ak},nZ P g k x c=É->kR P (λj=>g j=É) (λf=>k f=É) c
 |.ret,_=> .vD
 |eR,_=> .sQ
 |eb l,_=> .xb l
 |eT l,_=> .xf l
 |eU l,_=> .xg l
 |.seq y z,h=>by let⟨f,i⟩:=Ü.1 (show(nZ P g k x y&&nZ P g k x z)=É from h);exact .rH (vI a f) (vI a i)
 |bz c y z,h=>by let⟨f,i⟩:=Ü.1 (show(xm g c&&nZ P g k x y&&nZ P g k x z)=É from h);let⟨j,f⟩:=Ü.1 f;exact .uf (J6 j) (vI a f) (vI a i)
 |ec id c,h=> .rI id (vI a<|show nZ P g k x c=É from h)
 |eS c,h=> .xc (vI a<|show nZ P g k x c=É from h)
 |ef c,h=> .xe (vI a<|show nZ P g k x c=É from h)
 |bQ id ops d,h=> .ug id d λo f=>by obtain⟨i,j,rfl⟩:=ŉ.1 f;exact Kf a<|Ń.1 (show ops.all (Du P g k x)=É from h) i j
 |.rangeFunc _ _ _ _,h=>by simp[nZ]at h
 |dw w,_=> .nX w
end Go.Proofs.Y.Lift
namespace Go.Proofs.Y.fv
open Go Go.Conc Go.Proofs.Y.Lift
def qS(t:ğ)(g:Nat)(l:dT):Prop:=∀p a,Ě t p=À a->a.loc=l->bD t g p
def pA(t:ğ)(g:Nat)(l:dT):Prop:=∀p a,Ě t p=À a->a.loc=l->a.write=É->bD t g p
def qS.r{t:ğ}{g:Nat}{l:dT}(h:qS t g l):pA t g l:=λp a b c _=>h p a b c
section
variable{t u:ğ}{g:Nat}{l:dT}
theorem mW{a:dO}(h:Ě (t++u) i=À a):(i<t.size/\Ě t i=À a)\/(t.size<=i/\∃x∈u,x.act.touch?=À a/\(t++u)[i]?=À x):=by
 let⟨x,c,d⟩:=dP h;rcases getElem?_append_cases c with⟨b,e⟩|⟨b,f⟩
 .exact Ç ⟨b,by rwa[touchAt_of e]⟩
 .grind
theorem qS.C(h:qS t g l)(j:∀c∈u,∀b,c.act.touch?=À b->b.loc=l->c.g=g):qS (t++u) g l:=by
 intro p a e f;rcases mW e with⟨_,d⟩|⟨_,c,d,k,i⟩
 .exact(h p a d f).app u
 .have:=bn i;grind
theorem pA.r(h:pA t g l)(k:∀c∈u,∀b,c.act.touch?=À b->b.loc=l->b.write=É->c.g=g):pA (t++u) g l:=by
 intro p a e f i;rcases mW e with⟨_,d⟩|⟨_,c,d,m,j⟩
 .exact(h p a d f i).app u
 .have:=bn j;grind
def qS.yL(h:∀p a,Ě t p=À a->a.loc≠l):qS t g l:=λp a b c=>absurd c<|h p a b
theorem O2(h:∀c,¬eG c t)(l:∀d∈u,d.g=g)(m:∀d∈u,∀b,d.act.touch?=À b->(b.write=Ã/\pA t g b.loc)\/qS t g b.loc\/(b.kind=Ŕ/\∀p a,Ě t p=À a->a.loc=b.loc->a.kind=eZ->bD t g p)):∀c,¬eG c (t++u):=by
 intro c;refine noRace_append (h c) l λi a f d n b o r=> ?_;let⟨j,v,e,w⟩:=r;rcases m d n b o with⟨s,k⟩|q|⟨s,k⟩
 .rcases e with e|e
  .exact k i a f j e
  .grind
 .exact q i a f j
 .grind
theorem A5(f:∀c,¬eG c t)(r:∀d∈u,d.act.touch?=ë):∀c,¬eG c (t++u):=by
 intro c;rintro⟨i,j,g,⟨a,b,h,k,l⟩,m,n⟩;rcases mW k with⟨s,e⟩|⟨_,d,e,v,_⟩
 .rcases mW h with⟨o,p⟩|⟨o,_⟩
  .exact f c ⟨i,j,g,⟨a,b,p,e,l⟩,λq=>m<|ei u q,λq=>n<|ei u q⟩
  .omega
 .grind
end
structure fc where
 O:Nat->Prop
 I:Nat->Prop
 r:Ú->Prop
 N:Ú->Prop
 K:Ú->Prop
 d:Nat
 q:Prop
 w:Æ
def fc.M(l:fc):Nat->Prop:=λj=>l.O j\/l.I j
def fc.C(l:fc):Ú->Prop:=λa=>l.r a\/l.N a
structure fG(l:fc)(w w₁:Æ):Prop where
 r:w.heap.size<=w₁.heap.size
 I:∀j,l.M j->w₁.heap[j]?=w.heap[j]?
 N:∀a,l.C a->w₁.cell? a=w.cell? a
 Y:∀a,l.C a->w₁.frozen? a=w.frozen? a
 S:∀a,l.K a->(w.cell? a).isSome=É->(w₁.cell? a).isSome=É
theorem fG.fX(l:fc)(w:Æ):fG l w w:=⟨ß _,λ_ _=>rfl,λ_ _=>rfl,λ_ _=>rfl,λ_ _ h=>h⟩
def fG.ff{l:fc}{c:Æ}(h:fG l w u)(k:fG l u c):fG l w c:= ⟨õ h.r k.r,λj d=>(k.I j d).trans<|h.I j d,λj d=>(k.N j d).trans<|h.N j d,λj d=>(k.Y j d).trans<|h.Y j d,λw e q=>k.S w e<|h.S w e q⟩
def kY(w:Æ)(b:Nat):Option (Nat×Nat):=match w.heap[b]? with
 |some (Č _ _ fr)=>À fr
 |_=>ë
def xn{w':Æ}(h:w'.heap[b]?=w.heap[b]?):kY w' b=kY w b:=by unfold kY;rw[h]
theorem XO(w:Æ)(a:Ú):w.frozen? a=match kY w a.block with
 |some (lo,hi)=>decide (lo<=a.off)&&decide (a.off<hi)
 |none=>Ã:=by
 unfold Ĉ kY;grind
def Kg(h:kY u a.block=kY w a.block):u.frozen? a=w.frozen? a:=by rw[XO,XO,h]
def yZ(l:fc)(e:ý):Prop:=
 (∃a:Ú,e.loc=û a/\(l.O a.block\/l.r a\/((l.I a.block\/l.N a)/\e.write=Ã/\e.sync=Ã)))\/e.loc=ů de\/(∃f,e.loc=ů (.extern f))\/e.loc=ů cL\/e.loc=ů dA\/
 ∃a:Ú,l.O a.block/\(e.loc=ů (.read a)\/e.loc=ů (.write a)\/e.loc=ů (Ķ a)\/e.loc=ů (cM a))
structure mI(l l':fc)(w w':Æ)(es:Array ý):Prop where
 C:w.heap.size<=w'.heap.size
 N:∀j,l'.O j->l.O j\/w.heap.size<=j
 fx:∀j,l'.O j->j<w'.heap.size
 rd:l'.I=l.I
 r:l'.r=l.r
 I:l'.N=l.N
 k:l'.K=l.K
 jV:∀j,j<w.heap.size->¬l.O j->(∀a:Ú,a.block=j->¬l.r a)->w'.heap[j]?=w.heap[j]?
 M:∀a:Ú,a.block<w.heap.size->¬l.O a.block->¬l.r a->w'.cell? a=w.cell? a
 S:∀a:Ú,a.block<w.heap.size->¬l.O a.block->kY w' a.block=kY w a.block
 c:w'.os=w.os
 f:w'.output=w.output
 i:w'.tape=w.tape
 b:∀e∈es,yZ l' e
 g:l'.d=ŭ l.d es
 q:l'.q=l.q
 h:l.q->w'=w/\(∀e∈es,e.mute=É)/\l'.O=l.O
 Y:l'.w=w'
structure O3(t:ğ)(g:Nat)(l:fc):Prop where
 fq:∀a:Ú,l.O a.block->qS t g (û a)
 rd:∀a:Ú,l.I a.block->pA t g (û a)
 C:∀a:Ú,l.r a->qS t g (û a)
 r:∀a:Ú,l.N a->pA t g (û a)
theorem XP{l:fc}{e:ý}(h:yZ l e){b:dO}(c:(è e).touch?=À b):∃a:Ú,b.loc=û a/\(l.O a.block\/l.r a\/((l.I a.block\/l.N a)/\b.write=Ã)):=by
 let⟨k,i,j⟩:=e;rcases h with⟨a,g,d⟩|h|⟨f,h⟩|h|h|⟨a,g,d⟩
 .simp only at g d;subst g;have:(è ⟨û a,i,j⟩).touch?=À ⟨û a,i,if j then Ŕ else eZ⟩:=U;grind
 .simp only at h;subst h;simp[è,ÿ]at c
 .simp only at h;subst h;simp[è,ÿ]at c
 .simp only at h;subst h;simp[è,ÿ]at c
 .simp only at h;subst h;simp[è,ÿ]at c
 .simp only at d;rcases d with rfl|rfl|rfl|rfl<;>simp[è,ÿ]at c<;>subst c;all_goals grind
def ag0{l:fc}(d:∀j,l.O j->j<i)(k:∀j,l.I j->j<i)(g:∀a:Ú,l.C a->a.block<i){e:ý}(h:yZ l e):(è e).low i:=by
 let⟨m,n,o⟩:=e;rcases h with⟨a,c,b⟩|h|⟨f,h⟩|h|h|⟨a,c,b⟩
 .simp only at c b;subst c;rcases b with h|h|⟨h|h,_⟩
  .exact d _ h
  .exact g _<|Ç h
  .exact k _ h
  .exact g _<|Î h
 .simp only at h;subst h;trivial
 .simp only at h;subst h;trivial
 .simp only at h;subst h;trivial
 .simp only at h;subst h;trivial
 .simp only at b;rcases b with rfl|rfl|rfl|rfl<;>exact d _ c
def XQ(B:Nat)(t:ğ):Prop:=∀a∈t,a.act.low B
def XR(h:XQ i qJ){a:dO}(g:Ě qJ n=À a){x:Ú}(d:a.loc=û x):x.block<i:=by
 let⟨f,j,b⟩:=dP g;have c:=h f<|Û j;revert b c;cases f.act with
 |access e=>
  intro b c;simp only[ÿ,ž]at b;subst b;simp only at d;simp only[MemAct.low,d,Loc.low]at c;exact c
 |mark m=>
  intro b c;cases m<;>simp[ÿ]at b;all_goals
   subst b;simp only[Loc.cell.injEq]at d;subst d;exact c
 |_=>intro b _;simp[ÿ]at b
theorem oB{a:String}:∀op∈Í i F a V,op.g=i:=λop b=>by obtain⟨e,_,rfl⟩:=í (op:=op) b;rfl
structure iW(B0:Nat)(Live:Nat->Prop)(Y:Nat->Prop)(lot:Nat->fc)(w:Æ)(t:ğ):Prop where
 o:∀i j,Live i->Live j->i≠j->∀b,(lot i).O b->¬(lot j).M b
 h:∀i j,Live i->Live j->i≠j->∀a,(lot i).r a->¬(lot j).C a
 m:∀i,Live i->∀b,(lot i).O b->¬(lot i).I b
 g:∀i,Live i->∀a,(lot i).r a->¬(lot i).N a
 I:∀i,Live i->∀b,(lot i).M b->¬Y b
 e:∀i,Live i->∀a,(lot i).C a->Y a.block
 fx:∀i,Live i->∀b,(lot i).M b->b<w.heap.size
 N:∀b,Y b->b<w.heap.size
 r:∀i,Live i->fG (lot i) (lot i).w w
 S:∀i,Live i->O3 t i (lot i)
 f:∀i,Live i->Τ t i=(lot i).d
 l:∀said,¬eG said t
 q:XQ w.heap.size t
 s:∀p a c,Ě t p=À a->a.loc=.obj c->a.kind=eZ->c<B0
 n:∀i,Live i->∀a,(lot i).K a->Y a.block/\∀k,Live k->¬(lot k).r a
def gw(lot:Nat->fc)(i:Nat)(l:fc):Nat->fc:=λk=>if k=i then l else lot k
theorem gV(a:Nat->fc)(i:Nat)(l:fc):gw a i l i=l:=if_pos U
theorem gH(a:Nat->fc)(l:fc)(h:k≠i):gw a i l k=a k:=if_neg h
section
variable{B0:Nat}{Live Y:Nat->Prop}{lot:Nat->fc}{w':Æ}{t u:ğ}
def O4{g:Nat}(a:k≠g)(t:ğ){u:ğ}(b:∀c∈u,c.g=g):Τ (t++u) k=Τ t k:= Deaf_other t (g:=k) (g':=g) (ą a) _ b
def iW.at(h:iW B0 Live Y lot w t)(d:Nat):iW B0 Live Y lot (w.at d) t:= ⟨h.o,h.h,h.m,h.g,h.I,h.e,h.fx,h.N,λi a=>⟨(h.r i a).r,(h.r i a).I,(h.r i a).N,(h.r i a).Y,(h.r i a).S⟩,h.S,h.f,h.l,h.q,h.s,h.n⟩
def iW.ag1(h:iW B0 Live Y lot w t)(r:Live i){s:fc}(l:mI (lot i) s w w' V)(E:à)(F:String): iW B0 Live Y (gw lot i s) w' (t++Í i E F V):=by
 have G:=l.N;have Q:∀b,s.M b->(lot i).M b\/w.heap.size<=b:=λb g=>g.elim (λq=>(G b q).imp Ç id) (λq=>Ç<|Î<|by rwa[<-l.rd]);have J:∀a,s.C a↔(lot i).C a:=λa=>by unfold fc.C;rw[l.r,l.I]
 have I:=λk f a d=>h.N _<|h.e k f a d;have L:∀k,Live k->k≠i->∀b,(lot k).M b->¬s.O b:=by
  intro k f y b g c;rcases G b c with q|q
  .exact h.o i k r f (ą y) b q g
  .have:=h.fx k f b g;omega
 have H:∀m∈Í i E F V,∀b,m.act.touch?=À b->∃a:Ú,b.loc=û a/\(s.O a.block\/s.r a\/((s.I a.block\/s.N a)/\b.write=Ã)):=by intro m o b g;obtain⟨e,N,rfl⟩:=í o;exact XP (l.b e N) g
 have T:∀a:Ú,s.O a.block->qS t i (û a):=by
  intro a d;rcases G _ d with q|q
  .exact(h.S i r).fq a q
  .exact .yL λp x P n=>by have:=XR h.q P n;omega
 have D:O3 t i s:=⟨T,λa d=>(h.S i r).rd a (by rwa[<-l.rd]),λa d=>(h.S i r).C a (by rwa[<-l.r]),λa d=>(h.S i r).r a<|by rwa[<-l.I]⟩;refine⟨?_,?_,?_,?_,?_,?_,?_,λb g=>Ô (h.N b g) l.C,?_,?_,?_,?_,?_,?_,?_⟩
 .intro k j f u y b g;by_cases c:k=i
  .subst c;rw[gV]at g;rw[gH lot _<|ą y];exact λq=>L j u (ą y) b q g
  .rw[gH lot _ c]at g;by_cases v:j=i
   .subst v;rw[gV];intro q;rcases Q b q with z|z
    .exact h.o k j f u y b g z
    .have:=h.fx k f b<|Ç g;omega
   .rw[gH lot _ v];exact h.o k j f u y b g
 .intro k j f u y a d;by_cases c:k=i
  .subst c;rw[gV,l.r]at d;rw[gH lot _<|ą y];exact h.h k j f u y a d
  .rw[gH lot _ c]at d;by_cases v:j=i
   .subst v;rw[gV,J];exact h.h k j f u y a d
   .rw[gH lot _ v];exact h.h k j f u y a d
 .intro k f b g;by_cases c:k=i
  .subst c;rw[gV]at g|-;rw[l.rd];rcases G b g with z|z
   .exact h.m k f b z
   .intro q;have:=h.fx k f b<|Î q;omega
  .rw[gH lot _ c]at g|-;exact h.m k f b g
 .intro k f a d;by_cases c:k=i
  .subst c;rw[gV]at d|-;rw[l.I];rw[l.r]at d;exact h.g k f a d
  .rw[gH lot _ c]at d|-;exact h.g k f a d
 .intro k f b g;by_cases c:k=i
  .subst c;rw[gV]at g;rcases Q b g with z|z
   .exact h.I k f b z
   .intro y;have:=h.N b y;omega
  .rw[gH lot _ c]at g;exact h.I k f b g
 .intro k f a d;by_cases c:k=i
  .subst c;rw[gV,J]at d;exact h.e k f a d
  .rw[gH lot _ c]at d;exact h.e k f a d
 .intro k f b g;by_cases c:k=i
  .subst c;rw[gV]at g;exact g.elim (l.fx b) λq=>Ô (h.fx k f b<|Î<|by rwa[<-l.rd]) l.C
  .rw[gH lot _ c]at g;exact Ô (h.fx k f b g) l.C
 .intro k f;by_cases c:k=i
  .subst c;rw[gV,l.Y];exact fG.fX _ _
  .rw[gH lot _ c];refine(h.r k f).ff ⟨l.C,λb g=>l.jV b (h.fx k f b g) (λq=>h.o i k r f (ą c) b q g) (λa d q=>h.I k f b g<|by rw[<-d];exact h.e i r a<|Ç q),λa d=>l.M a (I k f a d) (λq=>h.I i r _ (Ç q)<|h.e k f a d) λq=>h.h i k r f (ą c) a q d,λa d=>Kg (l.S a (I k f a d) λq=>h.I i r _ (Ç q)<|h.e k f a d),λa d q=> ?_⟩;let⟨y,v⟩:=h.n k f a d;rwa[l.M a (h.N _ y) (λq=>h.I i r _ (Ç q) y)<|v i r]
 .intro k f;by_cases c:k=i
  .subst c;rw[gV];exact⟨λa d=>(D.fq a d).C λm o _ _ _=>oB m o,λa d=>(D.rd a d).r λm o _ _ _ _=>oB m o,λa d=>(D.C a d).C λm o _ _ _=>oB m o,λa d=>(D.r a d).r λm o _ _ _ _=>oB m o⟩
  .rw[gH lot _ c];have W:∀a:Ú,(lot k).O a.block->∀m∈Í i E F V,∀b,m.act.touch?=À b->b.loc=û a->False:=by
    intro a d m o b g n;let⟨x,y,v⟩:=H m o b g;rw[y]at n;injection n with n;subst n;rcases v with q|q|⟨q|q,_⟩
    .exact L k f c _ (Ç d) q
    .exact h.I k f _ (Ç d)<|h.e i r x<|Ç<|by rwa[<-l.r]
    .exact h.o k i f r c _ d<|Î<|by rwa[<-l.rd]
    .exact h.I k f _ (Ç d)<|h.e i r x<|Î<|by rwa[<-l.I]
   have X:∀a:Ú,(lot k).I a.block->∀m∈Í i E F V,∀b,m.act.touch?=À b->b.loc=û a->b.write=É->False:=by
    intro a d m o b g n B;let⟨x,y,v⟩:=H m o b g;rw[y]at n;injection n with n;subst n;rcases v with q|q|⟨_,q⟩
    .exact L k f c _ (Î d) q
    .exact h.I k f _ (Î d)<|h.e i r x<|Ç<|by rwa[<-l.r]
    .rw[q]at B;cases B
   have S:∀a:Ú,(lot k).C a->∀m∈Í i E F V,∀b,m.act.touch?=À b->b.loc=û a->(s.I a.block\/s.N a)/\b.write=Ã:=by
    intro a d m o b g n;let⟨x,y,v⟩:=H m o b g;rw[y]at n;injection n with n;subst n;rcases v with q|q|q
    .exfalso;rcases G _ q with z|z
     .exact h.I i r _ (Ç z)<|h.e k f x d
     .have:=I k f x d;omega
    .exact absurd d<|h.h i k r f (ą c) x<|by rwa[<-l.r]
    .exact q
   refine⟨λa d=>((h.S k f).fq a d).C λm o b g n=>(W a d m o b g n).elim,λa d=>((h.S k f).rd a d).r λm o b g n B=>(X a d m o b g n B).elim,λa d=>((h.S k f).C a d).C λm o b g n=> ?_,λa d=>((h.S k f).r a d).r λm o b g n B=> ?_⟩
   .exfalso;obtain⟨q|q,_⟩:=S a (Ç d) m o b g n
    .exact h.I i r _ (Î<|by rwa[<-l.rd])<|h.e k f a<|Ç d
    .exact h.h k i f r c a d<|Î<|by rwa[<-l.I]
   .have:=(S a (Î d) m o b g n).2;rw[this]at B;cases B
 .intro k f;by_cases c:k=i
  .subst c;rw[gV,l.g,Deaf_own,h.f k f]
  .rw[gH lot _ c,O4 c t oB];exact h.f k f
 .refine O2 h.l oB λm o b g=> ?_;let⟨a,y,v⟩:=H m o b g;rw[y];rcases v with q|q|⟨q,B⟩
  .exact Î<|Ç<|D.fq a q
  .exact Î<|Ç<|D.C a q
  .exact Ç ⟨B,q.elim (D.rd a)<|D.r a⟩
 .intro m o;rcases Ĝ.1 o with q|q
  .exact MemAct.low_mono l.C<|h.q m q
  .obtain⟨e,N,rfl⟩:=í q;refine ag0 l.fx (λj u=>Ô (h.fx i r j<|Î<|by rwa[<-l.rd]) l.C) (λa d=> ?_)<|l.b e N;rw[J]at d;exact Ô (I i r a d) l.C
 .intro p a c d n f;rcases mW d with⟨_,y⟩|⟨_,m,y,v,_⟩
  .exact h.s p a c y n f
  .let⟨x,P,_⟩:=H m y a v;rw[P]at n;cases n
 .intro k f a d;have y:∀j,(gw lot i s j).r=(lot j).r:=λj=>by
   by_cases e:j=i
   .subst e;rw[gV,l.r]
   .rw[gH lot _ e]
  have c:(gw lot i s k).K=(lot k).K:=by
   by_cases e:k=i
   .subst e;rw[gV,l.k]
   .rw[gH lot _ e]
  rw[c]at d;exact⟨(h.n k f a d).1,λj u=>by rw[y];exact(h.n k f a d).2 j u⟩
end
def Gt(Live Y:Nat->Prop)(d:Nat->fc)(b:dO):Prop:=(∃a:Ú,b.loc=û a/\Y a.block/\∀k,Live k->¬(d k).C a)\/∃c,b.loc=.obj c/\Y c/\b.kind=Ŕ
structure qe(Live Y:Nat->Prop)(lot:Nat->fc)(w w':Æ):Prop where
 r:w'.heap.size=w.heap.size
 jV:∀j,¬Y j->w'.heap[j]?=w.heap[j]?
 M:∀k,Live k->∀a,(lot k).C a->w'.cell? a=w.cell? a
 N:∀k,Live k->∀a,(lot k).C a->w'.frozen? a=w.frozen? a
 I:∀a,(w.cell? a).isSome=É->(w'.cell? a).isSome=É
theorem qe.fX(Live Y:Nat->Prop)(a:Nat->fc)(w:Æ):qe Live Y a w w:=⟨U,λ_ _=>rfl,λ_ _ _ _=>rfl,λ_ _ _ _=>rfl,λ_ h=>h⟩
structure vK(w':Æ)(l l':fc):Prop where
 O:l'.O=l.O
 N:l'.I=l.I
 r:l'.r=l.r
 I:l'.N=l.N
 K:l'.K=l.K
 w:l'.w=l.w\/l'.w=w'
theorem vK.fX(w':Æ)(l:fc):vK w' l l:=⟨U,U,U,U,U,Ç U⟩
def vK.M{w':Æ}{l a:fc}(h:vK w' l a):a.M=l.M:=by unfold fc.M;rw[h.O,h.N]
def vK.C{w':Æ}{l a:fc}(h:vK w' l a):a.C=l.C:=by unfold fc.C;rw[h.r,h.I]
def fG.ag2{l c:fc}(h:vK w l c)(r:fG l u W):fG c u W:= ⟨r.r,by rw[h.M];exact r.I,by rw[h.C];exact r.N,by rw[h.C];exact r.Y,by rw[h.K];exact r.S⟩
section
variable{Live Y:Nat->Prop}{lot o:Nat->fc}{w':Æ}{t u:ğ}
def iW.G(h:iW n Live Y lot w t)(m:∀k,vK w' (lot k)<|o k)(s:qe Live Y lot w w')(B:∀l∈u,∀b,l.act.touch?=À b->Gt Live Y lot b)(g:∀l∈u,l.act.low w.heap.size)(E:∀F,¬eG F (t++u))(G:∀k,Live k->Τ (t++u) k=(o k).d):iW n Live Y o w' (t++u) where
 o i j hi v lz b q:=by rw[(m j).M];exact h.o i j hi v lz b<|by rwa[<-(m i).O]
 h i j hi v lz a f:=by rw[(m j).C];exact h.h i j hi v lz a<|by rwa[<-(m i).r]
 m i hi b q:=by rw[(m i).N];exact h.m i hi b<|by rwa[<-(m i).O]
 g i hi a f:=by rw[(m i).I];exact h.g i hi a<|by rwa[<-(m i).r]
 I i hi b q:=h.I i hi b (by rwa[<-(m i).M]);e i hi a f:=h.e i hi a (by rwa[<-(m i).C]);fx i hi b q:=by rw[s.r];exact h.fx i hi b<|by rwa[<-(m i).M]
 N b q:=by rw[s.r];exact h.N b q
 r i hi:=by
  rcases(m i).w with e|e
  .rw[e];refine((h.r i hi).ff ⟨dB s.r.symm,λj v=>s.jV j<|h.I i hi j v,λa f=>s.M i hi a f,λa f=>s.N i hi a f,λa _=>s.I a⟩).ag2<|m i
  .rw[e];exact fG.fX _ _
 S i hi:=by
  have z:∀a:Ú,(lot i).M a.block->∀l∈u,∀b,l.act.touch?=À b->b.loc=û a->False:=by
   intro a f l e b q g;rcases B l e b q with⟨x,r,y,_⟩|⟨c,r,_⟩
   .rw[r]at g;injection g with g;subst g;exact h.I i hi _ f y
   .rw[r]at g;cases g
  have D:∀a:Ú,(lot i).C a->∀l∈u,∀b,l.act.touch?=À b->b.loc=û a->False:=by
   intro a f l e b q g;rcases B l e b q with⟨x,r,_,y⟩|⟨c,r,_⟩
   .rw[r]at g;injection g with g;subst g;exact y i hi f
   .rw[r]at g;cases g
  exact⟨λa f=>((h.S i hi).fq a<|by rwa[<-(m i).O]).C λl e b q g=>(z a (Ç<|by rwa[<-(m i).O]) l e b q g).elim,λa f=>((h.S i hi).rd a<|by rwa[<-(m i).N]).r λl e b q g _=>(z a (Î<|by rwa[<-(m i).N]) l e b q g).elim,λa f=>((h.S i hi).C a<|by rwa[<-(m i).r]).C λl e b q g=>(D a (Ç<|by rwa[<-(m i).r]) l e b q g).elim,λa f=>((h.S i hi).r a<|by rwa[<-(m i).I]).r λl e b q g _=>(D a (Î<|by rwa[<-(m i).I]) l e b q g).elim⟩
 f:=G;l:=E;q l e:=by rw[s.r];exact(Ĝ.1 e).elim (h.q l)<|g l
 s p a c f g z:=by
  rcases mW f with⟨_,r⟩|⟨_,l,r,y,_⟩
  .exact h.s p a c r g z
  .rcases B l r a y with⟨x,D,_⟩|⟨x,_,_,D⟩
   .rw[D]at g;cases g
   .rw[D]at z;cases z
 n i hi a f:=by rw[(m i).K]at f;exact⟨(h.n i hi a f).1,λk z=>by rw[(m k).r];exact(h.n i hi a f).2 k z⟩
end
structure gA(l:fc):Prop where
 c:∀b,l.O b->¬l.I b
 Y:∀a,l.r a->¬l.N a
 N:∀a,l.C a->¬l.M a.block
 fx:∀b,l.M b->b<l.w.heap.size
 I:∀a,l.C a->a.block<l.w.heap.size
 S:∀a,l.K a->¬l.M a.block/\a.block<l.w.heap.size/\¬l.r a
def iW.M{Live Y:Nat->Prop}{c:Nat->fc}(h:iW n Live Y c w qJ)(b:Live i):gA {c i with w:=w} where
 c:=h.m i b;Y:=h.g i b;N a ha hb:=h.I i b _ hb<|h.e i b a ha;fx:=h.fx i b;I a ha:=h.N _<|h.e i b a ha;S a ha:=⟨λq=>h.I i b _ q (h.n i b a ha).1,h.N _ (h.n i b a ha).1,(h.n i b a ha).2 i b⟩
abbrev Jd:=fc->Ó->Prop
inductive fi(P:Õ)(main:Bool)(Stop:Jd):Jd
 |fB {l:fc} {g:Ó} (h:∀w₁,fG l l.w w₁->Stop {l with w:=w₁} g):fi P main Stop l g
 |jA {l:fc} {g:Ó} (G':Æ->Ó) (W':Æ->Æ) (E':Æ->Array ý) (L':Æ->fc) (iK:g.status=Ð)
  (h:∀w₁,fG l l.w w₁->Ù P main g w₁=aS (G' w₁) (W' w₁) (E' w₁)) (hd:∀w₁,fG l l.w w₁->mI l (L' w₁) w₁ (W' w₁) (E' w₁))
  (ih:∀w₁,fG l l.w w₁->fi P main Stop (L' w₁) (G' w₁)):fi P main Stop l g
instance:Nonempty fc:=⟨⟨λ_=>False,λ_=>False,λ_=>False,λ_=>False,λ_=>False,0,False,default⟩⟩
instance:Nonempty (Goroutine×World×Array Event×fc):=⟨(default,default,#[],Classical.choice inferInstance)⟩
section
variable{main:Bool}{Stop m:Jd}
def fi.mk{l:fc}(i:g.status=Ð) (h:∀a,fG l l.w a->∃b c d e,Ù P main g a=aS b c d/\mI l e a c d/\fi P main Stop e b):fi P main Stop l g:=by
 let p:=λ(a:Æ) (x:Goroutine×World×Array Event×fc)=>Ù P main g a=aS x.1 x.2.1 x.2.2.1/\mI l x.2.2.2 a x.2.1 x.2.2.1/\fi P main Stop x.2.2.2 x.1
 have f:∀a,fG l l.w a->p a (Classical.epsilon<|p a):=λa r=>Classical.epsilon_spec (let⟨b,c,d,e,h⟩:=h a r;⟨(b,c,d,e),h⟩);exact .jA (λa=>(Classical.epsilon<|p a).1) (λa=>(Classical.epsilon<|p a).2.1) (λa=>(Classical.epsilon<|p a).2.2.1) (λa=>(Classical.epsilon<|p a).2.2.2) i (λa r=>(f a r).1) (λa r=>(f a r).2.1) λa r=>(f a r).2.2
def fi.ki{l:fc}{w₁:Æ}(h:fi P main Stop l g)(r:fG l l.w w₁):fi P main Stop {l with w:=w₁} g:=by
 have e:∀{a b:Æ},fG {l with w:=w₁} a b->fG l a b:=λq=>⟨q.r,q.I,q.N,q.Y,q.S⟩;cases h with
 |fB h=>exact .fB λc d=>h c<|r.ff<|e d
 |jA f i j m n h o p=>
  exact .jA f i j m n (λc d=>h c<|r.ff<|e d) (λc d=>let q:=o c<|r.ff<|e d;⟨q.C,q.N,q.fx,q.rd,q.r,q.I,q.k,q.jV,q.M,q.S,q.c,q.f,q.i,q.b,q.g,q.q,q.h,q.Y⟩) λc d=>p c<|r.ff<|e d
def fi.fR(a:∀l g,Stop l g->m l g){l:fc}(h:fi P main Stop l g):fi P main m l g:=by
 induction h with
 |fB h=>exact .fB λb r=>a _ _<|h b r
 |jA b r c d e h f _ i=>exact .jA b r c d e h f i
def fi.ff{l:fc}(h:fi P main (fi P main Stop) l g):fi P main Stop l g:=by
 induction h with
 |fB h=>exact h _<|fG.fX _ _
 |jA a b c d e h f _ i=>exact .jA a b c d e h f i
def fi.lG(a:∀l g,Stop l g->fi P main m l g){l:fc}(h:fi P main Stop l g):fi P main m l g:=(h.fR a).ff
end
inductive gy where
 |fB:gy
 |jA (k:Æ->gy):gy
def XS(x:gy):gy->Prop
 |.fB=>False
 |.jA k=>∃w,x=k w
def XT:WellFounded XS:=⟨λa=>by
 induction a with
 |fB=>exact⟨_,λy h=>h.elim⟩
 |jA k b=>exact⟨_,λy ⟨w,h⟩=>h▸b w⟩⟩
def lk(P:Õ)(b:Bool)(c:Jd):gy->Jd
 |.fB,l,g=>∀a,fG l l.w a->c {l with w:=a} g
 |.jA k,l,g=>g.status=Ð/\∀a,fG l l.w a->∃d e f h,Ù P b g a=aS d e f/\mI l h a e f/\lk P b c (k a) h d
section
variable{main:Bool}{Stop:Jd}
theorem jq{l:fc}(h:fi P main Stop l g):∃tr,lk P main Stop tr l g:=by
 induction h with
 |fB h=>exact⟨.fB,h⟩
 |@jA l g G' W' E' L' iK h hd _ ih=>
  have b:∀a,∃tr,fG l l.w a->lk P main Stop tr (L' a) (G' a):=by
   intro a;by_cases r:fG l l.w a
   .grind
   .exact⟨.fB,λq=>absurd q r⟩
  refine⟨.jA λa=>Classical.choose<|b a,iK,λa r=>⟨G' a,W' a,E' a,L' a,h a r,hd a r,Classical.choose_spec (b a) r⟩⟩
end
theorem ag3{l:fc}{b:Nat->Prop}(d:∀j,X j->l.O j)(f:∀j,b j->l.I j){e:ý}(h:JZ X b e):yZ l e:=by
 rcases h with⟨a,c,g,i⟩|h|h
 .refine Ç ⟨a,c,?_⟩;grind
 .exact Î<|Ç h
 .exact Î<|Î<|Ç h
theorem ag4{b:Nat->Prop}(h:∀e∈V,JZ X b e)(d:Nat):ŭ d V=d:=by refine bq (λe c=> ?_) d;rcases h e c with⟨a,g,_⟩|h|⟨f,h⟩;all_goals grind
theorem gN{w':Æ}(h:w'.heap[a.block]?=w.heap[a.block]?):w'.cell? a=w.cell? a:=by unfold Ġ;rw[h]
def xo(h:u.heap[a.block]?=w.heap[a.block]?):u.frozen? a=w.frozen? a:=by unfold Ĉ;rw[h]
def ag5{t:(Nat->Prop)->Ó->Æ->Prop}{O:Nat->Prop}(h:vF P yQ X t O g w):∀l:fc,l.w=w->(∀j,O j->l.O j)->(∀j,X j->l.I j)->(∀j,l.O j->j<w.heap.size)->¬l.q-> fi P yQ (λa b=>∃f,t f b a.w/\(∀j,O j->f j)/\(∀j,f j->a.O j)/\(∀j,l.O j->a.O j)/\(∀j,a.O j->l.O j\/f j)/\(∀j,a.O j->l.O j\/w.heap.size<=j)/\a.I=l.I/\a.r=l.r/\a.N=l.N/\a.d=l.d/\a.q=l.q/\a.K=l.K) l g:=by
 induction h with
 |@fB O g w h=>
  intro l e i m _ _;refine .fB λb r=>⟨O,h b ⟨by rw[<-e];exact r.r,λj c=>by rw[r.I j (c.elim (λq=>Ç<|i j q) λq=>Î<|m j q),e]⟩,λ_ q=>q,i,λ_ q=>q,λ_ q=>Ç q,λ_ q=>Ç q,U,U,U,U,U,U⟩
 |@jA O g w G' W' E' f iK h hd _ ih=>
  intro l e i m C u;refine .mk iK λb r=> ?_;have n:yT (λj=>O j\/X j) w b:=⟨by rw[<-e];exact r.r,λj c=>by rw[r.I j (c.elim (λq=>Ç<|i j q) λq=>Î<|m j q),e]⟩;have D:=hd b n;have o:=n.r;have v:∀j,(l.O j\/f b j)->j<(W' b).heap.size:=λj c=>c.elim (λq=>Ô (C j q)<|õ o D.r)<|D.fx j;have p:∀j,j<b.heap.size->¬l.O j->(W' b).heap[j]?=b.heap[j]?:=λj c k=>D.jV j c λq=>k<|i j q;refine⟨G' b,W' b,E' b,{l with O:=λj=>l.O j\/f b j,w:=W' b},h b n,⟨D.r,λj c=>c.elim Ç λq=>(D.I j q).imp (i j) id,v,U,U,U,U,λj c k _=>p j c k,λa s k _=>gN<|p _ s k,λa s k=>xn<|p _ s k,D.N,D.S,D.Y,λx E=>ag3 (l:={l with O:=λj=>l.O j\/f b j,w:=W' b}) (λj q=>Î q) m<|D.C x E,(ag4 D.C _).symm,U,λq=>absurd q u,U⟩,?_⟩;have:=ih b n {l with O:=λj=>l.O j\/f b j,w:=W' b} U (λj q=>Î q) m v u;apply this.fR;rintro N Q ⟨F,G,B,H,I,J,L,M⟩;refine⟨F,G,λj q=>B j<|D.M j q,H,λj q=>I j<|Ç q,λj q=> ?_,λj q=> ?_,M⟩
  .rcases J j q with(z|z)|z
   .exact Ç z
   .exact Î<|B j z
   .exact Î z
  .rcases L j q with(z|z)|z
   .exact Ç z
   .rcases D.I j z with y|y
    .exact Ç<|i j y
    .exact Î<|õ o y
   .exact Î<|õ (õ o D.r) z
def kG(a:Ú):ý:=⟨û a,Ã,É⟩
def mX(a:Ú):ý:=⟨û a,É,É⟩
def jW(m:Mark):ý:=⟨ů m,Ã,É⟩
def gf:Int:=4294967296
def Dv(c:Nat):Array ý:=#[⟨.obj c,Ã,É⟩,⟨.obj c,É,É⟩]
section
variable(P:Õ)(main:Bool)
def Gu(m:Mark)(N:Jd):Jd:=λl g=>g.status=Ð/\∃a,(∀b,Ù P main g b=aS a b #[jW m])/\fi P main N l a
def XU(a:Ú)(N:Int->Jd):Jd:=λl g=>g.status=Ð/\∀v,∃c,(∀b:Æ,b.cell? a=À (Ć æ v)->Ù P main g b=aS c b #[kG a])/\fi P main (N v) l c
def O5(a:Ú)(d:Int)(N:Int->Jd):Jd:=λl g=>g.status=Ð/\∀v,∃c,(∀b:Æ,b.cell? a=À (Ć æ v)->b.frozen? a=Ã->Ù P main g b=aS c (b.setCell a<|Ć æ<|æ.wrap<|v+d) #[kG a,mX a])/\N (æ.wrap<|v+d) l c
def ag6(a:Ú)(v:Int)(N:Jd):Jd:=λl g=>g.status=Ð/\∃c,(∀(b:Æ) (x:Int),b.cell? a=À (Ć æ x)->b.frozen? a=Ã->Ù P main g b=aS c (b.setCell a<|Ć æ v) #[mX a])/\fi P main N l c
def ag7(a:Ú)(N:Jd):Jd:=λl g=>g.status=Ð/\g.offers=ë/\(∀b:Æ,b.cell? a=À (Ć ŗ 0)->Ù P main g b=aS {g with status:=Ů} b #[])/\
 ∃c,(∀(b:Æ) (n:Int),n≠0->b.cell? a=À (Ć ŗ n)->b.frozen? a=Ã->Ù P main g b=aS c (b.setCell a<|Ć ŗ<|n-1) (semEvents a))/\fi P main N l c
def ag8(a:Ú)(N:Jd):Jd:=λl g=>g.status=Ð/\mayWake P g=É/\∃c,c.status=Ð/\(∀(b:Æ) (n:Int),b.cell? a=À (Ć ŗ n)->b.frozen? a=Ã->Ù P main g b=aS c (b.setCell a<|Ć ŗ<|ŗ.wrap<|n+1) (semEvents a))/\N l c
def xp(c:Nat)(z:Â)(N:Option Â->Jd):Jd:=λl g=>g.status=Ð/\g.offers=ë/\(∀x,Ù P main g x=.comm g #[θ c z] É (.recv É) x #[])/\
 ∀x:Option Â,fi P main (N x) l {g with frame:=g.frame.finish (ſ #[x.getD z,Ľ x.isSome])}
def A6(c:Nat)(v:Â)(N:Jd):Jd:=λl g=>g.status=Ð/\g.offers=ë/\(∀a,∃b,Ù P main g a=.comm g #[scase c v b] É .send a #[])/\fi P main N l {g with frame:=g.frame.finish ľ}
def Kh(c:Nat)(N:Jd):Jd:=λl g=>g.status=Ð/\mayWake P g=É/\∃a,a.status=Ð/\(∀(b:Æ) cap buf s r tm,b.heap[c]?=À (χ cap buf Ã s r tm)->Ù P main g b=aS a (b.setChan c cap buf É s r tm) (Dv c))/\fi P main N l a
def pB(n:Nat):Jd:=λl g=>QuitsD P n l.d g
inductive SP where
 |fZ (n:Nat)
 |ld (v:Int) (m:Nat)
def Dw(a:Ú)(B:Nat)(d e:Int->Jd)(p:SP):Jd:=λl g=>∃T:SP->Ó->Prop,T p g/\∀p g,T p g->g.status=Ð/\match p with
 |.fZ (n+1)=>n+1<=B/\(T (.fZ 0) g\/∀b,∃c,Ù P main g b=aS c b #[]/\T (.fZ n) c)
 |.fZ 0=>∀v,∃c,(∀b:Æ,b.cell? a=À (Ć æ v)->Ù P main g b=aS c b #[kG a])/\(if 0<=v/\v<gf then v<1000000->fi P main (d v) l c else(gf<=v/\v<gf*2147483648/\v%gf<1000000)->∃m,m<=B/\T (.ld v m) c)
 |.ld v (m+1)=>gf<=v/\m+1<=B/\(T (.ld v 0) g\/∀b,∃c,Ù P main g b=aS c b #[]/\T (.ld v m) c)
 |.ld v 0=>gf<=v/\(∃c,(∀b:Æ,b.cell? a=À (Ć æ v)->b.frozen? a=Ã->Ù P main g b=aS c (b.setCell a<|Ć æ<|æ.wrap<|v+1) #[kG a,mX a])/\fi P main (e v) l c)/\
  ∃c,(∀(b:Æ) (x:Int),x≠v->b.cell? a=À (Ć æ x)->b.frozen? a=Ã->Ù P main g b=aS c b #[kG a])/\∃n,n<=B/\T (.fZ n) c
end
section
variable{P:Õ}{main:Bool}
def Ki{e f:Int->Jd}{p:SP}{l:fc}{w₁:Æ}(h:Dw P main a i e f p l g)(r:fG l l.w w₁):Dw P main a i e f p {l with w:=w₁} g:=by
 let⟨T,o,h⟩:=h;refine⟨T,o,λp g j=>⟨(h p g j).1,?_⟩⟩;have:=(h p g j).2;match p,this with
 |.fZ (n+1),q=>exact q
 |.fZ 0,q=>
  intro v;let⟨c,d,b⟩:=q v;refine⟨c,d,?_⟩;by_cases k:0<=v/\v<gf
  .rw[if_pos k]at b|-;exact λq=>(b q).ki r
  .rw[if_neg k]at b|-;exact b
 |.ld v (m+1),q=>exact q
 |.ld v 0,⟨q0,⟨c,d,b⟩,q⟩=>exact⟨q0,⟨c,d,b.ki r⟩,q⟩
end
inductive iC where
 |no|iD|sV (c:Nat) (z:Â)
inductive xq(g0:Ó):iC->Ó->Prop
 |gl {k:iC}:xq g0 k g0
 |n5 (h:g0.status=Ð) (ho:g0.offers=ë):xq g0 .iD {g0 with status:=Ů}
 |ui (c:Nat) (z:Â) (h:g0.status=Ð):xq g0 (.sV c z) (Γ g0 #[θ c z]<|.recv É)
 |nz (c:Nat) (z:Â) (h:g0.status=Ð):xq g0 (.sV c z) {Γ g0 #[θ c z] (.recv É)with status:=Ð}
section
variable{P:Õ}
theorem ag9(h:g.status=Ð\/g.status=Ğ)(w:Æ):g.again w=g:=by unfold ι;grind
theorem O6{a o:Ó}(h:o.status=Ð\/o.status=Ğ):ţ P g a w o=o:=by unfold ţ;grind [ag9]
def xq.Gv{g0 a b:Ó}{k:iC}(h:xq g0 k g)(d:g0.status=Ð\/g0.status=Ğ):xq g0 k (ţ P a b w g):=by
 cases h with
 |gl=>rw[O6 d];exact .gl
 |n5 h c=>
  unfold ţ;split
  .have:ι w {g0 with status:=Ů}=g0:=by
    let⟨z,e,st,f,i⟩:=g0;simp only at h c;subst h c;rfl
   rw[this];exact .gl
  .exact .n5 h c
 |ui c z h=>
  unfold ţ;split
  .unfold ι Γ;simp only[];split
   .exact .nz c z h
   .exact .ui c z h
  .exact .ui c z h
 |nz c z h=>
  rw[O6<|Ç U];exact .nz c z h
end
structure gO(P:Õ)(B0:Nat)(Y:Nat->Prop)(S:Nat->Jd)(tr:Nat->gy)(kp:Nat->iC)(lot:Nat->fc)(gs:Array Ó)(w:Æ)(t:ğ):Prop where
 r:iW B0 (λi=>i<gs.size) Y lot w t
 C:∀i g,gs[i]?=À g->∃g0,lk P (i==0) (S i) (tr i) (lot i) g0/\xq g0 (kp i) g/\(g0.status=Ð\/g0.status=Ğ)/\(g=g0\/tr i=.fB)
 I:∀j,gs.size<=j->Τ t j=0
def fy{α:Type}(f:Nat->α)(i:Nat)(x:α):Nat->α:=λk=>if k=i then x else f k
theorem gF{α:Type}(f:Nat->α)(i:Nat)(x:α):fy f i x i=x:=if_pos U
theorem fJ{α:Type}(f:Nat->α)(x:α)(h:k≠i):fy f i x k=f k:=if_neg h
section
variable{P:Õ}{B0:Nat}{Y:Nat->Prop}{S:Nat->Jd}{tr:Nat->gy}{kp:Nat->iC}{lot:Nat->fc}{gs:Array Ó}{w':Æ}{t:ğ}{sl:Option (Nat×Nat)}
theorem O7{a:Ó}(b:gs[i]?=À g)(h:Ù P (i==0) g w=aS a w' V): ∃gs',cZ P (ķ gs w sl) i=(ň<|ķ gs' w' sl,Í i g.frame.fn g.frame.place V)/\gs'.size=gs.size/\gs'[i]?=À a/\∀k,k≠i->gs'[k]?=gs[k]?.map (ţ P g a w'):=by refine⟨_,runT_crowd_go b h,fl,by simp[(Ë.1 b).1],λk c=> ?_⟩;grind
def gO.at(a:gO P B0 Y S tr kp lot gs w t)(d:Nat):gO P B0 Y S tr kp lot gs (w.at d) t:=⟨a.r.at d,a.C,a.I⟩
theorem gO.XV(f:gO P B0 Y S tr kp lot gs w t){a:Ó}{J:Jd}{T:gy}{K:iC}{d:fc}(h:gs[i]?=À g)(o:Ù P (i==0) g w=aS a w' V) (B:iW B0 (λi=>i<gs.size) Y (gw lot i d) w' (t++Í i g.frame.fn g.frame.place V)) (hF:lk P (i==0) J T d a) (p:a.status=Ð\/a.status=Ğ): ∃b,cZ P (ķ gs w sl) i=(ň<|ķ b w' sl,Í i g.frame.fn g.frame.place V)/\b.size=gs.size/\b[i]?=À a/\(∀k,k≠i->b[k]?=gs[k]?.map (ţ P g a w'))/\ gO P B0 Y (fy S i J) (fy tr i T) (fy kp i K) (gw lot i d) b w' (t++Í i g.frame.fn g.frame.place V):=by
 obtain⟨b,q,r,l,m⟩:=O7 h o;have C:=(Ë.1 h).1;refine⟨b,q,r,l,m,?_,λk x c=> ?_,λj D=> ?_⟩
 .grind
 .by_cases e:k=i
  .subst e;rw[l]at c;obtain rfl:=Ĥ c;rw[gF,gF,gF,gV];exact⟨a,hF,.gl,p,Ç U⟩
  .rw[m k e]at c;obtain⟨y,s,rfl⟩:=ģ.1 c;rw[fJ S _ e,fJ tr _ e,fJ kp _ e,gH lot _ e];let⟨g0,u,v,n,z⟩:=f.C k y s;refine⟨g0,u,v.Gv n,n,z.imp (λe=> ?_) id⟩;grind [O6]
 .rw[O4 Z t oB];exact f.I j Z
theorem aha{J:Jd}{k:Æ->gy}{l:fc}(h:lk P yQ J (.jA k) l g):g.status=Ð:=h.1
def gO.fq(f:gO P B0 Y S tr kp lot gs w t){k:Æ->gy}(m:gs[i]?=À g)(n:tr i=.jA k)(s:∀l g,S i l g->g.status=Ð\/g.status=Ğ): ∃c w' d h,cZ P (ķ gs w sl) i=(ň<|ķ c w' sl,Í i g.frame.fn g.frame.place d)/\c.size=gs.size/\(∃b,c[i]?=À b/\(b.status=Ð\/b.status=Ğ))/\(∀k,k≠i->∃a j:Ó,c[k]?=gs[k]?.map (ţ P a j w'))/\mI (lot i) h w w' d/\ gO P B0 Y S (fy tr i<|k w) kp (gw lot i h) c w' (t++Í i g.frame.fn g.frame.place d):=by
 have o:=(Ë.1 m).1;let⟨g0,hF,F,_,u⟩:=f.C i g m;obtain rfl:g=g0:=u.resolve_right (by rw[n];simp);rw[n]at hF;let⟨G,hF⟩:=hF;let⟨b,w',d,h,v,p,e⟩:=hF w<|f.r.r i o;have q:b.status=Ð\/b.status=Ğ:=by
  cases j:k w with
  |fB=>rw[j]at e;exact s _ _<|e _<|fG.fX _ _
  |jA r=>rw[j]at e;exact Ç e.1
 obtain⟨c,x,y,z,B,r⟩:=f.XV m v (f.r.ag1 o p _ _) e q;refine⟨c,w',d,h,x,y,⟨b,z,q⟩,λj C=>⟨g,b,B j C⟩,p,?_⟩;have D:fy S i (S i)=S:=by funext j;unfold fy;split<;>simp[*]
 have E:fy kp i (kp i)=kp:=by funext j;unfold fy;split<;>simp[*]
 rwa[D,E]at r
theorem gO.qT(c:gO P B0 Y S tr kp lot gs w t){a:Ó}{J:Jd}{K:iC}{T:gy}(l:gs[i]?=À g)(m:Ù P (i==0) g w=aS a w' V)(n:qe (λi=>i<gs.size) Y lot w w') (hF:lk P (i==0) J T {lot i with d:=ŭ (lot i).d V,w:=w'} a) (o:a.status=Ð\/a.status=Ğ) (p:∀e∈V,(∀b,(è e).touch?=À b->Gt (λi=>i<gs.size) Y lot b)/\(è e).low w.heap.size) (q:∀r,¬eG r (t++Í i g.frame.fn g.frame.place V)): ∃gs',cZ P (ķ gs w sl) i=(ň<|ķ gs' w' sl,Í i g.frame.fn g.frame.place V)/\gs'.size=gs.size/\gs'[i]?=À a/\(∀k,k≠i->gs'[k]?=gs[k]?.map (ţ P g a w'))/\ gO P B0 Y (fy S i J) (fy tr i T) (fy kp i K) (gw lot i {lot i with d:=ŭ (lot i).d V,w:=w'}) gs' w' (t++Í i g.frame.fn g.frame.place V):=by
 refine c.XV l m (c.r.G (λk=> ?_) n (λh f b j=> ?_) (λh f=> ?_) q λk h=> ?_) hF o
 .by_cases e:k=i
  .subst e;rw[gV];exact⟨U,U,U,U,U,Î U⟩
  .grind [gH,vK.fX]
 .obtain⟨e,j,rfl⟩:=í f;grind
 .obtain⟨e,j,rfl⟩:=í f;exact(p e j).2
 .by_cases e:k=i
  .subst e;rw[gV,Deaf_own,c.r.f k h]
  .rw[gH lot _ e,O4 e t oB];exact c.r.f k h
def gO.O8(h:gO P B0 Y S tr kp lot gs w t)(p:gs[i]?=À g)(x:i≠0)(l:g.status=Ð)(q:kp i=.no)(y:tr i=.fB)(z:S i=pB P n): ∃c f b,n=b+1/\cZ P (ķ gs w sl) i=(ň<|ķ c w sl,Í i g.frame.fn g.frame.place f)/\c.size=gs.size/\(∀k,k≠i->∃a e:Ó,c[k]?=gs[k]?.map (ţ P a e w))/\(∀e∈f,e.mute=É)/\ gO P B0 Y (fy S i<|pB P b) tr kp (gw lot i {lot i with d:=ŭ (lot i).d f,w:=w}) c w (t++Í i g.frame.fn g.frame.place f):=by
 let⟨g0,hF,r,L,_⟩:=h.C i g p;have B:g=g0:=by
  rw[q]at r;cases r with
  |gl=>rfl
 subst B;rw[y,z]at hF;have s:=hF w<|h.r.r i<|(Ë.1 p).1;cases n with
 |zero=>rw[s.1]at l;cases l
 |succ n=>
  rcases s with⟨C,_⟩|⟨_,D,f,a,E,u⟩
  .rw[C]at l;cases l
  have m:(i==0)=Ã:=by simpa using x
  have F:fy kp i .no=kp:=by funext j;unfold fy;split<;>simp[*]
  have G:fy tr i .fB=tr:=by funext j;unfold fy;split<;>simp[*]
  obtain⟨c,H,I,_,K,v⟩:=h.qT (J:=pB P n) (T:=.fB) p (by rw[m];exact E w) (qe.fX _ _ _ _) (λ_ _=>u) u.status (λe o=>⟨λb m=>(by rw[ek<|a e o]at m;cases m),low_mute (a e o) _⟩) (A5 h.r.l λM b=>by obtain⟨e,o,rfl⟩:=í b;exact ek<|a e o);rw[F,G]at v;exact⟨c,f,n,U,H,I,λk q=>⟨g,D,K k q⟩,a,v⟩
end
def xr(u:ğ):Prop:=∀a∈u,a.act.touch?=ë/\∀m,a.act≠Ř m
theorem ahb(t:ğ)(a:c8)(b:a.act≠Ř cL)(c:a.act≠Ř dA)(j:Nat):Τ (t.push a) j=Τ t j:=by
 have d:t.push a=t++#[a]:=fl
 unfold Τ;rw[d,show(t++#[a]).size=t.size+1 by simp];show(match(t++#[a])[t.size]? with
  |some {g:=h,act:=Ř cL, .. }=>if h=j then(t++#[a]).deaf j t.size+1 else(t++#[a]).deaf j t.size
  |some {g:=h,act:=Ř dA, .. }=>if h=j then(t++#[a]).deaf j t.size-1 else(t++#[a]).deaf j t.size
  |_=>(t++#[a]).deaf j t.size)=_
 have e:(t++#[a])[t.size]?=À a:=fl
 rw[e];let⟨g,f,i,k⟩:=a;simp only at b c;split
 .grind
 .grind
 .exact cO<|ß _
def XW(t:ğ):∀(u:List c8),(∀a∈u,a.act≠Ř cL/\a.act≠Ř dA)->∀j,Τ (t++u.toArray) j=Τ t j
 |[],_,j=>by simp
 |a::u,h,j=>by
  have e:t++(a::u).toArray=(t.push a)++u.toArray:=by apply Array.ext';simp
  rw[e,XW (t.push a) u (λx b=>h x<|by simp[b]) j];exact ahb t a (h a fl).1 (h a fl).2 j
def Kj{u:ğ}(h:xr u)(j:Nat):Τ (qJ++u) j=Τ qJ j:=by have:=XW qJ u.toList (λa b=>⟨(h a<|by simpa using b).2 _,(h a<|by simpa using b).2 _⟩) j;simpa using this
section
variable{S:Nat->Jd}{C:Nat->gy}{B:Nat->iC}{lot:Nat->fc}{u:ğ}{sl:Option (Nat×Nat)}
def iW.ahc{Live:Nat->Prop}(h:iW i Live X lot w qJ)(f:qe Live X lot w W)(c:xr u)(g:∀a∈u,a.act.low w.heap.size):iW i Live X lot W (qJ++u):= h.G (λk=>vK.fX _ _) f (λa d b e=>by rw[(c a d).1]at e;cases e) g (A5 h.l λa d=>(c a d).1) λk b=>by rw[Kj c];exact h.f k b
def Kk{Live:Nat->Prop}{r:Nat}{x:Bool}(y:X i)(p:w.heap[i]?=À (χ n d yQ j r x))(f g h:Nat)(l:Array Â)(m o:Bool):qe Live X lot w (w.setChan i f l m g h o):=by
 have q:∀b,b≠i->(w.setChan i f l m g h o).heap[b]?=w.heap[b]?:=λb u=>by unfold au;simp only;exact Ï<|ą u
 have v:(w.setChan i f l m g h o).heap[i]?=À (χ f l m g h o):=by unfold au;simp[(Ë.1 p).1]
 refine⟨by unfold au;simp,λb u=>q b λe=>u<|e▸y,λk _ a _=> ?_,λk _ a _=> ?_,λa t=> ?_⟩
 .by_cases e:a.block=i
  .unfold Ġ;rw[e,v,p]
  .unfold Ġ;rw[q _ e]
 .by_cases e:a.block=i
  .unfold Ĉ;rw[e,v,p]
  .unfold Ĉ;rw[q _ e]
 .by_cases e:a.block=i
  .unfold Ġ at t;rw[e,p]at t;cases t
  .have:(w.setChan i f l m g h o).cell? a=w.cell? a:=by unfold Ġ;rw[q _ e]
   rwa[this]
def gO.G(b:gO P i X S C B lot E w qJ){J:Jd}{T:gy}{K:iC}(d:n<E.size)(f:qe (λn=>n<E.size) X lot w W)(c:xr u)(h:∀l∈u,l.act.low w.heap.size) (hF:lk P (n==0) J T (lot n) g) (m:g.status=Ð\/g.status=Ğ): gO P i X (fy S n J) (fy C n T) (fy B n K) lot (E.setIfInBounds n g) W (qJ++u):=by
 refine⟨?_,λk x a=> ?_,λj o=> ?_⟩
 .rw[show(λj=>j<(E.setIfInBounds n g).size)=(λj=>j<E.size) by simp];exact b.r.ahc f c h
 .by_cases e:k=n
  .subst e;rw[Ò d]at a;obtain rfl:=Ĥ a;rw[gF,gF,gF];exact⟨_,hF,.gl,m,Ç U⟩
  .rw[Ï<|ą e]at a;rw[fJ S _ e,fJ C _ e,fJ B _ e];exact b.C k x a
 .rw[Kj c];exact b.I j<|by simpa using o
def O9{γ δ:Type}{f:γ->List δ}:∀{l:List γ},(∀x∈l,f x=[])->l.flatMap f=[]
 |[],_=>rfl
 |x::l,h=>by rw[aV,h x fl,O9 λy a=>h y (by simp[a])];rfl
def za(r:Nat)(b:Bool)(g:Ó):Prop:=g.status=Ů/\∃a d,g.offers=À (a,d)/\∃c∈a,(c.send.isSome==b)=É/\(match c.chan with|eu (À r')=>r'==r|_=>Ã)=É
theorem XX{r:Nat}{E:Array Ó}(h:∀(i:Nat) (g:Ó),E[i]?=À g->¬za r yQ g):Η E r yQ=[]:=by
 unfold Η;refine O9 λx m=> ?_;let⟨g,i⟩:=x;have d:E[i]?=À g:=by grind
 simp only[];split
 .rename_i b e f j;rw[aj,Υ];intro y n a;let⟨c,k⟩:=y;have l:c∈b:=by
   grind
  simp only[ě]at a;exact h i g d ⟨f,b,e,j,c,l,a.1,by have:=a.2;revert this;cases c.chan<;>first|exact id|(rename_i q;cases q<;>exact id)⟩
 .rfl
def XY{γ δ:Type}(f:γ×Nat->List δ):∀(L:List γ) (n h:Nat) (x:γ),(∀y k,k≠h->(y,k)∈L.zipIdx n->f (y,k)=[])->n<=h->L[h-n]?=À x->(L.zipIdx n).flatMap f=f (x,h)
 |[],n,h,x,_,_,hx=>by simp at hx
 |a::L,n,h,x,hf,hn,hx=>by
  rw[Ĭ,aV];by_cases e:h=n
  .subst e;have:a=x:=by simpa using hx
   subst this;rw[O9 ?_,List.append_nil];intro y b;let⟨y,k⟩:=y;refine hf y k ?_ (by rw[Ĭ];exact ò _ b);have:=List.le_snd_of_mem_zipIdx b;simp only at this;omega
  .rw[hf a n Z (by rw[Ĭ];exact î ..),List.nil_append];refine XY f L (n+1) h x (λy k c b=>hf y k c<|by rw[Ĭ];exact ò _ b) Z ?_;have b:h-n=(h-(n+1))+1:=Z
   rw[b]at hx;simpa using hx
theorem ahd{E:Array Ó}(l:E[n]?=À g)(m:g.status=Ů)(o:g.offers=À (#[θ i z],.recv É))(p:∀(a:Nat) (b:Ó),a≠n->E[a]?=À b->¬za i Ã b):Η E i Ã=[(n,0)]:=by
 unfold Η;have e:E.zipIdx.toList=E.toList.zipIdx:=fl
 rw[e];rw[XY _ E.toList 0 n g (λy k r B=> ?_) (dC _) (by simpa using l)]
 .simp[m,o,θ]
 .have s:E[k]?=À y:=by
   grind
  simp only[];split
  .rename_i j t u v;rw[aj,Υ];intro x C d;let⟨f,D⟩:=x;have w:f∈j:=by
    grind
   simp only[ě]at d;exact p k y r s ⟨u,j,t,v,f,w,d.1,by have:=d.2;revert this;cases f.chan<;>first|exact id|(rename_i q;cases q<;>exact id)⟩
  .rfl
theorem Pa(h:(E.setIfInBounds i ph)[k]?=À g):g.status=Ğ\/(k≠i/\E[k]?=À g):=by
 by_cases e:k=i
 .subst e;rw[Ś]at h;simp only[if_true]at h;split at h
  .left;obtain rfl:=Ĥ h;rfl
  .cases h
 .grind
theorem gO.Pd(l:gO P i X S C B lot E w qJ)(c a:Nat):Η (E.setIfInBounds a ph) c É=[]:=by
 refine XX λk x m=> ?_;rintro⟨d,p,r,b,n,f,o,_⟩;rcases Pa m with q|⟨_,q⟩
 .grind
 .let⟨g0,_,g,j,_⟩:=l.C k x q;generalize B k=K at g;cases g with
  |gl=>rw[d]at j;rcases j with e|e<;>cases e
  |n5 h e=>simp only[e]at b;cases b
  |ui e z h=>
   simp only[Γ,ž,Prod.mk.injEq]at b;rw[<-b.1]at f;have:n=θ e z:=by simpa using f
   subst this;cases o
  |nz e z h=>cases d
def gO.Pe(e:gO P i X S C B lot E w qJ){N:Option Â->Jd}(f:E[n]?=À g)(k:g.status=Ð)(l:B n=.sV j z)(m:C n=.fB)(o:S n=xp P (n==0) j z N): ∃a,lk P (n==0) (S n) (C n) (lot n) a/\a.status=Ð/\a.offers=ë/\Ù P (n==0) g w=.comm a #[θ j z] É (.recv É) w #[]/\∀x:Option Â,fi P (n==0) (N x) (lot n) {a with frame:=a.frame.finish (ſ #[x.getD z,Ľ x.isSome])}:=by
 let⟨a,hF,b,_,_⟩:=e.C n g f;have p:=hF;rw[o,m]at hF;let⟨x,q,d,r⟩:=hF _<|fG.fX _ _;rw[l]at b;refine⟨a,p,x,q,?_,r⟩;cases b with
 |gl=>exact d w
 |ui j z h=>cases k
 |nz j z h=>rw[stepG_tries];rw[show({a with status:=Ð}:Ó)=a by cases a;simp only at x;subst x;rfl];exact d w
def zd{g0:Ó}{a:Array CommCase}{b:CommShape}{ok:Bool}(c:g0.status=Ð)(d:g0.offers=ë):g0.finishComm P a b h v ok={g0 with frame:=g0.frame.finish (commResult a b h v ok)}:=by let⟨f,a,st,e,o⟩:=g0;simp only at c d;subst c d;rfl
def gO.nA(e:gO P i X S C B lot E w qJ){N:Option Â->Jd}(h:E[n]?=À g)(G:g.status=Ð)(l:B n=.sV j z)(H:C n=.fB)(I:S n=xp P (n==0) j z N)(p:X j){r:Nat}{o:Bool}(q:w.heap[j]?=À (χ b d yQ m r o))(t:d[0]?=À v)(K:iC): ∃a u T f,cZ P (ķ E w sl) n=(ň<|ķ a (w.setChan j b (d.extract 1 d.size) yQ m (r+1) o) sl,u)/\a.size=E.size/\a[n]?=À f/\f.status=Ð/\(∀k,k≠n->a[k]?=E[k]?)/\xr u/\ gO P i X (fy S n<|N<|À v) (fy C n T) (fy B n K) lot a (w.setChan j b (d.extract 1 d.size) yQ m (r+1) o) (qJ++u):=by
 have x:=(Ë.1 h).1;let⟨g0,_,f,y,J,L⟩:=e.Pe h G l H I;have D:d.getD 0 ľ=v:=by simp[ĩ,t]
 have M:=crowd_recv_buf (sl:=sl) h J q ((Ë.1 t).1)<|e.Pd j n;let⟨T,O⟩:=jq<|L<|À v;refine⟨_,_,T,{g0 with frame:=g0.frame.finish (ſ #[v,Ľ É])},M,fl,?_,f,λk l=>Ï<|ą l,?_,?_⟩
 .rw[zd f y,D,Ò x];rfl
 .intro F a;simp[Í]at a;rcases a with rfl|rfl<;>exact⟨U,fl⟩
 .rw[zd f y,D];refine e.G x (Kk p q _ _ _ _ _ _) ?_ ?_ O<|Ç f
  .intro F a;simp[Í]at a;rcases a with rfl|rfl<;>exact⟨U,fl⟩
  .intro F a;simp[Í]at a;rcases a with rfl|rfl<;>exact e.r.N j p
def gO.jh(e:gO P i X S C B lot E w qJ){N:Option Â->Jd}(h:E[n]?=À g)(q:g.status=Ð)(l:B n=.sV j z)(t:C n=.fB)(v:S n=xp P (n==0) j z N)(x:X j){r:Nat}(y:w.heap[j]?=À (χ b #[] É k r yQ))(K:iC): ∃d u T f,cZ P (ķ E w sl) n=(ň<|ķ d w sl,u)/\d.size=E.size/\d[n]?=À f/\f.status=Ð/\(∀a,a≠n->d[a]?=E[a]?)/\xr u/\ gO P i X (fy S n<|N ë) (fy C n T) (fy B n K) lot d w (qJ++u):=by
 have m:=(Ë.1 h).1;let⟨g0,_,f,o,D,F⟩:=e.Pe h q l t v;let⟨T,G⟩:=jq<|F ë;refine⟨_,_,T,{g0 with frame:=g0.frame.finish (ſ #[z,Ľ Ã])},crowd_recv_closed (sl:=sl) h D y<|e.Pd j n,fl,?_,f,λa l=>Ï<|ą l,?_,?_⟩
 .rw[zd f o,Ò m];rfl
 .intro p d;simp[Í]at d;subst d;exact⟨U,fl⟩
 .rw[zd f o];refine e.G m (qe.fX _ _ _ _) ?_ ?_ G<|Ç f
  .intro p d;simp[Í]at d;subst d;exact⟨U,fl⟩
  .intro p d;simp[Í]at d;subst d;exact e.r.N j x
def gO.ahe(f:gO P i X S C B lot E w qJ){N:Option Â->Jd}(m:E[n]?=À g)(u:g.status=Ð)(h:B n=.sV j z)(o:C n=.fB)(v:S n=xp P (n==0) j z N){r:Nat}(p:w.heap[j]?=À (χ b #[] Ã k r yQ)): ∃d e,cZ P (ķ E w sl) n=(ň<|ķ d w sl,#[])/\d.size=E.size/\d[n]?=À e/\e.status=Ů/\(∀a,a≠n->d[a]?=E[a]?)/\gO P i X S C B lot d w qJ:=by
 have q:=(Ë.1 m).1;let⟨g0,hF,t,G,y,H⟩:=f.Pe m u h o v;have D:=crowd_waits (sl:=sl) m y (λd e=>by
  have:d=θ j z:=by simpa using e
  subst this;exact⟨by simp[illMade,θ,p],by simp[ways,θ,p,f.Pd j n]⟩)
 refine⟨_,Γ g0 #[θ j z]<|.recv É,?_,fl,Ò q,U,λa h=>Ï<|ą h,?_,λa x l=> ?_,λd F=>f.I d<|by simpa using F⟩
 .rw[D];rfl
 .rw[show(λd=>d<(E.setIfInBounds n<|Γ g0 #[θ j z]<|.recv É).size)=(λd=>d<E.size) by simp];exact f.r
 .by_cases e:a=n
  .subst e;rw[Ò q]at l;obtain rfl:=Ĥ l;refine⟨g0,hF,?_,Ç t,Î o⟩;rw[h];exact .ui j z t
  .rw[Ï<|ą e]at l;exact f.C a x l
def gO.iL(f:gO P i X S C B lot E w qJ){N:Jd}(h:E[n]?=À g)(l:B n=.no)(F:C n=.fB)(G:S n=A6 P (n==0) b v N)(p:X b){r:Nat}(t:w.heap[b]?=À (χ m d Ã J r yQ))(H:d.size<m) (I:∀(k:Nat) (x:Ó),E[k]?=À x->¬za b Ã x): ∃e u T a,cZ P (ķ E w sl) n=(ň<|ķ e (w.setChan b m (d.push v) Ã (J+1) r yQ) sl,u)/\e.size=E.size/\e[n]?=À a/\a.status=Ð/\(∀k,k≠n->e[k]?=E[k]?)/\xr u/\ gO P i X (fy S n N) (fy C n T) B lot e (w.setChan b m (d.push v) Ã (J+1) r yQ) (qJ++u):=by
 have y:=(Ë.1 h).1;let⟨g0,hF,z,_,_⟩:=f.C n g h;rw[l]at z;cases z with
 |gl=>
  rw[G,F]at hF;let⟨a,D,o,K⟩:=hF _<|fG.fX _ _;let⟨V,o⟩:=o w;have L:Η (E.setIfInBounds n ph) b Ã=[]:=XX λk x M=>by
   rcases Pa M with q|⟨_,q⟩
   .rintro⟨e,_⟩;rw[q]at e;cases e
   .exact I k x q
  let⟨T,O⟩:=jq K;have Q:fy B n .no=B:=by funext j;unfold fy;split<;>simp[*]
  refine⟨_,_,T,{g with frame:=g.frame.finish ľ},crowd_send_room (sl:=sl) h o t H L,fl,?_,a,λk l=>Ï<|ą l,?_,?_⟩
  .rw[zd a D,Ò y];rfl
  .intro q e;simp[Í]at e;rcases e with rfl|rfl<;>exact⟨U,fl⟩
  .rw[zd a D,<-Q];refine f.G y (Kk p t _ _ _ _ _ _) ?_ ?_ O<|Ç a
   .intro q e;simp[Í]at e;rcases e with rfl|rfl<;>exact⟨U,fl⟩
   .intro q e;simp[Í]at e;rcases e with rfl|rfl<;>exact f.r.N b p
def gO.ahf(o:gO P i X S C B lot E w qJ){p:Ó}{N:Jd}{D:Option Â->Jd}(F:E[n]?=À g)(f:B n=.no)(ht:C n=.fB)(hs:S n=A6 P (n==0) b v N)(L:X b){r:Nat}(M:w.heap[b]?=À (χ J d Ã j9 r yQ)) (G:j≠n) (t:E[j]?=À p) (O:p.status=Ů) (Kl:B j=.sV b z) (Pf:C j=.fB) (Km:S j=xp P (j==0) b z D) (K:iC) (hp:∀(k:Nat) (x:Ó),k≠j->E[k]?=À x->¬za b Ã x): ∃e u T y h q,cZ P (ķ E w sl) n=(ň<|ķ e (w.setChan b J d Ã (j9+1) (r+1) yQ) sl,u)/\e.size=E.size/\e[n]?=À h/\h.status=Ð/\e[j]?=À q/\q.status=Ð/\(∀k,k≠n->k≠j->e[k]?=E[k]?)/\xr u/\ gO P i X (fy (fy S j<|D<|À v) n N) (fy (fy C j y) n T) (fy (fy B j K) n .no) lot e (w.setChan b J d Ã (j9+1) (r+1) yQ) (qJ++u):=by
 have Q:=(Ë.1 F).1;have V:=(Ë.1 t).1;let⟨g0,hF,W,_,_⟩:=o.C n g F;let⟨a,Y,XZ,avn,_⟩:=o.C j p t;rw[f]at W;rw[Kl]at XZ;cases W with
 |gl=>
  rw[hs,ht]at hF;let⟨H,h2,I,h4⟩:=hF _<|fG.fX _ _;let⟨z',I⟩:=I w;rw[Km,Pf]at Y;let⟨l,k2,k3,k4⟩:=Y _<|fG.fX _ _;have Dx:p=Γ a #[θ b z] (.recv É):=by
   cases XZ with
   |gl=>rw[O]at l;cases l
   |ui _ _ h=>rfl
   |nz _ _ h=>cases O
  subst Dx;have hpn:Η (E.setIfInBounds n ph) b Ã=[(j,0)]:=ahd (by rwa[Ï<|ą G]) U U λk x f hx=>by
   rcases Pa hx with q|⟨_,q⟩
   .rintro⟨e,_⟩;rw[q]at e;cases e
   .exact hp k x f q
  have Pg:=crowd_send_meets (sl:=sl) F I M G t hpn;let⟨T,hT⟩:=jq h4;let⟨y,hTj⟩:=jq<|k4<|À v;rw[zd H h2,zd l k2]at Pg;have q:∀{h:c8},h∈Í n g.frame.fn g.frame.place #[]++#[{g:=n,fn:=g.frame.fn,pos:=g.frame.place,act:=.send b j9},{g:=j,fn:=a.frame.fn,pos:=a.frame.place,act:=.recv b r J},{g:=n,fn:=g.frame.fn,pos:=g.frame.place,act:=.sendDone b j9},{g:=j,fn:=a.frame.fn,pos:=a.frame.place,act:=.recvDone b r}]->(h.act.touch?=ë/\∀m,h.act≠Ř m)/\h.act.low w.heap.size:=by intro h e;simp[Í]at e;rcases e with rfl|rfl|rfl|rfl<;>exact⟨⟨U,fl⟩,o.r.N b L⟩
  refine⟨_,_,T,y,{g with frame:=g.frame.finish ľ},{a with frame:=a.frame.finish (ſ #[v,Ľ É])},Pg,fl,?_,H,?_,l,λk f uj=> ?_,λh e=>(q e).1,?_⟩
  .rw[Ò (by simpa using Q)];rfl
  .rw[Ï<|ą G,Ò V];rfl
  .rw[Ï<|ą f,Ï<|ą uj]
  .have m:gO P i X (fy S j<|D<|À v) (fy C j y) (fy B j K) lot (E.setIfInBounds j {a with frame:=a.frame.finish (ſ #[v,Ľ É])}) w (qJ++#[]):=o.G V (qe.fX _ _ _ _) (λh e=>by simp at e) (λh e=>by simp at e) hTj<|Ç l;rw[ď]at m;refine m.G (by simpa using Q) (Kk L M _ _ _ _ _ _) (λh e=>(q e).1) (λh e=>(q e).2) hT<|Ç H
theorem gO.kZ(o:gO P i X S C B lot E w qJ){N:Jd}(I:E[n]?=À g)(K:B n=.no)(ht:C n=.fB)(hs:S n=Kh P (n==0) J N)(L:X J)(hB:i<=J){r:Nat}(O:w.heap[J]?=À (χ j9 q Ã j7 r yQ)): ∃t u T G,cZ P (ķ E w sl) n=(ň<|ķ t (w.setChan J j9 q É j7 r yQ) sl,u)/\t.size=E.size/\t[n]?=À G/\G.status=Ð/\(∀k x,k≠n->E[k]?=À x->t[k]?=À (x.again<|w.setChan J j9 q É j7 r yQ))/\(∀l∈u,l.g=n)/\(∀l∈u,∀b,l.act.touch?=À b->b.loc=.obj J/\b.kind=Ŕ)/\(∀l∈u,∀m,l.act≠Ř m)/\ gO P i X (fy S n N) (fy C n T) B (gw lot n {lot n with w:=w.setChan J j9 q É j7 r yQ}) t (w.setChan J j9 q É j7 r yQ) (qJ++u):=by
 have H:=(Ë.1 I).1;have Q:=o.r.N J L;let⟨g0,hF,V,_,_⟩:=o.C n g I;rw[K]at V;cases V with
 |gl=>
  rw[hs,ht]at hF;let⟨h1,h2,G,M,h4,h5⟩:=hF w<|o.r.r n H;have v:=Kk (lot:=lot) (Live:=λn=>n<E.size) L O j9 j7 r q É yQ;have y:fG (lot n) w (w.setChan J j9 q É j7 r yQ):=⟨dB v.r.symm,λj hj=>v.jV j<|o.r.I n H j hj,λa z=>v.M n H a z,λa z=>v.N n H a z,λa _=>v.I a⟩;let⟨T,hT⟩:=jq<|h5.ki ⟨y.r,y.I,y.N,y.Y,y.S⟩;have W:ŭ (lot n).d (Dv J)=(lot n).d:=bq (λe f=>by simp[Dv]at f;grind) _;have D:∀e∈Dv J,(∀b,(è e).touch?=À b->b.loc=.obj J/\b.kind=Ŕ)/\(è e).low w.heap.size:=by
   intro e f;simp[Dv]at f;rcases f with rfl|rfl
   .exact⟨λb h=>by simp[è,ÿ]at h;subst h;exact⟨U,U⟩,Q⟩
   .exact⟨λb h=>by simp[è,ÿ]at h,Q⟩
  have e2:fy B n .no=B:=by funext j;unfold fy;split<;>simp[*]
  obtain⟨t,q1,q2,q3,q4,Y⟩:=o.qT I (h4 w j9 q j7 r yQ O) v (by rwa[W]) (Ç M) (λe f=>⟨λb h=>Î ⟨J,((D e f).1 b h).1,L,((D e f).1 b h).2⟩,(D e f).2⟩) (O2 o.r.l oB λl F b h=>by obtain⟨e,f,rfl⟩:=í F;let⟨z1,z2⟩:=(D e f).1 b h;refine Î (Î ⟨z2,λp a z hl rL=> ?_⟩);have:=o.r.s p a J z (by rw[hl,z1]) rL;omega);rw[W,e2]at Y;refine⟨t,_,T,G,q1,q2,q3,M,λk x K p=> ?_,oB,λl F b h=> ?_,λl F=> ?_,Y⟩
  .rw[q4 k K,p];simp only[bH,ž];unfold ţ;rw[if_pos (by simp[h2,M])]
  .obtain⟨e,f,rfl⟩:=í F;exact(D e f).1 b h
  .obtain⟨e,f,rfl⟩:=í F;simp[Dv]at f;intro m;rcases f with rfl|rfl<;>simp[è]
end
def fQ(b:Nat):Ú:=⟨b,0,ë⟩
def gY(b:Nat):Ú:=⟨b,1,ë⟩
inductive GS where
 |cl (c reg:Nat)
 |jH (reg:Nat)
 |gZ (r s:Nat)
def GS.st:GS->Int
 |.cl c a=>c*gf+a
 |.jH a=>a
 |.gZ _ _=>0
def GS.sm:GS->Int
 |.gZ _ s=>s
 |_=>0
def GS.ok:GS->Prop
 |.cl c r=>c<1000000/\r<1000000/\(c=0->r=0)
 |.jH r=>0<r/\r<1000000
 |.gZ r s=>r+s<1000000
structure ie(w:Æ)(b:Nat)(G:GS):Prop where
 C:w.cell? (fQ b)=À (Ć æ G.st)
 M:w.cell? (gY b)=À (Ć ŗ G.sm)
 I:w.frozen? (fQ b)=Ã
 N:w.frozen? (gY b)=Ã
 r:G.ok
theorem A7(h:w.cell? a=À x):(w.setCell a v).cell? a=À v:=by unfold Ġ at h|-;unfold ĉ;grind
theorem ze(h:a.block≠p.block\/a.off≠p.off):(w.setCell a v).cell? p=w.cell? p:=by unfold Ġ ĉ;grind
theorem Pj:kY (w.setCell a v) b=kY w b:=by unfold kY ĉ;grind
def sW:(w.setCell a v).frozen? p=w.frozen? p:=by simp_all
theorem lA(h:j≠a.block):(w.setCell a v).heap[j]?=w.heap[j]?:=by unfold ĉ;grind
def kg:(w.setCell a v).heap.size=w.heap.size:=by simp_all
theorem zf(h:(w.cell? p).isSome=É):((w.setCell a v).cell? p).isSome=É:=by unfold Ġ ĉ at*;grind
theorem ahg{Live Y:Nat->Prop}{c:Nat->fc}(f:Y a.block)(l:a.spot=ë)(m:∀k,Live k->¬(c k).C a)(g:∀k,Live k->∀b,(c k).C b->b.spot=ë):qe Live Y c w (w.setCell a v):=by
 refine⟨kg,λj h=>lA λe=>h<|e▸f,λk i b d=>ze ?_,λ_ _ _ _=>sW,λb d=>zf d⟩;by_cases e:a.block=b.block
 .right;intro n;have:=g k i b d;let⟨o,p,q⟩:=b;let⟨r,s,t⟩:=a;grind
 .exact Ç e
section
variable{b:Nat}{G:GS}
def ie.vL(h:ie w b G)(a:u.cell? (fQ b)=w.cell? (fQ b))(c:u.cell? (gY b)=w.cell? (gY b))(d:u.frozen? (fQ b)=w.frozen? (fQ b))(e:u.frozen? (gY b)=w.frozen? (gY b)):ie u b G:= ⟨a.trans h.C,c.trans h.M,d.trans h.I,e.trans h.N,h.r⟩
def ie.iX(h:ie w b G)(c:a.block≠b):ie (w.setCell a v) b G:= h.vL (ze<|Ç c) (ze<|Ç c) sW sW
def ie.Kn{G':GS}(h:ie w b G)(a:G'.sm=G.sm)(d:G'.ok)(e:c=G'.st):ie (w.setCell (fQ b)<|Ć æ c) b G':= ⟨by rw[A7 h.C,e],by rw[ze (Î<|by simp[fQ,gY]),h.M,a],by rw[sW,h.I],by rw[sW,h.N],d⟩
def ie.X0{G':GS}(h:ie w b G)(a:G'.st=G.st)(d:G'.ok)(e:c=G'.sm):ie (w.setCell (gY b)<|Ć ŗ c) b G':= ⟨by rw[ze (Î<|by simp[fQ,gY]),h.C,a],by rw[A7 h.M,e],by rw[sW,h.I],by rw[sW,h.N],d⟩
end
theorem Ko(a:0<=h)(b:h<18446744073709551616):æ.wrap h=h:=by have:æ.wrap h=h%18446744073709551616:=rfl;rw[this];omega
def ahh(a:4294967296<=h)(b:h<18446744073709551616):æ.wrap (h+18446744069414584320)=h-4294967296:=by have:æ.wrap (h+18446744069414584320)=(h+18446744069414584320)%18446744073709551616:=rfl;rw[this];omega
theorem ahi(a:0<=h)(b:h<4294967296):ŗ.wrap h=h:=by have:ŗ.wrap h=h%4294967296:=rfl;rw[this];omega
def qU:Int:=18446744069414584320
def GS.jN:GS->GS
 |.cl (c+1) reg=>if c=0/\0<reg then .jH reg else .cl c reg
 |G=>G
section
variable{b:Nat}
theorem ie.ahj(h:ie w b (.cl i 0))(a:i+1<1000000):æ.wrap ((GS.cl i 0).st+gf)=(GS.cl (i+1) 0).st/\ie (w.setCell (fQ b)<|Ć æ<|æ.wrap<|(GS.cl i 0).st+gf) b (.cl (i+1) 0):=by
 have e:æ.wrap ((GS.cl i 0).st+gf)=(GS.cl (i+1) 0).st:=by simp only[GS.st,gf];grind [Ko]
 exact⟨e,h.Kn (G':=.cl (i+1) 0) U ⟨a,Z,Z⟩ e⟩
def ie.jN(h:ie w b (.cl (i+1) n)):æ.wrap ((GS.cl (i+1) n).st+qU)=(GS.jN<|.cl (i+1) n).st/\ie (w.setCell (fQ b)<|Ć æ<|æ.wrap<|(GS.cl (i+1) n).st+qU) b (GS.jN<|.cl (i+1) n):=by
 let⟨f,a,g⟩:=h.r;have d:æ.wrap ((GS.cl (i+1) n).st+qU)=(i:Int)*gf+n:=by simp only[GS.st,gf,qU];rw[ahh Z Z];omega
 have e:æ.wrap ((GS.cl (i+1) n).st+qU)=(GS.jN<|.cl (i+1) n).st:=by
  rw[d];simp only[GS.jN];by_cases q:i=0/\0<n
  .rw[if_pos q];obtain⟨rfl,_⟩:=q;simp[GS.st]
  .rw[if_neg q];rfl
 refine⟨e,h.Kn ?_ ?_ e⟩
 .simp only[GS.jN];split<;>rfl
 .simp only[GS.jN];by_cases q:i=0/\0<n
  .rw[if_pos q];exact⟨q.2,a⟩
  .rw[if_neg q];exact⟨Z,a,λe=>by omega⟩
theorem ie.X1(h:ie w b (.cl i n))(f:0<i)(a:n+1<1000000):æ.wrap ((GS.cl i n).st+1)=(GS.cl i<|n+1).st/\ie (w.setCell (fQ b)<|Ć æ<|æ.wrap<|(GS.cl i n).st+1) b (.cl i (n+1)):=by
 let⟨d,g,j⟩:=h.r;have e:æ.wrap ((GS.cl i n).st+1)=(GS.cl i<|n+1).st:=by simp only[GS.st,gf];grind [Ko]
 exact⟨e,h.Kn (G':=.cl i (n+1)) U ⟨d,a,λe=>by omega⟩ e⟩
def ie.X2(h:ie w b (.jH i)):ie (w.setCell (fQ b)<|Ć æ 0) b (.gZ i 0):= h.Kn (G':=.gZ i 0) U (by have:=h.r;simp only[GS.ok]at this|-;omega) U
theorem ie.jG{r:Nat}(h:ie w b (.gZ (r+1) i)):ie (w.setCell (gY b)<|Ć ŗ<|ŗ.wrap<|(GS.gZ (r+1) i).sm+1) b (.gZ r (i+1)):=by have:=h.r;simp only[GS.ok]at this;refine h.X0 (G':=.gZ r (i+1)) U (by simp only[GS.ok];omega) ?_;simp only[GS.sm];grind [ahi]
def ie.kH{r:Nat}(h:ie w b (.gZ r (i+1))):ie (w.setCell (gY b)<|Ć ŗ<|(GS.gZ r<|i+1).sm-1) b (.gZ r i):=by have:=h.r;simp only[GS.ok]at this;refine h.X0 (G':=.gZ r i) U (by simp only[GS.ok];omega) ?_;simp only[GS.sm];omega
def ie.ahk{G:GS}(h:ie w b G):(0<=G.st/\G.st<gf)↔∀c a,G=.cl c a->c=0:=by
 have d:=h.r;cases G with
 |cl c a=>
  let⟨r,s,f⟩:=d;simp only[GS.st,gf];constructor
  .intro q g i e;cases e;omega
  .intro q;have:=q c a U;subst this;omega
 |jH a=>simp only[GS.ok]at d;simp only[GS.st,gf];exact⟨λ_ _ _ e=>(by cases e),λ_=>by omega⟩
 |gZ r s=>simp only[GS.st,gf];exact⟨λ_ _ _ e=>(by cases e),λ_=>by omega⟩
end
inductive jI where
 |jG|iI|gB (W:Nat)|jf (W:Nat)|iD (r:Nat)
inductive jx where
 |jc|mj (p:SP)|wr|kH|gB|ll
section
variable(P:Õ)(main:Bool)(B:Nat)(b:Nat)(J:Jd)
def Gw:Nat->Jd
 |0=>J
 |r+1=>λl g=>l.d=1/\ag8 P main (gY b) (match r with|0=>J|_=>fi P main<|Gw r) l g
def Kp(W:Nat):Jd:=λl g=>l.d=1/\ag6 P main (fQ b) 0 (Gw P main b J W) l g
def Kq(W:Nat):Jd:=λl g=>l.d=1/\XU P main (fQ b) (λv=>if v=(W:Int)then Kp P main b J W else λ_ _=>True) l g
def Pk:Jd:=λl g=>l.d=1/\O5 P main (fQ b) qU (λs=>if s=0\/(gf<=s/\s<1000000*gf/\s%gf<1000000)then J else if 0<s/\s<1000000 then fi P main (Kq P main b J s.toNat)else λ_ _=>True) l g
def zg:Jd:=λl g=>l.d=0/\Gu P main (Ķ<|fQ b) (Pk P main b J) l g
def Dy:jI->Jd
 |.jG=>zg P main b J
 |.iI=>Pk P main b J
 |.gB W=>Kq P main b J W
 |.jf W=>Kp P main b J W
 |.iD r=>Gw P main b J r
def Gx:Jd:=λl g=>l.d=0/\Gu P main (cM<|fQ b) J l g
def X3:Jd:=λl g=>l.d=1/\XU P main (fQ b) (λv=>if v=0 then Gx P main b J else λ_ _=>True) l g
def Kr:Jd:=λl g=>l.d=1/\ag7 P main (gY b) (X3 P main b J) l g
def Pl:Jd:=λl g=>l.d=1/\Gu P main (.write<|gY b) (Kr P main b J) l g
def Pm(p:SP):Jd:=λl g=>l.d=1/\Dw P main (fQ b) B (λ_=>Gx P main b J) (λv=>if v%gf=0 then Pl P main b J else Kr P main b J) p l g
def qV:jx->Jd
 |.jc=>λl g=>∃k,k<=B/\Pm P main B b J (.fZ k) l g
 |.mj p=>Pm P main B b J p
 |.wr=>Pl P main b J
 |.kH=>Kr P main b J
 |.gB=>X3 P main b J
 |.ll=>Gx P main b J
end
section
variable{P:Õ}{Y:Nat->Prop}{S:Nat->Jd}{tr:Nat->gy}{f:Nat->iC}{lot:Nat->fc}{gs:Array Ó}{t:ğ}
theorem iW.C{Live:Nat->Prop}(h:iW n Live Y lot w t)(E:Live i){l:fc}(s:∀b,l.O b->(lot i).O b) (x:∀b,l.I b->(lot i).M b\/(b<w.heap.size/\¬Y b/\(∀k,Live k->¬(lot k).O b)/\∀a:Ú,a.block=b->pA t i (û a))) (u:∀a,l.r a->(lot i).r a) (y:∀a,l.N a->(lot i).C a\/(Y a.block/\(∀k,Live k->¬(lot k).r a)/\pA t i (û a))) (F:l.K=(lot i).K) (D:l.d=(lot i).d) (G:l.w=w) (H:∀b,l.O b->¬l.I b) (I:∀a,l.r a->¬l.N a):iW n Live Y (gw lot i l) w t:=by
 have v:∀b,l.M b->(lot i).M b\/(b<w.heap.size/\¬Y b/\(∀k,Live k->¬(lot k).O b)/\∀a:Ú,a.block=b->pA t i (û a)):=λb g=>g.elim (λq=>Ç<|Ç<|s b q)<|x b;have B:∀a,l.C a->(lot i).C a\/(Y a.block/\(∀k,Live k->¬(lot k).r a)/\pA t i (û a)):=λa f=>f.elim (λq=>Ç<|Ç<|u a q)<|y a;refine⟨λk j c o m b g=> ?_,λk j c o m a f=> ?_,λk c b g=> ?_,λk c a f=> ?_,λk c b g=> ?_,λk c a f=> ?_,λk c b g=> ?_,h.N,λk c=> ?_,λk c=> ?_,λk c=> ?_,h.l,h.q,h.s,λk c a f=> ?_⟩
 .by_cases e:k=i
  .subst e;rw[gV]at g;rw[gH lot _<|ą m];exact h.o k j c o m b<|s b g
  .rw[gH lot _ e]at g;by_cases p:j=i
   .subst p;rw[gV];intro q;rcases v b q with z|⟨_,_,z,_⟩
    .exact h.o k j c o m b g z
    .exact z k c g
   .rw[gH lot _ p];exact h.o k j c o m b g
 .by_cases e:k=i
  .subst e;rw[gV]at f;rw[gH lot _<|ą m];exact h.h k j c o m a<|u a f
  .rw[gH lot _ e]at f;by_cases p:j=i
   .subst p;rw[gV];intro q;rcases B a q with z|⟨_,z,_⟩
    .exact h.h k j c o m a f z
    .exact z k c f
   .rw[gH lot _ p];exact h.h k j c o m a f
 .by_cases e:k=i
  .grind [gV]
  .rw[gH lot _ e]at g|-;exact h.m k c b g
 .by_cases e:k=i
  .grind [gV]
  .rw[gH lot _ e]at f|-;exact h.g k c a f
 .by_cases e:k=i
  .subst e;rw[gV]at g;exact(v b g).elim (h.I k c b) λz=>z.2.1
  .rw[gH lot _ e]at g;exact h.I k c b g
 .by_cases e:k=i
  .subst e;rw[gV]at f;exact(B a f).elim (h.e k c a) λz=>z.1
  .rw[gH lot _ e]at f;exact h.e k c a f
 .by_cases e:k=i
  .subst e;rw[gV]at g;exact(v b g).elim (h.fx k c b) λz=>z.1
  .rw[gH lot _ e]at g;exact h.fx k c b g
 .by_cases e:k=i
  .grind [gV,fG.fX]
  .rw[gH lot _ e];exact h.r k c
 .by_cases e:k=i
  .subst e;rw[gV];refine⟨λa f=>(h.S k c).fq a<|s _ f,λa f=> ?_,λa f=>(h.S k c).C a<|u a f,λa f=> ?_⟩
   .rcases x _ f with(z|z)|⟨_,_,_,z⟩
    .exact((h.S k c).fq a z).r
    .exact(h.S k c).rd a z
    .exact z a U
   .rcases y _ f with(z|z)|⟨_,_,z⟩
    .exact((h.S k c).C a z).r
    .exact(h.S k c).r a z
    .exact z
  .rw[gH lot _ e];exact h.S k c
 .by_cases e:k=i
  .subst e;rw[gV,D];exact h.f k c
  .rw[gH lot _ e];exact h.f k c
 .have e:(lot k).K a:=by
   grind [gV,gH]
  let⟨p,q⟩:=h.n k c a e;grind [gV,gH]
def gO.M(b:gO P n Y S tr f lot gs w t){J:Jd}{T:gy}{K:iC}{l:fc}(c:gs[i]?=À g)(d:g.status=Ð\/g.status=Ğ)(h:iW n (λi=>i<gs.size) Y (gw lot i l) w t)(hF:lk P (i==0) J T l g): gO P n Y (fy S i J) (fy tr i T) (fy f i K) (gw lot i l) gs w t:=by
 refine⟨h,λk x a=> ?_,b.I⟩;by_cases e:k=i
 .subst e;rw[c]at a;obtain rfl:=Ĥ a;rw[gF,gF,gF,gV];exact⟨g,hF,.gl,d,Ç U⟩
 .rw[fJ S _ e,fJ tr _ e,fJ f _ e,gH lot _ e];exact b.C k x a
end
end Go.Proofs.Y.fv
namespace Go.Proofs.Y.fv
open Go Go.Conc Go.Proofs.Y.Lift
open Go.ConcN (RelBy fork_knows)
def A8(t:ğ)(p:Nat)(l:dT):Prop:=∀q a,Ě t q=À a->a.loc=l->a.write=É->Before t q p
theorem A8.Pn{u:ğ}{l:dT}(h:A8 qJ i l)(j:∀c∈u,∀b,c.act.touch?=À b->b.loc=l->b.write=É->False):A8 (qJ++u) i l:=by
 intro q a e f g;rcases mW e with⟨_,d⟩|⟨_,c,d,k,_⟩
 .exact(h q a d f g).app u
 .grind
def A8.ahl{l:dT}(h:A8 qJ i l)(b:bD qJ n i):pA qJ n l:=λq a c d e=>Knows.of_before (h q a c d e) b
theorem ahm{l:dT}(h:pA qJ i l)(c:wQ.g=i)(j:wQ.act.touch?=ë):A8 (qJ++#[wQ]) qJ.size l:=by
 intro q a d e f;rcases mW d with⟨_,b⟩|⟨_,k,b,m,_⟩
 .exact Î<|(h q a b e f).hb_new (ß _) (by rw[ć<|ß _];simp) c
 .grind
structure Fx where
 L:Nat
 m:Nat
 C:Nat
 I:Nat->Nat
def Fx.M(F:Fx)(b:Nat):Prop:=b=F.C\/∃k,k<=F.m/\b=F.I k
def Fx.G(F:Fx)(x:Ú):Prop:=∃b,F.M b/\(x=fQ b\/x=gY b)
def ji(F:Fx)(k:Nat):Ú:=⟨F.I k,2,ë⟩
def Fx.Po(F:Fx)(a:Nat->Option Nat)(x:Ú)(g:Option Nat):Prop:=(x=gY F.C/\g=À 0)\/∃k j,k<=F.m/\x=gY (F.I k)/\a k=À j/\g=À (F.L+1+j)
structure TI(F:Fx)(t0:Nat)(jr:dT->Prop)(sp rl:Nat)(V:Nat->Nat->Prop)(pk:Nat->Nat)(fs:Nat->Option Nat)(rx:Nat->Prop)(ql:Nat->Nat)(t:ğ):Prop where
 N:t0<=t.size
 M:∀p a x,Ě t p=À a->a.loc=û x->F.G x->(p<t0/\t.g? p=À 0)\/a.kind=Ŕ\/(a.kind=.said/\F.Po fs x (t.g? p))
 A9:∀x,x<sp->∀p,p<t0->t.g? p=À 0->bD t (F.L+x) p
 Y:∀k,1<=k->k<=rl->t.act? (pk k)=À (Ř<|Ķ<|fQ<|F.I k)/\t.g? (pk k)=À F.L/\t.heard (pk k)
 I:∀k,1<=k->k<=rl->∀a:Ú,(V k a.block\/a=ji F k)->A8 t (pk k) (û a)
 c:∀b,F.M b->NoRelease (fQ b) t
 r:∀x,x<sp->rx x->RelBy (fQ F.C) t (F.L+x) (ql x)/\∀p a,Ě t p=À a->t.g? p=À (F.L+x)->p<=ql x\/((∃y:Ú,a.loc=û y/\y.block=F.C)/\a.kind=Ŕ)
 S:∀p a,t0<=p->Ě t p=À a->t.g? p=À 0\/∃x,x<sp/\t.g? p=À (F.L+x)
 e:∀p a,p<t0->Ě t p=À a->a.loc.isMemory=É->bD t 0 p\/(jr a.loc/\a.kind=Ŕ)
 d:∀p g,p<t0->t.g? p=À g->g≠0->t.counts p->∃j,t.g? j=À 0/\HappensBefore t p j
section
variable{F:Fx}{t0:Nat}{jr:dT->Prop}{sp rl:Nat}{V:Nat->Nat->Prop}{pk:Nat->Nat}{fs:Nat->Option Nat}{rx:Nat->Prop}{ql:Nat->Nat}{t u:ğ}
theorem Ks(h:t.g? i=À n):i<t.size:=by unfold Ņ at h;grind
def Gy(h:t.g? i=À n):(t++u).g? i=À n:=by rwa[aG<|Ks h]
theorem Pp{a:dO}(h:Ě t i=À a):i<t.size:=by let⟨b,c,_⟩:=dP h;grind
structure Kt(F:Fx)(sp rl:Nat)(V:Nat->Nat->Prop)(fs:Nat->Option Nat)(rx:Nat->Prop)(t u:ğ)(i:Nat):Prop where
 C:∀op∈u,∀a,op.act.touch?=À a->op.g=i
 S:i=0\/(∃x,x<sp/\i=F.L+x)\/∀op∈u,op.act.touch?=ë
 M:∀op∈u,∀a x,op.act.touch?=À a->a.loc=û x->F.G x->a.kind=Ŕ\/(a.kind=.said/\F.Po fs x (À i))
 fM:∀op∈u,∀(a:dO) (y:Ú),op.act.touch?=À a->a.write=É->a.loc=û y->∀k,1<=k->k<=rl->¬V k y.block/\y≠ji F k
 N:∀op∈u,∀b,F.M b->op.act≠Ř (dQ<|fQ b)
 I:∀x,x<sp->rx x->(∀r,RelBy (fQ F.C) t (F.L+x) r->RelBy (fQ F.C) (t++u) (F.L+x) r)/\(F.L+x=i->∀op∈u,∀a,op.act.touch?=À a->(∃y:Ú,a.loc=û y/\y.block=F.C)/\a.kind=Ŕ)
def TI.C(h:TI F t0 jr sp rl V pk fs rx ql t)(f:Kt F sp rl V fs rx t u i):TI F t0 jr sp rl V pk fs rx ql (t++u) where
 N:=by rw[Array.size_append];have:=h.N;omega
 M p a x n y hc:=by
  rcases mW n with⟨d,c⟩|⟨d,m,c,l,j⟩
  .rw[aG d];exact h.M p a x c y hc
  .refine Î ((f.M m c a x l y hc).imp id λq=>⟨q.1,?_⟩);have:(t++u).g? p=À i:=by unfold Ņ;rw[j];simp[f.C m c a l]
   rw[this];exact q.2
 A9 x r p d o:=(h.A9 x r p d<|by rwa[aG<|Ô d h.N]at o).app u;Y k c l:=by let⟨v,s,b⟩:=h.Y k c l;have w:=Ks s;exact⟨by rwa[dR w],Gy s,(heard_old w).2 b⟩
 I k c l a n:=(h.I k c l a n).Pn λm B b z y C=>by have:=f.fM m B b a z C y k c l;exact n.elim this.1 this.2
 c b z:=(h.c b z).app λm B=>f.N m B b z;r x r hr:=by
  let⟨v,s⟩:=h.r x r hr;let⟨D,E⟩:=f.I x r hr;refine⟨D _ v,λp a n o=> ?_⟩;rcases mW n with⟨d,c⟩|⟨d,m,c,l,j⟩
  .exact s p a c<|by rwa[aG d]at o
  .have e:(t++u).g? p=À i:=by unfold Ņ;rw[j];simp[f.C m c a l]
   rw[e]at o;exact Î<|E (Ĥ o).symm m c a l
 S p a d n:=by
  rcases mW n with⟨D,c⟩|⟨_,m,c,l,j⟩
  .rw[aG D];exact h.S p a d c
  .have e:(t++u).g? p=À i:=by unfold Ņ;rw[j];simp[f.C m c a l]
   rw[e];rcases f.S with q|⟨x,r,q⟩|q
   .exact Ç<|by rw[q]
   .exact Î ⟨x,r,by rw[q]⟩
   .rw[q m c]at l;cases l
 e p a d n hm:=by rw[touchAt_old<|Ô d h.N]at n;exact(h.e p a d n hm).imp (·.app u) id
 d p g d o lz hc:=by have w:=Ô d h.N;rw[aG w]at o;rw[ep w]at hc;let⟨j,v,s⟩:=h.d p g d o lz hc;exact⟨j,Gy v,ei u s⟩
theorem zh(f:∀c∈u,c.act.touch?=ë)(h:∀c∈u,∀b,F.M b->c.act≠Ř (dQ<|fQ b)):Kt F sp rl V fs rx t u 0 where
 C c e a d:=by rw[f c e]at d;cases d
 S:=Ç U;M c e a x d:=by rw[f c e]at d;cases d
 fM c e a y d:=by rw[f c e]at d;cases d
 N:=h;I x hx g:=by refine⟨λr g=>g.app λj l m i=> ?_,λ_ c e a d=>by rw[f c e]at d;cases d⟩;let⟨z,k,_⟩:=i;rcases mW k with⟨q,_⟩|⟨_,c,n,o,_⟩;all_goals grind
def TI.ahn(h:TI F t0 jr sp rl V pk fs rx ql t){b:Nat->Option Nat}(c:∀k y,fs k=À y->b k=À y):TI F t0 jr sp rl V pk b rx ql t:= {h with M:=λp a x d e f=>(h.M p a x d e f).imp id (Or.imp id λq=>⟨q.1,q.2.imp id λ⟨k,j,g,i,l,m⟩=>⟨k,j,g,i,c k j l,m⟩⟩)}
theorem TI.Gz(h:TI F t0 jr sp rl V pk fs rx ql t){y:c8}(j:wQ.g=0/\wQ.act=.go (F.L+sp))(k:y.g=F.L+sp/\y.act=.start)(m:Τ t 0=0)(n:Τ t (F.L+sp)=0)(B:¬rx sp)(o:∀wQ,rx wQ->wQ<sp):TI F t0 jr (sp+1) rl V pk fs rx ql (t++#[wQ,y]):=by
 have q:∀c∈#[wQ,y],c.act.touch?=ë:=by
  intro c a;simp at a;rcases a with rfl|rfl
  .rw[j.2];rfl
  .rw[k.2];rfl
 have r:∀c∈#[wQ,y],∀b,F.M b->c.act≠Ř (dQ<|fQ b):=by grind
 have d:=h.C<|zh q r;refine{d with A9:=λz s p f i=> ?_,r:=λz s l=>d.r z (o z l) l,S:=λp a f u=>((d.S p a f u).imp id λ⟨z,v,e⟩=>⟨z,Z,e⟩)}
 .by_cases e:z<sp
  .exact d.A9 z e p f i
  .obtain rfl:z=sp:=Z
   rw[aG<|Ô f h.N]at i;let⟨c,v,w⟩:=ģ.1 i;have:=bn v;rw[w]at this;exact cP j k m n this
theorem aho{y:c8}(d:wQ.g=0/\wQ.act=.go k)(e:y.g=k/\y.act=.start)(j:Τ t 0=0)(m:Τ t k=0){l:dT}:(qS t 0 l->qS (t++#[wQ,y]) k l)/\(pA t 0 l->pA (t++#[wQ,y]) k l):=by
 have q:∀c∈#[wQ,y],c.act.touch?=ë:=by
  intro c a;simp at a;rcases a with rfl|rfl
  .rw[d.2];rfl
  .rw[e.2];rfl
 refine⟨λh p a f i=> ?_,λh p a f i n=> ?_⟩
 .rcases mW f with⟨_,b⟩|⟨_,c,b,o,_⟩
  .exact cP d e j m<|h p a b i
  .grind
 .rcases mW f with⟨_,b⟩|⟨_,c,b,o,_⟩
  .exact cP d e j m<|h p a b i n
  .grind
theorem TI.ahp(h:TI F t0 jr sp rl V pk fs rx ql t)(f:wQ.g=F.L)(i:wQ.act=Ř (Ķ<|fQ<|F.I<|rl+1))(l:Τ t F.L=0)(q:∀a:Ú,(V (rl+1) a.block\/a=ji F (rl+1))->pA t F.L (û a)): TI F t0 jr sp (rl+1) V (fy pk (rl+1) t.size) fs rx ql (t++#[wQ]):=by
 have m:∀c∈#[wQ],c.act.touch?=ë:=by
  intro c e;have:c=wQ:=by simpa using e
  rw[this,i];rfl
 have d:=h.C (zh m λc e b _=>by grind);have n:(t++#[wQ])[t.size]?=À wQ:=by rw[ć<|ß _];simp
 have j:∀k,k<=rl->fy pk (rl+1) t.size k=pk k:=λk r=>fJ pk _ Z;refine{d with Y:=λk b o=> ?_,I:=λk b o a p=> ?_}
 .by_cases e:k=rl+1
  .subst e;rw[gF];exact⟨by rw[eC n,i],by simp[Ņ,f],⟨F.L,by simp[Ņ,f],by rwa[cO<|ß _]⟩⟩
  .rw[j k Z];exact d.Y k b Z
 .by_cases e:k=rl+1
  .grind [gF,ahm]
  .rw[j k Z];exact d.I k b Z a p
theorem TI.ahq(h:TI F t0 jr sp rl V pk fs rx ql t){x:Nat}(r:x<sp)(d:wQ.g=F.L+x)(f:wQ.act=Ř (Ķ<|fQ F.C))(k:Τ t (F.L+x)=0)(s:¬rx x): TI F t0 jr sp rl V pk fs (λz=>rx z\/z=x) (fy ql x t.size) (t++#[wQ]):=by
 have l:∀c∈#[wQ],c.act.touch?=ë:=by
  intro c a;have:c=wQ:=by simpa using a
  rw[this,f];rfl
 have j:=h.C (zh l λc a b _=>by grind);have b:(t++#[wQ])[t.size]?=À wQ:=by rw[ć<|ß _];simp
 refine{j with r:=λz m n=> ?_};by_cases e:z=x
 .subst e;rw[gF];refine⟨⟨by rw[eC b,f],by simp[Ņ,d],⟨F.L+z,by simp[Ņ,d],by rwa[cO<|ß _]⟩,λi u o=> ?_⟩,λp a q _=>Ç ?_⟩
  .have:=Ks o;simp at this;omega
  .have:=Pp q;simp at this;omega
 .rw[fJ ql _ e];exact j.r z m<|n.resolve_right e
def X4(e:t.act? i=À (Ř<|Ķ a))(f:t.g? i=À k)(h:t.heard i)(l:NoRelease a t)(c:wQ.g=n)(m:wQ.act=Ř (cM a))(o:Τ t n=0):bD (t++#[wQ]) n i:=by
 have b:=Ks f;have d:(t++#[wQ])[t.size]?=À wQ:=by rw[ć<|ß _];simp
 refine⟨t.size,wQ,d,c,Î<|.single<|Î ⟨.marked b (Î<|by rwa[dR b]) (by rw[eC d,m]) λj _ q=> ?_,(heard_old b).2 h,⟨n,by simp[Ņ,c],by rwa[cO<|ß _]⟩⟩⟩;rw[dR q];exact l j
theorem TI.kZ(h:TI F t0 jr sp rl V pk fs rx ql t)(G:wQ.g=0)(o:wQ.act=Ř (cM<|fQ F.C))(H:Τ t 0=0)(k:∀x,x<sp->rx x): (∀p a,Ě (t++#[wQ]) p=À a->a.loc.isMemory=É->bD (t++#[wQ]) 0 p\/((jr a.loc\/∃x:Ú,a.loc=û x/\x.block=F.C)/\a.kind=Ŕ))/\(t++#[wQ]).HandedOver:=by
 have Q:wQ.act.touch?=ë:=by rw[o];rfl
 have s:=λx c=>by let⟨b,_⟩:=h.r x c<|k x c;exact X4 b.act b.g b.heard (h.c _<|Ç U) G o H
 have u:∀p a,Ě (t++#[wQ]) p=À a->p<t.size/\Ě t p=À a:=λp a l=>by rcases mW l with q|⟨_,v,d,w,_⟩;all_goals grind
 have B:∀p q x,t.g? p=À (F.L+x)->t.g? q=À (F.L+x)->p<=q->Before (t++#[wQ]) p q:=λp q x d w S=>by
  rcases Nat.lt_or_ge p q with f|i
  .exact Î<|.single<|Ç ⟨f,_,Gy d,Gy w⟩
  .exact Ç Z
 refine⟨λp a l I=> ?_,λp g C J K=> ?_⟩
 .let⟨f,d⟩:=u p a l;by_cases e:p<t0
  .rcases h.e p a e d I with q|⟨b,i⟩
   .exact Ç<|q.app _
   .grind
  .rcases h.S p a Z d with q|⟨x,c,q⟩
   .let⟨v,m,n⟩:=ģ.1 q;have:=bn m;rw[n]at this;exact Ç<|this.app _
   .let⟨b,i⟩:=h.r x c<|k x c;rcases i p a d q with z|⟨j,P⟩
    .exact Ç<|Knows.of_before (B p (ql x) x q b.g z)<|s x c
    .grind
 .let⟨z,D,M,N⟩:=K;let⟨f,d⟩:=u p z D;have O:t.g? p=À g:=by rwa[aG f]at C
  have E:=(ep f).1 ⟨z,D,M,N⟩;by_cases e:p<t0
  .let⟨j,b,i⟩:=h.d p g e O J E;exact⟨j,Gy b,ei _ i⟩
  .rcases h.S p z Z d with q|⟨x,c,q⟩
   .grind
   .let⟨b,_⟩:=h.r x c<|k x c;let⟨r,v,m,n,i⟩:=s x c;have j:(t++#[wQ]).g? r=À 0:=by unfold Ņ;rw[m];simp[n]
    refine⟨r,j,?_⟩;rcases(B p (ql x) x q b.g<|Nat.le_of_not_lt λP=>b.after p P q E).trans i with P|P;all_goals grind
end
end Go.Proofs.Y.fv
namespace Go.Proofs.Y.fv
open Go Go.Conc Go.Proofs.Y.Lift
open Go.ConcN (sumTo)
structure Ph extends Fx where
 P:Õ
 S:Nat
 n:Nat
 q:Nat
 Y:Nat
 f:Nat
 r:Nat->Nat
 a:Nat->Nat
 b:Nat->Nat
 c:Nat->Â
 z:Â
 B:Nat
 γ:Type
 l:γ
 i:Nat->Prop
 p:Nat->γ->γ->Prop
 d:Nat->γ->(Nat->Prop)->Æ->Prop
 o:Nat->ByteArray
 k:Nat->ByteArray
 g:Nat->(Nat->Nat)->Jd
 h:Nat->Jd
 e:Nat->Nat->Jd
 j:(Nat->Nat)->Jd
inductive nD(F:Ph):Nat->F.γ->Prop
 |vG:nD F 0 F.l
 |Dz {k:Nat} {s s':F.γ} (h:nD F k s) (hn:F.p k s s'):nD F (k+1) s'
def ju(F:Ph)(p:Nat):Ú:=⟨F.Y,p,ë⟩
inductive fY where
 |go (j:Nat)|lI (j:Nat)|rd (j:Nat)|iI (j:Nat)|iL (r:Nat)|kZ (r:Nat)|fA (p:jx)|gh
inductive jB where
 |kS (k:Nat)|mk (k:Nat)|dn (k:Nat) (p:jI)
inductive gP where
 |nA (r:Nat)|fA (r:Nat) (p:jx)|jM (r:Nat)|oS (r:Nat)
inductive il where
 |oU|gh (p:jI)|jw (N:Nat)
section
variable(F:Ph)
def GA:Jd:=λl g=>∃N,QuitsD F.P N l.d g
def kI(l:fc):fc:={l with O:=λ_=>False,I:=λ_=>False,r:=λ_=>False,N:=λ_=>False,q:=True}
def Ba:Jd:=λl g=>Dy F.P Ã F.C (GA F) .jG (kI l) g
def DC(c j r:Nat):Jd:=xp F.P Ã c F.z λx=>match x with
 |some v=>λl g=>v=F.c (j+r*F.n)->qV F.P Ã F.B (F.I<|F.r<|j+r*F.n) (F.e c<|j+r*F.n) .jc l g
 |none=>Ba F
def vM(l:fc)(i:Nat):fc:={l with r:=λa=>l.r a/\a≠ju F (F.a i),N:=λa=>l.N a\/a=ju F (F.a i)}
def qf(l:fc)(k:Nat):fc:={l with O:=λ_=>False,I:=l.M,r:=λa=>l.r a/\a≠ju F (F.b k)/\a≠ji F.toFx k,N:=λa=>l.N a\/a=ju F (F.b k)\/a=ji F.toFx k}
def JW(c j:Nat):gP->Jd
 |.nA r=>DC F c j r
 |.fA r p=>qV F.P Ã F.B (F.I<|F.r<|j+r*F.n) (F.e c<|j+r*F.n) p
 |.jM r=>F.e c<|j+r*F.n
 |.oS r=>λl g=>l.w.cell? (ju F<|F.a<|j+r*F.n)=À (ħ<|F.k<|j+r*F.n)/\DC F c j (r+1) (vM F l<|j+r*F.n) g
def JI(sg:Nat->F.γ):jB->Jd
 |.kS k=>F.h k
 |.mk k=>λl g=>∃p V,F.p (k-1) (sg<|k-1) p/\F.d k p V l.w/\(∀b,V b->l.M b)/\l.w.cell? (ju F<|F.b k)=À (ħ<|F.o k)/\Dy F.P Ã (F.I k) (fi F.P Ã<|F.h k) .jG (qf F l k) g
 |.dn k p=>Dy F.P Ã (F.I k) (fi F.P Ã<|F.h k) p
def JE:il->Jd
 |.oU=>Ba F
 |.gh p=>Dy F.P Ã F.C (GA F) p
 |.jw N=>pB F.P N
def Ku(j:Nat)(a:Nat->Nat):Jd:=λl g=>∃c,F.g j (fy a (j-1) c) l g
def X5(j:Nat)(a:Nat->Nat):Jd:=λl g=>l.d=1/\Gu F.P É (.read<|gY F.C) (Ku F j a) l g
def Pq(j:Nat)(a:Nat->Nat):Jd:=λl g=>l.d=1/\O5 F.P É (fQ F.C) gf (λs=>if s=gf then fi F.P É (X5 F j a)else if gf<s/\s<1000000*gf/\s%gf=0 then fi F.P É (Ku F j a)else λ_ _=>True) l g
def Bb(a:Nat->Nat):Nat->Jd
 |0=>qV F.P É F.B F.C (F.j a) .jc
 |r+1=>Kh F.P É (a<|F.n-(r+1))<|Bb a r
def GB(a:Nat->Nat):Nat->Jd
 |0=>Bb F a F.n
 |r+1=>A6 F.P É (a<|(F.q-(r+1))%F.n) (F.c<|F.q-(r+1))<|GB a r
def JM(dk:Nat->Nat):fY->Jd
 |.go j=>F.g j dk
 |.lI j=>Ku F j dk
 |.rd j=>X5 F j dk
 |.iI j=>Pq F j dk
 |.iL r=>GB F dk r
 |.kZ r=>Bb F dk r
 |.fA p=>qV F.P É F.B F.C (F.j dk) p
 |.gh=>F.j dk
def ma(x:Nat)(a:Ú):Prop:=if x=0 then(∃k,1<=k/\k<=F.m/\(a=ji F.toFx k\/a=ju F (F.b k)))else∃i,i<F.q/\i%F.n=x-1/\a=ju F (F.a i)
end
def fY.sp(n:Nat):fY->Nat
 |.go j|.lI j|.rd j|.iI j=>j
 |_=>n+1
def fY.ad(n:Nat):fY->Nat
 |.iI j=>j
 |.go j|.lI j|.rd j=>j+1
 |_=>n+1
def fY.mJ(q:Nat):fY->Nat
 |.go _|.lI _|.rd _|.iI _=>0
 |.iL r=>q-r
 |_=>q
def fY.jh(n:Nat):fY->Nat
 |.kZ r=>n-r
 |.fA _|.gh=>n
 |_=>0
def jx.sX:jx->Nat
 |.wr|.kH=>1
 |_=>0
def fY.gD:fY->Nat
 |.fA p=>p.sX
 |_=>0
def jI.kT:jI->Nat
 |.jG|.iI=>1
 |_=>0
def il.kT:il->Nat
 |.oU=>1
 |.gh p=>p.kT
 |_=>0
def il.oC:il->Prop
 |.oU=>False
 |_=>True
def ml:Option il->Nat
 |none=>1
 |some e=>e.kT
def jI.iz:jI->Prop
 |.jG=>False
 |_=>True
def il.iz:il->Prop
 |.oU=>False
 |.gh p=>p.iz
 |_=>True
def jB.md:jB->Nat
 |.kS k=>k
 |.mk k=>k-1
 |.dn k _=>k
def jB.rl:jB->Nat
 |.kS k=>k
 |.mk k=>k-1
 |.dn k .jG=>k-1
 |.dn k _=>k
def jB.od:jB->Nat
 |.kS k=>k
 |.mk k=>k-1
 |.dn k .jG|.dn k .iI=>k-1
 |.dn k _=>k
def gP.iP:gP->Nat
 |.nA r=>r
 |.fA r _|.jM r|.oS r=>r+1
def gP.kJ:gP->Nat
 |.nA r|.fA r _|.jM r|.oS r=>r
def gP.gD(F:Ph)(j:Nat)(k:Nat):gP->Nat
 |.fA r p=>if F.r (j+r*F.n)=k then p.sX else 0
 |_=>0
structure fV(F:Ph) where
 M:fY
 S:jB
 C:Nat->gP
 N:Nat->Option il
 I:Nat->Nat
 c:Nat->F.γ
 V:Nat->Nat->Prop
 e:Nat->Nat
 d:Nat->Option Nat
 f:Nat->Nat
 b:GS
 a:Nat->GS
 g:Option Nat
 h:Nat->Nat
section
variable{F:Ph}
def fV.r(E:fV F):Nat:=E.M.sp F.n
def fV.G(E:fV F)(x:Nat):Nat:=if x<E.M.ad F.n then ml (E.N x)else 0
def fV.iz(E:fV F)(x:Nat):Prop:=∃e,E.N x=À e/\e.iz
def fV.oC(E:fV F)(x:Nat):Prop:=∃e,E.N x=À e/\e.oC
def fV.Y(E:fV F)(b:Nat):Prop:=F.M b\/b=F.Y\/∃j,j+2<=E.r/\b=E.I j
def uk(n j Q s:Nat):Prop:=∀i,i<s↔j+i*n<Q
def kM:fY->iC
 |.fA .kH=> .iD
 |_=> .no
def kW(F:Ph)(c:Nat):gP->iC
 |.nA _=> .sV c F.z
 |.fA _ .kH=> .iD
 |_=> .no
end
structure Ph.Ok(F:Ph):Prop where
 N:1<=F.n
 r:1<=F.L
 gi:F.n+F.q+F.m<1000
 I:∀i,i<F.q->F.r i<=F.m
 M:∀k,k<=F.m->F.I k≠F.C
 S:∀k k',k<=F.m->k'<=F.m->F.I k=F.I k'->k=k'
 C:¬F.M F.Y
 a:∀i i',i<F.q->i'<F.q->F.a i=F.a i'->i=i'
 pi:∀k k',1<=k->k<=F.m->1<=k'->k'<=F.m->F.b k=F.b k'->k=k'
 Pr:∀i k,i<F.q->1<=k->k<=F.m->F.a i≠F.b k
 gu:∀b,F.M b\/b=F.Y->F.S<=b
 Y:(∀k,1<=k->k<=F.m->F.b k≠F.f)/\∀i,i<F.q->F.a i≠F.f
structure iJ(F:Ph)(E:fV F)(lot:Nat->fc)(sz:Nat)(w:Æ):Prop where
 gU:∀i,i<sz->∀a,(lot i).C a->(∃k,k<=F.m/\a=ji F.toFx k)\/∃p,p≠F.f/\a=ju F p
 o:∀x,E.r<=x->x<=F.n->∀a,ma F x a->(lot 0).r a
 lY:E.r<=F.n->(lot 0).N (ji F.toFx 0)/\∀b,F.i b->(lot 0).I b
 e:0<E.r->∀k,E.S.md<k->k<=F.m->(lot F.L).r (ji F.toFx k)/\(lot F.L).r (ju F<|F.b k)
 f:0<E.r->E.N 0=ë->(lot F.L).N (ji F.toFx E.S.md)/\∀b,E.V E.S.md b->(lot F.L).I b
 h:∀j,j+2<=E.r->E.N (j+1)=ë->∀r,j+r*F.n<F.q->(E.C j).kJ<=r->(lot<|F.L+1+j).r (ju F<|F.a<|j+r*F.n)
 l:∀j,j+2<=E.r->E.N (j+1)=ë->(lot<|F.L+1+j).N (ji F.toFx 0)/\∀b,F.i b->(lot<|F.L+1+j).I b
 S:∀x,E.oC x->lot (F.L+x)=kI (lot<|F.L+x)
 M:∀i,(i=0\/∃x,x<E.r/\i=F.L+x/\¬E.oC x)->¬(lot i).q
 c:∀i,0<i->i<F.L->lot i=kI (lot i)
 I:∀k,k<=E.S.md->∀b,E.V k b->b<w.heap.size/\¬E.Y b/\∀i,i<sz->¬(lot i).O b
 N:∀k,k<=E.S.md->∀i,i<sz->¬(lot i).r (ji F.toFx k)
 g:∀k,1<=k->k<=E.S.md->∀i,i<sz->¬(lot i).r (ju F<|F.b k)
 d:∀j,j+2<=E.r->∀r,j+r*F.n<F.q->r<(E.C j).kJ->∀i,i<sz->¬(lot i).r (ju F<|F.a<|j+r*F.n)
structure Wd(F:Ph)(E:fV F)(w:Æ):Prop where
 C:ie w F.C E.b
 I:∀k,k<=F.m->ie w (F.I k) (E.a k)
 jK:∀j,j+2<=E.r->∃buf s,w.heap[E.I j]?=À (χ F.q buf (decide<|j<E.M.jh F.n) s (E.C j).iP Ã)/\uk F.n j (E.M.mJ F.q) s/\(E.C j).iP<=s/\buf.size=s-(E.C j).iP/\∀i,i<s-(E.C j).iP->buf[i]?=À (F.c<|j+((E.C j).iP+i)*F.n)
 M:∀k,k<=E.S.md->nD F k (E.c k)/\F.d k (E.c k) (E.V k) w
 S:∀k,1<=k->k<=E.S.md->w.cell? (ju F<|F.b k)=À (ħ<|F.o k)
 N:∀j,j+2<=E.r->∀r,j+r*F.n<F.q->r<(E.C j).kJ->w.cell? (ju F<|F.a<|j+r*F.n)=À (ħ<|F.k<|j+r*F.n)
structure Ps(F:Ph)(E:fV F):Prop where
 v:E.V 0=F.i
 C:∀j,E.M=.go j\/E.M=.lI j\/E.M=.rd j\/E.M=.iI j->j<=F.n
 K:∀j,E.M=.lI j\/E.M=.rd j\/E.M=.iI j->1<=j
 L:∀r,(E.M=.iL r->r<=F.q)/\(E.M=.kZ r->r<=F.n)
 J:E.r=0->E.S=.kS 0
 I:∀k,(E.S=.kS k->k<=F.m)/\(E.S=.mk k->1<=k/\k<=F.m)/\(∀p,E.S=.dn k p->1<=k/\k<=F.m)
 z:∀j,E.r<j+2->E.C j=.nA 0
 d:∀j r,j+2<=E.r->((∃p,E.C j=.fA r p)\/E.C j=.jM r\/E.C j=.oS r)->j+r*F.n<F.q
 l:∀j,j+2<=E.r->E.N (j+1)≠ë->j<E.M.jh F.n/\∃r,E.C j=.nA r/\∀i,j+i*F.n<F.q->i<r
 f:E.N 0≠ë->E.S=.kS F.m
 h:∀x,E.r<=x->E.N x=ë
 M:∀j j',j+2<=E.r->j'+2<=E.r->E.I j=E.I j'->j=j'
 o:∀j,j+2<=E.r->¬F.M (E.I j)/\E.I j≠F.Y/\F.S<=E.I j
 t:∀c reg,E.b=.cl c reg->c=bE (F.n+1) E.G/\reg=E.M.gD
 g:∀reg,E.b=.jH reg->bE (F.n+1) E.G=0/\reg=E.M.gD/\∃x,x<E.r/\E.g=À x/\(E.N x=À (.gh (.gB reg))\/E.N x=À (.gh (.jf reg)))
 u:∀r s,E.b=.gZ r s->bE (F.n+1) E.G=0/\r+s=E.M.gD/\(0<r->∃x,x<E.r/\E.g=À x/\E.N x=À (.gh (.iD r)))
 N:∀x p,E.N x=À (.gh p)->(∀W,p=.gB W\/p=.jf W->E.g=À x/\E.b=.jH W)/\(∀r,p=.iD r->0<r/\E.g=À x/\∃s,E.b=.gZ r s)
 B:E.M=.fA .gB\/E.M=.fA .ll\/E.M=.gh->bE (F.n+1) E.G=0
 e:∀k,1<=k->k<=F.m->E.S.od<k->E.a k=.cl 1 (bE F.n λj=>(E.C j).gD F j k)
 Y:∀k,k<=F.m->k<=E.S.od->(∃W,(E.S=.dn k (.gB W)\/E.S=.dn k (.jf W))/\E.a k=.jH W/\W=bE F.n λj=>(E.C j).gD F j k)\/(∃r s,E.S=.dn k (.iD r)/\0<r/\E.a k=.gZ r s/\r+s=bE F.n λj=>(E.C j).gD F j k)\/((∀p,E.S≠ .dn k p)/\((E.a k=.cl 0 0/\(bE F.n λj=>(E.C j).gD F j k)=0)\/∃s,E.a k=.gZ 0 s/\s=bE F.n λj=>(E.C j).gD F j k))
 w:∀j r,j+2<=E.r->(E.C j=.fA r .gB\/E.C j=.fA r .ll\/E.C j=.jM r)->F.r (j+r*F.n)<=E.S.od
 H:∀j r,j+2<=E.r->E.C j=.fA r .gB->∃a b,E.a (F.r<|j+r*F.n)=.gZ a b
 O:E.M=.fA .gB->∃a b,E.b=.gZ a b
 S:(∀p,E.M≠ .fA p)->E.M≠ .gh->∃c,E.b=.cl c 0
 y:∀k,k<=F.m->E.a k=.cl 1 0->E.d k=ë
 D:∀j r,j+2<=E.r->E.C j=.fA r .wr->E.d (F.r<|j+r*F.n)=À j
def fh(F:Ph)(E:fV F)(a:Array Ó)(w:Æ):Prop:=∀i g,a[i]?=À g->g.status=Ů->
 (i=0/\E.M=.fA .kH/\E.b.sm=0)\/(∃j,j+2<=E.r/\E.N (j+1)=ë/\i=F.L+1+j/\((∃r,E.C j=.fA r .kH/\(E.a<|F.r<|j+r*F.n).sm=0)\/∃r b s c,E.C j=.nA r/\w.heap[E.I j]?=À (χ b #[] Ã s c Ã)))
structure PI(F:Ph)(t0:Nat)(jr:dT->Prop)(E:fV F)(S:Nat->Jd)(tr:Nat->gy)(kp:Nat->iC)(lot:Nat->fc)(gs:Array Ó)(w:Æ)(t:ğ):Prop where
 b:gs.size=F.L+E.r
 I:gO F.P F.S E.Y S tr kp lot gs w t
 h:S 0=JM F E.I E.M/\kp 0=kM E.M
 m:0<E.r->E.N 0=ë->S F.L=JI F E.c E.S/\kp F.L=.no
 g:∀j,j+2<=E.r->E.N (j+1)=ë->S (F.L+1+j)=JW F (E.I j) j (E.C j)/\kp (F.L+1+j)=kW F (E.I j) (E.C j)
 k:∀x e,x<E.r->E.N x=À e->S (F.L+x)=JE F e/\kp (F.L+x)=.no/\((∃N,e=.jw N)->tr (F.L+x)=.fB)
 l:∀i,0<i->i<F.L->S i=pB F.P (E.h i)/\tr i=.fB/\kp i=.no
 a:iJ F E lot gs.size w
 M:Wd F E w
 C:Ps F E
 d:TI F.toFx t0 jr E.r (E.S.rl) E.V E.e E.d E.iz E.f t
 c:fh F E gs w
 f:∀j r,j+2<=E.r->E.C j=.jM r->1<=F.r (j+r*F.n)->bD t (F.L+1+j) (E.e<|F.r<|j+r*F.n)
structure gS(F:Ph):Prop where
 C:F.Ok
 S:∀k s V w w',F.d k s V w->(∀b,V b->w'.heap[b]?=w.heap[b]?)->w'.cell? (ji F.toFx k)=w.cell? (ji F.toFx k)->w'.cell? (ju F F.f)=w.cell? (ju F F.f)->kY w' F.Y=kY w F.Y->(w'.os=w.os/\w'.output=w.output)->F.d k s V w'
 GD:∀j dk l g w₁,F.g j dk l g->fG l l.w w₁->F.g j dk {l with w:=w₁} g
 I:∀j dk l g,F.g j dk l g->g.status=Ð
 N:∀k l g,F.h k l g->g.status=Ð
 Y:∀c i l g,F.e c i l g->g.status=Ð
 M:∀dk l g,F.j dk l g->g.status=Ð
 go:∀j dk l g,j<=F.n->F.g j dk l g->gA l->l.d=0/\∃(g' child:Ó) (X:Nat->Prop),g'.status=Ð/\child.status=Ð/\(∀w₁,Ù F.P É g w₁=.spawn g' child w₁ #[])/\(∀b,X b->l.O b)/\
  (1<=j->l.O (dk<|j-1)/\¬X (dk<|j-1)/\l.w.heap[dk<|j-1]?=À (χ F.q #[] Ã 0 0 Ã)/\F.S<=dk (j-1))/\
  (∀l':fc,gA l'->(∀b,X b\/l.I b->l'.I b)->l'.w=l.w->l'.d=0->¬l'.q->(∀b,¬l'.O b)->l'.K=l.K->l'.N=l.N->(∀a,l'.r a->l.r a)->fi F.P Ã (if j=0 then F.h 0 else DC F (dk<|j-1) (j-1) 0) l' child)/\
  (∀l':fc,gA l'->l'.O=(λb=>l.O b/\¬X b/\(1<=j->b≠dk (j-1)))->(∀b,X b\/l.I b->l'.I b)->l'.w=l.w->l'.d=0->l'.q=l.q->l'.K=l.K->l'.N=l.N->(∀a,l'.r a->l.r a)->fi F.P É (JM F dk<|if j<F.n then .iI (j+1)else .iL F.q) l' g')
 f:∀k s V l g,k<F.m->F.h k l g->gA l->nD F k s->F.d k s V l.w->(∀b,V b->l.I b)->l.N (ji F.toFx k)->l.r (ji F.toFx<|k+1)->l.r (ju F<|F.b<|k+1)->∀sg:Nat->F.γ,sg k=s->fi F.P Ã (JI F sg<|.mk (k+1)) l g
 h:∀l g,F.h F.m l g->gA l->fi F.P Ã (Ba F) l g
 e:∀c j r s V l g,j+r*F.n<F.q->F.e c (j+r*F.n) l g->∀l':fc,gA l'->l'.O=l.O->(∀b,l.I b\/V b->l'.I b)->l'.w=l.w->l'.d=l.d->l'.q=l.q->l'.r=l.r->l'.K=l.K->nD F (F.r<|j+r*F.n) s->F.d (F.r<|j+r*F.n) s V l.w->l'.N (ji F.toFx<|F.r<|j+r*F.n)->l'.r (ju F<|F.a<|j+r*F.n)->fi F.P Ã (JW F c j<|.oS r) l' g
end Go.Proofs.Y.fv
