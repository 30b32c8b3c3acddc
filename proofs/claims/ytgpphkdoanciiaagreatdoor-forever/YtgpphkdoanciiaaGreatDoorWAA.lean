/- Forever: the texts of the proof, packed by program out of some 250: remarks struck, names and blanks shortened, for the limit of a claim's size. -/
import Derived.KernelRfl
import Derived.Conc.Own
import Derived.Conc.Events
import Derived.Laws.Sem
import Derived.Conc.Own5
import Derived.Conc.CompanyDraw
import Derived.Conc.Know
import Derived.Conc.Beside
import Derived.Conc.MarkLaws
import Derived.Conc.CrowdComm
import Derived.Conc.CrowdTrace
import Derived.Conc.CrowdBase
set_option linter.all false
set_option maxRecDepth 1000000
set_option maxHeartbeats 8000000
open Option renaming some->À,none->ë,map_eq_some_iff->ģ,map_some->bG
open Go renaming TypeId->Á,Value->Â,World->Æ,Goroutine->Ó,Program->Õ,Operand->Ö,stepG->Ù,Addr->Ú,FuncId->à,execOp->ì,underlying->ø,resolve->ù,IntKind->ú,Event->ý,run_program->ă,variablesAt->Ą,invoke->č,builtin->Ē,Sem->ē,loadBytes->ĕ,Frame->Ę,Trace->ğ,BinOp->ġ,results->Ī,behindNumber->Į,FloatKind->ı,callFunc->ĵ,undef->ľ,yielded->ł,loadCellsFrom->Ō,convert->Œ,movedNumber->ŕ,Item->ś,movedPointer->Ţ,binOp->Ũ,elemOf->Ū,sameAddr->Ŭ,deafBehind->ŭ,eqGuard->ŷ,typeInfo->Δ,partners->Η,RuntimeError->Ι,storeCells->Κ,Next->Ο,cellAtBytes->ξ,choose->π,Tape->ψ,zeroValue->ω,loadVar->ae,Code->aj,store->ak,Oper->au,BoundsCode->av,sizeOf->ax,storeVar->aI,nilAhead->aQ,lone->aT,load->aW,noView->aX,liesAt->aY,findLabel->bh,stringish->bl,Unsupported->bq,followBlind->bu,Act->bE,askRoom->bO,Machine->bQ,Question->bT,asBool->bV,asAddr->bW,fieldPlace->bX,numberAt->bZ,asNumber->b9,getObj->cm,shape->cu,exitTo->cC,gotoIn->cD,mayBeOne->cJ,runT->cW,MemOp->cX,loadCells->cZ,rowAt->c8,program->dc,asIntOf->de,viewAt->di,byteOf->dj,unwind->dt,runN->du,cellsIn->dw,asInt->dA,TypeDesc->dF,runN_add->dI,Touch->dL,step->dP,Loc->dQ,newRow->dR,PanicEntry->ec,isAgg->ep,Race->eD,newVar->eJ,asAgg->eK,newObj->eL,frozen->eM,freeze->eU
open Bool renaming false->Ã,false_eq_true->Å,true->É,and_eq_true_iff->Ü,not_true->þ,not_false->Ă,and_eq_true->ě,or_eq_true_iff->Ŝ,eq_iff_iff->Χ,or_eq_true->bH
open Go.Sem renaming run_bind->Ä,runT_bind'->Ñ,run->ã,bind->ç,runT->é,run_bind'->Ĵ,bind_assoc'->ř,runT_eq->ź,runT_fst->Ρ,pure->aH,store->c9,halt->ek
open Or renaming inl->Ç,inr->Î
open Go.Result renaming andThen_ok->È,ok->ĥ,halt->bU
open Go.Op renaming operands->Ê,equal->ó,maxDepth->ā,eqGuardIn->į,twoPlaces->š,equalIn->Λ,addrSub->Μ,addrCmp->Ν,addrMod->Ξ,call->Ω,intDiv->ag,shift->aJ,convert->aL,stringOp->br,unary->bY,makeInterface->cI,floatArith->cS,complexOp->dm,buildSlice->dC,intArith->dD,floatCmp->dE,binOp->dS,makeSlice->dT,fieldAddr->dU,indexAddr->dV,intBits->dX,nilCheck->eA,intCmp->eB
open Array renaming getElem?_eq_some_iff->Ë,getElem?_setIfInBounds_ne->Ï,getElem?_setIfInBounds_self_of_lt->Ò,mem_of_getElem?->Û,getElem?_eq_getElem->Ý,getElem?_append_right->ć,empty_append->Ď,append_empty->ď,mapM_eq_mapM_toList->Ĕ,mem_append->Ĝ,getElem?_push_lt->Ģ,getD_eq_getD_getElem?->ĩ,replicate->ĺ,append_assoc->Ļ,append_singleton->Ł,all_eq_true->Ń,getElem?_modify->Ň,mem_iff_getElem->ŉ,getElem?_setIfInBounds->Ś,getElem_map->ŵ,getElem_extract->κ,forIn_toList->aD,range->dB
open Go.stepG renaming exec->Ì,apply->bB
open Go.MemOp renaming ofEvents->Í
open Go.GoStatus renaming running->Ð,finished->Ğ,blocked->Ů
open Nat renaming lt_of_lt_of_le->Ô,le_refl->ß,le_trans->õ,exists_eq_add_of_le->Ε,div_le_div_right->ο,add_assoc->cP,le_of_eq->dy,zero_le->dz
open List renaming map_toArray->Ø,map_cons->â,map_nil->ä,mem_cons_self->î,mem_cons_of_mem->ò,eq_nil_of_length_eq_zero->Ā,zipIdx_cons->Ĭ,mem_cons->œ,mem_singleton->ū,foldlM_cons->Ζ,filter_eq_nil_iff->Υ,foldlM_nil->ζ,forIn_cons->η,mapM_cons->ν,forIn_nil->φ,map_eq_nil_iff->ai,flatMap_cons->aU,mapM_nil->cR
open Go.Value renaming pointer->Þ,int->Ć,string->ħ,bool->Ľ,tuple->ſ,nilIface->aV,slice->bR,nilFunc->bS,chan->ei,func->eI
open Go.Item renaming inRegion->á,code->Đ,inLoop->dp,inBlock->dG,inScope->dH
open Go.Act renaming eval->å
open Go.IntKind renaming u64->æ,i64->Ŋ,u32->ŗ
open Go.MemAct renaming ofEvent->è,touch?->ÿ,mark->Ř
open Go.Builtin renaming unsafeString_->ê,unsafeAdd_->ñ,unsafeSliceData_->ė,min2->Ĳ,append_->ĸ,firstCells->ļ,min_->ń,copy_->ő,len_->ş,cap_->Š,zeroCells->Ŷ,lenOf->Α,holdsCells->aA,mayShare->aZ,unsafeSliceData->bk,unsafeString->cV
open Go.Conc renaming mem_ofEvents->í,touchAt->Ě,crowd->ķ,woken->ţ,stepG_region_draw->Ż,parked->Γ,Deaf->Τ,rcase->θ,stepG_unwanted->υ,g?_old->aF,knows_own->bm,deafBehind_still->bn,stepG_value->bz,stepG_enter->bA,Knows->bC,stepG_cond->cE,mem_listed->cF,stepG_none->cG,enter_at->cH,deaf_old->cN,touch_of->dM,act?_old->dO,hb_app->ef,touch_mute->eg,counts_old->eh,act?_of->ez
open Go.Next renaming value->ï,enter->ũ,skip->aG
open Go.TypeDesc renaming pointer->ð,unsafePointer->đ,string->ę,int->Β,struct->df,slice->dh
open Go.Call renaming operands->ô
open Go.Conv renaming unsafePointer->ö,bytesToString->ü,seenAt->Ž,runesToString->aE,floatToFloat->aP,intToString->bg,floatToInt->bJ,intToInt->cT
open Go.Loc renaming cell->û,mark->ů
open Ne renaming symm->ą
open Go.World renaming frozen?->Ĉ,setCell->ĉ,freeze->Ė,cell?->Ġ,farLoad->ŋ,farStore->Ŧ,shape?->Θ,setChan->ar,noCell->aO,viewStore->bI
open Go.Extern.BytealgMakeNoZero renaming makeNoZero->Ċ,digits->ņ
open Go.Mode renaming atomic->ċ,plain->Ť
open Go.Obj renaming cells->Č,pending->Ÿ,chan->χ
open Go.Callee renaming builtin->ĝ,value->cg
open Option.some renaming inj->Ĥ,injEq->ž
open Go.Region renaming wanted->Ħ,schedule->bL,Mode->eG
open Go.Instr renaming sliceBounds->Ĩ,sliceBound->ī,buildSlice->ĭ,storeAt->ĳ,makeSlice->Ĺ,extract->ō,fieldAt->Ŏ,indexAt->ŏ,sliceAt->Ő,makeInterface->ŝ,loadAt->Ş,sureAddr->ŧ,alloc->Ű,field->ű,slice->Ų,index->ų,build->Ŵ,panic->ż,box->af,fill->ay
open Go.Deferred renaming ofValue->İ
open Go.Mark renaming releaseMerge->Ķ,disable->cK,acquire->cL,noRoom->da,enable->dx,release->dN
open Go.Extern.AbiNoEscape renaming same->Ŀ
open Go.Halt renaming unsupported->ŀ
open Go.Trace renaming g?->Ņ
open Go.Stepped renaming next->ň
open Go.Touch.Kind renaming atomic->Ŕ,plain->eW
open Go.Frame renaming raise->Ŗ,finish_at->ε,finish->aS,catches->cU,enter->dJ
open Go.Unsupported renaming unsafePointer->ť
open Go.GStep renaming after->Ź,go->aR,ended->eS
open Go.Goroutine renaming again->ι
open Except renaming bind->ρ,pure->ς,error->bF,map->cj
open Go.Op.Complex renaming corrected->σ,quotient->ah,product->aB,arith->bb,conv->bK,cmp->cw,mul->cx,add->cy,sub->cz,quo->cA
open Go.BinOp renaming eql->az,neq->aK
open Go.Operand renaming func->aN,const->dW,global->eu
open Go.Code renaming cond->bx,region->bP,refuse->dr,label->dY,block->dZ,scope->ea,skip->eN,loop->eO,exit->eP,goto->eR
open Go.ConcN renaming sumTo->bD,fork_knows->cO
variable{i n j b k m J j9 j7 j6:Nat}{w u W jX:Æ}{v x z jQ:Â}{g:Ó}{a p:Ú}{h c:Int}{e t T:Á}{d q:Array Â}{P:Õ}{y:bE}{B:ByteArray}{X:Nat->Prop}{O:Option Ú}{l:List Â}{yQ:Bool}{K H:bE->Æ->Prop}{o:au}{D:Nat->Nat}{E:Array Ó}{L:List ś}{jJ:List Nat}{qX:List Ę}{qQ:Ö}{qJ:ğ}{zX:dQ->Prop}{zQ:List Int}{zJ:Go.TypeInfo}{xX:Ö->Â}{xQ:ψ}{xJ:Nat×Nat}{wX:aj}{wQ:cX}{wJ:Array Bool}{vX:List ByteArray}{vQ:Â->Æ->Prop}{vJ:Go.Exit->bE->Æ->Prop}{yX:eG}{Q:Array au}{f:Ę}{V:Array ý}{F:à}{s:Go.Func}
namespace Go.Proofs
theorem U{A:Sort _}{a:A}:a=a:=rfl
theorem Z{p:Prop}(h:p:=by omega):p:=h
theorem A{p:Prop}(h:p:=by decide):p:=h
theorem fp{p:Prop}(h:p:=by simp):p:=h
theorem fu{p:Prop}(h:p:=by kernel_rfl):p:=h
theorem fW{p:Prop}(h:p:=by rfl):p:=h
end Go.Proofs
namespace Go.Proofs.Y.Lift
open Go
abbrev fg{α:Type}:α->Prop:=λ_=>False
structure ft where
 jy:Nat->Nat->Prop
 C:Nat
instance:CoeFun ft λ_=>Nat->Nat->Prop:=⟨ft.jy⟩
def Bi(Y:ft):Prop:=(∀i j a,Y i j->Y i a->j=a)/\(∀i a j,Y i j->Y a j->i=a)/\(∀i j,Y i j->(i<Y.C↔j<Y.C))
def ft.r(Y a:ft):Prop:=(∀i j,Y i j->a i j)/\(Bi Y->Bi a)/\a.C=Y.C
def ft.N(Y:ft)(r a:Nat):ft:=⟨λi j=>Y i j\/(i=r/\j=a),Y.C⟩
def ft.M(Y:ft):Y.r Y:=⟨λ_ _ h=>h,id,U⟩
theorem ft.I{a b c:ft}(h:a.r b)(k:b.r c):a.r c:=⟨λi j x=>k.1 i j<|h.1 i j x,λx=>k.2.1<|h.2.1 x,k.2.2.trans h.2.2⟩
theorem ft.S{Y:ft}{r:Nat}(c:∀j,¬Y r j)(d:∀a,¬Y a i)(f:Y.C<=r)(g:Y.C<=i):Y.r (Y.N r i):=by
 refine⟨λ_ _ h=>Ç h,λb=>⟨?_,?_,?_⟩,U⟩
 .rintro a j k (x|⟨rfl,rfl⟩) (y|⟨e,rfl⟩)
  .exact b.1 _ _ _ x y
  .grind
  .grind
  .rfl
 .rintro a k j (x|⟨rfl,rfl⟩) (y|⟨rfl,e⟩)
  .exact b.2.1 _ _ _ x y
  .grind
  .grind
  .rfl
 .rintro a j (x|⟨rfl,rfl⟩)
  .exact b.2.2 _ _ x
  .show(a<Y.C↔j<Y.C);omega
def gX(Y:ft)(a b:Ú):Prop:=Y a.block b.block/\a.off=b.off/\a.spot=b.spot
def gX.r{Y b:ft}(h:Y.r b)(r:gX Y a p):gX b a p:=⟨h.1 _ _ r.1,r.2⟩
def gX.C{Y:ft}(r:gX Y a p)(n:Nat):gX Y (a.add n) (p.add n):=by
 let⟨b,c,d⟩:=r;unfold Addr.add;by_cases e:n=0
 .rw[if_pos e,if_pos e];exact⟨b,c,d⟩
 .rw[if_neg e,if_neg e];exact⟨b,by simp[c],U⟩
inductive fl(Y:ft):Â->Â->Prop
 |mf (b:Bool):fl Y (Ľ b) (Ľ b)
 |iF (k:ú) (n:Int):fl Y (Ć k n) (Ć k n)
 |kI (s:ByteArray):fl Y (ħ s) (ħ s)
 |lA:fl Y (Þ ë) (Þ ë)
 |jI {a a':Ú} (h:gX Y a a'):fl Y (Þ<|À a) (Þ<|À a')
 |nS (n c:Nat):fl Y (bR ë n c) (bR ë n c)
 |kC {a a':Ú} (h:gX Y a a') (n c:Nat):fl Y (bR (À a) n c) (bR (À a') n c)
 |uD:fl Y bS bS
 |fn (f:Fn):fl Y (eI f #[] #[]) (eI f #[] #[])
 |uE:fl Y aV aV
 |uF:fl Y (ei ë) (ei ë)
 |uG:fl Y (.map ë) (.map ë)
 |xC (t:Á) {v v':Â} (h:fl Y v v'):fl Y (.iface t v) (.iface t v')
 |n9 {cs lB:Array Â} (hs:cs.size=lB.size) (h:∀i (h1:i<cs.size) (h2:i<lB.size),fl Y cs[i] lB[i]):fl Y (.agg cs) (.agg lB)
 |nu {cs lB:Array Â} (hs:cs.size=lB.size) (h:∀i (h1:i<cs.size) (h2:i<lB.size),fl Y cs[i] lB[i]):fl Y (ſ cs) (ſ lB)
def fl.fN{Y a:ft}(h:Y.r a)(r:fl Y v x):fl a v x:=by
 induction r with
 |mf b=>exact .mf b
 |iF k n=>exact .iF k n
 |kI s=>exact .kI s
 |lA=>exact .lA
 |jI b=>exact .jI (b.r h)
 |nS n c=>exact .nS n c
 |kC b n c=>exact .kC (b.r h) n c
 |uD=>exact .uD
 |fn f=>exact .fn f
 |uE=>exact .uE
 |uF=>exact .uF
 |uG=>exact .uG
 |xC t _ b=>exact .xC t b
 |n9 c _ b=>exact .n9 c b
 |nu c _ b=>exact .nu c b
structure fQ(Y:ft)(cs lB:Array Â):Prop where
 r:cs.size=lB.size
 C:∀i (h1:i<cs.size) (h2:i<lB.size),fl Y cs[i] lB[i]
def fQ.I{Y a:ft}(h:Y.r a){cs:Array Â}(r:fQ Y cs d):fQ a cs d:=⟨r.r,λi b c=>(r.C i b c).fN h⟩
theorem fQ.S{Y:ft}(r:fQ Y d q)(i:Nat):(d[i]?=ë/\q[i]?=ë)\/∃v b,d[i]?=À v/\q[i]?=À b/\fl Y v b:=by
 by_cases h:i<d.size
 .have a:i<q.size:=by rwa[<-r.r]
  exact Î ⟨d[i],q[i],Ý h,Ý a,r.C i h a⟩
 .have a:¬i<q.size:=by rwa[<-r.r]
  grind
def fQ.N(Y:ft):fQ Y #[] #[]:=⟨U,λi h=>absurd h fp⟩
theorem fQ.TY{Y:ft}(r:fQ Y d q)(h:fl Y v x):fQ Y (d.push v) (q.push x):=by
 refine⟨by simp[r.r],λi b c=> ?_⟩;simp only[Array.getElem_push];have e:=r.r;by_cases a:i<d.size
 .rw[dif_pos a,dif_pos Z];exact r.C i a Z
 .grind
theorem fQ.p7{Y:ft}(r:fQ Y d q)(n:Nat)(h:fl Y v x):fQ Y (d.setIfInBounds n v) (q.setIfInBounds n x):=by
 refine⟨by simp[r.r],λi c e=> ?_⟩;have f:i<d.size:=by simpa using c
 have g:i<q.size:=by simpa using e
 have a:(d.setIfInBounds n v)[i]?=if n=i then À v else d[i]?:=by grind
 have b:(q.setIfInBounds n x)[i]?=if n=i then À x else q[i]?:=by grind
 rw[Ý c]at a;rw[Ý e]at b;by_cases j:n=i
 .grind
 .rw[if_neg j]at a b;rw[Ý f]at a;rw[Ý g]at b;injection a with a;injection b with b;rw[a,b];exact r.C i f g
def fQ.sL{Y:ft}{cs b:Array Â}(r:fQ Y cs d)(t:fQ Y q b):fQ Y (cs++q) (d++b):=by
 refine⟨by simp[r.r,t.r],λi c g=> ?_⟩;have e:=r.r;have f:=t.r;simp only[Array.getElem_append];by_cases a:i<cs.size
 .rw[dif_pos a,dif_pos Z];exact r.C i a Z
 .rw[dif_neg a,dif_neg Z];have:=t.C (i-cs.size) (by simp at c;omega) (by simp at c;omega);simpa[e]using this
def fQ.EM{Y:ft}(r:fQ Y d q)(a b:Nat):fQ Y (d.extract a b) (q.extract a b):=by refine⟨by simp[r.r],λi c e=> ?_⟩;rw[κ ..,κ ..];exact r.C _ _ _
def fQ.M{Y:ft}(h:fl Y v x):fQ Y #[v] #[x]:= ⟨U,λi a b=>by have:i=0:=(by simpa using a);subst this;exact h⟩
def fl.gR{Y:ft}(h:fl Y v x):fQ Y v.cells x.cells:=by
 cases h with
 |n9 a h=>exact⟨a,h⟩
 |mf b=>exact fQ.M<|.mf b
 |iF k n=>exact fQ.M<|.iF k n
 |kI s=>exact fQ.M<|.kI s
 |lA=>exact fQ.M .lA
 |jI b=>exact fQ.M<|.jI b
 |nS n c=>exact fQ.M<|.nS n c
 |kC b n c=>exact fQ.M<|.kC b n c
 |uD=>exact fQ.M .uD
 |fn f=>exact fQ.M<|.fn f
 |uE=>exact fQ.M .uE
 |uF=>exact fQ.M .uF
 |uG=>exact fQ.M .uG
 |xC t b=>exact fQ.M<|.xC t b
 |nu a h=>exact fQ.M<|.nu a h
def xD:Â->Bool
 |.agg _|ſ _=>Ã
 |_=>É
def EN(e:Á)(n:Nat):Prop:=(e=304\/e=305)/\n<=16
class zF (P:Õ):Prop where
 lt:∀e n,EN e n->n<P.cellsOf e
def B9(e:Á)(n a:Nat):Prop:=n=a\/(n<=a/\EN e n)
structure oF(Y:ft)(s:Prop)(e:Á)(c c':Array Â):Prop where
 r:∀i (_:i<c.size) (_:i<c'.size),fl Y c[i] c'[i]
 I:c.size<=c'.size
 C:c.size=c'.size\/(s/\EN e c.size)
section
variable{Y d:ft}{s:Prop}{c c':Array Â}
def oF.M(h:fQ Y c c'):oF Y s e c c':=⟨h.C,by rw[h.r];exact ß _,Ç h.r⟩
def oF.N(h:oF Y s e c c')(a:¬s):fQ Y c c':=⟨h.C.resolve_right λq=>a q.1,h.r⟩
def oF.fN(h:oF Y s e c c')(l:Y.r d):oF d s e c c':=⟨λi a b=>(h.r i a b).fN l,h.I,h.C⟩
theorem oF.EO(h:oF Y s e c c')(i:Nat):(c[i]?=ë/\True)\/∃v a,c[i]?=À v/\c'[i]?=À a/\fl Y v a:=by
 by_cases q:i<c.size
 .have b:=Ô q h.I;exact Î ⟨c[i],c'[i],Ý q,Ý b,h.r i q b⟩
 .grind
def oF.abC(h:oF Y s e c c'):B9 e c.size c'.size:=h.C.imp id λq=>⟨h.I,q.2⟩
end
inductive fG(P:Õ){α:Type}(V:ft->α->α->Prop):ft->ē α->ē α->Prop
 |fD {Y:ft} {a a':α} (h:V Y a a'):fG P V Y (aH a) (aH a')
 |gB {Y:ft} {a a':Ú} {k k':Â->ē α} (ha:gX Y a a') (hk:∀v v',fl Y v v'->fG P V Y (k v) (k' v')):fG P V Y (.load Ť a k) (.load Ť a' k')
 |jb {Y:ft} {a a':Ú} {v v':Â} {k k':ē α} (ha:gX Y a a') (hv:fl Y v v') (hk:fG P V Y k k'):fG P V Y (c9 Ť a v k) (c9 Ť a' v' k')
 |xE {Y:ft} {c c':Array Â} {e:Á} {k k':Nat->ē α} (hc:fQ Y c c') (hk:∀r r',(∀j,¬Y r j)->(∀i,¬Y i r')->Y.C<=r->Y.C<=r'->fG P V (Y.N r r') (k r) (k' r')):fG P V Y (.new (Č c e) k) (.new (Č c' e) k')
 |uH {Y:ft} {r r':Nat} {k k':Option (TypeId×Nat)->ē α} (hr:Y r r') (hk:∀e n n',B9 e n n'->fG P V Y (k<|À (e,n)) (k'<|À (e,n'))):fG P V Y (.shape r k) (.shape r' k')
 |Mw {Y:ft} {a a':Ú} {k k':Bool->ē α} (ha:gX Y a a') (hk:∀b b',(b'=É->b=É)->fG P V Y (k b) (k' b')):fG P V Y (.frozen a k) (.frozen a' k')
 |zG {Y:ft} {q:bT} {k k':Nat->ē α} (hk:∀n,fG P V Y (k n)<|k' n):fG P V Y (.choose q k) (.choose q k')
 |Ij {Y:ft} {k k':Õ->ē α} (hk:fG P V Y (k P) (k' P)):fG P V Y (.program k) (.program k')
 |Ca {Y:ft} {m:Mark} {k k':ē α} (hm:m=da\/∃f,m=.extern f) (hk:fG P V Y k k'):fG P V Y (.mark m k) (.mark m k')
 |fO {Y:ft} {h:Halt} {m:ē α}:fG P V Y (ek h) m
 |oa {Y:ft} {m m':ē α} (h:∀u x u',m.run P u≠ĥ x u'):fG P V Y m m'
def vA{α β:Type}{m:ē α}{f:α->ē β}(h:∀u x b,m.run P u≠ĥ x b):∀u x b,(m.bind f).run P u≠ĥ x b:=by
 intro u x b e;have c:(m>>=f).run P u=ĥ x b:=e;rw[Ä]at c;cases d:m.run P u with
 |ok a w=>exact h _ _ _ d
 |halt z w=>rw[d]at c;cases c
def fG.lQ{α β:Type}{V:ft->α->α->Prop}{l:ft->β->β->Prop}{Y:ft}{m o:ē α}{f p:α->ē β}(h:fG P V Y m o) (g:∀i a k,Y.r i->V i a k->fG P l i (f a) (p k)):fG P l Y (m.bind f) (o.bind p):=by
 induction h with
 |fD h=>exact g _ _ _ (ft.M _) h
 |gB j _ d=>exact .gB j λv c b=>d v c b g
 |jb j b _ d=>exact .jb j b (d g)
 |xE q _ d=>exact .xE q λr s c e n v=>d r s c e n v λi a k t b=>g i a k (ft.I (ft.S c e n v) t) b
 |uH b _ d=>exact .uH b λe n v c=>d e n v c g
 |Mw j _ d=>exact .Mw j λb c v=>d b c v g
 |zG _ d=>exact .zG λn=>d n g
 |Ij _ d=>exact .Ij (d g)
 |Ca c _ d=>exact .Ca c (d g)
 |fO=>exact .fO
 |oa h=>exact .oa (vA h)
def xF:Â->Bool
 |Ć .u8 _=>É
 |_=>Ã
def Cb(c:Array Â):Prop:=∀(k:Nat) (v:Â),c[k]?=À v->xF v=Ã
structure jf(Y:ft)(Sh:Nat->Prop)(u w:Æ):Prop where
 S:u.tape=w.tape
 N:u.drawn=w.drawn
 C:Bi Y
 I:Y.C<=u.heap.size
 M:Y.C<=w.heap.size
 r:∀i j,Y i j->∃c c' e fr vB,u.heap[i]?=À (Č c e fr)/\w.heap[j]?=À (Č c' e vB)/\oF Y (Sh j) e c c'/\(Sh j->fr.1=0/\c.size<=fr.2/\vB.2<=fr.2/\0<c.size/\(Cb c\/EN e c.size))/\(¬Sh j->fr=vB)/\fr.2<=c.size
structure ny(Y:ft)(Sh:Nat->Prop)(w w':Æ):Prop where
 r:w.heap.size<=w'.heap.size
 I:w'.os=w.os
 M:w'.output=w.output
 S:w'.tape=w.tape
 C:∀j,j<w.heap.size->(∀i,¬Y i j)->w'.heap[j]?=w.heap[j]?
 N:∀j,Sh j->j<w.heap.size->w'.heap[j]?=w.heap[j]?
def zH(Y:ft)(b:Nat->Prop)(e:ý):Prop:=
 (∃(a:Ú) (i:Nat),e.loc=û a/\Y i a.block/\e.sync=Ã/\(e.write=É->¬b a.block))\/e.loc=ů da\/∃f,e.loc=ů (.extern f)
def vC{α:Type}{m:Mode}{k:ē α}(h:xD v=É): ã P (c9 m a v k) w=(match w.cell? a with
 |some _=>if w.frozen? a then bU (ŀ<|ť "a write to bytes that a string shares") w else k.run P (w.setCell a v)
 |none=>match w.farStore P a v (m==ċ)with
  |.ok (w,_)=>k.run P w
  |bF h=>bU h w):=by
 cases v<;>first|rfl|cases h
def abD{α:Type}{m:Mode}{k:ē α}(h:xD v=É): é P (c9 m a v k) w V=(match w.cell? a with
 |some _=>
  if w.frozen? a then(bU (ŀ<|ť "a write to bytes that a string shares") w,V)
  else k.runT P (w.setCell a v) (V.push ⟨û a,É,m==ċ⟩)
 |none=>match w.farStore P a v (m==ċ)with
  |.ok (w,touched)=>k.runT P w (V++touched.toArray.map (⟨.cell ·,É,m==.atomic⟩))
  |bF h=>(bU h w,V)):=by
 cases v<;>first|rfl|cases h
def abE{α:Type}{m:Mode}{k:ē α}(h:xD v=Ã){x:α}:ã P (c9 m a v k) w≠ĥ x u:=by cases v<;>first|exact Bool.noConfusion h|(intro e;simp[ã]at e)
def abF{Y:ft}(h:fl Y v x):xD x=xD v:=by cases h<;>rfl
section
variable{Y:ft}
def zI(h:u.heap[a.block]?=À (Č d e xJ)):u.cell? a=if a.spot.isSome then ë else d[a.off]?:=by simp[Ġ,h]
def abG(h:u.heap[a.block]?=À (Č d e xJ))(b:Bool):∃x,u.farLoad P a b=bF x:=by simp[ŋ,h]
def abH(h:u.heap[a.block]?=À (Č d e xJ))(b:Bool):∃x,u.farStore P a v b=bF x:=by simp[Ŧ,h]
def jf.gB(h:jf Y X u w){a':Ú}(i:gX Y a a')(b:u.cell? a=À v):∃f,w.cell? a'=À f/\fl Y v f:=by
 let⟨j,k,l⟩:=i;let⟨c,s,e,t,y,m,n,o,_⟩:=h.r _ _ j;rw[zI m]at b;rw[zI n,<-k,<-l];cases g:a.spot with
 |some x=>rw[g]at b;cases b
 |none=>
  rw[g]at b;rcases o.EO a.off with⟨d,_⟩|⟨x,p,d,q,r⟩
  .simp[d]at b
  .simp[d]at b;subst b;exact⟨p,by simp[q],r⟩
theorem jf.abI(h:jf Y X u w)(g:gX Y a p)(i:u.cell? a=À v)(j:u.frozen? a=Ã):¬X p.block/\w.frozen? p=Ã:=by
 let⟨k,l,q⟩:=g;let⟨c,r,e,b,s,d,m,t,x,n,y⟩:=h.r _ _ k;rw[zI d]at i;have z:a.off<c.size:=by grind
 have o:(decide (b.1<=a.off)&&decide (a.off<b.2))=Ã:=by simpa[Ĉ,d]using j
 have f:¬X p.block:=by grind
 refine⟨f,?_⟩;have:=n f;subst this;simp only[Ĉ,m,<-l];exact o
def T0{w:Æ}(h:w.heap[a.block]?=À (Č d e xJ))(b:a.spot=ë): (w.setCell a v).heap[a.block]?=À (Č (d.setIfInBounds a.off v) e xJ):=by simp[ĉ,Ň,h,b]
def jP{w:Æ}:(w.setCell a v).heap.size=w.heap.size:=by simp[ĉ]
def Ik{w:Æ}(h:a.block≠j):(w.setCell a v).heap[j]?=w.heap[j]?:=by simp[ĉ,Ň,h]
def jf.jb(h:jf Y X u w)(B:gX Y a p)(C:fl Y v z)(D:u.cell? a=À x)(m:¬X p.block):jf Y X (u.setCell a v) (w.setCell p z):=by
 let⟨d,E,F⟩:=B;have n:a.spot=ë:=by let⟨c,o,e,f,g,b,_⟩:=h.r _ _ d;rw[zI b]at D;simp_all
 refine⟨h.S,h.N,h.C,by rw[jP];exact h.I,by rw[jP];exact h.M,λi j k=> ?_⟩;let⟨c,o,e,f,g,b,q,r,G,t,y⟩:=h.r i j k;by_cases l:a.block=i
 .subst l;have:j=p.block:=h.C.1 _ _ _ k d;subst this;exact⟨_,_,e,f,g,T0 b n,T0 q (by rw[<-F,n]),by rw[<-E];exact oF.M<|(r.N m).p7 _ C,λs=>absurd s m,t,by simpa using y⟩
 .exact⟨c,o,e,f,g,by rwa[Ik l],by rwa[Ik λe=>l<|h.C.2.1 _ _ _ d<|e▸k],r,G,t,y⟩
theorem jf.xE(h:jf Y X u w)(m:∀j,X j->j<w.heap.size)(n:fQ Y d q): jf (Y.N u.heap.size w.heap.size) X {u with heap:=u.heap.push (Č d e)} {w with heap:=w.heap.push (Č q e)}:=by
 have a:∀i j,Y i j->i<u.heap.size/\j<w.heap.size:=by intro i j s;let⟨_,_,_,_,_,f,g,_⟩:=h.r i j s;grind
 have b:=ft.S (Y:=Y) (λj x=>absurd (a _ _ x).1 Z) (λi x=>absurd (a _ _ x).2 Z) h.I h.M;refine⟨h.S,h.N,b.2.1 h.C,by have:=h.I;simp[ft.N];omega,by have:=h.M;simp[ft.N];omega,?_⟩
 .rintro i j (x|⟨rfl,rfl⟩)
  .let⟨s,o,p,r,t,f,g,v,y,z,B⟩:=h.r i j x;let⟨k,l⟩:=a i j x;exact⟨s,o,p,r,t,by simp only[Ģ k];rw[<-f,Ý k],by simp only[Ģ l];rw[<-g,Ý l],v.fN b,y,z,B⟩
  .exact⟨d,q,e,(0,0),(0,0),fp,fp,oF.M<|n.I b,λs=>absurd (m _ s) Z,λ_=>rfl,dz _⟩
theorem ny.fT(Y:ft)(X:Nat->Prop)(w:Æ):ny Y X w w:=⟨ß _,U,U,U,λ_ _ _=>rfl,λ_ _ _=>rfl⟩
def ny.fh{b:ft}{w₁:Æ}(h:ny Y X w w₁)(k:ny b X w₁ u)(d:∀i j,b i j->Y i j\/w.heap.size<=j):ny Y X w u:= ⟨õ h.r k.r,k.I.trans h.I,k.M.trans h.M,k.S.trans h.S,λj a c=>(k.C j (Ô a h.r) λi y=>(d i j y).elim (c i) λz=>by omega).trans<|h.C j a c,λj s a=>(k.N j s<|Ô a h.r).trans<|h.N j s a⟩
def Il{w:Æ}:(w.freeze a n).heap.size=w.heap.size:=by unfold Ė;split<;>simp
def abJ{w:Æ}:(w.freeze a n).os=w.os:=by unfold Ė;split<;>rfl
def abK{w:Æ}:(w.freeze a n).output=w.output:=by unfold Ė;split<;>rfl
def Mx{w:Æ}:(w.freeze a n).tape=w.tape:=by unfold Ė;split<;>rfl
def T1{w:Æ}:(w.freeze a n).drawn=w.drawn:=by unfold Ė;split<;>rfl
theorem Im{w:Æ}(h:a.block≠j):(w.freeze a n).heap[j]?=w.heap[j]?:=by unfold Ė;split;all_goals grind
def rJ(a:Ú)(n:Nat)(b:Nat×Nat):Nat×Nat:=if n=0 then b else if b.1==b.2 then(a.off,a.off+n)else(min b.1 a.off,max b.2<|a.off+n)
theorem T3{w:Æ}(h:w.heap[a.block]?=À (Č d e xJ)):(w.freeze a n).heap[a.block]?=À (Č d e<|rJ a n xJ):=by unfold Ė rJ;grind
def T4(h:a.off=p.off)(n:Nat)(b:Nat×Nat):rJ a n b=rJ p n b:=by unfold rJ;rw[h]
theorem abL(h:a.off+n<=i)(b:xJ.2<=i):(rJ a n xJ).2<=i:=by unfold rJ;grind
theorem abM{b:Nat×Nat}(c:0<i)(d:xJ.1=0)(e:i<=xJ.2)(f:b.2<=xJ.2):(rJ a n xJ).1=0/\i<=(rJ a n xJ).2/\(rJ a n b).2<=(rJ a n xJ).2:=by unfold rJ;grind
def jf.abN(h:jf Y X u w)(y:gX Y a p)(n:Nat)(z:∀c e b,u.heap[a.block]?=À (Č c e b)->a.off+n<=c.size):jf Y X (u.freeze a n) (w.freeze p n):=by
 obtain⟨k,l,I⟩:=y;refine⟨Mx.trans<|h.S.trans Mx.symm,T1.trans<|h.N.trans T1.symm,h.C,by rw[Il];exact h.I,by rw[Il];exact h.M,λi j d=> ?_⟩;obtain⟨c,m,e,b,B,f,o,q,r,t,v⟩:=h.r i j d;by_cases g:a.block=i
 .subst g;have:j=p.block:=h.C.1 _ _ _ d k;subst this;refine⟨c,m,e,_,_,T3 f,T3 o,q,λs=> ?_,λs=> ?_,abL (z _ _ _ f) v⟩
  .obtain⟨C,D,E,x⟩:=r s;rw[<-T4 l];obtain⟨F,G,H⟩:=abM x.1 C D E;exact⟨F,G,H,x⟩
  .rw[t s,T4 l]
 .exact⟨c,m,e,b,B,by rwa[Im g],by rwa[Im λe=>g<|h.C.2.1 _ _ _ k<|e▸d],q,r,t,v⟩
theorem jf.G(h:jf Y X u w)(b:gX Y a p):w.frozen? p=É->u.frozen? a=É:=by let⟨d,f,j⟩:=b;let⟨c,k,e,l,m,g,i,n,o,q,r⟩:=h.r _ _ d;simp only[Ĉ,g,i,<-f,ě,decide_eq_true_eq];rintro⟨x,y⟩;by_cases s:X p.block;all_goals grind
theorem fG.gi{α:Type}{V:ft->α->α->Prop}{Y:ft}{m m':ē α}(h:fG P V Y m m'):∀{u w:Æ},jf Y X u w->(∀j,X j->j<w.heap.size)->∀{x:α} {E:Æ},m.run P u=ĥ x E->∀n:Array ý,∃(l:ft) (t:α) (p:Æ) (B:Array ý),Y.r l/\(∀i j,l i j->Y i j\/(u.heap.size<=i/\w.heap.size<=j))/\m'.runT P w n=(ĥ t p,n++B)/\V l x t/\jf l X E p/\ny Y X w p/\(∀e∈B,zH l X e)/\u.heap.size<=E.heap.size:=by
 induction h with
 |fD h=>
  intro u w d _ x E b n;simp only[ã]at b;cases b;exact⟨_,_,w,#[],ft.M _,λ_ _ h=>Ç h,by simp[é],h,d,ny.fT _ _ _,λe o=>by simp at o,ß _⟩
 |@gB Y a a' k k' ha hk D=>
  intro u w d C x E b n;simp only[ã]at b;cases f:u.cell? a with
  |none=>
   let⟨c,Q,e,fr,vB,O,_⟩:=d.r _ _ ha.1;let⟨z,s⟩:=abG (P:=P) O<|Ť==ċ;rw[f]at b;simp only[s]at b;cases b
  |some v=>
   rw[f]at b;let⟨W,S,y⟩:=d.gB ha f;let⟨l,t,p,B,F,G,I,J,K,g,L,H⟩:=D v W y d C b<|n.push ⟨û a',Ã,Ã⟩;refine⟨l,t,p,#[⟨û a',Ã,Ã⟩]++B,F,G,?_,J,K,g,λe o=> ?_,H⟩
   .simp only[é,S];rw[show((Ť==ċ)=Ã)from U,I];rw[<-Ļ,Ł]
   .rcases Ĝ.1 o with o|o
    .simp at o;subst o;exact Ç ⟨a',_,U,F.1 _ _ ha.1,U,λe=>by cases e⟩
    .exact L e o
 |@jb Y a a' v W k k' ha hv _ D=>
  intro u w d C x E b n;cases ho:xD v with
  |false=>exact absurd b<|abE ho
  |true=>
   rw[vC ho]at b;cases f:u.cell? a with
   |none=>
    let⟨c,Q,e,fr,vB,O,_⟩:=d.r _ _ ha.1;let⟨z,s⟩:=abH (P:=P) (v:=v) O<|Ť==ċ;rw[f]at b;simp only[s]at b;cases b
   |some y=>
    rw[f]at b;cases M:u.frozen? a with
    |true=>rw[M]at b;simp at b
    |false=>
     simp only[M,Å,if_false]at b;let⟨ns,hf'⟩:=d.abI ha f M;let⟨y',My,_⟩:=d.gB ha f;let⟨l,t,p,B,F,G,I,J,K,g,L,H⟩:=D (d.jb ha hv f ns) (by rwa[jP]) b<|n.push ⟨û a',É,Ã⟩;have S:(w.setCell a' W).heap.size=w.heap.size:=jP;have T5:(u.setCell a v).heap.size=u.heap.size:=jP;refine⟨l,t,p,#[⟨û a',É,Ã⟩]++B,F,by rwa[S,T5]at G,?_,J,K,?_,λe o=> ?_,by rwa[T5]at H⟩
     .rw[abD<|(abF hv).trans ho,My];simp only[hf',Å,if_false];rw[show((Ť==ċ)=Ã)from U,I];rw[<-Ļ,Ł]
     .refine⟨by rw[<-S];exact g.r,g.I,g.M,g.S,λj N T=> ?_,λj s N=>(g.N j s<|by rwa[S]).trans<|Ik λe=>ns<|e▸s⟩;rw[g.C j (by rwa[S]) T];exact Ik λe=>T a.block<|e▸ha.1
     .rcases Ĝ.1 o with o|o
      .simp at o;subst o;exact Ç ⟨a',_,U,F.1 _ _ ha.1,U,λ_=>ns⟩
      .exact L e o
 |@xE Y c Q e k k' f _ D=>
  intro u w d C x E b n;simp only[ã]at b;have W:∀i j,Y i j->i<u.heap.size/\j<w.heap.size:=by intro i j S;let⟨_,_,_,_,_,O,hw',_⟩:=d.r i j S;grind
  have n1:∀j,¬Y u.heap.size j:=λj y=>absurd (W _ _ y).1 Z;have n2:∀i,¬Y i w.heap.size:=λi y=>absurd (W _ _ y).2 Z;let⟨l,t,p,B,F,G,I,J,K,g,L,H⟩:=D u.heap.size w.heap.size n1 n2 d.I d.M (d.xE C f) (λj s=>by have:=C j s;simp;omega) b n;refine⟨l,t,p,B,ft.I (ft.S n1 n2 d.I d.M) F,λi j S=> ?_,by simp only[é];exact I,J,K,?_,L,by simp at H;omega⟩
  .rcases G i j S with(y|⟨rfl,rfl⟩)|y
   .exact Ç y
   .exact Î ⟨ß _,ß _⟩
   .simp at y;exact Î ⟨Z,Z⟩
  .have hs:=g.r;simp at hs;refine⟨Z,g.I,g.M,g.S,λj N T=> ?_,λj s N=>(g.N j s<|by simp;omega).trans ?_⟩
   .rw[g.C j (by simp;omega) (λi z=>z.elim (T i) λz=>by omega)];simp[Ģ N]
   .simp[Ģ N]
 |@uH Y r r' k k' oG _ D=>
  intro u w d C x E b n;simp only[ã]at b;let⟨c,Q,e,fr,vB,O,hw',S,_⟩:=d.r _ _ oG;have f:u.shape? r=À (e,c.size):=by simp[Θ,O]
  have s:w.shape? r'=À (e,Q.size):=by simp[Θ,hw']
  rw[f]at b;let⟨l,t,p,B,h⟩:=D e c.size Q.size S.abC d C b n;exact⟨l,t,p,B,by simp only[é,s];exact h⟩
 |@Mw Y a a' k k' ha _ D=>
  intro u w d C x E b n;simp only[ã]at b;let⟨l,t,p,B,h⟩:=D (u.frozen? a) (w.frozen? a') (d.G ha) d C b n;exact⟨l,t,p,B,by simpa only[é]using h⟩
 |@zG Y q k k' _ D=>
  intro u w d C x E b n;simp only[ã]at b;cases M:q.forced with
  |true=>
   rw[M]at b;simp only[if_true]at b;let⟨l,t,p,B,h⟩:=D 0 d C b n;exact⟨l,t,p,B,by simpa only[é,M,if_true]using h⟩
  |false=>
   rw[M]at b;simp only[Å,if_false]at b;have S:jf Y X {u with drawn:=u.drawn+1} {w with drawn:=w.drawn+1}:=⟨d.S,by simp[d.N],d.C,d.I,d.M,d.r⟩;rw[d.S,d.N]at b;obtain⟨l,t,p,B,F,G,I,J,K,g,L,H⟩:=D (q.cut<|w.tape w.drawn q) S C (by rwa[d.S,d.N]) n;exact⟨l,t,p,B,F,G,by simp only[é,M,Å,if_false];exact I,J,K,⟨g.r,g.I,g.M,g.S,g.C,g.N⟩,L,H⟩
 |Ij _ D=>
  intro u w d C x E b n;simp only[ã]at b;let⟨l,t,p,B,h⟩:=D d C b n;exact⟨l,t,p,B,by simpa only[é]using h⟩
 |@Ca Y mk k k' hm _ D=>
  intro u w d C x E b n;simp only[ã]at b;let⟨l,t,p,B,F,G,I,J,K,g,L,H⟩:=D d C b<|n.push ⟨ů mk,Ã,É⟩;refine⟨l,t,p,#[⟨ů mk,Ã,É⟩]++B,F,G,?_,J,K,g,λe o=> ?_,H⟩
  .simp only[é];rw[I];rw[<-Ļ,Ł]
  .rcases Ĝ.1 o with o|o
   .simp at o;subst o;rcases hm with rfl|⟨f,rfl⟩
    .exact Î<|Ç U
    .exact Î<|Î ⟨f,U⟩
   .exact L e o
 |fO=>
  intro u w _ _ x E b n;simp only[ã]at b;cases b
 |oa h=>
  intro u w _ _ x E b n;exact absurd b<|h _ _ _
end
inductive jK:Â->Prop
 |mf (b:Bool):jK (Ľ b)
 |iF (k:ú) (n:Int):jK (Ć k n)
 |kI (s:ByteArray):jK (ħ s)
 |lA:jK (Þ ë)
 |nS (n c:Nat):jK (bR ë n c)
 |uD:jK bS
 |uE:jK aV
 |uF:jK (ei ë)
 |uG:jK (.map ë)
 |n9 {cs:Array Â} (h:∀i (h:i<cs.size),jK cs[i]):jK (.agg cs)
 |nu {cs:Array Â} (h:∀i (h:i<cs.size),jK cs[i]):jK (ſ cs)
def jK.jy(h:jK v)(Y:ft):fl Y v v:=by
 induction h with
 |mf b=>exact .mf b
 |iF k n=>exact .iF k n
 |kI s=>exact .kI s
 |lA=>exact .lA
 |nS n c=>exact .nS n c
 |uD=>exact .uD
 |uE=>exact .uE
 |uF=>exact .uF
 |uG=>exact .uG
 |n9 _ b=>exact .n9 U λi c _=>b i c
 |nu _ b=>exact .nu U λi c _=>b i c
def nz(P:Õ):Prop:=∀t i z,P.info? t=À i->i.zero=À z->jK z
def jk{α:Type}:ft->α->α->Prop:=λ_ a b=>a=b
section
variable{Y:ft}
def fF{α β:Type}{V:ft->α->α->Prop}{V':ft->β->β->Prop}{m c:ē α}{f d:α->ē β}(h:fG P V Y m c) (g:∀b a e,Y.r b->V b a e->fG P V' b (f a) (d e)):fG P V' Y (m>>=f) (c>>=d):=fG.lQ h g
def rK{α β:Type}{c:ft->β->β->Prop}{m:ē α}{f d:α->ē β}(h:fG P jk Y m m) (g:∀b a,Y.r b->fG P c b (f a) (d a)):fG P c Y (m>>=f) (m>>=d):= fG.lQ h λb a i j (e:a=i)=>by subst e;exact g b a j
def qC:fG P (λ_ a b=>a=P/\b=P) Y dc dc:=.Ij (.fD ⟨U,U⟩)
theorem Mz{α:Type}{V:ft->α->α->Prop}{e:Ι}(h:(∃x y s c,e=.bounds x y s c)\/(∃m,e=.error m)\/(∃m,e=.plain m)\/e=.nilDeref):fG P V Y (runtimePanic e) (runtimePanic e):=by unfold runtimePanic;refine fF qC ?_;rintro f a g _ ⟨b,d⟩;rw[b,d];rcases h with⟨x,y,s,c,rfl⟩|⟨m,rfl⟩|⟨m,rfl⟩|rfl<;>exact .fO
theorem Cc{α:Type}{V:ft->α->α->Prop}{k:ú}{y:Int}{c:av}:fG P V Y (boundsPanic k h y c) (boundsPanic k h y c):=by
 unfold boundsPanic;simp only[];split
 .apply rK (.zG λn=> .fD U);grind [Mz]
 .grind [Mz]
def xG(t:Á):fG P (λ_ a b=>a=b/\P.info? t=À a) Y (Δ t) (Δ t):=by
 unfold Δ;apply fF qC;rintro e a b _ ⟨c,d⟩;rw[c,d];cases h:P.info? t with
 |some i=>exact .fD ⟨U,U⟩
 |none=>exact .fO
def iZ(t:Á):fG P (λ_ a b=>a=b/\P.underlying t=À a) Y (ø t) (ø t):=by
 unfold ø;apply fF qC;rintro e a b _ ⟨c,d⟩;rw[c,d];cases h:P.underlying t with
 |some i=>exact .fD ⟨U,U⟩
 |none=>exact .fO
def EP(b:nz P)(t:Á):fG P fl Y (ω t) (ω t):=by
 unfold ω;apply fF (xG t);rintro d a e _ ⟨rfl,h⟩;cases c:a.zero with
 |some z=>exact .fD ((b t a z h c).jy _)
 |none=>exact .fO
def mQ(t:Á):fG P (λ_ a b=>a=b/\∃i,P.info? t=À i/\i.size=a) Y (ax t) (ax t):=by unfold ax;apply fF (xG t);rintro i a b _ ⟨rfl,h⟩;exact .fD ⟨U,_,h,U⟩
def T7(t:Á):fG P jk Y (ep t) (ep t):=by unfold ep;apply fF (iZ t);rintro b a c _ ⟨rfl,_⟩;split<;>exact .fD U
def Io(h:gX Y a p):fG P fl Y (aW a) (aW p):=.gB h λ_ _ b=> .fD b
def abO(h:gX Y a p)(b:fl Y v x):fG P jk Y (ak a v) (ak p x):=.jb h b (.fD U)
def abP:∀{Y:ft} {a b:Ú} {i:Nat} {c d:Array Â},gX Y a b->fQ Y c d->fG P fQ Y (Ō a i n c) (Ō b i n d):=by
 induction n with
 |zero=>intro Y a b i c d _ e;exact .fD e
 |succ n h=>
  intro Y a b i c d f e;unfold Ō;apply fF (Io<|f.C i);exact λk v l g j=>h (f.r g)<|(e.I g).TY j
def MA(h:gX Y a p)(n:Nat):fG P fQ Y (cZ a n) (cZ p n):=abP h<|fQ.N Y
def MB:∀{d c:List Â} {Y:ft} {a e:Ú} {i:Nat},gX Y a e->fQ Y d.toArray c.toArray->fG P jk Y (Κ a d i) (Κ e c i):=by
 intro d
 induction d with
 |nil=>
  intro c Y a e i _ b;have:c=[]:=by have:=b.r;simp at this;exact Ā this.symm
  subst this;exact .fD U
 |cons v d h=>
  intro c Y a e i f b;match c,b with
  |[],b=>have:=b.r;simp at this
  |v'::c,b=>
   unfold Κ;refine fF (abO (f.C i) (by have:=b.C 0 fp fp;simpa using this)) ?_;intro m _ _ g _;apply h (f.r g);refine⟨by have:=b.r;simpa using this,λj k l=> ?_⟩;have:=b.C (j+1) (by simp at k|-;omega) (by simp at l|-;omega);exact(by simpa using this:fl Y _ _).fN g
theorem T8(h:gX Y a p)(t:Á):fG P fl Y (ae t a) (ae t p):=by
 unfold ae;apply rK (T7 t);intro g b d;split
 .apply fF (mQ t);rintro i n _ f ⟨rfl,_⟩;apply fF (MA ((h.r d).r f) n);exact λj c k _ e=> .fD (.n9 e.r e.C)
 .exact Io<|h.r d
def abQ(h:gX Y a p)(t:Á)(d:fl Y v x):fG P jk Y (aI t a v) (aI t p x):=by
 unfold aI;apply fF (mQ t);rintro f n _ b ⟨rfl,_⟩;have c:=(d.fN b).gR;by_cases e:v.cells.size≠n
 .rw[if_pos e];exact .fO
 .rw[if_neg e,if_neg (by rwa[<-c.r])];exact MB (h.r b) c
def zK(e:Á)(h:fQ Y d q):fG P gX Y (dR e d) (dR e q):= .xE h λ_ _ _ _ _ _=> .fD ⟨Î ⟨U,U⟩,U,U⟩
def T9(t:Á)(h:fl Y v x):fG P gX Y (eJ t v) (eJ t x):=zK t h.gR
def Ua(t:Á)(h:fQ Y d q)(a:Nat):fG P fl Y (part t d a) (part t q a):=by
 unfold part;apply rK (T7 t);intro i b e;split
 .apply fF (mQ t);rintro g n _ f ⟨rfl,_⟩;have:=((h.I e).I f).EM a<|a+n;exact .fD (.n9 this.r this.C)
 .rcases(h.I e).S a with⟨n,f⟩|⟨v,j,n,f,g⟩
  .rw[n];exact .fO
  .rw[n,f];exact .fD g
def ER(h:fl Y v x):fG P gX Y (ŧ v) (ŧ x):=by cases h<;>first|exact .fO|(rename_i a;exact .fD a)
def Ip(h:fl Y v x):fG P jk Y (de v) (de x):=by cases h<;>first|exact .fD U|exact .fO
def MC(h:fl Y v x):fG P jk Y (dA v) (dA x):=by unfold dA;apply fF (Ip h);rintro b a _ _ rfl;exact .fD U
def Ub(h:fl Y v x):fG P jk Y (bV v) (bV x):=by cases h<;>first|exact .fD U|exact .fO
def abR(h:fl Y v x):fG P fQ Y (eK v) (eK x):=by cases h<;>first|exact .fO|(rename_i a y;exact .fD ⟨a,y⟩)
def Uc(h:fl Y v x):fG P gX Y (bW v) (bW x):=by cases h<;>first|exact Mz (Î<|Î<|Î U)|(rename_i a;exact .fD a)|exact .fO
def abS(b:nz P)(t:Á)(v:Â):fG P fl Y (Ű t É v) (Ű t É v):=by unfold Ű;apply fF (EP b t);intro d z e _ h;apply fF (T9 t h);exact λf a g _ c=> .fD (.jI c)
def abT(t:Á)(h:fl Y v x):fG P fl Y (af t v) (af t x):=by unfold af;apply fF (T9 t h);exact λc a d _ b=> .fD (.jI b)
theorem abU(t:Á)(h:fl Y v x):fG P fl Y (Ş t v) (Ş t x):=by unfold Ş;apply fF (ER h);grind [T8]
def abV(t:Á)(b:fl Y x z)(h:fl Y v jQ):fG P jk Y (ĳ t x v) (ĳ t z jQ):=by unfold ĳ;apply fF (ER b);exact λd x z c b=>abQ b t<|h.fN c
def abW(h:fl Y v x)(n:Nat):fG P fl Y (ō v n) (ō x n):=by
 cases h<;>first|exact .fO|skip
 rename_i e f c h;simp only[ō];rcases(fQ.mk c h).S n with⟨a,b⟩|⟨v,x,a,b,d⟩
 .rw[a];exact .fO
 .rw[a,b];exact .fD d
def abX(t:Á)(h:fl Y v x)(n:Nat):fG P fl Y (ű t v n) (ű t x n):=by
 unfold ű;apply fF (iZ t);rintro g d _ a ⟨rfl,_⟩;split
 .rename_i b _;cases i:b[n]? with
  |none=>exact .fO
  |some f=>
   apply fF (abR<|h.fN a);exact λj c k _ e=>Ua f.type e f.offset
 .exact .fO
end
section
variable{Y:ft}
def qD{α β:Type}{V:ft->β->β->Prop}{a b:α}{f c:α->ē β}(h:fG P V Y (f a) (c b)):fG P V Y (pure a>>=f) (pure b>>=c):=h
def abY(s:Á)(h:fl Y v x)(n:Nat)(e:∀c f i,P.underlying s=À (df c)->c[n]?=À f->P.info? f.type=À i->i.size≠0): fG P fl Y (Ŏ s v n) (Ŏ s x n):=by
 unfold Ŏ;apply fF (iZ s);rintro r d _ g ⟨rfl,j⟩;cases d<;>try exact .fO
 .rename_i c;simp only[];cases k:c[n]? with
  |none=>exact .fO
  |some f=>
   apply fF (ER<|h.fN g);intro t a u _ l;unfold bX;refine fF (fF (V':=gX) (mQ f.type) ?_) ?_
   .rintro w z _ m ⟨rfl,i,o,p⟩;have:¬z=0:=by rw[<-p];exact e c f i j k o
    rw[if_neg this,if_neg this];exact .fD ((l.r m).C _)
   .exact λy b B _ q=> .fD (.jI q)
def abZ(t:Á)(h:fl Y x v)(j:fl Y z jQ):fG P fl Y (ŏ t x z) (ŏ t v jQ):=by
 unfold ŏ;apply fF (Ip j);rintro r ⟨k,n⟩ _ l rfl;apply fF (iZ t);rintro f d _ m ⟨rfl,s⟩;have g:=(h.fN l).fN m;cases d<;>try exact .fO
 .cases g<;>first|exact .fO|skip
  .refine qD<|fF (iZ t) ?_;exact λ_ _ _ _ _=>Cc
  refine qD<|fF (iZ t) ?_;rintro o d _ c ⟨rfl,_⟩;simp only[];split
  .apply fF (mQ _);rintro p b _ e ⟨rfl,_⟩;exact .fD (.jI (((‹gX f _ _›.r c).r e).C _))
  .repeat' (first|exact .fO|exact Cc|split)
 .apply fF (ER g);intro f a u _ q;refine qD<|fF (iZ t) ?_;rintro o d _ c ⟨rfl,_⟩;simp only[];split
  .apply fF (mQ _);rintro p b _ e ⟨rfl,_⟩;exact .fD (.jI (((q.r c).r e).C _))
  .repeat' (first|exact .fO|exact Cc|split)
def Cd(h:fl Y x v)(y:Nat)(c:av):fG P jk Y (ī x y c) (ī v y c):=by
 unfold ī;apply fF (Ip h);rintro a ⟨k,n⟩ _ b rfl;simp only[];split
 .exact .fD U
 .exact Cc
def qE(Y:ft)(x a:Option Â):Prop:=(x=ë/\a=ë)\/∃v b,x=À v/\a=À b/\fl Y v b
def qE.r{Y a:ft}(h:Y.r a){x b:Option Â}(r:qE Y x b):qE a x b:=r.imp id λ⟨v,c,d,e,f⟩=>⟨v,c,d,e,f.fN h⟩
def ES(f:Bool)(g i:Nat){l j h k m n:Option Â}(c:qE Y l j)(o:qE Y h k)(t:qE Y m n):fG P jk Y (Ĩ f g i l h m) (Ĩ f g i j k n):=by
 unfold Ĩ;rcases t with⟨rfl,rfl⟩|⟨B,C,rfl,rfl,u⟩
 .refine qD ?_;rcases o with⟨rfl,rfl⟩|⟨w,x,rfl,rfl,d⟩
  .refine qD ?_;rcases c with⟨rfl,rfl⟩|⟨v,p,rfl,rfl,b⟩
   .exact .fD U
   .apply fF (Cd b _ _);rintro r q _ _ rfl;exact .fD U
  .refine fF (Cd d _ _) ?_;rintro y a _ e rfl;rcases(c.r e)with⟨rfl,rfl⟩|⟨v,p,rfl,rfl,b⟩
   .exact .fD U
   .apply fF (Cd b _ _);rintro r q _ _ rfl;exact .fD U
 .refine fF (Cd u _ _) ?_;rintro D a _ s rfl;rcases o with⟨rfl,rfl⟩|⟨w,x,rfl,rfl,d⟩
  .exact .fO
  .refine fF (Cd (d.fN s) _ _) ?_;rintro y z _ e rfl;rcases(((c.r s).r e))with⟨rfl,rfl⟩|⟨v,p,rfl,rfl,b⟩
   .exact .fD U
   .apply fF (Cd b _ _);rintro r q _ _ rfl;exact .fD U
def ab0(t:Á)(k:fl Y x v){l C h D m u:Option Â}(g:qE Y l C)(i:qE Y h D)(j:qE Y m u):fG P fl Y (Ų t x l h m) (Ų t v C D u):=by
 unfold Ų;apply fF (iZ t);rintro I d _ o ⟨rfl,J⟩;have k:=k.fN o;have g:=g.r o;have i:=i.r o;have j:=j.r o;cases d<;>try exact .fO
 .cases k<;>first|exact .fO|skip
  rename_i s;have e:m.isSome=u.isSome:=by rcases j with⟨rfl,rfl⟩|⟨_,_,rfl,rfl,_⟩<;>rfl
  simp only[e];split
  .exact .fO
  .apply fF (ES Ã s.size s.size g i<|Ç ⟨U,U⟩);rintro G ⟨a,b,c⟩ _ _ rfl;exact .fD (.kI _)
 .rename_i H;apply fF (Uc k);intro G a K B f;apply fF (iZ H);rintro L d _ p ⟨rfl,_⟩;have f:=f.r p;cases d<;>try exact .fO
  rename_i n e _;apply fF (ES Ã n n ((g.r B).r p) ((i.r B).r p)<|(j.r B).r p);rintro E ⟨x,y,z⟩ _ q rfl;apply fF (mQ e);rintro F w _ r ⟨rfl,_⟩;have f:=(f.r q).r r;refine .fD (.kC ?_ _ _);split
  .exact f
  .exact f.C _
 .rename_i e;cases k<;>first|exact .fO|skip
  .rename_i n c;apply fF (ES É n c g i j);rintro E ⟨x,y,z⟩ _ q rfl;apply fF (mQ e);rintro F w _ r ⟨rfl,_⟩;simp only[Option.map_none,ite_self];exact .fD (.nS _ _)
  .rename_i f n c;apply fF (ES É n c g i j);rintro E ⟨x,y,z⟩ _ q rfl;apply fF (mQ e);rintro F w _ r ⟨rfl,_⟩;have f:=(f.r q).r r;by_cases e:z=x
   .simp only[e,if_true];exact .fD (.kC f _ _)
   .simp only[e,if_false,bG];exact .fD (.kC (f.C _) _ _)
def ab1(t:Á)(b:fl Y x v){l o h p m q:Option Â}(c:qE Y l o)(f:qE Y h p)(g:qE Y m q):fG P fl Y (Ő t x l h m) (Ő t v o p q):=by
 unfold Ő;apply fF (iZ t);rintro u d _ i ⟨rfl,B⟩;have b:=b.fN i;have c:=c.r i;have f:=f.r i;have g:=g.r i;cases d<;>try exact ab0 t b c f g
 rename_i n e;apply fF (ER b);intro C a D k j;apply fF (ES Ã n n (c.r k) (f.r k)<|g.r k);rintro E ⟨x,y,z⟩ _ r rfl;apply fF (mQ e);rintro F w _ s ⟨rfl,_⟩;have j:=(j.r r).r s;refine .fD (.kC ?_ _ _);split
 .exact j
 .exact j.C _
def ab2(t:Á)(a:fl Y x v)(b:fl Y z jQ):fG P fl Y (ų t x z) (ų t v jQ):=by
 unfold ų;apply fF (Ip b);rintro l ⟨k,n⟩ _ c rfl;apply fF (iZ t);rintro m d _ f ⟨rfl,o⟩;have a:=(a.fN c).fN f;cases d<;>try exact .fO
 .cases a<;>first|exact .fO|skip
  simp only[];split
  .exact .fD (.iF _ _)
  .exact Cc
 .rename_i p e;cases a<;>first|exact .fO|skip
  rename_i g h;simp only[];split
  .apply fF (mQ e);rintro q w _ j ⟨rfl,_⟩;exact Ua e ((fQ.mk g h).I j) _
  .exact Cc
def ab3(a:UnOp)(b:fl Y x v):fG P fl Y (bY a x) (bY a v):=by cases b<;>cases a<;>first|exact .fO|exact .fD (.iF _ _)|exact .fD (.mf _)
end
section
variable{Y:ft}
def ab4{α β:Type}{g:α->ē β}(d:∀{Y:ft} (a:α),fG P jk Y (g a)<|g a):∀{Y:ft} (l:List α),fG P jk Y (l.mapM g) (l.mapM g):=by
 intro Y l
 induction l generalizing Y with
 |nil=>exact .fD U
 |cons a l e=>
  rw[ν];apply rK (d a);intro f b _;apply rK e;exact λh c _=> .fD U
def ab5{α β:Type}{g:α->ē β}(b:∀{Y:ft} (a:α),fG P jk Y (g a)<|g a)(l:Array α):fG P jk Y (l.mapM g) (l.mapM g):=by rw[Ĕ];have:=ab4 b (Y:=Y) l.toList;apply fG.lQ this;intro d a c _ (e:a=c);subst e;exact .fD U
def ab6(Y:ft)(p a:Nat×Value):Prop:=p.1=a.1/\fl Y p.2 a.2
inductive uI(Y:ft):List (Nat×Value)->List (Nat×Value)->Prop
 |oH:uI Y [] []
 |vD {p p':Nat×Value} {l l':List (Nat×Value)} (h:ab6 Y p p') (t:uI Y l l'):uI Y (p::l) (p'::l')
def uI.fN{Y a:ft}(h:Y.r a){l b:List (Nat×Value)}(r:uI Y l b):uI a l b:=by
 induction r with
 |oH=>exact .oH
 |vD x _ c=>exact .vD ⟨x.1,x.2.fN h⟩ c
def ab7(f:Nat):∀(c a:List Â) (k:Nat) (b d:Array Â),fQ Y c.toArray a.toArray->fQ Y b d-> fQ Y ((c.zipIdx k).foldl (λb (p:Value×Nat)=>b.setIfInBounds (f+p.2) p.1) b) ((a.zipIdx k).foldl (λb (p:Value×Nat)=>b.setIfInBounds (f+p.2) p.1) d):=by
 intro c
 induction c with
 |nil=>
  intro a k b d p e;have:a=[]:=by have:=p.r;simp at this;exact Ā this.symm
  subst this;exact e
 |cons x c g=>
  intro a k b d p e;match a,p with
  |[],p=>have:=p.r;simp at this
  |x'::a,p=>
   simp only[Ĭ,List.foldl_cons];refine g a (k+1) _ _ ⟨by have:=p.r;simpa using this,λj h i=> ?_⟩ (e.p7 _ (by have:=p.C 0 fp fp;simpa using this));have:=p.C (j+1) (by simp at h|-;omega) (by simp at i|-;omega);simpa using this
theorem ab8(b:Nat){a c:Array Â}(e:fQ Y d q)(f:fQ Y a c): fQ Y (d.zipIdx.foldl (λa (p:Value×Nat)=>a.setIfInBounds (b+p.2) p.1) a) (q.zipIdx.foldl (λa (p:Value×Nat)=>a.setIfInBounds (b+p.2) p.1) c):=by have:=ab7 b d.toList q.toList 0 a c (by simpa using e) f;grind [Array.toList_zipIdx]
def Iq(d:Nat->Option (Nat×Nat)):∀{l e:List (Nat×Value)} {a b:Array Â},uI Y l e->fQ Y a b-> (ay d a l=ë)\/∃c h,ay d a l=À c/\ay d b e=À h/\fQ Y c h:=by
 intro l e a b h
 induction h generalizing a b with
 |oH=>intro c;exact Î ⟨a,b,U,U,c⟩
 |@vD p p' l e hp _ ih=>
  intro c;let⟨i,v⟩:=p;let⟨k,m⟩:=p';obtain⟨rfl,g⟩:=hp;unfold ay;cases d i with
  |none=>exact Ç U
  |some q=>
   let⟨j,n⟩:=q;have f:=g.gR;simp only[<-f.r,<-c.r];split
   .exact Ç U
   .exact ih<|ab8 j f c
def ab9(q:nz P)(t:Á){l m:Array (Nat×Value)}(h:uI Y l.toList m.toList):fG P fl Y (Ŵ t l) (Ŵ t m):=by
 unfold Ŵ;apply fF (EP q t);intro C z D r s;apply fF (iZ t);rintro E d _ o ⟨rfl,F⟩;have p:=(s.fN o).gR;have h:=(h.fN r).fN o;cases d<;>try exact .fO
 .rename_i n e;refine fF (mQ e) ?_;rintro u w _ b ⟨rfl,_⟩;rcases Iq (λi=>À (i*w,w)) (h.fN b) (p.I b)with e|⟨c,v,j,k,g⟩
  .simp only[e];exact .fO
  .simp only[j,k];exact .fD (.n9 g.r g.C)
 .rename_i x;refine rK (ab5 (λ{Y} (f:Field)=>fF (mQ f.type) λG a H _ y=> ?_) x) ?_
  .obtain⟨rfl,_⟩:=y;exact .fD U
  .intro u B b;rcases Iq (B[·]?) (h.fN b) (p.I b)with e|⟨c,v,j,k,g⟩
   .simp only[e];exact .fO
   .simp only[j,k];exact .fD (.n9 g.r g.C)
end
section
variable{Y:ft}
theorem acd(Y:ft):fl Y (default:Â) default:=.mf _
theorem fQ.ace{Y:ft}(r:fQ Y d q)(i:Nat):fl Y d[i]! q[i]!:=by
 by_cases h:i<d.size
 .have a:i<q.size:=by rwa[<-r.r]
  rw[getElem!_pos d i h,getElem!_pos q i a];exact r.C i h a
 .have a:¬i<q.size:=by rwa[<-r.r]
  grind [getElem,acd]
def fQ.G{Y:ft}(r:fQ Y d q)(n:Nat):fQ Y ((dB n).map (d[· %d.size]!)) ((dB n).map (q[· %q.size]!)):=by refine⟨fp,λi a b=> ?_⟩;simp only[ŵ,<-r.r];exact r.ace _
def fQ.xH{Y:ft}(r:fQ Y d q)(n:Nat):fQ Y (Ŷ d n) (Ŷ q n):=by
 unfold Ŷ;have e:n*d.size=n*q.size:=by rw[r.r]
 rw[<-e];exact r.G _
def acf(f:nz P)(t:Á)(b:Nat){m n:Array (Nat×Value)}(h:uI Y m.toList n.toList):fG P fl Y (ĭ t b m) (ĭ t b n):=by
 unfold ĭ;apply fF (iZ t);rintro v d _ p ⟨rfl,x⟩;have h:=h.fN p;cases d<;>try exact .fO
 rename_i e;apply fF (mQ e);rintro y w _ o ⟨rfl,_⟩;simp only[];split
 .exact .fO
 split
 .refine qD ?_;rcases Iq (λi=>À (i*w,w)) (h.fN o) ((fQ.N _).G<|b*w)with e0|⟨c,q,g,j,k⟩
  .rw[e0];exact .fO
  .rw[g,j];exact fF (zK e k) λr a s _ l=> .fD (.kC l _ _)
 .refine fF (EP f e) λB z C u f=>qD ?_;rcases Iq (λi=>À (i*w,w)) ((h.fN o).fN u) (f.gR.G<|b*w)with e0|⟨c,q,g,j,k⟩
  .rw[e0];exact .fO
  .rw[g,j];exact fF (zK e k) λr a s _ l=> .fD (.kC l _ _)
def MD(h:fl Y x v):fG P jk Y (Α x) (Α v):=by cases h<;>first|exact .fO|exact .fD U
def fQ.acg(Y:ft)(b:Array UInt8):fQ Y (b.map λb=>Ć .u8 b.toNat) (b.map λb=>Ć .u8 b.toNat):= ⟨U,λi a _=>by simp only[ŵ];exact .iF _ _⟩
def EU(a n:Nat)(h:fl Y x v):fG P fQ Y (ļ a n x) (ļ a n v):=by
 cases h<;>first|exact .fO|exact .fD (fQ.N _)|exact .fD (fQ.acg _ _)|skip
 rename_i b _ _;exact MA b _
def ME(n:Nat):fG P jk Y (bO n) (bO n):=by
 unfold bO;split
 .exact .Ca (Ç U) (.fD U)
 .exact .fD U
def ach(a:Array Á)(t:Á)(h:fl Y x v):fG P fl Y (ş a t #[x]) (ş a t #[v]):=by
 unfold ş;cases a[0]? with
 |none=>exact .fO
 |some b=>
  apply fF (iZ b);rintro f d _ c ⟨rfl,g⟩;have h:=h.fN c;cases d<;>try exact .fO
  .cases h<;>first|exact .fO|exact .fD (.iF _ _)
  .rename_i e;refine fF (iZ e) ?_;rintro i d _ j ⟨rfl,_⟩;cases d<;>first|exact .fO|exact .fD (.iF _ _)
  .cases h<;>first|exact .fO|exact .fD (.iF _ _)
  .exact .fD (.iF _ _)
  all_goals cases h<;>first|exact .fO|exact .fD (.iF _ _)
def aci(a:Array Á)(t:Á)(h:fl Y x v):fG P fl Y (Š a t #[x]) (Š a t #[v]):=by
 unfold Š;cases a[0]? with
 |none=>exact .fO
 |some b=>
  apply fF (iZ b);rintro f d _ c ⟨rfl,g⟩;have h:=h.fN c;cases d<;>try exact .fO
  .rename_i e;refine fF (iZ e) ?_;rintro i d _ j ⟨rfl,_⟩;cases d<;>first|exact .fO|exact .fD (.iF _ _)
  .cases h<;>first|exact .fO|exact .fD (.iF _ _)
  .exact .fD (.iF _ _)
  all_goals cases h<;>first|exact .fO|exact .fD (.iF _ _)
def acj(g:Array Á)(t:Á)(h:fl Y x v)(a:fl Y z jQ):fG P fl Y (ő g t #[x,z]) (ő g t #[v,jQ]):=by
 unfold ő;cases g[0]? with
 |none=>exact .fO
 |some l=>
  apply fF (iZ l);rintro u d _ i ⟨rfl,B⟩;have h:=h.fN i;have a:=a.fN i;cases d<;>try exact .fO
  rename_i e;cases h<;>first|exact .fO|skip
  .rename_i n c;apply fF (MD a);rintro o m _ b rfl;apply fF (mQ e);rintro p w _ f ⟨rfl,_⟩;apply fF (EU w _<|(a.fN b).fN f);exact λq c r j k=> .fD (.iF _ _)
  .rename_i s n c;apply fF (MD a);rintro o m _ b rfl;apply fF (mQ e);rintro p w _ f ⟨rfl,_⟩;apply fF (EU w _<|(a.fN b).fN f);intro q c r j k;apply fF (MB (((s.r b).r f).r j)<|by simpa using k);exact λC _ _ _ _=> .fD (.iF _ _)
end
section
variable{Y:ft}
def MG{α:Type}{h:Halt}:∀u x a,(ek h:ē α).run P u≠ĥ x a:=by intro u x a e;cases e
theorem EV{α β:Type}{m:ē α}{f:α->ē β}(h:∀a u x b,(f a).run P u≠ĥ x b):∀u x b,(m>>=f).run P u≠ĥ x b:=by
 intro u x b e;rw[Ä]at e;cases c:m.run P u with
 |ok a w=>rw[c]at e;exact h a _ _ _ e
 |halt z w=>rw[c]at e;cases e
theorem Ud{α:Type}:∀u x a,(goPanic v:ē α).run P u≠ĥ x a:=MG
def acn{α:Type}{v:bq}:∀u x a,(unsupported v:ē α).run P u≠ĥ x a:=MG
theorem qF{α:Type}(e:Ι):∀u x a,(runtimePanic e:ē α).run P u≠ĥ x a:=by unfold runtimePanic;grind [EV,Ud]
def Ir{α:Type}{V:ft->α->α->Prop}{e:Ι}{m:ē α}:fG P V Y (runtimePanic e) m:=.oa (qF e)
def aco(H:nz P)(p g t:Á)(i:(∃e,P.underlying g=À (dh e))\/P.underlying g=À ę){B:Â}(j:fl Y v jQ)(c:fl Y x B): fG P fl Y (ĸ #[p,g] t #[v,x]) (ĸ #[p,g] t #[jQ,B]):=by
 unfold ĸ;apply fF (iZ p);rintro C d _ D ⟨rfl,W⟩;have j:=j.fN D;have c:=c.fN D;cases d<;>try exact .fO
 rename_i e;have r:=j;cases j<;>first|exact .fO|skip
 all_goals
  refine fF (mQ e) ?_;rintro X w _ E ⟨rfl,_⟩;refine fF (iZ g) ?_;rintro ρ3 d1 _ F ⟨rfl,k⟩;rcases i with⟨e1,i⟩|i;all_goals
   rw[i]at k;injection k with k;subst k;refine qD<|fF (MD<|c.fN<|ft.I E F) ?_;rintro ρ4 m _ I rfl;have f:=ft.I (ft.I E F) I;have c:=c.fN f;have r:=r.fN f;simp only[];split
   .apply fF (EU w m c);intro J q K l u;first
     |exact .fD (.nS _ _)
     |exact fF (MB (((‹gX C _ _›.r f).r l).C _)<|by simpa using u) λL _ _ h _=> .fD (.kC (((‹gX C _ _›.r f).r l).r h) _ _)
   .apply fF (xG e);rintro J G _ l ⟨rfl,_⟩;split
    .exact .oa (vA<|qF _)
    .apply fF (xG e);rintro L G _ h ⟨rfl,_⟩;split
     .refine .oa (vA ?_);simp only[Å,if_false];refine EV λb=> ?_;simp_all
     .apply rK (.zG λ_=> .fD U);intro M nc y;apply fF (xG e);rintro N G _ n ⟨rfl,_⟩;apply rK (ME _);intro O _ Q;have f:=ft.I (ft.I (ft.I l h)<|ft.I y n) Q;apply fF (EU w _<|r.fN f);intro ρa o o' h S;apply fF (EU w m<|c.fN<|ft.I f h);intro M q K y u;apply fF (EP H e);intro N z z' n T;exact fF (zK e<|(((S.I y).I n).sL<|u.I n).sL<|T.gR.xH _) λO a a' _ V=> .fD (.kC V _ _)
end
section
variable{Y:ft}
def acp(g:nz P)(t:Á)(i:fl Y v x)(j:fl Y z jQ):fG P fl Y (Ĺ t v z) (Ĺ t x jQ):=by
 unfold Ĺ;apply fF (iZ t);rintro o d _ f ⟨rfl,p⟩;cases d<;>try exact .fO
 rename_i e;apply fF (MC<|i.fN f);rintro q r _ k rfl;apply fF (MC<|(j.fN f).fN k);rintro s u _ y rfl;apply fF (xG e);rintro B C _ D ⟨rfl,_⟩;simp only[];split
 .split
  .exact .oa (vA<|qF _)
  .split
   .exact .oa (vA<|qF _)
   .exact .oa (EV λ_=>vA<|qF _)
 .apply rK (ME _);intro E _ F;apply fF (mQ e);rintro G w _ H ⟨rfl,_⟩;split
  .exact qD<|fF (zK e<|(fQ.N _).G _) λm a n _ b=> .fD (.kC b _ _)
  .exact fF (EP g e) λ_ _ _ _ h=>qD<|fF (zK e<|h.gR.G _) λm a n _ b=> .fD (.kC b _ _)
def sM(P:Õ)(t:Á):Prop:=P.underlying t=À .bool\/(∃k,P.underlying t=À (Β k))\/P.underlying t=À ę
def mR:Â->Prop
 |Þ (À _)=>False
 |_=>True
def Ue(t:Á)(i:sM P t\/∃e,P.underlying t=À (ð e))(b:fl Y x v)(c:fl Y z jQ)(j:mR x\/mR z):fG P jk Y (ó t x z) (ó t v jQ):=by
 unfold ó ā Λ;refine fF (iZ t) ?_;rintro o d _ g ⟨rfl,a⟩;have b:=b.fN g;have c:=c.fN g;rcases i with(h|⟨k,h⟩|h)|⟨e,h⟩;all_goals
  rw[h]at a;injection a with a;subst a;cases b<;>cases c<;>first|exact .fO|exact .fD U|(simp[mR]at j;done)|skip
 .simp only[];split<;>first|exact .fD U|exact .fO
 .rename_i l n _ _ _;by_cases f:n=0
  .subst f;exact .fD U
  .refine .oa λu x m e=> ?_;simp_all
 .rename_i l n;by_cases f:n=0
  .subst f;exact .fD U
  .refine .oa λu x m e=> ?_;simp_all
end
section
variable{Y:ft}
def Is{r:Nat}(h:Y r i):fG P (λ_ a b=>a=ë/\b=ë) Y (di r) (di i):=.uH h λ_ _ _ _=> .fD ⟨U,U⟩
def Uf{r:Nat}(h:Y r i):fG P (λ_ a b=>a=ë/\b=ë) Y (bZ r) (bZ i):=.uH h λ_ _ _ _=> .fD ⟨U,U⟩
def zL(h:gX Y a p):fG P (λc x b=>gX c x.1 b.1/\x.2=b.2/\x=(a,Ã)/\b=(p,Ã)) Y (Į a) (Į p):=by unfold Į;apply fF (Uf h.1);rintro c x d b ⟨rfl,rfl⟩;exact .fD ⟨h.r b,U,U,U⟩
def acr(h:gX Y a p):fG P jk Y (aX a) (aX p):=by unfold aX;apply fF (Is h.1);rintro b x c d ⟨rfl,rfl⟩;exact .fD U
def EW(h:gX Y a p):fG P jk Y (dj a) (dj p):=by
 have f:=h;let⟨g,i,b⟩:=f;unfold dj;cases c:a.spot with
 |some s=>
  rw[c]at b;rw[<-b];exact .fD U
 |none=>
  rw[c]at b;rw[<-b];apply fF qC;rintro k s l d ⟨rfl,e⟩;subst e;apply fF (acr<|h.r d);intro m _ _ j _;refine .uH (j.1 _ _<|d.1 _ _ g) λe n o q=> ?_;simp only[<-i,ç];split
  .exact .fD U
  .split
   .exact .fD U
   .exact .fO
def It(c:Bi Y){b d:Ú}(f:gX Y a p)(g:gX Y b d):(a.block==b.block)=(p.block==d.block):=by
 rw[Χ,beq_iff_eq,beq_iff_eq];constructor
 .intro e;exact c.1 _ _ _ f.1<|e▸g.1
 .intro e;exact c.2.1 _ _ _ f.1<|e▸g.1
theorem Ug(g:Bi Y){b c:Ú}(d:gX Y a p)(f:gX Y b c):(a==b)=(p==c):=by have e:=It g d f;rw[Χ,beq_iff_eq,beq_iff_eq]at e;rw[Χ,beq_iff_eq,beq_iff_eq];let⟨h,i,j⟩:=a;let⟨k,l,m⟩:=p;let⟨n,o,q⟩:=b;let⟨r,s,t⟩:=c;let⟨_,u,v⟩:=d;let⟨_,w,x⟩:=f;grind
theorem Uh(f:Bi Y)(n:Y.C=P.globals.size){b d:Ú}(e:gX Y a p)(g:gX Y b d):fG P jk Y (š a b) (š p d):=by
 unfold š;apply fF qC;rintro o c q h ⟨i,j⟩;rw[i,j];have k:(a.block !=b.block)=(p.block !=d.block):=by simp only[bne];rw[It f e g]
 have l:(decide<|a.block≥P.globals.size)=(decide<|p.block≥P.globals.size):=by have:=f.2.2 _ _ e.1;grind
 rw[k,l];split
 .exact .fO
 .apply fF (EW<|e.r h);rintro r x _ m rfl;apply fF (EW<|(g.r h).r m);rintro s y _ t rfl;exact .fD U
def acs(d:Bi Y)(e:Y.C=P.globals.size)(k:ú){b c:Ú}(f:gX Y a p)(g:gX Y b c):fG P fl Y (Μ k a b) (Μ k p c):=by unfold Μ;apply fF (Uh d e f g);rintro h ⟨x,y⟩ _ _ rfl;exact .fD (.iF _ _)
def acu(e:Bi Y)(f:Y.C=P.globals.size)(c:ġ){b d:Ú}(g:gX Y a p)(h:gX Y b d):fG P fl Y (Ν c a b) (Ν c p d):=by unfold Ν;refine fF (Uh e f g h) ?_;rintro i ⟨x,y⟩ _ _ rfl;cases c<;>first|exact .fD (.mf _)|exact .fO
def Ui(k:ú)(b:gX Y a p)(n:Int):fG P fl Y (Ξ k a n) (Ξ k p n):=by
 unfold Ξ;refine .uH b.1 λe m d f=> ?_;apply qD;apply fF (xG e);rintro g h _ c ⟨rfl,_⟩;simp only[];split
 .exact .fO
 .apply fF (EW<|b.r c);rintro i x _ _ rfl;exact .fD (.iF _ _)
def acv{n:Int}(h:j<=b)(a:ξ P i e j k n=À m):ξ P i e b k n=À m:=by
 unfold ξ at a|-;simp only[bind,Option.bind]at a|-;split at a
 .cases a
 .rename_i f;rw[if_neg f];split at a
  .cases a
  .rename_i g;simp only[g];dsimp only at a;split at a
   .cases a
   .rename_i l;rw[if_neg]
    .exact a
    .intro o;apply l;have:=(λw=>Nat.mul_le_mul_right w h)<|P.bytesOf e;simp at o|-;omega
def acw{i:Á->Bool}:∀{d:Nat} {e:Á} {c a b n:Nat},c<=a->c8 P i d e c b n=É->c8 P i d e a b n=É
 |0,_,_,_,_,_,_,h=>by simp[c8]at h
 |d+1,e,c,a,b,n,hc,h=>by
  unfold c8 at h|-;simp only at h|-;split at h
  .cases h
  .rename_i j;rw[if_neg j];rw[bH,ě,ě,ě]at h|-;rcases h with⟨⟨f,g⟩,k⟩|⟨f,g⟩
   .exact Ç ⟨⟨f,by simp at g|-;omega⟩,k⟩
   .exact Î ⟨by simp at f|-;omega,g⟩
def Uj:∀{d:Nat} {e:Á} {c a b:Nat} {u:Á} {n:Nat},c<=a->aY P d e c b u n=É->aY P d e a b u n=É
 |0,_,_,_,_,_,_,_,h=>by simp[aY]at h
 |d+1,e,c,a,b,u,n,hc,h=>by
  unfold aY at h|-;rw[bH]at h|-;rcases h with h|h
  .exact Ç<|acw hc h
  .right;split at h
   .rename_i f;first|rw[f]|skip
    exact Uj hc h
   .cases h
def acy{a:Á->Bool}:c8 P a i e 0 j (n+1)=Ã:=by
 cases i with
 |zero=>simp[c8]
 |succ i=>
  unfold c8;simp
def acz{k:ú}(a:P.underlying t=À (Β k)):aY P i e 0 j t (n+1)=Ã:=by
 cases i with
 |zero=>simp[aY]
 |succ i=>
  unfold aY;rw[acy];simp[a]
def Uk(t:Á)(d:gX Y a p)(k:ú)(n:Int):fG P fl Y (ñ #[] t #[Þ<|À a,Ć k n]) (ñ #[] t #[Þ<|À p,Ć k n]):=by
 have f:=d;let⟨c,g,h⟩:=f;unfold ñ;apply qD;simp only[];split
 .apply fF (Is c);rintro i x e b ⟨rfl,rfl⟩;exact .fD (.jI (d.r b))
 .split
  .exact .fO
  .refine .uH c λe m u j=> ?_;apply qD;apply fF qC;rintro i b v l ⟨o,r⟩;rw[o,r,<-g];cases s:ξ P P.depth e (m/P.cellsOf e) a.off n with
   |none=>exact .fO
   |some x=>
    rw[acv (ο<|j.elim (λq=>by omega) λq=>q.1) s];exact .fD (.jI ⟨l.1 _ _ c,U,h⟩)
end
def xI:Obj->Prop
 |Č .. =>False
 |_=>True
inductive kD(P:Õ){α:Type}(V:ft->α->α->Prop):ft->ē α->ē α->Prop
 |gq {Y:ft} {m m':ē α} (h:fG P V Y m m'):kD P V Y m m'
 |lQ {Y:ft} {β:Type} {V0:ft->β->β->Prop} {m m':ē β} {f f':β->ē α} (h:fG P V0 Y m m') (hf:∀Y' a a',Y.r Y'->V0 Y' a a'->kD P V Y' (f a) (f' a')):kD P V Y (m.bind f) (m'.bind f')
 |Ce {Y:ft} {o:Obj} {g:Nat->α} {m':ē α} (ho:xI o):kD P V Y (.new o λr=>aH<|g r) m'
 |Cf {Y:ft} {m m':ē α} (h:∀u x u',m.run P u=ĥ x u'->∃i o,u.heap.size<=i/\u'.heap[i]?=À o/\xI o):kD P V Y m m'
section
variable{Y:ft}
def kD.acA{α β:Type}{V:ft->α->α->Prop}{i:ft->β->β->Prop}{m e:ē α}{f j:α->β}(h:kD P V Y m e)(k:∀c a d,Y.r c->V c a d->i c (f a) (j d)): kD P i Y (m.bind λa=>aH<|f a) (e.bind λa=>aH<|j a):=by
 induction h with
 |gq h=>exact .gq (h.lQ λc a d u w=> .fD (k c a d u w))
 |lQ h _ g=>
  rw[ř,ř];exact .lQ h λc a d u w=>g c a d u w λx b z l n=>k x b z (ft.I u l) n
 |Ce b=>exact .Ce b
 |@Cf Y m e h=>
  refine .Cf λu x l b=> ?_;rw[Ĵ]at b;cases g:m.run P u with
  |halt z w=>rw[g]at b;cases b
  |ok a w=>
   rw[g]at b;simp only[ã]at b;cases b;exact h u a _ g
def Cg(u a:Æ):Prop:=∀i o,u.heap.size<=i->a.heap[i]?=À o->¬xI o
def kD.gi{α:Type}{V:ft->α->α->Prop}{Y:ft}{m r:ē α}(h:kD P V Y m r):∀{u w:Æ},jf Y X u w->(∀j,X j->j<w.heap.size)->∀{x:α} {c:Æ},m.run P u=ĥ x c->Cg u c->∀d:Array ý,∃(a:ft) (n:α) (s:Æ) (b:Array ý),Y.r a/\(∀i j,a i j->Y i j\/(u.heap.size<=i/\w.heap.size<=j))/\r.runT P w d=(ĥ n s,d++b)/\V a x n/\jf a X c s/\ny Y X w s/\(∀e∈b,zH a X e)/\u.heap.size<=c.heap.size:=by
 induction h with
 |gq h=>intro u w k g x c b _ d;exact h.gi k g b d
 |@lQ Y β V0 m r f f' h _ ih=>
  intro u w k g x c b l d;rw[Ĵ]at b;cases t:m.run P u with
  |halt z w=>rw[t]at b;cases b
  |ok a u1=>
   rw[t]at b;let⟨G,H,w1,E,p,q,v,I,J,B,K,C⟩:=h.gi k g t d;let⟨L,n,M,N,F,O,Q,S,T,W,k7,k8⟩:=ih G a H p I J (λj s=>Ô (g j s) B.r) b (λi o s=>l i o<|õ C s)<|d++E;refine⟨L,n,M,E++N,ft.I p F,λi j D=> ?_,?_,S,T,B.fh W λi j D=>(q i j D).imp id λy=>y.2,λe s=> ?_,õ C k8⟩
   .rcases O i j D with y|⟨y1,y2⟩
    .exact q i j y
    .exact Î ⟨õ C y1,õ B.r y2⟩
   .rw[Ñ,v];simp only[];rw[Q,Ļ]
   .rcases Ĝ.1 s with s|s
    .rcases K e s with⟨a,i,y,z2,z3,z4⟩|z
     .exact Ç ⟨a,i,y,F.1 _ _ z2,z3,z4⟩
     .exact Î z
    .exact k7 e s
 |Ce s=>
  intro u w k g x c b l d;simp only[ã]at b;cases b;exact absurd s<|l u.heap.size _ (ß _) fp
 |Cf h=>
  intro u w k g x c b l d;let⟨i,o,p,q,v⟩:=h u x c b;exact absurd v<|l i o p q
end
section
variable{Y:ft}
theorem acB(i:Bi Y)(F:Y.C=P.globals.size)(t:Á)(s:sM P t){j b m:Ú}(e:gX Y a j)(f:gX Y b m):fG P jk Y (ó t (Þ<|À a)<|Þ<|À b) (ó t (Þ<|À j)<|Þ<|À m):=by
 unfold ó ā Λ;refine fF (iZ t) ?_;rintro G d _ g ⟨rfl,c⟩;rcases s with h|⟨k,h⟩|h
 .rw[h]at c;injection c with c;subst c;exact .fO
 .rw[h]at c;injection c with c;subst c;apply fF (zL<|e.r g);rintro H p u l ⟨_,_,rfl,rfl⟩;apply fF (zL<|(f.r g).r l);rintro I q J n ⟨_,_,rfl,rfl⟩;apply fF qC;rintro K p u o ⟨v,w⟩;rw[v,w];have z:=(((e.r g).r l).r n).r o;have B:=(((f.r g).r l).r n).r o;have C:=It i e f;have D:(decide<|a.block<P.globals.size)=(decide<|j.block<P.globals.size):=by
   have:=i.2.2 _ _ e.1;grind
  simp only[C,D];split
  .apply fF (EW z);rintro E x _ r rfl;apply fF (EW<|B.r r);rintro L y _ M rfl;exact .fD U
  .apply fF (xG t);rintro E x _ r ⟨rfl,_⟩;split
   .rw[Ug i e f];split
    .exact .fD U
    .exact .fO
   .exact .fO
 .rw[h]at c;injection c with c;subst c;exact .fO
def acC(e:Bi Y)(f:Y.C=P.globals.size)(t:Á)(b:sM P t)(c:fl Y x v)(d:fl Y z jQ):fG P jk Y (ó t x z) (ó t v jQ):=by
 by_cases a:mR x\/mR z
 .exact Ue t (Ç b) c d a
 .have g:=λh=>a<|Ç h;have i:=λh=>a<|Î h;cases c<;>first|exact absurd trivial g|skip
  cases d<;>first|exact absurd trivial i|skip
  rename_i j _ _ k;exact acB e f t b j k
def acD(a:ġ)(k:ú)(x y:Int):fG P fl Y (ag a k x y) (ag a k x y):=by
 unfold ag;split
 .exact Ir
 .cases a<;>first|exact .fO|exact .fD (.iF _ _)
def acE(a:ġ)(k b:ú)(x y:Int):fG P fl Y (aJ a k x b y) (aJ a k x b y):=by
 unfold aJ;split
 .exact Ir
 .cases a<;>first|exact .fO|exact .fD (.iF _ _)
def acG(a:ġ)(t:Á)(k b:ú)(x y:Int):fG P fl Y (Ũ a t (Ć k x)<|Ć b y) (Ũ a t (Ć k x)<|Ć b y):=by
 cases a<;>simp only[Ũ]<;>first|exact acE _ _ _ _ _|skip
 all_goals
  split
  .exact .fO
  .first|exact .fD (.iF _ _)|exact .fD (.mf _)|exact acD _ _ _ _
def acH(a:ġ)(t:Á)(x y:ByteArray):fG P fl Y (Ũ a t (ħ x)<|ħ y) (Ũ a t (ħ x)<|ħ y):=by
 cases a<;>simp only[Ũ,br]<;>first|exact .fO|exact .fD (.mf _)|skip
 split
 .exact .fO
 .exact .fD (.kI _)
end
section
variable{Y:ft}
def kO{α β:Type}{V0:ft->β->β->Prop}{V:ft->α->α->Prop}{m c:ē β}{f d:β->ē α}(h:fG P V0 Y m c) (g:∀b a e,Y.r b->V0 b a e->kD P V b (f a) (d e)):kD P V Y (m>>=f) (c>>=d):=.lQ h g
def acI{α β:Type}{V:ft->α->α->Prop}{c:ft->β->β->Prop}{m d:ē α}{f e:α->β}(h:kD P V Y m d)(i:∀b a g,Y.r b->V b a g->c b (f a) (e g)): kD P c Y (m>>=λa=>pure<|f a) (d>>=λa=>pure<|e a):=kD.acA h i
def Ul(t:Á)(y:Â):∀u x a,(ñ #[] t #[Þ ë,y]).run P u≠ĥ x a:=by
 unfold ñ;refine EV λn=> ?_;simp only[];split
 .exact acn
 .split;all_goals simp_all
def Ch(t:Á)(i:fl Y x v)(j:∃p,x=Þ p)(k:ú)(n:Int):kD P fl Y (ŕ t x<|Ć k n) (ŕ t v<|Ć k n):=by
 obtain⟨p,rfl⟩:=j;cases i with
 |lA=>
  unfold ŕ;refine kO (iZ t) ?_;rintro e d _ h ⟨rfl,_⟩;cases d<;>simp only[Å,if_false,if_true]<;>first|exact .gq .fO|exact .gq (.oa (Ul t _))
 |jI f=>
  unfold ŕ;refine kO (iZ t) ?_;rintro e d _ h ⟨rfl,_⟩;have l:∀{a g:Ú},gX e a g->kD P fl e (Į a>>=λp=>ñ #[] t #[Þ<|À p.1,Ć k n]>>=λc=>match c with|Þ (À b)=>b9 b p.2|c=>pure c) (Į g>>=λp=>ñ #[] t #[Þ<|À p.1,Ć k n]>>=λc=>match c with|Þ (À b)=>b9 b p.2|c=>pure c):=by intro a g f;refine kO (zL f) ?_;rintro q p r s ⟨m,u,rfl,rfl⟩;refine kO (Uk t m k n) ?_;intro w c y z o;cases o<;>first|exact .Ce trivial|exact .gq (.fD (by constructor<;>assumption))
  cases d<;>simp only[Å,if_false,if_true]<;>first|exact .gq .fO|exact l<|f.r h
def Um(t:Á)(b:fl Y x v)(c:∃p,x=Þ p)(k:ú)(n:Int):kD P fl Y (Ţ t x<|Ć k n) (Ţ t v<|Ć k n):=by
 unfold Ţ;obtain⟨p,rfl⟩:=c;cases b with
 |lA=>exact .gq (.oa (Ul t _))
 |jI a=>
  apply kO (Uf a.1);rintro e p f d ⟨rfl,rfl⟩;exact .gq (Uk t (a.r d) k n)
def acJ(P:Õ)(a:ġ)(t:Á)(x y:Â):Prop:=a=az\/a=aK->(sM P t\/((∃e,P.underlying t=À (ð e))/\(mR x\/mR y)))
def Un(c:Bi Y)(d:Y.C=P.globals.size)(t:Á)(f:sM P t\/((∃e,P.underlying t=À (ð e))/\(mR x\/mR z)))(a:fl Y x v)(b:fl Y z jQ):fG P jk Y (ó t x z) (ó t v jQ):=by
 rcases f with h|⟨g,i⟩
 .exact acC c d t h a b
 .exact Ue t (Î g) a b i
def acK(m:Bi Y)(n:Y.C=P.globals.size)(c:ġ)(t:Á)(r:acJ P c t x z)(o:fl Y x v)(h:fl Y z jQ):kD P fl Y (Ũ c t x z) (Ũ c t v jQ):=by
 have f:c=az->fG P fl Y (ó t x z>>=λb=>pure<|Ľ b) (ó t v jQ>>=λb=>pure<|Ľ b):=by intro e;apply fF (Un m n t (r<|Ç e) o h);rintro i b _ _ rfl;exact .fD (.mf _)
 have g:c=aK->fG P fl Y (ó t x z>>=λb=>pure<|Ľ !b) (ó t v jQ>>=λb=>pure<|Ľ !b):=by intro e;apply fF (Un m n t (r<|Î e) o h);rintro i b _ _ rfl;exact .fD (.mf _)
 cases o with
 |iF k a=>
  cases h with
  |iF d b=>exact .gq (acG c t k d a b)
  |jI l=>
   cases c<;>first|exact .gq .fO|exact .gq (f U)|exact .gq (g U)|exact Ch t (.jI l) ⟨_,U⟩ _ _|skip
   apply kO (zL l);rintro i p s e ⟨j,_,_,_⟩;exact .gq (Ui _ j _)
  |lA=>cases c<;>first|exact .gq .fO|exact .gq (f U)|exact .gq (g U)|exact Ch t .lA ⟨_,U⟩ _ _
  |_=>cases c<;>first|exact .gq .fO|exact .gq (f U)|exact .gq (g U)
 |kI a=>
  cases h with
  |kI b=>exact .gq (acH c t a b)
  |_=>cases c<;>first|exact .gq .fO|exact .gq (f U)|exact .gq (g U)
 |lA=>
  cases h with
  |iF k b=>
   cases c<;>first|exact .gq .fO|exact .gq (f U)|exact .gq (g U)|exact Ch t .lA ⟨_,U⟩ _ _|skip
   refine kO (iZ t) ?_;rintro i d _ e ⟨rfl,_⟩;cases d<;>simp only[Å,if_false,if_true]<;>first|exact Um t .lA ⟨_,U⟩ _ _|exact Ch t .lA ⟨_,U⟩ _ _
  |_=>cases c<;>first|exact .gq .fO|exact .gq (f U)|exact .gq (g U)
 |jI a=>
  cases h with
  |iF k b=>
   cases c<;>first|exact .gq .fO|exact .gq (f U)|exact .gq (g U)|exact Ch t (.jI a) ⟨_,U⟩ _ _|skip
   .refine kO (iZ t) ?_;rintro i d _ e ⟨rfl,_⟩;have a:=a.r e;cases d<;>simp only[Å,if_false,if_true]<;>first|exact Um t (.jI a) ⟨_,U⟩ _ _|exact Ch t (.jI a) ⟨_,U⟩ _ _
   all_goals
    apply kO (zL a);rintro i p s e ⟨j,_,_,_⟩;exact .gq (Ui _ j _)
  |jI l=>
   cases c<;>first|exact .gq .fO|exact .gq (f U)|exact .gq (g U)|skip
   all_goals
    refine kO (zL a) ?_;rintro i p s e ⟨j,_,rfl,rfl⟩;refine kO (zL<|l.r e) ?_;rintro w q B b ⟨d,_,rfl,rfl⟩;have k:=b.2.1<|e.2.1 m;have u:=b.2.2.trans<|e.2.2.trans n;first|exact .gq (acs k u _ (j.r b) d)|exact .gq (acu k u _ (j.r b) d)
  |_=>cases c<;>first|exact .gq .fO|exact .gq (f U)|exact .gq (g U)
 |_=>
  cases h<;>cases c<;>first|exact .gq .fO|exact .gq (f U)|exact .gq (g U)
end
section
variable{Y:ft}
def acM(a b:Á)(h:(∃k g,P.underlying a=À (Β k)/\P.underlying b=À (Β g))\/(P.underlying a=À ę/\P.underlying b=À ę))(f:fl Y x v):fG P fl Y (Œ a b x) (Œ a b v):=by
 unfold Œ;refine fF (iZ a) ?_;rintro n d _ l ⟨rfl,c⟩;refine fF (iZ b) ?_;rintro o p _ m ⟨rfl,e⟩;have f:=(f.fN l).fN m;rcases h with⟨k,g,i,j⟩|⟨i,j⟩;all_goals
  rw[i]at c;rw[j]at e;injection c with c;injection e with e;subst c e;cases f<;>first|exact .fO|exact .fD (.iF _ _)|exact .fD (.kI _)
inductive oI(Y:ft):Ο->Ο->Prop
 |nA {v v':Â} (h:fl Y v v'):oI Y (ï v) (ï v')
 |rL:oI Y aG aG
 |rM (f:à) {c c':Array Â} (h:fQ Y c c'):oI Y (ũ f c) (ũ f c')
def EX(P:Õ)(t:Á):Prop:=sM P t\/∃e,P.underlying t=À (ð e)
def acN(t:Á)(f:EX P t)(a g b i:Â):fG P jk Y (į ā t a b) (į ā t g i):=by
 unfold ā į;refine fF (iZ t) ?_;rintro j d _ l ⟨rfl,c⟩;rcases f with(h|⟨k,h⟩|h)|⟨e,h⟩;all_goals
  rw[h]at c;injection c with c;subst c;exact .fD U
def acO(e:ġ)(t:Á)(c:e=az\/e=aK->EX P t)(x y:Ö){d:Â}(h:fl Y v z)(i:fl Y jQ d):fG P jk Y (ŷ e t x y v jQ) (ŷ e t x y z d):=by
 have g:EX P t->∀{f:ft} (s:bq) (v z jQ d:Â),fG P jk f (į ā t v jQ>>=λr=>if r=É then unsupported s else pure ()) (į ā t z d>>=λr=>if r=É then unsupported s else pure ()):=by
  intro c f s v z jQ d;apply fF (acN t c v z jQ d);rintro j r _ _ rfl;split
  .exact .fO
  .exact .fD U
 unfold ŷ;cases e<;>first|exact .fD U|skip
 all_goals
  have c:=c (by first|exact Ç U|exact Î U);cases h<;>cases i<;>first|exact .fD U|skip
 all_goals first
  |(cases x<;>cases y<;>first|exact .fD U|exact g c _ _ _ _ _)
  |(
   simp only[þ,Å,if_false];apply fF qC;rintro f p m n ⟨r,s⟩;rw[r,s];apply fF qC;rintro j q o u ⟨k,l⟩;rw[k,l];split
   .exact .fD U
   .exact g c _ _ _ _ _)
def mE{m a:ē Â}(h:fG P fl Y m a):fG P oI Y (m>>=λv=>pure<|ï v) (a>>=λv=>pure<|ï v):=h.lQ λ_ _ _ _ v=> .fD (.nA v)
def Uo{m a:ē Â}(h:kD P fl Y m a):kD P oI Y (m>>=λv=>pure<|ï v) (a>>=λv=>pure<|ï v):=acI h λ_ _ _ _ v=> .nA v
def acP{m a:ē Unit}(h:fG P jk Y m a):fG P oI Y (m>>=λ_=>pure aG) (a>>=λ_=>pure aG):=h.lQ λ_ _ _ _ _=> .fD .rL
def acQ(f:à)(b:∃a,P.funcs[f]?=À a/\(a.name== "runtime.NumGoroutine")=Ã/\a.body.isNone=Ã)(e:fQ Y d q):fG P oI Y (ĵ f d) (ĵ f q):=by let⟨a,g,h,i⟩:=b;unfold ĵ;apply fF qC;rintro m p n j ⟨k,l⟩;rw[k,l,g];simp only[h,i,Å,if_false];exact .fD (.rM f (e.I j))
end
inductive jZ(P:Õ)(ev:Ö->Â):Op->Prop
 |zM (x:Ö):jZ P ev (.move x)
 |EY (x:Ö):jZ P ev (.assign x)
 |vE (c a b:Ö):jZ P ev (.pick c a b)
 |gI (t:Á):jZ P ev (.alloc t)
 |MH (t:Á) (x:Ö):jZ P ev (.box t x)
 |MI (t:Á) (ps:Array (Nat×Operand)):jZ P ev (.build t ps)
 |MJ (t:Á) (n:Nat) (ps:Array (Nat×Operand)):jZ P ev (dC t n ps)
 |gB (t:Á) (a:Ö):jZ P ev (.load t a)
 |jb (t:Á) (a x:Ö):jZ P ev (.store t a x)
 |EZ (x:Ö):jZ P ev (eA x)
 |Ci (op:ġ) (t:Á) (x y:Ö) (r:Á) (h:op=az\/op=aK->(sM P t\/((∃e,P.underlying t=À (ð e))/\(mR (ev x)\/mR (ev y))))):jZ P ev (dS op t x y r)
 |MK (op:UnOp) (t:Á) (x:Ö):jZ P ev (.unOp op t x)
 |ML (s d:Á) (x:Ö) (h:(∃k k',P.underlying s=À (Β k)/\P.underlying d=À (Β k'))\/(P.underlying s=À ę/\P.underlying d=À ę)):jZ P ev (aL s d x)
 |MN (t:Á) (l c:Ö):jZ P ev (dT t l c)
 |kC (t:Á) (x:Ö) (lo hi mx:Option Ö):jZ P ev (.slice t x lo hi mx)
 |MO (s:Á) (x:Ö) (n:Nat) (h:∀fields f i,P.underlying s=À (df fields)->fields[n]?=À f->P.info? f.type=À i->i.size≠0):jZ P ev (dU s x n)
 |MP (t:Á) (x:Ö) (n:Nat):jZ P ev (.field t x n)
 |MQ (t:Á) (x i:Ö):jZ P ev (dV t x i)
 |MR (t:Á) (x i:Ö):jZ P ev (.index t x i)
 |EM (x:Ö) (n:Nat):jZ P ev (.extract x n)
 |E0 (x:Ö) (ts:Array Á):jZ P ev (Ω {callee:=ĝ .len,args:=#[x],argTypes:=ts})
 |E1 (x:Ö) (ts:Array Á):jZ P ev (Ω {callee:=ĝ .cap,args:=#[x],argTypes:=ts})
 |E2 (x y:Ö) (ts:Array Á):jZ P ev (Ω {callee:=ĝ .copy,args:=#[x,y],argTypes:=ts})
 |sL (x y:Ö) (t0 t1:Á) (h:(∃e,P.underlying t1=À (dh e))\/P.underlying t1=À ę):jZ P ev (Ω {callee:=ĝ .append,args:=#[x,y],argTypes:=#[t0,t1]})
 |jD (f:à) (args:Array Ö) (ts:Array Á) (Up:ev (aN f)=eI (.func f) #[] #[]) (h:∃fn,P.funcs[f]?=À fn/\(fn.name== "runtime.NumGoroutine")=Ã/\fn.body.isNone=Ã):jZ P ev (Ω {callee:=cg<|aN f,args:=args,argTypes:=ts})
end Go.Proofs.Y.Lift
namespace Go.Proofs.Y.Lift
open Go Go.Conc
section
variable{Y:ft}
def Uq(Y:ft):Ö->Prop
 |dW v=>fl Y v v
 |eu g=>Y g g
 |_=>True
theorem E3(Y:ft):fl Y ľ ľ:=.nu U λi h=>absurd h fp
def acR{a a':bE}(h:fQ Y a.tmps a'.tmps)(b:Uq Y qQ):fl Y (a.eval qQ) (a'.eval qQ):=by
 cases qQ with
 |tmp t=>
  simp only[å,ĩ];rcases h.S t with⟨f,g⟩|⟨v,d,f,g,c⟩
  .rw[f,g];exact E3 Y
  .rwa[f,g]
 |const v=>exact b
 |global g=>exact .jI ⟨b,U,U⟩
 |func f=>exact .fn _
def acS(b:Array au)(h:fQ Y d q)(j:Nat):ł b d j=ł b q j:=by
 unfold ł;cases(b[j]?).bind (·.dst)with
 |none=>rfl
 |some a=>
  simp only[Option.bind_some];rcases h.S a with⟨c,e⟩|⟨v,g,c,e,f⟩
  .rw[c,e]
  .rw[c,e];cases f<;>rfl
def Iu(a:Array au)(o:au)(h:fQ Y d q):Ħ o (ł a d)=Ħ o (ł a q):=by have:ł a d=ł a q:=funext<|acS a h;rw[this]
def acT{a a':bE}(h:fQ Y a.tmps a'.tmps)(d:Option Tmp)(b:fl Y v x):fQ Y (a.put d v).tmps (a'.put d x).tmps:=by
 cases d with
 |none=>exact h
 |some d=>exact h.p7 d b
end
section
variable{Y:ft}
def Ur{b:Ö->Â}(a:Array Ö)(h:∀x∈a,fl Y (xX x)<|b x):fQ Y (a.map xX) (a.map b):= ⟨fp,λi c d=>by simp only[ŵ];exact h _<|Array.getElem_mem _⟩
def Us{c:Ö->Â}(a:Array (Nat×Operand))(h:∀x∈(a.toList.map (·.2)).toArray,fl Y (xX x)<|c x):uI Y (a.map λp=>(p.1,xX p.2)).toList (a.map λp=>(p.1,c p.2)).toList:=by
 simp only[Array.toList_map];have d:∀x∈a.toList.map (·.2),fl Y (xX x) (c x):=λx b=>h x (by simpa using b);generalize a.toList=l at d
 induction l with
 |nil=>exact .oH
 |cons p l e=>exact .vD ⟨U,d _ fp⟩ (e λx b=>d x<|by simp at b|-;exact Î b)
def MS{a:Ö->Â}(x:Option Ö)(h:∀y,x=À y->fl Y (xX y) (a y)):qE Y (x.map xX) (x.map a):=by
 cases x with
 |none=>exact Ç ⟨U,U⟩
 |some x=>exact Î ⟨_,_,U,U,h x U⟩
def Ut(p:nz P)(D:Bi Y)(E:Y.C=P.globals.size){w:Ö->Â}(F:∀f,w (aN f)=eI (.func f) #[] #[])(B:jZ P xX o.op)(g:∀x∈o.op.operands,fl Y (xX x)<|w x):kD P oI Y (ì xX o) (ì w o):=by
 let⟨O,u,Q,S,T,guard⟩:=o;simp only at B g;unfold ì;simp only[];cases B with
 |zM x=>exact .gq (.fD (oI.nA<|g x<|by simp[Ê]))
 |EY x=>exact .gq (.fD (oI.nA<|g x<|by simp[Ê]))
 |vE c a b=>
  apply kO (Ub<|g c<|by simp[Ê]);rintro G r _ k rfl;refine .gq (.fD (oI.nA ?_));split
  .exact(g a<|by simp[Ê]).fN k
  .exact(g b<|by simp[Ê]).fN k
 |gI t=>exact .gq (mE<|abS p t _)
 |MH t x=>exact .gq (mE<|abT t<|g x<|by simp[Ê])
 |MI t z=>exact .gq (mE<|ab9 p t<|Us z g)
 |MJ t n z=>exact .gq (mE<|acf p t n<|Us z g)
 |gB t a=>exact .gq (mE<|abU t<|g a<|by simp[Ê])
 |jb t a x=>exact .gq (acP<|abV t (g a<|by simp[Ê])<|g x<|by simp[Ê])
 |EZ x=>
  simp only[];have j:=g x (by simp[Ê]);generalize xX x=v at j;generalize w x=v' at j;cases j<;>first|exact .gq Ir|exact .gq (.fD (oI.nA<|by constructor<;>assumption))|skip
  rename_i f;cases f<;>exact .gq (.fD (oI.nA<|.fn _))
 |Ci u t x y r h=>
  have j:=g x (by simp[Ê]);have C:=g y (by simp[Ê]);apply Uo;apply kO (acO u t (λe=>(h e).imp id λq=>q.1) x y j C);exact λG _ _ k _=>acK (k.2.1 D) (k.2.2.trans E) u t h (j.fN k)<|C.fN k
 |MK u t x=>exact .gq (mE<|ab3 u<|g x<|by simp[Ê])
 |ML s d x h=>exact .gq (mE<|acM s d h<|g x<|by simp[Ê])
 |MN t l c=>exact .gq (mE<|acp p t (g l<|by simp[Ê])<|g c<|by simp[Ê])
 |kC t x H I J=>exact .gq (mE<|ab1 t (g x<|by simp[Ê]) (MS H λy e=>g y<|by simp[Ê,e]) (MS I λy e=>g y<|by simp[Ê,e])<|MS J λy e=>g y<|by simp[Ê,e])
 |MO s x n h=>exact .gq (mE<|abY s (g x<|by simp[Ê]) n h)
 |MP t x n=>exact .gq (mE<|abX t (g x<|by simp[Ê]) n)
 |MQ t x i=>exact .gq (mE<|abZ t (g x<|by simp[Ê])<|g i<|by simp[Ê])
 |MR t x i=>exact .gq (mE<|ab2 t (g x<|by simp[Ê])<|g i<|by simp[Ê])
 |EM x n=>exact .gq (mE<|abW (g x<|by simp[Ê]) n)
 |E0 x m=>
  simp only[ù,č,Ē,pure_bind,Ø,â,ä];exact .gq (mE<|ach m _<|g x<|by simp[Ê,ô])
 |E1 x m=>
  simp only[ù,č,Ē,pure_bind,Ø,â,ä];exact .gq (mE<|aci m _<|g x<|by simp[Ê,ô])
 |E2 x y m=>
  simp only[ù,č,Ē,pure_bind,Ø,â,ä];exact .gq (mE<|acj m _ (g x<|by simp[Ê,ô])<|g y<|by simp[Ê,ô])
 |sL x y K L h=>
  simp only[ù,č,Ē,pure_bind,Ø,â,ä];exact .gq (mE<|aco p K L _ h (g x<|by simp[Ê,ô])<|g y<|by simp[Ê,ô])
 |jD f M m N h=>
  simp only[ù,N,F f,İ,č,pure_bind,Ď,ď];exact .gq (acQ f h<|Ur M λx j=>g x<|by simp[Ê,ô,j])
end
def World.tp(u:Æ)(T:ψ)(D:Nat):Æ:={u with tape:=T,drawn:=D}
def uJ(T:ψ)(D:Nat)(a:ψ)(b n:Nat):Prop:=∀i,i<n->a (b+i)=T (D+i)
def uJ.lC{T:ψ}(h:uJ T i xQ j (n+1)):xQ j=T i:=h 0 Z
def uJ.jl{T:ψ}(h:uJ T i xQ j (n+m)):uJ T i xQ j n:=λa b=>h a Z
def uJ.acU{b:ψ}(h:uJ xQ i b j (n+m)):uJ xQ (i+n) b (j+n) m:=λa c=>by have:=h (n+a) Z;rw[show j+n+a=j+(n+a) by omega,show i+n+a=i+(n+a) by omega];exact this
def qG{α:Type}(P:Õ)(m:ē α):Prop:=∀(u:Æ) (T:ψ) (D:Nat),∃(n:Nat) (v:Æ),
 ∀x c,m.run P ((World.tp u T D))=ĥ x c->c=(World.tp v T<|D+n)/\∀a b,uJ T D a b n->m.run P ((World.tp u a b))=ĥ x ((World.tp v a<|b+n))
section
variable{α β:Type}
def zN{m:ē α}(h:∀u x a,m.run P u=ĥ x a->a=u/\∀b c,m.run P ((World.tp u b c))=ĥ x ((World.tp u b c))):qG P m:=λu T D=>⟨0,u,λx a e=>by let⟨d,f⟩:=h _ x a e;exact⟨d,λb c _=>f b c⟩⟩
def MU{m:ē α}(h:∀u x a,m.run P u≠ĥ x a):qG P m:=λu T D=>⟨0,u,λx a e=>absurd e<|h _ _ _⟩
def acV{m:ē α}{f:α->ē β}(h:qG P m)(i:∀a,qG P<|f a):qG P (m.bind f):=by
 intro u T D;let⟨n,v,j⟩:=h u T D;cases b:m.run P ((World.tp u T D))with
 |halt z w=>exact⟨0,u,λx c e=>by rw[Ĵ,b]at e;cases e⟩
 |ok a k=>
  obtain⟨rfl,l⟩:=j a k b;let⟨o,w,p⟩:=i a v T<|D+n;refine⟨n+o,w,λx c e=> ?_⟩;rw[Ĵ,b]at e;let⟨q,r⟩:=p x c e;refine⟨by rw[q,cP],λz d g=> ?_⟩;rw[Ĵ,l z d g.jl,<-cP];exact r z (d+n) g.acU
theorem acW{m a:ē α}(h:∀u,m.run P u=a.run P u)(b:qG P a):qG P m:=by intro u T D;let⟨n,v,c⟩:=b u T D;exact⟨n,v,λx d e=>by grind⟩
def acX(q:bT):qG P (π q):=by
 intro u T D;cases a:q.forced with
 |true=>exact⟨0,u,λx d e=>by simp only[π,ã,a,if_true]at e;cases e;exact⟨U,λb c _=>by simp only[π,ã,a,if_true];rfl⟩⟩
 |false=>
  refine⟨1,u,λx d e=> ?_⟩;simp only[π,ã,a,Å,if_false]at e;cases e;refine⟨U,λb c f=> ?_⟩;simp only[π,ã,a,Å,if_false];have g:(World.tp u b c).tape (World.tp u b c).drawn q=T D q:=congrFun f.lC q;rw[g];rfl
def Iv{γ:Type}(s:String):(MonadExcept.throw s:Except String γ)=bF s:=rfl
def acY(a:Ú)(md:Mode):qG P (aW a md):=by
 refine zN λu x f e=> ?_;simp only[aW,ã]at e|-;cases b:u.cell? a with
 |some v=>
  rw[b]at e;cases e;exact⟨U,λc d=>by simp only[show((World.tp u c d)).cell? a=À x from b]⟩
 |none=>
  rw[b]at e;cases v:u.farLoad P a (md==ċ)with
  |error z=>simp only[v]at e;cases e
  |ok p=>
   simp only[v]at e;cases e;exact⟨U,λc d=>by simp only[show((World.tp u c d)).cell? a=ë from b,show((World.tp u c d)).farLoad P a (md==ċ)=.ok p from v]⟩
def MV(u:Æ)(a:Ú)(v:Â)(md:Mode):∀T D,((World.tp u T D)).farStore P a v (md==ċ)=(u.farStore P a v<|md==ċ).map λp=>((World.tp p.1 T D),p.2):=by
 intro T D;have c:∀b t,((World.tp u T D)).viewStore P b t a v (md==ċ)=(u.viewStore P b t a v<|md==ċ).map λp=>((World.tp p.1 T D),p.2):=by
  intro b t;unfold bI;have o:((World.tp u T D)).seen P b t a (md==ċ)=u.seen P b t a (md==ċ):=U;rw[o];simp only[bind,ρ,pure,ς,Iv];cases u.seen P b t a (md==ċ)with
  |error e=>simp only[];split<;>rfl
  |ok r=>
   simp only[];repeat' (first|rfl|split)
 unfold Ŧ;have e:((World.tp u T D)).heap=u.heap:=U;cases r:u.heap[a.block]? with
 |none=>simp only[aO,e,r];rfl
 |some o=>
  cases o<;>first
   |(simp only[aO,e,r];rfl)
   |skip
  simp only[e,r,c];cases u.viewStore P _ _ a v (md==ċ)<;>rfl
def acZ(a:Ú)(v:Â)(md:Mode):qG P (ak a v md):=by
 by_cases b:xD v=É
 .intro u T D;cases d:u.cell? a with
  |some y=>
   cases c:u.frozen? a with
   |true=>exact⟨0,u,λx h e=>by simp only[ak]at e;rw[vC b,show((World.tp u T D)).cell? a=À y from d]at e;simp only[show((World.tp u T D)).frozen? a=É from c,if_true]at e;cases e⟩
   |false=>
    refine⟨0,u.setCell a v,λx h e=> ?_⟩;simp only[ak]at e|-;rw[vC b,show((World.tp u T D)).cell? a=À y from d]at e;simp only[show((World.tp u T D)).frozen? a=Ã from c,Å,if_false]at e;cases e;refine⟨U,λf g i=> ?_⟩;rw[vC b,show((World.tp u f g)).cell? a=À y from d];simp only[show((World.tp u f g)).frozen? a=Ã from c,Å,if_false];rfl
  |none=>
   cases c:u.farStore P a v (md==ċ)with
   |error z=>exact⟨0,u,λx h e=>by simp only[ak]at e;rw[vC b,show((World.tp u T D)).cell? a=ë from d]at e;simp only[MV u a v md T D,c,cj]at e;cases e⟩
   |ok p=>
    refine⟨0,p.1,λx h e=> ?_⟩;simp only[ak]at e|-;rw[vC b,show((World.tp u T D)).cell? a=ë from d]at e;simp only[MV u a v md T D,c,cj]at e;cases e;refine⟨U,λf g i=> ?_⟩;rw[vC b,show((World.tp u f g)).cell? a=ë from d];simp only[MV u a v md f g,c,cj];rfl
 .exact MU λu x h e=>by cases v<;>first|exact absurd U b|cases e
def ac0(o:Obj):qG P (eL o):=λu T D=>⟨0,{u with heap:=u.heap.push o},λx a e=>by cases e;exact⟨U,λb c _=>rfl⟩⟩
def ac1(r:Nat):qG P (cm r):=by
 refine zN λu x d e=> ?_;simp only[cm,ã]at e|-;cases a:u.heap[r]? with
 |none=>rw[a]at e;cases e
 |some o=>
  rw[a]at e;cases o<;>first
   |(cases e;done)
   |(cases e;exact⟨U,λb c=>by simp only[show((World.tp u b c)).heap[r]?=_ from a]⟩)
end
def p8(u:Æ):Prop:=∀(i:Nat) (c:Array Â) (e:Á),u.heap[i]?≠À (Ÿ c e)
structure Kd(u u':Æ):Prop where
 r:p8 u->p8 u'
 C:∀(i:Nat) (o:Obj),u.heap[i]?=À o->xI o->∃o',u'.heap[i]?=À o'/\xI o'
theorem Kd.fT(u:Æ):Kd u u:=⟨id,λ_ o h k=>⟨o,h,k⟩⟩
def Kd.fh{c:Æ}(h:Kd w u)(k:Kd u c):Kd w c:=⟨λx=>k.r<|h.r x,λi o x y=>by let⟨d,e,f⟩:=h.C i o x y;exact k.C i d e f⟩
def E4:Halt->Bool
 |.panic _=>É
 |.stuck _=>É
 |ŀ (.initOrder _)=>Ã
 |ŀ _=>É
 |_=>Ã
def oc{α:Type}(P:Õ)(m:ē α):Prop:=∀u,p8 u->(∀x a,m.run P u=ĥ x a->Kd u a)/\(∀z a,m.run P u=bU z a->E4 z=É)
section
variable{α β:Type}
def Uu(a:α):oc P (aH a):=λu _=>⟨λx b h=>by cases h;exact Kd.fT u,λz b h=>by cases h⟩
def E5{z:Halt}(h:E4 z=É):oc P (ek z:ē α):=λu _=>⟨λx a e=>(by cases e),λb a e=>(by cases e;exact h)⟩
def Iw{m:ē α}{f:α->ē β}(h:oc P m)(j:∀a,oc P<|f a):oc P (m.bind f):=by
 intro u d;let⟨g,k⟩:=h u d;refine⟨λx i e=> ?_,λz i e=> ?_⟩<;>rw[Ĵ]at e
 .cases b:m.run P u with
  |ok a c=>
   rw[b]at e;exact(g a c b).fh<|(j a c<|(g a c b).r d).1 x i e
  |halt z w=>rw[b]at e;cases e
 .cases b:m.run P u with
  |ok a c=>
   rw[b]at e;exact(j a c<|(g a c b).r d).2 z i e
  |halt c w=>rw[b]at e;cases e;exact k _ _ b
def Uv:oc P dc:=λu _=>⟨λx a h=>by cases h;exact Kd.fT u,λz a h=>by cases h⟩
theorem ac2(q:bT):oc P (π q):=by
 intro u b;constructor
 .intro x a e;simp only[π,ã]at e;split at e<;>cases e
  .exact Kd.fT u
  .exact⟨id,λi o h k=>⟨o,h,k⟩⟩
 .intro z a e;simp only[π,ã]at e;grind
def ac3(m:Mark):oc P (mark m):=λu _=>⟨λx a h=>by cases h;exact Kd.fT u,λz a h=>by cases h⟩
def ac4(r:Nat):oc P (cu r):=λu _=>⟨λx a h=>by cases h;exact Kd.fT u,λz a h=>by cases h⟩
def ac5(a:Ú):oc P (eM a):=λu _=>⟨λx b h=>by cases h;exact Kd.fT u,λz b h=>by cases h⟩
theorem ac6(o:Obj)(h:∀c e,o≠Ÿ c e):oc P (eL o):=by
 intro u b;refine⟨λx d e=> ?_,λz d e=>by cases e⟩;cases e;refine⟨λ_ i c e a=> ?_,λi f a g=>⟨f,?_,g⟩⟩
 .simp only[Array.getElem?_push]at a;split at a
  .grind
  .exact b i c e a
 .grind
theorem Uw{f:Obj->Obj}(n:∀o,xI o->xI (f o))(j:∀o c e,f o=Ÿ c e->∃d g,o=Ÿ d g):Kd u {u with heap:=u.heap.modify b f}:=by
 refine⟨λh i c e a=> ?_,λi o a p=> ?_⟩
 .simp only[Ň]at a;split at a
  .let⟨o,k,l⟩:=ģ.1 a;let⟨d,g,m⟩:=j o c e l;exact h i d g<|m▸k
  .exact h i c e a
 .grind
theorem ac7(a:Ú)(v:Â):Kd u (u.setCell a v):=by
 unfold ĉ;refine Uw (λo b=> ?_) λo c e h=> ?_
 .cases o<;>first|exact b.elim|trivial
 .grind
theorem Ux(b:p8 u)(a:Ú)(s:String):E4 (u.noCell a s)=É:=by
 unfold aO;split
 .rename_i h;exact absurd h<|b _ _ _
 .rfl
 .rfl
theorem ac8(a:Ú)(m:Mode):oc P (aW a m):=by
 intro u d;constructor
 .intro x c e;simp only[aW,ã]at e;grind [Kd.fT]
 .intro z c e;simp only[aW,ã]at e;split at e
  .cases e
  .split at e
   .cases e
   .rename_i b;cases e;unfold ŋ at b;split at b
    .split at b<;>cases b;rfl
    .grind [Ux]
theorem ac9{k:Ú}{r:Array Value×TypeId×(Nat×Nat)×Nat×Value×List (Nat×Nat×List UInt8)}(h:w.seen P a t k yQ=.ok r):∃c e d,w.heap[a.block]?=À (Č c e d):=by unfold World.seen at h;simp only[bind,ρ,pure,ς,Iv]at h;grind
theorem ada{k:Ú}{l:List Ú}(h:w.viewStore P a t k v yQ=.ok (u,l)):Kd w u:=by
 have q:∃c e n d f g,w.heap[a.block]?=À (Č d f g)/\u={w with heap:=w.heap.setIfInBounds a.block (Č c e n)}:=by
  unfold bI at h;cases i:w.seen P a t k yQ with
  |error e=>
   rw[i]at h;simp only[bind,ρ,pure,ς,Iv]at h;repeat' (first|contradiction|split at h)
  |ok r=>
   let⟨d,f,g,j⟩:=ac9 i;rw[i]at h;simp only[bind,ρ,pure,ς,Iv]at h;repeat' (first|contradiction|split at h)
   all_goals(simp only[Except.ok.injEq,Prod.mk.injEq]at h;obtain⟨rfl,_⟩:=h;exact⟨_,_,_,d,f,g,j,U⟩)
 obtain⟨c,e,n,d,f,g,j,rfl⟩:=q;refine⟨λs i x m r=> ?_,λi o r y=> ?_⟩
 .rw[Ś]at r;split at r
  .grind
  .exact s i x m r
 .by_cases m:a.block=i
  .subst m;rw[j]at r;cases r;exact y.elim
  .grind
theorem adb(a:Ú)(v:Â)(m:Mode):oc P (ak a v m):=by
 intro u d;by_cases c:xD v=É
 .constructor
  .intro x f e;simp only[ak]at e;rw[vC c]at e;split at e
   .split at e
    .cases e
    .cases e;exact ac7 a v
   .split at e
    .rename_i b;cases e;unfold Ŧ at b;grind [ada]
    .cases e
  .intro z f e;simp only[ak]at e;rw[vC c]at e;split at e
   .split at e
    .cases e;rfl
    .cases e
   .split at e
    .cases e
    .rename_i b;cases e;unfold Ŧ at b;split at b
     .split at b<;>cases b;rfl
     .grind [Ux]
 .cases v<;>first|exact absurd U c|exact E5 (P:=P) U u d
def fE(P:Õ)(m:ē α):Prop:=oc P m/\qG P m
theorem gF(a:α):fE P (pure a):=⟨Uu a,zN λu x b e=>by cases e;exact⟨U,λ_ _=>rfl⟩⟩
def MW{z:Halt}(h:E4 z=É):fE P (ek z:ē α):=⟨E5 h,MU λu x a e=>by cases e⟩
theorem gp{m:ē α}{f:α->ē β}(h:fE P m)(b:∀a,fE P<|f a):fE P (m>>=f):=⟨Iw h.1 λa=>(b a).1,acV h.2 λa=>(b a).2⟩
def MX{m:ē α}{f:α->β}(h:fE P m):fE P (f<$>m):=gp h λ_=>gF _
theorem jc(s:String):fE P (stuck s:ē α):=MW U
def Uy(v:Â):fE P (goPanic v:ē α):=MW U
theorem p9:fE P dc:=⟨Uv,zN λu x a e=>by cases e;exact⟨U,λ_ _=>rfl⟩⟩
theorem rN(q:bT):fE P (π q):=⟨ac2 q,acX q⟩
def E6(m:Mark):fE P (mark m):=⟨ac3 m,zN λu x a e=>by cases e;exact⟨U,λ_ _=>rfl⟩⟩
theorem sN(r:Nat):fE P (cu r):=⟨ac4 r,zN λu x a e=>by cases e;exact⟨U,λ_ _=>rfl⟩⟩
theorem MY(a:Ú):fE P (eM a):=⟨ac5 a,zN λu x b e=>by cases e;exact⟨U,λ_ _=>rfl⟩⟩
def Ix(o:Obj)(h:∀c e,o≠Ÿ c e):fE P (eL o):=⟨ac6 o h,ac0 o⟩
def E7(a:Ú)(m:Mode):fE P (aW a m):=⟨ac8 a m,acY a m⟩
def ade(a:Ú)(v:Â)(m:Mode):fE P (ak a v m):=⟨adb a v m,acZ a v m⟩
theorem Iy{m m':ē α}(h:∀u,m.run P u=m'.run P u)(a:fE P m'):fE P m:=⟨λu b=>by have:=a.1 u b;rwa[<-h u]at this,acW h a.2⟩
end
section
variable{α:Type}
def mS(u:bq)(h:E4 (ŀ u)=É):fE P (unsupported u:ē α):=MW h
def E8(e:Á)(c:Array Â):fE P (dR e c):=by unfold dR;exact gp (Ix _<|by intro _ _ h;cases h) λ_=>gF _
def Uz(t:Á)(v:Â):fE P (eJ t v):=E8 _ _
def uK(t:Á):fE P (Δ t):=by unfold Δ;repeat' (first|(with_reducible first|exact gF _|exact jc _|exact p9|refine gp ?_ λ_=> ?_)|split)
theorem qH(t:Á):fE P (ø t):=by unfold ø;repeat' (first|(with_reducible first|exact gF _|exact jc _|exact p9|refine gp ?_ λ_=> ?_)|split)
def sP{p:Prop}(h:p:=by repeat' (first|(with_reducible first|exact gF _|exact jc _|exact p9|exact qH _|exact Uy _|exact Uz _ _|exact rN _|exact uK _|exact E7 _ _|exact sN _|exact E6 _|refine gp ?_ (λ_=> ?_)|refine MX ?_|refine mS _ ?_)|split|rfl)):p:=h
def Iz(t:Á):fE P (Ū t):=by unfold Ū;exact sP
def vF(e:Ι):fE P (runtimePanic e:ē α):=by unfold runtimePanic;repeat' (first|(with_reducible first|exact Iz _|refine gp ?_ λ_=> ?_)|split|exact sP)
def UA(k:ú)(x y:Int)(c:av):fE P (boundsPanic k x y c:ē α):=by unfold boundsPanic;simp only[];repeat' (first|(with_reducible first|exact vF _|refine gp ?_ λ_=> ?_)|split|exact sP)
def adf(r:Nat):oc P (cm r):=by
 intro u b;constructor
 .intro x a e;simp only[cm,ã]at e;split at e<;>first|(cases e;done)|(cases e;exact Kd.fT u)
 .intro z a e;simp only[cm,ã]at e;split at e<;>first|(cases e;done)|(cases e;rfl)
theorem UB(r:Nat):fE P (cm r):=⟨adf r,ac1 r⟩
def IA(t:Á):fE P (ω t):=by unfold ω;exact sP
def sQ(t:Á):fE P (ax t):=by unfold ax;exact sP
def MZ(t:Á):fE P (ep t):=by unfold ep;exact sP
def UC(a:Ú):∀(n i:Nat) (b:Array Â),fE P<|Ō a i n b
 |0,i,b=>gF _
 |n+1,i,b=>by unfold Ō;exact gp (E7 _ _) λ_=>UC a n _ _
def M0(a:Ú)(n:Nat):fE P (cZ a n):=UC a n _ _
def IB(a:Ú):∀(b:List Â) (i:Nat),fE P<|Κ a b i
 |[],i=>gF _
 |v::b,i=>by unfold Κ;exact gp (ade _ _ _) λ_=>IB a b _
theorem UD(t:Á)(a:Ú):fE P (ae t a):=by unfold ae;repeat' (first|(with_reducible first|exact sQ _|exact MZ _|exact M0 _ _|refine gp ?_ λ_=> ?_)|split|exact sP)
def adg(t:Á)(a:Ú)(v:Â):fE P (aI t a v):=by unfold aI;repeat' (first|(with_reducible first|exact sQ _|exact IB _ _ _|refine gp ?_ λ_=> ?_)|split|exact sP)
def UE(t:Á)(c:Array Â)(o:Nat):fE P (part t c o):=by unfold part;repeat' (first|(with_reducible first|exact sQ _|exact MZ _|refine gp ?_ λ_=> ?_)|split|exact sP)
def UF(v:Â):fE P (ŧ v):=by unfold ŧ;exact sP
def UG(v:Â):fE P (de v):=by unfold de;exact sP
def jR{p:Prop}(h:p:=by repeat' (first|(with_reducible first|exact gF _|exact jc _|exact p9|exact qH _|exact Uy _|exact Uz _ _|exact Iz _|exact rN _|exact vF _|exact uK _|exact E7 _ _|exact sQ _|exact MZ _|exact M0 _ _|exact IB _ _ _|exact UG _|exact IA _|exact adg _ _ _|exact UD _ _|exact UF _|exact UE _ _ _|exact sN _|exact UB _|exact UA _ _ _ _|exact E6 _|refine gp ?_ (λ_=> ?_)|refine MX ?_|refine mS _ ?_)|split|rfl)):p:=h
def E9(v:Â):fE P (dA v):=by unfold dA;exact jR
def IC(v:Â):fE P (bV v):=by unfold bV;exact jR
def adh(v:Â):fE P (eK v):=by unfold eK;exact jR
theorem UH(v:Â):fE P (bW v):=by unfold bW;exact jR
def UI(t:Á)(b:Bool)(v:Â):fE P (Ű t b v):=by unfold Ű;exact jR
def UJ(t:Á)(v:Â):fE P (af t v):=by unfold af;exact jR
def UK(t:Á)(v:Â):fE P (Ş t v):=by unfold Ş;exact jR
def UL(t:Á)(a v:Â):fE P (ĳ t a v):=by unfold ĳ;exact jR
def UM(v:Â)(n:Nat):fE P (ō v n):=by unfold ō;exact jR
def UN(t:Á)(v:Â)(n:Nat):fE P (ű t v n):=by unfold ű;repeat' (first|(with_reducible first|exact adh _|refine gp ?_ λ_=> ?_)|split|exact jR)
def UO{γ δ:Type}(f:γ->ē δ)(a:∀x,fE P<|f x):∀l:List γ,fE P<|l.mapM f
 |[]=>by rw[cR];exact gF _
 |x::l=>by rw[ν];exact gp (a x) λ_=>gp (UO f a l) λ_=>gF _
theorem UP{γ δ:Type}(f:γ->ē δ)(a:∀x,fE P<|f x)(l:Array γ):fE P (l.mapM f):=by rw[Ĕ];exact MX<|UO f a _
def adi(l:Array Field):fE P (l.mapM λf=>do pure (f.offset,<-ax f.type)):=UP _ (λ_=>gp (sQ _) λ_=>gF _) l
def IF(r:Nat):fE P (di r):=by unfold di;exact jR
def UQ(r:Nat):fE P (bZ r):=by unfold bZ;exact jR
def UR(a:Ú):fE P (aX a):=by unfold aX;repeat' (first|(with_reducible first|exact IF _|refine gp ?_ λ_=> ?_)|split|exact jR)
def zO(a:Ú):fE P (dj a):=by unfold dj;repeat' (first|(with_reducible first|exact gF _|exact jc _|exact p9|exact sN _|exact UR _|refine gp ?_ λ_=> ?_)|split|simp only[]|(rename_i b;cases b<;>simp only[Å,if_false,if_true,þ,Ă]))
def Cj(a:Ú):fE P (Į a):=by unfold Į;repeat' (first|(with_reducible first|exact UQ _|refine gp ?_ λ_=> ?_)|split|exact jR)
def adj(a:Ú)(x y:Nat):fE P (partAt a x y):=by unfold partAt;repeat' (first|(with_reducible first|exact zO _|refine gp ?_ λ_=> ?_)|split|exact jR)
def adk(a:Ú)(f:Field):fE P (bX a f):=by unfold bX;repeat' (first|(with_reducible first|exact adj _ _ _|refine gp ?_ λ_=> ?_)|split|exact jR)
def US(s:Á)(v:Â)(n:Nat):fE P (Ŏ s v n):=by unfold Ŏ;repeat' (first|(with_reducible first|exact adk _ _|refine gp ?_ λ_=> ?_)|split|exact jR)
def UT(t:Á)(x i:Â):fE P (ŏ t x i):=by unfold ŏ;repeat' (first|(with_reducible first|exact gF _|exact jc _|exact qH _|exact UA _ _ _ _|exact sQ _|exact UF _|exact UG _|refine gp ?_ (λ_=> ?_)|refine mS _ ?_)|split|rfl|simp only[])
def adl(x:Â)(y:Nat)(c:av):fE P (ī x y c):=by unfold ī;exact jR
def UU(b:Bool)(l c:Nat)(x y z:Option Â):fE P (Ĩ b l c x y z):=by unfold Ĩ;repeat' (first|(with_reducible first|exact adl _ _ _|refine gp ?_ λ_=> ?_)|split|exact jR)
def adn(t:Á)(v:Â)(x y z:Option Â):fE P (Ų t v x y z):=by unfold Ų;repeat' (first|(with_reducible first|exact UH _|exact UU _ _ _ _ _ _|refine gp ?_ λ_=> ?_)|split|exact jR)
def UW(t:Á)(v:Â)(x y z:Option Â):fE P (Ő t v x y z):=by unfold Ő;repeat' (first|(with_reducible first|exact UU _ _ _ _ _ _|exact adn _ _ _ _ _|refine gp ?_ λ_=> ?_)|split|exact jR)
def UX(t:Á)(x i:Â):fE P (ų t x i):=by unfold ų;exact jR
def UY(o:ġ)(k:ú)(x y:Int):fE P (dD o k x y):=by unfold dD;exact jR
def UZ(o:ġ)(k:ú)(x y:Int):fE P (dX o k x y):=by unfold dX;exact jR
def U0(o:UnOp)(v:Â):fE P (bY o v):=by unfold bY;repeat' (first|(with_reducible first|exact UY _ _ _ _|exact UZ _ _ _ _)|split|exact jR)
def U1(t:Á)(a:Array (Nat×Value)):fE P (Ŵ t a):=by unfold Ŵ;repeat' (first|(with_reducible first|exact adi _|refine gp ?_ λ_=> ?_)|split|exact jR)
def U2(t:Á)(n:Nat)(a:Array (Nat×Value)):fE P (ĭ t n a):=by unfold ĭ;repeat' (first|(with_reducible first|exact gF _|exact jc _|exact E8 _ _|exact qH _|exact IA _|exact sQ _|refine gp ?_ (λ_=> ?_)|refine mS _ ?_)|split|rfl|simp only[]|(rename_i b;cases b<;>simp only[Å,if_false,if_true,þ,Ă]))
def M1(n:Nat):fE P (bO n):=by unfold bO;exact jR
def U3(t:Á)(x y:Â):fE P (Ĺ t x y):=by unfold Ĺ;repeat' (first|(with_reducible first|exact gF _|exact jc _|exact rN _|exact E8 _ _|exact uK _|exact qH _|exact vF _|exact IA _|exact sQ _|exact E9 _|exact M1 _|refine gp ?_ λ_=> ?_)|split|simp only[]|(rename_i b;cases b<;>simp only[Å,if_false,if_true,þ,Ă]))
def U4(v:Â):fE P (Α v):=by unfold Α;exact jR
def U5(s n:Nat)(v:Â):fE P (ļ s n v):=by unfold ļ;exact jR
def ado(a:Ú)(n:Nat):fE P (aA a n):=by unfold aA;exact jR
def adp(s l n:Nat)(b:Option Ú)(v:Â):fE P (aZ s l n b v):=by unfold aZ;repeat' (first|(with_reducible first|exact gF _|exact MY _|exact ado _ _|refine gp ?_ λ_=> ?_)|split|simp only[]|(rename_i b;cases b<;>simp only[Å,if_false,if_true,þ,Ă]))
def U6(a:Array Á)(t:Á)(x:Array Â):fE P (ş a t x):=by unfold ş;exact jR
def U7(a:Array Á)(t:Á)(x:Array Â):fE P (Š a t x):=by unfold Š;exact jR
def U8(a:Array Á)(t:Á)(x:Array Â):fE P (ő a t x):=by unfold ő;repeat' (first|(with_reducible first|exact U4 _|exact U5 _ _ _|refine gp ?_ λ_=> ?_)|split|exact jR)
def U9(a:Array Á)(t:Á)(x:Array Â):fE P (ĸ a t x):=by unfold ĸ;repeat' (first|(with_reducible first|exact gF _|exact jc _|exact rN _|exact E6 _|exact E8 _ _|exact uK _|exact qH _|exact vF _|exact IA _|exact sQ _|exact IB _ _ _|exact E9 _|exact M1 _|exact U4 _|exact U5 _ _ _|exact adp _ _ _ _ _|refine gp ?_ (λ_=> ?_)|refine mS _ ?_)|split|rfl|(rename_i b;cases b<;>simp only[Å,if_false,if_true,þ,Ă]))
end
section
variable{α:Type}
theorem M3(o:ġ)(k:ı)(x y:Nat):fE P (cS o k x y):=by unfold cS;repeat' (first|(with_reducible first|exact gF _|exact jc _|exact rN _|refine gp ?_ λ_=> ?_)|split|simp only[]|(rename_i b;cases b<;>simp only[Å,if_false,if_true,þ,Ă]))
theorem M4(o:ġ)(k:ı)(x y:Nat):fE P (dE o k x y):=by unfold dE;grind [gF,jc]
theorem adq(s:ı)(b:Nat)(d:ı):fE P (aP s b d):=by unfold aP;grind [gF,rN,gp]
theorem Va(s:ı)(b:Nat)(d:ú):fE P (bJ s b d):=by unfold bJ;grind [gF,rN,gp]
theorem adr(o:ġ)(k:ı)(x y:Nat):fE P (bb o k x y):=by unfold bb;grind [gF,jc,M3,gp]
def mT{p:Prop}(h:p:=by repeat' (first|(with_reducible first|exact gF _|exact jc _|exact rN _|exact M3 _ _ _ _|exact IC _|exact M4 _ _ _ _|exact adq _ _ _|exact adr _ _ _ _|exact vF _|exact p9|exact zO _|exact sN _|exact E9 _|exact IF _|exact qH _|exact Cj _|exact UQ _|refine gp ?_ (λ_=> ?_)|refine mS _ ?_)|split|rfl)):p:=h
def Vb(o:ġ)(k:ı)(x y:Nat):fE P (cw o k x y):=by unfold cw;exact mT
def ads(s:ı)(b:Nat)(d:ı):fE P (bK s b d):=by unfold bK;exact mT
def M5(x y:Nat):fE P (cx x y):=by unfold cx;exact mT
def M6(x y:Nat):fE P (cy x y):=by unfold cy;exact mT
def M7(x y:Nat):fE P (cz x y):=by unfold cz;exact mT
def adt(x y:Nat):fE P (cA x y):=by unfold cA;exact mT
def adu(a b c d:Nat):fE P (aB a b c d):=by unfold aB;repeat' (first|(with_reducible first|exact M5 _ _|exact M6 _ _|exact M7 _ _|refine gp ?_ λ_=> ?_)|split|exact mT)
def adv(s a b c d:Nat):fE P (σ s a b c d):=by unfold σ;repeat' (first|(with_reducible first|exact M5 _ _|exact M6 _ _|exact M7 _ _|refine gp ?_ λ_=> ?_)|split|exact mT)
def adw(a b c d:Nat):fE P (ah a b c d):=by unfold ah;repeat' (first|(with_reducible first|exact gF _|exact Vb _ _ _ _|exact M5 _ _|exact M6 _ _|exact M7 _ _|exact adt _ _|exact adv _ _ _ _ _|refine gp ?_ λ_=> ?_)|split|simp only[])
def Vd(o:ġ)(k:ı)(a b c d:Nat):fE P (dm o k a b c d):=by unfold dm;repeat' (first|(with_reducible first|exact Vb _ _ _ _|exact ads _ _ _|exact adu _ _ _ _|exact adw _ _ _ _|refine gp ?_ λ_=> ?_)|split|exact mT)
def adx(o:ġ)(k:ú)(x y:Int):fE P (ag o k x y):=by unfold ag;exact mT
def Ve(o:ġ)(x y:Int):fE P (eB o x y):=by unfold eB;exact mT
def ady(o:ġ)(k:ú)(x:Int)(a:ú)(y:Int):fE P (aJ o k x a y):=by unfold aJ;exact mT
def M8(o:ġ)(x y:ByteArray):fE P (br o x y):=by unfold br;exact mT
def Vf(a b:Ú):fE P (š a b):=by unfold š;exact mT
def adz(k:ú)(a b:Ú):fE P (Μ k a b):=by unfold Μ;repeat' (first|(with_reducible first|exact Vf _ _|refine gp ?_ λ_=> ?_)|split|exact mT)
def adA(o:ġ)(a b:Ú):fE P (Ν o a b):=by unfold Ν;repeat' (first|(with_reducible first|exact Vf _ _|refine gp ?_ λ_=> ?_)|split|exact mT)
def adB(k:ú)(a:Ú)(n:Int):fE P (Ξ k a n):=by unfold Ξ;repeat' (first|(with_reducible first|exact gF _|exact sN _|exact uK _|exact zO _|refine gp ?_ (λ_=> ?_)|refine mS _ ?_)|split|rfl|simp only[]|(rename_i b;cases b<;>simp only[Å,if_false,if_true,þ,Ă]))
def Vg(a:Array Á)(t:Á)(x y:Â):fE P (ñ a t #[x,y]):=by
 unfold ñ;cases x<;>first|exact jc _|skip
 refine gp (E9 y) λn=> ?_;exact mT
def adC(a:Ú)(b:Bool):fE P (b9 a b):=by unfold b9;repeat' (first|(with_reducible first|exact gF _|refine gp ?_ (λ_=> ?_)|refine Ix _ ?_)|split|(intro _ _ h;cases h;done))
def adD(t:Á)(x y:Â):fE P (ŕ t x y):=by unfold ŕ;repeat' (first|(with_reducible first|exact Vg _ _ _ _|exact adC _ _|refine gp ?_ λ_=> ?_)|split|exact mT)
def adE(t:Á)(x y:Â):fE P (Ţ t x y):=by unfold Ţ;repeat' (first|(with_reducible first|exact Vg _ _ _ _|refine gp ?_ λ_=> ?_)|split|exact mT)
theorem vG{γ:Type}{d:dF}(h:P.underlying t=À d){f:dF->ē γ}(a:fE P (f d)):fE P (ø t>>=f):=by
 have e:∀u,(ø t).run P u=ĥ d u:=by intro u;unfold ø;simp_all
 grind [Iy,Ä,È]
def Vh(t:Á)(x y:Â)(a:sM P t\/((∃e,P.underlying t=À (ð e))/\(mR x\/mR y))):fE P (ó t x y):=by
 unfold ó ā Λ;rcases a with(h|⟨k,h⟩|h)|⟨⟨e,h⟩,k⟩<;>refine vG h ?_
 .repeat' (first|(with_reducible first|exact gF _|exact jc _|exact p9|exact uK _|exact zO _|exact Cj _|refine gp ?_ (λ_=> ?_)|refine mS _ ?_)|contradiction|split)
 .repeat' (first|(with_reducible first|exact gF _|exact jc _|exact p9|exact uK _|exact zO _|exact Cj _|refine gp ?_ (λ_=> ?_)|refine mS _ ?_)|contradiction|split|rfl)
 .repeat' (first|(with_reducible first|exact gF _|exact jc _|exact p9|exact uK _|exact zO _|exact Cj _|refine gp ?_ (λ_=> ?_)|refine mS _ ?_)|contradiction|split)
 .repeat' (first|(with_reducible first|exact gF _|exact jc _|exact p9|exact uK _|exact zO _|exact Cj _|refine gp ?_ (λ_=> ?_)|refine mS _ ?_)|contradiction|exact(Or.elim k id id:False).elim|split)
def adF(t:Á)(a:EX P t)(x y:Â):fE P (į ā t x y):=by unfold ā į;rcases a with(h|⟨k,h⟩|h)|⟨e,h⟩<;>refine vG h ?_<;>(cases x<;>cases y<;>exact gF _)
theorem Vi(c:ġ)(t:Á)(d:c=az\/c=aK->EX P t)(x y:Ö)(a b:Â):fE P (ŷ c t x y a b):=by
 unfold ŷ;by_cases e:c=az\/c=aK
 .have f:=d e;rcases e with rfl|rfl;all_goals
   repeat' (first|(with_reducible first|exact adF _ f _ _|refine gp ?_ λ_=> ?_)|split|exact mT)
 .grind [gF]
end
section
variable{α:Type}
theorem adG(k:ú)(n:Int):fE P (cT k n):=by unfold cT;grind [gF]
theorem Vj(n:Int):fE P (bg n):=by unfold bg;grind [gF]
def adH(a:ġ)(t:Á)(x y:Â)(h:a=az\/a=aK->(sM P t\/((∃e,P.underlying t=À (ð e))/\(mR x\/mR y)))):fE P (Ũ a t x y):=by unfold Ũ;repeat' (first|(with_reducible first|exact Vh _ _ _ (h<|Ç U)|exact Vh _ _ _ (h<|Î U)|exact gF _|exact jc _|exact qH _|exact Cj _|exact UY _ _ _ _|exact UZ _ _ _ _|exact M3 _ _ _ _|exact M4 _ _ _ _|exact Vd _ _ _ _ _ _|exact adx _ _ _ _|exact Ve _ _ _|exact ady _ _ _ _ _|exact M8 _ _ _|exact adz _ _ _|exact adA _ _ _|exact adB _ _ _|exact adD _ _ _|exact adE _ _ _|refine gp ?_ (λ_=> ?_)|refine mS _ ?_)|contradiction|split|rfl)
def adI(s d:Á)(x:Â)(h:(∃k a,P.underlying s=À (Β k)/\P.underlying d=À (Β a))\/(P.underlying s=À ę/\P.underlying d=À ę)):fE P (Œ s d x):=by
 unfold Œ;rcases h with⟨k,a,b,c⟩|⟨b,c⟩<;>refine vG b<|vG c ?_
 .repeat' (first|(with_reducible first|exact adG _ _|exact gF _|exact Va _ _ _|refine mS _ ?_)|contradiction|split|rfl)
 .repeat' (first|(with_reducible first|exact Vj _|exact gF _|exact Va _ _ _|refine mS _ ?_)|contradiction|split|rfl)
def Vk:∀(l:List FieldStep) (t:Á) (x:Option Â),fE P<|bu l t x
 |[],t,x=>by unfold bu;exact gF _
 |s::l,t,x=>by unfold bu;repeat' (first|(with_reducible first|exact Vk l _ _|exact gF _|exact jc _|exact qH _|exact UE _ _ _|refine gp ?_ λ_=> ?_)|split|(intro _ _ h;cases h;done)|rfl|simp only[]|(rename_i b;cases b<;>simp only[Å,if_false,if_true,þ,Ă]))
def Vl:∀(n:Nat) (t:Á) (v:Â) (s:String),fE P<|aQ n t v s
 |0,t,v,s=>by unfold aQ;exact gF _
 |n+1,t,v,s=>by unfold aQ;repeat' (first|(with_reducible first|exact Vl n _ _ _|exact Vk _ _ _|exact gF _|exact jc _|exact uK _|exact qH _|refine gp ?_ λ_=> ?_)|split|(intro _ _ h;cases h;done)|rfl|simp only[]|(rename_i b;cases b<;>simp only[Å,if_false,if_true,þ,Ă]))
def lD{m:ē Â}(h:fE P m):fE P (m>>=λv=>pure<|ï v):=gp h λ_=>gF _
theorem adJ(f:à)(b:∃a,P.funcs[f]?=À a/\(a.name== "runtime.NumGoroutine")=Ã/\a.body.isNone=Ã)(c:Array Â):fE P (ĵ f c):=by let⟨a,d,e,g⟩:=b;refine Iy (m':=pure<|ũ f c) (λu=> ?_)<|gF _;unfold ĵ;rw[Ä,ă];grind [È,Å]
def adK(j:jZ P xX o.op):fE P (ì xX o):=by
 let⟨k,g,m,p,u,guard⟩:=o;simp only at j;unfold ì;simp only[];cases j with
 |zM x=>exact gF _
 |EY x=>exact gF _
 |vE c a b=>exact gp (IC _) λ_=>gF _
 |gI t=>exact lD<|UI _ _ _
 |MH t x=>exact lD<|UJ _ _
 |MI t b=>exact lD<|U1 _ _
 |MJ t n b=>exact lD<|U2 _ _ _
 |gB t a=>exact lD<|UK _ _
 |jb t a x=>exact gp (UL _ _ _) λ_=>gF _
 |EZ x=>
  simp only[];repeat' (first|(with_reducible first|exact Vl _ _ _ _|exact gF _|exact p9|exact vF _|exact IC _|exact UI _ _ _|exact UJ _ _|exact UK _ _|exact UL _ _ _|exact UM _ _|exact UN _ _ _|exact US _ _ _|exact UT _ _ _|exact UW _ _ _ _ _|exact UX _ _ _|exact U0 _ _|exact U1 _ _|exact U2 _ _ _|exact U3 _ _ _|exact U6 _ _ _|exact U7 _ _ _|exact U8 _ _ _|exact U9 _ _ _|refine gp ?_ (λ_=> ?_)|refine mS _ ?_)|split|rfl)
 |Ci g t x y r h=>exact lD<|gp (Vi g t (λe=>(h e).imp id λq=>q.1) x y _ _) λ_=>adH g t _ _ h
 |MK g t x=>exact lD<|U0 _ _
 |ML s d x h=>exact lD<|adI s d _ h
 |MN t l c=>exact lD<|U3 _ _ _
 |kC t x b a c=>exact lD<|UW _ _ _ _ _
 |MO s x n h=>exact lD<|US _ _ _
 |MP t x n=>exact lD<|UN _ _ _
 |MQ t x i=>exact lD<|UT _ _ _
 |MR t x i=>exact lD<|UX _ _ _
 |EM x n=>exact lD<|UM _ _
 |E0 x a=>
  simp only[ù,č,Ē,pure_bind,Ø,â,ä];exact lD<|U6 _ _ _
 |E1 x a=>
  simp only[ù,č,Ē,pure_bind,Ø,â,ä];exact lD<|U7 _ _ _
 |E2 x y a=>
  simp only[ù,č,Ē,pure_bind,Ø,â,ä];exact lD<|U8 _ _ _
 |sL x y b c h=>
  simp only[ù,č,Ē,pure_bind,Ø,â,ä];exact lD<|U9 _ _ _
 |jD f c a b h=>
  simp only[ù,b,İ,č,pure_bind,Ď,ď];exact adJ f h _
end
def fm(f:à)(t:Array Â)(k:List ś):Ę:=(base f).at ⟨t,[]⟩ k
structure St where
 f:à
 t:Array Â
 k:List ś
 C:Bool
 L:List (FuncId×Array Value×List ś)
def St.r(s:St)(cs:List Ę):Ó:=G (if s.C then{fm s.f s.t s.k with mode:=.returning}else fm s.f s.t s.k)<|s.L.map (λx=>fm x.1 x.2.1 x.2.2)++cs
def oJ(t:Array Â)(d:Option Tmp)(v:Â):Array Â:=(Act.put ⟨t,[]⟩ d v).tmps
def rO(t:Array Â)(d:Option Tmp)(v:Â):Act.put ⟨t,[]⟩ d v=⟨oJ t d v,[]⟩:=by cases d<;>rfl
inductive LS(P:Õ):St->Æ->St->Æ->Prop
 |oH {f t L u:_}:LS P ⟨f,t,[],Ã,L⟩ u ⟨f,t,[],É,L⟩ u
 |uL {f t k L u:_}:LS P ⟨f,t,Đ .ret::k,Ã,L⟩ u ⟨f,t,Đ .ret::k,É,L⟩ u
 |rL {f t k L u:_}:LS P ⟨f,t,Đ eN::k,Ã,L⟩ u ⟨f,t,k,Ã,L⟩ u
 |vH {f t k L u l:_}:LS P ⟨f,t,Đ (dY l)::k,Ã,L⟩ u ⟨f,t,k,Ã,L⟩ u
 |xK {f t k L u id:_}:LS P ⟨f,t,dG id::k,Ã,L⟩ u ⟨f,t,k,Ã,L⟩ u
 |uM {f t k L u c:_}:LS P ⟨f,t,dH c::k,Ã,L⟩ u ⟨f,t,k,Ã,L⟩ u
 |qI {f t k L u x y:_}:LS P ⟨f,t,Đ (.seq x y)::k,Ã,L⟩ u ⟨f,t,Đ x::Đ y::k,Ã,L⟩ u
 |sR {f t k L u c x y b:_} (h:å ⟨t,[]⟩ c=Ľ b):LS P ⟨f,t,Đ (bx c x y)::k,Ã,L⟩ u ⟨f,t,Đ (if b then x else y)::k,Ã,L⟩ u
 |qK {f t k L u id c:_}:LS P ⟨f,t,Đ (dZ id c)::k,Ã,L⟩ u ⟨f,t,Đ c::dG id::k,Ã,L⟩ u
 |vI {f t k L u c:_}:LS P ⟨f,t,Đ (eO c)::k,Ã,L⟩ u ⟨f,t,Đ c::dp c::k,Ã,L⟩ u
 |vK {f t k L u c:_}:LS P ⟨f,t,dp c::k,Ã,L⟩ u ⟨f,t,Đ c::dp c::k,Ã,L⟩ u
 |vL {f t k L u c:_}:LS P ⟨f,t,Đ (ea c)::k,Ã,L⟩ u ⟨f,t,Đ c::dH c::k,Ã,L⟩ u
 |vM {f t k L u id k':_} (h:cC id k=À k'):LS P ⟨f,t,Đ (eP id)::k,Ã,L⟩ u ⟨f,t,k',Ã,L⟩ u
 |vN {f t k L u l k':_} (h:cD l k=À k'):LS P ⟨f,t,Đ (eR l)::k,Ã,L⟩ u ⟨f,t,k',Ã,L⟩ u
 |sS {f t k L u id ops:_}:LS P ⟨f,t,Đ (bP id ops Ã)::k,Ã,L⟩ u ⟨f,t,á ops (List.range ops.size)::k,Ã,L⟩ u
 |zP {f t k L u id ops:_}:LS P ⟨f,t,Đ (bP id ops É)::k,Ã,L⟩ u ⟨f,t,á ops (bL (P.follows .mixedOrders) ops<|u.tape u.drawn<|.order f id)::k,Ã,L⟩ {u with drawn:=u.drawn+1}
 |Fa {f t k L u ops:_}:LS P ⟨f,t,á ops []::k,Ã,L⟩ u ⟨f,t,k,Ã,L⟩ u
 |Ck {f t k L u ops i rest o:_} (ho:ops[i]?=À o) (hw:Ħ o (ł ops t)=Ã):LS P ⟨f,t,á ops (i::rest)::k,Ã,L⟩ u ⟨f,oJ t o.dst ľ,á ops rest::k,Ã,L⟩ u
 |nA {f t k L u ops i rest o v u':_} (ho:ops[i]?=À o) (hw:Ħ o (ł ops t)=É) (hr:(ì (å ⟨t,[]⟩) o).run P u=ĥ (ï v) u'):LS P ⟨f,t,á ops (i::rest)::k,Ã,L⟩ u ⟨f,oJ t o.dst v,á ops rest::k,Ã,L⟩ u'
 |zR {f t k L u ops i rest o u':_} (ho:ops[i]?=À o) (hw:Ħ o (ł ops t)=É) (hr:(ì (å ⟨t,[]⟩) o).run P u=ĥ aG u'):LS P ⟨f,t,á ops (i::rest)::k,Ã,L⟩ u ⟨f,oJ t o.dst ľ,á ops rest::k,Ã,L⟩ u'
 |rM {f t k L u ops i rest o g args fn c u':_} (ho:ops[i]?=À o) (hw:Ħ o (ł ops t)=É) (hr:(ì (å ⟨t,[]⟩) o).run P u=ĥ (ũ g args) u') (hf:P.funcs[g]?=À fn) (hb:fn.body=À c):LS P ⟨f,t,á ops (i::rest)::k,Ã,L⟩ u ⟨g,args++ĺ (fn.ntmps-args.size) ľ,[Đ c],Ã,(f,t,á ops (i::rest)::k)::L⟩ u'
 |Cl {f t k L u ops i rest:_} (ho:(ops:Array au)[(i:Nat)]?=ë):LS P ⟨f,t,á ops (i::rest)::k,Ã,L⟩ u ⟨f,t,á ops rest::k,Ã,L⟩ u
 |vO {f t k L u g t' ops i rest k' v fn u':_} (hf:P.funcs[f]?=À fn) (hr:(Ī fn t).run P u=ĥ v u'):LS P ⟨f,t,k,É,(g,t',á ops (i::rest)::k')::L⟩ u ⟨g,oJ t' ((ops[i]?).bind (·.dst)) v,á ops rest::k',Ã,L⟩ u'
inductive mg(GL:Nat->Prop):Ö->Prop
 |Vm (t:Tmp):mg GL (.tmp t)
 |Vo {v:Â} (h:jK v):mg GL (dW v)
 |Vp {g:Nat} (h:GL g):mg GL (eu g)
 |Vq (f:à):mg GL (aN f)
structure mF(P:Õ)(GL:Nat->Prop)(eZ:à->Prop)(o:au):Prop where
 mG:∀{Y:ft} {Sh:Nat->Prop} {t t':Array Â} {u w:Æ},nz P->Y.C=P.globals.size->(∀g,GL g->Y g g)->fQ Y t t'->jf Y Sh u w->(∀j,Sh j->j<w.heap.size)->∀{x:Ο} {u':Æ},(ì (å ⟨t,[]⟩) o).run P u=ĥ x u'->Cg u u'->
  ∃(Y':ft) (x':Ο) (w':Æ) (Vr:Array ý),Y.r Y'/\(∀i j,Y' i j->Y i j\/(u.heap.size<=i/\w.heap.size<=j))/\(ì (å ⟨t',[]⟩) o).runT P w #[]=(ĥ x' w',#[]++Vr)/\oI Y' x x'/\jf Y' Sh u' w'/\ny Y Sh w w'/\(∀e∈Vr,zH Y' Sh e)/\u.heap.size<=u'.heap.size
 r:∀a:bE,fE P<|ì a.eval o
 I:∀(a:bE) (u:Æ) (n:Ο) (u':Æ),(ì a.eval o).run P u=ĥ n u'->(∃v,n=ï v)\/n=aG\/∃f c,n=ũ f c
 C:∀(a:bE) (u:Æ) (f:à) (c:Array Â) (u':Æ),(ì a.eval o).run P u=ĥ (ũ f c) u'->eZ f
inductive kE(P:Õ)(GL:Nat->Prop)(eZ:à->Prop):aj->Prop
 |uL:kE P GL eZ .ret
 |rL:kE P GL eZ eN
 |vH (l:Nat):kE P GL eZ (dY l)
 |vM (id:Nat):kE P GL eZ (eP id)
 |vN (l:Nat):kE P GL eZ (eR l)
 |qI {x y:aj} (hx:kE P GL eZ x) (hy:kE P GL eZ y):kE P GL eZ (.seq x y)
 |sR {c:Ö} {x y:aj} (hc:mg GL c) (hx:kE P GL eZ x) (hy:kE P GL eZ y):kE P GL eZ (bx c x y)
 |qK (id:Nat) {c:aj} (h:kE P GL eZ c):kE P GL eZ (dZ id c)
 |vI {c:aj} (h:kE P GL eZ c):kE P GL eZ (eO c)
 |vL {c:aj} (h:kE P GL eZ c):kE P GL eZ (ea c)
 |sS (id:Nat) {ops:Array au} (draw:Bool) (h:∀o∈ops,mF P GL eZ o):kE P GL eZ (bP id ops draw)
 |oK (Vt:String):kE P GL eZ (dr Vt)
inductive zS(P:Õ)(GL:Nat->Prop)(eZ:à->Prop):ś->Prop
 |qL {c:aj} (h:kE P GL eZ c):zS P GL eZ (Đ c)
 |xK (id:Nat):zS P GL eZ (dG id)
 |uM {c:aj} (h:kE P GL eZ c):zS P GL eZ (dH c)
 |vK {c:aj} (h:kE P GL eZ c):zS P GL eZ (dp c)
 |vP {ops:Array au} (is:List Nat) (h:∀o∈ops,mF P GL eZ o):zS P GL eZ (á ops is)
def rP(P:Õ)(a:Nat->Prop)(b:à->Prop)(k:List ś):Prop:=∀i∈k,zS P a b i
structure lE(P:Õ)(GL:Nat->Prop)(eZ:à->Prop)(s:St):Prop where
 fY:rP P GL eZ s.k
 fv:∀x∈s.L,rP P GL eZ x.2.2
def oL(P:Õ)(d:Nat->Prop)(a:à->Prop):Prop:=∀f,a f->∀b c,P.funcs[f]?=À b->b.body=À c->kE P d a c
section
variable{GL:Nat->Prop}{eZ:à->Prop}
def adL{a:aj}(h:kE P GL eZ wX):bh wX i=À a->kE P GL eZ a:=by
 induction h generalizing a with
 |qI j b d f=>
  intro e;simp only[bh]at e;split at e
  .rename_i r g;cases e;exact .qI (d g) b
  .exact f e
 |vH k=>
  intro e;simp only[bh]at e;split at e<;>cases e;exact .rL
 |_=>intro e;simp only[bh]at e;cases e
def adM{id:Nat}:∀{k a:List ś},rP P GL eZ k->cC id k=À a->rP P GL eZ a:=by
 intro k
 induction k with
 |nil=>intro a _ e;simp[cC]at e
 |cons i k c=>
  intro a h e;have b:=λj d=>h j<|ò _ d;cases i with
  |inBlock f=>
   simp only[cC]at e;split at e
   .cases e;exact b
   .exact c b e
  |_=>simp only[cC]at e;exact c b e
def adN:∀{k c:List ś},rP P GL eZ k->cD i k=À c->rP P GL eZ c:=by
 intro k
 induction k with
 |nil=>intro c _ e;simp[cD]at e
 |cons a k f=>
  intro c h e;have d:=λj b=>h j<|ò _ b;cases a with
  |inScope m=>
   simp only[cD]at e;have g:kE P GL eZ m:=by cases h _ (î ..)with|uM h=>exact h
   split at e
   .rename_i r n;cases e;intro j b;rcases œ.1 b with rfl|b
    .exact .qL (adL g n)
    .rcases œ.1 b with rfl|b
     .exact .uM g
     .exact d j b
   .exact f d e
  |_=>simp only[cD]at e;exact f d e
def nD{i:ś}(h:rP P GL eZ (i::L)):rP P GL eZ L:=λj a=>h j<|ò _ a
def oe{i:ś}(b:zS P GL eZ i)(h:rP P GL eZ L):rP P GL eZ (i::L):=λj a=>by
 rcases œ.1 a with rfl|a
 .exact b
 .exact h j a
def xL{c:aj}{k:List ś}(h:rP P GL eZ (Đ c::k)):kE P GL eZ c:=by cases h _ (î ..)with|qL h=>exact h
def oM{ops:Array au}{k:List ś}(h:rP P GL eZ (á ops jJ::k)):∀o∈ops,mF P GL eZ o:=by cases h _ (î ..)with|vP _ h=>exact h
def LS.ok(i:oL P GL eZ)(k:∀o a u f l w,mF P GL eZ o->(ì (å a) o).run P u=ĥ (ũ f l) w->eZ f){s g:St}(h:LS P s u g w)(ok:lE P GL eZ s):lE P GL eZ g:=by
 let⟨c,d⟩:=ok;cases h with
 |oH=>exact⟨c,d⟩
 |uL=>exact⟨c,d⟩
 |rL=>exact⟨nD c,d⟩
 |vH=>exact⟨nD c,d⟩
 |xK=>exact⟨nD c,d⟩
 |uM=>exact⟨nD c,d⟩
 |qI=>
  cases xL c with
  |qI e j=>exact⟨oe (.qL e)<|oe (.qL j)<|nD c,d⟩
 |@sR _ _ _ _ _ _ _ _ b _=>
  cases xL c with
  |sR _ e j=>exact⟨oe (.qL (by cases b<;>simp[e,j]))<|nD c,d⟩
 |qK=>
  cases xL c with
  |qK _ h=>exact⟨oe (.qL h)<|oe (.xK _)<|nD c,d⟩
 |vI=>
  cases xL c with
  |vI h=>exact⟨oe (.qL h)<|oe (.vK h)<|nD c,d⟩
 |vK=>
  cases c _ (î ..)with
  |vK h=>exact⟨oe (.qL h) c,d⟩
 |vL=>
  cases xL c with
  |vL h=>exact⟨oe (.qL h)<|oe (.uM h)<|nD c,d⟩
 |vM h=>exact⟨adM (nD c) h,d⟩
 |vN h=>exact⟨adN (nD c) h,d⟩
 |sS=>
  cases xL c with
  |sS _ _ h=>exact⟨oe (.vP _ h)<|nD c,d⟩
 |zP=>
  cases xL c with
  |sS _ _ h=>exact⟨oe (.vP _ h)<|nD c,d⟩
 |Fa=>exact⟨nD c,d⟩
 |Ck=>exact⟨oe (.vP _ (oM c))<|nD c,d⟩
 |nA=>exact⟨oe (.vP _ (oM c))<|nD c,d⟩
 |zR=>exact⟨oe (.vP _ (oM c))<|nD c,d⟩
 |rM m _ n p q=>
  refine⟨λj r=> ?_,λx e=> ?_⟩
  .have:=ū.1 r;rw[this];exact .qL (i _ (k _ _ _ _ _ _ (oM c _<|Û m) n) _ _ p q)
  .rcases œ.1 e with rfl|e
   .exact c
   .exact d x e
 |Cl=>exact⟨oe (.vP _ (oM c))<|nD c,d⟩
 |vO=>
  have j:=d _<|î ..;exact⟨oe (.vP _ (oM j))<|nD j,λx e=>d x<|ò _ e⟩
end
structure IG(Y:ft)(x y:FuncId×Array Value×List ś):Prop where
 f:x.1=y.1
 t:fQ Y x.2.1 y.2.1
 k:x.2.2=y.2.2
inductive Cm(Y:ft):List (FuncId×Array Value×List ś)->List (FuncId×Array Value×List ś)->Prop
 |oH:Cm Y [] []
 |vD {x y:FuncId×Array Value×List ś} {L L':List (FuncId×Array Value×List ś)} (h:IG Y x y) (hs:Cm Y L L'):Cm Y (x::L) (y::L')
structure IH(Y:ft)(s s':St):Prop where
 f:s.f=s'.f
 t:fQ Y s.t s'.t
 k:s.k=s'.k
 uL:s.C=s'.C
 L:Cm Y s.L s'.L
def IG.fN{Y a:ft}(h:Y.r a){x y:FuncId×Array Value×List ś}(r:IG Y x y):IG a x y:=⟨r.f,r.t.I h,r.k⟩
def IJ{Y b:ft}(h:Y.r b){L c:List (FuncId×Array Value×List ś)}(r:Cm Y L c):Cm b L c:=by
 induction r with
 |oH=>exact .oH
 |vD a _ d=>exact .vD (a.fN h) d
section
variable{Y:ft}{j:Nat->Prop}{p:à->Prop}
def adO(a:∀g,X g->Y g g)(h:mg X qQ):Uq Y qQ:=by
 cases h with
 |Vm t=>trivial
 |Vo h=>exact h.jy Y
 |Vp h=>exact a _ h
 |Vq f=>trivial
def vR(b:∀g,X g->Y g g)(h:fQ Y d q)(c:mg X qQ):fl Y (å ⟨d,[]⟩ qQ) (å ⟨q,[]⟩ qQ):= acR (a:=⟨d,[]⟩) (a':=⟨q,[]⟩) h<|adO b c
def oJ.r{b:Array Â}(h:fQ Y q b)(d:Option Tmp)(c:fl Y v x):fQ Y (oJ q d v) (oJ b d x):= acT (a:=⟨q,[]⟩) (a':=⟨b,[]⟩) h d c
def Vu(n:Nat):fQ Y (ĺ n ľ) (ĺ n ľ):=⟨U,λi a b=>by simp only[Array.getElem_replicate];exact E3 Y⟩
def adP(B:jZ P xX o.op)(i:(ì xX o).run P u=ĥ (ũ F d) W):∃q l,o.op=Ω {callee:=cg<|aN F,args:=q,argTypes:=l}:=by
 have n:∀{m:ē Â} {x:Ο} {k p:Æ},(m>>=λv=>pure (ï v):ē Ο).run P k=ĥ x p->∃v,x=ï v:=by
  intro m x k p e;rw[Ä]at e;cases j:m.run P k with
  |ok a w=>rw[j]at e;cases e;exact⟨a,U⟩
  |halt z w=>rw[j]at e;cases e
 have C:∀{m:ē Unit} {x:Ο} {k p:Æ},(m>>=λ_=>pure aG:ē Ο).run P k=ĥ x p->x=aG:=by
  intro m x k p e;rw[Ä]at e;cases j:m.run P k with
  |ok a w=>rw[j]at e;cases e;rfl
  |halt z w=>rw[j]at e;cases e
 let⟨E,s,G,H,I,guard⟩:=o;simp only at B|-;unfold ì at i;simp only[]at i;cases B with
 |zM x=>cases i
 |EY x=>cases i
 |vE c a b=>
  rw[Ä]at i;cases j:(bV<|xX c).run P u with
  |ok a w=>rw[j]at i;cases i
  |halt z w=>rw[j]at i;cases i
 |jb t a x=>exact absurd (C i) fp
 |EZ x=>
  simp only[]at i;split at i;all_goals first
   |(cases i;done)
   |exact absurd i<|qF _ _ _ _
   |(
    split at i;all_goals first
     |(cases i;done)
     |exact absurd i<|qF _ _ _ _
     |(
      rw[Ä,ă]at i;simp only[È]at i;rw[Ä]at i;revert i;generalize ã P (aQ _ _ _ _) u=z;intro i;cases z with
      |halt z w=>cases i
      |ok a w=>
       simp only[È]at i;split at i
       .rw[Ä]at i;cases i
       .cases i))
 |E0 x l=>simp only[ù,č,Ē,pure_bind,Ø,â,ä]at i;let⟨v,e⟩:=n i;cases e
 |E1 x l=>simp only[ù,č,Ē,pure_bind,Ø,â,ä]at i;let⟨v,e⟩:=n i;cases e
 |E2 x y l=>simp only[ù,č,Ē,pure_bind,Ø,â,ä]at i;let⟨v,e⟩:=n i;cases e
 |sL x y b c h=>simp only[ù,č,Ē,pure_bind,Ø,â,ä]at i;let⟨v,e⟩:=n i;cases e
 |jD g q l b h=>
  let⟨J,c,r,D⟩:=h;simp only[ù,b,İ,č,pure_bind,Ď,ď,ĵ]at i;rw[Ä,ă]at i;simp only[È,c,r,D,Å,if_false]at i;cases i;exact⟨q,l,U⟩
 |Ci s t x y r h=>
  rw[Ä]at i;cases j:ã P (ŷ s t x y (xX x) (xX y)>>=λ_=>Ũ s t (xX x)<|xX y) u with
  |ok a w=>rw[j]at i;cases i
  |halt z w=>rw[j]at i;cases i
 |_=>let⟨v,e⟩:=n i;cases e
theorem Vv(j:Func)(h:fQ Y d q):fG P fl Y (Ī j d) (Ī j q):=by
 have k:∀(f:ft),Y.r f->∀n,fl f (d.getD n ľ) (q.getD n ľ):=by intro f a n;simp only[ĩ];rcases(h.I a).S n with⟨b,e⟩|⟨v,u,b,e,m⟩;all_goals grind [E3]
 unfold Ī;refine fF (V:=fQ) ?_ ?_
 .rw[Ĕ,Ĕ];have w:∀(l:List ResultVar) (c:ft),Y.r c->fG P (λf (a o:List Â)=>fQ f a.toArray o.toArray) c (l.mapM fun|ResultVar.tmp n=>pure (d.getD n ľ)|ResultVar.cell a e=>do ae e (<-bW (d.getD a ľ))) (l.mapM fun|ResultVar.tmp n=>pure (q.getD n ľ)|ResultVar.cell a e=>do ae e (<-bW (q.getD a ľ))):=by
   intro l
   induction l with
   |nil=>intro c _;simp only[cR];exact .fD (fQ.N _)
   |cons r l x=>
    intro c g;simp only[ν];refine fF (V:=fl) ?_ ?_
    .cases r with
     |tmp n=>exact .fD (k c g n)
     |cell a e=>
      apply fF (Uc<|k c g a);exact λp b s _ i=>T8 i e
    .intro p v u e m;apply fF (x p<|ft.I g e);intro z s i y b;refine .fD ?_;have:=(fQ.M<|m.fN y).sL b;simpa using this
  exact fG.lQ (w _ Y<|ft.M _) λf a o _ e=> .fD e
 .intro c s i _ b;refine .fD ?_;by_cases e:s.size=1
  .have a:i.size=1:=by rwa[<-b.r]
   rw[dif_pos e,dif_pos a];exact b.C 0 _ _
  .have a:¬i.size=1:=by rwa[<-b.r]
   rw[dif_neg e,dif_neg a];exact .nu b.r b.C
end
section
variable{Y:ft}{d:Nat->Prop}{l:à->Prop}
def iV(P:Õ)(Y:ft)(d:Nat->Prop)(main:Bool)(cs:List Ę)(h:St)(u w:Æ)(k:St)(c:Æ):Prop:=
 ∃(a:ft) (f:St) (b:Æ) (g:Array ý),Ù P main (h.r cs) w=aR (f.r cs) b g/\IH a k f/\Y.r a/\(∀i j,a i j->Y i j\/(u.heap.size<=i/\w.heap.size<=j))/\jf a d c b/\ny Y d w b/\(∀e∈g,zH a d e)/\u.heap.size<=c.heap.size
def iV.r{main:Bool}{cs:List Ę}{a b s1':St}(c:jf Y d u w)(h:Ù P main (a.r cs) w=aR (s1'.r cs) w #[])(f:IH Y b s1'):iV P Y d main cs a u w b u:= ⟨Y,s1',w,#[],h,f,ft.M _,λ_ _ h=>Ç h,c,ny.fT _ _ w,λe g=>absurd g fp,ß _⟩
def IK{α:Type}{m:ē α}{x:α}(h:m.runT P w #[]=(ĥ x u,#[]++V)):m.run P w=ĥ x u/\m.events P w #[]=V:=by simp_all
def Fb{main:Bool}{k:List ś}{c:Ę}{cs:List Ę}{es:Array ý}(a:P.funcs[F]?=À s)(b:(Ī s q).runT P w #[]=(ĥ v u,es)): Ù P main (G {fm F q k with mode:=.returning}<|c::cs) w=aR (G (c.finish v) cs) u (seen P F es):=by simp[G,Ù,dt,doReturn,fm,Frame.at,base,a,b,Ź,-ź]
def LS.mG(hz:nz P)(hb:Y.C=P.globals.size)(hG:∀g,X g->Y g g){s s1 s':St}(h:LS P s u s1 W)(hs:IH Y s s')(ok:lE P X l s)(n:jf Y d u w)(hl:∀j,d j->j<w.heap.size)(Q:Cg u W)(main:Bool)(cs:List Ę): iV P Y d main cs s' u w s1 W:=by
 let⟨f',r,k',ret',p⟩:=s';let⟨S,m,T,e3,q⟩:=hs;simp only at S T e3 m q;subst S T e3;cases h with
 |oH=>exact .r (s1':=⟨_,r,_,É,p⟩) n (by simp[St.r,fm,base,G,Ù,Ì,Frame.at]) ⟨U,m,U,U,q⟩
 |uL=>exact .r (s1':=⟨_,r,_,É,p⟩) n (by simp[St.r,fm,base,G,Ù,Ì,Frame.at]) ⟨U,m,U,U,q⟩
 |rL=>exact .r (s1':=⟨_,r,_,Ã,p⟩) n (by simp[St.r,fm,base,G,Ù,Ì,Frame.at]) ⟨U,m,U,U,q⟩
 |vH=>exact .r (s1':=⟨_,r,_,Ã,p⟩) n (by simp[St.r,fm,base,G,Ù,Ì,Frame.at]) ⟨U,m,U,U,q⟩
 |xK=>exact .r (s1':=⟨_,r,_,Ã,p⟩) n (by simp[St.r,fm,base,G,Ù,Ì,Frame.at]) ⟨U,m,U,U,q⟩
 |uM=>exact .r (s1':=⟨_,r,_,Ã,p⟩) n (by simp[St.r,fm,base,G,Ù,Ì,Frame.at]) ⟨U,m,U,U,q⟩
 |qI=>exact .r (s1':=⟨_,r,_,Ã,p⟩) n (by simp[St.r,fm,base,G,Ù,Ì,Frame.at]) ⟨U,m,U,U,q⟩
 |@sR _ _ _ _ _ c _ _ b hc'=>
  have V:=vR hG m (by cases xL ok.fY with|sR Q _ _=>exact Q);rw[hc']at V;have e:å ⟨r,[]⟩ c=Ľ b:=by generalize å ⟨r,[]⟩ c=v' at V;cases V;rfl
  exact .r (s1':=⟨_,r,_,Ã,p⟩) n (cE e) ⟨U,m,U,U,q⟩
 |qK=>exact .r (s1':=⟨_,r,_,Ã,p⟩) n (by simp[St.r,fm,base,G,Ù,Ì,Frame.at]) ⟨U,m,U,U,q⟩
 |vI=>exact .r (s1':=⟨_,r,_,Ã,p⟩) n (by simp[St.r,fm,base,G,Ù,Ì,Frame.at]) ⟨U,m,U,U,q⟩
 |vK=>exact .r (s1':=⟨_,r,_,Ã,p⟩) n (by simp[St.r,fm,base,G,Ù,Ì,Frame.at]) ⟨U,m,U,U,q⟩
 |vL=>exact .r (s1':=⟨_,r,_,Ã,p⟩) n (by simp[St.r,fm,base,G,Ù,Ì,Frame.at]) ⟨U,m,U,U,q⟩
 |vM B=>exact .r (s1':=⟨_,r,_,Ã,p⟩) n (by simp[St.r,fm,base,G,Ù,Ì,Frame.at,B]) ⟨U,m,U,U,q⟩
 |vN B=>exact .r (s1':=⟨_,r,_,Ã,p⟩) n (by simp[St.r,fm,base,G,Ù,Ì,Frame.at,B]) ⟨U,m,U,U,q⟩
 |sS=>exact .r (s1':=⟨_,r,_,Ã,p⟩) n (by simp[St.r,fm,base,G,Ù,Ì,Frame.at]) ⟨U,m,U,U,q⟩
 |@zP f t k L _ id ops=>
  refine⟨Y,⟨f,r,á ops (bL (P.follows .mixedOrders) ops<|w.tape w.drawn<|.order f id)::k,Ã,p⟩,{w with drawn:=w.drawn+1},#[],Ż,⟨U,m,?_,U,q⟩,ft.M _,λ_ _ h=>Ç h,⟨n.S,by simp[n.N],n.C,n.I,n.M,n.r⟩,⟨ß _,U,U,U,λ_ _ _=>rfl,λ_ _ _=>rfl⟩,λe B=>absurd B fp,ß _⟩;simp only[n.S,n.N]
 |Fa=>exact .r (s1':=⟨_,r,_,Ã,p⟩) n (by simp[St.r,fm,base,G,Ù,Ì,Frame.at]) ⟨U,m,U,U,q⟩
 |@Ck f t k L _ ops i rest o ho hw=>
  rw[Iu _ _ m]at hw;have:=υ (P:=P) (main:=main) (b:=base f) (a:=⟨r,[]⟩) (k:=k) (cs:=p.map (λx=>fm x.1 x.2.1 x.2.2)++cs) (w:=w) (rest:=rest) ho hw;rw[rO]at this;exact .r (s1':=⟨f,oJ r o.dst ľ,á ops rest::k,Ã,p⟩) n this ⟨U,oJ.r m _<|E3 Y,U,U,q⟩
 |@nA f t k L _ ops i rest o v _ ho hw hr=>
  rw[Iu _ _ m]at hw;let⟨C,x',E,es,z,F,D,H,I,J,K,M⟩:=(oM ok.fY _<|Û ho).mG hz hb hG m n hl hr Q;let⟨N,O⟩:=IK D;cases H with
  |nA V=>
   have:=bz (main:=main) (b:=base f) (k:=k) (cs:=p.map (λx=>fm x.1 x.2.1 x.2.2)++cs) (rest:=rest) ho hw (by simp[base]) N;rw[rO]at this;rename_i v';exact⟨C,⟨f,oJ r o.dst v',á ops rest::k,Ã,p⟩,E,_,this,⟨U,oJ.r (m.I z) _ V,U,U,IJ z q⟩,z,F,I,J,λe B=>K e (by have:=cF B;rwa[O]at this),M⟩
 |@zR f t k L _ ops i rest o _ ho hw hr=>
  rw[Iu _ _ m]at hw;let⟨C,x',E,es,z,F,D,H,I,J,K,M⟩:=(oM ok.fY _<|Û ho).mG hz hb hG m n hl hr Q;let⟨N,O⟩:=IK D;cases H with
  |rL=>
   have:=cG (main:=main) (b:=base f) (k:=k) (cs:=p.map (λx=>fm x.1 x.2.1 x.2.2)++cs) (rest:=rest) ho hw (by simp[base]) N;rw[rO]at this;exact⟨C,⟨f,oJ r o.dst ľ,á ops rest::k,Ã,p⟩,E,_,this,⟨U,oJ.r (m.I z) _<|E3 C,U,U,IJ z q⟩,z,F,I,J,λe B=>K e (by have:=cF B;rwa[O]at this),M⟩
 |@rM f t k L _ ops i rest o g args fn c _ ho hw hr hf IL=>
  rw[Iu _ _ m]at hw;let⟨C,x',E,es,z,F,D,H,I,J,K,M⟩:=(oM ok.fY _<|Û ho).mG hz hb hG m n hl hr Q;let⟨N,O⟩:=IK D;cases H with
  |rM _ qa=>
   have:=bA (main:=main) (b:=base f) (k:=k) (cs:=p.map (λx=>fm x.1 x.2.1 x.2.2)++cs) (rest:=rest) ho hw (by simp[base]) N;rw[cH _ hf IL]at this;rename_i Vw;refine⟨C,⟨g,Vw++ĺ (fn.ntmps-Vw.size) ľ,[Đ c],Ã,(f,r,á ops (i::rest)::k)::p⟩,E,_,this,⟨U,?_,U,U,.vD ⟨U,m.I z,U⟩ (IJ z q)⟩,z,F,I,J,λe B=>K e (by have:=cF B;rwa[O]at this),M⟩;rw[qa.r];exact qa.sL<|Vu _
 |@Cl f t k L _ ops i rest ho=>exact .r (s1':=⟨f,r,á ops rest::k,Ã,p⟩) n (by simp[St.r,fm,base,G,Ù,Ì,Frame.at,ho,aS]) ⟨U,m,U,U,q⟩
 |@vO f t k L _ g t2' ops i rest k3 v fn _ hf hr=>
  cases q with
  |vD hx q=>
   rename_i y Vx;let⟨g',t2,k2⟩:=y;let⟨S,IN,T⟩:=hx;simp only at S T IN;subst S T;let⟨C,v',E,es,z,F,D,H,I,J,K,M⟩:=(Vv fn m).gi n hl hr #[];let⟨N,O⟩:=IK D;refine⟨C,⟨g,oJ t2 ((ops[i]?).bind (·.dst)) v',á ops rest::k3,Ã,Vx⟩,E,seen P f es,?_,⟨U,oJ.r (IN.I z) _ H,U,U,IJ z q⟩,z,F,I,J,λe B=>K e<|mem_seen B,M⟩;have zU:=ε (base g) ⟨t2,[]⟩ ops i rest k3 v';rw[rO]at zU;have mU:=Fb (main:=main) (k:=k) (c:=fm g t2<|á ops (i::rest)::k3) (cs:=Vx.map (λx=>fm x.1 x.2.1 x.2.2)++cs) hf D;unfold fm at mU;rwa[zU,Ď]at mU
end
inductive pj(P:Õ)(kP:Â->Æ->Prop):St->Æ->Prop
 |jE {f:à} {t:Array Â} {k:List ś} {u:Æ} {fn:Func} {v:Â} (hf:P.funcs[f]?=À fn) (hr:∀tp d,(Ī fn t).run P {u with tape:=tp,drawn:=d}=ĥ v {u with tape:=tp,drawn:=d}) (hp:kP v u):pj P kP ⟨f,t,k,É,[]⟩ u
 |jF {s:St} {u:Æ} (S:ψ->Nat->St) (U:ψ->Nat->Æ) (h:∀tp d,LS P s {u with tape:=tp,drawn:=d} (S tp d)<|U tp d) (hc:∀tp d,Cg u<|U tp d) (ih:∀tp d,pj P kP (S tp d)<|U tp d):pj P kP s u
structure xM(M:Nat->Prop)(w w₁:Æ):Prop where
 r:w.heap.size<=w₁.heap.size
 C:∀j,M j->w₁.heap[j]?=w.heap[j]?
def IP(O b:Nat->Prop)(e:ý):Prop:=
 (∃a:Ú,e.loc=û a/\e.sync=Ã/\(O a.block\/(b a.block/\e.write=Ã)))\/e.loc=ů da\/∃f,e.loc=ů (.extern f)
structure IQ(Rd O O':Nat->Prop)(w w':Æ)(es:Array ý):Prop where
 r:w.heap.size<=w'.heap.size
 M:∀j,O j->O' j
 I:∀j,O' j->O j\/w.heap.size<=j
 fv:∀j,O' j->j<w'.heap.size
 jL:∀j,j<w.heap.size->¬O j->w'.heap[j]?=w.heap[j]?
 N:w'.os=w.os
 S:w'.output=w.output
 Y:w'.tape=w.tape
 C:∀e∈es,IP O' Rd e
inductive uN(P:Õ)(main:Bool)(Rd:Nat->Prop)(Stop:(Nat->Prop)->Ó->Æ->Prop):(Nat->Prop)->Ó->Æ->Prop
 |fB {O:Nat->Prop} {g:Ó} {w:Æ} (h:∀w₁,xM (λj=>O j\/Rd j) w w₁->Stop O g w₁):uN P main Rd Stop O g w
 |jF {O:Nat->Prop} {g:Ó} {w:Æ} (G':Æ->Ó) (W':Æ->Æ) (E':Æ->Array ý) (O':Æ->Nat->Prop) (iI:g.status=Ð)
  (h:∀w₁,xM (λj=>O j\/Rd j) w w₁->Ù P main g w₁=aR (G' w₁) (W' w₁) (E' w₁))
  (hd:∀w₁,xM (λj=>O j\/Rd j) w w₁->IQ Rd O (O' w₁) w₁ (W' w₁) (E' w₁))
  (ih:∀w₁,xM (λj=>O j\/Rd j) w w₁->uN P main Rd Stop (O' w₁) (G' w₁) (W' w₁)):uN P main Rd Stop O g w
instance:Nonempty ft:=⟨⟨λ_ _=>False,0⟩⟩
instance:Nonempty St:=⟨⟨0,#[],[],Ã,[]⟩⟩
instance:Nonempty (Goroutine×World×Array Event×(Nat->Prop)):=⟨(default,default,#[],λ_=>False)⟩
section
variable{Y:ft}{b Rd:Nat->Prop}{l:à->Prop}{main:Bool}{Stop:(Nat->Prop)->Ó->Æ->Prop}
def uN.mk(i:g.status=Ð) (h:∀a,xM (λj=>X j\/Rd j) w a->∃c b d e,Ù P main g a=aR c b d/\IQ Rd X e a b d/\uN P main Rd Stop e c b):uN P main Rd Stop X g w:=by
 let p:=λ(a:Æ) (x:Goroutine×World×Array Event×(Nat->Prop))=>Ù P main g a=aR x.1 x.2.1 x.2.2.1/\IQ Rd X x.2.2.2 a x.2.1 x.2.2.1/\uN P main Rd Stop x.2.2.2 x.1 x.2.1
 have f:∀a,xM (λj=>X j\/Rd j) w a->p a (Classical.epsilon<|p a):=λa r=>Classical.epsilon_spec (let⟨c,b,d,e,h⟩:=h a r;⟨(c,b,d,e),h⟩);exact .jF (λa=>(Classical.epsilon<|p a).1) (λa=>(Classical.epsilon<|p a).2.1) (λa=>(Classical.epsilon<|p a).2.2.1) (λa=>(Classical.epsilon<|p a).2.2.2) i (λa r=>(f a r).1) (λa r=>(f a r).2.1) λa r=>(f a r).2.2
def qM(Y:ft)(b:Nat->Prop)(u w:Æ):Prop:=jf Y b {u with tape:=w.tape,drawn:=w.drawn} w
def fq(Y:ft)(b:Nat->Prop)(j:Nat):Prop:=(∃i,Y i j)/\¬b j
theorem qM.jS{w₁:Æ}(h:qM Y b u w)(p:∀i j,Y i j->b j->Rd j)(r:xM (λj=>fq Y b j\/Rd j) w w₁):qM Y b u w₁:=by
 refine⟨U,U,h.C,h.I,õ h.M r.r,λi j a=> ?_⟩;let⟨c,d,e,f,g,k,l,m,n,o⟩:=h.r i j a;refine⟨c,d,e,f,g,k,?_,m,n,o⟩;rw[r.C j ?_]
 .exact l
 .by_cases s:b j
  .grind
  .exact Ç ⟨⟨i,a⟩,s⟩
def jf.to0(h:jf Y b u w):qM Y b u w:=⟨U,U,h.C,h.I,h.M,h.r⟩
def jf.uO(h:jf Y b u w)(tp:ψ)(d:Nat):qM Y b {u with tape:=tp,drawn:=d} w:=⟨U,U,h.C,h.I,h.M,h.r⟩
theorem adQ{c:ft}(k:∀i j,c i j->b j->Rd j){e:ý}(h:zH c b e):IP (fq c b) Rd e:=by
 rcases h with⟨a,i,d,f,g,l⟩|h|h
 .by_cases s:b a.block
  .refine Ç ⟨a,d,g,Î ⟨k _ _ f s,?_⟩⟩;grind
  .exact Ç ⟨a,d,g,Ç ⟨⟨i,f⟩,s⟩⟩
 .exact Î<|Ç h
 .exact Î<|Î h
def Vy{c:ft}(f:Y.r c)(g:∀i j,c i j->Y i j\/(u.heap.size<=i/\w.heap.size<=j))(k:jf c b W jX)(d:ny Y b w jX)(l:∀e∈V,zH c b e)(m:∀i j,c i j->b j->Rd j): IQ Rd (fq Y b) (fq c b) w jX V where
 r:=d.r;M j h:=⟨let⟨i,a⟩:=h.1;⟨i,f.1 _ _ a⟩,h.2⟩;I j h:=by
  let⟨⟨i,a⟩,s⟩:=h;rcases g i j a with x|x
  .exact Ç ⟨⟨i,x⟩,s⟩
  .exact Î x.2
 fv j h:=by let⟨⟨i,a⟩,_⟩:=h;let⟨_,_,_,_,_,_,x,_⟩:=k.r i j a;exact(Ë.1 x).1
 jL j hj hn:=by
  by_cases x:∃i,Y i j
  .by_cases s:b j
   .exact d.N j s hj
   .exact absurd ⟨x,s⟩ hn
  .exact d.C j hj λi a=>x ⟨i,a⟩
 N:=d.I;S:=d.M;Y:=d.S;C e he:=adQ m<|l e he
def Fc(Y:ft)(b:Nat->Prop)(f:Â->Æ->Prop)(c:Ę)(h:List Ę)(O:Nat->Prop)(g:Ó)(w:Æ):Prop:=
 ∃(a:ft) (d:Æ) (v e:Â),Y.r a/\O=fq a b/\qM a b d w/\fl a v e/\f v d/\g=G (c.finish e) h
def pj.M9(hz:nz P)(hP:oL P X l){s:St}(h:pj P vQ s u):∀{Y Fe:ft} {s':St} {w:Æ},Fe.r Y->Y.C=P.globals.size->(∀g,X g->Y g g)->IH Y s s'->lE P X l s->qM Y b u w->(∀j,b j->j<w.heap.size)->(∀i j,Y i j->b j->Rd j)->∀(c:Ę) (cs:List Ę),uN P main Rd (Fc Fe b vQ c cs) (fq Y b) (s'.r<|c::cs) w:=by
 have hE:∀o a u f F G,mF P X l o->(ì (å a) o).run P u=ĥ (ũ f F) G->l f:=by exact λo a u f F G d H=>d.C a u f F G H
 induction h with
 |@jE f t k u fn v hf H hp=>
  intro Y Fe s' w I J K L M N O n c cs;let⟨f',t',k',ret',L'⟩:=s';let⟨V,W,e2,e3,hL⟩:=L;simp only at V e2 e3 W hL;subst V e2 e3;cases hL;refine .mk rfl λp r=> ?_;have d:=λj s=>Ô (O j s) r.r;let⟨z,v',w',es,B,C,m,D,q,E,Q,h8⟩:=(Vv fn W).gi (N.jS n r) d (H _ _) #[];have y:=λi j T s=>(C i j T).elim (λx=>n i j x s) λx=>absurd (d j s) Z;refine⟨_,w',_,fq z b,Fb hf m,Vy B C q E (λe he=>Q e (by have:=mem_seen he;simpa using this)) y,.fB λzV e=>⟨z,u,v,v',ft.I I B,rfl,qM.jS (q.uO _ _) y e,D,hp,rfl⟩⟩
 |@jF s u S U h hc _ ih=>
  intro Y Fe s' w I J K L M N O n c cs;refine .mk rfl λp r=> ?_;have d:=λj s=>Ô (O j s) r.r;let⟨z,H,e,es,B,C,m,D,q,E,Q,h8⟩:=(h p.tape p.drawn).mG hz J K L M (N.jS n r) d (hc p.tape p.drawn) main<|c::cs;have y:=λi j T s=>(D i j T).elim (λx=>n i j x s) λx=>absurd (d j s) Z;refine⟨_,e,es,fq z b,B,Vy m D q E Q y,ih _ _ (ft.I I m) (m.2.2.trans J) (λg x=>m.1 _ _<|K g x) C ((h _ _).ok hP hE M) q.to0 (λj s=>Ô (d j s) E.r) y c cs⟩
end
def pn:Ę:={(default:Ę)with fn:=0,todo:=[Đ<|dr ""],defers:=[{target:=.nil,args:=#[]}],mode:=.run,kind:=.normal}
def St.I(s:St):Ę:=if s.C then{fm s.f s.t s.k with mode:=.returning}else fm s.f s.t s.k
def fv(L:List (FuncId×Array Value×List ś)):List Ę:=L.map (λx=>fm x.1 x.2.1 x.2.2)++[pn]
def LM(s:St)(u:Æ):bQ:=aT s.I (fv s.L) u
section
variable{GL:Nat->Prop}{eZ:à->Prop}{Q:Â->Æ->Prop}
def Cn{cs:List Ę}{a:Ę}{es:Array ý}(h:Ù P É (G f cs) w=aR (G a qX) u es):dP P (aT f cs w)=ň (aT a qX u):= step_lone_go<|by show(Ù P É (G f cs) w).bare=_;rw[h];rfl
def IT{fr:Ę}{cs:List Ę}{o:Outcome}{es:Array ý}(h:Ù P É (G fr cs) w=eS o u es):dP P (aT fr cs w)=.ended o u:= step_lone_ended<|by show(Ù P É (G fr cs) w).bare=_;rw[h];rfl
def mH(P:Õ)(Q:Â->Æ->Prop)(n:Nat)(m:bQ):Prop:=∃b v a,du P n m=ň (aT b [pn] a)/\b.leaving P a (.returned v)/\Q v a
def mH.r{m a:bQ}(h:mH P Q (n+1) m)(b:dP P m=ň a):mH P Q n a:=by let⟨c,v,d,e,f⟩:=h;exact⟨c,v,d,by simpa only[du,b]using e,f⟩
def mH.M{m:bQ}{o:Outcome}(h:mH P Q (n+1) m)(b:dP P m=.ended o w):False:=by let⟨c,v,d,a,e⟩:=h;simp only[du,b]at a;cases a
theorem Vz{fr:Ę}{cs:List Ę}(h:aT fr cs w=aT f qX u):fr=f/\cs=qX/\w=u:=by simp only[aT,Machine.mk.injEq,Array.mk.injEq,List.cons.injEq,Goroutine.mk.injEq]at h;grind
theorem mH.C{cs:List Ę}(h:mH P Q 0 (aT f cs w)):cs=[pn]/\∃v,f.leaving P w (.returned v)/\Q v w:=by let⟨b,v,c,a,d,e⟩:=h;simp only[du,Stepped.next.injEq]at a;grind [Vz]
def adR(h:mH P Q n (aT pn [] u)):False:=by
 cases n with
 |zero=>let⟨a,_⟩:=h.C;cases a
 |succ n=>exact h.M<|IT (es:=#[])<|by simp[G,Ù,Ì,pn];exact⟨U,U⟩
def adS{a:List ec}(h:mH P Q n (aT (pn.raise a) [] u)):False:=by
 cases n with
 |zero=>let⟨b,_⟩:=h.C;cases b
 |succ n=>exact h.M<|IT (es:=#[])<|by simp[G,Ù,pn,Ŗ,dt,callDeferred];exact⟨U,U⟩
def adT(b:List ec):∀(L:List (FuncId×Array Value×List ś)) (f:à) (t:Array Â) (k:List ś) (u:Æ) (n:Nat),(∃a,P.funcs[f]?=À a)->(∀x∈L,∃a,P.funcs[x.1]?=À a)->¬mH P Q n (aT ((fm f t k).raise b) (fv L) u):=by
 intro L
 induction L with
 |nil=>
  intro f t k u n ⟨a,c⟩ _ h;cases n with
  |zero=>let⟨_,v,y,_⟩:=h.C;exact absurd y.1<|by simp[Ŗ,fm,Frame.at]
  |succ n=>
   have d:dP P (aT ((fm f t k).raise b) (fv []) u)=ň (aT (pn.raise b) [] u):=Cn (es:=#[]) (by simp[G,Ù,fm,base,Frame.at,Ŗ,dt,cU,c,fv]);exact adS<|h.r d
 |cons x L e=>
  intro f t k u n ⟨a,c⟩ d h;cases n with
  |zero=>let⟨_,v,y,_⟩:=h.C;exact absurd y.1<|by simp[Ŗ,fm,Frame.at]
  |succ n=>
   exact e x.1 x.2.1 x.2.2 u n (d x<|î ..) (λy v=>d y<|ò _ v)<|h.r<|Cn (es:=#[])<|by simp[G,Ù,fm,base,Frame.at,Ŗ,dt,cU,c,fv]
structure Ok(P:Õ)(GL:Nat->Prop)(eZ:à->Prop)(s:St):Prop where
 r:lE P GL eZ s
 I:eZ s.f
 C:∀x∈s.L,eZ x.1/\∃ops i rest k,x.2.2=á ops (i::rest)::k
def sT(P:Õ)(eZ:à->Prop):Prop:=∀f,eZ f->∃a c,P.funcs[f]?=À a/\a.body=À c
theorem Na{t:Array Â}:fE P (Ī s t):=by unfold Ī;grind [gp,UP,gF,UH,UD]
def adU(k:jZ P xX o.op){n:Ο}(d:(ì xX o).run P u=ĥ n W):(∃v,n=ï v)\/n=aG\/∃f c,n=ũ f c:=by
 have i:∀{m:ē Â} {x:Ο} {j l:Æ},(m>>=λv=>pure (ï v):ē Ο).run P j=ĥ x l->∃v,x=ï v:=by
  intro m x j l e;rw[Ä]at e;cases g:m.run P j with
  |ok a w=>rw[g]at e;cases e;exact⟨a,U⟩
  |halt z w=>rw[g]at e;cases e
 let⟨p,e,q,s,B,guard⟩:=o;simp only at k;unfold ì at d;simp only[]at d;cases k with
 |zM x=>cases d;exact Ç ⟨_,U⟩
 |EY x=>cases d;exact Ç ⟨_,U⟩
 |vE c a b=>
  rw[Ä]at d;cases g:(bV<|xX c).run P u with
  |ok a w=>rw[g]at d;cases d;exact Ç ⟨_,U⟩
  |halt z w=>rw[g]at d;cases d
 |jb t a x=>
  rw[Ä]at d;cases g:(ĳ t (xX a)<|xX x).run P u with
  |ok a w=>rw[g]at d;cases d;exact Î<|Ç U
  |halt z w=>rw[g]at d;cases d
 |EZ x=>
  simp only[]at d;split at d;all_goals first
   |(cases d;exact Ç ⟨_,U⟩)
   |exact absurd d<|qF _ _ _ _
   |(
    split at d;all_goals first
     |(cases d;exact Ç ⟨_,U⟩)
     |exact absurd d<|qF _ _ _ _
     |(
      rw[Ä,ă]at d;simp only[È]at d;rw[Ä]at d;revert d;generalize ã P (aQ _ _ _ _) u=z;intro d;cases z with
      |halt z w=>cases d
      |ok a w=>
       simp only[È]at d;split at d
       .rw[Ä]at d;cases d
       .cases d;exact Ç ⟨_,U⟩))
 |E0 x a=>simp only[ù,č,Ē,pure_bind,Ø,â,ä]at d;exact Ç<|i d
 |E1 x a=>simp only[ù,č,Ē,pure_bind,Ø,â,ä]at d;exact Ç<|i d
 |E2 x y a=>simp only[ù,č,Ē,pure_bind,Ø,â,ä]at d;exact Ç<|i d
 |sL x y b g h=>simp only[ù,č,Ē,pure_bind,Ø,â,ä]at d;exact Ç<|i d
 |jD g C a b h=>
  let⟨D,r,w,z⟩:=h;simp only[ù,b,İ,č,pure_bind,Ď,ď,ĵ]at d;rw[Ä,ă]at d;simp only[È,r,w,z,Å,if_false]at d;cases d;exact Î<|Î ⟨_,_,U⟩
 |Ci e t x y r h=>exact Ç<|i d
 |_=>exact Ç<|i d
def mH.I(_hP:oL P GL eZ)(hF:sT P eZ){n:Nat}{s:St}{u:Æ}(ok:Ok P GL eZ s)(hu:p8 u)(h:mH P Q n (LM s u)): (n=0/\s.C=É/\s.L=[]/\∃fn v,P.funcs[s.f]?=À fn/\(Ī fn s.t).run P u=ĥ v u/\Q v u)\/∃m s' u',n=m+1/\LS P s u s' u'/\mH P Q m (LM s' u'):=by
 let⟨f,t,k,ret,L⟩:=s;let⟨⟨top,lw⟩,fs,ls⟩:=ok;simp only at top lw fs ls;let⟨fn,c,hfn,hbody⟩:=hF f fs;cases n with
 |zero=>
  let⟨h1,v,h2,h3⟩:=h.C;have hL:L=[]:=by simp only[fv]at h1;simp_all
  subst hL;let⟨m1,_,_,fn',m4,m5⟩:=h2;have adV:ret=É:=by
   cases ret with
   |true=>rfl
   |false=>simp[St.I,fm,Frame.at]at m1
  subst adV;exact Ç ⟨U,U,U,fn',v,m4,m5,h3⟩
 |succ n=>
  have go:∀{s':St} {u':Æ},LS P ⟨f,t,k,ret,L⟩ u s' u'->(∃es,Ù P É ((⟨f,t,k,ret,L⟩:St).r [pn]) u=aR (s'.r [pn]) u' es)->(n+1=0/\ret=É/\L=[]/\∃fn v,P.funcs[f]?=À fn/\(Ī fn t).run P u=ĥ v u/\Q v u)\/∃m s' u',n+1=m+1/\LS P ⟨f,t,k,ret,L⟩ u s' u'/\mH P Q m (LM s' u'):=by intro s' u' hl ⟨es,he⟩;exact Î ⟨n,s',u',U,hl,h.r<|Cn he⟩
  have bad:(∃o w es,Ù P É ((⟨f,t,k,ret,L⟩:St).r [pn]) u=eS o w es)->False:=λ⟨_,_,_,he⟩=>h.M<|IT he;cases ret with
  |true=>
   cases hr:(Ī fn t).runT P u #[]with
   |mk r es=>
    cases r with
    |halt z w=>
     refine absurd ?_ id;cases z<;>exact bad ⟨_,_,_,by simp[St.r,fm,base,G,Ù,dt,Frame.at,hfn,hr,Ź,-ź];exact⟨U,U,U⟩⟩
    |ok v u'=>
     cases L with
     |nil=>
      exact absurd (h.r<|Cn<|Fb hfn hr) adR
     |cons x L=>
      let⟨g,t',k'⟩:=x;let⟨_,ops,i,rest,k2,e⟩:=ls _<|î ..;simp only at e;subst e;refine go (.vO hfn (by rw[<-Ρ P (Ī fn t) u #[],hr])) ⟨seen P f es,?_⟩;have mU:=Fb (main:=É) (k:=k) (c:=fm g t'<|á ops (i::rest)::k2) (cs:=fv L) hfn hr;have zU:=ε (base g) ⟨t',[]⟩ ops i rest k2 v;rw[rO]at zU;unfold fm at mU;rwa[zU]at mU
  |false=>
   cases k with
   |nil=>exact go .oH ⟨_,by simp[St.r,fm,base,G,Ù,Ì,Frame.at];rfl⟩
   |cons it k=>
    have ti:=top it<|î ..;cases ti with
    |xK id=>exact go .xK ⟨_,by simp[St.r,fm,base,G,Ù,Ì,Frame.at];rfl⟩
    |uM _=>exact go .uM ⟨_,by simp[St.r,fm,base,G,Ù,Ì,Frame.at];rfl⟩
    |vK _=>exact go .vK ⟨_,by simp[St.r,fm,base,G,Ù,Ì,Frame.at];rfl⟩
    |qL hc=>
     cases hc with
     |uL=>exact go .uL ⟨_,by simp[St.r,fm,base,G,Ù,Ì,Frame.at];rfl⟩
     |rL=>exact go .rL ⟨_,by simp[St.r,fm,base,G,Ù,Ì,Frame.at];rfl⟩
     |vH l=>exact go .vH ⟨_,by simp[St.r,fm,base,G,Ù,Ì,Frame.at];rfl⟩
     |qI hx hy=>exact go .qI ⟨_,by simp[St.r,fm,base,G,Ù,Ì,Frame.at];rfl⟩
     |qK id _=>exact go .qK ⟨_,by simp[St.r,fm,base,G,Ù,Ì,Frame.at];rfl⟩
     |vI _=>exact go .vI ⟨_,by simp[St.r,fm,base,G,Ù,Ì,Frame.at];rfl⟩
     |vL _=>exact go .vL ⟨_,by simp[St.r,fm,base,G,Ù,Ì,Frame.at];rfl⟩
     |oK Vt=>exact(bad ⟨_,_,_,by simp[St.r,fm,base,G,Ù,Ì,Frame.at];exact⟨U,U,U⟩⟩).elim
     |vM id=>
      cases he:cC id k with
      |none=>exact(bad ⟨_,_,_,by simp[St.r,fm,base,G,Ù,Ì,Frame.at,he];exact⟨U,U,U⟩⟩).elim
      |some k'=>exact go (.vM he) ⟨_,by simp[St.r,fm,base,G,Ù,Ì,Frame.at,he];rfl⟩
     |vN l=>
      cases he:cD l k with
      |none=>exact(bad ⟨_,_,_,by simp[St.r,fm,base,G,Ù,Ì,Frame.at,he];exact⟨U,U,U⟩⟩).elim
      |some k'=>exact go (.vN he) ⟨_,by simp[St.r,fm,base,G,Ù,Ì,Frame.at,he];rfl⟩
     |@sR c x y _ _ _=>
      by_cases hb:∃b,å ⟨t,[]⟩ c=Ľ b
      .let⟨b,hb⟩:=hb;exact go (.sR hb) ⟨_,cE hb⟩
      .refine(bad ⟨.stuck "cond: bool expected" ((fm f t<|Đ (bx c x y)::k).pos P),u,#[],?_⟩).elim;have Up:(fm f t<|Đ (bx c x y)::k).eval c=å ⟨t,[]⟩ c:=Frame.eval_at _ _ _ _;have hx:Ù P É (G (fm f t<|Đ (bx c x y)::k)<|fv L) u=(match(fm f t<|Đ (bx c x y)::k).eval c with
        |Ľ b=>aR (G (fm f t<|Đ (if b then x else y)::k)<|fv L) u
        |_=>eS (.stuck "cond: bool expected" ((fm f t (Đ (bx c x y)::k)).pos P)) u):=by
        simp only[G,Ù,Ì,fm,Frame.at];rfl
       refine hx.trans ?_;rw[Up];generalize å ⟨t,[]⟩ c=v at hb;cases v<;>first|exact absurd ⟨_,U⟩ hb|rfl
     |sS id draw _=>
      cases draw with
      |false=>exact go .sS ⟨_,by simp[St.r,fm,base,G,Ù,Ì,Frame.at];rfl⟩
      |true=>exact go .zP ⟨_,Ż⟩
    |vP is hO=>
     rename_i ops;cases is with
     |nil=>exact go .Fa ⟨_,by simp[St.r,fm,base,G,Ù,Ì,Frame.at];rfl⟩
     |cons i rest=>
      cases ho:ops[i]? with
      |none=>exact go (.Cl ho) ⟨_,by simp[St.r,fm,base,G,Ù,Ì,Frame.at,ho,aS];rfl⟩
      |some o=>
       cases hw:Ħ o (ł ops t)with
       |false=>
        have:=υ (P:=P) (main:=É) (b:=base f) (a:=⟨t,[]⟩) (k:=k) (cs:=fv L) (w:=u) (rest:=rest) ho hw;rw[rO]at this;exact go (.Ck ho hw) ⟨_,this⟩
       |true=>
        have oo:=hO o<|Û ho;have Ff:=stepG_oper (P:=P) (main:=É) (b:=base f) (a:=⟨t,[]⟩) (k:=k) (cs:=fv L) (w:=u) (rest:=rest) ho hw;cases hr:(ì (å ⟨t,[]⟩) o).runT P u #[]with
        |mk r es=>
         have oG:(ì (å ⟨t,[]⟩) o).run P u=r:=by rw[<-Ρ P _ u #[],hr]
         cases r with
         |halt z w=>
          have hz:=((oo.r ⟨t,[]⟩).1 u hu).2 z w oG;cases z with
          |panic v=>
           have hs:dP P (LM ⟨f,t,á ops (i::rest)::k,Ã,L⟩ u)=ň (aT ((fm f t<|á ops (i::rest)::k).raise [{v,recovered:=Ã}]) (fv L) w):= Cn (es:=seen P f es) (Ff.trans<|by simp[bB,hr,G,Frame.at,fm,base,Ź,Ŗ,-ź]);exact absurd (h.r hs) (adT _ L f t _ w n ⟨fn,hfn⟩ λx hx=>let⟨fn',_,h1,_⟩:=hF x.1 (ls x hx).1;⟨fn',h1⟩)
          |stuck s=>exact(bad ⟨_,_,_,Ff.trans<|by simp[bB,hr,Frame.at,base,Ź,-ź];exact⟨U,U,U⟩⟩).elim
          |unsupported un=>
           cases un<;>first|(cases hz;done)|exact(bad ⟨_,_,_,Ff.trans<|by simp[bB,hr,Frame.at,base,Ź,-ź];exact⟨U,U,U⟩⟩).elim
          |_=>cases hz
         |ok nx u'=>
          rcases oo.I ⟨t,[]⟩ u nx u' oG with⟨v,rfl⟩|rfl|⟨g,args,rfl⟩
          .have:=bz (main:=É) (b:=base f) (k:=k) (cs:=fv L) (rest:=rest) ho hw (by simp[base]) oG;rw[rO]at this;exact go (.nA ho hw oG) ⟨_,this⟩
          .have:=cG (main:=É) (b:=base f) (k:=k) (cs:=fv L) (rest:=rest) ho hw (by simp[base]) oG;rw[rO]at this;exact go (.zR ho hw oG) ⟨_,this⟩
          .let⟨fn',c',h1,h2⟩:=hF g<|oo.C ⟨t,[]⟩ u g args u' oG;have:=bA (main:=É) (b:=base f) (k:=k) (cs:=fv L) (rest:=rest) ho hw (by simp[base]) oG;rw[cH _ h1 h2]at this;exact go (.rM ho hw oG h1 h2) ⟨_,this⟩
end
def j0(u:Æ):Prop:=∀(i:Nat) (o:Obj),u.heap[i]?=À o->¬xI o
def j0.p8(h:j0 u):p8 u:=λi _ _ a=>h i _ a trivial
def vS(a:Â->Æ->Prop):Prop:=∀v u T D,a v u->a v ((World.tp u T D))
section
variable{GL:Nat->Prop}{eZ:à->Prop}{kP:Â->Æ->Prop}
def LS.M9{s s':St}(h:LS P s u s' W)(cs:List Ę):∃j,Ù P É (s.r cs) u=aR (s'.r cs) W j:=by
 cases h with
 |@sR f t k L _ c x y b hc=>exact⟨_,cE hc⟩
 |vM e=>exact⟨_,by simp[St.r,fm,base,G,Ù,Ì,Frame.at,e];rfl⟩
 |vN e=>exact⟨_,by simp[St.r,fm,base,G,Ù,Ì,Frame.at,e];rfl⟩
 |@zP f t k L _ id ops=>exact⟨_,Ż⟩
 |@Cl f t k L _ ops i rest ho=>exact⟨_,by simp[St.r,fm,base,G,Ù,Ì,Frame.at,ho,aS];rfl⟩
 |@Ck f t k L _ ops i rest o ho hw=>
  have:=υ (P:=P) (main:=É) (b:=base f) (a:=⟨t,[]⟩) (k:=k) (cs:=L.map (λx=>fm x.1 x.2.1 x.2.2)++cs) (w:=u) (rest:=rest) ho hw;rw[rO]at this;exact⟨_,this⟩
 |@nA f t k L _ ops i rest o v _ ho hw hr=>
  have:=bz (main:=É) (b:=base f) (k:=k) (cs:=L.map (λx=>fm x.1 x.2.1 x.2.2)++cs) (rest:=rest) ho hw (by simp[base]) hr;rw[rO]at this;exact⟨_,this⟩
 |@zR f t k L _ ops i rest o _ ho hw hr=>
  have:=cG (main:=É) (b:=base f) (k:=k) (cs:=L.map (λx=>fm x.1 x.2.1 x.2.2)++cs) (rest:=rest) ho hw (by simp[base]) hr;rw[rO]at this;exact⟨_,this⟩
 |@rM f t k L _ ops i rest o g args fn c _ ho hw hr hf hb=>
  have:=bA (main:=É) (b:=base f) (k:=k) (cs:=L.map (λx=>fm x.1 x.2.1 x.2.2)++cs) (rest:=rest) ho hw (by simp[base]) hr;rw[cH _ hf hb]at this;exact⟨_,this⟩
 |@vO f t k L _ g t' ops i rest k' v fn _ hf hr=>
  cases l:(Ī fn t).runT P u #[]with
  |mk r j=>
   have e:r=ĥ v W:=by rw[<-hr,<-Ρ P (Ī fn t) u #[],l]
   subst e;have d:=Fb (main:=É) (k:=k) (c:=fm g t'<|á ops (i::rest)::k') (cs:=L.map (λx=>fm x.1 x.2.1 x.2.2)++cs) hf l;have x:=ε (base g) ⟨t',[]⟩ ops i rest k' v;rw[rO]at x;unfold fm at d;rw[x]at d;exact⟨_,d⟩
 |_=>exact⟨_,by simp[St.r,fm,base,G,Ù,Ì,Frame.at];rfl⟩
def LS.uP{s a:St}(h:LS P s u a w):dP P (LM s u)=ň (LM a w):= let⟨_,b⟩:=h.M9 [pn];Cn b
def LS.Nb(j:oL P GL eZ){s g:St}(h:LS P s u g w)(ok:Ok P GL eZ s):Ok P GL eZ g:=by
 have i:∀o a u f e w,mF P GL eZ o->(ì (å a) o).run P u=ĥ (ũ f e) w->eZ f:=by exact λo a u f e w c d=>c.C a u f e w d
 refine⟨h.ok j i ok.r,?_,?_⟩
 .cases h with
  |rM c _ d _ _=>exact i _ _ _ _ _ _ (oM ok.r.fY _<|Û c) d
  |vO=>exact(ok.C _<|î ..).1
  |_=>exact ok.I
 .cases h with
  |rM c _ d _ _=>
   intro x b;rcases œ.1 b with rfl|b
   .exact⟨ok.I,_,_,_,_,U⟩
   .exact ok.C x b
  |vO=>exact λx b=>ok.C x<|ò _ b
  |_=>exact ok.C
def LS.kd{s c:St}{u b:Æ}(h:LS P s u c b)(ok:lE P GL eZ s)(a:p8 u):Kd u b:=by
 cases h with
 |nA k _ i=>exact(((oM ok.fY _<|Û k).r _).1 u a).1 _ _ i
 |zR k _ i=>exact(((oM ok.fY _<|Û k).r _).1 u a).1 _ _ i
 |rM k _ i _ _=>exact(((oM ok.fY _<|Û k).r _).1 u a).1 _ _ i
 |vO _ i=>exact(Na.1 u a).1 _ _ i
 |zP=>exact⟨id,λi o h k=>⟨o,h,k⟩⟩
 |_=>exact Kd.fT u
def LS.adW{s o:St}{u p:Æ}{T:ψ}{D:Nat}(h:LS P s ((World.tp u T D)) o p)(ok:lE P GL eZ s):∃n v,p=(World.tp v T<|D+n)/\∀a b,uJ T D a b n->LS P s ((World.tp u a b)) o ((World.tp v a<|b+n)):=by
 cases h with
 |nA c e g=>
  obtain⟨n,v,i⟩:=((oM ok.fY _<|Û c).r ⟨_,[]⟩).2 u T D;obtain⟨j,l⟩:=i _ _ g;exact⟨n,v,j,λa b d=> .nA c e (l a b d)⟩
 |zR c e g=>
  obtain⟨n,v,i⟩:=((oM ok.fY _<|Û c).r ⟨_,[]⟩).2 u T D;obtain⟨j,l⟩:=i _ _ g;exact⟨n,v,j,λa b d=> .zR c e (l a b d)⟩
 |rM c e g m q=>
  obtain⟨n,v,i⟩:=((oM ok.fY _<|Û c).r ⟨_,[]⟩).2 u T D;obtain⟨j,l⟩:=i _ _ g;exact⟨n,v,j,λa b d=> .rM c e (l a b d) m q⟩
 |vO m g=>
  obtain⟨n,v,i⟩:=(Na).2 u T D;obtain⟨j,l⟩:=i _ _ g;exact⟨n,v,j,λa b d=> .vO m (l a b d)⟩
 |@zP f t k L _ id ops=>
  refine⟨1,u,U,λa b d=> ?_⟩;have g:=LS.zP (P:=P) (f:=f) (t:=t) (k:=k) (L:=L) (u:=(World.tp u a b)) (id:=id) (ops:=ops);have i:((World.tp u a b)).tape ((World.tp u a b)).drawn=((World.tp u T D)).tape ((World.tp u T D)).drawn:=d.lC;rwa[i]at g
 |oH=>exact⟨0,u,U,λ_ _ _=> .oH⟩
 |uL=>exact⟨0,u,U,λ_ _ _=> .uL⟩
 |rL=>exact⟨0,u,U,λ_ _ _=> .rL⟩
 |vH=>exact⟨0,u,U,λ_ _ _=> .vH⟩
 |xK=>exact⟨0,u,U,λ_ _ _=> .xK⟩
 |uM=>exact⟨0,u,U,λ_ _ _=> .uM⟩
 |qI=>exact⟨0,u,U,λ_ _ _=> .qI⟩
 |sR h=>exact⟨0,u,U,λ_ _ _=> .sR h⟩
 |qK=>exact⟨0,u,U,λ_ _ _=> .qK⟩
 |vI=>exact⟨0,u,U,λ_ _ _=> .vI⟩
 |vK=>exact⟨0,u,U,λ_ _ _=> .vK⟩
 |vL=>exact⟨0,u,U,λ_ _ _=> .vL⟩
 |vM h=>exact⟨0,u,U,λ_ _ _=> .vM h⟩
 |vN h=>exact⟨0,u,U,λ_ _ _=> .vN h⟩
 |sS=>exact⟨0,u,U,λ_ _ _=> .sS⟩
 |Fa=>exact⟨0,u,U,λ_ _ _=> .Fa⟩
 |Ck c e=>exact⟨0,u,U,λ_ _ _=> .Ck c e⟩
 |Cl c=>exact⟨0,u,U,λ_ _ _=> .Cl c⟩
def mH.gR(c:oL P GL eZ)(hF:sT P eZ)(g:∀v u,vQ v u->j0 u):∀(n:Nat) {s:St} {u:Æ},Ok P GL eZ s->p8 u->mH P vQ n (LM s u)->j0 u:=by
 intro n
 induction n with
 |zero=>
  intro s u a b h;rcases h.I c hF a b with⟨_,_,_,_,v,_,_,d⟩|⟨m,_,_,e,_⟩
  .exact g v u d
  .cases e
 |succ n j=>
  intro s u a b h;rcases h.I c hF a b with⟨e,_⟩|⟨m,w,x,e,d,k⟩
  .cases e
  .cases e;have f:=d.kd a.r b;intro i o l p;let⟨q,r,t⟩:=f.C i o l p;exact j (d.Nb c a) (f.r b) k i q r t
def pj.adX(b:vS kP){s:St}(h:pj P kP s u)(T:ψ)(D:Nat):pj P kP s ((World.tp u T D)):=by
 cases h with
 |jE a S c=>exact .jE a S (b _ _ T D c)
 |jF S a h c d=>exact .jF S a h c d
def VA(m:vS kP)(o:∀v u,vQ v u->kP v u){s:St}(c:s.C=É)(b:s.L=[])(e:∃g v,P.funcs[s.f]?=À g/\(Ī g s.t).run P ((World.tp u xQ i))=ĥ v ((World.tp u xQ i))/\vQ v ((World.tp u xQ i))):pj P kP s u:=by
 obtain⟨f,t,k,z,L⟩:=s;simp only at c b;subst c b;obtain⟨g,v,p,q,r⟩:=e;refine .jE (v:=v) p (λh d=> ?_) ?_
 .obtain⟨n,w,c⟩:=(Na).2 u xQ i;obtain⟨b,e⟩:=c _ _ q;have x:n=0:=by
   have:((World.tp u xQ i)).drawn=((World.tp w xQ<|i+n)).drawn:=by rw[<-b]
   simp only[World.tp]at this;omega
  subst x;have y:(World.tp w h d)=(World.tp u h d):=by
   have a:((World.tp u xQ i)).heap=((World.tp w xQ<|i+0)).heap:=by rw[<-b]
   have j:((World.tp u xQ i)).os=((World.tp w xQ<|i+0)).os:=by rw[<-b]
   have l:((World.tp u xQ i)).output=((World.tp w xQ<|i+0)).output:=by rw[<-b]
   simp only[World.tp]at a j l|-;rw[a,j,l]
  have:=e h d (λa j=>by omega);rwa[show d+0=d from rfl,y]at this
 .have:=m v _ u.tape u.drawn<|o v _ r;exact this
structure IU where
 s:St
 u:Æ
 D:Nat
 T:ψ
 n:Nat
structure IV(P:Õ)(GL:Nat->Prop)(eZ:à->Prop)(kP:Â->Æ->Prop)(s0:St)(u0:Æ)(x:IU):Prop where
 ok:Ok P GL eZ x.s
 adY:p8 x.u
 adZ:¬pj P kP x.s x.u
 oh:∀T',(∀i,i<x.D->T' i=x.T i)->du P x.n (LM s0<|(World.tp u0 T' 0))=ň (LM x.s<|(World.tp x.u T' x.D))
def VB{m:bQ}{s:St}{N:Nat}(a:du P n m=ň (LM s u))(e:mH P vQ N m):∃k,N=n+k/\mH P vQ k (LM s u):=by
 by_cases f:n<=N
 .obtain⟨k,rfl⟩:=Ε f;refine⟨k,U,?_⟩;let⟨g,v,c,b,d⟩:=e;rw[dI,a]at b;exact⟨g,v,c,b,d⟩
 .obtain⟨k,rfl⟩:=Nat.exists_eq_add_of_lt<|Nat.lt_of_not_le f;let⟨g,v,c,b,d,_⟩:=e;rw[show N+k+1=N+(k+1) by omega,dI,b]at a;simp only[du,step_leave_returned d]at a;cases k with
  |zero=>
   simp only[du,Stepped.next.injEq]at a;have:=(Vz a).2.1;simp[fv]at this
  |succ k=>
   simp only[du,(IT (P:=P) (fr:=pn) (cs:=[]) (w:=c) (es:=#[])<|by simp[G,Ù,Ì,pn];exact⟨U,U⟩)]at a;cases a
theorem Nc(f:oL P GL eZ)(hF:sT P eZ)(t:vS kP)(C:∀v u,vQ v u->j0 u)(E:∀v u,vQ v u->kP v u){j:St}(F:∀T,∃n,mH P vQ n<|LM j<|(World.tp w T 0)){x:IU}(G:IV P GL eZ kP j w x): ∃y:IU,IV P GL eZ kP j w y/\y.n=x.n+1/\x.D<=y.D/\∀i,i<x.D->y.T i=x.T i:=by
 let⟨s,u,D,T,n⟩:=x;let⟨ok,pend,l,q⟩:=G;simp only at ok pend l q;have H:∃y d,∀a g,LS P s ((World.tp u y d)) a g->Cg u g->¬pj P kP a g:=by
  refine Classical.byContradiction λo=>l ?_;have c:∀y d,∃p:St×World,LS P s ((World.tp u y d)) p.1 p.2/\Cg u p.2/\pj P kP p.1 p.2:=by simp_all
  exact .jF (λy d=>(Classical.choose<|c y d).1) (λy d=>(Classical.choose<|c y d).2) (λy d=>(Classical.choose_spec<|c y d).1) (λy d=>(Classical.choose_spec<|c y d).2.1) λy d=>(Classical.choose_spec<|c y d).2.2
 let⟨y,d,I⟩:=H;let p:ψ:=λi=>if i<D then T i else y (d+(i-D))
 have r:∀i,i<D->p i=T i:=λi h=>if_pos h;have J:=λi=>by show(if D+i<D then T (D+i)else y (d+(D+i-D)))=y (d+i);grind
 let⟨N,K⟩:=F p;let⟨k,_,L⟩:=VB (q p r) K;have b:p8 ((World.tp u p D)):=pend;rcases L.I f hF ok b with⟨_,M,O,S⟩|⟨m,a,g,_,e,V⟩
 .exact absurd (VA t E M O S) l
 .obtain⟨c,v,rfl,z⟩:=e.adW ok.r;have W:¬pj P kP a v:=λX=>I a _ (z y d λi _=>(J i).symm) (λi o _ B=>(mH.gR f hF C m (e.Nb f ok) ((e.kd ok.r b).r b) V) i o B)<|X.adX t y<|d+c;refine⟨⟨a,v,D+c,p,n+1⟩,⟨e.Nb f ok,(e.kd ok.r b).r b,W,λo B=> ?_⟩,U,fp,r⟩;rw[dI,(q o λi h=>(B i<|by simp only;omega).trans<|r i h)];simp only[du,(z o D λi h=>B (D+i)<|by simp only;omega).uP]
theorem ad1(b:oL P GL eZ)(hF:sT P eZ)(c:vS kP){Q:Â->Æ->Prop}(g:∀v u,Q v u->j0 u)(d:∀v u,Q v u->kP v u){a:St}(ok:Ok P GL eZ a)(q:p8 w)(f:∀T,∃n,mH P Q n<|LM a<|(World.tp w T 0)):pj P kP a w:=by
 refine Classical.byContradiction λr=> ?_;have s:IV P GL eZ kP a w ⟨a,w,0,λ_ _=>0,0⟩:=⟨ok,q,r,λI _=>rfl⟩;let F:Nat->{x:IU//IV P GL eZ kP a w x}:=λk=>Nat.rec ⟨_,s⟩ (λ_ x=>⟨Classical.choose<|Nc b hF c g d f x.2,(Classical.choose_spec<|Nc b hF c g d f x.2).1⟩) k
 have l:=λk=>(Classical.choose_spec<|Nc b hF c g d f (F k).2).2;have t:∀k,(F k).1.n=k:=by
  intro k
  induction k with
  |zero=>rfl
  |succ k e=>rw[(l k).1,e]
 have J:∀j k,(F j).1.D<=(F<|j+k).1.D/\∀i,i<(F j).1.D->(F<|j+k).1.T i=(F j).1.T i:=by
  intro j k
  induction k with
  |zero=>exact⟨ß _,λ_ _=>rfl⟩
  |succ k e=>
   have:=(l<|j+k).2;exact⟨õ e.1 this.1,λi m=>(this.2 i<|Ô m e.1).trans<|e.2 i m⟩
 have K:∀j k i,i<(F j).1.D->i<(F k).1.D->(F j).1.T i=(F k).1.T i:=by intro j k i e o;rcases Nat.le_total j k with h|h;all_goals grind [Ε]
 let T:ψ:=λi=>open Classical in if h:∃k,i<(F k).1.D then(F<|Classical.choose h).1.T i else λ_=>0
 have y:∀k i,i<(F k).1.D->T i=(F k).1.T i:=by intro k i m;have e:∃k,i<(F k).1.D:=⟨k,m⟩;show(open Classical in if h:∃k,i<(F k).1.D then(F<|Classical.choose h).1.T i else λ_=>0)=_;rw[dif_pos e];grind
 let⟨N,z⟩:=f T;have p:=(F N).2.oh T<|y N;rw[t N]at p;let⟨k,e,o⟩:=VB p z;have B:k=0:=Z
 subst B;have C:p8 ((World.tp (F N).1.u T<|(F N).1.D)):=(F N).2.adY;rcases o.I b hF (F N).2.ok C with⟨_,E,G,H⟩|⟨m,_,_,e,_⟩
 .exact(F N).2.adZ<|VA c d E G H
 .cases e
end
section
variable{m:à->Prop}
def Nd(f:à)(b:Func)(c:aj)(a:Array Â):St:=⟨f,a++ĺ (b.ntmps-a.size) ľ,[Đ c],Ã,[]⟩
def VC(a:Array Â)(b:P.funcs[F]?=À s)(d:s.body=À wX):dJ P F a .normal=(Nd F s wX a).I:=cH a b d
def ad2(b:oL P X m)(hF:sT P m)(l:vS vQ)(g:m F)(j:P.funcs[F]?=À s)(k:s.body=À wX)(o:j0 u) (p:∀T,Calls P F d ((World.tp u T 0)) fun|.returned v,u'=>vQ v u'/\j0 u'|_,_=>False):pj P vQ (Nd F s wX d) u:=by
 refine ad1 b hF l (Q:=λv u=>vQ v u/\j0 u) (λv u h=>h.2) (λv u h=>h.1) ⟨⟨λi q=> ?_,λx h=>by cases h⟩,g,λx h=>by cases h⟩ o.p8 λT=> ?_
 .rw[ū.1 q];exact .qL (b F g s wX j k)
 .let⟨e,r,t,a,w,_,y⟩:=p T [pn];cases e with
  |returned v=>
   let⟨n,z⟩:=w;refine⟨n,t,v,r,?_,y,a⟩;rw[<-z,VC d j k];rfl
  |panicked n=>exact a.elim
  |outgrown=>exact a.elim
def ad3(r:nz P)(b:oL P X m)(hF:sT P m)(t:vS vQ)(n:m F)(e:P.funcs[F]?=À s)(h:s.body=À wX)(y:j0 u) (z:∀T,Calls P F d ((World.tp u T 0)) fun|.returned v,u'=>vQ v u'/\j0 u'|_,_=>False) {Y:ft} {a o:Nat->Prop} (B:Y.C=P.globals.size) (C:∀g,X g->Y g g) (p:fQ Y d q) (D:qM Y a u w) (E:∀j,a j->j<w.heap.size) (H:∀i j,Y i j->a j->o j) (main:Bool) (k:Ę) (l:List Ę): uN P main o (Fc Y a vQ k l) (fq Y a) (G (dJ P F q .normal)<|k::l) w:=by
 have:=(ad2 b hF t n e h y z).M9 (main:=main) r b (Y:=Y) (Fe:=Y) (s':=Nd F s wX q) (ft.M _) B C ⟨U,?_,U,U,.oH⟩ ⟨λi I=> ?_,λx J=>by cases J⟩ D E H k l
 .rw[VC q e h];exact this
 .show fQ Y (d++_) (q++_);rw[p.r];exact p.sL<|Vu _
 .rw[ū.1 I];exact .qL (b F n s wX e h)
def xN:Â->Bool
 |Ľ _|Ć _ _|ħ _|Þ ë|bR ë _ _|bS|aV|ei ë|.map ë=>É
 |_=>Ã
def Nf:Â->Bool
 |.agg a=>a.all xN
 |ſ a=>a.all xN
 |v=>xN v
def Fg(h:xN v=É):jK v:=by
 cases v with
 |bool b=>exact .mf b
 |int k n=>exact .iF k n
 |string s=>exact .kI s
 |pointer p=>cases p with
  |none=>exact .lA
  |some a=>cases h
 |slice p n c=>cases p with
  |none=>exact .nS n c
  |some a=>cases h
 |nilFunc=>exact .uD
 |nilIface=>exact .uE
 |chan p=>cases p with
  |none=>exact .uF
  |some a=>cases h
 |map p=>cases p with
  |none=>exact .uG
  |some a=>cases h
 |_=>cases h
def ad4(h:Nf v=É):jK v:=by
 cases v with
 |agg b=>exact .n9 λi a=>Fg<|(Ń.1 h) i a
 |tuple b=>exact .nu λi a=>Fg<|(Ń.1 h) i a
 |_=>exact Fg h
def vT(X:Nat->Bool):Ö->Bool
 |.tmp _=>É
 |dW v=>Nf v
 |eu g=>X g
 |aN _=>É
theorem IW{g:Nat->Bool}(h:vT g qQ=É):mg (λj=>g j=É) qQ:=by
 cases qQ with
 |tmp t=>exact .Vm t
 |const v=>exact .Vo (ad4 h)
 |global j=>exact .Vp h
 |func f=>exact .Vq f
def Ng(P:Õ)(t:Á):Bool:=match P.underlying t with
 |some .bool=>É
 |some (Β _)=>É
 |some ę=>É
 |_=>Ã
def ad5(h:Ng P t=É):sM P t:=by
 unfold Ng at h;split at h
 .rename_i e;exact Ç e
 .rename_i k e;exact Î<|Ç ⟨k,e⟩
 .rename_i e;exact Î<|Î e
 .cases h
def IX:Ö->Bool
 |dW (Þ ë)=>É
 |_=>Ã
def VD(h:IX qQ=É):mR (y.eval qQ):=by
 unfold IX at h;split at h
 .trivial
 .cases h
def Nh(P:Õ)(t:Á)(x y:Ö):Bool:=Ng P t||((match P.underlying t with|some (ð _)=>É|_=>Ã)&&(IX x||IX y))
theorem ad6{a:bE}{y:Ö}(h:Nh P t qQ y=É):sM P t\/((∃e,P.underlying t=À (ð e))/\(mR (a.eval qQ)\/mR (a.eval y))):=by
 unfold Nh at h;rcases Ŝ.1 h with h|h
 .exact Ç<|ad5 h
 .let⟨b,e⟩:=Ü.1 h;refine Î ⟨?_,(Ŝ.1 e).imp VD VD⟩;grind
def Ni(P:Õ)(s d:Á):Bool:=match P.underlying s,P.underlying d with
 |some (Β _),À (Β _)=>É
 |some ę,À ę=>É
 |_,_=>Ã
theorem ad7(h:Ni P e t=É):(∃k a,P.underlying e=À (Β k)/\P.underlying t=À (Β a))\/(P.underlying e=À ę/\P.underlying t=À ę):=by unfold Ni at h;grind
def Nj(P:Õ)(s:Á)(n:Nat):Bool:=match P.underlying s with
 |some (df fields)=>match fields[n]? with
  |some f=>match P.info? f.type with
   |some i=>i.size !=0
   |none=>Ã
  |none=>Ã
 |_=>Ã
def ad8(h:Nj P e n=É):∀a f i,P.underlying e=À (df a)->a[n]?=À f->P.info? f.type=À i->i.size≠0:=by intro a f i b c d;simp only[Nj,b,c,d]at h;simpa using h
def Nk(P:Õ)(m:à->Bool)(f:à):Bool:=m f&&(match P.funcs[f]? with
 |some a=> !(a.name== "runtime.NumGoroutine")&&!a.body.isNone
 |none=>Ã)
theorem VE{g:à->Bool}(h:Nk P g F=É):g F=É/\∃a,P.funcs[F]?=À a/\(a.name== "runtime.NumGoroutine")=Ã/\a.body.isNone=Ã:=by let⟨b,c⟩:=Ü.1 h;grind
def VF(P:Õ):List Á->Bool
 |[_,t1]=>(match P.underlying t1 with|some (dh _)=>É|some ę=>É|_=>Ã)
 |_=>Ã
def VG(P:Õ)(m:à->Bool)(b:Callee)(a:List Ö)(c:List Á):Bool:=match b with
 |ĝ .len=>a.length==1
 |ĝ .cap=>a.length==1
 |ĝ .copy=>a.length==2
 |ĝ .append=>a.length==2&&VF P c
 |cg (aN f)=>Nk P m f
 |_=>Ã
def Co(P:Õ)(m:à->Bool):Op->Bool
 |.move _|.assign _|.pick _ _ _|.alloc _|.box _ _|.build _ _|dC _ _ _|.load _ _|.store _ _ _|eA _|.unOp _ _ _|dT _ _ _|.slice _ _ _ _ _|.field _ _ _|dV _ _ _|.index _ _ _|.extract _ _=>É
 |dS c t x y _=>if c==az||c==aK then Nh P t x y else É
 |aL s d _=>Ni P s d
 |dU s _ n=>Nj P s n
 |Ω c=>VG P m c.callee c.args.toList c.argTypes.toList
 |_=>Ã
def IY{a:Array Ö}(h:(a.toList.length==1)=É):∃x,a=#[x]:=by
 let⟨l⟩:=a;match l,h with
 |[x],_=>exact⟨x,U⟩
def Nl{a:Array Ö}(h:(a.toList.length==2)=É):∃x y,a=#[x,y]:=by
 let⟨l⟩:=a;match l,h with
 |[x,y],_=>exact⟨x,y,U⟩
def ad9{g:à->Bool}{k:Op}(h:Co P g k=É)(a:bE):jZ P a.eval k:=by
 cases k with
 |binOp o t x y r=>
  refine .Ci o t x y r λe=> ?_;have:(o==az||o==aK)=É:=by rcases e with rfl|rfl<;>rfl
  simp only[Co,if_pos this]at h;exact ad6 h
 |convert s d x=>exact .ML _ _ _ (ad7 h)
 |fieldAddr s x n=>exact .MO _ _ _ (ad8 h)
 |call c=>
  let⟨z,B,j⟩:=c;simp only[Co]at h;unfold VG at h;split at h
  .obtain⟨x,rfl⟩:=IY h;exact .E0 x j
  .obtain⟨x,rfl⟩:=IY h;exact .E1 x j
  .obtain⟨x,y,rfl⟩:=Nl h;exact .E2 x y j
  .let⟨q,f⟩:=Ü.1 h;obtain⟨x,y,rfl⟩:=Nl q;let⟨l⟩:=j;match l,f with
   |[t0,t1],f=>
    refine .sL x y t0 t1 ?_;simp only[VF]at f;split at f
    .rename_i e m;exact Ç ⟨e,m⟩
    .rename_i m;exact Î m
    .cases f
  .exact .jD _ _ _ U (VE h).2
  .cases h
 |move x=>exact .zM x
 |assign x=>exact .EY x
 |pick c a b=>exact .vE c a b
 |alloc t=>exact .gI t
 |box t x=>exact .MH t x
 |build t p=>exact .MI t p
 |buildSlice t n p=>exact .MJ t n p
 |load t a=>exact .gB t a
 |store t a x=>exact .jb t a x
 |nilCheck x=>exact .EZ x
 |unOp o t x=>exact .MK o t x
 |makeSlice t l c=>exact .MN t l c
 |slice t x u v w=>exact .kC t x u v w
 |field t x n=>exact .MP t x n
 |indexAddr t x i=>exact .MQ t x i
 |index t x i=>exact .MR t x i
 |extract x n=>exact .EM x n
 |_=>simp[Co]at h
def Nn(P:Õ)(X:Nat->Bool)(m:à->Bool)(o:au):Bool:=Co P m o.op&&o.op.operands.all (vT X)
def aea{X:Nat->Prop}{m:à->Prop}{o:au}(op:∀a:bE,jZ P a.eval o.op)(opd:∀x∈o.op.operands,mg X x)(calls:∀f args ts,o.op=Ω {callee:=cg<|aN f,args:=args,argTypes:=ts}->m f):mF P X m o where
 mG hz hb hG ht hW hl x u' hr hc:=(Ut hz hW.C hb (λf=>rfl) (op _) λx hx=>vR hG ht<|opd x hx).gi hW hl hr hc #[];r a:=adK<|op a;I a u n u' hr:=adU (op a) hr;C a u f c u' hr:=let⟨as,ts,e⟩:=adP (op a) hr;calls f as ts e
theorem aeb{g:Nat->Bool}{k:à->Bool}(h:Nn P g k o=É):mF P (λj=>g j=É) (λf=>k f=É) o:=by
 let⟨j,b⟩:=Ü.1 h;refine aea (λa=>ad9 j a) (λx a=>IW ?_) λf a x e=> ?_
 .grind [ŉ]
 .rw[e]at j;exact(VE<|show Nk P k f=É from j).1
end
section
variable{Y:ft}{g:à->Prop}{α:Type}
def Cp(m:(Ö->Â)->ē Â)(e:∀b,ì b o=m b>>=λv=>pure<|ï v) (i:∀(Y:ft) (b h:Ö->Â),nz P->Bi Y->Y.C=P.globals.size->(∀x∈o.op.operands,fl Y (b x)<|h x)->kD P fl Y (m b) (m h)) (j:∀b,fE P<|m b) (k:∀x∈o.op.operands,mg X x):mF P X g o where
 mG hz hb hG ht hW hl x u' hr hc:=by rw[e]at hr|-;exact(Uo<|i _ _ _ hz hW.C hb λx d=>vR hG ht<|k x d).gi hW hl hr hc #[]
 r a:=by rw[e];exact lD<|j _
 I a u n u' hr:=by
  rw[e,Ä]at hr;cases d:(m a.eval).run P u with
  |ok v w=>rw[d]at hr;cases hr;exact Ç ⟨v,U⟩
  |halt z w=>rw[d]at hr;cases hr
 C a u f c u' hr:=by
  rw[e,Ä]at hr;cases d:(m a.eval).run P u with
  |ok v w=>rw[d]at hr;cases hr
  |halt z w=>rw[d]at hr;cases hr
theorem aec(a:o.op=cI t qQ)(b:∀y∈o.op.operands,mg X y):mF P X g o:=by
 refine Cp (λd=>ŝ t<|d qQ) (λd=> ?_) (λY d c _ _ _ h=> .gq ?_) (λd=> ?_) b
 .unfold ì;rw[a]
 .unfold ŝ;apply fF (iZ t);rintro e d _ c ⟨rfl,_⟩;split
  .exact .fO
  .exact .fD (.xC t ((h qQ<|by rw[a];simp[Ê]).fN c))
 .unfold ŝ;grind [gF,jc,qH,gp]
theorem aed(c:Sys):oc P (sys c):=by
 intro u hu;refine⟨λx u' e=> ?_,λz u' e=>by cases e⟩;have:u'.heap=u.heap:=by
  simp only[sys,ã]at e;cases e;unfold World.sys;have ask:∀{γ:Type} (b:Ask γ) (w:Æ),(w.ask b).2.heap=w.heap:=by
   intro γ b
   induction b with
   |done a=>intro w;rfl
   |ask what range k ih=>
    intro w;simp only[World.ask];split
    .exact ih 0 w
    .exact ih _ _
  grind
 exact⟨λh i c e he=>h i c e (by rwa[<-this]),λi o he ho=>⟨o,by rwa[this],ho⟩⟩
theorem VH(x:Â):∀u y a,(ż x).run P u≠ĥ y a:=by
 unfold ż;cases x<;>simp only[]<;>first|exact MG|skip
 grind [EV,Ud,qF]
def aee(x:Â):fE P (ż x):=by
 refine⟨?_,MU<|VH x⟩;unfold ż;cases x<;>simp only[]<;>first|exact E5 U|skip
 refine Iw ?_ λa=> ?_
 .unfold Instr.panicnil;refine Iw (aed _) λr=> ?_;cases r<;>first|exact E5 U|skip
  exact Iw Uv λ_=>Uu _
 .split
  .exact E5 U
  .exact(vF _).1
def aef(b:o.op=.panic qQ)(c:∀y∈o.op.operands,mg X y):mF P X g o:=by refine Cp (λa=>ż<|a qQ) (λa=> ?_) (λY a d _ _ _ h=> .gq (.oa (VH _))) (λa=>aee _) c;unfold ì;rw[b]
def aeg(c:fl Y x v)(d:fl Y z jQ):fG P fl Y (Ĳ x z) (Ĳ v jQ):=by
 cases c<;>cases d<;>first|exact .fO|exact .fD (.iF _ _)|skip
 refine fF (V:=fl) (.fD (.mf _)) λf a g _ e=> ?_;apply fF (Ub e);rintro h b _ _ rfl;exact .fD (.kI _)
def aeh(x y:Â):fE P (Ĳ x y):=by unfold Ĳ;repeat' (first|(with_reducible first|exact gF _|exact jc _|exact rN _|exact IC _|exact M8 _ _ _|refine gp ?_ (λ_=> ?_)|refine mS _ ?_)|split|rfl)
def aei:∀{l b:List Â} {Y:ft} {x c:Â},fl Y x c->fQ Y l.toArray b.toArray->fG P fl Y (l.foldlM Ĳ x) (b.foldlM Ĳ c):=by
 intro l
 induction l with
 |nil=>
  intro b Y x c d a;have:b=[]:=by have:=a.r;simp at this;exact Ā this.symm
  subst this;rw[ζ,ζ];exact .fD d
 |cons v l e=>
  intro b Y x c d a;match b,a with
  |[],a=>have:=a.r;simp at this
  |v'::b,a=>
   rw[Ζ,Ζ];refine fF (aeg d (by have:=a.C 0 fp fp;simpa using this)) ?_;intro k y m f g;refine e g ⟨by have:=a.r;simpa using this,λj h i=> ?_⟩;have:=a.C (j+1) (by simp at h|-;omega) (by simp at i|-;omega);exact(by simpa using this:fl Y _ _).fN f
theorem VI:∀(l:List Â) (x:Â),fE P<|l.foldlM Ĳ x
 |[],x=>by rw[ζ];exact gF _
 |v::l,x=>by rw[Ζ];exact gp (aeh _ _) λy=>VI l y
def aej(a:Array Á)(t:Á)(h:fQ Y d q):fG P fl Y (ń a t d) (ń a t q):=by
 let⟨l⟩:=d;let⟨b⟩:=q;unfold ń;match l,b,h with
 |[],_,_=>exact .fO
 |v::l,[],h=>have:=h.r;simp at this
 |v::l,v'::b,h=>
  refine aei (by have:=h.C 0 fp fp;simpa using this) ⟨by have:=h.r;simpa using this,λj e f=> ?_⟩;have:=h.C (j+1) (by simp at e|-;omega) (by simp at f|-;omega);exact(by simpa using this:fl Y _ _)
theorem aek(a:Array Á)(t:Á)(c:Array Â):fE P (ń a t c):=by let⟨l⟩:=c;unfold ń;grind [jc,VI]
def ael{b:Array Ö}{c:Array Á}(d:o.op=Ω {callee:=ĝ .min,args:=b,argTypes:=c})(e:∀y∈o.op.operands,mg X y):mF P X g o:=by refine Cp (λa=>ń c o.type<|b.map a) (λa=> ?_) (λY a i _ _ _ h=> .gq (aej _ _<|Ur b λz f=>h z<|by rw[d];simp[Ê,ô,f])) (λa=>aek _ _ _) e;unfold ì;rw[d];simp only[ù,č,Ē,pure_bind]
def aem{β:Type}{f g:Â->β->ē (ForInStep β)}(k:∀a v e b,Y.r a->fl a v e->fG P jk a (f v b) (g e b)):∀{l d:List Â} {a:ft} (b:β),Y.r a->fQ a l.toArray d.toArray->fG P jk a (forIn l b f) (forIn d b g):=by
 intro l
 induction l with
 |nil=>
  intro d a b _ c;have:d=[]:=by have:=c.r;simp at this;exact Ā this.symm
  subst this;rw[φ,φ];exact .fD U
 |cons v l m=>
  intro d a b h c;match d,c with
  |[],c=>have:=c.r;simp at this
  |e::d,c=>
   rw[η,η];refine fF (k a v e b h (by have:=c.C 0 fp fp;simpa using this)) ?_;rintro p r _ i rfl;cases r with
   |done b=>exact .fD U
   |yield b=>
    apply m b (ft.I h i);refine⟨by have:=c.r;simpa using this,λj n o=> ?_⟩;have:=c.C (j+1) (by simp at n|-;omega) (by simp at o|-;omega);exact(by simpa using this:fl a _ _).fN i
theorem VJ{β:Type}{f:Â->β->ē (ForInStep β)}(a:∀v b,fE P<|f v b):∀(l:List Â) (b:β),fE P<|forIn l b f
 |[],b=>by rw[φ];exact gF _
 |v::l,b=>by
  rw[η];refine gp (a v b) λr=> ?_;cases r with
  |done b=>exact gF _
  |yield b=>exact VJ a l b
def aen(d:fl Y x v):fG P fl Y (ü x) (ü v):=by
 cases d<;>first|exact .fO|exact .fD (.kI _)|skip
 rename_i h n c;unfold ü;apply fF (MA h n);intro e j l m f;simp only[<-aD];refine fF (aem (Y:=e) ?_ _ (ft.M _) f) ?_
 .intro g a o b _ i;cases i<;>first|exact .fO|skip
  rename_i k n;cases k<;>first|exact .fO|exact .fD U
 .rintro g s _ _ rfl;exact .fD (.kI _)
theorem aeo(x:Â):fE P (ü x):=by
 unfold ü;split
 .exact gF _
 .refine gp (M0 _ _) λa=> ?_;simp only[<-aD];grind [gp,VJ,gF,jc]
 .exact jc _
theorem aep(i:o.op=aL t T qQ)(k:P.underlying t=À (dh e))(l:P.underlying T=À ę)(m:P.underlying e=À (Β .u8))(n:∀y∈o.op.operands,mg X y):mF P X g o:=by
 refine Cp (λa=>Œ t T<|a qQ) (λa=> ?_) (λY a f _ _ _ h=> .gq ?_) (λa=> ?_) n
 .unfold ì;rw[i]
 .unfold Œ;refine fF (iZ t) ?_;rintro z B _ p ⟨rfl,b⟩;rw[k]at b;injection b with b;subst b;refine fF (iZ T) ?_;rintro q C _ r ⟨rfl,c⟩;rw[l]at c;injection c with c;subst c;have j:=((h qQ<|by rw[i];simp[Ê]).fN p).fN r;have u:fG P fl q (ø e>>=λy=>match y with|Β .u8=>ü (a qQ)|Β .i32=>aE (a qQ)|_=>stuck "Convert: a slice of what to string?") (ø e>>=λy=>match y with|Β .u8=>ü (f qQ)|Β .i32=>aE (f qQ)|_=>stuck "Convert: a slice of what to string?"):=by
   apply fF (iZ e);rintro D E _ w ⟨rfl,h⟩;rw[m]at h;injection h with h;subst h;exact aen<|j.fN w
  generalize a qQ=v at*;generalize f qQ=v' at*;cases j<;>first|exact u|exact .fO|exact .fD (.kI _)|skip
 .unfold Œ;grind [vG,aeo,Vj,gF]
end
section
variable{Y:ft}{b:à->Prop}{α:Type}
def VK(i:∀(Y:ft) (a g:bE),nz P->Bi Y->Y.C=P.globals.size->(∀x∈o.op.operands,fl Y (a.eval x)<|g.eval x)->kD P oI Y (ì a.eval o) (ì g.eval o)) (j:∀a:bE,fE P<|ì a.eval o) (h:∀(a:bE) (u:Æ) (n:Ο) (d:Æ),(ì a.eval o).run P u=ĥ n d->∃v,n=ï v) (k:∀x∈o.op.operands,mg X x):mF P X b o where
 mG hz hb hG ht hW hl x d hr hc:=(i _ ⟨_,[]⟩ ⟨_,[]⟩ hz hW.C hb λx e=>vR hG ht<|k x e).gi hW hl hr hc #[];r a:=j a;I a u n d hr:=Ç<|h a u n d hr;C a u f c d hr:=by let⟨v,e⟩:=h a u _ d hr;cases e
def aer{e:Array Â->ē Â}{k:Array Á}(g:o.op=Ω {callee:=cg<|aN F,args:=#[qQ],argTypes:=k})(l:P.funcs[F]?=À s)(m:(s.name== "runtime.NumGoroutine")=Ã)(q:s.body.isNone=É)(r:Extern.findNext s=ë)(t:Extern.find s=À e) (B:∀(Y:ft) (v i:Â),fl Y v i->fG P fl Y (e #[v]) (e #[i])) (C:∀v,fE P<|e #[v]) (D:∀y∈o.op.operands,mg X y):mF P X b o:=by
 have c:∀a:bE,ì a.eval o=ĵ F #[a.eval qQ]:=by intro a;unfold ì;rw[g];simp only[ù,å,İ,č,pure_bind,Ď,ď,Ø,â,ä]
 have j:∀(v:Â) (u:Æ),(ĵ F #[v]).run P u=(mark (.extern F)>>=λ_=>e #[v]>>=λy=>pure (ï y):ē Ο).run P u:=by intro v u;unfold ĵ;simp_all
 refine VK (λY a w _ _ _ h=> ?_) (λa=> ?_) (λa u n E d=> ?_) D
 .rw[c,c];unfold ĵ;refine .gq (fF qC ?_);rintro I p J w ⟨z,G⟩;rw[z,G];simp only[l,m,q,r,t,Å,if_false,if_true];apply fF (V:=jk) (.Ca (Î ⟨F,U⟩) (.fD U));exact λK _ _ H _=>mE<|B _ _ _<|((h qQ<|by rw[g];simp[Ê,ô]).fN w).fN H
 .rw[c];exact Iy (j _)<|gp (E6 _) λ_=>lD<|C _
 .rw[c,j,Ä]at d;simp only[mark,ã,È]at d;have:ã P (e #[a.eval qQ]>>=λy=>pure (ï y):ē Ο) u=ĥ n E:=d;rw[Ä]at this;cases h:(e #[a.eval qQ]).run P u with
  |ok v w=>rw[h]at this;cases this;exact⟨v,U⟩
  |halt z w=>rw[h]at this;cases this
def aes(x a:Â)(h:fl Y x a):fG P fl Y (Ŀ #[x]) (Ŀ #[a]):=.fD h
def aeu(x:Â):fE P (Ŀ #[x]):=gF _
def VL:∀(n t:Nat) {c a:Array Â},fQ Y c a->fQ Y (ņ n t c) (ņ n t a)
 |0,_,_,_,h=>h
 |n+1,t,_,_,h=>VL n (t/256)<|h.TY<|.iF _ _
def aev(b:Array Á)(t:Á)(v c:Â)(h:fl Y v c):fG P fl Y (Ċ b #[t] #[v]) (Ċ b #[t] #[c]):=by
 cases h<;>first|exact .fO|skip
 rename_i k n;cases k<;>first|exact .fO|skip
 refine fF (iZ t) ?_;rintro j d _ l ⟨rfl,_⟩;cases d<;>first|exact .fO|skip
 rename_i e _;simp only[];split
 .exact .oa (vA<|qF _)
 .apply rK (.zG λn=> .fD U);intro m f _;apply rK (ME _);intro o _ _;apply rK (.zG λn=> .fD U);intro p g _;apply fF (zK e<|VL f g<|fQ.N _);exact λq a r _ i=> .fD (.kC i _ _)
def aew(a:Array Á)(t:Á)(v:Â):fE P (Ċ a #[t] #[v]):=by
 cases v<;>first|exact jc _|skip
 rename_i k n;cases k<;>first|exact jc _|skip
 refine gp (qH t) λd=> ?_;cases d<;>first|exact jc _|skip
 repeat' (first|(with_reducible first|exact gF _|exact jc _|exact rN _|exact E8 _ _|exact qH _|exact vF _|exact M1 _|refine gp ?_ λ_=> ?_)|split)
def aex(f:Array Á)(t:Á)(j:fl Y x v):kD P fl Y (ė f t #[x]) (ė f t #[v]):=by
 cases j<;>first|exact .gq .fO|exact .gq (.fD .lA)|skip
 rename_i a g h n c;change kD P fl Y (ite _ _ _) (ite _ _ _);by_cases i:c≠0
 .simp only[if_pos i];exact .gq (.fD (.jI h))
 .simp only[if_neg i];apply kO (Is h.1);rintro l b m o ⟨rfl,rfl⟩;simp only[Option.isSome_none,Å,if_false];refine kO (V0:=λ_ a g=>a=g) ?_ ?_
  .unfold Ū;refine fF (iZ t) ?_;rintro k d _ p ⟨rfl,_⟩;cases d<;>first|exact .fO|exact .fD U
  .rintro k e _ _ rfl;exact .Ce trivial
def aey(b:Array Á)(t:Á)(x:Â):fE P (ė b t #[x]):=by
 cases x<;>first|exact jc _|skip
 rename_i p n c;cases p with
 |none=>exact gF _
 |some a=>
  change fE P (ite _ _ _);repeat' (first|(with_reducible first|exact gF _|exact jc _|exact Iz _|exact IF _|refine gp ?_ (λ_=> ?_)|refine Ix _ ?_)|split|(intro _ _ h;cases h;done))
def aez{c:Array Á}(d:o.op=Ω {callee:=ĝ bk,args:=#[qQ],argTypes:=c})(e:∀y∈o.op.operands,mg X y):mF P X b o:=by refine Cp (λa=>ė c o.type #[a qQ]) (λa=> ?_) (λY a f _ _ _ h=>aex _ _<|h qQ<|by rw[d];simp[Ê,ô]) (λa=>aey _ _ _) e;unfold ì;rw[d];simp only[ù,č,Ē,pure_bind,Ø,â,ä]
end
section
variable{Y:ft}{f:Nat->Prop}{g:à->Prop}{α:Type}
def VM(h:gX Y a p):fG P gX Y (Ž a) (Ž p):=by unfold Ž;apply fF (Is h.1);rintro c x d b ⟨rfl,rfl⟩;exact .fD (h.r b)
def aeA{r:Nat}(h:Y r i):fG P (λ_ c q=>∃n a,c=À n/\q=À a/\n<=a) Y (dw r) (dw i):=.uH h λ_ n a c=> .fD ⟨n,a,U,U,c.elim (λq=>by omega) λq=>q.1⟩
def VN(h:gX Y a p)(t:Á)(n:Nat):fG P (λ_ b e=>b=É->e=É) Y (Ą a t n) (Ą p t n):=by unfold Ą;apply fF qC;rintro i b j c ⟨d,f⟩;rw[d,f];refine .uH (c.1 _ _ h.1) λe m k g=> ?_;rw[h.2.1];exact .fD λq=>Uj (ο<|g.elim (λq=>by omega) λq=>q.1) q
def aeB(a:Ú):fE P (Ž a):=by unfold Ž;repeat' (first|(with_reducible first|exact gF _|exact p9|exact sN _|exact IF _|refine gp ?_ (λ_=> ?_)|refine mS _ ?_)|split|rfl)
theorem aeC(r:Nat):fE P (dw r):=by unfold dw;grind [gF,sN,UB,gp]
theorem VO(a:Ú)(t:Á)(n:Nat):fE P (Ą a t n):=by unfold Ą;grind [gF,p9,sN,gp]
theorem aeD(l:P.underlying e=À (ð t))(m:P.underlying T=À đ)(o:fl Y x v):kD P fl Y (ö e T x) (ö e T v):=by
 unfold ö;refine kO (iZ e) ?_;rintro z B _ p ⟨rfl,f⟩;rw[l]at f;injection f with f;subst f;refine kO (iZ T) ?_;rintro C D _ q ⟨rfl,g⟩;rw[m]at g;injection g with g;subst g;have r:=(o.fN p).fN q;cases r<;>first|exact .gq .fO|exact .gq (.fD .lA)|skip
 rename_i a E h;refine kO (VM h) ?_;intro F b j G i;refine kO (aeA i.1) ?_;rintro H c I u ⟨w,J,rfl,rfl,K⟩;refine kO (mQ t) ?_;rintro L n _ y ⟨rfl,_⟩;rw[i.2.1,i.2.2];simp only[];by_cases k:(decide (n=0)||(decide (j.off≥w)&&j.spot.isNone))=É
 .rw[if_pos k];exact .Ce trivial
 .rw[if_neg k,if_neg]
  .exact .gq (.fD (.jI ((i.r u).r y)))
  .grind
theorem aeE{d:Á}(l:P.underlying T=À đ)(o:P.underlying d=À (ð t))(q:fl Y x z):kD P fl Y (ö T d x) (ö T d z):=by
 unfold ö;refine kO (iZ T) ?_;rintro F G _ r ⟨rfl,f⟩;rw[l]at f;injection f with f;subst f;refine kO (iZ d) ?_;rintro H I _ w ⟨rfl,g⟩;rw[o]at g;injection g with g;subst g;have y:=(q.fN r).fN w;cases y<;>first|exact .gq .fO|exact .gq (.fD .lA)|skip
 rename_i a J h;refine kO (VM h) ?_;intro K b B L i;refine kO (mQ t) ?_;rintro M n _ j ⟨rfl,_⟩;refine kO (VN (i.r j) t 1) ?_;rintro C v N D O;have Q:kD P fl C (pure<|Þ<|À b) (pure<|Þ<|À B):=.gq (.fD (.jI ((i.r j).r D)));by_cases E:(decide (n=0)||v)=É
 .grind
 .rw[if_neg E];refine .Cf λu x S c=> ?_;rw[Ä]at c;simp only[cu,ã,È]at c;cases k:u.shape? b.block with
  |none=>rw[k]at c;cases c
  |some p=>
   let⟨e,m⟩:=p;rw[k]at c;simp only[Ä,ă,È]at c;split at c
   .cases c
   .cases c;exact⟨u.heap.size,.view b t,ß _,fp,trivial⟩
theorem aeF(h:(P.underlying e=À (ð t)/\P.underlying T=À đ)\/(P.underlying e=À đ/\P.underlying T=À (ð t)))(x:Â):fE P (ö e T x):=by
 unfold ö;rcases h with⟨b,c⟩|⟨b,c⟩<;>refine vG b<|vG c ?_;all_goals
  cases x<;>first|exact jc _|skip
  rename_i p;cases p with
  |none=>exact gF _
  |some a=>
   repeat' (first|(with_reducible first|exact aeB _|exact aeC _|exact VO _ _ _|exact gF _|exact jc _|exact p9|exact sN _|exact sQ _|refine gp ?_ (λ_=> ?_)|refine mS _ ?_|refine Ix _ ?_)|split|(intro _ _ h;cases h;done)|rfl)
theorem VP(b:o.op=aL e T qQ)(h:(P.underlying e=À (ð t)/\P.underlying T=À đ)\/(P.underlying e=À đ/\P.underlying T=À (ð t)))(c:∀y∈o.op.operands,mg X y):mF P X g o:=by
 refine Cp (λa=>Œ e T<|a qQ) (λa=> ?_) (λY a i _ _ _ f=> ?_) (λa=> ?_) c
 .unfold ì;rw[b]
 .unfold Œ;apply kO (iZ e);rintro j k _ a ⟨rfl,l⟩;apply kO (iZ T);rintro m n _ i ⟨rfl,p⟩;have q:=((f qQ<|by rw[b];simp[Ê]).fN a).fN i;grind [aeD,aeE]
 .unfold Œ;grind [aeF,vG]
theorem aeG(a:Ú)(n:Nat):oc P (eU a n):=by
 intro u f;refine⟨λx b e=> ?_,λz b e=>by cases e⟩;cases e;unfold Ė;split
 .exact Kd.fT u
 .refine Uw (λo d=> ?_) λo c e h=> ?_
  .cases o<;>first|exact d.elim|trivial
  .grind
def aeH(a:Ú)(n:Nat):fE P (eU a n):=by
 refine⟨aeG a n,λu T D=>⟨0,u.freeze a n,λx b e=> ?_⟩⟩;have c:∀T D,(World.tp u T D).freeze a n=World.tp (u.freeze a n) T D:=by intro T D;unfold Ė;split<;>rfl
 simp_all
def VQ:∀(n:Nat) {Y:ft} {a c:Ú} (d:ByteArray),gX Y a c->fG P jk Y (ĕ a d n) (ĕ c d n)
 |0,_,_,_,_,_=> .fD U
 |n+1,Y,a,c,d,h=>by
  unfold ĕ;refine fF (Io h) ?_;intro g v i e f;cases f<;>first|exact .fO|skip
  rename_i k b;cases k<;>first|exact .fO|exact VQ n _<|(h.r e).C 1
def VR:∀(n:Nat) (a:Ú) (b:ByteArray),fE P<|ĕ a b n
 |0,_,_=>gF _
 |n+1,a,b=>by
  unfold ĕ;refine gp (E7 _ _) λv=> ?_;split
  .exact VR n _ _
  .exact jc _
def jz(pt:Á)(a:Ú)(n:Nat):ē ByteArray:=do
 if<-Ą a (<-Ū pt) n then ĕ a .empty n else unsupported (ť "String: not so many bytes at ptr")
def aeI(pt:Á)(h:gX Y a p)(n:Nat):fG P jk Y (jz pt a n) (jz pt p n):=by
 unfold jz;refine fF (V:=jk) ?_ ?_
 .unfold Ū;refine fF (iZ pt) ?_;rintro f d _ c ⟨rfl,_⟩;cases d<;>first|exact .fO|exact .fD U
 .rintro i e _ d rfl;apply fF (VN (h.r d) e n);rintro f b j c g;cases b with
  |true=>rw[g U];exact VQ n _<|(h.r d).r c
  |false=>exact .fO
def aeJ[zF P](F:jf Y f u w)(h:gX Y a p){pt:Á}(G:∀u l j,(Ū pt).run P u=ĥ l j->∃k,P.underlying l=À (Β k))(g:(jz pt a<|n+1).run P u=ĥ B W):¬f p.block:=by
 intro H;let⟨c,L,e,M,N,r,O,Q,t,_⟩:=F.r _ _ h.1;let⟨_,_,_,_,o⟩:=t H;unfold jz at g;rw[Ä]at g;cases i:(Ū pt).run P u with
 |halt z x=>rw[i]at g;cases g
 |ok l j=>
  have I:j=u:=by
   unfold Ū at i;rw[Ä]at i;unfold ø at i;rw[Ä,ă]at i;simp only[È]at i;cases D:P.underlying pt with
   |none=>rw[D]at i;cases i
   |some d=>
    rw[D]at i;cases d<;>cases i<;>rfl
  subst I;rw[i]at g;simp only[È]at g;rw[Ä]at g;have y:∃b,(Ą a l<|n+1).run P j=ĥ b j:=by unfold Ą;rw[Ä,ă];simp only[È];rw[Ä];simp only[cu,ã,È];split<;>exact⟨_,U⟩
  rcases o with o|o;rotate_left
  .let⟨k,J⟩:=G _ _ _ i;have K:(Ą a l<|n+1).run P j=ĥ Ã j:=by
    unfold Ą;rw[Ä,ă];simp only[È];rw[Ä];simp only[cu,ã,È];have t:j.shape? a.block=À (e,c.size):=by simp[Θ,r]
    rw[t];simp only[Nat.div_eq_of_lt<|zF.lt e c.size o,acz J];rfl
   rw[K]at g;cases g
  let⟨b,y⟩:=y;rw[y]at g;simp only[È]at g;split at g
  .unfold ĕ at g;rw[Ä]at g;simp only[aW,ã]at g;cases C:j.cell? a with
   |none=>
    rw[C]at g;simp only[ŋ,r]at g;cases g
   |some v=>
    rw[C]at g;simp only[È]at g;have q:=C;rw[zI r]at q;cases E:a.spot with
    |some x=>rw[E]at q;cases q
    |none=>
     rw[E]at q;have:=o _ _ (by simpa using q);cases v<;>first|(cases g;done)|skip
     rename_i k m;cases k<;>first|(cases g;done)|cases this
  .cases g
end
section
variable{Y:ft}{d:Nat->Prop}{f:à->Prop}{α:Type}
def xO(a:Á)(p:Option Ú)(n:Int):ē Â:=ê #[a] a #[Þ p,Ć Ŋ n]
def xP(pt a t:Á)(p:Option Ú)(k:ú)(n:Int):ê #[pt,a] t #[Þ p,Ć k n]=xO pt p n:=by cases p<;>rfl
section
variable{pt:Á}{p:Option Ú}
def VS(a:h<0):∃c,∃k:PUnit->ē Â,xO pt p h=(runtimePanic c>>=k):=⟨_,_,if_pos a⟩
def VT(a:¬h<0)(b:h>Ŋ.max):∃c,xO pt p h=unsupported (ť c):=⟨_,(if_neg a).trans<|if_pos b⟩
def Np(a:¬h<0)(b:¬h>Ŋ.max)(c:h=0):xO pt p h=pure (ħ .empty):=by cases p<;>exact(if_neg a).trans<|(if_neg b).trans<|if_pos c
def aeK(a:¬h<0)(b:¬h>Ŋ.max)(d:¬h=0):∃c,xO pt ë h=runtimePanic c:=⟨_,(if_neg a).trans<|(if_neg b).trans<|if_neg d⟩
end
def VU(pt:Á)(a:Ú)(c:¬h<0)(d:¬h>Ŋ.max)(e:¬h=0): xO pt (À a) h=(jz pt a h.toNat>>=λs=>eU a h.toNat>>=λ_=>pure<|ħ s):=by refine((if_neg c).trans<|(if_neg d).trans<|if_neg e).trans ?_;unfold jz;show _=ç (ç _ _) _;rw[ř];congr 1;funext et;show ç _ _=ç (ç _ _) _;rw[ř];congr 1;funext b;cases b<;>rfl
def aeL(pt:Á)(p:Option Ú)(n:Int):fE P (xO pt p n):=by cases p<;>show fE P (if n<0 then _ else _)<;>repeat' (first|(with_reducible first|exact VO _ _ _|exact VR _ _ _|exact aeH _ _|exact gF _|exact Iz _|exact vF _|refine gp ?_ (λ_=> ?_)|refine mS _ ?_)|split|rfl)
theorem aeM(_hW:jf Y d u w):∀(n:Nat) {a i:Ú} {j s:ByteArray},gX Y a i->a.spot=ë->(ĕ a j n).run P u=ĥ s W->∀c e f,u.heap[a.block]?=À (Č c e f)->a.off<=c.size->a.off+n<=c.size:=by
 intro n
 induction n with
 |zero=>intro a i j s _ _ _ c e f _ r;exact r
 |succ n t=>
  intro a i j s h p b c e f l _;unfold ĕ at b;rw[Ä]at b;simp only[aW,ã]at b;cases o:u.cell? a with
  |none=>
   rw[o]at b;simp only[ŋ,l]at b;cases b
  |some v=>
   rw[o]at b;simp only[È]at b;have q:=o;rw[zI l,p]at q;have y:=(Ë.1<|by simpa using q).1;cases v<;>first|(cases b;done)|skip
   rename_i k m;cases k<;>first|(cases b;done)|skip
   have g:a.add 1={a with off:=a.off+1}:=by unfold Addr.add;grind
   have x:=h.C 1;have:=t x (by rwa[g]) b c e f (by rwa[g]) (by rw[g];simp only;omega);rw[g]at this;simp only at this;omega
end
section
variable{Y:ft}{g:Nat->Prop}{r:à->Prop}{α:Type}
def Nq(pt a t:Á)(p:Option Ú)(y:Â):ê #[pt,a] t #[Þ p,y]=(dA y>>=λn=>xO pt p n):=by cases p<;>rfl
def VW:∀(n:Nat) {a:Ú} {f s:ByteArray} {u c:Æ},(ĕ a f n).run P u=ĥ s c->c=u
 |0,_,_,_,_,_,h=>by cases h;rfl
 |n+1,a,f,s,u,c,h=>by
  unfold ĕ at h;rw[Ä]at h;have g:∀v b,(aW a).run P u=ĥ v b->b=u:=by
   intro v b e;simp only[aW,ã]at e;split at e
   .cases e;rfl
   .split at e<;>cases e;rfl
  cases d:(aW a).run P u with
  |halt z w=>rw[d]at h;cases h
  |ok v b=>
   have:=g v b d;subst this;rw[d]at h;simp only[È]at h;cases v<;>first|(cases h;done)|skip
   rename_i k m;cases k<;>first|(cases h;done)|exact VW n h
def aeN{pt:Á}(c:(jz pt a n).run P u=ĥ B w):w=u/\(ĕ a .empty n).run P u=ĥ B u:=by
 unfold jz at c;rw[Ä]at c;cases e:(Ū pt).run P u with
 |halt z x=>rw[e]at c;cases c
 |ok z x=>
  have f:x=u:=by
   unfold Ū at e;rw[Ä]at e;unfold ø at e;rw[Ä,ă]at e;simp only[È]at e;cases b:P.underlying pt with
   |none=>rw[b]at e;cases e
   |some d=>
    rw[b]at e;cases d<;>cases e<;>rfl
  subst f;rw[e]at c;simp only[È]at c;rw[Ä]at c;have d:∃b,(Ą a z n).run P x=ĥ b x:=by unfold Ą;rw[Ä,ă];simp only[È];rw[Ä];simp only[cu,ã,È];split<;>exact⟨_,U⟩
  let⟨b,d⟩:=d;rw[d]at c;simp only[È]at c;split at c
  .have:=VW n c;subst this;exact⟨U,c⟩
  .cases c
def IZ(P:Õ)(t:Á):Bool:=match P.underlying t with
 |some (ð e)=>(match P.underlying e with|some (Β _)=>É|_=>Ã)
 |_=>Ã
theorem aeO{P:Õ}{pt:Á}(h:IZ P pt=É):∀u b c,(Ū pt).run P u=ĥ b c->∃k,P.underlying b=À (Β k):=by
 intro u b c a;unfold Ū ø at a;rw[Ä,Ä,ă]at a;simp only[È]at a;unfold IZ at h;split at h
 .rename_i e d;rw[d]at a;cases a;grind
 .cases h
def aeP[zF P]{y:Ö}{pt:Á}(W:o.op=Ω {callee:=ĝ cV,args:=#[qQ,y],argTypes:=#[pt,T]})(hpt:IZ P pt=É)(VX:∀z∈o.op.operands,mg X z):mF P X r o:=by
 have he:∀M:Ö->Â,ì M o=(ê #[pt,T] o.type #[M qQ,M y]>>=λv=>pure<|ï v):=by intro M;unfold ì;rw[W];simp only[ù,č,Ē,pure_bind,Ø,â,ä]
 have N:∀v w:Â,fE P (ê #[pt,T] o.type #[v,w]):=by
  intro v w;cases v<;>first|exact jc _|skip
  rw[Nq];exact gp (E9 _) λn=>aeL _ _ _
 have hk:∀(a:bE) (u:Æ) (n:Ο) (C:Æ),(ì a.eval o).run P u=ĥ n C->∃v,n=ï v:=by
  intro a u n C b;rw[he,Ä]at b;cases O:(ê #[pt,T] o.type #[a.eval qQ,a.eval y]).run P u with
  |ok v w=>rw[O]at b;cases b;exact⟨v,U⟩
  |halt z w=>rw[O]at b;cases b
 refine⟨?_,λa=>by rw[he];exact lD<|N _ _,λa u n C b=>Ç<|hk a u n C b,λa u f c C b=>by let⟨v,e⟩:=hk a u _ C b;cases e⟩;intro Y g t t' u w hz hb hG ht J hl z C b hc;have hx:=vR hG ht (VX qQ<|by rw[W];simp[Ê,ô]);have Q:=vR hG ht (VX y<|by rw[W];simp[Ê,ô]);rw[he]at b|-;generalize å ⟨t,[]⟩ qQ=v at hx b;generalize å ⟨t',[]⟩ qQ=v' at hx|-;generalize å ⟨t,[]⟩ y=l at Q b;generalize å ⟨t',[]⟩ y=l' at Q|-;have E:fG P fl Y (ê #[pt,T] o.type #[v,l]) (ê #[pt,T] o.type #[v',l'])->∃(K:ft) (x':Ο) (w':Æ) (S:Array ý),Y.r K/\(∀i j,K i j->Y i j\/(u.heap.size<=i/\w.heap.size<=j))/\(ê #[pt,T] o.type #[v',l']>>=λv=>pure (ï v):ē Ο).runT P w #[]=(ĥ x' w',#[]++S)/\oI K z x'/\jf K g C w'/\ny Y g w w'/\(∀e∈S,zH K g e)/\u.heap.size<=C.heap.size:= λh=>(mE h).gi J hl b #[];cases hx with
 |lA=>
  apply E;rw[Nq,Nq];apply fF (MC Q);rintro VY n _ _ rfl;by_cases B:n<0
  .let⟨c,k,q⟩:=VS (pt:=pt) (p:=ë) B;rw[q];exact .oa (vA<|qF _)
  .by_cases d:n>Ŋ.max
   .let⟨c,q⟩:=VT (pt:=pt) (p:=ë) B d;rw[q];exact .fO
   .by_cases D:n=0
    .rw[Np B d D];exact .fD (.kI _)
    .let⟨c,q⟩:=aeK (pt:=pt) B d D;rw[q];apply Ir
 |jI F=>
  rename_i a a';cases Q with
  |iF k n=>
   by_cases B:n<0
   .apply E;let⟨c,k,q⟩:=VS (pt:=pt) (p:=À a) B;rw[xP,xP,q];exact .oa (vA<|qF _)
   .by_cases d:n>Ŋ.max
    .apply E;let⟨c,q⟩:=VT (pt:=pt) (p:=À a) B d;rw[xP,xP,q];exact .fO
    .by_cases D:n=0
     .apply E;rw[xP,xP,Np B d D,Np B d D];exact .fD (.kI _)
     .rw[xP,VU pt a B d D]at b;rw[xP,VU pt a' B d D];obtain⟨m,O⟩:∃m,n.toNat=m+1:=⟨n.toNat-1,Z⟩;rw[O]at b|-;cases L:(jz pt a<|m+1).run P u with
      |halt z w=>
       rw[Ä,Ä,L]at b;cases b
      |ok s u1=>
       obtain⟨rfl,VZ⟩:=aeN L;rw[Ä,Ä,L]at b;have zW:=b;cases zW;let⟨VY,s',w1,es,k1,k2,k3,k4,k5,G,k7,k8⟩:=(aeI pt F<|m+1).gi J hl L #[];have S:=k4;subst S;let⟨c,c',e,fr,vB,V,hw,qa,_⟩:=J.r _ _ F.1;have V1:a.spot=ë/\a.off<c.size:=by
        have H:=VZ;unfold ĕ at H;rw[Ä]at H;simp only[aW,ã]at H;cases I:u1.cell? a with
        |none=>
         rw[I]at H;simp only[ŋ,V]at H;cases H
        |some v=>
         rw[zI V]at I;cases om:a.spot with
         |some qQ=>rw[om]at I;cases I
         |none=>rw[om]at I;exact⟨U,(Ë.1<|by simpa using I).1⟩
       have fits:∀c e fr,u1.heap[a.block]?=À (Č c e fr)->a.off+(m+1)<=c.size:=by intro c2 e2 qc d;rw[V]at d;injection d with d;injection d with q1 q2 q3;subst q1;exact aeM J (m+1) F V1.1 VZ c e fr V<|Nat.le_of_lt V1.2
       refine⟨VY,ï<|ħ s,w1.freeze a'<|m+1,es,k1,k2,?_,.nA (.kI s),k5.abN (F.r k1) (m+1) fits,?_,k7,by rw[Il];exact ß _⟩
       .show é P (ç (ç _ _) _) w #[]=_;rw[Ñ,Ñ,k3];rfl
       .refine⟨by rw[Il];exact G.r,abJ.trans G.I,abK.trans G.M,Mx.trans G.S,λj hj N=> ?_,λj hs hj=> ?_⟩
        .rw[Im (λe=>N a.block<|by rw[<-e];exact F.1)];exact G.C j hj N
        .rw[Im (λe=>(aeJ J F (aeO hpt) L)<|by rwa[e])];exact G.N j hs hj
  |_=>exact E .fO
 |_=>exact E .fO
end
section
variable{Y:ft}{g:Nat->Prop}{i:à->Prop}{α:Type}
theorem aeQ(a:Ú):fE P (bl a):=by unfold bl;grind [gF,sN,MY,gp]
theorem aeR(a b:Ú):fE P (cJ a b):=by unfold cJ;grind [aeQ,gF,sN,gp]
def aeS(a b:Ú):fE P (Ŭ a b):=by unfold Ŭ;repeat' (first|(with_reducible first|exact aeR _ _|exact gF _|exact rN _|exact MY _|exact UR _|refine gp ?_ (λ_=> ?_)|refine mS _ ?_)|split|rfl)
def V2(h:P.underlying t=À (ð e))(x y:Â):fE P (ó t x y):=by unfold ó ā Λ;refine vG h ?_;repeat' (first|(with_reducible first|exact aeS _ _|exact gF _|exact jc _|exact rN _|exact sQ _|refine gp ?_ λ_=> ?_)|contradiction|split)
def aeT{a:ġ}(b:a=az\/a=aK)(h:P.underlying t=À (ð e))(x y:Â):fE P (Ũ a t x y):=by
 have c:=V2 h x y;rcases b with rfl|rfl;all_goals
  unfold Ũ;repeat' (first|(with_reducible first|exact V2 h _ _|exact gF _|exact jc _|exact M4 _ _ _ _|exact Vd _ _ _ _ _ _|exact Ve _ _ _|exact M8 _ _ _|refine gp ?_ λ_=> ?_)|contradiction|split)
def xR(u:Æ)(r:Nat):Prop:=∃c e a,u.heap[r]?=À (Č c e a)/\a.2<=c.size
def I0(a:Ú)(u:Æ)(b:Array ý):(eM a).runT P u b=(ĥ (u.frozen? a) u,b):=rfl
def I1{r:Nat}(h:u.heap[r]?=À (Č d e xJ))(a:Array ý):(cu r).runT P u a=(ĥ (À (e,d.size)) u,a):=by simp only[cu,é,Θ,h]
def V3(h:xR u a.block)(b:Array ý):(bl a).runT P u b=(ĥ (u.frozen? a) u,b):=by
 let⟨c,e,f,d,g⟩:=h;unfold bl;show é P (ç _ _) u b=_;rw[Ñ,I0];cases i:u.frozen? a with
 |true=>rfl
 |false=>
  simp only[Å,if_false];show é P (ç _ _) u b=_;rw[Ñ,I1 d];simp only[];rw[I0];have:u.frozen? {block:=a.block,off:=c.size}=Ã:=by simp only[Ĉ,d];simp;omega
  rw[this]
def V4(f:u.heap[a.block]?=À (Č d e xJ))(g:xJ.2<=d.size)(b:u.frozen? a=É):d.size≠0:=by simp only[Ĉ,f]at b;simp at b;omega
def aeU(i:xR u a.block)(j:xR u p.block)(k:(u.frozen? a&&u.frozen? p)=Ã)(g:Array ý):(cJ a p).runT P u g=(ĥ Ã u,g):=by
 have q:=i;have r:=j;let⟨c,e,w,l,s⟩:=q;let⟨d,f,x,m,t⟩:=r;unfold cJ;show é P (ç _ _) u g=_;rw[Ñ,V3 i];simp only[];show é P (ç _ _) u g=_;rw[Ñ,V3 j];simp only[];show é P (ç (ç _ _) _) u g=_;rw[Ñ,Ñ,I1 l];simp only[];show é P (ç (ç _ _) _) u g=_;rw[Ñ,Ñ,I1 m];simp only[];congr 2;cases o:u.frozen? a with
 |true=>
  rw[o]at k;have h:u.frozen? p=Ã:=by simpa using k
  have:=V4 l s o;simp only[h];cases v:c.size with
  |zero=>exact absurd v this
  |succ n=>rfl
 |false=>
  cases h:u.frozen? p with
  |true=>
   have:=V4 m t h;cases v:d.size with
   |zero=>exact absurd v this
   |succ n=>rfl
  |false=>rfl
def V5(h:xR u a.block)(b:Array ý):(aX a).runT P u b=(ĥ () u,b):=by let⟨c,e,f,d,g⟩:=h;unfold aX di;show é P (ç (ç _ _) _) u b=_;rw[Ñ,Ñ,I1 d];rfl
def V7(e:xR u a.block)(f:xR u p.block)(c:Array ý):(Ŭ a p).runT P u c= if(a.block==p.block)=É then(ĥ (a==p) u,c)else if(u.frozen? a&&u.frozen? p)=É then(bU (ŀ .addressObserved) u,c)else(ĥ Ã u,c):=by
 unfold Ŭ;by_cases h:(a.block==p.block)=É
 .simp_all
 .rw[if_neg h,if_neg h];show é P (ç _ _) u c=_;rw[Ñ,I0];simp only[];show é P (ç _ _) u c=_;rw[Ñ,I0];simp only[];by_cases d:(u.frozen? a&&u.frozen? p)=É
  .simp_all
  .rw[if_neg d,if_neg d];show é P (ç _ _) u c=_;rw[Ñ,V5 e];simp only[];show é P (ç _ _) u c=_;rw[Ñ,V5 f];simp only[];show é P (ç _ _) u c=_;rw[Ñ,aeU e f (by simpa using d)];rfl
end
section
variable{Y:ft}{g:Nat->Prop}{j:à->Prop}
def aeV{d:dF}(h:P.underlying t=À d)(u:Æ)(a:Array ý):(ø t).runT P u a=(ĥ d u,a):=by unfold ø;simp_all
theorem aeW(h:P.info? t=À zJ)(u:Æ)(a:Array ý):(ax t).runT P u a=(ĥ zJ.size u,a):=by
 unfold ax;show é P (ç _ _) u a=_;rw[Ñ];have:(Δ t).runT P u a=(ĥ zJ u,a):=by unfold Δ;simp_all
 rw[this];rfl
theorem V8(h:P.underlying t=À (ð e))(d:P.info? e=À zJ)(f:zJ.size≠0)(a b:Ú)(u:Æ)(c:Array ý):(ó t (Þ<|À a)<|Þ<|À b).runT P u c=(Ŭ a b).runT P u c:=by unfold ó ā Λ;show é P (ç _ _) u c=_;rw[Ñ,aeV h];simp only[];show é P (ç _ _) u c=_;grind [Ñ,aeW]
def iq(a:ġ)(r:Bool):Bool:=if a=az then r else !r
def V9{d:ġ}(k:d=az\/d=aK)(h:P.underlying t=À (ð e))(g:P.info? e=À zJ)(j:zJ.size≠0)(x y:Ö)(a b:Ú)(u:Æ)(c:Array ý): ((ŷ d t x y (Þ<|À a) (Þ<|À b)>>=λ_=>Ũ d t (Þ<|À a)<|Þ<|À b)>>=λv=>pure (ï v):ē Ο).runT P u c= match(Ŭ a b).runT P u c with
 |(ĥ r u',f)=>(ĥ (ï<|Ľ<|iq d r) u',f)
 |(bU z u',f)=>(bU z u',f):=by
 rcases k with rfl|rfl
 .show é P (ç (ç (ó t (Þ<|À a)<|Þ<|À b) λr=>aH<|Ľ r) λv=>aH<|ï v) u c=_;rw[Ñ,Ñ,V8 h g j];cases(Ŭ a b).runT P u c with
  |mk r f=>cases r<;>rfl
 .show é P (ç (ç (ó t (Þ<|À a)<|Þ<|À b) λr=>aH<|Ľ !r) λv=>aH<|ï v) u c=_;rw[Ñ,Ñ,V8 h g j];cases(Ŭ a b).runT P u c with
  |mk r f=>cases r<;>rfl
theorem aeX{m:ġ}{r:Á}{y:Ö}(E:o.op=dS m t qQ y r)(H:m=az\/m=aK)(h:P.underlying t=À (ð e))(T:P.info? e=À zJ)(V:zJ.size≠0)(I:∀z∈o.op.operands,mg X z):mF P X j o:=by
 have J:∀B:Ö->Â,ì B o=((ŷ m t qQ y (B qQ) (B y)>>=λ_=>Ũ m t (B qQ)<|B y)>>=λv=>pure<|ï v):=by intro B;unfold ì;rw[E]
 have W:∀(a:bE) (u:Æ) (n:Ο) (s:Æ),(ì a.eval o).run P u=ĥ n s->∃v,n=ï v:=by
  intro a u n s k;rw[J,Ä]at k;cases C:(ŷ m t qQ y (a.eval qQ) (a.eval y)>>=λ_=>Ũ m t (a.eval qQ)<|a.eval y).run P u with
  |ok v w=>rw[C]at k;cases k;exact⟨v,U⟩
  |halt z w=>rw[C]at k;cases k
 refine⟨?_,λa=> ?_,λa u n s k=>Ç<|W a u n s k,λa u f c s k=>by let⟨v,e⟩:=W a u _ s k;cases e⟩
 .intro Y g D Wa u w K hb L M p hl z s k hc;have N:=vR L M (I qQ<|by rw[E];simp[Ê]);have O:=vR L M (I y<|by rw[E];simp[Ê]);by_cases Q:mR (å ⟨D,[]⟩ qQ)\/mR (å ⟨D,[]⟩ y)
  .have hOk:jZ P (å ⟨D,[]⟩) o.op:=by
    rw[E];exact .Ci m t qQ y r λ_=>Î ⟨⟨e,h⟩,Q⟩
   exact(Ut K p.C hb (λf=>rfl) hOk λz K=>vR L M<|I z K).gi p hl k hc #[]
  .have n1:=λq=>Q<|Ç q;have n2:=λq=>Q<|Î q;rw[J]at k|-;generalize å ⟨D,[]⟩ qQ=v at N k n1;generalize å ⟨Wa,[]⟩ qQ=v' at N|-;generalize å ⟨D,[]⟩ y=l at O k n2;generalize å ⟨Wa,[]⟩ y=l' at O|-;cases N<;>first|exact absurd trivial n1|skip
   cases O<;>first|exact absurd trivial n2|skip
   rename_i a a' F b b' G;have fit:∀{c S:Ú},gX Y c S->xR u c.block/\xR w S.block:=by intro c S hcc;let⟨d,d',e2,fr,vB,hu,hw,qa,po,Nr,hfr⟩:=p.r _ _ hcc.1;refine⟨⟨d,e2,fr,hu,hfr⟩,d',e2,vB,hw,?_⟩;refine õ ?_ qa.I;grind
   let⟨fa,fa'⟩:=fit F;let⟨fb,fb'⟩:=fit G;rw[<-Ρ P _ u #[],V9 H h T V,V7 fa fb]at k;rw[V9 H h T V,V7 fa' fb'];rw[<-(It p.C F G),<-(Ug p.C F G)];by_cases q:(a.block==b.block)=É
   .rw[if_pos q]at k|-;cases k;exact⟨Y,_,w,#[],ft.M _,λ_ _ q=>Ç q,U,.nA (.mf _),p,ny.fT _ _ _,λ_ C=>absurd C fp,ß _⟩
   .rw[if_neg q]at k|-;by_cases q2:(u.frozen? a&&u.frozen? b)=É
    .grind
    .rw[if_neg q2]at k;have q3:¬(w.frozen? a'&&w.frozen? b')=É:=by
      intro q4;let⟨z1,z2⟩:=Ü.1 q4;exact q2<|Ü.2 ⟨p.G F z1,p.G G z2⟩
     rw[if_neg q3];cases k;exact⟨Y,_,w,#[],ft.M _,λ_ _ q=>Ç q,U,.nA (.mf _),p,ny.fT _ _ _,λ_ C=>absurd C fp,ß _⟩
 .rw[J];exact lD<|gp (Vi m t (λ_=>Î ⟨e,h⟩) qQ y _ _) λ_=>aeT H h _ _
end
def Ns(P:Õ)(s d:Á):Bool:=match P.underlying s,P.underlying d with
 |some (dh e),À ę=>(match P.underlying e with|some (Β .u8)=>É|_=>Ã)
 |some (ð _),À đ=>É
 |some đ,À (ð _)=>É
 |_,_=>Ã
def Nt(P:Õ)(t:Á):Bool:=match P.underlying t with
 |some (ð e)=>(match P.info? e with|some i=>i.size !=0|none=>Ã)
 |_=>Ã
def Nu(P:Õ)(b:à->Bool)(c:Callee)(a:List Ö)(d:List Á):Bool:=match c with
 |ĝ .min=>a.length !=0
 |ĝ bk=>a.length==1
 |ĝ cV=>a.length==2&&(match d with|[t,_]=>IZ P t|_=>Ã)
 |cg (aN f)=>b f&&a.length==1
 |_=>Ã
def Nv(P:Õ)(a:à->Bool):Op->Bool
 |cI _ _|.panic _=>É
 |dS c t _ _ _=>(c==az||c==aK)&&Nt P t
 |aL s d _=>Ns P s d
 |Ω c=>Nu P a c.callee c.args.toList c.argTypes.toList
 |_=>Ã
def Cq(P:Õ)(a:Nat->Bool)(b c:à->Bool)(o:au):Bool:=Nn P a b o||(Nv P c o.op&&o.op.operands.all (vT a))
def Fh(P:Õ)(c:à->Bool):Prop:=∀f,c f=É->∃a e,P.funcs[f]?=À a/\(a.name== "runtime.NumGoroutine")=Ã/\a.body.isNone=É/\Extern.findNext a=ë/\Extern.find a=À e/\
 (∀(Y:ft) (v b:Â),fl Y v b->fG P fl Y (e #[v]) (e #[b]))/\∀v,fE P<|e #[v]
theorem I2[zF P]{g:Nat->Bool}{k x:à->Bool}(C:Fh P x)(h:Cq P g k x o=É):mF P (λj=>g j=É) (λf=>k f=É) o:=by
 rcases Ŝ.1 h with h|h
 .exact aeb h
 .let⟨v,S⟩:=Ü.1 h;have q:∀z∈o.op.operands,mg (λj=>g j=É) z:=by
   grind [ŉ,IW,Ń]
  cases n:o.op with
  |makeInterface t y=>exact aec n q
  |panic y=>exact aef n q
  |binOp w t a b r=>
   rw[n]at v;let⟨T,m⟩:=Ü.1 (show((w==az||w==aK)&&Nt P t)=É from v);have D:w=az\/w=aK:=by grind
   unfold Nt at m;split at m
   .rename_i e E;split at m
    .rename_i i F;exact aeX n D E F (by simpa using m) q
    .cases m
   .cases m
  |convert s d y=>
   rw[n]at v;have m:Ns P s d=É:=v;unfold Ns at m;split at m
   .rename_i e u p;split at m
    .rename_i G;exact aep n u p G q
    .cases m
   .rename_i t u p;exact VP n (Ç ⟨u,p⟩) q
   .rename_i t u p;exact VP n (Î ⟨u,p⟩) q
   .cases m
  |call c=>
   rw[n]at v;let⟨H,I,B⟩:=c;have m:Nu P x H I.toList B.toList=É:=v;unfold Nu at m;split at m
   .exact ael n q
   .obtain⟨y,rfl⟩:=IY m;exact aez n q
   .let⟨u,p⟩:=Ü.1 m;obtain⟨y,z,rfl⟩:=Nl u;let⟨l⟩:=B;match l,p with
    |[t1,t2],p=>exact aeP n p q
   .rename_i f;let⟨u,p⟩:=Ü.1 m;obtain⟨y,rfl⟩:=IY p;let⟨V,e,J,K,L,M,N,O,Q⟩:=C f u;exact aer n J K L M N O Q q
   .cases m
  |_=>rw[n]at v;simp[Nv]at v
def nF(P:Õ)(a:Nat->Bool)(b d:à->Bool):aj->Bool
 |.ret|eN|dY _|eP _|eR _=>É
 |.seq x y=>nF P a b d x&&nF P a b d y
 |bx c x y=>vT a c&&nF P a b d x&&nF P a b d y
 |dZ _ c|eO c|ea c=>nF P a b d c
 |bP _ c _=>c.all<|Cq P a b d
 |dr _=>É
 |_=>Ã
def uQ[zF P]{g:Nat->Bool}{k x:à->Bool}(a:Fh P x):∀{c:aj},nF P g k x c=É->kE P (λj=>g j=É) (λf=>k f=É) c
 |.ret,_=> .uL
 |eN,_=> .rL
 |dY l,_=> .vH l
 |eP l,_=> .vM l
 |eR l,_=> .vN l
 |.seq y z,h=>by let⟨f,i⟩:=Ü.1 (show(nF P g k x y&&nF P g k x z)=É from h);exact .qI (uQ a f) (uQ a i)
 |bx c y z,h=>by let⟨f,i⟩:=Ü.1 (show(vT g c&&nF P g k x y&&nF P g k x z)=É from h);let⟨j,f⟩:=Ü.1 f;exact .sR (IW j) (uQ a f) (uQ a i)
 |dZ id c,h=> .qK id (uQ a<|show nF P g k x c=É from h)
 |eO c,h=> .vI (uQ a<|show nF P g k x c=É from h)
 |ea c,h=> .vL (uQ a<|show nF P g k x c=É from h)
 |bP id ops d,h=> .sS id d λo f=>by obtain⟨i,j,rfl⟩:=ŉ.1 f;exact I2 a<|Ń.1 (show ops.all (Cq P g k x)=É from h) i j
 |.rangeFunc _ _ _ _,h=>by simp[nF]at h
 |dr w,_=> .oK w
end Go.Proofs.Y.Lift
namespace Go.Proofs.Y.fA
open Go Go.Conc Go.Proofs.Y.Lift
def qd(t:ğ)(g:Nat)(l:dQ):Prop:=∀p a,Ě t p=À a->a.loc=l->bC t g p
def oN(t:ğ)(g:Nat)(l:dQ):Prop:=∀p a,Ě t p=À a->a.loc=l->a.write=É->bC t g p
def qd.r{t:ğ}{l:dQ}(h:qd t i l):oN t i l:=λp a b c _=>h p a b c
section
variable{t u:ğ}{g:Nat}{l:dQ}
theorem mI{a:dL}(h:Ě (t++u) i=À a):(i<t.size/\Ě t i=À a)\/(t.size<=i/\∃x∈u,x.act.touch?=À a/\(t++u)[i]?=À x):=by
 let⟨x,c,d⟩:=dM h;rcases getElem?_append_cases c with⟨b,e⟩|⟨b,f⟩
 .exact Ç ⟨b,by rwa[touchAt_of e]⟩
 .grind
theorem qd.C(h:qd t g l)(j:∀c∈u,∀b,c.act.touch?=À b->b.loc=l->c.g=g):qd (t++u) g l:=by
 intro p a e f;rcases mI e with⟨_,d⟩|⟨_,c,d,k,i⟩
 .exact(h p a d f).app u
 .have:=bm i;grind
theorem oN.r(h:oN t g l)(k:∀c∈u,∀b,c.act.touch?=À b->b.loc=l->b.write=É->c.g=g):oN (t++u) g l:=by
 intro p a e f i;rcases mI e with⟨_,d⟩|⟨_,c,d,m,j⟩
 .exact(h p a d f i).app u
 .have:=bm j;grind
def qd.xE(h:∀p a,Ě t p=À a->a.loc≠l):qd t g l:=λp a b c=>absurd c<|h p a b
theorem Nw(h:∀c,¬eD c t)(l:∀d∈u,d.g=g)(m:∀d∈u,∀b,d.act.touch?=À b->(b.write=Ã/\oN t g b.loc)\/qd t g b.loc\/(b.kind=Ŕ/\∀p a,Ě t p=À a->a.loc=b.loc->a.kind=eW->bC t g p)):∀c,¬eD c (t++u):=by
 intro c;refine noRace_append (h c) l λi a f d n b o r=> ?_;let⟨j,v,e,w⟩:=r;rcases m d n b o with⟨s,k⟩|q|⟨s,k⟩
 .rcases e with e|e
  .exact k i a f j e
  .grind
 .exact q i a f j
 .grind
theorem zY(f:∀c,¬eD c t)(r:∀d∈u,d.act.touch?=ë):∀c,¬eD c (t++u):=by
 intro c;rintro⟨i,j,g,⟨a,b,h,k,l⟩,m,n⟩;rcases mI k with⟨s,e⟩|⟨_,d,e,v,_⟩
 .rcases mI h with⟨o,p⟩|⟨o,_⟩
  .exact f c ⟨i,j,g,⟨a,b,p,e,l⟩,λq=>m<|ef u q,λq=>n<|ef u q⟩
  .omega
 .grind
end
structure fe where
 O:Nat->Prop
 I:Nat->Prop
 r:Ú->Prop
 N:Ú->Prop
 K:Ú->Prop
 d:Nat
 q:Prop
 w:Æ
def fe.M(l:fe):Nat->Prop:=λj=>l.O j\/l.I j
def fe.C(l:fe):Ú->Prop:=λa=>l.r a\/l.N a
structure fI(l:fe)(w w₁:Æ):Prop where
 r:w.heap.size<=w₁.heap.size
 I:∀j,l.M j->w₁.heap[j]?=w.heap[j]?
 N:∀a,l.C a->w₁.cell? a=w.cell? a
 Y:∀a,l.C a->w₁.frozen? a=w.frozen? a
 S:∀a,l.K a->(w.cell? a).isSome=É->(w₁.cell? a).isSome=É
theorem fI.fT(l:fe)(w:Æ):fI l w w:=⟨ß _,λ_ _=>rfl,λ_ _=>rfl,λ_ _=>rfl,λ_ _ h=>h⟩
def fI.fh{l:fe}{c:Æ}(h:fI l w u)(k:fI l u c):fI l w c:= ⟨õ h.r k.r,λj d=>(k.I j d).trans<|h.I j d,λj d=>(k.N j d).trans<|h.N j d,λj d=>(k.Y j d).trans<|h.Y j d,λw e q=>k.S w e<|h.S w e q⟩
def kJ(w:Æ)(b:Nat):Option (Nat×Nat):=match w.heap[b]? with
 |some (Č _ _ fr)=>À fr
 |_=>ë
def vU{w':Æ}(h:w'.heap[b]?=w.heap[b]?):kJ w' b=kJ w b:=by unfold kJ;rw[h]
theorem Wb(w:Æ)(a:Ú):w.frozen? a=match kJ w a.block with
 |some (lo,hi)=>decide (lo<=a.off)&&decide (a.off<hi)
 |none=>Ã:=by
 unfold Ĉ kJ;grind
def I3(h:kJ u a.block=kJ w a.block):u.frozen? a=w.frozen? a:=by rw[Wb,Wb,h]
def xS(l:fe)(e:ý):Prop:=
 (∃a:Ú,e.loc=û a/\(l.O a.block\/l.r a\/((l.I a.block\/l.N a)/\e.write=Ã/\e.sync=Ã)))\/e.loc=ů da\/(∃f,e.loc=ů (.extern f))\/e.loc=ů cK\/e.loc=ů dx\/
 ∃a:Ú,l.O a.block/\(e.loc=ů (.read a)\/e.loc=ů (.write a)\/e.loc=ů (Ķ a)\/e.loc=ů (cL a))
structure mh(l l':fe)(w w':Æ)(es:Array ý):Prop where
 C:w.heap.size<=w'.heap.size
 S:∀j,l'.O j->l.O j\/w.heap.size<=j
 fv:∀j,l'.O j->j<w'.heap.size
 I:l'.I=l.I
 r:l'.r=l.r
 M:l'.N=l.N
 k:l'.K=l.K
 jL:∀j,j<w.heap.size->¬l.O j->(∀a:Ú,a.block=j->¬l.r a)->w'.heap[j]?=w.heap[j]?
 N:∀a:Ú,a.block<w.heap.size->¬l.O a.block->¬l.r a->w'.cell? a=w.cell? a
 Y:∀a:Ú,a.block<w.heap.size->¬l.O a.block->kJ w' a.block=kJ w a.block
 f:w'.os=w.os
 g:w'.output=w.output
 m:w'.tape=w.tape
 c:∀e∈es,xS l' e
 h:l'.d=ŭ l.d es
 q:l'.q=l.q
 i:l.q->w'=w/\(∀e∈es,e.mute=É)/\l'.O=l.O
 b:l'.w=w'
structure Nx(t:ğ)(g:Nat)(l:fe):Prop where
 fq:∀a:Ú,l.O a.block->qd t g (û a)
 C:∀a:Ú,l.I a.block->oN t g (û a)
 I:∀a:Ú,l.r a->qd t g (û a)
 r:∀a:Ú,l.N a->oN t g (û a)
theorem Wc{l:fe}{e:ý}(h:xS l e){b:dL}(c:(è e).touch?=À b):∃a:Ú,b.loc=û a/\(l.O a.block\/l.r a\/((l.I a.block\/l.N a)/\b.write=Ã)):=by
 let⟨k,i,j⟩:=e;rcases h with⟨a,g,d⟩|h|⟨f,h⟩|h|h|⟨a,g,d⟩
 .simp only at g d;subst g;have:(è ⟨û a,i,j⟩).touch?=À ⟨û a,i,if j then Ŕ else eW⟩:=U;grind
 .simp only at h;subst h;simp[è,ÿ]at c
 .simp only at h;subst h;simp[è,ÿ]at c
 .simp only at h;subst h;simp[è,ÿ]at c
 .simp only at h;subst h;simp[è,ÿ]at c
 .simp only at d;rcases d with rfl|rfl|rfl|rfl<;>simp[è,ÿ]at c<;>subst c;all_goals grind
def aeY{l:fe}(d:∀j,l.O j->j<i)(k:∀j,l.I j->j<i)(g:∀a:Ú,l.C a->a.block<i){e:ý}(h:xS l e):(è e).low i:=by
 let⟨m,n,o⟩:=e;rcases h with⟨a,c,b⟩|h|⟨f,h⟩|h|h|⟨a,c,b⟩
 .simp only at c b;subst c;rcases b with h|h|⟨h|h,_⟩
  .exact d _ h
  .exact g _<|Ç h
  .exact k _ h
  .exact g _<|Î h
 .simp only at h;subst h;trivial
 .simp only at h;subst h;trivial
 .simp only at h;subst h;trivial
 .simp only at h;subst h;trivial
 .simp only at b;rcases b with rfl|rfl|rfl|rfl<;>exact d _ c
def Wg(B:Nat)(t:ğ):Prop:=∀a∈t,a.act.low B
def Wh(h:Wg i qJ){a:dL}(g:Ě qJ n=À a){x:Ú}(d:a.loc=û x):x.block<i:=by
 let⟨f,j,b⟩:=dM g;have c:=h f<|Û j;revert b c;cases f.act with
 |access e=>
  intro b c;simp only[ÿ,ž]at b;subst b;simp only at d;simp only[MemAct.low,d,Loc.low]at c;exact c
 |mark m=>
  intro b c;cases m<;>simp[ÿ]at b;all_goals
   subst b;simp only[Loc.cell.injEq]at d;subst d;exact c
 |_=>intro b _;simp[ÿ]at b
theorem nT{a:String}:∀op∈Í i F a V,op.g=i:=λop b=>by obtain⟨e,_,rfl⟩:=í (op:=op) b;rfl
structure iP(B0:Nat)(Live:Nat->Prop)(Y:Nat->Prop)(lot:Nat->fe)(w:Æ)(t:ğ):Prop where
 o:∀i j,Live i->Live j->i≠j->∀b,(lot i).O b->¬(lot j).M b
 h:∀i j,Live i->Live j->i≠j->∀a,(lot i).r a->¬(lot j).C a
 m:∀i,Live i->∀b,(lot i).O b->¬(lot i).I b
 g:∀i,Live i->∀a,(lot i).r a->¬(lot i).N a
 I:∀i,Live i->∀b,(lot i).M b->¬Y b
 e:∀i,Live i->∀a,(lot i).C a->Y a.block
 fv:∀i,Live i->∀b,(lot i).M b->b<w.heap.size
 N:∀b,Y b->b<w.heap.size
 r:∀i,Live i->fI (lot i) (lot i).w w
 S:∀i,Live i->Nx t i (lot i)
 f:∀i,Live i->Τ t i=(lot i).d
 l:∀said,¬eD said t
 q:Wg w.heap.size t
 s:∀p a c,Ě t p=À a->a.loc=.obj c->a.kind=eW->c<B0
 n:∀i,Live i->∀a,(lot i).K a->Y a.block/\∀k,Live k->¬(lot k).r a
def gu(lot:Nat->fe)(i:Nat)(l:fe):Nat->fe:=λk=>if k=i then l else lot k
theorem gS(a:Nat->fe)(i:Nat)(l:fe):gu a i l i=l:=if_pos U
theorem gG(a:Nat->fe)(l:fe)(h:k≠i):gu a i l k=a k:=if_neg h
section
variable{B0:Nat}{Live Y:Nat->Prop}{lot:Nat->fe}{w':Æ}{t u:ğ}
def Ny{g:Nat}(a:k≠g)(t:ğ){u:ğ}(b:∀c∈u,c.g=g):Τ (t++u) k=Τ t k:= Deaf_other t (g:=k) (g':=g) (ą a) _ b
def iP.at(h:iP B0 Live Y lot w t)(d:Nat):iP B0 Live Y lot (w.at d) t:= ⟨h.o,h.h,h.m,h.g,h.I,h.e,h.fv,h.N,λi a=>⟨(h.r i a).r,(h.r i a).I,(h.r i a).N,(h.r i a).Y,(h.r i a).S⟩,h.S,h.f,h.l,h.q,h.s,h.n⟩
def iP.aeZ(h:iP B0 Live Y lot w t)(r:Live i){s:fe}(l:mh (lot i) s w w' V)(E:à)(F:String): iP B0 Live Y (gu lot i s) w' (t++Í i E F V):=by
 have G:=l.S;have Q:∀b,s.M b->(lot i).M b\/w.heap.size<=b:=λb g=>g.elim (λq=>(G b q).imp Ç id) (λq=>Ç<|Î<|by rwa[<-l.I]);have J:∀a,s.C a↔(lot i).C a:=λa=>by unfold fe.C;rw[l.r,l.M]
 have I:=λk f a d=>h.N _<|h.e k f a d;have L:∀k,Live k->k≠i->∀b,(lot k).M b->¬s.O b:=by
  intro k f y b g c;rcases G b c with q|q
  .exact h.o i k r f (ą y) b q g
  .have:=h.fv k f b g;omega
 have H:∀m∈Í i E F V,∀b,m.act.touch?=À b->∃a:Ú,b.loc=û a/\(s.O a.block\/s.r a\/((s.I a.block\/s.N a)/\b.write=Ã)):=by intro m o b g;obtain⟨e,N,rfl⟩:=í o;exact Wc (l.c e N) g
 have T:∀a:Ú,s.O a.block->qd t i (û a):=by
  intro a d;rcases G _ d with q|q
  .exact(h.S i r).fq a q
  .exact .xE λp x P n=>by have:=Wh h.q P n;omega
 have D:Nx t i s:=⟨T,λa d=>(h.S i r).C a (by rwa[<-l.I]),λa d=>(h.S i r).I a (by rwa[<-l.r]),λa d=>(h.S i r).r a<|by rwa[<-l.M]⟩;refine⟨?_,?_,?_,?_,?_,?_,?_,λb g=>Ô (h.N b g) l.C,?_,?_,?_,?_,?_,?_,?_⟩
 .intro k j f u y b g;by_cases c:k=i
  .subst c;rw[gS]at g;rw[gG lot _<|ą y];exact λq=>L j u (ą y) b q g
  .rw[gG lot _ c]at g;by_cases v:j=i
   .subst v;rw[gS];intro q;rcases Q b q with z|z
    .exact h.o k j f u y b g z
    .have:=h.fv k f b<|Ç g;omega
   .rw[gG lot _ v];exact h.o k j f u y b g
 .intro k j f u y a d;by_cases c:k=i
  .subst c;rw[gS,l.r]at d;rw[gG lot _<|ą y];exact h.h k j f u y a d
  .rw[gG lot _ c]at d;by_cases v:j=i
   .subst v;rw[gS,J];exact h.h k j f u y a d
   .rw[gG lot _ v];exact h.h k j f u y a d
 .intro k f b g;by_cases c:k=i
  .subst c;rw[gS]at g|-;rw[l.I];rcases G b g with z|z
   .exact h.m k f b z
   .intro q;have:=h.fv k f b<|Î q;omega
  .rw[gG lot _ c]at g|-;exact h.m k f b g
 .intro k f a d;by_cases c:k=i
  .subst c;rw[gS]at d|-;rw[l.M];rw[l.r]at d;exact h.g k f a d
  .rw[gG lot _ c]at d|-;exact h.g k f a d
 .intro k f b g;by_cases c:k=i
  .subst c;rw[gS]at g;rcases Q b g with z|z
   .exact h.I k f b z
   .intro y;have:=h.N b y;omega
  .rw[gG lot _ c]at g;exact h.I k f b g
 .intro k f a d;by_cases c:k=i
  .subst c;rw[gS,J]at d;exact h.e k f a d
  .rw[gG lot _ c]at d;exact h.e k f a d
 .intro k f b g;by_cases c:k=i
  .subst c;rw[gS]at g;exact g.elim (l.fv b) λq=>Ô (h.fv k f b<|Î<|by rwa[<-l.I]) l.C
  .rw[gG lot _ c]at g;exact Ô (h.fv k f b g) l.C
 .intro k f;by_cases c:k=i
  .subst c;rw[gS,l.b];exact fI.fT _ _
  .rw[gG lot _ c];refine(h.r k f).fh ⟨l.C,λb g=>l.jL b (h.fv k f b g) (λq=>h.o i k r f (ą c) b q g) (λa d q=>h.I k f b g<|by rw[<-d];exact h.e i r a<|Ç q),λa d=>l.N a (I k f a d) (λq=>h.I i r _ (Ç q)<|h.e k f a d) λq=>h.h i k r f (ą c) a q d,λa d=>I3 (l.Y a (I k f a d) λq=>h.I i r _ (Ç q)<|h.e k f a d),λa d q=> ?_⟩;let⟨y,v⟩:=h.n k f a d;rwa[l.N a (h.N _ y) (λq=>h.I i r _ (Ç q) y)<|v i r]
 .intro k f;by_cases c:k=i
  .subst c;rw[gS];exact⟨λa d=>(D.fq a d).C λm o _ _ _=>nT m o,λa d=>(D.C a d).r λm o _ _ _ _=>nT m o,λa d=>(D.I a d).C λm o _ _ _=>nT m o,λa d=>(D.r a d).r λm o _ _ _ _=>nT m o⟩
  .rw[gG lot _ c];have W:∀a:Ú,(lot k).O a.block->∀m∈Í i E F V,∀b,m.act.touch?=À b->b.loc=û a->False:=by
    intro a d m o b g n;let⟨x,y,v⟩:=H m o b g;rw[y]at n;injection n with n;subst n;rcases v with q|q|⟨q|q,_⟩
    .exact L k f c _ (Ç d) q
    .exact h.I k f _ (Ç d)<|h.e i r x<|Ç<|by rwa[<-l.r]
    .exact h.o k i f r c _ d<|Î<|by rwa[<-l.I]
    .exact h.I k f _ (Ç d)<|h.e i r x<|Î<|by rwa[<-l.M]
   have X:∀a:Ú,(lot k).I a.block->∀m∈Í i E F V,∀b,m.act.touch?=À b->b.loc=û a->b.write=É->False:=by
    intro a d m o b g n B;let⟨x,y,v⟩:=H m o b g;rw[y]at n;injection n with n;subst n;rcases v with q|q|⟨_,q⟩
    .exact L k f c _ (Î d) q
    .exact h.I k f _ (Î d)<|h.e i r x<|Ç<|by rwa[<-l.r]
    .rw[q]at B;cases B
   have S:∀a:Ú,(lot k).C a->∀m∈Í i E F V,∀b,m.act.touch?=À b->b.loc=û a->(s.I a.block\/s.N a)/\b.write=Ã:=by
    intro a d m o b g n;let⟨x,y,v⟩:=H m o b g;rw[y]at n;injection n with n;subst n;rcases v with q|q|q
    .exfalso;rcases G _ q with z|z
     .exact h.I i r _ (Ç z)<|h.e k f x d
     .have:=I k f x d;omega
    .exact absurd d<|h.h i k r f (ą c) x<|by rwa[<-l.r]
    .exact q
   refine⟨λa d=>((h.S k f).fq a d).C λm o b g n=>(W a d m o b g n).elim,λa d=>((h.S k f).C a d).r λm o b g n B=>(X a d m o b g n B).elim,λa d=>((h.S k f).I a d).C λm o b g n=> ?_,λa d=>((h.S k f).r a d).r λm o b g n B=> ?_⟩
   .exfalso;obtain⟨q|q,_⟩:=S a (Ç d) m o b g n
    .exact h.I i r _ (Î<|by rwa[<-l.I])<|h.e k f a<|Ç d
    .exact h.h k i f r c a d<|Î<|by rwa[<-l.M]
   .have:=(S a (Î d) m o b g n).2;rw[this]at B;cases B
 .intro k f;by_cases c:k=i
  .subst c;rw[gS,l.h,Deaf_own,h.f k f]
  .rw[gG lot _ c,Ny c t nT];exact h.f k f
 .refine Nw h.l nT λm o b g=> ?_;let⟨a,y,v⟩:=H m o b g;rw[y];rcases v with q|q|⟨q,B⟩
  .exact Î<|Ç<|D.fq a q
  .exact Î<|Ç<|D.I a q
  .exact Ç ⟨B,q.elim (D.C a)<|D.r a⟩
 .intro m o;rcases Ĝ.1 o with q|q
  .exact MemAct.low_mono l.C<|h.q m q
  .obtain⟨e,N,rfl⟩:=í q;refine aeY l.fv (λj u=>Ô (h.fv i r j<|Î<|by rwa[<-l.I]) l.C) (λa d=> ?_)<|l.c e N;rw[J]at d;exact Ô (I i r a d) l.C
 .intro p a c d n f;rcases mI d with⟨_,y⟩|⟨_,m,y,v,_⟩
  .exact h.s p a c y n f
  .let⟨x,P,_⟩:=H m y a v;rw[P]at n;cases n
 .intro k f a d;have y:∀j,(gu lot i s j).r=(lot j).r:=λj=>by
   by_cases e:j=i
   .subst e;rw[gS,l.r]
   .rw[gG lot _ e]
  have c:(gu lot i s k).K=(lot k).K:=by
   by_cases e:k=i
   .subst e;rw[gS,l.k]
   .rw[gG lot _ e]
  rw[c]at d;exact⟨(h.n k f a d).1,λj u=>by rw[y];exact(h.n k f a d).2 j u⟩
end
def Fi(Live Y:Nat->Prop)(d:Nat->fe)(b:dL):Prop:=(∃a:Ú,b.loc=û a/\Y a.block/\∀k,Live k->¬(d k).C a)\/∃c,b.loc=.obj c/\Y c/\b.kind=Ŕ
structure pv(Live Y:Nat->Prop)(lot:Nat->fe)(w w':Æ):Prop where
 r:w'.heap.size=w.heap.size
 jL:∀j,¬Y j->w'.heap[j]?=w.heap[j]?
 M:∀k,Live k->∀a,(lot k).C a->w'.cell? a=w.cell? a
 N:∀k,Live k->∀a,(lot k).C a->w'.frozen? a=w.frozen? a
 I:∀a,(w.cell? a).isSome=É->(w'.cell? a).isSome=É
theorem pv.fT(Live Y:Nat->Prop)(a:Nat->fe)(w:Æ):pv Live Y a w w:=⟨U,λ_ _=>rfl,λ_ _ _ _=>rfl,λ_ _ _ _=>rfl,λ_ h=>h⟩
structure uR(w':Æ)(l l':fe):Prop where
 O:l'.O=l.O
 N:l'.I=l.I
 r:l'.r=l.r
 I:l'.N=l.N
 K:l'.K=l.K
 w:l'.w=l.w\/l'.w=w'
theorem uR.fT(w':Æ)(l:fe):uR w' l l:=⟨U,U,U,U,U,Ç U⟩
def uR.M{w':Æ}{l a:fe}(h:uR w' l a):a.M=l.M:=by unfold fe.M;rw[h.O,h.N]
def uR.C{w':Æ}{l a:fe}(h:uR w' l a):a.C=l.C:=by unfold fe.C;rw[h.r,h.I]
def fI.ae0{l c:fe}(h:uR w l c)(r:fI l u W):fI c u W:= ⟨r.r,by rw[h.M];exact r.I,by rw[h.C];exact r.N,by rw[h.C];exact r.Y,by rw[h.K];exact r.S⟩
section
variable{Live Y:Nat->Prop}{lot o:Nat->fe}{w':Æ}{t u:ğ}
def iP.G(h:iP n Live Y lot w t)(m:∀k,uR w' (lot k)<|o k)(s:pv Live Y lot w w')(B:∀l∈u,∀b,l.act.touch?=À b->Fi Live Y lot b)(g:∀l∈u,l.act.low w.heap.size)(E:∀F,¬eD F (t++u))(G:∀k,Live k->Τ (t++u) k=(o k).d):iP n Live Y o w' (t++u) where
 o i j hi v lb b q:=by rw[(m j).M];exact h.o i j hi v lb b<|by rwa[<-(m i).O]
 h i j hi v lb a f:=by rw[(m j).C];exact h.h i j hi v lb a<|by rwa[<-(m i).r]
 m i hi b q:=by rw[(m i).N];exact h.m i hi b<|by rwa[<-(m i).O]
 g i hi a f:=by rw[(m i).I];exact h.g i hi a<|by rwa[<-(m i).r]
 I i hi b q:=h.I i hi b (by rwa[<-(m i).M]);e i hi a f:=h.e i hi a (by rwa[<-(m i).C]);fv i hi b q:=by rw[s.r];exact h.fv i hi b<|by rwa[<-(m i).M]
 N b q:=by rw[s.r];exact h.N b q
 r i hi:=by
  rcases(m i).w with e|e
  .rw[e];refine((h.r i hi).fh ⟨dy s.r.symm,λj v=>s.jL j<|h.I i hi j v,λa f=>s.M i hi a f,λa f=>s.N i hi a f,λa _=>s.I a⟩).ae0<|m i
  .rw[e];exact fI.fT _ _
 S i hi:=by
  have z:∀a:Ú,(lot i).M a.block->∀l∈u,∀b,l.act.touch?=À b->b.loc=û a->False:=by
   intro a f l e b q g;rcases B l e b q with⟨x,r,y,_⟩|⟨c,r,_⟩
   .rw[r]at g;injection g with g;subst g;exact h.I i hi _ f y
   .rw[r]at g;cases g
  have D:∀a:Ú,(lot i).C a->∀l∈u,∀b,l.act.touch?=À b->b.loc=û a->False:=by
   intro a f l e b q g;rcases B l e b q with⟨x,r,_,y⟩|⟨c,r,_⟩
   .rw[r]at g;injection g with g;subst g;exact y i hi f
   .rw[r]at g;cases g
  exact⟨λa f=>((h.S i hi).fq a<|by rwa[<-(m i).O]).C λl e b q g=>(z a (Ç<|by rwa[<-(m i).O]) l e b q g).elim,λa f=>((h.S i hi).C a<|by rwa[<-(m i).N]).r λl e b q g _=>(z a (Î<|by rwa[<-(m i).N]) l e b q g).elim,λa f=>((h.S i hi).I a<|by rwa[<-(m i).r]).C λl e b q g=>(D a (Ç<|by rwa[<-(m i).r]) l e b q g).elim,λa f=>((h.S i hi).r a<|by rwa[<-(m i).I]).r λl e b q g _=>(D a (Î<|by rwa[<-(m i).I]) l e b q g).elim⟩
 f:=G;l:=E;q l e:=by rw[s.r];exact(Ĝ.1 e).elim (h.q l)<|g l
 s p a c f g z:=by
  rcases mI f with⟨_,r⟩|⟨_,l,r,y,_⟩
  .exact h.s p a c r g z
  .rcases B l r a y with⟨x,D,_⟩|⟨x,_,_,D⟩
   .rw[D]at g;cases g
   .rw[D]at z;cases z
 n i hi a f:=by rw[(m i).K]at f;exact⟨(h.n i hi a f).1,λk z=>by rw[(m k).r];exact(h.n i hi a f).2 k z⟩
end
structure gw(l:fe):Prop where
 c:∀b,l.O b->¬l.I b
 Y:∀a,l.r a->¬l.N a
 N:∀a,l.C a->¬l.M a.block
 fv:∀b,l.M b->b<l.w.heap.size
 I:∀a,l.C a->a.block<l.w.heap.size
 S:∀a,l.K a->¬l.M a.block/\a.block<l.w.heap.size/\¬l.r a
def iP.M{Live Y:Nat->Prop}{c:Nat->fe}(h:iP n Live Y c w qJ)(b:Live i):gw {c i with w:=w} where
 c:=h.m i b;Y:=h.g i b;N a ha hb:=h.I i b _ hb<|h.e i b a ha;fv:=h.fv i b;I a ha:=h.N _<|h.e i b a ha;S a ha:=⟨λq=>h.I i b _ q (h.n i b a ha).1,h.N _ (h.n i b a ha).1,(h.n i b a ha).2 i b⟩
abbrev Jd:=fe->Ó->Prop
inductive fj(P:Õ)(main:Bool)(Stop:Jd):Jd
 |fB {l:fe} {g:Ó} (h:∀w₁,fI l l.w w₁->Stop {l with w:=w₁} g):fj P main Stop l g
 |jF {l:fe} {g:Ó} (G':Æ->Ó) (W':Æ->Æ) (E':Æ->Array ý) (L':Æ->fe) (iI:g.status=Ð)
  (h:∀w₁,fI l l.w w₁->Ù P main g w₁=aR (G' w₁) (W' w₁) (E' w₁)) (hd:∀w₁,fI l l.w w₁->mh l (L' w₁) w₁ (W' w₁) (E' w₁))
  (ih:∀w₁,fI l l.w w₁->fj P main Stop (L' w₁) (G' w₁)):fj P main Stop l g
instance:Nonempty fe:=⟨⟨λ_=>False,λ_=>False,λ_=>False,λ_=>False,λ_=>False,0,False,default⟩⟩
instance:Nonempty (Goroutine×World×Array Event×fe):=⟨(default,default,#[],Classical.choice inferInstance)⟩
section
variable{main:Bool}{Stop m:Jd}
def fj.mk{l:fe}(i:g.status=Ð) (h:∀a,fI l l.w a->∃b c d e,Ù P main g a=aR b c d/\mh l e a c d/\fj P main Stop e b):fj P main Stop l g:=by
 let p:=λ(a:Æ) (x:Goroutine×World×Array Event×fe)=>Ù P main g a=aR x.1 x.2.1 x.2.2.1/\mh l x.2.2.2 a x.2.1 x.2.2.1/\fj P main Stop x.2.2.2 x.1
 have f:∀a,fI l l.w a->p a (Classical.epsilon<|p a):=λa r=>Classical.epsilon_spec (let⟨b,c,d,e,h⟩:=h a r;⟨(b,c,d,e),h⟩);exact .jF (λa=>(Classical.epsilon<|p a).1) (λa=>(Classical.epsilon<|p a).2.1) (λa=>(Classical.epsilon<|p a).2.2.1) (λa=>(Classical.epsilon<|p a).2.2.2) i (λa r=>(f a r).1) (λa r=>(f a r).2.1) λa r=>(f a r).2.2
def fj.jS{l:fe}{w₁:Æ}(h:fj P main Stop l g)(r:fI l l.w w₁):fj P main Stop {l with w:=w₁} g:=by
 have e:∀{a b:Æ},fI {l with w:=w₁} a b->fI l a b:=λq=>⟨q.r,q.I,q.N,q.Y,q.S⟩;cases h with
 |fB h=>exact .fB λc d=>h c<|r.fh<|e d
 |jF f i j m n h o p=>
  exact .jF f i j m n (λc d=>h c<|r.fh<|e d) (λc d=>let q:=o c<|r.fh<|e d;⟨q.C,q.S,q.fv,q.I,q.r,q.M,q.k,q.jL,q.N,q.Y,q.f,q.g,q.m,q.c,q.h,q.q,q.i,q.b⟩) λc d=>p c<|r.fh<|e d
def fj.fN(a:∀l g,Stop l g->m l g){l:fe}(h:fj P main Stop l g):fj P main m l g:=by
 induction h with
 |fB h=>exact .fB λb r=>a _ _<|h b r
 |jF b r c d e h f _ i=>exact .jF b r c d e h f i
def fj.fh{l:fe}(h:fj P main (fj P main Stop) l g):fj P main Stop l g:=by
 induction h with
 |fB h=>exact h _<|fI.fT _ _
 |jF a b c d e h f _ i=>exact .jF a b c d e h f i
def fj.lQ(a:∀l g,Stop l g->fj P main m l g){l:fe}(h:fj P main Stop l g):fj P main m l g:=(h.fN a).fh
end
inductive gy where
 |fB:gy
 |jF (k:Æ->gy):gy
def Wi(x:gy):gy->Prop
 |.fB=>False
 |.jF k=>∃w,x=k w
def Wj:WellFounded Wi:=⟨λa=>by
 induction a with
 |fB=>exact⟨_,λy h=>h.elim⟩
 |jF k b=>exact⟨_,λy ⟨w,h⟩=>h▸b w⟩⟩
def kQ(P:Õ)(b:Bool)(c:Jd):gy->Jd
 |.fB,l,g=>∀a,fI l l.w a->c {l with w:=a} g
 |.jF k,l,g=>g.status=Ð/\∀a,fI l l.w a->∃d e f h,Ù P b g a=aR d e f/\mh l h a e f/\kQ P b c (k a) h d
section
variable{main:Bool}{Stop:Jd}
theorem jh{l:fe}(h:fj P main Stop l g):∃tr,kQ P main Stop tr l g:=by
 induction h with
 |fB h=>exact⟨.fB,h⟩
 |@jF l g G' W' E' L' iI h hd _ ih=>
  have b:∀a,∃tr,fI l l.w a->kQ P main Stop tr (L' a) (G' a):=by
   intro a;by_cases r:fI l l.w a
   .grind
   .exact⟨.fB,λq=>absurd q r⟩
  refine⟨.jF λa=>Classical.choose<|b a,iI,λa r=>⟨G' a,W' a,E' a,L' a,h a r,hd a r,Classical.choose_spec (b a) r⟩⟩
end
theorem ae1{l:fe}{b:Nat->Prop}(d:∀j,X j->l.O j)(f:∀j,b j->l.I j){e:ý}(h:IP X b e):xS l e:=by
 rcases h with⟨a,c,g,i⟩|h|h
 .refine Ç ⟨a,c,?_⟩;grind
 .exact Î<|Ç h
 .exact Î<|Î<|Ç h
theorem ae2{b:Nat->Prop}(h:∀e∈V,IP X b e)(d:Nat):ŭ d V=d:=by refine bn (λe c=> ?_) d;rcases h e c with⟨a,g,_⟩|h|⟨f,h⟩;all_goals grind
theorem gL{w':Æ}(h:w'.heap[a.block]?=w.heap[a.block]?):w'.cell? a=w.cell? a:=by unfold Ġ;rw[h]
def vV(h:u.heap[a.block]?=w.heap[a.block]?):u.frozen? a=w.frozen? a:=by unfold Ĉ;rw[h]
def ae3{t:(Nat->Prop)->Ó->Æ->Prop}{O:Nat->Prop}(h:uN P yQ X t O g w):∀l:fe,l.w=w->(∀j,O j->l.O j)->(∀j,X j->l.I j)->(∀j,l.O j->j<w.heap.size)->¬l.q-> fj P yQ (λa b=>∃f,t f b a.w/\(∀j,O j->f j)/\(∀j,f j->a.O j)/\(∀j,l.O j->a.O j)/\(∀j,a.O j->l.O j\/f j)/\(∀j,a.O j->l.O j\/w.heap.size<=j)/\a.I=l.I/\a.r=l.r/\a.N=l.N/\a.d=l.d/\a.q=l.q/\a.K=l.K) l g:=by
 induction h with
 |@fB O g w h=>
  intro l e i m _ _;refine .fB λb r=>⟨O,h b ⟨by rw[<-e];exact r.r,λj c=>by rw[r.I j (c.elim (λq=>Ç<|i j q) λq=>Î<|m j q),e]⟩,λ_ q=>q,i,λ_ q=>q,λ_ q=>Ç q,λ_ q=>Ç q,U,U,U,U,U,U⟩
 |@jF O g w G' W' E' f iI h hd _ ih=>
  intro l e i m C u;refine .mk iI λb r=> ?_;have n:xM (λj=>O j\/X j) w b:=⟨by rw[<-e];exact r.r,λj c=>by rw[r.I j (c.elim (λq=>Ç<|i j q) λq=>Î<|m j q),e]⟩;have D:=hd b n;have o:=n.r;have v:∀j,(l.O j\/f b j)->j<(W' b).heap.size:=λj c=>c.elim (λq=>Ô (C j q)<|õ o D.r)<|D.fv j;have p:∀j,j<b.heap.size->¬l.O j->(W' b).heap[j]?=b.heap[j]?:=λj c k=>D.jL j c λq=>k<|i j q;refine⟨G' b,W' b,E' b,{l with O:=λj=>l.O j\/f b j,w:=W' b},h b n,⟨D.r,λj c=>c.elim Ç λq=>(D.I j q).imp (i j) id,v,U,U,U,U,λj c k _=>p j c k,λa s k _=>gL<|p _ s k,λa s k=>vU<|p _ s k,D.N,D.S,D.Y,λx E=>ae1 (l:={l with O:=λj=>l.O j\/f b j,w:=W' b}) (λj q=>Î q) m<|D.C x E,(ae2 D.C _).symm,U,λq=>absurd q u,U⟩,?_⟩;have:=ih b n {l with O:=λj=>l.O j\/f b j,w:=W' b} U (λj q=>Î q) m v u;apply this.fN;rintro N Q ⟨F,G,B,H,I,J,L,M⟩;refine⟨F,G,λj q=>B j<|D.M j q,H,λj q=>I j<|Ç q,λj q=> ?_,λj q=> ?_,M⟩
  .rcases J j q with(z|z)|z
   .exact Ç z
   .exact Î<|B j z
   .exact Î z
  .rcases L j q with(z|z)|z
   .exact Ç z
   .rcases D.I j z with y|y
    .exact Ç<|i j y
    .exact Î<|õ o y
   .exact Î<|õ (õ o D.r) z
def ko(a:Ú):ý:=⟨û a,Ã,É⟩
def mJ(a:Ú):ý:=⟨û a,É,É⟩
def jM(m:Mark):ý:=⟨ů m,Ã,É⟩
def fX:Int:=4294967296
def Cr(c:Nat):Array ý:=#[⟨.obj c,Ã,É⟩,⟨.obj c,É,É⟩]
section
variable(P:Õ)(main:Bool)
def Fj(m:Mark)(N:Jd):Jd:=λl g=>g.status=Ð/\∃a,(∀b,Ù P main g b=aR a b #[jM m])/\fj P main N l a
def Wk(a:Ú)(N:Int->Jd):Jd:=λl g=>g.status=Ð/\∀v,∃c,(∀b:Æ,b.cell? a=À (Ć æ v)->Ù P main g b=aR c b #[ko a])/\fj P main (N v) l c
def Nz(a:Ú)(d:Int)(N:Int->Jd):Jd:=λl g=>g.status=Ð/\∀v,∃c,(∀b:Æ,b.cell? a=À (Ć æ v)->b.frozen? a=Ã->Ù P main g b=aR c (b.setCell a<|Ć æ<|æ.wrap<|v+d) #[ko a,mJ a])/\N (æ.wrap<|v+d) l c
def ae4(a:Ú)(v:Int)(N:Jd):Jd:=λl g=>g.status=Ð/\∃c,(∀(b:Æ) (x:Int),b.cell? a=À (Ć æ x)->b.frozen? a=Ã->Ù P main g b=aR c (b.setCell a<|Ć æ v) #[mJ a])/\fj P main N l c
def ae5(a:Ú)(N:Jd):Jd:=λl g=>g.status=Ð/\g.offers=ë/\(∀b:Æ,b.cell? a=À (Ć ŗ 0)->Ù P main g b=aR {g with status:=Ů} b #[])/\
 ∃c,(∀(b:Æ) (n:Int),n≠0->b.cell? a=À (Ć ŗ n)->b.frozen? a=Ã->Ù P main g b=aR c (b.setCell a<|Ć ŗ<|n-1) (semEvents a))/\fj P main N l c
def ae6(a:Ú)(N:Jd):Jd:=λl g=>g.status=Ð/\mayWake P g=É/\∃c,c.status=Ð/\(∀(b:Æ) (n:Int),b.cell? a=À (Ć ŗ n)->b.frozen? a=Ã->Ù P main g b=aR c (b.setCell a<|Ć ŗ<|ŗ.wrap<|n+1) (semEvents a))/\N l c
def vW(c:Nat)(z:Â)(N:Option Â->Jd):Jd:=λl g=>g.status=Ð/\g.offers=ë/\(∀x,Ù P main g x=.comm g #[θ c z] É (.recv É) x #[])/\
 ∀x:Option Â,fj P main (N x) l {g with frame:=g.frame.finish (ſ #[x.getD z,Ľ x.isSome])}
def zZ(c:Nat)(v:Â)(N:Jd):Jd:=λl g=>g.status=Ð/\g.offers=ë/\(∀a,∃b,Ù P main g a=.comm g #[scase c v b] É .send a #[])/\fj P main N l {g with frame:=g.frame.finish ľ}
def I4(c:Nat)(N:Jd):Jd:=λl g=>g.status=Ð/\mayWake P g=É/\∃a,a.status=Ð/\(∀(b:Æ) cap buf s r tm,b.heap[c]?=À (χ cap buf Ã s r tm)->Ù P main g b=aR a (b.setChan c cap buf É s r tm) (Cr c))/\fj P main N l a
def oO(n:Nat):Jd:=λl g=>QuitsD P n l.d g
inductive SP where
 |fY (n:Nat)
 |ld (v:Int) (m:Nat)
def Cs(a:Ú)(B:Nat)(d e:Int->Jd)(p:SP):Jd:=λl g=>∃T:SP->Ó->Prop,T p g/\∀p g,T p g->g.status=Ð/\match p with
 |.fY (n+1)=>n+1<=B/\(T (.fY 0) g\/∀b,∃c,Ù P main g b=aR c b #[]/\T (.fY n) c)
 |.fY 0=>∀v,∃c,(∀b:Æ,b.cell? a=À (Ć æ v)->Ù P main g b=aR c b #[ko a])/\(if 0<=v/\v<fX then v<1000000->fj P main (d v) l c else(fX<=v/\v<fX*2147483648/\v%fX<1000000)->∃m,m<=B/\T (.ld v m) c)
 |.ld v (m+1)=>fX<=v/\m+1<=B/\(T (.ld v 0) g\/∀b,∃c,Ù P main g b=aR c b #[]/\T (.ld v m) c)
 |.ld v 0=>fX<=v/\(∃c,(∀b:Æ,b.cell? a=À (Ć æ v)->b.frozen? a=Ã->Ù P main g b=aR c (b.setCell a<|Ć æ<|æ.wrap<|v+1) #[ko a,mJ a])/\fj P main (e v) l c)/\
  ∃c,(∀(b:Æ) (x:Int),x≠v->b.cell? a=À (Ć æ x)->b.frozen? a=Ã->Ù P main g b=aR c b #[ko a])/\∃n,n<=B/\T (.fY n) c
end
section
variable{P:Õ}{main:Bool}
def I5{e f:Int->Jd}{p:SP}{l:fe}{w₁:Æ}(h:Cs P main a i e f p l g)(r:fI l l.w w₁):Cs P main a i e f p {l with w:=w₁} g:=by
 let⟨T,o,h⟩:=h;refine⟨T,o,λp g j=>⟨(h p g j).1,?_⟩⟩;have:=(h p g j).2;match p,this with
 |.fY (n+1),q=>exact q
 |.fY 0,q=>
  intro v;let⟨c,d,b⟩:=q v;refine⟨c,d,?_⟩;by_cases k:0<=v/\v<fX
  .rw[if_pos k]at b|-;exact λq=>(b q).jS r
  .rw[if_neg k]at b|-;exact b
 |.ld v (m+1),q=>exact q
 |.ld v 0,⟨q0,⟨c,d,b⟩,q⟩=>exact⟨q0,⟨c,d,b.jS r⟩,q⟩
end
inductive iy where
 |no|iz|rQ (c:Nat) (z:Â)
inductive vY(g0:Ó):iy->Ó->Prop
 |gi {k:iy}:vY g0 k g0
 |nG (h:g0.status=Ð) (ho:g0.offers=ë):vY g0 .iz {g0 with status:=Ů}
 |sU (c:Nat) (z:Â) (h:g0.status=Ð):vY g0 (.rQ c z) (Γ g0 #[θ c z]<|.recv É)
 |mV (c:Nat) (z:Â) (h:g0.status=Ð):vY g0 (.rQ c z) {Γ g0 #[θ c z] (.recv É)with status:=Ð}
section
variable{P:Õ}
theorem ae7(h:g.status=Ð\/g.status=Ğ)(w:Æ):g.again w=g:=by unfold ι;grind
theorem NA{a o:Ó}(h:o.status=Ð\/o.status=Ğ):ţ P g a w o=o:=by unfold ţ;grind [ae7]
def vY.Fl{g0 a b:Ó}{k:iy}(h:vY g0 k g)(d:g0.status=Ð\/g0.status=Ğ):vY g0 k (ţ P a b w g):=by
 cases h with
 |gi=>rw[NA d];exact .gi
 |nG h c=>
  unfold ţ;split
  .have:ι w {g0 with status:=Ů}=g0:=by
    let⟨z,e,st,f,i⟩:=g0;simp only at h c;subst h c;rfl
   rw[this];exact .gi
  .exact .nG h c
 |sU c z h=>
  unfold ţ;split
  .unfold ι Γ;simp only[];split
   .exact .mV c z h
   .exact .sU c z h
  .exact .sU c z h
 |mV c z h=>
  rw[NA<|Ç U];exact .mV c z h
end
structure gK(P:Õ)(B0:Nat)(Y:Nat->Prop)(S:Nat->Jd)(tr:Nat->gy)(kp:Nat->iy)(lot:Nat->fe)(gs:Array Ó)(w:Æ)(t:ğ):Prop where
 r:iP B0 (λi=>i<gs.size) Y lot w t
 C:∀i g,gs[i]?=À g->∃g0,kQ P (i==0) (S i) (tr i) (lot i) g0/\vY g0 (kp i) g/\(g0.status=Ð\/g0.status=Ğ)/\(g=g0\/tr i=.fB)
 I:∀j,gs.size<=j->Τ t j=0
def fx{α:Type}(f:Nat->α)(i:Nat)(x:α):Nat->α:=λk=>if k=i then x else f k
theorem gE{α:Type}(f:Nat->α)(i:Nat)(x:α):fx f i x i=x:=if_pos U
theorem fH{α:Type}(f:Nat->α)(x:α)(h:k≠i):fx f i x k=f k:=if_neg h
section
variable{P:Õ}{B0:Nat}{Y:Nat->Prop}{S:Nat->Jd}{tr:Nat->gy}{kp:Nat->iy}{lot:Nat->fe}{gs:Array Ó}{w':Æ}{t:ğ}{sl:Option (Nat×Nat)}
theorem NB{a:Ó}(b:gs[i]?=À g)(h:Ù P (i==0) g w=aR a w' V): ∃gs',cW P (ķ gs w sl) i=(ň<|ķ gs' w' sl,Í i g.frame.fn g.frame.place V)/\gs'.size=gs.size/\gs'[i]?=À a/\∀k,k≠i->gs'[k]?=gs[k]?.map (ţ P g a w'):=by refine⟨_,runT_crowd_go b h,fp,by simp[(Ë.1 b).1],λk c=> ?_⟩;grind
def gK.at(a:gK P B0 Y S tr kp lot gs w t)(d:Nat):gK P B0 Y S tr kp lot gs (w.at d) t:=⟨a.r.at d,a.C,a.I⟩
theorem gK.Wl(f:gK P B0 Y S tr kp lot gs w t){a:Ó}{J:Jd}{T:gy}{K:iy}{d:fe}(h:gs[i]?=À g)(o:Ù P (i==0) g w=aR a w' V) (B:iP B0 (λi=>i<gs.size) Y (gu lot i d) w' (t++Í i g.frame.fn g.frame.place V)) (hF:kQ P (i==0) J T d a) (p:a.status=Ð\/a.status=Ğ): ∃b,cW P (ķ gs w sl) i=(ň<|ķ b w' sl,Í i g.frame.fn g.frame.place V)/\b.size=gs.size/\b[i]?=À a/\(∀k,k≠i->b[k]?=gs[k]?.map (ţ P g a w'))/\ gK P B0 Y (fx S i J) (fx tr i T) (fx kp i K) (gu lot i d) b w' (t++Í i g.frame.fn g.frame.place V):=by
 obtain⟨b,q,r,l,m⟩:=NB h o;have C:=(Ë.1 h).1;refine⟨b,q,r,l,m,?_,λk x c=> ?_,λj D=> ?_⟩
 .grind
 .by_cases e:k=i
  .subst e;rw[l]at c;obtain rfl:=Ĥ c;rw[gE,gE,gE,gS];exact⟨a,hF,.gi,p,Ç U⟩
  .rw[m k e]at c;obtain⟨y,s,rfl⟩:=ģ.1 c;rw[fH S _ e,fH tr _ e,fH kp _ e,gG lot _ e];let⟨g0,u,v,n,z⟩:=f.C k y s;refine⟨g0,u,v.Fl n,n,z.imp (λe=> ?_) id⟩;grind [NA]
 .rw[Ny Z t nT];exact f.I j Z
theorem ae8{J:Jd}{k:Æ->gy}{l:fe}(h:kQ P yQ J (.jF k) l g):g.status=Ð:=h.1
def gK.fq(f:gK P B0 Y S tr kp lot gs w t){k:Æ->gy}(m:gs[i]?=À g)(n:tr i=.jF k)(s:∀l g,S i l g->g.status=Ð\/g.status=Ğ): ∃c w' d h,cW P (ķ gs w sl) i=(ň<|ķ c w' sl,Í i g.frame.fn g.frame.place d)/\c.size=gs.size/\(∃b,c[i]?=À b/\(b.status=Ð\/b.status=Ğ))/\(∀k,k≠i->∃a j:Ó,c[k]?=gs[k]?.map (ţ P a j w'))/\mh (lot i) h w w' d/\ gK P B0 Y S (fx tr i<|k w) kp (gu lot i h) c w' (t++Í i g.frame.fn g.frame.place d):=by
 have o:=(Ë.1 m).1;let⟨g0,hF,F,_,u⟩:=f.C i g m;obtain rfl:g=g0:=u.resolve_right (by rw[n];simp);rw[n]at hF;let⟨G,hF⟩:=hF;let⟨b,w',d,h,v,p,e⟩:=hF w<|f.r.r i o;have q:b.status=Ð\/b.status=Ğ:=by
  cases j:k w with
  |fB=>rw[j]at e;exact s _ _<|e _<|fI.fT _ _
  |jF r=>rw[j]at e;exact Ç e.1
 obtain⟨c,x,y,z,B,r⟩:=f.Wl m v (f.r.aeZ o p _ _) e q;refine⟨c,w',d,h,x,y,⟨b,z,q⟩,λj C=>⟨g,b,B j C⟩,p,?_⟩;have D:fx S i (S i)=S:=by funext j;unfold fx;split<;>simp[*]
 have E:fx kp i (kp i)=kp:=by funext j;unfold fx;split<;>simp[*]
 rwa[D,E]at r
theorem gK.qe(c:gK P B0 Y S tr kp lot gs w t){a:Ó}{J:Jd}{K:iy}{T:gy}(l:gs[i]?=À g)(m:Ù P (i==0) g w=aR a w' V)(n:pv (λi=>i<gs.size) Y lot w w') (hF:kQ P (i==0) J T {lot i with d:=ŭ (lot i).d V,w:=w'} a) (o:a.status=Ð\/a.status=Ğ) (p:∀e∈V,(∀b,(è e).touch?=À b->Fi (λi=>i<gs.size) Y lot b)/\(è e).low w.heap.size) (q:∀r,¬eD r (t++Í i g.frame.fn g.frame.place V)): ∃gs',cW P (ķ gs w sl) i=(ň<|ķ gs' w' sl,Í i g.frame.fn g.frame.place V)/\gs'.size=gs.size/\gs'[i]?=À a/\(∀k,k≠i->gs'[k]?=gs[k]?.map (ţ P g a w'))/\ gK P B0 Y (fx S i J) (fx tr i T) (fx kp i K) (gu lot i {lot i with d:=ŭ (lot i).d V,w:=w'}) gs' w' (t++Í i g.frame.fn g.frame.place V):=by
 refine c.Wl l m (c.r.G (λk=> ?_) n (λh f b j=> ?_) (λh f=> ?_) q λk h=> ?_) hF o
 .by_cases e:k=i
  .subst e;rw[gS];exact⟨U,U,U,U,U,Î U⟩
  .grind [gG,uR.fT]
 .obtain⟨e,j,rfl⟩:=í f;grind
 .obtain⟨e,j,rfl⟩:=í f;exact(p e j).2
 .by_cases e:k=i
  .subst e;rw[gS,Deaf_own,c.r.f k h]
  .rw[gG lot _ e,Ny e t nT];exact c.r.f k h
def gK.NC(h:gK P B0 Y S tr kp lot gs w t)(p:gs[i]?=À g)(x:i≠0)(l:g.status=Ð)(q:kp i=.no)(y:tr i=.fB)(z:S i=oO P n): ∃c f b,n=b+1/\cW P (ķ gs w sl) i=(ň<|ķ c w sl,Í i g.frame.fn g.frame.place f)/\c.size=gs.size/\(∀k,k≠i->∃a e:Ó,c[k]?=gs[k]?.map (ţ P a e w))/\(∀e∈f,e.mute=É)/\ gK P B0 Y (fx S i<|oO P b) tr kp (gu lot i {lot i with d:=ŭ (lot i).d f,w:=w}) c w (t++Í i g.frame.fn g.frame.place f):=by
 let⟨g0,hF,r,L,_⟩:=h.C i g p;have B:g=g0:=by
  rw[q]at r;cases r with
  |gi=>rfl
 subst B;rw[y,z]at hF;have s:=hF w<|h.r.r i<|(Ë.1 p).1;cases n with
 |zero=>rw[s.1]at l;cases l
 |succ n=>
  rcases s with⟨C,_⟩|⟨_,D,f,a,E,u⟩
  .rw[C]at l;cases l
  have m:(i==0)=Ã:=by simpa using x
  have F:fx kp i .no=kp:=by funext j;unfold fx;split<;>simp[*]
  have G:fx tr i .fB=tr:=by funext j;unfold fx;split<;>simp[*]
  obtain⟨c,H,I,_,K,v⟩:=h.qe (J:=oO P n) (T:=.fB) p (by rw[m];exact E w) (pv.fT _ _ _ _) (λ_ _=>u) u.status (λe o=>⟨λb m=>(by rw[eg<|a e o]at m;cases m),low_mute (a e o) _⟩) (zY h.r.l λM b=>by obtain⟨e,o,rfl⟩:=í b;exact eg<|a e o);rw[F,G]at v;exact⟨c,f,n,U,H,I,λk q=>⟨g,D,K k q⟩,a,v⟩
end
def vZ(u:ğ):Prop:=∀a∈u,a.act.touch?=ë/\∀m,a.act≠Ř m
theorem ae9(t:ğ)(a:cX)(b:a.act≠Ř cK)(c:a.act≠Ř dx)(j:Nat):Τ (t.push a) j=Τ t j:=by
 have d:t.push a=t++#[a]:=fp
 unfold Τ;rw[d,show(t++#[a]).size=t.size+1 by simp];show(match(t++#[a])[t.size]? with
  |some {g:=h,act:=Ř cK, .. }=>if h=j then(t++#[a]).deaf j t.size+1 else(t++#[a]).deaf j t.size
  |some {g:=h,act:=Ř dx, .. }=>if h=j then(t++#[a]).deaf j t.size-1 else(t++#[a]).deaf j t.size
  |_=>(t++#[a]).deaf j t.size)=_
 have e:(t++#[a])[t.size]?=À a:=fp
 rw[e];let⟨g,f,i,k⟩:=a;simp only at b c;split
 .grind
 .grind
 .exact cN<|ß _
def Wm(t:ğ):∀(u:List cX),(∀a∈u,a.act≠Ř cK/\a.act≠Ř dx)->∀j,Τ (t++u.toArray) j=Τ t j
 |[],_,j=>by simp
 |a::u,h,j=>by
  have e:t++(a::u).toArray=(t.push a)++u.toArray:=by apply Array.ext';simp
  rw[e,Wm (t.push a) u (λx b=>h x<|by simp[b]) j];exact ae9 t a (h a fp).1 (h a fp).2 j
def I6{u:ğ}(h:vZ u)(j:Nat):Τ (qJ++u) j=Τ qJ j:=by have:=Wm qJ u.toList (λa b=>⟨(h a<|by simpa using b).2 _,(h a<|by simpa using b).2 _⟩) j;simpa using this
section
variable{S:Nat->Jd}{C:Nat->gy}{B:Nat->iy}{lot:Nat->fe}{u:ğ}{sl:Option (Nat×Nat)}
def iP.afa{Live:Nat->Prop}(h:iP i Live X lot w qJ)(f:pv Live X lot w W)(c:vZ u)(g:∀a∈u,a.act.low w.heap.size):iP i Live X lot W (qJ++u):= h.G (λk=>uR.fT _ _) f (λa d b e=>by rw[(c a d).1]at e;cases e) g (zY h.l λa d=>(c a d).1) λk b=>by rw[I6 c];exact h.f k b
def I7{Live:Nat->Prop}{r:Nat}{x:Bool}(y:X i)(p:w.heap[i]?=À (χ n d yQ j r x))(f g h:Nat)(l:Array Â)(m o:Bool):pv Live X lot w (w.setChan i f l m g h o):=by
 have q:∀b,b≠i->(w.setChan i f l m g h o).heap[b]?=w.heap[b]?:=λb u=>by unfold ar;simp only;exact Ï<|ą u
 have v:(w.setChan i f l m g h o).heap[i]?=À (χ f l m g h o):=by unfold ar;simp[(Ë.1 p).1]
 refine⟨by unfold ar;simp,λb u=>q b λe=>u<|e▸y,λk _ a _=> ?_,λk _ a _=> ?_,λa t=> ?_⟩
 .by_cases e:a.block=i
  .unfold Ġ;rw[e,v,p]
  .unfold Ġ;rw[q _ e]
 .by_cases e:a.block=i
  .unfold Ĉ;rw[e,v,p]
  .unfold Ĉ;rw[q _ e]
 .by_cases e:a.block=i
  .unfold Ġ at t;rw[e,p]at t;cases t
  .have:(w.setChan i f l m g h o).cell? a=w.cell? a:=by unfold Ġ;rw[q _ e]
   rwa[this]
def gK.G(b:gK P i X S C B lot E w qJ){J:Jd}{T:gy}{K:iy}(d:n<E.size)(f:pv (λn=>n<E.size) X lot w W)(c:vZ u)(h:∀l∈u,l.act.low w.heap.size) (hF:kQ P (n==0) J T (lot n) g) (m:g.status=Ð\/g.status=Ğ): gK P i X (fx S n J) (fx C n T) (fx B n K) lot (E.setIfInBounds n g) W (qJ++u):=by
 refine⟨?_,λk x a=> ?_,λj o=> ?_⟩
 .rw[show(λj=>j<(E.setIfInBounds n g).size)=(λj=>j<E.size) by simp];exact b.r.afa f c h
 .by_cases e:k=n
  .subst e;rw[Ò d]at a;obtain rfl:=Ĥ a;rw[gE,gE,gE];exact⟨_,hF,.gi,m,Ç U⟩
  .rw[Ï<|ą e]at a;rw[fH S _ e,fH C _ e,fH B _ e];exact b.C k x a
 .rw[I6 c];exact b.I j<|by simpa using o
def ND{γ δ:Type}{f:γ->List δ}:∀{l:List γ},(∀x∈l,f x=[])->l.flatMap f=[]
 |[],_=>rfl
 |x::l,h=>by rw[aU,h x fp,ND λy a=>h y (by simp[a])];rfl
def xT(r:Nat)(b:Bool)(g:Ó):Prop:=g.status=Ů/\∃a d,g.offers=À (a,d)/\∃c∈a,(c.send.isSome==b)=É/\(match c.chan with|ei (À r')=>r'==r|_=>Ã)=É
theorem Wn{r:Nat}{E:Array Ó}(h:∀(i:Nat) (g:Ó),E[i]?=À g->¬xT r yQ g):Η E r yQ=[]:=by
 unfold Η;refine ND λx m=> ?_;let⟨g,i⟩:=x;have d:E[i]?=À g:=by grind
 simp only[];split
 .rename_i b e f j;rw[ai,Υ];intro y n a;let⟨c,k⟩:=y;have l:c∈b:=by
   grind
  simp only[ě]at a;exact h i g d ⟨f,b,e,j,c,l,a.1,by have:=a.2;revert this;cases c.chan<;>first|exact id|(rename_i q;cases q<;>exact id)⟩
 .rfl
def Wo{γ δ:Type}(f:γ×Nat->List δ):∀(L:List γ) (n h:Nat) (x:γ),(∀y k,k≠h->(y,k)∈L.zipIdx n->f (y,k)=[])->n<=h->L[h-n]?=À x->(L.zipIdx n).flatMap f=f (x,h)
 |[],n,h,x,_,_,hx=>by simp at hx
 |a::L,n,h,x,hf,hn,hx=>by
  rw[Ĭ,aU];by_cases e:h=n
  .subst e;have:a=x:=by simpa using hx
   subst this;rw[ND ?_,List.append_nil];intro y b;let⟨y,k⟩:=y;refine hf y k ?_ (by rw[Ĭ];exact ò _ b);have:=List.le_snd_of_mem_zipIdx b;simp only at this;omega
  .rw[hf a n Z (by rw[Ĭ];exact î ..),List.nil_append];refine Wo f L (n+1) h x (λy k c b=>hf y k c<|by rw[Ĭ];exact ò _ b) Z ?_;have b:h-n=(h-(n+1))+1:=Z
   rw[b]at hx;simpa using hx
theorem afb{E:Array Ó}(l:E[n]?=À g)(m:g.status=Ů)(o:g.offers=À (#[θ i z],.recv É))(p:∀(a:Nat) (b:Ó),a≠n->E[a]?=À b->¬xT i Ã b):Η E i Ã=[(n,0)]:=by
 unfold Η;have e:E.zipIdx.toList=E.toList.zipIdx:=fp
 rw[e];rw[Wo _ E.toList 0 n g (λy k r B=> ?_) (dz _) (by simpa using l)]
 .simp[m,o,θ]
 .have s:E[k]?=À y:=by
   grind
  simp only[];split
  .rename_i j t u v;rw[ai,Υ];intro x C d;let⟨f,D⟩:=x;have w:f∈j:=by
    grind
   simp only[ě]at d;exact p k y r s ⟨u,j,t,v,f,w,d.1,by have:=d.2;revert this;cases f.chan<;>first|exact id|(rename_i q;cases q<;>exact id)⟩
  .rfl
theorem NG(h:(E.setIfInBounds i ph)[k]?=À g):g.status=Ğ\/(k≠i/\E[k]?=À g):=by
 by_cases e:k=i
 .subst e;rw[Ś]at h;simp only[if_true]at h;split at h
  .left;obtain rfl:=Ĥ h;rfl
  .cases h
 .grind
theorem gK.NH(l:gK P i X S C B lot E w qJ)(c a:Nat):Η (E.setIfInBounds a ph) c É=[]:=by
 refine Wn λk x m=> ?_;rintro⟨d,p,r,b,n,f,o,_⟩;rcases NG m with q|⟨_,q⟩
 .grind
 .let⟨g0,_,g,j,_⟩:=l.C k x q;generalize B k=K at g;cases g with
  |gi=>rw[d]at j;rcases j with e|e<;>cases e
  |nG h e=>simp only[e]at b;cases b
  |sU e z h=>
   simp only[Γ,ž,Prod.mk.injEq]at b;rw[<-b.1]at f;have:n=θ e z:=by simpa using f
   subst this;cases o
  |mV e z h=>cases d
def gK.NJ(e:gK P i X S C B lot E w qJ){N:Option Â->Jd}(f:E[n]?=À g)(k:g.status=Ð)(l:B n=.rQ j z)(m:C n=.fB)(o:S n=vW P (n==0) j z N): ∃a,kQ P (n==0) (S n) (C n) (lot n) a/\a.status=Ð/\a.offers=ë/\Ù P (n==0) g w=.comm a #[θ j z] É (.recv É) w #[]/\∀x:Option Â,fj P (n==0) (N x) (lot n) {a with frame:=a.frame.finish (ſ #[x.getD z,Ľ x.isSome])}:=by
 let⟨a,hF,b,_,_⟩:=e.C n g f;have p:=hF;rw[o,m]at hF;let⟨x,q,d,r⟩:=hF _<|fI.fT _ _;rw[l]at b;refine⟨a,p,x,q,?_,r⟩;cases b with
 |gi=>exact d w
 |sU j z h=>cases k
 |mV j z h=>rw[stepG_tries];rw[show({a with status:=Ð}:Ó)=a by cases a;simp only at x;subst x;rfl];exact d w
def xU{g0:Ó}{a:Array CommCase}{b:CommShape}{ok:Bool}(c:g0.status=Ð)(d:g0.offers=ë):g0.finishComm P a b h v ok={g0 with frame:=g0.frame.finish (commResult a b h v ok)}:=by let⟨f,a,st,e,o⟩:=g0;simp only at c d;subst c d;rfl
def gK.mW(e:gK P i X S C B lot E w qJ){N:Option Â->Jd}(h:E[n]?=À g)(G:g.status=Ð)(l:B n=.rQ j z)(H:C n=.fB)(I:S n=vW P (n==0) j z N)(p:X j){r:Nat}{o:Bool}(q:w.heap[j]?=À (χ b d yQ m r o))(t:d[0]?=À v)(K:iy): ∃a u T f,cW P (ķ E w sl) n=(ň<|ķ a (w.setChan j b (d.extract 1 d.size) yQ m (r+1) o) sl,u)/\a.size=E.size/\a[n]?=À f/\f.status=Ð/\(∀k,k≠n->a[k]?=E[k]?)/\vZ u/\ gK P i X (fx S n<|N<|À v) (fx C n T) (fx B n K) lot a (w.setChan j b (d.extract 1 d.size) yQ m (r+1) o) (qJ++u):=by
 have x:=(Ë.1 h).1;let⟨g0,_,f,y,J,L⟩:=e.NJ h G l H I;have D:d.getD 0 ľ=v:=by simp[ĩ,t]
 have M:=crowd_recv_buf (sl:=sl) h J q ((Ë.1 t).1)<|e.NH j n;let⟨T,O⟩:=jh<|L<|À v;refine⟨_,_,T,{g0 with frame:=g0.frame.finish (ſ #[v,Ľ É])},M,fp,?_,f,λk l=>Ï<|ą l,?_,?_⟩
 .rw[xU f y,D,Ò x];rfl
 .intro F a;simp[Í]at a;rcases a with rfl|rfl<;>exact⟨U,fp⟩
 .rw[xU f y,D];refine e.G x (I7 p q _ _ _ _ _ _) ?_ ?_ O<|Ç f
  .intro F a;simp[Í]at a;rcases a with rfl|rfl<;>exact⟨U,fp⟩
  .intro F a;simp[Í]at a;rcases a with rfl|rfl<;>exact e.r.N j p
def gK.jd(e:gK P i X S C B lot E w qJ){N:Option Â->Jd}(h:E[n]?=À g)(q:g.status=Ð)(l:B n=.rQ j z)(t:C n=.fB)(v:S n=vW P (n==0) j z N)(x:X j){r:Nat}(y:w.heap[j]?=À (χ b #[] É k r yQ))(K:iy): ∃d u T f,cW P (ķ E w sl) n=(ň<|ķ d w sl,u)/\d.size=E.size/\d[n]?=À f/\f.status=Ð/\(∀a,a≠n->d[a]?=E[a]?)/\vZ u/\ gK P i X (fx S n<|N ë) (fx C n T) (fx B n K) lot d w (qJ++u):=by
 have m:=(Ë.1 h).1;let⟨g0,_,f,o,D,F⟩:=e.NJ h q l t v;let⟨T,G⟩:=jh<|F ë;refine⟨_,_,T,{g0 with frame:=g0.frame.finish (ſ #[z,Ľ Ã])},crowd_recv_closed (sl:=sl) h D y<|e.NH j n,fp,?_,f,λa l=>Ï<|ą l,?_,?_⟩
 .rw[xU f o,Ò m];rfl
 .intro p d;simp[Í]at d;subst d;exact⟨U,fp⟩
 .rw[xU f o];refine e.G m (pv.fT _ _ _ _) ?_ ?_ G<|Ç f
  .intro p d;simp[Í]at d;subst d;exact⟨U,fp⟩
  .intro p d;simp[Í]at d;subst d;exact e.r.N j x
def gK.afc(f:gK P i X S C B lot E w qJ){N:Option Â->Jd}(m:E[n]?=À g)(u:g.status=Ð)(h:B n=.rQ j z)(o:C n=.fB)(v:S n=vW P (n==0) j z N){r:Nat}(p:w.heap[j]?=À (χ b #[] Ã k r yQ)): ∃d e,cW P (ķ E w sl) n=(ň<|ķ d w sl,#[])/\d.size=E.size/\d[n]?=À e/\e.status=Ů/\(∀a,a≠n->d[a]?=E[a]?)/\gK P i X S C B lot d w qJ:=by
 have q:=(Ë.1 m).1;let⟨g0,hF,t,G,y,H⟩:=f.NJ m u h o v;have D:=crowd_waits (sl:=sl) m y (λd e=>by
  have:d=θ j z:=by simpa using e
  subst this;exact⟨by simp[illMade,θ,p],by simp[ways,θ,p,f.NH j n]⟩)
 refine⟨_,Γ g0 #[θ j z]<|.recv É,?_,fp,Ò q,U,λa h=>Ï<|ą h,?_,λa x l=> ?_,λd F=>f.I d<|by simpa using F⟩
 .rw[D];rfl
 .rw[show(λd=>d<(E.setIfInBounds n<|Γ g0 #[θ j z]<|.recv É).size)=(λd=>d<E.size) by simp];exact f.r
 .by_cases e:a=n
  .subst e;rw[Ò q]at l;obtain rfl:=Ĥ l;refine⟨g0,hF,?_,Ç t,Î o⟩;rw[h];exact .sU j z t
  .rw[Ï<|ą e]at l;exact f.C a x l
def gK.iJ(f:gK P i X S C B lot E w qJ){N:Jd}(h:E[n]?=À g)(l:B n=.no)(F:C n=.fB)(G:S n=zZ P (n==0) b v N)(p:X b){r:Nat}(t:w.heap[b]?=À (χ m d Ã J r yQ))(H:d.size<m) (I:∀(k:Nat) (x:Ó),E[k]?=À x->¬xT b Ã x): ∃e u T a,cW P (ķ E w sl) n=(ň<|ķ e (w.setChan b m (d.push v) Ã (J+1) r yQ) sl,u)/\e.size=E.size/\e[n]?=À a/\a.status=Ð/\(∀k,k≠n->e[k]?=E[k]?)/\vZ u/\ gK P i X (fx S n N) (fx C n T) B lot e (w.setChan b m (d.push v) Ã (J+1) r yQ) (qJ++u):=by
 have y:=(Ë.1 h).1;let⟨g0,hF,z,_,_⟩:=f.C n g h;rw[l]at z;cases z with
 |gi=>
  rw[G,F]at hF;let⟨a,D,o,K⟩:=hF _<|fI.fT _ _;let⟨V,o⟩:=o w;have L:Η (E.setIfInBounds n ph) b Ã=[]:=Wn λk x M=>by
   rcases NG M with q|⟨_,q⟩
   .rintro⟨e,_⟩;rw[q]at e;cases e
   .exact I k x q
  let⟨T,O⟩:=jh K;have Q:fx B n .no=B:=by funext j;unfold fx;split<;>simp[*]
  refine⟨_,_,T,{g with frame:=g.frame.finish ľ},crowd_send_room (sl:=sl) h o t H L,fp,?_,a,λk l=>Ï<|ą l,?_,?_⟩
  .rw[xU a D,Ò y];rfl
  .intro q e;simp[Í]at e;rcases e with rfl|rfl<;>exact⟨U,fp⟩
  .rw[xU a D,<-Q];refine f.G y (I7 p t _ _ _ _ _ _) ?_ ?_ O<|Ç a
   .intro q e;simp[Í]at e;rcases e with rfl|rfl<;>exact⟨U,fp⟩
   .intro q e;simp[Í]at e;rcases e with rfl|rfl<;>exact f.r.N b p
def gK.afd(o:gK P i X S C B lot E w qJ){p:Ó}{N:Jd}{D:Option Â->Jd}(F:E[n]?=À g)(f:B n=.no)(ht:C n=.fB)(hs:S n=zZ P (n==0) b v N)(L:X b){r:Nat}(M:w.heap[b]?=À (χ J d Ã j9 r yQ)) (G:j≠n) (t:E[j]?=À p) (O:p.status=Ů) (I8:B j=.rQ b z) (NK:C j=.fB) (I9:S j=vW P (j==0) b z D) (K:iy) (hp:∀(k:Nat) (x:Ó),k≠j->E[k]?=À x->¬xT b Ã x): ∃e u T y h q,cW P (ķ E w sl) n=(ň<|ķ e (w.setChan b J d Ã (j9+1) (r+1) yQ) sl,u)/\e.size=E.size/\e[n]?=À h/\h.status=Ð/\e[j]?=À q/\q.status=Ð/\(∀k,k≠n->k≠j->e[k]?=E[k]?)/\vZ u/\ gK P i X (fx (fx S j<|D<|À v) n N) (fx (fx C j y) n T) (fx (fx B j K) n .no) lot e (w.setChan b J d Ã (j9+1) (r+1) yQ) (qJ++u):=by
 have Q:=(Ë.1 F).1;have V:=(Ë.1 t).1;let⟨g0,hF,W,_,_⟩:=o.C n g F;let⟨a,Y,Wp,asC,_⟩:=o.C j p t;rw[f]at W;rw[I8]at Wp;cases W with
 |gi=>
  rw[hs,ht]at hF;let⟨H,h2,I,h4⟩:=hF _<|fI.fT _ _;let⟨z',I⟩:=I w;rw[I9,NK]at Y;let⟨l,k2,k3,k4⟩:=Y _<|fI.fT _ _;have Ct:p=Γ a #[θ b z] (.recv É):=by
   cases Wp with
   |gi=>rw[O]at l;cases l
   |sU _ _ h=>rfl
   |mV _ _ h=>cases O
  subst Ct;have hpn:Η (E.setIfInBounds n ph) b Ã=[(j,0)]:=afb (by rwa[Ï<|ą G]) U U λk x f hx=>by
   rcases NG hx with q|⟨_,q⟩
   .rintro⟨e,_⟩;rw[q]at e;cases e
   .exact hp k x f q
  have NL:=crowd_send_meets (sl:=sl) F I M G t hpn;let⟨T,hT⟩:=jh h4;let⟨y,hTj⟩:=jh<|k4<|À v;rw[xU H h2,xU l k2]at NL;have q:∀{h:cX},h∈Í n g.frame.fn g.frame.place #[]++#[{g:=n,fn:=g.frame.fn,pos:=g.frame.place,act:=.send b j9},{g:=j,fn:=a.frame.fn,pos:=a.frame.place,act:=.recv b r J},{g:=n,fn:=g.frame.fn,pos:=g.frame.place,act:=.sendDone b j9},{g:=j,fn:=a.frame.fn,pos:=a.frame.place,act:=.recvDone b r}]->(h.act.touch?=ë/\∀m,h.act≠Ř m)/\h.act.low w.heap.size:=by intro h e;simp[Í]at e;rcases e with rfl|rfl|rfl|rfl<;>exact⟨⟨U,fp⟩,o.r.N b L⟩
  refine⟨_,_,T,y,{g with frame:=g.frame.finish ľ},{a with frame:=a.frame.finish (ſ #[v,Ľ É])},NL,fp,?_,H,?_,l,λk f sV=> ?_,λh e=>(q e).1,?_⟩
  .rw[Ò (by simpa using Q)];rfl
  .rw[Ï<|ą G,Ò V];rfl
  .rw[Ï<|ą f,Ï<|ą sV]
  .have m:gK P i X (fx S j<|D<|À v) (fx C j y) (fx B j K) lot (E.setIfInBounds j {a with frame:=a.frame.finish (ſ #[v,Ľ É])}) w (qJ++#[]):=o.G V (pv.fT _ _ _ _) (λh e=>by simp at e) (λh e=>by simp at e) hTj<|Ç l;rw[ď]at m;refine m.G (by simpa using Q) (I7 L M _ _ _ _ _ _) (λh e=>(q e).1) (λh e=>(q e).2) hT<|Ç H
theorem gK.kK(o:gK P i X S C B lot E w qJ){N:Jd}(I:E[n]?=À g)(K:B n=.no)(ht:C n=.fB)(hs:S n=I4 P (n==0) J N)(L:X J)(hB:i<=J){r:Nat}(O:w.heap[J]?=À (χ j9 q Ã j7 r yQ)): ∃t u T G,cW P (ķ E w sl) n=(ň<|ķ t (w.setChan J j9 q É j7 r yQ) sl,u)/\t.size=E.size/\t[n]?=À G/\G.status=Ð/\(∀k x,k≠n->E[k]?=À x->t[k]?=À (x.again<|w.setChan J j9 q É j7 r yQ))/\(∀l∈u,l.g=n)/\(∀l∈u,∀b,l.act.touch?=À b->b.loc=.obj J/\b.kind=Ŕ)/\(∀l∈u,∀m,l.act≠Ř m)/\ gK P i X (fx S n N) (fx C n T) B (gu lot n {lot n with w:=w.setChan J j9 q É j7 r yQ}) t (w.setChan J j9 q É j7 r yQ) (qJ++u):=by
 have H:=(Ë.1 I).1;have Q:=o.r.N J L;let⟨g0,hF,V,_,_⟩:=o.C n g I;rw[K]at V;cases V with
 |gi=>
  rw[hs,ht]at hF;let⟨h1,h2,G,M,h4,h5⟩:=hF w<|o.r.r n H;have v:=I7 (lot:=lot) (Live:=λn=>n<E.size) L O j9 j7 r q É yQ;have y:fI (lot n) w (w.setChan J j9 q É j7 r yQ):=⟨dy v.r.symm,λj hj=>v.jL j<|o.r.I n H j hj,λa z=>v.M n H a z,λa z=>v.N n H a z,λa _=>v.I a⟩;let⟨T,hT⟩:=jh<|h5.jS ⟨y.r,y.I,y.N,y.Y,y.S⟩;have W:ŭ (lot n).d (Cr J)=(lot n).d:=bn (λe f=>by simp[Cr]at f;grind) _;have D:∀e∈Cr J,(∀b,(è e).touch?=À b->b.loc=.obj J/\b.kind=Ŕ)/\(è e).low w.heap.size:=by
   intro e f;simp[Cr]at f;rcases f with rfl|rfl
   .exact⟨λb h=>by simp[è,ÿ]at h;subst h;exact⟨U,U⟩,Q⟩
   .exact⟨λb h=>by simp[è,ÿ]at h,Q⟩
  have e2:fx B n .no=B:=by funext j;unfold fx;split<;>simp[*]
  obtain⟨t,q1,q2,q3,q4,Y⟩:=o.qe I (h4 w j9 q j7 r yQ O) v (by rwa[W]) (Ç M) (λe f=>⟨λb h=>Î ⟨J,((D e f).1 b h).1,L,((D e f).1 b h).2⟩,(D e f).2⟩) (Nw o.r.l nT λl F b h=>by obtain⟨e,f,rfl⟩:=í F;let⟨z1,z2⟩:=(D e f).1 b h;refine Î (Î ⟨z2,λp a z hl sW=> ?_⟩);have:=o.r.s p a J z (by rw[hl,z1]) sW;omega);rw[W,e2]at Y;refine⟨t,_,T,G,q1,q2,q3,M,λk x K p=> ?_,nT,λl F b h=> ?_,λl F=> ?_,Y⟩
  .rw[q4 k K,p];simp only[bG,ž];unfold ţ;rw[if_pos (by simp[h2,M])]
  .obtain⟨e,f,rfl⟩:=í F;exact(D e f).1 b h
  .obtain⟨e,f,rfl⟩:=í F;simp[Cr]at f;intro m;rcases f with rfl|rfl<;>simp[è]
end
def fM(b:Nat):Ú:=⟨b,0,ë⟩
def gU(b:Nat):Ú:=⟨b,1,ë⟩
inductive GS where
 |cl (c reg:Nat)
 |jz (reg:Nat)
 |gV (r s:Nat)
def GS.st:GS->Int
 |.cl c a=>c*fX+a
 |.jz a=>a
 |.gV _ _=>0
def GS.sm:GS->Int
 |.gV _ s=>s
 |_=>0
def GS.ok:GS->Prop
 |.cl c r=>c<1000000/\r<1000000/\(c=0->r=0)
 |.jz r=>0<r/\r<1000000
 |.gV r s=>r+s<1000000
structure gZ(w:Æ)(b:Nat)(G:GS):Prop where
 C:w.cell? (fM b)=À (Ć æ G.st)
 M:w.cell? (gU b)=À (Ć ŗ G.sm)
 I:w.frozen? (fM b)=Ã
 N:w.frozen? (gU b)=Ã
 r:G.ok
theorem z8(h:w.cell? a=À x):(w.setCell a v).cell? a=À v:=by unfold Ġ at h|-;unfold ĉ;grind
theorem xV(h:a.block≠p.block\/a.off≠p.off):(w.setCell a v).cell? p=w.cell? p:=by unfold Ġ ĉ;grind
theorem NM:kJ (w.setCell a v) b=kJ w b:=by unfold kJ ĉ;grind
def rR:(w.setCell a v).frozen? p=w.frozen? p:=by simp_all
theorem kX(h:j≠a.block):(w.setCell a v).heap[j]?=w.heap[j]?:=by unfold ĉ;grind
def jP:(w.setCell a v).heap.size=w.heap.size:=by simp_all
theorem xW(h:(w.cell? p).isSome=É):((w.setCell a v).cell? p).isSome=É:=by unfold Ġ ĉ at*;grind
theorem afe{Live Y:Nat->Prop}{c:Nat->fe}(f:Y a.block)(l:a.spot=ë)(m:∀k,Live k->¬(c k).C a)(g:∀k,Live k->∀b,(c k).C b->b.spot=ë):pv Live Y c w (w.setCell a v):=by
 refine⟨jP,λj h=>kX λe=>h<|e▸f,λk i b d=>xV ?_,λ_ _ _ _=>rR,λb d=>xW d⟩;by_cases e:a.block=b.block
 .right;intro n;have:=g k i b d;let⟨o,p,q⟩:=b;let⟨r,s,t⟩:=a;grind
 .exact Ç e
section
variable{b:Nat}{G:GS}
def gZ.uS(h:gZ w b G)(a:u.cell? (fM b)=w.cell? (fM b))(c:u.cell? (gU b)=w.cell? (gU b))(d:u.frozen? (fM b)=w.frozen? (fM b))(e:u.frozen? (gU b)=w.frozen? (gU b)):gZ u b G:= ⟨a.trans h.C,c.trans h.M,d.trans h.I,e.trans h.N,h.r⟩
def gZ.iQ(h:gZ w b G)(c:a.block≠b):gZ (w.setCell a v) b G:= h.uS (xV<|Ç c) (xV<|Ç c) rR rR
def gZ.Ja{G':GS}(h:gZ w b G)(a:G'.sm=G.sm)(d:G'.ok)(e:c=G'.st):gZ (w.setCell (fM b)<|Ć æ c) b G':= ⟨by rw[z8 h.C,e],by rw[xV (Î<|by simp[fM,gU]),h.M,a],by rw[rR,h.I],by rw[rR,h.N],d⟩
def gZ.Wq{G':GS}(h:gZ w b G)(a:G'.st=G.st)(d:G'.ok)(e:c=G'.sm):gZ (w.setCell (gU b)<|Ć ŗ c) b G':= ⟨by rw[xV (Î<|by simp[fM,gU]),h.C,a],by rw[z8 h.M,e],by rw[rR,h.I],by rw[rR,h.N],d⟩
end
theorem Jb(a:0<=h)(b:h<18446744073709551616):æ.wrap h=h:=by have:æ.wrap h=h%18446744073709551616:=rfl;rw[this];omega
def aff(a:4294967296<=h)(b:h<18446744073709551616):æ.wrap (h+18446744069414584320)=h-4294967296:=by have:æ.wrap (h+18446744069414584320)=(h+18446744069414584320)%18446744073709551616:=rfl;rw[this];omega
theorem afg(a:0<=h)(b:h<4294967296):ŗ.wrap h=h:=by have:ŗ.wrap h=h%4294967296:=rfl;rw[this];omega
def qf:Int:=18446744069414584320
def GS.jE:GS->GS
 |.cl (c+1) reg=>if c=0/\0<reg then .jz reg else .cl c reg
 |G=>G
section
variable{b:Nat}
theorem gZ.afh(h:gZ w b (.cl i 0))(a:i+1<1000000):æ.wrap ((GS.cl i 0).st+fX)=(GS.cl (i+1) 0).st/\gZ (w.setCell (fM b)<|Ć æ<|æ.wrap<|(GS.cl i 0).st+fX) b (.cl (i+1) 0):=by
 have e:æ.wrap ((GS.cl i 0).st+fX)=(GS.cl (i+1) 0).st:=by simp only[GS.st,fX];grind [Jb]
 exact⟨e,h.Ja (G':=.cl (i+1) 0) U ⟨a,Z,Z⟩ e⟩
def gZ.jE(h:gZ w b (.cl (i+1) n)):æ.wrap ((GS.cl (i+1) n).st+qf)=(GS.jE<|.cl (i+1) n).st/\gZ (w.setCell (fM b)<|Ć æ<|æ.wrap<|(GS.cl (i+1) n).st+qf) b (GS.jE<|.cl (i+1) n):=by
 let⟨f,a,g⟩:=h.r;have d:æ.wrap ((GS.cl (i+1) n).st+qf)=(i:Int)*fX+n:=by simp only[GS.st,fX,qf];rw[aff Z Z];omega
 have e:æ.wrap ((GS.cl (i+1) n).st+qf)=(GS.jE<|.cl (i+1) n).st:=by
  rw[d];simp only[GS.jE];by_cases q:i=0/\0<n
  .rw[if_pos q];obtain⟨rfl,_⟩:=q;simp[GS.st]
  .rw[if_neg q];rfl
 refine⟨e,h.Ja ?_ ?_ e⟩
 .simp only[GS.jE];split<;>rfl
 .simp only[GS.jE];by_cases q:i=0/\0<n
  .rw[if_pos q];exact⟨q.2,a⟩
  .rw[if_neg q];exact⟨Z,a,λe=>by omega⟩
theorem gZ.Wr(h:gZ w b (.cl i n))(f:0<i)(a:n+1<1000000):æ.wrap ((GS.cl i n).st+1)=(GS.cl i<|n+1).st/\gZ (w.setCell (fM b)<|Ć æ<|æ.wrap<|(GS.cl i n).st+1) b (.cl i (n+1)):=by
 let⟨d,g,j⟩:=h.r;have e:æ.wrap ((GS.cl i n).st+1)=(GS.cl i<|n+1).st:=by simp only[GS.st,fX];grind [Jb]
 exact⟨e,h.Ja (G':=.cl i (n+1)) U ⟨d,a,λe=>by omega⟩ e⟩
def gZ.Ws(h:gZ w b (.jz i)):gZ (w.setCell (fM b)<|Ć æ 0) b (.gV i 0):= h.Ja (G':=.gV i 0) U (by have:=h.r;simp only[GS.ok]at this|-;omega) U
theorem gZ.jy{r:Nat}(h:gZ w b (.gV (r+1) i)):gZ (w.setCell (gU b)<|Ć ŗ<|ŗ.wrap<|(GS.gV (r+1) i).sm+1) b (.gV r (i+1)):=by have:=h.r;simp only[GS.ok]at this;refine h.Wq (G':=.gV r (i+1)) U (by simp only[GS.ok];omega) ?_;simp only[GS.sm];grind [afg]
def gZ.kq{r:Nat}(h:gZ w b (.gV r (i+1))):gZ (w.setCell (gU b)<|Ć ŗ<|(GS.gV r<|i+1).sm-1) b (.gV r i):=by have:=h.r;simp only[GS.ok]at this;refine h.Wq (G':=.gV r i) U (by simp only[GS.ok];omega) ?_;simp only[GS.sm];omega
def gZ.afi{G:GS}(h:gZ w b G):(0<=G.st/\G.st<fX)↔∀c a,G=.cl c a->c=0:=by
 have d:=h.r;cases G with
 |cl c a=>
  let⟨r,s,f⟩:=d;simp only[GS.st,fX];constructor
  .intro q g i e;cases e;omega
  .intro q;have:=q c a U;subst this;omega
 |jz a=>simp only[GS.ok]at d;simp only[GS.st,fX];exact⟨λ_ _ _ e=>(by cases e),λ_=>by omega⟩
 |gV r s=>simp only[GS.st,fX];exact⟨λ_ _ _ e=>(by cases e),λ_=>by omega⟩
end
inductive jA where
 |jy|iE|gB (W:Nat)|jb (W:Nat)|iz (r:Nat)
inductive jm where
 |iW|lR (p:SP)|wr|kq|gB|kR
section
variable(P:Õ)(main:Bool)(B:Nat)(b:Nat)(J:Jd)
def Fo:Nat->Jd
 |0=>J
 |r+1=>λl g=>l.d=1/\ae6 P main (gU b) (match r with|0=>J|_=>fj P main<|Fo r) l g
def Jc(W:Nat):Jd:=λl g=>l.d=1/\ae4 P main (fM b) 0 (Fo P main b J W) l g
def Je(W:Nat):Jd:=λl g=>l.d=1/\Wk P main (fM b) (λv=>if v=(W:Int)then Jc P main b J W else λ_ _=>True) l g
def NN:Jd:=λl g=>l.d=1/\Nz P main (fM b) qf (λs=>if s=0\/(fX<=s/\s<1000000*fX/\s%fX<1000000)then J else if 0<s/\s<1000000 then fj P main (Je P main b J s.toNat)else λ_ _=>True) l g
def xY:Jd:=λl g=>l.d=0/\Fj P main (Ķ<|fM b) (NN P main b J) l g
def Cu:jA->Jd
 |.jy=>xY P main b J
 |.iE=>NN P main b J
 |.gB W=>Je P main b J W
 |.jb W=>Jc P main b J W
 |.iz r=>Fo P main b J r
def Fp:Jd:=λl g=>l.d=0/\Fj P main (cL<|fM b) J l g
def Wt:Jd:=λl g=>l.d=1/\Wk P main (fM b) (λv=>if v=0 then Fp P main b J else λ_ _=>True) l g
def Jf:Jd:=λl g=>l.d=1/\ae5 P main (gU b) (Wt P main b J) l g
def NO:Jd:=λl g=>l.d=1/\Fj P main (.write<|gU b) (Jf P main b J) l g
def NP(p:SP):Jd:=λl g=>l.d=1/\Cs P main (fM b) B (λ_=>Fp P main b J) (λv=>if v%fX=0 then NO P main b J else Jf P main b J) p l g
def qg:jm->Jd
 |.iW=>λl g=>∃k,k<=B/\NP P main B b J (.fY k) l g
 |.lR p=>NP P main B b J p
 |.wr=>NO P main b J
 |.kq=>Jf P main b J
 |.gB=>Wt P main b J
 |.kR=>Fp P main b J
end
section
variable{P:Õ}{Y:Nat->Prop}{S:Nat->Jd}{tr:Nat->gy}{f:Nat->iy}{lot:Nat->fe}{gs:Array Ó}{t:ğ}
theorem iP.C{Live:Nat->Prop}(h:iP n Live Y lot w t)(E:Live i){l:fe}(s:∀b,l.O b->(lot i).O b) (x:∀b,l.I b->(lot i).M b\/(b<w.heap.size/\¬Y b/\(∀k,Live k->¬(lot k).O b)/\∀a:Ú,a.block=b->oN t i (û a))) (u:∀a,l.r a->(lot i).r a) (y:∀a,l.N a->(lot i).C a\/(Y a.block/\(∀k,Live k->¬(lot k).r a)/\oN t i (û a))) (F:l.K=(lot i).K) (D:l.d=(lot i).d) (G:l.w=w) (H:∀b,l.O b->¬l.I b) (I:∀a,l.r a->¬l.N a):iP n Live Y (gu lot i l) w t:=by
 have v:∀b,l.M b->(lot i).M b\/(b<w.heap.size/\¬Y b/\(∀k,Live k->¬(lot k).O b)/\∀a:Ú,a.block=b->oN t i (û a)):=λb g=>g.elim (λq=>Ç<|Ç<|s b q)<|x b;have B:∀a,l.C a->(lot i).C a\/(Y a.block/\(∀k,Live k->¬(lot k).r a)/\oN t i (û a)):=λa f=>f.elim (λq=>Ç<|Ç<|u a q)<|y a;refine⟨λk j c o m b g=> ?_,λk j c o m a f=> ?_,λk c b g=> ?_,λk c a f=> ?_,λk c b g=> ?_,λk c a f=> ?_,λk c b g=> ?_,h.N,λk c=> ?_,λk c=> ?_,λk c=> ?_,h.l,h.q,h.s,λk c a f=> ?_⟩
 .by_cases e:k=i
  .subst e;rw[gS]at g;rw[gG lot _<|ą m];exact h.o k j c o m b<|s b g
  .rw[gG lot _ e]at g;by_cases p:j=i
   .subst p;rw[gS];intro q;rcases v b q with z|⟨_,_,z,_⟩
    .exact h.o k j c o m b g z
    .exact z k c g
   .rw[gG lot _ p];exact h.o k j c o m b g
 .by_cases e:k=i
  .subst e;rw[gS]at f;rw[gG lot _<|ą m];exact h.h k j c o m a<|u a f
  .rw[gG lot _ e]at f;by_cases p:j=i
   .subst p;rw[gS];intro q;rcases B a q with z|⟨_,z,_⟩
    .exact h.h k j c o m a f z
    .exact z k c f
   .rw[gG lot _ p];exact h.h k j c o m a f
 .by_cases e:k=i
  .grind [gS]
  .rw[gG lot _ e]at g|-;exact h.m k c b g
 .by_cases e:k=i
  .grind [gS]
  .rw[gG lot _ e]at f|-;exact h.g k c a f
 .by_cases e:k=i
  .subst e;rw[gS]at g;exact(v b g).elim (h.I k c b) λz=>z.2.1
  .rw[gG lot _ e]at g;exact h.I k c b g
 .by_cases e:k=i
  .subst e;rw[gS]at f;exact(B a f).elim (h.e k c a) λz=>z.1
  .rw[gG lot _ e]at f;exact h.e k c a f
 .by_cases e:k=i
  .subst e;rw[gS]at g;exact(v b g).elim (h.fv k c b) λz=>z.1
  .rw[gG lot _ e]at g;exact h.fv k c b g
 .by_cases e:k=i
  .grind [gS,fI.fT]
  .rw[gG lot _ e];exact h.r k c
 .by_cases e:k=i
  .subst e;rw[gS];refine⟨λa f=>(h.S k c).fq a<|s _ f,λa f=> ?_,λa f=>(h.S k c).I a<|u a f,λa f=> ?_⟩
   .rcases x _ f with(z|z)|⟨_,_,_,z⟩
    .exact((h.S k c).fq a z).r
    .exact(h.S k c).C a z
    .exact z a U
   .rcases y _ f with(z|z)|⟨_,_,z⟩
    .exact((h.S k c).I a z).r
    .exact(h.S k c).r a z
    .exact z
  .rw[gG lot _ e];exact h.S k c
 .by_cases e:k=i
  .subst e;rw[gS,D];exact h.f k c
  .rw[gG lot _ e];exact h.f k c
 .have e:(lot k).K a:=by
   grind [gS,gG]
  let⟨p,q⟩:=h.n k c a e;grind [gS,gG]
def gK.M(b:gK P n Y S tr f lot gs w t){J:Jd}{T:gy}{K:iy}{l:fe}(c:gs[i]?=À g)(d:g.status=Ð\/g.status=Ğ)(h:iP n (λi=>i<gs.size) Y (gu lot i l) w t)(hF:kQ P (i==0) J T l g): gK P n Y (fx S i J) (fx tr i T) (fx f i K) (gu lot i l) gs w t:=by
 refine⟨h,λk x a=> ?_,b.I⟩;by_cases e:k=i
 .subst e;rw[c]at a;obtain rfl:=Ĥ a;rw[gE,gE,gE,gS];exact⟨g,hF,.gi,d,Ç U⟩
 .rw[fH S _ e,fH tr _ e,fH f _ e,gG lot _ e];exact b.C k x a
end
end Go.Proofs.Y.fA
namespace Go.Proofs.Y.fA
open Go Go.Conc Go.Proofs.Y.Lift
open Go.ConcN (RelBy fork_knows)
def Aa(t:ğ)(p:Nat)(l:dQ):Prop:=∀q a,Ě t q=À a->a.loc=l->a.write=É->Before t q p
theorem Aa.NQ{u:ğ}{l:dQ}(h:Aa qJ i l)(j:∀c∈u,∀b,c.act.touch?=À b->b.loc=l->b.write=É->False):Aa (qJ++u) i l:=by
 intro q a e f g;rcases mI e with⟨_,d⟩|⟨_,c,d,k,_⟩
 .exact(h q a d f g).app u
 .grind
def Aa.afj{l:dQ}(h:Aa qJ i l)(b:bC qJ n i):oN qJ n l:=λq a c d e=>Knows.of_before (h q a c d e) b
theorem afk{l:dQ}(h:oN qJ i l)(c:wQ.g=i)(j:wQ.act.touch?=ë):Aa (qJ++#[wQ]) qJ.size l:=by
 intro q a d e f;rcases mI d with⟨_,b⟩|⟨_,k,b,m,_⟩
 .exact Î<|(h q a b e f).hb_new (ß _) (by rw[ć<|ß _];simp) c
 .grind
structure Fx where
 L:Nat
 m:Nat
 C:Nat
 I:Nat->Nat
def Fx.M(F:Fx)(b:Nat):Prop:=b=F.C\/∃k,k<=F.m/\b=F.I k
def Fx.G(F:Fx)(x:Ú):Prop:=∃b,F.M b/\(x=fM b\/x=gU b)
def je(F:Fx)(k:Nat):Ú:=⟨F.I k,2,ë⟩
def Fx.NS(F:Fx)(a:Nat->Option Nat)(x:Ú)(g:Option Nat):Prop:=(x=gU F.C/\g=À 0)\/∃k j,k<=F.m/\x=gU (F.I k)/\a k=À j/\g=À (F.L+1+j)
structure TI(F:Fx)(t0:Nat)(ji:dQ->Prop)(sp rl:Nat)(V:Nat->Nat->Prop)(pk:Nat->Nat)(fs:Nat->Option Nat)(rx:Nat->Prop)(ql:Nat->Nat)(t:ğ):Prop where
 N:t0<=t.size
 M:∀p a x,Ě t p=À a->a.loc=û x->F.G x->(p<t0/\t.g? p=À 0)\/a.kind=Ŕ\/(a.kind=.said/\F.NS fs x (t.g? p))
 Ab:∀x,x<sp->∀p,p<t0->t.g? p=À 0->bC t (F.L+x) p
 Y:∀k,1<=k->k<=rl->t.act? (pk k)=À (Ř<|Ķ<|fM<|F.I k)/\t.g? (pk k)=À F.L/\t.heard (pk k)
 I:∀k,1<=k->k<=rl->∀a:Ú,(V k a.block\/a=je F k)->Aa t (pk k) (û a)
 c:∀b,F.M b->NoRelease (fM b) t
 r:∀x,x<sp->rx x->RelBy (fM F.C) t (F.L+x) (ql x)/\∀p a,Ě t p=À a->t.g? p=À (F.L+x)->p<=ql x\/((∃y:Ú,a.loc=û y/\y.block=F.C)/\a.kind=Ŕ)
 S:∀p a,t0<=p->Ě t p=À a->t.g? p=À 0\/∃x,x<sp/\t.g? p=À (F.L+x)
 e:∀p a,p<t0->Ě t p=À a->a.loc.isMemory=É->bC t 0 p\/(ji a.loc/\a.kind=Ŕ)
 d:∀p g,p<t0->t.g? p=À g->g≠0->t.counts p->∃j,t.g? j=À 0/\HappensBefore t p j
section
variable{F:Fx}{t0:Nat}{ji:dQ->Prop}{sp rl:Nat}{V:Nat->Nat->Prop}{pk:Nat->Nat}{fs:Nat->Option Nat}{rx:Nat->Prop}{ql:Nat->Nat}{t u:ğ}
theorem Jg(h:t.g? i=À n):i<t.size:=by unfold Ņ at h;grind
def Fq(h:t.g? i=À n):(t++u).g? i=À n:=by rwa[aF<|Jg h]
theorem NT{a:dL}(h:Ě t i=À a):i<t.size:=by let⟨b,c,_⟩:=dM h;grind
structure Jh(F:Fx)(sp rl:Nat)(V:Nat->Nat->Prop)(fs:Nat->Option Nat)(rx:Nat->Prop)(t u:ğ)(i:Nat):Prop where
 C:∀op∈u,∀a,op.act.touch?=À a->op.g=i
 S:i=0\/(∃x,x<sp/\i=F.L+x)\/∀op∈u,op.act.touch?=ë
 M:∀op∈u,∀a x,op.act.touch?=À a->a.loc=û x->F.G x->a.kind=Ŕ\/(a.kind=.said/\F.NS fs x (À i))
 fL:∀op∈u,∀(a:dL) (y:Ú),op.act.touch?=À a->a.write=É->a.loc=û y->∀k,1<=k->k<=rl->¬V k y.block/\y≠je F k
 N:∀op∈u,∀b,F.M b->op.act≠Ř (dN<|fM b)
 I:∀x,x<sp->rx x->(∀r,RelBy (fM F.C) t (F.L+x) r->RelBy (fM F.C) (t++u) (F.L+x) r)/\(F.L+x=i->∀op∈u,∀a,op.act.touch?=À a->(∃y:Ú,a.loc=û y/\y.block=F.C)/\a.kind=Ŕ)
def TI.C(h:TI F t0 ji sp rl V pk fs rx ql t)(f:Jh F sp rl V fs rx t u i):TI F t0 ji sp rl V pk fs rx ql (t++u) where
 N:=by rw[Array.size_append];have:=h.N;omega
 M p a x n y hc:=by
  rcases mI n with⟨d,c⟩|⟨d,m,c,l,j⟩
  .rw[aF d];exact h.M p a x c y hc
  .refine Î ((f.M m c a x l y hc).imp id λq=>⟨q.1,?_⟩);have:(t++u).g? p=À i:=by unfold Ņ;rw[j];simp[f.C m c a l]
   rw[this];exact q.2
 Ab x r p d o:=(h.Ab x r p d<|by rwa[aF<|Ô d h.N]at o).app u;Y k c l:=by let⟨v,s,b⟩:=h.Y k c l;have w:=Jg s;exact⟨by rwa[dO w],Fq s,(heard_old w).2 b⟩
 I k c l a n:=(h.I k c l a n).NQ λm B b z y C=>by have:=f.fL m B b a z C y k c l;exact n.elim this.1 this.2
 c b z:=(h.c b z).app λm B=>f.N m B b z;r x r hr:=by
  let⟨v,s⟩:=h.r x r hr;let⟨D,E⟩:=f.I x r hr;refine⟨D _ v,λp a n o=> ?_⟩;rcases mI n with⟨d,c⟩|⟨d,m,c,l,j⟩
  .exact s p a c<|by rwa[aF d]at o
  .have e:(t++u).g? p=À i:=by unfold Ņ;rw[j];simp[f.C m c a l]
   rw[e]at o;exact Î<|E (Ĥ o).symm m c a l
 S p a d n:=by
  rcases mI n with⟨D,c⟩|⟨_,m,c,l,j⟩
  .rw[aF D];exact h.S p a d c
  .have e:(t++u).g? p=À i:=by unfold Ņ;rw[j];simp[f.C m c a l]
   rw[e];rcases f.S with q|⟨x,r,q⟩|q
   .exact Ç<|by rw[q]
   .exact Î ⟨x,r,by rw[q]⟩
   .rw[q m c]at l;cases l
 e p a d n hm:=by rw[touchAt_old<|Ô d h.N]at n;exact(h.e p a d n hm).imp (·.app u) id
 d p g d o lb hc:=by have w:=Ô d h.N;rw[aF w]at o;rw[eh w]at hc;let⟨j,v,s⟩:=h.d p g d o lb hc;exact⟨j,Fq v,ef u s⟩
theorem xZ(f:∀c∈u,c.act.touch?=ë)(h:∀c∈u,∀b,F.M b->c.act≠Ř (dN<|fM b)):Jh F sp rl V fs rx t u 0 where
 C c e a d:=by rw[f c e]at d;cases d
 S:=Ç U;M c e a x d:=by rw[f c e]at d;cases d
 fL c e a y d:=by rw[f c e]at d;cases d
 N:=h;I x hx g:=by refine⟨λr g=>g.app λj l m i=> ?_,λ_ c e a d=>by rw[f c e]at d;cases d⟩;let⟨z,k,_⟩:=i;rcases mI k with⟨q,_⟩|⟨_,c,n,o,_⟩;all_goals grind
def TI.afl(h:TI F t0 ji sp rl V pk fs rx ql t){b:Nat->Option Nat}(c:∀k y,fs k=À y->b k=À y):TI F t0 ji sp rl V pk b rx ql t:= {h with M:=λp a x d e f=>(h.M p a x d e f).imp id (Or.imp id λq=>⟨q.1,q.2.imp id λ⟨k,j,g,i,l,m⟩=>⟨k,j,g,i,c k j l,m⟩⟩)}
theorem TI.Fs(h:TI F t0 ji sp rl V pk fs rx ql t){y:cX}(j:wQ.g=0/\wQ.act=.go (F.L+sp))(k:y.g=F.L+sp/\y.act=.start)(m:Τ t 0=0)(n:Τ t (F.L+sp)=0)(B:¬rx sp)(o:∀wQ,rx wQ->wQ<sp):TI F t0 ji (sp+1) rl V pk fs rx ql (t++#[wQ,y]):=by
 have q:∀c∈#[wQ,y],c.act.touch?=ë:=by
  intro c a;simp at a;rcases a with rfl|rfl
  .rw[j.2];rfl
  .rw[k.2];rfl
 have r:∀c∈#[wQ,y],∀b,F.M b->c.act≠Ř (dN<|fM b):=by grind
 have d:=h.C<|xZ q r;refine{d with Ab:=λz s p f i=> ?_,r:=λz s l=>d.r z (o z l) l,S:=λp a f u=>((d.S p a f u).imp id λ⟨z,v,e⟩=>⟨z,Z,e⟩)}
 .by_cases e:z<sp
  .exact d.Ab z e p f i
  .obtain rfl:z=sp:=Z
   rw[aF<|Ô f h.N]at i;let⟨c,v,w⟩:=ģ.1 i;have:=bm v;rw[w]at this;exact cO j k m n this
theorem afm{y:cX}(d:wQ.g=0/\wQ.act=.go k)(e:y.g=k/\y.act=.start)(j:Τ t 0=0)(m:Τ t k=0){l:dQ}:(qd t 0 l->qd (t++#[wQ,y]) k l)/\(oN t 0 l->oN (t++#[wQ,y]) k l):=by
 have q:∀c∈#[wQ,y],c.act.touch?=ë:=by
  intro c a;simp at a;rcases a with rfl|rfl
  .rw[d.2];rfl
  .rw[e.2];rfl
 refine⟨λh p a f i=> ?_,λh p a f i n=> ?_⟩
 .rcases mI f with⟨_,b⟩|⟨_,c,b,o,_⟩
  .exact cO d e j m<|h p a b i
  .grind
 .rcases mI f with⟨_,b⟩|⟨_,c,b,o,_⟩
  .exact cO d e j m<|h p a b i n
  .grind
theorem TI.afn(h:TI F t0 ji sp rl V pk fs rx ql t)(f:wQ.g=F.L)(i:wQ.act=Ř (Ķ<|fM<|F.I<|rl+1))(l:Τ t F.L=0)(q:∀a:Ú,(V (rl+1) a.block\/a=je F (rl+1))->oN t F.L (û a)): TI F t0 ji sp (rl+1) V (fx pk (rl+1) t.size) fs rx ql (t++#[wQ]):=by
 have m:∀c∈#[wQ],c.act.touch?=ë:=by
  intro c e;have:c=wQ:=by simpa using e
  rw[this,i];rfl
 have d:=h.C (xZ m λc e b _=>by grind);have n:(t++#[wQ])[t.size]?=À wQ:=by rw[ć<|ß _];simp
 have j:∀k,k<=rl->fx pk (rl+1) t.size k=pk k:=λk r=>fH pk _ Z;refine{d with Y:=λk b o=> ?_,I:=λk b o a p=> ?_}
 .by_cases e:k=rl+1
  .subst e;rw[gE];exact⟨by rw[ez n,i],by simp[Ņ,f],⟨F.L,by simp[Ņ,f],by rwa[cN<|ß _]⟩⟩
  .rw[j k Z];exact d.Y k b Z
 .by_cases e:k=rl+1
  .grind [gE,afk]
  .rw[j k Z];exact d.I k b Z a p
theorem TI.afo(h:TI F t0 ji sp rl V pk fs rx ql t){x:Nat}(r:x<sp)(d:wQ.g=F.L+x)(f:wQ.act=Ř (Ķ<|fM F.C))(k:Τ t (F.L+x)=0)(s:¬rx x): TI F t0 ji sp rl V pk fs (λz=>rx z\/z=x) (fx ql x t.size) (t++#[wQ]):=by
 have l:∀c∈#[wQ],c.act.touch?=ë:=by
  intro c a;have:c=wQ:=by simpa using a
  rw[this,f];rfl
 have j:=h.C (xZ l λc a b _=>by grind);have b:(t++#[wQ])[t.size]?=À wQ:=by rw[ć<|ß _];simp
 refine{j with r:=λz m n=> ?_};by_cases e:z=x
 .subst e;rw[gE];refine⟨⟨by rw[ez b,f],by simp[Ņ,d],⟨F.L+z,by simp[Ņ,d],by rwa[cN<|ß _]⟩,λi u o=> ?_⟩,λp a q _=>Ç ?_⟩
  .have:=Jg o;simp at this;omega
  .have:=NT q;simp at this;omega
 .rw[fH ql _ e];exact j.r z m<|n.resolve_right e
def Wu(e:t.act? i=À (Ř<|Ķ a))(f:t.g? i=À k)(h:t.heard i)(l:NoRelease a t)(c:wQ.g=n)(m:wQ.act=Ř (cL a))(o:Τ t n=0):bC (t++#[wQ]) n i:=by
 have b:=Jg f;have d:(t++#[wQ])[t.size]?=À wQ:=by rw[ć<|ß _];simp
 refine⟨t.size,wQ,d,c,Î<|.single<|Î ⟨.marked b (Î<|by rwa[dO b]) (by rw[ez d,m]) λj _ q=> ?_,(heard_old b).2 h,⟨n,by simp[Ņ,c],by rwa[cN<|ß _]⟩⟩⟩;rw[dO q];exact l j
theorem TI.kK(h:TI F t0 ji sp rl V pk fs rx ql t)(G:wQ.g=0)(o:wQ.act=Ř (cL<|fM F.C))(H:Τ t 0=0)(k:∀x,x<sp->rx x): (∀p a,Ě (t++#[wQ]) p=À a->a.loc.isMemory=É->bC (t++#[wQ]) 0 p\/((ji a.loc\/∃x:Ú,a.loc=û x/\x.block=F.C)/\a.kind=Ŕ))/\(t++#[wQ]).HandedOver:=by
 have Q:wQ.act.touch?=ë:=by rw[o];rfl
 have s:=λx c=>by let⟨b,_⟩:=h.r x c<|k x c;exact Wu b.act b.g b.heard (h.c _<|Ç U) G o H
 have u:∀p a,Ě (t++#[wQ]) p=À a->p<t.size/\Ě t p=À a:=λp a l=>by rcases mI l with q|⟨_,v,d,w,_⟩;all_goals grind
 have B:∀p q x,t.g? p=À (F.L+x)->t.g? q=À (F.L+x)->p<=q->Before (t++#[wQ]) p q:=λp q x d w S=>by
  rcases Nat.lt_or_ge p q with f|i
  .exact Î<|.single<|Ç ⟨f,_,Fq d,Fq w⟩
  .exact Ç Z
 refine⟨λp a l I=> ?_,λp g C J K=> ?_⟩
 .let⟨f,d⟩:=u p a l;by_cases e:p<t0
  .rcases h.e p a e d I with q|⟨b,i⟩
   .exact Ç<|q.app _
   .grind
  .rcases h.S p a Z d with q|⟨x,c,q⟩
   .let⟨v,m,n⟩:=ģ.1 q;have:=bm m;rw[n]at this;exact Ç<|this.app _
   .let⟨b,i⟩:=h.r x c<|k x c;rcases i p a d q with z|⟨j,P⟩
    .exact Ç<|Knows.of_before (B p (ql x) x q b.g z)<|s x c
    .grind
 .let⟨z,D,M,N⟩:=K;let⟨f,d⟩:=u p z D;have O:t.g? p=À g:=by rwa[aF f]at C
  have E:=(eh f).1 ⟨z,D,M,N⟩;by_cases e:p<t0
  .let⟨j,b,i⟩:=h.d p g e O J E;exact⟨j,Fq b,ef _ i⟩
  .rcases h.S p z Z d with q|⟨x,c,q⟩
   .grind
   .let⟨b,_⟩:=h.r x c<|k x c;let⟨r,v,m,n,i⟩:=s x c;have j:(t++#[wQ]).g? r=À 0:=by unfold Ņ;rw[m];simp[n]
    refine⟨r,j,?_⟩;rcases(B p (ql x) x q b.g<|Nat.le_of_not_lt λP=>b.after p P q E).trans i with P|P;all_goals grind
end
end Go.Proofs.Y.fA
namespace Go.Proofs.Y.fA
open Go Go.Conc Go.Proofs.Y.Lift
open Go.ConcN (sumTo)
structure Ph extends Fx where
 P:Õ
 S:Nat
 n:Nat
 q:Nat
 Y:Nat
 f:Nat
 r:Nat->Nat
 a:Nat->Nat
 b:Nat->Nat
 c:Nat->Â
 z:Â
 B:Nat
 γ:Type
 l:γ
 i:Nat->Prop
 p:Nat->γ->γ->Prop
 d:Nat->γ->(Nat->Prop)->Æ->Prop
 o:Nat->ByteArray
 k:Nat->ByteArray
 g:Nat->(Nat->Nat)->Jd
 h:Nat->Jd
 e:Nat->Nat->Jd
 j:(Nat->Nat)->Jd
inductive mX(F:Ph):Nat->F.γ->Prop
 |uO:mX F 0 F.l
 |Cv {k:Nat} {s s':F.γ} (h:mX F k s) (hn:F.p k s s'):mX F (k+1) s'
def jj(F:Ph)(p:Nat):Ú:=⟨F.Y,p,ë⟩
inductive fU where
 |go (j:Nat)|lh (j:Nat)|rd (j:Nat)|iE (j:Nat)|iJ (r:Nat)|kK (r:Nat)|fy (p:jm)|fZ
inductive jr where
 |kF (k:Nat)|mk (k:Nat)|dn (k:Nat) (p:jA)
inductive gM where
 |mW (r:Nat)|fy (r:Nat) (p:jm)|jD (r:Nat)|oh (r:Nat)
inductive ig where
 |ot|fZ (p:jA)|jl (N:Nat)
section
variable(F:Ph)
def Ft:Jd:=λl g=>∃N,QuitsD F.P N l.d g
def kr(l:fe):fe:={l with O:=λ_=>False,I:=λ_=>False,r:=λ_=>False,N:=λ_=>False,q:=True}
def Ac:Jd:=λl g=>Cu F.P Ã F.C (Ft F) .jy (kr l) g
def Cw(c j r:Nat):Jd:=vW F.P Ã c F.z λx=>match x with
 |some v=>λl g=>v=F.c (j+r*F.n)->qg F.P Ã F.B (F.I<|F.r<|j+r*F.n) (F.e c<|j+r*F.n) .iW l g
 |none=>Ac F
def uT(l:fe)(i:Nat):fe:={l with r:=λa=>l.r a/\a≠jj F (F.a i),N:=λa=>l.N a\/a=jj F (F.a i)}
def pw(l:fe)(k:Nat):fe:={l with O:=λ_=>False,I:=l.M,r:=λa=>l.r a/\a≠jj F (F.b k)/\a≠je F.toFx k,N:=λa=>l.N a\/a=jj F (F.b k)\/a=je F.toFx k}
def JW(c j:Nat):gM->Jd
 |.mW r=>Cw F c j r
 |.fy r p=>qg F.P Ã F.B (F.I<|F.r<|j+r*F.n) (F.e c<|j+r*F.n) p
 |.jD r=>F.e c<|j+r*F.n
 |.oh r=>λl g=>l.w.cell? (jj F<|F.a<|j+r*F.n)=À (ħ<|F.k<|j+r*F.n)/\Cw F c j (r+1) (uT F l<|j+r*F.n) g
def JI(sg:Nat->F.γ):jr->Jd
 |.kF k=>F.h k
 |.mk k=>λl g=>∃p V,F.p (k-1) (sg<|k-1) p/\F.d k p V l.w/\(∀b,V b->l.M b)/\l.w.cell? (jj F<|F.b k)=À (ħ<|F.o k)/\Cu F.P Ã (F.I k) (fj F.P Ã<|F.h k) .jy (pw F l k) g
 |.dn k p=>Cu F.P Ã (F.I k) (fj F.P Ã<|F.h k) p
def JE:ig->Jd
 |.ot=>Ac F
 |.fZ p=>Cu F.P Ã F.C (Ft F) p
 |.jl N=>oO F.P N
def Ji(j:Nat)(a:Nat->Nat):Jd:=λl g=>∃c,F.g j (fx a (j-1) c) l g
def Wv(j:Nat)(a:Nat->Nat):Jd:=λl g=>l.d=1/\Fj F.P É (.read<|gU F.C) (Ji F j a) l g
def NU(j:Nat)(a:Nat->Nat):Jd:=λl g=>l.d=1/\Nz F.P É (fM F.C) fX (λs=>if s=fX then fj F.P É (Wv F j a)else if fX<s/\s<1000000*fX/\s%fX=0 then fj F.P É (Ji F j a)else λ_ _=>True) l g
def Ad(a:Nat->Nat):Nat->Jd
 |0=>qg F.P É F.B F.C (F.j a) .iW
 |r+1=>I4 F.P É (a<|F.n-(r+1))<|Ad a r
def Fu(a:Nat->Nat):Nat->Jd
 |0=>Ad F a F.n
 |r+1=>zZ F.P É (a<|(F.q-(r+1))%F.n) (F.c<|F.q-(r+1))<|Fu a r
def JM(dk:Nat->Nat):fU->Jd
 |.go j=>F.g j dk
 |.lh j=>Ji F j dk
 |.rd j=>Wv F j dk
 |.iE j=>NU F j dk
 |.iJ r=>Fu F dk r
 |.kK r=>Ad F dk r
 |.fy p=>qg F.P É F.B F.C (F.j dk) p
 |.fZ=>F.j dk
def lF(x:Nat)(a:Ú):Prop:=if x=0 then(∃k,1<=k/\k<=F.m/\(a=je F.toFx k\/a=jj F (F.b k)))else∃i,i<F.q/\i%F.n=x-1/\a=jj F (F.a i)
end
def fU.sp(n:Nat):fU->Nat
 |.go j|.lh j|.rd j|.iE j=>j
 |_=>n+1
def fU.ad(n:Nat):fU->Nat
 |.iE j=>j
 |.go j|.lh j|.rd j=>j+1
 |_=>n+1
def fU.mj(q:Nat):fU->Nat
 |.go _|.lh _|.rd _|.iE _=>0
 |.iJ r=>q-r
 |_=>q
def fU.jd(n:Nat):fU->Nat
 |.kK r=>n-r
 |.fy _|.fZ=>n
 |_=>0
def jm.rS:jm->Nat
 |.wr|.kq=>1
 |_=>0
def fU.gD:fU->Nat
 |.fy p=>p.rS
 |_=>0
def jA.kG:jA->Nat
 |.jy|.iE=>1
 |_=>0
def ig.kG:ig->Nat
 |.ot=>1
 |.fZ p=>p.kG
 |_=>0
def ig.nU:ig->Prop
 |.ot=>False
 |_=>True
def lS:Option ig->Nat
 |none=>1
 |some e=>e.kG
def jA.iq:jA->Prop
 |.jy=>False
 |_=>True
def ig.iq:ig->Prop
 |.ot=>False
 |.fZ p=>p.iq
 |_=>True
def jr.md:jr->Nat
 |.kF k=>k
 |.mk k=>k-1
 |.dn k _=>k
def jr.rl:jr->Nat
 |.kF k=>k
 |.mk k=>k-1
 |.dn k .jy=>k-1
 |.dn k _=>k
def jr.od:jr->Nat
 |.kF k=>k
 |.mk k=>k-1
 |.dn k .jy|.dn k .iE=>k-1
 |.dn k _=>k
def gM.iL:gM->Nat
 |.mW r=>r
 |.fy r _|.jD r|.oh r=>r+1
def gM.kt:gM->Nat
 |.mW r|.fy r _|.jD r|.oh r=>r
def gM.gD(F:Ph)(j:Nat)(k:Nat):gM->Nat
 |.fy r p=>if F.r (j+r*F.n)=k then p.rS else 0
 |_=>0
structure fS(F:Ph) where
 M:fU
 S:jr
 C:Nat->gM
 N:Nat->Option ig
 I:Nat->Nat
 c:Nat->F.γ
 V:Nat->Nat->Prop
 e:Nat->Nat
 d:Nat->Option Nat
 f:Nat->Nat
 b:GS
 a:Nat->GS
 g:Option Nat
 h:Nat->Nat
section
variable{F:Ph}
def fS.r(E:fS F):Nat:=E.M.sp F.n
def fS.G(E:fS F)(x:Nat):Nat:=if x<E.M.ad F.n then lS (E.N x)else 0
def fS.iq(E:fS F)(x:Nat):Prop:=∃e,E.N x=À e/\e.iq
def fS.nU(E:fS F)(x:Nat):Prop:=∃e,E.N x=À e/\e.nU
def fS.Y(E:fS F)(b:Nat):Prop:=F.M b\/b=F.Y\/∃j,j+2<=E.r/\b=E.I j
def sX(n j Q s:Nat):Prop:=∀i,i<s↔j+i*n<Q
def kM:fU->iy
 |.fy .kq=> .iz
 |_=> .no
def kW(F:Ph)(c:Nat):gM->iy
 |.mW _=> .rQ c F.z
 |.fy _ .kq=> .iz
 |_=> .no
end
structure Ph.Ok(F:Ph):Prop where
 N:1<=F.n
 r:1<=F.L
 gd:F.n+F.q+F.m<1000
 I:∀i,i<F.q->F.r i<=F.m
 M:∀k,k<=F.m->F.I k≠F.C
 S:∀k k',k<=F.m->k'<=F.m->F.I k=F.I k'->k=k'
 C:¬F.M F.Y
 a:∀i i',i<F.q->i'<F.q->F.a i=F.a i'->i=i'
 pi:∀k k',1<=k->k<=F.m->1<=k'->k'<=F.m->F.b k=F.b k'->k=k'
 NV:∀i k,i<F.q->1<=k->k<=F.m->F.a i≠F.b k
 gq:∀b,F.M b\/b=F.Y->F.S<=b
 Y:(∀k,1<=k->k<=F.m->F.b k≠F.f)/\∀i,i<F.q->F.a i≠F.f
structure iG(F:Ph)(E:fS F)(lot:Nat->fe)(sz:Nat)(w:Æ):Prop where
 gR:∀i,i<sz->∀a,(lot i).C a->(∃k,k<=F.m/\a=je F.toFx k)\/∃p,p≠F.f/\a=jj F p
 o:∀x,E.r<=x->x<=F.n->∀a,lF F x a->(lot 0).r a
 lC:E.r<=F.n->(lot 0).N (je F.toFx 0)/\∀b,F.i b->(lot 0).I b
 e:0<E.r->∀k,E.S.md<k->k<=F.m->(lot F.L).r (je F.toFx k)/\(lot F.L).r (jj F<|F.b k)
 f:0<E.r->E.N 0=ë->(lot F.L).N (je F.toFx E.S.md)/\∀b,E.V E.S.md b->(lot F.L).I b
 h:∀j,j+2<=E.r->E.N (j+1)=ë->∀r,j+r*F.n<F.q->(E.C j).kt<=r->(lot<|F.L+1+j).r (jj F<|F.a<|j+r*F.n)
 l:∀j,j+2<=E.r->E.N (j+1)=ë->(lot<|F.L+1+j).N (je F.toFx 0)/\∀b,F.i b->(lot<|F.L+1+j).I b
 S:∀x,E.nU x->lot (F.L+x)=kr (lot<|F.L+x)
 M:∀i,(i=0\/∃x,x<E.r/\i=F.L+x/\¬E.nU x)->¬(lot i).q
 c:∀i,0<i->i<F.L->lot i=kr (lot i)
 I:∀k,k<=E.S.md->∀b,E.V k b->b<w.heap.size/\¬E.Y b/\∀i,i<sz->¬(lot i).O b
 N:∀k,k<=E.S.md->∀i,i<sz->¬(lot i).r (je F.toFx k)
 g:∀k,1<=k->k<=E.S.md->∀i,i<sz->¬(lot i).r (jj F<|F.b k)
 d:∀j,j+2<=E.r->∀r,j+r*F.n<F.q->r<(E.C j).kt->∀i,i<sz->¬(lot i).r (jj F<|F.a<|j+r*F.n)
structure Wd(F:Ph)(E:fS F)(w:Æ):Prop where
 C:gZ w F.C E.b
 I:∀k,k<=F.m->gZ w (F.I k) (E.a k)
 jB:∀j,j+2<=E.r->∃buf s,w.heap[E.I j]?=À (χ F.q buf (decide<|j<E.M.jd F.n) s (E.C j).iL Ã)/\sX F.n j (E.M.mj F.q) s/\(E.C j).iL<=s/\buf.size=s-(E.C j).iL/\∀i,i<s-(E.C j).iL->buf[i]?=À (F.c<|j+((E.C j).iL+i)*F.n)
 M:∀k,k<=E.S.md->mX F k (E.c k)/\F.d k (E.c k) (E.V k) w
 S:∀k,1<=k->k<=E.S.md->w.cell? (jj F<|F.b k)=À (ħ<|F.o k)
 N:∀j,j+2<=E.r->∀r,j+r*F.n<F.q->r<(E.C j).kt->w.cell? (jj F<|F.a<|j+r*F.n)=À (ħ<|F.k<|j+r*F.n)
structure Ps(F:Ph)(E:fS F):Prop where
 v:E.V 0=F.i
 C:∀j,E.M=.go j\/E.M=.lh j\/E.M=.rd j\/E.M=.iE j->j<=F.n
 K:∀j,E.M=.lh j\/E.M=.rd j\/E.M=.iE j->1<=j
 L:∀r,(E.M=.iJ r->r<=F.q)/\(E.M=.kK r->r<=F.n)
 J:E.r=0->E.S=.kF 0
 I:∀k,(E.S=.kF k->k<=F.m)/\(E.S=.mk k->1<=k/\k<=F.m)/\(∀p,E.S=.dn k p->1<=k/\k<=F.m)
 z:∀j,E.r<j+2->E.C j=.mW 0
 d:∀j r,j+2<=E.r->((∃p,E.C j=.fy r p)\/E.C j=.jD r\/E.C j=.oh r)->j+r*F.n<F.q
 l:∀j,j+2<=E.r->E.N (j+1)≠ë->j<E.M.jd F.n/\∃r,E.C j=.mW r/\∀i,j+i*F.n<F.q->i<r
 f:E.N 0≠ë->E.S=.kF F.m
 h:∀x,E.r<=x->E.N x=ë
 M:∀j j',j+2<=E.r->j'+2<=E.r->E.I j=E.I j'->j=j'
 o:∀j,j+2<=E.r->¬F.M (E.I j)/\E.I j≠F.Y/\F.S<=E.I j
 t:∀c reg,E.b=.cl c reg->c=bD (F.n+1) E.G/\reg=E.M.gD
 g:∀reg,E.b=.jz reg->bD (F.n+1) E.G=0/\reg=E.M.gD/\∃x,x<E.r/\E.g=À x/\(E.N x=À (.fZ (.gB reg))\/E.N x=À (.fZ (.jb reg)))
 u:∀r s,E.b=.gV r s->bD (F.n+1) E.G=0/\r+s=E.M.gD/\(0<r->∃x,x<E.r/\E.g=À x/\E.N x=À (.fZ (.iz r)))
 N:∀x p,E.N x=À (.fZ p)->(∀W,p=.gB W\/p=.jb W->E.g=À x/\E.b=.jz W)/\(∀r,p=.iz r->0<r/\E.g=À x/\∃s,E.b=.gV r s)
 B:E.M=.fy .gB\/E.M=.fy .kR\/E.M=.fZ->bD (F.n+1) E.G=0
 e:∀k,1<=k->k<=F.m->E.S.od<k->E.a k=.cl 1 (bD F.n λj=>(E.C j).gD F j k)
 Y:∀k,k<=F.m->k<=E.S.od->(∃W,(E.S=.dn k (.gB W)\/E.S=.dn k (.jb W))/\E.a k=.jz W/\W=bD F.n λj=>(E.C j).gD F j k)\/(∃r s,E.S=.dn k (.iz r)/\0<r/\E.a k=.gV r s/\r+s=bD F.n λj=>(E.C j).gD F j k)\/((∀p,E.S≠ .dn k p)/\((E.a k=.cl 0 0/\(bD F.n λj=>(E.C j).gD F j k)=0)\/∃s,E.a k=.gV 0 s/\s=bD F.n λj=>(E.C j).gD F j k))
 w:∀j r,j+2<=E.r->(E.C j=.fy r .gB\/E.C j=.fy r .kR\/E.C j=.jD r)->F.r (j+r*F.n)<=E.S.od
 H:∀j r,j+2<=E.r->E.C j=.fy r .gB->∃a b,E.a (F.r<|j+r*F.n)=.gV a b
 O:E.M=.fy .gB->∃a b,E.b=.gV a b
 S:(∀p,E.M≠ .fy p)->E.M≠ .fZ->∃c,E.b=.cl c 0
 y:∀k,k<=F.m->E.a k=.cl 1 0->E.d k=ë
 D:∀j r,j+2<=E.r->E.C j=.fy r .wr->E.d (F.r<|j+r*F.n)=À j
def fi(F:Ph)(E:fS F)(a:Array Ó)(w:Æ):Prop:=∀i g,a[i]?=À g->g.status=Ů->
 (i=0/\E.M=.fy .kq/\E.b.sm=0)\/(∃j,j+2<=E.r/\E.N (j+1)=ë/\i=F.L+1+j/\((∃r,E.C j=.fy r .kq/\(E.a<|F.r<|j+r*F.n).sm=0)\/∃r b s c,E.C j=.mW r/\w.heap[E.I j]?=À (χ b #[] Ã s c Ã)))
structure PI(F:Ph)(t0:Nat)(ji:dQ->Prop)(E:fS F)(S:Nat->Jd)(tr:Nat->gy)(kp:Nat->iy)(lot:Nat->fe)(gs:Array Ó)(w:Æ)(t:ğ):Prop where
 b:gs.size=F.L+E.r
 I:gK F.P F.S E.Y S tr kp lot gs w t
 h:S 0=JM F E.I E.M/\kp 0=kM E.M
 m:0<E.r->E.N 0=ë->S F.L=JI F E.c E.S/\kp F.L=.no
 g:∀j,j+2<=E.r->E.N (j+1)=ë->S (F.L+1+j)=JW F (E.I j) j (E.C j)/\kp (F.L+1+j)=kW F (E.I j) (E.C j)
 k:∀x e,x<E.r->E.N x=À e->S (F.L+x)=JE F e/\kp (F.L+x)=.no/\((∃N,e=.jl N)->tr (F.L+x)=.fB)
 l:∀i,0<i->i<F.L->S i=oO F.P (E.h i)/\tr i=.fB/\kp i=.no
 a:iG F E lot gs.size w
 M:Wd F E w
 C:Ps F E
 d:TI F.toFx t0 ji E.r (E.S.rl) E.V E.e E.d E.iq E.f t
 c:fi F E gs w
 f:∀j r,j+2<=E.r->E.C j=.jD r->1<=F.r (j+r*F.n)->bC t (F.L+1+j) (E.e<|F.r<|j+r*F.n)
structure gQ(F:Ph):Prop where
 C:F.Ok
 S:∀k s V w w',F.d k s V w->(∀b,V b->w'.heap[b]?=w.heap[b]?)->w'.cell? (je F.toFx k)=w.cell? (je F.toFx k)->w'.cell? (jj F F.f)=w.cell? (jj F F.f)->kJ w' F.Y=kJ w F.Y->(w'.os=w.os/\w'.output=w.output)->F.d k s V w'
 Fv:∀j dk l g w₁,F.g j dk l g->fI l l.w w₁->F.g j dk {l with w:=w₁} g
 I:∀j dk l g,F.g j dk l g->g.status=Ð
 N:∀k l g,F.h k l g->g.status=Ð
 Y:∀c i l g,F.e c i l g->g.status=Ð
 M:∀dk l g,F.j dk l g->g.status=Ð
 go:∀j dk l g,j<=F.n->F.g j dk l g->gw l->l.d=0/\∃(g' child:Ó) (X:Nat->Prop),g'.status=Ð/\child.status=Ð/\(∀w₁,Ù F.P É g w₁=.spawn g' child w₁ #[])/\(∀b,X b->l.O b)/\
  (1<=j->l.O (dk<|j-1)/\¬X (dk<|j-1)/\l.w.heap[dk<|j-1]?=À (χ F.q #[] Ã 0 0 Ã)/\F.S<=dk (j-1))/\
  (∀l':fe,gw l'->(∀b,X b\/l.I b->l'.I b)->l'.w=l.w->l'.d=0->¬l'.q->(∀b,¬l'.O b)->l'.K=l.K->l'.N=l.N->(∀a,l'.r a->l.r a)->fj F.P Ã (if j=0 then F.h 0 else Cw F (dk<|j-1) (j-1) 0) l' child)/\
  (∀l':fe,gw l'->l'.O=(λb=>l.O b/\¬X b/\(1<=j->b≠dk (j-1)))->(∀b,X b\/l.I b->l'.I b)->l'.w=l.w->l'.d=0->l'.q=l.q->l'.K=l.K->l'.N=l.N->(∀a,l'.r a->l.r a)->fj F.P É (JM F dk<|if j<F.n then .iE (j+1)else .iJ F.q) l' g')
 f:∀k s V l g,k<F.m->F.h k l g->gw l->mX F k s->F.d k s V l.w->(∀b,V b->l.I b)->l.N (je F.toFx k)->l.r (je F.toFx<|k+1)->l.r (jj F<|F.b<|k+1)->∀sg:Nat->F.γ,sg k=s->fj F.P Ã (JI F sg<|.mk (k+1)) l g
 h:∀l g,F.h F.m l g->gw l->fj F.P Ã (Ac F) l g
 e:∀c j r s V l g,j+r*F.n<F.q->F.e c (j+r*F.n) l g->∀l':fe,gw l'->l'.O=l.O->(∀b,l.I b\/V b->l'.I b)->l'.w=l.w->l'.d=l.d->l'.q=l.q->l'.r=l.r->l'.K=l.K->mX F (F.r<|j+r*F.n) s->F.d (F.r<|j+r*F.n) s V l.w->l'.N (je F.toFx<|F.r<|j+r*F.n)->l'.r (jj F<|F.a<|j+r*F.n)->fj F.P Ã (JW F c j<|.oh r) l' g
end Go.Proofs.Y.fA
