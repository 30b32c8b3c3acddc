/- Simulated: the texts of the proof, packed by program out of some 250: remarks struck, names and blanks shortened, for the limit of a claim's size. -/
import Derived.KernelRfl
import Derived.Conc.Own
import Derived.Conc.Events
import Derived.Laws.Sem
import Derived.Conc.Own5
import Derived.Conc.CompanyDraw
import Derived.Conc.Know
import Derived.Conc.Beside
import Derived.Conc.MarkLaws
import Derived.Conc.CrowdComm
import Derived.Conc.CrowdTrace
import Derived.Conc.CrowdBase
set_option linter.all false
set_option maxRecDepth 1000000
set_option maxHeartbeats 8000000
open Option renaming some->À,none->ë,map_eq_some_iff->ģ,map_some->bH
open Go renaming TypeId->Á,Value->Â,World->Æ,Goroutine->Ó,Program->Õ,Operand->Ö,stepG->Ù,Addr->Ú,FuncId->à,execOp->ì,underlying->ø,resolve->ù,IntKind->ú,Event->ý,run_program->ă,variablesAt->Ą,invoke->č,builtin->Ē,Sem->ē,loadBytes->ĕ,Frame->Ę,Trace->ğ,BinOp->ġ,results->Ī,behindNumber->Į,FloatKind->ı,callFunc->ĵ,undef->ľ,yielded->ł,loadCellsFrom->Ō,convert->Œ,movedNumber->ŕ,Item->ś,movedPointer->Ţ,binOp->Ũ,elemOf->Ū,sameAddr->Ŭ,deafBehind->ŭ,eqGuard->ŷ,typeInfo->Δ,partners->Η,RuntimeError->Ι,storeCells->Κ,Next->Ο,cellAtBytes->ξ,choose->π,Tape->ψ,zeroValue->ω,loadVar->ae,Code->ak,store->ar,Oper->av,BoundsCode->ax,sizeOf->ay,storeVar->aJ,nilAhead->aR,lone->aU,load->aX,noView->aY,liesAt->aZ,findLabel->bj,stringish->bm,Unsupported->br,followBlind->bx,Act->bF,askRoom->bP,Machine->bR,Question->bU,asBool->bW,asAddr->bX,fieldPlace->bY,numberAt->b9,asNumber->cg,getObj->cu,shape->cw,exitTo->cD,gotoIn->cE,mayBeOne->cK,runT->cZ,MemOp->c8,loadCells->c9,rowAt->da,program->df,asIntOf->dh,viewAt->dm,byteOf->dp,unwind->dw,runN->dx,cellsIn->dy,asInt->dC,TypeDesc->dH,runN_add->dK,Touch->dN,step->dR,Loc->dS,newRow->dT,PanicEntry->eg,isAgg->ew,Race->eF,newVar->eL,asAgg->eM,newObj->eN,frozen->eO,freeze->eW
open Bool renaming false->Ã,false_eq_true->Å,true->É,and_eq_true_iff->Ü,not_true->þ,not_false->Ă,and_eq_true->ě,or_eq_true_iff->Ŝ,eq_iff_iff->Χ,or_eq_true->bI
open Go.Sem renaming run_bind->Ä,runT_bind'->Ñ,run->ã,bind->ç,runT->é,run_bind'->Ĵ,bind_assoc'->ř,runT_eq->ź,runT_fst->Ρ,pure->aI,store->dc,halt->eu
open Or renaming inl->Ç,inr->Î
open Go.Result renaming andThen_ok->È,ok->ĥ,halt->bV
open Go.Op renaming operands->Ê,equal->ó,maxDepth->ā,eqGuardIn->į,twoPlaces->š,equalIn->Λ,addrSub->Μ,addrCmp->Ν,addrMod->Ξ,call->Ω,intDiv->ah,shift->aK,convert->aN,stringOp->bu,unary->bZ,makeInterface->cJ,floatArith->cU,complexOp->dq,buildSlice->dE,intArith->dF,floatCmp->dG,binOp->dU,makeSlice->dV,fieldAddr->dW,indexAddr->dX,intBits->dZ,nilCheck->eC,intCmp->eD
open Array renaming getElem?_eq_some_iff->Ë,getElem?_setIfInBounds_ne->Ï,getElem?_setIfInBounds_self_of_lt->Ò,mem_of_getElem?->Û,getElem?_eq_getElem->Ý,getElem?_append_right->ć,empty_append->Ď,append_empty->ď,mapM_eq_mapM_toList->Ĕ,mem_append->Ĝ,getElem?_push_lt->Ģ,getD_eq_getD_getElem?->ĩ,replicate->ĺ,append_assoc->Ļ,append_singleton->Ł,all_eq_true->Ń,getElem?_modify->Ň,mem_iff_getElem->ŉ,getElem?_setIfInBounds->Ś,getElem_map->ŵ,getElem_extract->κ,forIn_toList->aE,range->dD
open Go.stepG renaming exec->Ì,apply->bC
open Go.MemOp renaming ofEvents->Í
open Go.GoStatus renaming running->Ð,finished->Ğ,blocked->Ů
open Nat renaming lt_of_lt_of_le->Ô,le_refl->ß,le_trans->õ,exists_eq_add_of_le->Ε,div_le_div_right->ο,add_assoc->cQ,le_of_eq->dA,zero_le->dB
open List renaming map_toArray->Ø,map_cons->â,map_nil->ä,mem_cons_self->î,mem_cons_of_mem->ò,eq_nil_of_length_eq_zero->Ā,zipIdx_cons->Ĭ,mem_cons->œ,mem_singleton->ū,foldlM_cons->Ζ,filter_eq_nil_iff->Υ,foldlM_nil->ζ,forIn_cons->η,mapM_cons->ν,forIn_nil->φ,map_eq_nil_iff->aj,flatMap_cons->aV,mapM_nil->cS
open Go.Value renaming pointer->Þ,int->Ć,string->ħ,bool->Ľ,tuple->ſ,nilIface->aW,slice->bS,nilFunc->bT,chan->ep,func->eK
open Go.Item renaming inRegion->á,code->Đ,inLoop->dr,inBlock->dI,inScope->dJ
open Go.Act renaming eval->å
open Go.IntKind renaming u64->æ,i64->Ŋ,u32->ŗ
open Go.MemAct renaming ofEvent->è,touch?->ÿ,mark->Ř
open Go.Builtin renaming unsafeString_->ê,unsafeAdd_->ñ,unsafeSliceData_->ė,min2->Ĳ,append_->ĸ,firstCells->ļ,min_->ń,copy_->ő,len_->ş,cap_->Š,zeroCells->Ŷ,lenOf->Α,holdsCells->aB,mayShare->bb,unsafeSliceData->bl,unsafeString->cX
open Go.Conc renaming mem_ofEvents->í,touchAt->Ě,crowd->ķ,woken->ţ,stepG_region_draw->Ż,parked->Γ,Deaf->Τ,rcase->θ,stepG_unwanted->υ,g?_old->aG,knows_own->bn,deafBehind_still->bq,stepG_value->bA,stepG_enter->bB,Knows->bD,stepG_cond->cF,mem_listed->cG,stepG_none->cH,enter_at->cI,deaf_old->cO,touch_of->dO,act?_old->dQ,hb_app->eh,touch_mute->ei,counts_old->ek,act?_of->eB
open Go.Next renaming value->ï,enter->ũ,skip->aH
open Go.TypeDesc renaming pointer->ð,unsafePointer->đ,string->ę,int->Β,struct->di,slice->dj
open Go.Call renaming operands->ô
open Go.Conv renaming unsafePointer->ö,bytesToString->ü,seenAt->Ž,runesToString->aF,floatToFloat->aQ,intToString->bh,floatToInt->bK,intToInt->cV
open Go.Loc renaming cell->û,mark->ů
open Ne renaming symm->ą
open Go.World renaming frozen?->Ĉ,setCell->ĉ,freeze->Ė,cell?->Ġ,farLoad->ŋ,farStore->Ŧ,shape?->Θ,setChan->au,noCell->aP,viewStore->bJ
open Go.Extern.BytealgMakeNoZero renaming makeNoZero->Ċ,digits->ņ
open Go.Mode renaming atomic->ċ,plain->Ť
open Go.Obj renaming cells->Č,pending->Ÿ,chan->χ
open Go.Callee renaming builtin->ĝ,value->cj
open Option.some renaming inj->Ĥ,injEq->ž
open Go.Region renaming wanted->Ħ,schedule->bM,Mode->eI
open Go.Instr renaming sliceBounds->Ĩ,sliceBound->ī,buildSlice->ĭ,storeAt->ĳ,makeSlice->Ĺ,extract->ō,fieldAt->Ŏ,indexAt->ŏ,sliceAt->Ő,makeInterface->ŝ,loadAt->Ş,sureAddr->ŧ,alloc->Ű,field->ű,slice->Ų,index->ų,build->Ŵ,panic->ż,box->ag,fill->az
open Go.Deferred renaming ofValue->İ
open Go.Mark renaming releaseMerge->Ķ,disable->cL,acquire->cM,noRoom->de,enable->dz,release->dP
open Go.Extern.AbiNoEscape renaming same->Ŀ
open Go.Halt renaming unsupported->ŀ
open Go.Trace renaming g?->Ņ
open Go.Stepped renaming next->ň
open Go.Touch.Kind renaming atomic->Ŕ,plain->eY
open Go.Frame renaming raise->Ŗ,finish_at->ε,finish->aT,catches->cW,enter->dL
open Go.Unsupported renaming unsafePointer->ť
open Go.GStep renaming after->Ź,go->aS,ended->eU
open Go.Goroutine renaming again->ι
open Except renaming bind->ρ,pure->ς,error->bG,map->cm
open Go.Op.Complex renaming corrected->σ,quotient->ai,product->aC,arith->bg,conv->bL,cmp->cx,mul->cy,add->cz,sub->cA,quo->cB
open Go.BinOp renaming eql->aA,neq->aL
open Go.Operand renaming func->aO,const->dY,global->ey
open Go.Code renaming cond->bz,region->bQ,refuse->du,label->ea,block->eb,scope->ec,skip->eP,loop->eR,exit->eS,goto->eT
open Go.ConcN renaming sumTo->bE,fork_knows->cP
variable{i n j b k m J j9 j7 j6:Nat}{w u W jX:Æ}{v x z jQ:Â}{g:Ó}{a p:Ú}{h c:Int}{e t T:Á}{d q:Array Â}{P:Õ}{y:bF}{B:ByteArray}{X:Nat->Prop}{O:Option Ú}{l:List Â}{yQ:Bool}{K H:bF->Æ->Prop}{o:av}{D:Nat->Nat}{E:Array Ó}{L:List ś}{jJ:List Nat}{qX:List Ę}{qQ:Ö}{qJ:ğ}{zX:dS->Prop}{zQ:List Int}{zJ:Go.TypeInfo}{xX:Ö->Â}{xQ:ψ}{xJ:Nat×Nat}{wX:ak}{wQ:c8}{wJ:Array Bool}{vX:List ByteArray}{vQ:Â->Æ->Prop}{vJ:Go.Exit->bF->Æ->Prop}{yX:eI}{Q:Array av}{f:Ę}{V:Array ý}{F:à}{s:Go.Func}
namespace Go.Proofs
theorem U{A:Sort _}{a:A}:a=a:=rfl
theorem Z{p:Prop}(h:p:=by omega):p:=h
theorem A{p:Prop}(h:p:=by decide):p:=h
theorem fj{p:Prop}(h:p:=by simp):p:=h
theorem fp{p:Prop}(h:p:=by kernel_rfl):p:=h
theorem fN{p:Prop}(h:p:=by rfl):p:=h
end Go.Proofs
namespace Go.Proofs.Y.Lift
open Go
abbrev ff{α:Type}:α->Prop:=λ_=>False
structure fq where
 jD:Nat->Nat->Prop
 C:Nat
instance:CoeFun fq λ_=>Nat->Nat->Prop:=⟨fq.jD⟩
def Bi(Y:fq):Prop:=(∀i j a,Y i j->Y i a->j=a)/\(∀i a j,Y i j->Y a j->i=a)/\(∀i j,Y i j->(i<Y.C↔j<Y.C))
def fq.r(Y a:fq):Prop:=(∀i j,Y i j->a i j)/\(Bi Y->Bi a)/\a.C=Y.C
def fq.N(Y:fq)(r a:Nat):fq:=⟨λi j=>Y i j\/(i=r/\j=a),Y.C⟩
def fq.M(Y:fq):Y.r Y:=⟨λ_ _ h=>h,id,U⟩
theorem fq.I{a b c:fq}(h:a.r b)(k:b.r c):a.r c:=⟨λi j x=>k.1 i j<|h.1 i j x,λx=>k.2.1<|h.2.1 x,k.2.2.trans h.2.2⟩
theorem fq.S{Y:fq}{r:Nat}(c:∀j,¬Y r j)(d:∀a,¬Y a i)(f:Y.C<=r)(g:Y.C<=i):Y.r (Y.N r i):=by
 refine⟨λ_ _ h=>Ç h,λb=>⟨?_,?_,?_⟩,U⟩
 .rintro a j k (x|⟨rfl,rfl⟩) (y|⟨e,rfl⟩)
  .exact b.1 _ _ _ x y
  .grind
  .grind
  .rfl
 .rintro a k j (x|⟨rfl,rfl⟩) (y|⟨rfl,e⟩)
  .exact b.2.1 _ _ _ x y
  .grind
  .grind
  .rfl
 .rintro a j (x|⟨rfl,rfl⟩)
  .exact b.2.2 _ _ x
  .show(a<Y.C↔j<Y.C);omega
def hD(Y:fq)(a b:Ú):Prop:=Y a.block b.block/\a.off=b.off/\a.spot=b.spot
def hD.r{Y b:fq}(h:Y.r b)(r:hD Y a p):hD b a p:=⟨h.1 _ _ r.1,r.2⟩
def hD.C{Y:fq}(r:hD Y a p)(n:Nat):hD Y (a.add n) (p.add n):=by
 let⟨b,c,d⟩:=r;unfold Addr.add;by_cases e:n=0
 .rw[if_pos e,if_pos e];exact⟨b,c,d⟩
 .rw[if_neg e,if_neg e];exact⟨b,by simp[c],U⟩
inductive fi(Y:fq):Â->Â->Prop
 |mC (b:Bool):fi Y (Ľ b) (Ľ b)
 |iD (k:ú) (n:Int):fi Y (Ć k n) (Ć k n)
 |kJ (s:ByteArray):fi Y (ħ s) (ħ s)
 |lS:fi Y (Þ ë) (Þ ë)
 |jS {a a':Ú} (h:hD Y a a'):fi Y (Þ<|À a) (Þ<|À a')
 |om (n c:Nat):fi Y (bS ë n c) (bS ë n c)
 |kK {a a':Ú} (h:hD Y a a') (n c:Nat):fi Y (bS (À a) n c) (bS (À a') n c)
 |u9:fi Y bT bT
 |fn (f:Fn):fi Y (eK f #[] #[]) (eK f #[] #[])
 |va:fi Y aW aW
 |vd:fi Y (ep ë) (ep ë)
 |ve:fi Y (.map ë) (.map ë)
 |yq (t:Á) {v v':Â} (h:fi Y v v'):fi Y (.iface t v) (.iface t v')
 |oJ {cs lT:Array Â} (hs:cs.size=lT.size) (h:∀i (h1:i<cs.size) (h2:i<lT.size),fi Y cs[i] lT[i]):fi Y (.agg cs) (.agg lT)
 |nQ {cs lT:Array Â} (hs:cs.size=lT.size) (h:∀i (h1:i<cs.size) (h2:i<lT.size),fi Y cs[i] lT[i]):fi Y (ſ cs) (ſ lT)
def fi.fO{Y a:fq}(h:Y.r a)(r:fi Y v x):fi a v x:=by
 induction r with
 |mC b=>exact .mC b
 |iD k n=>exact .iD k n
 |kJ s=>exact .kJ s
 |lS=>exact .lS
 |jS b=>exact .jS (b.r h)
 |om n c=>exact .om n c
 |kK b n c=>exact .kK (b.r h) n c
 |u9=>exact .u9
 |fn f=>exact .fn f
 |va=>exact .va
 |vd=>exact .vd
 |ve=>exact .ve
 |yq t _ b=>exact .yq t b
 |oJ c _ b=>exact .oJ c b
 |nQ c _ b=>exact .nQ c b
structure fS(Y:fq)(cs lT:Array Â):Prop where
 r:cs.size=lT.size
 C:∀i (h1:i<cs.size) (h2:i<lT.size),fi Y cs[i] lT[i]
def fS.I{Y a:fq}(h:Y.r a){cs:Array Â}(r:fS Y cs d):fS a cs d:=⟨r.r,λi b c=>(r.C i b c).fO h⟩
theorem fS.S{Y:fq}(r:fS Y d q)(i:Nat):(d[i]?=ë/\q[i]?=ë)\/∃v b,d[i]?=À v/\q[i]?=À b/\fi Y v b:=by
 by_cases h:i<d.size
 .have a:i<q.size:=by rwa[<-r.r]
  exact Î ⟨d[i],q[i],Ý h,Ý a,r.C i h a⟩
 .have a:¬i<q.size:=by rwa[<-r.r]
  grind
def fS.N(Y:fq):fS Y #[] #[]:=⟨U,λi h=>absurd h fj⟩
theorem fS.Va{Y:fq}(r:fS Y d q)(h:fi Y v x):fS Y (d.push v) (q.push x):=by
 refine⟨by simp[r.r],λi b c=> ?_⟩;simp only[Array.getElem_push];have e:=r.r;by_cases a:i<d.size
 .rw[dif_pos a,dif_pos Z];exact r.C i a Z
 .grind
theorem fS.qz{Y:fq}(r:fS Y d q)(n:Nat)(h:fi Y v x):fS Y (d.setIfInBounds n v) (q.setIfInBounds n x):=by
 refine⟨by simp[r.r],λi c e=> ?_⟩;have f:i<d.size:=by simpa using c
 have g:i<q.size:=by simpa using e
 have a:(d.setIfInBounds n v)[i]?=if n=i then À v else d[i]?:=by grind
 have b:(q.setIfInBounds n x)[i]?=if n=i then À x else q[i]?:=by grind
 rw[Ý c]at a;rw[Ý e]at b;by_cases j:n=i
 .grind
 .rw[if_neg j]at a b;rw[Ý f]at a;rw[Ý g]at b;injection a with a;injection b with b;rw[a,b];exact r.C i f g
def fS.tD{Y:fq}{cs b:Array Â}(r:fS Y cs d)(t:fS Y q b):fS Y (cs++q) (d++b):=by
 refine⟨by simp[r.r,t.r],λi c g=> ?_⟩;have e:=r.r;have f:=t.r;simp only[Array.getElem_append];by_cases a:i<cs.size
 .rw[dif_pos a,dif_pos Z];exact r.C i a Z
 .rw[dif_neg a,dif_neg Z];have:=t.C (i-cs.size) (by simp at c;omega) (by simp at c;omega);simpa[e]using this
def fS.FA{Y:fq}(r:fS Y d q)(a b:Nat):fS Y (d.extract a b) (q.extract a b):=by refine⟨by simp[r.r],λi c e=> ?_⟩;rw[κ ..,κ ..];exact r.C _ _ _
def fS.M{Y:fq}(h:fi Y v x):fS Y #[v] #[x]:= ⟨U,λi a b=>by have:i=0:=(by simpa using a);subst this;exact h⟩
def fi.gT{Y:fq}(h:fi Y v x):fS Y v.cells x.cells:=by
 cases h with
 |oJ a h=>exact⟨a,h⟩
 |mC b=>exact fS.M<|.mC b
 |iD k n=>exact fS.M<|.iD k n
 |kJ s=>exact fS.M<|.kJ s
 |lS=>exact fS.M .lS
 |jS b=>exact fS.M<|.jS b
 |om n c=>exact fS.M<|.om n c
 |kK b n c=>exact fS.M<|.kK b n c
 |u9=>exact fS.M .u9
 |fn f=>exact fS.M<|.fn f
 |va=>exact fS.M .va
 |vd=>exact fS.M .vd
 |ve=>exact fS.M .ve
 |yq t b=>exact fS.M<|.yq t b
 |nQ a h=>exact fS.M<|.nQ a h
def yr:Â->Bool
 |.agg _|ſ _=>Ã
 |_=>É
def FB(e:Á)(n:Nat):Prop:=(e=304\/e=305)/\n<=16
class Aq (P:Õ):Prop where
 lt:∀e n,FB e n->n<P.cellsOf e
def CQ(e:Á)(n a:Nat):Prop:=n=a\/(n<=a/\FB e n)
structure pb(Y:fq)(s:Prop)(e:Á)(c c':Array Â):Prop where
 r:∀i (_:i<c.size) (_:i<c'.size),fi Y c[i] c'[i]
 I:c.size<=c'.size
 C:c.size=c'.size\/(s/\FB e c.size)
section
variable{Y d:fq}{s:Prop}{c c':Array Â}
def pb.M(h:fS Y c c'):pb Y s e c c':=⟨h.C,by rw[h.r];exact ß _,Ç h.r⟩
def pb.N(h:pb Y s e c c')(a:¬s):fS Y c c':=⟨h.C.resolve_right λq=>a q.1,h.r⟩
def pb.fO(h:pb Y s e c c')(l:Y.r d):pb d s e c c':=⟨λi a b=>(h.r i a b).fO l,h.I,h.C⟩
theorem pb.Ar(h:pb Y s e c c')(i:Nat):(c[i]?=ë/\True)\/∃v a,c[i]?=À v/\c'[i]?=À a/\fi Y v a:=by
 by_cases q:i<c.size
 .have b:=Ô q h.I;exact Î ⟨c[i],c'[i],Ý q,Ý b,h.r i q b⟩
 .grind
def pb.adf(h:pb Y s e c c'):CQ e c.size c'.size:=h.C.imp id λq=>⟨h.I,q.2⟩
end
inductive fF(P:Õ){α:Type}(V:fq->α->α->Prop):fq->ē α->ē α->Prop
 |fB {Y:fq} {a a':α} (h:V Y a a'):fF P V Y (aI a) (aI a')
 |gA {Y:fq} {a a':Ú} {k k':Â->ē α} (ha:hD Y a a') (hk:∀v v',fi Y v v'->fF P V Y (k v) (k' v')):fF P V Y (.load Ť a k) (.load Ť a' k')
 |jc {Y:fq} {a a':Ú} {v v':Â} {k k':ē α} (ha:hD Y a a') (hv:fi Y v v') (hk:fF P V Y k k'):fF P V Y (dc Ť a v k) (dc Ť a' v' k')
 |yt {Y:fq} {c c':Array Â} {e:Á} {k k':Nat->ē α} (hc:fS Y c c') (hk:∀r r',(∀j,¬Y r j)->(∀i,¬Y i r')->Y.C<=r->Y.C<=r'->fF P V (Y.N r r') (k r) (k' r')):fF P V Y (.new (Č c e) k) (.new (Č c' e) k')
 |vf {Y:fq} {r r':Nat} {k k':Option (TypeId×Nat)->ē α} (hr:Y r r') (hk:∀e n n',CQ e n n'->fF P V Y (k<|À (e,n)) (k'<|À (e,n'))):fF P V Y (.shape r k) (.shape r' k')
 |Nq {Y:fq} {a a':Ú} {k k':Bool->ē α} (ha:hD Y a a') (hk:∀b b',(b'=É->b=É)->fF P V Y (k b) (k' b')):fF P V Y (.frozen a k) (.frozen a' k')
 |As {Y:fq} {q:bU} {k k':Nat->ē α} (hk:∀n,fF P V Y (k n)<|k' n):fF P V Y (.choose q k) (.choose q k')
 |I5 {Y:fq} {k k':Õ->ē α} (hk:fF P V Y (k P) (k' P)):fF P V Y (.program k) (.program k')
 |CR {Y:fq} {m:Mark} {k k':ē α} (hm:m=de\/∃f,m=.extern f) (hk:fF P V Y k k'):fF P V Y (.mark m k) (.mark m k')
 |fR {Y:fq} {h:Halt} {m:ē α}:fF P V Y (eu h) m
 |oK {Y:fq} {m m':ē α} (h:∀u x u',m.run P u≠ĥ x u'):fF P V Y m m'
def wC{α β:Type}{m:ē α}{f:α->ē β}(h:∀u x b,m.run P u≠ĥ x b):∀u x b,(m.bind f).run P u≠ĥ x b:=by
 intro u x b e;have c:(m>>=f).run P u=ĥ x b:=e;rw[Ä]at c;cases d:m.run P u with
 |ok a w=>exact h _ _ _ d
 |halt z w=>rw[d]at c;cases c
def fF.lD{α β:Type}{V:fq->α->α->Prop}{l:fq->β->β->Prop}{Y:fq}{m o:ē α}{f p:α->ē β}(h:fF P V Y m o) (g:∀i a k,Y.r i->V i a k->fF P l i (f a) (p k)):fF P l Y (m.bind f) (o.bind p):=by
 induction h with
 |fB h=>exact g _ _ _ (fq.M _) h
 |gA j _ d=>exact .gA j λv c b=>d v c b g
 |jc j b _ d=>exact .jc j b (d g)
 |yt q _ d=>exact .yt q λr s c e n v=>d r s c e n v λi a k t b=>g i a k (fq.I (fq.S c e n v) t) b
 |vf b _ d=>exact .vf b λe n v c=>d e n v c g
 |Nq j _ d=>exact .Nq j λb c v=>d b c v g
 |As _ d=>exact .As λn=>d n g
 |I5 _ d=>exact .I5 (d g)
 |CR c _ d=>exact .CR c (d g)
 |fR=>exact .fR
 |oK h=>exact .oK (wC h)
def yu:Â->Bool
 |Ć .u8 _=>É
 |_=>Ã
def CS(c:Array Â):Prop:=∀(k:Nat) (v:Â),c[k]?=À v->yu v=Ã
structure jg(Y:fq)(Sh:Nat->Prop)(u w:Æ):Prop where
 S:u.tape=w.tape
 N:u.drawn=w.drawn
 C:Bi Y
 I:Y.C<=u.heap.size
 M:Y.C<=w.heap.size
 r:∀i j,Y i j->∃c c' e fr wD,u.heap[i]?=À (Č c e fr)/\w.heap[j]?=À (Č c' e wD)/\pb Y (Sh j) e c c'/\(Sh j->fr.1=0/\c.size<=fr.2/\wD.2<=fr.2/\0<c.size/\(CS c\/FB e c.size))/\(¬Sh j->fr=wD)/\fr.2<=c.size
structure nR(Y:fq)(Sh:Nat->Prop)(w w':Æ):Prop where
 r:w.heap.size<=w'.heap.size
 I:w'.os=w.os
 M:w'.output=w.output
 S:w'.tape=w.tape
 C:∀j,j<w.heap.size->(∀i,¬Y i j)->w'.heap[j]?=w.heap[j]?
 N:∀j,Sh j->j<w.heap.size->w'.heap[j]?=w.heap[j]?
def At(Y:fq)(b:Nat->Prop)(e:ý):Prop:=
 (∃(a:Ú) (i:Nat),e.loc=û a/\Y i a.block/\e.sync=Ã/\(e.write=É->¬b a.block))\/e.loc=ů de\/∃f,e.loc=ů (.extern f)
def wE{α:Type}{m:Mode}{k:ē α}(h:yr v=É): ã P (dc m a v k) w=(match w.cell? a with
 |some _=>if w.frozen? a then bV (ŀ<|ť "a write to bytes that a string shares") w else k.run P (w.setCell a v)
 |none=>match w.farStore P a v (m==ċ)with
  |.ok (w,_)=>k.run P w
  |bG h=>bV h w):=by
 cases v<;>first|rfl|cases h
def adg{α:Type}{m:Mode}{k:ē α}(h:yr v=É): é P (dc m a v k) w V=(match w.cell? a with
 |some _=>
  if w.frozen? a then(bV (ŀ<|ť "a write to bytes that a string shares") w,V)
  else k.runT P (w.setCell a v) (V.push ⟨û a,É,m==ċ⟩)
 |none=>match w.farStore P a v (m==ċ)with
  |.ok (w,touched)=>k.runT P w (V++touched.toArray.map (⟨.cell ·,É,m==.atomic⟩))
  |bG h=>(bV h w,V)):=by
 cases v<;>first|rfl|cases h
def adh{α:Type}{m:Mode}{k:ē α}(h:yr v=Ã){x:α}:ã P (dc m a v k) w≠ĥ x u:=by cases v<;>first|exact Bool.noConfusion h|(intro e;simp[ã]at e)
def adi{Y:fq}(h:fi Y v x):yr x=yr v:=by cases h<;>rfl
section
variable{Y:fq}
def Au(h:u.heap[a.block]?=À (Č d e xJ)):u.cell? a=if a.spot.isSome then ë else d[a.off]?:=by simp[Ġ,h]
def adj(h:u.heap[a.block]?=À (Č d e xJ))(b:Bool):∃x,u.farLoad P a b=bG x:=by simp[ŋ,h]
def adk(h:u.heap[a.block]?=À (Č d e xJ))(b:Bool):∃x,u.farStore P a v b=bG x:=by simp[Ŧ,h]
def jg.gA(h:jg Y X u w){a':Ú}(i:hD Y a a')(b:u.cell? a=À v):∃f,w.cell? a'=À f/\fi Y v f:=by
 let⟨j,k,l⟩:=i;let⟨c,s,e,t,y,m,n,o,_⟩:=h.r _ _ j;rw[Au m]at b;rw[Au n,<-k,<-l];cases g:a.spot with
 |some x=>rw[g]at b;cases b
 |none=>
  rw[g]at b;rcases o.Ar a.off with⟨d,_⟩|⟨x,p,d,q,r⟩
  .simp[d]at b
  .simp[d]at b;subst b;exact⟨p,by simp[q],r⟩
theorem jg.adl(h:jg Y X u w)(g:hD Y a p)(i:u.cell? a=À v)(j:u.frozen? a=Ã):¬X p.block/\w.frozen? p=Ã:=by
 let⟨k,l,q⟩:=g;let⟨c,r,e,b,s,d,m,t,x,n,y⟩:=h.r _ _ k;rw[Au d]at i;have z:a.off<c.size:=by grind
 have o:(decide (b.1<=a.off)&&decide (a.off<b.2))=Ã:=by simpa[Ĉ,d]using j
 have f:¬X p.block:=by grind
 refine⟨f,?_⟩;have:=n f;subst this;simp only[Ĉ,m,<-l];exact o
def Vb{w:Æ}(h:w.heap[a.block]?=À (Č d e xJ))(b:a.spot=ë): (w.setCell a v).heap[a.block]?=À (Č (d.setIfInBounds a.off v) e xJ):=by simp[ĉ,Ň,h,b]
def j2{w:Æ}:(w.setCell a v).heap.size=w.heap.size:=by simp[ĉ]
def I6{w:Æ}(h:a.block≠j):(w.setCell a v).heap[j]?=w.heap[j]?:=by simp[ĉ,Ň,h]
def jg.jc(h:jg Y X u w)(B:hD Y a p)(C:fi Y v z)(D:u.cell? a=À x)(m:¬X p.block):jg Y X (u.setCell a v) (w.setCell p z):=by
 let⟨d,E,F⟩:=B;have n:a.spot=ë:=by let⟨c,o,e,f,g,b,_⟩:=h.r _ _ d;rw[Au b]at D;simp_all
 refine⟨h.S,h.N,h.C,by rw[j2];exact h.I,by rw[j2];exact h.M,λi j k=> ?_⟩;let⟨c,o,e,f,g,b,q,r,G,t,y⟩:=h.r i j k;by_cases l:a.block=i
 .subst l;have:j=p.block:=h.C.1 _ _ _ k d;subst this;exact⟨_,_,e,f,g,Vb b n,Vb q (by rw[<-F,n]),by rw[<-E];exact pb.M<|(r.N m).qz _ C,λs=>absurd s m,t,by simpa using y⟩
 .exact⟨c,o,e,f,g,by rwa[I6 l],by rwa[I6 λe=>l<|h.C.2.1 _ _ _ d<|e▸k],r,G,t,y⟩
theorem jg.yt(h:jg Y X u w)(m:∀j,X j->j<w.heap.size)(n:fS Y d q): jg (Y.N u.heap.size w.heap.size) X {u with heap:=u.heap.push (Č d e)} {w with heap:=w.heap.push (Č q e)}:=by
 have a:∀i j,Y i j->i<u.heap.size/\j<w.heap.size:=by intro i j s;let⟨_,_,_,_,_,f,g,_⟩:=h.r i j s;grind
 have b:=fq.S (Y:=Y) (λj x=>absurd (a _ _ x).1 Z) (λi x=>absurd (a _ _ x).2 Z) h.I h.M;refine⟨h.S,h.N,b.2.1 h.C,by have:=h.I;simp[fq.N];omega,by have:=h.M;simp[fq.N];omega,?_⟩
 .rintro i j (x|⟨rfl,rfl⟩)
  .let⟨s,o,p,r,t,f,g,v,y,z,B⟩:=h.r i j x;let⟨k,l⟩:=a i j x;exact⟨s,o,p,r,t,by simp only[Ģ k];rw[<-f,Ý k],by simp only[Ģ l];rw[<-g,Ý l],v.fO b,y,z,B⟩
  .exact⟨d,q,e,(0,0),(0,0),fj,fj,pb.M<|n.I b,λs=>absurd (m _ s) Z,λ_=>rfl,dB _⟩
theorem nR.fV(Y:fq)(X:Nat->Prop)(w:Æ):nR Y X w w:=⟨ß _,U,U,U,λ_ _ _=>rfl,λ_ _ _=>rfl⟩
def nR.fe{b:fq}{w₁:Æ}(h:nR Y X w w₁)(k:nR b X w₁ u)(d:∀i j,b i j->Y i j\/w.heap.size<=j):nR Y X w u:= ⟨õ h.r k.r,k.I.trans h.I,k.M.trans h.M,k.S.trans h.S,λj a c=>(k.C j (Ô a h.r) λi y=>(d i j y).elim (c i) λz=>by omega).trans<|h.C j a c,λj s a=>(k.N j s<|Ô a h.r).trans<|h.N j s a⟩
def I7{w:Æ}:(w.freeze a n).heap.size=w.heap.size:=by unfold Ė;split<;>simp
def adn{w:Æ}:(w.freeze a n).os=w.os:=by unfold Ė;split<;>rfl
def ado{w:Æ}:(w.freeze a n).output=w.output:=by unfold Ė;split<;>rfl
def Nr{w:Æ}:(w.freeze a n).tape=w.tape:=by unfold Ė;split<;>rfl
def Vd{w:Æ}:(w.freeze a n).drawn=w.drawn:=by unfold Ė;split<;>rfl
theorem I8{w:Æ}(h:a.block≠j):(w.freeze a n).heap[j]?=w.heap[j]?:=by unfold Ė;split;all_goals grind
def sC(a:Ú)(n:Nat)(b:Nat×Nat):Nat×Nat:=if n=0 then b else if b.1==b.2 then(a.off,a.off+n)else(min b.1 a.off,max b.2<|a.off+n)
theorem Ve{w:Æ}(h:w.heap[a.block]?=À (Č d e xJ)):(w.freeze a n).heap[a.block]?=À (Č d e<|sC a n xJ):=by unfold Ė sC;grind
def Vf(h:a.off=p.off)(n:Nat)(b:Nat×Nat):sC a n b=sC p n b:=by unfold sC;rw[h]
theorem adp(h:a.off+n<=i)(b:xJ.2<=i):(sC a n xJ).2<=i:=by unfold sC;grind
theorem adq{b:Nat×Nat}(c:0<i)(d:xJ.1=0)(e:i<=xJ.2)(f:b.2<=xJ.2):(sC a n xJ).1=0/\i<=(sC a n xJ).2/\(sC a n b).2<=(sC a n xJ).2:=by unfold sC;grind
def jg.adr(h:jg Y X u w)(y:hD Y a p)(n:Nat)(z:∀c e b,u.heap[a.block]?=À (Č c e b)->a.off+n<=c.size):jg Y X (u.freeze a n) (w.freeze p n):=by
 obtain⟨k,l,I⟩:=y;refine⟨Nr.trans<|h.S.trans Nr.symm,Vd.trans<|h.N.trans Vd.symm,h.C,by rw[I7];exact h.I,by rw[I7];exact h.M,λi j d=> ?_⟩;obtain⟨c,m,e,b,B,f,o,q,r,t,v⟩:=h.r i j d;by_cases g:a.block=i
 .subst g;have:j=p.block:=h.C.1 _ _ _ d k;subst this;refine⟨c,m,e,_,_,Ve f,Ve o,q,λs=> ?_,λs=> ?_,adp (z _ _ _ f) v⟩
  .obtain⟨C,D,E,x⟩:=r s;rw[<-Vf l];obtain⟨F,G,H⟩:=adq x.1 C D E;exact⟨F,G,H,x⟩
  .rw[t s,Vf l]
 .exact⟨c,m,e,b,B,by rwa[I8 g],by rwa[I8 λe=>g<|h.C.2.1 _ _ _ k<|e▸d],q,r,t,v⟩
theorem jg.G(h:jg Y X u w)(b:hD Y a p):w.frozen? p=É->u.frozen? a=É:=by let⟨d,f,j⟩:=b;let⟨c,k,e,l,m,g,i,n,o,q,r⟩:=h.r _ _ d;simp only[Ĉ,g,i,<-f,ě,decide_eq_true_eq];rintro⟨x,y⟩;by_cases s:X p.block;all_goals grind
theorem fF.gk{α:Type}{V:fq->α->α->Prop}{Y:fq}{m m':ē α}(h:fF P V Y m m'):∀{u w:Æ},jg Y X u w->(∀j,X j->j<w.heap.size)->∀{x:α} {E:Æ},m.run P u=ĥ x E->∀n:Array ý,∃(l:fq) (t:α) (p:Æ) (B:Array ý),Y.r l/\(∀i j,l i j->Y i j\/(u.heap.size<=i/\w.heap.size<=j))/\m'.runT P w n=(ĥ t p,n++B)/\V l x t/\jg l X E p/\nR Y X w p/\(∀e∈B,At l X e)/\u.heap.size<=E.heap.size:=by
 induction h with
 |fB h=>
  intro u w d _ x E b n;simp only[ã]at b;cases b;exact⟨_,_,w,#[],fq.M _,λ_ _ h=>Ç h,by simp[é],h,d,nR.fV _ _ _,λe o=>by simp at o,ß _⟩
 |@gA Y a a' k k' ha hk D=>
  intro u w d C x E b n;simp only[ã]at b;cases f:u.cell? a with
  |none=>
   let⟨c,Q,e,fr,wD,O,_⟩:=d.r _ _ ha.1;let⟨z,s⟩:=adj (P:=P) O<|Ť==ċ;rw[f]at b;simp only[s]at b;cases b
  |some v=>
   rw[f]at b;let⟨W,S,y⟩:=d.gA ha f;let⟨l,t,p,B,F,G,I,J,K,g,L,H⟩:=D v W y d C b<|n.push ⟨û a',Ã,Ã⟩;refine⟨l,t,p,#[⟨û a',Ã,Ã⟩]++B,F,G,?_,J,K,g,λe o=> ?_,H⟩
   .simp only[é,S];rw[show((Ť==ċ)=Ã)from U,I];rw[<-Ļ,Ł]
   .rcases Ĝ.1 o with o|o
    .simp at o;subst o;exact Ç ⟨a',_,U,F.1 _ _ ha.1,U,λe=>by cases e⟩
    .exact L e o
 |@jc Y a a' v W k k' ha hv _ D=>
  intro u w d C x E b n;cases ho:yr v with
  |false=>exact absurd b<|adh ho
  |true=>
   rw[wE ho]at b;cases f:u.cell? a with
   |none=>
    let⟨c,Q,e,fr,wD,O,_⟩:=d.r _ _ ha.1;let⟨z,s⟩:=adk (P:=P) (v:=v) O<|Ť==ċ;rw[f]at b;simp only[s]at b;cases b
   |some y=>
    rw[f]at b;cases M:u.frozen? a with
    |true=>rw[M]at b;simp at b
    |false=>
     simp only[M,Å,if_false]at b;let⟨ns,hf'⟩:=d.adl ha f M;let⟨y',Ns,_⟩:=d.gA ha f;let⟨l,t,p,B,F,G,I,J,K,g,L,H⟩:=D (d.jc ha hv f ns) (by rwa[j2]) b<|n.push ⟨û a',É,Ã⟩;have S:(w.setCell a' W).heap.size=w.heap.size:=j2;have Vg:(u.setCell a v).heap.size=u.heap.size:=j2;refine⟨l,t,p,#[⟨û a',É,Ã⟩]++B,F,by rwa[S,Vg]at G,?_,J,K,?_,λe o=> ?_,by rwa[Vg]at H⟩
     .rw[adg<|(adi hv).trans ho,Ns];simp only[hf',Å,if_false];rw[show((Ť==ċ)=Ã)from U,I];rw[<-Ļ,Ł]
     .refine⟨by rw[<-S];exact g.r,g.I,g.M,g.S,λj N T=> ?_,λj s N=>(g.N j s<|by rwa[S]).trans<|I6 λe=>ns<|e▸s⟩;rw[g.C j (by rwa[S]) T];exact I6 λe=>T a.block<|e▸ha.1
     .rcases Ĝ.1 o with o|o
      .simp at o;subst o;exact Ç ⟨a',_,U,F.1 _ _ ha.1,U,λ_=>ns⟩
      .exact L e o
 |@yt Y c Q e k k' f _ D=>
  intro u w d C x E b n;simp only[ã]at b;have W:∀i j,Y i j->i<u.heap.size/\j<w.heap.size:=by intro i j S;let⟨_,_,_,_,_,O,hw',_⟩:=d.r i j S;grind
  have n1:∀j,¬Y u.heap.size j:=λj y=>absurd (W _ _ y).1 Z;have n2:∀i,¬Y i w.heap.size:=λi y=>absurd (W _ _ y).2 Z;let⟨l,t,p,B,F,G,I,J,K,g,L,H⟩:=D u.heap.size w.heap.size n1 n2 d.I d.M (d.yt C f) (λj s=>by have:=C j s;simp;omega) b n;refine⟨l,t,p,B,fq.I (fq.S n1 n2 d.I d.M) F,λi j S=> ?_,by simp only[é];exact I,J,K,?_,L,by simp at H;omega⟩
  .rcases G i j S with(y|⟨rfl,rfl⟩)|y
   .exact Ç y
   .exact Î ⟨ß _,ß _⟩
   .simp at y;exact Î ⟨Z,Z⟩
  .have hs:=g.r;simp at hs;refine⟨Z,g.I,g.M,g.S,λj N T=> ?_,λj s N=>(g.N j s<|by simp;omega).trans ?_⟩
   .rw[g.C j (by simp;omega) (λi z=>z.elim (T i) λz=>by omega)];simp[Ģ N]
   .simp[Ģ N]
 |@vf Y r r' k k' pd _ D=>
  intro u w d C x E b n;simp only[ã]at b;let⟨c,Q,e,fr,wD,O,hw',S,_⟩:=d.r _ _ pd;have f:u.shape? r=À (e,c.size):=by simp[Θ,O]
  have s:w.shape? r'=À (e,Q.size):=by simp[Θ,hw']
  rw[f]at b;let⟨l,t,p,B,h⟩:=D e c.size Q.size S.adf d C b n;exact⟨l,t,p,B,by simp only[é,s];exact h⟩
 |@Nq Y a a' k k' ha _ D=>
  intro u w d C x E b n;simp only[ã]at b;let⟨l,t,p,B,h⟩:=D (u.frozen? a) (w.frozen? a') (d.G ha) d C b n;exact⟨l,t,p,B,by simpa only[é]using h⟩
 |@As Y q k k' _ D=>
  intro u w d C x E b n;simp only[ã]at b;cases M:q.forced with
  |true=>
   rw[M]at b;simp only[if_true]at b;let⟨l,t,p,B,h⟩:=D 0 d C b n;exact⟨l,t,p,B,by simpa only[é,M,if_true]using h⟩
  |false=>
   rw[M]at b;simp only[Å,if_false]at b;have S:jg Y X {u with drawn:=u.drawn+1} {w with drawn:=w.drawn+1}:=⟨d.S,by simp[d.N],d.C,d.I,d.M,d.r⟩;rw[d.S,d.N]at b;obtain⟨l,t,p,B,F,G,I,J,K,g,L,H⟩:=D (q.cut<|w.tape w.drawn q) S C (by rwa[d.S,d.N]) n;exact⟨l,t,p,B,F,G,by simp only[é,M,Å,if_false];exact I,J,K,⟨g.r,g.I,g.M,g.S,g.C,g.N⟩,L,H⟩
 |I5 _ D=>
  intro u w d C x E b n;simp only[ã]at b;let⟨l,t,p,B,h⟩:=D d C b n;exact⟨l,t,p,B,by simpa only[é]using h⟩
 |@CR Y mk k k' hm _ D=>
  intro u w d C x E b n;simp only[ã]at b;let⟨l,t,p,B,F,G,I,J,K,g,L,H⟩:=D d C b<|n.push ⟨ů mk,Ã,É⟩;refine⟨l,t,p,#[⟨ů mk,Ã,É⟩]++B,F,G,?_,J,K,g,λe o=> ?_,H⟩
  .simp only[é];rw[I];rw[<-Ļ,Ł]
  .rcases Ĝ.1 o with o|o
   .simp at o;subst o;rcases hm with rfl|⟨f,rfl⟩
    .exact Î<|Ç U
    .exact Î<|Î ⟨f,U⟩
   .exact L e o
 |fR=>
  intro u w _ _ x E b n;simp only[ã]at b;cases b
 |oK h=>
  intro u w _ _ x E b n;exact absurd b<|h _ _ _
end
inductive jT:Â->Prop
 |mC (b:Bool):jT (Ľ b)
 |iD (k:ú) (n:Int):jT (Ć k n)
 |kJ (s:ByteArray):jT (ħ s)
 |lS:jT (Þ ë)
 |om (n c:Nat):jT (bS ë n c)
 |u9:jT bT
 |va:jT aW
 |vd:jT (ep ë)
 |ve:jT (.map ë)
 |oJ {cs:Array Â} (h:∀i (h:i<cs.size),jT cs[i]):jT (.agg cs)
 |nQ {cs:Array Â} (h:∀i (h:i<cs.size),jT cs[i]):jT (ſ cs)
def jT.jD(h:jT v)(Y:fq):fi Y v v:=by
 induction h with
 |mC b=>exact .mC b
 |iD k n=>exact .iD k n
 |kJ s=>exact .kJ s
 |lS=>exact .lS
 |om n c=>exact .om n c
 |u9=>exact .u9
 |va=>exact .va
 |vd=>exact .vd
 |ve=>exact .ve
 |oJ _ b=>exact .oJ U λi c _=>b i c
 |nQ _ b=>exact .nQ U λi c _=>b i c
def nS(P:Õ):Prop:=∀t i z,P.info? t=À i->i.zero=À z->jT z
def jq{α:Type}:fq->α->α->Prop:=λ_ a b=>a=b
section
variable{Y:fq}
def fD{α β:Type}{V:fq->α->α->Prop}{V':fq->β->β->Prop}{m c:ē α}{f d:α->ē β}(h:fF P V Y m c) (g:∀b a e,Y.r b->V b a e->fF P V' b (f a) (d e)):fF P V' Y (m>>=f) (c>>=d):=fF.lD h g
def sD{α β:Type}{c:fq->β->β->Prop}{m:ē α}{f d:α->ē β}(h:fF P jq Y m m) (g:∀b a,Y.r b->fF P c b (f a) (d a)):fF P c Y (m>>=f) (m>>=d):= fF.lD h λb a i j (e:a=i)=>by subst e;exact g b a j
def rh:fF P (λ_ a b=>a=P/\b=P) Y df df:=.I5 (.fB ⟨U,U⟩)
theorem Nt{α:Type}{V:fq->α->α->Prop}{e:Ι}(h:(∃x y s c,e=.bounds x y s c)\/(∃m,e=.error m)\/(∃m,e=.plain m)\/e=.nilDeref):fF P V Y (runtimePanic e) (runtimePanic e):=by unfold runtimePanic;refine fD rh ?_;rintro f a g _ ⟨b,d⟩;rw[b,d];rcases h with⟨x,y,s,c,rfl⟩|⟨m,rfl⟩|⟨m,rfl⟩|rfl<;>exact .fR
theorem CU{α:Type}{V:fq->α->α->Prop}{k:ú}{y:Int}{c:ax}:fF P V Y (boundsPanic k h y c) (boundsPanic k h y c):=by
 unfold boundsPanic;simp only[];split
 .apply sD (.As λn=> .fB U);grind [Nt]
 .grind [Nt]
def yv(t:Á):fF P (λ_ a b=>a=b/\P.info? t=À a) Y (Δ t) (Δ t):=by
 unfold Δ;apply fD rh;rintro e a b _ ⟨c,d⟩;rw[c,d];cases h:P.info? t with
 |some i=>exact .fB ⟨U,U⟩
 |none=>exact .fR
def ja(t:Á):fF P (λ_ a b=>a=b/\P.underlying t=À a) Y (ø t) (ø t):=by
 unfold ø;apply fD rh;rintro e a b _ ⟨c,d⟩;rw[c,d];cases h:P.underlying t with
 |some i=>exact .fB ⟨U,U⟩
 |none=>exact .fR
def FC(b:nS P)(t:Á):fF P fi Y (ω t) (ω t):=by
 unfold ω;apply fD (yv t);rintro d a e _ ⟨rfl,h⟩;cases c:a.zero with
 |some z=>exact .fB ((b t a z h c).jD _)
 |none=>exact .fR
def ni(t:Á):fF P (λ_ a b=>a=b/\∃i,P.info? t=À i/\i.size=a) Y (ay t) (ay t):=by unfold ay;apply fD (yv t);rintro i a b _ ⟨rfl,h⟩;exact .fB ⟨U,_,h,U⟩
def Vh(t:Á):fF P jq Y (ew t) (ew t):=by unfold ew;apply fD (ja t);rintro b a c _ ⟨rfl,_⟩;split<;>exact .fB U
def I9(h:hD Y a p):fF P fi Y (aX a) (aX p):=.gA h λ_ _ b=> .fB b
def ads(h:hD Y a p)(b:fi Y v x):fF P jq Y (ar a v) (ar p x):=.jc h b (.fB U)
def adt:∀{Y:fq} {a b:Ú} {i:Nat} {c d:Array Â},hD Y a b->fS Y c d->fF P fS Y (Ō a i n c) (Ō b i n d):=by
 induction n with
 |zero=>intro Y a b i c d _ e;exact .fB e
 |succ n h=>
  intro Y a b i c d f e;unfold Ō;apply fD (I9<|f.C i);exact λk v l g j=>h (f.r g)<|(e.I g).Va j
def Nu(h:hD Y a p)(n:Nat):fF P fS Y (c9 a n) (c9 p n):=adt h<|fS.N Y
def Nv:∀{d c:List Â} {Y:fq} {a e:Ú} {i:Nat},hD Y a e->fS Y d.toArray c.toArray->fF P jq Y (Κ a d i) (Κ e c i):=by
 intro d
 induction d with
 |nil=>
  intro c Y a e i _ b;have:c=[]:=by have:=b.r;simp at this;exact Ā this.symm
  subst this;exact .fB U
 |cons v d h=>
  intro c Y a e i f b;match c,b with
  |[],b=>have:=b.r;simp at this
  |v'::c,b=>
   unfold Κ;refine fD (ads (f.C i) (by have:=b.C 0 fj fj;simpa using this)) ?_;intro m _ _ g _;apply h (f.r g);refine⟨by have:=b.r;simpa using this,λj k l=> ?_⟩;have:=b.C (j+1) (by simp at k|-;omega) (by simp at l|-;omega);exact(by simpa using this:fi Y _ _).fO g
theorem Vi(h:hD Y a p)(t:Á):fF P fi Y (ae t a) (ae t p):=by
 unfold ae;apply sD (Vh t);intro g b d;split
 .apply fD (ni t);rintro i n _ f ⟨rfl,_⟩;apply fD (Nu ((h.r d).r f) n);exact λj c k _ e=> .fB (.oJ e.r e.C)
 .exact I9<|h.r d
def adu(h:hD Y a p)(t:Á)(d:fi Y v x):fF P jq Y (aJ t a v) (aJ t p x):=by
 unfold aJ;apply fD (ni t);rintro f n _ b ⟨rfl,_⟩;have c:=(d.fO b).gT;by_cases e:v.cells.size≠n
 .rw[if_pos e];exact .fR
 .rw[if_neg e,if_neg (by rwa[<-c.r])];exact Nv (h.r b) c
def Av(e:Á)(h:fS Y d q):fF P hD Y (dT e d) (dT e q):= .yt h λ_ _ _ _ _ _=> .fB ⟨Î ⟨U,U⟩,U,U⟩
def Vj(t:Á)(h:fi Y v x):fF P hD Y (eL t v) (eL t x):=Av t h.gT
def Vk(t:Á)(h:fS Y d q)(a:Nat):fF P fi Y (part t d a) (part t q a):=by
 unfold part;apply sD (Vh t);intro i b e;split
 .apply fD (ni t);rintro g n _ f ⟨rfl,_⟩;have:=((h.I e).I f).FA a<|a+n;exact .fB (.oJ this.r this.C)
 .rcases(h.I e).S a with⟨n,f⟩|⟨v,j,n,f,g⟩
  .rw[n];exact .fR
  .rw[n,f];exact .fB g
def FD(h:fi Y v x):fF P hD Y (ŧ v) (ŧ x):=by cases h<;>first|exact .fR|(rename_i a;exact .fB a)
def Ja(h:fi Y v x):fF P jq Y (dh v) (dh x):=by cases h<;>first|exact .fB U|exact .fR
def Nw(h:fi Y v x):fF P jq Y (dC v) (dC x):=by unfold dC;apply fD (Ja h);rintro b a _ _ rfl;exact .fB U
def Vl(h:fi Y v x):fF P jq Y (bW v) (bW x):=by cases h<;>first|exact .fB U|exact .fR
def adv(h:fi Y v x):fF P fS Y (eM v) (eM x):=by cases h<;>first|exact .fR|(rename_i a y;exact .fB ⟨a,y⟩)
def Vm(h:fi Y v x):fF P hD Y (bX v) (bX x):=by cases h<;>first|exact Nt (Î<|Î<|Î U)|(rename_i a;exact .fB a)|exact .fR
def adw(b:nS P)(t:Á)(v:Â):fF P fi Y (Ű t É v) (Ű t É v):=by unfold Ű;apply fD (FC b t);intro d z e _ h;apply fD (Vj t h);exact λf a g _ c=> .fB (.jS c)
def adx(t:Á)(h:fi Y v x):fF P fi Y (ag t v) (ag t x):=by unfold ag;apply fD (Vj t h);exact λc a d _ b=> .fB (.jS b)
theorem ady(t:Á)(h:fi Y v x):fF P fi Y (Ş t v) (Ş t x):=by unfold Ş;apply fD (FD h);grind [Vi]
def adz(t:Á)(b:fi Y x z)(h:fi Y v jQ):fF P jq Y (ĳ t x v) (ĳ t z jQ):=by unfold ĳ;apply fD (FD b);exact λd x z c b=>adu b t<|h.fO c
def adA(h:fi Y v x)(n:Nat):fF P fi Y (ō v n) (ō x n):=by
 cases h<;>first|exact .fR|skip
 rename_i e f c h;simp only[ō];rcases(fS.mk c h).S n with⟨a,b⟩|⟨v,x,a,b,d⟩
 .rw[a];exact .fR
 .rw[a,b];exact .fB d
def adB(t:Á)(h:fi Y v x)(n:Nat):fF P fi Y (ű t v n) (ű t x n):=by
 unfold ű;apply fD (ja t);rintro g d _ a ⟨rfl,_⟩;split
 .rename_i b _;cases i:b[n]? with
  |none=>exact .fR
  |some f=>
   apply fD (adv<|h.fO a);exact λj c k _ e=>Vk f.type e f.offset
 .exact .fR
end
section
variable{Y:fq}
def ri{α β:Type}{V:fq->β->β->Prop}{a b:α}{f c:α->ē β}(h:fF P V Y (f a) (c b)):fF P V Y (pure a>>=f) (pure b>>=c):=h
def adC(s:Á)(h:fi Y v x)(n:Nat)(e:∀c f i,P.underlying s=À (di c)->c[n]?=À f->P.info? f.type=À i->i.size≠0): fF P fi Y (Ŏ s v n) (Ŏ s x n):=by
 unfold Ŏ;apply fD (ja s);rintro r d _ g ⟨rfl,j⟩;cases d<;>try exact .fR
 .rename_i c;simp only[];cases k:c[n]? with
  |none=>exact .fR
  |some f=>
   apply fD (FD<|h.fO g);intro t a u _ l;unfold bY;refine fD (fD (V':=hD) (ni f.type) ?_) ?_
   .rintro w z _ m ⟨rfl,i,o,p⟩;have:¬z=0:=by rw[<-p];exact e c f i j k o
    rw[if_neg this,if_neg this];exact .fB ((l.r m).C _)
   .exact λy b B _ q=> .fB (.jS q)
def adD(t:Á)(h:fi Y x v)(j:fi Y z jQ):fF P fi Y (ŏ t x z) (ŏ t v jQ):=by
 unfold ŏ;apply fD (Ja j);rintro r ⟨k,n⟩ _ l rfl;apply fD (ja t);rintro f d _ m ⟨rfl,s⟩;have g:=(h.fO l).fO m;cases d<;>try exact .fR
 .cases g<;>first|exact .fR|skip
  .refine ri<|fD (ja t) ?_;exact λ_ _ _ _ _=>CU
  refine ri<|fD (ja t) ?_;rintro o d _ c ⟨rfl,_⟩;simp only[];split
  .apply fD (ni _);rintro p b _ e ⟨rfl,_⟩;exact .fB (.jS (((‹hD f _ _›.r c).r e).C _))
  .repeat' (first|exact .fR|exact CU|split)
 .apply fD (FD g);intro f a u _ q;refine ri<|fD (ja t) ?_;rintro o d _ c ⟨rfl,_⟩;simp only[];split
  .apply fD (ni _);rintro p b _ e ⟨rfl,_⟩;exact .fB (.jS (((q.r c).r e).C _))
  .repeat' (first|exact .fR|exact CU|split)
def CV(h:fi Y x v)(y:Nat)(c:ax):fF P jq Y (ī x y c) (ī v y c):=by
 unfold ī;apply fD (Ja h);rintro a ⟨k,n⟩ _ b rfl;simp only[];split
 .exact .fB U
 .exact CU
def rj(Y:fq)(x a:Option Â):Prop:=(x=ë/\a=ë)\/∃v b,x=À v/\a=À b/\fi Y v b
def rj.r{Y a:fq}(h:Y.r a){x b:Option Â}(r:rj Y x b):rj a x b:=r.imp id λ⟨v,c,d,e,f⟩=>⟨v,c,d,e,f.fO h⟩
def FE(f:Bool)(g i:Nat){l j h k m n:Option Â}(c:rj Y l j)(o:rj Y h k)(t:rj Y m n):fF P jq Y (Ĩ f g i l h m) (Ĩ f g i j k n):=by
 unfold Ĩ;rcases t with⟨rfl,rfl⟩|⟨B,C,rfl,rfl,u⟩
 .refine ri ?_;rcases o with⟨rfl,rfl⟩|⟨w,x,rfl,rfl,d⟩
  .refine ri ?_;rcases c with⟨rfl,rfl⟩|⟨v,p,rfl,rfl,b⟩
   .exact .fB U
   .apply fD (CV b _ _);rintro r q _ _ rfl;exact .fB U
  .refine fD (CV d _ _) ?_;rintro y a _ e rfl;rcases(c.r e)with⟨rfl,rfl⟩|⟨v,p,rfl,rfl,b⟩
   .exact .fB U
   .apply fD (CV b _ _);rintro r q _ _ rfl;exact .fB U
 .refine fD (CV u _ _) ?_;rintro D a _ s rfl;rcases o with⟨rfl,rfl⟩|⟨w,x,rfl,rfl,d⟩
  .exact .fR
  .refine fD (CV (d.fO s) _ _) ?_;rintro y z _ e rfl;rcases(((c.r s).r e))with⟨rfl,rfl⟩|⟨v,p,rfl,rfl,b⟩
   .exact .fB U
   .apply fD (CV b _ _);rintro r q _ _ rfl;exact .fB U
def adE(t:Á)(k:fi Y x v){l C h D m u:Option Â}(g:rj Y l C)(i:rj Y h D)(j:rj Y m u):fF P fi Y (Ų t x l h m) (Ų t v C D u):=by
 unfold Ų;apply fD (ja t);rintro I d _ o ⟨rfl,J⟩;have k:=k.fO o;have g:=g.r o;have i:=i.r o;have j:=j.r o;cases d<;>try exact .fR
 .cases k<;>first|exact .fR|skip
  rename_i s;have e:m.isSome=u.isSome:=by rcases j with⟨rfl,rfl⟩|⟨_,_,rfl,rfl,_⟩<;>rfl
  simp only[e];split
  .exact .fR
  .apply fD (FE Ã s.size s.size g i<|Ç ⟨U,U⟩);rintro G ⟨a,b,c⟩ _ _ rfl;exact .fB (.kJ _)
 .rename_i H;apply fD (Vm k);intro G a K B f;apply fD (ja H);rintro L d _ p ⟨rfl,_⟩;have f:=f.r p;cases d<;>try exact .fR
  rename_i n e _;apply fD (FE Ã n n ((g.r B).r p) ((i.r B).r p)<|(j.r B).r p);rintro E ⟨x,y,z⟩ _ q rfl;apply fD (ni e);rintro F w _ r ⟨rfl,_⟩;have f:=(f.r q).r r;refine .fB (.kK ?_ _ _);split
  .exact f
  .exact f.C _
 .rename_i e;cases k<;>first|exact .fR|skip
  .rename_i n c;apply fD (FE É n c g i j);rintro E ⟨x,y,z⟩ _ q rfl;apply fD (ni e);rintro F w _ r ⟨rfl,_⟩;simp only[Option.map_none,ite_self];exact .fB (.om _ _)
  .rename_i f n c;apply fD (FE É n c g i j);rintro E ⟨x,y,z⟩ _ q rfl;apply fD (ni e);rintro F w _ r ⟨rfl,_⟩;have f:=(f.r q).r r;by_cases e:z=x
   .simp only[e,if_true];exact .fB (.kK f _ _)
   .simp only[e,if_false,bH];exact .fB (.kK (f.C _) _ _)
def adF(t:Á)(b:fi Y x v){l o h p m q:Option Â}(c:rj Y l o)(f:rj Y h p)(g:rj Y m q):fF P fi Y (Ő t x l h m) (Ő t v o p q):=by
 unfold Ő;apply fD (ja t);rintro u d _ i ⟨rfl,B⟩;have b:=b.fO i;have c:=c.r i;have f:=f.r i;have g:=g.r i;cases d<;>try exact adE t b c f g
 rename_i n e;apply fD (FD b);intro C a D k j;apply fD (FE Ã n n (c.r k) (f.r k)<|g.r k);rintro E ⟨x,y,z⟩ _ r rfl;apply fD (ni e);rintro F w _ s ⟨rfl,_⟩;have j:=(j.r r).r s;refine .fB (.kK ?_ _ _);split
 .exact j
 .exact j.C _
def adG(t:Á)(a:fi Y x v)(b:fi Y z jQ):fF P fi Y (ų t x z) (ų t v jQ):=by
 unfold ų;apply fD (Ja b);rintro l ⟨k,n⟩ _ c rfl;apply fD (ja t);rintro m d _ f ⟨rfl,o⟩;have a:=(a.fO c).fO f;cases d<;>try exact .fR
 .cases a<;>first|exact .fR|skip
  simp only[];split
  .exact .fB (.iD _ _)
  .exact CU
 .rename_i p e;cases a<;>first|exact .fR|skip
  rename_i g h;simp only[];split
  .apply fD (ni e);rintro q w _ j ⟨rfl,_⟩;exact Vk e ((fS.mk g h).I j) _
  .exact CU
def adH(a:UnOp)(b:fi Y x v):fF P fi Y (bZ a x) (bZ a v):=by cases b<;>cases a<;>first|exact .fR|exact .fB (.iD _ _)|exact .fB (.mC _)
end
section
variable{Y:fq}
def adI{α β:Type}{g:α->ē β}(d:∀{Y:fq} (a:α),fF P jq Y (g a)<|g a):∀{Y:fq} (l:List α),fF P jq Y (l.mapM g) (l.mapM g):=by
 intro Y l
 induction l generalizing Y with
 |nil=>exact .fB U
 |cons a l e=>
  rw[ν];apply sD (d a);intro f b _;apply sD e;exact λh c _=> .fB U
def adJ{α β:Type}{g:α->ē β}(b:∀{Y:fq} (a:α),fF P jq Y (g a)<|g a)(l:Array α):fF P jq Y (l.mapM g) (l.mapM g):=by rw[Ĕ];have:=adI b (Y:=Y) l.toList;apply fF.lD this;intro d a c _ (e:a=c);subst e;exact .fB U
def adK(Y:fq)(p a:Nat×Value):Prop:=p.1=a.1/\fi Y p.2 a.2
inductive vg(Y:fq):List (Nat×Value)->List (Nat×Value)->Prop
 |pe:vg Y [] []
 |wF {p p':Nat×Value} {l l':List (Nat×Value)} (h:adK Y p p') (t:vg Y l l'):vg Y (p::l) (p'::l')
def vg.fO{Y a:fq}(h:Y.r a){l b:List (Nat×Value)}(r:vg Y l b):vg a l b:=by
 induction r with
 |pe=>exact .pe
 |wF x _ c=>exact .wF ⟨x.1,x.2.fO h⟩ c
def adL(f:Nat):∀(c a:List Â) (k:Nat) (b d:Array Â),fS Y c.toArray a.toArray->fS Y b d-> fS Y ((c.zipIdx k).foldl (λb (p:Value×Nat)=>b.setIfInBounds (f+p.2) p.1) b) ((a.zipIdx k).foldl (λb (p:Value×Nat)=>b.setIfInBounds (f+p.2) p.1) d):=by
 intro c
 induction c with
 |nil=>
  intro a k b d p e;have:a=[]:=by have:=p.r;simp at this;exact Ā this.symm
  subst this;exact e
 |cons x c g=>
  intro a k b d p e;match a,p with
  |[],p=>have:=p.r;simp at this
  |x'::a,p=>
   simp only[Ĭ,List.foldl_cons];refine g a (k+1) _ _ ⟨by have:=p.r;simpa using this,λj h i=> ?_⟩ (e.qz _ (by have:=p.C 0 fj fj;simpa using this));have:=p.C (j+1) (by simp at h|-;omega) (by simp at i|-;omega);simpa using this
theorem adM(b:Nat){a c:Array Â}(e:fS Y d q)(f:fS Y a c): fS Y (d.zipIdx.foldl (λa (p:Value×Nat)=>a.setIfInBounds (b+p.2) p.1) a) (q.zipIdx.foldl (λa (p:Value×Nat)=>a.setIfInBounds (b+p.2) p.1) c):=by have:=adL b d.toList q.toList 0 a c (by simpa using e) f;grind [Array.toList_zipIdx]
def Jb(d:Nat->Option (Nat×Nat)):∀{l e:List (Nat×Value)} {a b:Array Â},vg Y l e->fS Y a b-> (az d a l=ë)\/∃c h,az d a l=À c/\az d b e=À h/\fS Y c h:=by
 intro l e a b h
 induction h generalizing a b with
 |pe=>intro c;exact Î ⟨a,b,U,U,c⟩
 |@wF p p' l e hp _ ih=>
  intro c;let⟨i,v⟩:=p;let⟨k,m⟩:=p';obtain⟨rfl,g⟩:=hp;unfold az;cases d i with
  |none=>exact Ç U
  |some q=>
   let⟨j,n⟩:=q;have f:=g.gT;simp only[<-f.r,<-c.r];split
   .exact Ç U
   .exact ih<|adM j f c
def adN(q:nS P)(t:Á){l m:Array (Nat×Value)}(h:vg Y l.toList m.toList):fF P fi Y (Ŵ t l) (Ŵ t m):=by
 unfold Ŵ;apply fD (FC q t);intro C z D r s;apply fD (ja t);rintro E d _ o ⟨rfl,F⟩;have p:=(s.fO o).gT;have h:=(h.fO r).fO o;cases d<;>try exact .fR
 .rename_i n e;refine fD (ni e) ?_;rintro u w _ b ⟨rfl,_⟩;rcases Jb (λi=>À (i*w,w)) (h.fO b) (p.I b)with e|⟨c,v,j,k,g⟩
  .simp only[e];exact .fR
  .simp only[j,k];exact .fB (.oJ g.r g.C)
 .rename_i x;refine sD (adJ (λ{Y} (f:Field)=>fD (ni f.type) λG a H _ y=> ?_) x) ?_
  .obtain⟨rfl,_⟩:=y;exact .fB U
  .intro u B b;rcases Jb (B[·]?) (h.fO b) (p.I b)with e|⟨c,v,j,k,g⟩
   .simp only[e];exact .fR
   .simp only[j,k];exact .fB (.oJ g.r g.C)
end
section
variable{Y:fq}
theorem adO(Y:fq):fi Y (default:Â) default:=.mC _
theorem fS.adP{Y:fq}(r:fS Y d q)(i:Nat):fi Y d[i]! q[i]!:=by
 by_cases h:i<d.size
 .have a:i<q.size:=by rwa[<-r.r]
  rw[getElem!_pos d i h,getElem!_pos q i a];exact r.C i h a
 .have a:¬i<q.size:=by rwa[<-r.r]
  grind [getElem,adO]
def fS.G{Y:fq}(r:fS Y d q)(n:Nat):fS Y ((dD n).map (d[· %d.size]!)) ((dD n).map (q[· %q.size]!)):=by refine⟨fj,λi a b=> ?_⟩;simp only[ŵ,<-r.r];exact r.adP _
def fS.yw{Y:fq}(r:fS Y d q)(n:Nat):fS Y (Ŷ d n) (Ŷ q n):=by
 unfold Ŷ;have e:n*d.size=n*q.size:=by rw[r.r]
 rw[<-e];exact r.G _
def adQ(f:nS P)(t:Á)(b:Nat){m n:Array (Nat×Value)}(h:vg Y m.toList n.toList):fF P fi Y (ĭ t b m) (ĭ t b n):=by
 unfold ĭ;apply fD (ja t);rintro v d _ p ⟨rfl,x⟩;have h:=h.fO p;cases d<;>try exact .fR
 rename_i e;apply fD (ni e);rintro y w _ o ⟨rfl,_⟩;simp only[];split
 .exact .fR
 split
 .refine ri ?_;rcases Jb (λi=>À (i*w,w)) (h.fO o) ((fS.N _).G<|b*w)with e0|⟨c,q,g,j,k⟩
  .rw[e0];exact .fR
  .rw[g,j];exact fD (Av e k) λr a s _ l=> .fB (.kK l _ _)
 .refine fD (FC f e) λB z C u f=>ri ?_;rcases Jb (λi=>À (i*w,w)) ((h.fO o).fO u) (f.gT.G<|b*w)with e0|⟨c,q,g,j,k⟩
  .rw[e0];exact .fR
  .rw[g,j];exact fD (Av e k) λr a s _ l=> .fB (.kK l _ _)
def Nx(h:fi Y x v):fF P jq Y (Α x) (Α v):=by cases h<;>first|exact .fR|exact .fB U
def fS.adR(Y:fq)(b:Array UInt8):fS Y (b.map λb=>Ć .u8 b.toNat) (b.map λb=>Ć .u8 b.toNat):= ⟨U,λi a _=>by simp only[ŵ];exact .iD _ _⟩
def FF(a n:Nat)(h:fi Y x v):fF P fS Y (ļ a n x) (ļ a n v):=by
 cases h<;>first|exact .fR|exact .fB (fS.N _)|exact .fB (fS.adR _ _)|skip
 rename_i b _ _;exact Nu b _
def Ny(n:Nat):fF P jq Y (bP n) (bP n):=by
 unfold bP;split
 .exact .CR (Ç U) (.fB U)
 .exact .fB U
def adS(a:Array Á)(t:Á)(h:fi Y x v):fF P fi Y (ş a t #[x]) (ş a t #[v]):=by
 unfold ş;cases a[0]? with
 |none=>exact .fR
 |some b=>
  apply fD (ja b);rintro f d _ c ⟨rfl,g⟩;have h:=h.fO c;cases d<;>try exact .fR
  .cases h<;>first|exact .fR|exact .fB (.iD _ _)
  .rename_i e;refine fD (ja e) ?_;rintro i d _ j ⟨rfl,_⟩;cases d<;>first|exact .fR|exact .fB (.iD _ _)
  .cases h<;>first|exact .fR|exact .fB (.iD _ _)
  .exact .fB (.iD _ _)
  all_goals cases h<;>first|exact .fR|exact .fB (.iD _ _)
def adT(a:Array Á)(t:Á)(h:fi Y x v):fF P fi Y (Š a t #[x]) (Š a t #[v]):=by
 unfold Š;cases a[0]? with
 |none=>exact .fR
 |some b=>
  apply fD (ja b);rintro f d _ c ⟨rfl,g⟩;have h:=h.fO c;cases d<;>try exact .fR
  .rename_i e;refine fD (ja e) ?_;rintro i d _ j ⟨rfl,_⟩;cases d<;>first|exact .fR|exact .fB (.iD _ _)
  .cases h<;>first|exact .fR|exact .fB (.iD _ _)
  .exact .fB (.iD _ _)
  all_goals cases h<;>first|exact .fR|exact .fB (.iD _ _)
def adU(g:Array Á)(t:Á)(h:fi Y x v)(a:fi Y z jQ):fF P fi Y (ő g t #[x,z]) (ő g t #[v,jQ]):=by
 unfold ő;cases g[0]? with
 |none=>exact .fR
 |some l=>
  apply fD (ja l);rintro u d _ i ⟨rfl,B⟩;have h:=h.fO i;have a:=a.fO i;cases d<;>try exact .fR
  rename_i e;cases h<;>first|exact .fR|skip
  .rename_i n c;apply fD (Nx a);rintro o m _ b rfl;apply fD (ni e);rintro p w _ f ⟨rfl,_⟩;apply fD (FF w _<|(a.fO b).fO f);exact λq c r j k=> .fB (.iD _ _)
  .rename_i s n c;apply fD (Nx a);rintro o m _ b rfl;apply fD (ni e);rintro p w _ f ⟨rfl,_⟩;apply fD (FF w _<|(a.fO b).fO f);intro q c r j k;apply fD (Nv (((s.r b).r f).r j)<|by simpa using k);exact λC _ _ _ _=> .fB (.iD _ _)
end
section
variable{Y:fq}
def Nz{α:Type}{h:Halt}:∀u x a,(eu h:ē α).run P u≠ĥ x a:=by intro u x a e;cases e
theorem FG{α β:Type}{m:ē α}{f:α->ē β}(h:∀a u x b,(f a).run P u≠ĥ x b):∀u x b,(m>>=f).run P u≠ĥ x b:=by
 intro u x b e;rw[Ä]at e;cases c:m.run P u with
 |ok a w=>rw[c]at e;exact h a _ _ _ e
 |halt z w=>rw[c]at e;cases e
theorem Vo{α:Type}:∀u x a,(goPanic v:ē α).run P u≠ĥ x a:=Nz
def adV{α:Type}{v:br}:∀u x a,(unsupported v:ē α).run P u≠ĥ x a:=Nz
theorem rm{α:Type}(e:Ι):∀u x a,(runtimePanic e:ē α).run P u≠ĥ x a:=by unfold runtimePanic;grind [FG,Vo]
def Jc{α:Type}{V:fq->α->α->Prop}{e:Ι}{m:ē α}:fF P V Y (runtimePanic e) m:=.oK (rm e)
def adW(H:nS P)(p g t:Á)(i:(∃e,P.underlying g=À (dj e))\/P.underlying g=À ę){B:Â}(j:fi Y v jQ)(c:fi Y x B): fF P fi Y (ĸ #[p,g] t #[v,x]) (ĸ #[p,g] t #[jQ,B]):=by
 unfold ĸ;apply fD (ja p);rintro C d _ D ⟨rfl,W⟩;have j:=j.fO D;have c:=c.fO D;cases d<;>try exact .fR
 rename_i e;have r:=j;cases j<;>first|exact .fR|skip
 all_goals
  refine fD (ni e) ?_;rintro X w _ E ⟨rfl,_⟩;refine fD (ja g) ?_;rintro ρ3 d1 _ F ⟨rfl,k⟩;rcases i with⟨e1,i⟩|i;all_goals
   rw[i]at k;injection k with k;subst k;refine ri<|fD (Nx<|c.fO<|fq.I E F) ?_;rintro ρ4 m _ I rfl;have f:=fq.I (fq.I E F) I;have c:=c.fO f;have r:=r.fO f;simp only[];split
   .apply fD (FF w m c);intro J q K l u;first
     |exact .fB (.om _ _)
     |exact fD (Nv (((‹hD C _ _›.r f).r l).C _)<|by simpa using u) λL _ _ h _=> .fB (.kK (((‹hD C _ _›.r f).r l).r h) _ _)
   .apply fD (yv e);rintro J G _ l ⟨rfl,_⟩;split
    .exact .oK (wC<|rm _)
    .apply fD (yv e);rintro L G _ h ⟨rfl,_⟩;split
     .refine .oK (wC ?_);simp only[Å,if_false];refine FG λb=> ?_;simp_all
     .apply sD (.As λ_=> .fB U);intro M nc y;apply fD (yv e);rintro N G _ n ⟨rfl,_⟩;apply sD (Ny _);intro O _ Q;have f:=fq.I (fq.I (fq.I l h)<|fq.I y n) Q;apply fD (FF w _<|r.fO f);intro ρa o o' h S;apply fD (FF w m<|c.fO<|fq.I f h);intro M q K y u;apply fD (FC H e);intro N z z' n T;exact fD (Av e<|(((S.I y).I n).tD<|u.I n).tD<|T.gT.yw _) λO a a' _ V=> .fB (.kK V _ _)
end
section
variable{Y:fq}
def adX(g:nS P)(t:Á)(i:fi Y v x)(j:fi Y z jQ):fF P fi Y (Ĺ t v z) (Ĺ t x jQ):=by
 unfold Ĺ;apply fD (ja t);rintro o d _ f ⟨rfl,p⟩;cases d<;>try exact .fR
 rename_i e;apply fD (Nw<|i.fO f);rintro q r _ k rfl;apply fD (Nw<|(j.fO f).fO k);rintro s u _ y rfl;apply fD (yv e);rintro B C _ D ⟨rfl,_⟩;simp only[];split
 .split
  .exact .oK (wC<|rm _)
  .split
   .exact .oK (wC<|rm _)
   .exact .oK (FG λ_=>wC<|rm _)
 .apply sD (Ny _);intro E _ F;apply fD (ni e);rintro G w _ H ⟨rfl,_⟩;split
  .exact ri<|fD (Av e<|(fS.N _).G _) λm a n _ b=> .fB (.kK b _ _)
  .exact fD (FC g e) λ_ _ _ _ h=>ri<|fD (Av e<|h.gT.G _) λm a n _ b=> .fB (.kK b _ _)
def tE(P:Õ)(t:Á):Prop:=P.underlying t=À .bool\/(∃k,P.underlying t=À (Β k))\/P.underlying t=À ę
def nj:Â->Prop
 |Þ (À _)=>False
 |_=>True
def Vp(t:Á)(i:tE P t\/∃e,P.underlying t=À (ð e))(b:fi Y x v)(c:fi Y z jQ)(j:nj x\/nj z):fF P jq Y (ó t x z) (ó t v jQ):=by
 unfold ó ā Λ;refine fD (ja t) ?_;rintro o d _ g ⟨rfl,a⟩;have b:=b.fO g;have c:=c.fO g;rcases i with(h|⟨k,h⟩|h)|⟨e,h⟩;all_goals
  rw[h]at a;injection a with a;subst a;cases b<;>cases c<;>first|exact .fR|exact .fB U|(simp[nj]at j;done)|skip
 .simp only[];split<;>first|exact .fB U|exact .fR
 .rename_i l n _ _ _;by_cases f:n=0
  .subst f;exact .fB U
  .refine .oK λu x m e=> ?_;simp_all
 .rename_i l n;by_cases f:n=0
  .subst f;exact .fB U
  .refine .oK λu x m e=> ?_;simp_all
end
section
variable{Y:fq}
def Je{r:Nat}(h:Y r i):fF P (λ_ a b=>a=ë/\b=ë) Y (dm r) (dm i):=.vf h λ_ _ _ _=> .fB ⟨U,U⟩
def Vq{r:Nat}(h:Y r i):fF P (λ_ a b=>a=ë/\b=ë) Y (b9 r) (b9 i):=.vf h λ_ _ _ _=> .fB ⟨U,U⟩
def Aw(h:hD Y a p):fF P (λc x b=>hD c x.1 b.1/\x.2=b.2/\x=(a,Ã)/\b=(p,Ã)) Y (Į a) (Į p):=by unfold Į;apply fD (Vq h.1);rintro c x d b ⟨rfl,rfl⟩;exact .fB ⟨h.r b,U,U,U⟩
def adY(h:hD Y a p):fF P jq Y (aY a) (aY p):=by unfold aY;apply fD (Je h.1);rintro b x c d ⟨rfl,rfl⟩;exact .fB U
def FH(h:hD Y a p):fF P jq Y (dp a) (dp p):=by
 have f:=h;let⟨g,i,b⟩:=f;unfold dp;cases c:a.spot with
 |some s=>
  rw[c]at b;rw[<-b];exact .fB U
 |none=>
  rw[c]at b;rw[<-b];apply fD rh;rintro k s l d ⟨rfl,e⟩;subst e;apply fD (adY<|h.r d);intro m _ _ j _;refine .vf (j.1 _ _<|d.1 _ _ g) λe n o q=> ?_;simp only[<-i,ç];split
  .exact .fB U
  .split
   .exact .fB U
   .exact .fR
def Jf(c:Bi Y){b d:Ú}(f:hD Y a p)(g:hD Y b d):(a.block==b.block)=(p.block==d.block):=by
 rw[Χ,beq_iff_eq,beq_iff_eq];constructor
 .intro e;exact c.1 _ _ _ f.1<|e▸g.1
 .intro e;exact c.2.1 _ _ _ f.1<|e▸g.1
theorem Vr(g:Bi Y){b c:Ú}(d:hD Y a p)(f:hD Y b c):(a==b)=(p==c):=by have e:=Jf g d f;rw[Χ,beq_iff_eq,beq_iff_eq]at e;rw[Χ,beq_iff_eq,beq_iff_eq];let⟨h,i,j⟩:=a;let⟨k,l,m⟩:=p;let⟨n,o,q⟩:=b;let⟨r,s,t⟩:=c;let⟨_,u,v⟩:=d;let⟨_,w,x⟩:=f;grind
theorem Vt(f:Bi Y)(n:Y.C=P.globals.size){b d:Ú}(e:hD Y a p)(g:hD Y b d):fF P jq Y (š a b) (š p d):=by
 unfold š;apply fD rh;rintro o c q h ⟨i,j⟩;rw[i,j];have k:(a.block !=b.block)=(p.block !=d.block):=by simp only[bne];rw[Jf f e g]
 have l:(decide<|a.block≥P.globals.size)=(decide<|p.block≥P.globals.size):=by have:=f.2.2 _ _ e.1;grind
 rw[k,l];split
 .exact .fR
 .apply fD (FH<|e.r h);rintro r x _ m rfl;apply fD (FH<|(g.r h).r m);rintro s y _ t rfl;exact .fB U
def adZ(d:Bi Y)(e:Y.C=P.globals.size)(k:ú){b c:Ú}(f:hD Y a p)(g:hD Y b c):fF P fi Y (Μ k a b) (Μ k p c):=by unfold Μ;apply fD (Vt d e f g);rintro h ⟨x,y⟩ _ _ rfl;exact .fB (.iD _ _)
def ad1(e:Bi Y)(f:Y.C=P.globals.size)(c:ġ){b d:Ú}(g:hD Y a p)(h:hD Y b d):fF P fi Y (Ν c a b) (Ν c p d):=by unfold Ν;refine fD (Vt e f g h) ?_;rintro i ⟨x,y⟩ _ _ rfl;cases c<;>first|exact .fB (.mC _)|exact .fR
def Vu(k:ú)(b:hD Y a p)(n:Int):fF P fi Y (Ξ k a n) (Ξ k p n):=by
 unfold Ξ;refine .vf b.1 λe m d f=> ?_;apply ri;apply fD (yv e);rintro g h _ c ⟨rfl,_⟩;simp only[];split
 .exact .fR
 .apply fD (FH<|b.r c);rintro i x _ _ rfl;exact .fB (.iD _ _)
def ad2{n:Int}(h:j<=b)(a:ξ P i e j k n=À m):ξ P i e b k n=À m:=by
 unfold ξ at a|-;simp only[bind,Option.bind]at a|-;split at a
 .cases a
 .rename_i f;rw[if_neg f];split at a
  .cases a
  .rename_i g;simp only[g];dsimp only at a;split at a
   .cases a
   .rename_i l;rw[if_neg]
    .exact a
    .intro o;apply l;have:=(λw=>Nat.mul_le_mul_right w h)<|P.bytesOf e;simp at o|-;omega
def ad3{i:Á->Bool}:∀{d:Nat} {e:Á} {c a b n:Nat},c<=a->da P i d e c b n=É->da P i d e a b n=É
 |0,_,_,_,_,_,_,h=>by simp[da]at h
 |d+1,e,c,a,b,n,hc,h=>by
  unfold da at h|-;simp only at h|-;split at h
  .cases h
  .rename_i j;rw[if_neg j];rw[bI,ě,ě,ě]at h|-;rcases h with⟨⟨f,g⟩,k⟩|⟨f,g⟩
   .exact Ç ⟨⟨f,by simp at g|-;omega⟩,k⟩
   .exact Î ⟨by simp at f|-;omega,g⟩
def Vv:∀{d:Nat} {e:Á} {c a b:Nat} {u:Á} {n:Nat},c<=a->aZ P d e c b u n=É->aZ P d e a b u n=É
 |0,_,_,_,_,_,_,_,h=>by simp[aZ]at h
 |d+1,e,c,a,b,u,n,hc,h=>by
  unfold aZ at h|-;rw[bI]at h|-;rcases h with h|h
  .exact Ç<|ad3 hc h
  .right;split at h
   .rename_i f;first|rw[f]|skip
    exact Vv hc h
   .cases h
def ad4{a:Á->Bool}:da P a i e 0 j (n+1)=Ã:=by
 cases i with
 |zero=>simp[da]
 |succ i=>
  unfold da;simp
def ad5{k:ú}(a:P.underlying t=À (Β k)):aZ P i e 0 j t (n+1)=Ã:=by
 cases i with
 |zero=>simp[aZ]
 |succ i=>
  unfold aZ;rw[ad4];simp[a]
def Vw(t:Á)(d:hD Y a p)(k:ú)(n:Int):fF P fi Y (ñ #[] t #[Þ<|À a,Ć k n]) (ñ #[] t #[Þ<|À p,Ć k n]):=by
 have f:=d;let⟨c,g,h⟩:=f;unfold ñ;apply ri;simp only[];split
 .apply fD (Je c);rintro i x e b ⟨rfl,rfl⟩;exact .fB (.jS (d.r b))
 .split
  .exact .fR
  .refine .vf c λe m u j=> ?_;apply ri;apply fD rh;rintro i b v l ⟨o,r⟩;rw[o,r,<-g];cases s:ξ P P.depth e (m/P.cellsOf e) a.off n with
   |none=>exact .fR
   |some x=>
    rw[ad2 (ο<|j.elim (λq=>by omega) λq=>q.1) s];exact .fB (.jS ⟨l.1 _ _ c,U,h⟩)
end
def yx:Obj->Prop
 |Č .. =>False
 |_=>True
inductive kL(P:Õ){α:Type}(V:fq->α->α->Prop):fq->ē α->ē α->Prop
 |gp {Y:fq} {m m':ē α} (h:fF P V Y m m'):kL P V Y m m'
 |lD {Y:fq} {β:Type} {V0:fq->β->β->Prop} {m m':ē β} {f f':β->ē α} (h:fF P V0 Y m m') (hf:∀Y' a a',Y.r Y'->V0 Y' a a'->kL P V Y' (f a) (f' a')):kL P V Y (m.bind f) (m'.bind f')
 |CW {Y:fq} {o:Obj} {g:Nat->α} {m':ē α} (ho:yx o):kL P V Y (.new o λr=>aI<|g r) m'
 |CX {Y:fq} {m m':ē α} (h:∀u x u',m.run P u=ĥ x u'->∃i o,u.heap.size<=i/\u'.heap[i]?=À o/\yx o):kL P V Y m m'
section
variable{Y:fq}
def kL.ad6{α β:Type}{V:fq->α->α->Prop}{i:fq->β->β->Prop}{m e:ē α}{f j:α->β}(h:kL P V Y m e)(k:∀c a d,Y.r c->V c a d->i c (f a) (j d)): kL P i Y (m.bind λa=>aI<|f a) (e.bind λa=>aI<|j a):=by
 induction h with
 |gp h=>exact .gp (h.lD λc a d u w=> .fB (k c a d u w))
 |lD h _ g=>
  rw[ř,ř];exact .lD h λc a d u w=>g c a d u w λx b z l n=>k x b z (fq.I u l) n
 |CW b=>exact .CW b
 |@CX Y m e h=>
  refine .CX λu x l b=> ?_;rw[Ĵ]at b;cases g:m.run P u with
  |halt z w=>rw[g]at b;cases b
  |ok a w=>
   rw[g]at b;simp only[ã]at b;cases b;exact h u a _ g
def CY(u a:Æ):Prop:=∀i o,u.heap.size<=i->a.heap[i]?=À o->¬yx o
def kL.gk{α:Type}{V:fq->α->α->Prop}{Y:fq}{m r:ē α}(h:kL P V Y m r):∀{u w:Æ},jg Y X u w->(∀j,X j->j<w.heap.size)->∀{x:α} {c:Æ},m.run P u=ĥ x c->CY u c->∀d:Array ý,∃(a:fq) (n:α) (s:Æ) (b:Array ý),Y.r a/\(∀i j,a i j->Y i j\/(u.heap.size<=i/\w.heap.size<=j))/\r.runT P w d=(ĥ n s,d++b)/\V a x n/\jg a X c s/\nR Y X w s/\(∀e∈b,At a X e)/\u.heap.size<=c.heap.size:=by
 induction h with
 |gp h=>intro u w k g x c b _ d;exact h.gk k g b d
 |@lD Y β V0 m r f f' h _ ih=>
  intro u w k g x c b l d;rw[Ĵ]at b;cases t:m.run P u with
  |halt z w=>rw[t]at b;cases b
  |ok a u1=>
   rw[t]at b;let⟨G,H,w1,E,p,q,v,I,J,B,K,C⟩:=h.gk k g t d;let⟨L,n,M,N,F,O,Q,S,T,W,k7,k8⟩:=ih G a H p I J (λj s=>Ô (g j s) B.r) b (λi o s=>l i o<|õ C s)<|d++E;refine⟨L,n,M,E++N,fq.I p F,λi j D=> ?_,?_,S,T,B.fe W λi j D=>(q i j D).imp id λy=>y.2,λe s=> ?_,õ C k8⟩
   .rcases O i j D with y|⟨y1,y2⟩
    .exact q i j y
    .exact Î ⟨õ C y1,õ B.r y2⟩
   .rw[Ñ,v];simp only[];rw[Q,Ļ]
   .rcases Ĝ.1 s with s|s
    .rcases K e s with⟨a,i,y,z2,z3,z4⟩|z
     .exact Ç ⟨a,i,y,F.1 _ _ z2,z3,z4⟩
     .exact Î z
    .exact k7 e s
 |CW s=>
  intro u w k g x c b l d;simp only[ã]at b;cases b;exact absurd s<|l u.heap.size _ (ß _) fj
 |CX h=>
  intro u w k g x c b l d;let⟨i,o,p,q,v⟩:=h u x c b;exact absurd v<|l i o p q
end
section
variable{Y:fq}
theorem ad7(i:Bi Y)(F:Y.C=P.globals.size)(t:Á)(s:tE P t){j b m:Ú}(e:hD Y a j)(f:hD Y b m):fF P jq Y (ó t (Þ<|À a)<|Þ<|À b) (ó t (Þ<|À j)<|Þ<|À m):=by
 unfold ó ā Λ;refine fD (ja t) ?_;rintro G d _ g ⟨rfl,c⟩;rcases s with h|⟨k,h⟩|h
 .rw[h]at c;injection c with c;subst c;exact .fR
 .rw[h]at c;injection c with c;subst c;apply fD (Aw<|e.r g);rintro H p u l ⟨_,_,rfl,rfl⟩;apply fD (Aw<|(f.r g).r l);rintro I q J n ⟨_,_,rfl,rfl⟩;apply fD rh;rintro K p u o ⟨v,w⟩;rw[v,w];have z:=(((e.r g).r l).r n).r o;have B:=(((f.r g).r l).r n).r o;have C:=Jf i e f;have D:(decide<|a.block<P.globals.size)=(decide<|j.block<P.globals.size):=by
   have:=i.2.2 _ _ e.1;grind
  simp only[C,D];split
  .apply fD (FH z);rintro E x _ r rfl;apply fD (FH<|B.r r);rintro L y _ M rfl;exact .fB U
  .apply fD (yv t);rintro E x _ r ⟨rfl,_⟩;split
   .rw[Vr i e f];split
    .exact .fB U
    .exact .fR
   .exact .fR
 .rw[h]at c;injection c with c;subst c;exact .fR
def ad8(e:Bi Y)(f:Y.C=P.globals.size)(t:Á)(b:tE P t)(c:fi Y x v)(d:fi Y z jQ):fF P jq Y (ó t x z) (ó t v jQ):=by
 by_cases a:nj x\/nj z
 .exact Vp t (Ç b) c d a
 .have g:=λh=>a<|Ç h;have i:=λh=>a<|Î h;cases c<;>first|exact absurd trivial g|skip
  cases d<;>first|exact absurd trivial i|skip
  rename_i j _ _ k;exact ad7 e f t b j k
def ad9(a:ġ)(k:ú)(x y:Int):fF P fi Y (ah a k x y) (ah a k x y):=by
 unfold ah;split
 .exact Jc
 .cases a<;>first|exact .fR|exact .fB (.iD _ _)
def aea(a:ġ)(k b:ú)(x y:Int):fF P fi Y (aK a k x b y) (aK a k x b y):=by
 unfold aK;split
 .exact Jc
 .cases a<;>first|exact .fR|exact .fB (.iD _ _)
def aeb(a:ġ)(t:Á)(k b:ú)(x y:Int):fF P fi Y (Ũ a t (Ć k x)<|Ć b y) (Ũ a t (Ć k x)<|Ć b y):=by
 cases a<;>simp only[Ũ]<;>first|exact aea _ _ _ _ _|skip
 all_goals
  split
  .exact .fR
  .first|exact .fB (.iD _ _)|exact .fB (.mC _)|exact ad9 _ _ _ _
def aec(a:ġ)(t:Á)(x y:ByteArray):fF P fi Y (Ũ a t (ħ x)<|ħ y) (Ũ a t (ħ x)<|ħ y):=by
 cases a<;>simp only[Ũ,bu]<;>first|exact .fR|exact .fB (.mC _)|skip
 split
 .exact .fR
 .exact .fB (.kJ _)
end
section
variable{Y:fq}
def lb{α β:Type}{V0:fq->β->β->Prop}{V:fq->α->α->Prop}{m c:ē β}{f d:β->ē α}(h:fF P V0 Y m c) (g:∀b a e,Y.r b->V0 b a e->kL P V b (f a) (d e)):kL P V Y (m>>=f) (c>>=d):=.lD h g
def aed{α β:Type}{V:fq->α->α->Prop}{c:fq->β->β->Prop}{m d:ē α}{f e:α->β}(h:kL P V Y m d)(i:∀b a g,Y.r b->V b a g->c b (f a) (e g)): kL P c Y (m>>=λa=>pure<|f a) (d>>=λa=>pure<|e a):=kL.ad6 h i
def Vx(t:Á)(y:Â):∀u x a,(ñ #[] t #[Þ ë,y]).run P u≠ĥ x a:=by
 unfold ñ;refine FG λn=> ?_;simp only[];split
 .exact adV
 .split;all_goals simp_all
def CZ(t:Á)(i:fi Y x v)(j:∃p,x=Þ p)(k:ú)(n:Int):kL P fi Y (ŕ t x<|Ć k n) (ŕ t v<|Ć k n):=by
 obtain⟨p,rfl⟩:=j;cases i with
 |lS=>
  unfold ŕ;refine lb (ja t) ?_;rintro e d _ h ⟨rfl,_⟩;cases d<;>simp only[Å,if_false,if_true]<;>first|exact .gp .fR|exact .gp (.oK (Vx t _))
 |jS f=>
  unfold ŕ;refine lb (ja t) ?_;rintro e d _ h ⟨rfl,_⟩;have l:∀{a g:Ú},hD e a g->kL P fi e (Į a>>=λp=>ñ #[] t #[Þ<|À p.1,Ć k n]>>=λc=>match c with|Þ (À b)=>cg b p.2|c=>pure c) (Į g>>=λp=>ñ #[] t #[Þ<|À p.1,Ć k n]>>=λc=>match c with|Þ (À b)=>cg b p.2|c=>pure c):=by intro a g f;refine lb (Aw f) ?_;rintro q p r s ⟨m,u,rfl,rfl⟩;refine lb (Vw t m k n) ?_;intro w c y z o;cases o<;>first|exact .CW trivial|exact .gp (.fB (by constructor<;>assumption))
  cases d<;>simp only[Å,if_false,if_true]<;>first|exact .gp .fR|exact l<|f.r h
def Vy(t:Á)(b:fi Y x v)(c:∃p,x=Þ p)(k:ú)(n:Int):kL P fi Y (Ţ t x<|Ć k n) (Ţ t v<|Ć k n):=by
 unfold Ţ;obtain⟨p,rfl⟩:=c;cases b with
 |lS=>exact .gp (.oK (Vx t _))
 |jS a=>
  apply lb (Vq a.1);rintro e p f d ⟨rfl,rfl⟩;exact .gp (Vw t (a.r d) k n)
def aee(P:Õ)(a:ġ)(t:Á)(x y:Â):Prop:=a=aA\/a=aL->(tE P t\/((∃e,P.underlying t=À (ð e))/\(nj x\/nj y)))
def Vz(c:Bi Y)(d:Y.C=P.globals.size)(t:Á)(f:tE P t\/((∃e,P.underlying t=À (ð e))/\(nj x\/nj z)))(a:fi Y x v)(b:fi Y z jQ):fF P jq Y (ó t x z) (ó t v jQ):=by
 rcases f with h|⟨g,i⟩
 .exact ad8 c d t h a b
 .exact Vp t (Î g) a b i
def aef(m:Bi Y)(n:Y.C=P.globals.size)(c:ġ)(t:Á)(r:aee P c t x z)(o:fi Y x v)(h:fi Y z jQ):kL P fi Y (Ũ c t x z) (Ũ c t v jQ):=by
 have f:c=aA->fF P fi Y (ó t x z>>=λb=>pure<|Ľ b) (ó t v jQ>>=λb=>pure<|Ľ b):=by intro e;apply fD (Vz m n t (r<|Ç e) o h);rintro i b _ _ rfl;exact .fB (.mC _)
 have g:c=aL->fF P fi Y (ó t x z>>=λb=>pure<|Ľ !b) (ó t v jQ>>=λb=>pure<|Ľ !b):=by intro e;apply fD (Vz m n t (r<|Î e) o h);rintro i b _ _ rfl;exact .fB (.mC _)
 cases o with
 |iD k a=>
  cases h with
  |iD d b=>exact .gp (aeb c t k d a b)
  |jS l=>
   cases c<;>first|exact .gp .fR|exact .gp (f U)|exact .gp (g U)|exact CZ t (.jS l) ⟨_,U⟩ _ _|skip
   apply lb (Aw l);rintro i p s e ⟨j,_,_,_⟩;exact .gp (Vu _ j _)
  |lS=>cases c<;>first|exact .gp .fR|exact .gp (f U)|exact .gp (g U)|exact CZ t .lS ⟨_,U⟩ _ _
  |_=>cases c<;>first|exact .gp .fR|exact .gp (f U)|exact .gp (g U)
 |kJ a=>
  cases h with
  |kJ b=>exact .gp (aec c t a b)
  |_=>cases c<;>first|exact .gp .fR|exact .gp (f U)|exact .gp (g U)
 |lS=>
  cases h with
  |iD k b=>
   cases c<;>first|exact .gp .fR|exact .gp (f U)|exact .gp (g U)|exact CZ t .lS ⟨_,U⟩ _ _|skip
   refine lb (ja t) ?_;rintro i d _ e ⟨rfl,_⟩;cases d<;>simp only[Å,if_false,if_true]<;>first|exact Vy t .lS ⟨_,U⟩ _ _|exact CZ t .lS ⟨_,U⟩ _ _
  |_=>cases c<;>first|exact .gp .fR|exact .gp (f U)|exact .gp (g U)
 |jS a=>
  cases h with
  |iD k b=>
   cases c<;>first|exact .gp .fR|exact .gp (f U)|exact .gp (g U)|exact CZ t (.jS a) ⟨_,U⟩ _ _|skip
   .refine lb (ja t) ?_;rintro i d _ e ⟨rfl,_⟩;have a:=a.r e;cases d<;>simp only[Å,if_false,if_true]<;>first|exact Vy t (.jS a) ⟨_,U⟩ _ _|exact CZ t (.jS a) ⟨_,U⟩ _ _
   all_goals
    apply lb (Aw a);rintro i p s e ⟨j,_,_,_⟩;exact .gp (Vu _ j _)
  |jS l=>
   cases c<;>first|exact .gp .fR|exact .gp (f U)|exact .gp (g U)|skip
   all_goals
    refine lb (Aw a) ?_;rintro i p s e ⟨j,_,rfl,rfl⟩;refine lb (Aw<|l.r e) ?_;rintro w q B b ⟨d,_,rfl,rfl⟩;have k:=b.2.1<|e.2.1 m;have u:=b.2.2.trans<|e.2.2.trans n;first|exact .gp (adZ k u _ (j.r b) d)|exact .gp (ad1 k u _ (j.r b) d)
  |_=>cases c<;>first|exact .gp .fR|exact .gp (f U)|exact .gp (g U)
 |_=>
  cases h<;>cases c<;>first|exact .gp .fR|exact .gp (f U)|exact .gp (g U)
end
section
variable{Y:fq}
def aeg(a b:Á)(h:(∃k g,P.underlying a=À (Β k)/\P.underlying b=À (Β g))\/(P.underlying a=À ę/\P.underlying b=À ę))(f:fi Y x v):fF P fi Y (Œ a b x) (Œ a b v):=by
 unfold Œ;refine fD (ja a) ?_;rintro n d _ l ⟨rfl,c⟩;refine fD (ja b) ?_;rintro o p _ m ⟨rfl,e⟩;have f:=(f.fO l).fO m;rcases h with⟨k,g,i,j⟩|⟨i,j⟩;all_goals
  rw[i]at c;rw[j]at e;injection c with c;injection e with e;subst c e;cases f<;>first|exact .fR|exact .fB (.iD _ _)|exact .fB (.kJ _)
inductive pf(Y:fq):Ο->Ο->Prop
 |nT {v v':Â} (h:fi Y v v'):pf Y (ï v) (ï v')
 |sE:pf Y aH aH
 |sF (f:à) {c c':Array Â} (h:fS Y c c'):pf Y (ũ f c) (ũ f c')
def FI(P:Õ)(t:Á):Prop:=tE P t\/∃e,P.underlying t=À (ð e)
def aeh(t:Á)(f:FI P t)(a g b i:Â):fF P jq Y (į ā t a b) (į ā t g i):=by
 unfold ā į;refine fD (ja t) ?_;rintro j d _ l ⟨rfl,c⟩;rcases f with(h|⟨k,h⟩|h)|⟨e,h⟩;all_goals
  rw[h]at c;injection c with c;subst c;exact .fB U
def aei(e:ġ)(t:Á)(c:e=aA\/e=aL->FI P t)(x y:Ö){d:Â}(h:fi Y v z)(i:fi Y jQ d):fF P jq Y (ŷ e t x y v jQ) (ŷ e t x y z d):=by
 have g:FI P t->∀{f:fq} (s:br) (v z jQ d:Â),fF P jq f (į ā t v jQ>>=λr=>if r=É then unsupported s else pure ()) (į ā t z d>>=λr=>if r=É then unsupported s else pure ()):=by
  intro c f s v z jQ d;apply fD (aeh t c v z jQ d);rintro j r _ _ rfl;split
  .exact .fR
  .exact .fB U
 unfold ŷ;cases e<;>first|exact .fB U|skip
 all_goals
  have c:=c (by first|exact Ç U|exact Î U);cases h<;>cases i<;>first|exact .fB U|skip
 all_goals first
  |(cases x<;>cases y<;>first|exact .fB U|exact g c _ _ _ _ _)
  |(
   simp only[þ,Å,if_false];apply fD rh;rintro f p m n ⟨r,s⟩;rw[r,s];apply fD rh;rintro j q o u ⟨k,l⟩;rw[k,l];split
   .exact .fB U
   .exact g c _ _ _ _ _)
def mN{m a:ē Â}(h:fF P fi Y m a):fF P pf Y (m>>=λv=>pure<|ï v) (a>>=λv=>pure<|ï v):=h.lD λ_ _ _ _ v=> .fB (.nT v)
def VA{m a:ē Â}(h:kL P fi Y m a):kL P pf Y (m>>=λv=>pure<|ï v) (a>>=λv=>pure<|ï v):=aed h λ_ _ _ _ v=> .nT v
def aej{m a:ē Unit}(h:fF P jq Y m a):fF P pf Y (m>>=λ_=>pure aH) (a>>=λ_=>pure aH):=h.lD λ_ _ _ _ _=> .fB .sE
def aek(f:à)(b:∃a,P.funcs[f]?=À a/\(a.name== "runtime.NumGoroutine")=Ã/\a.body.isNone=Ã)(e:fS Y d q):fF P pf Y (ĵ f d) (ĵ f q):=by let⟨a,g,h,i⟩:=b;unfold ĵ;apply fD rh;rintro m p n j ⟨k,l⟩;rw[k,l,g];simp only[h,i,Å,if_false];exact .fB (.sF f (e.I j))
end
inductive km(P:Õ)(ev:Ö->Â):Op->Prop
 |Ax (x:Ö):km P ev (.move x)
 |FJ (x:Ö):km P ev (.assign x)
 |wG (c a b:Ö):km P ev (.pick c a b)
 |gH (t:Á):km P ev (.alloc t)
 |NA (t:Á) (x:Ö):km P ev (.box t x)
 |NB (t:Á) (ps:Array (Nat×Operand)):km P ev (.build t ps)
 |NC (t:Á) (n:Nat) (ps:Array (Nat×Operand)):km P ev (dE t n ps)
 |gA (t:Á) (a:Ö):km P ev (.load t a)
 |jc (t:Á) (a x:Ö):km P ev (.store t a x)
 |FK (x:Ö):km P ev (eC x)
 |C0 (op:ġ) (t:Á) (x y:Ö) (r:Á) (h:op=aA\/op=aL->(tE P t\/((∃e,P.underlying t=À (ð e))/\(nj (ev x)\/nj (ev y))))):km P ev (dU op t x y r)
 |ND (op:UnOp) (t:Á) (x:Ö):km P ev (.unOp op t x)
 |NG (s d:Á) (x:Ö) (h:(∃k k',P.underlying s=À (Β k)/\P.underlying d=À (Β k'))\/(P.underlying s=À ę/\P.underlying d=À ę)):km P ev (aN s d x)
 |NH (t:Á) (l c:Ö):km P ev (dV t l c)
 |kK (t:Á) (x:Ö) (lo hi mx:Option Ö):km P ev (.slice t x lo hi mx)
 |NJ (s:Á) (x:Ö) (n:Nat) (h:∀fields f i,P.underlying s=À (di fields)->fields[n]?=À f->P.info? f.type=À i->i.size≠0):km P ev (dW s x n)
 |NK (t:Á) (x:Ö) (n:Nat):km P ev (.field t x n)
 |NL (t:Á) (x i:Ö):km P ev (dX t x i)
 |NM (t:Á) (x i:Ö):km P ev (.index t x i)
 |FA (x:Ö) (n:Nat):km P ev (.extract x n)
 |FL (x:Ö) (ts:Array Á):km P ev (Ω {callee:=ĝ .len,args:=#[x],argTypes:=ts})
 |FM (x:Ö) (ts:Array Á):km P ev (Ω {callee:=ĝ .cap,args:=#[x],argTypes:=ts})
 |FN (x y:Ö) (ts:Array Á):km P ev (Ω {callee:=ĝ .copy,args:=#[x,y],argTypes:=ts})
 |tD (x y:Ö) (t0 t1:Á) (h:(∃e,P.underlying t1=À (dj e))\/P.underlying t1=À ę):km P ev (Ω {callee:=ĝ .append,args:=#[x,y],argTypes:=#[t0,t1]})
 |jK (f:à) (args:Array Ö) (ts:Array Á) (VB:ev (aO f)=eK (.func f) #[] #[]) (h:∃fn,P.funcs[f]?=À fn/\(fn.name== "runtime.NumGoroutine")=Ã/\fn.body.isNone=Ã):km P ev (Ω {callee:=cj<|aO f,args:=args,argTypes:=ts})
end Go.Proofs.Y.Lift
namespace Go.Proofs.Y.Lift
open Go Go.Conc
section
variable{Y:fq}
def VC(Y:fq):Ö->Prop
 |dY v=>fi Y v v
 |ey g=>Y g g
 |_=>True
theorem FO(Y:fq):fi Y ľ ľ:=.nQ U λi h=>absurd h fj
def ael{a a':bF}(h:fS Y a.tmps a'.tmps)(b:VC Y qQ):fi Y (a.eval qQ) (a'.eval qQ):=by
 cases qQ with
 |tmp t=>
  simp only[å,ĩ];rcases h.S t with⟨f,g⟩|⟨v,d,f,g,c⟩
  .rw[f,g];exact FO Y
  .rwa[f,g]
 |const v=>exact b
 |global g=>exact .jS ⟨b,U,U⟩
 |func f=>exact .fn _
def aem(b:Array av)(h:fS Y d q)(j:Nat):ł b d j=ł b q j:=by
 unfold ł;cases(b[j]?).bind (·.dst)with
 |none=>rfl
 |some a=>
  simp only[Option.bind_some];rcases h.S a with⟨c,e⟩|⟨v,g,c,e,f⟩
  .rw[c,e]
  .rw[c,e];cases f<;>rfl
def Jg(a:Array av)(o:av)(h:fS Y d q):Ħ o (ł a d)=Ħ o (ł a q):=by have:ł a d=ł a q:=funext<|aem a h;rw[this]
def aen{a a':bF}(h:fS Y a.tmps a'.tmps)(d:Option Tmp)(b:fi Y v x):fS Y (a.put d v).tmps (a'.put d x).tmps:=by
 cases d with
 |none=>exact h
 |some d=>exact h.qz d b
end
section
variable{Y:fq}
def VD{b:Ö->Â}(a:Array Ö)(h:∀x∈a,fi Y (xX x)<|b x):fS Y (a.map xX) (a.map b):= ⟨fj,λi c d=>by simp only[ŵ];exact h _<|Array.getElem_mem _⟩
def VE{c:Ö->Â}(a:Array (Nat×Operand))(h:∀x∈(a.toList.map (·.2)).toArray,fi Y (xX x)<|c x):vg Y (a.map λp=>(p.1,xX p.2)).toList (a.map λp=>(p.1,c p.2)).toList:=by
 simp only[Array.toList_map];have d:∀x∈a.toList.map (·.2),fi Y (xX x) (c x):=λx b=>h x (by simpa using b);generalize a.toList=l at d
 induction l with
 |nil=>exact .pe
 |cons p l e=>exact .wF ⟨U,d _ fj⟩ (e λx b=>d x<|by simp at b|-;exact Î b)
def NN{a:Ö->Â}(x:Option Ö)(h:∀y,x=À y->fi Y (xX y) (a y)):rj Y (x.map xX) (x.map a):=by
 cases x with
 |none=>exact Ç ⟨U,U⟩
 |some x=>exact Î ⟨_,_,U,U,h x U⟩
def VF(p:nS P)(D:Bi Y)(E:Y.C=P.globals.size){w:Ö->Â}(F:∀f,w (aO f)=eK (.func f) #[] #[])(B:km P xX o.op)(g:∀x∈o.op.operands,fi Y (xX x)<|w x):kL P pf Y (ì xX o) (ì w o):=by
 let⟨O,u,Q,S,T,guard⟩:=o;simp only at B g;unfold ì;simp only[];cases B with
 |Ax x=>exact .gp (.fB (pf.nT<|g x<|by simp[Ê]))
 |FJ x=>exact .gp (.fB (pf.nT<|g x<|by simp[Ê]))
 |wG c a b=>
  apply lb (Vl<|g c<|by simp[Ê]);rintro G r _ k rfl;refine .gp (.fB (pf.nT ?_));split
  .exact(g a<|by simp[Ê]).fO k
  .exact(g b<|by simp[Ê]).fO k
 |gH t=>exact .gp (mN<|adw p t _)
 |NA t x=>exact .gp (mN<|adx t<|g x<|by simp[Ê])
 |NB t z=>exact .gp (mN<|adN p t<|VE z g)
 |NC t n z=>exact .gp (mN<|adQ p t n<|VE z g)
 |gA t a=>exact .gp (mN<|ady t<|g a<|by simp[Ê])
 |jc t a x=>exact .gp (aej<|adz t (g a<|by simp[Ê])<|g x<|by simp[Ê])
 |FK x=>
  simp only[];have j:=g x (by simp[Ê]);generalize xX x=v at j;generalize w x=v' at j;cases j<;>first|exact .gp Jc|exact .gp (.fB (pf.nT<|by constructor<;>assumption))|skip
  rename_i f;cases f<;>exact .gp (.fB (pf.nT<|.fn _))
 |C0 u t x y r h=>
  have j:=g x (by simp[Ê]);have C:=g y (by simp[Ê]);apply VA;apply lb (aei u t (λe=>(h e).imp id λq=>q.1) x y j C);exact λG _ _ k _=>aef (k.2.1 D) (k.2.2.trans E) u t h (j.fO k)<|C.fO k
 |ND u t x=>exact .gp (mN<|adH u<|g x<|by simp[Ê])
 |NG s d x h=>exact .gp (mN<|aeg s d h<|g x<|by simp[Ê])
 |NH t l c=>exact .gp (mN<|adX p t (g l<|by simp[Ê])<|g c<|by simp[Ê])
 |kK t x H I J=>exact .gp (mN<|adF t (g x<|by simp[Ê]) (NN H λy e=>g y<|by simp[Ê,e]) (NN I λy e=>g y<|by simp[Ê,e])<|NN J λy e=>g y<|by simp[Ê,e])
 |NJ s x n h=>exact .gp (mN<|adC s (g x<|by simp[Ê]) n h)
 |NK t x n=>exact .gp (mN<|adB t (g x<|by simp[Ê]) n)
 |NL t x i=>exact .gp (mN<|adD t (g x<|by simp[Ê])<|g i<|by simp[Ê])
 |NM t x i=>exact .gp (mN<|adG t (g x<|by simp[Ê])<|g i<|by simp[Ê])
 |FA x n=>exact .gp (mN<|adA (g x<|by simp[Ê]) n)
 |FL x m=>
  simp only[ù,č,Ē,pure_bind,Ø,â,ä];exact .gp (mN<|adS m _<|g x<|by simp[Ê,ô])
 |FM x m=>
  simp only[ù,č,Ē,pure_bind,Ø,â,ä];exact .gp (mN<|adT m _<|g x<|by simp[Ê,ô])
 |FN x y m=>
  simp only[ù,č,Ē,pure_bind,Ø,â,ä];exact .gp (mN<|adU m _ (g x<|by simp[Ê,ô])<|g y<|by simp[Ê,ô])
 |tD x y K L h=>
  simp only[ù,č,Ē,pure_bind,Ø,â,ä];exact .gp (mN<|adW p K L _ h (g x<|by simp[Ê,ô])<|g y<|by simp[Ê,ô])
 |jK f M m N h=>
  simp only[ù,N,F f,İ,č,pure_bind,Ď,ď];exact .gp (aek f h<|VD M λx j=>g x<|by simp[Ê,ô,j])
end
def World.tp(u:Æ)(T:ψ)(D:Nat):Æ:={u with tape:=T,drawn:=D}
def vh(T:ψ)(D:Nat)(a:ψ)(b n:Nat):Prop:=∀i,i<n->a (b+i)=T (D+i)
def vh.lU{T:ψ}(h:vh T i xQ j (n+1)):xQ j=T i:=h 0 Z
def vh.jr{T:ψ}(h:vh T i xQ j (n+m)):vh T i xQ j n:=λa b=>h a Z
def vh.NO{b:ψ}(h:vh xQ i b j (n+m)):vh xQ (i+n) b (j+n) m:=λa c=>by have:=h (n+a) Z;rw[show j+n+a=j+(n+a) by omega,show i+n+a=i+(n+a) by omega];exact this
def rn{α:Type}(P:Õ)(m:ē α):Prop:=∀(u:Æ) (T:ψ) (D:Nat),∃(n:Nat) (v:Æ),
 ∀x c,m.run P ((World.tp u T D))=ĥ x c->c=(World.tp v T<|D+n)/\∀a b,vh T D a b n->m.run P ((World.tp u a b))=ĥ x ((World.tp v a<|b+n))
section
variable{α β:Type}
def Ay{m:ē α}(h:∀u x a,m.run P u=ĥ x a->a=u/\∀b c,m.run P ((World.tp u b c))=ĥ x ((World.tp u b c))):rn P m:=λu T D=>⟨0,u,λx a e=>by let⟨d,f⟩:=h _ x a e;exact⟨d,λb c _=>f b c⟩⟩
def NP{m:ē α}(h:∀u x a,m.run P u≠ĥ x a):rn P m:=λu T D=>⟨0,u,λx a e=>absurd e<|h _ _ _⟩
def aeo{m:ē α}{f:α->ē β}(h:rn P m)(i:∀a,rn P<|f a):rn P (m.bind f):=by
 intro u T D;let⟨n,v,j⟩:=h u T D;cases b:m.run P ((World.tp u T D))with
 |halt z w=>exact⟨0,u,λx c e=>by rw[Ĵ,b]at e;cases e⟩
 |ok a k=>
  obtain⟨rfl,l⟩:=j a k b;let⟨o,w,p⟩:=i a v T<|D+n;refine⟨n+o,w,λx c e=> ?_⟩;rw[Ĵ,b]at e;let⟨q,r⟩:=p x c e;refine⟨by rw[q,cQ],λz d g=> ?_⟩;rw[Ĵ,l z d g.jr,<-cQ];exact r z (d+n) g.NO
theorem aep{m a:ē α}(h:∀u,m.run P u=a.run P u)(b:rn P a):rn P m:=by intro u T D;let⟨n,v,c⟩:=b u T D;exact⟨n,v,λx d e=>by grind⟩
def aer(q:bU):rn P (π q):=by
 intro u T D;cases a:q.forced with
 |true=>exact⟨0,u,λx d e=>by simp only[π,ã,a,if_true]at e;cases e;exact⟨U,λb c _=>by simp only[π,ã,a,if_true];rfl⟩⟩
 |false=>
  refine⟨1,u,λx d e=> ?_⟩;simp only[π,ã,a,Å,if_false]at e;cases e;refine⟨U,λb c f=> ?_⟩;simp only[π,ã,a,Å,if_false];have g:(World.tp u b c).tape (World.tp u b c).drawn q=T D q:=congrFun f.lU q;rw[g];rfl
def Jh{γ:Type}(s:String):(MonadExcept.throw s:Except String γ)=bG s:=rfl
def aes(a:Ú)(md:Mode):rn P (aX a md):=by
 refine Ay λu x f e=> ?_;simp only[aX,ã]at e|-;cases b:u.cell? a with
 |some v=>
  rw[b]at e;cases e;exact⟨U,λc d=>by simp only[show((World.tp u c d)).cell? a=À x from b]⟩
 |none=>
  rw[b]at e;cases v:u.farLoad P a (md==ċ)with
  |error z=>simp only[v]at e;cases e
  |ok p=>
   simp only[v]at e;cases e;exact⟨U,λc d=>by simp only[show((World.tp u c d)).cell? a=ë from b,show((World.tp u c d)).farLoad P a (md==ċ)=.ok p from v]⟩
def NQ(u:Æ)(a:Ú)(v:Â)(md:Mode):∀T D,((World.tp u T D)).farStore P a v (md==ċ)=(u.farStore P a v<|md==ċ).map λp=>((World.tp p.1 T D),p.2):=by
 intro T D;have c:∀b t,((World.tp u T D)).viewStore P b t a v (md==ċ)=(u.viewStore P b t a v<|md==ċ).map λp=>((World.tp p.1 T D),p.2):=by
  intro b t;unfold bJ;have o:((World.tp u T D)).seen P b t a (md==ċ)=u.seen P b t a (md==ċ):=U;rw[o];simp only[bind,ρ,pure,ς,Jh];cases u.seen P b t a (md==ċ)with
  |error e=>simp only[];split<;>rfl
  |ok r=>
   simp only[];repeat' (first|rfl|split)
 unfold Ŧ;have e:((World.tp u T D)).heap=u.heap:=U;cases r:u.heap[a.block]? with
 |none=>simp only[aP,e,r];rfl
 |some o=>
  cases o<;>first
   |(simp only[aP,e,r];rfl)
   |skip
  simp only[e,r,c];cases u.viewStore P _ _ a v (md==ċ)<;>rfl
def aeu(a:Ú)(v:Â)(md:Mode):rn P (ar a v md):=by
 by_cases b:yr v=É
 .intro u T D;cases d:u.cell? a with
  |some y=>
   cases c:u.frozen? a with
   |true=>exact⟨0,u,λx h e=>by simp only[ar]at e;rw[wE b,show((World.tp u T D)).cell? a=À y from d]at e;simp only[show((World.tp u T D)).frozen? a=É from c,if_true]at e;cases e⟩
   |false=>
    refine⟨0,u.setCell a v,λx h e=> ?_⟩;simp only[ar]at e|-;rw[wE b,show((World.tp u T D)).cell? a=À y from d]at e;simp only[show((World.tp u T D)).frozen? a=Ã from c,Å,if_false]at e;cases e;refine⟨U,λf g i=> ?_⟩;rw[wE b,show((World.tp u f g)).cell? a=À y from d];simp only[show((World.tp u f g)).frozen? a=Ã from c,Å,if_false];rfl
  |none=>
   cases c:u.farStore P a v (md==ċ)with
   |error z=>exact⟨0,u,λx h e=>by simp only[ar]at e;rw[wE b,show((World.tp u T D)).cell? a=ë from d]at e;simp only[NQ u a v md T D,c,cm]at e;cases e⟩
   |ok p=>
    refine⟨0,p.1,λx h e=> ?_⟩;simp only[ar]at e|-;rw[wE b,show((World.tp u T D)).cell? a=ë from d]at e;simp only[NQ u a v md T D,c,cm]at e;cases e;refine⟨U,λf g i=> ?_⟩;rw[wE b,show((World.tp u f g)).cell? a=ë from d];simp only[NQ u a v md f g,c,cm];rfl
 .exact NP λu x h e=>by cases v<;>first|exact absurd U b|cases e
def aev(o:Obj):rn P (eN o):=λu T D=>⟨0,{u with heap:=u.heap.push o},λx a e=>by cases e;exact⟨U,λb c _=>rfl⟩⟩
def aew(r:Nat):rn P (cu r):=by
 refine Ay λu x d e=> ?_;simp only[cu,ã]at e|-;cases a:u.heap[r]? with
 |none=>rw[a]at e;cases e
 |some o=>
  rw[a]at e;cases o<;>first
   |(cases e;done)
   |(cases e;exact⟨U,λb c=>by simp only[show((World.tp u b c)).heap[r]?=_ from a]⟩)
end
def qA(u:Æ):Prop:=∀(i:Nat) (c:Array Â) (e:Á),u.heap[i]?≠À (Ÿ c e)
structure Kd(u u':Æ):Prop where
 r:qA u->qA u'
 C:∀(i:Nat) (o:Obj),u.heap[i]?=À o->yx o->∃o',u'.heap[i]?=À o'/\yx o'
theorem Kd.fV(u:Æ):Kd u u:=⟨id,λ_ o h k=>⟨o,h,k⟩⟩
def Kd.fe{c:Æ}(h:Kd w u)(k:Kd u c):Kd w c:=⟨λx=>k.r<|h.r x,λi o x y=>by let⟨d,e,f⟩:=h.C i o x y;exact k.C i d e f⟩
def FP:Halt->Bool
 |.panic _=>É
 |.stuck _=>É
 |ŀ (.initOrder _)=>Ã
 |ŀ _=>É
 |_=>Ã
def oL{α:Type}(P:Õ)(m:ē α):Prop:=∀u,qA u->(∀x a,m.run P u=ĥ x a->Kd u a)/\(∀z a,m.run P u=bV z a->FP z=É)
section
variable{α β:Type}
def VG(a:α):oL P (aI a):=λu _=>⟨λx b h=>by cases h;exact Kd.fV u,λz b h=>by cases h⟩
def FQ{z:Halt}(h:FP z=É):oL P (eu z:ē α):=λu _=>⟨λx a e=>(by cases e),λb a e=>(by cases e;exact h)⟩
def Ji{m:ē α}{f:α->ē β}(h:oL P m)(j:∀a,oL P<|f a):oL P (m.bind f):=by
 intro u d;let⟨g,k⟩:=h u d;refine⟨λx i e=> ?_,λz i e=> ?_⟩<;>rw[Ĵ]at e
 .cases b:m.run P u with
  |ok a c=>
   rw[b]at e;exact(g a c b).fe<|(j a c<|(g a c b).r d).1 x i e
  |halt z w=>rw[b]at e;cases e
 .cases b:m.run P u with
  |ok a c=>
   rw[b]at e;exact(j a c<|(g a c b).r d).2 z i e
  |halt c w=>rw[b]at e;cases e;exact k _ _ b
def VH:oL P df:=λu _=>⟨λx a h=>by cases h;exact Kd.fV u,λz a h=>by cases h⟩
theorem aex(q:bU):oL P (π q):=by
 intro u b;constructor
 .intro x a e;simp only[π,ã]at e;split at e<;>cases e
  .exact Kd.fV u
  .exact⟨id,λi o h k=>⟨o,h,k⟩⟩
 .intro z a e;simp only[π,ã]at e;grind
def aey(m:Mark):oL P (mark m):=λu _=>⟨λx a h=>by cases h;exact Kd.fV u,λz a h=>by cases h⟩
def aez(r:Nat):oL P (cw r):=λu _=>⟨λx a h=>by cases h;exact Kd.fV u,λz a h=>by cases h⟩
def aeA(a:Ú):oL P (eO a):=λu _=>⟨λx b h=>by cases h;exact Kd.fV u,λz b h=>by cases h⟩
theorem aeB(o:Obj)(h:∀c e,o≠Ÿ c e):oL P (eN o):=by
 intro u b;refine⟨λx d e=> ?_,λz d e=>by cases e⟩;cases e;refine⟨λ_ i c e a=> ?_,λi f a g=>⟨f,?_,g⟩⟩
 .simp only[Array.getElem?_push]at a;split at a
  .grind
  .exact b i c e a
 .grind
theorem VI{f:Obj->Obj}(n:∀o,yx o->yx (f o))(j:∀o c e,f o=Ÿ c e->∃d g,o=Ÿ d g):Kd u {u with heap:=u.heap.modify b f}:=by
 refine⟨λh i c e a=> ?_,λi o a p=> ?_⟩
 .simp only[Ň]at a;split at a
  .let⟨o,k,l⟩:=ģ.1 a;let⟨d,g,m⟩:=j o c e l;exact h i d g<|m▸k
  .exact h i c e a
 .grind
theorem aeC(a:Ú)(v:Â):Kd u (u.setCell a v):=by
 unfold ĉ;refine VI (λo b=> ?_) λo c e h=> ?_
 .cases o<;>first|exact b.elim|trivial
 .grind
theorem VJ(b:qA u)(a:Ú)(s:String):FP (u.noCell a s)=É:=by
 unfold aP;split
 .rename_i h;exact absurd h<|b _ _ _
 .rfl
 .rfl
theorem aeD(a:Ú)(m:Mode):oL P (aX a m):=by
 intro u d;constructor
 .intro x c e;simp only[aX,ã]at e;grind [Kd.fV]
 .intro z c e;simp only[aX,ã]at e;split at e
  .cases e
  .split at e
   .cases e
   .rename_i b;cases e;unfold ŋ at b;split at b
    .split at b<;>cases b;rfl
    .grind [VJ]
theorem aeE{k:Ú}{r:Array Value×TypeId×(Nat×Nat)×Nat×Value×List (Nat×Nat×List UInt8)}(h:w.seen P a t k yQ=.ok r):∃c e d,w.heap[a.block]?=À (Č c e d):=by unfold World.seen at h;simp only[bind,ρ,pure,ς,Jh]at h;grind
theorem aeF{k:Ú}{l:List Ú}(h:w.viewStore P a t k v yQ=.ok (u,l)):Kd w u:=by
 have q:∃c e n d f g,w.heap[a.block]?=À (Č d f g)/\u={w with heap:=w.heap.setIfInBounds a.block (Č c e n)}:=by
  unfold bJ at h;cases i:w.seen P a t k yQ with
  |error e=>
   rw[i]at h;simp only[bind,ρ,pure,ς,Jh]at h;repeat' (first|contradiction|split at h)
  |ok r=>
   let⟨d,f,g,j⟩:=aeE i;rw[i]at h;simp only[bind,ρ,pure,ς,Jh]at h;repeat' (first|contradiction|split at h)
   all_goals(simp only[Except.ok.injEq,Prod.mk.injEq]at h;obtain⟨rfl,_⟩:=h;exact⟨_,_,_,d,f,g,j,U⟩)
 obtain⟨c,e,n,d,f,g,j,rfl⟩:=q;refine⟨λs i x m r=> ?_,λi o r y=> ?_⟩
 .rw[Ś]at r;split at r
  .grind
  .exact s i x m r
 .by_cases m:a.block=i
  .subst m;rw[j]at r;cases r;exact y.elim
  .grind
theorem aeG(a:Ú)(v:Â)(m:Mode):oL P (ar a v m):=by
 intro u d;by_cases c:yr v=É
 .constructor
  .intro x f e;simp only[ar]at e;rw[wE c]at e;split at e
   .split at e
    .cases e
    .cases e;exact aeC a v
   .split at e
    .rename_i b;cases e;unfold Ŧ at b;grind [aeF]
    .cases e
  .intro z f e;simp only[ar]at e;rw[wE c]at e;split at e
   .split at e
    .cases e;rfl
    .cases e
   .split at e
    .cases e
    .rename_i b;cases e;unfold Ŧ at b;split at b
     .split at b<;>cases b;rfl
     .grind [VJ]
 .cases v<;>first|exact absurd U c|exact FQ (P:=P) U u d
def fC(P:Õ)(m:ē α):Prop:=oL P m/\rn P m
theorem gE(a:α):fC P (pure a):=⟨VG a,Ay λu x b e=>by cases e;exact⟨U,λ_ _=>rfl⟩⟩
def NS{z:Halt}(h:FP z=É):fC P (eu z:ē α):=⟨FQ h,NP λu x a e=>by cases e⟩
theorem gl{m:ē α}{f:α->ē β}(h:fC P m)(b:∀a,fC P<|f a):fC P (m>>=f):=⟨Ji h.1 λa=>(b a).1,aeo h.2 λa=>(b a).2⟩
def NT{m:ē α}{f:α->β}(h:fC P m):fC P (f<$>m):=gl h λ_=>gE _
theorem jd(s:String):fC P (stuck s:ē α):=NS U
def VK(v:Â):fC P (goPanic v:ē α):=NS U
theorem qB:fC P df:=⟨VH,Ay λu x a e=>by cases e;exact⟨U,λ_ _=>rfl⟩⟩
theorem sG(q:bU):fC P (π q):=⟨aex q,aer q⟩
def FR(m:Mark):fC P (mark m):=⟨aey m,Ay λu x a e=>by cases e;exact⟨U,λ_ _=>rfl⟩⟩
theorem tF(r:Nat):fC P (cw r):=⟨aez r,Ay λu x a e=>by cases e;exact⟨U,λ_ _=>rfl⟩⟩
theorem NU(a:Ú):fC P (eO a):=⟨aeA a,Ay λu x b e=>by cases e;exact⟨U,λ_ _=>rfl⟩⟩
def Jj(o:Obj)(h:∀c e,o≠Ÿ c e):fC P (eN o):=⟨aeB o h,aev o⟩
def FT(a:Ú)(m:Mode):fC P (aX a m):=⟨aeD a m,aes a m⟩
def aeH(a:Ú)(v:Â)(m:Mode):fC P (ar a v m):=⟨aeG a v m,aeu a v m⟩
theorem Jk{m m':ē α}(h:∀u,m.run P u=m'.run P u)(a:fC P m'):fC P m:=⟨λu b=>by have:=a.1 u b;rwa[<-h u]at this,aep h a.2⟩
end
section
variable{α:Type}
def nk(u:br)(h:FP (ŀ u)=É):fC P (unsupported u:ē α):=NS h
def FU(e:Á)(c:Array Â):fC P (dT e c):=by unfold dT;exact gl (Jj _<|by intro _ _ h;cases h) λ_=>gE _
def VL(t:Á)(v:Â):fC P (eL t v):=FU _ _
def vi(t:Á):fC P (Δ t):=by unfold Δ;repeat' (first|(with_reducible first|exact gE _|exact jd _|exact qB|refine gl ?_ λ_=> ?_)|split)
theorem rp(t:Á):fC P (ø t):=by unfold ø;repeat' (first|(with_reducible first|exact gE _|exact jd _|exact qB|refine gl ?_ λ_=> ?_)|split)
def tH{p:Prop}(h:p:=by repeat' (first|(with_reducible first|exact gE _|exact jd _|exact qB|exact rp _|exact VK _|exact VL _ _|exact sG _|exact vi _|exact FT _ _|exact tF _|exact FR _|refine gl ?_ (λ_=> ?_)|refine NT ?_|refine nk _ ?_)|split|rfl)):p:=h
def Jl(t:Á):fC P (Ū t):=by unfold Ū;exact tH
def wH(e:Ι):fC P (runtimePanic e:ē α):=by unfold runtimePanic;repeat' (first|(with_reducible first|exact Jl _|refine gl ?_ λ_=> ?_)|split|exact tH)
def VM(k:ú)(x y:Int)(c:ax):fC P (boundsPanic k x y c:ē α):=by unfold boundsPanic;simp only[];repeat' (first|(with_reducible first|exact wH _|refine gl ?_ λ_=> ?_)|split|exact tH)
def aeI(r:Nat):oL P (cu r):=by
 intro u b;constructor
 .intro x a e;simp only[cu,ã]at e;split at e<;>first|(cases e;done)|(cases e;exact Kd.fV u)
 .intro z a e;simp only[cu,ã]at e;split at e<;>first|(cases e;done)|(cases e;rfl)
theorem VN(r:Nat):fC P (cu r):=⟨aeI r,aew r⟩
def Jm(t:Á):fC P (ω t):=by unfold ω;exact tH
def tJ(t:Á):fC P (ay t):=by unfold ay;exact tH
def NV(t:Á):fC P (ew t):=by unfold ew;exact tH
def VO(a:Ú):∀(n i:Nat) (b:Array Â),fC P<|Ō a i n b
 |0,i,b=>gE _
 |n+1,i,b=>by unfold Ō;exact gl (FT _ _) λ_=>VO a n _ _
def NW(a:Ú)(n:Nat):fC P (c9 a n):=VO a n _ _
def Jn(a:Ú):∀(b:List Â) (i:Nat),fC P<|Κ a b i
 |[],i=>gE _
 |v::b,i=>by unfold Κ;exact gl (aeH _ _ _) λ_=>Jn a b _
theorem VP(t:Á)(a:Ú):fC P (ae t a):=by unfold ae;repeat' (first|(with_reducible first|exact tJ _|exact NV _|exact NW _ _|refine gl ?_ λ_=> ?_)|split|exact tH)
def aeJ(t:Á)(a:Ú)(v:Â):fC P (aJ t a v):=by unfold aJ;repeat' (first|(with_reducible first|exact tJ _|exact Jn _ _ _|refine gl ?_ λ_=> ?_)|split|exact tH)
def VQ(t:Á)(c:Array Â)(o:Nat):fC P (part t c o):=by unfold part;repeat' (first|(with_reducible first|exact tJ _|exact NV _|refine gl ?_ λ_=> ?_)|split|exact tH)
def VR(v:Â):fC P (ŧ v):=by unfold ŧ;exact tH
def VS(v:Â):fC P (dh v):=by unfold dh;exact tH
def j4{p:Prop}(h:p:=by repeat' (first|(with_reducible first|exact gE _|exact jd _|exact qB|exact rp _|exact VK _|exact VL _ _|exact Jl _|exact sG _|exact wH _|exact vi _|exact FT _ _|exact tJ _|exact NV _|exact NW _ _|exact Jn _ _ _|exact VS _|exact Jm _|exact aeJ _ _ _|exact VP _ _|exact VR _|exact VQ _ _ _|exact tF _|exact VN _|exact VM _ _ _ _|exact FR _|refine gl ?_ (λ_=> ?_)|refine NT ?_|refine nk _ ?_)|split|rfl)):p:=h
def FV(v:Â):fC P (dC v):=by unfold dC;exact j4
def Jo(v:Â):fC P (bW v):=by unfold bW;exact j4
def aeK(v:Â):fC P (eM v):=by unfold eM;exact j4
theorem VT(v:Â):fC P (bX v):=by unfold bX;exact j4
def VU(t:Á)(b:Bool)(v:Â):fC P (Ű t b v):=by unfold Ű;exact j4
def VW(t:Á)(v:Â):fC P (ag t v):=by unfold ag;exact j4
def VX(t:Á)(v:Â):fC P (Ş t v):=by unfold Ş;exact j4
def VY(t:Á)(a v:Â):fC P (ĳ t a v):=by unfold ĳ;exact j4
def VZ(v:Â)(n:Nat):fC P (ō v n):=by unfold ō;exact j4
def V1(t:Á)(v:Â)(n:Nat):fC P (ű t v n):=by unfold ű;repeat' (first|(with_reducible first|exact aeK _|refine gl ?_ λ_=> ?_)|split|exact j4)
def V2{γ δ:Type}(f:γ->ē δ)(a:∀x,fC P<|f x):∀l:List γ,fC P<|l.mapM f
 |[]=>by rw[cS];exact gE _
 |x::l=>by rw[ν];exact gl (a x) λ_=>gl (V2 f a l) λ_=>gE _
theorem V3{γ δ:Type}(f:γ->ē δ)(a:∀x,fC P<|f x)(l:Array γ):fC P (l.mapM f):=by rw[Ĕ];exact NT<|V2 f a _
def aeL(l:Array Field):fC P (l.mapM λf=>do pure (f.offset,<-ay f.type)):=V3 _ (λ_=>gl (tJ _) λ_=>gE _) l
def Jp(r:Nat):fC P (dm r):=by unfold dm;exact j4
def V4(r:Nat):fC P (b9 r):=by unfold b9;exact j4
def V5(a:Ú):fC P (aY a):=by unfold aY;repeat' (first|(with_reducible first|exact Jp _|refine gl ?_ λ_=> ?_)|split|exact j4)
def Az(a:Ú):fC P (dp a):=by unfold dp;repeat' (first|(with_reducible first|exact gE _|exact jd _|exact qB|exact tF _|exact V5 _|refine gl ?_ λ_=> ?_)|split|simp only[]|(rename_i b;cases b<;>simp only[Å,if_false,if_true,þ,Ă]))
def C4(a:Ú):fC P (Į a):=by unfold Į;repeat' (first|(with_reducible first|exact V4 _|refine gl ?_ λ_=> ?_)|split|exact j4)
def aeM(a:Ú)(x y:Nat):fC P (partAt a x y):=by unfold partAt;repeat' (first|(with_reducible first|exact Az _|refine gl ?_ λ_=> ?_)|split|exact j4)
def aeN(a:Ú)(f:Field):fC P (bY a f):=by unfold bY;repeat' (first|(with_reducible first|exact aeM _ _ _|refine gl ?_ λ_=> ?_)|split|exact j4)
def V7(s:Á)(v:Â)(n:Nat):fC P (Ŏ s v n):=by unfold Ŏ;repeat' (first|(with_reducible first|exact aeN _ _|refine gl ?_ λ_=> ?_)|split|exact j4)
def V8(t:Á)(x i:Â):fC P (ŏ t x i):=by unfold ŏ;repeat' (first|(with_reducible first|exact gE _|exact jd _|exact rp _|exact VM _ _ _ _|exact tJ _|exact VR _|exact VS _|refine gl ?_ (λ_=> ?_)|refine nk _ ?_)|split|rfl|simp only[])
def aeO(x:Â)(y:Nat)(c:ax):fC P (ī x y c):=by unfold ī;exact j4
def V9(b:Bool)(l c:Nat)(x y z:Option Â):fC P (Ĩ b l c x y z):=by unfold Ĩ;repeat' (first|(with_reducible first|exact aeO _ _ _|refine gl ?_ λ_=> ?_)|split|exact j4)
def aeP(t:Á)(v:Â)(x y z:Option Â):fC P (Ų t v x y z):=by unfold Ų;repeat' (first|(with_reducible first|exact VT _|exact V9 _ _ _ _ _ _|refine gl ?_ λ_=> ?_)|split|exact j4)
def Wa(t:Á)(v:Â)(x y z:Option Â):fC P (Ő t v x y z):=by unfold Ő;repeat' (first|(with_reducible first|exact V9 _ _ _ _ _ _|exact aeP _ _ _ _ _|refine gl ?_ λ_=> ?_)|split|exact j4)
def Wb(t:Á)(x i:Â):fC P (ų t x i):=by unfold ų;exact j4
def Wc(o:ġ)(k:ú)(x y:Int):fC P (dF o k x y):=by unfold dF;exact j4
def Wg(o:ġ)(k:ú)(x y:Int):fC P (dZ o k x y):=by unfold dZ;exact j4
def Wh(o:UnOp)(v:Â):fC P (bZ o v):=by unfold bZ;repeat' (first|(with_reducible first|exact Wc _ _ _ _|exact Wg _ _ _ _)|split|exact j4)
def Wi(t:Á)(a:Array (Nat×Value)):fC P (Ŵ t a):=by unfold Ŵ;repeat' (first|(with_reducible first|exact aeL _|refine gl ?_ λ_=> ?_)|split|exact j4)
def Wj(t:Á)(n:Nat)(a:Array (Nat×Value)):fC P (ĭ t n a):=by unfold ĭ;repeat' (first|(with_reducible first|exact gE _|exact jd _|exact FU _ _|exact rp _|exact Jm _|exact tJ _|refine gl ?_ (λ_=> ?_)|refine nk _ ?_)|split|rfl|simp only[]|(rename_i b;cases b<;>simp only[Å,if_false,if_true,þ,Ă]))
def NY(n:Nat):fC P (bP n):=by unfold bP;exact j4
def Wk(t:Á)(x y:Â):fC P (Ĺ t x y):=by unfold Ĺ;repeat' (first|(with_reducible first|exact gE _|exact jd _|exact sG _|exact FU _ _|exact vi _|exact rp _|exact wH _|exact Jm _|exact tJ _|exact FV _|exact NY _|refine gl ?_ λ_=> ?_)|split|simp only[]|(rename_i b;cases b<;>simp only[Å,if_false,if_true,þ,Ă]))
def Wl(v:Â):fC P (Α v):=by unfold Α;exact j4
def Wm(s n:Nat)(v:Â):fC P (ļ s n v):=by unfold ļ;exact j4
def aeQ(a:Ú)(n:Nat):fC P (aB a n):=by unfold aB;exact j4
def aeR(s l n:Nat)(b:Option Ú)(v:Â):fC P (bb s l n b v):=by unfold bb;repeat' (first|(with_reducible first|exact gE _|exact NU _|exact aeQ _ _|refine gl ?_ λ_=> ?_)|split|simp only[]|(rename_i b;cases b<;>simp only[Å,if_false,if_true,þ,Ă]))
def Wn(a:Array Á)(t:Á)(x:Array Â):fC P (ş a t x):=by unfold ş;exact j4
def Wo(a:Array Á)(t:Á)(x:Array Â):fC P (Š a t x):=by unfold Š;exact j4
def Wp(a:Array Á)(t:Á)(x:Array Â):fC P (ő a t x):=by unfold ő;repeat' (first|(with_reducible first|exact Wl _|exact Wm _ _ _|refine gl ?_ λ_=> ?_)|split|exact j4)
def Wq(a:Array Á)(t:Á)(x:Array Â):fC P (ĸ a t x):=by unfold ĸ;repeat' (first|(with_reducible first|exact gE _|exact jd _|exact sG _|exact FR _|exact FU _ _|exact vi _|exact rp _|exact wH _|exact Jm _|exact tJ _|exact Jn _ _ _|exact FV _|exact NY _|exact Wl _|exact Wm _ _ _|exact aeR _ _ _ _ _|refine gl ?_ (λ_=> ?_)|refine nk _ ?_)|split|rfl|(rename_i b;cases b<;>simp only[Å,if_false,if_true,þ,Ă]))
end
section
variable{α:Type}
theorem NZ(o:ġ)(k:ı)(x y:Nat):fC P (cU o k x y):=by unfold cU;repeat' (first|(with_reducible first|exact gE _|exact jd _|exact sG _|refine gl ?_ λ_=> ?_)|split|simp only[]|(rename_i b;cases b<;>simp only[Å,if_false,if_true,þ,Ă]))
theorem N0(o:ġ)(k:ı)(x y:Nat):fC P (dG o k x y):=by unfold dG;grind [gE,jd]
theorem aeS(s:ı)(b:Nat)(d:ı):fC P (aQ s b d):=by unfold aQ;grind [gE,sG,gl]
theorem Wr(s:ı)(b:Nat)(d:ú):fC P (bK s b d):=by unfold bK;grind [gE,sG,gl]
theorem aeT(o:ġ)(k:ı)(x y:Nat):fC P (bg o k x y):=by unfold bg;grind [gE,jd,NZ,gl]
def nn{p:Prop}(h:p:=by repeat' (first|(with_reducible first|exact gE _|exact jd _|exact sG _|exact NZ _ _ _ _|exact Jo _|exact N0 _ _ _ _|exact aeS _ _ _|exact aeT _ _ _ _|exact wH _|exact qB|exact Az _|exact tF _|exact FV _|exact Jp _|exact rp _|exact C4 _|exact V4 _|refine gl ?_ (λ_=> ?_)|refine nk _ ?_)|split|rfl)):p:=h
def Ws(o:ġ)(k:ı)(x y:Nat):fC P (cx o k x y):=by unfold cx;exact nn
def aeU(s:ı)(b:Nat)(d:ı):fC P (bL s b d):=by unfold bL;exact nn
def N4(x y:Nat):fC P (cy x y):=by unfold cy;exact nn
def N5(x y:Nat):fC P (cz x y):=by unfold cz;exact nn
def N6(x y:Nat):fC P (cA x y):=by unfold cA;exact nn
def aeV(x y:Nat):fC P (cB x y):=by unfold cB;exact nn
def aeW(a b c d:Nat):fC P (aC a b c d):=by unfold aC;repeat' (first|(with_reducible first|exact N4 _ _|exact N5 _ _|exact N6 _ _|refine gl ?_ λ_=> ?_)|split|exact nn)
def aeX(s a b c d:Nat):fC P (σ s a b c d):=by unfold σ;repeat' (first|(with_reducible first|exact N4 _ _|exact N5 _ _|exact N6 _ _|refine gl ?_ λ_=> ?_)|split|exact nn)
def aeY(a b c d:Nat):fC P (ai a b c d):=by unfold ai;repeat' (first|(with_reducible first|exact gE _|exact Ws _ _ _ _|exact N4 _ _|exact N5 _ _|exact N6 _ _|exact aeV _ _|exact aeX _ _ _ _ _|refine gl ?_ λ_=> ?_)|split|simp only[])
def Wt(o:ġ)(k:ı)(a b c d:Nat):fC P (dq o k a b c d):=by unfold dq;repeat' (first|(with_reducible first|exact Ws _ _ _ _|exact aeU _ _ _|exact aeW _ _ _ _|exact aeY _ _ _ _|refine gl ?_ λ_=> ?_)|split|exact nn)
def aeZ(o:ġ)(k:ú)(x y:Int):fC P (ah o k x y):=by unfold ah;exact nn
def Wu(o:ġ)(x y:Int):fC P (eD o x y):=by unfold eD;exact nn
def ae0(o:ġ)(k:ú)(x:Int)(a:ú)(y:Int):fC P (aK o k x a y):=by unfold aK;exact nn
def N7(o:ġ)(x y:ByteArray):fC P (bu o x y):=by unfold bu;exact nn
def Wv(a b:Ú):fC P (š a b):=by unfold š;exact nn
def ae1(k:ú)(a b:Ú):fC P (Μ k a b):=by unfold Μ;repeat' (first|(with_reducible first|exact Wv _ _|refine gl ?_ λ_=> ?_)|split|exact nn)
def ae2(o:ġ)(a b:Ú):fC P (Ν o a b):=by unfold Ν;repeat' (first|(with_reducible first|exact Wv _ _|refine gl ?_ λ_=> ?_)|split|exact nn)
def ae3(k:ú)(a:Ú)(n:Int):fC P (Ξ k a n):=by unfold Ξ;repeat' (first|(with_reducible first|exact gE _|exact tF _|exact vi _|exact Az _|refine gl ?_ (λ_=> ?_)|refine nk _ ?_)|split|rfl|simp only[]|(rename_i b;cases b<;>simp only[Å,if_false,if_true,þ,Ă]))
def Ww(a:Array Á)(t:Á)(x y:Â):fC P (ñ a t #[x,y]):=by
 unfold ñ;cases x<;>first|exact jd _|skip
 refine gl (FV y) λn=> ?_;exact nn
def ae4(a:Ú)(b:Bool):fC P (cg a b):=by unfold cg;repeat' (first|(with_reducible first|exact gE _|refine gl ?_ (λ_=> ?_)|refine Jj _ ?_)|split|(intro _ _ h;cases h;done))
def ae5(t:Á)(x y:Â):fC P (ŕ t x y):=by unfold ŕ;repeat' (first|(with_reducible first|exact Ww _ _ _ _|exact ae4 _ _|refine gl ?_ λ_=> ?_)|split|exact nn)
def ae6(t:Á)(x y:Â):fC P (Ţ t x y):=by unfold Ţ;repeat' (first|(with_reducible first|exact Ww _ _ _ _|refine gl ?_ λ_=> ?_)|split|exact nn)
theorem wI{γ:Type}{d:dH}(h:P.underlying t=À d){f:dH->ē γ}(a:fC P (f d)):fC P (ø t>>=f):=by
 have e:∀u,(ø t).run P u=ĥ d u:=by intro u;unfold ø;simp_all
 grind [Jk,Ä,È]
def Wx(t:Á)(x y:Â)(a:tE P t\/((∃e,P.underlying t=À (ð e))/\(nj x\/nj y))):fC P (ó t x y):=by
 unfold ó ā Λ;rcases a with(h|⟨k,h⟩|h)|⟨⟨e,h⟩,k⟩<;>refine wI h ?_
 .repeat' (first|(with_reducible first|exact gE _|exact jd _|exact qB|exact vi _|exact Az _|exact C4 _|refine gl ?_ (λ_=> ?_)|refine nk _ ?_)|contradiction|split)
 .repeat' (first|(with_reducible first|exact gE _|exact jd _|exact qB|exact vi _|exact Az _|exact C4 _|refine gl ?_ (λ_=> ?_)|refine nk _ ?_)|contradiction|split|rfl)
 .repeat' (first|(with_reducible first|exact gE _|exact jd _|exact qB|exact vi _|exact Az _|exact C4 _|refine gl ?_ (λ_=> ?_)|refine nk _ ?_)|contradiction|split)
 .repeat' (first|(with_reducible first|exact gE _|exact jd _|exact qB|exact vi _|exact Az _|exact C4 _|refine gl ?_ (λ_=> ?_)|refine nk _ ?_)|contradiction|exact(Or.elim k id id:False).elim|split)
def ae7(t:Á)(a:FI P t)(x y:Â):fC P (į ā t x y):=by unfold ā į;rcases a with(h|⟨k,h⟩|h)|⟨e,h⟩<;>refine wI h ?_<;>(cases x<;>cases y<;>exact gE _)
theorem Wy(c:ġ)(t:Á)(d:c=aA\/c=aL->FI P t)(x y:Ö)(a b:Â):fC P (ŷ c t x y a b):=by
 unfold ŷ;by_cases e:c=aA\/c=aL
 .have f:=d e;rcases e with rfl|rfl;all_goals
   repeat' (first|(with_reducible first|exact ae7 _ f _ _|refine gl ?_ λ_=> ?_)|split|exact nn)
 .grind [gE]
end
section
variable{α:Type}
theorem ae8(k:ú)(n:Int):fC P (cV k n):=by unfold cV;grind [gE]
theorem Wz(n:Int):fC P (bh n):=by unfold bh;grind [gE]
def ae9(a:ġ)(t:Á)(x y:Â)(h:a=aA\/a=aL->(tE P t\/((∃e,P.underlying t=À (ð e))/\(nj x\/nj y)))):fC P (Ũ a t x y):=by unfold Ũ;repeat' (first|(with_reducible first|exact Wx _ _ _ (h<|Ç U)|exact Wx _ _ _ (h<|Î U)|exact gE _|exact jd _|exact rp _|exact C4 _|exact Wc _ _ _ _|exact Wg _ _ _ _|exact NZ _ _ _ _|exact N0 _ _ _ _|exact Wt _ _ _ _ _ _|exact aeZ _ _ _ _|exact Wu _ _ _|exact ae0 _ _ _ _ _|exact N7 _ _ _|exact ae1 _ _ _|exact ae2 _ _ _|exact ae3 _ _ _|exact ae5 _ _ _|exact ae6 _ _ _|refine gl ?_ (λ_=> ?_)|refine nk _ ?_)|contradiction|split|rfl)
def afa(s d:Á)(x:Â)(h:(∃k a,P.underlying s=À (Β k)/\P.underlying d=À (Β a))\/(P.underlying s=À ę/\P.underlying d=À ę)):fC P (Œ s d x):=by
 unfold Œ;rcases h with⟨k,a,b,c⟩|⟨b,c⟩<;>refine wI b<|wI c ?_
 .repeat' (first|(with_reducible first|exact ae8 _ _|exact gE _|exact Wr _ _ _|refine nk _ ?_)|contradiction|split|rfl)
 .repeat' (first|(with_reducible first|exact Wz _|exact gE _|exact Wr _ _ _|refine nk _ ?_)|contradiction|split|rfl)
def WA:∀(l:List FieldStep) (t:Á) (x:Option Â),fC P<|bx l t x
 |[],t,x=>by unfold bx;exact gE _
 |s::l,t,x=>by unfold bx;repeat' (first|(with_reducible first|exact WA l _ _|exact gE _|exact jd _|exact rp _|exact VQ _ _ _|refine gl ?_ λ_=> ?_)|split|(intro _ _ h;cases h;done)|rfl|simp only[]|(rename_i b;cases b<;>simp only[Å,if_false,if_true,þ,Ă]))
def WB:∀(n:Nat) (t:Á) (v:Â) (s:String),fC P<|aR n t v s
 |0,t,v,s=>by unfold aR;exact gE _
 |n+1,t,v,s=>by unfold aR;repeat' (first|(with_reducible first|exact WB n _ _ _|exact WA _ _ _|exact gE _|exact jd _|exact vi _|exact rp _|refine gl ?_ λ_=> ?_)|split|(intro _ _ h;cases h;done)|rfl|simp only[]|(rename_i b;cases b<;>simp only[Å,if_false,if_true,þ,Ă]))
def lV{m:ē Â}(h:fC P m):fC P (m>>=λv=>pure<|ï v):=gl h λ_=>gE _
theorem afb(f:à)(b:∃a,P.funcs[f]?=À a/\(a.name== "runtime.NumGoroutine")=Ã/\a.body.isNone=Ã)(c:Array Â):fC P (ĵ f c):=by let⟨a,d,e,g⟩:=b;refine Jk (m':=pure<|ũ f c) (λu=> ?_)<|gE _;unfold ĵ;rw[Ä,ă];grind [È,Å]
def afc(j:km P xX o.op):fC P (ì xX o):=by
 let⟨k,g,m,p,u,guard⟩:=o;simp only at j;unfold ì;simp only[];cases j with
 |Ax x=>exact gE _
 |FJ x=>exact gE _
 |wG c a b=>exact gl (Jo _) λ_=>gE _
 |gH t=>exact lV<|VU _ _ _
 |NA t x=>exact lV<|VW _ _
 |NB t b=>exact lV<|Wi _ _
 |NC t n b=>exact lV<|Wj _ _ _
 |gA t a=>exact lV<|VX _ _
 |jc t a x=>exact gl (VY _ _ _) λ_=>gE _
 |FK x=>
  simp only[];repeat' (first|(with_reducible first|exact WB _ _ _ _|exact gE _|exact qB|exact wH _|exact Jo _|exact VU _ _ _|exact VW _ _|exact VX _ _|exact VY _ _ _|exact VZ _ _|exact V1 _ _ _|exact V7 _ _ _|exact V8 _ _ _|exact Wa _ _ _ _ _|exact Wb _ _ _|exact Wh _ _|exact Wi _ _|exact Wj _ _ _|exact Wk _ _ _|exact Wn _ _ _|exact Wo _ _ _|exact Wp _ _ _|exact Wq _ _ _|refine gl ?_ (λ_=> ?_)|refine nk _ ?_)|split|rfl)
 |C0 g t x y r h=>exact lV<|gl (Wy g t (λe=>(h e).imp id λq=>q.1) x y _ _) λ_=>ae9 g t _ _ h
 |ND g t x=>exact lV<|Wh _ _
 |NG s d x h=>exact lV<|afa s d _ h
 |NH t l c=>exact lV<|Wk _ _ _
 |kK t x b a c=>exact lV<|Wa _ _ _ _ _
 |NJ s x n h=>exact lV<|V7 _ _ _
 |NK t x n=>exact lV<|V1 _ _ _
 |NL t x i=>exact lV<|V8 _ _ _
 |NM t x i=>exact lV<|Wb _ _ _
 |FA x n=>exact lV<|VZ _ _
 |FL x a=>
  simp only[ù,č,Ē,pure_bind,Ø,â,ä];exact lV<|Wn _ _ _
 |FM x a=>
  simp only[ù,č,Ē,pure_bind,Ø,â,ä];exact lV<|Wo _ _ _
 |FN x y a=>
  simp only[ù,č,Ē,pure_bind,Ø,â,ä];exact lV<|Wp _ _ _
 |tD x y b c h=>
  simp only[ù,č,Ē,pure_bind,Ø,â,ä];exact lV<|Wq _ _ _
 |jK f c a b h=>
  simp only[ù,b,İ,č,pure_bind,Ď,ď];exact afb f h _
end
def fm(f:à)(t:Array Â)(k:List ś):Ę:=(base f).at ⟨t,[]⟩ k
structure St where
 f:à
 t:Array Â
 k:List ś
 C:Bool
 L:List (FuncId×Array Value×List ś)
def St.r(s:St)(cs:List Ę):Ó:=G (if s.C then{fm s.f s.t s.k with mode:=.returning}else fm s.f s.t s.k)<|s.L.map (λx=>fm x.1 x.2.1 x.2.2)++cs
def pg(t:Array Â)(d:Option Tmp)(v:Â):Array Â:=(Act.put ⟨t,[]⟩ d v).tmps
def sH(t:Array Â)(d:Option Tmp)(v:Â):Act.put ⟨t,[]⟩ d v=⟨pg t d v,[]⟩:=by cases d<;>rfl
inductive LS(P:Õ):St->Æ->St->Æ->Prop
 |pe {f t L u:_}:LS P ⟨f,t,[],Ã,L⟩ u ⟨f,t,[],É,L⟩ u
 |vj {f t k L u:_}:LS P ⟨f,t,Đ .ret::k,Ã,L⟩ u ⟨f,t,Đ .ret::k,É,L⟩ u
 |sE {f t k L u:_}:LS P ⟨f,t,Đ eP::k,Ã,L⟩ u ⟨f,t,k,Ã,L⟩ u
 |wK {f t k L u l:_}:LS P ⟨f,t,Đ (ea l)::k,Ã,L⟩ u ⟨f,t,k,Ã,L⟩ u
 |yy {f t k L u id:_}:LS P ⟨f,t,dI id::k,Ã,L⟩ u ⟨f,t,k,Ã,L⟩ u
 |vk {f t k L u c:_}:LS P ⟨f,t,dJ c::k,Ã,L⟩ u ⟨f,t,k,Ã,L⟩ u
 |ru {f t k L u x y:_}:LS P ⟨f,t,Đ (.seq x y)::k,Ã,L⟩ u ⟨f,t,Đ x::Đ y::k,Ã,L⟩ u
 |tK {f t k L u c x y b:_} (h:å ⟨t,[]⟩ c=Ľ b):LS P ⟨f,t,Đ (bz c x y)::k,Ã,L⟩ u ⟨f,t,Đ (if b then x else y)::k,Ã,L⟩ u
 |rv {f t k L u id c:_}:LS P ⟨f,t,Đ (eb id c)::k,Ã,L⟩ u ⟨f,t,Đ c::dI id::k,Ã,L⟩ u
 |wL {f t k L u c:_}:LS P ⟨f,t,Đ (eR c)::k,Ã,L⟩ u ⟨f,t,Đ c::dr c::k,Ã,L⟩ u
 |wM {f t k L u c:_}:LS P ⟨f,t,dr c::k,Ã,L⟩ u ⟨f,t,Đ c::dr c::k,Ã,L⟩ u
 |wN {f t k L u c:_}:LS P ⟨f,t,Đ (ec c)::k,Ã,L⟩ u ⟨f,t,Đ c::dJ c::k,Ã,L⟩ u
 |wO {f t k L u id k':_} (h:cD id k=À k'):LS P ⟨f,t,Đ (eS id)::k,Ã,L⟩ u ⟨f,t,k',Ã,L⟩ u
 |wP {f t k L u l k':_} (h:cE l k=À k'):LS P ⟨f,t,Đ (eT l)::k,Ã,L⟩ u ⟨f,t,k',Ã,L⟩ u
 |tL {f t k L u id ops:_}:LS P ⟨f,t,Đ (bQ id ops Ã)::k,Ã,L⟩ u ⟨f,t,á ops (List.range ops.size)::k,Ã,L⟩ u
 |AA {f t k L u id ops:_}:LS P ⟨f,t,Đ (bQ id ops É)::k,Ã,L⟩ u ⟨f,t,á ops (bM (P.follows .mixedOrders) ops<|u.tape u.drawn<|.order f id)::k,Ã,L⟩ {u with drawn:=u.drawn+1}
 |FW {f t k L u ops:_}:LS P ⟨f,t,á ops []::k,Ã,L⟩ u ⟨f,t,k,Ã,L⟩ u
 |C5 {f t k L u ops i rest o:_} (ho:ops[i]?=À o) (hw:Ħ o (ł ops t)=Ã):LS P ⟨f,t,á ops (i::rest)::k,Ã,L⟩ u ⟨f,pg t o.dst ľ,á ops rest::k,Ã,L⟩ u
 |nT {f t k L u ops i rest o v u':_} (ho:ops[i]?=À o) (hw:Ħ o (ł ops t)=É) (hr:(ì (å ⟨t,[]⟩) o).run P u=ĥ (ï v) u'):LS P ⟨f,t,á ops (i::rest)::k,Ã,L⟩ u ⟨f,pg t o.dst v,á ops rest::k,Ã,L⟩ u'
 |AB {f t k L u ops i rest o u':_} (ho:ops[i]?=À o) (hw:Ħ o (ł ops t)=É) (hr:(ì (å ⟨t,[]⟩) o).run P u=ĥ aH u'):LS P ⟨f,t,á ops (i::rest)::k,Ã,L⟩ u ⟨f,pg t o.dst ľ,á ops rest::k,Ã,L⟩ u'
 |sF {f t k L u ops i rest o g args fn c u':_} (ho:ops[i]?=À o) (hw:Ħ o (ł ops t)=É) (hr:(ì (å ⟨t,[]⟩) o).run P u=ĥ (ũ g args) u') (hf:P.funcs[g]?=À fn) (hb:fn.body=À c):LS P ⟨f,t,á ops (i::rest)::k,Ã,L⟩ u ⟨g,args++ĺ (fn.ntmps-args.size) ľ,[Đ c],Ã,(f,t,á ops (i::rest)::k)::L⟩ u'
 |C6 {f t k L u ops i rest:_} (ho:(ops:Array av)[(i:Nat)]?=ë):LS P ⟨f,t,á ops (i::rest)::k,Ã,L⟩ u ⟨f,t,á ops rest::k,Ã,L⟩ u
 |wR {f t k L u g t' ops i rest k' v fn u':_} (hf:P.funcs[f]?=À fn) (hr:(Ī fn t).run P u=ĥ v u'):LS P ⟨f,t,k,É,(g,t',á ops (i::rest)::k')::L⟩ u ⟨g,pg t' ((ops[i]?).bind (·.dst)) v,á ops rest::k',Ã,L⟩ u'
inductive mD(GL:Nat->Prop):Ö->Prop
 |WC (t:Tmp):mD GL (.tmp t)
 |WE {v:Â} (h:jT v):mD GL (dY v)
 |WG {g:Nat} (h:GL g):mD GL (ey g)
 |WH (f:à):mD GL (aO f)
structure mO(P:Õ)(GL:Nat->Prop)(e7:à->Prop)(o:av):Prop where
 mP:∀{Y:fq} {Sh:Nat->Prop} {t t':Array Â} {u w:Æ},nS P->Y.C=P.globals.size->(∀g,GL g->Y g g)->fS Y t t'->jg Y Sh u w->(∀j,Sh j->j<w.heap.size)->∀{x:Ο} {u':Æ},(ì (å ⟨t,[]⟩) o).run P u=ĥ x u'->CY u u'->
  ∃(Y':fq) (x':Ο) (w':Æ) (WI:Array ý),Y.r Y'/\(∀i j,Y' i j->Y i j\/(u.heap.size<=i/\w.heap.size<=j))/\(ì (å ⟨t',[]⟩) o).runT P w #[]=(ĥ x' w',#[]++WI)/\pf Y' x x'/\jg Y' Sh u' w'/\nR Y Sh w w'/\(∀e∈WI,At Y' Sh e)/\u.heap.size<=u'.heap.size
 r:∀a:bF,fC P<|ì a.eval o
 I:∀(a:bF) (u:Æ) (n:Ο) (u':Æ),(ì a.eval o).run P u=ĥ n u'->(∃v,n=ï v)\/n=aH\/∃f c,n=ũ f c
 C:∀(a:bF) (u:Æ) (f:à) (c:Array Â) (u':Æ),(ì a.eval o).run P u=ĥ (ũ f c) u'->e7 f
inductive kN(P:Õ)(GL:Nat->Prop)(e7:à->Prop):ak->Prop
 |vj:kN P GL e7 .ret
 |sE:kN P GL e7 eP
 |wK (l:Nat):kN P GL e7 (ea l)
 |wO (id:Nat):kN P GL e7 (eS id)
 |wP (l:Nat):kN P GL e7 (eT l)
 |ru {x y:ak} (hx:kN P GL e7 x) (hy:kN P GL e7 y):kN P GL e7 (.seq x y)
 |tK {c:Ö} {x y:ak} (hc:mD GL c) (hx:kN P GL e7 x) (hy:kN P GL e7 y):kN P GL e7 (bz c x y)
 |rv (id:Nat) {c:ak} (h:kN P GL e7 c):kN P GL e7 (eb id c)
 |wL {c:ak} (h:kN P GL e7 c):kN P GL e7 (eR c)
 |wN {c:ak} (h:kN P GL e7 c):kN P GL e7 (ec c)
 |tL (id:Nat) {ops:Array av} (draw:Bool) (h:∀o∈ops,mO P GL e7 o):kN P GL e7 (bQ id ops draw)
 |nU (WJ:String):kN P GL e7 (du WJ)
inductive AF(P:Õ)(GL:Nat->Prop)(e7:à->Prop):ś->Prop
 |ry {c:ak} (h:kN P GL e7 c):AF P GL e7 (Đ c)
 |yy (id:Nat):AF P GL e7 (dI id)
 |vk {c:ak} (h:kN P GL e7 c):AF P GL e7 (dJ c)
 |wM {c:ak} (h:kN P GL e7 c):AF P GL e7 (dr c)
 |wS {ops:Array av} (is:List Nat) (h:∀o∈ops,mO P GL e7 o):AF P GL e7 (á ops is)
def sI(P:Õ)(a:Nat->Prop)(b:à->Prop)(k:List ś):Prop:=∀i∈k,AF P a b i
structure lE(P:Õ)(GL:Nat->Prop)(e7:à->Prop)(s:St):Prop where
 fZ:sI P GL e7 s.k
 fw:∀x∈s.L,sI P GL e7 x.2.2
def pj(P:Õ)(d:Nat->Prop)(a:à->Prop):Prop:=∀f,a f->∀b c,P.funcs[f]?=À b->b.body=À c->kN P d a c
section
variable{GL:Nat->Prop}{e7:à->Prop}
def afd{a:ak}(h:kN P GL e7 wX):bj wX i=À a->kN P GL e7 a:=by
 induction h generalizing a with
 |ru j b d f=>
  intro e;simp only[bj]at e;split at e
  .rename_i r g;cases e;exact .ru (d g) b
  .exact f e
 |wK k=>
  intro e;simp only[bj]at e;split at e<;>cases e;exact .sE
 |_=>intro e;simp only[bj]at e;cases e
def afe{id:Nat}:∀{k a:List ś},sI P GL e7 k->cD id k=À a->sI P GL e7 a:=by
 intro k
 induction k with
 |nil=>intro a _ e;simp[cD]at e
 |cons i k c=>
  intro a h e;have b:=λj d=>h j<|ò _ d;cases i with
  |inBlock f=>
   simp only[cD]at e;split at e
   .cases e;exact b
   .exact c b e
  |_=>simp only[cD]at e;exact c b e
def aff:∀{k c:List ś},sI P GL e7 k->cE i k=À c->sI P GL e7 c:=by
 intro k
 induction k with
 |nil=>intro c _ e;simp[cE]at e
 |cons a k f=>
  intro c h e;have d:=λj b=>h j<|ò _ b;cases a with
  |inScope m=>
   simp only[cE]at e;have g:kN P GL e7 m:=by cases h _ (î ..)with|vk h=>exact h
   split at e
   .rename_i r n;cases e;intro j b;rcases œ.1 b with rfl|b
    .exact .ry (afd g n)
    .rcases œ.1 b with rfl|b
     .exact .vk g
     .exact d j b
   .exact f d e
  |_=>simp only[cE]at e;exact f d e
def nV{i:ś}(h:sI P GL e7 (i::L)):sI P GL e7 L:=λj a=>h j<|ò _ a
def oM{i:ś}(b:AF P GL e7 i)(h:sI P GL e7 L):sI P GL e7 (i::L):=λj a=>by
 rcases œ.1 a with rfl|a
 .exact b
 .exact h j a
def yz{c:ak}{k:List ś}(h:sI P GL e7 (Đ c::k)):kN P GL e7 c:=by cases h _ (î ..)with|ry h=>exact h
def pn{ops:Array av}{k:List ś}(h:sI P GL e7 (á ops jJ::k)):∀o∈ops,mO P GL e7 o:=by cases h _ (î ..)with|wS _ h=>exact h
def LS.ok(i:pj P GL e7)(k:∀o a u f l w,mO P GL e7 o->(ì (å a) o).run P u=ĥ (ũ f l) w->e7 f){s g:St}(h:LS P s u g w)(ok:lE P GL e7 s):lE P GL e7 g:=by
 let⟨c,d⟩:=ok;cases h with
 |pe=>exact⟨c,d⟩
 |vj=>exact⟨c,d⟩
 |sE=>exact⟨nV c,d⟩
 |wK=>exact⟨nV c,d⟩
 |yy=>exact⟨nV c,d⟩
 |vk=>exact⟨nV c,d⟩
 |ru=>
  cases yz c with
  |ru e j=>exact⟨oM (.ry e)<|oM (.ry j)<|nV c,d⟩
 |@tK _ _ _ _ _ _ _ _ b _=>
  cases yz c with
  |tK _ e j=>exact⟨oM (.ry (by cases b<;>simp[e,j]))<|nV c,d⟩
 |rv=>
  cases yz c with
  |rv _ h=>exact⟨oM (.ry h)<|oM (.yy _)<|nV c,d⟩
 |wL=>
  cases yz c with
  |wL h=>exact⟨oM (.ry h)<|oM (.wM h)<|nV c,d⟩
 |wM=>
  cases c _ (î ..)with
  |wM h=>exact⟨oM (.ry h) c,d⟩
 |wN=>
  cases yz c with
  |wN h=>exact⟨oM (.ry h)<|oM (.vk h)<|nV c,d⟩
 |wO h=>exact⟨afe (nV c) h,d⟩
 |wP h=>exact⟨aff (nV c) h,d⟩
 |tL=>
  cases yz c with
  |tL _ _ h=>exact⟨oM (.wS _ h)<|nV c,d⟩
 |AA=>
  cases yz c with
  |tL _ _ h=>exact⟨oM (.wS _ h)<|nV c,d⟩
 |FW=>exact⟨nV c,d⟩
 |C5=>exact⟨oM (.wS _ (pn c))<|nV c,d⟩
 |nT=>exact⟨oM (.wS _ (pn c))<|nV c,d⟩
 |AB=>exact⟨oM (.wS _ (pn c))<|nV c,d⟩
 |sF m _ n p q=>
  refine⟨λj r=> ?_,λx e=> ?_⟩
  .have:=ū.1 r;rw[this];exact .ry (i _ (k _ _ _ _ _ _ (pn c _<|Û m) n) _ _ p q)
  .rcases œ.1 e with rfl|e
   .exact c
   .exact d x e
 |C6=>exact⟨oM (.wS _ (pn c))<|nV c,d⟩
 |wR=>
  have j:=d _<|î ..;exact⟨oM (.wS _ (pn j))<|nV j,λx e=>d x<|ò _ e⟩
end
structure Jq(Y:fq)(x y:FuncId×Array Value×List ś):Prop where
 f:x.1=y.1
 t:fS Y x.2.1 y.2.1
 k:x.2.2=y.2.2
inductive C7(Y:fq):List (FuncId×Array Value×List ś)->List (FuncId×Array Value×List ś)->Prop
 |pe:C7 Y [] []
 |wF {x y:FuncId×Array Value×List ś} {L L':List (FuncId×Array Value×List ś)} (h:Jq Y x y) (hs:C7 Y L L'):C7 Y (x::L) (y::L')
structure Jr(Y:fq)(s s':St):Prop where
 f:s.f=s'.f
 t:fS Y s.t s'.t
 k:s.k=s'.k
 vj:s.C=s'.C
 L:C7 Y s.L s'.L
def Jq.fO{Y a:fq}(h:Y.r a){x y:FuncId×Array Value×List ś}(r:Jq Y x y):Jq a x y:=⟨r.f,r.t.I h,r.k⟩
def Js{Y b:fq}(h:Y.r b){L c:List (FuncId×Array Value×List ś)}(r:C7 Y L c):C7 b L c:=by
 induction r with
 |pe=>exact .pe
 |wF a _ d=>exact .wF (a.fO h) d
section
variable{Y:fq}{j:Nat->Prop}{p:à->Prop}
def afg(a:∀g,X g->Y g g)(h:mD X qQ):VC Y qQ:=by
 cases h with
 |WC t=>trivial
 |WE h=>exact h.jD Y
 |WG h=>exact a _ h
 |WH f=>trivial
def wT(b:∀g,X g->Y g g)(h:fS Y d q)(c:mD X qQ):fi Y (å ⟨d,[]⟩ qQ) (å ⟨q,[]⟩ qQ):= ael (a:=⟨d,[]⟩) (a':=⟨q,[]⟩) h<|afg b c
def pg.r{b:Array Â}(h:fS Y q b)(d:Option Tmp)(c:fi Y v x):fS Y (pg q d v) (pg b d x):= aen (a:=⟨q,[]⟩) (a':=⟨b,[]⟩) h d c
def WK(n:Nat):fS Y (ĺ n ľ) (ĺ n ľ):=⟨U,λi a b=>by simp only[Array.getElem_replicate];exact FO Y⟩
def afh(B:km P xX o.op)(i:(ì xX o).run P u=ĥ (ũ F d) W):∃q l,o.op=Ω {callee:=cj<|aO F,args:=q,argTypes:=l}:=by
 have n:∀{m:ē Â} {x:Ο} {k p:Æ},(m>>=λv=>pure (ï v):ē Ο).run P k=ĥ x p->∃v,x=ï v:=by
  intro m x k p e;rw[Ä]at e;cases j:m.run P k with
  |ok a w=>rw[j]at e;cases e;exact⟨a,U⟩
  |halt z w=>rw[j]at e;cases e
 have C:∀{m:ē Unit} {x:Ο} {k p:Æ},(m>>=λ_=>pure aH:ē Ο).run P k=ĥ x p->x=aH:=by
  intro m x k p e;rw[Ä]at e;cases j:m.run P k with
  |ok a w=>rw[j]at e;cases e;rfl
  |halt z w=>rw[j]at e;cases e
 let⟨E,s,G,H,I,guard⟩:=o;simp only at B|-;unfold ì at i;simp only[]at i;cases B with
 |Ax x=>cases i
 |FJ x=>cases i
 |wG c a b=>
  rw[Ä]at i;cases j:(bW<|xX c).run P u with
  |ok a w=>rw[j]at i;cases i
  |halt z w=>rw[j]at i;cases i
 |jc t a x=>exact absurd (C i) fj
 |FK x=>
  simp only[]at i;split at i;all_goals first
   |(cases i;done)
   |exact absurd i<|rm _ _ _ _
   |(
    split at i;all_goals first
     |(cases i;done)
     |exact absurd i<|rm _ _ _ _
     |(
      rw[Ä,ă]at i;simp only[È]at i;rw[Ä]at i;revert i;generalize ã P (aR _ _ _ _) u=z;intro i;cases z with
      |halt z w=>cases i
      |ok a w=>
       simp only[È]at i;split at i
       .rw[Ä]at i;cases i
       .cases i))
 |FL x l=>simp only[ù,č,Ē,pure_bind,Ø,â,ä]at i;let⟨v,e⟩:=n i;cases e
 |FM x l=>simp only[ù,č,Ē,pure_bind,Ø,â,ä]at i;let⟨v,e⟩:=n i;cases e
 |FN x y l=>simp only[ù,č,Ē,pure_bind,Ø,â,ä]at i;let⟨v,e⟩:=n i;cases e
 |tD x y b c h=>simp only[ù,č,Ē,pure_bind,Ø,â,ä]at i;let⟨v,e⟩:=n i;cases e
 |jK g q l b h=>
  let⟨J,c,r,D⟩:=h;simp only[ù,b,İ,č,pure_bind,Ď,ď,ĵ]at i;rw[Ä,ă]at i;simp only[È,c,r,D,Å,if_false]at i;cases i;exact⟨q,l,U⟩
 |C0 s t x y r h=>
  rw[Ä]at i;cases j:ã P (ŷ s t x y (xX x) (xX y)>>=λ_=>Ũ s t (xX x)<|xX y) u with
  |ok a w=>rw[j]at i;cases i
  |halt z w=>rw[j]at i;cases i
 |_=>let⟨v,e⟩:=n i;cases e
theorem WL(j:Func)(h:fS Y d q):fF P fi Y (Ī j d) (Ī j q):=by
 have k:∀(f:fq),Y.r f->∀n,fi f (d.getD n ľ) (q.getD n ľ):=by intro f a n;simp only[ĩ];rcases(h.I a).S n with⟨b,e⟩|⟨v,u,b,e,m⟩;all_goals grind [FO]
 unfold Ī;refine fD (V:=fS) ?_ ?_
 .rw[Ĕ,Ĕ];have w:∀(l:List ResultVar) (c:fq),Y.r c->fF P (λf (a o:List Â)=>fS f a.toArray o.toArray) c (l.mapM fun|ResultVar.tmp n=>pure (d.getD n ľ)|ResultVar.cell a e=>do ae e (<-bX (d.getD a ľ))) (l.mapM fun|ResultVar.tmp n=>pure (q.getD n ľ)|ResultVar.cell a e=>do ae e (<-bX (q.getD a ľ))):=by
   intro l
   induction l with
   |nil=>intro c _;simp only[cS];exact .fB (fS.N _)
   |cons r l x=>
    intro c g;simp only[ν];refine fD (V:=fi) ?_ ?_
    .cases r with
     |tmp n=>exact .fB (k c g n)
     |cell a e=>
      apply fD (Vm<|k c g a);exact λp b s _ i=>Vi i e
    .intro p v u e m;apply fD (x p<|fq.I g e);intro z s i y b;refine .fB ?_;have:=(fS.M<|m.fO y).tD b;simpa using this
  exact fF.lD (w _ Y<|fq.M _) λf a o _ e=> .fB e
 .intro c s i _ b;refine .fB ?_;by_cases e:s.size=1
  .have a:i.size=1:=by rwa[<-b.r]
   rw[dif_pos e,dif_pos a];exact b.C 0 _ _
  .have a:¬i.size=1:=by rwa[<-b.r]
   rw[dif_neg e,dif_neg a];exact .nQ b.r b.C
end
section
variable{Y:fq}{d:Nat->Prop}{l:à->Prop}
def iX(P:Õ)(Y:fq)(d:Nat->Prop)(main:Bool)(cs:List Ę)(h:St)(u w:Æ)(k:St)(c:Æ):Prop:=
 ∃(a:fq) (f:St) (b:Æ) (g:Array ý),Ù P main (h.r cs) w=aS (f.r cs) b g/\Jr a k f/\Y.r a/\(∀i j,a i j->Y i j\/(u.heap.size<=i/\w.heap.size<=j))/\jg a d c b/\nR Y d w b/\(∀e∈g,At a d e)/\u.heap.size<=c.heap.size
def iX.r{main:Bool}{cs:List Ę}{a b s1':St}(c:jg Y d u w)(h:Ù P main (a.r cs) w=aS (s1'.r cs) w #[])(f:Jr Y b s1'):iX P Y d main cs a u w b u:= ⟨Y,s1',w,#[],h,f,fq.M _,λ_ _ h=>Ç h,c,nR.fV _ _ w,λe g=>absurd g fj,ß _⟩
def Jt{α:Type}{m:ē α}{x:α}(h:m.runT P w #[]=(ĥ x u,#[]++V)):m.run P w=ĥ x u/\m.events P w #[]=V:=by simp_all
def FX{main:Bool}{k:List ś}{c:Ę}{cs:List Ę}{es:Array ý}(a:P.funcs[F]?=À s)(b:(Ī s q).runT P w #[]=(ĥ v u,es)): Ù P main (G {fm F q k with mode:=.returning}<|c::cs) w=aS (G (c.finish v) cs) u (seen P F es):=by simp[G,Ù,dw,doReturn,fm,Frame.at,base,a,b,Ź,-ź]
def LS.mP(hz:nS P)(hb:Y.C=P.globals.size)(hG:∀g,X g->Y g g){s s1 s':St}(h:LS P s u s1 W)(hs:Jr Y s s')(ok:lE P X l s)(n:jg Y d u w)(hl:∀j,d j->j<w.heap.size)(Q:CY u W)(main:Bool)(cs:List Ę): iX P Y d main cs s' u w s1 W:=by
 let⟨f',r,k',ret',p⟩:=s';let⟨S,m,T,e3,q⟩:=hs;simp only at S T e3 m q;subst S T e3;cases h with
 |pe=>exact .r (s1':=⟨_,r,_,É,p⟩) n (by simp[St.r,fm,base,G,Ù,Ì,Frame.at]) ⟨U,m,U,U,q⟩
 |vj=>exact .r (s1':=⟨_,r,_,É,p⟩) n (by simp[St.r,fm,base,G,Ù,Ì,Frame.at]) ⟨U,m,U,U,q⟩
 |sE=>exact .r (s1':=⟨_,r,_,Ã,p⟩) n (by simp[St.r,fm,base,G,Ù,Ì,Frame.at]) ⟨U,m,U,U,q⟩
 |wK=>exact .r (s1':=⟨_,r,_,Ã,p⟩) n (by simp[St.r,fm,base,G,Ù,Ì,Frame.at]) ⟨U,m,U,U,q⟩
 |yy=>exact .r (s1':=⟨_,r,_,Ã,p⟩) n (by simp[St.r,fm,base,G,Ù,Ì,Frame.at]) ⟨U,m,U,U,q⟩
 |vk=>exact .r (s1':=⟨_,r,_,Ã,p⟩) n (by simp[St.r,fm,base,G,Ù,Ì,Frame.at]) ⟨U,m,U,U,q⟩
 |ru=>exact .r (s1':=⟨_,r,_,Ã,p⟩) n (by simp[St.r,fm,base,G,Ù,Ì,Frame.at]) ⟨U,m,U,U,q⟩
 |@tK _ _ _ _ _ c _ _ b hc'=>
  have V:=wT hG m (by cases yz ok.fZ with|tK Q _ _=>exact Q);rw[hc']at V;have e:å ⟨r,[]⟩ c=Ľ b:=by generalize å ⟨r,[]⟩ c=v' at V;cases V;rfl
  exact .r (s1':=⟨_,r,_,Ã,p⟩) n (cF e) ⟨U,m,U,U,q⟩
 |rv=>exact .r (s1':=⟨_,r,_,Ã,p⟩) n (by simp[St.r,fm,base,G,Ù,Ì,Frame.at]) ⟨U,m,U,U,q⟩
 |wL=>exact .r (s1':=⟨_,r,_,Ã,p⟩) n (by simp[St.r,fm,base,G,Ù,Ì,Frame.at]) ⟨U,m,U,U,q⟩
 |wM=>exact .r (s1':=⟨_,r,_,Ã,p⟩) n (by simp[St.r,fm,base,G,Ù,Ì,Frame.at]) ⟨U,m,U,U,q⟩
 |wN=>exact .r (s1':=⟨_,r,_,Ã,p⟩) n (by simp[St.r,fm,base,G,Ù,Ì,Frame.at]) ⟨U,m,U,U,q⟩
 |wO B=>exact .r (s1':=⟨_,r,_,Ã,p⟩) n (by simp[St.r,fm,base,G,Ù,Ì,Frame.at,B]) ⟨U,m,U,U,q⟩
 |wP B=>exact .r (s1':=⟨_,r,_,Ã,p⟩) n (by simp[St.r,fm,base,G,Ù,Ì,Frame.at,B]) ⟨U,m,U,U,q⟩
 |tL=>exact .r (s1':=⟨_,r,_,Ã,p⟩) n (by simp[St.r,fm,base,G,Ù,Ì,Frame.at]) ⟨U,m,U,U,q⟩
 |@AA f t k L _ id ops=>
  refine⟨Y,⟨f,r,á ops (bM (P.follows .mixedOrders) ops<|w.tape w.drawn<|.order f id)::k,Ã,p⟩,{w with drawn:=w.drawn+1},#[],Ż,⟨U,m,?_,U,q⟩,fq.M _,λ_ _ h=>Ç h,⟨n.S,by simp[n.N],n.C,n.I,n.M,n.r⟩,⟨ß _,U,U,U,λ_ _ _=>rfl,λ_ _ _=>rfl⟩,λe B=>absurd B fj,ß _⟩;simp only[n.S,n.N]
 |FW=>exact .r (s1':=⟨_,r,_,Ã,p⟩) n (by simp[St.r,fm,base,G,Ù,Ì,Frame.at]) ⟨U,m,U,U,q⟩
 |@C5 f t k L _ ops i rest o ho hw=>
  rw[Jg _ _ m]at hw;have:=υ (P:=P) (main:=main) (b:=base f) (a:=⟨r,[]⟩) (k:=k) (cs:=p.map (λx=>fm x.1 x.2.1 x.2.2)++cs) (w:=w) (rest:=rest) ho hw;rw[sH]at this;exact .r (s1':=⟨f,pg r o.dst ľ,á ops rest::k,Ã,p⟩) n this ⟨U,pg.r m _<|FO Y,U,U,q⟩
 |@nT f t k L _ ops i rest o v _ ho hw hr=>
  rw[Jg _ _ m]at hw;let⟨C,x',E,es,z,F,D,H,I,J,K,M⟩:=(pn ok.fZ _<|Û ho).mP hz hb hG m n hl hr Q;let⟨N,O⟩:=Jt D;cases H with
  |nT V=>
   have:=bA (main:=main) (b:=base f) (k:=k) (cs:=p.map (λx=>fm x.1 x.2.1 x.2.2)++cs) (rest:=rest) ho hw (by simp[base]) N;rw[sH]at this;rename_i v';exact⟨C,⟨f,pg r o.dst v',á ops rest::k,Ã,p⟩,E,_,this,⟨U,pg.r (m.I z) _ V,U,U,Js z q⟩,z,F,I,J,λe B=>K e (by have:=cG B;rwa[O]at this),M⟩
 |@AB f t k L _ ops i rest o _ ho hw hr=>
  rw[Jg _ _ m]at hw;let⟨C,x',E,es,z,F,D,H,I,J,K,M⟩:=(pn ok.fZ _<|Û ho).mP hz hb hG m n hl hr Q;let⟨N,O⟩:=Jt D;cases H with
  |sE=>
   have:=cH (main:=main) (b:=base f) (k:=k) (cs:=p.map (λx=>fm x.1 x.2.1 x.2.2)++cs) (rest:=rest) ho hw (by simp[base]) N;rw[sH]at this;exact⟨C,⟨f,pg r o.dst ľ,á ops rest::k,Ã,p⟩,E,_,this,⟨U,pg.r (m.I z) _<|FO C,U,U,Js z q⟩,z,F,I,J,λe B=>K e (by have:=cG B;rwa[O]at this),M⟩
 |@sF f t k L _ ops i rest o g args fn c _ ho hw hr hf Ju=>
  rw[Jg _ _ m]at hw;let⟨C,x',E,es,z,F,D,H,I,J,K,M⟩:=(pn ok.fZ _<|Û ho).mP hz hb hG m n hl hr Q;let⟨N,O⟩:=Jt D;cases H with
  |sF _ sJ=>
   have:=bB (main:=main) (b:=base f) (k:=k) (cs:=p.map (λx=>fm x.1 x.2.1 x.2.2)++cs) (rest:=rest) ho hw (by simp[base]) N;rw[cI _ hf Ju]at this;rename_i WM;refine⟨C,⟨g,WM++ĺ (fn.ntmps-WM.size) ľ,[Đ c],Ã,(f,r,á ops (i::rest)::k)::p⟩,E,_,this,⟨U,?_,U,U,.wF ⟨U,m.I z,U⟩ (Js z q)⟩,z,F,I,J,λe B=>K e (by have:=cG B;rwa[O]at this),M⟩;rw[sJ.r];exact sJ.tD<|WK _
 |@C6 f t k L _ ops i rest ho=>exact .r (s1':=⟨f,r,á ops rest::k,Ã,p⟩) n (by simp[St.r,fm,base,G,Ù,Ì,Frame.at,ho,aT]) ⟨U,m,U,U,q⟩
 |@wR f t k L _ g t2' ops i rest k3 v fn _ hf hr=>
  cases q with
  |wF hx q=>
   rename_i y WN;let⟨g',t2,k2⟩:=y;let⟨S,Jv,T⟩:=hx;simp only at S T Jv;subst S T;let⟨C,v',E,es,z,F,D,H,I,J,K,M⟩:=(WL fn m).gk n hl hr #[];let⟨N,O⟩:=Jt D;refine⟨C,⟨g,pg t2 ((ops[i]?).bind (·.dst)) v',á ops rest::k3,Ã,WN⟩,E,seen P f es,?_,⟨U,pg.r (Jv.I z) _ H,U,U,Js z q⟩,z,F,I,J,λe B=>K e<|mem_seen B,M⟩;have AG:=ε (base g) ⟨t2,[]⟩ ops i rest k3 v';rw[sH]at AG;have np:=FX (main:=main) (k:=k) (c:=fm g t2<|á ops (i::rest)::k3) (cs:=WN.map (λx=>fm x.1 x.2.1 x.2.2)++cs) hf D;unfold fm at np;rwa[AG,Ď]at np
end
inductive pU(P:Õ)(kn:Â->Æ->Prop):St->Æ->Prop
 |jL {f:à} {t:Array Â} {k:List ś} {u:Æ} {fn:Func} {v:Â} (hf:P.funcs[f]?=À fn) (hr:∀tp d,(Ī fn t).run P {u with tape:=tp,drawn:=d}=ĥ v {u with tape:=tp,drawn:=d}) (hp:kn v u):pU P kn ⟨f,t,k,É,[]⟩ u
 |jM {s:St} {u:Æ} (S:ψ->Nat->St) (U:ψ->Nat->Æ) (h:∀tp d,LS P s {u with tape:=tp,drawn:=d} (S tp d)<|U tp d) (hc:∀tp d,CY u<|U tp d) (ih:∀tp d,pU P kn (S tp d)<|U tp d):pU P kn s u
structure yA(M:Nat->Prop)(w w₁:Æ):Prop where
 r:w.heap.size<=w₁.heap.size
 C:∀j,M j->w₁.heap[j]?=w.heap[j]?
def Jw(O b:Nat->Prop)(e:ý):Prop:=
 (∃a:Ú,e.loc=û a/\e.sync=Ã/\(O a.block\/(b a.block/\e.write=Ã)))\/e.loc=ů de\/∃f,e.loc=ů (.extern f)
structure Jx(Rd O O':Nat->Prop)(w w':Æ)(es:Array ý):Prop where
 r:w.heap.size<=w'.heap.size
 M:∀j,O j->O' j
 I:∀j,O' j->O j\/w.heap.size<=j
 fw:∀j,O' j->j<w'.heap.size
 jU:∀j,j<w.heap.size->¬O j->w'.heap[j]?=w.heap[j]?
 N:w'.os=w.os
 S:w'.output=w.output
 Y:w'.tape=w.tape
 C:∀e∈es,Jw O' Rd e
inductive vl(P:Õ)(main:Bool)(Rd:Nat->Prop)(Stop:(Nat->Prop)->Ó->Æ->Prop):(Nat->Prop)->Ó->Æ->Prop
 |fA {O:Nat->Prop} {g:Ó} {w:Æ} (h:∀w₁,yA (λj=>O j\/Rd j) w w₁->Stop O g w₁):vl P main Rd Stop O g w
 |jM {O:Nat->Prop} {g:Ó} {w:Æ} (G':Æ->Ó) (W':Æ->Æ) (E':Æ->Array ý) (O':Æ->Nat->Prop) (iI:g.status=Ð)
  (h:∀w₁,yA (λj=>O j\/Rd j) w w₁->Ù P main g w₁=aS (G' w₁) (W' w₁) (E' w₁))
  (hd:∀w₁,yA (λj=>O j\/Rd j) w w₁->Jx Rd O (O' w₁) w₁ (W' w₁) (E' w₁))
  (ih:∀w₁,yA (λj=>O j\/Rd j) w w₁->vl P main Rd Stop (O' w₁) (G' w₁) (W' w₁)):vl P main Rd Stop O g w
instance:Nonempty fq:=⟨⟨λ_ _=>False,0⟩⟩
instance:Nonempty St:=⟨⟨0,#[],[],Ã,[]⟩⟩
instance:Nonempty (Goroutine×World×Array Event×(Nat->Prop)):=⟨(default,default,#[],λ_=>False)⟩
section
variable{Y:fq}{b Rd:Nat->Prop}{l:à->Prop}{main:Bool}{Stop:(Nat->Prop)->Ó->Æ->Prop}
def vl.mk(i:g.status=Ð) (h:∀a,yA (λj=>X j\/Rd j) w a->∃c b d e,Ù P main g a=aS c b d/\Jx Rd X e a b d/\vl P main Rd Stop e c b):vl P main Rd Stop X g w:=by
 let p:=λ(a:Æ) (x:Goroutine×World×Array Event×(Nat->Prop))=>Ù P main g a=aS x.1 x.2.1 x.2.2.1/\Jx Rd X x.2.2.2 a x.2.1 x.2.2.1/\vl P main Rd Stop x.2.2.2 x.1 x.2.1
 have f:∀a,yA (λj=>X j\/Rd j) w a->p a (Classical.epsilon<|p a):=λa r=>Classical.epsilon_spec (let⟨c,b,d,e,h⟩:=h a r;⟨(c,b,d,e),h⟩);exact .jM (λa=>(Classical.epsilon<|p a).1) (λa=>(Classical.epsilon<|p a).2.1) (λa=>(Classical.epsilon<|p a).2.2.1) (λa=>(Classical.epsilon<|p a).2.2.2) i (λa r=>(f a r).1) (λa r=>(f a r).2.1) λa r=>(f a r).2.2
def rz(Y:fq)(b:Nat->Prop)(u w:Æ):Prop:=jg Y b {u with tape:=w.tape,drawn:=w.drawn} w
def fl(Y:fq)(b:Nat->Prop)(j:Nat):Prop:=(∃i,Y i j)/\¬b j
theorem rz.j5{w₁:Æ}(h:rz Y b u w)(p:∀i j,Y i j->b j->Rd j)(r:yA (λj=>fl Y b j\/Rd j) w w₁):rz Y b u w₁:=by
 refine⟨U,U,h.C,h.I,õ h.M r.r,λi j a=> ?_⟩;let⟨c,d,e,f,g,k,l,m,n,o⟩:=h.r i j a;refine⟨c,d,e,f,g,k,?_,m,n,o⟩;rw[r.C j ?_]
 .exact l
 .by_cases s:b j
  .grind
  .exact Ç ⟨⟨i,a⟩,s⟩
def jg.to0(h:jg Y b u w):rz Y b u w:=⟨U,U,h.C,h.I,h.M,h.r⟩
def jg.vm(h:jg Y b u w)(tp:ψ)(d:Nat):rz Y b {u with tape:=tp,drawn:=d} w:=⟨U,U,h.C,h.I,h.M,h.r⟩
theorem afi{c:fq}(k:∀i j,c i j->b j->Rd j){e:ý}(h:At c b e):Jw (fl c b) Rd e:=by
 rcases h with⟨a,i,d,f,g,l⟩|h|h
 .by_cases s:b a.block
  .refine Ç ⟨a,d,g,Î ⟨k _ _ f s,?_⟩⟩;grind
  .exact Ç ⟨a,d,g,Ç ⟨⟨i,f⟩,s⟩⟩
 .exact Î<|Ç h
 .exact Î<|Î h
def WO{c:fq}(f:Y.r c)(g:∀i j,c i j->Y i j\/(u.heap.size<=i/\w.heap.size<=j))(k:jg c b W jX)(d:nR Y b w jX)(l:∀e∈V,At c b e)(m:∀i j,c i j->b j->Rd j): Jx Rd (fl Y b) (fl c b) w jX V where
 r:=d.r;M j h:=⟨let⟨i,a⟩:=h.1;⟨i,f.1 _ _ a⟩,h.2⟩;I j h:=by
  let⟨⟨i,a⟩,s⟩:=h;rcases g i j a with x|x
  .exact Ç ⟨⟨i,x⟩,s⟩
  .exact Î x.2
 fw j h:=by let⟨⟨i,a⟩,_⟩:=h;let⟨_,_,_,_,_,_,x,_⟩:=k.r i j a;exact(Ë.1 x).1
 jU j hj hn:=by
  by_cases x:∃i,Y i j
  .by_cases s:b j
   .exact d.N j s hj
   .exact absurd ⟨x,s⟩ hn
  .exact d.C j hj λi a=>x ⟨i,a⟩
 N:=d.I;S:=d.M;Y:=d.S;C e he:=afi m<|l e he
def FY(Y:fq)(b:Nat->Prop)(f:Â->Æ->Prop)(c:Ę)(h:List Ę)(O:Nat->Prop)(g:Ó)(w:Æ):Prop:=
 ∃(a:fq) (d:Æ) (v e:Â),Y.r a/\O=fl a b/\rz a b d w/\fi a v e/\f v d/\g=G (c.finish e) h
def pU.N8(hz:nS P)(hP:pj P X l){s:St}(h:pU P vQ s u):∀{Y FZ:fq} {s':St} {w:Æ},FZ.r Y->Y.C=P.globals.size->(∀g,X g->Y g g)->Jr Y s s'->lE P X l s->rz Y b u w->(∀j,b j->j<w.heap.size)->(∀i j,Y i j->b j->Rd j)->∀(c:Ę) (cs:List Ę),vl P main Rd (FY FZ b vQ c cs) (fl Y b) (s'.r<|c::cs) w:=by
 have hE:∀o a u f F G,mO P X l o->(ì (å a) o).run P u=ĥ (ũ f F) G->l f:=by exact λo a u f F G d H=>d.C a u f F G H
 induction h with
 |@jL f t k u fn v hf H hp=>
  intro Y FZ s' w I J K L M N O n c cs;let⟨f',t',k',ret',L'⟩:=s';let⟨V,W,e2,e3,hL⟩:=L;simp only at V e2 e3 W hL;subst V e2 e3;cases hL;refine .mk rfl λp r=> ?_;have d:=λj s=>Ô (O j s) r.r;let⟨z,v',w',es,B,C,m,D,q,E,Q,h8⟩:=(WL fn W).gk (N.j5 n r) d (H _ _) #[];have y:=λi j T s=>(C i j T).elim (λx=>n i j x s) λx=>absurd (d j s) Z;refine⟨_,w',_,fl z b,FX hf m,WO B C q E (λe he=>Q e (by have:=mem_seen he;simpa using this)) y,.fA λwU e=>⟨z,u,v,v',fq.I I B,rfl,rz.j5 (q.vm _ _) y e,D,hp,rfl⟩⟩
 |@jM s u S U h hc _ ih=>
  intro Y FZ s' w I J K L M N O n c cs;refine .mk rfl λp r=> ?_;have d:=λj s=>Ô (O j s) r.r;let⟨z,H,e,es,B,C,m,D,q,E,Q,h8⟩:=(h p.tape p.drawn).mP hz J K L M (N.j5 n r) d (hc p.tape p.drawn) main<|c::cs;have y:=λi j T s=>(D i j T).elim (λx=>n i j x s) λx=>absurd (d j s) Z;refine⟨_,e,es,fl z b,B,WO m D q E Q y,ih _ _ (fq.I I m) (m.2.2.trans J) (λg x=>m.1 _ _<|K g x) C ((h _ _).ok hP hE M) q.to0 (λj s=>Ô (d j s) E.r) y c cs⟩
end
def pV:Ę:={(default:Ę)with fn:=0,todo:=[Đ<|du ""],defers:=[{target:=.nil,args:=#[]}],mode:=.run,kind:=.normal}
def St.I(s:St):Ę:=if s.C then{fm s.f s.t s.k with mode:=.returning}else fm s.f s.t s.k
def fw(L:List (FuncId×Array Value×List ś)):List Ę:=L.map (λx=>fm x.1 x.2.1 x.2.2)++[pV]
def LM(s:St)(u:Æ):bR:=aU s.I (fw s.L) u
section
variable{GL:Nat->Prop}{e7:à->Prop}{Q:Â->Æ->Prop}
def C8{cs:List Ę}{a:Ę}{es:Array ý}(h:Ù P É (G f cs) w=aS (G a qX) u es):dR P (aU f cs w)=ň (aU a qX u):= step_lone_go<|by show(Ù P É (G f cs) w).bare=_;rw[h];rfl
def Jy{fr:Ę}{cs:List Ę}{o:Outcome}{es:Array ý}(h:Ù P É (G fr cs) w=eU o u es):dR P (aU fr cs w)=.ended o u:= step_lone_ended<|by show(Ù P É (G fr cs) w).bare=_;rw[h];rfl
def mQ(P:Õ)(Q:Â->Æ->Prop)(n:Nat)(m:bR):Prop:=∃b v a,dx P n m=ň (aU b [pV] a)/\b.leaving P a (.returned v)/\Q v a
def mQ.r{m a:bR}(h:mQ P Q (n+1) m)(b:dR P m=ň a):mQ P Q n a:=by let⟨c,v,d,e,f⟩:=h;exact⟨c,v,d,by simpa only[dx,b]using e,f⟩
def mQ.M{m:bR}{o:Outcome}(h:mQ P Q (n+1) m)(b:dR P m=.ended o w):False:=by let⟨c,v,d,a,e⟩:=h;simp only[dx,b]at a;cases a
theorem WQ{fr:Ę}{cs:List Ę}(h:aU fr cs w=aU f qX u):fr=f/\cs=qX/\w=u:=by simp only[aU,Machine.mk.injEq,Array.mk.injEq,List.cons.injEq,Goroutine.mk.injEq]at h;grind
theorem mQ.C{cs:List Ę}(h:mQ P Q 0 (aU f cs w)):cs=[pV]/\∃v,f.leaving P w (.returned v)/\Q v w:=by let⟨b,v,c,a,d,e⟩:=h;simp only[dx,Stepped.next.injEq]at a;grind [WQ]
def afj(h:mQ P Q n (aU pV [] u)):False:=by
 cases n with
 |zero=>let⟨a,_⟩:=h.C;cases a
 |succ n=>exact h.M<|Jy (es:=#[])<|by simp[G,Ù,Ì,pV];exact⟨U,U⟩
def afk{a:List eg}(h:mQ P Q n (aU (pV.raise a) [] u)):False:=by
 cases n with
 |zero=>let⟨b,_⟩:=h.C;cases b
 |succ n=>exact h.M<|Jy (es:=#[])<|by simp[G,Ù,pV,Ŗ,dw,callDeferred];exact⟨U,U⟩
def afl(b:List eg):∀(L:List (FuncId×Array Value×List ś)) (f:à) (t:Array Â) (k:List ś) (u:Æ) (n:Nat),(∃a,P.funcs[f]?=À a)->(∀x∈L,∃a,P.funcs[x.1]?=À a)->¬mQ P Q n (aU ((fm f t k).raise b) (fw L) u):=by
 intro L
 induction L with
 |nil=>
  intro f t k u n ⟨a,c⟩ _ h;cases n with
  |zero=>let⟨_,v,y,_⟩:=h.C;exact absurd y.1<|by simp[Ŗ,fm,Frame.at]
  |succ n=>
   have d:dR P (aU ((fm f t k).raise b) (fw []) u)=ň (aU (pV.raise b) [] u):=C8 (es:=#[]) (by simp[G,Ù,fm,base,Frame.at,Ŗ,dw,cW,c,fw]);exact afk<|h.r d
 |cons x L e=>
  intro f t k u n ⟨a,c⟩ d h;cases n with
  |zero=>let⟨_,v,y,_⟩:=h.C;exact absurd y.1<|by simp[Ŗ,fm,Frame.at]
  |succ n=>
   exact e x.1 x.2.1 x.2.2 u n (d x<|î ..) (λy v=>d y<|ò _ v)<|h.r<|C8 (es:=#[])<|by simp[G,Ù,fm,base,Frame.at,Ŗ,dw,cW,c,fw]
structure Ok(P:Õ)(GL:Nat->Prop)(e7:à->Prop)(s:St):Prop where
 r:lE P GL e7 s
 I:e7 s.f
 C:∀x∈s.L,e7 x.1/\∃ops i rest k,x.2.2=á ops (i::rest)::k
def tM(P:Õ)(e7:à->Prop):Prop:=∀f,e7 f->∃a c,P.funcs[f]?=À a/\a.body=À c
theorem N9{t:Array Â}:fC P (Ī s t):=by unfold Ī;grind [gl,V3,gE,VT,VP]
def afm(k:km P xX o.op){n:Ο}(d:(ì xX o).run P u=ĥ n W):(∃v,n=ï v)\/n=aH\/∃f c,n=ũ f c:=by
 have i:∀{m:ē Â} {x:Ο} {j l:Æ},(m>>=λv=>pure (ï v):ē Ο).run P j=ĥ x l->∃v,x=ï v:=by
  intro m x j l e;rw[Ä]at e;cases g:m.run P j with
  |ok a w=>rw[g]at e;cases e;exact⟨a,U⟩
  |halt z w=>rw[g]at e;cases e
 let⟨p,e,q,s,B,guard⟩:=o;simp only at k;unfold ì at d;simp only[]at d;cases k with
 |Ax x=>cases d;exact Ç ⟨_,U⟩
 |FJ x=>cases d;exact Ç ⟨_,U⟩
 |wG c a b=>
  rw[Ä]at d;cases g:(bW<|xX c).run P u with
  |ok a w=>rw[g]at d;cases d;exact Ç ⟨_,U⟩
  |halt z w=>rw[g]at d;cases d
 |jc t a x=>
  rw[Ä]at d;cases g:(ĳ t (xX a)<|xX x).run P u with
  |ok a w=>rw[g]at d;cases d;exact Î<|Ç U
  |halt z w=>rw[g]at d;cases d
 |FK x=>
  simp only[]at d;split at d;all_goals first
   |(cases d;exact Ç ⟨_,U⟩)
   |exact absurd d<|rm _ _ _ _
   |(
    split at d;all_goals first
     |(cases d;exact Ç ⟨_,U⟩)
     |exact absurd d<|rm _ _ _ _
     |(
      rw[Ä,ă]at d;simp only[È]at d;rw[Ä]at d;revert d;generalize ã P (aR _ _ _ _) u=z;intro d;cases z with
      |halt z w=>cases d
      |ok a w=>
       simp only[È]at d;split at d
       .rw[Ä]at d;cases d
       .cases d;exact Ç ⟨_,U⟩))
 |FL x a=>simp only[ù,č,Ē,pure_bind,Ø,â,ä]at d;exact Ç<|i d
 |FM x a=>simp only[ù,č,Ē,pure_bind,Ø,â,ä]at d;exact Ç<|i d
 |FN x y a=>simp only[ù,č,Ē,pure_bind,Ø,â,ä]at d;exact Ç<|i d
 |tD x y b g h=>simp only[ù,č,Ē,pure_bind,Ø,â,ä]at d;exact Ç<|i d
 |jK g C a b h=>
  let⟨D,r,w,z⟩:=h;simp only[ù,b,İ,č,pure_bind,Ď,ď,ĵ]at d;rw[Ä,ă]at d;simp only[È,r,w,z,Å,if_false]at d;cases d;exact Î<|Î ⟨_,_,U⟩
 |C0 e t x y r h=>exact Ç<|i d
 |_=>exact Ç<|i d
def mQ.I(_hP:pj P GL e7)(hF:tM P e7){n:Nat}{s:St}{u:Æ}(ok:Ok P GL e7 s)(hu:qA u)(h:mQ P Q n (LM s u)): (n=0/\s.C=É/\s.L=[]/\∃fn v,P.funcs[s.f]?=À fn/\(Ī fn s.t).run P u=ĥ v u/\Q v u)\/∃m s' u',n=m+1/\LS P s u s' u'/\mQ P Q m (LM s' u'):=by
 let⟨f,t,k,ret,L⟩:=s;let⟨⟨top,lw⟩,fs,ls⟩:=ok;simp only at top lw fs ls;let⟨fn,c,hfn,hbody⟩:=hF f fs;cases n with
 |zero=>
  let⟨h1,v,h2,h3⟩:=h.C;have hL:L=[]:=by simp only[fw]at h1;simp_all
  subst hL;let⟨m1,_,_,fn',m4,m5⟩:=h2;have afn:ret=É:=by
   cases ret with
   |true=>rfl
   |false=>simp[St.I,fm,Frame.at]at m1
  subst afn;exact Ç ⟨U,U,U,fn',v,m4,m5,h3⟩
 |succ n=>
  have go:∀{s':St} {u':Æ},LS P ⟨f,t,k,ret,L⟩ u s' u'->(∃es,Ù P É ((⟨f,t,k,ret,L⟩:St).r [pV]) u=aS (s'.r [pV]) u' es)->(n+1=0/\ret=É/\L=[]/\∃fn v,P.funcs[f]?=À fn/\(Ī fn t).run P u=ĥ v u/\Q v u)\/∃m s' u',n+1=m+1/\LS P ⟨f,t,k,ret,L⟩ u s' u'/\mQ P Q m (LM s' u'):=by intro s' u' hl ⟨es,he⟩;exact Î ⟨n,s',u',U,hl,h.r<|C8 he⟩
  have bad:(∃o w es,Ù P É ((⟨f,t,k,ret,L⟩:St).r [pV]) u=eU o w es)->False:=λ⟨_,_,_,he⟩=>h.M<|Jy he;cases ret with
  |true=>
   cases hr:(Ī fn t).runT P u #[]with
   |mk r es=>
    cases r with
    |halt z w=>
     refine absurd ?_ id;cases z<;>exact bad ⟨_,_,_,by simp[St.r,fm,base,G,Ù,dw,Frame.at,hfn,hr,Ź,-ź];exact⟨U,U,U⟩⟩
    |ok v u'=>
     cases L with
     |nil=>
      exact absurd (h.r<|C8<|FX hfn hr) afj
     |cons x L=>
      let⟨g,t',k'⟩:=x;let⟨_,ops,i,rest,k2,e⟩:=ls _<|î ..;simp only at e;subst e;refine go (.wR hfn (by rw[<-Ρ P (Ī fn t) u #[],hr])) ⟨seen P f es,?_⟩;have np:=FX (main:=É) (k:=k) (c:=fm g t'<|á ops (i::rest)::k2) (cs:=fw L) hfn hr;have AG:=ε (base g) ⟨t',[]⟩ ops i rest k2 v;rw[sH]at AG;unfold fm at np;rwa[AG]at np
  |false=>
   cases k with
   |nil=>exact go .pe ⟨_,by simp[St.r,fm,base,G,Ù,Ì,Frame.at];rfl⟩
   |cons it k=>
    have ti:=top it<|î ..;cases ti with
    |yy id=>exact go .yy ⟨_,by simp[St.r,fm,base,G,Ù,Ì,Frame.at];rfl⟩
    |vk _=>exact go .vk ⟨_,by simp[St.r,fm,base,G,Ù,Ì,Frame.at];rfl⟩
    |wM _=>exact go .wM ⟨_,by simp[St.r,fm,base,G,Ù,Ì,Frame.at];rfl⟩
    |ry hc=>
     cases hc with
     |vj=>exact go .vj ⟨_,by simp[St.r,fm,base,G,Ù,Ì,Frame.at];rfl⟩
     |sE=>exact go .sE ⟨_,by simp[St.r,fm,base,G,Ù,Ì,Frame.at];rfl⟩
     |wK l=>exact go .wK ⟨_,by simp[St.r,fm,base,G,Ù,Ì,Frame.at];rfl⟩
     |ru hx hy=>exact go .ru ⟨_,by simp[St.r,fm,base,G,Ù,Ì,Frame.at];rfl⟩
     |rv id _=>exact go .rv ⟨_,by simp[St.r,fm,base,G,Ù,Ì,Frame.at];rfl⟩
     |wL _=>exact go .wL ⟨_,by simp[St.r,fm,base,G,Ù,Ì,Frame.at];rfl⟩
     |wN _=>exact go .wN ⟨_,by simp[St.r,fm,base,G,Ù,Ì,Frame.at];rfl⟩
     |nU WJ=>exact(bad ⟨_,_,_,by simp[St.r,fm,base,G,Ù,Ì,Frame.at];exact⟨U,U,U⟩⟩).elim
     |wO id=>
      cases he:cD id k with
      |none=>exact(bad ⟨_,_,_,by simp[St.r,fm,base,G,Ù,Ì,Frame.at,he];exact⟨U,U,U⟩⟩).elim
      |some k'=>exact go (.wO he) ⟨_,by simp[St.r,fm,base,G,Ù,Ì,Frame.at,he];rfl⟩
     |wP l=>
      cases he:cE l k with
      |none=>exact(bad ⟨_,_,_,by simp[St.r,fm,base,G,Ù,Ì,Frame.at,he];exact⟨U,U,U⟩⟩).elim
      |some k'=>exact go (.wP he) ⟨_,by simp[St.r,fm,base,G,Ù,Ì,Frame.at,he];rfl⟩
     |@tK c x y _ _ _=>
      by_cases hb:∃b,å ⟨t,[]⟩ c=Ľ b
      .let⟨b,hb⟩:=hb;exact go (.tK hb) ⟨_,cF hb⟩
      .refine(bad ⟨.stuck "cond: bool expected" ((fm f t<|Đ (bz c x y)::k).pos P),u,#[],?_⟩).elim;have VB:(fm f t<|Đ (bz c x y)::k).eval c=å ⟨t,[]⟩ c:=Frame.eval_at _ _ _ _;have hx:Ù P É (G (fm f t<|Đ (bz c x y)::k)<|fw L) u=(match(fm f t<|Đ (bz c x y)::k).eval c with
        |Ľ b=>aS (G (fm f t<|Đ (if b then x else y)::k)<|fw L) u
        |_=>eU (.stuck "cond: bool expected" ((fm f t (Đ (bz c x y)::k)).pos P)) u):=by
        simp only[G,Ù,Ì,fm,Frame.at];rfl
       refine hx.trans ?_;rw[VB];generalize å ⟨t,[]⟩ c=v at hb;cases v<;>first|exact absurd ⟨_,U⟩ hb|rfl
     |tL id draw _=>
      cases draw with
      |false=>exact go .tL ⟨_,by simp[St.r,fm,base,G,Ù,Ì,Frame.at];rfl⟩
      |true=>exact go .AA ⟨_,Ż⟩
    |wS is hO=>
     rename_i ops;cases is with
     |nil=>exact go .FW ⟨_,by simp[St.r,fm,base,G,Ù,Ì,Frame.at];rfl⟩
     |cons i rest=>
      cases ho:ops[i]? with
      |none=>exact go (.C6 ho) ⟨_,by simp[St.r,fm,base,G,Ù,Ì,Frame.at,ho,aT];rfl⟩
      |some o=>
       cases hw:Ħ o (ł ops t)with
       |false=>
        have:=υ (P:=P) (main:=É) (b:=base f) (a:=⟨t,[]⟩) (k:=k) (cs:=fw L) (w:=u) (rest:=rest) ho hw;rw[sH]at this;exact go (.C5 ho hw) ⟨_,this⟩
       |true=>
        have oo:=hO o<|Û ho;have qC:=stepG_oper (P:=P) (main:=É) (b:=base f) (a:=⟨t,[]⟩) (k:=k) (cs:=fw L) (w:=u) (rest:=rest) ho hw;cases hr:(ì (å ⟨t,[]⟩) o).runT P u #[]with
        |mk r es=>
         have pd:(ì (å ⟨t,[]⟩) o).run P u=r:=by rw[<-Ρ P _ u #[],hr]
         cases r with
         |halt z w=>
          have hz:=((oo.r ⟨t,[]⟩).1 u hu).2 z w pd;cases z with
          |panic v=>
           have hs:dR P (LM ⟨f,t,á ops (i::rest)::k,Ã,L⟩ u)=ň (aU ((fm f t<|á ops (i::rest)::k).raise [{v,recovered:=Ã}]) (fw L) w):= C8 (es:=seen P f es) (qC.trans<|by simp[bC,hr,G,Frame.at,fm,base,Ź,Ŗ,-ź]);exact absurd (h.r hs) (afl _ L f t _ w n ⟨fn,hfn⟩ λx hx=>let⟨fn',_,h1,_⟩:=hF x.1 (ls x hx).1;⟨fn',h1⟩)
          |stuck s=>exact(bad ⟨_,_,_,qC.trans<|by simp[bC,hr,Frame.at,base,Ź,-ź];exact⟨U,U,U⟩⟩).elim
          |unsupported un=>
           cases un<;>first|(cases hz;done)|exact(bad ⟨_,_,_,qC.trans<|by simp[bC,hr,Frame.at,base,Ź,-ź];exact⟨U,U,U⟩⟩).elim
          |_=>cases hz
         |ok nx u'=>
          rcases oo.I ⟨t,[]⟩ u nx u' pd with⟨v,rfl⟩|rfl|⟨g,args,rfl⟩
          .have:=bA (main:=É) (b:=base f) (k:=k) (cs:=fw L) (rest:=rest) ho hw (by simp[base]) pd;rw[sH]at this;exact go (.nT ho hw pd) ⟨_,this⟩
          .have:=cH (main:=É) (b:=base f) (k:=k) (cs:=fw L) (rest:=rest) ho hw (by simp[base]) pd;rw[sH]at this;exact go (.AB ho hw pd) ⟨_,this⟩
          .let⟨fn',c',h1,h2⟩:=hF g<|oo.C ⟨t,[]⟩ u g args u' pd;have:=bB (main:=É) (b:=base f) (k:=k) (cs:=fw L) (rest:=rest) ho hw (by simp[base]) pd;rw[cI _ h1 h2]at this;exact go (.sF ho hw pd h1 h2) ⟨_,this⟩
end
def ko(u:Æ):Prop:=∀(i:Nat) (o:Obj),u.heap[i]?=À o->¬yx o
def ko.qA(h:ko u):qA u:=λi _ _ a=>h i _ a trivial
def wV(a:Â->Æ->Prop):Prop:=∀v u T D,a v u->a v ((World.tp u T D))
section
variable{GL:Nat->Prop}{e7:à->Prop}{kn:Â->Æ->Prop}
def LS.N8{s s':St}(h:LS P s u s' W)(cs:List Ę):∃j,Ù P É (s.r cs) u=aS (s'.r cs) W j:=by
 cases h with
 |@tK f t k L _ c x y b hc=>exact⟨_,cF hc⟩
 |wO e=>exact⟨_,by simp[St.r,fm,base,G,Ù,Ì,Frame.at,e];rfl⟩
 |wP e=>exact⟨_,by simp[St.r,fm,base,G,Ù,Ì,Frame.at,e];rfl⟩
 |@AA f t k L _ id ops=>exact⟨_,Ż⟩
 |@C6 f t k L _ ops i rest ho=>exact⟨_,by simp[St.r,fm,base,G,Ù,Ì,Frame.at,ho,aT];rfl⟩
 |@C5 f t k L _ ops i rest o ho hw=>
  have:=υ (P:=P) (main:=É) (b:=base f) (a:=⟨t,[]⟩) (k:=k) (cs:=L.map (λx=>fm x.1 x.2.1 x.2.2)++cs) (w:=u) (rest:=rest) ho hw;rw[sH]at this;exact⟨_,this⟩
 |@nT f t k L _ ops i rest o v _ ho hw hr=>
  have:=bA (main:=É) (b:=base f) (k:=k) (cs:=L.map (λx=>fm x.1 x.2.1 x.2.2)++cs) (rest:=rest) ho hw (by simp[base]) hr;rw[sH]at this;exact⟨_,this⟩
 |@AB f t k L _ ops i rest o _ ho hw hr=>
  have:=cH (main:=É) (b:=base f) (k:=k) (cs:=L.map (λx=>fm x.1 x.2.1 x.2.2)++cs) (rest:=rest) ho hw (by simp[base]) hr;rw[sH]at this;exact⟨_,this⟩
 |@sF f t k L _ ops i rest o g args fn c _ ho hw hr hf hb=>
  have:=bB (main:=É) (b:=base f) (k:=k) (cs:=L.map (λx=>fm x.1 x.2.1 x.2.2)++cs) (rest:=rest) ho hw (by simp[base]) hr;rw[cI _ hf hb]at this;exact⟨_,this⟩
 |@wR f t k L _ g t' ops i rest k' v fn _ hf hr=>
  cases l:(Ī fn t).runT P u #[]with
  |mk r j=>
   have e:r=ĥ v W:=by rw[<-hr,<-Ρ P (Ī fn t) u #[],l]
   subst e;have d:=FX (main:=É) (k:=k) (c:=fm g t'<|á ops (i::rest)::k') (cs:=L.map (λx=>fm x.1 x.2.1 x.2.2)++cs) hf l;have x:=ε (base g) ⟨t',[]⟩ ops i rest k' v;rw[sH]at x;unfold fm at d;rw[x]at d;exact⟨_,d⟩
 |_=>exact⟨_,by simp[St.r,fm,base,G,Ù,Ì,Frame.at];rfl⟩
def LS.vn{s a:St}(h:LS P s u a w):dR P (LM s u)=ň (LM a w):= let⟨_,b⟩:=h.N8 [pV];C8 b
def LS.Oa(j:pj P GL e7){s g:St}(h:LS P s u g w)(ok:Ok P GL e7 s):Ok P GL e7 g:=by
 have i:∀o a u f e w,mO P GL e7 o->(ì (å a) o).run P u=ĥ (ũ f e) w->e7 f:=by exact λo a u f e w c d=>c.C a u f e w d
 refine⟨h.ok j i ok.r,?_,?_⟩
 .cases h with
  |sF c _ d _ _=>exact i _ _ _ _ _ _ (pn ok.r.fZ _<|Û c) d
  |wR=>exact(ok.C _<|î ..).1
  |_=>exact ok.I
 .cases h with
  |sF c _ d _ _=>
   intro x b;rcases œ.1 b with rfl|b
   .exact⟨ok.I,_,_,_,_,U⟩
   .exact ok.C x b
  |wR=>exact λx b=>ok.C x<|ò _ b
  |_=>exact ok.C
def LS.kd{s c:St}{u b:Æ}(h:LS P s u c b)(ok:lE P GL e7 s)(a:qA u):Kd u b:=by
 cases h with
 |nT k _ i=>exact(((pn ok.fZ _<|Û k).r _).1 u a).1 _ _ i
 |AB k _ i=>exact(((pn ok.fZ _<|Û k).r _).1 u a).1 _ _ i
 |sF k _ i _ _=>exact(((pn ok.fZ _<|Û k).r _).1 u a).1 _ _ i
 |wR _ i=>exact(N9.1 u a).1 _ _ i
 |AA=>exact⟨id,λi o h k=>⟨o,h,k⟩⟩
 |_=>exact Kd.fV u
def LS.afo{s o:St}{u p:Æ}{T:ψ}{D:Nat}(h:LS P s ((World.tp u T D)) o p)(ok:lE P GL e7 s):∃n v,p=(World.tp v T<|D+n)/\∀a b,vh T D a b n->LS P s ((World.tp u a b)) o ((World.tp v a<|b+n)):=by
 cases h with
 |nT c e g=>
  obtain⟨n,v,i⟩:=((pn ok.fZ _<|Û c).r ⟨_,[]⟩).2 u T D;obtain⟨j,l⟩:=i _ _ g;exact⟨n,v,j,λa b d=> .nT c e (l a b d)⟩
 |AB c e g=>
  obtain⟨n,v,i⟩:=((pn ok.fZ _<|Û c).r ⟨_,[]⟩).2 u T D;obtain⟨j,l⟩:=i _ _ g;exact⟨n,v,j,λa b d=> .AB c e (l a b d)⟩
 |sF c e g m q=>
  obtain⟨n,v,i⟩:=((pn ok.fZ _<|Û c).r ⟨_,[]⟩).2 u T D;obtain⟨j,l⟩:=i _ _ g;exact⟨n,v,j,λa b d=> .sF c e (l a b d) m q⟩
 |wR m g=>
  obtain⟨n,v,i⟩:=(N9).2 u T D;obtain⟨j,l⟩:=i _ _ g;exact⟨n,v,j,λa b d=> .wR m (l a b d)⟩
 |@AA f t k L _ id ops=>
  refine⟨1,u,U,λa b d=> ?_⟩;have g:=LS.AA (P:=P) (f:=f) (t:=t) (k:=k) (L:=L) (u:=(World.tp u a b)) (id:=id) (ops:=ops);have i:((World.tp u a b)).tape ((World.tp u a b)).drawn=((World.tp u T D)).tape ((World.tp u T D)).drawn:=d.lU;rwa[i]at g
 |pe=>exact⟨0,u,U,λ_ _ _=> .pe⟩
 |vj=>exact⟨0,u,U,λ_ _ _=> .vj⟩
 |sE=>exact⟨0,u,U,λ_ _ _=> .sE⟩
 |wK=>exact⟨0,u,U,λ_ _ _=> .wK⟩
 |yy=>exact⟨0,u,U,λ_ _ _=> .yy⟩
 |vk=>exact⟨0,u,U,λ_ _ _=> .vk⟩
 |ru=>exact⟨0,u,U,λ_ _ _=> .ru⟩
 |tK h=>exact⟨0,u,U,λ_ _ _=> .tK h⟩
 |rv=>exact⟨0,u,U,λ_ _ _=> .rv⟩
 |wL=>exact⟨0,u,U,λ_ _ _=> .wL⟩
 |wM=>exact⟨0,u,U,λ_ _ _=> .wM⟩
 |wN=>exact⟨0,u,U,λ_ _ _=> .wN⟩
 |wO h=>exact⟨0,u,U,λ_ _ _=> .wO h⟩
 |wP h=>exact⟨0,u,U,λ_ _ _=> .wP h⟩
 |tL=>exact⟨0,u,U,λ_ _ _=> .tL⟩
 |FW=>exact⟨0,u,U,λ_ _ _=> .FW⟩
 |C5 c e=>exact⟨0,u,U,λ_ _ _=> .C5 c e⟩
 |C6 c=>exact⟨0,u,U,λ_ _ _=> .C6 c⟩
def mQ.gT(c:pj P GL e7)(hF:tM P e7)(g:∀v u,vQ v u->ko u):∀(n:Nat) {s:St} {u:Æ},Ok P GL e7 s->qA u->mQ P vQ n (LM s u)->ko u:=by
 intro n
 induction n with
 |zero=>
  intro s u a b h;rcases h.I c hF a b with⟨_,_,_,_,v,_,_,d⟩|⟨m,_,_,e,_⟩
  .exact g v u d
  .cases e
 |succ n j=>
  intro s u a b h;rcases h.I c hF a b with⟨e,_⟩|⟨m,w,x,e,d,k⟩
  .cases e
  .cases e;have f:=d.kd a.r b;intro i o l p;let⟨q,r,t⟩:=f.C i o l p;exact j (d.Oa c a) (f.r b) k i q r t
def pU.afp(b:wV kn){s:St}(h:pU P kn s u)(T:ψ)(D:Nat):pU P kn s ((World.tp u T D)):=by
 cases h with
 |jL a S c=>exact .jL a S (b _ _ T D c)
 |jM S a h c d=>exact .jM S a h c d
def WR(m:wV kn)(o:∀v u,vQ v u->kn v u){s:St}(c:s.C=É)(b:s.L=[])(e:∃g v,P.funcs[s.f]?=À g/\(Ī g s.t).run P ((World.tp u xQ i))=ĥ v ((World.tp u xQ i))/\vQ v ((World.tp u xQ i))):pU P kn s u:=by
 obtain⟨f,t,k,z,L⟩:=s;simp only at c b;subst c b;obtain⟨g,v,p,q,r⟩:=e;refine .jL (v:=v) p (λh d=> ?_) ?_
 .obtain⟨n,w,c⟩:=(N9).2 u xQ i;obtain⟨b,e⟩:=c _ _ q;have x:n=0:=by
   have:((World.tp u xQ i)).drawn=((World.tp w xQ<|i+n)).drawn:=by rw[<-b]
   simp only[World.tp]at this;omega
  subst x;have y:(World.tp w h d)=(World.tp u h d):=by
   have a:((World.tp u xQ i)).heap=((World.tp w xQ<|i+0)).heap:=by rw[<-b]
   have j:((World.tp u xQ i)).os=((World.tp w xQ<|i+0)).os:=by rw[<-b]
   have l:((World.tp u xQ i)).output=((World.tp w xQ<|i+0)).output:=by rw[<-b]
   simp only[World.tp]at a j l|-;rw[a,j,l]
  have:=e h d (λa j=>by omega);rwa[show d+0=d from rfl,y]at this
 .have:=m v _ u.tape u.drawn<|o v _ r;exact this
structure Jz where
 s:St
 u:Æ
 D:Nat
 T:ψ
 n:Nat
structure JA(P:Õ)(GL:Nat->Prop)(e7:à->Prop)(kn:Â->Æ->Prop)(s0:St)(u0:Æ)(x:Jz):Prop where
 ok:Ok P GL e7 x.s
 afq:qA x.u
 afr:¬pU P kn x.s x.u
 oN:∀T',(∀i,i<x.D->T' i=x.T i)->dx P x.n (LM s0<|(World.tp u0 T' 0))=ň (LM x.s<|(World.tp x.u T' x.D))
def WS{m:bR}{s:St}{N:Nat}(a:dx P n m=ň (LM s u))(e:mQ P vQ N m):∃k,N=n+k/\mQ P vQ k (LM s u):=by
 by_cases f:n<=N
 .obtain⟨k,rfl⟩:=Ε f;refine⟨k,U,?_⟩;let⟨g,v,c,b,d⟩:=e;rw[dK,a]at b;exact⟨g,v,c,b,d⟩
 .obtain⟨k,rfl⟩:=Nat.exists_eq_add_of_lt<|Nat.lt_of_not_le f;let⟨g,v,c,b,d,_⟩:=e;rw[show N+k+1=N+(k+1) by omega,dK,b]at a;simp only[dx,step_leave_returned d]at a;cases k with
  |zero=>
   simp only[dx,Stepped.next.injEq]at a;have:=(WQ a).2.1;simp[fw]at this
  |succ k=>
   simp only[dx,(Jy (P:=P) (fr:=pV) (cs:=[]) (w:=c) (es:=#[])<|by simp[G,Ù,Ì,pV];exact⟨U,U⟩)]at a;cases a
theorem Ob(f:pj P GL e7)(hF:tM P e7)(t:wV kn)(C:∀v u,vQ v u->ko u)(E:∀v u,vQ v u->kn v u){j:St}(F:∀T,∃n,mQ P vQ n<|LM j<|(World.tp w T 0)){x:Jz}(G:JA P GL e7 kn j w x): ∃y:Jz,JA P GL e7 kn j w y/\y.n=x.n+1/\x.D<=y.D/\∀i,i<x.D->y.T i=x.T i:=by
 let⟨s,u,D,T,n⟩:=x;let⟨ok,pend,l,q⟩:=G;simp only at ok pend l q;have H:∃y d,∀a g,LS P s ((World.tp u y d)) a g->CY u g->¬pU P kn a g:=by
  refine Classical.byContradiction λo=>l ?_;have c:∀y d,∃p:St×World,LS P s ((World.tp u y d)) p.1 p.2/\CY u p.2/\pU P kn p.1 p.2:=by simp_all
  exact .jM (λy d=>(Classical.choose<|c y d).1) (λy d=>(Classical.choose<|c y d).2) (λy d=>(Classical.choose_spec<|c y d).1) (λy d=>(Classical.choose_spec<|c y d).2.1) λy d=>(Classical.choose_spec<|c y d).2.2
 let⟨y,d,I⟩:=H;let p:ψ:=λi=>if i<D then T i else y (d+(i-D))
 have r:∀i,i<D->p i=T i:=λi h=>if_pos h;have J:=λi=>by show(if D+i<D then T (D+i)else y (d+(D+i-D)))=y (d+i);grind
 let⟨N,K⟩:=F p;let⟨k,_,L⟩:=WS (q p r) K;have b:qA ((World.tp u p D)):=pend;rcases L.I f hF ok b with⟨_,M,O,S⟩|⟨m,a,g,_,e,V⟩
 .exact absurd (WR t E M O S) l
 .obtain⟨c,v,rfl,z⟩:=e.afo ok.r;have W:¬pU P kn a v:=λX=>I a _ (z y d λi _=>(J i).symm) (λi o _ B=>(mQ.gT f hF C m (e.Oa f ok) ((e.kd ok.r b).r b) V) i o B)<|X.afp t y<|d+c;refine⟨⟨a,v,D+c,p,n+1⟩,⟨e.Oa f ok,(e.kd ok.r b).r b,W,λo B=> ?_⟩,U,fj,r⟩;rw[dK,(q o λi h=>(B i<|by simp only;omega).trans<|r i h)];simp only[dx,(z o D λi h=>B (D+i)<|by simp only;omega).vn]
theorem afs(b:pj P GL e7)(hF:tM P e7)(c:wV kn){Q:Â->Æ->Prop}(g:∀v u,Q v u->ko u)(d:∀v u,Q v u->kn v u){a:St}(ok:Ok P GL e7 a)(q:qA w)(f:∀T,∃n,mQ P Q n<|LM a<|(World.tp w T 0)):pU P kn a w:=by
 refine Classical.byContradiction λr=> ?_;have s:JA P GL e7 kn a w ⟨a,w,0,λ_ _=>0,0⟩:=⟨ok,q,r,λI _=>rfl⟩;let F:Nat->{x:Jz//JA P GL e7 kn a w x}:=λk=>Nat.rec ⟨_,s⟩ (λ_ x=>⟨Classical.choose<|Ob b hF c g d f x.2,(Classical.choose_spec<|Ob b hF c g d f x.2).1⟩) k
 have l:=λk=>(Classical.choose_spec<|Ob b hF c g d f (F k).2).2;have t:∀k,(F k).1.n=k:=by
  intro k
  induction k with
  |zero=>rfl
  |succ k e=>rw[(l k).1,e]
 have J:∀j k,(F j).1.D<=(F<|j+k).1.D/\∀i,i<(F j).1.D->(F<|j+k).1.T i=(F j).1.T i:=by
  intro j k
  induction k with
  |zero=>exact⟨ß _,λ_ _=>rfl⟩
  |succ k e=>
   have:=(l<|j+k).2;exact⟨õ e.1 this.1,λi m=>(this.2 i<|Ô m e.1).trans<|e.2 i m⟩
 have K:∀j k i,i<(F j).1.D->i<(F k).1.D->(F j).1.T i=(F k).1.T i:=by intro j k i e o;rcases Nat.le_total j k with h|h;all_goals grind [Ε]
 let T:ψ:=λi=>open Classical in if h:∃k,i<(F k).1.D then(F<|Classical.choose h).1.T i else λ_=>0
 have y:∀k i,i<(F k).1.D->T i=(F k).1.T i:=by intro k i m;have e:∃k,i<(F k).1.D:=⟨k,m⟩;show(open Classical in if h:∃k,i<(F k).1.D then(F<|Classical.choose h).1.T i else λ_=>0)=_;rw[dif_pos e];grind
 let⟨N,z⟩:=f T;have p:=(F N).2.oN T<|y N;rw[t N]at p;let⟨k,e,o⟩:=WS p z;have B:k=0:=Z
 subst B;have C:qA ((World.tp (F N).1.u T<|(F N).1.D)):=(F N).2.afq;rcases o.I b hF (F N).2.ok C with⟨_,E,G,H⟩|⟨m,_,_,e,_⟩
 .exact(F N).2.afr<|WR c d E G H
 .cases e
end
section
variable{m:à->Prop}
def Oc(f:à)(b:Func)(c:ak)(a:Array Â):St:=⟨f,a++ĺ (b.ntmps-a.size) ľ,[Đ c],Ã,[]⟩
def WT(a:Array Â)(b:P.funcs[F]?=À s)(d:s.body=À wX):dL P F a .normal=(Oc F s wX a).I:=cI a b d
def afu(b:pj P X m)(hF:tM P m)(l:wV vQ)(g:m F)(j:P.funcs[F]?=À s)(k:s.body=À wX)(o:ko u) (p:∀T,Calls P F d ((World.tp u T 0)) fun|.returned v,u'=>vQ v u'/\ko u'|_,_=>False):pU P vQ (Oc F s wX d) u:=by
 refine afs b hF l (Q:=λv u=>vQ v u/\ko u) (λv u h=>h.2) (λv u h=>h.1) ⟨⟨λi q=> ?_,λx h=>by cases h⟩,g,λx h=>by cases h⟩ o.qA λT=> ?_
 .rw[ū.1 q];exact .ry (b F g s wX j k)
 .let⟨e,r,t,a,w,_,y⟩:=p T [pV];cases e with
  |returned v=>
   let⟨n,z⟩:=w;refine⟨n,t,v,r,?_,y,a⟩;rw[<-z,WT d j k];rfl
  |panicked n=>exact a.elim
  |outgrown=>exact a.elim
def afv(r:nS P)(b:pj P X m)(hF:tM P m)(t:wV vQ)(n:m F)(e:P.funcs[F]?=À s)(h:s.body=À wX)(y:ko u) (z:∀T,Calls P F d ((World.tp u T 0)) fun|.returned v,u'=>vQ v u'/\ko u'|_,_=>False) {Y:fq} {a o:Nat->Prop} (B:Y.C=P.globals.size) (C:∀g,X g->Y g g) (p:fS Y d q) (D:rz Y a u w) (E:∀j,a j->j<w.heap.size) (H:∀i j,Y i j->a j->o j) (main:Bool) (k:Ę) (l:List Ę): vl P main o (FY Y a vQ k l) (fl Y a) (G (dL P F q .normal)<|k::l) w:=by
 have:=(afu b hF t n e h y z).N8 (main:=main) r b (Y:=Y) (FZ:=Y) (s':=Oc F s wX q) (fq.M _) B C ⟨U,?_,U,U,.pe⟩ ⟨λi I=> ?_,λx J=>by cases J⟩ D E H k l
 .rw[WT q e h];exact this
 .show fS Y (d++_) (q++_);rw[p.r];exact p.tD<|WK _
 .rw[ū.1 I];exact .ry (b F n s wX e h)
def yB:Â->Bool
 |Ľ _|Ć _ _|ħ _|Þ ë|bS ë _ _|bT|aW|ep ë|.map ë=>É
 |_=>Ã
def Od:Â->Bool
 |.agg a=>a.all yB
 |ſ a=>a.all yB
 |v=>yB v
def F0(h:yB v=É):jT v:=by
 cases v with
 |bool b=>exact .mC b
 |int k n=>exact .iD k n
 |string s=>exact .kJ s
 |pointer p=>cases p with
  |none=>exact .lS
  |some a=>cases h
 |slice p n c=>cases p with
  |none=>exact .om n c
  |some a=>cases h
 |nilFunc=>exact .u9
 |nilIface=>exact .va
 |chan p=>cases p with
  |none=>exact .vd
  |some a=>cases h
 |map p=>cases p with
  |none=>exact .ve
  |some a=>cases h
 |_=>cases h
def afw(h:Od v=É):jT v:=by
 cases v with
 |agg b=>exact .oJ λi a=>F0<|(Ń.1 h) i a
 |tuple b=>exact .nQ λi a=>F0<|(Ń.1 h) i a
 |_=>exact F0 h
def wW(X:Nat->Bool):Ö->Bool
 |.tmp _=>É
 |dY v=>Od v
 |ey g=>X g
 |aO _=>É
theorem JB{g:Nat->Bool}(h:wW g qQ=É):mD (λj=>g j=É) qQ:=by
 cases qQ with
 |tmp t=>exact .WC t
 |const v=>exact .WE (afw h)
 |global j=>exact .WG h
 |func f=>exact .WH f
def Oe(P:Õ)(t:Á):Bool:=match P.underlying t with
 |some .bool=>É
 |some (Β _)=>É
 |some ę=>É
 |_=>Ã
def afx(h:Oe P t=É):tE P t:=by
 unfold Oe at h;split at h
 .rename_i e;exact Ç e
 .rename_i k e;exact Î<|Ç ⟨k,e⟩
 .rename_i e;exact Î<|Î e
 .cases h
def JC:Ö->Bool
 |dY (Þ ë)=>É
 |_=>Ã
def WU(h:JC qQ=É):nj (y.eval qQ):=by
 unfold JC at h;split at h
 .trivial
 .cases h
def Og(P:Õ)(t:Á)(x y:Ö):Bool:=Oe P t||((match P.underlying t with|some (ð _)=>É|_=>Ã)&&(JC x||JC y))
theorem afy{a:bF}{y:Ö}(h:Og P t qQ y=É):tE P t\/((∃e,P.underlying t=À (ð e))/\(nj (a.eval qQ)\/nj (a.eval y))):=by
 unfold Og at h;rcases Ŝ.1 h with h|h
 .exact Ç<|afx h
 .let⟨b,e⟩:=Ü.1 h;refine Î ⟨?_,(Ŝ.1 e).imp WU WU⟩;grind
def Oh(P:Õ)(s d:Á):Bool:=match P.underlying s,P.underlying d with
 |some (Β _),À (Β _)=>É
 |some ę,À ę=>É
 |_,_=>Ã
theorem afz(h:Oh P e t=É):(∃k a,P.underlying e=À (Β k)/\P.underlying t=À (Β a))\/(P.underlying e=À ę/\P.underlying t=À ę):=by unfold Oh at h;grind
def Oi(P:Õ)(s:Á)(n:Nat):Bool:=match P.underlying s with
 |some (di fields)=>match fields[n]? with
  |some f=>match P.info? f.type with
   |some i=>i.size !=0
   |none=>Ã
  |none=>Ã
 |_=>Ã
def afA(h:Oi P e n=É):∀a f i,P.underlying e=À (di a)->a[n]?=À f->P.info? f.type=À i->i.size≠0:=by intro a f i b c d;simp only[Oi,b,c,d]at h;simpa using h
def Oj(P:Õ)(m:à->Bool)(f:à):Bool:=m f&&(match P.funcs[f]? with
 |some a=> !(a.name== "runtime.NumGoroutine")&&!a.body.isNone
 |none=>Ã)
theorem WV{g:à->Bool}(h:Oj P g F=É):g F=É/\∃a,P.funcs[F]?=À a/\(a.name== "runtime.NumGoroutine")=Ã/\a.body.isNone=Ã:=by let⟨b,c⟩:=Ü.1 h;grind
def WW(P:Õ):List Á->Bool
 |[_,t1]=>(match P.underlying t1 with|some (dj _)=>É|some ę=>É|_=>Ã)
 |_=>Ã
def WX(P:Õ)(m:à->Bool)(b:Callee)(a:List Ö)(c:List Á):Bool:=match b with
 |ĝ .len=>a.length==1
 |ĝ .cap=>a.length==1
 |ĝ .copy=>a.length==2
 |ĝ .append=>a.length==2&&WW P c
 |cj (aO f)=>Oj P m f
 |_=>Ã
def C9(P:Õ)(m:à->Bool):Op->Bool
 |.move _|.assign _|.pick _ _ _|.alloc _|.box _ _|.build _ _|dE _ _ _|.load _ _|.store _ _ _|eC _|.unOp _ _ _|dV _ _ _|.slice _ _ _ _ _|.field _ _ _|dX _ _ _|.index _ _ _|.extract _ _=>É
 |dU c t x y _=>if c==aA||c==aL then Og P t x y else É
 |aN s d _=>Oh P s d
 |dW s _ n=>Oi P s n
 |Ω c=>WX P m c.callee c.args.toList c.argTypes.toList
 |_=>Ã
def JD{a:Array Ö}(h:(a.toList.length==1)=É):∃x,a=#[x]:=by
 let⟨l⟩:=a;match l,h with
 |[x],_=>exact⟨x,U⟩
def Ol{a:Array Ö}(h:(a.toList.length==2)=É):∃x y,a=#[x,y]:=by
 let⟨l⟩:=a;match l,h with
 |[x,y],_=>exact⟨x,y,U⟩
def afB{g:à->Bool}{k:Op}(h:C9 P g k=É)(a:bF):km P a.eval k:=by
 cases k with
 |binOp o t x y r=>
  refine .C0 o t x y r λe=> ?_;have:(o==aA||o==aL)=É:=by rcases e with rfl|rfl<;>rfl
  simp only[C9,if_pos this]at h;exact afy h
 |convert s d x=>exact .NG _ _ _ (afz h)
 |fieldAddr s x n=>exact .NJ _ _ _ (afA h)
 |call c=>
  let⟨z,B,j⟩:=c;simp only[C9]at h;unfold WX at h;split at h
  .obtain⟨x,rfl⟩:=JD h;exact .FL x j
  .obtain⟨x,rfl⟩:=JD h;exact .FM x j
  .obtain⟨x,y,rfl⟩:=Ol h;exact .FN x y j
  .let⟨q,f⟩:=Ü.1 h;obtain⟨x,y,rfl⟩:=Ol q;let⟨l⟩:=j;match l,f with
   |[t0,t1],f=>
    refine .tD x y t0 t1 ?_;simp only[WW]at f;split at f
    .rename_i e m;exact Ç ⟨e,m⟩
    .rename_i m;exact Î m
    .cases f
  .exact .jK _ _ _ U (WV h).2
  .cases h
 |move x=>exact .Ax x
 |assign x=>exact .FJ x
 |pick c a b=>exact .wG c a b
 |alloc t=>exact .gH t
 |box t x=>exact .NA t x
 |build t p=>exact .NB t p
 |buildSlice t n p=>exact .NC t n p
 |load t a=>exact .gA t a
 |store t a x=>exact .jc t a x
 |nilCheck x=>exact .FK x
 |unOp o t x=>exact .ND o t x
 |makeSlice t l c=>exact .NH t l c
 |slice t x u v w=>exact .kK t x u v w
 |field t x n=>exact .NK t x n
 |indexAddr t x i=>exact .NL t x i
 |index t x i=>exact .NM t x i
 |extract x n=>exact .FA x n
 |_=>simp[C9]at h
def Om(P:Õ)(X:Nat->Bool)(m:à->Bool)(o:av):Bool:=C9 P m o.op&&o.op.operands.all (wW X)
def afC{X:Nat->Prop}{m:à->Prop}{o:av}(op:∀a:bF,km P a.eval o.op)(opd:∀x∈o.op.operands,mD X x)(calls:∀f args ts,o.op=Ω {callee:=cj<|aO f,args:=args,argTypes:=ts}->m f):mO P X m o where
 mP hz hb hG ht hW hl x u' hr hc:=(VF hz hW.C hb (λf=>rfl) (op _) λx hx=>wT hG ht<|opd x hx).gk hW hl hr hc #[];r a:=afc<|op a;I a u n u' hr:=afm (op a) hr;C a u f c u' hr:=let⟨as,ts,e⟩:=afh (op a) hr;calls f as ts e
theorem afD{g:Nat->Bool}{k:à->Bool}(h:Om P g k o=É):mO P (λj=>g j=É) (λf=>k f=É) o:=by
 let⟨j,b⟩:=Ü.1 h;refine afC (λa=>afB j a) (λx a=>JB ?_) λf a x e=> ?_
 .grind [ŉ]
 .rw[e]at j;exact(WV<|show Oj P k f=É from j).1
end
section
variable{Y:fq}{g:à->Prop}{α:Type}
def Da(m:(Ö->Â)->ē Â)(e:∀b,ì b o=m b>>=λv=>pure<|ï v) (i:∀(Y:fq) (b h:Ö->Â),nS P->Bi Y->Y.C=P.globals.size->(∀x∈o.op.operands,fi Y (b x)<|h x)->kL P fi Y (m b) (m h)) (j:∀b,fC P<|m b) (k:∀x∈o.op.operands,mD X x):mO P X g o where
 mP hz hb hG ht hW hl x u' hr hc:=by rw[e]at hr|-;exact(VA<|i _ _ _ hz hW.C hb λx d=>wT hG ht<|k x d).gk hW hl hr hc #[]
 r a:=by rw[e];exact lV<|j _
 I a u n u' hr:=by
  rw[e,Ä]at hr;cases d:(m a.eval).run P u with
  |ok v w=>rw[d]at hr;cases hr;exact Ç ⟨v,U⟩
  |halt z w=>rw[d]at hr;cases hr
 C a u f c u' hr:=by
  rw[e,Ä]at hr;cases d:(m a.eval).run P u with
  |ok v w=>rw[d]at hr;cases hr
  |halt z w=>rw[d]at hr;cases hr
theorem afE(a:o.op=cJ t qQ)(b:∀y∈o.op.operands,mD X y):mO P X g o:=by
 refine Da (λd=>ŝ t<|d qQ) (λd=> ?_) (λY d c _ _ _ h=> .gp ?_) (λd=> ?_) b
 .unfold ì;rw[a]
 .unfold ŝ;apply fD (ja t);rintro e d _ c ⟨rfl,_⟩;split
  .exact .fR
  .exact .fB (.yq t ((h qQ<|by rw[a];simp[Ê]).fO c))
 .unfold ŝ;grind [gE,jd,rp,gl]
theorem afF(c:Sys):oL P (sys c):=by
 intro u hu;refine⟨λx u' e=> ?_,λz u' e=>by cases e⟩;have:u'.heap=u.heap:=by
  simp only[sys,ã]at e;cases e;unfold World.sys;have ask:∀{γ:Type} (b:Ask γ) (w:Æ),(w.ask b).2.heap=w.heap:=by
   intro γ b
   induction b with
   |done a=>intro w;rfl
   |ask what range k ih=>
    intro w;simp only[World.ask];split
    .exact ih 0 w
    .exact ih _ _
  grind
 exact⟨λh i c e he=>h i c e (by rwa[<-this]),λi o he ho=>⟨o,by rwa[this],ho⟩⟩
theorem WY(x:Â):∀u y a,(ż x).run P u≠ĥ y a:=by
 unfold ż;cases x<;>simp only[]<;>first|exact Nz|skip
 grind [FG,Vo,rm]
def afG(x:Â):fC P (ż x):=by
 refine⟨?_,NP<|WY x⟩;unfold ż;cases x<;>simp only[]<;>first|exact FQ U|skip
 refine Ji ?_ λa=> ?_
 .unfold Instr.panicnil;refine Ji (afF _) λr=> ?_;cases r<;>first|exact FQ U|skip
  exact Ji VH λ_=>VG _
 .split
  .exact FQ U
  .exact(wH _).1
def afH(b:o.op=.panic qQ)(c:∀y∈o.op.operands,mD X y):mO P X g o:=by refine Da (λa=>ż<|a qQ) (λa=> ?_) (λY a d _ _ _ h=> .gp (.oK (WY _))) (λa=>afG _) c;unfold ì;rw[b]
def afI(c:fi Y x v)(d:fi Y z jQ):fF P fi Y (Ĳ x z) (Ĳ v jQ):=by
 cases c<;>cases d<;>first|exact .fR|exact .fB (.iD _ _)|skip
 refine fD (V:=fi) (.fB (.mC _)) λf a g _ e=> ?_;apply fD (Vl e);rintro h b _ _ rfl;exact .fB (.kJ _)
def afJ(x y:Â):fC P (Ĳ x y):=by unfold Ĳ;repeat' (first|(with_reducible first|exact gE _|exact jd _|exact sG _|exact Jo _|exact N7 _ _ _|refine gl ?_ (λ_=> ?_)|refine nk _ ?_)|split|rfl)
def afK:∀{l b:List Â} {Y:fq} {x c:Â},fi Y x c->fS Y l.toArray b.toArray->fF P fi Y (l.foldlM Ĳ x) (b.foldlM Ĳ c):=by
 intro l
 induction l with
 |nil=>
  intro b Y x c d a;have:b=[]:=by have:=a.r;simp at this;exact Ā this.symm
  subst this;rw[ζ,ζ];exact .fB d
 |cons v l e=>
  intro b Y x c d a;match b,a with
  |[],a=>have:=a.r;simp at this
  |v'::b,a=>
   rw[Ζ,Ζ];refine fD (afI d (by have:=a.C 0 fj fj;simpa using this)) ?_;intro k y m f g;refine e g ⟨by have:=a.r;simpa using this,λj h i=> ?_⟩;have:=a.C (j+1) (by simp at h|-;omega) (by simp at i|-;omega);exact(by simpa using this:fi Y _ _).fO f
theorem WZ:∀(l:List Â) (x:Â),fC P<|l.foldlM Ĳ x
 |[],x=>by rw[ζ];exact gE _
 |v::l,x=>by rw[Ζ];exact gl (afJ _ _) λy=>WZ l y
def afL(a:Array Á)(t:Á)(h:fS Y d q):fF P fi Y (ń a t d) (ń a t q):=by
 let⟨l⟩:=d;let⟨b⟩:=q;unfold ń;match l,b,h with
 |[],_,_=>exact .fR
 |v::l,[],h=>have:=h.r;simp at this
 |v::l,v'::b,h=>
  refine afK (by have:=h.C 0 fj fj;simpa using this) ⟨by have:=h.r;simpa using this,λj e f=> ?_⟩;have:=h.C (j+1) (by simp at e|-;omega) (by simp at f|-;omega);exact(by simpa using this:fi Y _ _)
theorem afM(a:Array Á)(t:Á)(c:Array Â):fC P (ń a t c):=by let⟨l⟩:=c;unfold ń;grind [jd,WZ]
def afN{b:Array Ö}{c:Array Á}(d:o.op=Ω {callee:=ĝ .min,args:=b,argTypes:=c})(e:∀y∈o.op.operands,mD X y):mO P X g o:=by refine Da (λa=>ń c o.type<|b.map a) (λa=> ?_) (λY a i _ _ _ h=> .gp (afL _ _<|VD b λz f=>h z<|by rw[d];simp[Ê,ô,f])) (λa=>afM _ _ _) e;unfold ì;rw[d];simp only[ù,č,Ē,pure_bind]
def afO{β:Type}{f g:Â->β->ē (ForInStep β)}(k:∀a v e b,Y.r a->fi a v e->fF P jq a (f v b) (g e b)):∀{l d:List Â} {a:fq} (b:β),Y.r a->fS a l.toArray d.toArray->fF P jq a (forIn l b f) (forIn d b g):=by
 intro l
 induction l with
 |nil=>
  intro d a b _ c;have:d=[]:=by have:=c.r;simp at this;exact Ā this.symm
  subst this;rw[φ,φ];exact .fB U
 |cons v l m=>
  intro d a b h c;match d,c with
  |[],c=>have:=c.r;simp at this
  |e::d,c=>
   rw[η,η];refine fD (k a v e b h (by have:=c.C 0 fj fj;simpa using this)) ?_;rintro p r _ i rfl;cases r with
   |done b=>exact .fB U
   |yield b=>
    apply m b (fq.I h i);refine⟨by have:=c.r;simpa using this,λj n o=> ?_⟩;have:=c.C (j+1) (by simp at n|-;omega) (by simp at o|-;omega);exact(by simpa using this:fi a _ _).fO i
theorem W0{β:Type}{f:Â->β->ē (ForInStep β)}(a:∀v b,fC P<|f v b):∀(l:List Â) (b:β),fC P<|forIn l b f
 |[],b=>by rw[φ];exact gE _
 |v::l,b=>by
  rw[η];refine gl (a v b) λr=> ?_;cases r with
  |done b=>exact gE _
  |yield b=>exact W0 a l b
def afP(d:fi Y x v):fF P fi Y (ü x) (ü v):=by
 cases d<;>first|exact .fR|exact .fB (.kJ _)|skip
 rename_i h n c;unfold ü;apply fD (Nu h n);intro e j l m f;simp only[<-aE];refine fD (afO (Y:=e) ?_ _ (fq.M _) f) ?_
 .intro g a o b _ i;cases i<;>first|exact .fR|skip
  rename_i k n;cases k<;>first|exact .fR|exact .fB U
 .rintro g s _ _ rfl;exact .fB (.kJ _)
theorem afQ(x:Â):fC P (ü x):=by
 unfold ü;split
 .exact gE _
 .refine gl (NW _ _) λa=> ?_;simp only[<-aE];grind [gl,W0,gE,jd]
 .exact jd _
theorem afR(i:o.op=aN t T qQ)(k:P.underlying t=À (dj e))(l:P.underlying T=À ę)(m:P.underlying e=À (Β .u8))(n:∀y∈o.op.operands,mD X y):mO P X g o:=by
 refine Da (λa=>Œ t T<|a qQ) (λa=> ?_) (λY a f _ _ _ h=> .gp ?_) (λa=> ?_) n
 .unfold ì;rw[i]
 .unfold Œ;refine fD (ja t) ?_;rintro z B _ p ⟨rfl,b⟩;rw[k]at b;injection b with b;subst b;refine fD (ja T) ?_;rintro q C _ r ⟨rfl,c⟩;rw[l]at c;injection c with c;subst c;have j:=((h qQ<|by rw[i];simp[Ê]).fO p).fO r;have u:fF P fi q (ø e>>=λy=>match y with|Β .u8=>ü (a qQ)|Β .i32=>aF (a qQ)|_=>stuck "Convert: a slice of what to string?") (ø e>>=λy=>match y with|Β .u8=>ü (f qQ)|Β .i32=>aF (f qQ)|_=>stuck "Convert: a slice of what to string?"):=by
   apply fD (ja e);rintro D E _ w ⟨rfl,h⟩;rw[m]at h;injection h with h;subst h;exact afP<|j.fO w
  generalize a qQ=v at*;generalize f qQ=v' at*;cases j<;>first|exact u|exact .fR|exact .fB (.kJ _)|skip
 .unfold Œ;grind [wI,afQ,Wz,gE]
end
section
variable{Y:fq}{b:à->Prop}{α:Type}
def W3(i:∀(Y:fq) (a g:bF),nS P->Bi Y->Y.C=P.globals.size->(∀x∈o.op.operands,fi Y (a.eval x)<|g.eval x)->kL P pf Y (ì a.eval o) (ì g.eval o)) (j:∀a:bF,fC P<|ì a.eval o) (h:∀(a:bF) (u:Æ) (n:Ο) (d:Æ),(ì a.eval o).run P u=ĥ n d->∃v,n=ï v) (k:∀x∈o.op.operands,mD X x):mO P X b o where
 mP hz hb hG ht hW hl x d hr hc:=(i _ ⟨_,[]⟩ ⟨_,[]⟩ hz hW.C hb λx e=>wT hG ht<|k x e).gk hW hl hr hc #[];r a:=j a;I a u n d hr:=Ç<|h a u n d hr;C a u f c d hr:=by let⟨v,e⟩:=h a u _ d hr;cases e
def afS{e:Array Â->ē Â}{k:Array Á}(g:o.op=Ω {callee:=cj<|aO F,args:=#[qQ],argTypes:=k})(l:P.funcs[F]?=À s)(m:(s.name== "runtime.NumGoroutine")=Ã)(q:s.body.isNone=É)(r:Extern.findNext s=ë)(t:Extern.find s=À e) (B:∀(Y:fq) (v i:Â),fi Y v i->fF P fi Y (e #[v]) (e #[i])) (C:∀v,fC P<|e #[v]) (D:∀y∈o.op.operands,mD X y):mO P X b o:=by
 have c:∀a:bF,ì a.eval o=ĵ F #[a.eval qQ]:=by intro a;unfold ì;rw[g];simp only[ù,å,İ,č,pure_bind,Ď,ď,Ø,â,ä]
 have j:∀(v:Â) (u:Æ),(ĵ F #[v]).run P u=(mark (.extern F)>>=λ_=>e #[v]>>=λy=>pure (ï y):ē Ο).run P u:=by intro v u;unfold ĵ;simp_all
 refine W3 (λY a w _ _ _ h=> ?_) (λa=> ?_) (λa u n E d=> ?_) D
 .rw[c,c];unfold ĵ;refine .gp (fD rh ?_);rintro I p J w ⟨z,G⟩;rw[z,G];simp only[l,m,q,r,t,Å,if_false,if_true];apply fD (V:=jq) (.CR (Î ⟨F,U⟩) (.fB U));exact λK _ _ H _=>mN<|B _ _ _<|((h qQ<|by rw[g];simp[Ê,ô]).fO w).fO H
 .rw[c];exact Jk (j _)<|gl (FR _) λ_=>lV<|C _
 .rw[c,j,Ä]at d;simp only[mark,ã,È]at d;have:ã P (e #[a.eval qQ]>>=λy=>pure (ï y):ē Ο) u=ĥ n E:=d;rw[Ä]at this;cases h:(e #[a.eval qQ]).run P u with
  |ok v w=>rw[h]at this;cases this;exact⟨v,U⟩
  |halt z w=>rw[h]at this;cases this
def afT(x a:Â)(h:fi Y x a):fF P fi Y (Ŀ #[x]) (Ŀ #[a]):=.fB h
def afU(x:Â):fC P (Ŀ #[x]):=gE _
def W4:∀(n t:Nat) {c a:Array Â},fS Y c a->fS Y (ņ n t c) (ņ n t a)
 |0,_,_,_,h=>h
 |n+1,t,_,_,h=>W4 n (t/256)<|h.Va<|.iD _ _
def afV(b:Array Á)(t:Á)(v c:Â)(h:fi Y v c):fF P fi Y (Ċ b #[t] #[v]) (Ċ b #[t] #[c]):=by
 cases h<;>first|exact .fR|skip
 rename_i k n;cases k<;>first|exact .fR|skip
 refine fD (ja t) ?_;rintro j d _ l ⟨rfl,_⟩;cases d<;>first|exact .fR|skip
 rename_i e _;simp only[];split
 .exact .oK (wC<|rm _)
 .apply sD (.As λn=> .fB U);intro m f _;apply sD (Ny _);intro o _ _;apply sD (.As λn=> .fB U);intro p g _;apply fD (Av e<|W4 f g<|fS.N _);exact λq a r _ i=> .fB (.kK i _ _)
def afW(a:Array Á)(t:Á)(v:Â):fC P (Ċ a #[t] #[v]):=by
 cases v<;>first|exact jd _|skip
 rename_i k n;cases k<;>first|exact jd _|skip
 refine gl (rp t) λd=> ?_;cases d<;>first|exact jd _|skip
 repeat' (first|(with_reducible first|exact gE _|exact jd _|exact sG _|exact FU _ _|exact rp _|exact wH _|exact NY _|refine gl ?_ λ_=> ?_)|split)
def afX(f:Array Á)(t:Á)(j:fi Y x v):kL P fi Y (ė f t #[x]) (ė f t #[v]):=by
 cases j<;>first|exact .gp .fR|exact .gp (.fB .lS)|skip
 rename_i a g h n c;change kL P fi Y (ite _ _ _) (ite _ _ _);by_cases i:c≠0
 .simp only[if_pos i];exact .gp (.fB (.jS h))
 .simp only[if_neg i];apply lb (Je h.1);rintro l b m o ⟨rfl,rfl⟩;simp only[Option.isSome_none,Å,if_false];refine lb (V0:=λ_ a g=>a=g) ?_ ?_
  .unfold Ū;refine fD (ja t) ?_;rintro k d _ p ⟨rfl,_⟩;cases d<;>first|exact .fR|exact .fB U
  .rintro k e _ _ rfl;exact .CW trivial
def afY(b:Array Á)(t:Á)(x:Â):fC P (ė b t #[x]):=by
 cases x<;>first|exact jd _|skip
 rename_i p n c;cases p with
 |none=>exact gE _
 |some a=>
  change fC P (ite _ _ _);repeat' (first|(with_reducible first|exact gE _|exact jd _|exact Jl _|exact Jp _|refine gl ?_ (λ_=> ?_)|refine Jj _ ?_)|split|(intro _ _ h;cases h;done))
def afZ{c:Array Á}(d:o.op=Ω {callee:=ĝ bl,args:=#[qQ],argTypes:=c})(e:∀y∈o.op.operands,mD X y):mO P X b o:=by refine Da (λa=>ė c o.type #[a qQ]) (λa=> ?_) (λY a f _ _ _ h=>afX _ _<|h qQ<|by rw[d];simp[Ê,ô]) (λa=>afY _ _ _) e;unfold ì;rw[d];simp only[ù,č,Ē,pure_bind,Ø,â,ä]
end
section
variable{Y:fq}{f:Nat->Prop}{g:à->Prop}{α:Type}
def W5(h:hD Y a p):fF P hD Y (Ž a) (Ž p):=by unfold Ž;apply fD (Je h.1);rintro c x d b ⟨rfl,rfl⟩;exact .fB (h.r b)
def af0{r:Nat}(h:Y r i):fF P (λ_ c q=>∃n a,c=À n/\q=À a/\n<=a) Y (dy r) (dy i):=.vf h λ_ n a c=> .fB ⟨n,a,U,U,c.elim (λq=>by omega) λq=>q.1⟩
def W6(h:hD Y a p)(t:Á)(n:Nat):fF P (λ_ b e=>b=É->e=É) Y (Ą a t n) (Ą p t n):=by unfold Ą;apply fD rh;rintro i b j c ⟨d,f⟩;rw[d,f];refine .vf (c.1 _ _ h.1) λe m k g=> ?_;rw[h.2.1];exact .fB λq=>Vv (ο<|g.elim (λq=>by omega) λq=>q.1) q
def af2(a:Ú):fC P (Ž a):=by unfold Ž;repeat' (first|(with_reducible first|exact gE _|exact qB|exact tF _|exact Jp _|refine gl ?_ (λ_=> ?_)|refine nk _ ?_)|split|rfl)
theorem af3(r:Nat):fC P (dy r):=by unfold dy;grind [gE,tF,VN,gl]
theorem W7(a:Ú)(t:Á)(n:Nat):fC P (Ą a t n):=by unfold Ą;grind [gE,qB,tF,gl]
theorem af4(l:P.underlying e=À (ð t))(m:P.underlying T=À đ)(o:fi Y x v):kL P fi Y (ö e T x) (ö e T v):=by
 unfold ö;refine lb (ja e) ?_;rintro z B _ p ⟨rfl,f⟩;rw[l]at f;injection f with f;subst f;refine lb (ja T) ?_;rintro C D _ q ⟨rfl,g⟩;rw[m]at g;injection g with g;subst g;have r:=(o.fO p).fO q;cases r<;>first|exact .gp .fR|exact .gp (.fB .lS)|skip
 rename_i a E h;refine lb (W5 h) ?_;intro F b j G i;refine lb (af0 i.1) ?_;rintro H c I u ⟨w,J,rfl,rfl,K⟩;refine lb (ni t) ?_;rintro L n _ y ⟨rfl,_⟩;rw[i.2.1,i.2.2];simp only[];by_cases k:(decide (n=0)||(decide (j.off≥w)&&j.spot.isNone))=É
 .rw[if_pos k];exact .CW trivial
 .rw[if_neg k,if_neg]
  .exact .gp (.fB (.jS ((i.r u).r y)))
  .grind
theorem af5{d:Á}(l:P.underlying T=À đ)(o:P.underlying d=À (ð t))(q:fi Y x z):kL P fi Y (ö T d x) (ö T d z):=by
 unfold ö;refine lb (ja T) ?_;rintro F G _ r ⟨rfl,f⟩;rw[l]at f;injection f with f;subst f;refine lb (ja d) ?_;rintro H I _ w ⟨rfl,g⟩;rw[o]at g;injection g with g;subst g;have y:=(q.fO r).fO w;cases y<;>first|exact .gp .fR|exact .gp (.fB .lS)|skip
 rename_i a J h;refine lb (W5 h) ?_;intro K b B L i;refine lb (ni t) ?_;rintro M n _ j ⟨rfl,_⟩;refine lb (W6 (i.r j) t 1) ?_;rintro C v N D O;have Q:kL P fi C (pure<|Þ<|À b) (pure<|Þ<|À B):=.gp (.fB (.jS ((i.r j).r D)));by_cases E:(decide (n=0)||v)=É
 .grind
 .rw[if_neg E];refine .CX λu x S c=> ?_;rw[Ä]at c;simp only[cw,ã,È]at c;cases k:u.shape? b.block with
  |none=>rw[k]at c;cases c
  |some p=>
   let⟨e,m⟩:=p;rw[k]at c;simp only[Ä,ă,È]at c;split at c
   .cases c
   .cases c;exact⟨u.heap.size,.view b t,ß _,fj,trivial⟩
theorem af6(h:(P.underlying e=À (ð t)/\P.underlying T=À đ)\/(P.underlying e=À đ/\P.underlying T=À (ð t)))(x:Â):fC P (ö e T x):=by
 unfold ö;rcases h with⟨b,c⟩|⟨b,c⟩<;>refine wI b<|wI c ?_;all_goals
  cases x<;>first|exact jd _|skip
  rename_i p;cases p with
  |none=>exact gE _
  |some a=>
   repeat' (first|(with_reducible first|exact af2 _|exact af3 _|exact W7 _ _ _|exact gE _|exact jd _|exact qB|exact tF _|exact tJ _|refine gl ?_ (λ_=> ?_)|refine nk _ ?_|refine Jj _ ?_)|split|(intro _ _ h;cases h;done)|rfl)
theorem W8(b:o.op=aN e T qQ)(h:(P.underlying e=À (ð t)/\P.underlying T=À đ)\/(P.underlying e=À đ/\P.underlying T=À (ð t)))(c:∀y∈o.op.operands,mD X y):mO P X g o:=by
 refine Da (λa=>Œ e T<|a qQ) (λa=> ?_) (λY a i _ _ _ f=> ?_) (λa=> ?_) c
 .unfold ì;rw[b]
 .unfold Œ;apply lb (ja e);rintro j k _ a ⟨rfl,l⟩;apply lb (ja T);rintro m n _ i ⟨rfl,p⟩;have q:=((f qQ<|by rw[b];simp[Ê]).fO a).fO i;grind [af4,af5]
 .unfold Œ;grind [af6,wI]
theorem af7(a:Ú)(n:Nat):oL P (eW a n):=by
 intro u f;refine⟨λx b e=> ?_,λz b e=>by cases e⟩;cases e;unfold Ė;split
 .exact Kd.fV u
 .refine VI (λo d=> ?_) λo c e h=> ?_
  .cases o<;>first|exact d.elim|trivial
  .grind
def af8(a:Ú)(n:Nat):fC P (eW a n):=by
 refine⟨af7 a n,λu T D=>⟨0,u.freeze a n,λx b e=> ?_⟩⟩;have c:∀T D,(World.tp u T D).freeze a n=World.tp (u.freeze a n) T D:=by intro T D;unfold Ė;split<;>rfl
 simp_all
def W9:∀(n:Nat) {Y:fq} {a c:Ú} (d:ByteArray),hD Y a c->fF P jq Y (ĕ a d n) (ĕ c d n)
 |0,_,_,_,_,_=> .fB U
 |n+1,Y,a,c,d,h=>by
  unfold ĕ;refine fD (I9 h) ?_;intro g v i e f;cases f<;>first|exact .fR|skip
  rename_i k b;cases k<;>first|exact .fR|exact W9 n _<|(h.r e).C 1
def Xa:∀(n:Nat) (a:Ú) (b:ByteArray),fC P<|ĕ a b n
 |0,_,_=>gE _
 |n+1,a,b=>by
  unfold ĕ;refine gl (FT _ _) λv=> ?_;split
  .exact Xa n _ _
  .exact jd _
def jE(pt:Á)(a:Ú)(n:Nat):ē ByteArray:=do
 if<-Ą a (<-Ū pt) n then ĕ a .empty n else unsupported (ť "String: not so many bytes at ptr")
def af9(pt:Á)(h:hD Y a p)(n:Nat):fF P jq Y (jE pt a n) (jE pt p n):=by
 unfold jE;refine fD (V:=jq) ?_ ?_
 .unfold Ū;refine fD (ja pt) ?_;rintro f d _ c ⟨rfl,_⟩;cases d<;>first|exact .fR|exact .fB U
 .rintro i e _ d rfl;apply fD (W6 (h.r d) e n);rintro f b j c g;cases b with
  |true=>rw[g U];exact W9 n _<|(h.r d).r c
  |false=>exact .fR
def aga[Aq P](F:jg Y f u w)(h:hD Y a p){pt:Á}(G:∀u l j,(Ū pt).run P u=ĥ l j->∃k,P.underlying l=À (Β k))(g:(jE pt a<|n+1).run P u=ĥ B W):¬f p.block:=by
 intro H;let⟨c,L,e,M,N,r,O,Q,t,_⟩:=F.r _ _ h.1;let⟨_,_,_,_,o⟩:=t H;unfold jE at g;rw[Ä]at g;cases i:(Ū pt).run P u with
 |halt z x=>rw[i]at g;cases g
 |ok l j=>
  have I:j=u:=by
   unfold Ū at i;rw[Ä]at i;unfold ø at i;rw[Ä,ă]at i;simp only[È]at i;cases D:P.underlying pt with
   |none=>rw[D]at i;cases i
   |some d=>
    rw[D]at i;cases d<;>cases i<;>rfl
  subst I;rw[i]at g;simp only[È]at g;rw[Ä]at g;have y:∃b,(Ą a l<|n+1).run P j=ĥ b j:=by unfold Ą;rw[Ä,ă];simp only[È];rw[Ä];simp only[cw,ã,È];split<;>exact⟨_,U⟩
  rcases o with o|o;rotate_left
  .let⟨k,J⟩:=G _ _ _ i;have K:(Ą a l<|n+1).run P j=ĥ Ã j:=by
    unfold Ą;rw[Ä,ă];simp only[È];rw[Ä];simp only[cw,ã,È];have t:j.shape? a.block=À (e,c.size):=by simp[Θ,r]
    rw[t];simp only[Nat.div_eq_of_lt<|Aq.lt e c.size o,ad5 J];rfl
   rw[K]at g;cases g
  let⟨b,y⟩:=y;rw[y]at g;simp only[È]at g;split at g
  .unfold ĕ at g;rw[Ä]at g;simp only[aX,ã]at g;cases C:j.cell? a with
   |none=>
    rw[C]at g;simp only[ŋ,r]at g;cases g
   |some v=>
    rw[C]at g;simp only[È]at g;have q:=C;rw[Au r]at q;cases E:a.spot with
    |some x=>rw[E]at q;cases q
    |none=>
     rw[E]at q;have:=o _ _ (by simpa using q);cases v<;>first|(cases g;done)|skip
     rename_i k m;cases k<;>first|(cases g;done)|cases this
  .cases g
end
section
variable{Y:fq}{d:Nat->Prop}{f:à->Prop}{α:Type}
def yC(a:Á)(p:Option Ú)(n:Int):ē Â:=ê #[a] a #[Þ p,Ć Ŋ n]
def yD(pt a t:Á)(p:Option Ú)(k:ú)(n:Int):ê #[pt,a] t #[Þ p,Ć k n]=yC pt p n:=by cases p<;>rfl
section
variable{pt:Á}{p:Option Ú}
def Xb(a:h<0):∃c,∃k:PUnit->ē Â,yC pt p h=(runtimePanic c>>=k):=⟨_,_,if_pos a⟩
def Xc(a:¬h<0)(b:h>Ŋ.max):∃c,yC pt p h=unsupported (ť c):=⟨_,(if_neg a).trans<|if_pos b⟩
def On(a:¬h<0)(b:¬h>Ŋ.max)(c:h=0):yC pt p h=pure (ħ .empty):=by cases p<;>exact(if_neg a).trans<|(if_neg b).trans<|if_pos c
def agb(a:¬h<0)(b:¬h>Ŋ.max)(d:¬h=0):∃c,yC pt ë h=runtimePanic c:=⟨_,(if_neg a).trans<|(if_neg b).trans<|if_neg d⟩
end
def Xd(pt:Á)(a:Ú)(c:¬h<0)(d:¬h>Ŋ.max)(e:¬h=0): yC pt (À a) h=(jE pt a h.toNat>>=λs=>eW a h.toNat>>=λ_=>pure<|ħ s):=by refine((if_neg c).trans<|(if_neg d).trans<|if_neg e).trans ?_;unfold jE;show _=ç (ç _ _) _;rw[ř];congr 1;funext et;show ç _ _=ç (ç _ _) _;rw[ř];congr 1;funext b;cases b<;>rfl
def agc(pt:Á)(p:Option Ú)(n:Int):fC P (yC pt p n):=by cases p<;>show fC P (if n<0 then _ else _)<;>repeat' (first|(with_reducible first|exact W7 _ _ _|exact Xa _ _ _|exact af8 _ _|exact gE _|exact Jl _|exact wH _|refine gl ?_ (λ_=> ?_)|refine nk _ ?_)|split|rfl)
theorem agd(_hW:jg Y d u w):∀(n:Nat) {a i:Ú} {j s:ByteArray},hD Y a i->a.spot=ë->(ĕ a j n).run P u=ĥ s W->∀c e f,u.heap[a.block]?=À (Č c e f)->a.off<=c.size->a.off+n<=c.size:=by
 intro n
 induction n with
 |zero=>intro a i j s _ _ _ c e f _ r;exact r
 |succ n t=>
  intro a i j s h p b c e f l _;unfold ĕ at b;rw[Ä]at b;simp only[aX,ã]at b;cases o:u.cell? a with
  |none=>
   rw[o]at b;simp only[ŋ,l]at b;cases b
  |some v=>
   rw[o]at b;simp only[È]at b;have q:=o;rw[Au l,p]at q;have y:=(Ë.1<|by simpa using q).1;cases v<;>first|(cases b;done)|skip
   rename_i k m;cases k<;>first|(cases b;done)|skip
   have g:a.add 1={a with off:=a.off+1}:=by unfold Addr.add;grind
   have x:=h.C 1;have:=t x (by rwa[g]) b c e f (by rwa[g]) (by rw[g];simp only;omega);rw[g]at this;simp only at this;omega
end
section
variable{Y:fq}{g:Nat->Prop}{r:à->Prop}{α:Type}
def Oo(pt a t:Á)(p:Option Ú)(y:Â):ê #[pt,a] t #[Þ p,y]=(dC y>>=λn=>yC pt p n):=by cases p<;>rfl
def Xe:∀(n:Nat) {a:Ú} {f s:ByteArray} {u c:Æ},(ĕ a f n).run P u=ĥ s c->c=u
 |0,_,_,_,_,_,h=>by cases h;rfl
 |n+1,a,f,s,u,c,h=>by
  unfold ĕ at h;rw[Ä]at h;have g:∀v b,(aX a).run P u=ĥ v b->b=u:=by
   intro v b e;simp only[aX,ã]at e;split at e
   .cases e;rfl
   .split at e<;>cases e;rfl
  cases d:(aX a).run P u with
  |halt z w=>rw[d]at h;cases h
  |ok v b=>
   have:=g v b d;subst this;rw[d]at h;simp only[È]at h;cases v<;>first|(cases h;done)|skip
   rename_i k m;cases k<;>first|(cases h;done)|exact Xe n h
def agf{pt:Á}(c:(jE pt a n).run P u=ĥ B w):w=u/\(ĕ a .empty n).run P u=ĥ B u:=by
 unfold jE at c;rw[Ä]at c;cases e:(Ū pt).run P u with
 |halt z x=>rw[e]at c;cases c
 |ok z x=>
  have f:x=u:=by
   unfold Ū at e;rw[Ä]at e;unfold ø at e;rw[Ä,ă]at e;simp only[È]at e;cases b:P.underlying pt with
   |none=>rw[b]at e;cases e
   |some d=>
    rw[b]at e;cases d<;>cases e<;>rfl
  subst f;rw[e]at c;simp only[È]at c;rw[Ä]at c;have d:∃b,(Ą a z n).run P x=ĥ b x:=by unfold Ą;rw[Ä,ă];simp only[È];rw[Ä];simp only[cw,ã,È];split<;>exact⟨_,U⟩
  let⟨b,d⟩:=d;rw[d]at c;simp only[È]at c;split at c
  .have:=Xe n c;subst this;exact⟨U,c⟩
  .cases c
def JF(P:Õ)(t:Á):Bool:=match P.underlying t with
 |some (ð e)=>(match P.underlying e with|some (Β _)=>É|_=>Ã)
 |_=>Ã
theorem agh{P:Õ}{pt:Á}(h:JF P pt=É):∀u b c,(Ū pt).run P u=ĥ b c->∃k,P.underlying b=À (Β k):=by
 intro u b c a;unfold Ū ø at a;rw[Ä,Ä,ă]at a;simp only[È]at a;unfold JF at h;split at h
 .rename_i e d;rw[d]at a;cases a;grind
 .cases h
def agi[Aq P]{y:Ö}{pt:Á}(W:o.op=Ω {callee:=ĝ cX,args:=#[qQ,y],argTypes:=#[pt,T]})(hpt:JF P pt=É)(JG:∀z∈o.op.operands,mD X z):mO P X r o:=by
 have he:∀M:Ö->Â,ì M o=(ê #[pt,T] o.type #[M qQ,M y]>>=λv=>pure<|ï v):=by intro M;unfold ì;rw[W];simp only[ù,č,Ē,pure_bind,Ø,â,ä]
 have N:∀v w:Â,fC P (ê #[pt,T] o.type #[v,w]):=by
  intro v w;cases v<;>first|exact jd _|skip
  rw[Oo];exact gl (FV _) λn=>agc _ _ _
 have hk:∀(a:bF) (u:Æ) (n:Ο) (C:Æ),(ì a.eval o).run P u=ĥ n C->∃v,n=ï v:=by
  intro a u n C b;rw[he,Ä]at b;cases O:(ê #[pt,T] o.type #[a.eval qQ,a.eval y]).run P u with
  |ok v w=>rw[O]at b;cases b;exact⟨v,U⟩
  |halt z w=>rw[O]at b;cases b
 refine⟨?_,λa=>by rw[he];exact lV<|N _ _,λa u n C b=>Ç<|hk a u n C b,λa u f c C b=>by let⟨v,e⟩:=hk a u _ C b;cases e⟩;intro Y g t t' u w hz hb hG ht J hl z C b hc;have hx:=wT hG ht (JG qQ<|by rw[W];simp[Ê,ô]);have Q:=wT hG ht (JG y<|by rw[W];simp[Ê,ô]);rw[he]at b|-;generalize å ⟨t,[]⟩ qQ=v at hx b;generalize å ⟨t',[]⟩ qQ=v' at hx|-;generalize å ⟨t,[]⟩ y=l at Q b;generalize å ⟨t',[]⟩ y=l' at Q|-;have E:fF P fi Y (ê #[pt,T] o.type #[v,l]) (ê #[pt,T] o.type #[v',l'])->∃(K:fq) (x':Ο) (w':Æ) (S:Array ý),Y.r K/\(∀i j,K i j->Y i j\/(u.heap.size<=i/\w.heap.size<=j))/\(ê #[pt,T] o.type #[v',l']>>=λv=>pure (ï v):ē Ο).runT P w #[]=(ĥ x' w',#[]++S)/\pf K z x'/\jg K g C w'/\nR Y g w w'/\(∀e∈S,At K g e)/\u.heap.size<=C.heap.size:= λh=>(mN h).gk J hl b #[];cases hx with
 |lS=>
  apply E;rw[Oo,Oo];apply fD (Nw Q);rintro Xf n _ _ rfl;by_cases B:n<0
  .let⟨c,k,q⟩:=Xb (pt:=pt) (p:=ë) B;rw[q];exact .oK (wC<|rm _)
  .by_cases d:n>Ŋ.max
   .let⟨c,q⟩:=Xc (pt:=pt) (p:=ë) B d;rw[q];exact .fR
   .by_cases D:n=0
    .rw[On B d D];exact .fB (.kJ _)
    .let⟨c,q⟩:=agb (pt:=pt) B d D;rw[q];apply Jc
 |jS F=>
  rename_i a a';cases Q with
  |iD k n=>
   by_cases B:n<0
   .apply E;let⟨c,k,q⟩:=Xb (pt:=pt) (p:=À a) B;rw[yD,yD,q];exact .oK (wC<|rm _)
   .by_cases d:n>Ŋ.max
    .apply E;let⟨c,q⟩:=Xc (pt:=pt) (p:=À a) B d;rw[yD,yD,q];exact .fR
    .by_cases D:n=0
     .apply E;rw[yD,yD,On B d D,On B d D];exact .fB (.kJ _)
     .rw[yD,Xd pt a B d D]at b;rw[yD,Xd pt a' B d D];obtain⟨m,O⟩:∃m,n.toNat=m+1:=⟨n.toNat-1,Z⟩;rw[O]at b|-;cases L:(jE pt a<|m+1).run P u with
      |halt z w=>
       rw[Ä,Ä,L]at b;cases b
      |ok s u1=>
       obtain⟨rfl,Xg⟩:=agf L;rw[Ä,Ä,L]at b;have AH:=b;cases AH;let⟨Xf,s',w1,es,k1,k2,k3,k4,k5,G,k7,k8⟩:=(af9 pt F<|m+1).gk J hl L #[];have S:=k4;subst S;let⟨c,c',e,fr,wD,V,hw,sJ,_⟩:=J.r _ _ F.1;have Xh:a.spot=ë/\a.off<c.size:=by
        have H:=Xg;unfold ĕ at H;rw[Ä]at H;simp only[aX,ã]at H;cases I:u1.cell? a with
        |none=>
         rw[I]at H;simp only[ŋ,V]at H;cases H
        |some v=>
         rw[Au V]at I;cases oO:a.spot with
         |some qQ=>rw[oO]at I;cases I
         |none=>rw[oO]at I;exact⟨U,(Ë.1<|by simpa using I).1⟩
       have fits:∀c e fr,u1.heap[a.block]?=À (Č c e fr)->a.off+(m+1)<=c.size:=by intro c2 e2 qD d;rw[V]at d;injection d with d;injection d with q1 q2 q3;subst q1;exact agd J (m+1) F Xh.1 Xg c e fr V<|Nat.le_of_lt Xh.2
       refine⟨Xf,ï<|ħ s,w1.freeze a'<|m+1,es,k1,k2,?_,.nT (.kJ s),k5.adr (F.r k1) (m+1) fits,?_,k7,by rw[I7];exact ß _⟩
       .show é P (ç (ç _ _) _) w #[]=_;rw[Ñ,Ñ,k3];rfl
       .refine⟨by rw[I7];exact G.r,adn.trans G.I,ado.trans G.M,Nr.trans G.S,λj hj N=> ?_,λj hs hj=> ?_⟩
        .rw[I8 (λe=>N a.block<|by rw[<-e];exact F.1)];exact G.C j hj N
        .rw[I8 (λe=>(aga J F (agh hpt) L)<|by rwa[e])];exact G.N j hs hj
  |_=>exact E .fR
 |_=>exact E .fR
end
section
variable{Y:fq}{g:Nat->Prop}{i:à->Prop}{α:Type}
theorem agj(a:Ú):fC P (bm a):=by unfold bm;grind [gE,tF,NU,gl]
theorem agk(a b:Ú):fC P (cK a b):=by unfold cK;grind [agj,gE,tF,gl]
def agl(a b:Ú):fC P (Ŭ a b):=by unfold Ŭ;repeat' (first|(with_reducible first|exact agk _ _|exact gE _|exact sG _|exact NU _|exact V5 _|refine gl ?_ (λ_=> ?_)|refine nk _ ?_)|split|rfl)
def Xi(h:P.underlying t=À (ð e))(x y:Â):fC P (ó t x y):=by unfold ó ā Λ;refine wI h ?_;repeat' (first|(with_reducible first|exact agl _ _|exact gE _|exact jd _|exact sG _|exact tJ _|refine gl ?_ λ_=> ?_)|contradiction|split)
def agm{a:ġ}(b:a=aA\/a=aL)(h:P.underlying t=À (ð e))(x y:Â):fC P (Ũ a t x y):=by
 have c:=Xi h x y;rcases b with rfl|rfl;all_goals
  unfold Ũ;repeat' (first|(with_reducible first|exact Xi h _ _|exact gE _|exact jd _|exact N0 _ _ _ _|exact Wt _ _ _ _ _ _|exact Wu _ _ _|exact N7 _ _ _|refine gl ?_ λ_=> ?_)|contradiction|split)
def yE(u:Æ)(r:Nat):Prop:=∃c e a,u.heap[r]?=À (Č c e a)/\a.2<=c.size
def JH(a:Ú)(u:Æ)(b:Array ý):(eO a).runT P u b=(ĥ (u.frozen? a) u,b):=rfl
def JJ{r:Nat}(h:u.heap[r]?=À (Č d e xJ))(a:Array ý):(cw r).runT P u a=(ĥ (À (e,d.size)) u,a):=by simp only[cw,é,Θ,h]
def Xj(h:yE u a.block)(b:Array ý):(bm a).runT P u b=(ĥ (u.frozen? a) u,b):=by
 let⟨c,e,f,d,g⟩:=h;unfold bm;show é P (ç _ _) u b=_;rw[Ñ,JH];cases i:u.frozen? a with
 |true=>rfl
 |false=>
  simp only[Å,if_false];show é P (ç _ _) u b=_;rw[Ñ,JJ d];simp only[];rw[JH];have:u.frozen? {block:=a.block,off:=c.size}=Ã:=by simp only[Ĉ,d];simp;omega
  rw[this]
def Xk(f:u.heap[a.block]?=À (Č d e xJ))(g:xJ.2<=d.size)(b:u.frozen? a=É):d.size≠0:=by simp only[Ĉ,f]at b;simp at b;omega
def agn(i:yE u a.block)(j:yE u p.block)(k:(u.frozen? a&&u.frozen? p)=Ã)(g:Array ý):(cK a p).runT P u g=(ĥ Ã u,g):=by
 have q:=i;have r:=j;let⟨c,e,w,l,s⟩:=q;let⟨d,f,x,m,t⟩:=r;unfold cK;show é P (ç _ _) u g=_;rw[Ñ,Xj i];simp only[];show é P (ç _ _) u g=_;rw[Ñ,Xj j];simp only[];show é P (ç (ç _ _) _) u g=_;rw[Ñ,Ñ,JJ l];simp only[];show é P (ç (ç _ _) _) u g=_;rw[Ñ,Ñ,JJ m];simp only[];congr 2;cases o:u.frozen? a with
 |true=>
  rw[o]at k;have h:u.frozen? p=Ã:=by simpa using k
  have:=Xk l s o;simp only[h];cases v:c.size with
  |zero=>exact absurd v this
  |succ n=>rfl
 |false=>
  cases h:u.frozen? p with
  |true=>
   have:=Xk m t h;cases v:d.size with
   |zero=>exact absurd v this
   |succ n=>rfl
  |false=>rfl
def Xl(h:yE u a.block)(b:Array ý):(aY a).runT P u b=(ĥ () u,b):=by let⟨c,e,f,d,g⟩:=h;unfold aY dm;show é P (ç (ç _ _) _) u b=_;rw[Ñ,Ñ,JJ d];rfl
def Xm(e:yE u a.block)(f:yE u p.block)(c:Array ý):(Ŭ a p).runT P u c= if(a.block==p.block)=É then(ĥ (a==p) u,c)else if(u.frozen? a&&u.frozen? p)=É then(bV (ŀ .addressObserved) u,c)else(ĥ Ã u,c):=by
 unfold Ŭ;by_cases h:(a.block==p.block)=É
 .simp_all
 .rw[if_neg h,if_neg h];show é P (ç _ _) u c=_;rw[Ñ,JH];simp only[];show é P (ç _ _) u c=_;rw[Ñ,JH];simp only[];by_cases d:(u.frozen? a&&u.frozen? p)=É
  .simp_all
  .rw[if_neg d,if_neg d];show é P (ç _ _) u c=_;rw[Ñ,Xl e];simp only[];show é P (ç _ _) u c=_;rw[Ñ,Xl f];simp only[];show é P (ç _ _) u c=_;rw[Ñ,agn e f (by simpa using d)];rfl
end
section
variable{Y:fq}{g:Nat->Prop}{j:à->Prop}
def agp{d:dH}(h:P.underlying t=À d)(u:Æ)(a:Array ý):(ø t).runT P u a=(ĥ d u,a):=by unfold ø;simp_all
theorem agq(h:P.info? t=À zJ)(u:Æ)(a:Array ý):(ay t).runT P u a=(ĥ zJ.size u,a):=by
 unfold ay;show é P (ç _ _) u a=_;rw[Ñ];have:(Δ t).runT P u a=(ĥ zJ u,a):=by unfold Δ;simp_all
 rw[this];rfl
theorem Xn(h:P.underlying t=À (ð e))(d:P.info? e=À zJ)(f:zJ.size≠0)(a b:Ú)(u:Æ)(c:Array ý):(ó t (Þ<|À a)<|Þ<|À b).runT P u c=(Ŭ a b).runT P u c:=by unfold ó ā Λ;show é P (ç _ _) u c=_;rw[Ñ,agp h];simp only[];show é P (ç _ _) u c=_;grind [Ñ,agq]
def iy(a:ġ)(r:Bool):Bool:=if a=aA then r else !r
def Xo{d:ġ}(k:d=aA\/d=aL)(h:P.underlying t=À (ð e))(g:P.info? e=À zJ)(j:zJ.size≠0)(x y:Ö)(a b:Ú)(u:Æ)(c:Array ý): ((ŷ d t x y (Þ<|À a) (Þ<|À b)>>=λ_=>Ũ d t (Þ<|À a)<|Þ<|À b)>>=λv=>pure (ï v):ē Ο).runT P u c= match(Ŭ a b).runT P u c with
 |(ĥ r u',f)=>(ĥ (ï<|Ľ<|iy d r) u',f)
 |(bV z u',f)=>(bV z u',f):=by
 rcases k with rfl|rfl
 .show é P (ç (ç (ó t (Þ<|À a)<|Þ<|À b) λr=>aI<|Ľ r) λv=>aI<|ï v) u c=_;rw[Ñ,Ñ,Xn h g j];cases(Ŭ a b).runT P u c with
  |mk r f=>cases r<;>rfl
 .show é P (ç (ç (ó t (Þ<|À a)<|Þ<|À b) λr=>aI<|Ľ !r) λv=>aI<|ï v) u c=_;rw[Ñ,Ñ,Xn h g j];cases(Ŭ a b).runT P u c with
  |mk r f=>cases r<;>rfl
theorem agr{m:ġ}{r:Á}{y:Ö}(E:o.op=dU m t qQ y r)(H:m=aA\/m=aL)(h:P.underlying t=À (ð e))(T:P.info? e=À zJ)(V:zJ.size≠0)(I:∀z∈o.op.operands,mD X z):mO P X j o:=by
 have J:∀B:Ö->Â,ì B o=((ŷ m t qQ y (B qQ) (B y)>>=λ_=>Ũ m t (B qQ)<|B y)>>=λv=>pure<|ï v):=by intro B;unfold ì;rw[E]
 have W:∀(a:bF) (u:Æ) (n:Ο) (s:Æ),(ì a.eval o).run P u=ĥ n s->∃v,n=ï v:=by
  intro a u n s k;rw[J,Ä]at k;cases C:(ŷ m t qQ y (a.eval qQ) (a.eval y)>>=λ_=>Ũ m t (a.eval qQ)<|a.eval y).run P u with
  |ok v w=>rw[C]at k;cases k;exact⟨v,U⟩
  |halt z w=>rw[C]at k;cases k
 refine⟨?_,λa=> ?_,λa u n s k=>Ç<|W a u n s k,λa u f c s k=>by let⟨v,e⟩:=W a u _ s k;cases e⟩
 .intro Y g D Xp u w K hb L M p hl z s k hc;have N:=wT L M (I qQ<|by rw[E];simp[Ê]);have O:=wT L M (I y<|by rw[E];simp[Ê]);by_cases Q:nj (å ⟨D,[]⟩ qQ)\/nj (å ⟨D,[]⟩ y)
  .have hOk:km P (å ⟨D,[]⟩) o.op:=by
    rw[E];exact .C0 m t qQ y r λ_=>Î ⟨⟨e,h⟩,Q⟩
   exact(VF K p.C hb (λf=>rfl) hOk λz K=>wT L M<|I z K).gk p hl k hc #[]
  .have n1:=λq=>Q<|Ç q;have n2:=λq=>Q<|Î q;rw[J]at k|-;generalize å ⟨D,[]⟩ qQ=v at N k n1;generalize å ⟨Xp,[]⟩ qQ=v' at N|-;generalize å ⟨D,[]⟩ y=l at O k n2;generalize å ⟨Xp,[]⟩ y=l' at O|-;cases N<;>first|exact absurd trivial n1|skip
   cases O<;>first|exact absurd trivial n2|skip
   rename_i a a' F b b' G;have fit:∀{c S:Ú},hD Y c S->yE u c.block/\yE w S.block:=by intro c S hcc;let⟨d,d',e2,fr,wD,hu,hw,sJ,pW,Db,hfr⟩:=p.r _ _ hcc.1;refine⟨⟨d,e2,fr,hu,hfr⟩,d',e2,wD,hw,?_⟩;refine õ ?_ sJ.I;grind
   let⟨fa,fa'⟩:=fit F;let⟨fb,fb'⟩:=fit G;rw[<-Ρ P _ u #[],Xo H h T V,Xm fa fb]at k;rw[Xo H h T V,Xm fa' fb'];rw[<-(Jf p.C F G),<-(Vr p.C F G)];by_cases q:(a.block==b.block)=É
   .rw[if_pos q]at k|-;cases k;exact⟨Y,_,w,#[],fq.M _,λ_ _ q=>Ç q,U,.nT (.mC _),p,nR.fV _ _ _,λ_ C=>absurd C fj,ß _⟩
   .rw[if_neg q]at k|-;by_cases q2:(u.frozen? a&&u.frozen? b)=É
    .grind
    .rw[if_neg q2]at k;have q3:¬(w.frozen? a'&&w.frozen? b')=É:=by
      intro q4;let⟨z1,z2⟩:=Ü.1 q4;exact q2<|Ü.2 ⟨p.G F z1,p.G G z2⟩
     rw[if_neg q3];cases k;exact⟨Y,_,w,#[],fq.M _,λ_ _ q=>Ç q,U,.nT (.mC _),p,nR.fV _ _ _,λ_ C=>absurd C fj,ß _⟩
 .rw[J];exact lV<|gl (Wy m t (λ_=>Î ⟨e,h⟩) qQ y _ _) λ_=>agm H h _ _
end
def Oq(P:Õ)(s d:Á):Bool:=match P.underlying s,P.underlying d with
 |some (dj e),À ę=>(match P.underlying e with|some (Β .u8)=>É|_=>Ã)
 |some (ð _),À đ=>É
 |some đ,À (ð _)=>É
 |_,_=>Ã
def Ot(P:Õ)(t:Á):Bool:=match P.underlying t with
 |some (ð e)=>(match P.info? e with|some i=>i.size !=0|none=>Ã)
 |_=>Ã
def Ou(P:Õ)(b:à->Bool)(c:Callee)(a:List Ö)(d:List Á):Bool:=match c with
 |ĝ .min=>a.length !=0
 |ĝ bl=>a.length==1
 |ĝ cX=>a.length==2&&(match d with|[t,_]=>JF P t|_=>Ã)
 |cj (aO f)=>b f&&a.length==1
 |_=>Ã
def Ov(P:Õ)(a:à->Bool):Op->Bool
 |cJ _ _|.panic _=>É
 |dU c t _ _ _=>(c==aA||c==aL)&&Ot P t
 |aN s d _=>Oq P s d
 |Ω c=>Ou P a c.callee c.args.toList c.argTypes.toList
 |_=>Ã
def Dc(P:Õ)(a:Nat->Bool)(b c:à->Bool)(o:av):Bool:=Om P a b o||(Ov P c o.op&&o.op.operands.all (wW a))
def F1(P:Õ)(c:à->Bool):Prop:=∀f,c f=É->∃a e,P.funcs[f]?=À a/\(a.name== "runtime.NumGoroutine")=Ã/\a.body.isNone=É/\Extern.findNext a=ë/\Extern.find a=À e/\
 (∀(Y:fq) (v b:Â),fi Y v b->fF P fi Y (e #[v]) (e #[b]))/\∀v,fC P<|e #[v]
theorem JK[Aq P]{g:Nat->Bool}{k x:à->Bool}(C:F1 P x)(h:Dc P g k x o=É):mO P (λj=>g j=É) (λf=>k f=É) o:=by
 rcases Ŝ.1 h with h|h
 .exact afD h
 .let⟨v,S⟩:=Ü.1 h;have q:∀z∈o.op.operands,mD (λj=>g j=É) z:=by
   grind [ŉ,JB,Ń]
  cases n:o.op with
  |makeInterface t y=>exact afE n q
  |panic y=>exact afH n q
  |binOp w t a b r=>
   rw[n]at v;let⟨T,m⟩:=Ü.1 (show((w==aA||w==aL)&&Ot P t)=É from v);have D:w=aA\/w=aL:=by grind
   unfold Ot at m;split at m
   .rename_i e E;split at m
    .rename_i i F;exact agr n D E F (by simpa using m) q
    .cases m
   .cases m
  |convert s d y=>
   rw[n]at v;have m:Oq P s d=É:=v;unfold Oq at m;split at m
   .rename_i e u p;split at m
    .rename_i G;exact afR n u p G q
    .cases m
   .rename_i t u p;exact W8 n (Ç ⟨u,p⟩) q
   .rename_i t u p;exact W8 n (Î ⟨u,p⟩) q
   .cases m
  |call c=>
   rw[n]at v;let⟨H,I,B⟩:=c;have m:Ou P x H I.toList B.toList=É:=v;unfold Ou at m;split at m
   .exact afN n q
   .obtain⟨y,rfl⟩:=JD m;exact afZ n q
   .let⟨u,p⟩:=Ü.1 m;obtain⟨y,z,rfl⟩:=Ol u;let⟨l⟩:=B;match l,p with
    |[t1,t2],p=>exact agi n p q
   .rename_i f;let⟨u,p⟩:=Ü.1 m;obtain⟨y,rfl⟩:=JD p;let⟨V,e,J,K,L,M,N,O,Q⟩:=C f u;exact afS n J K L M N O Q q
   .cases m
  |_=>rw[n]at v;simp[Ov]at v
def nW(P:Õ)(a:Nat->Bool)(b d:à->Bool):ak->Bool
 |.ret|eP|ea _|eS _|eT _=>É
 |.seq x y=>nW P a b d x&&nW P a b d y
 |bz c x y=>wW a c&&nW P a b d x&&nW P a b d y
 |eb _ c|eR c|ec c=>nW P a b d c
 |bQ _ c _=>c.all<|Dc P a b d
 |du _=>É
 |_=>Ã
def vo[Aq P]{g:Nat->Bool}{k x:à->Bool}(a:F1 P x):∀{c:ak},nW P g k x c=É->kN P (λj=>g j=É) (λf=>k f=É) c
 |.ret,_=> .vj
 |eP,_=> .sE
 |ea l,_=> .wK l
 |eS l,_=> .wO l
 |eT l,_=> .wP l
 |.seq y z,h=>by let⟨f,i⟩:=Ü.1 (show(nW P g k x y&&nW P g k x z)=É from h);exact .ru (vo a f) (vo a i)
 |bz c y z,h=>by let⟨f,i⟩:=Ü.1 (show(wW g c&&nW P g k x y&&nW P g k x z)=É from h);let⟨j,f⟩:=Ü.1 f;exact .tK (JB j) (vo a f) (vo a i)
 |eb id c,h=> .rv id (vo a<|show nW P g k x c=É from h)
 |eR c,h=> .wL (vo a<|show nW P g k x c=É from h)
 |ec c,h=> .wN (vo a<|show nW P g k x c=É from h)
 |bQ id ops d,h=> .tL id d λo f=>by obtain⟨i,j,rfl⟩:=ŉ.1 f;exact JK a<|Ń.1 (show ops.all (Dc P g k x)=É from h) i j
 |.rangeFunc _ _ _ _,h=>by simp[nW]at h
 |du w,_=> .nU w
end Go.Proofs.Y.Lift
namespace Go.Proofs.Y.ft
open Go Go.Conc Go.Proofs.Y.Lift
def qE(t:ğ)(g:Nat)(l:dS):Prop:=∀p a,Ě t p=À a->a.loc=l->bD t g p
def po(t:ğ)(g:Nat)(l:dS):Prop:=∀p a,Ě t p=À a->a.loc=l->a.write=É->bD t g p
def qE.r{t:ğ}{l:dS}(h:qE t i l):po t i l:=λp a b c _=>h p a b c
section
variable{t u:ğ}{g:Nat}{l:dS}
theorem mR{a:dN}(h:Ě (t++u) i=À a):(i<t.size/\Ě t i=À a)\/(t.size<=i/\∃x∈u,x.act.touch?=À a/\(t++u)[i]?=À x):=by
 let⟨x,c,d⟩:=dO h;rcases getElem?_append_cases c with⟨b,e⟩|⟨b,f⟩
 .exact Ç ⟨b,by rwa[touchAt_of e]⟩
 .grind
theorem qE.C(h:qE t g l)(j:∀c∈u,∀b,c.act.touch?=À b->b.loc=l->c.g=g):qE (t++u) g l:=by
 intro p a e f;rcases mR e with⟨_,d⟩|⟨_,c,d,k,i⟩
 .exact(h p a d f).app u
 .have:=bn i;grind
theorem po.r(h:po t g l)(k:∀c∈u,∀b,c.act.touch?=À b->b.loc=l->b.write=É->c.g=g):po (t++u) g l:=by
 intro p a e f i;rcases mR e with⟨_,d⟩|⟨_,c,d,m,j⟩
 .exact(h p a d f i).app u
 .have:=bn j;grind
def qE.yt(h:∀p a,Ě t p=À a->a.loc≠l):qE t g l:=λp a b c=>absurd c<|h p a b
theorem Ow(h:∀c,¬eF c t)(l:∀d∈u,d.g=g)(m:∀d∈u,∀b,d.act.touch?=À b->(b.write=Ã/\po t g b.loc)\/qE t g b.loc\/(b.kind=Ŕ/\∀p a,Ě t p=À a->a.loc=b.loc->a.kind=eY->bD t g p)):∀c,¬eF c (t++u):=by
 intro c;refine noRace_append (h c) l λi a f d n b o r=> ?_;let⟨j,v,e,w⟩:=r;rcases m d n b o with⟨s,k⟩|q|⟨s,k⟩
 .rcases e with e|e
  .exact k i a f j e
  .grind
 .exact q i a f j
 .grind
theorem AJ(f:∀c,¬eF c t)(r:∀d∈u,d.act.touch?=ë):∀c,¬eF c (t++u):=by
 intro c;rintro⟨i,j,g,⟨a,b,h,k,l⟩,m,n⟩;rcases mR k with⟨s,e⟩|⟨_,d,e,v,_⟩
 .rcases mR h with⟨o,p⟩|⟨o,_⟩
  .exact f c ⟨i,j,g,⟨a,b,p,e,l⟩,λq=>m<|eh u q,λq=>n<|eh u q⟩
  .omega
 .grind
end
structure e9 where
 O:Nat->Prop
 I:Nat->Prop
 r:Ú->Prop
 N:Ú->Prop
 K:Ú->Prop
 d:Nat
 q:Prop
 w:Æ
def e9.M(l:e9):Nat->Prop:=λj=>l.O j\/l.I j
def e9.C(l:e9):Ú->Prop:=λa=>l.r a\/l.N a
structure fE(l:e9)(w w₁:Æ):Prop where
 r:w.heap.size<=w₁.heap.size
 I:∀j,l.M j->w₁.heap[j]?=w.heap[j]?
 N:∀a,l.C a->w₁.cell? a=w.cell? a
 Y:∀a,l.C a->w₁.frozen? a=w.frozen? a
 S:∀a,l.K a->(w.cell? a).isSome=É->(w₁.cell? a).isSome=É
theorem fE.fV(l:e9)(w:Æ):fE l w w:=⟨ß _,λ_ _=>rfl,λ_ _=>rfl,λ_ _=>rfl,λ_ _ h=>h⟩
def fE.fe{l:e9}{c:Æ}(h:fE l w u)(k:fE l u c):fE l w c:= ⟨õ h.r k.r,λj d=>(k.I j d).trans<|h.I j d,λj d=>(k.N j d).trans<|h.N j d,λj d=>(k.Y j d).trans<|h.Y j d,λw e q=>k.S w e<|h.S w e q⟩
def kV(w:Æ)(b:Nat):Option (Nat×Nat):=match w.heap[b]? with
 |some (Č _ _ fr)=>À fr
 |_=>ë
def wY{w':Æ}(h:w'.heap[b]?=w.heap[b]?):kV w' b=kV w b:=by unfold kV;rw[h]
theorem Xq(w:Æ)(a:Ú):w.frozen? a=match kV w a.block with
 |some (lo,hi)=>decide (lo<=a.off)&&decide (a.off<hi)
 |none=>Ã:=by
 unfold Ĉ kV;grind
def JL(h:kV u a.block=kV w a.block):u.frozen? a=w.frozen? a:=by rw[Xq,Xq,h]
def yF(l:e9)(e:ý):Prop:=
 (∃a:Ú,e.loc=û a/\(l.O a.block\/l.r a\/((l.I a.block\/l.N a)/\e.write=Ã/\e.sync=Ã)))\/e.loc=ů de\/(∃f,e.loc=ů (.extern f))\/e.loc=ů cL\/e.loc=ů dz\/
 ∃a:Ú,l.O a.block/\(e.loc=ů (.read a)\/e.loc=ů (.write a)\/e.loc=ů (Ķ a)\/e.loc=ů (cM a))
structure mE(l l':e9)(w w':Æ)(es:Array ý):Prop where
 C:w.heap.size<=w'.heap.size
 N:∀j,l'.O j->l.O j\/w.heap.size<=j
 fw:∀j,l'.O j->j<w'.heap.size
 rd:l'.I=l.I
 r:l'.r=l.r
 I:l'.N=l.N
 k:l'.K=l.K
 jU:∀j,j<w.heap.size->¬l.O j->(∀a:Ú,a.block=j->¬l.r a)->w'.heap[j]?=w.heap[j]?
 M:∀a:Ú,a.block<w.heap.size->¬l.O a.block->¬l.r a->w'.cell? a=w.cell? a
 S:∀a:Ú,a.block<w.heap.size->¬l.O a.block->kV w' a.block=kV w a.block
 c:w'.os=w.os
 f:w'.output=w.output
 i:w'.tape=w.tape
 b:∀e∈es,yF l' e
 g:l'.d=ŭ l.d es
 q:l'.q=l.q
 h:l.q->w'=w/\(∀e∈es,e.mute=É)/\l'.O=l.O
 Y:l'.w=w'
structure Ox(t:ğ)(g:Nat)(l:e9):Prop where
 fl:∀a:Ú,l.O a.block->qE t g (û a)
 rd:∀a:Ú,l.I a.block->po t g (û a)
 C:∀a:Ú,l.r a->qE t g (û a)
 r:∀a:Ú,l.N a->po t g (û a)
theorem Xr{l:e9}{e:ý}(h:yF l e){b:dN}(c:(è e).touch?=À b):∃a:Ú,b.loc=û a/\(l.O a.block\/l.r a\/((l.I a.block\/l.N a)/\b.write=Ã)):=by
 let⟨k,i,j⟩:=e;rcases h with⟨a,g,d⟩|h|⟨f,h⟩|h|h|⟨a,g,d⟩
 .simp only at g d;subst g;have:(è ⟨û a,i,j⟩).touch?=À ⟨û a,i,if j then Ŕ else eY⟩:=U;grind
 .simp only at h;subst h;simp[è,ÿ]at c
 .simp only at h;subst h;simp[è,ÿ]at c
 .simp only at h;subst h;simp[è,ÿ]at c
 .simp only at h;subst h;simp[è,ÿ]at c
 .simp only at d;rcases d with rfl|rfl|rfl|rfl<;>simp[è,ÿ]at c<;>subst c;all_goals grind
def agt{l:e9}(d:∀j,l.O j->j<i)(k:∀j,l.I j->j<i)(g:∀a:Ú,l.C a->a.block<i){e:ý}(h:yF l e):(è e).low i:=by
 let⟨m,n,o⟩:=e;rcases h with⟨a,c,b⟩|h|⟨f,h⟩|h|h|⟨a,c,b⟩
 .simp only at c b;subst c;rcases b with h|h|⟨h|h,_⟩
  .exact d _ h
  .exact g _<|Ç h
  .exact k _ h
  .exact g _<|Î h
 .simp only at h;subst h;trivial
 .simp only at h;subst h;trivial
 .simp only at h;subst h;trivial
 .simp only at h;subst h;trivial
 .simp only at b;rcases b with rfl|rfl|rfl|rfl<;>exact d _ c
def Xs(B:Nat)(t:ğ):Prop:=∀a∈t,a.act.low B
def Xt(h:Xs i qJ){a:dN}(g:Ě qJ n=À a){x:Ú}(d:a.loc=û x):x.block<i:=by
 let⟨f,j,b⟩:=dO g;have c:=h f<|Û j;revert b c;cases f.act with
 |access e=>
  intro b c;simp only[ÿ,ž]at b;subst b;simp only at d;simp only[MemAct.low,d,Loc.low]at c;exact c
 |mark m=>
  intro b c;cases m<;>simp[ÿ]at b;all_goals
   subst b;simp only[Loc.cell.injEq]at d;subst d;exact c
 |_=>intro b _;simp[ÿ]at b
theorem ot{a:String}:∀op∈Í i F a V,op.g=i:=λop b=>by obtain⟨e,_,rfl⟩:=í (op:=op) b;rfl
structure iR(B0:Nat)(Live:Nat->Prop)(Y:Nat->Prop)(lot:Nat->e9)(w:Æ)(t:ğ):Prop where
 o:∀i j,Live i->Live j->i≠j->∀b,(lot i).O b->¬(lot j).M b
 h:∀i j,Live i->Live j->i≠j->∀a,(lot i).r a->¬(lot j).C a
 m:∀i,Live i->∀b,(lot i).O b->¬(lot i).I b
 g:∀i,Live i->∀a,(lot i).r a->¬(lot i).N a
 I:∀i,Live i->∀b,(lot i).M b->¬Y b
 e:∀i,Live i->∀a,(lot i).C a->Y a.block
 fw:∀i,Live i->∀b,(lot i).M b->b<w.heap.size
 N:∀b,Y b->b<w.heap.size
 r:∀i,Live i->fE (lot i) (lot i).w w
 S:∀i,Live i->Ox t i (lot i)
 f:∀i,Live i->Τ t i=(lot i).d
 l:∀said,¬eF said t
 q:Xs w.heap.size t
 s:∀p a c,Ě t p=À a->a.loc=.obj c->a.kind=eY->c<B0
 n:∀i,Live i->∀a,(lot i).K a->Y a.block/\∀k,Live k->¬(lot k).r a
def gq(lot:Nat->e9)(i:Nat)(l:e9):Nat->e9:=λk=>if k=i then l else lot k
theorem gU(a:Nat->e9)(i:Nat)(l:e9):gq a i l i=l:=if_pos U
theorem gF(a:Nat->e9)(l:e9)(h:k≠i):gq a i l k=a k:=if_neg h
section
variable{B0:Nat}{Live Y:Nat->Prop}{lot:Nat->e9}{w':Æ}{t u:ğ}
def Oy{g:Nat}(a:k≠g)(t:ğ){u:ğ}(b:∀c∈u,c.g=g):Τ (t++u) k=Τ t k:= Deaf_other t (g:=k) (g':=g) (ą a) _ b
def iR.at(h:iR B0 Live Y lot w t)(d:Nat):iR B0 Live Y lot (w.at d) t:= ⟨h.o,h.h,h.m,h.g,h.I,h.e,h.fw,h.N,λi a=>⟨(h.r i a).r,(h.r i a).I,(h.r i a).N,(h.r i a).Y,(h.r i a).S⟩,h.S,h.f,h.l,h.q,h.s,h.n⟩
def iR.agu(h:iR B0 Live Y lot w t)(r:Live i){s:e9}(l:mE (lot i) s w w' V)(E:à)(F:String): iR B0 Live Y (gq lot i s) w' (t++Í i E F V):=by
 have G:=l.N;have Q:∀b,s.M b->(lot i).M b\/w.heap.size<=b:=λb g=>g.elim (λq=>(G b q).imp Ç id) (λq=>Ç<|Î<|by rwa[<-l.rd]);have J:∀a,s.C a↔(lot i).C a:=λa=>by unfold e9.C;rw[l.r,l.I]
 have I:=λk f a d=>h.N _<|h.e k f a d;have L:∀k,Live k->k≠i->∀b,(lot k).M b->¬s.O b:=by
  intro k f y b g c;rcases G b c with q|q
  .exact h.o i k r f (ą y) b q g
  .have:=h.fw k f b g;omega
 have H:∀m∈Í i E F V,∀b,m.act.touch?=À b->∃a:Ú,b.loc=û a/\(s.O a.block\/s.r a\/((s.I a.block\/s.N a)/\b.write=Ã)):=by intro m o b g;obtain⟨e,N,rfl⟩:=í o;exact Xr (l.b e N) g
 have T:∀a:Ú,s.O a.block->qE t i (û a):=by
  intro a d;rcases G _ d with q|q
  .exact(h.S i r).fl a q
  .exact .yt λp x P n=>by have:=Xt h.q P n;omega
 have D:Ox t i s:=⟨T,λa d=>(h.S i r).rd a (by rwa[<-l.rd]),λa d=>(h.S i r).C a (by rwa[<-l.r]),λa d=>(h.S i r).r a<|by rwa[<-l.I]⟩;refine⟨?_,?_,?_,?_,?_,?_,?_,λb g=>Ô (h.N b g) l.C,?_,?_,?_,?_,?_,?_,?_⟩
 .intro k j f u y b g;by_cases c:k=i
  .subst c;rw[gU]at g;rw[gF lot _<|ą y];exact λq=>L j u (ą y) b q g
  .rw[gF lot _ c]at g;by_cases v:j=i
   .subst v;rw[gU];intro q;rcases Q b q with z|z
    .exact h.o k j f u y b g z
    .have:=h.fw k f b<|Ç g;omega
   .rw[gF lot _ v];exact h.o k j f u y b g
 .intro k j f u y a d;by_cases c:k=i
  .subst c;rw[gU,l.r]at d;rw[gF lot _<|ą y];exact h.h k j f u y a d
  .rw[gF lot _ c]at d;by_cases v:j=i
   .subst v;rw[gU,J];exact h.h k j f u y a d
   .rw[gF lot _ v];exact h.h k j f u y a d
 .intro k f b g;by_cases c:k=i
  .subst c;rw[gU]at g|-;rw[l.rd];rcases G b g with z|z
   .exact h.m k f b z
   .intro q;have:=h.fw k f b<|Î q;omega
  .rw[gF lot _ c]at g|-;exact h.m k f b g
 .intro k f a d;by_cases c:k=i
  .subst c;rw[gU]at d|-;rw[l.I];rw[l.r]at d;exact h.g k f a d
  .rw[gF lot _ c]at d|-;exact h.g k f a d
 .intro k f b g;by_cases c:k=i
  .subst c;rw[gU]at g;rcases Q b g with z|z
   .exact h.I k f b z
   .intro y;have:=h.N b y;omega
  .rw[gF lot _ c]at g;exact h.I k f b g
 .intro k f a d;by_cases c:k=i
  .subst c;rw[gU,J]at d;exact h.e k f a d
  .rw[gF lot _ c]at d;exact h.e k f a d
 .intro k f b g;by_cases c:k=i
  .subst c;rw[gU]at g;exact g.elim (l.fw b) λq=>Ô (h.fw k f b<|Î<|by rwa[<-l.rd]) l.C
  .rw[gF lot _ c]at g;exact Ô (h.fw k f b g) l.C
 .intro k f;by_cases c:k=i
  .subst c;rw[gU,l.Y];exact fE.fV _ _
  .rw[gF lot _ c];refine(h.r k f).fe ⟨l.C,λb g=>l.jU b (h.fw k f b g) (λq=>h.o i k r f (ą c) b q g) (λa d q=>h.I k f b g<|by rw[<-d];exact h.e i r a<|Ç q),λa d=>l.M a (I k f a d) (λq=>h.I i r _ (Ç q)<|h.e k f a d) λq=>h.h i k r f (ą c) a q d,λa d=>JL (l.S a (I k f a d) λq=>h.I i r _ (Ç q)<|h.e k f a d),λa d q=> ?_⟩;let⟨y,v⟩:=h.n k f a d;rwa[l.M a (h.N _ y) (λq=>h.I i r _ (Ç q) y)<|v i r]
 .intro k f;by_cases c:k=i
  .subst c;rw[gU];exact⟨λa d=>(D.fl a d).C λm o _ _ _=>ot m o,λa d=>(D.rd a d).r λm o _ _ _ _=>ot m o,λa d=>(D.C a d).C λm o _ _ _=>ot m o,λa d=>(D.r a d).r λm o _ _ _ _=>ot m o⟩
  .rw[gF lot _ c];have W:∀a:Ú,(lot k).O a.block->∀m∈Í i E F V,∀b,m.act.touch?=À b->b.loc=û a->False:=by
    intro a d m o b g n;let⟨x,y,v⟩:=H m o b g;rw[y]at n;injection n with n;subst n;rcases v with q|q|⟨q|q,_⟩
    .exact L k f c _ (Ç d) q
    .exact h.I k f _ (Ç d)<|h.e i r x<|Ç<|by rwa[<-l.r]
    .exact h.o k i f r c _ d<|Î<|by rwa[<-l.rd]
    .exact h.I k f _ (Ç d)<|h.e i r x<|Î<|by rwa[<-l.I]
   have X:∀a:Ú,(lot k).I a.block->∀m∈Í i E F V,∀b,m.act.touch?=À b->b.loc=û a->b.write=É->False:=by
    intro a d m o b g n B;let⟨x,y,v⟩:=H m o b g;rw[y]at n;injection n with n;subst n;rcases v with q|q|⟨_,q⟩
    .exact L k f c _ (Î d) q
    .exact h.I k f _ (Î d)<|h.e i r x<|Ç<|by rwa[<-l.r]
    .rw[q]at B;cases B
   have S:∀a:Ú,(lot k).C a->∀m∈Í i E F V,∀b,m.act.touch?=À b->b.loc=û a->(s.I a.block\/s.N a)/\b.write=Ã:=by
    intro a d m o b g n;let⟨x,y,v⟩:=H m o b g;rw[y]at n;injection n with n;subst n;rcases v with q|q|q
    .exfalso;rcases G _ q with z|z
     .exact h.I i r _ (Ç z)<|h.e k f x d
     .have:=I k f x d;omega
    .exact absurd d<|h.h i k r f (ą c) x<|by rwa[<-l.r]
    .exact q
   refine⟨λa d=>((h.S k f).fl a d).C λm o b g n=>(W a d m o b g n).elim,λa d=>((h.S k f).rd a d).r λm o b g n B=>(X a d m o b g n B).elim,λa d=>((h.S k f).C a d).C λm o b g n=> ?_,λa d=>((h.S k f).r a d).r λm o b g n B=> ?_⟩
   .exfalso;obtain⟨q|q,_⟩:=S a (Ç d) m o b g n
    .exact h.I i r _ (Î<|by rwa[<-l.rd])<|h.e k f a<|Ç d
    .exact h.h k i f r c a d<|Î<|by rwa[<-l.I]
   .have:=(S a (Î d) m o b g n).2;rw[this]at B;cases B
 .intro k f;by_cases c:k=i
  .subst c;rw[gU,l.g,Deaf_own,h.f k f]
  .rw[gF lot _ c,Oy c t ot];exact h.f k f
 .refine Ow h.l ot λm o b g=> ?_;let⟨a,y,v⟩:=H m o b g;rw[y];rcases v with q|q|⟨q,B⟩
  .exact Î<|Ç<|D.fl a q
  .exact Î<|Ç<|D.C a q
  .exact Ç ⟨B,q.elim (D.rd a)<|D.r a⟩
 .intro m o;rcases Ĝ.1 o with q|q
  .exact MemAct.low_mono l.C<|h.q m q
  .obtain⟨e,N,rfl⟩:=í q;refine agt l.fw (λj u=>Ô (h.fw i r j<|Î<|by rwa[<-l.rd]) l.C) (λa d=> ?_)<|l.b e N;rw[J]at d;exact Ô (I i r a d) l.C
 .intro p a c d n f;rcases mR d with⟨_,y⟩|⟨_,m,y,v,_⟩
  .exact h.s p a c y n f
  .let⟨x,P,_⟩:=H m y a v;rw[P]at n;cases n
 .intro k f a d;have y:∀j,(gq lot i s j).r=(lot j).r:=λj=>by
   by_cases e:j=i
   .subst e;rw[gU,l.r]
   .rw[gF lot _ e]
  have c:(gq lot i s k).K=(lot k).K:=by
   by_cases e:k=i
   .subst e;rw[gU,l.k]
   .rw[gF lot _ e]
  rw[c]at d;exact⟨(h.n k f a d).1,λj u=>by rw[y];exact(h.n k f a d).2 j u⟩
end
def F2(Live Y:Nat->Prop)(d:Nat->e9)(b:dN):Prop:=(∃a:Ú,b.loc=û a/\Y a.block/\∀k,Live k->¬(d k).C a)\/∃c,b.loc=.obj c/\Y c/\b.kind=Ŕ
structure pX(Live Y:Nat->Prop)(lot:Nat->e9)(w w':Æ):Prop where
 r:w'.heap.size=w.heap.size
 jU:∀j,¬Y j->w'.heap[j]?=w.heap[j]?
 M:∀k,Live k->∀a,(lot k).C a->w'.cell? a=w.cell? a
 N:∀k,Live k->∀a,(lot k).C a->w'.frozen? a=w.frozen? a
 I:∀a,(w.cell? a).isSome=É->(w'.cell? a).isSome=É
theorem pX.fV(Live Y:Nat->Prop)(a:Nat->e9)(w:Æ):pX Live Y a w w:=⟨U,λ_ _=>rfl,λ_ _ _ _=>rfl,λ_ _ _ _=>rfl,λ_ h=>h⟩
structure vp(w':Æ)(l l':e9):Prop where
 O:l'.O=l.O
 N:l'.I=l.I
 r:l'.r=l.r
 I:l'.N=l.N
 K:l'.K=l.K
 w:l'.w=l.w\/l'.w=w'
theorem vp.fV(w':Æ)(l:e9):vp w' l l:=⟨U,U,U,U,U,Ç U⟩
def vp.M{w':Æ}{l a:e9}(h:vp w' l a):a.M=l.M:=by unfold e9.M;rw[h.O,h.N]
def vp.C{w':Æ}{l a:e9}(h:vp w' l a):a.C=l.C:=by unfold e9.C;rw[h.r,h.I]
def fE.agv{l c:e9}(h:vp w l c)(r:fE l u W):fE c u W:= ⟨r.r,by rw[h.M];exact r.I,by rw[h.C];exact r.N,by rw[h.C];exact r.Y,by rw[h.K];exact r.S⟩
section
variable{Live Y:Nat->Prop}{lot o:Nat->e9}{w':Æ}{t u:ğ}
def iR.G(h:iR n Live Y lot w t)(m:∀k,vp w' (lot k)<|o k)(s:pX Live Y lot w w')(B:∀l∈u,∀b,l.act.touch?=À b->F2 Live Y lot b)(g:∀l∈u,l.act.low w.heap.size)(E:∀F,¬eF F (t++u))(G:∀k,Live k->Τ (t++u) k=(o k).d):iR n Live Y o w' (t++u) where
 o i j hi v lr b q:=by rw[(m j).M];exact h.o i j hi v lr b<|by rwa[<-(m i).O]
 h i j hi v lr a f:=by rw[(m j).C];exact h.h i j hi v lr a<|by rwa[<-(m i).r]
 m i hi b q:=by rw[(m i).N];exact h.m i hi b<|by rwa[<-(m i).O]
 g i hi a f:=by rw[(m i).I];exact h.g i hi a<|by rwa[<-(m i).r]
 I i hi b q:=h.I i hi b (by rwa[<-(m i).M]);e i hi a f:=h.e i hi a (by rwa[<-(m i).C]);fw i hi b q:=by rw[s.r];exact h.fw i hi b<|by rwa[<-(m i).M]
 N b q:=by rw[s.r];exact h.N b q
 r i hi:=by
  rcases(m i).w with e|e
  .rw[e];refine((h.r i hi).fe ⟨dA s.r.symm,λj v=>s.jU j<|h.I i hi j v,λa f=>s.M i hi a f,λa f=>s.N i hi a f,λa _=>s.I a⟩).agv<|m i
  .rw[e];exact fE.fV _ _
 S i hi:=by
  have z:∀a:Ú,(lot i).M a.block->∀l∈u,∀b,l.act.touch?=À b->b.loc=û a->False:=by
   intro a f l e b q g;rcases B l e b q with⟨x,r,y,_⟩|⟨c,r,_⟩
   .rw[r]at g;injection g with g;subst g;exact h.I i hi _ f y
   .rw[r]at g;cases g
  have D:∀a:Ú,(lot i).C a->∀l∈u,∀b,l.act.touch?=À b->b.loc=û a->False:=by
   intro a f l e b q g;rcases B l e b q with⟨x,r,_,y⟩|⟨c,r,_⟩
   .rw[r]at g;injection g with g;subst g;exact y i hi f
   .rw[r]at g;cases g
  exact⟨λa f=>((h.S i hi).fl a<|by rwa[<-(m i).O]).C λl e b q g=>(z a (Ç<|by rwa[<-(m i).O]) l e b q g).elim,λa f=>((h.S i hi).rd a<|by rwa[<-(m i).N]).r λl e b q g _=>(z a (Î<|by rwa[<-(m i).N]) l e b q g).elim,λa f=>((h.S i hi).C a<|by rwa[<-(m i).r]).C λl e b q g=>(D a (Ç<|by rwa[<-(m i).r]) l e b q g).elim,λa f=>((h.S i hi).r a<|by rwa[<-(m i).I]).r λl e b q g _=>(D a (Î<|by rwa[<-(m i).I]) l e b q g).elim⟩
 f:=G;l:=E;q l e:=by rw[s.r];exact(Ĝ.1 e).elim (h.q l)<|g l
 s p a c f g z:=by
  rcases mR f with⟨_,r⟩|⟨_,l,r,y,_⟩
  .exact h.s p a c r g z
  .rcases B l r a y with⟨x,D,_⟩|⟨x,_,_,D⟩
   .rw[D]at g;cases g
   .rw[D]at z;cases z
 n i hi a f:=by rw[(m i).K]at f;exact⟨(h.n i hi a f).1,λk z=>by rw[(m k).r];exact(h.n i hi a f).2 k z⟩
end
structure gw(l:e9):Prop where
 c:∀b,l.O b->¬l.I b
 Y:∀a,l.r a->¬l.N a
 N:∀a,l.C a->¬l.M a.block
 fw:∀b,l.M b->b<l.w.heap.size
 I:∀a,l.C a->a.block<l.w.heap.size
 S:∀a,l.K a->¬l.M a.block/\a.block<l.w.heap.size/\¬l.r a
def iR.M{Live Y:Nat->Prop}{c:Nat->e9}(h:iR n Live Y c w qJ)(b:Live i):gw {c i with w:=w} where
 c:=h.m i b;Y:=h.g i b;N a ha hb:=h.I i b _ hb<|h.e i b a ha;fw:=h.fw i b;I a ha:=h.N _<|h.e i b a ha;S a ha:=⟨λq=>h.I i b _ q (h.n i b a ha).1,h.N _ (h.n i b a ha).1,(h.n i b a ha).2 i b⟩
abbrev Jd:=e9->Ó->Prop
inductive fh(P:Õ)(main:Bool)(Stop:Jd):Jd
 |fA {l:e9} {g:Ó} (h:∀w₁,fE l l.w w₁->Stop {l with w:=w₁} g):fh P main Stop l g
 |jM {l:e9} {g:Ó} (G':Æ->Ó) (W':Æ->Æ) (E':Æ->Array ý) (L':Æ->e9) (iI:g.status=Ð)
  (h:∀w₁,fE l l.w w₁->Ù P main g w₁=aS (G' w₁) (W' w₁) (E' w₁)) (hd:∀w₁,fE l l.w w₁->mE l (L' w₁) w₁ (W' w₁) (E' w₁))
  (ih:∀w₁,fE l l.w w₁->fh P main Stop (L' w₁) (G' w₁)):fh P main Stop l g
instance:Nonempty e9:=⟨⟨λ_=>False,λ_=>False,λ_=>False,λ_=>False,λ_=>False,0,False,default⟩⟩
instance:Nonempty (Goroutine×World×Array Event×e9):=⟨(default,default,#[],Classical.choice inferInstance)⟩
section
variable{main:Bool}{Stop m:Jd}
def fh.mk{l:e9}(i:g.status=Ð) (h:∀a,fE l l.w a->∃b c d e,Ù P main g a=aS b c d/\mE l e a c d/\fh P main Stop e b):fh P main Stop l g:=by
 let p:=λ(a:Æ) (x:Goroutine×World×Array Event×e9)=>Ù P main g a=aS x.1 x.2.1 x.2.2.1/\mE l x.2.2.2 a x.2.1 x.2.2.1/\fh P main Stop x.2.2.2 x.1
 have f:∀a,fE l l.w a->p a (Classical.epsilon<|p a):=λa r=>Classical.epsilon_spec (let⟨b,c,d,e,h⟩:=h a r;⟨(b,c,d,e),h⟩);exact .jM (λa=>(Classical.epsilon<|p a).1) (λa=>(Classical.epsilon<|p a).2.1) (λa=>(Classical.epsilon<|p a).2.2.1) (λa=>(Classical.epsilon<|p a).2.2.2) i (λa r=>(f a r).1) (λa r=>(f a r).2.1) λa r=>(f a r).2.2
def fh.j5{l:e9}{w₁:Æ}(h:fh P main Stop l g)(r:fE l l.w w₁):fh P main Stop {l with w:=w₁} g:=by
 have e:∀{a b:Æ},fE {l with w:=w₁} a b->fE l a b:=λq=>⟨q.r,q.I,q.N,q.Y,q.S⟩;cases h with
 |fA h=>exact .fA λc d=>h c<|r.fe<|e d
 |jM f i j m n h o p=>
  exact .jM f i j m n (λc d=>h c<|r.fe<|e d) (λc d=>let q:=o c<|r.fe<|e d;⟨q.C,q.N,q.fw,q.rd,q.r,q.I,q.k,q.jU,q.M,q.S,q.c,q.f,q.i,q.b,q.g,q.q,q.h,q.Y⟩) λc d=>p c<|r.fe<|e d
def fh.fO(a:∀l g,Stop l g->m l g){l:e9}(h:fh P main Stop l g):fh P main m l g:=by
 induction h with
 |fA h=>exact .fA λb r=>a _ _<|h b r
 |jM b r c d e h f _ i=>exact .jM b r c d e h f i
def fh.fe{l:e9}(h:fh P main (fh P main Stop) l g):fh P main Stop l g:=by
 induction h with
 |fA h=>exact h _<|fE.fV _ _
 |jM a b c d e h f _ i=>exact .jM a b c d e h f i
def fh.lD(a:∀l g,Stop l g->fh P main m l g){l:e9}(h:fh P main Stop l g):fh P main m l g:=(h.fO a).fe
end
inductive gu where
 |fA:gu
 |jM (k:Æ->gu):gu
def Xu(x:gu):gu->Prop
 |.fA=>False
 |.jM k=>∃w,x=k w
def Xv:WellFounded Xu:=⟨λa=>by
 induction a with
 |fA=>exact⟨_,λy h=>h.elim⟩
 |jM k b=>exact⟨_,λy ⟨w,h⟩=>h▸b w⟩⟩
def lh(P:Õ)(b:Bool)(c:Jd):gu->Jd
 |.fA,l,g=>∀a,fE l l.w a->c {l with w:=a} g
 |.jM k,l,g=>g.status=Ð/\∀a,fE l l.w a->∃d e f h,Ù P b g a=aS d e f/\mE l h a e f/\lh P b c (k a) h d
section
variable{main:Bool}{Stop:Jd}
theorem jk{l:e9}(h:fh P main Stop l g):∃tr,lh P main Stop tr l g:=by
 induction h with
 |fA h=>exact⟨.fA,h⟩
 |@jM l g G' W' E' L' iI h hd _ ih=>
  have b:∀a,∃tr,fE l l.w a->lh P main Stop tr (L' a) (G' a):=by
   intro a;by_cases r:fE l l.w a
   .grind
   .exact⟨.fA,λq=>absurd q r⟩
  refine⟨.jM λa=>Classical.choose<|b a,iI,λa r=>⟨G' a,W' a,E' a,L' a,h a r,hd a r,Classical.choose_spec (b a) r⟩⟩
end
theorem agw{l:e9}{b:Nat->Prop}(d:∀j,X j->l.O j)(f:∀j,b j->l.I j){e:ý}(h:Jw X b e):yF l e:=by
 rcases h with⟨a,c,g,i⟩|h|h
 .refine Ç ⟨a,c,?_⟩;grind
 .exact Î<|Ç h
 .exact Î<|Î<|Ç h
theorem agx{b:Nat->Prop}(h:∀e∈V,Jw X b e)(d:Nat):ŭ d V=d:=by refine bq (λe c=> ?_) d;rcases h e c with⟨a,g,_⟩|h|⟨f,h⟩;all_goals grind
theorem gM{w':Æ}(h:w'.heap[a.block]?=w.heap[a.block]?):w'.cell? a=w.cell? a:=by unfold Ġ;rw[h]
def wZ(h:u.heap[a.block]?=w.heap[a.block]?):u.frozen? a=w.frozen? a:=by unfold Ĉ;rw[h]
def agy{t:(Nat->Prop)->Ó->Æ->Prop}{O:Nat->Prop}(h:vl P yQ X t O g w):∀l:e9,l.w=w->(∀j,O j->l.O j)->(∀j,X j->l.I j)->(∀j,l.O j->j<w.heap.size)->¬l.q-> fh P yQ (λa b=>∃f,t f b a.w/\(∀j,O j->f j)/\(∀j,f j->a.O j)/\(∀j,l.O j->a.O j)/\(∀j,a.O j->l.O j\/f j)/\(∀j,a.O j->l.O j\/w.heap.size<=j)/\a.I=l.I/\a.r=l.r/\a.N=l.N/\a.d=l.d/\a.q=l.q/\a.K=l.K) l g:=by
 induction h with
 |@fA O g w h=>
  intro l e i m _ _;refine .fA λb r=>⟨O,h b ⟨by rw[<-e];exact r.r,λj c=>by rw[r.I j (c.elim (λq=>Ç<|i j q) λq=>Î<|m j q),e]⟩,λ_ q=>q,i,λ_ q=>q,λ_ q=>Ç q,λ_ q=>Ç q,U,U,U,U,U,U⟩
 |@jM O g w G' W' E' f iI h hd _ ih=>
  intro l e i m C u;refine .mk iI λb r=> ?_;have n:yA (λj=>O j\/X j) w b:=⟨by rw[<-e];exact r.r,λj c=>by rw[r.I j (c.elim (λq=>Ç<|i j q) λq=>Î<|m j q),e]⟩;have D:=hd b n;have o:=n.r;have v:∀j,(l.O j\/f b j)->j<(W' b).heap.size:=λj c=>c.elim (λq=>Ô (C j q)<|õ o D.r)<|D.fw j;have p:∀j,j<b.heap.size->¬l.O j->(W' b).heap[j]?=b.heap[j]?:=λj c k=>D.jU j c λq=>k<|i j q;refine⟨G' b,W' b,E' b,{l with O:=λj=>l.O j\/f b j,w:=W' b},h b n,⟨D.r,λj c=>c.elim Ç λq=>(D.I j q).imp (i j) id,v,U,U,U,U,λj c k _=>p j c k,λa s k _=>gM<|p _ s k,λa s k=>wY<|p _ s k,D.N,D.S,D.Y,λx E=>agw (l:={l with O:=λj=>l.O j\/f b j,w:=W' b}) (λj q=>Î q) m<|D.C x E,(agx D.C _).symm,U,λq=>absurd q u,U⟩,?_⟩;have:=ih b n {l with O:=λj=>l.O j\/f b j,w:=W' b} U (λj q=>Î q) m v u;apply this.fO;rintro N Q ⟨F,G,B,H,I,J,L,M⟩;refine⟨F,G,λj q=>B j<|D.M j q,H,λj q=>I j<|Ç q,λj q=> ?_,λj q=> ?_,M⟩
  .rcases J j q with(z|z)|z
   .exact Ç z
   .exact Î<|B j z
   .exact Î z
  .rcases L j q with(z|z)|z
   .exact Ç z
   .rcases D.I j z with y|y
    .exact Ç<|i j y
    .exact Î<|õ o y
   .exact Î<|õ (õ o D.r) z
def kA(a:Ú):ý:=⟨û a,Ã,É⟩
def mS(a:Ú):ý:=⟨û a,É,É⟩
def jV(m:Mark):ý:=⟨ů m,Ã,É⟩
def fY:Int:=4294967296
def Dd(c:Nat):Array ý:=#[⟨.obj c,Ã,É⟩,⟨.obj c,É,É⟩]
section
variable(P:Õ)(main:Bool)
def F3(m:Mark)(N:Jd):Jd:=λl g=>g.status=Ð/\∃a,(∀b,Ù P main g b=aS a b #[jV m])/\fh P main N l a
def Xw(a:Ú)(N:Int->Jd):Jd:=λl g=>g.status=Ð/\∀v,∃c,(∀b:Æ,b.cell? a=À (Ć æ v)->Ù P main g b=aS c b #[kA a])/\fh P main (N v) l c
def Oz(a:Ú)(d:Int)(N:Int->Jd):Jd:=λl g=>g.status=Ð/\∀v,∃c,(∀b:Æ,b.cell? a=À (Ć æ v)->b.frozen? a=Ã->Ù P main g b=aS c (b.setCell a<|Ć æ<|æ.wrap<|v+d) #[kA a,mS a])/\N (æ.wrap<|v+d) l c
def agz(a:Ú)(v:Int)(N:Jd):Jd:=λl g=>g.status=Ð/\∃c,(∀(b:Æ) (x:Int),b.cell? a=À (Ć æ x)->b.frozen? a=Ã->Ù P main g b=aS c (b.setCell a<|Ć æ v) #[mS a])/\fh P main N l c
def agA(a:Ú)(N:Jd):Jd:=λl g=>g.status=Ð/\g.offers=ë/\(∀b:Æ,b.cell? a=À (Ć ŗ 0)->Ù P main g b=aS {g with status:=Ů} b #[])/\
 ∃c,(∀(b:Æ) (n:Int),n≠0->b.cell? a=À (Ć ŗ n)->b.frozen? a=Ã->Ù P main g b=aS c (b.setCell a<|Ć ŗ<|n-1) (semEvents a))/\fh P main N l c
def agB(a:Ú)(N:Jd):Jd:=λl g=>g.status=Ð/\mayWake P g=É/\∃c,c.status=Ð/\(∀(b:Æ) (n:Int),b.cell? a=À (Ć ŗ n)->b.frozen? a=Ã->Ù P main g b=aS c (b.setCell a<|Ć ŗ<|ŗ.wrap<|n+1) (semEvents a))/\N l c
def w7(c:Nat)(z:Â)(N:Option Â->Jd):Jd:=λl g=>g.status=Ð/\g.offers=ë/\(∀x,Ù P main g x=.comm g #[θ c z] É (.recv É) x #[])/\
 ∀x:Option Â,fh P main (N x) l {g with frame:=g.frame.finish (ſ #[x.getD z,Ľ x.isSome])}
def AK(c:Nat)(v:Â)(N:Jd):Jd:=λl g=>g.status=Ð/\g.offers=ë/\(∀a,∃b,Ù P main g a=.comm g #[scase c v b] É .send a #[])/\fh P main N l {g with frame:=g.frame.finish ľ}
def JN(c:Nat)(N:Jd):Jd:=λl g=>g.status=Ð/\mayWake P g=É/\∃a,a.status=Ð/\(∀(b:Æ) cap buf s r tm,b.heap[c]?=À (χ cap buf Ã s r tm)->Ù P main g b=aS a (b.setChan c cap buf É s r tm) (Dd c))/\fh P main N l a
def pv(n:Nat):Jd:=λl g=>QuitsD P n l.d g
inductive SP where
 |fZ (n:Nat)
 |ld (v:Int) (m:Nat)
def De(a:Ú)(B:Nat)(d e:Int->Jd)(p:SP):Jd:=λl g=>∃T:SP->Ó->Prop,T p g/\∀p g,T p g->g.status=Ð/\match p with
 |.fZ (n+1)=>n+1<=B/\(T (.fZ 0) g\/∀b,∃c,Ù P main g b=aS c b #[]/\T (.fZ n) c)
 |.fZ 0=>∀v,∃c,(∀b:Æ,b.cell? a=À (Ć æ v)->Ù P main g b=aS c b #[kA a])/\(if 0<=v/\v<fY then v<1000000->fh P main (d v) l c else(fY<=v/\v<fY*2147483648/\v%fY<1000000)->∃m,m<=B/\T (.ld v m) c)
 |.ld v (m+1)=>fY<=v/\m+1<=B/\(T (.ld v 0) g\/∀b,∃c,Ù P main g b=aS c b #[]/\T (.ld v m) c)
 |.ld v 0=>fY<=v/\(∃c,(∀b:Æ,b.cell? a=À (Ć æ v)->b.frozen? a=Ã->Ù P main g b=aS c (b.setCell a<|Ć æ<|æ.wrap<|v+1) #[kA a,mS a])/\fh P main (e v) l c)/\
  ∃c,(∀(b:Æ) (x:Int),x≠v->b.cell? a=À (Ć æ x)->b.frozen? a=Ã->Ù P main g b=aS c b #[kA a])/\∃n,n<=B/\T (.fZ n) c
end
section
variable{P:Õ}{main:Bool}
def JO{e f:Int->Jd}{p:SP}{l:e9}{w₁:Æ}(h:De P main a i e f p l g)(r:fE l l.w w₁):De P main a i e f p {l with w:=w₁} g:=by
 let⟨T,o,h⟩:=h;refine⟨T,o,λp g j=>⟨(h p g j).1,?_⟩⟩;have:=(h p g j).2;match p,this with
 |.fZ (n+1),q=>exact q
 |.fZ 0,q=>
  intro v;let⟨c,d,b⟩:=q v;refine⟨c,d,?_⟩;by_cases k:0<=v/\v<fY
  .rw[if_pos k]at b|-;exact λq=>(b q).j5 r
  .rw[if_neg k]at b|-;exact b
 |.ld v (m+1),q=>exact q
 |.ld v 0,⟨q0,⟨c,d,b⟩,q⟩=>exact⟨q0,⟨c,d,b.j5 r⟩,q⟩
end
inductive iA where
 |no|iB|sK (c:Nat) (z:Â)
inductive xa(g0:Ó):iA->Ó->Prop
 |gk {k:iA}:xa g0 k g0
 |nX (h:g0.status=Ð) (ho:g0.offers=ë):xa g0 .iB {g0 with status:=Ů}
 |tN (c:Nat) (z:Â) (h:g0.status=Ð):xa g0 (.sK c z) (Γ g0 #[θ c z]<|.recv É)
 |nt (c:Nat) (z:Â) (h:g0.status=Ð):xa g0 (.sK c z) {Γ g0 #[θ c z] (.recv É)with status:=Ð}
section
variable{P:Õ}
theorem agC(h:g.status=Ð\/g.status=Ğ)(w:Æ):g.again w=g:=by unfold ι;grind
theorem OA{a o:Ó}(h:o.status=Ð\/o.status=Ğ):ţ P g a w o=o:=by unfold ţ;grind [agC]
def xa.F4{g0 a b:Ó}{k:iA}(h:xa g0 k g)(d:g0.status=Ð\/g0.status=Ğ):xa g0 k (ţ P a b w g):=by
 cases h with
 |gk=>rw[OA d];exact .gk
 |nX h c=>
  unfold ţ;split
  .have:ι w {g0 with status:=Ů}=g0:=by
    let⟨z,e,st,f,i⟩:=g0;simp only at h c;subst h c;rfl
   rw[this];exact .gk
  .exact .nX h c
 |tN c z h=>
  unfold ţ;split
  .unfold ι Γ;simp only[];split
   .exact .nt c z h
   .exact .tN c z h
  .exact .tN c z h
 |nt c z h=>
  rw[OA<|Ç U];exact .nt c z h
end
structure gN(P:Õ)(B0:Nat)(Y:Nat->Prop)(S:Nat->Jd)(tr:Nat->gu)(kp:Nat->iA)(lot:Nat->e9)(gs:Array Ó)(w:Æ)(t:ğ):Prop where
 r:iR B0 (λi=>i<gs.size) Y lot w t
 C:∀i g,gs[i]?=À g->∃g0,lh P (i==0) (S i) (tr i) (lot i) g0/\xa g0 (kp i) g/\(g0.status=Ð\/g0.status=Ğ)/\(g=g0\/tr i=.fA)
 I:∀j,gs.size<=j->Τ t j=0
def fx{α:Type}(f:Nat->α)(i:Nat)(x:α):Nat->α:=λk=>if k=i then x else f k
theorem gD{α:Type}(f:Nat->α)(i:Nat)(x:α):fx f i x i=x:=if_pos U
theorem fG{α:Type}(f:Nat->α)(x:α)(h:k≠i):fx f i x k=f k:=if_neg h
section
variable{P:Õ}{B0:Nat}{Y:Nat->Prop}{S:Nat->Jd}{tr:Nat->gu}{kp:Nat->iA}{lot:Nat->e9}{gs:Array Ó}{w':Æ}{t:ğ}{sl:Option (Nat×Nat)}
theorem OB{a:Ó}(b:gs[i]?=À g)(h:Ù P (i==0) g w=aS a w' V): ∃gs',cZ P (ķ gs w sl) i=(ň<|ķ gs' w' sl,Í i g.frame.fn g.frame.place V)/\gs'.size=gs.size/\gs'[i]?=À a/\∀k,k≠i->gs'[k]?=gs[k]?.map (ţ P g a w'):=by refine⟨_,runT_crowd_go b h,fj,by simp[(Ë.1 b).1],λk c=> ?_⟩;grind
def gN.at(a:gN P B0 Y S tr kp lot gs w t)(d:Nat):gN P B0 Y S tr kp lot gs (w.at d) t:=⟨a.r.at d,a.C,a.I⟩
theorem gN.Xx(f:gN P B0 Y S tr kp lot gs w t){a:Ó}{J:Jd}{T:gu}{K:iA}{d:e9}(h:gs[i]?=À g)(o:Ù P (i==0) g w=aS a w' V) (B:iR B0 (λi=>i<gs.size) Y (gq lot i d) w' (t++Í i g.frame.fn g.frame.place V)) (hF:lh P (i==0) J T d a) (p:a.status=Ð\/a.status=Ğ): ∃b,cZ P (ķ gs w sl) i=(ň<|ķ b w' sl,Í i g.frame.fn g.frame.place V)/\b.size=gs.size/\b[i]?=À a/\(∀k,k≠i->b[k]?=gs[k]?.map (ţ P g a w'))/\ gN P B0 Y (fx S i J) (fx tr i T) (fx kp i K) (gq lot i d) b w' (t++Í i g.frame.fn g.frame.place V):=by
 obtain⟨b,q,r,l,m⟩:=OB h o;have C:=(Ë.1 h).1;refine⟨b,q,r,l,m,?_,λk x c=> ?_,λj D=> ?_⟩
 .grind
 .by_cases e:k=i
  .subst e;rw[l]at c;obtain rfl:=Ĥ c;rw[gD,gD,gD,gU];exact⟨a,hF,.gk,p,Ç U⟩
  .rw[m k e]at c;obtain⟨y,s,rfl⟩:=ģ.1 c;rw[fG S _ e,fG tr _ e,fG kp _ e,gF lot _ e];let⟨g0,u,v,n,z⟩:=f.C k y s;refine⟨g0,u,v.F4 n,n,z.imp (λe=> ?_) id⟩;grind [OA]
 .rw[Oy Z t ot];exact f.I j Z
theorem agD{J:Jd}{k:Æ->gu}{l:e9}(h:lh P yQ J (.jM k) l g):g.status=Ð:=h.1
def gN.fl(f:gN P B0 Y S tr kp lot gs w t){k:Æ->gu}(m:gs[i]?=À g)(n:tr i=.jM k)(s:∀l g,S i l g->g.status=Ð\/g.status=Ğ): ∃c w' d h,cZ P (ķ gs w sl) i=(ň<|ķ c w' sl,Í i g.frame.fn g.frame.place d)/\c.size=gs.size/\(∃b,c[i]?=À b/\(b.status=Ð\/b.status=Ğ))/\(∀k,k≠i->∃a j:Ó,c[k]?=gs[k]?.map (ţ P a j w'))/\mE (lot i) h w w' d/\ gN P B0 Y S (fx tr i<|k w) kp (gq lot i h) c w' (t++Í i g.frame.fn g.frame.place d):=by
 have o:=(Ë.1 m).1;let⟨g0,hF,F,_,u⟩:=f.C i g m;obtain rfl:g=g0:=u.resolve_right (by rw[n];simp);rw[n]at hF;let⟨G,hF⟩:=hF;let⟨b,w',d,h,v,p,e⟩:=hF w<|f.r.r i o;have q:b.status=Ð\/b.status=Ğ:=by
  cases j:k w with
  |fA=>rw[j]at e;exact s _ _<|e _<|fE.fV _ _
  |jM r=>rw[j]at e;exact Ç e.1
 obtain⟨c,x,y,z,B,r⟩:=f.Xx m v (f.r.agu o p _ _) e q;refine⟨c,w',d,h,x,y,⟨b,z,q⟩,λj C=>⟨g,b,B j C⟩,p,?_⟩;have D:fx S i (S i)=S:=by funext j;unfold fx;split<;>simp[*]
 have E:fx kp i (kp i)=kp:=by funext j;unfold fx;split<;>simp[*]
 rwa[D,E]at r
theorem gN.qF(c:gN P B0 Y S tr kp lot gs w t){a:Ó}{J:Jd}{K:iA}{T:gu}(l:gs[i]?=À g)(m:Ù P (i==0) g w=aS a w' V)(n:pX (λi=>i<gs.size) Y lot w w') (hF:lh P (i==0) J T {lot i with d:=ŭ (lot i).d V,w:=w'} a) (o:a.status=Ð\/a.status=Ğ) (p:∀e∈V,(∀b,(è e).touch?=À b->F2 (λi=>i<gs.size) Y lot b)/\(è e).low w.heap.size) (q:∀r,¬eF r (t++Í i g.frame.fn g.frame.place V)): ∃gs',cZ P (ķ gs w sl) i=(ň<|ķ gs' w' sl,Í i g.frame.fn g.frame.place V)/\gs'.size=gs.size/\gs'[i]?=À a/\(∀k,k≠i->gs'[k]?=gs[k]?.map (ţ P g a w'))/\ gN P B0 Y (fx S i J) (fx tr i T) (fx kp i K) (gq lot i {lot i with d:=ŭ (lot i).d V,w:=w'}) gs' w' (t++Í i g.frame.fn g.frame.place V):=by
 refine c.Xx l m (c.r.G (λk=> ?_) n (λh f b j=> ?_) (λh f=> ?_) q λk h=> ?_) hF o
 .by_cases e:k=i
  .subst e;rw[gU];exact⟨U,U,U,U,U,Î U⟩
  .grind [gF,vp.fV]
 .obtain⟨e,j,rfl⟩:=í f;grind
 .obtain⟨e,j,rfl⟩:=í f;exact(p e j).2
 .by_cases e:k=i
  .subst e;rw[gU,Deaf_own,c.r.f k h]
  .rw[gF lot _ e,Oy e t ot];exact c.r.f k h
def gN.OC(h:gN P B0 Y S tr kp lot gs w t)(p:gs[i]?=À g)(x:i≠0)(l:g.status=Ð)(q:kp i=.no)(y:tr i=.fA)(z:S i=pv P n): ∃c f b,n=b+1/\cZ P (ķ gs w sl) i=(ň<|ķ c w sl,Í i g.frame.fn g.frame.place f)/\c.size=gs.size/\(∀k,k≠i->∃a e:Ó,c[k]?=gs[k]?.map (ţ P a e w))/\(∀e∈f,e.mute=É)/\ gN P B0 Y (fx S i<|pv P b) tr kp (gq lot i {lot i with d:=ŭ (lot i).d f,w:=w}) c w (t++Í i g.frame.fn g.frame.place f):=by
 let⟨g0,hF,r,L,_⟩:=h.C i g p;have B:g=g0:=by
  rw[q]at r;cases r with
  |gk=>rfl
 subst B;rw[y,z]at hF;have s:=hF w<|h.r.r i<|(Ë.1 p).1;cases n with
 |zero=>rw[s.1]at l;cases l
 |succ n=>
  rcases s with⟨C,_⟩|⟨_,D,f,a,E,u⟩
  .rw[C]at l;cases l
  have m:(i==0)=Ã:=by simpa using x
  have F:fx kp i .no=kp:=by funext j;unfold fx;split<;>simp[*]
  have G:fx tr i .fA=tr:=by funext j;unfold fx;split<;>simp[*]
  obtain⟨c,H,I,_,K,v⟩:=h.qF (J:=pv P n) (T:=.fA) p (by rw[m];exact E w) (pX.fV _ _ _ _) (λ_ _=>u) u.status (λe o=>⟨λb m=>(by rw[ei<|a e o]at m;cases m),low_mute (a e o) _⟩) (AJ h.r.l λM b=>by obtain⟨e,o,rfl⟩:=í b;exact ei<|a e o);rw[F,G]at v;exact⟨c,f,n,U,H,I,λk q=>⟨g,D,K k q⟩,a,v⟩
end
def xb(u:ğ):Prop:=∀a∈u,a.act.touch?=ë/\∀m,a.act≠Ř m
theorem agE(t:ğ)(a:c8)(b:a.act≠Ř cL)(c:a.act≠Ř dz)(j:Nat):Τ (t.push a) j=Τ t j:=by
 have d:t.push a=t++#[a]:=fj
 unfold Τ;rw[d,show(t++#[a]).size=t.size+1 by simp];show(match(t++#[a])[t.size]? with
  |some {g:=h,act:=Ř cL, .. }=>if h=j then(t++#[a]).deaf j t.size+1 else(t++#[a]).deaf j t.size
  |some {g:=h,act:=Ř dz, .. }=>if h=j then(t++#[a]).deaf j t.size-1 else(t++#[a]).deaf j t.size
  |_=>(t++#[a]).deaf j t.size)=_
 have e:(t++#[a])[t.size]?=À a:=fj
 rw[e];let⟨g,f,i,k⟩:=a;simp only at b c;split
 .grind
 .grind
 .exact cO<|ß _
def Xy(t:ğ):∀(u:List c8),(∀a∈u,a.act≠Ř cL/\a.act≠Ř dz)->∀j,Τ (t++u.toArray) j=Τ t j
 |[],_,j=>by simp
 |a::u,h,j=>by
  have e:t++(a::u).toArray=(t.push a)++u.toArray:=by apply Array.ext';simp
  rw[e,Xy (t.push a) u (λx b=>h x<|by simp[b]) j];exact agE t a (h a fj).1 (h a fj).2 j
def JP{u:ğ}(h:xb u)(j:Nat):Τ (qJ++u) j=Τ qJ j:=by have:=Xy qJ u.toList (λa b=>⟨(h a<|by simpa using b).2 _,(h a<|by simpa using b).2 _⟩) j;simpa using this
section
variable{S:Nat->Jd}{C:Nat->gu}{B:Nat->iA}{lot:Nat->e9}{u:ğ}{sl:Option (Nat×Nat)}
def iR.agF{Live:Nat->Prop}(h:iR i Live X lot w qJ)(f:pX Live X lot w W)(c:xb u)(g:∀a∈u,a.act.low w.heap.size):iR i Live X lot W (qJ++u):= h.G (λk=>vp.fV _ _) f (λa d b e=>by rw[(c a d).1]at e;cases e) g (AJ h.l λa d=>(c a d).1) λk b=>by rw[JP c];exact h.f k b
def JQ{Live:Nat->Prop}{r:Nat}{x:Bool}(y:X i)(p:w.heap[i]?=À (χ n d yQ j r x))(f g h:Nat)(l:Array Â)(m o:Bool):pX Live X lot w (w.setChan i f l m g h o):=by
 have q:∀b,b≠i->(w.setChan i f l m g h o).heap[b]?=w.heap[b]?:=λb u=>by unfold au;simp only;exact Ï<|ą u
 have v:(w.setChan i f l m g h o).heap[i]?=À (χ f l m g h o):=by unfold au;simp[(Ë.1 p).1]
 refine⟨by unfold au;simp,λb u=>q b λe=>u<|e▸y,λk _ a _=> ?_,λk _ a _=> ?_,λa t=> ?_⟩
 .by_cases e:a.block=i
  .unfold Ġ;rw[e,v,p]
  .unfold Ġ;rw[q _ e]
 .by_cases e:a.block=i
  .unfold Ĉ;rw[e,v,p]
  .unfold Ĉ;rw[q _ e]
 .by_cases e:a.block=i
  .unfold Ġ at t;rw[e,p]at t;cases t
  .have:(w.setChan i f l m g h o).cell? a=w.cell? a:=by unfold Ġ;rw[q _ e]
   rwa[this]
def gN.G(b:gN P i X S C B lot E w qJ){J:Jd}{T:gu}{K:iA}(d:n<E.size)(f:pX (λn=>n<E.size) X lot w W)(c:xb u)(h:∀l∈u,l.act.low w.heap.size) (hF:lh P (n==0) J T (lot n) g) (m:g.status=Ð\/g.status=Ğ): gN P i X (fx S n J) (fx C n T) (fx B n K) lot (E.setIfInBounds n g) W (qJ++u):=by
 refine⟨?_,λk x a=> ?_,λj o=> ?_⟩
 .rw[show(λj=>j<(E.setIfInBounds n g).size)=(λj=>j<E.size) by simp];exact b.r.agF f c h
 .by_cases e:k=n
  .subst e;rw[Ò d]at a;obtain rfl:=Ĥ a;rw[gD,gD,gD];exact⟨_,hF,.gk,m,Ç U⟩
  .rw[Ï<|ą e]at a;rw[fG S _ e,fG C _ e,fG B _ e];exact b.C k x a
 .rw[JP c];exact b.I j<|by simpa using o
def OD{γ δ:Type}{f:γ->List δ}:∀{l:List γ},(∀x∈l,f x=[])->l.flatMap f=[]
 |[],_=>rfl
 |x::l,h=>by rw[aV,h x fj,OD λy a=>h y (by simp[a])];rfl
def yH(r:Nat)(b:Bool)(g:Ó):Prop:=g.status=Ů/\∃a d,g.offers=À (a,d)/\∃c∈a,(c.send.isSome==b)=É/\(match c.chan with|ep (À r')=>r'==r|_=>Ã)=É
theorem Xz{r:Nat}{E:Array Ó}(h:∀(i:Nat) (g:Ó),E[i]?=À g->¬yH r yQ g):Η E r yQ=[]:=by
 unfold Η;refine OD λx m=> ?_;let⟨g,i⟩:=x;have d:E[i]?=À g:=by grind
 simp only[];split
 .rename_i b e f j;rw[aj,Υ];intro y n a;let⟨c,k⟩:=y;have l:c∈b:=by
   grind
  simp only[ě]at a;exact h i g d ⟨f,b,e,j,c,l,a.1,by have:=a.2;revert this;cases c.chan<;>first|exact id|(rename_i q;cases q<;>exact id)⟩
 .rfl
def XA{γ δ:Type}(f:γ×Nat->List δ):∀(L:List γ) (n h:Nat) (x:γ),(∀y k,k≠h->(y,k)∈L.zipIdx n->f (y,k)=[])->n<=h->L[h-n]?=À x->(L.zipIdx n).flatMap f=f (x,h)
 |[],n,h,x,_,_,hx=>by simp at hx
 |a::L,n,h,x,hf,hn,hx=>by
  rw[Ĭ,aV];by_cases e:h=n
  .subst e;have:a=x:=by simpa using hx
   subst this;rw[OD ?_,List.append_nil];intro y b;let⟨y,k⟩:=y;refine hf y k ?_ (by rw[Ĭ];exact ò _ b);have:=List.le_snd_of_mem_zipIdx b;simp only at this;omega
  .rw[hf a n Z (by rw[Ĭ];exact î ..),List.nil_append];refine XA f L (n+1) h x (λy k c b=>hf y k c<|by rw[Ĭ];exact ò _ b) Z ?_;have b:h-n=(h-(n+1))+1:=Z
   rw[b]at hx;simpa using hx
theorem agG{E:Array Ó}(l:E[n]?=À g)(m:g.status=Ů)(o:g.offers=À (#[θ i z],.recv É))(p:∀(a:Nat) (b:Ó),a≠n->E[a]?=À b->¬yH i Ã b):Η E i Ã=[(n,0)]:=by
 unfold Η;have e:E.zipIdx.toList=E.toList.zipIdx:=fj
 rw[e];rw[XA _ E.toList 0 n g (λy k r B=> ?_) (dB _) (by simpa using l)]
 .simp[m,o,θ]
 .have s:E[k]?=À y:=by
   grind
  simp only[];split
  .rename_i j t u v;rw[aj,Υ];intro x C d;let⟨f,D⟩:=x;have w:f∈j:=by
    grind
   simp only[ě]at d;exact p k y r s ⟨u,j,t,v,f,w,d.1,by have:=d.2;revert this;cases f.chan<;>first|exact id|(rename_i q;cases q<;>exact id)⟩
  .rfl
theorem OG(h:(E.setIfInBounds i ph)[k]?=À g):g.status=Ğ\/(k≠i/\E[k]?=À g):=by
 by_cases e:k=i
 .subst e;rw[Ś]at h;simp only[if_true]at h;split at h
  .left;obtain rfl:=Ĥ h;rfl
  .cases h
 .grind
theorem gN.OH(l:gN P i X S C B lot E w qJ)(c a:Nat):Η (E.setIfInBounds a ph) c É=[]:=by
 refine Xz λk x m=> ?_;rintro⟨d,p,r,b,n,f,o,_⟩;rcases OG m with q|⟨_,q⟩
 .grind
 .let⟨g0,_,g,j,_⟩:=l.C k x q;generalize B k=K at g;cases g with
  |gk=>rw[d]at j;rcases j with e|e<;>cases e
  |nX h e=>simp only[e]at b;cases b
  |tN e z h=>
   simp only[Γ,ž,Prod.mk.injEq]at b;rw[<-b.1]at f;have:n=θ e z:=by simpa using f
   subst this;cases o
  |nt e z h=>cases d
def gN.OJ(e:gN P i X S C B lot E w qJ){N:Option Â->Jd}(f:E[n]?=À g)(k:g.status=Ð)(l:B n=.sK j z)(m:C n=.fA)(o:S n=w7 P (n==0) j z N): ∃a,lh P (n==0) (S n) (C n) (lot n) a/\a.status=Ð/\a.offers=ë/\Ù P (n==0) g w=.comm a #[θ j z] É (.recv É) w #[]/\∀x:Option Â,fh P (n==0) (N x) (lot n) {a with frame:=a.frame.finish (ſ #[x.getD z,Ľ x.isSome])}:=by
 let⟨a,hF,b,_,_⟩:=e.C n g f;have p:=hF;rw[o,m]at hF;let⟨x,q,d,r⟩:=hF _<|fE.fV _ _;rw[l]at b;refine⟨a,p,x,q,?_,r⟩;cases b with
 |gk=>exact d w
 |tN j z h=>cases k
 |nt j z h=>rw[stepG_tries];rw[show({a with status:=Ð}:Ó)=a by cases a;simp only at x;subst x;rfl];exact d w
def yI{g0:Ó}{a:Array CommCase}{b:CommShape}{ok:Bool}(c:g0.status=Ð)(d:g0.offers=ë):g0.finishComm P a b h v ok={g0 with frame:=g0.frame.finish (commResult a b h v ok)}:=by let⟨f,a,st,e,o⟩:=g0;simp only at c d;subst c d;rfl
def gN.nu(e:gN P i X S C B lot E w qJ){N:Option Â->Jd}(h:E[n]?=À g)(G:g.status=Ð)(l:B n=.sK j z)(H:C n=.fA)(I:S n=w7 P (n==0) j z N)(p:X j){r:Nat}{o:Bool}(q:w.heap[j]?=À (χ b d yQ m r o))(t:d[0]?=À v)(K:iA): ∃a u T f,cZ P (ķ E w sl) n=(ň<|ķ a (w.setChan j b (d.extract 1 d.size) yQ m (r+1) o) sl,u)/\a.size=E.size/\a[n]?=À f/\f.status=Ð/\(∀k,k≠n->a[k]?=E[k]?)/\xb u/\ gN P i X (fx S n<|N<|À v) (fx C n T) (fx B n K) lot a (w.setChan j b (d.extract 1 d.size) yQ m (r+1) o) (qJ++u):=by
 have x:=(Ë.1 h).1;let⟨g0,_,f,y,J,L⟩:=e.OJ h G l H I;have D:d.getD 0 ľ=v:=by simp[ĩ,t]
 have M:=crowd_recv_buf (sl:=sl) h J q ((Ë.1 t).1)<|e.OH j n;let⟨T,O⟩:=jk<|L<|À v;refine⟨_,_,T,{g0 with frame:=g0.frame.finish (ſ #[v,Ľ É])},M,fj,?_,f,λk l=>Ï<|ą l,?_,?_⟩
 .rw[yI f y,D,Ò x];rfl
 .intro F a;simp[Í]at a;rcases a with rfl|rfl<;>exact⟨U,fj⟩
 .rw[yI f y,D];refine e.G x (JQ p q _ _ _ _ _ _) ?_ ?_ O<|Ç f
  .intro F a;simp[Í]at a;rcases a with rfl|rfl<;>exact⟨U,fj⟩
  .intro F a;simp[Í]at a;rcases a with rfl|rfl<;>exact e.r.N j p
def gN.je(e:gN P i X S C B lot E w qJ){N:Option Â->Jd}(h:E[n]?=À g)(q:g.status=Ð)(l:B n=.sK j z)(t:C n=.fA)(v:S n=w7 P (n==0) j z N)(x:X j){r:Nat}(y:w.heap[j]?=À (χ b #[] É k r yQ))(K:iA): ∃d u T f,cZ P (ķ E w sl) n=(ň<|ķ d w sl,u)/\d.size=E.size/\d[n]?=À f/\f.status=Ð/\(∀a,a≠n->d[a]?=E[a]?)/\xb u/\ gN P i X (fx S n<|N ë) (fx C n T) (fx B n K) lot d w (qJ++u):=by
 have m:=(Ë.1 h).1;let⟨g0,_,f,o,D,F⟩:=e.OJ h q l t v;let⟨T,G⟩:=jk<|F ë;refine⟨_,_,T,{g0 with frame:=g0.frame.finish (ſ #[z,Ľ Ã])},crowd_recv_closed (sl:=sl) h D y<|e.OH j n,fj,?_,f,λa l=>Ï<|ą l,?_,?_⟩
 .rw[yI f o,Ò m];rfl
 .intro p d;simp[Í]at d;subst d;exact⟨U,fj⟩
 .rw[yI f o];refine e.G m (pX.fV _ _ _ _) ?_ ?_ G<|Ç f
  .intro p d;simp[Í]at d;subst d;exact⟨U,fj⟩
  .intro p d;simp[Í]at d;subst d;exact e.r.N j x
def gN.agH(f:gN P i X S C B lot E w qJ){N:Option Â->Jd}(m:E[n]?=À g)(u:g.status=Ð)(h:B n=.sK j z)(o:C n=.fA)(v:S n=w7 P (n==0) j z N){r:Nat}(p:w.heap[j]?=À (χ b #[] Ã k r yQ)): ∃d e,cZ P (ķ E w sl) n=(ň<|ķ d w sl,#[])/\d.size=E.size/\d[n]?=À e/\e.status=Ů/\(∀a,a≠n->d[a]?=E[a]?)/\gN P i X S C B lot d w qJ:=by
 have q:=(Ë.1 m).1;let⟨g0,hF,t,G,y,H⟩:=f.OJ m u h o v;have D:=crowd_waits (sl:=sl) m y (λd e=>by
  have:d=θ j z:=by simpa using e
  subst this;exact⟨by simp[illMade,θ,p],by simp[ways,θ,p,f.OH j n]⟩)
 refine⟨_,Γ g0 #[θ j z]<|.recv É,?_,fj,Ò q,U,λa h=>Ï<|ą h,?_,λa x l=> ?_,λd F=>f.I d<|by simpa using F⟩
 .rw[D];rfl
 .rw[show(λd=>d<(E.setIfInBounds n<|Γ g0 #[θ j z]<|.recv É).size)=(λd=>d<E.size) by simp];exact f.r
 .by_cases e:a=n
  .subst e;rw[Ò q]at l;obtain rfl:=Ĥ l;refine⟨g0,hF,?_,Ç t,Î o⟩;rw[h];exact .tN j z t
  .rw[Ï<|ą e]at l;exact f.C a x l
def gN.iJ(f:gN P i X S C B lot E w qJ){N:Jd}(h:E[n]?=À g)(l:B n=.no)(F:C n=.fA)(G:S n=AK P (n==0) b v N)(p:X b){r:Nat}(t:w.heap[b]?=À (χ m d Ã J r yQ))(H:d.size<m) (I:∀(k:Nat) (x:Ó),E[k]?=À x->¬yH b Ã x): ∃e u T a,cZ P (ķ E w sl) n=(ň<|ķ e (w.setChan b m (d.push v) Ã (J+1) r yQ) sl,u)/\e.size=E.size/\e[n]?=À a/\a.status=Ð/\(∀k,k≠n->e[k]?=E[k]?)/\xb u/\ gN P i X (fx S n N) (fx C n T) B lot e (w.setChan b m (d.push v) Ã (J+1) r yQ) (qJ++u):=by
 have y:=(Ë.1 h).1;let⟨g0,hF,z,_,_⟩:=f.C n g h;rw[l]at z;cases z with
 |gk=>
  rw[G,F]at hF;let⟨a,D,o,K⟩:=hF _<|fE.fV _ _;let⟨V,o⟩:=o w;have L:Η (E.setIfInBounds n ph) b Ã=[]:=Xz λk x M=>by
   rcases OG M with q|⟨_,q⟩
   .rintro⟨e,_⟩;rw[q]at e;cases e
   .exact I k x q
  let⟨T,O⟩:=jk K;have Q:fx B n .no=B:=by funext j;unfold fx;split<;>simp[*]
  refine⟨_,_,T,{g with frame:=g.frame.finish ľ},crowd_send_room (sl:=sl) h o t H L,fj,?_,a,λk l=>Ï<|ą l,?_,?_⟩
  .rw[yI a D,Ò y];rfl
  .intro q e;simp[Í]at e;rcases e with rfl|rfl<;>exact⟨U,fj⟩
  .rw[yI a D,<-Q];refine f.G y (JQ p t _ _ _ _ _ _) ?_ ?_ O<|Ç a
   .intro q e;simp[Í]at e;rcases e with rfl|rfl<;>exact⟨U,fj⟩
   .intro q e;simp[Í]at e;rcases e with rfl|rfl<;>exact f.r.N b p
def gN.agI(o:gN P i X S C B lot E w qJ){p:Ó}{N:Jd}{D:Option Â->Jd}(F:E[n]?=À g)(f:B n=.no)(ht:C n=.fA)(hs:S n=AK P (n==0) b v N)(L:X b){r:Nat}(M:w.heap[b]?=À (χ J d Ã j9 r yQ)) (G:j≠n) (t:E[j]?=À p) (O:p.status=Ů) (JR:B j=.sK b z) (OL:C j=.fA) (JS:S j=w7 P (j==0) b z D) (K:iA) (hp:∀(k:Nat) (x:Ó),k≠j->E[k]?=À x->¬yH b Ã x): ∃e u T y h q,cZ P (ķ E w sl) n=(ň<|ķ e (w.setChan b J d Ã (j9+1) (r+1) yQ) sl,u)/\e.size=E.size/\e[n]?=À h/\h.status=Ð/\e[j]?=À q/\q.status=Ð/\(∀k,k≠n->k≠j->e[k]?=E[k]?)/\xb u/\ gN P i X (fx (fx S j<|D<|À v) n N) (fx (fx C j y) n T) (fx (fx B j K) n .no) lot e (w.setChan b J d Ã (j9+1) (r+1) yQ) (qJ++u):=by
 have Q:=(Ë.1 F).1;have V:=(Ë.1 t).1;let⟨g0,hF,W,_,_⟩:=o.C n g F;let⟨a,Y,XB,auI,_⟩:=o.C j p t;rw[f]at W;rw[JR]at XB;cases W with
 |gk=>
  rw[hs,ht]at hF;let⟨H,h2,I,h4⟩:=hF _<|fE.fV _ _;let⟨z',I⟩:=I w;rw[JS,OL]at Y;let⟨l,k2,k3,k4⟩:=Y _<|fE.fV _ _;have Df:p=Γ a #[θ b z] (.recv É):=by
   cases XB with
   |gk=>rw[O]at l;cases l
   |tN _ _ h=>rfl
   |nt _ _ h=>cases O
  subst Df;have hpn:Η (E.setIfInBounds n ph) b Ã=[(j,0)]:=agG (by rwa[Ï<|ą G]) U U λk x f hx=>by
   rcases OG hx with q|⟨_,q⟩
   .rintro⟨e,_⟩;rw[q]at e;cases e
   .exact hp k x f q
  have OM:=crowd_send_meets (sl:=sl) F I M G t hpn;let⟨T,hT⟩:=jk h4;let⟨y,hTj⟩:=jk<|k4<|À v;rw[yI H h2,yI l k2]at OM;have q:∀{h:c8},h∈Í n g.frame.fn g.frame.place #[]++#[{g:=n,fn:=g.frame.fn,pos:=g.frame.place,act:=.send b j9},{g:=j,fn:=a.frame.fn,pos:=a.frame.place,act:=.recv b r J},{g:=n,fn:=g.frame.fn,pos:=g.frame.place,act:=.sendDone b j9},{g:=j,fn:=a.frame.fn,pos:=a.frame.place,act:=.recvDone b r}]->(h.act.touch?=ë/\∀m,h.act≠Ř m)/\h.act.low w.heap.size:=by intro h e;simp[Í]at e;rcases e with rfl|rfl|rfl|rfl<;>exact⟨⟨U,fj⟩,o.r.N b L⟩
  refine⟨_,_,T,y,{g with frame:=g.frame.finish ľ},{a with frame:=a.frame.finish (ſ #[v,Ľ É])},OM,fj,?_,H,?_,l,λk f tO=> ?_,λh e=>(q e).1,?_⟩
  .rw[Ò (by simpa using Q)];rfl
  .rw[Ï<|ą G,Ò V];rfl
  .rw[Ï<|ą f,Ï<|ą tO]
  .have m:gN P i X (fx S j<|D<|À v) (fx C j y) (fx B j K) lot (E.setIfInBounds j {a with frame:=a.frame.finish (ſ #[v,Ľ É])}) w (qJ++#[]):=o.G V (pX.fV _ _ _ _) (λh e=>by simp at e) (λh e=>by simp at e) hTj<|Ç l;rw[ď]at m;refine m.G (by simpa using Q) (JQ L M _ _ _ _ _ _) (λh e=>(q e).1) (λh e=>(q e).2) hT<|Ç H
theorem gN.kX(o:gN P i X S C B lot E w qJ){N:Jd}(I:E[n]?=À g)(K:B n=.no)(ht:C n=.fA)(hs:S n=JN P (n==0) J N)(L:X J)(hB:i<=J){r:Nat}(O:w.heap[J]?=À (χ j9 q Ã j7 r yQ)): ∃t u T G,cZ P (ķ E w sl) n=(ň<|ķ t (w.setChan J j9 q É j7 r yQ) sl,u)/\t.size=E.size/\t[n]?=À G/\G.status=Ð/\(∀k x,k≠n->E[k]?=À x->t[k]?=À (x.again<|w.setChan J j9 q É j7 r yQ))/\(∀l∈u,l.g=n)/\(∀l∈u,∀b,l.act.touch?=À b->b.loc=.obj J/\b.kind=Ŕ)/\(∀l∈u,∀m,l.act≠Ř m)/\ gN P i X (fx S n N) (fx C n T) B (gq lot n {lot n with w:=w.setChan J j9 q É j7 r yQ}) t (w.setChan J j9 q É j7 r yQ) (qJ++u):=by
 have H:=(Ë.1 I).1;have Q:=o.r.N J L;let⟨g0,hF,V,_,_⟩:=o.C n g I;rw[K]at V;cases V with
 |gk=>
  rw[hs,ht]at hF;let⟨h1,h2,G,M,h4,h5⟩:=hF w<|o.r.r n H;have v:=JQ (lot:=lot) (Live:=λn=>n<E.size) L O j9 j7 r q É yQ;have y:fE (lot n) w (w.setChan J j9 q É j7 r yQ):=⟨dA v.r.symm,λj hj=>v.jU j<|o.r.I n H j hj,λa z=>v.M n H a z,λa z=>v.N n H a z,λa _=>v.I a⟩;let⟨T,hT⟩:=jk<|h5.j5 ⟨y.r,y.I,y.N,y.Y,y.S⟩;have W:ŭ (lot n).d (Dd J)=(lot n).d:=bq (λe f=>by simp[Dd]at f;grind) _;have D:∀e∈Dd J,(∀b,(è e).touch?=À b->b.loc=.obj J/\b.kind=Ŕ)/\(è e).low w.heap.size:=by
   intro e f;simp[Dd]at f;rcases f with rfl|rfl
   .exact⟨λb h=>by simp[è,ÿ]at h;subst h;exact⟨U,U⟩,Q⟩
   .exact⟨λb h=>by simp[è,ÿ]at h,Q⟩
  have e2:fx B n .no=B:=by funext j;unfold fx;split<;>simp[*]
  obtain⟨t,q1,q2,q3,q4,Y⟩:=o.qF I (h4 w j9 q j7 r yQ O) v (by rwa[W]) (Ç M) (λe f=>⟨λb h=>Î ⟨J,((D e f).1 b h).1,L,((D e f).1 b h).2⟩,(D e f).2⟩) (Ow o.r.l ot λl F b h=>by obtain⟨e,f,rfl⟩:=í F;let⟨z1,z2⟩:=(D e f).1 b h;refine Î (Î ⟨z2,λp a z hl rA=> ?_⟩);have:=o.r.s p a J z (by rw[hl,z1]) rA;omega);rw[W,e2]at Y;refine⟨t,_,T,G,q1,q2,q3,M,λk x K p=> ?_,ot,λl F b h=> ?_,λl F=> ?_,Y⟩
  .rw[q4 k K,p];simp only[bH,ž];unfold ţ;rw[if_pos (by simp[h2,M])]
  .obtain⟨e,f,rfl⟩:=í F;exact(D e f).1 b h
  .obtain⟨e,f,rfl⟩:=í F;simp[Dd]at f;intro m;rcases f with rfl|rfl<;>simp[è]
end
def fM(b:Nat):Ú:=⟨b,0,ë⟩
def gW(b:Nat):Ú:=⟨b,1,ë⟩
inductive GS where
 |cl (c reg:Nat)
 |jE (reg:Nat)
 |gX (r s:Nat)
def GS.st:GS->Int
 |.cl c a=>c*fY+a
 |.jE a=>a
 |.gX _ _=>0
def GS.sm:GS->Int
 |.gX _ s=>s
 |_=>0
def GS.ok:GS->Prop
 |.cl c r=>c<1000000/\r<1000000/\(c=0->r=0)
 |.jE r=>0<r/\r<1000000
 |.gX r s=>r+s<1000000
structure ic(w:Æ)(b:Nat)(G:GS):Prop where
 C:w.cell? (fM b)=À (Ć æ G.st)
 M:w.cell? (gW b)=À (Ć ŗ G.sm)
 I:w.frozen? (fM b)=Ã
 N:w.frozen? (gW b)=Ã
 r:G.ok
theorem AL(h:w.cell? a=À x):(w.setCell a v).cell? a=À v:=by unfold Ġ at h|-;unfold ĉ;grind
theorem yJ(h:a.block≠p.block\/a.off≠p.off):(w.setCell a v).cell? p=w.cell? p:=by unfold Ġ ĉ;grind
theorem ON:kV (w.setCell a v) b=kV w b:=by unfold kV ĉ;grind
def sL:(w.setCell a v).frozen? p=w.frozen? p:=by simp_all
theorem lu(h:j≠a.block):(w.setCell a v).heap[j]?=w.heap[j]?:=by unfold ĉ;grind
def j2:(w.setCell a v).heap.size=w.heap.size:=by simp_all
theorem yK(h:(w.cell? p).isSome=É):((w.setCell a v).cell? p).isSome=É:=by unfold Ġ ĉ at*;grind
theorem agJ{Live Y:Nat->Prop}{c:Nat->e9}(f:Y a.block)(l:a.spot=ë)(m:∀k,Live k->¬(c k).C a)(g:∀k,Live k->∀b,(c k).C b->b.spot=ë):pX Live Y c w (w.setCell a v):=by
 refine⟨j2,λj h=>lu λe=>h<|e▸f,λk i b d=>yJ ?_,λ_ _ _ _=>sL,λb d=>yK d⟩;by_cases e:a.block=b.block
 .right;intro n;have:=g k i b d;let⟨o,p,q⟩:=b;let⟨r,s,t⟩:=a;grind
 .exact Ç e
section
variable{b:Nat}{G:GS}
def ic.vq(h:ic w b G)(a:u.cell? (fM b)=w.cell? (fM b))(c:u.cell? (gW b)=w.cell? (gW b))(d:u.frozen? (fM b)=w.frozen? (fM b))(e:u.frozen? (gW b)=w.frozen? (gW b)):ic u b G:= ⟨a.trans h.C,c.trans h.M,d.trans h.I,e.trans h.N,h.r⟩
def ic.iT(h:ic w b G)(c:a.block≠b):ic (w.setCell a v) b G:= h.vq (yJ<|Ç c) (yJ<|Ç c) sL sL
def ic.JU{G':GS}(h:ic w b G)(a:G'.sm=G.sm)(d:G'.ok)(e:c=G'.st):ic (w.setCell (fM b)<|Ć æ c) b G':= ⟨by rw[AL h.C,e],by rw[yJ (Î<|by simp[fM,gW]),h.M,a],by rw[sL,h.I],by rw[sL,h.N],d⟩
def ic.XC{G':GS}(h:ic w b G)(a:G'.st=G.st)(d:G'.ok)(e:c=G'.sm):ic (w.setCell (gW b)<|Ć ŗ c) b G':= ⟨by rw[yJ (Î<|by simp[fM,gW]),h.C,a],by rw[AL h.M,e],by rw[sL,h.I],by rw[sL,h.N],d⟩
end
theorem JV(a:0<=h)(b:h<18446744073709551616):æ.wrap h=h:=by have:æ.wrap h=h%18446744073709551616:=rfl;rw[this];omega
def agK(a:4294967296<=h)(b:h<18446744073709551616):æ.wrap (h+18446744069414584320)=h-4294967296:=by have:æ.wrap (h+18446744069414584320)=(h+18446744069414584320)%18446744073709551616:=rfl;rw[this];omega
theorem agL(a:0<=h)(b:h<4294967296):ŗ.wrap h=h:=by have:ŗ.wrap h=h%4294967296:=rfl;rw[this];omega
def qG:Int:=18446744069414584320
def GS.jL:GS->GS
 |.cl (c+1) reg=>if c=0/\0<reg then .jE reg else .cl c reg
 |G=>G
section
variable{b:Nat}
theorem ic.agM(h:ic w b (.cl i 0))(a:i+1<1000000):æ.wrap ((GS.cl i 0).st+fY)=(GS.cl (i+1) 0).st/\ic (w.setCell (fM b)<|Ć æ<|æ.wrap<|(GS.cl i 0).st+fY) b (.cl (i+1) 0):=by
 have e:æ.wrap ((GS.cl i 0).st+fY)=(GS.cl (i+1) 0).st:=by simp only[GS.st,fY];grind [JV]
 exact⟨e,h.JU (G':=.cl (i+1) 0) U ⟨a,Z,Z⟩ e⟩
def ic.jL(h:ic w b (.cl (i+1) n)):æ.wrap ((GS.cl (i+1) n).st+qG)=(GS.jL<|.cl (i+1) n).st/\ic (w.setCell (fM b)<|Ć æ<|æ.wrap<|(GS.cl (i+1) n).st+qG) b (GS.jL<|.cl (i+1) n):=by
 let⟨f,a,g⟩:=h.r;have d:æ.wrap ((GS.cl (i+1) n).st+qG)=(i:Int)*fY+n:=by simp only[GS.st,fY,qG];rw[agK Z Z];omega
 have e:æ.wrap ((GS.cl (i+1) n).st+qG)=(GS.jL<|.cl (i+1) n).st:=by
  rw[d];simp only[GS.jL];by_cases q:i=0/\0<n
  .rw[if_pos q];obtain⟨rfl,_⟩:=q;simp[GS.st]
  .rw[if_neg q];rfl
 refine⟨e,h.JU ?_ ?_ e⟩
 .simp only[GS.jL];split<;>rfl
 .simp only[GS.jL];by_cases q:i=0/\0<n
  .rw[if_pos q];exact⟨q.2,a⟩
  .rw[if_neg q];exact⟨Z,a,λe=>by omega⟩
theorem ic.XD(h:ic w b (.cl i n))(f:0<i)(a:n+1<1000000):æ.wrap ((GS.cl i n).st+1)=(GS.cl i<|n+1).st/\ic (w.setCell (fM b)<|Ć æ<|æ.wrap<|(GS.cl i n).st+1) b (.cl i (n+1)):=by
 let⟨d,g,j⟩:=h.r;have e:æ.wrap ((GS.cl i n).st+1)=(GS.cl i<|n+1).st:=by simp only[GS.st,fY];grind [JV]
 exact⟨e,h.JU (G':=.cl i (n+1)) U ⟨d,a,λe=>by omega⟩ e⟩
def ic.XF(h:ic w b (.jE i)):ic (w.setCell (fM b)<|Ć æ 0) b (.gX i 0):= h.JU (G':=.gX i 0) U (by have:=h.r;simp only[GS.ok]at this|-;omega) U
theorem ic.jD{r:Nat}(h:ic w b (.gX (r+1) i)):ic (w.setCell (gW b)<|Ć ŗ<|ŗ.wrap<|(GS.gX (r+1) i).sm+1) b (.gX r (i+1)):=by have:=h.r;simp only[GS.ok]at this;refine h.XC (G':=.gX r (i+1)) U (by simp only[GS.ok];omega) ?_;simp only[GS.sm];grind [agL]
def ic.kB{r:Nat}(h:ic w b (.gX r (i+1))):ic (w.setCell (gW b)<|Ć ŗ<|(GS.gX r<|i+1).sm-1) b (.gX r i):=by have:=h.r;simp only[GS.ok]at this;refine h.XC (G':=.gX r i) U (by simp only[GS.ok];omega) ?_;simp only[GS.sm];omega
def ic.agN{G:GS}(h:ic w b G):(0<=G.st/\G.st<fY)↔∀c a,G=.cl c a->c=0:=by
 have d:=h.r;cases G with
 |cl c a=>
  let⟨r,s,f⟩:=d;simp only[GS.st,fY];constructor
  .intro q g i e;cases e;omega
  .intro q;have:=q c a U;subst this;omega
 |jE a=>simp only[GS.ok]at d;simp only[GS.st,fY];exact⟨λ_ _ _ e=>(by cases e),λ_=>by omega⟩
 |gX r s=>simp only[GS.st,fY];exact⟨λ_ _ _ e=>(by cases e),λ_=>by omega⟩
end
inductive jF where
 |jD|iF|gA (W:Nat)|jc (W:Nat)|iB (r:Nat)
inductive ju where
 |iY|mb (p:SP)|wr|kB|gA|lj
section
variable(P:Õ)(main:Bool)(B:Nat)(b:Nat)(J:Jd)
def F5:Nat->Jd
 |0=>J
 |r+1=>λl g=>l.d=1/\agB P main (gW b) (match r with|0=>J|_=>fh P main<|F5 r) l g
def JX(W:Nat):Jd:=λl g=>l.d=1/\agz P main (fM b) 0 (F5 P main b J W) l g
def JY(W:Nat):Jd:=λl g=>l.d=1/\Xw P main (fM b) (λv=>if v=(W:Int)then JX P main b J W else λ_ _=>True) l g
def OO:Jd:=λl g=>l.d=1/\Oz P main (fM b) qG (λs=>if s=0\/(fY<=s/\s<1000000*fY/\s%fY<1000000)then J else if 0<s/\s<1000000 then fh P main (JY P main b J s.toNat)else λ_ _=>True) l g
def yL:Jd:=λl g=>l.d=0/\F3 P main (Ķ<|fM b) (OO P main b J) l g
def Dg:jF->Jd
 |.jD=>yL P main b J
 |.iF=>OO P main b J
 |.gA W=>JY P main b J W
 |.jc W=>JX P main b J W
 |.iB r=>F5 P main b J r
def F6:Jd:=λl g=>l.d=0/\F3 P main (cM<|fM b) J l g
def XG:Jd:=λl g=>l.d=1/\Xw P main (fM b) (λv=>if v=0 then F6 P main b J else λ_ _=>True) l g
def JZ:Jd:=λl g=>l.d=1/\agA P main (gW b) (XG P main b J) l g
def OP:Jd:=λl g=>l.d=1/\F3 P main (.write<|gW b) (JZ P main b J) l g
def OQ(p:SP):Jd:=λl g=>l.d=1/\De P main (fM b) B (λ_=>F6 P main b J) (λv=>if v%fY=0 then OP P main b J else JZ P main b J) p l g
def qH:ju->Jd
 |.iY=>λl g=>∃k,k<=B/\OQ P main B b J (.fZ k) l g
 |.mb p=>OQ P main B b J p
 |.wr=>OP P main b J
 |.kB=>JZ P main b J
 |.gA=>XG P main b J
 |.lj=>F6 P main b J
end
section
variable{P:Õ}{Y:Nat->Prop}{S:Nat->Jd}{tr:Nat->gu}{f:Nat->iA}{lot:Nat->e9}{gs:Array Ó}{t:ğ}
theorem iR.C{Live:Nat->Prop}(h:iR n Live Y lot w t)(E:Live i){l:e9}(s:∀b,l.O b->(lot i).O b) (x:∀b,l.I b->(lot i).M b\/(b<w.heap.size/\¬Y b/\(∀k,Live k->¬(lot k).O b)/\∀a:Ú,a.block=b->po t i (û a))) (u:∀a,l.r a->(lot i).r a) (y:∀a,l.N a->(lot i).C a\/(Y a.block/\(∀k,Live k->¬(lot k).r a)/\po t i (û a))) (F:l.K=(lot i).K) (D:l.d=(lot i).d) (G:l.w=w) (H:∀b,l.O b->¬l.I b) (I:∀a,l.r a->¬l.N a):iR n Live Y (gq lot i l) w t:=by
 have v:∀b,l.M b->(lot i).M b\/(b<w.heap.size/\¬Y b/\(∀k,Live k->¬(lot k).O b)/\∀a:Ú,a.block=b->po t i (û a)):=λb g=>g.elim (λq=>Ç<|Ç<|s b q)<|x b;have B:∀a,l.C a->(lot i).C a\/(Y a.block/\(∀k,Live k->¬(lot k).r a)/\po t i (û a)):=λa f=>f.elim (λq=>Ç<|Ç<|u a q)<|y a;refine⟨λk j c o m b g=> ?_,λk j c o m a f=> ?_,λk c b g=> ?_,λk c a f=> ?_,λk c b g=> ?_,λk c a f=> ?_,λk c b g=> ?_,h.N,λk c=> ?_,λk c=> ?_,λk c=> ?_,h.l,h.q,h.s,λk c a f=> ?_⟩
 .by_cases e:k=i
  .subst e;rw[gU]at g;rw[gF lot _<|ą m];exact h.o k j c o m b<|s b g
  .rw[gF lot _ e]at g;by_cases p:j=i
   .subst p;rw[gU];intro q;rcases v b q with z|⟨_,_,z,_⟩
    .exact h.o k j c o m b g z
    .exact z k c g
   .rw[gF lot _ p];exact h.o k j c o m b g
 .by_cases e:k=i
  .subst e;rw[gU]at f;rw[gF lot _<|ą m];exact h.h k j c o m a<|u a f
  .rw[gF lot _ e]at f;by_cases p:j=i
   .subst p;rw[gU];intro q;rcases B a q with z|⟨_,z,_⟩
    .exact h.h k j c o m a f z
    .exact z k c f
   .rw[gF lot _ p];exact h.h k j c o m a f
 .by_cases e:k=i
  .grind [gU]
  .rw[gF lot _ e]at g|-;exact h.m k c b g
 .by_cases e:k=i
  .grind [gU]
  .rw[gF lot _ e]at f|-;exact h.g k c a f
 .by_cases e:k=i
  .subst e;rw[gU]at g;exact(v b g).elim (h.I k c b) λz=>z.2.1
  .rw[gF lot _ e]at g;exact h.I k c b g
 .by_cases e:k=i
  .subst e;rw[gU]at f;exact(B a f).elim (h.e k c a) λz=>z.1
  .rw[gF lot _ e]at f;exact h.e k c a f
 .by_cases e:k=i
  .subst e;rw[gU]at g;exact(v b g).elim (h.fw k c b) λz=>z.1
  .rw[gF lot _ e]at g;exact h.fw k c b g
 .by_cases e:k=i
  .grind [gU,fE.fV]
  .rw[gF lot _ e];exact h.r k c
 .by_cases e:k=i
  .subst e;rw[gU];refine⟨λa f=>(h.S k c).fl a<|s _ f,λa f=> ?_,λa f=>(h.S k c).C a<|u a f,λa f=> ?_⟩
   .rcases x _ f with(z|z)|⟨_,_,_,z⟩
    .exact((h.S k c).fl a z).r
    .exact(h.S k c).rd a z
    .exact z a U
   .rcases y _ f with(z|z)|⟨_,_,z⟩
    .exact((h.S k c).C a z).r
    .exact(h.S k c).r a z
    .exact z
  .rw[gF lot _ e];exact h.S k c
 .by_cases e:k=i
  .subst e;rw[gU,D];exact h.f k c
  .rw[gF lot _ e];exact h.f k c
 .have e:(lot k).K a:=by
   grind [gU,gF]
  let⟨p,q⟩:=h.n k c a e;grind [gU,gF]
def gN.M(b:gN P n Y S tr f lot gs w t){J:Jd}{T:gu}{K:iA}{l:e9}(c:gs[i]?=À g)(d:g.status=Ð\/g.status=Ğ)(h:iR n (λi=>i<gs.size) Y (gq lot i l) w t)(hF:lh P (i==0) J T l g): gN P n Y (fx S i J) (fx tr i T) (fx f i K) (gq lot i l) gs w t:=by
 refine⟨h,λk x a=> ?_,b.I⟩;by_cases e:k=i
 .subst e;rw[c]at a;obtain rfl:=Ĥ a;rw[gD,gD,gD,gU];exact⟨g,hF,.gk,d,Ç U⟩
 .rw[fG S _ e,fG tr _ e,fG f _ e,gF lot _ e];exact b.C k x a
end
end Go.Proofs.Y.ft
namespace Go.Proofs.Y.ft
open Go Go.Conc Go.Proofs.Y.Lift
open Go.ConcN (RelBy fork_knows)
def AN(t:ğ)(p:Nat)(l:dS):Prop:=∀q a,Ě t q=À a->a.loc=l->a.write=É->Before t q p
theorem AN.OS{u:ğ}{l:dS}(h:AN qJ i l)(j:∀c∈u,∀b,c.act.touch?=À b->b.loc=l->b.write=É->False):AN (qJ++u) i l:=by
 intro q a e f g;rcases mR e with⟨_,d⟩|⟨_,c,d,k,_⟩
 .exact(h q a d f g).app u
 .grind
def AN.agO{l:dS}(h:AN qJ i l)(b:bD qJ n i):po qJ n l:=λq a c d e=>Knows.of_before (h q a c d e) b
theorem agP{l:dS}(h:po qJ i l)(c:wQ.g=i)(j:wQ.act.touch?=ë):AN (qJ++#[wQ]) qJ.size l:=by
 intro q a d e f;rcases mR d with⟨_,b⟩|⟨_,k,b,m,_⟩
 .exact Î<|(h q a b e f).hb_new (ß _) (by rw[ć<|ß _];simp) c
 .grind
structure Fx where
 L:Nat
 m:Nat
 C:Nat
 I:Nat->Nat
def Fx.M(F:Fx)(b:Nat):Prop:=b=F.C\/∃k,k<=F.m/\b=F.I k
def Fx.G(F:Fx)(x:Ú):Prop:=∃b,F.M b/\(x=fM b\/x=gW b)
def jf(F:Fx)(k:Nat):Ú:=⟨F.I k,2,ë⟩
def Fx.OT(F:Fx)(a:Nat->Option Nat)(x:Ú)(g:Option Nat):Prop:=(x=gW F.C/\g=À 0)\/∃k j,k<=F.m/\x=gW (F.I k)/\a k=À j/\g=À (F.L+1+j)
structure TI(F:Fx)(t0:Nat)(jl:dS->Prop)(sp rl:Nat)(V:Nat->Nat->Prop)(pk:Nat->Nat)(fs:Nat->Option Nat)(rx:Nat->Prop)(ql:Nat->Nat)(t:ğ):Prop where
 N:t0<=t.size
 M:∀p a x,Ě t p=À a->a.loc=û x->F.G x->(p<t0/\t.g? p=À 0)\/a.kind=Ŕ\/(a.kind=.said/\F.OT fs x (t.g? p))
 AO:∀x,x<sp->∀p,p<t0->t.g? p=À 0->bD t (F.L+x) p
 Y:∀k,1<=k->k<=rl->t.act? (pk k)=À (Ř<|Ķ<|fM<|F.I k)/\t.g? (pk k)=À F.L/\t.heard (pk k)
 I:∀k,1<=k->k<=rl->∀a:Ú,(V k a.block\/a=jf F k)->AN t (pk k) (û a)
 c:∀b,F.M b->NoRelease (fM b) t
 r:∀x,x<sp->rx x->RelBy (fM F.C) t (F.L+x) (ql x)/\∀p a,Ě t p=À a->t.g? p=À (F.L+x)->p<=ql x\/((∃y:Ú,a.loc=û y/\y.block=F.C)/\a.kind=Ŕ)
 S:∀p a,t0<=p->Ě t p=À a->t.g? p=À 0\/∃x,x<sp/\t.g? p=À (F.L+x)
 e:∀p a,p<t0->Ě t p=À a->a.loc.isMemory=É->bD t 0 p\/(jl a.loc/\a.kind=Ŕ)
 d:∀p g,p<t0->t.g? p=À g->g≠0->t.counts p->∃j,t.g? j=À 0/\HappensBefore t p j
section
variable{F:Fx}{t0:Nat}{jl:dS->Prop}{sp rl:Nat}{V:Nat->Nat->Prop}{pk:Nat->Nat}{fs:Nat->Option Nat}{rx:Nat->Prop}{ql:Nat->Nat}{t u:ğ}
theorem J0(h:t.g? i=À n):i<t.size:=by unfold Ņ at h;grind
def F7(h:t.g? i=À n):(t++u).g? i=À n:=by rwa[aG<|J0 h]
theorem OU{a:dN}(h:Ě t i=À a):i<t.size:=by let⟨b,c,_⟩:=dO h;grind
structure J3(F:Fx)(sp rl:Nat)(V:Nat->Nat->Prop)(fs:Nat->Option Nat)(rx:Nat->Prop)(t u:ğ)(i:Nat):Prop where
 C:∀op∈u,∀a,op.act.touch?=À a->op.g=i
 S:i=0\/(∃x,x<sp/\i=F.L+x)\/∀op∈u,op.act.touch?=ë
 M:∀op∈u,∀a x,op.act.touch?=À a->a.loc=û x->F.G x->a.kind=Ŕ\/(a.kind=.said/\F.OT fs x (À i))
 fL:∀op∈u,∀(a:dN) (y:Ú),op.act.touch?=À a->a.write=É->a.loc=û y->∀k,1<=k->k<=rl->¬V k y.block/\y≠jf F k
 N:∀op∈u,∀b,F.M b->op.act≠Ř (dP<|fM b)
 I:∀x,x<sp->rx x->(∀r,RelBy (fM F.C) t (F.L+x) r->RelBy (fM F.C) (t++u) (F.L+x) r)/\(F.L+x=i->∀op∈u,∀a,op.act.touch?=À a->(∃y:Ú,a.loc=û y/\y.block=F.C)/\a.kind=Ŕ)
def TI.C(h:TI F t0 jl sp rl V pk fs rx ql t)(f:J3 F sp rl V fs rx t u i):TI F t0 jl sp rl V pk fs rx ql (t++u) where
 N:=by rw[Array.size_append];have:=h.N;omega
 M p a x n y hc:=by
  rcases mR n with⟨d,c⟩|⟨d,m,c,l,j⟩
  .rw[aG d];exact h.M p a x c y hc
  .refine Î ((f.M m c a x l y hc).imp id λq=>⟨q.1,?_⟩);have:(t++u).g? p=À i:=by unfold Ņ;rw[j];simp[f.C m c a l]
   rw[this];exact q.2
 AO x r p d o:=(h.AO x r p d<|by rwa[aG<|Ô d h.N]at o).app u;Y k c l:=by let⟨v,s,b⟩:=h.Y k c l;have w:=J0 s;exact⟨by rwa[dQ w],F7 s,(heard_old w).2 b⟩
 I k c l a n:=(h.I k c l a n).OS λm B b z y C=>by have:=f.fL m B b a z C y k c l;exact n.elim this.1 this.2
 c b z:=(h.c b z).app λm B=>f.N m B b z;r x r hr:=by
  let⟨v,s⟩:=h.r x r hr;let⟨D,E⟩:=f.I x r hr;refine⟨D _ v,λp a n o=> ?_⟩;rcases mR n with⟨d,c⟩|⟨d,m,c,l,j⟩
  .exact s p a c<|by rwa[aG d]at o
  .have e:(t++u).g? p=À i:=by unfold Ņ;rw[j];simp[f.C m c a l]
   rw[e]at o;exact Î<|E (Ĥ o).symm m c a l
 S p a d n:=by
  rcases mR n with⟨D,c⟩|⟨_,m,c,l,j⟩
  .rw[aG D];exact h.S p a d c
  .have e:(t++u).g? p=À i:=by unfold Ņ;rw[j];simp[f.C m c a l]
   rw[e];rcases f.S with q|⟨x,r,q⟩|q
   .exact Ç<|by rw[q]
   .exact Î ⟨x,r,by rw[q]⟩
   .rw[q m c]at l;cases l
 e p a d n hm:=by rw[touchAt_old<|Ô d h.N]at n;exact(h.e p a d n hm).imp (·.app u) id
 d p g d o lr hc:=by have w:=Ô d h.N;rw[aG w]at o;rw[ek w]at hc;let⟨j,v,s⟩:=h.d p g d o lr hc;exact⟨j,F7 v,eh u s⟩
theorem yM(f:∀c∈u,c.act.touch?=ë)(h:∀c∈u,∀b,F.M b->c.act≠Ř (dP<|fM b)):J3 F sp rl V fs rx t u 0 where
 C c e a d:=by rw[f c e]at d;cases d
 S:=Ç U;M c e a x d:=by rw[f c e]at d;cases d
 fL c e a y d:=by rw[f c e]at d;cases d
 N:=h;I x hx g:=by refine⟨λr g=>g.app λj l m i=> ?_,λ_ c e a d=>by rw[f c e]at d;cases d⟩;let⟨z,k,_⟩:=i;rcases mR k with⟨q,_⟩|⟨_,c,n,o,_⟩;all_goals grind
def TI.agQ(h:TI F t0 jl sp rl V pk fs rx ql t){b:Nat->Option Nat}(c:∀k y,fs k=À y->b k=À y):TI F t0 jl sp rl V pk b rx ql t:= {h with M:=λp a x d e f=>(h.M p a x d e f).imp id (Or.imp id λq=>⟨q.1,q.2.imp id λ⟨k,j,g,i,l,m⟩=>⟨k,j,g,i,c k j l,m⟩⟩)}
theorem TI.F8(h:TI F t0 jl sp rl V pk fs rx ql t){y:c8}(j:wQ.g=0/\wQ.act=.go (F.L+sp))(k:y.g=F.L+sp/\y.act=.start)(m:Τ t 0=0)(n:Τ t (F.L+sp)=0)(B:¬rx sp)(o:∀wQ,rx wQ->wQ<sp):TI F t0 jl (sp+1) rl V pk fs rx ql (t++#[wQ,y]):=by
 have q:∀c∈#[wQ,y],c.act.touch?=ë:=by
  intro c a;simp at a;rcases a with rfl|rfl
  .rw[j.2];rfl
  .rw[k.2];rfl
 have r:∀c∈#[wQ,y],∀b,F.M b->c.act≠Ř (dP<|fM b):=by grind
 have d:=h.C<|yM q r;refine{d with AO:=λz s p f i=> ?_,r:=λz s l=>d.r z (o z l) l,S:=λp a f u=>((d.S p a f u).imp id λ⟨z,v,e⟩=>⟨z,Z,e⟩)}
 .by_cases e:z<sp
  .exact d.AO z e p f i
  .obtain rfl:z=sp:=Z
   rw[aG<|Ô f h.N]at i;let⟨c,v,w⟩:=ģ.1 i;have:=bn v;rw[w]at this;exact cP j k m n this
theorem agR{y:c8}(d:wQ.g=0/\wQ.act=.go k)(e:y.g=k/\y.act=.start)(j:Τ t 0=0)(m:Τ t k=0){l:dS}:(qE t 0 l->qE (t++#[wQ,y]) k l)/\(po t 0 l->po (t++#[wQ,y]) k l):=by
 have q:∀c∈#[wQ,y],c.act.touch?=ë:=by
  intro c a;simp at a;rcases a with rfl|rfl
  .rw[d.2];rfl
  .rw[e.2];rfl
 refine⟨λh p a f i=> ?_,λh p a f i n=> ?_⟩
 .rcases mR f with⟨_,b⟩|⟨_,c,b,o,_⟩
  .exact cP d e j m<|h p a b i
  .grind
 .rcases mR f with⟨_,b⟩|⟨_,c,b,o,_⟩
  .exact cP d e j m<|h p a b i n
  .grind
theorem TI.agS(h:TI F t0 jl sp rl V pk fs rx ql t)(f:wQ.g=F.L)(i:wQ.act=Ř (Ķ<|fM<|F.I<|rl+1))(l:Τ t F.L=0)(q:∀a:Ú,(V (rl+1) a.block\/a=jf F (rl+1))->po t F.L (û a)): TI F t0 jl sp (rl+1) V (fx pk (rl+1) t.size) fs rx ql (t++#[wQ]):=by
 have m:∀c∈#[wQ],c.act.touch?=ë:=by
  intro c e;have:c=wQ:=by simpa using e
  rw[this,i];rfl
 have d:=h.C (yM m λc e b _=>by grind);have n:(t++#[wQ])[t.size]?=À wQ:=by rw[ć<|ß _];simp
 have j:∀k,k<=rl->fx pk (rl+1) t.size k=pk k:=λk r=>fG pk _ Z;refine{d with Y:=λk b o=> ?_,I:=λk b o a p=> ?_}
 .by_cases e:k=rl+1
  .subst e;rw[gD];exact⟨by rw[eB n,i],by simp[Ņ,f],⟨F.L,by simp[Ņ,f],by rwa[cO<|ß _]⟩⟩
  .rw[j k Z];exact d.Y k b Z
 .by_cases e:k=rl+1
  .grind [gD,agP]
  .rw[j k Z];exact d.I k b Z a p
theorem TI.agT(h:TI F t0 jl sp rl V pk fs rx ql t){x:Nat}(r:x<sp)(d:wQ.g=F.L+x)(f:wQ.act=Ř (Ķ<|fM F.C))(k:Τ t (F.L+x)=0)(s:¬rx x): TI F t0 jl sp rl V pk fs (λz=>rx z\/z=x) (fx ql x t.size) (t++#[wQ]):=by
 have l:∀c∈#[wQ],c.act.touch?=ë:=by
  intro c a;have:c=wQ:=by simpa using a
  rw[this,f];rfl
 have j:=h.C (yM l λc a b _=>by grind);have b:(t++#[wQ])[t.size]?=À wQ:=by rw[ć<|ß _];simp
 refine{j with r:=λz m n=> ?_};by_cases e:z=x
 .subst e;rw[gD];refine⟨⟨by rw[eB b,f],by simp[Ņ,d],⟨F.L+z,by simp[Ņ,d],by rwa[cO<|ß _]⟩,λi u o=> ?_⟩,λp a q _=>Ç ?_⟩
  .have:=J0 o;simp at this;omega
  .have:=OU q;simp at this;omega
 .rw[fG ql _ e];exact j.r z m<|n.resolve_right e
def XH(e:t.act? i=À (Ř<|Ķ a))(f:t.g? i=À k)(h:t.heard i)(l:NoRelease a t)(c:wQ.g=n)(m:wQ.act=Ř (cM a))(o:Τ t n=0):bD (t++#[wQ]) n i:=by
 have b:=J0 f;have d:(t++#[wQ])[t.size]?=À wQ:=by rw[ć<|ß _];simp
 refine⟨t.size,wQ,d,c,Î<|.single<|Î ⟨.marked b (Î<|by rwa[dQ b]) (by rw[eB d,m]) λj _ q=> ?_,(heard_old b).2 h,⟨n,by simp[Ņ,c],by rwa[cO<|ß _]⟩⟩⟩;rw[dQ q];exact l j
theorem TI.kX(h:TI F t0 jl sp rl V pk fs rx ql t)(G:wQ.g=0)(o:wQ.act=Ř (cM<|fM F.C))(H:Τ t 0=0)(k:∀x,x<sp->rx x): (∀p a,Ě (t++#[wQ]) p=À a->a.loc.isMemory=É->bD (t++#[wQ]) 0 p\/((jl a.loc\/∃x:Ú,a.loc=û x/\x.block=F.C)/\a.kind=Ŕ))/\(t++#[wQ]).HandedOver:=by
 have Q:wQ.act.touch?=ë:=by rw[o];rfl
 have s:=λx c=>by let⟨b,_⟩:=h.r x c<|k x c;exact XH b.act b.g b.heard (h.c _<|Ç U) G o H
 have u:∀p a,Ě (t++#[wQ]) p=À a->p<t.size/\Ě t p=À a:=λp a l=>by rcases mR l with q|⟨_,v,d,w,_⟩;all_goals grind
 have B:∀p q x,t.g? p=À (F.L+x)->t.g? q=À (F.L+x)->p<=q->Before (t++#[wQ]) p q:=λp q x d w S=>by
  rcases Nat.lt_or_ge p q with f|i
  .exact Î<|.single<|Ç ⟨f,_,F7 d,F7 w⟩
  .exact Ç Z
 refine⟨λp a l I=> ?_,λp g C J K=> ?_⟩
 .let⟨f,d⟩:=u p a l;by_cases e:p<t0
  .rcases h.e p a e d I with q|⟨b,i⟩
   .exact Ç<|q.app _
   .grind
  .rcases h.S p a Z d with q|⟨x,c,q⟩
   .let⟨v,m,n⟩:=ģ.1 q;have:=bn m;rw[n]at this;exact Ç<|this.app _
   .let⟨b,i⟩:=h.r x c<|k x c;rcases i p a d q with z|⟨j,P⟩
    .exact Ç<|Knows.of_before (B p (ql x) x q b.g z)<|s x c
    .grind
 .let⟨z,D,M,N⟩:=K;let⟨f,d⟩:=u p z D;have O:t.g? p=À g:=by rwa[aG f]at C
  have E:=(ek f).1 ⟨z,D,M,N⟩;by_cases e:p<t0
  .let⟨j,b,i⟩:=h.d p g e O J E;exact⟨j,F7 b,eh _ i⟩
  .rcases h.S p z Z d with q|⟨x,c,q⟩
   .grind
   .let⟨b,_⟩:=h.r x c<|k x c;let⟨r,v,m,n,i⟩:=s x c;have j:(t++#[wQ]).g? r=À 0:=by unfold Ņ;rw[m];simp[n]
    refine⟨r,j,?_⟩;rcases(B p (ql x) x q b.g<|Nat.le_of_not_lt λP=>b.after p P q E).trans i with P|P;all_goals grind
end
end Go.Proofs.Y.ft
namespace Go.Proofs.Y.ft
open Go Go.Conc Go.Proofs.Y.Lift
open Go.ConcN (sumTo)
structure Ph extends Fx where
 P:Õ
 S:Nat
 n:Nat
 q:Nat
 Y:Nat
 f:Nat
 r:Nat->Nat
 a:Nat->Nat
 b:Nat->Nat
 c:Nat->Â
 z:Â
 B:Nat
 γ:Type
 l:γ
 i:Nat->Prop
 p:Nat->γ->γ->Prop
 d:Nat->γ->(Nat->Prop)->Æ->Prop
 o:Nat->ByteArray
 k:Nat->ByteArray
 g:Nat->(Nat->Nat)->Jd
 h:Nat->Jd
 e:Nat->Nat->Jd
 j:(Nat->Nat)->Jd
inductive ny(F:Ph):Nat->F.γ->Prop
 |vm:ny F 0 F.l
 |Dh {k:Nat} {s s':F.γ} (h:ny F k s) (hn:F.p k s s'):ny F (k+1) s'
def jm(F:Ph)(p:Nat):Ú:=⟨F.Y,p,ë⟩
inductive fW where
 |go (j:Nat)|lF (j:Nat)|rd (j:Nat)|iF (j:Nat)|iJ (r:Nat)|kX (r:Nat)|fy (p:ju)|gd
inductive jx where
 |kO (k:Nat)|mk (k:Nat)|dn (k:Nat) (p:jF)
inductive gO where
 |nu (r:Nat)|fy (r:Nat) (p:ju)|jK (r:Nat)|oN (r:Nat)
inductive ik where
 |oP|gd (p:jF)|jr (N:Nat)
section
variable(F:Ph)
def F9:Jd:=λl g=>∃N,QuitsD F.P N l.d g
def kC(l:e9):e9:={l with O:=λ_=>False,I:=λ_=>False,r:=λ_=>False,N:=λ_=>False,q:=True}
def AP:Jd:=λl g=>Dg F.P Ã F.C (F9 F) .jD (kC l) g
def Di(c j r:Nat):Jd:=w7 F.P Ã c F.z λx=>match x with
 |some v=>λl g=>v=F.c (j+r*F.n)->qH F.P Ã F.B (F.I<|F.r<|j+r*F.n) (F.e c<|j+r*F.n) .iY l g
 |none=>AP F
def vr(l:e9)(i:Nat):e9:={l with r:=λa=>l.r a/\a≠jm F (F.a i),N:=λa=>l.N a\/a=jm F (F.a i)}
def pY(l:e9)(k:Nat):e9:={l with O:=λ_=>False,I:=l.M,r:=λa=>l.r a/\a≠jm F (F.b k)/\a≠jf F.toFx k,N:=λa=>l.N a\/a=jm F (F.b k)\/a=jf F.toFx k}
def JW(c j:Nat):gO->Jd
 |.nu r=>Di F c j r
 |.fy r p=>qH F.P Ã F.B (F.I<|F.r<|j+r*F.n) (F.e c<|j+r*F.n) p
 |.jK r=>F.e c<|j+r*F.n
 |.oN r=>λl g=>l.w.cell? (jm F<|F.a<|j+r*F.n)=À (ħ<|F.k<|j+r*F.n)/\Di F c j (r+1) (vr F l<|j+r*F.n) g
def JI(sg:Nat->F.γ):jx->Jd
 |.kO k=>F.h k
 |.mk k=>λl g=>∃p V,F.p (k-1) (sg<|k-1) p/\F.d k p V l.w/\(∀b,V b->l.M b)/\l.w.cell? (jm F<|F.b k)=À (ħ<|F.o k)/\Dg F.P Ã (F.I k) (fh F.P Ã<|F.h k) .jD (pY F l k) g
 |.dn k p=>Dg F.P Ã (F.I k) (fh F.P Ã<|F.h k) p
def JE:ik->Jd
 |.oP=>AP F
 |.gd p=>Dg F.P Ã F.C (F9 F) p
 |.jr N=>pv F.P N
def J4(j:Nat)(a:Nat->Nat):Jd:=λl g=>∃c,F.g j (fx a (j-1) c) l g
def XJ(j:Nat)(a:Nat->Nat):Jd:=λl g=>l.d=1/\F3 F.P É (.read<|gW F.C) (J4 F j a) l g
def OV(j:Nat)(a:Nat->Nat):Jd:=λl g=>l.d=1/\Oz F.P É (fM F.C) fY (λs=>if s=fY then fh F.P É (XJ F j a)else if fY<s/\s<1000000*fY/\s%fY=0 then fh F.P É (J4 F j a)else λ_ _=>True) l g
def AQ(a:Nat->Nat):Nat->Jd
 |0=>qH F.P É F.B F.C (F.j a) .iY
 |r+1=>JN F.P É (a<|F.n-(r+1))<|AQ a r
def Gb(a:Nat->Nat):Nat->Jd
 |0=>AQ F a F.n
 |r+1=>AK F.P É (a<|(F.q-(r+1))%F.n) (F.c<|F.q-(r+1))<|Gb a r
def JM(dk:Nat->Nat):fW->Jd
 |.go j=>F.g j dk
 |.lF j=>J4 F j dk
 |.rd j=>XJ F j dk
 |.iF j=>OV F j dk
 |.iJ r=>Gb F dk r
 |.kX r=>AQ F dk r
 |.fy p=>qH F.P É F.B F.C (F.j dk) p
 |.gd=>F.j dk
def lW(x:Nat)(a:Ú):Prop:=if x=0 then(∃k,1<=k/\k<=F.m/\(a=jf F.toFx k\/a=jm F (F.b k)))else∃i,i<F.q/\i%F.n=x-1/\a=jm F (F.a i)
end
def fW.sp(n:Nat):fW->Nat
 |.go j|.lF j|.rd j|.iF j=>j
 |_=>n+1
def fW.ad(n:Nat):fW->Nat
 |.iF j=>j
 |.go j|.lF j|.rd j=>j+1
 |_=>n+1
def fW.mF(q:Nat):fW->Nat
 |.go _|.lF _|.rd _|.iF _=>0
 |.iJ r=>q-r
 |_=>q
def fW.je(n:Nat):fW->Nat
 |.kX r=>n-r
 |.fy _|.gd=>n
 |_=>0
def ju.sM:ju->Nat
 |.wr|.kB=>1
 |_=>0
def fW.gC:fW->Nat
 |.fy p=>p.sM
 |_=>0
def jF.kQ:jF->Nat
 |.jD|.iF=>1
 |_=>0
def ik.kQ:ik->Nat
 |.oP=>1
 |.gd p=>p.kQ
 |_=>0
def ik.ou:ik->Prop
 |.oP=>False
 |_=>True
def me:Option ik->Nat
 |none=>1
 |some e=>e.kQ
def jF.iy:jF->Prop
 |.jD=>False
 |_=>True
def ik.iy:ik->Prop
 |.oP=>False
 |.gd p=>p.iy
 |_=>True
def jx.md:jx->Nat
 |.kO k=>k
 |.mk k=>k-1
 |.dn k _=>k
def jx.rl:jx->Nat
 |.kO k=>k
 |.mk k=>k-1
 |.dn k .jD=>k-1
 |.dn k _=>k
def jx.od:jx->Nat
 |.kO k=>k
 |.mk k=>k-1
 |.dn k .jD|.dn k .iF=>k-1
 |.dn k _=>k
def gO.iN:gO->Nat
 |.nu r=>r
 |.fy r _|.jK r|.oN r=>r+1
def gO.kD:gO->Nat
 |.nu r|.fy r _|.jK r|.oN r=>r
def gO.gC(F:Ph)(j:Nat)(k:Nat):gO->Nat
 |.fy r p=>if F.r (j+r*F.n)=k then p.sM else 0
 |_=>0
structure fU(F:Ph) where
 M:fW
 S:jx
 C:Nat->gO
 N:Nat->Option ik
 I:Nat->Nat
 c:Nat->F.γ
 V:Nat->Nat->Prop
 e:Nat->Nat
 d:Nat->Option Nat
 f:Nat->Nat
 b:GS
 a:Nat->GS
 g:Option Nat
 h:Nat->Nat
section
variable{F:Ph}
def fU.r(E:fU F):Nat:=E.M.sp F.n
def fU.G(E:fU F)(x:Nat):Nat:=if x<E.M.ad F.n then me (E.N x)else 0
def fU.iy(E:fU F)(x:Nat):Prop:=∃e,E.N x=À e/\e.iy
def fU.ou(E:fU F)(x:Nat):Prop:=∃e,E.N x=À e/\e.ou
def fU.Y(E:fU F)(b:Nat):Prop:=F.M b\/b=F.Y\/∃j,j+2<=E.r/\b=E.I j
def tP(n j Q s:Nat):Prop:=∀i,i<s↔j+i*n<Q
def kM:fW->iA
 |.fy .kB=> .iB
 |_=> .no
def kW(F:Ph)(c:Nat):gO->iA
 |.nu _=> .sK c F.z
 |.fy _ .kB=> .iB
 |_=> .no
end
structure Ph.Ok(F:Ph):Prop where
 N:1<=F.n
 r:1<=F.L
 gf:F.n+F.q+F.m<1000
 I:∀i,i<F.q->F.r i<=F.m
 M:∀k,k<=F.m->F.I k≠F.C
 S:∀k k',k<=F.m->k'<=F.m->F.I k=F.I k'->k=k'
 C:¬F.M F.Y
 a:∀i i',i<F.q->i'<F.q->F.a i=F.a i'->i=i'
 pi:∀k k',1<=k->k<=F.m->1<=k'->k'<=F.m->F.b k=F.b k'->k=k'
 OW:∀i k,i<F.q->1<=k->k<=F.m->F.a i≠F.b k
 gp:∀b,F.M b\/b=F.Y->F.S<=b
 Y:(∀k,1<=k->k<=F.m->F.b k≠F.f)/\∀i,i<F.q->F.a i≠F.f
structure iH(F:Ph)(E:fU F)(lot:Nat->e9)(sz:Nat)(w:Æ):Prop where
 gT:∀i,i<sz->∀a,(lot i).C a->(∃k,k<=F.m/\a=jf F.toFx k)\/∃p,p≠F.f/\a=jm F p
 o:∀x,E.r<=x->x<=F.n->∀a,lW F x a->(lot 0).r a
 lU:E.r<=F.n->(lot 0).N (jf F.toFx 0)/\∀b,F.i b->(lot 0).I b
 e:0<E.r->∀k,E.S.md<k->k<=F.m->(lot F.L).r (jf F.toFx k)/\(lot F.L).r (jm F<|F.b k)
 f:0<E.r->E.N 0=ë->(lot F.L).N (jf F.toFx E.S.md)/\∀b,E.V E.S.md b->(lot F.L).I b
 h:∀j,j+2<=E.r->E.N (j+1)=ë->∀r,j+r*F.n<F.q->(E.C j).kD<=r->(lot<|F.L+1+j).r (jm F<|F.a<|j+r*F.n)
 l:∀j,j+2<=E.r->E.N (j+1)=ë->(lot<|F.L+1+j).N (jf F.toFx 0)/\∀b,F.i b->(lot<|F.L+1+j).I b
 S:∀x,E.ou x->lot (F.L+x)=kC (lot<|F.L+x)
 M:∀i,(i=0\/∃x,x<E.r/\i=F.L+x/\¬E.ou x)->¬(lot i).q
 c:∀i,0<i->i<F.L->lot i=kC (lot i)
 I:∀k,k<=E.S.md->∀b,E.V k b->b<w.heap.size/\¬E.Y b/\∀i,i<sz->¬(lot i).O b
 N:∀k,k<=E.S.md->∀i,i<sz->¬(lot i).r (jf F.toFx k)
 g:∀k,1<=k->k<=E.S.md->∀i,i<sz->¬(lot i).r (jm F<|F.b k)
 d:∀j,j+2<=E.r->∀r,j+r*F.n<F.q->r<(E.C j).kD->∀i,i<sz->¬(lot i).r (jm F<|F.a<|j+r*F.n)
structure Wd(F:Ph)(E:fU F)(w:Æ):Prop where
 C:ic w F.C E.b
 I:∀k,k<=F.m->ic w (F.I k) (E.a k)
 jG:∀j,j+2<=E.r->∃buf s,w.heap[E.I j]?=À (χ F.q buf (decide<|j<E.M.je F.n) s (E.C j).iN Ã)/\tP F.n j (E.M.mF F.q) s/\(E.C j).iN<=s/\buf.size=s-(E.C j).iN/\∀i,i<s-(E.C j).iN->buf[i]?=À (F.c<|j+((E.C j).iN+i)*F.n)
 M:∀k,k<=E.S.md->ny F k (E.c k)/\F.d k (E.c k) (E.V k) w
 S:∀k,1<=k->k<=E.S.md->w.cell? (jm F<|F.b k)=À (ħ<|F.o k)
 N:∀j,j+2<=E.r->∀r,j+r*F.n<F.q->r<(E.C j).kD->w.cell? (jm F<|F.a<|j+r*F.n)=À (ħ<|F.k<|j+r*F.n)
structure Ps(F:Ph)(E:fU F):Prop where
 v:E.V 0=F.i
 C:∀j,E.M=.go j\/E.M=.lF j\/E.M=.rd j\/E.M=.iF j->j<=F.n
 K:∀j,E.M=.lF j\/E.M=.rd j\/E.M=.iF j->1<=j
 L:∀r,(E.M=.iJ r->r<=F.q)/\(E.M=.kX r->r<=F.n)
 J:E.r=0->E.S=.kO 0
 I:∀k,(E.S=.kO k->k<=F.m)/\(E.S=.mk k->1<=k/\k<=F.m)/\(∀p,E.S=.dn k p->1<=k/\k<=F.m)
 z:∀j,E.r<j+2->E.C j=.nu 0
 d:∀j r,j+2<=E.r->((∃p,E.C j=.fy r p)\/E.C j=.jK r\/E.C j=.oN r)->j+r*F.n<F.q
 l:∀j,j+2<=E.r->E.N (j+1)≠ë->j<E.M.je F.n/\∃r,E.C j=.nu r/\∀i,j+i*F.n<F.q->i<r
 f:E.N 0≠ë->E.S=.kO F.m
 h:∀x,E.r<=x->E.N x=ë
 M:∀j j',j+2<=E.r->j'+2<=E.r->E.I j=E.I j'->j=j'
 o:∀j,j+2<=E.r->¬F.M (E.I j)/\E.I j≠F.Y/\F.S<=E.I j
 t:∀c reg,E.b=.cl c reg->c=bE (F.n+1) E.G/\reg=E.M.gC
 g:∀reg,E.b=.jE reg->bE (F.n+1) E.G=0/\reg=E.M.gC/\∃x,x<E.r/\E.g=À x/\(E.N x=À (.gd (.gA reg))\/E.N x=À (.gd (.jc reg)))
 u:∀r s,E.b=.gX r s->bE (F.n+1) E.G=0/\r+s=E.M.gC/\(0<r->∃x,x<E.r/\E.g=À x/\E.N x=À (.gd (.iB r)))
 N:∀x p,E.N x=À (.gd p)->(∀W,p=.gA W\/p=.jc W->E.g=À x/\E.b=.jE W)/\(∀r,p=.iB r->0<r/\E.g=À x/\∃s,E.b=.gX r s)
 B:E.M=.fy .gA\/E.M=.fy .lj\/E.M=.gd->bE (F.n+1) E.G=0
 e:∀k,1<=k->k<=F.m->E.S.od<k->E.a k=.cl 1 (bE F.n λj=>(E.C j).gC F j k)
 Y:∀k,k<=F.m->k<=E.S.od->(∃W,(E.S=.dn k (.gA W)\/E.S=.dn k (.jc W))/\E.a k=.jE W/\W=bE F.n λj=>(E.C j).gC F j k)\/(∃r s,E.S=.dn k (.iB r)/\0<r/\E.a k=.gX r s/\r+s=bE F.n λj=>(E.C j).gC F j k)\/((∀p,E.S≠ .dn k p)/\((E.a k=.cl 0 0/\(bE F.n λj=>(E.C j).gC F j k)=0)\/∃s,E.a k=.gX 0 s/\s=bE F.n λj=>(E.C j).gC F j k))
 w:∀j r,j+2<=E.r->(E.C j=.fy r .gA\/E.C j=.fy r .lj\/E.C j=.jK r)->F.r (j+r*F.n)<=E.S.od
 H:∀j r,j+2<=E.r->E.C j=.fy r .gA->∃a b,E.a (F.r<|j+r*F.n)=.gX a b
 O:E.M=.fy .gA->∃a b,E.b=.gX a b
 S:(∀p,E.M≠ .fy p)->E.M≠ .gd->∃c,E.b=.cl c 0
 y:∀k,k<=F.m->E.a k=.cl 1 0->E.d k=ë
 D:∀j r,j+2<=E.r->E.C j=.fy r .wr->E.d (F.r<|j+r*F.n)=À j
def fg(F:Ph)(E:fU F)(a:Array Ó)(w:Æ):Prop:=∀i g,a[i]?=À g->g.status=Ů->
 (i=0/\E.M=.fy .kB/\E.b.sm=0)\/(∃j,j+2<=E.r/\E.N (j+1)=ë/\i=F.L+1+j/\((∃r,E.C j=.fy r .kB/\(E.a<|F.r<|j+r*F.n).sm=0)\/∃r b s c,E.C j=.nu r/\w.heap[E.I j]?=À (χ b #[] Ã s c Ã)))
structure PI(F:Ph)(t0:Nat)(jl:dS->Prop)(E:fU F)(S:Nat->Jd)(tr:Nat->gu)(kp:Nat->iA)(lot:Nat->e9)(gs:Array Ó)(w:Æ)(t:ğ):Prop where
 b:gs.size=F.L+E.r
 I:gN F.P F.S E.Y S tr kp lot gs w t
 h:S 0=JM F E.I E.M/\kp 0=kM E.M
 m:0<E.r->E.N 0=ë->S F.L=JI F E.c E.S/\kp F.L=.no
 g:∀j,j+2<=E.r->E.N (j+1)=ë->S (F.L+1+j)=JW F (E.I j) j (E.C j)/\kp (F.L+1+j)=kW F (E.I j) (E.C j)
 k:∀x e,x<E.r->E.N x=À e->S (F.L+x)=JE F e/\kp (F.L+x)=.no/\((∃N,e=.jr N)->tr (F.L+x)=.fA)
 l:∀i,0<i->i<F.L->S i=pv F.P (E.h i)/\tr i=.fA/\kp i=.no
 a:iH F E lot gs.size w
 M:Wd F E w
 C:Ps F E
 d:TI F.toFx t0 jl E.r (E.S.rl) E.V E.e E.d E.iy E.f t
 c:fg F E gs w
 f:∀j r,j+2<=E.r->E.C j=.jK r->1<=F.r (j+r*F.n)->bD t (F.L+1+j) (E.e<|F.r<|j+r*F.n)
structure gR(F:Ph):Prop where
 C:F.Ok
 S:∀k s V w w',F.d k s V w->(∀b,V b->w'.heap[b]?=w.heap[b]?)->w'.cell? (jf F.toFx k)=w.cell? (jf F.toFx k)->w'.cell? (jm F F.f)=w.cell? (jm F F.f)->kV w' F.Y=kV w F.Y->(w'.os=w.os/\w'.output=w.output)->F.d k s V w'
 Gc:∀j dk l g w₁,F.g j dk l g->fE l l.w w₁->F.g j dk {l with w:=w₁} g
 I:∀j dk l g,F.g j dk l g->g.status=Ð
 N:∀k l g,F.h k l g->g.status=Ð
 Y:∀c i l g,F.e c i l g->g.status=Ð
 M:∀dk l g,F.j dk l g->g.status=Ð
 go:∀j dk l g,j<=F.n->F.g j dk l g->gw l->l.d=0/\∃(g' child:Ó) (X:Nat->Prop),g'.status=Ð/\child.status=Ð/\(∀w₁,Ù F.P É g w₁=.spawn g' child w₁ #[])/\(∀b,X b->l.O b)/\
  (1<=j->l.O (dk<|j-1)/\¬X (dk<|j-1)/\l.w.heap[dk<|j-1]?=À (χ F.q #[] Ã 0 0 Ã)/\F.S<=dk (j-1))/\
  (∀l':e9,gw l'->(∀b,X b\/l.I b->l'.I b)->l'.w=l.w->l'.d=0->¬l'.q->(∀b,¬l'.O b)->l'.K=l.K->l'.N=l.N->(∀a,l'.r a->l.r a)->fh F.P Ã (if j=0 then F.h 0 else Di F (dk<|j-1) (j-1) 0) l' child)/\
  (∀l':e9,gw l'->l'.O=(λb=>l.O b/\¬X b/\(1<=j->b≠dk (j-1)))->(∀b,X b\/l.I b->l'.I b)->l'.w=l.w->l'.d=0->l'.q=l.q->l'.K=l.K->l'.N=l.N->(∀a,l'.r a->l.r a)->fh F.P É (JM F dk<|if j<F.n then .iF (j+1)else .iJ F.q) l' g')
 f:∀k s V l g,k<F.m->F.h k l g->gw l->ny F k s->F.d k s V l.w->(∀b,V b->l.I b)->l.N (jf F.toFx k)->l.r (jf F.toFx<|k+1)->l.r (jm F<|F.b<|k+1)->∀sg:Nat->F.γ,sg k=s->fh F.P Ã (JI F sg<|.mk (k+1)) l g
 h:∀l g,F.h F.m l g->gw l->fh F.P Ã (AP F) l g
 e:∀c j r s V l g,j+r*F.n<F.q->F.e c (j+r*F.n) l g->∀l':e9,gw l'->l'.O=l.O->(∀b,l.I b\/V b->l'.I b)->l'.w=l.w->l'.d=l.d->l'.q=l.q->l'.r=l.r->l'.K=l.K->ny F (F.r<|j+r*F.n) s->F.d (F.r<|j+r*F.n) s V l.w->l'.N (jf F.toFx<|F.r<|j+r*F.n)->l'.r (jm F<|F.a<|j+r*F.n)->fh F.P Ã (JW F c j<|.oN r) l' g
end Go.Proofs.Y.ft
