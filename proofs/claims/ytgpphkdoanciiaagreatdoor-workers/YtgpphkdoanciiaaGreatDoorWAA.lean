/- Workers: the texts of the proof, packed by program out of some 250: remarks struck, names and blanks shortened, for the limit of a claim's size. -/
import Derived.KernelRfl
import Derived.Conc.Own
import Derived.Conc.Events
import Derived.Laws.Sem
import Derived.Conc.Own5
import Derived.Conc.CompanyDraw
import Derived.Conc.Know
import Derived.Conc.Beside
import Derived.Conc.MarkLaws
import Derived.Conc.CrowdComm
import Derived.Conc.CrowdTrace
import Derived.Conc.CrowdBase
set_option linter.all false
set_option maxRecDepth 1000000
set_option maxHeartbeats 8000000
open Option renaming some->À,none->ë,map_eq_some_iff->ģ,map_some->bG
open Go renaming TypeId->Á,Value->Â,World->Æ,Goroutine->Ó,Program->Õ,Operand->Ö,stepG->Ù,Addr->Ú,FuncId->à,execOp->ì,underlying->ø,resolve->ù,IntKind->ú,Event->ý,run_program->ă,variablesAt->Ą,invoke->č,builtin->Ē,Sem->ē,loadBytes->ĕ,Frame->Ę,Trace->ğ,BinOp->ġ,results->Ī,behindNumber->Į,FloatKind->ı,callFunc->ĵ,undef->ľ,yielded->ł,loadCellsFrom->Ō,convert->Œ,movedNumber->ŕ,Item->ś,movedPointer->Ţ,binOp->Ũ,elemOf->Ū,sameAddr->Ŭ,deafBehind->ŭ,eqGuard->ŷ,typeInfo->Δ,partners->Η,RuntimeError->Ι,storeCells->Κ,Next->Ο,cellAtBytes->ξ,choose->π,Tape->ψ,zeroValue->ω,loadVar->ae,Code->aj,store->ak,Oper->au,BoundsCode->av,sizeOf->ax,storeVar->aI,nilAhead->aQ,lone->aT,load->aW,noView->aX,liesAt->aY,findLabel->bh,stringish->bl,Unsupported->bq,followBlind->bu,Act->bE,askRoom->bO,Machine->bQ,Question->bT,asBool->bV,asAddr->bW,fieldPlace->bX,numberAt->bZ,asNumber->b9,getObj->ck,shape->cm,exitTo->cB,gotoIn->cC,mayBeOne->cI,runT->cV,MemOp->cW,loadCells->cX,rowAt->cZ,program->da,asIntOf->dc,viewAt->dh,byteOf->di,unwind->dr,runN->dt,cellsIn->du,asInt->dz,TypeDesc->dE,runN_add->dH,Touch->dK,step->dO,Loc->dP,newRow->dQ,PanicEntry->eb,isAgg->ek,Race->eC,newVar->eI,asAgg->eJ,newObj->eK,frozen->eL,freeze->eT
open Bool renaming false->Ã,false_eq_true->Å,true->É,and_eq_true_iff->Ü,not_true->þ,not_false->Ă,and_eq_true->ě,or_eq_true_iff->Ŝ,eq_iff_iff->Χ,or_eq_true->bH
open Go.Sem renaming run_bind->Ä,runT_bind'->Ñ,run->ã,bind->ç,runT->é,run_bind'->Ĵ,bind_assoc'->ř,runT_eq->ź,runT_fst->Ρ,pure->aH,store->c8,halt->ei
open Or renaming inl->Ç,inr->Î
open Go.Result renaming andThen_ok->È,ok->ĥ,halt->bU
open Go.Op renaming operands->Ê,equal->ó,maxDepth->ā,eqGuardIn->į,twoPlaces->š,equalIn->Λ,addrSub->Μ,addrCmp->Ν,addrMod->Ξ,call->Ω,intDiv->ag,shift->aJ,convert->aL,stringOp->br,unary->bY,makeInterface->cH,floatArith->cR,complexOp->dj,buildSlice->dB,intArith->dC,floatCmp->dD,binOp->dR,makeSlice->dS,fieldAddr->dT,indexAddr->dU,intBits->dW,nilCheck->ez,intCmp->eA
open Array renaming getElem?_eq_some_iff->Ë,getElem?_setIfInBounds_ne->Ï,getElem?_setIfInBounds_self_of_lt->Ò,mem_of_getElem?->Û,getElem?_eq_getElem->Ý,getElem?_append_right->ć,empty_append->Ď,append_empty->ď,mapM_eq_mapM_toList->Ĕ,mem_append->Ĝ,getElem?_push_lt->Ģ,getD_eq_getD_getElem?->ĩ,replicate->ĺ,append_assoc->Ļ,append_singleton->Ł,all_eq_true->Ń,getElem?_modify->Ň,mem_iff_getElem->ŉ,getElem?_setIfInBounds->Ś,getElem_map->ŵ,getElem_extract->κ,forIn_toList->aD,range->dA
open Go.stepG renaming exec->Ì,apply->bB
open Go.MemOp renaming ofEvents->Í
open Go.GoStatus renaming running->Ð,finished->Ğ,blocked->Ů
open Nat renaming lt_of_lt_of_le->Ô,le_refl->ß,le_trans->õ,exists_eq_add_of_le->Ε,div_le_div_right->ο,add_assoc->cO,le_of_eq->dx,zero_le->dy
open List renaming map_toArray->Ø,map_cons->â,map_nil->ä,mem_cons_self->î,mem_cons_of_mem->ò,eq_nil_of_length_eq_zero->Ā,zipIdx_cons->Ĭ,mem_cons->œ,mem_singleton->ū,foldlM_cons->Ζ,filter_eq_nil_iff->Υ,foldlM_nil->ζ,forIn_cons->η,mapM_cons->ν,forIn_nil->φ,map_eq_nil_iff->ai,flatMap_cons->aU,mapM_nil->cQ
open Go.Value renaming pointer->Þ,int->Ć,string->ħ,bool->Ľ,tuple->ſ,nilIface->aV,slice->bR,nilFunc->bS,chan->eh,func->eH
open Go.Item renaming inRegion->á,code->Đ,inLoop->dm,inBlock->dF,inScope->dG
open Go.Act renaming eval->å
open Go.IntKind renaming u64->æ,i64->Ŋ,u32->ŗ
open Go.MemAct renaming ofEvent->è,touch?->ÿ,mark->Ř
open Go.Builtin renaming unsafeString_->ê,unsafeAdd_->ñ,unsafeSliceData_->ė,min2->Ĳ,append_->ĸ,firstCells->ļ,min_->ń,copy_->ő,len_->ş,cap_->Š,zeroCells->Ŷ,lenOf->Α,holdsCells->aA,mayShare->aZ,unsafeSliceData->bk,unsafeString->cU
open Go.Conc renaming mem_ofEvents->í,touchAt->Ě,crowd->ķ,woken->ţ,stepG_region_draw->Ż,parked->Γ,Deaf->Τ,rcase->θ,stepG_unwanted->υ,g?_old->aF,knows_own->bm,deafBehind_still->bn,stepG_value->bz,stepG_enter->bA,Knows->bC,stepG_cond->cD,mem_listed->cE,stepG_none->cF,enter_at->cG,deaf_old->cM,touch_of->dL,act?_old->dN,hb_app->ec,touch_mute->ef,counts_old->eg,act?_of->ey
open Go.Next renaming value->ï,enter->ũ,skip->aG
open Go.TypeDesc renaming pointer->ð,unsafePointer->đ,string->ę,int->Β,struct->de,slice->df
open Go.Call renaming operands->ô
open Go.Conv renaming unsafePointer->ö,bytesToString->ü,seenAt->Ž,runesToString->aE,floatToFloat->aP,intToString->bg,floatToInt->bJ,intToInt->cS
open Go.Loc renaming cell->û,mark->ů
open Ne renaming symm->ą
open Go.World renaming frozen?->Ĉ,setCell->ĉ,freeze->Ė,cell?->Ġ,farLoad->ŋ,farStore->Ŧ,shape?->Θ,setChan->ar,noCell->aO,viewStore->bI
open Go.Extern.BytealgMakeNoZero renaming makeNoZero->Ċ,digits->ņ
open Go.Mode renaming atomic->ċ,plain->Ť
open Go.Obj renaming cells->Č,pending->Ÿ,chan->χ
open Go.Callee renaming builtin->ĝ,value->cg
open Option.some renaming inj->Ĥ,injEq->ž
open Go.Region renaming wanted->Ħ,schedule->bL,Mode->eF
open Go.Instr renaming sliceBounds->Ĩ,sliceBound->ī,buildSlice->ĭ,storeAt->ĳ,makeSlice->Ĺ,extract->ō,fieldAt->Ŏ,indexAt->ŏ,sliceAt->Ő,makeInterface->ŝ,loadAt->Ş,sureAddr->ŧ,alloc->Ű,field->ű,slice->Ų,index->ų,build->Ŵ,panic->ż,box->af,fill->ay
open Go.Deferred renaming ofValue->İ
open Go.Mark renaming releaseMerge->Ķ,disable->cJ,acquire->cK,noRoom->c9,enable->dw,release->dM
open Go.Extern.AbiNoEscape renaming same->Ŀ
open Go.Halt renaming unsupported->ŀ
open Go.Trace renaming g?->Ņ
open Go.Stepped renaming next->ň
open Go.Touch.Kind renaming atomic->Ŕ,plain->eV
open Go.Frame renaming raise->Ŗ,finish_at->ε,finish->aS,catches->cT,enter->dI
open Go.Unsupported renaming unsafePointer->ť
open Go.GStep renaming after->Ź,go->aR,ended->eR
open Go.Goroutine renaming again->ι
open Except renaming bind->ρ,pure->ς,error->bF,map->cj
open Go.Op.Complex renaming corrected->σ,quotient->ah,product->aB,arith->bb,conv->bK,cmp->cu,mul->cw,add->cx,sub->cy,quo->cz
open Go.BinOp renaming eql->az,neq->aK
open Go.Operand renaming func->aN,const->dV,global->ep
open Go.Code renaming cond->bx,region->bP,refuse->dq,label->dX,block->dY,scope->dZ,skip->eM,loop->eN,exit->eO,goto->eP
open Go.ConcN renaming sumTo->bD,fork_knows->cN
variable{i n j b k m J j9 j7 j6:Nat}{w u W jX:Æ}{v x z jQ:Â}{g:Ó}{a p:Ú}{h c:Int}{e t T:Á}{d q:Array Â}{P:Õ}{y:bE}{B:ByteArray}{X:Nat->Prop}{O:Option Ú}{l:List Â}{yQ:Bool}{K H:bE->Æ->Prop}{o:au}{D:Nat->Nat}{E:Array Ó}{L:List ś}{jJ:List Nat}{qX:List Ę}{qQ:Ö}{qJ:ğ}{zX:dP->Prop}{zQ:List Int}{zJ:Go.TypeInfo}{xX:Ö->Â}{xQ:ψ}{xJ:Nat×Nat}{wX:aj}{wQ:cW}{wJ:Array Bool}{vX:List ByteArray}{vQ:Â->Æ->Prop}{vJ:Go.Exit->bE->Æ->Prop}{yX:eF}{Q:Array au}{f:Ę}{V:Array ý}{F:à}{s:Go.Func}
namespace Go.Proofs
theorem U{A:Sort _}{a:A}:a=a:=rfl
theorem Z{p:Prop}(h:p:=by omega):p:=h
theorem A{p:Prop}(h:p:=by decide):p:=h
theorem fg{p:Prop}(h:p:=by simp):p:=h
theorem fj{p:Prop}(h:p:=by kernel_rfl):p:=h
theorem fR{p:Prop}(h:p:=by rfl):p:=h
end Go.Proofs
namespace Go.Proofs.Y.Lift
open Go
abbrev e9{α:Type}:α->Prop:=λ_=>False
structure fi where
 jq:Nat->Nat->Prop
 C:Nat
instance:CoeFun fi λ_=>Nat->Nat->Prop:=⟨fi.jq⟩
def Bi(Y:fi):Prop:=(∀i j a,Y i j->Y i a->j=a)/\(∀i a j,Y i j->Y a j->i=a)/\(∀i j,Y i j->(i<Y.C↔j<Y.C))
def fi.r(Y a:fi):Prop:=(∀i j,Y i j->a i j)/\(Bi Y->Bi a)/\a.C=Y.C
def fi.N(Y:fi)(r a:Nat):fi:=⟨λi j=>Y i j\/(i=r/\j=a),Y.C⟩
def fi.M(Y:fi):Y.r Y:=⟨λ_ _ h=>h,id,U⟩
theorem fi.I{a b c:fi}(h:a.r b)(k:b.r c):a.r c:=⟨λi j x=>k.1 i j<|h.1 i j x,λx=>k.2.1<|h.2.1 x,k.2.2.trans h.2.2⟩
theorem fi.S{Y:fi}{r:Nat}(c:∀j,¬Y r j)(d:∀a,¬Y a i)(f:Y.C<=r)(g:Y.C<=i):Y.r (Y.N r i):=by
 refine⟨λ_ _ h=>Ç h,λb=>⟨?_,?_,?_⟩,U⟩
 .rintro a j k (x|⟨rfl,rfl⟩) (y|⟨e,rfl⟩)
  .exact b.1 _ _ _ x y
  .grind
  .grind
  .rfl
 .rintro a k j (x|⟨rfl,rfl⟩) (y|⟨rfl,e⟩)
  .exact b.2.1 _ _ _ x y
  .grind
  .grind
  .rfl
 .rintro a j (x|⟨rfl,rfl⟩)
  .exact b.2.2 _ _ x
  .show(a<Y.C↔j<Y.C);omega
def gS(Y:fi)(a b:Ú):Prop:=Y a.block b.block/\a.off=b.off/\a.spot=b.spot
def gS.r{Y b:fi}(h:Y.r b)(r:gS Y a p):gS b a p:=⟨h.1 _ _ r.1,r.2⟩
def gS.C{Y:fi}(r:gS Y a p)(n:Nat):gS Y (a.add n) (p.add n):=by
 let⟨b,c,d⟩:=r;unfold Addr.add;by_cases e:n=0
 .rw[if_pos e,if_pos e];exact⟨b,c,d⟩
 .rw[if_neg e,if_neg e];exact⟨b,by simp[c],U⟩
inductive ff(Y:fi):Â->Â->Prop
 |lQ (b:Bool):ff Y (Ľ b) (Ľ b)
 |iA (k:ú) (n:Int):ff Y (Ć k n) (Ć k n)
 |kD (s:ByteArray):ff Y (ħ s) (ħ s)
 |lj:ff Y (Þ ë) (Þ ë)
 |jD {a a':Ú} (h:gS Y a a'):ff Y (Þ<|À a) (Þ<|À a')
 |nG (n c:Nat):ff Y (bR ë n c) (bR ë n c)
 |ku {a a':Ú} (h:gS Y a a') (n c:Nat):ff Y (bR (À a) n c) (bR (À a') n c)
 |uu:ff Y bS bS
 |fn (f:Fn):ff Y (eH f #[] #[]) (eH f #[] #[])
 |uw:ff Y aV aV
 |uy:ff Y (eh ë) (eh ë)
 |uz:ff Y (.map ë) (.map ë)
 |xw (t:Á) {v v':Â} (h:ff Y v v'):ff Y (.iface t v) (.iface t v')
 |nV {cs lk:Array Â} (hs:cs.size=lk.size) (h:∀i (h1:i<cs.size) (h2:i<lk.size),ff Y cs[i] lk[i]):ff Y (.agg cs) (.agg lk)
 |mX {cs lk:Array Â} (hs:cs.size=lk.size) (h:∀i (h1:i<cs.size) (h2:i<lk.size),ff Y cs[i] lk[i]):ff Y (ſ cs) (ſ lk)
def ff.fH{Y a:fi}(h:Y.r a)(r:ff Y v x):ff a v x:=by
 induction r with
 |lQ b=>exact .lQ b
 |iA k n=>exact .iA k n
 |kD s=>exact .kD s
 |lj=>exact .lj
 |jD b=>exact .jD (b.r h)
 |nG n c=>exact .nG n c
 |ku b n c=>exact .ku (b.r h) n c
 |uu=>exact .uu
 |fn f=>exact .fn f
 |uw=>exact .uw
 |uy=>exact .uy
 |uz=>exact .uz
 |xw t _ b=>exact .xw t b
 |nV c _ b=>exact .nV c b
 |mX c _ b=>exact .mX c b
structure fL(Y:fi)(cs lk:Array Â):Prop where
 r:cs.size=lk.size
 C:∀i (h1:i<cs.size) (h2:i<lk.size),ff Y cs[i] lk[i]
def fL.I{Y a:fi}(h:Y.r a){cs:Array Â}(r:fL Y cs d):fL a cs d:=⟨r.r,λi b c=>(r.C i b c).fH h⟩
theorem fL.S{Y:fi}(r:fL Y d q)(i:Nat):(d[i]?=ë/\q[i]?=ë)\/∃v b,d[i]?=À v/\q[i]?=À b/\ff Y v b:=by
 by_cases h:i<d.size
 .have a:i<q.size:=by rwa[<-r.r]
  exact Î ⟨d[i],q[i],Ý h,Ý a,r.C i h a⟩
 .have a:¬i<q.size:=by rwa[<-r.r]
  grind
def fL.N(Y:fi):fL Y #[] #[]:=⟨U,λi h=>absurd h fg⟩
theorem fL.Tv{Y:fi}(r:fL Y d q)(h:ff Y v x):fL Y (d.push v) (q.push x):=by
 refine⟨by simp[r.r],λi b c=> ?_⟩;simp only[Array.getElem_push];have e:=r.r;by_cases a:i<d.size
 .rw[dif_pos a,dif_pos Z];exact r.C i a Z
 .grind
theorem fL.pS{Y:fi}(r:fL Y d q)(n:Nat)(h:ff Y v x):fL Y (d.setIfInBounds n v) (q.setIfInBounds n x):=by
 refine⟨by simp[r.r],λi c e=> ?_⟩;have f:i<d.size:=by simpa using c
 have g:i<q.size:=by simpa using e
 have a:(d.setIfInBounds n v)[i]?=if n=i then À v else d[i]?:=by grind
 have b:(q.setIfInBounds n x)[i]?=if n=i then À x else q[i]?:=by grind
 rw[Ý c]at a;rw[Ý e]at b;by_cases j:n=i
 .grind
 .rw[if_neg j]at a b;rw[Ý f]at a;rw[Ý g]at b;injection a with a;injection b with b;rw[a,b];exact r.C i f g
def fL.sR{Y:fi}{cs b:Array Â}(r:fL Y cs d)(t:fL Y q b):fL Y (cs++q) (d++b):=by
 refine⟨by simp[r.r,t.r],λi c g=> ?_⟩;have e:=r.r;have f:=t.r;simp only[Array.getElem_append];by_cases a:i<cs.size
 .rw[dif_pos a,dif_pos Z];exact r.C i a Z
 .rw[dif_neg a,dif_neg Z];have:=t.C (i-cs.size) (by simp at c;omega) (by simp at c;omega);simpa[e]using this
def fL.EF{Y:fi}(r:fL Y d q)(a b:Nat):fL Y (d.extract a b) (q.extract a b):=by refine⟨by simp[r.r],λi c e=> ?_⟩;rw[κ ..,κ ..];exact r.C _ _ _
def fL.M{Y:fi}(h:ff Y v x):fL Y #[v] #[x]:= ⟨U,λi a b=>by have:i=0:=(by simpa using a);subst this;exact h⟩
def ff.gM{Y:fi}(h:ff Y v x):fL Y v.cells x.cells:=by
 cases h with
 |nV a h=>exact⟨a,h⟩
 |lQ b=>exact fL.M<|.lQ b
 |iA k n=>exact fL.M<|.iA k n
 |kD s=>exact fL.M<|.kD s
 |lj=>exact fL.M .lj
 |jD b=>exact fL.M<|.jD b
 |nG n c=>exact fL.M<|.nG n c
 |ku b n c=>exact fL.M<|.ku b n c
 |uu=>exact fL.M .uu
 |fn f=>exact fL.M<|.fn f
 |uw=>exact fL.M .uw
 |uy=>exact fL.M .uy
 |uz=>exact fL.M .uz
 |xw t b=>exact fL.M<|.xw t b
 |mX a h=>exact fL.M<|.mX a h
def xx:Â->Bool
 |.agg _|ſ _=>Ã
 |_=>É
def EG(e:Á)(n:Nat):Prop:=(e=304\/e=305)/\n<=16
class zz (P:Õ):Prop where
 lt:∀e n,EG e n->n<P.cellsOf e
def B3(e:Á)(n a:Nat):Prop:=n=a\/(n<=a/\EG e n)
structure oA(Y:fi)(s:Prop)(e:Á)(c c':Array Â):Prop where
 r:∀i (_:i<c.size) (_:i<c'.size),ff Y c[i] c'[i]
 I:c.size<=c'.size
 C:c.size=c'.size\/(s/\EG e c.size)
section
variable{Y d:fi}{s:Prop}{c c':Array Â}
def oA.M(h:fL Y c c'):oA Y s e c c':=⟨h.C,by rw[h.r];exact ß _,Ç h.r⟩
def oA.N(h:oA Y s e c c')(a:¬s):fL Y c c':=⟨h.C.resolve_right λq=>a q.1,h.r⟩
def oA.fH(h:oA Y s e c c')(l:Y.r d):oA d s e c c':=⟨λi a b=>(h.r i a b).fH l,h.I,h.C⟩
theorem oA.EH(h:oA Y s e c c')(i:Nat):(c[i]?=ë/\True)\/∃v a,c[i]?=À v/\c'[i]?=À a/\ff Y v a:=by
 by_cases q:i<c.size
 .have b:=Ô q h.I;exact Î ⟨c[i],c'[i],Ý q,Ý b,h.r i q b⟩
 .grind
def oA.aa4(h:oA Y s e c c'):B3 e c.size c'.size:=h.C.imp id λq=>⟨h.I,q.2⟩
end
inductive fB(P:Õ){α:Type}(V:fi->α->α->Prop):fi->ē α->ē α->Prop
 |fw {Y:fi} {a a':α} (h:V Y a a'):fB P V Y (aH a) (aH a')
 |gp {Y:fi} {a a':Ú} {k k':Â->ē α} (ha:gS Y a a') (hk:∀v v',ff Y v v'->fB P V Y (k v) (k' v')):fB P V Y (.load Ť a k) (.load Ť a' k')
 |iT {Y:fi} {a a':Ú} {v v':Â} {k k':ē α} (ha:gS Y a a') (hv:ff Y v v') (hk:fB P V Y k k'):fB P V Y (c8 Ť a v k) (c8 Ť a' v' k')
 |xy {Y:fi} {c c':Array Â} {e:Á} {k k':Nat->ē α} (hc:fL Y c c') (hk:∀r r',(∀j,¬Y r j)->(∀i,¬Y i r')->Y.C<=r->Y.C<=r'->fB P V (Y.N r r') (k r) (k' r')):fB P V Y (.new (Č c e) k) (.new (Č c' e) k')
 |uA {Y:fi} {r r':Nat} {k k':Option (TypeId×Nat)->ē α} (hr:Y r r') (hk:∀e n n',B3 e n n'->fB P V Y (k<|À (e,n)) (k'<|À (e,n'))):fB P V Y (.shape r k) (.shape r' k')
 |Md {Y:fi} {a a':Ú} {k k':Bool->ē α} (ha:gS Y a a') (hk:∀b b',(b'=É->b=É)->fB P V Y (k b) (k' b')):fB P V Y (.frozen a k) (.frozen a' k')
 |zC {Y:fi} {q:bT} {k k':Nat->ē α} (hk:∀n,fB P V Y (k n)<|k' n):fB P V Y (.choose q k) (.choose q k')
 |HZ {Y:fi} {k k':Õ->ē α} (hk:fB P V Y (k P) (k' P)):fB P V Y (.program k) (.program k')
 |B4 {Y:fi} {m:Mark} {k k':ē α} (hm:m=c9\/∃f,m=.extern f) (hk:fB P V Y k k'):fB P V Y (.mark m k) (.mark m k')
 |fI {Y:fi} {h:Halt} {m:ē α}:fB P V Y (ei h) m
 |nW {Y:fi} {m m':ē α} (h:∀u x u',m.run P u≠ĥ x u'):fB P V Y m m'
def vp{α β:Type}{m:ē α}{f:α->ē β}(h:∀u x b,m.run P u≠ĥ x b):∀u x b,(m.bind f).run P u≠ĥ x b:=by
 intro u x b e;have c:(m>>=f).run P u=ĥ x b:=e;rw[Ä]at c;cases d:m.run P u with
 |ok a w=>exact h _ _ _ d
 |halt z w=>rw[d]at c;cases c
def fB.lR{α β:Type}{V:fi->α->α->Prop}{l:fi->β->β->Prop}{Y:fi}{m o:ē α}{f p:α->ē β}(h:fB P V Y m o) (g:∀i a k,Y.r i->V i a k->fB P l i (f a) (p k)):fB P l Y (m.bind f) (o.bind p):=by
 induction h with
 |fw h=>exact g _ _ _ (fi.M _) h
 |gp j _ d=>exact .gp j λv c b=>d v c b g
 |iT j b _ d=>exact .iT j b (d g)
 |xy q _ d=>exact .xy q λr s c e n v=>d r s c e n v λi a k t b=>g i a k (fi.I (fi.S c e n v) t) b
 |uA b _ d=>exact .uA b λe n v c=>d e n v c g
 |Md j _ d=>exact .Md j λb c v=>d b c v g
 |zC _ d=>exact .zC λn=>d n g
 |HZ _ d=>exact .HZ (d g)
 |B4 c _ d=>exact .B4 c (d g)
 |fI=>exact .fI
 |nW h=>exact .nW (vp h)
def xA:Â->Bool
 |Ć .u8 _=>É
 |_=>Ã
def B5(c:Array Â):Prop:=∀(k:Nat) (v:Â),c[k]?=À v->xA v=Ã
structure iX(Y:fi)(Sh:Nat->Prop)(u w:Æ):Prop where
 S:u.tape=w.tape
 N:u.drawn=w.drawn
 C:Bi Y
 I:Y.C<=u.heap.size
 M:Y.C<=w.heap.size
 r:∀i j,Y i j->∃c c' e fr vq,u.heap[i]?=À (Č c e fr)/\w.heap[j]?=À (Č c' e vq)/\oA Y (Sh j) e c c'/\(Sh j->fr.1=0/\c.size<=fr.2/\vq.2<=fr.2/\0<c.size/\(B5 c\/EG e c.size))/\(¬Sh j->fr=vq)/\fr.2<=c.size
structure mY(Y:fi)(Sh:Nat->Prop)(w w':Æ):Prop where
 r:w.heap.size<=w'.heap.size
 I:w'.os=w.os
 M:w'.output=w.output
 S:w'.tape=w.tape
 C:∀j,j<w.heap.size->(∀i,¬Y i j)->w'.heap[j]?=w.heap[j]?
 N:∀j,Sh j->j<w.heap.size->w'.heap[j]?=w.heap[j]?
def zD(Y:fi)(b:Nat->Prop)(e:ý):Prop:=
 (∃(a:Ú) (i:Nat),e.loc=û a/\Y i a.block/\e.sync=Ã/\(e.write=É->¬b a.block))\/e.loc=ů c9\/∃f,e.loc=ů (.extern f)
def vr{α:Type}{m:Mode}{k:ē α}(h:xx v=É): ã P (c8 m a v k) w=(match w.cell? a with
 |some _=>if w.frozen? a then bU (ŀ<|ť "a write to bytes that a string shares") w else k.run P (w.setCell a v)
 |none=>match w.farStore P a v (m==ċ)with
  |.ok (w,_)=>k.run P w
  |bF h=>bU h w):=by
 cases v<;>first|rfl|cases h
def aa5{α:Type}{m:Mode}{k:ē α}(h:xx v=É): é P (c8 m a v k) w V=(match w.cell? a with
 |some _=>
  if w.frozen? a then(bU (ŀ<|ť "a write to bytes that a string shares") w,V)
  else k.runT P (w.setCell a v) (V.push ⟨û a,É,m==ċ⟩)
 |none=>match w.farStore P a v (m==ċ)with
  |.ok (w,touched)=>k.runT P w (V++touched.toArray.map (⟨.cell ·,É,m==.atomic⟩))
  |bF h=>(bU h w,V)):=by
 cases v<;>first|rfl|cases h
def aa6{α:Type}{m:Mode}{k:ē α}(h:xx v=Ã){x:α}:ã P (c8 m a v k) w≠ĥ x u:=by cases v<;>first|exact Bool.noConfusion h|(intro e;simp[ã]at e)
def aa7{Y:fi}(h:ff Y v x):xx x=xx v:=by cases h<;>rfl
section
variable{Y:fi}
def zE(h:u.heap[a.block]?=À (Č d e xJ)):u.cell? a=if a.spot.isSome then ë else d[a.off]?:=by simp[Ġ,h]
def aa8(h:u.heap[a.block]?=À (Č d e xJ))(b:Bool):∃x,u.farLoad P a b=bF x:=by simp[ŋ,h]
def aa9(h:u.heap[a.block]?=À (Č d e xJ))(b:Bool):∃x,u.farStore P a v b=bF x:=by simp[Ŧ,h]
def iX.gp(h:iX Y X u w){a':Ú}(i:gS Y a a')(b:u.cell? a=À v):∃f,w.cell? a'=À f/\ff Y v f:=by
 let⟨j,k,l⟩:=i;let⟨c,s,e,t,y,m,n,o,_⟩:=h.r _ _ j;rw[zE m]at b;rw[zE n,<-k,<-l];cases g:a.spot with
 |some x=>rw[g]at b;cases b
 |none=>
  rw[g]at b;rcases o.EH a.off with⟨d,_⟩|⟨x,p,d,q,r⟩
  .simp[d]at b
  .simp[d]at b;subst b;exact⟨p,by simp[q],r⟩
theorem iX.abb(h:iX Y X u w)(g:gS Y a p)(i:u.cell? a=À v)(j:u.frozen? a=Ã):¬X p.block/\w.frozen? p=Ã:=by
 let⟨k,l,q⟩:=g;let⟨c,r,e,b,s,d,m,t,x,n,y⟩:=h.r _ _ k;rw[zE d]at i;have z:a.off<c.size:=by grind
 have o:(decide (b.1<=a.off)&&decide (a.off<b.2))=Ã:=by simpa[Ĉ,d]using j
 have f:¬X p.block:=by grind
 refine⟨f,?_⟩;have:=n f;subst this;simp only[Ĉ,m,<-l];exact o
def Tw{w:Æ}(h:w.heap[a.block]?=À (Č d e xJ))(b:a.spot=ë): (w.setCell a v).heap[a.block]?=À (Č (d.setIfInBounds a.off v) e xJ):=by simp[ĉ,Ň,h,b]
def jK{w:Æ}:(w.setCell a v).heap.size=w.heap.size:=by simp[ĉ]
def H0{w:Æ}(h:a.block≠j):(w.setCell a v).heap[j]?=w.heap[j]?:=by simp[ĉ,Ň,h]
def iX.iT(h:iX Y X u w)(B:gS Y a p)(C:ff Y v z)(D:u.cell? a=À x)(m:¬X p.block):iX Y X (u.setCell a v) (w.setCell p z):=by
 let⟨d,E,F⟩:=B;have n:a.spot=ë:=by let⟨c,o,e,f,g,b,_⟩:=h.r _ _ d;rw[zE b]at D;simp_all
 refine⟨h.S,h.N,h.C,by rw[jK];exact h.I,by rw[jK];exact h.M,λi j k=> ?_⟩;let⟨c,o,e,f,g,b,q,r,G,t,y⟩:=h.r i j k;by_cases l:a.block=i
 .subst l;have:j=p.block:=h.C.1 _ _ _ k d;subst this;exact⟨_,_,e,f,g,Tw b n,Tw q (by rw[<-F,n]),by rw[<-E];exact oA.M<|(r.N m).pS _ C,λs=>absurd s m,t,by simpa using y⟩
 .exact⟨c,o,e,f,g,by rwa[H0 l],by rwa[H0 λe=>l<|h.C.2.1 _ _ _ d<|e▸k],r,G,t,y⟩
theorem iX.xy(h:iX Y X u w)(m:∀j,X j->j<w.heap.size)(n:fL Y d q): iX (Y.N u.heap.size w.heap.size) X {u with heap:=u.heap.push (Č d e)} {w with heap:=w.heap.push (Č q e)}:=by
 have a:∀i j,Y i j->i<u.heap.size/\j<w.heap.size:=by intro i j s;let⟨_,_,_,_,_,f,g,_⟩:=h.r i j s;grind
 have b:=fi.S (Y:=Y) (λj x=>absurd (a _ _ x).1 Z) (λi x=>absurd (a _ _ x).2 Z) h.I h.M;refine⟨h.S,h.N,b.2.1 h.C,by have:=h.I;simp[fi.N];omega,by have:=h.M;simp[fi.N];omega,?_⟩
 .rintro i j (x|⟨rfl,rfl⟩)
  .let⟨s,o,p,r,t,f,g,v,y,z,B⟩:=h.r i j x;let⟨k,l⟩:=a i j x;exact⟨s,o,p,r,t,by simp only[Ģ k];rw[<-f,Ý k],by simp only[Ģ l];rw[<-g,Ý l],v.fH b,y,z,B⟩
  .exact⟨d,q,e,(0,0),(0,0),fg,fg,oA.M<|n.I b,λs=>absurd (m _ s) Z,λ_=>rfl,dy _⟩
theorem mY.fO(Y:fi)(X:Nat->Prop)(w:Æ):mY Y X w w:=⟨ß _,U,U,U,λ_ _ _=>rfl,λ_ _ _=>rfl⟩
def mY.e8{b:fi}{w₁:Æ}(h:mY Y X w w₁)(k:mY b X w₁ u)(d:∀i j,b i j->Y i j\/w.heap.size<=j):mY Y X w u:= ⟨õ h.r k.r,k.I.trans h.I,k.M.trans h.M,k.S.trans h.S,λj a c=>(k.C j (Ô a h.r) λi y=>(d i j y).elim (c i) λz=>by omega).trans<|h.C j a c,λj s a=>(k.N j s<|Ô a h.r).trans<|h.N j s a⟩
def H2{w:Æ}:(w.freeze a n).heap.size=w.heap.size:=by unfold Ė;split<;>simp
def abd{w:Æ}:(w.freeze a n).os=w.os:=by unfold Ė;split<;>rfl
def abe{w:Æ}:(w.freeze a n).output=w.output:=by unfold Ė;split<;>rfl
def Me{w:Æ}:(w.freeze a n).tape=w.tape:=by unfold Ė;split<;>rfl
def Ty{w:Æ}:(w.freeze a n).drawn=w.drawn:=by unfold Ė;split<;>rfl
theorem H3{w:Æ}(h:a.block≠j):(w.freeze a n).heap[j]?=w.heap[j]?:=by unfold Ė;split;all_goals grind
def rS(a:Ú)(n:Nat)(b:Nat×Nat):Nat×Nat:=if n=0 then b else if b.1==b.2 then(a.off,a.off+n)else(min b.1 a.off,max b.2<|a.off+n)
theorem Tz{w:Æ}(h:w.heap[a.block]?=À (Č d e xJ)):(w.freeze a n).heap[a.block]?=À (Č d e<|rS a n xJ):=by unfold Ė rS;grind
def TA(h:a.off=p.off)(n:Nat)(b:Nat×Nat):rS a n b=rS p n b:=by unfold rS;rw[h]
theorem abf(h:a.off+n<=i)(b:xJ.2<=i):(rS a n xJ).2<=i:=by unfold rS;grind
theorem abg{b:Nat×Nat}(c:0<i)(d:xJ.1=0)(e:i<=xJ.2)(f:b.2<=xJ.2):(rS a n xJ).1=0/\i<=(rS a n xJ).2/\(rS a n b).2<=(rS a n xJ).2:=by unfold rS;grind
def iX.abh(h:iX Y X u w)(y:gS Y a p)(n:Nat)(z:∀c e b,u.heap[a.block]?=À (Č c e b)->a.off+n<=c.size):iX Y X (u.freeze a n) (w.freeze p n):=by
 obtain⟨k,l,I⟩:=y;refine⟨Me.trans<|h.S.trans Me.symm,Ty.trans<|h.N.trans Ty.symm,h.C,by rw[H2];exact h.I,by rw[H2];exact h.M,λi j d=> ?_⟩;obtain⟨c,m,e,b,B,f,o,q,r,t,v⟩:=h.r i j d;by_cases g:a.block=i
 .subst g;have:j=p.block:=h.C.1 _ _ _ d k;subst this;refine⟨c,m,e,_,_,Tz f,Tz o,q,λs=> ?_,λs=> ?_,abf (z _ _ _ f) v⟩
  .obtain⟨C,D,E,x⟩:=r s;rw[<-TA l];obtain⟨F,G,H⟩:=abg x.1 C D E;exact⟨F,G,H,x⟩
  .rw[t s,TA l]
 .exact⟨c,m,e,b,B,by rwa[H3 g],by rwa[H3 λe=>g<|h.C.2.1 _ _ _ k<|e▸d],q,r,t,v⟩
theorem iX.G(h:iX Y X u w)(b:gS Y a p):w.frozen? p=É->u.frozen? a=É:=by let⟨d,f,j⟩:=b;let⟨c,k,e,l,m,g,i,n,o,q,r⟩:=h.r _ _ d;simp only[Ĉ,g,i,<-f,ě,decide_eq_true_eq];rintro⟨x,y⟩;by_cases s:X p.block;all_goals grind
theorem fB.fY{α:Type}{V:fi->α->α->Prop}{Y:fi}{m m':ē α}(h:fB P V Y m m'):∀{u w:Æ},iX Y X u w->(∀j,X j->j<w.heap.size)->∀{x:α} {E:Æ},m.run P u=ĥ x E->∀n:Array ý,∃(l:fi) (t:α) (p:Æ) (B:Array ý),Y.r l/\(∀i j,l i j->Y i j\/(u.heap.size<=i/\w.heap.size<=j))/\m'.runT P w n=(ĥ t p,n++B)/\V l x t/\iX l X E p/\mY Y X w p/\(∀e∈B,zD l X e)/\u.heap.size<=E.heap.size:=by
 induction h with
 |fw h=>
  intro u w d _ x E b n;simp only[ã]at b;cases b;exact⟨_,_,w,#[],fi.M _,λ_ _ h=>Ç h,by simp[é],h,d,mY.fO _ _ _,λe o=>by simp at o,ß _⟩
 |@gp Y a a' k k' ha hk D=>
  intro u w d C x E b n;simp only[ã]at b;cases f:u.cell? a with
  |none=>
   let⟨c,Q,e,fr,vq,O,_⟩:=d.r _ _ ha.1;let⟨z,s⟩:=aa8 (P:=P) O<|Ť==ċ;rw[f]at b;simp only[s]at b;cases b
  |some v=>
   rw[f]at b;let⟨W,S,y⟩:=d.gp ha f;let⟨l,t,p,B,F,G,I,J,K,g,L,H⟩:=D v W y d C b<|n.push ⟨û a',Ã,Ã⟩;refine⟨l,t,p,#[⟨û a',Ã,Ã⟩]++B,F,G,?_,J,K,g,λe o=> ?_,H⟩
   .simp only[é,S];rw[show((Ť==ċ)=Ã)from U,I];rw[<-Ļ,Ł]
   .rcases Ĝ.1 o with o|o
    .simp at o;subst o;exact Ç ⟨a',_,U,F.1 _ _ ha.1,U,λe=>by cases e⟩
    .exact L e o
 |@iT Y a a' v W k k' ha hv _ D=>
  intro u w d C x E b n;cases ho:xx v with
  |false=>exact absurd b<|aa6 ho
  |true=>
   rw[vr ho]at b;cases f:u.cell? a with
   |none=>
    let⟨c,Q,e,fr,vq,O,_⟩:=d.r _ _ ha.1;let⟨z,s⟩:=aa9 (P:=P) (v:=v) O<|Ť==ċ;rw[f]at b;simp only[s]at b;cases b
   |some y=>
    rw[f]at b;cases M:u.frozen? a with
    |true=>rw[M]at b;simp at b
    |false=>
     simp only[M,Å,if_false]at b;let⟨ns,hf'⟩:=d.abb ha f M;let⟨y',Mf,_⟩:=d.gp ha f;let⟨l,t,p,B,F,G,I,J,K,g,L,H⟩:=D (d.iT ha hv f ns) (by rwa[jK]) b<|n.push ⟨û a',É,Ã⟩;have S:(w.setCell a' W).heap.size=w.heap.size:=jK;have TB:(u.setCell a v).heap.size=u.heap.size:=jK;refine⟨l,t,p,#[⟨û a',É,Ã⟩]++B,F,by rwa[S,TB]at G,?_,J,K,?_,λe o=> ?_,by rwa[TB]at H⟩
     .rw[aa5<|(aa7 hv).trans ho,Mf];simp only[hf',Å,if_false];rw[show((Ť==ċ)=Ã)from U,I];rw[<-Ļ,Ł]
     .refine⟨by rw[<-S];exact g.r,g.I,g.M,g.S,λj N T=> ?_,λj s N=>(g.N j s<|by rwa[S]).trans<|H0 λe=>ns<|e▸s⟩;rw[g.C j (by rwa[S]) T];exact H0 λe=>T a.block<|e▸ha.1
     .rcases Ĝ.1 o with o|o
      .simp at o;subst o;exact Ç ⟨a',_,U,F.1 _ _ ha.1,U,λ_=>ns⟩
      .exact L e o
 |@xy Y c Q e k k' f _ D=>
  intro u w d C x E b n;simp only[ã]at b;have W:∀i j,Y i j->i<u.heap.size/\j<w.heap.size:=by intro i j S;let⟨_,_,_,_,_,O,hw',_⟩:=d.r i j S;grind
  have n1:∀j,¬Y u.heap.size j:=λj y=>absurd (W _ _ y).1 Z;have n2:∀i,¬Y i w.heap.size:=λi y=>absurd (W _ _ y).2 Z;let⟨l,t,p,B,F,G,I,J,K,g,L,H⟩:=D u.heap.size w.heap.size n1 n2 d.I d.M (d.xy C f) (λj s=>by have:=C j s;simp;omega) b n;refine⟨l,t,p,B,fi.I (fi.S n1 n2 d.I d.M) F,λi j S=> ?_,by simp only[é];exact I,J,K,?_,L,by simp at H;omega⟩
  .rcases G i j S with(y|⟨rfl,rfl⟩)|y
   .exact Ç y
   .exact Î ⟨ß _,ß _⟩
   .simp at y;exact Î ⟨Z,Z⟩
  .have hs:=g.r;simp at hs;refine⟨Z,g.I,g.M,g.S,λj N T=> ?_,λj s N=>(g.N j s<|by simp;omega).trans ?_⟩
   .rw[g.C j (by simp;omega) (λi z=>z.elim (T i) λz=>by omega)];simp[Ģ N]
   .simp[Ģ N]
 |@uA Y r r' k k' oB _ D=>
  intro u w d C x E b n;simp only[ã]at b;let⟨c,Q,e,fr,vq,O,hw',S,_⟩:=d.r _ _ oB;have f:u.shape? r=À (e,c.size):=by simp[Θ,O]
  have s:w.shape? r'=À (e,Q.size):=by simp[Θ,hw']
  rw[f]at b;let⟨l,t,p,B,h⟩:=D e c.size Q.size S.aa4 d C b n;exact⟨l,t,p,B,by simp only[é,s];exact h⟩
 |@Md Y a a' k k' ha _ D=>
  intro u w d C x E b n;simp only[ã]at b;let⟨l,t,p,B,h⟩:=D (u.frozen? a) (w.frozen? a') (d.G ha) d C b n;exact⟨l,t,p,B,by simpa only[é]using h⟩
 |@zC Y q k k' _ D=>
  intro u w d C x E b n;simp only[ã]at b;cases M:q.forced with
  |true=>
   rw[M]at b;simp only[if_true]at b;let⟨l,t,p,B,h⟩:=D 0 d C b n;exact⟨l,t,p,B,by simpa only[é,M,if_true]using h⟩
  |false=>
   rw[M]at b;simp only[Å,if_false]at b;have S:iX Y X {u with drawn:=u.drawn+1} {w with drawn:=w.drawn+1}:=⟨d.S,by simp[d.N],d.C,d.I,d.M,d.r⟩;rw[d.S,d.N]at b;obtain⟨l,t,p,B,F,G,I,J,K,g,L,H⟩:=D (q.cut<|w.tape w.drawn q) S C (by rwa[d.S,d.N]) n;exact⟨l,t,p,B,F,G,by simp only[é,M,Å,if_false];exact I,J,K,⟨g.r,g.I,g.M,g.S,g.C,g.N⟩,L,H⟩
 |HZ _ D=>
  intro u w d C x E b n;simp only[ã]at b;let⟨l,t,p,B,h⟩:=D d C b n;exact⟨l,t,p,B,by simpa only[é]using h⟩
 |@B4 Y mk k k' hm _ D=>
  intro u w d C x E b n;simp only[ã]at b;let⟨l,t,p,B,F,G,I,J,K,g,L,H⟩:=D d C b<|n.push ⟨ů mk,Ã,É⟩;refine⟨l,t,p,#[⟨ů mk,Ã,É⟩]++B,F,G,?_,J,K,g,λe o=> ?_,H⟩
  .simp only[é];rw[I];rw[<-Ļ,Ł]
  .rcases Ĝ.1 o with o|o
   .simp at o;subst o;rcases hm with rfl|⟨f,rfl⟩
    .exact Î<|Ç U
    .exact Î<|Î ⟨f,U⟩
   .exact L e o
 |fI=>
  intro u w _ _ x E b n;simp only[ã]at b;cases b
 |nW h=>
  intro u w _ _ x E b n;exact absurd b<|h _ _ _
end
inductive jE:Â->Prop
 |lQ (b:Bool):jE (Ľ b)
 |iA (k:ú) (n:Int):jE (Ć k n)
 |kD (s:ByteArray):jE (ħ s)
 |lj:jE (Þ ë)
 |nG (n c:Nat):jE (bR ë n c)
 |uu:jE bS
 |uw:jE aV
 |uy:jE (eh ë)
 |uz:jE (.map ë)
 |nV {cs:Array Â} (h:∀i (h:i<cs.size),jE cs[i]):jE (.agg cs)
 |mX {cs:Array Â} (h:∀i (h:i<cs.size),jE cs[i]):jE (ſ cs)
def jE.jq(h:jE v)(Y:fi):ff Y v v:=by
 induction h with
 |lQ b=>exact .lQ b
 |iA k n=>exact .iA k n
 |kD s=>exact .kD s
 |lj=>exact .lj
 |nG n c=>exact .nG n c
 |uu=>exact .uu
 |uw=>exact .uw
 |uy=>exact .uy
 |uz=>exact .uz
 |nV _ b=>exact .nV U λi c _=>b i c
 |mX _ b=>exact .mX U λi c _=>b i c
def mZ(P:Õ):Prop:=∀t i z,P.info? t=À i->i.zero=À z->jE z
def je{α:Type}:fi->α->α->Prop:=λ_ a b=>a=b
section
variable{Y:fi}
def fy{α β:Type}{V:fi->α->α->Prop}{V':fi->β->β->Prop}{m c:ē α}{f d:α->ē β}(h:fB P V Y m c) (g:∀b a e,Y.r b->V b a e->fB P V' b (f a) (d e)):fB P V' Y (m>>=f) (c>>=d):=fB.lR h g
def rT{α β:Type}{c:fi->β->β->Prop}{m:ē α}{f d:α->ē β}(h:fB P je Y m m) (g:∀b a,Y.r b->fB P c b (f a) (d a)):fB P c Y (m>>=f) (m>>=d):= fB.lR h λb a i j (e:a=i)=>by subst e;exact g b a j
def qB:fB P (λ_ a b=>a=P/\b=P) Y da da:=.HZ (.fw ⟨U,U⟩)
theorem Mg{α:Type}{V:fi->α->α->Prop}{e:Ι}(h:(∃x y s c,e=.bounds x y s c)\/(∃m,e=.error m)\/(∃m,e=.plain m)\/e=.nilDeref):fB P V Y (runtimePanic e) (runtimePanic e):=by unfold runtimePanic;refine fy qB ?_;rintro f a g _ ⟨b,d⟩;rw[b,d];rcases h with⟨x,y,s,c,rfl⟩|⟨m,rfl⟩|⟨m,rfl⟩|rfl<;>exact .fI
theorem B6{α:Type}{V:fi->α->α->Prop}{k:ú}{y:Int}{c:av}:fB P V Y (boundsPanic k h y c) (boundsPanic k h y c):=by
 unfold boundsPanic;simp only[];split
 .apply rT (.zC λn=> .fw U);grind [Mg]
 .grind [Mg]
def xB(t:Á):fB P (λ_ a b=>a=b/\P.info? t=À a) Y (Δ t) (Δ t):=by
 unfold Δ;apply fy qB;rintro e a b _ ⟨c,d⟩;rw[c,d];cases h:P.info? t with
 |some i=>exact .fw ⟨U,U⟩
 |none=>exact .fI
def iR(t:Á):fB P (λ_ a b=>a=b/\P.underlying t=À a) Y (ø t) (ø t):=by
 unfold ø;apply fy qB;rintro e a b _ ⟨c,d⟩;rw[c,d];cases h:P.underlying t with
 |some i=>exact .fw ⟨U,U⟩
 |none=>exact .fI
def EI(b:mZ P)(t:Á):fB P ff Y (ω t) (ω t):=by
 unfold ω;apply fy (xB t);rintro d a e _ ⟨rfl,h⟩;cases c:a.zero with
 |some z=>exact .fw ((b t a z h c).jq _)
 |none=>exact .fI
def mE(t:Á):fB P (λ_ a b=>a=b/\∃i,P.info? t=À i/\i.size=a) Y (ax t) (ax t):=by unfold ax;apply fy (xB t);rintro i a b _ ⟨rfl,h⟩;exact .fw ⟨U,_,h,U⟩
def TC(t:Á):fB P je Y (ek t) (ek t):=by unfold ek;apply fy (iR t);rintro b a c _ ⟨rfl,_⟩;split<;>exact .fw U
def H4(h:gS Y a p):fB P ff Y (aW a) (aW p):=.gp h λ_ _ b=> .fw b
def abj(h:gS Y a p)(b:ff Y v x):fB P je Y (ak a v) (ak p x):=.iT h b (.fw U)
def abk:∀{Y:fi} {a b:Ú} {i:Nat} {c d:Array Â},gS Y a b->fL Y c d->fB P fL Y (Ō a i n c) (Ō b i n d):=by
 induction n with
 |zero=>intro Y a b i c d _ e;exact .fw e
 |succ n h=>
  intro Y a b i c d f e;unfold Ō;apply fy (H4<|f.C i);exact λk v l g j=>h (f.r g)<|(e.I g).Tv j
def Mh(h:gS Y a p)(n:Nat):fB P fL Y (cX a n) (cX p n):=abk h<|fL.N Y
def Mi:∀{d c:List Â} {Y:fi} {a e:Ú} {i:Nat},gS Y a e->fL Y d.toArray c.toArray->fB P je Y (Κ a d i) (Κ e c i):=by
 intro d
 induction d with
 |nil=>
  intro c Y a e i _ b;have:c=[]:=by have:=b.r;simp at this;exact Ā this.symm
  subst this;exact .fw U
 |cons v d h=>
  intro c Y a e i f b;match c,b with
  |[],b=>have:=b.r;simp at this
  |v'::c,b=>
   unfold Κ;refine fy (abj (f.C i) (by have:=b.C 0 fg fg;simpa using this)) ?_;intro m _ _ g _;apply h (f.r g);refine⟨by have:=b.r;simpa using this,λj k l=> ?_⟩;have:=b.C (j+1) (by simp at k|-;omega) (by simp at l|-;omega);exact(by simpa using this:ff Y _ _).fH g
theorem TD(h:gS Y a p)(t:Á):fB P ff Y (ae t a) (ae t p):=by
 unfold ae;apply rT (TC t);intro g b d;split
 .apply fy (mE t);rintro i n _ f ⟨rfl,_⟩;apply fy (Mh ((h.r d).r f) n);exact λj c k _ e=> .fw (.nV e.r e.C)
 .exact H4<|h.r d
def abl(h:gS Y a p)(t:Á)(d:ff Y v x):fB P je Y (aI t a v) (aI t p x):=by
 unfold aI;apply fy (mE t);rintro f n _ b ⟨rfl,_⟩;have c:=(d.fH b).gM;by_cases e:v.cells.size≠n
 .rw[if_pos e];exact .fI
 .rw[if_neg e,if_neg (by rwa[<-c.r])];exact Mi (h.r b) c
def zF(e:Á)(h:fL Y d q):fB P gS Y (dQ e d) (dQ e q):= .xy h λ_ _ _ _ _ _=> .fw ⟨Î ⟨U,U⟩,U,U⟩
def TF(t:Á)(h:ff Y v x):fB P gS Y (eI t v) (eI t x):=zF t h.gM
def TG(t:Á)(h:fL Y d q)(a:Nat):fB P ff Y (part t d a) (part t q a):=by
 unfold part;apply rT (TC t);intro i b e;split
 .apply fy (mE t);rintro g n _ f ⟨rfl,_⟩;have:=((h.I e).I f).EF a<|a+n;exact .fw (.nV this.r this.C)
 .rcases(h.I e).S a with⟨n,f⟩|⟨v,j,n,f,g⟩
  .rw[n];exact .fI
  .rw[n,f];exact .fw g
def EJ(h:ff Y v x):fB P gS Y (ŧ v) (ŧ x):=by cases h<;>first|exact .fI|(rename_i a;exact .fw a)
def H5(h:ff Y v x):fB P je Y (dc v) (dc x):=by cases h<;>first|exact .fw U|exact .fI
def Mj(h:ff Y v x):fB P je Y (dz v) (dz x):=by unfold dz;apply fy (H5 h);rintro b a _ _ rfl;exact .fw U
def TH(h:ff Y v x):fB P je Y (bV v) (bV x):=by cases h<;>first|exact .fw U|exact .fI
def abm(h:ff Y v x):fB P fL Y (eJ v) (eJ x):=by cases h<;>first|exact .fI|(rename_i a y;exact .fw ⟨a,y⟩)
def TJ(h:ff Y v x):fB P gS Y (bW v) (bW x):=by cases h<;>first|exact Mg (Î<|Î<|Î U)|(rename_i a;exact .fw a)|exact .fI
def abn(b:mZ P)(t:Á)(v:Â):fB P ff Y (Ű t É v) (Ű t É v):=by unfold Ű;apply fy (EI b t);intro d z e _ h;apply fy (TF t h);exact λf a g _ c=> .fw (.jD c)
def abo(t:Á)(h:ff Y v x):fB P ff Y (af t v) (af t x):=by unfold af;apply fy (TF t h);exact λc a d _ b=> .fw (.jD b)
theorem abp(t:Á)(h:ff Y v x):fB P ff Y (Ş t v) (Ş t x):=by unfold Ş;apply fy (EJ h);grind [TD]
def abq(t:Á)(b:ff Y x z)(h:ff Y v jQ):fB P je Y (ĳ t x v) (ĳ t z jQ):=by unfold ĳ;apply fy (EJ b);exact λd x z c b=>abl b t<|h.fH c
def abr(h:ff Y v x)(n:Nat):fB P ff Y (ō v n) (ō x n):=by
 cases h<;>first|exact .fI|skip
 rename_i e f c h;simp only[ō];rcases(fL.mk c h).S n with⟨a,b⟩|⟨v,x,a,b,d⟩
 .rw[a];exact .fI
 .rw[a,b];exact .fw d
def abt(t:Á)(h:ff Y v x)(n:Nat):fB P ff Y (ű t v n) (ű t x n):=by
 unfold ű;apply fy (iR t);rintro g d _ a ⟨rfl,_⟩;split
 .rename_i b _;cases i:b[n]? with
  |none=>exact .fI
  |some f=>
   apply fy (abm<|h.fH a);exact λj c k _ e=>TG f.type e f.offset
 .exact .fI
end
section
variable{Y:fi}
def qC{α β:Type}{V:fi->β->β->Prop}{a b:α}{f c:α->ē β}(h:fB P V Y (f a) (c b)):fB P V Y (pure a>>=f) (pure b>>=c):=h
def abu(s:Á)(h:ff Y v x)(n:Nat)(e:∀c f i,P.underlying s=À (de c)->c[n]?=À f->P.info? f.type=À i->i.size≠0): fB P ff Y (Ŏ s v n) (Ŏ s x n):=by
 unfold Ŏ;apply fy (iR s);rintro r d _ g ⟨rfl,j⟩;cases d<;>try exact .fI
 .rename_i c;simp only[];cases k:c[n]? with
  |none=>exact .fI
  |some f=>
   apply fy (EJ<|h.fH g);intro t a u _ l;unfold bX;refine fy (fy (V':=gS) (mE f.type) ?_) ?_
   .rintro w z _ m ⟨rfl,i,o,p⟩;have:¬z=0:=by rw[<-p];exact e c f i j k o
    rw[if_neg this,if_neg this];exact .fw ((l.r m).C _)
   .exact λy b B _ q=> .fw (.jD q)
def abv(t:Á)(h:ff Y x v)(j:ff Y z jQ):fB P ff Y (ŏ t x z) (ŏ t v jQ):=by
 unfold ŏ;apply fy (H5 j);rintro r ⟨k,n⟩ _ l rfl;apply fy (iR t);rintro f d _ m ⟨rfl,s⟩;have g:=(h.fH l).fH m;cases d<;>try exact .fI
 .cases g<;>first|exact .fI|skip
  .refine qC<|fy (iR t) ?_;exact λ_ _ _ _ _=>B6
  refine qC<|fy (iR t) ?_;rintro o d _ c ⟨rfl,_⟩;simp only[];split
  .apply fy (mE _);rintro p b _ e ⟨rfl,_⟩;exact .fw (.jD (((‹gS f _ _›.r c).r e).C _))
  .repeat' (first|exact .fI|exact B6|split)
 .apply fy (EJ g);intro f a u _ q;refine qC<|fy (iR t) ?_;rintro o d _ c ⟨rfl,_⟩;simp only[];split
  .apply fy (mE _);rintro p b _ e ⟨rfl,_⟩;exact .fw (.jD (((q.r c).r e).C _))
  .repeat' (first|exact .fI|exact B6|split)
def B7(h:ff Y x v)(y:Nat)(c:av):fB P je Y (ī x y c) (ī v y c):=by
 unfold ī;apply fy (H5 h);rintro a ⟨k,n⟩ _ b rfl;simp only[];split
 .exact .fw U
 .exact B6
def qD(Y:fi)(x a:Option Â):Prop:=(x=ë/\a=ë)\/∃v b,x=À v/\a=À b/\ff Y v b
def qD.r{Y a:fi}(h:Y.r a){x b:Option Â}(r:qD Y x b):qD a x b:=r.imp id λ⟨v,c,d,e,f⟩=>⟨v,c,d,e,f.fH h⟩
def EK(f:Bool)(g i:Nat){l j h k m n:Option Â}(c:qD Y l j)(o:qD Y h k)(t:qD Y m n):fB P je Y (Ĩ f g i l h m) (Ĩ f g i j k n):=by
 unfold Ĩ;rcases t with⟨rfl,rfl⟩|⟨B,C,rfl,rfl,u⟩
 .refine qC ?_;rcases o with⟨rfl,rfl⟩|⟨w,x,rfl,rfl,d⟩
  .refine qC ?_;rcases c with⟨rfl,rfl⟩|⟨v,p,rfl,rfl,b⟩
   .exact .fw U
   .apply fy (B7 b _ _);rintro r q _ _ rfl;exact .fw U
  .refine fy (B7 d _ _) ?_;rintro y a _ e rfl;rcases(c.r e)with⟨rfl,rfl⟩|⟨v,p,rfl,rfl,b⟩
   .exact .fw U
   .apply fy (B7 b _ _);rintro r q _ _ rfl;exact .fw U
 .refine fy (B7 u _ _) ?_;rintro D a _ s rfl;rcases o with⟨rfl,rfl⟩|⟨w,x,rfl,rfl,d⟩
  .exact .fI
  .refine fy (B7 (d.fH s) _ _) ?_;rintro y z _ e rfl;rcases(((c.r s).r e))with⟨rfl,rfl⟩|⟨v,p,rfl,rfl,b⟩
   .exact .fw U
   .apply fy (B7 b _ _);rintro r q _ _ rfl;exact .fw U
def abw(t:Á)(k:ff Y x v){l C h D m u:Option Â}(g:qD Y l C)(i:qD Y h D)(j:qD Y m u):fB P ff Y (Ų t x l h m) (Ų t v C D u):=by
 unfold Ų;apply fy (iR t);rintro I d _ o ⟨rfl,J⟩;have k:=k.fH o;have g:=g.r o;have i:=i.r o;have j:=j.r o;cases d<;>try exact .fI
 .cases k<;>first|exact .fI|skip
  rename_i s;have e:m.isSome=u.isSome:=by rcases j with⟨rfl,rfl⟩|⟨_,_,rfl,rfl,_⟩<;>rfl
  simp only[e];split
  .exact .fI
  .apply fy (EK Ã s.size s.size g i<|Ç ⟨U,U⟩);rintro G ⟨a,b,c⟩ _ _ rfl;exact .fw (.kD _)
 .rename_i H;apply fy (TJ k);intro G a K B f;apply fy (iR H);rintro L d _ p ⟨rfl,_⟩;have f:=f.r p;cases d<;>try exact .fI
  rename_i n e _;apply fy (EK Ã n n ((g.r B).r p) ((i.r B).r p)<|(j.r B).r p);rintro E ⟨x,y,z⟩ _ q rfl;apply fy (mE e);rintro F w _ r ⟨rfl,_⟩;have f:=(f.r q).r r;refine .fw (.ku ?_ _ _);split
  .exact f
  .exact f.C _
 .rename_i e;cases k<;>first|exact .fI|skip
  .rename_i n c;apply fy (EK É n c g i j);rintro E ⟨x,y,z⟩ _ q rfl;apply fy (mE e);rintro F w _ r ⟨rfl,_⟩;simp only[Option.map_none,ite_self];exact .fw (.nG _ _)
  .rename_i f n c;apply fy (EK É n c g i j);rintro E ⟨x,y,z⟩ _ q rfl;apply fy (mE e);rintro F w _ r ⟨rfl,_⟩;have f:=(f.r q).r r;by_cases e:z=x
   .simp only[e,if_true];exact .fw (.ku f _ _)
   .simp only[e,if_false,bG];exact .fw (.ku (f.C _) _ _)
def abx(t:Á)(b:ff Y x v){l o h p m q:Option Â}(c:qD Y l o)(f:qD Y h p)(g:qD Y m q):fB P ff Y (Ő t x l h m) (Ő t v o p q):=by
 unfold Ő;apply fy (iR t);rintro u d _ i ⟨rfl,B⟩;have b:=b.fH i;have c:=c.r i;have f:=f.r i;have g:=g.r i;cases d<;>try exact abw t b c f g
 rename_i n e;apply fy (EJ b);intro C a D k j;apply fy (EK Ã n n (c.r k) (f.r k)<|g.r k);rintro E ⟨x,y,z⟩ _ r rfl;apply fy (mE e);rintro F w _ s ⟨rfl,_⟩;have j:=(j.r r).r s;refine .fw (.ku ?_ _ _);split
 .exact j
 .exact j.C _
def aby(t:Á)(a:ff Y x v)(b:ff Y z jQ):fB P ff Y (ų t x z) (ų t v jQ):=by
 unfold ų;apply fy (H5 b);rintro l ⟨k,n⟩ _ c rfl;apply fy (iR t);rintro m d _ f ⟨rfl,o⟩;have a:=(a.fH c).fH f;cases d<;>try exact .fI
 .cases a<;>first|exact .fI|skip
  simp only[];split
  .exact .fw (.iA _ _)
  .exact B6
 .rename_i p e;cases a<;>first|exact .fI|skip
  rename_i g h;simp only[];split
  .apply fy (mE e);rintro q w _ j ⟨rfl,_⟩;exact TG e ((fL.mk g h).I j) _
  .exact B6
def abz(a:UnOp)(b:ff Y x v):fB P ff Y (bY a x) (bY a v):=by cases b<;>cases a<;>first|exact .fI|exact .fw (.iA _ _)|exact .fw (.lQ _)
end
section
variable{Y:fi}
def abA{α β:Type}{g:α->ē β}(d:∀{Y:fi} (a:α),fB P je Y (g a)<|g a):∀{Y:fi} (l:List α),fB P je Y (l.mapM g) (l.mapM g):=by
 intro Y l
 induction l generalizing Y with
 |nil=>exact .fw U
 |cons a l e=>
  rw[ν];apply rT (d a);intro f b _;apply rT e;exact λh c _=> .fw U
def abB{α β:Type}{g:α->ē β}(b:∀{Y:fi} (a:α),fB P je Y (g a)<|g a)(l:Array α):fB P je Y (l.mapM g) (l.mapM g):=by rw[Ĕ];have:=abA b (Y:=Y) l.toList;apply fB.lR this;intro d a c _ (e:a=c);subst e;exact .fw U
def abC(Y:fi)(p a:Nat×Value):Prop:=p.1=a.1/\ff Y p.2 a.2
inductive uB(Y:fi):List (Nat×Value)->List (Nat×Value)->Prop
 |oC:uB Y [] []
 |vt {p p':Nat×Value} {l l':List (Nat×Value)} (h:abC Y p p') (t:uB Y l l'):uB Y (p::l) (p'::l')
def uB.fH{Y a:fi}(h:Y.r a){l b:List (Nat×Value)}(r:uB Y l b):uB a l b:=by
 induction r with
 |oC=>exact .oC
 |vt x _ c=>exact .vt ⟨x.1,x.2.fH h⟩ c
def abD(f:Nat):∀(c a:List Â) (k:Nat) (b d:Array Â),fL Y c.toArray a.toArray->fL Y b d-> fL Y ((c.zipIdx k).foldl (λb (p:Value×Nat)=>b.setIfInBounds (f+p.2) p.1) b) ((a.zipIdx k).foldl (λb (p:Value×Nat)=>b.setIfInBounds (f+p.2) p.1) d):=by
 intro c
 induction c with
 |nil=>
  intro a k b d p e;have:a=[]:=by have:=p.r;simp at this;exact Ā this.symm
  subst this;exact e
 |cons x c g=>
  intro a k b d p e;match a,p with
  |[],p=>have:=p.r;simp at this
  |x'::a,p=>
   simp only[Ĭ,List.foldl_cons];refine g a (k+1) _ _ ⟨by have:=p.r;simpa using this,λj h i=> ?_⟩ (e.pS _ (by have:=p.C 0 fg fg;simpa using this));have:=p.C (j+1) (by simp at h|-;omega) (by simp at i|-;omega);simpa using this
theorem abE(b:Nat){a c:Array Â}(e:fL Y d q)(f:fL Y a c): fL Y (d.zipIdx.foldl (λa (p:Value×Nat)=>a.setIfInBounds (b+p.2) p.1) a) (q.zipIdx.foldl (λa (p:Value×Nat)=>a.setIfInBounds (b+p.2) p.1) c):=by have:=abD b d.toList q.toList 0 a c (by simpa using e) f;grind [Array.toList_zipIdx]
def H6(d:Nat->Option (Nat×Nat)):∀{l e:List (Nat×Value)} {a b:Array Â},uB Y l e->fL Y a b-> (ay d a l=ë)\/∃c h,ay d a l=À c/\ay d b e=À h/\fL Y c h:=by
 intro l e a b h
 induction h generalizing a b with
 |oC=>intro c;exact Î ⟨a,b,U,U,c⟩
 |@vt p p' l e hp _ ih=>
  intro c;let⟨i,v⟩:=p;let⟨k,m⟩:=p';obtain⟨rfl,g⟩:=hp;unfold ay;cases d i with
  |none=>exact Ç U
  |some q=>
   let⟨j,n⟩:=q;have f:=g.gM;simp only[<-f.r,<-c.r];split
   .exact Ç U
   .exact ih<|abE j f c
def abF(q:mZ P)(t:Á){l m:Array (Nat×Value)}(h:uB Y l.toList m.toList):fB P ff Y (Ŵ t l) (Ŵ t m):=by
 unfold Ŵ;apply fy (EI q t);intro C z D r s;apply fy (iR t);rintro E d _ o ⟨rfl,F⟩;have p:=(s.fH o).gM;have h:=(h.fH r).fH o;cases d<;>try exact .fI
 .rename_i n e;refine fy (mE e) ?_;rintro u w _ b ⟨rfl,_⟩;rcases H6 (λi=>À (i*w,w)) (h.fH b) (p.I b)with e|⟨c,v,j,k,g⟩
  .simp only[e];exact .fI
  .simp only[j,k];exact .fw (.nV g.r g.C)
 .rename_i x;refine rT (abB (λ{Y} (f:Field)=>fy (mE f.type) λG a H _ y=> ?_) x) ?_
  .obtain⟨rfl,_⟩:=y;exact .fw U
  .intro u B b;rcases H6 (B[·]?) (h.fH b) (p.I b)with e|⟨c,v,j,k,g⟩
   .simp only[e];exact .fI
   .simp only[j,k];exact .fw (.nV g.r g.C)
end
section
variable{Y:fi}
theorem abG(Y:fi):ff Y (default:Â) default:=.lQ _
theorem fL.abH{Y:fi}(r:fL Y d q)(i:Nat):ff Y d[i]! q[i]!:=by
 by_cases h:i<d.size
 .have a:i<q.size:=by rwa[<-r.r]
  rw[getElem!_pos d i h,getElem!_pos q i a];exact r.C i h a
 .have a:¬i<q.size:=by rwa[<-r.r]
  grind [getElem,abG]
def fL.G{Y:fi}(r:fL Y d q)(n:Nat):fL Y ((dA n).map (d[· %d.size]!)) ((dA n).map (q[· %q.size]!)):=by refine⟨fg,λi a b=> ?_⟩;simp only[ŵ,<-r.r];exact r.abH _
def fL.xC{Y:fi}(r:fL Y d q)(n:Nat):fL Y (Ŷ d n) (Ŷ q n):=by
 unfold Ŷ;have e:n*d.size=n*q.size:=by rw[r.r]
 rw[<-e];exact r.G _
def abI(f:mZ P)(t:Á)(b:Nat){m n:Array (Nat×Value)}(h:uB Y m.toList n.toList):fB P ff Y (ĭ t b m) (ĭ t b n):=by
 unfold ĭ;apply fy (iR t);rintro v d _ p ⟨rfl,x⟩;have h:=h.fH p;cases d<;>try exact .fI
 rename_i e;apply fy (mE e);rintro y w _ o ⟨rfl,_⟩;simp only[];split
 .exact .fI
 split
 .refine qC ?_;rcases H6 (λi=>À (i*w,w)) (h.fH o) ((fL.N _).G<|b*w)with e0|⟨c,q,g,j,k⟩
  .rw[e0];exact .fI
  .rw[g,j];exact fy (zF e k) λr a s _ l=> .fw (.ku l _ _)
 .refine fy (EI f e) λB z C u f=>qC ?_;rcases H6 (λi=>À (i*w,w)) ((h.fH o).fH u) (f.gM.G<|b*w)with e0|⟨c,q,g,j,k⟩
  .rw[e0];exact .fI
  .rw[g,j];exact fy (zF e k) λr a s _ l=> .fw (.ku l _ _)
def Mk(h:ff Y x v):fB P je Y (Α x) (Α v):=by cases h<;>first|exact .fI|exact .fw U
def fL.abJ(Y:fi)(b:Array UInt8):fL Y (b.map λb=>Ć .u8 b.toNat) (b.map λb=>Ć .u8 b.toNat):= ⟨U,λi a _=>by simp only[ŵ];exact .iA _ _⟩
def EL(a n:Nat)(h:ff Y x v):fB P fL Y (ļ a n x) (ļ a n v):=by
 cases h<;>first|exact .fI|exact .fw (fL.N _)|exact .fw (fL.abJ _ _)|skip
 rename_i b _ _;exact Mh b _
def Ml(n:Nat):fB P je Y (bO n) (bO n):=by
 unfold bO;split
 .exact .B4 (Ç U) (.fw U)
 .exact .fw U
def abK(a:Array Á)(t:Á)(h:ff Y x v):fB P ff Y (ş a t #[x]) (ş a t #[v]):=by
 unfold ş;cases a[0]? with
 |none=>exact .fI
 |some b=>
  apply fy (iR b);rintro f d _ c ⟨rfl,g⟩;have h:=h.fH c;cases d<;>try exact .fI
  .cases h<;>first|exact .fI|exact .fw (.iA _ _)
  .rename_i e;refine fy (iR e) ?_;rintro i d _ j ⟨rfl,_⟩;cases d<;>first|exact .fI|exact .fw (.iA _ _)
  .cases h<;>first|exact .fI|exact .fw (.iA _ _)
  .exact .fw (.iA _ _)
  all_goals cases h<;>first|exact .fI|exact .fw (.iA _ _)
def abL(a:Array Á)(t:Á)(h:ff Y x v):fB P ff Y (Š a t #[x]) (Š a t #[v]):=by
 unfold Š;cases a[0]? with
 |none=>exact .fI
 |some b=>
  apply fy (iR b);rintro f d _ c ⟨rfl,g⟩;have h:=h.fH c;cases d<;>try exact .fI
  .rename_i e;refine fy (iR e) ?_;rintro i d _ j ⟨rfl,_⟩;cases d<;>first|exact .fI|exact .fw (.iA _ _)
  .cases h<;>first|exact .fI|exact .fw (.iA _ _)
  .exact .fw (.iA _ _)
  all_goals cases h<;>first|exact .fI|exact .fw (.iA _ _)
def abM(g:Array Á)(t:Á)(h:ff Y x v)(a:ff Y z jQ):fB P ff Y (ő g t #[x,z]) (ő g t #[v,jQ]):=by
 unfold ő;cases g[0]? with
 |none=>exact .fI
 |some l=>
  apply fy (iR l);rintro u d _ i ⟨rfl,B⟩;have h:=h.fH i;have a:=a.fH i;cases d<;>try exact .fI
  rename_i e;cases h<;>first|exact .fI|skip
  .rename_i n c;apply fy (Mk a);rintro o m _ b rfl;apply fy (mE e);rintro p w _ f ⟨rfl,_⟩;apply fy (EL w _<|(a.fH b).fH f);exact λq c r j k=> .fw (.iA _ _)
  .rename_i s n c;apply fy (Mk a);rintro o m _ b rfl;apply fy (mE e);rintro p w _ f ⟨rfl,_⟩;apply fy (EL w _<|(a.fH b).fH f);intro q c r j k;apply fy (Mi (((s.r b).r f).r j)<|by simpa using k);exact λC _ _ _ _=> .fw (.iA _ _)
end
section
variable{Y:fi}
def Mm{α:Type}{h:Halt}:∀u x a,(ei h:ē α).run P u≠ĥ x a:=by intro u x a e;cases e
theorem EM{α β:Type}{m:ē α}{f:α->ē β}(h:∀a u x b,(f a).run P u≠ĥ x b):∀u x b,(m>>=f).run P u≠ĥ x b:=by
 intro u x b e;rw[Ä]at e;cases c:m.run P u with
 |ok a w=>rw[c]at e;exact h a _ _ _ e
 |halt z w=>rw[c]at e;cases e
theorem TK{α:Type}:∀u x a,(goPanic v:ē α).run P u≠ĥ x a:=Mm
def abN{α:Type}{v:bq}:∀u x a,(unsupported v:ē α).run P u≠ĥ x a:=Mm
theorem qE{α:Type}(e:Ι):∀u x a,(runtimePanic e:ē α).run P u≠ĥ x a:=by unfold runtimePanic;grind [EM,TK]
def H7{α:Type}{V:fi->α->α->Prop}{e:Ι}{m:ē α}:fB P V Y (runtimePanic e) m:=.nW (qE e)
def abO(H:mZ P)(p g t:Á)(i:(∃e,P.underlying g=À (df e))\/P.underlying g=À ę){B:Â}(j:ff Y v jQ)(c:ff Y x B): fB P ff Y (ĸ #[p,g] t #[v,x]) (ĸ #[p,g] t #[jQ,B]):=by
 unfold ĸ;apply fy (iR p);rintro C d _ D ⟨rfl,W⟩;have j:=j.fH D;have c:=c.fH D;cases d<;>try exact .fI
 rename_i e;have r:=j;cases j<;>first|exact .fI|skip
 all_goals
  refine fy (mE e) ?_;rintro X w _ E ⟨rfl,_⟩;refine fy (iR g) ?_;rintro ρ3 d1 _ F ⟨rfl,k⟩;rcases i with⟨e1,i⟩|i;all_goals
   rw[i]at k;injection k with k;subst k;refine qC<|fy (Mk<|c.fH<|fi.I E F) ?_;rintro ρ4 m _ I rfl;have f:=fi.I (fi.I E F) I;have c:=c.fH f;have r:=r.fH f;simp only[];split
   .apply fy (EL w m c);intro J q K l u;first
     |exact .fw (.nG _ _)
     |exact fy (Mi (((‹gS C _ _›.r f).r l).C _)<|by simpa using u) λL _ _ h _=> .fw (.ku (((‹gS C _ _›.r f).r l).r h) _ _)
   .apply fy (xB e);rintro J G _ l ⟨rfl,_⟩;split
    .exact .nW (vp<|qE _)
    .apply fy (xB e);rintro L G _ h ⟨rfl,_⟩;split
     .refine .nW (vp ?_);simp only[Å,if_false];refine EM λb=> ?_;simp_all
     .apply rT (.zC λ_=> .fw U);intro M nc y;apply fy (xB e);rintro N G _ n ⟨rfl,_⟩;apply rT (Ml _);intro O _ Q;have f:=fi.I (fi.I (fi.I l h)<|fi.I y n) Q;apply fy (EL w _<|r.fH f);intro ρa o o' h S;apply fy (EL w m<|c.fH<|fi.I f h);intro M q K y u;apply fy (EI H e);intro N z z' n T;exact fy (zF e<|(((S.I y).I n).sR<|u.I n).sR<|T.gM.xC _) λO a a' _ V=> .fw (.ku V _ _)
end
section
variable{Y:fi}
def abP(g:mZ P)(t:Á)(i:ff Y v x)(j:ff Y z jQ):fB P ff Y (Ĺ t v z) (Ĺ t x jQ):=by
 unfold Ĺ;apply fy (iR t);rintro o d _ f ⟨rfl,p⟩;cases d<;>try exact .fI
 rename_i e;apply fy (Mj<|i.fH f);rintro q r _ k rfl;apply fy (Mj<|(j.fH f).fH k);rintro s u _ y rfl;apply fy (xB e);rintro B C _ D ⟨rfl,_⟩;simp only[];split
 .split
  .exact .nW (vp<|qE _)
  .split
   .exact .nW (vp<|qE _)
   .exact .nW (EM λ_=>vp<|qE _)
 .apply rT (Ml _);intro E _ F;apply fy (mE e);rintro G w _ H ⟨rfl,_⟩;split
  .exact qC<|fy (zF e<|(fL.N _).G _) λm a n _ b=> .fw (.ku b _ _)
  .exact fy (EI g e) λ_ _ _ _ h=>qC<|fy (zF e<|h.gM.G _) λm a n _ b=> .fw (.ku b _ _)
def sS(P:Õ)(t:Á):Prop:=P.underlying t=À .bool\/(∃k,P.underlying t=À (Β k))\/P.underlying t=À ę
def mF:Â->Prop
 |Þ (À _)=>False
 |_=>True
def TL(t:Á)(i:sS P t\/∃e,P.underlying t=À (ð e))(b:ff Y x v)(c:ff Y z jQ)(j:mF x\/mF z):fB P je Y (ó t x z) (ó t v jQ):=by
 unfold ó ā Λ;refine fy (iR t) ?_;rintro o d _ g ⟨rfl,a⟩;have b:=b.fH g;have c:=c.fH g;rcases i with(h|⟨k,h⟩|h)|⟨e,h⟩;all_goals
  rw[h]at a;injection a with a;subst a;cases b<;>cases c<;>first|exact .fI|exact .fw U|(simp[mF]at j;done)|skip
 .simp only[];split<;>first|exact .fw U|exact .fI
 .rename_i l n _ _ _;by_cases f:n=0
  .subst f;exact .fw U
  .refine .nW λu x m e=> ?_;simp_all
 .rename_i l n;by_cases f:n=0
  .subst f;exact .fw U
  .refine .nW λu x m e=> ?_;simp_all
end
section
variable{Y:fi}
def H8{r:Nat}(h:Y r i):fB P (λ_ a b=>a=ë/\b=ë) Y (dh r) (dh i):=.uA h λ_ _ _ _=> .fw ⟨U,U⟩
def TM{r:Nat}(h:Y r i):fB P (λ_ a b=>a=ë/\b=ë) Y (bZ r) (bZ i):=.uA h λ_ _ _ _=> .fw ⟨U,U⟩
def zG(h:gS Y a p):fB P (λc x b=>gS c x.1 b.1/\x.2=b.2/\x=(a,Ã)/\b=(p,Ã)) Y (Į a) (Į p):=by unfold Į;apply fy (TM h.1);rintro c x d b ⟨rfl,rfl⟩;exact .fw ⟨h.r b,U,U,U⟩
def abQ(h:gS Y a p):fB P je Y (aX a) (aX p):=by unfold aX;apply fy (H8 h.1);rintro b x c d ⟨rfl,rfl⟩;exact .fw U
def EN(h:gS Y a p):fB P je Y (di a) (di p):=by
 have f:=h;let⟨g,i,b⟩:=f;unfold di;cases c:a.spot with
 |some s=>
  rw[c]at b;rw[<-b];exact .fw U
 |none=>
  rw[c]at b;rw[<-b];apply fy qB;rintro k s l d ⟨rfl,e⟩;subst e;apply fy (abQ<|h.r d);intro m _ _ j _;refine .uA (j.1 _ _<|d.1 _ _ g) λe n o q=> ?_;simp only[<-i,ç];split
  .exact .fw U
  .split
   .exact .fw U
   .exact .fI
def H9(c:Bi Y){b d:Ú}(f:gS Y a p)(g:gS Y b d):(a.block==b.block)=(p.block==d.block):=by
 rw[Χ,beq_iff_eq,beq_iff_eq];constructor
 .intro e;exact c.1 _ _ _ f.1<|e▸g.1
 .intro e;exact c.2.1 _ _ _ f.1<|e▸g.1
theorem TN(g:Bi Y){b c:Ú}(d:gS Y a p)(f:gS Y b c):(a==b)=(p==c):=by have e:=H9 g d f;rw[Χ,beq_iff_eq,beq_iff_eq]at e;rw[Χ,beq_iff_eq,beq_iff_eq];let⟨h,i,j⟩:=a;let⟨k,l,m⟩:=p;let⟨n,o,q⟩:=b;let⟨r,s,t⟩:=c;let⟨_,u,v⟩:=d;let⟨_,w,x⟩:=f;grind
theorem TO(f:Bi Y)(n:Y.C=P.globals.size){b d:Ú}(e:gS Y a p)(g:gS Y b d):fB P je Y (š a b) (š p d):=by
 unfold š;apply fy qB;rintro o c q h ⟨i,j⟩;rw[i,j];have k:(a.block !=b.block)=(p.block !=d.block):=by simp only[bne];rw[H9 f e g]
 have l:(decide<|a.block≥P.globals.size)=(decide<|p.block≥P.globals.size):=by have:=f.2.2 _ _ e.1;grind
 rw[k,l];split
 .exact .fI
 .apply fy (EN<|e.r h);rintro r x _ m rfl;apply fy (EN<|(g.r h).r m);rintro s y _ t rfl;exact .fw U
def abR(d:Bi Y)(e:Y.C=P.globals.size)(k:ú){b c:Ú}(f:gS Y a p)(g:gS Y b c):fB P ff Y (Μ k a b) (Μ k p c):=by unfold Μ;apply fy (TO d e f g);rintro h ⟨x,y⟩ _ _ rfl;exact .fw (.iA _ _)
def abS(e:Bi Y)(f:Y.C=P.globals.size)(c:ġ){b d:Ú}(g:gS Y a p)(h:gS Y b d):fB P ff Y (Ν c a b) (Ν c p d):=by unfold Ν;refine fy (TO e f g h) ?_;rintro i ⟨x,y⟩ _ _ rfl;cases c<;>first|exact .fw (.lQ _)|exact .fI
def TP(k:ú)(b:gS Y a p)(n:Int):fB P ff Y (Ξ k a n) (Ξ k p n):=by
 unfold Ξ;refine .uA b.1 λe m d f=> ?_;apply qC;apply fy (xB e);rintro g h _ c ⟨rfl,_⟩;simp only[];split
 .exact .fI
 .apply fy (EN<|b.r c);rintro i x _ _ rfl;exact .fw (.iA _ _)
def abT{n:Int}(h:j<=b)(a:ξ P i e j k n=À m):ξ P i e b k n=À m:=by
 unfold ξ at a|-;simp only[bind,Option.bind]at a|-;split at a
 .cases a
 .rename_i f;rw[if_neg f];split at a
  .cases a
  .rename_i g;simp only[g];dsimp only at a;split at a
   .cases a
   .rename_i l;rw[if_neg]
    .exact a
    .intro o;apply l;have:=(λw=>Nat.mul_le_mul_right w h)<|P.bytesOf e;simp at o|-;omega
def abU{i:Á->Bool}:∀{d:Nat} {e:Á} {c a b n:Nat},c<=a->cZ P i d e c b n=É->cZ P i d e a b n=É
 |0,_,_,_,_,_,_,h=>by simp[cZ]at h
 |d+1,e,c,a,b,n,hc,h=>by
  unfold cZ at h|-;simp only at h|-;split at h
  .cases h
  .rename_i j;rw[if_neg j];rw[bH,ě,ě,ě]at h|-;rcases h with⟨⟨f,g⟩,k⟩|⟨f,g⟩
   .exact Ç ⟨⟨f,by simp at g|-;omega⟩,k⟩
   .exact Î ⟨by simp at f|-;omega,g⟩
def TQ:∀{d:Nat} {e:Á} {c a b:Nat} {u:Á} {n:Nat},c<=a->aY P d e c b u n=É->aY P d e a b u n=É
 |0,_,_,_,_,_,_,_,h=>by simp[aY]at h
 |d+1,e,c,a,b,u,n,hc,h=>by
  unfold aY at h|-;rw[bH]at h|-;rcases h with h|h
  .exact Ç<|abU hc h
  .right;split at h
   .rename_i f;first|rw[f]|skip
    exact TQ hc h
   .cases h
def abV{a:Á->Bool}:cZ P a i e 0 j (n+1)=Ã:=by
 cases i with
 |zero=>simp[cZ]
 |succ i=>
  unfold cZ;simp
def abW{k:ú}(a:P.underlying t=À (Β k)):aY P i e 0 j t (n+1)=Ã:=by
 cases i with
 |zero=>simp[aY]
 |succ i=>
  unfold aY;rw[abV];simp[a]
def TR(t:Á)(d:gS Y a p)(k:ú)(n:Int):fB P ff Y (ñ #[] t #[Þ<|À a,Ć k n]) (ñ #[] t #[Þ<|À p,Ć k n]):=by
 have f:=d;let⟨c,g,h⟩:=f;unfold ñ;apply qC;simp only[];split
 .apply fy (H8 c);rintro i x e b ⟨rfl,rfl⟩;exact .fw (.jD (d.r b))
 .split
  .exact .fI
  .refine .uA c λe m u j=> ?_;apply qC;apply fy qB;rintro i b v l ⟨o,r⟩;rw[o,r,<-g];cases s:ξ P P.depth e (m/P.cellsOf e) a.off n with
   |none=>exact .fI
   |some x=>
    rw[abT (ο<|j.elim (λq=>by omega) λq=>q.1) s];exact .fw (.jD ⟨l.1 _ _ c,U,h⟩)
end
def xD:Obj->Prop
 |Č .. =>False
 |_=>True
inductive kv(P:Õ){α:Type}(V:fi->α->α->Prop):fi->ē α->ē α->Prop
 |gd {Y:fi} {m m':ē α} (h:fB P V Y m m'):kv P V Y m m'
 |lR {Y:fi} {β:Type} {V0:fi->β->β->Prop} {m m':ē β} {f f':β->ē α} (h:fB P V0 Y m m') (hf:∀Y' a a',Y.r Y'->V0 Y' a a'->kv P V Y' (f a) (f' a')):kv P V Y (m.bind f) (m'.bind f')
 |B8 {Y:fi} {o:Obj} {g:Nat->α} {m':ē α} (ho:xD o):kv P V Y (.new o λr=>aH<|g r) m'
 |B9 {Y:fi} {m m':ē α} (h:∀u x u',m.run P u=ĥ x u'->∃i o,u.heap.size<=i/\u'.heap[i]?=À o/\xD o):kv P V Y m m'
section
variable{Y:fi}
def kv.abX{α β:Type}{V:fi->α->α->Prop}{i:fi->β->β->Prop}{m e:ē α}{f j:α->β}(h:kv P V Y m e)(k:∀c a d,Y.r c->V c a d->i c (f a) (j d)): kv P i Y (m.bind λa=>aH<|f a) (e.bind λa=>aH<|j a):=by
 induction h with
 |gd h=>exact .gd (h.lR λc a d u w=> .fw (k c a d u w))
 |lR h _ g=>
  rw[ř,ř];exact .lR h λc a d u w=>g c a d u w λx b z l n=>k x b z (fi.I u l) n
 |B8 b=>exact .B8 b
 |@B9 Y m e h=>
  refine .B9 λu x l b=> ?_;rw[Ĵ]at b;cases g:m.run P u with
  |halt z w=>rw[g]at b;cases b
  |ok a w=>
   rw[g]at b;simp only[ã]at b;cases b;exact h u a _ g
def Ca(u a:Æ):Prop:=∀i o,u.heap.size<=i->a.heap[i]?=À o->¬xD o
def kv.fY{α:Type}{V:fi->α->α->Prop}{Y:fi}{m r:ē α}(h:kv P V Y m r):∀{u w:Æ},iX Y X u w->(∀j,X j->j<w.heap.size)->∀{x:α} {c:Æ},m.run P u=ĥ x c->Ca u c->∀d:Array ý,∃(a:fi) (n:α) (s:Æ) (b:Array ý),Y.r a/\(∀i j,a i j->Y i j\/(u.heap.size<=i/\w.heap.size<=j))/\r.runT P w d=(ĥ n s,d++b)/\V a x n/\iX a X c s/\mY Y X w s/\(∀e∈b,zD a X e)/\u.heap.size<=c.heap.size:=by
 induction h with
 |gd h=>intro u w k g x c b _ d;exact h.fY k g b d
 |@lR Y β V0 m r f f' h _ ih=>
  intro u w k g x c b l d;rw[Ĵ]at b;cases t:m.run P u with
  |halt z w=>rw[t]at b;cases b
  |ok a u1=>
   rw[t]at b;let⟨G,H,w1,E,p,q,v,I,J,B,K,C⟩:=h.fY k g t d;let⟨L,n,M,N,F,O,Q,S,T,W,k7,k8⟩:=ih G a H p I J (λj s=>Ô (g j s) B.r) b (λi o s=>l i o<|õ C s)<|d++E;refine⟨L,n,M,E++N,fi.I p F,λi j D=> ?_,?_,S,T,B.e8 W λi j D=>(q i j D).imp id λy=>y.2,λe s=> ?_,õ C k8⟩
   .rcases O i j D with y|⟨y1,y2⟩
    .exact q i j y
    .exact Î ⟨õ C y1,õ B.r y2⟩
   .rw[Ñ,v];simp only[];rw[Q,Ļ]
   .rcases Ĝ.1 s with s|s
    .rcases K e s with⟨a,i,y,z2,z3,z4⟩|z
     .exact Ç ⟨a,i,y,F.1 _ _ z2,z3,z4⟩
     .exact Î z
    .exact k7 e s
 |B8 s=>
  intro u w k g x c b l d;simp only[ã]at b;cases b;exact absurd s<|l u.heap.size _ (ß _) fg
 |B9 h=>
  intro u w k g x c b l d;let⟨i,o,p,q,v⟩:=h u x c b;exact absurd v<|l i o p q
end
section
variable{Y:fi}
theorem abY(i:Bi Y)(F:Y.C=P.globals.size)(t:Á)(s:sS P t){j b m:Ú}(e:gS Y a j)(f:gS Y b m):fB P je Y (ó t (Þ<|À a)<|Þ<|À b) (ó t (Þ<|À j)<|Þ<|À m):=by
 unfold ó ā Λ;refine fy (iR t) ?_;rintro G d _ g ⟨rfl,c⟩;rcases s with h|⟨k,h⟩|h
 .rw[h]at c;injection c with c;subst c;exact .fI
 .rw[h]at c;injection c with c;subst c;apply fy (zG<|e.r g);rintro H p u l ⟨_,_,rfl,rfl⟩;apply fy (zG<|(f.r g).r l);rintro I q J n ⟨_,_,rfl,rfl⟩;apply fy qB;rintro K p u o ⟨v,w⟩;rw[v,w];have z:=(((e.r g).r l).r n).r o;have B:=(((f.r g).r l).r n).r o;have C:=H9 i e f;have D:(decide<|a.block<P.globals.size)=(decide<|j.block<P.globals.size):=by
   have:=i.2.2 _ _ e.1;grind
  simp only[C,D];split
  .apply fy (EN z);rintro E x _ r rfl;apply fy (EN<|B.r r);rintro L y _ M rfl;exact .fw U
  .apply fy (xB t);rintro E x _ r ⟨rfl,_⟩;split
   .rw[TN i e f];split
    .exact .fw U
    .exact .fI
   .exact .fI
 .rw[h]at c;injection c with c;subst c;exact .fI
def abZ(e:Bi Y)(f:Y.C=P.globals.size)(t:Á)(b:sS P t)(c:ff Y x v)(d:ff Y z jQ):fB P je Y (ó t x z) (ó t v jQ):=by
 by_cases a:mF x\/mF z
 .exact TL t (Ç b) c d a
 .have g:=λh=>a<|Ç h;have i:=λh=>a<|Î h;cases c<;>first|exact absurd trivial g|skip
  cases d<;>first|exact absurd trivial i|skip
  rename_i j _ _ k;exact abY e f t b j k
def ab0(a:ġ)(k:ú)(x y:Int):fB P ff Y (ag a k x y) (ag a k x y):=by
 unfold ag;split
 .exact H7
 .cases a<;>first|exact .fI|exact .fw (.iA _ _)
def ab1(a:ġ)(k b:ú)(x y:Int):fB P ff Y (aJ a k x b y) (aJ a k x b y):=by
 unfold aJ;split
 .exact H7
 .cases a<;>first|exact .fI|exact .fw (.iA _ _)
def ab2(a:ġ)(t:Á)(k b:ú)(x y:Int):fB P ff Y (Ũ a t (Ć k x)<|Ć b y) (Ũ a t (Ć k x)<|Ć b y):=by
 cases a<;>simp only[Ũ]<;>first|exact ab1 _ _ _ _ _|skip
 all_goals
  split
  .exact .fI
  .first|exact .fw (.iA _ _)|exact .fw (.lQ _)|exact ab0 _ _ _ _
def ab3(a:ġ)(t:Á)(x y:ByteArray):fB P ff Y (Ũ a t (ħ x)<|ħ y) (Ũ a t (ħ x)<|ħ y):=by
 cases a<;>simp only[Ũ,br]<;>first|exact .fI|exact .fw (.lQ _)|skip
 split
 .exact .fI
 .exact .fw (.kD _)
end
section
variable{Y:fi}
def kH{α β:Type}{V0:fi->β->β->Prop}{V:fi->α->α->Prop}{m c:ē β}{f d:β->ē α}(h:fB P V0 Y m c) (g:∀b a e,Y.r b->V0 b a e->kv P V b (f a) (d e)):kv P V Y (m>>=f) (c>>=d):=.lR h g
def ab4{α β:Type}{V:fi->α->α->Prop}{c:fi->β->β->Prop}{m d:ē α}{f e:α->β}(h:kv P V Y m d)(i:∀b a g,Y.r b->V b a g->c b (f a) (e g)): kv P c Y (m>>=λa=>pure<|f a) (d>>=λa=>pure<|e a):=kv.abX h i
def TS(t:Á)(y:Â):∀u x a,(ñ #[] t #[Þ ë,y]).run P u≠ĥ x a:=by
 unfold ñ;refine EM λn=> ?_;simp only[];split
 .exact abN
 .split;all_goals simp_all
def Cb(t:Á)(i:ff Y x v)(j:∃p,x=Þ p)(k:ú)(n:Int):kv P ff Y (ŕ t x<|Ć k n) (ŕ t v<|Ć k n):=by
 obtain⟨p,rfl⟩:=j;cases i with
 |lj=>
  unfold ŕ;refine kH (iR t) ?_;rintro e d _ h ⟨rfl,_⟩;cases d<;>simp only[Å,if_false,if_true]<;>first|exact .gd .fI|exact .gd (.nW (TS t _))
 |jD f=>
  unfold ŕ;refine kH (iR t) ?_;rintro e d _ h ⟨rfl,_⟩;have l:∀{a g:Ú},gS e a g->kv P ff e (Į a>>=λp=>ñ #[] t #[Þ<|À p.1,Ć k n]>>=λc=>match c with|Þ (À b)=>b9 b p.2|c=>pure c) (Į g>>=λp=>ñ #[] t #[Þ<|À p.1,Ć k n]>>=λc=>match c with|Þ (À b)=>b9 b p.2|c=>pure c):=by intro a g f;refine kH (zG f) ?_;rintro q p r s ⟨m,u,rfl,rfl⟩;refine kH (TR t m k n) ?_;intro w c y z o;cases o<;>first|exact .B8 trivial|exact .gd (.fw (by constructor<;>assumption))
  cases d<;>simp only[Å,if_false,if_true]<;>first|exact .gd .fI|exact l<|f.r h
def TT(t:Á)(b:ff Y x v)(c:∃p,x=Þ p)(k:ú)(n:Int):kv P ff Y (Ţ t x<|Ć k n) (Ţ t v<|Ć k n):=by
 unfold Ţ;obtain⟨p,rfl⟩:=c;cases b with
 |lj=>exact .gd (.nW (TS t _))
 |jD a=>
  apply kH (TM a.1);rintro e p f d ⟨rfl,rfl⟩;exact .gd (TR t (a.r d) k n)
def ab5(P:Õ)(a:ġ)(t:Á)(x y:Â):Prop:=a=az\/a=aK->(sS P t\/((∃e,P.underlying t=À (ð e))/\(mF x\/mF y)))
def TU(c:Bi Y)(d:Y.C=P.globals.size)(t:Á)(f:sS P t\/((∃e,P.underlying t=À (ð e))/\(mF x\/mF z)))(a:ff Y x v)(b:ff Y z jQ):fB P je Y (ó t x z) (ó t v jQ):=by
 rcases f with h|⟨g,i⟩
 .exact abZ c d t h a b
 .exact TL t (Î g) a b i
def ab6(m:Bi Y)(n:Y.C=P.globals.size)(c:ġ)(t:Á)(r:ab5 P c t x z)(o:ff Y x v)(h:ff Y z jQ):kv P ff Y (Ũ c t x z) (Ũ c t v jQ):=by
 have f:c=az->fB P ff Y (ó t x z>>=λb=>pure<|Ľ b) (ó t v jQ>>=λb=>pure<|Ľ b):=by intro e;apply fy (TU m n t (r<|Ç e) o h);rintro i b _ _ rfl;exact .fw (.lQ _)
 have g:c=aK->fB P ff Y (ó t x z>>=λb=>pure<|Ľ !b) (ó t v jQ>>=λb=>pure<|Ľ !b):=by intro e;apply fy (TU m n t (r<|Î e) o h);rintro i b _ _ rfl;exact .fw (.lQ _)
 cases o with
 |iA k a=>
  cases h with
  |iA d b=>exact .gd (ab2 c t k d a b)
  |jD l=>
   cases c<;>first|exact .gd .fI|exact .gd (f U)|exact .gd (g U)|exact Cb t (.jD l) ⟨_,U⟩ _ _|skip
   apply kH (zG l);rintro i p s e ⟨j,_,_,_⟩;exact .gd (TP _ j _)
  |lj=>cases c<;>first|exact .gd .fI|exact .gd (f U)|exact .gd (g U)|exact Cb t .lj ⟨_,U⟩ _ _
  |_=>cases c<;>first|exact .gd .fI|exact .gd (f U)|exact .gd (g U)
 |kD a=>
  cases h with
  |kD b=>exact .gd (ab3 c t a b)
  |_=>cases c<;>first|exact .gd .fI|exact .gd (f U)|exact .gd (g U)
 |lj=>
  cases h with
  |iA k b=>
   cases c<;>first|exact .gd .fI|exact .gd (f U)|exact .gd (g U)|exact Cb t .lj ⟨_,U⟩ _ _|skip
   refine kH (iR t) ?_;rintro i d _ e ⟨rfl,_⟩;cases d<;>simp only[Å,if_false,if_true]<;>first|exact TT t .lj ⟨_,U⟩ _ _|exact Cb t .lj ⟨_,U⟩ _ _
  |_=>cases c<;>first|exact .gd .fI|exact .gd (f U)|exact .gd (g U)
 |jD a=>
  cases h with
  |iA k b=>
   cases c<;>first|exact .gd .fI|exact .gd (f U)|exact .gd (g U)|exact Cb t (.jD a) ⟨_,U⟩ _ _|skip
   .refine kH (iR t) ?_;rintro i d _ e ⟨rfl,_⟩;have a:=a.r e;cases d<;>simp only[Å,if_false,if_true]<;>first|exact TT t (.jD a) ⟨_,U⟩ _ _|exact Cb t (.jD a) ⟨_,U⟩ _ _
   all_goals
    apply kH (zG a);rintro i p s e ⟨j,_,_,_⟩;exact .gd (TP _ j _)
  |jD l=>
   cases c<;>first|exact .gd .fI|exact .gd (f U)|exact .gd (g U)|skip
   all_goals
    refine kH (zG a) ?_;rintro i p s e ⟨j,_,rfl,rfl⟩;refine kH (zG<|l.r e) ?_;rintro w q B b ⟨d,_,rfl,rfl⟩;have k:=b.2.1<|e.2.1 m;have u:=b.2.2.trans<|e.2.2.trans n;first|exact .gd (abR k u _ (j.r b) d)|exact .gd (abS k u _ (j.r b) d)
  |_=>cases c<;>first|exact .gd .fI|exact .gd (f U)|exact .gd (g U)
 |_=>
  cases h<;>cases c<;>first|exact .gd .fI|exact .gd (f U)|exact .gd (g U)
end
section
variable{Y:fi}
def ab7(a b:Á)(h:(∃k g,P.underlying a=À (Β k)/\P.underlying b=À (Β g))\/(P.underlying a=À ę/\P.underlying b=À ę))(f:ff Y x v):fB P ff Y (Œ a b x) (Œ a b v):=by
 unfold Œ;refine fy (iR a) ?_;rintro n d _ l ⟨rfl,c⟩;refine fy (iR b) ?_;rintro o p _ m ⟨rfl,e⟩;have f:=(f.fH l).fH m;rcases h with⟨k,g,i,j⟩|⟨i,j⟩;all_goals
  rw[i]at c;rw[j]at e;injection c with c;injection e with e;subst c e;cases f<;>first|exact .fI|exact .fw (.iA _ _)|exact .fw (.kD _)
inductive oD(Y:fi):Ο->Ο->Prop
 |na {v v':Â} (h:ff Y v v'):oD Y (ï v) (ï v')
 |rU:oD Y aG aG
 |rV (f:à) {c c':Array Â} (h:fL Y c c'):oD Y (ũ f c) (ũ f c')
def EO(P:Õ)(t:Á):Prop:=sS P t\/∃e,P.underlying t=À (ð e)
def ab8(t:Á)(f:EO P t)(a g b i:Â):fB P je Y (į ā t a b) (į ā t g i):=by
 unfold ā į;refine fy (iR t) ?_;rintro j d _ l ⟨rfl,c⟩;rcases f with(h|⟨k,h⟩|h)|⟨e,h⟩;all_goals
  rw[h]at c;injection c with c;subst c;exact .fw U
def ab9(e:ġ)(t:Á)(c:e=az\/e=aK->EO P t)(x y:Ö){d:Â}(h:ff Y v z)(i:ff Y jQ d):fB P je Y (ŷ e t x y v jQ) (ŷ e t x y z d):=by
 have g:EO P t->∀{f:fi} (s:bq) (v z jQ d:Â),fB P je f (į ā t v jQ>>=λr=>if r=É then unsupported s else pure ()) (į ā t z d>>=λr=>if r=É then unsupported s else pure ()):=by
  intro c f s v z jQ d;apply fy (ab8 t c v z jQ d);rintro j r _ _ rfl;split
  .exact .fI
  .exact .fw U
 unfold ŷ;cases e<;>first|exact .fw U|skip
 all_goals
  have c:=c (by first|exact Ç U|exact Î U);cases h<;>cases i<;>first|exact .fw U|skip
 all_goals first
  |(cases x<;>cases y<;>first|exact .fw U|exact g c _ _ _ _ _)
  |(
   simp only[þ,Å,if_false];apply fy qB;rintro f p m n ⟨r,s⟩;rw[r,s];apply fy qB;rintro j q o u ⟨k,l⟩;rw[k,l];split
   .exact .fw U
   .exact g c _ _ _ _ _)
def mg{m a:ē Â}(h:fB P ff Y m a):fB P oD Y (m>>=λv=>pure<|ï v) (a>>=λv=>pure<|ï v):=h.lR λ_ _ _ _ v=> .fw (.na v)
def TV{m a:ē Â}(h:kv P ff Y m a):kv P oD Y (m>>=λv=>pure<|ï v) (a>>=λv=>pure<|ï v):=ab4 h λ_ _ _ _ v=> .na v
def acd{m a:ē Unit}(h:fB P je Y m a):fB P oD Y (m>>=λ_=>pure aG) (a>>=λ_=>pure aG):=h.lR λ_ _ _ _ _=> .fw .rU
def ace(f:à)(b:∃a,P.funcs[f]?=À a/\(a.name== "runtime.NumGoroutine")=Ã/\a.body.isNone=Ã)(e:fL Y d q):fB P oD Y (ĵ f d) (ĵ f q):=by let⟨a,g,h,i⟩:=b;unfold ĵ;apply fy qB;rintro m p n j ⟨k,l⟩;rw[k,l,g];simp only[h,i,Å,if_false];exact .fw (.rV f (e.I j))
end
inductive jT(P:Õ)(ev:Ö->Â):Op->Prop
 |zH (x:Ö):jT P ev (.move x)
 |EP (x:Ö):jT P ev (.assign x)
 |vu (c a b:Ö):jT P ev (.pick c a b)
 |gB (t:Á):jT P ev (.alloc t)
 |Mn (t:Á) (x:Ö):jT P ev (.box t x)
 |Mp (t:Á) (ps:Array (Nat×Operand)):jT P ev (.build t ps)
 |Mq (t:Á) (n:Nat) (ps:Array (Nat×Operand)):jT P ev (dB t n ps)
 |gp (t:Á) (a:Ö):jT P ev (.load t a)
 |iT (t:Á) (a x:Ö):jT P ev (.store t a x)
 |ER (x:Ö):jT P ev (ez x)
 |Cc (op:ġ) (t:Á) (x y:Ö) (r:Á) (h:op=az\/op=aK->(sS P t\/((∃e,P.underlying t=À (ð e))/\(mF (ev x)\/mF (ev y))))):jT P ev (dR op t x y r)
 |Mr (op:UnOp) (t:Á) (x:Ö):jT P ev (.unOp op t x)
 |Ms (s d:Á) (x:Ö) (h:(∃k k',P.underlying s=À (Β k)/\P.underlying d=À (Β k'))\/(P.underlying s=À ę/\P.underlying d=À ę)):jT P ev (aL s d x)
 |Mt (t:Á) (l c:Ö):jT P ev (dS t l c)
 |ku (t:Á) (x:Ö) (lo hi mx:Option Ö):jT P ev (.slice t x lo hi mx)
 |Mv (s:Á) (x:Ö) (n:Nat) (h:∀fields f i,P.underlying s=À (de fields)->fields[n]?=À f->P.info? f.type=À i->i.size≠0):jT P ev (dT s x n)
 |Mw (t:Á) (x:Ö) (n:Nat):jT P ev (.field t x n)
 |Mx (t:Á) (x i:Ö):jT P ev (dU t x i)
 |My (t:Á) (x i:Ö):jT P ev (.index t x i)
 |EF (x:Ö) (n:Nat):jT P ev (.extract x n)
 |ES (x:Ö) (ts:Array Á):jT P ev (Ω {callee:=ĝ .len,args:=#[x],argTypes:=ts})
 |EU (x:Ö) (ts:Array Á):jT P ev (Ω {callee:=ĝ .cap,args:=#[x],argTypes:=ts})
 |EV (x y:Ö) (ts:Array Á):jT P ev (Ω {callee:=ĝ .copy,args:=#[x,y],argTypes:=ts})
 |sR (x y:Ö) (t0 t1:Á) (h:(∃e,P.underlying t1=À (df e))\/P.underlying t1=À ę):jT P ev (Ω {callee:=ĝ .append,args:=#[x,y],argTypes:=#[t0,t1]})
 |jy (f:à) (args:Array Ö) (ts:Array Á) (TW:ev (aN f)=eH (.func f) #[] #[]) (h:∃fn,P.funcs[f]?=À fn/\(fn.name== "runtime.NumGoroutine")=Ã/\fn.body.isNone=Ã):jT P ev (Ω {callee:=cg<|aN f,args:=args,argTypes:=ts})
end Go.Proofs.Y.Lift
namespace Go.Proofs.Y.Lift
open Go Go.Conc
section
variable{Y:fi}
def TX(Y:fi):Ö->Prop
 |dV v=>ff Y v v
 |ep g=>Y g g
 |_=>True
theorem EW(Y:fi):ff Y ľ ľ:=.mX U λi h=>absurd h fg
def acf{a a':bE}(h:fL Y a.tmps a'.tmps)(b:TX Y qQ):ff Y (a.eval qQ) (a'.eval qQ):=by
 cases qQ with
 |tmp t=>
  simp only[å,ĩ];rcases h.S t with⟨f,g⟩|⟨v,d,f,g,c⟩
  .rw[f,g];exact EW Y
  .rwa[f,g]
 |const v=>exact b
 |global g=>exact .jD ⟨b,U,U⟩
 |func f=>exact .fn _
def acg(b:Array au)(h:fL Y d q)(j:Nat):ł b d j=ł b q j:=by
 unfold ł;cases(b[j]?).bind (·.dst)with
 |none=>rfl
 |some a=>
  simp only[Option.bind_some];rcases h.S a with⟨c,e⟩|⟨v,g,c,e,f⟩
  .rw[c,e]
  .rw[c,e];cases f<;>rfl
def Ia(a:Array au)(o:au)(h:fL Y d q):Ħ o (ł a d)=Ħ o (ł a q):=by have:ł a d=ł a q:=funext<|acg a h;rw[this]
def ach{a a':bE}(h:fL Y a.tmps a'.tmps)(d:Option Tmp)(b:ff Y v x):fL Y (a.put d v).tmps (a'.put d x).tmps:=by
 cases d with
 |none=>exact h
 |some d=>exact h.pS d b
end
section
variable{Y:fi}
def TY{b:Ö->Â}(a:Array Ö)(h:∀x∈a,ff Y (xX x)<|b x):fL Y (a.map xX) (a.map b):= ⟨fg,λi c d=>by simp only[ŵ];exact h _<|Array.getElem_mem _⟩
def T0{c:Ö->Â}(a:Array (Nat×Operand))(h:∀x∈(a.toList.map (·.2)).toArray,ff Y (xX x)<|c x):uB Y (a.map λp=>(p.1,xX p.2)).toList (a.map λp=>(p.1,c p.2)).toList:=by
 simp only[Array.toList_map];have d:∀x∈a.toList.map (·.2),ff Y (xX x) (c x):=λx b=>h x (by simpa using b);generalize a.toList=l at d
 induction l with
 |nil=>exact .oC
 |cons p l e=>exact .vt ⟨U,d _ fg⟩ (e λx b=>d x<|by simp at b|-;exact Î b)
def Mz{a:Ö->Â}(x:Option Ö)(h:∀y,x=À y->ff Y (xX y) (a y)):qD Y (x.map xX) (x.map a):=by
 cases x with
 |none=>exact Ç ⟨U,U⟩
 |some x=>exact Î ⟨_,_,U,U,h x U⟩
def T1(p:mZ P)(D:Bi Y)(E:Y.C=P.globals.size){w:Ö->Â}(F:∀f,w (aN f)=eH (.func f) #[] #[])(B:jT P xX o.op)(g:∀x∈o.op.operands,ff Y (xX x)<|w x):kv P oD Y (ì xX o) (ì w o):=by
 let⟨O,u,Q,S,T,guard⟩:=o;simp only at B g;unfold ì;simp only[];cases B with
 |zH x=>exact .gd (.fw (oD.na<|g x<|by simp[Ê]))
 |EP x=>exact .gd (.fw (oD.na<|g x<|by simp[Ê]))
 |vu c a b=>
  apply kH (TH<|g c<|by simp[Ê]);rintro G r _ k rfl;refine .gd (.fw (oD.na ?_));split
  .exact(g a<|by simp[Ê]).fH k
  .exact(g b<|by simp[Ê]).fH k
 |gB t=>exact .gd (mg<|abn p t _)
 |Mn t x=>exact .gd (mg<|abo t<|g x<|by simp[Ê])
 |Mp t z=>exact .gd (mg<|abF p t<|T0 z g)
 |Mq t n z=>exact .gd (mg<|abI p t n<|T0 z g)
 |gp t a=>exact .gd (mg<|abp t<|g a<|by simp[Ê])
 |iT t a x=>exact .gd (acd<|abq t (g a<|by simp[Ê])<|g x<|by simp[Ê])
 |ER x=>
  simp only[];have j:=g x (by simp[Ê]);generalize xX x=v at j;generalize w x=v' at j;cases j<;>first|exact .gd H7|exact .gd (.fw (oD.na<|by constructor<;>assumption))|skip
  rename_i f;cases f<;>exact .gd (.fw (oD.na<|.fn _))
 |Cc u t x y r h=>
  have j:=g x (by simp[Ê]);have C:=g y (by simp[Ê]);apply TV;apply kH (ab9 u t (λe=>(h e).imp id λq=>q.1) x y j C);exact λG _ _ k _=>ab6 (k.2.1 D) (k.2.2.trans E) u t h (j.fH k)<|C.fH k
 |Mr u t x=>exact .gd (mg<|abz u<|g x<|by simp[Ê])
 |Ms s d x h=>exact .gd (mg<|ab7 s d h<|g x<|by simp[Ê])
 |Mt t l c=>exact .gd (mg<|abP p t (g l<|by simp[Ê])<|g c<|by simp[Ê])
 |ku t x H I J=>exact .gd (mg<|abx t (g x<|by simp[Ê]) (Mz H λy e=>g y<|by simp[Ê,e]) (Mz I λy e=>g y<|by simp[Ê,e])<|Mz J λy e=>g y<|by simp[Ê,e])
 |Mv s x n h=>exact .gd (mg<|abu s (g x<|by simp[Ê]) n h)
 |Mw t x n=>exact .gd (mg<|abt t (g x<|by simp[Ê]) n)
 |Mx t x i=>exact .gd (mg<|abv t (g x<|by simp[Ê])<|g i<|by simp[Ê])
 |My t x i=>exact .gd (mg<|aby t (g x<|by simp[Ê])<|g i<|by simp[Ê])
 |EF x n=>exact .gd (mg<|abr (g x<|by simp[Ê]) n)
 |ES x m=>
  simp only[ù,č,Ē,pure_bind,Ø,â,ä];exact .gd (mg<|abK m _<|g x<|by simp[Ê,ô])
 |EU x m=>
  simp only[ù,č,Ē,pure_bind,Ø,â,ä];exact .gd (mg<|abL m _<|g x<|by simp[Ê,ô])
 |EV x y m=>
  simp only[ù,č,Ē,pure_bind,Ø,â,ä];exact .gd (mg<|abM m _ (g x<|by simp[Ê,ô])<|g y<|by simp[Ê,ô])
 |sR x y K L h=>
  simp only[ù,č,Ē,pure_bind,Ø,â,ä];exact .gd (mg<|abO p K L _ h (g x<|by simp[Ê,ô])<|g y<|by simp[Ê,ô])
 |jy f M m N h=>
  simp only[ù,N,F f,İ,č,pure_bind,Ď,ď];exact .gd (ace f h<|TY M λx j=>g x<|by simp[Ê,ô,j])
end
def World.tp(u:Æ)(T:ψ)(D:Nat):Æ:={u with tape:=T,drawn:=D}
def uC(T:ψ)(D:Nat)(a:ψ)(b n:Nat):Prop:=∀i,i<n->a (b+i)=T (D+i)
def uC.ll{T:ψ}(h:uC T i xQ j (n+1)):xQ j=T i:=h 0 Z
def uC.jf{T:ψ}(h:uC T i xQ j (n+m)):uC T i xQ j n:=λa b=>h a Z
def uC.aci{b:ψ}(h:uC xQ i b j (n+m)):uC xQ (i+n) b (j+n) m:=λa c=>by have:=h (n+a) Z;rw[show j+n+a=j+(n+a) by omega,show i+n+a=i+(n+a) by omega];exact this
def qF{α:Type}(P:Õ)(m:ē α):Prop:=∀(u:Æ) (T:ψ) (D:Nat),∃(n:Nat) (v:Æ),
 ∀x c,m.run P ((World.tp u T D))=ĥ x c->c=(World.tp v T<|D+n)/\∀a b,uC T D a b n->m.run P ((World.tp u a b))=ĥ x ((World.tp v a<|b+n))
section
variable{α β:Type}
def zI{m:ē α}(h:∀u x a,m.run P u=ĥ x a->a=u/\∀b c,m.run P ((World.tp u b c))=ĥ x ((World.tp u b c))):qF P m:=λu T D=>⟨0,u,λx a e=>by let⟨d,f⟩:=h _ x a e;exact⟨d,λb c _=>f b c⟩⟩
def MA{m:ē α}(h:∀u x a,m.run P u≠ĥ x a):qF P m:=λu T D=>⟨0,u,λx a e=>absurd e<|h _ _ _⟩
def acj{m:ē α}{f:α->ē β}(h:qF P m)(i:∀a,qF P<|f a):qF P (m.bind f):=by
 intro u T D;let⟨n,v,j⟩:=h u T D;cases b:m.run P ((World.tp u T D))with
 |halt z w=>exact⟨0,u,λx c e=>by rw[Ĵ,b]at e;cases e⟩
 |ok a k=>
  obtain⟨rfl,l⟩:=j a k b;let⟨o,w,p⟩:=i a v T<|D+n;refine⟨n+o,w,λx c e=> ?_⟩;rw[Ĵ,b]at e;let⟨q,r⟩:=p x c e;refine⟨by rw[q,cO],λz d g=> ?_⟩;rw[Ĵ,l z d g.jf,<-cO];exact r z (d+n) g.aci
theorem acn{m a:ē α}(h:∀u,m.run P u=a.run P u)(b:qF P a):qF P m:=by intro u T D;let⟨n,v,c⟩:=b u T D;exact⟨n,v,λx d e=>by grind⟩
def aco(q:bT):qF P (π q):=by
 intro u T D;cases a:q.forced with
 |true=>exact⟨0,u,λx d e=>by simp only[π,ã,a,if_true]at e;cases e;exact⟨U,λb c _=>by simp only[π,ã,a,if_true];rfl⟩⟩
 |false=>
  refine⟨1,u,λx d e=> ?_⟩;simp only[π,ã,a,Å,if_false]at e;cases e;refine⟨U,λb c f=> ?_⟩;simp only[π,ã,a,Å,if_false];have g:(World.tp u b c).tape (World.tp u b c).drawn q=T D q:=congrFun f.ll q;rw[g];rfl
def Ib{γ:Type}(s:String):(MonadExcept.throw s:Except String γ)=bF s:=rfl
def acp(a:Ú)(md:Mode):qF P (aW a md):=by
 refine zI λu x f e=> ?_;simp only[aW,ã]at e|-;cases b:u.cell? a with
 |some v=>
  rw[b]at e;cases e;exact⟨U,λc d=>by simp only[show((World.tp u c d)).cell? a=À x from b]⟩
 |none=>
  rw[b]at e;cases v:u.farLoad P a (md==ċ)with
  |error z=>simp only[v]at e;cases e
  |ok p=>
   simp only[v]at e;cases e;exact⟨U,λc d=>by simp only[show((World.tp u c d)).cell? a=ë from b,show((World.tp u c d)).farLoad P a (md==ċ)=.ok p from v]⟩
def MB(u:Æ)(a:Ú)(v:Â)(md:Mode):∀T D,((World.tp u T D)).farStore P a v (md==ċ)=(u.farStore P a v<|md==ċ).map λp=>((World.tp p.1 T D),p.2):=by
 intro T D;have c:∀b t,((World.tp u T D)).viewStore P b t a v (md==ċ)=(u.viewStore P b t a v<|md==ċ).map λp=>((World.tp p.1 T D),p.2):=by
  intro b t;unfold bI;have o:((World.tp u T D)).seen P b t a (md==ċ)=u.seen P b t a (md==ċ):=U;rw[o];simp only[bind,ρ,pure,ς,Ib];cases u.seen P b t a (md==ċ)with
  |error e=>simp only[];split<;>rfl
  |ok r=>
   simp only[];repeat' (first|rfl|split)
 unfold Ŧ;have e:((World.tp u T D)).heap=u.heap:=U;cases r:u.heap[a.block]? with
 |none=>simp only[aO,e,r];rfl
 |some o=>
  cases o<;>first
   |(simp only[aO,e,r];rfl)
   |skip
  simp only[e,r,c];cases u.viewStore P _ _ a v (md==ċ)<;>rfl
def acr(a:Ú)(v:Â)(md:Mode):qF P (ak a v md):=by
 by_cases b:xx v=É
 .intro u T D;cases d:u.cell? a with
  |some y=>
   cases c:u.frozen? a with
   |true=>exact⟨0,u,λx h e=>by simp only[ak]at e;rw[vr b,show((World.tp u T D)).cell? a=À y from d]at e;simp only[show((World.tp u T D)).frozen? a=É from c,if_true]at e;cases e⟩
   |false=>
    refine⟨0,u.setCell a v,λx h e=> ?_⟩;simp only[ak]at e|-;rw[vr b,show((World.tp u T D)).cell? a=À y from d]at e;simp only[show((World.tp u T D)).frozen? a=Ã from c,Å,if_false]at e;cases e;refine⟨U,λf g i=> ?_⟩;rw[vr b,show((World.tp u f g)).cell? a=À y from d];simp only[show((World.tp u f g)).frozen? a=Ã from c,Å,if_false];rfl
  |none=>
   cases c:u.farStore P a v (md==ċ)with
   |error z=>exact⟨0,u,λx h e=>by simp only[ak]at e;rw[vr b,show((World.tp u T D)).cell? a=ë from d]at e;simp only[MB u a v md T D,c,cj]at e;cases e⟩
   |ok p=>
    refine⟨0,p.1,λx h e=> ?_⟩;simp only[ak]at e|-;rw[vr b,show((World.tp u T D)).cell? a=ë from d]at e;simp only[MB u a v md T D,c,cj]at e;cases e;refine⟨U,λf g i=> ?_⟩;rw[vr b,show((World.tp u f g)).cell? a=ë from d];simp only[MB u a v md f g,c,cj];rfl
 .exact MA λu x h e=>by cases v<;>first|exact absurd U b|cases e
def acs(o:Obj):qF P (eK o):=λu T D=>⟨0,{u with heap:=u.heap.push o},λx a e=>by cases e;exact⟨U,λb c _=>rfl⟩⟩
def acu(r:Nat):qF P (ck r):=by
 refine zI λu x d e=> ?_;simp only[ck,ã]at e|-;cases a:u.heap[r]? with
 |none=>rw[a]at e;cases e
 |some o=>
  rw[a]at e;cases o<;>first
   |(cases e;done)
   |(cases e;exact⟨U,λb c=>by simp only[show((World.tp u b c)).heap[r]?=_ from a]⟩)
end
def pT(u:Æ):Prop:=∀(i:Nat) (c:Array Â) (e:Á),u.heap[i]?≠À (Ÿ c e)
structure Kd(u u':Æ):Prop where
 r:pT u->pT u'
 C:∀(i:Nat) (o:Obj),u.heap[i]?=À o->xD o->∃o',u'.heap[i]?=À o'/\xD o'
theorem Kd.fO(u:Æ):Kd u u:=⟨id,λ_ o h k=>⟨o,h,k⟩⟩
def Kd.e8{c:Æ}(h:Kd w u)(k:Kd u c):Kd w c:=⟨λx=>k.r<|h.r x,λi o x y=>by let⟨d,e,f⟩:=h.C i o x y;exact k.C i d e f⟩
def EX:Halt->Bool
 |.panic _=>É
 |.stuck _=>É
 |ŀ (.initOrder _)=>Ã
 |ŀ _=>É
 |_=>Ã
def nX{α:Type}(P:Õ)(m:ē α):Prop:=∀u,pT u->(∀x a,m.run P u=ĥ x a->Kd u a)/\(∀z a,m.run P u=bU z a->EX z=É)
section
variable{α β:Type}
def T3(a:α):nX P (aH a):=λu _=>⟨λx b h=>by cases h;exact Kd.fO u,λz b h=>by cases h⟩
def EY{z:Halt}(h:EX z=É):nX P (ei z:ē α):=λu _=>⟨λx a e=>(by cases e),λb a e=>(by cases e;exact h)⟩
def Ic{m:ē α}{f:α->ē β}(h:nX P m)(j:∀a,nX P<|f a):nX P (m.bind f):=by
 intro u d;let⟨g,k⟩:=h u d;refine⟨λx i e=> ?_,λz i e=> ?_⟩<;>rw[Ĵ]at e
 .cases b:m.run P u with
  |ok a c=>
   rw[b]at e;exact(g a c b).e8<|(j a c<|(g a c b).r d).1 x i e
  |halt z w=>rw[b]at e;cases e
 .cases b:m.run P u with
  |ok a c=>
   rw[b]at e;exact(j a c<|(g a c b).r d).2 z i e
  |halt c w=>rw[b]at e;cases e;exact k _ _ b
def T4:nX P da:=λu _=>⟨λx a h=>by cases h;exact Kd.fO u,λz a h=>by cases h⟩
theorem acv(q:bT):nX P (π q):=by
 intro u b;constructor
 .intro x a e;simp only[π,ã]at e;split at e<;>cases e
  .exact Kd.fO u
  .exact⟨id,λi o h k=>⟨o,h,k⟩⟩
 .intro z a e;simp only[π,ã]at e;grind
def acw(m:Mark):nX P (mark m):=λu _=>⟨λx a h=>by cases h;exact Kd.fO u,λz a h=>by cases h⟩
def acy(r:Nat):nX P (cm r):=λu _=>⟨λx a h=>by cases h;exact Kd.fO u,λz a h=>by cases h⟩
def acz(a:Ú):nX P (eL a):=λu _=>⟨λx b h=>by cases h;exact Kd.fO u,λz b h=>by cases h⟩
theorem acA(o:Obj)(h:∀c e,o≠Ÿ c e):nX P (eK o):=by
 intro u b;refine⟨λx d e=> ?_,λz d e=>by cases e⟩;cases e;refine⟨λ_ i c e a=> ?_,λi f a g=>⟨f,?_,g⟩⟩
 .simp only[Array.getElem?_push]at a;split at a
  .grind
  .exact b i c e a
 .grind
theorem T5{f:Obj->Obj}(n:∀o,xD o->xD (f o))(j:∀o c e,f o=Ÿ c e->∃d g,o=Ÿ d g):Kd u {u with heap:=u.heap.modify b f}:=by
 refine⟨λh i c e a=> ?_,λi o a p=> ?_⟩
 .simp only[Ň]at a;split at a
  .let⟨o,k,l⟩:=ģ.1 a;let⟨d,g,m⟩:=j o c e l;exact h i d g<|m▸k
  .exact h i c e a
 .grind
theorem acB(a:Ú)(v:Â):Kd u (u.setCell a v):=by
 unfold ĉ;refine T5 (λo b=> ?_) λo c e h=> ?_
 .cases o<;>first|exact b.elim|trivial
 .grind
theorem T7(b:pT u)(a:Ú)(s:String):EX (u.noCell a s)=É:=by
 unfold aO;split
 .rename_i h;exact absurd h<|b _ _ _
 .rfl
 .rfl
theorem acC(a:Ú)(m:Mode):nX P (aW a m):=by
 intro u d;constructor
 .intro x c e;simp only[aW,ã]at e;grind [Kd.fO]
 .intro z c e;simp only[aW,ã]at e;split at e
  .cases e
  .split at e
   .cases e
   .rename_i b;cases e;unfold ŋ at b;split at b
    .split at b<;>cases b;rfl
    .grind [T7]
theorem acD{k:Ú}{r:Array Value×TypeId×(Nat×Nat)×Nat×Value×List (Nat×Nat×List UInt8)}(h:w.seen P a t k yQ=.ok r):∃c e d,w.heap[a.block]?=À (Č c e d):=by unfold World.seen at h;simp only[bind,ρ,pure,ς,Ib]at h;grind
theorem acE{k:Ú}{l:List Ú}(h:w.viewStore P a t k v yQ=.ok (u,l)):Kd w u:=by
 have q:∃c e n d f g,w.heap[a.block]?=À (Č d f g)/\u={w with heap:=w.heap.setIfInBounds a.block (Č c e n)}:=by
  unfold bI at h;cases i:w.seen P a t k yQ with
  |error e=>
   rw[i]at h;simp only[bind,ρ,pure,ς,Ib]at h;repeat' (first|contradiction|split at h)
  |ok r=>
   let⟨d,f,g,j⟩:=acD i;rw[i]at h;simp only[bind,ρ,pure,ς,Ib]at h;repeat' (first|contradiction|split at h)
   all_goals(simp only[Except.ok.injEq,Prod.mk.injEq]at h;obtain⟨rfl,_⟩:=h;exact⟨_,_,_,d,f,g,j,U⟩)
 obtain⟨c,e,n,d,f,g,j,rfl⟩:=q;refine⟨λs i x m r=> ?_,λi o r y=> ?_⟩
 .rw[Ś]at r;split at r
  .grind
  .exact s i x m r
 .by_cases m:a.block=i
  .subst m;rw[j]at r;cases r;exact y.elim
  .grind
theorem acG(a:Ú)(v:Â)(m:Mode):nX P (ak a v m):=by
 intro u d;by_cases c:xx v=É
 .constructor
  .intro x f e;simp only[ak]at e;rw[vr c]at e;split at e
   .split at e
    .cases e
    .cases e;exact acB a v
   .split at e
    .rename_i b;cases e;unfold Ŧ at b;grind [acE]
    .cases e
  .intro z f e;simp only[ak]at e;rw[vr c]at e;split at e
   .split at e
    .cases e;rfl
    .cases e
   .split at e
    .cases e
    .rename_i b;cases e;unfold Ŧ at b;split at b
     .split at b<;>cases b;rfl
     .grind [T7]
 .cases v<;>first|exact absurd U c|exact EY (P:=P) U u d
def fx(P:Õ)(m:ē α):Prop:=nX P m/\qF P m
theorem gy(a:α):fx P (pure a):=⟨T3 a,zI λu x b e=>by cases e;exact⟨U,λ_ _=>rfl⟩⟩
def MC{z:Halt}(h:EX z=É):fx P (ei z:ē α):=⟨EY h,MA λu x a e=>by cases e⟩
theorem fZ{m:ē α}{f:α->ē β}(h:fx P m)(b:∀a,fx P<|f a):fx P (m>>=f):=⟨Ic h.1 λa=>(b a).1,acj h.2 λa=>(b a).2⟩
def MD{m:ē α}{f:α->β}(h:fx P m):fx P (f<$>m):=fZ h λ_=>gy _
theorem iU(s:String):fx P (stuck s:ē α):=MC U
def T8(v:Â):fx P (goPanic v:ē α):=MC U
theorem pU:fx P da:=⟨T4,zI λu x a e=>by cases e;exact⟨U,λ_ _=>rfl⟩⟩
theorem rW(q:bT):fx P (π q):=⟨acv q,aco q⟩
def EZ(m:Mark):fx P (mark m):=⟨acw m,zI λu x a e=>by cases e;exact⟨U,λ_ _=>rfl⟩⟩
theorem sT(r:Nat):fx P (cm r):=⟨acy r,zI λu x a e=>by cases e;exact⟨U,λ_ _=>rfl⟩⟩
theorem ME(a:Ú):fx P (eL a):=⟨acz a,zI λu x b e=>by cases e;exact⟨U,λ_ _=>rfl⟩⟩
def Ie(o:Obj)(h:∀c e,o≠Ÿ c e):fx P (eK o):=⟨acA o h,acs o⟩
def E0(a:Ú)(m:Mode):fx P (aW a m):=⟨acC a m,acp a m⟩
def acH(a:Ú)(v:Â)(m:Mode):fx P (ak a v m):=⟨acG a v m,acr a v m⟩
theorem Ig{m m':ē α}(h:∀u,m.run P u=m'.run P u)(a:fx P m'):fx P m:=⟨λu b=>by have:=a.1 u b;rwa[<-h u]at this,acn h a.2⟩
end
section
variable{α:Type}
def mG(u:bq)(h:EX (ŀ u)=É):fx P (unsupported u:ē α):=MC h
def E1(e:Á)(c:Array Â):fx P (dQ e c):=by unfold dQ;exact fZ (Ie _<|by intro _ _ h;cases h) λ_=>gy _
def T9(t:Á)(v:Â):fx P (eI t v):=E1 _ _
def uD(t:Á):fx P (Δ t):=by unfold Δ;repeat' (first|(with_reducible first|exact gy _|exact iU _|exact pU|refine fZ ?_ λ_=> ?_)|split)
theorem qG(t:Á):fx P (ø t):=by unfold ø;repeat' (first|(with_reducible first|exact gy _|exact iU _|exact pU|refine fZ ?_ λ_=> ?_)|split)
def sU{p:Prop}(h:p:=by repeat' (first|(with_reducible first|exact gy _|exact iU _|exact pU|exact qG _|exact T8 _|exact T9 _ _|exact rW _|exact uD _|exact E0 _ _|exact sT _|exact EZ _|refine fZ ?_ (λ_=> ?_)|refine MD ?_|refine mG _ ?_)|split|rfl)):p:=h
def Ih(t:Á):fx P (Ū t):=by unfold Ū;exact sU
def vv(e:Ι):fx P (runtimePanic e:ē α):=by unfold runtimePanic;repeat' (first|(with_reducible first|exact Ih _|refine fZ ?_ λ_=> ?_)|split|exact sU)
def Ua(k:ú)(x y:Int)(c:av):fx P (boundsPanic k x y c:ē α):=by unfold boundsPanic;simp only[];repeat' (first|(with_reducible first|exact vv _|refine fZ ?_ λ_=> ?_)|split|exact sU)
def acI(r:Nat):nX P (ck r):=by
 intro u b;constructor
 .intro x a e;simp only[ck,ã]at e;split at e<;>first|(cases e;done)|(cases e;exact Kd.fO u)
 .intro z a e;simp only[ck,ã]at e;split at e<;>first|(cases e;done)|(cases e;rfl)
theorem Ub(r:Nat):fx P (ck r):=⟨acI r,acu r⟩
def Ii(t:Á):fx P (ω t):=by unfold ω;exact sU
def sV(t:Á):fx P (ax t):=by unfold ax;exact sU
def MG(t:Á):fx P (ek t):=by unfold ek;exact sU
def Uc(a:Ú):∀(n i:Nat) (b:Array Â),fx P<|Ō a i n b
 |0,i,b=>gy _
 |n+1,i,b=>by unfold Ō;exact fZ (E0 _ _) λ_=>Uc a n _ _
def MH(a:Ú)(n:Nat):fx P (cX a n):=Uc a n _ _
def Ij(a:Ú):∀(b:List Â) (i:Nat),fx P<|Κ a b i
 |[],i=>gy _
 |v::b,i=>by unfold Κ;exact fZ (acH _ _ _) λ_=>Ij a b _
theorem Ud(t:Á)(a:Ú):fx P (ae t a):=by unfold ae;repeat' (first|(with_reducible first|exact sV _|exact MG _|exact MH _ _|refine fZ ?_ λ_=> ?_)|split|exact sU)
def acJ(t:Á)(a:Ú)(v:Â):fx P (aI t a v):=by unfold aI;repeat' (first|(with_reducible first|exact sV _|exact Ij _ _ _|refine fZ ?_ λ_=> ?_)|split|exact sU)
def Ue(t:Á)(c:Array Â)(o:Nat):fx P (part t c o):=by unfold part;repeat' (first|(with_reducible first|exact sV _|exact MG _|refine fZ ?_ λ_=> ?_)|split|exact sU)
def Uf(v:Â):fx P (ŧ v):=by unfold ŧ;exact sU
def Ug(v:Â):fx P (dc v):=by unfold dc;exact sU
def jL{p:Prop}(h:p:=by repeat' (first|(with_reducible first|exact gy _|exact iU _|exact pU|exact qG _|exact T8 _|exact T9 _ _|exact Ih _|exact rW _|exact vv _|exact uD _|exact E0 _ _|exact sV _|exact MG _|exact MH _ _|exact Ij _ _ _|exact Ug _|exact Ii _|exact acJ _ _ _|exact Ud _ _|exact Uf _|exact Ue _ _ _|exact sT _|exact Ub _|exact Ua _ _ _ _|exact EZ _|refine fZ ?_ (λ_=> ?_)|refine MD ?_|refine mG _ ?_)|split|rfl)):p:=h
def E2(v:Â):fx P (dz v):=by unfold dz;exact jL
def Ik(v:Â):fx P (bV v):=by unfold bV;exact jL
def acK(v:Â):fx P (eJ v):=by unfold eJ;exact jL
theorem Uh(v:Â):fx P (bW v):=by unfold bW;exact jL
def Ui(t:Á)(b:Bool)(v:Â):fx P (Ű t b v):=by unfold Ű;exact jL
def Uj(t:Á)(v:Â):fx P (af t v):=by unfold af;exact jL
def Uk(t:Á)(v:Â):fx P (Ş t v):=by unfold Ş;exact jL
def Ul(t:Á)(a v:Â):fx P (ĳ t a v):=by unfold ĳ;exact jL
def Um(v:Â)(n:Nat):fx P (ō v n):=by unfold ō;exact jL
def Un(t:Á)(v:Â)(n:Nat):fx P (ű t v n):=by unfold ű;repeat' (first|(with_reducible first|exact acK _|refine fZ ?_ λ_=> ?_)|split|exact jL)
def Uo{γ δ:Type}(f:γ->ē δ)(a:∀x,fx P<|f x):∀l:List γ,fx P<|l.mapM f
 |[]=>by rw[cQ];exact gy _
 |x::l=>by rw[ν];exact fZ (a x) λ_=>fZ (Uo f a l) λ_=>gy _
theorem Up{γ δ:Type}(f:γ->ē δ)(a:∀x,fx P<|f x)(l:Array γ):fx P (l.mapM f):=by rw[Ĕ];exact MD<|Uo f a _
def acM(l:Array Field):fx P (l.mapM λf=>do pure (f.offset,<-ax f.type)):=Up _ (λ_=>fZ (sV _) λ_=>gy _) l
def Il(r:Nat):fx P (dh r):=by unfold dh;exact jL
def Uq(r:Nat):fx P (bZ r):=by unfold bZ;exact jL
def Ur(a:Ú):fx P (aX a):=by unfold aX;repeat' (first|(with_reducible first|exact Il _|refine fZ ?_ λ_=> ?_)|split|exact jL)
def zK(a:Ú):fx P (di a):=by unfold di;repeat' (first|(with_reducible first|exact gy _|exact iU _|exact pU|exact sT _|exact Ur _|refine fZ ?_ λ_=> ?_)|split|simp only[]|(rename_i b;cases b<;>simp only[Å,if_false,if_true,þ,Ă]))
def Cd(a:Ú):fx P (Į a):=by unfold Į;repeat' (first|(with_reducible first|exact Uq _|refine fZ ?_ λ_=> ?_)|split|exact jL)
def acN(a:Ú)(x y:Nat):fx P (partAt a x y):=by unfold partAt;repeat' (first|(with_reducible first|exact zK _|refine fZ ?_ λ_=> ?_)|split|exact jL)
def acO(a:Ú)(f:Field):fx P (bX a f):=by unfold bX;repeat' (first|(with_reducible first|exact acN _ _ _|refine fZ ?_ λ_=> ?_)|split|exact jL)
def Us(s:Á)(v:Â)(n:Nat):fx P (Ŏ s v n):=by unfold Ŏ;repeat' (first|(with_reducible first|exact acO _ _|refine fZ ?_ λ_=> ?_)|split|exact jL)
def Ut(t:Á)(x i:Â):fx P (ŏ t x i):=by unfold ŏ;repeat' (first|(with_reducible first|exact gy _|exact iU _|exact qG _|exact Ua _ _ _ _|exact sV _|exact Uf _|exact Ug _|refine fZ ?_ (λ_=> ?_)|refine mG _ ?_)|split|rfl|simp only[])
def acP(x:Â)(y:Nat)(c:av):fx P (ī x y c):=by unfold ī;exact jL
def Uu(b:Bool)(l c:Nat)(x y z:Option Â):fx P (Ĩ b l c x y z):=by unfold Ĩ;repeat' (first|(with_reducible first|exact acP _ _ _|refine fZ ?_ λ_=> ?_)|split|exact jL)
def acQ(t:Á)(v:Â)(x y z:Option Â):fx P (Ų t v x y z):=by unfold Ų;repeat' (first|(with_reducible first|exact Uh _|exact Uu _ _ _ _ _ _|refine fZ ?_ λ_=> ?_)|split|exact jL)
def Uv(t:Á)(v:Â)(x y z:Option Â):fx P (Ő t v x y z):=by unfold Ő;repeat' (first|(with_reducible first|exact Uu _ _ _ _ _ _|exact acQ _ _ _ _ _|refine fZ ?_ λ_=> ?_)|split|exact jL)
def Uw(t:Á)(x i:Â):fx P (ų t x i):=by unfold ų;exact jL
def Ux(o:ġ)(k:ú)(x y:Int):fx P (dC o k x y):=by unfold dC;exact jL
def Uy(o:ġ)(k:ú)(x y:Int):fx P (dW o k x y):=by unfold dW;exact jL
def Uz(o:UnOp)(v:Â):fx P (bY o v):=by unfold bY;repeat' (first|(with_reducible first|exact Ux _ _ _ _|exact Uy _ _ _ _)|split|exact jL)
def UA(t:Á)(a:Array (Nat×Value)):fx P (Ŵ t a):=by unfold Ŵ;repeat' (first|(with_reducible first|exact acM _|refine fZ ?_ λ_=> ?_)|split|exact jL)
def UB(t:Á)(n:Nat)(a:Array (Nat×Value)):fx P (ĭ t n a):=by unfold ĭ;repeat' (first|(with_reducible first|exact gy _|exact iU _|exact E1 _ _|exact qG _|exact Ii _|exact sV _|refine fZ ?_ (λ_=> ?_)|refine mG _ ?_)|split|rfl|simp only[]|(rename_i b;cases b<;>simp only[Å,if_false,if_true,þ,Ă]))
def MI(n:Nat):fx P (bO n):=by unfold bO;exact jL
def UC(t:Á)(x y:Â):fx P (Ĺ t x y):=by unfold Ĺ;repeat' (first|(with_reducible first|exact gy _|exact iU _|exact rW _|exact E1 _ _|exact uD _|exact qG _|exact vv _|exact Ii _|exact sV _|exact E2 _|exact MI _|refine fZ ?_ λ_=> ?_)|split|simp only[]|(rename_i b;cases b<;>simp only[Å,if_false,if_true,þ,Ă]))
def UD(v:Â):fx P (Α v):=by unfold Α;exact jL
def UE(s n:Nat)(v:Â):fx P (ļ s n v):=by unfold ļ;exact jL
def acR(a:Ú)(n:Nat):fx P (aA a n):=by unfold aA;exact jL
def acS(s l n:Nat)(b:Option Ú)(v:Â):fx P (aZ s l n b v):=by unfold aZ;repeat' (first|(with_reducible first|exact gy _|exact ME _|exact acR _ _|refine fZ ?_ λ_=> ?_)|split|simp only[]|(rename_i b;cases b<;>simp only[Å,if_false,if_true,þ,Ă]))
def UF(a:Array Á)(t:Á)(x:Array Â):fx P (ş a t x):=by unfold ş;exact jL
def UG(a:Array Á)(t:Á)(x:Array Â):fx P (Š a t x):=by unfold Š;exact jL
def UH(a:Array Á)(t:Á)(x:Array Â):fx P (ő a t x):=by unfold ő;repeat' (first|(with_reducible first|exact UD _|exact UE _ _ _|refine fZ ?_ λ_=> ?_)|split|exact jL)
def UI(a:Array Á)(t:Á)(x:Array Â):fx P (ĸ a t x):=by unfold ĸ;repeat' (first|(with_reducible first|exact gy _|exact iU _|exact rW _|exact EZ _|exact E1 _ _|exact uD _|exact qG _|exact vv _|exact Ii _|exact sV _|exact Ij _ _ _|exact E2 _|exact MI _|exact UD _|exact UE _ _ _|exact acS _ _ _ _ _|refine fZ ?_ (λ_=> ?_)|refine mG _ ?_)|split|rfl|(rename_i b;cases b<;>simp only[Å,if_false,if_true,þ,Ă]))
end
section
variable{α:Type}
theorem MJ(o:ġ)(k:ı)(x y:Nat):fx P (cR o k x y):=by unfold cR;repeat' (first|(with_reducible first|exact gy _|exact iU _|exact rW _|refine fZ ?_ λ_=> ?_)|split|simp only[]|(rename_i b;cases b<;>simp only[Å,if_false,if_true,þ,Ă]))
theorem MK(o:ġ)(k:ı)(x y:Nat):fx P (dD o k x y):=by unfold dD;grind [gy,iU]
theorem acT(s:ı)(b:Nat)(d:ı):fx P (aP s b d):=by unfold aP;grind [gy,rW,fZ]
theorem UJ(s:ı)(b:Nat)(d:ú):fx P (bJ s b d):=by unfold bJ;grind [gy,rW,fZ]
theorem acU(o:ġ)(k:ı)(x y:Nat):fx P (bb o k x y):=by unfold bb;grind [gy,iU,MJ,fZ]
def mH{p:Prop}(h:p:=by repeat' (first|(with_reducible first|exact gy _|exact iU _|exact rW _|exact MJ _ _ _ _|exact Ik _|exact MK _ _ _ _|exact acT _ _ _|exact acU _ _ _ _|exact vv _|exact pU|exact zK _|exact sT _|exact E2 _|exact Il _|exact qG _|exact Cd _|exact Uq _|refine fZ ?_ (λ_=> ?_)|refine mG _ ?_)|split|rfl)):p:=h
def UK(o:ġ)(k:ı)(x y:Nat):fx P (cu o k x y):=by unfold cu;exact mH
def acV(s:ı)(b:Nat)(d:ı):fx P (bK s b d):=by unfold bK;exact mH
def ML(x y:Nat):fx P (cw x y):=by unfold cw;exact mH
def MN(x y:Nat):fx P (cx x y):=by unfold cx;exact mH
def MO(x y:Nat):fx P (cy x y):=by unfold cy;exact mH
def acW(x y:Nat):fx P (cz x y):=by unfold cz;exact mH
def acX(a b c d:Nat):fx P (aB a b c d):=by unfold aB;repeat' (first|(with_reducible first|exact ML _ _|exact MN _ _|exact MO _ _|refine fZ ?_ λ_=> ?_)|split|exact mH)
def acY(s a b c d:Nat):fx P (σ s a b c d):=by unfold σ;repeat' (first|(with_reducible first|exact ML _ _|exact MN _ _|exact MO _ _|refine fZ ?_ λ_=> ?_)|split|exact mH)
def acZ(a b c d:Nat):fx P (ah a b c d):=by unfold ah;repeat' (first|(with_reducible first|exact gy _|exact UK _ _ _ _|exact ML _ _|exact MN _ _|exact MO _ _|exact acW _ _|exact acY _ _ _ _ _|refine fZ ?_ λ_=> ?_)|split|simp only[])
def UL(o:ġ)(k:ı)(a b c d:Nat):fx P (dj o k a b c d):=by unfold dj;repeat' (first|(with_reducible first|exact UK _ _ _ _|exact acV _ _ _|exact acX _ _ _ _|exact acZ _ _ _ _|refine fZ ?_ λ_=> ?_)|split|exact mH)
def ac0(o:ġ)(k:ú)(x y:Int):fx P (ag o k x y):=by unfold ag;exact mH
def UM(o:ġ)(x y:Int):fx P (eA o x y):=by unfold eA;exact mH
def ac1(o:ġ)(k:ú)(x:Int)(a:ú)(y:Int):fx P (aJ o k x a y):=by unfold aJ;exact mH
def MP(o:ġ)(x y:ByteArray):fx P (br o x y):=by unfold br;exact mH
def UN(a b:Ú):fx P (š a b):=by unfold š;exact mH
def ac2(k:ú)(a b:Ú):fx P (Μ k a b):=by unfold Μ;repeat' (first|(with_reducible first|exact UN _ _|refine fZ ?_ λ_=> ?_)|split|exact mH)
def ac3(o:ġ)(a b:Ú):fx P (Ν o a b):=by unfold Ν;repeat' (first|(with_reducible first|exact UN _ _|refine fZ ?_ λ_=> ?_)|split|exact mH)
def ac4(k:ú)(a:Ú)(n:Int):fx P (Ξ k a n):=by unfold Ξ;repeat' (first|(with_reducible first|exact gy _|exact sT _|exact uD _|exact zK _|refine fZ ?_ (λ_=> ?_)|refine mG _ ?_)|split|rfl|simp only[]|(rename_i b;cases b<;>simp only[Å,if_false,if_true,þ,Ă]))
def UO(a:Array Á)(t:Á)(x y:Â):fx P (ñ a t #[x,y]):=by
 unfold ñ;cases x<;>first|exact iU _|skip
 refine fZ (E2 y) λn=> ?_;exact mH
def ac5(a:Ú)(b:Bool):fx P (b9 a b):=by unfold b9;repeat' (first|(with_reducible first|exact gy _|refine fZ ?_ (λ_=> ?_)|refine Ie _ ?_)|split|(intro _ _ h;cases h;done))
def ac6(t:Á)(x y:Â):fx P (ŕ t x y):=by unfold ŕ;repeat' (first|(with_reducible first|exact UO _ _ _ _|exact ac5 _ _|refine fZ ?_ λ_=> ?_)|split|exact mH)
def ac7(t:Á)(x y:Â):fx P (Ţ t x y):=by unfold Ţ;repeat' (first|(with_reducible first|exact UO _ _ _ _|refine fZ ?_ λ_=> ?_)|split|exact mH)
theorem vw{γ:Type}{d:dE}(h:P.underlying t=À d){f:dE->ē γ}(a:fx P (f d)):fx P (ø t>>=f):=by
 have e:∀u,(ø t).run P u=ĥ d u:=by intro u;unfold ø;simp_all
 grind [Ig,Ä,È]
def UP(t:Á)(x y:Â)(a:sS P t\/((∃e,P.underlying t=À (ð e))/\(mF x\/mF y))):fx P (ó t x y):=by
 unfold ó ā Λ;rcases a with(h|⟨k,h⟩|h)|⟨⟨e,h⟩,k⟩<;>refine vw h ?_
 .repeat' (first|(with_reducible first|exact gy _|exact iU _|exact pU|exact uD _|exact zK _|exact Cd _|refine fZ ?_ (λ_=> ?_)|refine mG _ ?_)|contradiction|split)
 .repeat' (first|(with_reducible first|exact gy _|exact iU _|exact pU|exact uD _|exact zK _|exact Cd _|refine fZ ?_ (λ_=> ?_)|refine mG _ ?_)|contradiction|split|rfl)
 .repeat' (first|(with_reducible first|exact gy _|exact iU _|exact pU|exact uD _|exact zK _|exact Cd _|refine fZ ?_ (λ_=> ?_)|refine mG _ ?_)|contradiction|split)
 .repeat' (first|(with_reducible first|exact gy _|exact iU _|exact pU|exact uD _|exact zK _|exact Cd _|refine fZ ?_ (λ_=> ?_)|refine mG _ ?_)|contradiction|exact(Or.elim k id id:False).elim|split)
def ac8(t:Á)(a:EO P t)(x y:Â):fx P (į ā t x y):=by unfold ā į;rcases a with(h|⟨k,h⟩|h)|⟨e,h⟩<;>refine vw h ?_<;>(cases x<;>cases y<;>exact gy _)
theorem UQ(c:ġ)(t:Á)(d:c=az\/c=aK->EO P t)(x y:Ö)(a b:Â):fx P (ŷ c t x y a b):=by
 unfold ŷ;by_cases e:c=az\/c=aK
 .have f:=d e;rcases e with rfl|rfl;all_goals
   repeat' (first|(with_reducible first|exact ac8 _ f _ _|refine fZ ?_ λ_=> ?_)|split|exact mH)
 .grind [gy]
end
section
variable{α:Type}
theorem ac9(k:ú)(n:Int):fx P (cS k n):=by unfold cS;grind [gy]
theorem UR(n:Int):fx P (bg n):=by unfold bg;grind [gy]
def ada(a:ġ)(t:Á)(x y:Â)(h:a=az\/a=aK->(sS P t\/((∃e,P.underlying t=À (ð e))/\(mF x\/mF y)))):fx P (Ũ a t x y):=by unfold Ũ;repeat' (first|(with_reducible first|exact UP _ _ _ (h<|Ç U)|exact UP _ _ _ (h<|Î U)|exact gy _|exact iU _|exact qG _|exact Cd _|exact Ux _ _ _ _|exact Uy _ _ _ _|exact MJ _ _ _ _|exact MK _ _ _ _|exact UL _ _ _ _ _ _|exact ac0 _ _ _ _|exact UM _ _ _|exact ac1 _ _ _ _ _|exact MP _ _ _|exact ac2 _ _ _|exact ac3 _ _ _|exact ac4 _ _ _|exact ac6 _ _ _|exact ac7 _ _ _|refine fZ ?_ (λ_=> ?_)|refine mG _ ?_)|contradiction|split|rfl)
def adb(s d:Á)(x:Â)(h:(∃k a,P.underlying s=À (Β k)/\P.underlying d=À (Β a))\/(P.underlying s=À ę/\P.underlying d=À ę)):fx P (Œ s d x):=by
 unfold Œ;rcases h with⟨k,a,b,c⟩|⟨b,c⟩<;>refine vw b<|vw c ?_
 .repeat' (first|(with_reducible first|exact ac9 _ _|exact gy _|exact UJ _ _ _|refine mG _ ?_)|contradiction|split|rfl)
 .repeat' (first|(with_reducible first|exact UR _|exact gy _|exact UJ _ _ _|refine mG _ ?_)|contradiction|split|rfl)
def US:∀(l:List FieldStep) (t:Á) (x:Option Â),fx P<|bu l t x
 |[],t,x=>by unfold bu;exact gy _
 |s::l,t,x=>by unfold bu;repeat' (first|(with_reducible first|exact US l _ _|exact gy _|exact iU _|exact qG _|exact Ue _ _ _|refine fZ ?_ λ_=> ?_)|split|(intro _ _ h;cases h;done)|rfl|simp only[]|(rename_i b;cases b<;>simp only[Å,if_false,if_true,þ,Ă]))
def UT:∀(n:Nat) (t:Á) (v:Â) (s:String),fx P<|aQ n t v s
 |0,t,v,s=>by unfold aQ;exact gy _
 |n+1,t,v,s=>by unfold aQ;repeat' (first|(with_reducible first|exact UT n _ _ _|exact US _ _ _|exact gy _|exact iU _|exact uD _|exact qG _|refine fZ ?_ λ_=> ?_)|split|(intro _ _ h;cases h;done)|rfl|simp only[]|(rename_i b;cases b<;>simp only[Å,if_false,if_true,þ,Ă]))
def ln{m:ē Â}(h:fx P m):fx P (m>>=λv=>pure<|ï v):=fZ h λ_=>gy _
theorem ade(f:à)(b:∃a,P.funcs[f]?=À a/\(a.name== "runtime.NumGoroutine")=Ã/\a.body.isNone=Ã)(c:Array Â):fx P (ĵ f c):=by let⟨a,d,e,g⟩:=b;refine Ig (m':=pure<|ũ f c) (λu=> ?_)<|gy _;unfold ĵ;rw[Ä,ă];grind [È,Å]
def adf(j:jT P xX o.op):fx P (ì xX o):=by
 let⟨k,g,m,p,u,guard⟩:=o;simp only at j;unfold ì;simp only[];cases j with
 |zH x=>exact gy _
 |EP x=>exact gy _
 |vu c a b=>exact fZ (Ik _) λ_=>gy _
 |gB t=>exact ln<|Ui _ _ _
 |Mn t x=>exact ln<|Uj _ _
 |Mp t b=>exact ln<|UA _ _
 |Mq t n b=>exact ln<|UB _ _ _
 |gp t a=>exact ln<|Uk _ _
 |iT t a x=>exact fZ (Ul _ _ _) λ_=>gy _
 |ER x=>
  simp only[];repeat' (first|(with_reducible first|exact UT _ _ _ _|exact gy _|exact pU|exact vv _|exact Ik _|exact Ui _ _ _|exact Uj _ _|exact Uk _ _|exact Ul _ _ _|exact Um _ _|exact Un _ _ _|exact Us _ _ _|exact Ut _ _ _|exact Uv _ _ _ _ _|exact Uw _ _ _|exact Uz _ _|exact UA _ _|exact UB _ _ _|exact UC _ _ _|exact UF _ _ _|exact UG _ _ _|exact UH _ _ _|exact UI _ _ _|refine fZ ?_ (λ_=> ?_)|refine mG _ ?_)|split|rfl)
 |Cc g t x y r h=>exact ln<|fZ (UQ g t (λe=>(h e).imp id λq=>q.1) x y _ _) λ_=>ada g t _ _ h
 |Mr g t x=>exact ln<|Uz _ _
 |Ms s d x h=>exact ln<|adb s d _ h
 |Mt t l c=>exact ln<|UC _ _ _
 |ku t x b a c=>exact ln<|Uv _ _ _ _ _
 |Mv s x n h=>exact ln<|Us _ _ _
 |Mw t x n=>exact ln<|Un _ _ _
 |Mx t x i=>exact ln<|Ut _ _ _
 |My t x i=>exact ln<|Uw _ _ _
 |EF x n=>exact ln<|Um _ _
 |ES x a=>
  simp only[ù,č,Ē,pure_bind,Ø,â,ä];exact ln<|UF _ _ _
 |EU x a=>
  simp only[ù,č,Ē,pure_bind,Ø,â,ä];exact ln<|UG _ _ _
 |EV x y a=>
  simp only[ù,č,Ē,pure_bind,Ø,â,ä];exact ln<|UH _ _ _
 |sR x y b c h=>
  simp only[ù,č,Ē,pure_bind,Ø,â,ä];exact ln<|UI _ _ _
 |jy f c a b h=>
  simp only[ù,b,İ,č,pure_bind,Ď,ď];exact ade f h _
end
def fm(f:à)(t:Array Â)(k:List ś):Ę:=(base f).at ⟨t,[]⟩ k
structure St where
 f:à
 t:Array Â
 k:List ś
 C:Bool
 L:List (FuncId×Array Value×List ś)
def St.r(s:St)(cs:List Ę):Ó:=G (if s.C then{fm s.f s.t s.k with mode:=.returning}else fm s.f s.t s.k)<|s.L.map (λx=>fm x.1 x.2.1 x.2.2)++cs
def oE(t:Array Â)(d:Option Tmp)(v:Â):Array Â:=(Act.put ⟨t,[]⟩ d v).tmps
def rX(t:Array Â)(d:Option Tmp)(v:Â):Act.put ⟨t,[]⟩ d v=⟨oE t d v,[]⟩:=by cases d<;>rfl
inductive LS(P:Õ):St->Æ->St->Æ->Prop
 |oC {f t L u:_}:LS P ⟨f,t,[],Ã,L⟩ u ⟨f,t,[],É,L⟩ u
 |uE {f t k L u:_}:LS P ⟨f,t,Đ .ret::k,Ã,L⟩ u ⟨f,t,Đ .ret::k,É,L⟩ u
 |rU {f t k L u:_}:LS P ⟨f,t,Đ eM::k,Ã,L⟩ u ⟨f,t,k,Ã,L⟩ u
 |vx {f t k L u l:_}:LS P ⟨f,t,Đ (dX l)::k,Ã,L⟩ u ⟨f,t,k,Ã,L⟩ u
 |xE {f t k L u id:_}:LS P ⟨f,t,dF id::k,Ã,L⟩ u ⟨f,t,k,Ã,L⟩ u
 |uF {f t k L u c:_}:LS P ⟨f,t,dG c::k,Ã,L⟩ u ⟨f,t,k,Ã,L⟩ u
 |qH {f t k L u x y:_}:LS P ⟨f,t,Đ (.seq x y)::k,Ã,L⟩ u ⟨f,t,Đ x::Đ y::k,Ã,L⟩ u
 |sW {f t k L u c x y b:_} (h:å ⟨t,[]⟩ c=Ľ b):LS P ⟨f,t,Đ (bx c x y)::k,Ã,L⟩ u ⟨f,t,Đ (if b then x else y)::k,Ã,L⟩ u
 |qI {f t k L u id c:_}:LS P ⟨f,t,Đ (dY id c)::k,Ã,L⟩ u ⟨f,t,Đ c::dF id::k,Ã,L⟩ u
 |vy {f t k L u c:_}:LS P ⟨f,t,Đ (eN c)::k,Ã,L⟩ u ⟨f,t,Đ c::dm c::k,Ã,L⟩ u
 |vz {f t k L u c:_}:LS P ⟨f,t,dm c::k,Ã,L⟩ u ⟨f,t,Đ c::dm c::k,Ã,L⟩ u
 |vA {f t k L u c:_}:LS P ⟨f,t,Đ (dZ c)::k,Ã,L⟩ u ⟨f,t,Đ c::dG c::k,Ã,L⟩ u
 |vB {f t k L u id k':_} (h:cB id k=À k'):LS P ⟨f,t,Đ (eO id)::k,Ã,L⟩ u ⟨f,t,k',Ã,L⟩ u
 |vC {f t k L u l k':_} (h:cC l k=À k'):LS P ⟨f,t,Đ (eP l)::k,Ã,L⟩ u ⟨f,t,k',Ã,L⟩ u
 |sX {f t k L u id ops:_}:LS P ⟨f,t,Đ (bP id ops Ã)::k,Ã,L⟩ u ⟨f,t,á ops (List.range ops.size)::k,Ã,L⟩ u
 |zL {f t k L u id ops:_}:LS P ⟨f,t,Đ (bP id ops É)::k,Ã,L⟩ u ⟨f,t,á ops (bL (P.follows .mixedOrders) ops<|u.tape u.drawn<|.order f id)::k,Ã,L⟩ {u with drawn:=u.drawn+1}
 |E3 {f t k L u ops:_}:LS P ⟨f,t,á ops []::k,Ã,L⟩ u ⟨f,t,k,Ã,L⟩ u
 |Ce {f t k L u ops i rest o:_} (ho:ops[i]?=À o) (hw:Ħ o (ł ops t)=Ã):LS P ⟨f,t,á ops (i::rest)::k,Ã,L⟩ u ⟨f,oE t o.dst ľ,á ops rest::k,Ã,L⟩ u
 |na {f t k L u ops i rest o v u':_} (ho:ops[i]?=À o) (hw:Ħ o (ł ops t)=É) (hr:(ì (å ⟨t,[]⟩) o).run P u=ĥ (ï v) u'):LS P ⟨f,t,á ops (i::rest)::k,Ã,L⟩ u ⟨f,oE t o.dst v,á ops rest::k,Ã,L⟩ u'
 |zM {f t k L u ops i rest o u':_} (ho:ops[i]?=À o) (hw:Ħ o (ł ops t)=É) (hr:(ì (å ⟨t,[]⟩) o).run P u=ĥ aG u'):LS P ⟨f,t,á ops (i::rest)::k,Ã,L⟩ u ⟨f,oE t o.dst ľ,á ops rest::k,Ã,L⟩ u'
 |rV {f t k L u ops i rest o g args fn c u':_} (ho:ops[i]?=À o) (hw:Ħ o (ł ops t)=É) (hr:(ì (å ⟨t,[]⟩) o).run P u=ĥ (ũ g args) u') (hf:P.funcs[g]?=À fn) (hb:fn.body=À c):LS P ⟨f,t,á ops (i::rest)::k,Ã,L⟩ u ⟨g,args++ĺ (fn.ntmps-args.size) ľ,[Đ c],Ã,(f,t,á ops (i::rest)::k)::L⟩ u'
 |Cf {f t k L u ops i rest:_} (ho:(ops:Array au)[(i:Nat)]?=ë):LS P ⟨f,t,á ops (i::rest)::k,Ã,L⟩ u ⟨f,t,á ops rest::k,Ã,L⟩ u
 |vD {f t k L u g t' ops i rest k' v fn u':_} (hf:P.funcs[f]?=À fn) (hr:(Ī fn t).run P u=ĥ v u'):LS P ⟨f,t,k,É,(g,t',á ops (i::rest)::k')::L⟩ u ⟨g,oE t' ((ops[i]?).bind (·.dst)) v,á ops rest::k',Ã,L⟩ u'
inductive lS(GL:Nat->Prop):Ö->Prop
 |UU (t:Tmp):lS GL (.tmp t)
 |UW {v:Â} (h:jE v):lS GL (dV v)
 |UX {g:Nat} (h:GL g):lS GL (ep g)
 |UY (f:à):lS GL (aN f)
structure mh(P:Õ)(GL:Nat->Prop)(eY:à->Prop)(o:au):Prop where
 mj:∀{Y:fi} {Sh:Nat->Prop} {t t':Array Â} {u w:Æ},mZ P->Y.C=P.globals.size->(∀g,GL g->Y g g)->fL Y t t'->iX Y Sh u w->(∀j,Sh j->j<w.heap.size)->∀{x:Ο} {u':Æ},(ì (å ⟨t,[]⟩) o).run P u=ĥ x u'->Ca u u'->
  ∃(Y':fi) (x':Ο) (w':Æ) (UZ:Array ý),Y.r Y'/\(∀i j,Y' i j->Y i j\/(u.heap.size<=i/\w.heap.size<=j))/\(ì (å ⟨t',[]⟩) o).runT P w #[]=(ĥ x' w',#[]++UZ)/\oD Y' x x'/\iX Y' Sh u' w'/\mY Y Sh w w'/\(∀e∈UZ,zD Y' Sh e)/\u.heap.size<=u'.heap.size
 r:∀a:bE,fx P<|ì a.eval o
 I:∀(a:bE) (u:Æ) (n:Ο) (u':Æ),(ì a.eval o).run P u=ĥ n u'->(∃v,n=ï v)\/n=aG\/∃f c,n=ũ f c
 C:∀(a:bE) (u:Æ) (f:à) (c:Array Â) (u':Æ),(ì a.eval o).run P u=ĥ (ũ f c) u'->eY f
inductive kx(P:Õ)(GL:Nat->Prop)(eY:à->Prop):aj->Prop
 |uE:kx P GL eY .ret
 |rU:kx P GL eY eM
 |vx (l:Nat):kx P GL eY (dX l)
 |vB (id:Nat):kx P GL eY (eO id)
 |vC (l:Nat):kx P GL eY (eP l)
 |qH {x y:aj} (hx:kx P GL eY x) (hy:kx P GL eY y):kx P GL eY (.seq x y)
 |sW {c:Ö} {x y:aj} (hc:lS GL c) (hx:kx P GL eY x) (hy:kx P GL eY y):kx P GL eY (bx c x y)
 |qI (id:Nat) {c:aj} (h:kx P GL eY c):kx P GL eY (dY id c)
 |vy {c:aj} (h:kx P GL eY c):kx P GL eY (eN c)
 |vA {c:aj} (h:kx P GL eY c):kx P GL eY (dZ c)
 |sX (id:Nat) {ops:Array au} (draw:Bool) (h:∀o∈ops,mh P GL eY o):kx P GL eY (bP id ops draw)
 |oF (U0:String):kx P GL eY (dq U0)
inductive zN(P:Õ)(GL:Nat->Prop)(eY:à->Prop):ś->Prop
 |qK {c:aj} (h:kx P GL eY c):zN P GL eY (Đ c)
 |xE (id:Nat):zN P GL eY (dF id)
 |uF {c:aj} (h:kx P GL eY c):zN P GL eY (dG c)
 |vz {c:aj} (h:kx P GL eY c):zN P GL eY (dm c)
 |vE {ops:Array au} (is:List Nat) (h:∀o∈ops,mh P GL eY o):zN P GL eY (á ops is)
def rY(P:Õ)(a:Nat->Prop)(b:à->Prop)(k:List ś):Prop:=∀i∈k,zN P a b i
structure lC(P:Õ)(GL:Nat->Prop)(eY:à->Prop)(s:St):Prop where
 fT:rY P GL eY s.k
 fl:∀x∈s.L,rY P GL eY x.2.2
def oG(P:Õ)(d:Nat->Prop)(a:à->Prop):Prop:=∀f,a f->∀b c,P.funcs[f]?=À b->b.body=À c->kx P d a c
section
variable{GL:Nat->Prop}{eY:à->Prop}
def adg{a:aj}(h:kx P GL eY wX):bh wX i=À a->kx P GL eY a:=by
 induction h generalizing a with
 |qH j b d f=>
  intro e;simp only[bh]at e;split at e
  .rename_i r g;cases e;exact .qH (d g) b
  .exact f e
 |vx k=>
  intro e;simp only[bh]at e;split at e<;>cases e;exact .rU
 |_=>intro e;simp only[bh]at e;cases e
def adh{id:Nat}:∀{k a:List ś},rY P GL eY k->cB id k=À a->rY P GL eY a:=by
 intro k
 induction k with
 |nil=>intro a _ e;simp[cB]at e
 |cons i k c=>
  intro a h e;have b:=λj d=>h j<|ò _ d;cases i with
  |inBlock f=>
   simp only[cB]at e;split at e
   .cases e;exact b
   .exact c b e
  |_=>simp only[cB]at e;exact c b e
def adi:∀{k c:List ś},rY P GL eY k->cC i k=À c->rY P GL eY c:=by
 intro k
 induction k with
 |nil=>intro c _ e;simp[cC]at e
 |cons a k f=>
  intro c h e;have d:=λj b=>h j<|ò _ b;cases a with
  |inScope m=>
   simp only[cC]at e;have g:kx P GL eY m:=by cases h _ (î ..)with|uF h=>exact h
   split at e
   .rename_i r n;cases e;intro j b;rcases œ.1 b with rfl|b
    .exact .qK (adg g n)
    .rcases œ.1 b with rfl|b
     .exact .uF g
     .exact d j b
   .exact f d e
  |_=>simp only[cC]at e;exact f d e
def ng{i:ś}(h:rY P GL eY (i::L)):rY P GL eY L:=λj a=>h j<|ò _ a
def nY{i:ś}(b:zN P GL eY i)(h:rY P GL eY L):rY P GL eY (i::L):=λj a=>by
 rcases œ.1 a with rfl|a
 .exact b
 .exact h j a
def xF{c:aj}{k:List ś}(h:rY P GL eY (Đ c::k)):kx P GL eY c:=by cases h _ (î ..)with|qK h=>exact h
def oH{ops:Array au}{k:List ś}(h:rY P GL eY (á ops jJ::k)):∀o∈ops,mh P GL eY o:=by cases h _ (î ..)with|vE _ h=>exact h
def LS.ok(i:oG P GL eY)(k:∀o a u f l w,mh P GL eY o->(ì (å a) o).run P u=ĥ (ũ f l) w->eY f){s g:St}(h:LS P s u g w)(ok:lC P GL eY s):lC P GL eY g:=by
 let⟨c,d⟩:=ok;cases h with
 |oC=>exact⟨c,d⟩
 |uE=>exact⟨c,d⟩
 |rU=>exact⟨ng c,d⟩
 |vx=>exact⟨ng c,d⟩
 |xE=>exact⟨ng c,d⟩
 |uF=>exact⟨ng c,d⟩
 |qH=>
  cases xF c with
  |qH e j=>exact⟨nY (.qK e)<|nY (.qK j)<|ng c,d⟩
 |@sW _ _ _ _ _ _ _ _ b _=>
  cases xF c with
  |sW _ e j=>exact⟨nY (.qK (by cases b<;>simp[e,j]))<|ng c,d⟩
 |qI=>
  cases xF c with
  |qI _ h=>exact⟨nY (.qK h)<|nY (.xE _)<|ng c,d⟩
 |vy=>
  cases xF c with
  |vy h=>exact⟨nY (.qK h)<|nY (.vz h)<|ng c,d⟩
 |vz=>
  cases c _ (î ..)with
  |vz h=>exact⟨nY (.qK h) c,d⟩
 |vA=>
  cases xF c with
  |vA h=>exact⟨nY (.qK h)<|nY (.uF h)<|ng c,d⟩
 |vB h=>exact⟨adh (ng c) h,d⟩
 |vC h=>exact⟨adi (ng c) h,d⟩
 |sX=>
  cases xF c with
  |sX _ _ h=>exact⟨nY (.vE _ h)<|ng c,d⟩
 |zL=>
  cases xF c with
  |sX _ _ h=>exact⟨nY (.vE _ h)<|ng c,d⟩
 |E3=>exact⟨ng c,d⟩
 |Ce=>exact⟨nY (.vE _ (oH c))<|ng c,d⟩
 |na=>exact⟨nY (.vE _ (oH c))<|ng c,d⟩
 |zM=>exact⟨nY (.vE _ (oH c))<|ng c,d⟩
 |rV m _ n p q=>
  refine⟨λj r=> ?_,λx e=> ?_⟩
  .have:=ū.1 r;rw[this];exact .qK (i _ (k _ _ _ _ _ _ (oH c _<|Û m) n) _ _ p q)
  .rcases œ.1 e with rfl|e
   .exact c
   .exact d x e
 |Cf=>exact⟨nY (.vE _ (oH c))<|ng c,d⟩
 |vD=>
  have j:=d _<|î ..;exact⟨nY (.vE _ (oH j))<|ng j,λx e=>d x<|ò _ e⟩
end
structure Im(Y:fi)(x y:FuncId×Array Value×List ś):Prop where
 f:x.1=y.1
 t:fL Y x.2.1 y.2.1
 k:x.2.2=y.2.2
inductive Cg(Y:fi):List (FuncId×Array Value×List ś)->List (FuncId×Array Value×List ś)->Prop
 |oC:Cg Y [] []
 |vt {x y:FuncId×Array Value×List ś} {L L':List (FuncId×Array Value×List ś)} (h:Im Y x y) (hs:Cg Y L L'):Cg Y (x::L) (y::L')
structure Io(Y:fi)(s s':St):Prop where
 f:s.f=s'.f
 t:fL Y s.t s'.t
 k:s.k=s'.k
 uE:s.C=s'.C
 L:Cg Y s.L s'.L
def Im.fH{Y a:fi}(h:Y.r a){x y:FuncId×Array Value×List ś}(r:Im Y x y):Im a x y:=⟨r.f,r.t.I h,r.k⟩
def Ip{Y b:fi}(h:Y.r b){L c:List (FuncId×Array Value×List ś)}(r:Cg Y L c):Cg b L c:=by
 induction r with
 |oC=>exact .oC
 |vt a _ d=>exact .vt (a.fH h) d
section
variable{Y:fi}{j:Nat->Prop}{p:à->Prop}
def adj(a:∀g,X g->Y g g)(h:lS X qQ):TX Y qQ:=by
 cases h with
 |UU t=>trivial
 |UW h=>exact h.jq Y
 |UX h=>exact a _ h
 |UY f=>trivial
def vF(b:∀g,X g->Y g g)(h:fL Y d q)(c:lS X qQ):ff Y (å ⟨d,[]⟩ qQ) (å ⟨q,[]⟩ qQ):= acf (a:=⟨d,[]⟩) (a':=⟨q,[]⟩) h<|adj b c
def oE.r{b:Array Â}(h:fL Y q b)(d:Option Tmp)(c:ff Y v x):fL Y (oE q d v) (oE b d x):= ach (a:=⟨q,[]⟩) (a':=⟨b,[]⟩) h d c
def U1(n:Nat):fL Y (ĺ n ľ) (ĺ n ľ):=⟨U,λi a b=>by simp only[Array.getElem_replicate];exact EW Y⟩
def adk(B:jT P xX o.op)(i:(ì xX o).run P u=ĥ (ũ F d) W):∃q l,o.op=Ω {callee:=cg<|aN F,args:=q,argTypes:=l}:=by
 have n:∀{m:ē Â} {x:Ο} {k p:Æ},(m>>=λv=>pure (ï v):ē Ο).run P k=ĥ x p->∃v,x=ï v:=by
  intro m x k p e;rw[Ä]at e;cases j:m.run P k with
  |ok a w=>rw[j]at e;cases e;exact⟨a,U⟩
  |halt z w=>rw[j]at e;cases e
 have C:∀{m:ē Unit} {x:Ο} {k p:Æ},(m>>=λ_=>pure aG:ē Ο).run P k=ĥ x p->x=aG:=by
  intro m x k p e;rw[Ä]at e;cases j:m.run P k with
  |ok a w=>rw[j]at e;cases e;rfl
  |halt z w=>rw[j]at e;cases e
 let⟨E,s,G,H,I,guard⟩:=o;simp only at B|-;unfold ì at i;simp only[]at i;cases B with
 |zH x=>cases i
 |EP x=>cases i
 |vu c a b=>
  rw[Ä]at i;cases j:(bV<|xX c).run P u with
  |ok a w=>rw[j]at i;cases i
  |halt z w=>rw[j]at i;cases i
 |iT t a x=>exact absurd (C i) fg
 |ER x=>
  simp only[]at i;split at i;all_goals first
   |(cases i;done)
   |exact absurd i<|qE _ _ _ _
   |(
    split at i;all_goals first
     |(cases i;done)
     |exact absurd i<|qE _ _ _ _
     |(
      rw[Ä,ă]at i;simp only[È]at i;rw[Ä]at i;revert i;generalize ã P (aQ _ _ _ _) u=z;intro i;cases z with
      |halt z w=>cases i
      |ok a w=>
       simp only[È]at i;split at i
       .rw[Ä]at i;cases i
       .cases i))
 |ES x l=>simp only[ù,č,Ē,pure_bind,Ø,â,ä]at i;let⟨v,e⟩:=n i;cases e
 |EU x l=>simp only[ù,č,Ē,pure_bind,Ø,â,ä]at i;let⟨v,e⟩:=n i;cases e
 |EV x y l=>simp only[ù,č,Ē,pure_bind,Ø,â,ä]at i;let⟨v,e⟩:=n i;cases e
 |sR x y b c h=>simp only[ù,č,Ē,pure_bind,Ø,â,ä]at i;let⟨v,e⟩:=n i;cases e
 |jy g q l b h=>
  let⟨J,c,r,D⟩:=h;simp only[ù,b,İ,č,pure_bind,Ď,ď,ĵ]at i;rw[Ä,ă]at i;simp only[È,c,r,D,Å,if_false]at i;cases i;exact⟨q,l,U⟩
 |Cc s t x y r h=>
  rw[Ä]at i;cases j:ã P (ŷ s t x y (xX x) (xX y)>>=λ_=>Ũ s t (xX x)<|xX y) u with
  |ok a w=>rw[j]at i;cases i
  |halt z w=>rw[j]at i;cases i
 |_=>let⟨v,e⟩:=n i;cases e
theorem U2(j:Func)(h:fL Y d q):fB P ff Y (Ī j d) (Ī j q):=by
 have k:∀(f:fi),Y.r f->∀n,ff f (d.getD n ľ) (q.getD n ľ):=by intro f a n;simp only[ĩ];rcases(h.I a).S n with⟨b,e⟩|⟨v,u,b,e,m⟩;all_goals grind [EW]
 unfold Ī;refine fy (V:=fL) ?_ ?_
 .rw[Ĕ,Ĕ];have w:∀(l:List ResultVar) (c:fi),Y.r c->fB P (λf (a o:List Â)=>fL f a.toArray o.toArray) c (l.mapM fun|ResultVar.tmp n=>pure (d.getD n ľ)|ResultVar.cell a e=>do ae e (<-bW (d.getD a ľ))) (l.mapM fun|ResultVar.tmp n=>pure (q.getD n ľ)|ResultVar.cell a e=>do ae e (<-bW (q.getD a ľ))):=by
   intro l
   induction l with
   |nil=>intro c _;simp only[cQ];exact .fw (fL.N _)
   |cons r l x=>
    intro c g;simp only[ν];refine fy (V:=ff) ?_ ?_
    .cases r with
     |tmp n=>exact .fw (k c g n)
     |cell a e=>
      apply fy (TJ<|k c g a);exact λp b s _ i=>TD i e
    .intro p v u e m;apply fy (x p<|fi.I g e);intro z s i y b;refine .fw ?_;have:=(fL.M<|m.fH y).sR b;simpa using this
  exact fB.lR (w _ Y<|fi.M _) λf a o _ e=> .fw e
 .intro c s i _ b;refine .fw ?_;by_cases e:s.size=1
  .have a:i.size=1:=by rwa[<-b.r]
   rw[dif_pos e,dif_pos a];exact b.C 0 _ _
  .have a:¬i.size=1:=by rwa[<-b.r]
   rw[dif_neg e,dif_neg a];exact .mX b.r b.C
end
section
variable{Y:fi}{d:Nat->Prop}{l:à->Prop}
def iO(P:Õ)(Y:fi)(d:Nat->Prop)(main:Bool)(cs:List Ę)(h:St)(u w:Æ)(k:St)(c:Æ):Prop:=
 ∃(a:fi) (f:St) (b:Æ) (g:Array ý),Ù P main (h.r cs) w=aR (f.r cs) b g/\Io a k f/\Y.r a/\(∀i j,a i j->Y i j\/(u.heap.size<=i/\w.heap.size<=j))/\iX a d c b/\mY Y d w b/\(∀e∈g,zD a d e)/\u.heap.size<=c.heap.size
def iO.r{main:Bool}{cs:List Ę}{a b s1':St}(c:iX Y d u w)(h:Ù P main (a.r cs) w=aR (s1'.r cs) w #[])(f:Io Y b s1'):iO P Y d main cs a u w b u:= ⟨Y,s1',w,#[],h,f,fi.M _,λ_ _ h=>Ç h,c,mY.fO _ _ w,λe g=>absurd g fg,ß _⟩
def Iq{α:Type}{m:ē α}{x:α}(h:m.runT P w #[]=(ĥ x u,#[]++V)):m.run P w=ĥ x u/\m.events P w #[]=V:=by simp_all
def E4{main:Bool}{k:List ś}{c:Ę}{cs:List Ę}{es:Array ý}(a:P.funcs[F]?=À s)(b:(Ī s q).runT P w #[]=(ĥ v u,es)): Ù P main (G {fm F q k with mode:=.returning}<|c::cs) w=aR (G (c.finish v) cs) u (seen P F es):=by simp[G,Ù,dr,doReturn,fm,Frame.at,base,a,b,Ź,-ź]
def LS.mj(hz:mZ P)(hb:Y.C=P.globals.size)(hG:∀g,X g->Y g g){s s1 s':St}(h:LS P s u s1 W)(hs:Io Y s s')(ok:lC P X l s)(n:iX Y d u w)(hl:∀j,d j->j<w.heap.size)(Q:Ca u W)(main:Bool)(cs:List Ę): iO P Y d main cs s' u w s1 W:=by
 let⟨f',r,k',ret',p⟩:=s';let⟨S,m,T,e3,q⟩:=hs;simp only at S T e3 m q;subst S T e3;cases h with
 |oC=>exact .r (s1':=⟨_,r,_,É,p⟩) n (by simp[St.r,fm,base,G,Ù,Ì,Frame.at]) ⟨U,m,U,U,q⟩
 |uE=>exact .r (s1':=⟨_,r,_,É,p⟩) n (by simp[St.r,fm,base,G,Ù,Ì,Frame.at]) ⟨U,m,U,U,q⟩
 |rU=>exact .r (s1':=⟨_,r,_,Ã,p⟩) n (by simp[St.r,fm,base,G,Ù,Ì,Frame.at]) ⟨U,m,U,U,q⟩
 |vx=>exact .r (s1':=⟨_,r,_,Ã,p⟩) n (by simp[St.r,fm,base,G,Ù,Ì,Frame.at]) ⟨U,m,U,U,q⟩
 |xE=>exact .r (s1':=⟨_,r,_,Ã,p⟩) n (by simp[St.r,fm,base,G,Ù,Ì,Frame.at]) ⟨U,m,U,U,q⟩
 |uF=>exact .r (s1':=⟨_,r,_,Ã,p⟩) n (by simp[St.r,fm,base,G,Ù,Ì,Frame.at]) ⟨U,m,U,U,q⟩
 |qH=>exact .r (s1':=⟨_,r,_,Ã,p⟩) n (by simp[St.r,fm,base,G,Ù,Ì,Frame.at]) ⟨U,m,U,U,q⟩
 |@sW _ _ _ _ _ c _ _ b hc'=>
  have V:=vF hG m (by cases xF ok.fT with|sW Q _ _=>exact Q);rw[hc']at V;have e:å ⟨r,[]⟩ c=Ľ b:=by generalize å ⟨r,[]⟩ c=v' at V;cases V;rfl
  exact .r (s1':=⟨_,r,_,Ã,p⟩) n (cD e) ⟨U,m,U,U,q⟩
 |qI=>exact .r (s1':=⟨_,r,_,Ã,p⟩) n (by simp[St.r,fm,base,G,Ù,Ì,Frame.at]) ⟨U,m,U,U,q⟩
 |vy=>exact .r (s1':=⟨_,r,_,Ã,p⟩) n (by simp[St.r,fm,base,G,Ù,Ì,Frame.at]) ⟨U,m,U,U,q⟩
 |vz=>exact .r (s1':=⟨_,r,_,Ã,p⟩) n (by simp[St.r,fm,base,G,Ù,Ì,Frame.at]) ⟨U,m,U,U,q⟩
 |vA=>exact .r (s1':=⟨_,r,_,Ã,p⟩) n (by simp[St.r,fm,base,G,Ù,Ì,Frame.at]) ⟨U,m,U,U,q⟩
 |vB B=>exact .r (s1':=⟨_,r,_,Ã,p⟩) n (by simp[St.r,fm,base,G,Ù,Ì,Frame.at,B]) ⟨U,m,U,U,q⟩
 |vC B=>exact .r (s1':=⟨_,r,_,Ã,p⟩) n (by simp[St.r,fm,base,G,Ù,Ì,Frame.at,B]) ⟨U,m,U,U,q⟩
 |sX=>exact .r (s1':=⟨_,r,_,Ã,p⟩) n (by simp[St.r,fm,base,G,Ù,Ì,Frame.at]) ⟨U,m,U,U,q⟩
 |@zL f t k L _ id ops=>
  refine⟨Y,⟨f,r,á ops (bL (P.follows .mixedOrders) ops<|w.tape w.drawn<|.order f id)::k,Ã,p⟩,{w with drawn:=w.drawn+1},#[],Ż,⟨U,m,?_,U,q⟩,fi.M _,λ_ _ h=>Ç h,⟨n.S,by simp[n.N],n.C,n.I,n.M,n.r⟩,⟨ß _,U,U,U,λ_ _ _=>rfl,λ_ _ _=>rfl⟩,λe B=>absurd B fg,ß _⟩;simp only[n.S,n.N]
 |E3=>exact .r (s1':=⟨_,r,_,Ã,p⟩) n (by simp[St.r,fm,base,G,Ù,Ì,Frame.at]) ⟨U,m,U,U,q⟩
 |@Ce f t k L _ ops i rest o ho hw=>
  rw[Ia _ _ m]at hw;have:=υ (P:=P) (main:=main) (b:=base f) (a:=⟨r,[]⟩) (k:=k) (cs:=p.map (λx=>fm x.1 x.2.1 x.2.2)++cs) (w:=w) (rest:=rest) ho hw;rw[rX]at this;exact .r (s1':=⟨f,oE r o.dst ľ,á ops rest::k,Ã,p⟩) n this ⟨U,oE.r m _<|EW Y,U,U,q⟩
 |@na f t k L _ ops i rest o v _ ho hw hr=>
  rw[Ia _ _ m]at hw;let⟨C,x',E,es,z,F,D,H,I,J,K,M⟩:=(oH ok.fT _<|Û ho).mj hz hb hG m n hl hr Q;let⟨N,O⟩:=Iq D;cases H with
  |na V=>
   have:=bz (main:=main) (b:=base f) (k:=k) (cs:=p.map (λx=>fm x.1 x.2.1 x.2.2)++cs) (rest:=rest) ho hw (by simp[base]) N;rw[rX]at this;rename_i v';exact⟨C,⟨f,oE r o.dst v',á ops rest::k,Ã,p⟩,E,_,this,⟨U,oE.r (m.I z) _ V,U,U,Ip z q⟩,z,F,I,J,λe B=>K e (by have:=cE B;rwa[O]at this),M⟩
 |@zM f t k L _ ops i rest o _ ho hw hr=>
  rw[Ia _ _ m]at hw;let⟨C,x',E,es,z,F,D,H,I,J,K,M⟩:=(oH ok.fT _<|Û ho).mj hz hb hG m n hl hr Q;let⟨N,O⟩:=Iq D;cases H with
  |rU=>
   have:=cF (main:=main) (b:=base f) (k:=k) (cs:=p.map (λx=>fm x.1 x.2.1 x.2.2)++cs) (rest:=rest) ho hw (by simp[base]) N;rw[rX]at this;exact⟨C,⟨f,oE r o.dst ľ,á ops rest::k,Ã,p⟩,E,_,this,⟨U,oE.r (m.I z) _<|EW C,U,U,Ip z q⟩,z,F,I,J,λe B=>K e (by have:=cE B;rwa[O]at this),M⟩
 |@rV f t k L _ ops i rest o g args fn c _ ho hw hr hf Ir=>
  rw[Ia _ _ m]at hw;let⟨C,x',E,es,z,F,D,H,I,J,K,M⟩:=(oH ok.fT _<|Û ho).mj hz hb hG m n hl hr Q;let⟨N,O⟩:=Iq D;cases H with
  |rV _ rZ=>
   have:=bA (main:=main) (b:=base f) (k:=k) (cs:=p.map (λx=>fm x.1 x.2.1 x.2.2)++cs) (rest:=rest) ho hw (by simp[base]) N;rw[cG _ hf Ir]at this;rename_i U3;refine⟨C,⟨g,U3++ĺ (fn.ntmps-U3.size) ľ,[Đ c],Ã,(f,r,á ops (i::rest)::k)::p⟩,E,_,this,⟨U,?_,U,U,.vt ⟨U,m.I z,U⟩ (Ip z q)⟩,z,F,I,J,λe B=>K e (by have:=cE B;rwa[O]at this),M⟩;rw[rZ.r];exact rZ.sR<|U1 _
 |@Cf f t k L _ ops i rest ho=>exact .r (s1':=⟨f,r,á ops rest::k,Ã,p⟩) n (by simp[St.r,fm,base,G,Ù,Ì,Frame.at,ho,aS]) ⟨U,m,U,U,q⟩
 |@vD f t k L _ g t2' ops i rest k3 v fn _ hf hr=>
  cases q with
  |vt hx q=>
   rename_i y U4;let⟨g',t2,k2⟩:=y;let⟨S,Is,T⟩:=hx;simp only at S T Is;subst S T;let⟨C,v',E,es,z,F,D,H,I,J,K,M⟩:=(U2 fn m).fY n hl hr #[];let⟨N,O⟩:=Iq D;refine⟨C,⟨g,oE t2 ((ops[i]?).bind (·.dst)) v',á ops rest::k3,Ã,U4⟩,E,seen P f es,?_,⟨U,oE.r (Is.I z) _ H,U,U,Ip z q⟩,z,F,I,J,λe B=>K e<|mem_seen B,M⟩;have zO:=ε (base g) ⟨t2,[]⟩ ops i rest k3 v';rw[rX]at zO;have mI:=E4 (main:=main) (k:=k) (c:=fm g t2<|á ops (i::rest)::k3) (cs:=U4.map (λx=>fm x.1 x.2.1 x.2.2)++cs) hf D;unfold fm at mI;rwa[zO,Ď]at mI
end
inductive o5(P:Õ)(kI:Â->Æ->Prop):St->Æ->Prop
 |jz {f:à} {t:Array Â} {k:List ś} {u:Æ} {fn:Func} {v:Â} (hf:P.funcs[f]?=À fn) (hr:∀tp d,(Ī fn t).run P {u with tape:=tp,drawn:=d}=ĥ v {u with tape:=tp,drawn:=d}) (hp:kI v u):o5 P kI ⟨f,t,k,É,[]⟩ u
 |jA {s:St} {u:Æ} (S:ψ->Nat->St) (U:ψ->Nat->Æ) (h:∀tp d,LS P s {u with tape:=tp,drawn:=d} (S tp d)<|U tp d) (hc:∀tp d,Ca u<|U tp d) (ih:∀tp d,o5 P kI (S tp d)<|U tp d):o5 P kI s u
structure xG(M:Nat->Prop)(w w₁:Æ):Prop where
 r:w.heap.size<=w₁.heap.size
 C:∀j,M j->w₁.heap[j]?=w.heap[j]?
def It(O b:Nat->Prop)(e:ý):Prop:=
 (∃a:Ú,e.loc=û a/\e.sync=Ã/\(O a.block\/(b a.block/\e.write=Ã)))\/e.loc=ů c9\/∃f,e.loc=ů (.extern f)
structure Iu(Rd O O':Nat->Prop)(w w':Æ)(es:Array ý):Prop where
 r:w.heap.size<=w'.heap.size
 M:∀j,O j->O' j
 I:∀j,O' j->O j\/w.heap.size<=j
 fl:∀j,O' j->j<w'.heap.size
 jF:∀j,j<w.heap.size->¬O j->w'.heap[j]?=w.heap[j]?
 N:w'.os=w.os
 S:w'.output=w.output
 Y:w'.tape=w.tape
 C:∀e∈es,It O' Rd e
inductive uG(P:Õ)(main:Bool)(Rd:Nat->Prop)(Stop:(Nat->Prop)->Ó->Æ->Prop):(Nat->Prop)->Ó->Æ->Prop
 |fu {O:Nat->Prop} {g:Ó} {w:Æ} (h:∀w₁,xG (λj=>O j\/Rd j) w w₁->Stop O g w₁):uG P main Rd Stop O g w
 |jA {O:Nat->Prop} {g:Ó} {w:Æ} (G':Æ->Ó) (W':Æ->Æ) (E':Æ->Array ý) (O':Æ->Nat->Prop) (iB:g.status=Ð)
  (h:∀w₁,xG (λj=>O j\/Rd j) w w₁->Ù P main g w₁=aR (G' w₁) (W' w₁) (E' w₁))
  (hd:∀w₁,xG (λj=>O j\/Rd j) w w₁->Iu Rd O (O' w₁) w₁ (W' w₁) (E' w₁))
  (ih:∀w₁,xG (λj=>O j\/Rd j) w w₁->uG P main Rd Stop (O' w₁) (G' w₁) (W' w₁)):uG P main Rd Stop O g w
instance:Nonempty fi:=⟨⟨λ_ _=>False,0⟩⟩
instance:Nonempty St:=⟨⟨0,#[],[],Ã,[]⟩⟩
instance:Nonempty (Goroutine×World×Array Event×(Nat->Prop)):=⟨(default,default,#[],λ_=>False)⟩
section
variable{Y:fi}{b Rd:Nat->Prop}{l:à->Prop}{main:Bool}{Stop:(Nat->Prop)->Ó->Æ->Prop}
def uG.mk(i:g.status=Ð) (h:∀a,xG (λj=>X j\/Rd j) w a->∃c b d e,Ù P main g a=aR c b d/\Iu Rd X e a b d/\uG P main Rd Stop e c b):uG P main Rd Stop X g w:=by
 let p:=λ(a:Æ) (x:Goroutine×World×Array Event×(Nat->Prop))=>Ù P main g a=aR x.1 x.2.1 x.2.2.1/\Iu Rd X x.2.2.2 a x.2.1 x.2.2.1/\uG P main Rd Stop x.2.2.2 x.1 x.2.1
 have f:∀a,xG (λj=>X j\/Rd j) w a->p a (Classical.epsilon<|p a):=λa r=>Classical.epsilon_spec (let⟨c,b,d,e,h⟩:=h a r;⟨(c,b,d,e),h⟩);exact .jA (λa=>(Classical.epsilon<|p a).1) (λa=>(Classical.epsilon<|p a).2.1) (λa=>(Classical.epsilon<|p a).2.2.1) (λa=>(Classical.epsilon<|p a).2.2.2) i (λa r=>(f a r).1) (λa r=>(f a r).2.1) λa r=>(f a r).2.2
def qL(Y:fi)(b:Nat->Prop)(u w:Æ):Prop:=iX Y b {u with tape:=w.tape,drawn:=w.drawn} w
def fh(Y:fi)(b:Nat->Prop)(j:Nat):Prop:=(∃i,Y i j)/\¬b j
theorem qL.jM{w₁:Æ}(h:qL Y b u w)(p:∀i j,Y i j->b j->Rd j)(r:xG (λj=>fh Y b j\/Rd j) w w₁):qL Y b u w₁:=by
 refine⟨U,U,h.C,h.I,õ h.M r.r,λi j a=> ?_⟩;let⟨c,d,e,f,g,k,l,m,n,o⟩:=h.r i j a;refine⟨c,d,e,f,g,k,?_,m,n,o⟩;rw[r.C j ?_]
 .exact l
 .by_cases s:b j
  .grind
  .exact Ç ⟨⟨i,a⟩,s⟩
def iX.to0(h:iX Y b u w):qL Y b u w:=⟨U,U,h.C,h.I,h.M,h.r⟩
def iX.uH(h:iX Y b u w)(tp:ψ)(d:Nat):qL Y b {u with tape:=tp,drawn:=d} w:=⟨U,U,h.C,h.I,h.M,h.r⟩
theorem adl{c:fi}(k:∀i j,c i j->b j->Rd j){e:ý}(h:zD c b e):It (fh c b) Rd e:=by
 rcases h with⟨a,i,d,f,g,l⟩|h|h
 .by_cases s:b a.block
  .refine Ç ⟨a,d,g,Î ⟨k _ _ f s,?_⟩⟩;grind
  .exact Ç ⟨a,d,g,Ç ⟨⟨i,f⟩,s⟩⟩
 .exact Î<|Ç h
 .exact Î<|Î h
def U5{c:fi}(f:Y.r c)(g:∀i j,c i j->Y i j\/(u.heap.size<=i/\w.heap.size<=j))(k:iX c b W jX)(d:mY Y b w jX)(l:∀e∈V,zD c b e)(m:∀i j,c i j->b j->Rd j): Iu Rd (fh Y b) (fh c b) w jX V where
 r:=d.r;M j h:=⟨let⟨i,a⟩:=h.1;⟨i,f.1 _ _ a⟩,h.2⟩;I j h:=by
  let⟨⟨i,a⟩,s⟩:=h;rcases g i j a with x|x
  .exact Ç ⟨⟨i,x⟩,s⟩
  .exact Î x.2
 fl j h:=by let⟨⟨i,a⟩,_⟩:=h;let⟨_,_,_,_,_,_,x,_⟩:=k.r i j a;exact(Ë.1 x).1
 jF j hj hn:=by
  by_cases x:∃i,Y i j
  .by_cases s:b j
   .exact d.N j s hj
   .exact absurd ⟨x,s⟩ hn
  .exact d.C j hj λi a=>x ⟨i,a⟩
 N:=d.I;S:=d.M;Y:=d.S;C e he:=adl m<|l e he
def E5(Y:fi)(b:Nat->Prop)(f:Â->Æ->Prop)(c:Ę)(h:List Ę)(O:Nat->Prop)(g:Ó)(w:Æ):Prop:=
 ∃(a:fi) (d:Æ) (v e:Â),Y.r a/\O=fh a b/\qL a b d w/\ff a v e/\f v d/\g=G (c.finish e) h
def o5.MQ(hz:mZ P)(hP:oG P X l){s:St}(h:o5 P vQ s u):∀{Y E6:fi} {s':St} {w:Æ},E6.r Y->Y.C=P.globals.size->(∀g,X g->Y g g)->Io Y s s'->lC P X l s->qL Y b u w->(∀j,b j->j<w.heap.size)->(∀i j,Y i j->b j->Rd j)->∀(c:Ę) (cs:List Ę),uG P main Rd (E5 E6 b vQ c cs) (fh Y b) (s'.r<|c::cs) w:=by
 have hE:∀o a u f F G,mh P X l o->(ì (å a) o).run P u=ĥ (ũ f F) G->l f:=by exact λo a u f F G d H=>d.C a u f F G H
 induction h with
 |@jz f t k u fn v hf H hp=>
  intro Y E6 s' w I J K L M N O n c cs;let⟨f',t',k',ret',L'⟩:=s';let⟨V,W,e2,e3,hL⟩:=L;simp only at V e2 e3 W hL;subst V e2 e3;cases hL;refine .mk rfl λp r=> ?_;have d:=λj s=>Ô (O j s) r.r;let⟨z,v',w',es,B,C,m,D,q,E,Q,h8⟩:=(U2 fn W).fY (N.jM n r) d (H _ _) #[];have y:=λi j T s=>(C i j T).elim (λx=>n i j x s) λx=>absurd (d j s) Z;refine⟨_,w',_,fh z b,E4 hf m,U5 B C q E (λe he=>Q e (by have:=mem_seen he;simpa using this)) y,.fu λxH e=>⟨z,u,v,v',fi.I I B,rfl,qL.jM (q.uH _ _) y e,D,hp,rfl⟩⟩
 |@jA s u S U h hc _ ih=>
  intro Y E6 s' w I J K L M N O n c cs;refine .mk rfl λp r=> ?_;have d:=λj s=>Ô (O j s) r.r;let⟨z,H,e,es,B,C,m,D,q,E,Q,h8⟩:=(h p.tape p.drawn).mj hz J K L M (N.jM n r) d (hc p.tape p.drawn) main<|c::cs;have y:=λi j T s=>(D i j T).elim (λx=>n i j x s) λx=>absurd (d j s) Z;refine⟨_,e,es,fh z b,B,U5 m D q E Q y,ih _ _ (fi.I I m) (m.2.2.trans J) (λg x=>m.1 _ _<|K g x) C ((h _ _).ok hP hE M) q.to0 (λj s=>Ô (d j s) E.r) y c cs⟩
end
def o6:Ę:={(default:Ę)with fn:=0,todo:=[Đ<|dq ""],defers:=[{target:=.nil,args:=#[]}],mode:=.run,kind:=.normal}
def St.I(s:St):Ę:=if s.C then{fm s.f s.t s.k with mode:=.returning}else fm s.f s.t s.k
def fl(L:List (FuncId×Array Value×List ś)):List Ę:=L.map (λx=>fm x.1 x.2.1 x.2.2)++[o6]
def LM(s:St)(u:Æ):bQ:=aT s.I (fl s.L) u
section
variable{GL:Nat->Prop}{eY:à->Prop}{Q:Â->Æ->Prop}
def Ch{cs:List Ę}{a:Ę}{es:Array ý}(h:Ù P É (G f cs) w=aR (G a qX) u es):dO P (aT f cs w)=ň (aT a qX u):= step_lone_go<|by show(Ù P É (G f cs) w).bare=_;rw[h];rfl
def Iv{fr:Ę}{cs:List Ę}{o:Outcome}{es:Array ý}(h:Ù P É (G fr cs) w=eR o u es):dO P (aT fr cs w)=.ended o u:= step_lone_ended<|by show(Ù P É (G fr cs) w).bare=_;rw[h];rfl
def ml(P:Õ)(Q:Â->Æ->Prop)(n:Nat)(m:bQ):Prop:=∃b v a,dt P n m=ň (aT b [o6] a)/\b.leaving P a (.returned v)/\Q v a
def ml.r{m a:bQ}(h:ml P Q (n+1) m)(b:dO P m=ň a):ml P Q n a:=by let⟨c,v,d,e,f⟩:=h;exact⟨c,v,d,by simpa only[dt,b]using e,f⟩
def ml.M{m:bQ}{o:Outcome}(h:ml P Q (n+1) m)(b:dO P m=.ended o w):False:=by let⟨c,v,d,a,e⟩:=h;simp only[dt,b]at a;cases a
theorem U6{fr:Ę}{cs:List Ę}(h:aT fr cs w=aT f qX u):fr=f/\cs=qX/\w=u:=by simp only[aT,Machine.mk.injEq,Array.mk.injEq,List.cons.injEq,Goroutine.mk.injEq]at h;grind
theorem ml.C{cs:List Ę}(h:ml P Q 0 (aT f cs w)):cs=[o6]/\∃v,f.leaving P w (.returned v)/\Q v w:=by let⟨b,v,c,a,d,e⟩:=h;simp only[dt,Stepped.next.injEq]at a;grind [U6]
def adn(h:ml P Q n (aT o6 [] u)):False:=by
 cases n with
 |zero=>let⟨a,_⟩:=h.C;cases a
 |succ n=>exact h.M<|Iv (es:=#[])<|by simp[G,Ù,Ì,o6];exact⟨U,U⟩
def ado{a:List eb}(h:ml P Q n (aT (o6.raise a) [] u)):False:=by
 cases n with
 |zero=>let⟨b,_⟩:=h.C;cases b
 |succ n=>exact h.M<|Iv (es:=#[])<|by simp[G,Ù,o6,Ŗ,dr,callDeferred];exact⟨U,U⟩
def adp(b:List eb):∀(L:List (FuncId×Array Value×List ś)) (f:à) (t:Array Â) (k:List ś) (u:Æ) (n:Nat),(∃a,P.funcs[f]?=À a)->(∀x∈L,∃a,P.funcs[x.1]?=À a)->¬ml P Q n (aT ((fm f t k).raise b) (fl L) u):=by
 intro L
 induction L with
 |nil=>
  intro f t k u n ⟨a,c⟩ _ h;cases n with
  |zero=>let⟨_,v,y,_⟩:=h.C;exact absurd y.1<|by simp[Ŗ,fm,Frame.at]
  |succ n=>
   have d:dO P (aT ((fm f t k).raise b) (fl []) u)=ň (aT (o6.raise b) [] u):=Ch (es:=#[]) (by simp[G,Ù,fm,base,Frame.at,Ŗ,dr,cT,c,fl]);exact ado<|h.r d
 |cons x L e=>
  intro f t k u n ⟨a,c⟩ d h;cases n with
  |zero=>let⟨_,v,y,_⟩:=h.C;exact absurd y.1<|by simp[Ŗ,fm,Frame.at]
  |succ n=>
   exact e x.1 x.2.1 x.2.2 u n (d x<|î ..) (λy v=>d y<|ò _ v)<|h.r<|Ch (es:=#[])<|by simp[G,Ù,fm,base,Frame.at,Ŗ,dr,cT,c,fl]
structure Ok(P:Õ)(GL:Nat->Prop)(eY:à->Prop)(s:St):Prop where
 r:lC P GL eY s
 I:eY s.f
 C:∀x∈s.L,eY x.1/\∃ops i rest k,x.2.2=á ops (i::rest)::k
def sY(P:Õ)(eY:à->Prop):Prop:=∀f,eY f->∃a c,P.funcs[f]?=À a/\a.body=À c
theorem MR{t:Array Â}:fx P (Ī s t):=by unfold Ī;grind [fZ,Up,gy,Uh,Ud]
def adq(k:jT P xX o.op){n:Ο}(d:(ì xX o).run P u=ĥ n W):(∃v,n=ï v)\/n=aG\/∃f c,n=ũ f c:=by
 have i:∀{m:ē Â} {x:Ο} {j l:Æ},(m>>=λv=>pure (ï v):ē Ο).run P j=ĥ x l->∃v,x=ï v:=by
  intro m x j l e;rw[Ä]at e;cases g:m.run P j with
  |ok a w=>rw[g]at e;cases e;exact⟨a,U⟩
  |halt z w=>rw[g]at e;cases e
 let⟨p,e,q,s,B,guard⟩:=o;simp only at k;unfold ì at d;simp only[]at d;cases k with
 |zH x=>cases d;exact Ç ⟨_,U⟩
 |EP x=>cases d;exact Ç ⟨_,U⟩
 |vu c a b=>
  rw[Ä]at d;cases g:(bV<|xX c).run P u with
  |ok a w=>rw[g]at d;cases d;exact Ç ⟨_,U⟩
  |halt z w=>rw[g]at d;cases d
 |iT t a x=>
  rw[Ä]at d;cases g:(ĳ t (xX a)<|xX x).run P u with
  |ok a w=>rw[g]at d;cases d;exact Î<|Ç U
  |halt z w=>rw[g]at d;cases d
 |ER x=>
  simp only[]at d;split at d;all_goals first
   |(cases d;exact Ç ⟨_,U⟩)
   |exact absurd d<|qE _ _ _ _
   |(
    split at d;all_goals first
     |(cases d;exact Ç ⟨_,U⟩)
     |exact absurd d<|qE _ _ _ _
     |(
      rw[Ä,ă]at d;simp only[È]at d;rw[Ä]at d;revert d;generalize ã P (aQ _ _ _ _) u=z;intro d;cases z with
      |halt z w=>cases d
      |ok a w=>
       simp only[È]at d;split at d
       .rw[Ä]at d;cases d
       .cases d;exact Ç ⟨_,U⟩))
 |ES x a=>simp only[ù,č,Ē,pure_bind,Ø,â,ä]at d;exact Ç<|i d
 |EU x a=>simp only[ù,č,Ē,pure_bind,Ø,â,ä]at d;exact Ç<|i d
 |EV x y a=>simp only[ù,č,Ē,pure_bind,Ø,â,ä]at d;exact Ç<|i d
 |sR x y b g h=>simp only[ù,č,Ē,pure_bind,Ø,â,ä]at d;exact Ç<|i d
 |jy g C a b h=>
  let⟨D,r,w,z⟩:=h;simp only[ù,b,İ,č,pure_bind,Ď,ď,ĵ]at d;rw[Ä,ă]at d;simp only[È,r,w,z,Å,if_false]at d;cases d;exact Î<|Î ⟨_,_,U⟩
 |Cc e t x y r h=>exact Ç<|i d
 |_=>exact Ç<|i d
def ml.I(_hP:oG P GL eY)(hF:sY P eY){n:Nat}{s:St}{u:Æ}(ok:Ok P GL eY s)(hu:pT u)(h:ml P Q n (LM s u)): (n=0/\s.C=É/\s.L=[]/\∃fn v,P.funcs[s.f]?=À fn/\(Ī fn s.t).run P u=ĥ v u/\Q v u)\/∃m s' u',n=m+1/\LS P s u s' u'/\ml P Q m (LM s' u'):=by
 let⟨f,t,k,ret,L⟩:=s;let⟨⟨top,lw⟩,fs,ls⟩:=ok;simp only at top lw fs ls;let⟨fn,c,hfn,hbody⟩:=hF f fs;cases n with
 |zero=>
  let⟨h1,v,h2,h3⟩:=h.C;have hL:L=[]:=by simp only[fl]at h1;simp_all
  subst hL;let⟨m1,_,_,fn',m4,m5⟩:=h2;have adr:ret=É:=by
   cases ret with
   |true=>rfl
   |false=>simp[St.I,fm,Frame.at]at m1
  subst adr;exact Ç ⟨U,U,U,fn',v,m4,m5,h3⟩
 |succ n=>
  have go:∀{s':St} {u':Æ},LS P ⟨f,t,k,ret,L⟩ u s' u'->(∃es,Ù P É ((⟨f,t,k,ret,L⟩:St).r [o6]) u=aR (s'.r [o6]) u' es)->(n+1=0/\ret=É/\L=[]/\∃fn v,P.funcs[f]?=À fn/\(Ī fn t).run P u=ĥ v u/\Q v u)\/∃m s' u',n+1=m+1/\LS P ⟨f,t,k,ret,L⟩ u s' u'/\ml P Q m (LM s' u'):=by intro s' u' hl ⟨es,he⟩;exact Î ⟨n,s',u',U,hl,h.r<|Ch he⟩
  have bad:(∃o w es,Ù P É ((⟨f,t,k,ret,L⟩:St).r [o6]) u=eR o w es)->False:=λ⟨_,_,_,he⟩=>h.M<|Iv he;cases ret with
  |true=>
   cases hr:(Ī fn t).runT P u #[]with
   |mk r es=>
    cases r with
    |halt z w=>
     refine absurd ?_ id;cases z<;>exact bad ⟨_,_,_,by simp[St.r,fm,base,G,Ù,dr,Frame.at,hfn,hr,Ź,-ź];exact⟨U,U,U⟩⟩
    |ok v u'=>
     cases L with
     |nil=>
      exact absurd (h.r<|Ch<|E4 hfn hr) adn
     |cons x L=>
      let⟨g,t',k'⟩:=x;let⟨_,ops,i,rest,k2,e⟩:=ls _<|î ..;simp only at e;subst e;refine go (.vD hfn (by rw[<-Ρ P (Ī fn t) u #[],hr])) ⟨seen P f es,?_⟩;have mI:=E4 (main:=É) (k:=k) (c:=fm g t'<|á ops (i::rest)::k2) (cs:=fl L) hfn hr;have zO:=ε (base g) ⟨t',[]⟩ ops i rest k2 v;rw[rX]at zO;unfold fm at mI;rwa[zO]at mI
  |false=>
   cases k with
   |nil=>exact go .oC ⟨_,by simp[St.r,fm,base,G,Ù,Ì,Frame.at];rfl⟩
   |cons it k=>
    have ti:=top it<|î ..;cases ti with
    |xE id=>exact go .xE ⟨_,by simp[St.r,fm,base,G,Ù,Ì,Frame.at];rfl⟩
    |uF _=>exact go .uF ⟨_,by simp[St.r,fm,base,G,Ù,Ì,Frame.at];rfl⟩
    |vz _=>exact go .vz ⟨_,by simp[St.r,fm,base,G,Ù,Ì,Frame.at];rfl⟩
    |qK hc=>
     cases hc with
     |uE=>exact go .uE ⟨_,by simp[St.r,fm,base,G,Ù,Ì,Frame.at];rfl⟩
     |rU=>exact go .rU ⟨_,by simp[St.r,fm,base,G,Ù,Ì,Frame.at];rfl⟩
     |vx l=>exact go .vx ⟨_,by simp[St.r,fm,base,G,Ù,Ì,Frame.at];rfl⟩
     |qH hx hy=>exact go .qH ⟨_,by simp[St.r,fm,base,G,Ù,Ì,Frame.at];rfl⟩
     |qI id _=>exact go .qI ⟨_,by simp[St.r,fm,base,G,Ù,Ì,Frame.at];rfl⟩
     |vy _=>exact go .vy ⟨_,by simp[St.r,fm,base,G,Ù,Ì,Frame.at];rfl⟩
     |vA _=>exact go .vA ⟨_,by simp[St.r,fm,base,G,Ù,Ì,Frame.at];rfl⟩
     |oF U0=>exact(bad ⟨_,_,_,by simp[St.r,fm,base,G,Ù,Ì,Frame.at];exact⟨U,U,U⟩⟩).elim
     |vB id=>
      cases he:cB id k with
      |none=>exact(bad ⟨_,_,_,by simp[St.r,fm,base,G,Ù,Ì,Frame.at,he];exact⟨U,U,U⟩⟩).elim
      |some k'=>exact go (.vB he) ⟨_,by simp[St.r,fm,base,G,Ù,Ì,Frame.at,he];rfl⟩
     |vC l=>
      cases he:cC l k with
      |none=>exact(bad ⟨_,_,_,by simp[St.r,fm,base,G,Ù,Ì,Frame.at,he];exact⟨U,U,U⟩⟩).elim
      |some k'=>exact go (.vC he) ⟨_,by simp[St.r,fm,base,G,Ù,Ì,Frame.at,he];rfl⟩
     |@sW c x y _ _ _=>
      by_cases hb:∃b,å ⟨t,[]⟩ c=Ľ b
      .let⟨b,hb⟩:=hb;exact go (.sW hb) ⟨_,cD hb⟩
      .refine(bad ⟨.stuck "cond: bool expected" ((fm f t<|Đ (bx c x y)::k).pos P),u,#[],?_⟩).elim;have TW:(fm f t<|Đ (bx c x y)::k).eval c=å ⟨t,[]⟩ c:=Frame.eval_at _ _ _ _;have hx:Ù P É (G (fm f t<|Đ (bx c x y)::k)<|fl L) u=(match(fm f t<|Đ (bx c x y)::k).eval c with
        |Ľ b=>aR (G (fm f t<|Đ (if b then x else y)::k)<|fl L) u
        |_=>eR (.stuck "cond: bool expected" ((fm f t (Đ (bx c x y)::k)).pos P)) u):=by
        simp only[G,Ù,Ì,fm,Frame.at];rfl
       refine hx.trans ?_;rw[TW];generalize å ⟨t,[]⟩ c=v at hb;cases v<;>first|exact absurd ⟨_,U⟩ hb|rfl
     |sX id draw _=>
      cases draw with
      |false=>exact go .sX ⟨_,by simp[St.r,fm,base,G,Ù,Ì,Frame.at];rfl⟩
      |true=>exact go .zL ⟨_,Ż⟩
    |vE is hO=>
     rename_i ops;cases is with
     |nil=>exact go .E3 ⟨_,by simp[St.r,fm,base,G,Ù,Ì,Frame.at];rfl⟩
     |cons i rest=>
      cases ho:ops[i]? with
      |none=>exact go (.Cf ho) ⟨_,by simp[St.r,fm,base,G,Ù,Ì,Frame.at,ho,aS];rfl⟩
      |some o=>
       cases hw:Ħ o (ł ops t)with
       |false=>
        have:=υ (P:=P) (main:=É) (b:=base f) (a:=⟨t,[]⟩) (k:=k) (cs:=fl L) (w:=u) (rest:=rest) ho hw;rw[rX]at this;exact go (.Ce ho hw) ⟨_,this⟩
       |true=>
        have oo:=hO o<|Û ho;have E7:=stepG_oper (P:=P) (main:=É) (b:=base f) (a:=⟨t,[]⟩) (k:=k) (cs:=fl L) (w:=u) (rest:=rest) ho hw;cases hr:(ì (å ⟨t,[]⟩) o).runT P u #[]with
        |mk r es=>
         have oB:(ì (å ⟨t,[]⟩) o).run P u=r:=by rw[<-Ρ P _ u #[],hr]
         cases r with
         |halt z w=>
          have hz:=((oo.r ⟨t,[]⟩).1 u hu).2 z w oB;cases z with
          |panic v=>
           have hs:dO P (LM ⟨f,t,á ops (i::rest)::k,Ã,L⟩ u)=ň (aT ((fm f t<|á ops (i::rest)::k).raise [{v,recovered:=Ã}]) (fl L) w):= Ch (es:=seen P f es) (E7.trans<|by simp[bB,hr,G,Frame.at,fm,base,Ź,Ŗ,-ź]);exact absurd (h.r hs) (adp _ L f t _ w n ⟨fn,hfn⟩ λx hx=>let⟨fn',_,h1,_⟩:=hF x.1 (ls x hx).1;⟨fn',h1⟩)
          |stuck s=>exact(bad ⟨_,_,_,E7.trans<|by simp[bB,hr,Frame.at,base,Ź,-ź];exact⟨U,U,U⟩⟩).elim
          |unsupported un=>
           cases un<;>first|(cases hz;done)|exact(bad ⟨_,_,_,E7.trans<|by simp[bB,hr,Frame.at,base,Ź,-ź];exact⟨U,U,U⟩⟩).elim
          |_=>cases hz
         |ok nx u'=>
          rcases oo.I ⟨t,[]⟩ u nx u' oB with⟨v,rfl⟩|rfl|⟨g,args,rfl⟩
          .have:=bz (main:=É) (b:=base f) (k:=k) (cs:=fl L) (rest:=rest) ho hw (by simp[base]) oB;rw[rX]at this;exact go (.na ho hw oB) ⟨_,this⟩
          .have:=cF (main:=É) (b:=base f) (k:=k) (cs:=fl L) (rest:=rest) ho hw (by simp[base]) oB;rw[rX]at this;exact go (.zM ho hw oB) ⟨_,this⟩
          .let⟨fn',c',h1,h2⟩:=hF g<|oo.C ⟨t,[]⟩ u g args u' oB;have:=bA (main:=É) (b:=base f) (k:=k) (cs:=fl L) (rest:=rest) ho hw (by simp[base]) oB;rw[cG _ h1 h2]at this;exact go (.rV ho hw oB h1 h2) ⟨_,this⟩
end
def jU(u:Æ):Prop:=∀(i:Nat) (o:Obj),u.heap[i]?=À o->¬xD o
def jU.pT(h:jU u):pT u:=λi _ _ a=>h i _ a trivial
def vG(a:Â->Æ->Prop):Prop:=∀v u T D,a v u->a v ((World.tp u T D))
section
variable{GL:Nat->Prop}{eY:à->Prop}{kI:Â->Æ->Prop}
def LS.MQ{s s':St}(h:LS P s u s' W)(cs:List Ę):∃j,Ù P É (s.r cs) u=aR (s'.r cs) W j:=by
 cases h with
 |@sW f t k L _ c x y b hc=>exact⟨_,cD hc⟩
 |vB e=>exact⟨_,by simp[St.r,fm,base,G,Ù,Ì,Frame.at,e];rfl⟩
 |vC e=>exact⟨_,by simp[St.r,fm,base,G,Ù,Ì,Frame.at,e];rfl⟩
 |@zL f t k L _ id ops=>exact⟨_,Ż⟩
 |@Cf f t k L _ ops i rest ho=>exact⟨_,by simp[St.r,fm,base,G,Ù,Ì,Frame.at,ho,aS];rfl⟩
 |@Ce f t k L _ ops i rest o ho hw=>
  have:=υ (P:=P) (main:=É) (b:=base f) (a:=⟨t,[]⟩) (k:=k) (cs:=L.map (λx=>fm x.1 x.2.1 x.2.2)++cs) (w:=u) (rest:=rest) ho hw;rw[rX]at this;exact⟨_,this⟩
 |@na f t k L _ ops i rest o v _ ho hw hr=>
  have:=bz (main:=É) (b:=base f) (k:=k) (cs:=L.map (λx=>fm x.1 x.2.1 x.2.2)++cs) (rest:=rest) ho hw (by simp[base]) hr;rw[rX]at this;exact⟨_,this⟩
 |@zM f t k L _ ops i rest o _ ho hw hr=>
  have:=cF (main:=É) (b:=base f) (k:=k) (cs:=L.map (λx=>fm x.1 x.2.1 x.2.2)++cs) (rest:=rest) ho hw (by simp[base]) hr;rw[rX]at this;exact⟨_,this⟩
 |@rV f t k L _ ops i rest o g args fn c _ ho hw hr hf hb=>
  have:=bA (main:=É) (b:=base f) (k:=k) (cs:=L.map (λx=>fm x.1 x.2.1 x.2.2)++cs) (rest:=rest) ho hw (by simp[base]) hr;rw[cG _ hf hb]at this;exact⟨_,this⟩
 |@vD f t k L _ g t' ops i rest k' v fn _ hf hr=>
  cases l:(Ī fn t).runT P u #[]with
  |mk r j=>
   have e:r=ĥ v W:=by rw[<-hr,<-Ρ P (Ī fn t) u #[],l]
   subst e;have d:=E4 (main:=É) (k:=k) (c:=fm g t'<|á ops (i::rest)::k') (cs:=L.map (λx=>fm x.1 x.2.1 x.2.2)++cs) hf l;have x:=ε (base g) ⟨t',[]⟩ ops i rest k' v;rw[rX]at x;unfold fm at d;rw[x]at d;exact⟨_,d⟩
 |_=>exact⟨_,by simp[St.r,fm,base,G,Ù,Ì,Frame.at];rfl⟩
def LS.uI{s a:St}(h:LS P s u a w):dO P (LM s u)=ň (LM a w):= let⟨_,b⟩:=h.MQ [o6];Ch b
def LS.MS(j:oG P GL eY){s g:St}(h:LS P s u g w)(ok:Ok P GL eY s):Ok P GL eY g:=by
 have i:∀o a u f e w,mh P GL eY o->(ì (å a) o).run P u=ĥ (ũ f e) w->eY f:=by exact λo a u f e w c d=>c.C a u f e w d
 refine⟨h.ok j i ok.r,?_,?_⟩
 .cases h with
  |rV c _ d _ _=>exact i _ _ _ _ _ _ (oH ok.r.fT _<|Û c) d
  |vD=>exact(ok.C _<|î ..).1
  |_=>exact ok.I
 .cases h with
  |rV c _ d _ _=>
   intro x b;rcases œ.1 b with rfl|b
   .exact⟨ok.I,_,_,_,_,U⟩
   .exact ok.C x b
  |vD=>exact λx b=>ok.C x<|ò _ b
  |_=>exact ok.C
def LS.kd{s c:St}{u b:Æ}(h:LS P s u c b)(ok:lC P GL eY s)(a:pT u):Kd u b:=by
 cases h with
 |na k _ i=>exact(((oH ok.fT _<|Û k).r _).1 u a).1 _ _ i
 |zM k _ i=>exact(((oH ok.fT _<|Û k).r _).1 u a).1 _ _ i
 |rV k _ i _ _=>exact(((oH ok.fT _<|Û k).r _).1 u a).1 _ _ i
 |vD _ i=>exact(MR.1 u a).1 _ _ i
 |zL=>exact⟨id,λi o h k=>⟨o,h,k⟩⟩
 |_=>exact Kd.fO u
def LS.ads{s o:St}{u p:Æ}{T:ψ}{D:Nat}(h:LS P s ((World.tp u T D)) o p)(ok:lC P GL eY s):∃n v,p=(World.tp v T<|D+n)/\∀a b,uC T D a b n->LS P s ((World.tp u a b)) o ((World.tp v a<|b+n)):=by
 cases h with
 |na c e g=>
  obtain⟨n,v,i⟩:=((oH ok.fT _<|Û c).r ⟨_,[]⟩).2 u T D;obtain⟨j,l⟩:=i _ _ g;exact⟨n,v,j,λa b d=> .na c e (l a b d)⟩
 |zM c e g=>
  obtain⟨n,v,i⟩:=((oH ok.fT _<|Û c).r ⟨_,[]⟩).2 u T D;obtain⟨j,l⟩:=i _ _ g;exact⟨n,v,j,λa b d=> .zM c e (l a b d)⟩
 |rV c e g m q=>
  obtain⟨n,v,i⟩:=((oH ok.fT _<|Û c).r ⟨_,[]⟩).2 u T D;obtain⟨j,l⟩:=i _ _ g;exact⟨n,v,j,λa b d=> .rV c e (l a b d) m q⟩
 |vD m g=>
  obtain⟨n,v,i⟩:=(MR).2 u T D;obtain⟨j,l⟩:=i _ _ g;exact⟨n,v,j,λa b d=> .vD m (l a b d)⟩
 |@zL f t k L _ id ops=>
  refine⟨1,u,U,λa b d=> ?_⟩;have g:=LS.zL (P:=P) (f:=f) (t:=t) (k:=k) (L:=L) (u:=(World.tp u a b)) (id:=id) (ops:=ops);have i:((World.tp u a b)).tape ((World.tp u a b)).drawn=((World.tp u T D)).tape ((World.tp u T D)).drawn:=d.ll;rwa[i]at g
 |oC=>exact⟨0,u,U,λ_ _ _=> .oC⟩
 |uE=>exact⟨0,u,U,λ_ _ _=> .uE⟩
 |rU=>exact⟨0,u,U,λ_ _ _=> .rU⟩
 |vx=>exact⟨0,u,U,λ_ _ _=> .vx⟩
 |xE=>exact⟨0,u,U,λ_ _ _=> .xE⟩
 |uF=>exact⟨0,u,U,λ_ _ _=> .uF⟩
 |qH=>exact⟨0,u,U,λ_ _ _=> .qH⟩
 |sW h=>exact⟨0,u,U,λ_ _ _=> .sW h⟩
 |qI=>exact⟨0,u,U,λ_ _ _=> .qI⟩
 |vy=>exact⟨0,u,U,λ_ _ _=> .vy⟩
 |vz=>exact⟨0,u,U,λ_ _ _=> .vz⟩
 |vA=>exact⟨0,u,U,λ_ _ _=> .vA⟩
 |vB h=>exact⟨0,u,U,λ_ _ _=> .vB h⟩
 |vC h=>exact⟨0,u,U,λ_ _ _=> .vC h⟩
 |sX=>exact⟨0,u,U,λ_ _ _=> .sX⟩
 |E3=>exact⟨0,u,U,λ_ _ _=> .E3⟩
 |Ce c e=>exact⟨0,u,U,λ_ _ _=> .Ce c e⟩
 |Cf c=>exact⟨0,u,U,λ_ _ _=> .Cf c⟩
def ml.gM(c:oG P GL eY)(hF:sY P eY)(g:∀v u,vQ v u->jU u):∀(n:Nat) {s:St} {u:Æ},Ok P GL eY s->pT u->ml P vQ n (LM s u)->jU u:=by
 intro n
 induction n with
 |zero=>
  intro s u a b h;rcases h.I c hF a b with⟨_,_,_,_,v,_,_,d⟩|⟨m,_,_,e,_⟩
  .exact g v u d
  .cases e
 |succ n j=>
  intro s u a b h;rcases h.I c hF a b with⟨e,_⟩|⟨m,w,x,e,d,k⟩
  .cases e
  .cases e;have f:=d.kd a.r b;intro i o l p;let⟨q,r,t⟩:=f.C i o l p;exact j (d.MS c a) (f.r b) k i q r t
def o5.adt(b:vG kI){s:St}(h:o5 P kI s u)(T:ψ)(D:Nat):o5 P kI s ((World.tp u T D)):=by
 cases h with
 |jz a S c=>exact .jz a S (b _ _ T D c)
 |jA S a h c d=>exact .jA S a h c d
def U7(m:vG kI)(o:∀v u,vQ v u->kI v u){s:St}(c:s.C=É)(b:s.L=[])(e:∃g v,P.funcs[s.f]?=À g/\(Ī g s.t).run P ((World.tp u xQ i))=ĥ v ((World.tp u xQ i))/\vQ v ((World.tp u xQ i))):o5 P kI s u:=by
 obtain⟨f,t,k,z,L⟩:=s;simp only at c b;subst c b;obtain⟨g,v,p,q,r⟩:=e;refine .jz (v:=v) p (λh d=> ?_) ?_
 .obtain⟨n,w,c⟩:=(MR).2 u xQ i;obtain⟨b,e⟩:=c _ _ q;have x:n=0:=by
   have:((World.tp u xQ i)).drawn=((World.tp w xQ<|i+n)).drawn:=by rw[<-b]
   simp only[World.tp]at this;omega
  subst x;have y:(World.tp w h d)=(World.tp u h d):=by
   have a:((World.tp u xQ i)).heap=((World.tp w xQ<|i+0)).heap:=by rw[<-b]
   have j:((World.tp u xQ i)).os=((World.tp w xQ<|i+0)).os:=by rw[<-b]
   have l:((World.tp u xQ i)).output=((World.tp w xQ<|i+0)).output:=by rw[<-b]
   simp only[World.tp]at a j l|-;rw[a,j,l]
  have:=e h d (λa j=>by omega);rwa[show d+0=d from rfl,y]at this
 .have:=m v _ u.tape u.drawn<|o v _ r;exact this
structure Iw where
 s:St
 u:Æ
 D:Nat
 T:ψ
 n:Nat
structure Ix(P:Õ)(GL:Nat->Prop)(eY:à->Prop)(kI:Â->Æ->Prop)(s0:St)(u0:Æ)(x:Iw):Prop where
 ok:Ok P GL eY x.s
 adu:pT x.u
 adv:¬o5 P kI x.s x.u
 nZ:∀T',(∀i,i<x.D->T' i=x.T i)->dt P x.n (LM s0<|(World.tp u0 T' 0))=ň (LM x.s<|(World.tp x.u T' x.D))
def U8{m:bQ}{s:St}{N:Nat}(a:dt P n m=ň (LM s u))(e:ml P vQ N m):∃k,N=n+k/\ml P vQ k (LM s u):=by
 by_cases f:n<=N
 .obtain⟨k,rfl⟩:=Ε f;refine⟨k,U,?_⟩;let⟨g,v,c,b,d⟩:=e;rw[dH,a]at b;exact⟨g,v,c,b,d⟩
 .obtain⟨k,rfl⟩:=Nat.exists_eq_add_of_lt<|Nat.lt_of_not_le f;let⟨g,v,c,b,d,_⟩:=e;rw[show N+k+1=N+(k+1) by omega,dH,b]at a;simp only[dt,step_leave_returned d]at a;cases k with
  |zero=>
   simp only[dt,Stepped.next.injEq]at a;have:=(U6 a).2.1;simp[fl]at this
  |succ k=>
   simp only[dt,(Iv (P:=P) (fr:=o6) (cs:=[]) (w:=c) (es:=#[])<|by simp[G,Ù,Ì,o6];exact⟨U,U⟩)]at a;cases a
theorem MU(f:oG P GL eY)(hF:sY P eY)(t:vG kI)(C:∀v u,vQ v u->jU u)(E:∀v u,vQ v u->kI v u){j:St}(F:∀T,∃n,ml P vQ n<|LM j<|(World.tp w T 0)){x:Iw}(G:Ix P GL eY kI j w x): ∃y:Iw,Ix P GL eY kI j w y/\y.n=x.n+1/\x.D<=y.D/\∀i,i<x.D->y.T i=x.T i:=by
 let⟨s,u,D,T,n⟩:=x;let⟨ok,pend,l,q⟩:=G;simp only at ok pend l q;have H:∃y d,∀a g,LS P s ((World.tp u y d)) a g->Ca u g->¬o5 P kI a g:=by
  refine Classical.byContradiction λo=>l ?_;have c:∀y d,∃p:St×World,LS P s ((World.tp u y d)) p.1 p.2/\Ca u p.2/\o5 P kI p.1 p.2:=by simp_all
  exact .jA (λy d=>(Classical.choose<|c y d).1) (λy d=>(Classical.choose<|c y d).2) (λy d=>(Classical.choose_spec<|c y d).1) (λy d=>(Classical.choose_spec<|c y d).2.1) λy d=>(Classical.choose_spec<|c y d).2.2
 let⟨y,d,I⟩:=H;let p:ψ:=λi=>if i<D then T i else y (d+(i-D))
 have r:∀i,i<D->p i=T i:=λi h=>if_pos h;have J:=λi=>by show(if D+i<D then T (D+i)else y (d+(D+i-D)))=y (d+i);grind
 let⟨N,K⟩:=F p;let⟨k,_,L⟩:=U8 (q p r) K;have b:pT ((World.tp u p D)):=pend;rcases L.I f hF ok b with⟨_,M,O,S⟩|⟨m,a,g,_,e,V⟩
 .exact absurd (U7 t E M O S) l
 .obtain⟨c,v,rfl,z⟩:=e.ads ok.r;have W:¬o5 P kI a v:=λX=>I a _ (z y d λi _=>(J i).symm) (λi o _ B=>(ml.gM f hF C m (e.MS f ok) ((e.kd ok.r b).r b) V) i o B)<|X.adt t y<|d+c;refine⟨⟨a,v,D+c,p,n+1⟩,⟨e.MS f ok,(e.kd ok.r b).r b,W,λo B=> ?_⟩,U,fg,r⟩;rw[dH,(q o λi h=>(B i<|by simp only;omega).trans<|r i h)];simp only[dt,(z o D λi h=>B (D+i)<|by simp only;omega).uI]
theorem adw(b:oG P GL eY)(hF:sY P eY)(c:vG kI){Q:Â->Æ->Prop}(g:∀v u,Q v u->jU u)(d:∀v u,Q v u->kI v u){a:St}(ok:Ok P GL eY a)(q:pT w)(f:∀T,∃n,ml P Q n<|LM a<|(World.tp w T 0)):o5 P kI a w:=by
 refine Classical.byContradiction λr=> ?_;have s:Ix P GL eY kI a w ⟨a,w,0,λ_ _=>0,0⟩:=⟨ok,q,r,λI _=>rfl⟩;let F:Nat->{x:Iw//Ix P GL eY kI a w x}:=λk=>Nat.rec ⟨_,s⟩ (λ_ x=>⟨Classical.choose<|MU b hF c g d f x.2,(Classical.choose_spec<|MU b hF c g d f x.2).1⟩) k
 have l:=λk=>(Classical.choose_spec<|MU b hF c g d f (F k).2).2;have t:∀k,(F k).1.n=k:=by
  intro k
  induction k with
  |zero=>rfl
  |succ k e=>rw[(l k).1,e]
 have J:∀j k,(F j).1.D<=(F<|j+k).1.D/\∀i,i<(F j).1.D->(F<|j+k).1.T i=(F j).1.T i:=by
  intro j k
  induction k with
  |zero=>exact⟨ß _,λ_ _=>rfl⟩
  |succ k e=>
   have:=(l<|j+k).2;exact⟨õ e.1 this.1,λi m=>(this.2 i<|Ô m e.1).trans<|e.2 i m⟩
 have K:∀j k i,i<(F j).1.D->i<(F k).1.D->(F j).1.T i=(F k).1.T i:=by intro j k i e o;rcases Nat.le_total j k with h|h;all_goals grind [Ε]
 let T:ψ:=λi=>open Classical in if h:∃k,i<(F k).1.D then(F<|Classical.choose h).1.T i else λ_=>0
 have y:∀k i,i<(F k).1.D->T i=(F k).1.T i:=by intro k i m;have e:∃k,i<(F k).1.D:=⟨k,m⟩;show(open Classical in if h:∃k,i<(F k).1.D then(F<|Classical.choose h).1.T i else λ_=>0)=_;rw[dif_pos e];grind
 let⟨N,z⟩:=f T;have p:=(F N).2.nZ T<|y N;rw[t N]at p;let⟨k,e,o⟩:=U8 p z;have B:k=0:=Z
 subst B;have C:pT ((World.tp (F N).1.u T<|(F N).1.D)):=(F N).2.adu;rcases o.I b hF (F N).2.ok C with⟨_,E,G,H⟩|⟨m,_,_,e,_⟩
 .exact(F N).2.adv<|U7 c d E G H
 .cases e
end
section
variable{m:à->Prop}
def MV(f:à)(b:Func)(c:aj)(a:Array Â):St:=⟨f,a++ĺ (b.ntmps-a.size) ľ,[Đ c],Ã,[]⟩
def U9(a:Array Â)(b:P.funcs[F]?=À s)(d:s.body=À wX):dI P F a .normal=(MV F s wX a).I:=cG a b d
def adx(b:oG P X m)(hF:sY P m)(l:vG vQ)(g:m F)(j:P.funcs[F]?=À s)(k:s.body=À wX)(o:jU u) (p:∀T,Calls P F d ((World.tp u T 0)) fun|.returned v,u'=>vQ v u'/\jU u'|_,_=>False):o5 P vQ (MV F s wX d) u:=by
 refine adw b hF l (Q:=λv u=>vQ v u/\jU u) (λv u h=>h.2) (λv u h=>h.1) ⟨⟨λi q=> ?_,λx h=>by cases h⟩,g,λx h=>by cases h⟩ o.pT λT=> ?_
 .rw[ū.1 q];exact .qK (b F g s wX j k)
 .let⟨e,r,t,a,w,_,y⟩:=p T [o6];cases e with
  |returned v=>
   let⟨n,z⟩:=w;refine⟨n,t,v,r,?_,y,a⟩;rw[<-z,U9 d j k];rfl
  |panicked n=>exact a.elim
  |outgrown=>exact a.elim
def ady(r:mZ P)(b:oG P X m)(hF:sY P m)(t:vG vQ)(n:m F)(e:P.funcs[F]?=À s)(h:s.body=À wX)(y:jU u) (z:∀T,Calls P F d ((World.tp u T 0)) fun|.returned v,u'=>vQ v u'/\jU u'|_,_=>False) {Y:fi} {a o:Nat->Prop} (B:Y.C=P.globals.size) (C:∀g,X g->Y g g) (p:fL Y d q) (D:qL Y a u w) (E:∀j,a j->j<w.heap.size) (H:∀i j,Y i j->a j->o j) (main:Bool) (k:Ę) (l:List Ę): uG P main o (E5 Y a vQ k l) (fh Y a) (G (dI P F q .normal)<|k::l) w:=by
 have:=(adx b hF t n e h y z).MQ (main:=main) r b (Y:=Y) (E6:=Y) (s':=MV F s wX q) (fi.M _) B C ⟨U,?_,U,U,.oC⟩ ⟨λi I=> ?_,λx J=>by cases J⟩ D E H k l
 .rw[U9 q e h];exact this
 .show fL Y (d++_) (q++_);rw[p.r];exact p.sR<|U1 _
 .rw[ū.1 I];exact .qK (b F n s wX e h)
def xI:Â->Bool
 |Ľ _|Ć _ _|ħ _|Þ ë|bR ë _ _|bS|aV|eh ë|.map ë=>É
 |_=>Ã
def MW:Â->Bool
 |.agg a=>a.all xI
 |ſ a=>a.all xI
 |v=>xI v
def E8(h:xI v=É):jE v:=by
 cases v with
 |bool b=>exact .lQ b
 |int k n=>exact .iA k n
 |string s=>exact .kD s
 |pointer p=>cases p with
  |none=>exact .lj
  |some a=>cases h
 |slice p n c=>cases p with
  |none=>exact .nG n c
  |some a=>cases h
 |nilFunc=>exact .uu
 |nilIface=>exact .uw
 |chan p=>cases p with
  |none=>exact .uy
  |some a=>cases h
 |map p=>cases p with
  |none=>exact .uz
  |some a=>cases h
 |_=>cases h
def adz(h:MW v=É):jE v:=by
 cases v with
 |agg b=>exact .nV λi a=>E8<|(Ń.1 h) i a
 |tuple b=>exact .mX λi a=>E8<|(Ń.1 h) i a
 |_=>exact E8 h
def vH(X:Nat->Bool):Ö->Bool
 |.tmp _=>É
 |dV v=>MW v
 |ep g=>X g
 |aN _=>É
theorem Iy{g:Nat->Bool}(h:vH g qQ=É):lS (λj=>g j=É) qQ:=by
 cases qQ with
 |tmp t=>exact .UU t
 |const v=>exact .UW (adz h)
 |global j=>exact .UX h
 |func f=>exact .UY f
def MX(P:Õ)(t:Á):Bool:=match P.underlying t with
 |some .bool=>É
 |some (Β _)=>É
 |some ę=>É
 |_=>Ã
def adA(h:MX P t=É):sS P t:=by
 unfold MX at h;split at h
 .rename_i e;exact Ç e
 .rename_i k e;exact Î<|Ç ⟨k,e⟩
 .rename_i e;exact Î<|Î e
 .cases h
def Iz:Ö->Bool
 |dV (Þ ë)=>É
 |_=>Ã
def Va(h:Iz qQ=É):mF (y.eval qQ):=by
 unfold Iz at h;split at h
 .trivial
 .cases h
def MY(P:Õ)(t:Á)(x y:Ö):Bool:=MX P t||((match P.underlying t with|some (ð _)=>É|_=>Ã)&&(Iz x||Iz y))
theorem adB{a:bE}{y:Ö}(h:MY P t qQ y=É):sS P t\/((∃e,P.underlying t=À (ð e))/\(mF (a.eval qQ)\/mF (a.eval y))):=by
 unfold MY at h;rcases Ŝ.1 h with h|h
 .exact Ç<|adA h
 .let⟨b,e⟩:=Ü.1 h;refine Î ⟨?_,(Ŝ.1 e).imp Va Va⟩;grind
def MZ(P:Õ)(s d:Á):Bool:=match P.underlying s,P.underlying d with
 |some (Β _),À (Β _)=>É
 |some ę,À ę=>É
 |_,_=>Ã
theorem adC(h:MZ P e t=É):(∃k a,P.underlying e=À (Β k)/\P.underlying t=À (Β a))\/(P.underlying e=À ę/\P.underlying t=À ę):=by unfold MZ at h;grind
def M0(P:Õ)(s:Á)(n:Nat):Bool:=match P.underlying s with
 |some (de fields)=>match fields[n]? with
  |some f=>match P.info? f.type with
   |some i=>i.size !=0
   |none=>Ã
  |none=>Ã
 |_=>Ã
def adD(h:M0 P e n=É):∀a f i,P.underlying e=À (de a)->a[n]?=À f->P.info? f.type=À i->i.size≠0:=by intro a f i b c d;simp only[M0,b,c,d]at h;simpa using h
def M1(P:Õ)(m:à->Bool)(f:à):Bool:=m f&&(match P.funcs[f]? with
 |some a=> !(a.name== "runtime.NumGoroutine")&&!a.body.isNone
 |none=>Ã)
theorem Vb{g:à->Bool}(h:M1 P g F=É):g F=É/\∃a,P.funcs[F]?=À a/\(a.name== "runtime.NumGoroutine")=Ã/\a.body.isNone=Ã:=by let⟨b,c⟩:=Ü.1 h;grind
def Vd(P:Õ):List Á->Bool
 |[_,t1]=>(match P.underlying t1 with|some (df _)=>É|some ę=>É|_=>Ã)
 |_=>Ã
def Ve(P:Õ)(m:à->Bool)(b:Callee)(a:List Ö)(c:List Á):Bool:=match b with
 |ĝ .len=>a.length==1
 |ĝ .cap=>a.length==1
 |ĝ .copy=>a.length==2
 |ĝ .append=>a.length==2&&Vd P c
 |cg (aN f)=>M1 P m f
 |_=>Ã
def Ci(P:Õ)(m:à->Bool):Op->Bool
 |.move _|.assign _|.pick _ _ _|.alloc _|.box _ _|.build _ _|dB _ _ _|.load _ _|.store _ _ _|ez _|.unOp _ _ _|dS _ _ _|.slice _ _ _ _ _|.field _ _ _|dU _ _ _|.index _ _ _|.extract _ _=>É
 |dR c t x y _=>if c==az||c==aK then MY P t x y else É
 |aL s d _=>MZ P s d
 |dT s _ n=>M0 P s n
 |Ω c=>Ve P m c.callee c.args.toList c.argTypes.toList
 |_=>Ã
def IA{a:Array Ö}(h:(a.toList.length==1)=É):∃x,a=#[x]:=by
 let⟨l⟩:=a;match l,h with
 |[x],_=>exact⟨x,U⟩
def M3{a:Array Ö}(h:(a.toList.length==2)=É):∃x y,a=#[x,y]:=by
 let⟨l⟩:=a;match l,h with
 |[x,y],_=>exact⟨x,y,U⟩
def adE{g:à->Bool}{k:Op}(h:Ci P g k=É)(a:bE):jT P a.eval k:=by
 cases k with
 |binOp o t x y r=>
  refine .Cc o t x y r λe=> ?_;have:(o==az||o==aK)=É:=by rcases e with rfl|rfl<;>rfl
  simp only[Ci,if_pos this]at h;exact adB h
 |convert s d x=>exact .Ms _ _ _ (adC h)
 |fieldAddr s x n=>exact .Mv _ _ _ (adD h)
 |call c=>
  let⟨z,B,j⟩:=c;simp only[Ci]at h;unfold Ve at h;split at h
  .obtain⟨x,rfl⟩:=IA h;exact .ES x j
  .obtain⟨x,rfl⟩:=IA h;exact .EU x j
  .obtain⟨x,y,rfl⟩:=M3 h;exact .EV x y j
  .let⟨q,f⟩:=Ü.1 h;obtain⟨x,y,rfl⟩:=M3 q;let⟨l⟩:=j;match l,f with
   |[t0,t1],f=>
    refine .sR x y t0 t1 ?_;simp only[Vd]at f;split at f
    .rename_i e m;exact Ç ⟨e,m⟩
    .rename_i m;exact Î m
    .cases f
  .exact .jy _ _ _ U (Vb h).2
  .cases h
 |move x=>exact .zH x
 |assign x=>exact .EP x
 |pick c a b=>exact .vu c a b
 |alloc t=>exact .gB t
 |box t x=>exact .Mn t x
 |build t p=>exact .Mp t p
 |buildSlice t n p=>exact .Mq t n p
 |load t a=>exact .gp t a
 |store t a x=>exact .iT t a x
 |nilCheck x=>exact .ER x
 |unOp o t x=>exact .Mr o t x
 |makeSlice t l c=>exact .Mt t l c
 |slice t x u v w=>exact .ku t x u v w
 |field t x n=>exact .Mw t x n
 |indexAddr t x i=>exact .Mx t x i
 |index t x i=>exact .My t x i
 |extract x n=>exact .EF x n
 |_=>simp[Ci]at h
def M4(P:Õ)(X:Nat->Bool)(m:à->Bool)(o:au):Bool:=Ci P m o.op&&o.op.operands.all (vH X)
def adF{X:Nat->Prop}{m:à->Prop}{o:au}(op:∀a:bE,jT P a.eval o.op)(opd:∀x∈o.op.operands,lS X x)(calls:∀f args ts,o.op=Ω {callee:=cg<|aN f,args:=args,argTypes:=ts}->m f):mh P X m o where
 mj hz hb hG ht hW hl x u' hr hc:=(T1 hz hW.C hb (λf=>rfl) (op _) λx hx=>vF hG ht<|opd x hx).fY hW hl hr hc #[];r a:=adf<|op a;I a u n u' hr:=adq (op a) hr;C a u f c u' hr:=let⟨as,ts,e⟩:=adk (op a) hr;calls f as ts e
theorem adG{g:Nat->Bool}{k:à->Bool}(h:M4 P g k o=É):mh P (λj=>g j=É) (λf=>k f=É) o:=by
 let⟨j,b⟩:=Ü.1 h;refine adF (λa=>adE j a) (λx a=>Iy ?_) λf a x e=> ?_
 .grind [ŉ]
 .rw[e]at j;exact(Vb<|show M1 P k f=É from j).1
end
section
variable{Y:fi}{g:à->Prop}{α:Type}
def Cj(m:(Ö->Â)->ē Â)(e:∀b,ì b o=m b>>=λv=>pure<|ï v) (i:∀(Y:fi) (b h:Ö->Â),mZ P->Bi Y->Y.C=P.globals.size->(∀x∈o.op.operands,ff Y (b x)<|h x)->kv P ff Y (m b) (m h)) (j:∀b,fx P<|m b) (k:∀x∈o.op.operands,lS X x):mh P X g o where
 mj hz hb hG ht hW hl x u' hr hc:=by rw[e]at hr|-;exact(TV<|i _ _ _ hz hW.C hb λx d=>vF hG ht<|k x d).fY hW hl hr hc #[]
 r a:=by rw[e];exact ln<|j _
 I a u n u' hr:=by
  rw[e,Ä]at hr;cases d:(m a.eval).run P u with
  |ok v w=>rw[d]at hr;cases hr;exact Ç ⟨v,U⟩
  |halt z w=>rw[d]at hr;cases hr
 C a u f c u' hr:=by
  rw[e,Ä]at hr;cases d:(m a.eval).run P u with
  |ok v w=>rw[d]at hr;cases hr
  |halt z w=>rw[d]at hr;cases hr
theorem adH(a:o.op=cH t qQ)(b:∀y∈o.op.operands,lS X y):mh P X g o:=by
 refine Cj (λd=>ŝ t<|d qQ) (λd=> ?_) (λY d c _ _ _ h=> .gd ?_) (λd=> ?_) b
 .unfold ì;rw[a]
 .unfold ŝ;apply fy (iR t);rintro e d _ c ⟨rfl,_⟩;split
  .exact .fI
  .exact .fw (.xw t ((h qQ<|by rw[a];simp[Ê]).fH c))
 .unfold ŝ;grind [gy,iU,qG,fZ]
theorem adI(c:Sys):nX P (sys c):=by
 intro u hu;refine⟨λx u' e=> ?_,λz u' e=>by cases e⟩;have:u'.heap=u.heap:=by
  simp only[sys,ã]at e;cases e;unfold World.sys;have ask:∀{γ:Type} (b:Ask γ) (w:Æ),(w.ask b).2.heap=w.heap:=by
   intro γ b
   induction b with
   |done a=>intro w;rfl
   |ask what range k ih=>
    intro w;simp only[World.ask];split
    .exact ih 0 w
    .exact ih _ _
  grind
 exact⟨λh i c e he=>h i c e (by rwa[<-this]),λi o he ho=>⟨o,by rwa[this],ho⟩⟩
theorem Vf(x:Â):∀u y a,(ż x).run P u≠ĥ y a:=by
 unfold ż;cases x<;>simp only[]<;>first|exact Mm|skip
 grind [EM,TK,qE]
def adJ(x:Â):fx P (ż x):=by
 refine⟨?_,MA<|Vf x⟩;unfold ż;cases x<;>simp only[]<;>first|exact EY U|skip
 refine Ic ?_ λa=> ?_
 .unfold Instr.panicnil;refine Ic (adI _) λr=> ?_;cases r<;>first|exact EY U|skip
  exact Ic T4 λ_=>T3 _
 .split
  .exact EY U
  .exact(vv _).1
def adK(b:o.op=.panic qQ)(c:∀y∈o.op.operands,lS X y):mh P X g o:=by refine Cj (λa=>ż<|a qQ) (λa=> ?_) (λY a d _ _ _ h=> .gd (.nW (Vf _))) (λa=>adJ _) c;unfold ì;rw[b]
def adL(c:ff Y x v)(d:ff Y z jQ):fB P ff Y (Ĳ x z) (Ĳ v jQ):=by
 cases c<;>cases d<;>first|exact .fI|exact .fw (.iA _ _)|skip
 refine fy (V:=ff) (.fw (.lQ _)) λf a g _ e=> ?_;apply fy (TH e);rintro h b _ _ rfl;exact .fw (.kD _)
def adM(x y:Â):fx P (Ĳ x y):=by unfold Ĳ;repeat' (first|(with_reducible first|exact gy _|exact iU _|exact rW _|exact Ik _|exact MP _ _ _|refine fZ ?_ (λ_=> ?_)|refine mG _ ?_)|split|rfl)
def adN:∀{l b:List Â} {Y:fi} {x c:Â},ff Y x c->fL Y l.toArray b.toArray->fB P ff Y (l.foldlM Ĳ x) (b.foldlM Ĳ c):=by
 intro l
 induction l with
 |nil=>
  intro b Y x c d a;have:b=[]:=by have:=a.r;simp at this;exact Ā this.symm
  subst this;rw[ζ,ζ];exact .fw d
 |cons v l e=>
  intro b Y x c d a;match b,a with
  |[],a=>have:=a.r;simp at this
  |v'::b,a=>
   rw[Ζ,Ζ];refine fy (adL d (by have:=a.C 0 fg fg;simpa using this)) ?_;intro k y m f g;refine e g ⟨by have:=a.r;simpa using this,λj h i=> ?_⟩;have:=a.C (j+1) (by simp at h|-;omega) (by simp at i|-;omega);exact(by simpa using this:ff Y _ _).fH f
theorem Vg:∀(l:List Â) (x:Â),fx P<|l.foldlM Ĳ x
 |[],x=>by rw[ζ];exact gy _
 |v::l,x=>by rw[Ζ];exact fZ (adM _ _) λy=>Vg l y
def adO(a:Array Á)(t:Á)(h:fL Y d q):fB P ff Y (ń a t d) (ń a t q):=by
 let⟨l⟩:=d;let⟨b⟩:=q;unfold ń;match l,b,h with
 |[],_,_=>exact .fI
 |v::l,[],h=>have:=h.r;simp at this
 |v::l,v'::b,h=>
  refine adN (by have:=h.C 0 fg fg;simpa using this) ⟨by have:=h.r;simpa using this,λj e f=> ?_⟩;have:=h.C (j+1) (by simp at e|-;omega) (by simp at f|-;omega);exact(by simpa using this:ff Y _ _)
theorem adP(a:Array Á)(t:Á)(c:Array Â):fx P (ń a t c):=by let⟨l⟩:=c;unfold ń;grind [iU,Vg]
def adQ{b:Array Ö}{c:Array Á}(d:o.op=Ω {callee:=ĝ .min,args:=b,argTypes:=c})(e:∀y∈o.op.operands,lS X y):mh P X g o:=by refine Cj (λa=>ń c o.type<|b.map a) (λa=> ?_) (λY a i _ _ _ h=> .gd (adO _ _<|TY b λz f=>h z<|by rw[d];simp[Ê,ô,f])) (λa=>adP _ _ _) e;unfold ì;rw[d];simp only[ù,č,Ē,pure_bind]
def adR{β:Type}{f g:Â->β->ē (ForInStep β)}(k:∀a v e b,Y.r a->ff a v e->fB P je a (f v b) (g e b)):∀{l d:List Â} {a:fi} (b:β),Y.r a->fL a l.toArray d.toArray->fB P je a (forIn l b f) (forIn d b g):=by
 intro l
 induction l with
 |nil=>
  intro d a b _ c;have:d=[]:=by have:=c.r;simp at this;exact Ā this.symm
  subst this;rw[φ,φ];exact .fw U
 |cons v l m=>
  intro d a b h c;match d,c with
  |[],c=>have:=c.r;simp at this
  |e::d,c=>
   rw[η,η];refine fy (k a v e b h (by have:=c.C 0 fg fg;simpa using this)) ?_;rintro p r _ i rfl;cases r with
   |done b=>exact .fw U
   |yield b=>
    apply m b (fi.I h i);refine⟨by have:=c.r;simpa using this,λj n o=> ?_⟩;have:=c.C (j+1) (by simp at n|-;omega) (by simp at o|-;omega);exact(by simpa using this:ff a _ _).fH i
theorem Vh{β:Type}{f:Â->β->ē (ForInStep β)}(a:∀v b,fx P<|f v b):∀(l:List Â) (b:β),fx P<|forIn l b f
 |[],b=>by rw[φ];exact gy _
 |v::l,b=>by
  rw[η];refine fZ (a v b) λr=> ?_;cases r with
  |done b=>exact gy _
  |yield b=>exact Vh a l b
def adS(d:ff Y x v):fB P ff Y (ü x) (ü v):=by
 cases d<;>first|exact .fI|exact .fw (.kD _)|skip
 rename_i h n c;unfold ü;apply fy (Mh h n);intro e j l m f;simp only[<-aD];refine fy (adR (Y:=e) ?_ _ (fi.M _) f) ?_
 .intro g a o b _ i;cases i<;>first|exact .fI|skip
  rename_i k n;cases k<;>first|exact .fI|exact .fw U
 .rintro g s _ _ rfl;exact .fw (.kD _)
theorem adT(x:Â):fx P (ü x):=by
 unfold ü;split
 .exact gy _
 .refine fZ (MH _ _) λa=> ?_;simp only[<-aD];grind [fZ,Vh,gy,iU]
 .exact iU _
theorem adU(i:o.op=aL t T qQ)(k:P.underlying t=À (df e))(l:P.underlying T=À ę)(m:P.underlying e=À (Β .u8))(n:∀y∈o.op.operands,lS X y):mh P X g o:=by
 refine Cj (λa=>Œ t T<|a qQ) (λa=> ?_) (λY a f _ _ _ h=> .gd ?_) (λa=> ?_) n
 .unfold ì;rw[i]
 .unfold Œ;refine fy (iR t) ?_;rintro z B _ p ⟨rfl,b⟩;rw[k]at b;injection b with b;subst b;refine fy (iR T) ?_;rintro q C _ r ⟨rfl,c⟩;rw[l]at c;injection c with c;subst c;have j:=((h qQ<|by rw[i];simp[Ê]).fH p).fH r;have u:fB P ff q (ø e>>=λy=>match y with|Β .u8=>ü (a qQ)|Β .i32=>aE (a qQ)|_=>stuck "Convert: a slice of what to string?") (ø e>>=λy=>match y with|Β .u8=>ü (f qQ)|Β .i32=>aE (f qQ)|_=>stuck "Convert: a slice of what to string?"):=by
   apply fy (iR e);rintro D E _ w ⟨rfl,h⟩;rw[m]at h;injection h with h;subst h;exact adS<|j.fH w
  generalize a qQ=v at*;generalize f qQ=v' at*;cases j<;>first|exact u|exact .fI|exact .fw (.kD _)|skip
 .unfold Œ;grind [vw,adT,UR,gy]
end
section
variable{Y:fi}{b:à->Prop}{α:Type}
def Vi(i:∀(Y:fi) (a g:bE),mZ P->Bi Y->Y.C=P.globals.size->(∀x∈o.op.operands,ff Y (a.eval x)<|g.eval x)->kv P oD Y (ì a.eval o) (ì g.eval o)) (j:∀a:bE,fx P<|ì a.eval o) (h:∀(a:bE) (u:Æ) (n:Ο) (d:Æ),(ì a.eval o).run P u=ĥ n d->∃v,n=ï v) (k:∀x∈o.op.operands,lS X x):mh P X b o where
 mj hz hb hG ht hW hl x d hr hc:=(i _ ⟨_,[]⟩ ⟨_,[]⟩ hz hW.C hb λx e=>vF hG ht<|k x e).fY hW hl hr hc #[];r a:=j a;I a u n d hr:=Ç<|h a u n d hr;C a u f c d hr:=by let⟨v,e⟩:=h a u _ d hr;cases e
def adV{e:Array Â->ē Â}{k:Array Á}(g:o.op=Ω {callee:=cg<|aN F,args:=#[qQ],argTypes:=k})(l:P.funcs[F]?=À s)(m:(s.name== "runtime.NumGoroutine")=Ã)(q:s.body.isNone=É)(r:Extern.findNext s=ë)(t:Extern.find s=À e) (B:∀(Y:fi) (v i:Â),ff Y v i->fB P ff Y (e #[v]) (e #[i])) (C:∀v,fx P<|e #[v]) (D:∀y∈o.op.operands,lS X y):mh P X b o:=by
 have c:∀a:bE,ì a.eval o=ĵ F #[a.eval qQ]:=by intro a;unfold ì;rw[g];simp only[ù,å,İ,č,pure_bind,Ď,ď,Ø,â,ä]
 have j:∀(v:Â) (u:Æ),(ĵ F #[v]).run P u=(mark (.extern F)>>=λ_=>e #[v]>>=λy=>pure (ï y):ē Ο).run P u:=by intro v u;unfold ĵ;simp_all
 refine Vi (λY a w _ _ _ h=> ?_) (λa=> ?_) (λa u n E d=> ?_) D
 .rw[c,c];unfold ĵ;refine .gd (fy qB ?_);rintro I p J w ⟨z,G⟩;rw[z,G];simp only[l,m,q,r,t,Å,if_false,if_true];apply fy (V:=je) (.B4 (Î ⟨F,U⟩) (.fw U));exact λK _ _ H _=>mg<|B _ _ _<|((h qQ<|by rw[g];simp[Ê,ô]).fH w).fH H
 .rw[c];exact Ig (j _)<|fZ (EZ _) λ_=>ln<|C _
 .rw[c,j,Ä]at d;simp only[mark,ã,È]at d;have:ã P (e #[a.eval qQ]>>=λy=>pure (ï y):ē Ο) u=ĥ n E:=d;rw[Ä]at this;cases h:(e #[a.eval qQ]).run P u with
  |ok v w=>rw[h]at this;cases this;exact⟨v,U⟩
  |halt z w=>rw[h]at this;cases this
def adW(x a:Â)(h:ff Y x a):fB P ff Y (Ŀ #[x]) (Ŀ #[a]):=.fw h
def adX(x:Â):fx P (Ŀ #[x]):=gy _
def Vj:∀(n t:Nat) {c a:Array Â},fL Y c a->fL Y (ņ n t c) (ņ n t a)
 |0,_,_,_,h=>h
 |n+1,t,_,_,h=>Vj n (t/256)<|h.Tv<|.iA _ _
def adY(b:Array Á)(t:Á)(v c:Â)(h:ff Y v c):fB P ff Y (Ċ b #[t] #[v]) (Ċ b #[t] #[c]):=by
 cases h<;>first|exact .fI|skip
 rename_i k n;cases k<;>first|exact .fI|skip
 refine fy (iR t) ?_;rintro j d _ l ⟨rfl,_⟩;cases d<;>first|exact .fI|skip
 rename_i e _;simp only[];split
 .exact .nW (vp<|qE _)
 .apply rT (.zC λn=> .fw U);intro m f _;apply rT (Ml _);intro o _ _;apply rT (.zC λn=> .fw U);intro p g _;apply fy (zF e<|Vj f g<|fL.N _);exact λq a r _ i=> .fw (.ku i _ _)
def adZ(a:Array Á)(t:Á)(v:Â):fx P (Ċ a #[t] #[v]):=by
 cases v<;>first|exact iU _|skip
 rename_i k n;cases k<;>first|exact iU _|skip
 refine fZ (qG t) λd=> ?_;cases d<;>first|exact iU _|skip
 repeat' (first|(with_reducible first|exact gy _|exact iU _|exact rW _|exact E1 _ _|exact qG _|exact vv _|exact MI _|refine fZ ?_ λ_=> ?_)|split)
def ad1(f:Array Á)(t:Á)(j:ff Y x v):kv P ff Y (ė f t #[x]) (ė f t #[v]):=by
 cases j<;>first|exact .gd .fI|exact .gd (.fw .lj)|skip
 rename_i a g h n c;change kv P ff Y (ite _ _ _) (ite _ _ _);by_cases i:c≠0
 .simp only[if_pos i];exact .gd (.fw (.jD h))
 .simp only[if_neg i];apply kH (H8 h.1);rintro l b m o ⟨rfl,rfl⟩;simp only[Option.isSome_none,Å,if_false];refine kH (V0:=λ_ a g=>a=g) ?_ ?_
  .unfold Ū;refine fy (iR t) ?_;rintro k d _ p ⟨rfl,_⟩;cases d<;>first|exact .fI|exact .fw U
  .rintro k e _ _ rfl;exact .B8 trivial
def ad2(b:Array Á)(t:Á)(x:Â):fx P (ė b t #[x]):=by
 cases x<;>first|exact iU _|skip
 rename_i p n c;cases p with
 |none=>exact gy _
 |some a=>
  change fx P (ite _ _ _);repeat' (first|(with_reducible first|exact gy _|exact iU _|exact Ih _|exact Il _|refine fZ ?_ (λ_=> ?_)|refine Ie _ ?_)|split|(intro _ _ h;cases h;done))
def ad3{c:Array Á}(d:o.op=Ω {callee:=ĝ bk,args:=#[qQ],argTypes:=c})(e:∀y∈o.op.operands,lS X y):mh P X b o:=by refine Cj (λa=>ė c o.type #[a qQ]) (λa=> ?_) (λY a f _ _ _ h=>ad1 _ _<|h qQ<|by rw[d];simp[Ê,ô]) (λa=>ad2 _ _ _) e;unfold ì;rw[d];simp only[ù,č,Ē,pure_bind,Ø,â,ä]
end
section
variable{Y:fi}{f:Nat->Prop}{g:à->Prop}{α:Type}
def Vk(h:gS Y a p):fB P gS Y (Ž a) (Ž p):=by unfold Ž;apply fy (H8 h.1);rintro c x d b ⟨rfl,rfl⟩;exact .fw (h.r b)
def ad4{r:Nat}(h:Y r i):fB P (λ_ c q=>∃n a,c=À n/\q=À a/\n<=a) Y (du r) (du i):=.uA h λ_ n a c=> .fw ⟨n,a,U,U,c.elim (λq=>by omega) λq=>q.1⟩
def Vl(h:gS Y a p)(t:Á)(n:Nat):fB P (λ_ b e=>b=É->e=É) Y (Ą a t n) (Ą p t n):=by unfold Ą;apply fy qB;rintro i b j c ⟨d,f⟩;rw[d,f];refine .uA (c.1 _ _ h.1) λe m k g=> ?_;rw[h.2.1];exact .fw λq=>TQ (ο<|g.elim (λq=>by omega) λq=>q.1) q
def ad5(a:Ú):fx P (Ž a):=by unfold Ž;repeat' (first|(with_reducible first|exact gy _|exact pU|exact sT _|exact Il _|refine fZ ?_ (λ_=> ?_)|refine mG _ ?_)|split|rfl)
theorem ad6(r:Nat):fx P (du r):=by unfold du;grind [gy,sT,Ub,fZ]
theorem Vm(a:Ú)(t:Á)(n:Nat):fx P (Ą a t n):=by unfold Ą;grind [gy,pU,sT,fZ]
theorem ad7(l:P.underlying e=À (ð t))(m:P.underlying T=À đ)(o:ff Y x v):kv P ff Y (ö e T x) (ö e T v):=by
 unfold ö;refine kH (iR e) ?_;rintro z B _ p ⟨rfl,f⟩;rw[l]at f;injection f with f;subst f;refine kH (iR T) ?_;rintro C D _ q ⟨rfl,g⟩;rw[m]at g;injection g with g;subst g;have r:=(o.fH p).fH q;cases r<;>first|exact .gd .fI|exact .gd (.fw .lj)|skip
 rename_i a E h;refine kH (Vk h) ?_;intro F b j G i;refine kH (ad4 i.1) ?_;rintro H c I u ⟨w,J,rfl,rfl,K⟩;refine kH (mE t) ?_;rintro L n _ y ⟨rfl,_⟩;rw[i.2.1,i.2.2];simp only[];by_cases k:(decide (n=0)||(decide (j.off≥w)&&j.spot.isNone))=É
 .rw[if_pos k];exact .B8 trivial
 .rw[if_neg k,if_neg]
  .exact .gd (.fw (.jD ((i.r u).r y)))
  .grind
theorem ad8{d:Á}(l:P.underlying T=À đ)(o:P.underlying d=À (ð t))(q:ff Y x z):kv P ff Y (ö T d x) (ö T d z):=by
 unfold ö;refine kH (iR T) ?_;rintro F G _ r ⟨rfl,f⟩;rw[l]at f;injection f with f;subst f;refine kH (iR d) ?_;rintro H I _ w ⟨rfl,g⟩;rw[o]at g;injection g with g;subst g;have y:=(q.fH r).fH w;cases y<;>first|exact .gd .fI|exact .gd (.fw .lj)|skip
 rename_i a J h;refine kH (Vk h) ?_;intro K b B L i;refine kH (mE t) ?_;rintro M n _ j ⟨rfl,_⟩;refine kH (Vl (i.r j) t 1) ?_;rintro C v N D O;have Q:kv P ff C (pure<|Þ<|À b) (pure<|Þ<|À B):=.gd (.fw (.jD ((i.r j).r D)));by_cases E:(decide (n=0)||v)=É
 .grind
 .rw[if_neg E];refine .B9 λu x S c=> ?_;rw[Ä]at c;simp only[cm,ã,È]at c;cases k:u.shape? b.block with
  |none=>rw[k]at c;cases c
  |some p=>
   let⟨e,m⟩:=p;rw[k]at c;simp only[Ä,ă,È]at c;split at c
   .cases c
   .cases c;exact⟨u.heap.size,.view b t,ß _,fg,trivial⟩
theorem ad9(h:(P.underlying e=À (ð t)/\P.underlying T=À đ)\/(P.underlying e=À đ/\P.underlying T=À (ð t)))(x:Â):fx P (ö e T x):=by
 unfold ö;rcases h with⟨b,c⟩|⟨b,c⟩<;>refine vw b<|vw c ?_;all_goals
  cases x<;>first|exact iU _|skip
  rename_i p;cases p with
  |none=>exact gy _
  |some a=>
   repeat' (first|(with_reducible first|exact ad5 _|exact ad6 _|exact Vm _ _ _|exact gy _|exact iU _|exact pU|exact sT _|exact sV _|refine fZ ?_ (λ_=> ?_)|refine mG _ ?_|refine Ie _ ?_)|split|(intro _ _ h;cases h;done)|rfl)
theorem Vo(b:o.op=aL e T qQ)(h:(P.underlying e=À (ð t)/\P.underlying T=À đ)\/(P.underlying e=À đ/\P.underlying T=À (ð t)))(c:∀y∈o.op.operands,lS X y):mh P X g o:=by
 refine Cj (λa=>Œ e T<|a qQ) (λa=> ?_) (λY a i _ _ _ f=> ?_) (λa=> ?_) c
 .unfold ì;rw[b]
 .unfold Œ;apply kH (iR e);rintro j k _ a ⟨rfl,l⟩;apply kH (iR T);rintro m n _ i ⟨rfl,p⟩;have q:=((f qQ<|by rw[b];simp[Ê]).fH a).fH i;grind [ad7,ad8]
 .unfold Œ;grind [ad9,vw]
theorem aea(a:Ú)(n:Nat):nX P (eT a n):=by
 intro u f;refine⟨λx b e=> ?_,λz b e=>by cases e⟩;cases e;unfold Ė;split
 .exact Kd.fO u
 .refine T5 (λo d=> ?_) λo c e h=> ?_
  .cases o<;>first|exact d.elim|trivial
  .grind
def aeb(a:Ú)(n:Nat):fx P (eT a n):=by
 refine⟨aea a n,λu T D=>⟨0,u.freeze a n,λx b e=> ?_⟩⟩;have c:∀T D,(World.tp u T D).freeze a n=World.tp (u.freeze a n) T D:=by intro T D;unfold Ė;split<;>rfl
 simp_all
def Vp:∀(n:Nat) {Y:fi} {a c:Ú} (d:ByteArray),gS Y a c->fB P je Y (ĕ a d n) (ĕ c d n)
 |0,_,_,_,_,_=> .fw U
 |n+1,Y,a,c,d,h=>by
  unfold ĕ;refine fy (H4 h) ?_;intro g v i e f;cases f<;>first|exact .fI|skip
  rename_i k b;cases k<;>first|exact .fI|exact Vp n _<|(h.r e).C 1
def Vq:∀(n:Nat) (a:Ú) (b:ByteArray),fx P<|ĕ a b n
 |0,_,_=>gy _
 |n+1,a,b=>by
  unfold ĕ;refine fZ (E0 _ _) λv=> ?_;split
  .exact Vq n _ _
  .exact iU _
def jr(pt:Á)(a:Ú)(n:Nat):ē ByteArray:=do
 if<-Ą a (<-Ū pt) n then ĕ a .empty n else unsupported (ť "String: not so many bytes at ptr")
def aec(pt:Á)(h:gS Y a p)(n:Nat):fB P je Y (jr pt a n) (jr pt p n):=by
 unfold jr;refine fy (V:=je) ?_ ?_
 .unfold Ū;refine fy (iR pt) ?_;rintro f d _ c ⟨rfl,_⟩;cases d<;>first|exact .fI|exact .fw U
 .rintro i e _ d rfl;apply fy (Vl (h.r d) e n);rintro f b j c g;cases b with
  |true=>rw[g U];exact Vp n _<|(h.r d).r c
  |false=>exact .fI
def aed[zz P](F:iX Y f u w)(h:gS Y a p){pt:Á}(G:∀u l j,(Ū pt).run P u=ĥ l j->∃k,P.underlying l=À (Β k))(g:(jr pt a<|n+1).run P u=ĥ B W):¬f p.block:=by
 intro H;let⟨c,L,e,M,N,r,O,Q,t,_⟩:=F.r _ _ h.1;let⟨_,_,_,_,o⟩:=t H;unfold jr at g;rw[Ä]at g;cases i:(Ū pt).run P u with
 |halt z x=>rw[i]at g;cases g
 |ok l j=>
  have I:j=u:=by
   unfold Ū at i;rw[Ä]at i;unfold ø at i;rw[Ä,ă]at i;simp only[È]at i;cases D:P.underlying pt with
   |none=>rw[D]at i;cases i
   |some d=>
    rw[D]at i;cases d<;>cases i<;>rfl
  subst I;rw[i]at g;simp only[È]at g;rw[Ä]at g;have y:∃b,(Ą a l<|n+1).run P j=ĥ b j:=by unfold Ą;rw[Ä,ă];simp only[È];rw[Ä];simp only[cm,ã,È];split<;>exact⟨_,U⟩
  rcases o with o|o;rotate_left
  .let⟨k,J⟩:=G _ _ _ i;have K:(Ą a l<|n+1).run P j=ĥ Ã j:=by
    unfold Ą;rw[Ä,ă];simp only[È];rw[Ä];simp only[cm,ã,È];have t:j.shape? a.block=À (e,c.size):=by simp[Θ,r]
    rw[t];simp only[Nat.div_eq_of_lt<|zz.lt e c.size o,abW J];rfl
   rw[K]at g;cases g
  let⟨b,y⟩:=y;rw[y]at g;simp only[È]at g;split at g
  .unfold ĕ at g;rw[Ä]at g;simp only[aW,ã]at g;cases C:j.cell? a with
   |none=>
    rw[C]at g;simp only[ŋ,r]at g;cases g
   |some v=>
    rw[C]at g;simp only[È]at g;have q:=C;rw[zE r]at q;cases E:a.spot with
    |some x=>rw[E]at q;cases q
    |none=>
     rw[E]at q;have:=o _ _ (by simpa using q);cases v<;>first|(cases g;done)|skip
     rename_i k m;cases k<;>first|(cases g;done)|cases this
  .cases g
end
section
variable{Y:fi}{d:Nat->Prop}{f:à->Prop}{α:Type}
def xK(a:Á)(p:Option Ú)(n:Int):ē Â:=ê #[a] a #[Þ p,Ć Ŋ n]
def xL(pt a t:Á)(p:Option Ú)(k:ú)(n:Int):ê #[pt,a] t #[Þ p,Ć k n]=xK pt p n:=by cases p<;>rfl
section
variable{pt:Á}{p:Option Ú}
def Vr(a:h<0):∃c,∃k:PUnit->ē Â,xK pt p h=(runtimePanic c>>=k):=⟨_,_,if_pos a⟩
def Vt(a:¬h<0)(b:h>Ŋ.max):∃c,xK pt p h=unsupported (ť c):=⟨_,(if_neg a).trans<|if_pos b⟩
def M5(a:¬h<0)(b:¬h>Ŋ.max)(c:h=0):xK pt p h=pure (ħ .empty):=by cases p<;>exact(if_neg a).trans<|(if_neg b).trans<|if_pos c
def aee(a:¬h<0)(b:¬h>Ŋ.max)(d:¬h=0):∃c,xK pt ë h=runtimePanic c:=⟨_,(if_neg a).trans<|(if_neg b).trans<|if_neg d⟩
end
def Vu(pt:Á)(a:Ú)(c:¬h<0)(d:¬h>Ŋ.max)(e:¬h=0): xK pt (À a) h=(jr pt a h.toNat>>=λs=>eT a h.toNat>>=λ_=>pure<|ħ s):=by refine((if_neg c).trans<|(if_neg d).trans<|if_neg e).trans ?_;unfold jr;show _=ç (ç _ _) _;rw[ř];congr 1;funext et;show ç _ _=ç (ç _ _) _;rw[ř];congr 1;funext b;cases b<;>rfl
def aef(pt:Á)(p:Option Ú)(n:Int):fx P (xK pt p n):=by cases p<;>show fx P (if n<0 then _ else _)<;>repeat' (first|(with_reducible first|exact Vm _ _ _|exact Vq _ _ _|exact aeb _ _|exact gy _|exact Ih _|exact vv _|refine fZ ?_ (λ_=> ?_)|refine mG _ ?_)|split|rfl)
theorem aeg(_hW:iX Y d u w):∀(n:Nat) {a i:Ú} {j s:ByteArray},gS Y a i->a.spot=ë->(ĕ a j n).run P u=ĥ s W->∀c e f,u.heap[a.block]?=À (Č c e f)->a.off<=c.size->a.off+n<=c.size:=by
 intro n
 induction n with
 |zero=>intro a i j s _ _ _ c e f _ r;exact r
 |succ n t=>
  intro a i j s h p b c e f l _;unfold ĕ at b;rw[Ä]at b;simp only[aW,ã]at b;cases o:u.cell? a with
  |none=>
   rw[o]at b;simp only[ŋ,l]at b;cases b
  |some v=>
   rw[o]at b;simp only[È]at b;have q:=o;rw[zE l,p]at q;have y:=(Ë.1<|by simpa using q).1;cases v<;>first|(cases b;done)|skip
   rename_i k m;cases k<;>first|(cases b;done)|skip
   have g:a.add 1={a with off:=a.off+1}:=by unfold Addr.add;grind
   have x:=h.C 1;have:=t x (by rwa[g]) b c e f (by rwa[g]) (by rw[g];simp only;omega);rw[g]at this;simp only at this;omega
end
section
variable{Y:fi}{g:Nat->Prop}{r:à->Prop}{α:Type}
def M6(pt a t:Á)(p:Option Ú)(y:Â):ê #[pt,a] t #[Þ p,y]=(dz y>>=λn=>xK pt p n):=by cases p<;>rfl
def Vv:∀(n:Nat) {a:Ú} {f s:ByteArray} {u c:Æ},(ĕ a f n).run P u=ĥ s c->c=u
 |0,_,_,_,_,_,h=>by cases h;rfl
 |n+1,a,f,s,u,c,h=>by
  unfold ĕ at h;rw[Ä]at h;have g:∀v b,(aW a).run P u=ĥ v b->b=u:=by
   intro v b e;simp only[aW,ã]at e;split at e
   .cases e;rfl
   .split at e<;>cases e;rfl
  cases d:(aW a).run P u with
  |halt z w=>rw[d]at h;cases h
  |ok v b=>
   have:=g v b d;subst this;rw[d]at h;simp only[È]at h;cases v<;>first|(cases h;done)|skip
   rename_i k m;cases k<;>first|(cases h;done)|exact Vv n h
def aeh{pt:Á}(c:(jr pt a n).run P u=ĥ B w):w=u/\(ĕ a .empty n).run P u=ĥ B u:=by
 unfold jr at c;rw[Ä]at c;cases e:(Ū pt).run P u with
 |halt z x=>rw[e]at c;cases c
 |ok z x=>
  have f:x=u:=by
   unfold Ū at e;rw[Ä]at e;unfold ø at e;rw[Ä,ă]at e;simp only[È]at e;cases b:P.underlying pt with
   |none=>rw[b]at e;cases e
   |some d=>
    rw[b]at e;cases d<;>cases e<;>rfl
  subst f;rw[e]at c;simp only[È]at c;rw[Ä]at c;have d:∃b,(Ą a z n).run P x=ĥ b x:=by unfold Ą;rw[Ä,ă];simp only[È];rw[Ä];simp only[cm,ã,È];split<;>exact⟨_,U⟩
  let⟨b,d⟩:=d;rw[d]at c;simp only[È]at c;split at c
  .have:=Vv n c;subst this;exact⟨U,c⟩
  .cases c
def IB(P:Õ)(t:Á):Bool:=match P.underlying t with
 |some (ð e)=>(match P.underlying e with|some (Β _)=>É|_=>Ã)
 |_=>Ã
theorem aei{P:Õ}{pt:Á}(h:IB P pt=É):∀u b c,(Ū pt).run P u=ĥ b c->∃k,P.underlying b=À (Β k):=by
 intro u b c a;unfold Ū ø at a;rw[Ä,Ä,ă]at a;simp only[È]at a;unfold IB at h;split at h
 .rename_i e d;rw[d]at a;cases a;grind
 .cases h
def aej[zz P]{y:Ö}{pt:Á}(W:o.op=Ω {callee:=ĝ cU,args:=#[qQ,y],argTypes:=#[pt,T]})(hpt:IB P pt=É)(Vw:∀z∈o.op.operands,lS X z):mh P X r o:=by
 have he:∀M:Ö->Â,ì M o=(ê #[pt,T] o.type #[M qQ,M y]>>=λv=>pure<|ï v):=by intro M;unfold ì;rw[W];simp only[ù,č,Ē,pure_bind,Ø,â,ä]
 have N:∀v w:Â,fx P (ê #[pt,T] o.type #[v,w]):=by
  intro v w;cases v<;>first|exact iU _|skip
  rw[M6];exact fZ (E2 _) λn=>aef _ _ _
 have hk:∀(a:bE) (u:Æ) (n:Ο) (C:Æ),(ì a.eval o).run P u=ĥ n C->∃v,n=ï v:=by
  intro a u n C b;rw[he,Ä]at b;cases O:(ê #[pt,T] o.type #[a.eval qQ,a.eval y]).run P u with
  |ok v w=>rw[O]at b;cases b;exact⟨v,U⟩
  |halt z w=>rw[O]at b;cases b
 refine⟨?_,λa=>by rw[he];exact ln<|N _ _,λa u n C b=>Ç<|hk a u n C b,λa u f c C b=>by let⟨v,e⟩:=hk a u _ C b;cases e⟩;intro Y g t t' u w hz hb hG ht J hl z C b hc;have hx:=vF hG ht (Vw qQ<|by rw[W];simp[Ê,ô]);have Q:=vF hG ht (Vw y<|by rw[W];simp[Ê,ô]);rw[he]at b|-;generalize å ⟨t,[]⟩ qQ=v at hx b;generalize å ⟨t',[]⟩ qQ=v' at hx|-;generalize å ⟨t,[]⟩ y=l at Q b;generalize å ⟨t',[]⟩ y=l' at Q|-;have E:fB P ff Y (ê #[pt,T] o.type #[v,l]) (ê #[pt,T] o.type #[v',l'])->∃(K:fi) (x':Ο) (w':Æ) (S:Array ý),Y.r K/\(∀i j,K i j->Y i j\/(u.heap.size<=i/\w.heap.size<=j))/\(ê #[pt,T] o.type #[v',l']>>=λv=>pure (ï v):ē Ο).runT P w #[]=(ĥ x' w',#[]++S)/\oD K z x'/\iX K g C w'/\mY Y g w w'/\(∀e∈S,zD K g e)/\u.heap.size<=C.heap.size:= λh=>(mg h).fY J hl b #[];cases hx with
 |lj=>
  apply E;rw[M6,M6];apply fy (Mj Q);rintro Vx n _ _ rfl;by_cases B:n<0
  .let⟨c,k,q⟩:=Vr (pt:=pt) (p:=ë) B;rw[q];exact .nW (vp<|qE _)
  .by_cases d:n>Ŋ.max
   .let⟨c,q⟩:=Vt (pt:=pt) (p:=ë) B d;rw[q];exact .fI
   .by_cases D:n=0
    .rw[M5 B d D];exact .fw (.kD _)
    .let⟨c,q⟩:=aee (pt:=pt) B d D;rw[q];apply H7
 |jD F=>
  rename_i a a';cases Q with
  |iA k n=>
   by_cases B:n<0
   .apply E;let⟨c,k,q⟩:=Vr (pt:=pt) (p:=À a) B;rw[xL,xL,q];exact .nW (vp<|qE _)
   .by_cases d:n>Ŋ.max
    .apply E;let⟨c,q⟩:=Vt (pt:=pt) (p:=À a) B d;rw[xL,xL,q];exact .fI
    .by_cases D:n=0
     .apply E;rw[xL,xL,M5 B d D,M5 B d D];exact .fw (.kD _)
     .rw[xL,Vu pt a B d D]at b;rw[xL,Vu pt a' B d D];obtain⟨m,O⟩:∃m,n.toNat=m+1:=⟨n.toNat-1,Z⟩;rw[O]at b|-;cases L:(jr pt a<|m+1).run P u with
      |halt z w=>
       rw[Ä,Ä,L]at b;cases b
      |ok s u1=>
       obtain⟨rfl,Vy⟩:=aeh L;rw[Ä,Ä,L]at b;have zP:=b;cases zP;let⟨Vx,s',w1,es,k1,k2,k3,k4,k5,G,k7,k8⟩:=(aec pt F<|m+1).fY J hl L #[];have S:=k4;subst S;let⟨c,c',e,fr,vq,V,hw,rZ,_⟩:=J.r _ _ F.1;have Vz:a.spot=ë/\a.off<c.size:=by
        have H:=Vy;unfold ĕ at H;rw[Ä]at H;simp only[aW,ã]at H;cases I:u1.cell? a with
        |none=>
         rw[I]at H;simp only[ŋ,V]at H;cases H
        |some v=>
         rw[zE V]at I;cases n5:a.spot with
         |some qQ=>rw[n5]at I;cases I
         |none=>rw[n5]at I;exact⟨U,(Ë.1<|by simpa using I).1⟩
       have fits:∀c e fr,u1.heap[a.block]?=À (Č c e fr)->a.off+(m+1)<=c.size:=by intro c2 e2 pV d;rw[V]at d;injection d with d;injection d with q1 q2 q3;subst q1;exact aeg J (m+1) F Vz.1 Vy c e fr V<|Nat.le_of_lt Vz.2
       refine⟨Vx,ï<|ħ s,w1.freeze a'<|m+1,es,k1,k2,?_,.na (.kD s),k5.abh (F.r k1) (m+1) fits,?_,k7,by rw[H2];exact ß _⟩
       .show é P (ç (ç _ _) _) w #[]=_;rw[Ñ,Ñ,k3];rfl
       .refine⟨by rw[H2];exact G.r,abd.trans G.I,abe.trans G.M,Me.trans G.S,λj hj N=> ?_,λj hs hj=> ?_⟩
        .rw[H3 (λe=>N a.block<|by rw[<-e];exact F.1)];exact G.C j hj N
        .rw[H3 (λe=>(aed J F (aei hpt) L)<|by rwa[e])];exact G.N j hs hj
  |_=>exact E .fI
 |_=>exact E .fI
end
section
variable{Y:fi}{g:Nat->Prop}{i:à->Prop}{α:Type}
theorem aek(a:Ú):fx P (bl a):=by unfold bl;grind [gy,sT,ME,fZ]
theorem ael(a b:Ú):fx P (cI a b):=by unfold cI;grind [aek,gy,sT,fZ]
def aem(a b:Ú):fx P (Ŭ a b):=by unfold Ŭ;repeat' (first|(with_reducible first|exact ael _ _|exact gy _|exact rW _|exact ME _|exact Ur _|refine fZ ?_ (λ_=> ?_)|refine mG _ ?_)|split|rfl)
def VA(h:P.underlying t=À (ð e))(x y:Â):fx P (ó t x y):=by unfold ó ā Λ;refine vw h ?_;repeat' (first|(with_reducible first|exact aem _ _|exact gy _|exact iU _|exact rW _|exact sV _|refine fZ ?_ λ_=> ?_)|contradiction|split)
def aen{a:ġ}(b:a=az\/a=aK)(h:P.underlying t=À (ð e))(x y:Â):fx P (Ũ a t x y):=by
 have c:=VA h x y;rcases b with rfl|rfl;all_goals
  unfold Ũ;repeat' (first|(with_reducible first|exact VA h _ _|exact gy _|exact iU _|exact MK _ _ _ _|exact UL _ _ _ _ _ _|exact UM _ _ _|exact MP _ _ _|refine fZ ?_ λ_=> ?_)|contradiction|split)
def xM(u:Æ)(r:Nat):Prop:=∃c e a,u.heap[r]?=À (Č c e a)/\a.2<=c.size
def IC(a:Ú)(u:Æ)(b:Array ý):(eL a).runT P u b=(ĥ (u.frozen? a) u,b):=rfl
def IF{r:Nat}(h:u.heap[r]?=À (Č d e xJ))(a:Array ý):(cm r).runT P u a=(ĥ (À (e,d.size)) u,a):=by simp only[cm,é,Θ,h]
def VB(h:xM u a.block)(b:Array ý):(bl a).runT P u b=(ĥ (u.frozen? a) u,b):=by
 let⟨c,e,f,d,g⟩:=h;unfold bl;show é P (ç _ _) u b=_;rw[Ñ,IC];cases i:u.frozen? a with
 |true=>rfl
 |false=>
  simp only[Å,if_false];show é P (ç _ _) u b=_;rw[Ñ,IF d];simp only[];rw[IC];have:u.frozen? {block:=a.block,off:=c.size}=Ã:=by simp only[Ĉ,d];simp;omega
  rw[this]
def VC(f:u.heap[a.block]?=À (Č d e xJ))(g:xJ.2<=d.size)(b:u.frozen? a=É):d.size≠0:=by simp only[Ĉ,f]at b;simp at b;omega
def aeo(i:xM u a.block)(j:xM u p.block)(k:(u.frozen? a&&u.frozen? p)=Ã)(g:Array ý):(cI a p).runT P u g=(ĥ Ã u,g):=by
 have q:=i;have r:=j;let⟨c,e,w,l,s⟩:=q;let⟨d,f,x,m,t⟩:=r;unfold cI;show é P (ç _ _) u g=_;rw[Ñ,VB i];simp only[];show é P (ç _ _) u g=_;rw[Ñ,VB j];simp only[];show é P (ç (ç _ _) _) u g=_;rw[Ñ,Ñ,IF l];simp only[];show é P (ç (ç _ _) _) u g=_;rw[Ñ,Ñ,IF m];simp only[];congr 2;cases o:u.frozen? a with
 |true=>
  rw[o]at k;have h:u.frozen? p=Ã:=by simpa using k
  have:=VC l s o;simp only[h];cases v:c.size with
  |zero=>exact absurd v this
  |succ n=>rfl
 |false=>
  cases h:u.frozen? p with
  |true=>
   have:=VC m t h;cases v:d.size with
   |zero=>exact absurd v this
   |succ n=>rfl
  |false=>rfl
def VD(h:xM u a.block)(b:Array ý):(aX a).runT P u b=(ĥ () u,b):=by let⟨c,e,f,d,g⟩:=h;unfold aX dh;show é P (ç (ç _ _) _) u b=_;rw[Ñ,Ñ,IF d];rfl
def VE(e:xM u a.block)(f:xM u p.block)(c:Array ý):(Ŭ a p).runT P u c= if(a.block==p.block)=É then(ĥ (a==p) u,c)else if(u.frozen? a&&u.frozen? p)=É then(bU (ŀ .addressObserved) u,c)else(ĥ Ã u,c):=by
 unfold Ŭ;by_cases h:(a.block==p.block)=É
 .simp_all
 .rw[if_neg h,if_neg h];show é P (ç _ _) u c=_;rw[Ñ,IC];simp only[];show é P (ç _ _) u c=_;rw[Ñ,IC];simp only[];by_cases d:(u.frozen? a&&u.frozen? p)=É
  .simp_all
  .rw[if_neg d,if_neg d];show é P (ç _ _) u c=_;rw[Ñ,VD e];simp only[];show é P (ç _ _) u c=_;rw[Ñ,VD f];simp only[];show é P (ç _ _) u c=_;rw[Ñ,aeo e f (by simpa using d)];rfl
end
section
variable{Y:fi}{g:Nat->Prop}{j:à->Prop}
def aep{d:dE}(h:P.underlying t=À d)(u:Æ)(a:Array ý):(ø t).runT P u a=(ĥ d u,a):=by unfold ø;simp_all
theorem aer(h:P.info? t=À zJ)(u:Æ)(a:Array ý):(ax t).runT P u a=(ĥ zJ.size u,a):=by
 unfold ax;show é P (ç _ _) u a=_;rw[Ñ];have:(Δ t).runT P u a=(ĥ zJ u,a):=by unfold Δ;simp_all
 rw[this];rfl
theorem VF(h:P.underlying t=À (ð e))(d:P.info? e=À zJ)(f:zJ.size≠0)(a b:Ú)(u:Æ)(c:Array ý):(ó t (Þ<|À a)<|Þ<|À b).runT P u c=(Ŭ a b).runT P u c:=by unfold ó ā Λ;show é P (ç _ _) u c=_;rw[Ñ,aep h];simp only[];show é P (ç _ _) u c=_;grind [Ñ,aer]
def ie(a:ġ)(r:Bool):Bool:=if a=az then r else !r
def VG{d:ġ}(k:d=az\/d=aK)(h:P.underlying t=À (ð e))(g:P.info? e=À zJ)(j:zJ.size≠0)(x y:Ö)(a b:Ú)(u:Æ)(c:Array ý): ((ŷ d t x y (Þ<|À a) (Þ<|À b)>>=λ_=>Ũ d t (Þ<|À a)<|Þ<|À b)>>=λv=>pure (ï v):ē Ο).runT P u c= match(Ŭ a b).runT P u c with
 |(ĥ r u',f)=>(ĥ (ï<|Ľ<|ie d r) u',f)
 |(bU z u',f)=>(bU z u',f):=by
 rcases k with rfl|rfl
 .show é P (ç (ç (ó t (Þ<|À a)<|Þ<|À b) λr=>aH<|Ľ r) λv=>aH<|ï v) u c=_;rw[Ñ,Ñ,VF h g j];cases(Ŭ a b).runT P u c with
  |mk r f=>cases r<;>rfl
 .show é P (ç (ç (ó t (Þ<|À a)<|Þ<|À b) λr=>aH<|Ľ !r) λv=>aH<|ï v) u c=_;rw[Ñ,Ñ,VF h g j];cases(Ŭ a b).runT P u c with
  |mk r f=>cases r<;>rfl
theorem aes{m:ġ}{r:Á}{y:Ö}(E:o.op=dR m t qQ y r)(H:m=az\/m=aK)(h:P.underlying t=À (ð e))(T:P.info? e=À zJ)(V:zJ.size≠0)(I:∀z∈o.op.operands,lS X z):mh P X j o:=by
 have J:∀B:Ö->Â,ì B o=((ŷ m t qQ y (B qQ) (B y)>>=λ_=>Ũ m t (B qQ)<|B y)>>=λv=>pure<|ï v):=by intro B;unfold ì;rw[E]
 have W:∀(a:bE) (u:Æ) (n:Ο) (s:Æ),(ì a.eval o).run P u=ĥ n s->∃v,n=ï v:=by
  intro a u n s k;rw[J,Ä]at k;cases C:(ŷ m t qQ y (a.eval qQ) (a.eval y)>>=λ_=>Ũ m t (a.eval qQ)<|a.eval y).run P u with
  |ok v w=>rw[C]at k;cases k;exact⟨v,U⟩
  |halt z w=>rw[C]at k;cases k
 refine⟨?_,λa=> ?_,λa u n s k=>Ç<|W a u n s k,λa u f c s k=>by let⟨v,e⟩:=W a u _ s k;cases e⟩
 .intro Y g D VH u w K hb L M p hl z s k hc;have N:=vF L M (I qQ<|by rw[E];simp[Ê]);have O:=vF L M (I y<|by rw[E];simp[Ê]);by_cases Q:mF (å ⟨D,[]⟩ qQ)\/mF (å ⟨D,[]⟩ y)
  .have hOk:jT P (å ⟨D,[]⟩) o.op:=by
    rw[E];exact .Cc m t qQ y r λ_=>Î ⟨⟨e,h⟩,Q⟩
   exact(T1 K p.C hb (λf=>rfl) hOk λz K=>vF L M<|I z K).fY p hl k hc #[]
  .have n1:=λq=>Q<|Ç q;have n2:=λq=>Q<|Î q;rw[J]at k|-;generalize å ⟨D,[]⟩ qQ=v at N k n1;generalize å ⟨VH,[]⟩ qQ=v' at N|-;generalize å ⟨D,[]⟩ y=l at O k n2;generalize å ⟨VH,[]⟩ y=l' at O|-;cases N<;>first|exact absurd trivial n1|skip
   cases O<;>first|exact absurd trivial n2|skip
   rename_i a a' F b b' G;have fit:∀{c S:Ú},gS Y c S->xM u c.block/\xM w S.block:=by intro c S hcc;let⟨d,d',e2,fr,vq,hu,hw,rZ,o7,M7,hfr⟩:=p.r _ _ hcc.1;refine⟨⟨d,e2,fr,hu,hfr⟩,d',e2,vq,hw,?_⟩;refine õ ?_ rZ.I;grind
   let⟨fa,fa'⟩:=fit F;let⟨fb,fb'⟩:=fit G;rw[<-Ρ P _ u #[],VG H h T V,VE fa fb]at k;rw[VG H h T V,VE fa' fb'];rw[<-(H9 p.C F G),<-(TN p.C F G)];by_cases q:(a.block==b.block)=É
   .rw[if_pos q]at k|-;cases k;exact⟨Y,_,w,#[],fi.M _,λ_ _ q=>Ç q,U,.na (.lQ _),p,mY.fO _ _ _,λ_ C=>absurd C fg,ß _⟩
   .rw[if_neg q]at k|-;by_cases q2:(u.frozen? a&&u.frozen? b)=É
    .grind
    .rw[if_neg q2]at k;have q3:¬(w.frozen? a'&&w.frozen? b')=É:=by
      intro q4;let⟨z1,z2⟩:=Ü.1 q4;exact q2<|Ü.2 ⟨p.G F z1,p.G G z2⟩
     rw[if_neg q3];cases k;exact⟨Y,_,w,#[],fi.M _,λ_ _ q=>Ç q,U,.na (.lQ _),p,mY.fO _ _ _,λ_ C=>absurd C fg,ß _⟩
 .rw[J];exact ln<|fZ (UQ m t (λ_=>Î ⟨e,h⟩) qQ y _ _) λ_=>aen H h _ _
end
def M8(P:Õ)(s d:Á):Bool:=match P.underlying s,P.underlying d with
 |some (df e),À ę=>(match P.underlying e with|some (Β .u8)=>É|_=>Ã)
 |some (ð _),À đ=>É
 |some đ,À (ð _)=>É
 |_,_=>Ã
def M9(P:Õ)(t:Á):Bool:=match P.underlying t with
 |some (ð e)=>(match P.info? e with|some i=>i.size !=0|none=>Ã)
 |_=>Ã
def Na(P:Õ)(b:à->Bool)(c:Callee)(a:List Ö)(d:List Á):Bool:=match c with
 |ĝ .min=>a.length !=0
 |ĝ bk=>a.length==1
 |ĝ cU=>a.length==2&&(match d with|[t,_]=>IB P t|_=>Ã)
 |cg (aN f)=>b f&&a.length==1
 |_=>Ã
def Nb(P:Õ)(a:à->Bool):Op->Bool
 |cH _ _|.panic _=>É
 |dR c t _ _ _=>(c==az||c==aK)&&M9 P t
 |aL s d _=>M8 P s d
 |Ω c=>Na P a c.callee c.args.toList c.argTypes.toList
 |_=>Ã
def Ck(P:Õ)(a:Nat->Bool)(b c:à->Bool)(o:au):Bool:=M4 P a b o||(Nb P c o.op&&o.op.operands.all (vH a))
def E9(P:Õ)(c:à->Bool):Prop:=∀f,c f=É->∃a e,P.funcs[f]?=À a/\(a.name== "runtime.NumGoroutine")=Ã/\a.body.isNone=É/\Extern.findNext a=ë/\Extern.find a=À e/\
 (∀(Y:fi) (v b:Â),ff Y v b->fB P ff Y (e #[v]) (e #[b]))/\∀v,fx P<|e #[v]
theorem IG[zz P]{g:Nat->Bool}{k x:à->Bool}(C:E9 P x)(h:Ck P g k x o=É):mh P (λj=>g j=É) (λf=>k f=É) o:=by
 rcases Ŝ.1 h with h|h
 .exact adG h
 .let⟨v,S⟩:=Ü.1 h;have q:∀z∈o.op.operands,lS (λj=>g j=É) z:=by
   grind [ŉ,Iy,Ń]
  cases n:o.op with
  |makeInterface t y=>exact adH n q
  |panic y=>exact adK n q
  |binOp w t a b r=>
   rw[n]at v;let⟨T,m⟩:=Ü.1 (show((w==az||w==aK)&&M9 P t)=É from v);have D:w=az\/w=aK:=by grind
   unfold M9 at m;split at m
   .rename_i e E;split at m
    .rename_i i F;exact aes n D E F (by simpa using m) q
    .cases m
   .cases m
  |convert s d y=>
   rw[n]at v;have m:M8 P s d=É:=v;unfold M8 at m;split at m
   .rename_i e u p;split at m
    .rename_i G;exact adU n u p G q
    .cases m
   .rename_i t u p;exact Vo n (Ç ⟨u,p⟩) q
   .rename_i t u p;exact Vo n (Î ⟨u,p⟩) q
   .cases m
  |call c=>
   rw[n]at v;let⟨H,I,B⟩:=c;have m:Na P x H I.toList B.toList=É:=v;unfold Na at m;split at m
   .exact adQ n q
   .obtain⟨y,rfl⟩:=IA m;exact ad3 n q
   .let⟨u,p⟩:=Ü.1 m;obtain⟨y,z,rfl⟩:=M3 u;let⟨l⟩:=B;match l,p with
    |[t1,t2],p=>exact aej n p q
   .rename_i f;let⟨u,p⟩:=Ü.1 m;obtain⟨y,rfl⟩:=IA p;let⟨V,e,J,K,L,M,N,O,Q⟩:=C f u;exact adV n J K L M N O Q q
   .cases m
  |_=>rw[n]at v;simp[Nb]at v
def nh(P:Õ)(a:Nat->Bool)(b d:à->Bool):aj->Bool
 |.ret|eM|dX _|eO _|eP _=>É
 |.seq x y=>nh P a b d x&&nh P a b d y
 |bx c x y=>vH a c&&nh P a b d x&&nh P a b d y
 |dY _ c|eN c|dZ c=>nh P a b d c
 |bP _ c _=>c.all<|Ck P a b d
 |dq _=>É
 |_=>Ã
def uJ[zz P]{g:Nat->Bool}{k x:à->Bool}(a:E9 P x):∀{c:aj},nh P g k x c=É->kx P (λj=>g j=É) (λf=>k f=É) c
 |.ret,_=> .uE
 |eM,_=> .rU
 |dX l,_=> .vx l
 |eO l,_=> .vB l
 |eP l,_=> .vC l
 |.seq y z,h=>by let⟨f,i⟩:=Ü.1 (show(nh P g k x y&&nh P g k x z)=É from h);exact .qH (uJ a f) (uJ a i)
 |bx c y z,h=>by let⟨f,i⟩:=Ü.1 (show(vH g c&&nh P g k x y&&nh P g k x z)=É from h);let⟨j,f⟩:=Ü.1 f;exact .sW (Iy j) (uJ a f) (uJ a i)
 |dY id c,h=> .qI id (uJ a<|show nh P g k x c=É from h)
 |eN c,h=> .vy (uJ a<|show nh P g k x c=É from h)
 |dZ c,h=> .vA (uJ a<|show nh P g k x c=É from h)
 |bP id ops d,h=> .sX id d λo f=>by obtain⟨i,j,rfl⟩:=ŉ.1 f;exact IG a<|Ń.1 (show ops.all (Ck P g k x)=É from h) i j
 |.rangeFunc _ _ _ _,h=>by simp[nh]at h
 |dq w,_=> .oF w
end Go.Proofs.Y.Lift
namespace Go.Proofs.Y.fv
open Go Go.Conc Go.Proofs.Y.Lift
def pW(t:ğ)(g:Nat)(l:dP):Prop:=∀p a,Ě t p=À a->a.loc=l->bC t g p
def oI(t:ğ)(g:Nat)(l:dP):Prop:=∀p a,Ě t p=À a->a.loc=l->a.write=É->bC t g p
def pW.r{t:ğ}{l:dP}(h:pW t i l):oI t i l:=λp a b c _=>h p a b c
section
variable{t u:ğ}{g:Nat}{l:dP}
theorem mo{a:dK}(h:Ě (t++u) i=À a):(i<t.size/\Ě t i=À a)\/(t.size<=i/\∃x∈u,x.act.touch?=À a/\(t++u)[i]?=À x):=by
 let⟨x,c,d⟩:=dL h;rcases getElem?_append_cases c with⟨b,e⟩|⟨b,f⟩
 .exact Ç ⟨b,by rwa[touchAt_of e]⟩
 .grind
theorem pW.C(h:pW t g l)(j:∀c∈u,∀b,c.act.touch?=À b->b.loc=l->c.g=g):pW (t++u) g l:=by
 intro p a e f;rcases mo e with⟨_,d⟩|⟨_,c,d,k,i⟩
 .exact(h p a d f).app u
 .have:=bm i;grind
theorem oI.r(h:oI t g l)(k:∀c∈u,∀b,c.act.touch?=À b->b.loc=l->b.write=É->c.g=g):oI (t++u) g l:=by
 intro p a e f i;rcases mo e with⟨_,d⟩|⟨_,c,d,m,j⟩
 .exact(h p a d f i).app u
 .have:=bm j;grind
def pW.xy(h:∀p a,Ě t p=À a->a.loc≠l):pW t g l:=λp a b c=>absurd c<|h p a b
theorem Nc(h:∀c,¬eC c t)(l:∀d∈u,d.g=g)(m:∀d∈u,∀b,d.act.touch?=À b->(b.write=Ã/\oI t g b.loc)\/pW t g b.loc\/(b.kind=Ŕ/\∀p a,Ě t p=À a->a.loc=b.loc->a.kind=eV->bC t g p)):∀c,¬eC c (t++u):=by
 intro c;refine noRace_append (h c) l λi a f d n b o r=> ?_;let⟨j,v,e,w⟩:=r;rcases m d n b o with⟨s,k⟩|q|⟨s,k⟩
 .rcases e with e|e
  .exact k i a f j e
  .grind
 .exact q i a f j
 .grind
theorem zR(f:∀c,¬eC c t)(r:∀d∈u,d.act.touch?=ë):∀c,¬eC c (t++u):=by
 intro c;rintro⟨i,j,g,⟨a,b,h,k,l⟩,m,n⟩;rcases mo k with⟨s,e⟩|⟨_,d,e,v,_⟩
 .rcases mo h with⟨o,p⟩|⟨o,_⟩
  .exact f c ⟨i,j,g,⟨a,b,p,e,l⟩,λq=>m<|ec u q,λq=>n<|ec u q⟩
  .omega
 .grind
end
structure e5 where
 O:Nat->Prop
 I:Nat->Prop
 r:Ú->Prop
 N:Ú->Prop
 K:Ú->Prop
 d:Nat
 q:Prop
 w:Æ
def e5.M(l:e5):Nat->Prop:=λj=>l.O j\/l.I j
def e5.C(l:e5):Ú->Prop:=λa=>l.r a\/l.N a
structure fD(l:e5)(w w₁:Æ):Prop where
 r:w.heap.size<=w₁.heap.size
 I:∀j,l.M j->w₁.heap[j]?=w.heap[j]?
 N:∀a,l.C a->w₁.cell? a=w.cell? a
 Y:∀a,l.C a->w₁.frozen? a=w.frozen? a
 S:∀a,l.K a->(w.cell? a).isSome=É->(w₁.cell? a).isSome=É
theorem fD.fO(l:e5)(w:Æ):fD l w w:=⟨ß _,λ_ _=>rfl,λ_ _=>rfl,λ_ _=>rfl,λ_ _ h=>h⟩
def fD.e8{l:e5}{c:Æ}(h:fD l w u)(k:fD l u c):fD l w c:= ⟨õ h.r k.r,λj d=>(k.I j d).trans<|h.I j d,λj d=>(k.N j d).trans<|h.N j d,λj d=>(k.Y j d).trans<|h.Y j d,λw e q=>k.S w e<|h.S w e q⟩
def kE(w:Æ)(b:Nat):Option (Nat×Nat):=match w.heap[b]? with
 |some (Č _ _ fr)=>À fr
 |_=>ë
def vI{w':Æ}(h:w'.heap[b]?=w.heap[b]?):kE w' b=kE w b:=by unfold kE;rw[h]
theorem VI(w:Æ)(a:Ú):w.frozen? a=match kE w a.block with
 |some (lo,hi)=>decide (lo<=a.off)&&decide (a.off<hi)
 |none=>Ã:=by
 unfold Ĉ kE;grind
def IH(h:kE u a.block=kE w a.block):u.frozen? a=w.frozen? a:=by rw[VI,VI,h]
def xN(l:e5)(e:ý):Prop:=
 (∃a:Ú,e.loc=û a/\(l.O a.block\/l.r a\/((l.I a.block\/l.N a)/\e.write=Ã/\e.sync=Ã)))\/e.loc=ů c9\/(∃f,e.loc=ů (.extern f))\/e.loc=ů cJ\/e.loc=ů dw\/
 ∃a:Ú,l.O a.block/\(e.loc=ů (.read a)\/e.loc=ů (.write a)\/e.loc=ů (Ķ a)\/e.loc=ů (cK a))
structure lT(l l':e5)(w w':Æ)(es:Array ý):Prop where
 C:w.heap.size<=w'.heap.size
 S:∀j,l'.O j->l.O j\/w.heap.size<=j
 fl:∀j,l'.O j->j<w'.heap.size
 I:l'.I=l.I
 r:l'.r=l.r
 M:l'.N=l.N
 k:l'.K=l.K
 jF:∀j,j<w.heap.size->¬l.O j->(∀a:Ú,a.block=j->¬l.r a)->w'.heap[j]?=w.heap[j]?
 N:∀a:Ú,a.block<w.heap.size->¬l.O a.block->¬l.r a->w'.cell? a=w.cell? a
 Y:∀a:Ú,a.block<w.heap.size->¬l.O a.block->kE w' a.block=kE w a.block
 f:w'.os=w.os
 g:w'.output=w.output
 m:w'.tape=w.tape
 c:∀e∈es,xN l' e
 h:l'.d=ŭ l.d es
 q:l'.q=l.q
 i:l.q->w'=w/\(∀e∈es,e.mute=É)/\l'.O=l.O
 b:l'.w=w'
structure Nd(t:ğ)(g:Nat)(l:e5):Prop where
 fh:∀a:Ú,l.O a.block->pW t g (û a)
 C:∀a:Ú,l.I a.block->oI t g (û a)
 I:∀a:Ú,l.r a->pW t g (û a)
 r:∀a:Ú,l.N a->oI t g (û a)
theorem VJ{l:e5}{e:ý}(h:xN l e){b:dK}(c:(è e).touch?=À b):∃a:Ú,b.loc=û a/\(l.O a.block\/l.r a\/((l.I a.block\/l.N a)/\b.write=Ã)):=by
 let⟨k,i,j⟩:=e;rcases h with⟨a,g,d⟩|h|⟨f,h⟩|h|h|⟨a,g,d⟩
 .simp only at g d;subst g;have:(è ⟨û a,i,j⟩).touch?=À ⟨û a,i,if j then Ŕ else eV⟩:=U;grind
 .simp only at h;subst h;simp[è,ÿ]at c
 .simp only at h;subst h;simp[è,ÿ]at c
 .simp only at h;subst h;simp[è,ÿ]at c
 .simp only at h;subst h;simp[è,ÿ]at c
 .simp only at d;rcases d with rfl|rfl|rfl|rfl<;>simp[è,ÿ]at c<;>subst c;all_goals grind
def aeu{l:e5}(d:∀j,l.O j->j<i)(k:∀j,l.I j->j<i)(g:∀a:Ú,l.C a->a.block<i){e:ý}(h:xN l e):(è e).low i:=by
 let⟨m,n,o⟩:=e;rcases h with⟨a,c,b⟩|h|⟨f,h⟩|h|h|⟨a,c,b⟩
 .simp only at c b;subst c;rcases b with h|h|⟨h|h,_⟩
  .exact d _ h
  .exact g _<|Ç h
  .exact k _ h
  .exact g _<|Î h
 .simp only at h;subst h;trivial
 .simp only at h;subst h;trivial
 .simp only at h;subst h;trivial
 .simp only at h;subst h;trivial
 .simp only at b;rcases b with rfl|rfl|rfl|rfl<;>exact d _ c
def VK(B:Nat)(t:ğ):Prop:=∀a∈t,a.act.low B
def VL(h:VK i qJ){a:dK}(g:Ě qJ n=À a){x:Ú}(d:a.loc=û x):x.block<i:=by
 let⟨f,j,b⟩:=dL g;have c:=h f<|Û j;revert b c;cases f.act with
 |access e=>
  intro b c;simp only[ÿ,ž]at b;subst b;simp only at d;simp only[MemAct.low,d,Loc.low]at c;exact c
 |mark m=>
  intro b c;cases m<;>simp[ÿ]at b;all_goals
   subst b;simp only[Loc.cell.injEq]at d;subst d;exact c
 |_=>intro b _;simp[ÿ]at b
theorem nH{a:String}:∀op∈Í i F a V,op.g=i:=λop b=>by obtain⟨e,_,rfl⟩:=í (op:=op) b;rfl
structure iJ(B0:Nat)(Live:Nat->Prop)(Y:Nat->Prop)(lot:Nat->e5)(w:Æ)(t:ğ):Prop where
 o:∀i j,Live i->Live j->i≠j->∀b,(lot i).O b->¬(lot j).M b
 h:∀i j,Live i->Live j->i≠j->∀a,(lot i).r a->¬(lot j).C a
 m:∀i,Live i->∀b,(lot i).O b->¬(lot i).I b
 g:∀i,Live i->∀a,(lot i).r a->¬(lot i).N a
 I:∀i,Live i->∀b,(lot i).M b->¬Y b
 e:∀i,Live i->∀a,(lot i).C a->Y a.block
 fl:∀i,Live i->∀b,(lot i).M b->b<w.heap.size
 N:∀b,Y b->b<w.heap.size
 r:∀i,Live i->fD (lot i) (lot i).w w
 S:∀i,Live i->Nd t i (lot i)
 f:∀i,Live i->Τ t i=(lot i).d
 l:∀said,¬eC said t
 q:VK w.heap.size t
 s:∀p a c,Ě t p=À a->a.loc=.obj c->a.kind=eV->c<B0
 n:∀i,Live i->∀a,(lot i).K a->Y a.block/\∀k,Live k->¬(lot k).r a
def gf(lot:Nat->e5)(i:Nat)(l:e5):Nat->e5:=λk=>if k=i then l else lot k
theorem gN(a:Nat->e5)(i:Nat)(l:e5):gf a i l i=l:=if_pos U
theorem gA(a:Nat->e5)(l:e5)(h:k≠i):gf a i l k=a k:=if_neg h
section
variable{B0:Nat}{Live Y:Nat->Prop}{lot:Nat->e5}{w':Æ}{t u:ğ}
def Nf{g:Nat}(a:k≠g)(t:ğ){u:ğ}(b:∀c∈u,c.g=g):Τ (t++u) k=Τ t k:= Deaf_other t (g:=k) (g':=g) (ą a) _ b
def iJ.at(h:iJ B0 Live Y lot w t)(d:Nat):iJ B0 Live Y lot (w.at d) t:= ⟨h.o,h.h,h.m,h.g,h.I,h.e,h.fl,h.N,λi a=>⟨(h.r i a).r,(h.r i a).I,(h.r i a).N,(h.r i a).Y,(h.r i a).S⟩,h.S,h.f,h.l,h.q,h.s,h.n⟩
def iJ.aev(h:iJ B0 Live Y lot w t)(r:Live i){s:e5}(l:lT (lot i) s w w' V)(E:à)(F:String): iJ B0 Live Y (gf lot i s) w' (t++Í i E F V):=by
 have G:=l.S;have Q:∀b,s.M b->(lot i).M b\/w.heap.size<=b:=λb g=>g.elim (λq=>(G b q).imp Ç id) (λq=>Ç<|Î<|by rwa[<-l.I]);have J:∀a,s.C a↔(lot i).C a:=λa=>by unfold e5.C;rw[l.r,l.M]
 have I:=λk f a d=>h.N _<|h.e k f a d;have L:∀k,Live k->k≠i->∀b,(lot k).M b->¬s.O b:=by
  intro k f y b g c;rcases G b c with q|q
  .exact h.o i k r f (ą y) b q g
  .have:=h.fl k f b g;omega
 have H:∀m∈Í i E F V,∀b,m.act.touch?=À b->∃a:Ú,b.loc=û a/\(s.O a.block\/s.r a\/((s.I a.block\/s.N a)/\b.write=Ã)):=by intro m o b g;obtain⟨e,N,rfl⟩:=í o;exact VJ (l.c e N) g
 have T:∀a:Ú,s.O a.block->pW t i (û a):=by
  intro a d;rcases G _ d with q|q
  .exact(h.S i r).fh a q
  .exact .xy λp x P n=>by have:=VL h.q P n;omega
 have D:Nd t i s:=⟨T,λa d=>(h.S i r).C a (by rwa[<-l.I]),λa d=>(h.S i r).I a (by rwa[<-l.r]),λa d=>(h.S i r).r a<|by rwa[<-l.M]⟩;refine⟨?_,?_,?_,?_,?_,?_,?_,λb g=>Ô (h.N b g) l.C,?_,?_,?_,?_,?_,?_,?_⟩
 .intro k j f u y b g;by_cases c:k=i
  .subst c;rw[gN]at g;rw[gA lot _<|ą y];exact λq=>L j u (ą y) b q g
  .rw[gA lot _ c]at g;by_cases v:j=i
   .subst v;rw[gN];intro q;rcases Q b q with z|z
    .exact h.o k j f u y b g z
    .have:=h.fl k f b<|Ç g;omega
   .rw[gA lot _ v];exact h.o k j f u y b g
 .intro k j f u y a d;by_cases c:k=i
  .subst c;rw[gN,l.r]at d;rw[gA lot _<|ą y];exact h.h k j f u y a d
  .rw[gA lot _ c]at d;by_cases v:j=i
   .subst v;rw[gN,J];exact h.h k j f u y a d
   .rw[gA lot _ v];exact h.h k j f u y a d
 .intro k f b g;by_cases c:k=i
  .subst c;rw[gN]at g|-;rw[l.I];rcases G b g with z|z
   .exact h.m k f b z
   .intro q;have:=h.fl k f b<|Î q;omega
  .rw[gA lot _ c]at g|-;exact h.m k f b g
 .intro k f a d;by_cases c:k=i
  .subst c;rw[gN]at d|-;rw[l.M];rw[l.r]at d;exact h.g k f a d
  .rw[gA lot _ c]at d|-;exact h.g k f a d
 .intro k f b g;by_cases c:k=i
  .subst c;rw[gN]at g;rcases Q b g with z|z
   .exact h.I k f b z
   .intro y;have:=h.N b y;omega
  .rw[gA lot _ c]at g;exact h.I k f b g
 .intro k f a d;by_cases c:k=i
  .subst c;rw[gN,J]at d;exact h.e k f a d
  .rw[gA lot _ c]at d;exact h.e k f a d
 .intro k f b g;by_cases c:k=i
  .subst c;rw[gN]at g;exact g.elim (l.fl b) λq=>Ô (h.fl k f b<|Î<|by rwa[<-l.I]) l.C
  .rw[gA lot _ c]at g;exact Ô (h.fl k f b g) l.C
 .intro k f;by_cases c:k=i
  .subst c;rw[gN,l.b];exact fD.fO _ _
  .rw[gA lot _ c];refine(h.r k f).e8 ⟨l.C,λb g=>l.jF b (h.fl k f b g) (λq=>h.o i k r f (ą c) b q g) (λa d q=>h.I k f b g<|by rw[<-d];exact h.e i r a<|Ç q),λa d=>l.N a (I k f a d) (λq=>h.I i r _ (Ç q)<|h.e k f a d) λq=>h.h i k r f (ą c) a q d,λa d=>IH (l.Y a (I k f a d) λq=>h.I i r _ (Ç q)<|h.e k f a d),λa d q=> ?_⟩;let⟨y,v⟩:=h.n k f a d;rwa[l.N a (h.N _ y) (λq=>h.I i r _ (Ç q) y)<|v i r]
 .intro k f;by_cases c:k=i
  .subst c;rw[gN];exact⟨λa d=>(D.fh a d).C λm o _ _ _=>nH m o,λa d=>(D.C a d).r λm o _ _ _ _=>nH m o,λa d=>(D.I a d).C λm o _ _ _=>nH m o,λa d=>(D.r a d).r λm o _ _ _ _=>nH m o⟩
  .rw[gA lot _ c];have W:∀a:Ú,(lot k).O a.block->∀m∈Í i E F V,∀b,m.act.touch?=À b->b.loc=û a->False:=by
    intro a d m o b g n;let⟨x,y,v⟩:=H m o b g;rw[y]at n;injection n with n;subst n;rcases v with q|q|⟨q|q,_⟩
    .exact L k f c _ (Ç d) q
    .exact h.I k f _ (Ç d)<|h.e i r x<|Ç<|by rwa[<-l.r]
    .exact h.o k i f r c _ d<|Î<|by rwa[<-l.I]
    .exact h.I k f _ (Ç d)<|h.e i r x<|Î<|by rwa[<-l.M]
   have X:∀a:Ú,(lot k).I a.block->∀m∈Í i E F V,∀b,m.act.touch?=À b->b.loc=û a->b.write=É->False:=by
    intro a d m o b g n B;let⟨x,y,v⟩:=H m o b g;rw[y]at n;injection n with n;subst n;rcases v with q|q|⟨_,q⟩
    .exact L k f c _ (Î d) q
    .exact h.I k f _ (Î d)<|h.e i r x<|Ç<|by rwa[<-l.r]
    .rw[q]at B;cases B
   have S:∀a:Ú,(lot k).C a->∀m∈Í i E F V,∀b,m.act.touch?=À b->b.loc=û a->(s.I a.block\/s.N a)/\b.write=Ã:=by
    intro a d m o b g n;let⟨x,y,v⟩:=H m o b g;rw[y]at n;injection n with n;subst n;rcases v with q|q|q
    .exfalso;rcases G _ q with z|z
     .exact h.I i r _ (Ç z)<|h.e k f x d
     .have:=I k f x d;omega
    .exact absurd d<|h.h i k r f (ą c) x<|by rwa[<-l.r]
    .exact q
   refine⟨λa d=>((h.S k f).fh a d).C λm o b g n=>(W a d m o b g n).elim,λa d=>((h.S k f).C a d).r λm o b g n B=>(X a d m o b g n B).elim,λa d=>((h.S k f).I a d).C λm o b g n=> ?_,λa d=>((h.S k f).r a d).r λm o b g n B=> ?_⟩
   .exfalso;obtain⟨q|q,_⟩:=S a (Ç d) m o b g n
    .exact h.I i r _ (Î<|by rwa[<-l.I])<|h.e k f a<|Ç d
    .exact h.h k i f r c a d<|Î<|by rwa[<-l.M]
   .have:=(S a (Î d) m o b g n).2;rw[this]at B;cases B
 .intro k f;by_cases c:k=i
  .subst c;rw[gN,l.h,Deaf_own,h.f k f]
  .rw[gA lot _ c,Nf c t nH];exact h.f k f
 .refine Nc h.l nH λm o b g=> ?_;let⟨a,y,v⟩:=H m o b g;rw[y];rcases v with q|q|⟨q,B⟩
  .exact Î<|Ç<|D.fh a q
  .exact Î<|Ç<|D.I a q
  .exact Ç ⟨B,q.elim (D.C a)<|D.r a⟩
 .intro m o;rcases Ĝ.1 o with q|q
  .exact MemAct.low_mono l.C<|h.q m q
  .obtain⟨e,N,rfl⟩:=í q;refine aeu l.fl (λj u=>Ô (h.fl i r j<|Î<|by rwa[<-l.I]) l.C) (λa d=> ?_)<|l.c e N;rw[J]at d;exact Ô (I i r a d) l.C
 .intro p a c d n f;rcases mo d with⟨_,y⟩|⟨_,m,y,v,_⟩
  .exact h.s p a c y n f
  .let⟨x,P,_⟩:=H m y a v;rw[P]at n;cases n
 .intro k f a d;have y:∀j,(gf lot i s j).r=(lot j).r:=λj=>by
   by_cases e:j=i
   .subst e;rw[gN,l.r]
   .rw[gA lot _ e]
  have c:(gf lot i s k).K=(lot k).K:=by
   by_cases e:k=i
   .subst e;rw[gN,l.k]
   .rw[gA lot _ e]
  rw[c]at d;exact⟨(h.n k f a d).1,λj u=>by rw[y];exact(h.n k f a d).2 j u⟩
end
def Fa(Live Y:Nat->Prop)(d:Nat->e5)(b:dK):Prop:=(∃a:Ú,b.loc=û a/\Y a.block/\∀k,Live k->¬(d k).C a)\/∃c,b.loc=.obj c/\Y c/\b.kind=Ŕ
structure pb(Live Y:Nat->Prop)(lot:Nat->e5)(w w':Æ):Prop where
 r:w'.heap.size=w.heap.size
 jF:∀j,¬Y j->w'.heap[j]?=w.heap[j]?
 M:∀k,Live k->∀a,(lot k).C a->w'.cell? a=w.cell? a
 N:∀k,Live k->∀a,(lot k).C a->w'.frozen? a=w.frozen? a
 I:∀a,(w.cell? a).isSome=É->(w'.cell? a).isSome=É
theorem pb.fO(Live Y:Nat->Prop)(a:Nat->e5)(w:Æ):pb Live Y a w w:=⟨U,λ_ _=>rfl,λ_ _ _ _=>rfl,λ_ _ _ _=>rfl,λ_ h=>h⟩
structure uK(w':Æ)(l l':e5):Prop where
 O:l'.O=l.O
 N:l'.I=l.I
 r:l'.r=l.r
 I:l'.N=l.N
 K:l'.K=l.K
 w:l'.w=l.w\/l'.w=w'
theorem uK.fO(w':Æ)(l:e5):uK w' l l:=⟨U,U,U,U,U,Ç U⟩
def uK.M{w':Æ}{l a:e5}(h:uK w' l a):a.M=l.M:=by unfold e5.M;rw[h.O,h.N]
def uK.C{w':Æ}{l a:e5}(h:uK w' l a):a.C=l.C:=by unfold e5.C;rw[h.r,h.I]
def fD.aew{l c:e5}(h:uK w l c)(r:fD l u W):fD c u W:= ⟨r.r,by rw[h.M];exact r.I,by rw[h.C];exact r.N,by rw[h.C];exact r.Y,by rw[h.K];exact r.S⟩
section
variable{Live Y:Nat->Prop}{lot o:Nat->e5}{w':Æ}{t u:ğ}
def iJ.G(h:iJ n Live Y lot w t)(m:∀k,uK w' (lot k)<|o k)(s:pb Live Y lot w w')(B:∀l∈u,∀b,l.act.touch?=À b->Fa Live Y lot b)(g:∀l∈u,l.act.low w.heap.size)(E:∀F,¬eC F (t++u))(G:∀k,Live k->Τ (t++u) k=(o k).d):iJ n Live Y o w' (t++u) where
 o i j hi v kT b q:=by rw[(m j).M];exact h.o i j hi v kT b<|by rwa[<-(m i).O]
 h i j hi v kT a f:=by rw[(m j).C];exact h.h i j hi v kT a<|by rwa[<-(m i).r]
 m i hi b q:=by rw[(m i).N];exact h.m i hi b<|by rwa[<-(m i).O]
 g i hi a f:=by rw[(m i).I];exact h.g i hi a<|by rwa[<-(m i).r]
 I i hi b q:=h.I i hi b (by rwa[<-(m i).M]);e i hi a f:=h.e i hi a (by rwa[<-(m i).C]);fl i hi b q:=by rw[s.r];exact h.fl i hi b<|by rwa[<-(m i).M]
 N b q:=by rw[s.r];exact h.N b q
 r i hi:=by
  rcases(m i).w with e|e
  .rw[e];refine((h.r i hi).e8 ⟨dx s.r.symm,λj v=>s.jF j<|h.I i hi j v,λa f=>s.M i hi a f,λa f=>s.N i hi a f,λa _=>s.I a⟩).aew<|m i
  .rw[e];exact fD.fO _ _
 S i hi:=by
  have z:∀a:Ú,(lot i).M a.block->∀l∈u,∀b,l.act.touch?=À b->b.loc=û a->False:=by
   intro a f l e b q g;rcases B l e b q with⟨x,r,y,_⟩|⟨c,r,_⟩
   .rw[r]at g;injection g with g;subst g;exact h.I i hi _ f y
   .rw[r]at g;cases g
  have D:∀a:Ú,(lot i).C a->∀l∈u,∀b,l.act.touch?=À b->b.loc=û a->False:=by
   intro a f l e b q g;rcases B l e b q with⟨x,r,_,y⟩|⟨c,r,_⟩
   .rw[r]at g;injection g with g;subst g;exact y i hi f
   .rw[r]at g;cases g
  exact⟨λa f=>((h.S i hi).fh a<|by rwa[<-(m i).O]).C λl e b q g=>(z a (Ç<|by rwa[<-(m i).O]) l e b q g).elim,λa f=>((h.S i hi).C a<|by rwa[<-(m i).N]).r λl e b q g _=>(z a (Î<|by rwa[<-(m i).N]) l e b q g).elim,λa f=>((h.S i hi).I a<|by rwa[<-(m i).r]).C λl e b q g=>(D a (Ç<|by rwa[<-(m i).r]) l e b q g).elim,λa f=>((h.S i hi).r a<|by rwa[<-(m i).I]).r λl e b q g _=>(D a (Î<|by rwa[<-(m i).I]) l e b q g).elim⟩
 f:=G;l:=E;q l e:=by rw[s.r];exact(Ĝ.1 e).elim (h.q l)<|g l
 s p a c f g z:=by
  rcases mo f with⟨_,r⟩|⟨_,l,r,y,_⟩
  .exact h.s p a c r g z
  .rcases B l r a y with⟨x,D,_⟩|⟨x,_,_,D⟩
   .rw[D]at g;cases g
   .rw[D]at z;cases z
 n i hi a f:=by rw[(m i).K]at f;exact⟨(h.n i hi a f).1,λk z=>by rw[(m k).r];exact(h.n i hi a f).2 k z⟩
end
structure gl(l:e5):Prop where
 c:∀b,l.O b->¬l.I b
 Y:∀a,l.r a->¬l.N a
 N:∀a,l.C a->¬l.M a.block
 fl:∀b,l.M b->b<l.w.heap.size
 I:∀a,l.C a->a.block<l.w.heap.size
 S:∀a,l.K a->¬l.M a.block/\a.block<l.w.heap.size/\¬l.r a
def iJ.M{Live Y:Nat->Prop}{c:Nat->e5}(h:iJ n Live Y c w qJ)(b:Live i):gl {c i with w:=w} where
 c:=h.m i b;Y:=h.g i b;N a ha hb:=h.I i b _ hb<|h.e i b a ha;fl:=h.fl i b;I a ha:=h.N _<|h.e i b a ha;S a ha:=⟨λq=>h.I i b _ q (h.n i b a ha).1,h.N _ (h.n i b a ha).1,(h.n i b a ha).2 i b⟩
abbrev Jd:=e5->Ó->Prop
inductive fe(P:Õ)(main:Bool)(Stop:Jd):Jd
 |fu {l:e5} {g:Ó} (h:∀w₁,fD l l.w w₁->Stop {l with w:=w₁} g):fe P main Stop l g
 |jA {l:e5} {g:Ó} (G':Æ->Ó) (W':Æ->Æ) (E':Æ->Array ý) (L':Æ->e5) (iB:g.status=Ð)
  (h:∀w₁,fD l l.w w₁->Ù P main g w₁=aR (G' w₁) (W' w₁) (E' w₁)) (hd:∀w₁,fD l l.w w₁->lT l (L' w₁) w₁ (W' w₁) (E' w₁))
  (ih:∀w₁,fD l l.w w₁->fe P main Stop (L' w₁) (G' w₁)):fe P main Stop l g
instance:Nonempty e5:=⟨⟨λ_=>False,λ_=>False,λ_=>False,λ_=>False,λ_=>False,0,False,default⟩⟩
instance:Nonempty (Goroutine×World×Array Event×e5):=⟨(default,default,#[],Classical.choice inferInstance)⟩
section
variable{main:Bool}{Stop m:Jd}
def fe.mk{l:e5}(i:g.status=Ð) (h:∀a,fD l l.w a->∃b c d e,Ù P main g a=aR b c d/\lT l e a c d/\fe P main Stop e b):fe P main Stop l g:=by
 let p:=λ(a:Æ) (x:Goroutine×World×Array Event×e5)=>Ù P main g a=aR x.1 x.2.1 x.2.2.1/\lT l x.2.2.2 a x.2.1 x.2.2.1/\fe P main Stop x.2.2.2 x.1
 have f:∀a,fD l l.w a->p a (Classical.epsilon<|p a):=λa r=>Classical.epsilon_spec (let⟨b,c,d,e,h⟩:=h a r;⟨(b,c,d,e),h⟩);exact .jA (λa=>(Classical.epsilon<|p a).1) (λa=>(Classical.epsilon<|p a).2.1) (λa=>(Classical.epsilon<|p a).2.2.1) (λa=>(Classical.epsilon<|p a).2.2.2) i (λa r=>(f a r).1) (λa r=>(f a r).2.1) λa r=>(f a r).2.2
def fe.jM{l:e5}{w₁:Æ}(h:fe P main Stop l g)(r:fD l l.w w₁):fe P main Stop {l with w:=w₁} g:=by
 have e:∀{a b:Æ},fD {l with w:=w₁} a b->fD l a b:=λq=>⟨q.r,q.I,q.N,q.Y,q.S⟩;cases h with
 |fu h=>exact .fu λc d=>h c<|r.e8<|e d
 |jA f i j m n h o p=>
  exact .jA f i j m n (λc d=>h c<|r.e8<|e d) (λc d=>let q:=o c<|r.e8<|e d;⟨q.C,q.S,q.fl,q.I,q.r,q.M,q.k,q.jF,q.N,q.Y,q.f,q.g,q.m,q.c,q.h,q.q,q.i,q.b⟩) λc d=>p c<|r.e8<|e d
def fe.fH(a:∀l g,Stop l g->m l g){l:e5}(h:fe P main Stop l g):fe P main m l g:=by
 induction h with
 |fu h=>exact .fu λb r=>a _ _<|h b r
 |jA b r c d e h f _ i=>exact .jA b r c d e h f i
def fe.e8{l:e5}(h:fe P main (fe P main Stop) l g):fe P main Stop l g:=by
 induction h with
 |fu h=>exact h _<|fD.fO _ _
 |jA a b c d e h f _ i=>exact .jA a b c d e h f i
def fe.lR(a:∀l g,Stop l g->fe P main m l g){l:e5}(h:fe P main Stop l g):fe P main m l g:=(h.fH a).e8
end
inductive gh where
 |fu:gh
 |jA (k:Æ->gh):gh
def VM(x:gh):gh->Prop
 |.fu=>False
 |.jA k=>∃w,x=k w
def VN:WellFounded VM:=⟨λa=>by
 induction a with
 |fu=>exact⟨_,λy h=>h.elim⟩
 |jA k b=>exact⟨_,λy ⟨w,h⟩=>h▸b w⟩⟩
def kJ(P:Õ)(b:Bool)(c:Jd):gh->Jd
 |.fu,l,g=>∀a,fD l l.w a->c {l with w:=a} g
 |.jA k,l,g=>g.status=Ð/\∀a,fD l l.w a->∃d e f h,Ù P b g a=aR d e f/\lT l h a e f/\kJ P b c (k a) h d
section
variable{main:Bool}{Stop:Jd}
theorem jb{l:e5}(h:fe P main Stop l g):∃tr,kJ P main Stop tr l g:=by
 induction h with
 |fu h=>exact⟨.fu,h⟩
 |@jA l g G' W' E' L' iB h hd _ ih=>
  have b:∀a,∃tr,fD l l.w a->kJ P main Stop tr (L' a) (G' a):=by
   intro a;by_cases r:fD l l.w a
   .grind
   .exact⟨.fu,λq=>absurd q r⟩
  refine⟨.jA λa=>Classical.choose<|b a,iB,λa r=>⟨G' a,W' a,E' a,L' a,h a r,hd a r,Classical.choose_spec (b a) r⟩⟩
end
theorem aex{l:e5}{b:Nat->Prop}(d:∀j,X j->l.O j)(f:∀j,b j->l.I j){e:ý}(h:It X b e):xN l e:=by
 rcases h with⟨a,c,g,i⟩|h|h
 .refine Ç ⟨a,c,?_⟩;grind
 .exact Î<|Ç h
 .exact Î<|Î<|Ç h
theorem aey{b:Nat->Prop}(h:∀e∈V,It X b e)(d:Nat):ŭ d V=d:=by refine bn (λe c=> ?_) d;rcases h e c with⟨a,g,_⟩|h|⟨f,h⟩;all_goals grind
theorem gE{w':Æ}(h:w'.heap[a.block]?=w.heap[a.block]?):w'.cell? a=w.cell? a:=by unfold Ġ;rw[h]
def vK(h:u.heap[a.block]?=w.heap[a.block]?):u.frozen? a=w.frozen? a:=by unfold Ĉ;rw[h]
def aez{t:(Nat->Prop)->Ó->Æ->Prop}{O:Nat->Prop}(h:uG P yQ X t O g w):∀l:e5,l.w=w->(∀j,O j->l.O j)->(∀j,X j->l.I j)->(∀j,l.O j->j<w.heap.size)->¬l.q-> fe P yQ (λa b=>∃f,t f b a.w/\(∀j,O j->f j)/\(∀j,f j->a.O j)/\(∀j,l.O j->a.O j)/\(∀j,a.O j->l.O j\/f j)/\(∀j,a.O j->l.O j\/w.heap.size<=j)/\a.I=l.I/\a.r=l.r/\a.N=l.N/\a.d=l.d/\a.q=l.q/\a.K=l.K) l g:=by
 induction h with
 |@fu O g w h=>
  intro l e i m _ _;refine .fu λb r=>⟨O,h b ⟨by rw[<-e];exact r.r,λj c=>by rw[r.I j (c.elim (λq=>Ç<|i j q) λq=>Î<|m j q),e]⟩,λ_ q=>q,i,λ_ q=>q,λ_ q=>Ç q,λ_ q=>Ç q,U,U,U,U,U,U⟩
 |@jA O g w G' W' E' f iB h hd _ ih=>
  intro l e i m C u;refine .mk iB λb r=> ?_;have n:xG (λj=>O j\/X j) w b:=⟨by rw[<-e];exact r.r,λj c=>by rw[r.I j (c.elim (λq=>Ç<|i j q) λq=>Î<|m j q),e]⟩;have D:=hd b n;have o:=n.r;have v:∀j,(l.O j\/f b j)->j<(W' b).heap.size:=λj c=>c.elim (λq=>Ô (C j q)<|õ o D.r)<|D.fl j;have p:∀j,j<b.heap.size->¬l.O j->(W' b).heap[j]?=b.heap[j]?:=λj c k=>D.jF j c λq=>k<|i j q;refine⟨G' b,W' b,E' b,{l with O:=λj=>l.O j\/f b j,w:=W' b},h b n,⟨D.r,λj c=>c.elim Ç λq=>(D.I j q).imp (i j) id,v,U,U,U,U,λj c k _=>p j c k,λa s k _=>gE<|p _ s k,λa s k=>vI<|p _ s k,D.N,D.S,D.Y,λx E=>aex (l:={l with O:=λj=>l.O j\/f b j,w:=W' b}) (λj q=>Î q) m<|D.C x E,(aey D.C _).symm,U,λq=>absurd q u,U⟩,?_⟩;have:=ih b n {l with O:=λj=>l.O j\/f b j,w:=W' b} U (λj q=>Î q) m v u;apply this.fH;rintro N Q ⟨F,G,B,H,I,J,L,M⟩;refine⟨F,G,λj q=>B j<|D.M j q,H,λj q=>I j<|Ç q,λj q=> ?_,λj q=> ?_,M⟩
  .rcases J j q with(z|z)|z
   .exact Ç z
   .exact Î<|B j z
   .exact Î z
  .rcases L j q with(z|z)|z
   .exact Ç z
   .rcases D.I j z with y|y
    .exact Ç<|i j y
    .exact Î<|õ o y
   .exact Î<|õ (õ o D.r) z
def kg(a:Ú):ý:=⟨û a,Ã,É⟩
def mq(a:Ú):ý:=⟨û a,É,É⟩
def jG(m:Mark):ý:=⟨ů m,Ã,É⟩
def fS:Int:=4294967296
def Cl(c:Nat):Array ý:=#[⟨.obj c,Ã,É⟩,⟨.obj c,É,É⟩]
section
variable(P:Õ)(main:Bool)
def Fb(m:Mark)(N:Jd):Jd:=λl g=>g.status=Ð/\∃a,(∀b,Ù P main g b=aR a b #[jG m])/\fe P main N l a
def VO(a:Ú)(N:Int->Jd):Jd:=λl g=>g.status=Ð/\∀v,∃c,(∀b:Æ,b.cell? a=À (Ć æ v)->Ù P main g b=aR c b #[kg a])/\fe P main (N v) l c
def Ng(a:Ú)(d:Int)(N:Int->Jd):Jd:=λl g=>g.status=Ð/\∀v,∃c,(∀b:Æ,b.cell? a=À (Ć æ v)->b.frozen? a=Ã->Ù P main g b=aR c (b.setCell a<|Ć æ<|æ.wrap<|v+d) #[kg a,mq a])/\N (æ.wrap<|v+d) l c
def aeA(a:Ú)(v:Int)(N:Jd):Jd:=λl g=>g.status=Ð/\∃c,(∀(b:Æ) (x:Int),b.cell? a=À (Ć æ x)->b.frozen? a=Ã->Ù P main g b=aR c (b.setCell a<|Ć æ v) #[mq a])/\fe P main N l c
def aeB(a:Ú)(N:Jd):Jd:=λl g=>g.status=Ð/\g.offers=ë/\(∀b:Æ,b.cell? a=À (Ć ŗ 0)->Ù P main g b=aR {g with status:=Ů} b #[])/\
 ∃c,(∀(b:Æ) (n:Int),n≠0->b.cell? a=À (Ć ŗ n)->b.frozen? a=Ã->Ù P main g b=aR c (b.setCell a<|Ć ŗ<|n-1) (semEvents a))/\fe P main N l c
def aeC(a:Ú)(N:Jd):Jd:=λl g=>g.status=Ð/\mayWake P g=É/\∃c,c.status=Ð/\(∀(b:Æ) (n:Int),b.cell? a=À (Ć ŗ n)->b.frozen? a=Ã->Ù P main g b=aR c (b.setCell a<|Ć ŗ<|ŗ.wrap<|n+1) (semEvents a))/\N l c
def vL(c:Nat)(z:Â)(N:Option Â->Jd):Jd:=λl g=>g.status=Ð/\g.offers=ë/\(∀x,Ù P main g x=.comm g #[θ c z] É (.recv É) x #[])/\
 ∀x:Option Â,fe P main (N x) l {g with frame:=g.frame.finish (ſ #[x.getD z,Ľ x.isSome])}
def zS(c:Nat)(v:Â)(N:Jd):Jd:=λl g=>g.status=Ð/\g.offers=ë/\(∀a,∃b,Ù P main g a=.comm g #[scase c v b] É .send a #[])/\fe P main N l {g with frame:=g.frame.finish ľ}
def IJ(c:Nat)(N:Jd):Jd:=λl g=>g.status=Ð/\mayWake P g=É/\∃a,a.status=Ð/\(∀(b:Æ) cap buf s r tm,b.heap[c]?=À (χ cap buf Ã s r tm)->Ù P main g b=aR a (b.setChan c cap buf É s r tm) (Cl c))/\fe P main N l a
def oJ(n:Nat):Jd:=λl g=>QuitsD P n l.d g
inductive SP where
 |fT (n:Nat)
 |ld (v:Int) (m:Nat)
def Cm(a:Ú)(B:Nat)(d e:Int->Jd)(p:SP):Jd:=λl g=>∃T:SP->Ó->Prop,T p g/\∀p g,T p g->g.status=Ð/\match p with
 |.fT (n+1)=>n+1<=B/\(T (.fT 0) g\/∀b,∃c,Ù P main g b=aR c b #[]/\T (.fT n) c)
 |.fT 0=>∀v,∃c,(∀b:Æ,b.cell? a=À (Ć æ v)->Ù P main g b=aR c b #[kg a])/\(if 0<=v/\v<fS then v<1000000->fe P main (d v) l c else(fS<=v/\v<fS*2147483648/\v%fS<1000000)->∃m,m<=B/\T (.ld v m) c)
 |.ld v (m+1)=>fS<=v/\m+1<=B/\(T (.ld v 0) g\/∀b,∃c,Ù P main g b=aR c b #[]/\T (.ld v m) c)
 |.ld v 0=>fS<=v/\(∃c,(∀b:Æ,b.cell? a=À (Ć æ v)->b.frozen? a=Ã->Ù P main g b=aR c (b.setCell a<|Ć æ<|æ.wrap<|v+1) #[kg a,mq a])/\fe P main (e v) l c)/\
  ∃c,(∀(b:Æ) (x:Int),x≠v->b.cell? a=À (Ć æ x)->b.frozen? a=Ã->Ù P main g b=aR c b #[kg a])/\∃n,n<=B/\T (.fT n) c
end
section
variable{P:Õ}{main:Bool}
def IK{e f:Int->Jd}{p:SP}{l:e5}{w₁:Æ}(h:Cm P main a i e f p l g)(r:fD l l.w w₁):Cm P main a i e f p {l with w:=w₁} g:=by
 let⟨T,o,h⟩:=h;refine⟨T,o,λp g j=>⟨(h p g j).1,?_⟩⟩;have:=(h p g j).2;match p,this with
 |.fT (n+1),q=>exact q
 |.fT 0,q=>
  intro v;let⟨c,d,b⟩:=q v;refine⟨c,d,?_⟩;by_cases k:0<=v/\v<fS
  .rw[if_pos k]at b|-;exact λq=>(b q).jM r
  .rw[if_neg k]at b|-;exact b
 |.ld v (m+1),q=>exact q
 |.ld v 0,⟨q0,⟨c,d,b⟩,q⟩=>exact⟨q0,⟨c,d,b.jM r⟩,q⟩
end
inductive ik where
 |no|il|sd (c:Nat) (z:Â)
inductive vM(g0:Ó):ik->Ó->Prop
 |fY {k:ik}:vM g0 k g0
 |ni (h:g0.status=Ð) (ho:g0.offers=ë):vM g0 .il {g0 with status:=Ů}
 |sZ (c:Nat) (z:Â) (h:g0.status=Ð):vM g0 (.sd c z) (Γ g0 #[θ c z]<|.recv É)
 |mJ (c:Nat) (z:Â) (h:g0.status=Ð):vM g0 (.sd c z) {Γ g0 #[θ c z] (.recv É)with status:=Ð}
section
variable{P:Õ}
theorem aeD(h:g.status=Ð\/g.status=Ğ)(w:Æ):g.again w=g:=by unfold ι;grind
theorem Nh{a o:Ó}(h:o.status=Ð\/o.status=Ğ):ţ P g a w o=o:=by unfold ţ;grind [aeD]
def vM.Fc{g0 a b:Ó}{k:ik}(h:vM g0 k g)(d:g0.status=Ð\/g0.status=Ğ):vM g0 k (ţ P a b w g):=by
 cases h with
 |fY=>rw[Nh d];exact .fY
 |ni h c=>
  unfold ţ;split
  .have:ι w {g0 with status:=Ů}=g0:=by
    let⟨z,e,st,f,i⟩:=g0;simp only at h c;subst h c;rfl
   rw[this];exact .fY
  .exact .ni h c
 |sZ c z h=>
  unfold ţ;split
  .unfold ι Γ;simp only[];split
   .exact .mJ c z h
   .exact .sZ c z h
  .exact .sZ c z h
 |mJ c z h=>
  rw[Nh<|Ç U];exact .mJ c z h
end
structure gD(P:Õ)(B0:Nat)(Y:Nat->Prop)(S:Nat->Jd)(tr:Nat->gh)(kp:Nat->ik)(lot:Nat->e5)(gs:Array Ó)(w:Æ)(t:ğ):Prop where
 r:iJ B0 (λi=>i<gs.size) Y lot w t
 C:∀i g,gs[i]?=À g->∃g0,kJ P (i==0) (S i) (tr i) (lot i) g0/\vM g0 (kp i) g/\(g0.status=Ð\/g0.status=Ğ)/\(g=g0\/tr i=.fu)
 I:∀j,gs.size<=j->Τ t j=0
def fq{α:Type}(f:Nat->α)(i:Nat)(x:α):Nat->α:=λk=>if k=i then x else f k
theorem gw{α:Type}(f:Nat->α)(i:Nat)(x:α):fq f i x i=x:=if_pos U
theorem fC{α:Type}(f:Nat->α)(x:α)(h:k≠i):fq f i x k=f k:=if_neg h
section
variable{P:Õ}{B0:Nat}{Y:Nat->Prop}{S:Nat->Jd}{tr:Nat->gh}{kp:Nat->ik}{lot:Nat->e5}{gs:Array Ó}{w':Æ}{t:ğ}{sl:Option (Nat×Nat)}
theorem Ni{a:Ó}(b:gs[i]?=À g)(h:Ù P (i==0) g w=aR a w' V): ∃gs',cV P (ķ gs w sl) i=(ň<|ķ gs' w' sl,Í i g.frame.fn g.frame.place V)/\gs'.size=gs.size/\gs'[i]?=À a/\∀k,k≠i->gs'[k]?=gs[k]?.map (ţ P g a w'):=by refine⟨_,runT_crowd_go b h,fg,by simp[(Ë.1 b).1],λk c=> ?_⟩;grind
def gD.at(a:gD P B0 Y S tr kp lot gs w t)(d:Nat):gD P B0 Y S tr kp lot gs (w.at d) t:=⟨a.r.at d,a.C,a.I⟩
theorem gD.VP(f:gD P B0 Y S tr kp lot gs w t){a:Ó}{J:Jd}{T:gh}{K:ik}{d:e5}(h:gs[i]?=À g)(o:Ù P (i==0) g w=aR a w' V) (B:iJ B0 (λi=>i<gs.size) Y (gf lot i d) w' (t++Í i g.frame.fn g.frame.place V)) (hF:kJ P (i==0) J T d a) (p:a.status=Ð\/a.status=Ğ): ∃b,cV P (ķ gs w sl) i=(ň<|ķ b w' sl,Í i g.frame.fn g.frame.place V)/\b.size=gs.size/\b[i]?=À a/\(∀k,k≠i->b[k]?=gs[k]?.map (ţ P g a w'))/\ gD P B0 Y (fq S i J) (fq tr i T) (fq kp i K) (gf lot i d) b w' (t++Í i g.frame.fn g.frame.place V):=by
 obtain⟨b,q,r,l,m⟩:=Ni h o;have C:=(Ë.1 h).1;refine⟨b,q,r,l,m,?_,λk x c=> ?_,λj D=> ?_⟩
 .grind
 .by_cases e:k=i
  .subst e;rw[l]at c;obtain rfl:=Ĥ c;rw[gw,gw,gw,gN];exact⟨a,hF,.fY,p,Ç U⟩
  .rw[m k e]at c;obtain⟨y,s,rfl⟩:=ģ.1 c;rw[fC S _ e,fC tr _ e,fC kp _ e,gA lot _ e];let⟨g0,u,v,n,z⟩:=f.C k y s;refine⟨g0,u,v.Fc n,n,z.imp (λe=> ?_) id⟩;grind [Nh]
 .rw[Nf Z t nH];exact f.I j Z
theorem aeE{J:Jd}{k:Æ->gh}{l:e5}(h:kJ P yQ J (.jA k) l g):g.status=Ð:=h.1
def gD.fh(f:gD P B0 Y S tr kp lot gs w t){k:Æ->gh}(m:gs[i]?=À g)(n:tr i=.jA k)(s:∀l g,S i l g->g.status=Ð\/g.status=Ğ): ∃c w' d h,cV P (ķ gs w sl) i=(ň<|ķ c w' sl,Í i g.frame.fn g.frame.place d)/\c.size=gs.size/\(∃b,c[i]?=À b/\(b.status=Ð\/b.status=Ğ))/\(∀k,k≠i->∃a j:Ó,c[k]?=gs[k]?.map (ţ P a j w'))/\lT (lot i) h w w' d/\ gD P B0 Y S (fq tr i<|k w) kp (gf lot i h) c w' (t++Í i g.frame.fn g.frame.place d):=by
 have o:=(Ë.1 m).1;let⟨g0,hF,F,_,u⟩:=f.C i g m;obtain rfl:g=g0:=u.resolve_right (by rw[n];simp);rw[n]at hF;let⟨G,hF⟩:=hF;let⟨b,w',d,h,v,p,e⟩:=hF w<|f.r.r i o;have q:b.status=Ð\/b.status=Ğ:=by
  cases j:k w with
  |fu=>rw[j]at e;exact s _ _<|e _<|fD.fO _ _
  |jA r=>rw[j]at e;exact Ç e.1
 obtain⟨c,x,y,z,B,r⟩:=f.VP m v (f.r.aev o p _ _) e q;refine⟨c,w',d,h,x,y,⟨b,z,q⟩,λj C=>⟨g,b,B j C⟩,p,?_⟩;have D:fq S i (S i)=S:=by funext j;unfold fq;split<;>simp[*]
 have E:fq kp i (kp i)=kp:=by funext j;unfold fq;split<;>simp[*]
 rwa[D,E]at r
theorem gD.pX(c:gD P B0 Y S tr kp lot gs w t){a:Ó}{J:Jd}{K:ik}{T:gh}(l:gs[i]?=À g)(m:Ù P (i==0) g w=aR a w' V)(n:pb (λi=>i<gs.size) Y lot w w') (hF:kJ P (i==0) J T {lot i with d:=ŭ (lot i).d V,w:=w'} a) (o:a.status=Ð\/a.status=Ğ) (p:∀e∈V,(∀b,(è e).touch?=À b->Fa (λi=>i<gs.size) Y lot b)/\(è e).low w.heap.size) (q:∀r,¬eC r (t++Í i g.frame.fn g.frame.place V)): ∃gs',cV P (ķ gs w sl) i=(ň<|ķ gs' w' sl,Í i g.frame.fn g.frame.place V)/\gs'.size=gs.size/\gs'[i]?=À a/\(∀k,k≠i->gs'[k]?=gs[k]?.map (ţ P g a w'))/\ gD P B0 Y (fq S i J) (fq tr i T) (fq kp i K) (gf lot i {lot i with d:=ŭ (lot i).d V,w:=w'}) gs' w' (t++Í i g.frame.fn g.frame.place V):=by
 refine c.VP l m (c.r.G (λk=> ?_) n (λh f b j=> ?_) (λh f=> ?_) q λk h=> ?_) hF o
 .by_cases e:k=i
  .subst e;rw[gN];exact⟨U,U,U,U,U,Î U⟩
  .grind [gA,uK.fO]
 .obtain⟨e,j,rfl⟩:=í f;grind
 .obtain⟨e,j,rfl⟩:=í f;exact(p e j).2
 .by_cases e:k=i
  .subst e;rw[gN,Deaf_own,c.r.f k h]
  .rw[gA lot _ e,Nf e t nH];exact c.r.f k h
def gD.Nj(h:gD P B0 Y S tr kp lot gs w t)(p:gs[i]?=À g)(x:i≠0)(l:g.status=Ð)(q:kp i=.no)(y:tr i=.fu)(z:S i=oJ P n): ∃c f b,n=b+1/\cV P (ķ gs w sl) i=(ň<|ķ c w sl,Í i g.frame.fn g.frame.place f)/\c.size=gs.size/\(∀k,k≠i->∃a e:Ó,c[k]?=gs[k]?.map (ţ P a e w))/\(∀e∈f,e.mute=É)/\ gD P B0 Y (fq S i<|oJ P b) tr kp (gf lot i {lot i with d:=ŭ (lot i).d f,w:=w}) c w (t++Í i g.frame.fn g.frame.place f):=by
 let⟨g0,hF,r,L,_⟩:=h.C i g p;have B:g=g0:=by
  rw[q]at r;cases r with
  |fY=>rfl
 subst B;rw[y,z]at hF;have s:=hF w<|h.r.r i<|(Ë.1 p).1;cases n with
 |zero=>rw[s.1]at l;cases l
 |succ n=>
  rcases s with⟨C,_⟩|⟨_,D,f,a,E,u⟩
  .rw[C]at l;cases l
  have m:(i==0)=Ã:=by simpa using x
  have F:fq kp i .no=kp:=by funext j;unfold fq;split<;>simp[*]
  have G:fq tr i .fu=tr:=by funext j;unfold fq;split<;>simp[*]
  obtain⟨c,H,I,_,K,v⟩:=h.pX (J:=oJ P n) (T:=.fu) p (by rw[m];exact E w) (pb.fO _ _ _ _) (λ_ _=>u) u.status (λe o=>⟨λb m=>(by rw[ef<|a e o]at m;cases m),low_mute (a e o) _⟩) (zR h.r.l λM b=>by obtain⟨e,o,rfl⟩:=í b;exact ef<|a e o);rw[F,G]at v;exact⟨c,f,n,U,H,I,λk q=>⟨g,D,K k q⟩,a,v⟩
end
def vN(u:ğ):Prop:=∀a∈u,a.act.touch?=ë/\∀m,a.act≠Ř m
theorem aeF(t:ğ)(a:cW)(b:a.act≠Ř cJ)(c:a.act≠Ř dw)(j:Nat):Τ (t.push a) j=Τ t j:=by
 have d:t.push a=t++#[a]:=fg
 unfold Τ;rw[d,show(t++#[a]).size=t.size+1 by simp];show(match(t++#[a])[t.size]? with
  |some {g:=h,act:=Ř cJ, .. }=>if h=j then(t++#[a]).deaf j t.size+1 else(t++#[a]).deaf j t.size
  |some {g:=h,act:=Ř dw, .. }=>if h=j then(t++#[a]).deaf j t.size-1 else(t++#[a]).deaf j t.size
  |_=>(t++#[a]).deaf j t.size)=_
 have e:(t++#[a])[t.size]?=À a:=fg
 rw[e];let⟨g,f,i,k⟩:=a;simp only at b c;split
 .grind
 .grind
 .exact cM<|ß _
def VQ(t:ğ):∀(u:List cW),(∀a∈u,a.act≠Ř cJ/\a.act≠Ř dw)->∀j,Τ (t++u.toArray) j=Τ t j
 |[],_,j=>by simp
 |a::u,h,j=>by
  have e:t++(a::u).toArray=(t.push a)++u.toArray:=by apply Array.ext';simp
  rw[e,VQ (t.push a) u (λx b=>h x<|by simp[b]) j];exact aeF t a (h a fg).1 (h a fg).2 j
def IL{u:ğ}(h:vN u)(j:Nat):Τ (qJ++u) j=Τ qJ j:=by have:=VQ qJ u.toList (λa b=>⟨(h a<|by simpa using b).2 _,(h a<|by simpa using b).2 _⟩) j;simpa using this
section
variable{S:Nat->Jd}{C:Nat->gh}{B:Nat->ik}{lot:Nat->e5}{u:ğ}{sl:Option (Nat×Nat)}
def iJ.aeG{Live:Nat->Prop}(h:iJ i Live X lot w qJ)(f:pb Live X lot w W)(c:vN u)(g:∀a∈u,a.act.low w.heap.size):iJ i Live X lot W (qJ++u):= h.G (λk=>uK.fO _ _) f (λa d b e=>by rw[(c a d).1]at e;cases e) g (zR h.l λa d=>(c a d).1) λk b=>by rw[IL c];exact h.f k b
def IN{Live:Nat->Prop}{r:Nat}{x:Bool}(y:X i)(p:w.heap[i]?=À (χ n d yQ j r x))(f g h:Nat)(l:Array Â)(m o:Bool):pb Live X lot w (w.setChan i f l m g h o):=by
 have q:∀b,b≠i->(w.setChan i f l m g h o).heap[b]?=w.heap[b]?:=λb u=>by unfold ar;simp only;exact Ï<|ą u
 have v:(w.setChan i f l m g h o).heap[i]?=À (χ f l m g h o):=by unfold ar;simp[(Ë.1 p).1]
 refine⟨by unfold ar;simp,λb u=>q b λe=>u<|e▸y,λk _ a _=> ?_,λk _ a _=> ?_,λa t=> ?_⟩
 .by_cases e:a.block=i
  .unfold Ġ;rw[e,v,p]
  .unfold Ġ;rw[q _ e]
 .by_cases e:a.block=i
  .unfold Ĉ;rw[e,v,p]
  .unfold Ĉ;rw[q _ e]
 .by_cases e:a.block=i
  .unfold Ġ at t;rw[e,p]at t;cases t
  .have:(w.setChan i f l m g h o).cell? a=w.cell? a:=by unfold Ġ;rw[q _ e]
   rwa[this]
def gD.G(b:gD P i X S C B lot E w qJ){J:Jd}{T:gh}{K:ik}(d:n<E.size)(f:pb (λn=>n<E.size) X lot w W)(c:vN u)(h:∀l∈u,l.act.low w.heap.size) (hF:kJ P (n==0) J T (lot n) g) (m:g.status=Ð\/g.status=Ğ): gD P i X (fq S n J) (fq C n T) (fq B n K) lot (E.setIfInBounds n g) W (qJ++u):=by
 refine⟨?_,λk x a=> ?_,λj o=> ?_⟩
 .rw[show(λj=>j<(E.setIfInBounds n g).size)=(λj=>j<E.size) by simp];exact b.r.aeG f c h
 .by_cases e:k=n
  .subst e;rw[Ò d]at a;obtain rfl:=Ĥ a;rw[gw,gw,gw];exact⟨_,hF,.fY,m,Ç U⟩
  .rw[Ï<|ą e]at a;rw[fC S _ e,fC C _ e,fC B _ e];exact b.C k x a
 .rw[IL c];exact b.I j<|by simpa using o
def Nk{γ δ:Type}{f:γ->List δ}:∀{l:List γ},(∀x∈l,f x=[])->l.flatMap f=[]
 |[],_=>rfl
 |x::l,h=>by rw[aU,h x fg,Nk λy a=>h y (by simp[a])];rfl
def xO(r:Nat)(b:Bool)(g:Ó):Prop:=g.status=Ů/\∃a d,g.offers=À (a,d)/\∃c∈a,(c.send.isSome==b)=É/\(match c.chan with|eh (À r')=>r'==r|_=>Ã)=É
theorem VR{r:Nat}{E:Array Ó}(h:∀(i:Nat) (g:Ó),E[i]?=À g->¬xO r yQ g):Η E r yQ=[]:=by
 unfold Η;refine Nk λx m=> ?_;let⟨g,i⟩:=x;have d:E[i]?=À g:=by grind
 simp only[];split
 .rename_i b e f j;rw[ai,Υ];intro y n a;let⟨c,k⟩:=y;have l:c∈b:=by
   grind
  simp only[ě]at a;exact h i g d ⟨f,b,e,j,c,l,a.1,by have:=a.2;revert this;cases c.chan<;>first|exact id|(rename_i q;cases q<;>exact id)⟩
 .rfl
def VS{γ δ:Type}(f:γ×Nat->List δ):∀(L:List γ) (n h:Nat) (x:γ),(∀y k,k≠h->(y,k)∈L.zipIdx n->f (y,k)=[])->n<=h->L[h-n]?=À x->(L.zipIdx n).flatMap f=f (x,h)
 |[],n,h,x,_,_,hx=>by simp at hx
 |a::L,n,h,x,hf,hn,hx=>by
  rw[Ĭ,aU];by_cases e:h=n
  .subst e;have:a=x:=by simpa using hx
   subst this;rw[Nk ?_,List.append_nil];intro y b;let⟨y,k⟩:=y;refine hf y k ?_ (by rw[Ĭ];exact ò _ b);have:=List.le_snd_of_mem_zipIdx b;simp only at this;omega
  .rw[hf a n Z (by rw[Ĭ];exact î ..),List.nil_append];refine VS f L (n+1) h x (λy k c b=>hf y k c<|by rw[Ĭ];exact ò _ b) Z ?_;have b:h-n=(h-(n+1))+1:=Z
   rw[b]at hx;simpa using hx
theorem aeH{E:Array Ó}(l:E[n]?=À g)(m:g.status=Ů)(o:g.offers=À (#[θ i z],.recv É))(p:∀(a:Nat) (b:Ó),a≠n->E[a]?=À b->¬xO i Ã b):Η E i Ã=[(n,0)]:=by
 unfold Η;have e:E.zipIdx.toList=E.toList.zipIdx:=fg
 rw[e];rw[VS _ E.toList 0 n g (λy k r B=> ?_) (dy _) (by simpa using l)]
 .simp[m,o,θ]
 .have s:E[k]?=À y:=by
   grind
  simp only[];split
  .rename_i j t u v;rw[ai,Υ];intro x C d;let⟨f,D⟩:=x;have w:f∈j:=by
    grind
   simp only[ě]at d;exact p k y r s ⟨u,j,t,v,f,w,d.1,by have:=d.2;revert this;cases f.chan<;>first|exact id|(rename_i q;cases q<;>exact id)⟩
  .rfl
theorem Nl(h:(E.setIfInBounds i ph)[k]?=À g):g.status=Ğ\/(k≠i/\E[k]?=À g):=by
 by_cases e:k=i
 .subst e;rw[Ś]at h;simp only[if_true]at h;split at h
  .left;obtain rfl:=Ĥ h;rfl
  .cases h
 .grind
theorem gD.Nn(l:gD P i X S C B lot E w qJ)(c a:Nat):Η (E.setIfInBounds a ph) c É=[]:=by
 refine VR λk x m=> ?_;rintro⟨d,p,r,b,n,f,o,_⟩;rcases Nl m with q|⟨_,q⟩
 .grind
 .let⟨g0,_,g,j,_⟩:=l.C k x q;generalize B k=K at g;cases g with
  |fY=>rw[d]at j;rcases j with e|e<;>cases e
  |ni h e=>simp only[e]at b;cases b
  |sZ e z h=>
   simp only[Γ,ž,Prod.mk.injEq]at b;rw[<-b.1]at f;have:n=θ e z:=by simpa using f
   subst this;cases o
  |mJ e z h=>cases d
def gD.Np(e:gD P i X S C B lot E w qJ){N:Option Â->Jd}(f:E[n]?=À g)(k:g.status=Ð)(l:B n=.sd j z)(m:C n=.fu)(o:S n=vL P (n==0) j z N): ∃a,kJ P (n==0) (S n) (C n) (lot n) a/\a.status=Ð/\a.offers=ë/\Ù P (n==0) g w=.comm a #[θ j z] É (.recv É) w #[]/\∀x:Option Â,fe P (n==0) (N x) (lot n) {a with frame:=a.frame.finish (ſ #[x.getD z,Ľ x.isSome])}:=by
 let⟨a,hF,b,_,_⟩:=e.C n g f;have p:=hF;rw[o,m]at hF;let⟨x,q,d,r⟩:=hF _<|fD.fO _ _;rw[l]at b;refine⟨a,p,x,q,?_,r⟩;cases b with
 |fY=>exact d w
 |sZ j z h=>cases k
 |mJ j z h=>rw[stepG_tries];rw[show({a with status:=Ð}:Ó)=a by cases a;simp only at x;subst x;rfl];exact d w
def xP{g0:Ó}{a:Array CommCase}{b:CommShape}{ok:Bool}(c:g0.status=Ð)(d:g0.offers=ë):g0.finishComm P a b h v ok={g0 with frame:=g0.frame.finish (commResult a b h v ok)}:=by let⟨f,a,st,e,o⟩:=g0;simp only at c d;subst c d;rfl
def gD.mK(e:gD P i X S C B lot E w qJ){N:Option Â->Jd}(h:E[n]?=À g)(G:g.status=Ð)(l:B n=.sd j z)(H:C n=.fu)(I:S n=vL P (n==0) j z N)(p:X j){r:Nat}{o:Bool}(q:w.heap[j]?=À (χ b d yQ m r o))(t:d[0]?=À v)(K:ik): ∃a u T f,cV P (ķ E w sl) n=(ň<|ķ a (w.setChan j b (d.extract 1 d.size) yQ m (r+1) o) sl,u)/\a.size=E.size/\a[n]?=À f/\f.status=Ð/\(∀k,k≠n->a[k]?=E[k]?)/\vN u/\ gD P i X (fq S n<|N<|À v) (fq C n T) (fq B n K) lot a (w.setChan j b (d.extract 1 d.size) yQ m (r+1) o) (qJ++u):=by
 have x:=(Ë.1 h).1;let⟨g0,_,f,y,J,L⟩:=e.Np h G l H I;have D:d.getD 0 ľ=v:=by simp[ĩ,t]
 have M:=crowd_recv_buf (sl:=sl) h J q ((Ë.1 t).1)<|e.Nn j n;let⟨T,O⟩:=jb<|L<|À v;refine⟨_,_,T,{g0 with frame:=g0.frame.finish (ſ #[v,Ľ É])},M,fg,?_,f,λk l=>Ï<|ą l,?_,?_⟩
 .rw[xP f y,D,Ò x];rfl
 .intro F a;simp[Í]at a;rcases a with rfl|rfl<;>exact⟨U,fg⟩
 .rw[xP f y,D];refine e.G x (IN p q _ _ _ _ _ _) ?_ ?_ O<|Ç f
  .intro F a;simp[Í]at a;rcases a with rfl|rfl<;>exact⟨U,fg⟩
  .intro F a;simp[Í]at a;rcases a with rfl|rfl<;>exact e.r.N j p
def gD.iV(e:gD P i X S C B lot E w qJ){N:Option Â->Jd}(h:E[n]?=À g)(q:g.status=Ð)(l:B n=.sd j z)(t:C n=.fu)(v:S n=vL P (n==0) j z N)(x:X j){r:Nat}(y:w.heap[j]?=À (χ b #[] É k r yQ))(K:ik): ∃d u T f,cV P (ķ E w sl) n=(ň<|ķ d w sl,u)/\d.size=E.size/\d[n]?=À f/\f.status=Ð/\(∀a,a≠n->d[a]?=E[a]?)/\vN u/\ gD P i X (fq S n<|N ë) (fq C n T) (fq B n K) lot d w (qJ++u):=by
 have m:=(Ë.1 h).1;let⟨g0,_,f,o,D,F⟩:=e.Np h q l t v;let⟨T,G⟩:=jb<|F ë;refine⟨_,_,T,{g0 with frame:=g0.frame.finish (ſ #[z,Ľ Ã])},crowd_recv_closed (sl:=sl) h D y<|e.Nn j n,fg,?_,f,λa l=>Ï<|ą l,?_,?_⟩
 .rw[xP f o,Ò m];rfl
 .intro p d;simp[Í]at d;subst d;exact⟨U,fg⟩
 .rw[xP f o];refine e.G m (pb.fO _ _ _ _) ?_ ?_ G<|Ç f
  .intro p d;simp[Í]at d;subst d;exact⟨U,fg⟩
  .intro p d;simp[Í]at d;subst d;exact e.r.N j x
def gD.aeI(f:gD P i X S C B lot E w qJ){N:Option Â->Jd}(m:E[n]?=À g)(u:g.status=Ð)(h:B n=.sd j z)(o:C n=.fu)(v:S n=vL P (n==0) j z N){r:Nat}(p:w.heap[j]?=À (χ b #[] Ã k r yQ)): ∃d e,cV P (ķ E w sl) n=(ň<|ķ d w sl,#[])/\d.size=E.size/\d[n]?=À e/\e.status=Ů/\(∀a,a≠n->d[a]?=E[a]?)/\gD P i X S C B lot d w qJ:=by
 have q:=(Ë.1 m).1;let⟨g0,hF,t,G,y,H⟩:=f.Np m u h o v;have D:=crowd_waits (sl:=sl) m y (λd e=>by
  have:d=θ j z:=by simpa using e
  subst this;exact⟨by simp[illMade,θ,p],by simp[ways,θ,p,f.Nn j n]⟩)
 refine⟨_,Γ g0 #[θ j z]<|.recv É,?_,fg,Ò q,U,λa h=>Ï<|ą h,?_,λa x l=> ?_,λd F=>f.I d<|by simpa using F⟩
 .rw[D];rfl
 .rw[show(λd=>d<(E.setIfInBounds n<|Γ g0 #[θ j z]<|.recv É).size)=(λd=>d<E.size) by simp];exact f.r
 .by_cases e:a=n
  .subst e;rw[Ò q]at l;obtain rfl:=Ĥ l;refine⟨g0,hF,?_,Ç t,Î o⟩;rw[h];exact .sZ j z t
  .rw[Ï<|ą e]at l;exact f.C a x l
def gD.iC(f:gD P i X S C B lot E w qJ){N:Jd}(h:E[n]?=À g)(l:B n=.no)(F:C n=.fu)(G:S n=zS P (n==0) b v N)(p:X b){r:Nat}(t:w.heap[b]?=À (χ m d Ã J r yQ))(H:d.size<m) (I:∀(k:Nat) (x:Ó),E[k]?=À x->¬xO b Ã x): ∃e u T a,cV P (ķ E w sl) n=(ň<|ķ e (w.setChan b m (d.push v) Ã (J+1) r yQ) sl,u)/\e.size=E.size/\e[n]?=À a/\a.status=Ð/\(∀k,k≠n->e[k]?=E[k]?)/\vN u/\ gD P i X (fq S n N) (fq C n T) B lot e (w.setChan b m (d.push v) Ã (J+1) r yQ) (qJ++u):=by
 have y:=(Ë.1 h).1;let⟨g0,hF,z,_,_⟩:=f.C n g h;rw[l]at z;cases z with
 |fY=>
  rw[G,F]at hF;let⟨a,D,o,K⟩:=hF _<|fD.fO _ _;let⟨V,o⟩:=o w;have L:Η (E.setIfInBounds n ph) b Ã=[]:=VR λk x M=>by
   rcases Nl M with q|⟨_,q⟩
   .rintro⟨e,_⟩;rw[q]at e;cases e
   .exact I k x q
  let⟨T,O⟩:=jb K;have Q:fq B n .no=B:=by funext j;unfold fq;split<;>simp[*]
  refine⟨_,_,T,{g with frame:=g.frame.finish ľ},crowd_send_room (sl:=sl) h o t H L,fg,?_,a,λk l=>Ï<|ą l,?_,?_⟩
  .rw[xP a D,Ò y];rfl
  .intro q e;simp[Í]at e;rcases e with rfl|rfl<;>exact⟨U,fg⟩
  .rw[xP a D,<-Q];refine f.G y (IN p t _ _ _ _ _ _) ?_ ?_ O<|Ç a
   .intro q e;simp[Í]at e;rcases e with rfl|rfl<;>exact⟨U,fg⟩
   .intro q e;simp[Í]at e;rcases e with rfl|rfl<;>exact f.r.N b p
def gD.aeJ(o:gD P i X S C B lot E w qJ){p:Ó}{N:Jd}{D:Option Â->Jd}(F:E[n]?=À g)(f:B n=.no)(ht:C n=.fu)(hs:S n=zS P (n==0) b v N)(L:X b){r:Nat}(M:w.heap[b]?=À (χ J d Ã j9 r yQ)) (G:j≠n) (t:E[j]?=À p) (O:p.status=Ů) (IP:B j=.sd b z) (Nq:C j=.fu) (IQ:S j=vL P (j==0) b z D) (K:ik) (hp:∀(k:Nat) (x:Ó),k≠j->E[k]?=À x->¬xO b Ã x): ∃e u T y h q,cV P (ķ E w sl) n=(ň<|ķ e (w.setChan b J d Ã (j9+1) (r+1) yQ) sl,u)/\e.size=E.size/\e[n]?=À h/\h.status=Ð/\e[j]?=À q/\q.status=Ð/\(∀k,k≠n->k≠j->e[k]?=E[k]?)/\vN u/\ gD P i X (fq (fq S j<|D<|À v) n N) (fq (fq C j y) n T) (fq (fq B j K) n .no) lot e (w.setChan b J d Ã (j9+1) (r+1) yQ) (qJ++u):=by
 have Q:=(Ë.1 F).1;have V:=(Ë.1 t).1;let⟨g0,hF,W,_,_⟩:=o.C n g F;let⟨a,Y,VT,arD,_⟩:=o.C j p t;rw[f]at W;rw[IP]at VT;cases W with
 |fY=>
  rw[hs,ht]at hF;let⟨H,h2,I,h4⟩:=hF _<|fD.fO _ _;let⟨z',I⟩:=I w;rw[IQ,Nq]at Y;let⟨l,k2,k3,k4⟩:=Y _<|fD.fO _ _;have Cn:p=Γ a #[θ b z] (.recv É):=by
   cases VT with
   |fY=>rw[O]at l;cases l
   |sZ _ _ h=>rfl
   |mJ _ _ h=>cases O
  subst Cn;have hpn:Η (E.setIfInBounds n ph) b Ã=[(j,0)]:=aeH (by rwa[Ï<|ą G]) U U λk x f hx=>by
   rcases Nl hx with q|⟨_,q⟩
   .rintro⟨e,_⟩;rw[q]at e;cases e
   .exact hp k x f q
  have Nr:=crowd_send_meets (sl:=sl) F I M G t hpn;let⟨T,hT⟩:=jb h4;let⟨y,hTj⟩:=jb<|k4<|À v;rw[xP H h2,xP l k2]at Nr;have q:∀{h:cW},h∈Í n g.frame.fn g.frame.place #[]++#[{g:=n,fn:=g.frame.fn,pos:=g.frame.place,act:=.send b j9},{g:=j,fn:=a.frame.fn,pos:=a.frame.place,act:=.recv b r J},{g:=n,fn:=g.frame.fn,pos:=g.frame.place,act:=.sendDone b j9},{g:=j,fn:=a.frame.fn,pos:=a.frame.place,act:=.recvDone b r}]->(h.act.touch?=ë/\∀m,h.act≠Ř m)/\h.act.low w.heap.size:=by intro h e;simp[Í]at e;rcases e with rfl|rfl|rfl|rfl<;>exact⟨⟨U,fg⟩,o.r.N b L⟩
  refine⟨_,_,T,y,{g with frame:=g.frame.finish ľ},{a with frame:=a.frame.finish (ſ #[v,Ľ É])},Nr,fg,?_,H,?_,l,λk f s5=> ?_,λh e=>(q e).1,?_⟩
  .rw[Ò (by simpa using Q)];rfl
  .rw[Ï<|ą G,Ò V];rfl
  .rw[Ï<|ą f,Ï<|ą s5]
  .have m:gD P i X (fq S j<|D<|À v) (fq C j y) (fq B j K) lot (E.setIfInBounds j {a with frame:=a.frame.finish (ſ #[v,Ľ É])}) w (qJ++#[]):=o.G V (pb.fO _ _ _ _) (λh e=>by simp at e) (λh e=>by simp at e) hTj<|Ç l;rw[ď]at m;refine m.G (by simpa using Q) (IN L M _ _ _ _ _ _) (λh e=>(q e).1) (λh e=>(q e).2) hT<|Ç H
theorem gD.kF(o:gD P i X S C B lot E w qJ){N:Jd}(I:E[n]?=À g)(K:B n=.no)(ht:C n=.fu)(hs:S n=IJ P (n==0) J N)(L:X J)(hB:i<=J){r:Nat}(O:w.heap[J]?=À (χ j9 q Ã j7 r yQ)): ∃t u T G,cV P (ķ E w sl) n=(ň<|ķ t (w.setChan J j9 q É j7 r yQ) sl,u)/\t.size=E.size/\t[n]?=À G/\G.status=Ð/\(∀k x,k≠n->E[k]?=À x->t[k]?=À (x.again<|w.setChan J j9 q É j7 r yQ))/\(∀l∈u,l.g=n)/\(∀l∈u,∀b,l.act.touch?=À b->b.loc=.obj J/\b.kind=Ŕ)/\(∀l∈u,∀m,l.act≠Ř m)/\ gD P i X (fq S n N) (fq C n T) B (gf lot n {lot n with w:=w.setChan J j9 q É j7 r yQ}) t (w.setChan J j9 q É j7 r yQ) (qJ++u):=by
 have H:=(Ë.1 I).1;have Q:=o.r.N J L;let⟨g0,hF,V,_,_⟩:=o.C n g I;rw[K]at V;cases V with
 |fY=>
  rw[hs,ht]at hF;let⟨h1,h2,G,M,h4,h5⟩:=hF w<|o.r.r n H;have v:=IN (lot:=lot) (Live:=λn=>n<E.size) L O j9 j7 r q É yQ;have y:fD (lot n) w (w.setChan J j9 q É j7 r yQ):=⟨dx v.r.symm,λj hj=>v.jF j<|o.r.I n H j hj,λa z=>v.M n H a z,λa z=>v.N n H a z,λa _=>v.I a⟩;let⟨T,hT⟩:=jb<|h5.jM ⟨y.r,y.I,y.N,y.Y,y.S⟩;have W:ŭ (lot n).d (Cl J)=(lot n).d:=bn (λe f=>by simp[Cl]at f;grind) _;have D:∀e∈Cl J,(∀b,(è e).touch?=À b->b.loc=.obj J/\b.kind=Ŕ)/\(è e).low w.heap.size:=by
   intro e f;simp[Cl]at f;rcases f with rfl|rfl
   .exact⟨λb h=>by simp[è,ÿ]at h;subst h;exact⟨U,U⟩,Q⟩
   .exact⟨λb h=>by simp[è,ÿ]at h,Q⟩
  have e2:fq B n .no=B:=by funext j;unfold fq;split<;>simp[*]
  obtain⟨t,q1,q2,q3,q4,Y⟩:=o.pX I (h4 w j9 q j7 r yQ O) v (by rwa[W]) (Ç M) (λe f=>⟨λb h=>Î ⟨J,((D e f).1 b h).1,L,((D e f).1 b h).2⟩,(D e f).2⟩) (Nc o.r.l nH λl F b h=>by obtain⟨e,f,rfl⟩:=í F;let⟨z1,z2⟩:=(D e f).1 b h;refine Î (Î ⟨z2,λp a z hl s6=> ?_⟩);have:=o.r.s p a J z (by rw[hl,z1]) s6;omega);rw[W,e2]at Y;refine⟨t,_,T,G,q1,q2,q3,M,λk x K p=> ?_,nH,λl F b h=> ?_,λl F=> ?_,Y⟩
  .rw[q4 k K,p];simp only[bG,ž];unfold ţ;rw[if_pos (by simp[h2,M])]
  .obtain⟨e,f,rfl⟩:=í F;exact(D e f).1 b h
  .obtain⟨e,f,rfl⟩:=í F;simp[Cl]at f;intro m;rcases f with rfl|rfl<;>simp[è]
end
def fG(b:Nat):Ú:=⟨b,0,ë⟩
def gP(b:Nat):Ú:=⟨b,1,ë⟩
inductive GS where
 |cl (c reg:Nat)
 |jr (reg:Nat)
 |gQ (r s:Nat)
def GS.st:GS->Int
 |.cl c a=>c*fS+a
 |.jr a=>a
 |.gQ _ _=>0
def GS.sm:GS->Int
 |.gQ _ s=>s
 |_=>0
def GS.ok:GS->Prop
 |.cl c r=>c<1000000/\r<1000000/\(c=0->r=0)
 |.jr r=>0<r/\r<1000000
 |.gQ r s=>r+s<1000000
structure gT(w:Æ)(b:Nat)(G:GS):Prop where
 C:w.cell? (fG b)=À (Ć æ G.st)
 M:w.cell? (gP b)=À (Ć ŗ G.sm)
 I:w.frozen? (fG b)=Ã
 N:w.frozen? (gP b)=Ã
 r:G.ok
theorem zU(h:w.cell? a=À x):(w.setCell a v).cell? a=À v:=by unfold Ġ at h|-;unfold ĉ;grind
theorem xR(h:a.block≠p.block\/a.off≠p.off):(w.setCell a v).cell? p=w.cell? p:=by unfold Ġ ĉ;grind
theorem Ns:kE (w.setCell a v) b=kE w b:=by unfold kE ĉ;grind
def se:(w.setCell a v).frozen? p=w.frozen? p:=by simp_all
theorem kP(h:j≠a.block):(w.setCell a v).heap[j]?=w.heap[j]?:=by unfold ĉ;grind
def jK:(w.setCell a v).heap.size=w.heap.size:=by simp_all
theorem xS(h:(w.cell? p).isSome=É):((w.setCell a v).cell? p).isSome=É:=by unfold Ġ ĉ at*;grind
theorem aeK{Live Y:Nat->Prop}{c:Nat->e5}(f:Y a.block)(l:a.spot=ë)(m:∀k,Live k->¬(c k).C a)(g:∀k,Live k->∀b,(c k).C b->b.spot=ë):pb Live Y c w (w.setCell a v):=by
 refine⟨jK,λj h=>kP λe=>h<|e▸f,λk i b d=>xR ?_,λ_ _ _ _=>se,λb d=>xS d⟩;by_cases e:a.block=b.block
 .right;intro n;have:=g k i b d;let⟨o,p,q⟩:=b;let⟨r,s,t⟩:=a;grind
 .exact Ç e
section
variable{b:Nat}{G:GS}
def gT.uL(h:gT w b G)(a:u.cell? (fG b)=w.cell? (fG b))(c:u.cell? (gP b)=w.cell? (gP b))(d:u.frozen? (fG b)=w.frozen? (fG b))(e:u.frozen? (gP b)=w.frozen? (gP b)):gT u b G:= ⟨a.trans h.C,c.trans h.M,d.trans h.I,e.trans h.N,h.r⟩
def gT.iK(h:gT w b G)(c:a.block≠b):gT (w.setCell a v) b G:= h.uL (xR<|Ç c) (xR<|Ç c) se se
def gT.IT{G':GS}(h:gT w b G)(a:G'.sm=G.sm)(d:G'.ok)(e:c=G'.st):gT (w.setCell (fG b)<|Ć æ c) b G':= ⟨by rw[zU h.C,e],by rw[xR (Î<|by simp[fG,gP]),h.M,a],by rw[se,h.I],by rw[se,h.N],d⟩
def gT.VU{G':GS}(h:gT w b G)(a:G'.st=G.st)(d:G'.ok)(e:c=G'.sm):gT (w.setCell (gP b)<|Ć ŗ c) b G':= ⟨by rw[xR (Î<|by simp[fG,gP]),h.C,a],by rw[zU h.M,e],by rw[se,h.I],by rw[se,h.N],d⟩
end
theorem IU(a:0<=h)(b:h<18446744073709551616):æ.wrap h=h:=by have:æ.wrap h=h%18446744073709551616:=rfl;rw[this];omega
def aeL(a:4294967296<=h)(b:h<18446744073709551616):æ.wrap (h+18446744069414584320)=h-4294967296:=by have:æ.wrap (h+18446744069414584320)=(h+18446744069414584320)%18446744073709551616:=rfl;rw[this];omega
theorem aeM(a:0<=h)(b:h<4294967296):ŗ.wrap h=h:=by have:ŗ.wrap h=h%4294967296:=rfl;rw[this];omega
def pY:Int:=18446744069414584320
def GS.jz:GS->GS
 |.cl (c+1) reg=>if c=0/\0<reg then .jr reg else .cl c reg
 |G=>G
section
variable{b:Nat}
theorem gT.aeN(h:gT w b (.cl i 0))(a:i+1<1000000):æ.wrap ((GS.cl i 0).st+fS)=(GS.cl (i+1) 0).st/\gT (w.setCell (fG b)<|Ć æ<|æ.wrap<|(GS.cl i 0).st+fS) b (.cl (i+1) 0):=by
 have e:æ.wrap ((GS.cl i 0).st+fS)=(GS.cl (i+1) 0).st:=by simp only[GS.st,fS];grind [IU]
 exact⟨e,h.IT (G':=.cl (i+1) 0) U ⟨a,Z,Z⟩ e⟩
def gT.jz(h:gT w b (.cl (i+1) n)):æ.wrap ((GS.cl (i+1) n).st+pY)=(GS.jz<|.cl (i+1) n).st/\gT (w.setCell (fG b)<|Ć æ<|æ.wrap<|(GS.cl (i+1) n).st+pY) b (GS.jz<|.cl (i+1) n):=by
 let⟨f,a,g⟩:=h.r;have d:æ.wrap ((GS.cl (i+1) n).st+pY)=(i:Int)*fS+n:=by simp only[GS.st,fS,pY];rw[aeL Z Z];omega
 have e:æ.wrap ((GS.cl (i+1) n).st+pY)=(GS.jz<|.cl (i+1) n).st:=by
  rw[d];simp only[GS.jz];by_cases q:i=0/\0<n
  .rw[if_pos q];obtain⟨rfl,_⟩:=q;simp[GS.st]
  .rw[if_neg q];rfl
 refine⟨e,h.IT ?_ ?_ e⟩
 .simp only[GS.jz];split<;>rfl
 .simp only[GS.jz];by_cases q:i=0/\0<n
  .rw[if_pos q];exact⟨q.2,a⟩
  .rw[if_neg q];exact⟨Z,a,λe=>by omega⟩
theorem gT.VW(h:gT w b (.cl i n))(f:0<i)(a:n+1<1000000):æ.wrap ((GS.cl i n).st+1)=(GS.cl i<|n+1).st/\gT (w.setCell (fG b)<|Ć æ<|æ.wrap<|(GS.cl i n).st+1) b (.cl i (n+1)):=by
 let⟨d,g,j⟩:=h.r;have e:æ.wrap ((GS.cl i n).st+1)=(GS.cl i<|n+1).st:=by simp only[GS.st,fS];grind [IU]
 exact⟨e,h.IT (G':=.cl i (n+1)) U ⟨d,a,λe=>by omega⟩ e⟩
def gT.VX(h:gT w b (.jr i)):gT (w.setCell (fG b)<|Ć æ 0) b (.gQ i 0):= h.IT (G':=.gQ i 0) U (by have:=h.r;simp only[GS.ok]at this|-;omega) U
theorem gT.jq{r:Nat}(h:gT w b (.gQ (r+1) i)):gT (w.setCell (gP b)<|Ć ŗ<|ŗ.wrap<|(GS.gQ (r+1) i).sm+1) b (.gQ r (i+1)):=by have:=h.r;simp only[GS.ok]at this;refine h.VU (G':=.gQ r (i+1)) U (by simp only[GS.ok];omega) ?_;simp only[GS.sm];grind [aeM]
def gT.kh{r:Nat}(h:gT w b (.gQ r (i+1))):gT (w.setCell (gP b)<|Ć ŗ<|(GS.gQ r<|i+1).sm-1) b (.gQ r i):=by have:=h.r;simp only[GS.ok]at this;refine h.VU (G':=.gQ r i) U (by simp only[GS.ok];omega) ?_;simp only[GS.sm];omega
def gT.aeO{G:GS}(h:gT w b G):(0<=G.st/\G.st<fS)↔∀c a,G=.cl c a->c=0:=by
 have d:=h.r;cases G with
 |cl c a=>
  let⟨r,s,f⟩:=d;simp only[GS.st,fS];constructor
  .intro q g i e;cases e;omega
  .intro q;have:=q c a U;subst this;omega
 |jr a=>simp only[GS.ok]at d;simp only[GS.st,fS];exact⟨λ_ _ _ e=>(by cases e),λ_=>by omega⟩
 |gQ r s=>simp only[GS.st,fS];exact⟨λ_ _ _ e=>(by cases e),λ_=>by omega⟩
end
inductive ju where
 |jq|iu|gp (W:Nat)|iT (W:Nat)|il (r:Nat)
inductive jg where
 |iP|lD (p:SP)|wr|kh|gp|kK
section
variable(P:Õ)(main:Bool)(B:Nat)(b:Nat)(J:Jd)
def Fe:Nat->Jd
 |0=>J
 |r+1=>λl g=>l.d=1/\aeC P main (gP b) (match r with|0=>J|_=>fe P main<|Fe r) l g
def IV(W:Nat):Jd:=λl g=>l.d=1/\aeA P main (fG b) 0 (Fe P main b J W) l g
def IW(W:Nat):Jd:=λl g=>l.d=1/\VO P main (fG b) (λv=>if v=(W:Int)then IV P main b J W else λ_ _=>True) l g
def Nt:Jd:=λl g=>l.d=1/\Ng P main (fG b) pY (λs=>if s=0\/(fS<=s/\s<1000000*fS/\s%fS<1000000)then J else if 0<s/\s<1000000 then fe P main (IW P main b J s.toNat)else λ_ _=>True) l g
def xT:Jd:=λl g=>l.d=0/\Fb P main (Ķ<|fG b) (Nt P main b J) l g
def Co:ju->Jd
 |.jq=>xT P main b J
 |.iu=>Nt P main b J
 |.gp W=>IW P main b J W
 |.iT W=>IV P main b J W
 |.il r=>Fe P main b J r
def Ff:Jd:=λl g=>l.d=0/\Fb P main (cK<|fG b) J l g
def VY:Jd:=λl g=>l.d=1/\VO P main (fG b) (λv=>if v=0 then Ff P main b J else λ_ _=>True) l g
def IX:Jd:=λl g=>l.d=1/\aeB P main (gP b) (VY P main b J) l g
def Nu:Jd:=λl g=>l.d=1/\Fb P main (.write<|gP b) (IX P main b J) l g
def Nv(p:SP):Jd:=λl g=>l.d=1/\Cm P main (fG b) B (λ_=>Ff P main b J) (λv=>if v%fS=0 then Nu P main b J else IX P main b J) p l g
def pZ:jg->Jd
 |.iP=>λl g=>∃k,k<=B/\Nv P main B b J (.fT k) l g
 |.lD p=>Nv P main B b J p
 |.wr=>Nu P main b J
 |.kh=>IX P main b J
 |.gp=>VY P main b J
 |.kK=>Ff P main b J
end
section
variable{P:Õ}{Y:Nat->Prop}{S:Nat->Jd}{tr:Nat->gh}{f:Nat->ik}{lot:Nat->e5}{gs:Array Ó}{t:ğ}
theorem iJ.C{Live:Nat->Prop}(h:iJ n Live Y lot w t)(E:Live i){l:e5}(s:∀b,l.O b->(lot i).O b) (x:∀b,l.I b->(lot i).M b\/(b<w.heap.size/\¬Y b/\(∀k,Live k->¬(lot k).O b)/\∀a:Ú,a.block=b->oI t i (û a))) (u:∀a,l.r a->(lot i).r a) (y:∀a,l.N a->(lot i).C a\/(Y a.block/\(∀k,Live k->¬(lot k).r a)/\oI t i (û a))) (F:l.K=(lot i).K) (D:l.d=(lot i).d) (G:l.w=w) (H:∀b,l.O b->¬l.I b) (I:∀a,l.r a->¬l.N a):iJ n Live Y (gf lot i l) w t:=by
 have v:∀b,l.M b->(lot i).M b\/(b<w.heap.size/\¬Y b/\(∀k,Live k->¬(lot k).O b)/\∀a:Ú,a.block=b->oI t i (û a)):=λb g=>g.elim (λq=>Ç<|Ç<|s b q)<|x b;have B:∀a,l.C a->(lot i).C a\/(Y a.block/\(∀k,Live k->¬(lot k).r a)/\oI t i (û a)):=λa f=>f.elim (λq=>Ç<|Ç<|u a q)<|y a;refine⟨λk j c o m b g=> ?_,λk j c o m a f=> ?_,λk c b g=> ?_,λk c a f=> ?_,λk c b g=> ?_,λk c a f=> ?_,λk c b g=> ?_,h.N,λk c=> ?_,λk c=> ?_,λk c=> ?_,h.l,h.q,h.s,λk c a f=> ?_⟩
 .by_cases e:k=i
  .subst e;rw[gN]at g;rw[gA lot _<|ą m];exact h.o k j c o m b<|s b g
  .rw[gA lot _ e]at g;by_cases p:j=i
   .subst p;rw[gN];intro q;rcases v b q with z|⟨_,_,z,_⟩
    .exact h.o k j c o m b g z
    .exact z k c g
   .rw[gA lot _ p];exact h.o k j c o m b g
 .by_cases e:k=i
  .subst e;rw[gN]at f;rw[gA lot _<|ą m];exact h.h k j c o m a<|u a f
  .rw[gA lot _ e]at f;by_cases p:j=i
   .subst p;rw[gN];intro q;rcases B a q with z|⟨_,z,_⟩
    .exact h.h k j c o m a f z
    .exact z k c f
   .rw[gA lot _ p];exact h.h k j c o m a f
 .by_cases e:k=i
  .grind [gN]
  .rw[gA lot _ e]at g|-;exact h.m k c b g
 .by_cases e:k=i
  .grind [gN]
  .rw[gA lot _ e]at f|-;exact h.g k c a f
 .by_cases e:k=i
  .subst e;rw[gN]at g;exact(v b g).elim (h.I k c b) λz=>z.2.1
  .rw[gA lot _ e]at g;exact h.I k c b g
 .by_cases e:k=i
  .subst e;rw[gN]at f;exact(B a f).elim (h.e k c a) λz=>z.1
  .rw[gA lot _ e]at f;exact h.e k c a f
 .by_cases e:k=i
  .subst e;rw[gN]at g;exact(v b g).elim (h.fl k c b) λz=>z.1
  .rw[gA lot _ e]at g;exact h.fl k c b g
 .by_cases e:k=i
  .grind [gN,fD.fO]
  .rw[gA lot _ e];exact h.r k c
 .by_cases e:k=i
  .subst e;rw[gN];refine⟨λa f=>(h.S k c).fh a<|s _ f,λa f=> ?_,λa f=>(h.S k c).I a<|u a f,λa f=> ?_⟩
   .rcases x _ f with(z|z)|⟨_,_,_,z⟩
    .exact((h.S k c).fh a z).r
    .exact(h.S k c).C a z
    .exact z a U
   .rcases y _ f with(z|z)|⟨_,_,z⟩
    .exact((h.S k c).I a z).r
    .exact(h.S k c).r a z
    .exact z
  .rw[gA lot _ e];exact h.S k c
 .by_cases e:k=i
  .subst e;rw[gN,D];exact h.f k c
  .rw[gA lot _ e];exact h.f k c
 .have e:(lot k).K a:=by
   grind [gN,gA]
  let⟨p,q⟩:=h.n k c a e;grind [gN,gA]
def gD.M(b:gD P n Y S tr f lot gs w t){J:Jd}{T:gh}{K:ik}{l:e5}(c:gs[i]?=À g)(d:g.status=Ð\/g.status=Ğ)(h:iJ n (λi=>i<gs.size) Y (gf lot i l) w t)(hF:kJ P (i==0) J T l g): gD P n Y (fq S i J) (fq tr i T) (fq f i K) (gf lot i l) gs w t:=by
 refine⟨h,λk x a=> ?_,b.I⟩;by_cases e:k=i
 .subst e;rw[c]at a;obtain rfl:=Ĥ a;rw[gw,gw,gw,gN];exact⟨g,hF,.fY,d,Ç U⟩
 .rw[fC S _ e,fC tr _ e,fC f _ e,gA lot _ e];exact b.C k x a
end
end Go.Proofs.Y.fv
namespace Go.Proofs.Y.fv
open Go Go.Conc Go.Proofs.Y.Lift
open Go.ConcN (RelBy fork_knows)
def zV(t:ğ)(p:Nat)(l:dP):Prop:=∀q a,Ě t q=À a->a.loc=l->a.write=É->Before t q p
theorem zV.Nw{u:ğ}{l:dP}(h:zV qJ i l)(j:∀c∈u,∀b,c.act.touch?=À b->b.loc=l->b.write=É->False):zV (qJ++u) i l:=by
 intro q a e f g;rcases mo e with⟨_,d⟩|⟨_,c,d,k,_⟩
 .exact(h q a d f g).app u
 .grind
def zV.aeP{l:dP}(h:zV qJ i l)(b:bC qJ n i):oI qJ n l:=λq a c d e=>Knows.of_before (h q a c d e) b
theorem aeQ{l:dP}(h:oI qJ i l)(c:wQ.g=i)(j:wQ.act.touch?=ë):zV (qJ++#[wQ]) qJ.size l:=by
 intro q a d e f;rcases mo d with⟨_,b⟩|⟨_,k,b,m,_⟩
 .exact Î<|(h q a b e f).hb_new (ß _) (by rw[ć<|ß _];simp) c
 .grind
structure Fx where
 L:Nat
 m:Nat
 C:Nat
 I:Nat->Nat
def Fx.M(F:Fx)(b:Nat):Prop:=b=F.C\/∃k,k<=F.m/\b=F.I k
def Fx.G(F:Fx)(x:Ú):Prop:=∃b,F.M b/\(x=fG b\/x=gP b)
def iW(F:Fx)(k:Nat):Ú:=⟨F.I k,2,ë⟩
def Fx.Nx(F:Fx)(a:Nat->Option Nat)(x:Ú)(g:Option Nat):Prop:=(x=gP F.C/\g=À 0)\/∃k j,k<=F.m/\x=gP (F.I k)/\a k=À j/\g=À (F.L+1+j)
structure TI(F:Fx)(t0:Nat)(jc:dP->Prop)(sp rl:Nat)(V:Nat->Nat->Prop)(pk:Nat->Nat)(fs:Nat->Option Nat)(rx:Nat->Prop)(ql:Nat->Nat)(t:ğ):Prop where
 N:t0<=t.size
 M:∀p a x,Ě t p=À a->a.loc=û x->F.G x->(p<t0/\t.g? p=À 0)\/a.kind=Ŕ\/(a.kind=.said/\F.Nx fs x (t.g? p))
 zW:∀x,x<sp->∀p,p<t0->t.g? p=À 0->bC t (F.L+x) p
 Y:∀k,1<=k->k<=rl->t.act? (pk k)=À (Ř<|Ķ<|fG<|F.I k)/\t.g? (pk k)=À F.L/\t.heard (pk k)
 I:∀k,1<=k->k<=rl->∀a:Ú,(V k a.block\/a=iW F k)->zV t (pk k) (û a)
 c:∀b,F.M b->NoRelease (fG b) t
 r:∀x,x<sp->rx x->RelBy (fG F.C) t (F.L+x) (ql x)/\∀p a,Ě t p=À a->t.g? p=À (F.L+x)->p<=ql x\/((∃y:Ú,a.loc=û y/\y.block=F.C)/\a.kind=Ŕ)
 S:∀p a,t0<=p->Ě t p=À a->t.g? p=À 0\/∃x,x<sp/\t.g? p=À (F.L+x)
 e:∀p a,p<t0->Ě t p=À a->a.loc.isMemory=É->bC t 0 p\/(jc a.loc/\a.kind=Ŕ)
 d:∀p g,p<t0->t.g? p=À g->g≠0->t.counts p->∃j,t.g? j=À 0/\HappensBefore t p j
section
variable{F:Fx}{t0:Nat}{jc:dP->Prop}{sp rl:Nat}{V:Nat->Nat->Prop}{pk:Nat->Nat}{fs:Nat->Option Nat}{rx:Nat->Prop}{ql:Nat->Nat}{t u:ğ}
theorem IY(h:t.g? i=À n):i<t.size:=by unfold Ņ at h;grind
def Fg(h:t.g? i=À n):(t++u).g? i=À n:=by rwa[aF<|IY h]
theorem Ny{a:dK}(h:Ě t i=À a):i<t.size:=by let⟨b,c,_⟩:=dL h;grind
structure IZ(F:Fx)(sp rl:Nat)(V:Nat->Nat->Prop)(fs:Nat->Option Nat)(rx:Nat->Prop)(t u:ğ)(i:Nat):Prop where
 C:∀op∈u,∀a,op.act.touch?=À a->op.g=i
 S:i=0\/(∃x,x<sp/\i=F.L+x)\/∀op∈u,op.act.touch?=ë
 M:∀op∈u,∀a x,op.act.touch?=À a->a.loc=û x->F.G x->a.kind=Ŕ\/(a.kind=.said/\F.Nx fs x (À i))
 fF:∀op∈u,∀(a:dK) (y:Ú),op.act.touch?=À a->a.write=É->a.loc=û y->∀k,1<=k->k<=rl->¬V k y.block/\y≠iW F k
 N:∀op∈u,∀b,F.M b->op.act≠Ř (dM<|fG b)
 I:∀x,x<sp->rx x->(∀r,RelBy (fG F.C) t (F.L+x) r->RelBy (fG F.C) (t++u) (F.L+x) r)/\(F.L+x=i->∀op∈u,∀a,op.act.touch?=À a->(∃y:Ú,a.loc=û y/\y.block=F.C)/\a.kind=Ŕ)
def TI.C(h:TI F t0 jc sp rl V pk fs rx ql t)(f:IZ F sp rl V fs rx t u i):TI F t0 jc sp rl V pk fs rx ql (t++u) where
 N:=by rw[Array.size_append];have:=h.N;omega
 M p a x n y hc:=by
  rcases mo n with⟨d,c⟩|⟨d,m,c,l,j⟩
  .rw[aF d];exact h.M p a x c y hc
  .refine Î ((f.M m c a x l y hc).imp id λq=>⟨q.1,?_⟩);have:(t++u).g? p=À i:=by unfold Ņ;rw[j];simp[f.C m c a l]
   rw[this];exact q.2
 zW x r p d o:=(h.zW x r p d<|by rwa[aF<|Ô d h.N]at o).app u;Y k c l:=by let⟨v,s,b⟩:=h.Y k c l;have w:=IY s;exact⟨by rwa[dN w],Fg s,(heard_old w).2 b⟩
 I k c l a n:=(h.I k c l a n).Nw λm B b z y C=>by have:=f.fF m B b a z C y k c l;exact n.elim this.1 this.2
 c b z:=(h.c b z).app λm B=>f.N m B b z;r x r hr:=by
  let⟨v,s⟩:=h.r x r hr;let⟨D,E⟩:=f.I x r hr;refine⟨D _ v,λp a n o=> ?_⟩;rcases mo n with⟨d,c⟩|⟨d,m,c,l,j⟩
  .exact s p a c<|by rwa[aF d]at o
  .have e:(t++u).g? p=À i:=by unfold Ņ;rw[j];simp[f.C m c a l]
   rw[e]at o;exact Î<|E (Ĥ o).symm m c a l
 S p a d n:=by
  rcases mo n with⟨D,c⟩|⟨_,m,c,l,j⟩
  .rw[aF D];exact h.S p a d c
  .have e:(t++u).g? p=À i:=by unfold Ņ;rw[j];simp[f.C m c a l]
   rw[e];rcases f.S with q|⟨x,r,q⟩|q
   .exact Ç<|by rw[q]
   .exact Î ⟨x,r,by rw[q]⟩
   .rw[q m c]at l;cases l
 e p a d n hm:=by rw[touchAt_old<|Ô d h.N]at n;exact(h.e p a d n hm).imp (·.app u) id
 d p g d o kT hc:=by have w:=Ô d h.N;rw[aF w]at o;rw[eg w]at hc;let⟨j,v,s⟩:=h.d p g d o kT hc;exact⟨j,Fg v,ec u s⟩
theorem xU(f:∀c∈u,c.act.touch?=ë)(h:∀c∈u,∀b,F.M b->c.act≠Ř (dM<|fG b)):IZ F sp rl V fs rx t u 0 where
 C c e a d:=by rw[f c e]at d;cases d
 S:=Ç U;M c e a x d:=by rw[f c e]at d;cases d
 fF c e a y d:=by rw[f c e]at d;cases d
 N:=h;I x hx g:=by refine⟨λr g=>g.app λj l m i=> ?_,λ_ c e a d=>by rw[f c e]at d;cases d⟩;let⟨z,k,_⟩:=i;rcases mo k with⟨q,_⟩|⟨_,c,n,o,_⟩;all_goals grind
def TI.aeR(h:TI F t0 jc sp rl V pk fs rx ql t){b:Nat->Option Nat}(c:∀k y,fs k=À y->b k=À y):TI F t0 jc sp rl V pk b rx ql t:= {h with M:=λp a x d e f=>(h.M p a x d e f).imp id (Or.imp id λq=>⟨q.1,q.2.imp id λ⟨k,j,g,i,l,m⟩=>⟨k,j,g,i,c k j l,m⟩⟩)}
theorem TI.Fh(h:TI F t0 jc sp rl V pk fs rx ql t){y:cW}(j:wQ.g=0/\wQ.act=.go (F.L+sp))(k:y.g=F.L+sp/\y.act=.start)(m:Τ t 0=0)(n:Τ t (F.L+sp)=0)(B:¬rx sp)(o:∀wQ,rx wQ->wQ<sp):TI F t0 jc (sp+1) rl V pk fs rx ql (t++#[wQ,y]):=by
 have q:∀c∈#[wQ,y],c.act.touch?=ë:=by
  intro c a;simp at a;rcases a with rfl|rfl
  .rw[j.2];rfl
  .rw[k.2];rfl
 have r:∀c∈#[wQ,y],∀b,F.M b->c.act≠Ř (dM<|fG b):=by grind
 have d:=h.C<|xU q r;refine{d with zW:=λz s p f i=> ?_,r:=λz s l=>d.r z (o z l) l,S:=λp a f u=>((d.S p a f u).imp id λ⟨z,v,e⟩=>⟨z,Z,e⟩)}
 .by_cases e:z<sp
  .exact d.zW z e p f i
  .obtain rfl:z=sp:=Z
   rw[aF<|Ô f h.N]at i;let⟨c,v,w⟩:=ģ.1 i;have:=bm v;rw[w]at this;exact cN j k m n this
theorem aeS{y:cW}(d:wQ.g=0/\wQ.act=.go k)(e:y.g=k/\y.act=.start)(j:Τ t 0=0)(m:Τ t k=0){l:dP}:(pW t 0 l->pW (t++#[wQ,y]) k l)/\(oI t 0 l->oI (t++#[wQ,y]) k l):=by
 have q:∀c∈#[wQ,y],c.act.touch?=ë:=by
  intro c a;simp at a;rcases a with rfl|rfl
  .rw[d.2];rfl
  .rw[e.2];rfl
 refine⟨λh p a f i=> ?_,λh p a f i n=> ?_⟩
 .rcases mo f with⟨_,b⟩|⟨_,c,b,o,_⟩
  .exact cN d e j m<|h p a b i
  .grind
 .rcases mo f with⟨_,b⟩|⟨_,c,b,o,_⟩
  .exact cN d e j m<|h p a b i n
  .grind
theorem TI.aeT(h:TI F t0 jc sp rl V pk fs rx ql t)(f:wQ.g=F.L)(i:wQ.act=Ř (Ķ<|fG<|F.I<|rl+1))(l:Τ t F.L=0)(q:∀a:Ú,(V (rl+1) a.block\/a=iW F (rl+1))->oI t F.L (û a)): TI F t0 jc sp (rl+1) V (fq pk (rl+1) t.size) fs rx ql (t++#[wQ]):=by
 have m:∀c∈#[wQ],c.act.touch?=ë:=by
  intro c e;have:c=wQ:=by simpa using e
  rw[this,i];rfl
 have d:=h.C (xU m λc e b _=>by grind);have n:(t++#[wQ])[t.size]?=À wQ:=by rw[ć<|ß _];simp
 have j:∀k,k<=rl->fq pk (rl+1) t.size k=pk k:=λk r=>fC pk _ Z;refine{d with Y:=λk b o=> ?_,I:=λk b o a p=> ?_}
 .by_cases e:k=rl+1
  .subst e;rw[gw];exact⟨by rw[ey n,i],by simp[Ņ,f],⟨F.L,by simp[Ņ,f],by rwa[cM<|ß _]⟩⟩
  .rw[j k Z];exact d.Y k b Z
 .by_cases e:k=rl+1
  .grind [gw,aeQ]
  .rw[j k Z];exact d.I k b Z a p
theorem TI.aeU(h:TI F t0 jc sp rl V pk fs rx ql t){x:Nat}(r:x<sp)(d:wQ.g=F.L+x)(f:wQ.act=Ř (Ķ<|fG F.C))(k:Τ t (F.L+x)=0)(s:¬rx x): TI F t0 jc sp rl V pk fs (λz=>rx z\/z=x) (fq ql x t.size) (t++#[wQ]):=by
 have l:∀c∈#[wQ],c.act.touch?=ë:=by
  intro c a;have:c=wQ:=by simpa using a
  rw[this,f];rfl
 have j:=h.C (xU l λc a b _=>by grind);have b:(t++#[wQ])[t.size]?=À wQ:=by rw[ć<|ß _];simp
 refine{j with r:=λz m n=> ?_};by_cases e:z=x
 .subst e;rw[gw];refine⟨⟨by rw[ey b,f],by simp[Ņ,d],⟨F.L+z,by simp[Ņ,d],by rwa[cM<|ß _]⟩,λi u o=> ?_⟩,λp a q _=>Ç ?_⟩
  .have:=IY o;simp at this;omega
  .have:=Ny q;simp at this;omega
 .rw[fC ql _ e];exact j.r z m<|n.resolve_right e
def VZ(e:t.act? i=À (Ř<|Ķ a))(f:t.g? i=À k)(h:t.heard i)(l:NoRelease a t)(c:wQ.g=n)(m:wQ.act=Ř (cK a))(o:Τ t n=0):bC (t++#[wQ]) n i:=by
 have b:=IY f;have d:(t++#[wQ])[t.size]?=À wQ:=by rw[ć<|ß _];simp
 refine⟨t.size,wQ,d,c,Î<|.single<|Î ⟨.marked b (Î<|by rwa[dN b]) (by rw[ey d,m]) λj _ q=> ?_,(heard_old b).2 h,⟨n,by simp[Ņ,c],by rwa[cM<|ß _]⟩⟩⟩;rw[dN q];exact l j
theorem TI.kF(h:TI F t0 jc sp rl V pk fs rx ql t)(G:wQ.g=0)(o:wQ.act=Ř (cK<|fG F.C))(H:Τ t 0=0)(k:∀x,x<sp->rx x): (∀p a,Ě (t++#[wQ]) p=À a->a.loc.isMemory=É->bC (t++#[wQ]) 0 p\/((jc a.loc\/∃x:Ú,a.loc=û x/\x.block=F.C)/\a.kind=Ŕ))/\(t++#[wQ]).HandedOver:=by
 have Q:wQ.act.touch?=ë:=by rw[o];rfl
 have s:=λx c=>by let⟨b,_⟩:=h.r x c<|k x c;exact VZ b.act b.g b.heard (h.c _<|Ç U) G o H
 have u:∀p a,Ě (t++#[wQ]) p=À a->p<t.size/\Ě t p=À a:=λp a l=>by rcases mo l with q|⟨_,v,d,w,_⟩;all_goals grind
 have B:∀p q x,t.g? p=À (F.L+x)->t.g? q=À (F.L+x)->p<=q->Before (t++#[wQ]) p q:=λp q x d w S=>by
  rcases Nat.lt_or_ge p q with f|i
  .exact Î<|.single<|Ç ⟨f,_,Fg d,Fg w⟩
  .exact Ç Z
 refine⟨λp a l I=> ?_,λp g C J K=> ?_⟩
 .let⟨f,d⟩:=u p a l;by_cases e:p<t0
  .rcases h.e p a e d I with q|⟨b,i⟩
   .exact Ç<|q.app _
   .grind
  .rcases h.S p a Z d with q|⟨x,c,q⟩
   .let⟨v,m,n⟩:=ģ.1 q;have:=bm m;rw[n]at this;exact Ç<|this.app _
   .let⟨b,i⟩:=h.r x c<|k x c;rcases i p a d q with z|⟨j,P⟩
    .exact Ç<|Knows.of_before (B p (ql x) x q b.g z)<|s x c
    .grind
 .let⟨z,D,M,N⟩:=K;let⟨f,d⟩:=u p z D;have O:t.g? p=À g:=by rwa[aF f]at C
  have E:=(eg f).1 ⟨z,D,M,N⟩;by_cases e:p<t0
  .let⟨j,b,i⟩:=h.d p g e O J E;exact⟨j,Fg b,ec _ i⟩
  .rcases h.S p z Z d with q|⟨x,c,q⟩
   .grind
   .let⟨b,_⟩:=h.r x c<|k x c;let⟨r,v,m,n,i⟩:=s x c;have j:(t++#[wQ]).g? r=À 0:=by unfold Ņ;rw[m];simp[n]
    refine⟨r,j,?_⟩;rcases(B p (ql x) x q b.g<|Nat.le_of_not_lt λP=>b.after p P q E).trans i with P|P;all_goals grind
end
end Go.Proofs.Y.fv
namespace Go.Proofs.Y.fv
open Go Go.Conc Go.Proofs.Y.Lift
open Go.ConcN (sumTo)
structure Ph extends Fx where
 P:Õ
 S:Nat
 n:Nat
 q:Nat
 Y:Nat
 f:Nat
 r:Nat->Nat
 a:Nat->Nat
 b:Nat->Nat
 c:Nat->Â
 z:Â
 B:Nat
 γ:Type
 l:γ
 i:Nat->Prop
 p:Nat->γ->γ->Prop
 d:Nat->γ->(Nat->Prop)->Æ->Prop
 o:Nat->ByteArray
 k:Nat->ByteArray
 g:Nat->(Nat->Nat)->Jd
 h:Nat->Jd
 e:Nat->Nat->Jd
 j:(Nat->Nat)->Jd
inductive mL(F:Ph):Nat->F.γ->Prop
 |uH:mL F 0 F.l
 |Cp {k:Nat} {s s':F.γ} (h:mL F k s) (hn:F.p k s s'):mL F (k+1) s'
def jd(F:Ph)(p:Nat):Ú:=⟨F.Y,p,ë⟩
inductive fP where
 |go (j:Nat)|kU (j:Nat)|rd (j:Nat)|iu (j:Nat)|iC (r:Nat)|kF (r:Nat)|ft (p:jg)|fU
inductive ji where
 |ky (k:Nat)|mk (k:Nat)|dn (k:Nat) (p:ju)
inductive gF where
 |mK (r:Nat)|ft (r:Nat) (p:jg)|jy (r:Nat)|nZ (r:Nat)
inductive gY where
 |n7|fU (p:ju)|jf (N:Nat)
section
variable(F:Ph)
def Fi:Jd:=λl g=>∃N,QuitsD F.P N l.d g
def ki(l:e5):e5:={l with O:=λ_=>False,I:=λ_=>False,r:=λ_=>False,N:=λ_=>False,q:=True}
def zY:Jd:=λl g=>Co F.P Ã F.C (Fi F) .jq (ki l) g
def Cq(c j r:Nat):Jd:=vL F.P Ã c F.z λx=>match x with
 |some v=>λl g=>v=F.c (j+r*F.n)->pZ F.P Ã F.B (F.I<|F.r<|j+r*F.n) (F.e c<|j+r*F.n) .iP l g
 |none=>zY F
def uM(l:e5)(i:Nat):e5:={l with r:=λa=>l.r a/\a≠jd F (F.a i),N:=λa=>l.N a\/a=jd F (F.a i)}
def pd(l:e5)(k:Nat):e5:={l with O:=λ_=>False,I:=l.M,r:=λa=>l.r a/\a≠jd F (F.b k)/\a≠iW F.toFx k,N:=λa=>l.N a\/a=jd F (F.b k)\/a=iW F.toFx k}
def JW(c j:Nat):gF->Jd
 |.mK r=>Cq F c j r
 |.ft r p=>pZ F.P Ã F.B (F.I<|F.r<|j+r*F.n) (F.e c<|j+r*F.n) p
 |.jy r=>F.e c<|j+r*F.n
 |.nZ r=>λl g=>l.w.cell? (jd F<|F.a<|j+r*F.n)=À (ħ<|F.k<|j+r*F.n)/\Cq F c j (r+1) (uM F l<|j+r*F.n) g
def JI(sg:Nat->F.γ):ji->Jd
 |.ky k=>F.h k
 |.mk k=>λl g=>∃p V,F.p (k-1) (sg<|k-1) p/\F.d k p V l.w/\(∀b,V b->l.M b)/\l.w.cell? (jd F<|F.b k)=À (ħ<|F.o k)/\Co F.P Ã (F.I k) (fe F.P Ã<|F.h k) .jq (pd F l k) g
 |.dn k p=>Co F.P Ã (F.I k) (fe F.P Ã<|F.h k) p
def JE:gY->Jd
 |.n7=>zY F
 |.fU p=>Co F.P Ã F.C (Fi F) p
 |.jf N=>oJ F.P N
def I0(j:Nat)(a:Nat->Nat):Jd:=λl g=>∃c,F.g j (fq a (j-1) c) l g
def V1(j:Nat)(a:Nat->Nat):Jd:=λl g=>l.d=1/\Fb F.P É (.read<|gP F.C) (I0 F j a) l g
def Nz(j:Nat)(a:Nat->Nat):Jd:=λl g=>l.d=1/\Ng F.P É (fG F.C) fS (λs=>if s=fS then fe F.P É (V1 F j a)else if fS<s/\s<1000000*fS/\s%fS=0 then fe F.P É (I0 F j a)else λ_ _=>True) l g
def zZ(a:Nat->Nat):Nat->Jd
 |0=>pZ F.P É F.B F.C (F.j a) .iP
 |r+1=>IJ F.P É (a<|F.n-(r+1))<|zZ a r
def Fj(a:Nat->Nat):Nat->Jd
 |0=>zZ F a F.n
 |r+1=>zS F.P É (a<|(F.q-(r+1))%F.n) (F.c<|F.q-(r+1))<|Fj a r
def JM(dk:Nat->Nat):fP->Jd
 |.go j=>F.g j dk
 |.kU j=>I0 F j dk
 |.rd j=>V1 F j dk
 |.iu j=>Nz F j dk
 |.iC r=>Fj F dk r
 |.kF r=>zZ F dk r
 |.ft p=>pZ F.P É F.B F.C (F.j dk) p
 |.fU=>F.j dk
def lq(x:Nat)(a:Ú):Prop:=if x=0 then(∃k,1<=k/\k<=F.m/\(a=iW F.toFx k\/a=jd F (F.b k)))else∃i,i<F.q/\i%F.n=x-1/\a=jd F (F.a i)
end
def fP.sp(n:Nat):fP->Nat
 |.go j|.kU j|.rd j|.iu j=>j
 |_=>n+1
def fP.ad(n:Nat):fP->Nat
 |.iu j=>j
 |.go j|.kU j|.rd j=>j+1
 |_=>n+1
def fP.lU(q:Nat):fP->Nat
 |.go _|.kU _|.rd _|.iu _=>0
 |.iC r=>q-r
 |_=>q
def fP.iV(n:Nat):fP->Nat
 |.kF r=>n-r
 |.ft _|.fU=>n
 |_=>0
def jg.sf:jg->Nat
 |.wr|.kh=>1
 |_=>0
def fP.gu:fP->Nat
 |.ft p=>p.sf
 |_=>0
def ju.kz:ju->Nat
 |.jq|.iu=>1
 |_=>0
def gY.kz:gY->Nat
 |.n7=>1
 |.fU p=>p.kz
 |_=>0
def gY.nI:gY->Prop
 |.n7=>False
 |_=>True
def lE:Option gY->Nat
 |none=>1
 |some e=>e.kz
def ju.ie:ju->Prop
 |.jq=>False
 |_=>True
def gY.ie:gY->Prop
 |.n7=>False
 |.fU p=>p.ie
 |_=>True
def ji.md:ji->Nat
 |.ky k=>k
 |.mk k=>k-1
 |.dn k _=>k
def ji.rl:ji->Nat
 |.ky k=>k
 |.mk k=>k-1
 |.dn k .jq=>k-1
 |.dn k _=>k
def ji.od:ji->Nat
 |.ky k=>k
 |.mk k=>k-1
 |.dn k .jq|.dn k .iu=>k-1
 |.dn k _=>k
def gF.iE:gF->Nat
 |.mK r=>r
 |.ft r _|.jy r|.nZ r=>r+1
def gF.kj:gF->Nat
 |.mK r|.ft r _|.jy r|.nZ r=>r
def gF.gu(F:Ph)(j:Nat)(k:Nat):gF->Nat
 |.ft r p=>if F.r (j+r*F.n)=k then p.sf else 0
 |_=>0
structure fN(F:Ph) where
 M:fP
 S:ji
 C:Nat->gF
 N:Nat->Option gY
 I:Nat->Nat
 c:Nat->F.γ
 V:Nat->Nat->Prop
 e:Nat->Nat
 d:Nat->Option Nat
 f:Nat->Nat
 b:GS
 a:Nat->GS
 g:Option Nat
 h:Nat->Nat
section
variable{F:Ph}
def fN.r(E:fN F):Nat:=E.M.sp F.n
def fN.G(E:fN F)(x:Nat):Nat:=if x<E.M.ad F.n then lE (E.N x)else 0
def fN.ie(E:fN F)(x:Nat):Prop:=∃e,E.N x=À e/\e.ie
def fN.nI(E:fN F)(x:Nat):Prop:=∃e,E.N x=À e/\e.nI
def fN.Y(E:fN F)(b:Nat):Prop:=F.M b\/b=F.Y\/∃j,j+2<=E.r/\b=E.I j
def s7(n j Q s:Nat):Prop:=∀i,i<s↔j+i*n<Q
def kM:fP->ik
 |.ft .kh=> .il
 |_=> .no
def kW(F:Ph)(c:Nat):gF->ik
 |.mK _=> .sd c F.z
 |.ft _ .kh=> .il
 |_=> .no
end
structure Ph.Ok(F:Ph):Prop where
 N:1<=F.n
 r:1<=F.L
 fV:F.n+F.q+F.m<1000
 I:∀i,i<F.q->F.r i<=F.m
 M:∀k,k<=F.m->F.I k≠F.C
 S:∀k k',k<=F.m->k'<=F.m->F.I k=F.I k'->k=k'
 C:¬F.M F.Y
 a:∀i i',i<F.q->i'<F.q->F.a i=F.a i'->i=i'
 pi:∀k k',1<=k->k<=F.m->1<=k'->k'<=F.m->F.b k=F.b k'->k=k'
 NA:∀i k,i<F.q->1<=k->k<=F.m->F.a i≠F.b k
 gd:∀b,F.M b\/b=F.Y->F.S<=b
 Y:(∀k,1<=k->k<=F.m->F.b k≠F.f)/\∀i,i<F.q->F.a i≠F.f
structure iw(F:Ph)(E:fN F)(lot:Nat->e5)(sz:Nat)(w:Æ):Prop where
 gM:∀i,i<sz->∀a,(lot i).C a->(∃k,k<=F.m/\a=iW F.toFx k)\/∃p,p≠F.f/\a=jd F p
 o:∀x,E.r<=x->x<=F.n->∀a,lq F x a->(lot 0).r a
 ll:E.r<=F.n->(lot 0).N (iW F.toFx 0)/\∀b,F.i b->(lot 0).I b
 e:0<E.r->∀k,E.S.md<k->k<=F.m->(lot F.L).r (iW F.toFx k)/\(lot F.L).r (jd F<|F.b k)
 f:0<E.r->E.N 0=ë->(lot F.L).N (iW F.toFx E.S.md)/\∀b,E.V E.S.md b->(lot F.L).I b
 h:∀j,j+2<=E.r->E.N (j+1)=ë->∀r,j+r*F.n<F.q->(E.C j).kj<=r->(lot<|F.L+1+j).r (jd F<|F.a<|j+r*F.n)
 l:∀j,j+2<=E.r->E.N (j+1)=ë->(lot<|F.L+1+j).N (iW F.toFx 0)/\∀b,F.i b->(lot<|F.L+1+j).I b
 S:∀x,E.nI x->lot (F.L+x)=ki (lot<|F.L+x)
 M:∀i,(i=0\/∃x,x<E.r/\i=F.L+x/\¬E.nI x)->¬(lot i).q
 c:∀i,0<i->i<F.L->lot i=ki (lot i)
 I:∀k,k<=E.S.md->∀b,E.V k b->b<w.heap.size/\¬E.Y b/\∀i,i<sz->¬(lot i).O b
 N:∀k,k<=E.S.md->∀i,i<sz->¬(lot i).r (iW F.toFx k)
 g:∀k,1<=k->k<=E.S.md->∀i,i<sz->¬(lot i).r (jd F<|F.b k)
 d:∀j,j+2<=E.r->∀r,j+r*F.n<F.q->r<(E.C j).kj->∀i,i<sz->¬(lot i).r (jd F<|F.a<|j+r*F.n)
structure Wd(F:Ph)(E:fN F)(w:Æ):Prop where
 C:gT w F.C E.b
 I:∀k,k<=F.m->gT w (F.I k) (E.a k)
 jv:∀j,j+2<=E.r->∃buf s,w.heap[E.I j]?=À (χ F.q buf (decide<|j<E.M.iV F.n) s (E.C j).iE Ã)/\s7 F.n j (E.M.lU F.q) s/\(E.C j).iE<=s/\buf.size=s-(E.C j).iE/\∀i,i<s-(E.C j).iE->buf[i]?=À (F.c<|j+((E.C j).iE+i)*F.n)
 M:∀k,k<=E.S.md->mL F k (E.c k)/\F.d k (E.c k) (E.V k) w
 S:∀k,1<=k->k<=E.S.md->w.cell? (jd F<|F.b k)=À (ħ<|F.o k)
 N:∀j,j+2<=E.r->∀r,j+r*F.n<F.q->r<(E.C j).kj->w.cell? (jd F<|F.a<|j+r*F.n)=À (ħ<|F.k<|j+r*F.n)
structure Ps(F:Ph)(E:fN F):Prop where
 v:E.V 0=F.i
 C:∀j,E.M=.go j\/E.M=.kU j\/E.M=.rd j\/E.M=.iu j->j<=F.n
 K:∀j,E.M=.kU j\/E.M=.rd j\/E.M=.iu j->1<=j
 L:∀r,(E.M=.iC r->r<=F.q)/\(E.M=.kF r->r<=F.n)
 J:E.r=0->E.S=.ky 0
 I:∀k,(E.S=.ky k->k<=F.m)/\(E.S=.mk k->1<=k/\k<=F.m)/\(∀p,E.S=.dn k p->1<=k/\k<=F.m)
 z:∀j,E.r<j+2->E.C j=.mK 0
 d:∀j r,j+2<=E.r->((∃p,E.C j=.ft r p)\/E.C j=.jy r\/E.C j=.nZ r)->j+r*F.n<F.q
 l:∀j,j+2<=E.r->E.N (j+1)≠ë->j<E.M.iV F.n/\∃r,E.C j=.mK r/\∀i,j+i*F.n<F.q->i<r
 f:E.N 0≠ë->E.S=.ky F.m
 h:∀x,E.r<=x->E.N x=ë
 M:∀j j',j+2<=E.r->j'+2<=E.r->E.I j=E.I j'->j=j'
 o:∀j,j+2<=E.r->¬F.M (E.I j)/\E.I j≠F.Y/\F.S<=E.I j
 t:∀c reg,E.b=.cl c reg->c=bD (F.n+1) E.G/\reg=E.M.gu
 g:∀reg,E.b=.jr reg->bD (F.n+1) E.G=0/\reg=E.M.gu/\∃x,x<E.r/\E.g=À x/\(E.N x=À (.fU (.gp reg))\/E.N x=À (.fU (.iT reg)))
 u:∀r s,E.b=.gQ r s->bD (F.n+1) E.G=0/\r+s=E.M.gu/\(0<r->∃x,x<E.r/\E.g=À x/\E.N x=À (.fU (.il r)))
 N:∀x p,E.N x=À (.fU p)->(∀W,p=.gp W\/p=.iT W->E.g=À x/\E.b=.jr W)/\(∀r,p=.il r->0<r/\E.g=À x/\∃s,E.b=.gQ r s)
 B:E.M=.ft .gp\/E.M=.ft .kK\/E.M=.fU->bD (F.n+1) E.G=0
 e:∀k,1<=k->k<=F.m->E.S.od<k->E.a k=.cl 1 (bD F.n λj=>(E.C j).gu F j k)
 Y:∀k,k<=F.m->k<=E.S.od->(∃W,(E.S=.dn k (.gp W)\/E.S=.dn k (.iT W))/\E.a k=.jr W/\W=bD F.n λj=>(E.C j).gu F j k)\/(∃r s,E.S=.dn k (.il r)/\0<r/\E.a k=.gQ r s/\r+s=bD F.n λj=>(E.C j).gu F j k)\/((∀p,E.S≠ .dn k p)/\((E.a k=.cl 0 0/\(bD F.n λj=>(E.C j).gu F j k)=0)\/∃s,E.a k=.gQ 0 s/\s=bD F.n λj=>(E.C j).gu F j k))
 w:∀j r,j+2<=E.r->(E.C j=.ft r .gp\/E.C j=.ft r .kK\/E.C j=.jy r)->F.r (j+r*F.n)<=E.S.od
 H:∀j r,j+2<=E.r->E.C j=.ft r .gp->∃a b,E.a (F.r<|j+r*F.n)=.gQ a b
 O:E.M=.ft .gp->∃a b,E.b=.gQ a b
 S:(∀p,E.M≠ .ft p)->E.M≠ .fU->∃c,E.b=.cl c 0
 y:∀k,k<=F.m->E.a k=.cl 1 0->E.d k=ë
 D:∀j r,j+2<=E.r->E.C j=.ft r .wr->E.d (F.r<|j+r*F.n)=À j
def fc(F:Ph)(E:fN F)(a:Array Ó)(w:Æ):Prop:=∀i g,a[i]?=À g->g.status=Ů->
 (i=0/\E.M=.ft .kh/\E.b.sm=0)\/(∃j,j+2<=E.r/\E.N (j+1)=ë/\i=F.L+1+j/\((∃r,E.C j=.ft r .kh/\(E.a<|F.r<|j+r*F.n).sm=0)\/∃r b s c,E.C j=.mK r/\w.heap[E.I j]?=À (χ b #[] Ã s c Ã)))
structure PI(F:Ph)(t0:Nat)(jc:dP->Prop)(E:fN F)(S:Nat->Jd)(tr:Nat->gh)(kp:Nat->ik)(lot:Nat->e5)(gs:Array Ó)(w:Æ)(t:ğ):Prop where
 b:gs.size=F.L+E.r
 I:gD F.P F.S E.Y S tr kp lot gs w t
 h:S 0=JM F E.I E.M/\kp 0=kM E.M
 m:0<E.r->E.N 0=ë->S F.L=JI F E.c E.S/\kp F.L=.no
 g:∀j,j+2<=E.r->E.N (j+1)=ë->S (F.L+1+j)=JW F (E.I j) j (E.C j)/\kp (F.L+1+j)=kW F (E.I j) (E.C j)
 k:∀x e,x<E.r->E.N x=À e->S (F.L+x)=JE F e/\kp (F.L+x)=.no/\((∃N,e=.jf N)->tr (F.L+x)=.fu)
 l:∀i,0<i->i<F.L->S i=oJ F.P (E.h i)/\tr i=.fu/\kp i=.no
 a:iw F E lot gs.size w
 M:Wd F E w
 C:Ps F E
 d:TI F.toFx t0 jc E.r (E.S.rl) E.V E.e E.d E.ie E.f t
 c:fc F E gs w
 f:∀j r,j+2<=E.r->E.C j=.jy r->1<=F.r (j+r*F.n)->bC t (F.L+1+j) (E.e<|F.r<|j+r*F.n)
structure gL(F:Ph):Prop where
 C:F.Ok
 S:∀k s V w w',F.d k s V w->(∀b,V b->w'.heap[b]?=w.heap[b]?)->w'.cell? (iW F.toFx k)=w.cell? (iW F.toFx k)->w'.cell? (jd F F.f)=w.cell? (jd F F.f)->kE w' F.Y=kE w F.Y->(w'.os=w.os/\w'.output=w.output)->F.d k s V w'
 Fl:∀j dk l g w₁,F.g j dk l g->fD l l.w w₁->F.g j dk {l with w:=w₁} g
 I:∀j dk l g,F.g j dk l g->g.status=Ð
 N:∀k l g,F.h k l g->g.status=Ð
 Y:∀c i l g,F.e c i l g->g.status=Ð
 M:∀dk l g,F.j dk l g->g.status=Ð
 go:∀j dk l g,j<=F.n->F.g j dk l g->gl l->l.d=0/\∃(g' child:Ó) (X:Nat->Prop),g'.status=Ð/\child.status=Ð/\(∀w₁,Ù F.P É g w₁=.spawn g' child w₁ #[])/\(∀b,X b->l.O b)/\
  (1<=j->l.O (dk<|j-1)/\¬X (dk<|j-1)/\l.w.heap[dk<|j-1]?=À (χ F.q #[] Ã 0 0 Ã)/\F.S<=dk (j-1))/\
  (∀l':e5,gl l'->(∀b,X b\/l.I b->l'.I b)->l'.w=l.w->l'.d=0->¬l'.q->(∀b,¬l'.O b)->l'.K=l.K->l'.N=l.N->(∀a,l'.r a->l.r a)->fe F.P Ã (if j=0 then F.h 0 else Cq F (dk<|j-1) (j-1) 0) l' child)/\
  (∀l':e5,gl l'->l'.O=(λb=>l.O b/\¬X b/\(1<=j->b≠dk (j-1)))->(∀b,X b\/l.I b->l'.I b)->l'.w=l.w->l'.d=0->l'.q=l.q->l'.K=l.K->l'.N=l.N->(∀a,l'.r a->l.r a)->fe F.P É (JM F dk<|if j<F.n then .iu (j+1)else .iC F.q) l' g')
 f:∀k s V l g,k<F.m->F.h k l g->gl l->mL F k s->F.d k s V l.w->(∀b,V b->l.I b)->l.N (iW F.toFx k)->l.r (iW F.toFx<|k+1)->l.r (jd F<|F.b<|k+1)->∀sg:Nat->F.γ,sg k=s->fe F.P Ã (JI F sg<|.mk (k+1)) l g
 h:∀l g,F.h F.m l g->gl l->fe F.P Ã (zY F) l g
 e:∀c j r s V l g,j+r*F.n<F.q->F.e c (j+r*F.n) l g->∀l':e5,gl l'->l'.O=l.O->(∀b,l.I b\/V b->l'.I b)->l'.w=l.w->l'.d=l.d->l'.q=l.q->l'.r=l.r->l'.K=l.K->mL F (F.r<|j+r*F.n) s->F.d (F.r<|j+r*F.n) s V l.w->l'.N (iW F.toFx<|F.r<|j+r*F.n)->l'.r (jd F<|F.a<|j+r*F.n)->fe F.P Ã (JW F c j<|.nZ r) l' g
end Go.Proofs.Y.fv
