/- Books: the texts of the proof, packed by program out of some 275: remarks struck, names and blanks shortened, for the limit of a claim's size. -/
import Derived.KernelRfl
import Derived.Conc.Own
import Derived.Conc.Events
import Derived.Laws.Sem
import Derived.Conc.Own5
import Derived.Conc.CompanyDraw
import Derived.Conc.Know
import Derived.Conc.Beside
import Derived.Conc.MarkLaws
import Derived.Conc.CrowdComm
import Derived.Conc.CrowdTrace
import Derived.Conc.CrowdBase
set_option linter.all false
set_option maxRecDepth 1000000
set_option maxHeartbeats 8000000
open Option renaming some->À,none->ë,map_eq_some_iff->ģ,map_some->bH
open Go renaming TypeId->Á,Value->Â,World->Æ,Goroutine->Ó,Program->Õ,Operand->Ö,stepG->Ù,Addr->Ú,FuncId->à,execOp->ì,underlying->ø,resolve->ù,IntKind->ú,Event->ý,run_program->ă,variablesAt->Ą,invoke->č,builtin->Ē,Sem->ē,loadBytes->ĕ,Frame->Ę,Trace->ğ,BinOp->ġ,results->Ī,behindNumber->Į,FloatKind->ı,callFunc->ĵ,undef->ľ,yielded->ł,loadCellsFrom->Ō,convert->Œ,movedNumber->ŕ,Item->ś,movedPointer->Ţ,binOp->Ũ,elemOf->Ū,sameAddr->Ŭ,deafBehind->ŭ,eqGuard->ŷ,typeInfo->Δ,partners->Η,RuntimeError->Ι,storeCells->Κ,Next->Ο,cellAtBytes->ξ,choose->π,Tape->ψ,zeroValue->ω,loadVar->ae,Code->aj,store->ak,Oper->au,BoundsCode->ax,sizeOf->ay,storeVar->aJ,nilAhead->aR,lone->aU,load->aX,noView->aY,liesAt->aZ,findLabel->bg,stringish->bk,Unsupported->br,followBlind->bx,Act->bF,askRoom->bP,Machine->bR,Question->bU,asBool->bW,asAddr->bX,fieldPlace->bY,numberAt->b9,asNumber->ca,getObj->cj,shape->ck,exitTo->cA,gotoIn->cB,mayBeOne->cH,runT->cU,MemOp->cV,loadCells->cW,rowAt->cX,program->da,asIntOf->dc,viewAt->dh,byteOf->di,unwind->dr,runN->dt,cellsIn->du,asInt->dz,TypeDesc->dE,runN_add->dH,Touch->dK,step->dO,Loc->dP,newRow->dQ,PanicEntry->eb,isAgg->ek,Race->eC,newVar->eI,asAgg->eJ,newObj->eK,frozen->eL,freeze->eT
open Bool renaming false->Ã,false_eq_true->Å,true->É,and_eq_true_iff->Ü,not_true->þ,not_false->Ă,and_eq_true->ě,or_eq_true_iff->Ŝ,eq_iff_iff->Χ,or_eq_true->bI
open Go.Sem renaming run_bind->Ä,runT_bind'->Ñ,run->ã,bind->ç,runT->é,run_bind'->Ĵ,bind_assoc'->ř,runT_eq->ź,runT_fst->Ρ,pure->aI,store->cZ,halt->ei
open Or renaming inl->Ç,inr->Î
open Go.Result renaming andThen_ok->È,ok->ĥ,halt->bV
open Go.Op renaming operands->Ê,equal->ó,maxDepth->ā,eqGuardIn->į,twoPlaces->š,equalIn->Λ,addrSub->Μ,addrCmp->Ν,addrMod->Ξ,call->Ω,intDiv->ag,shift->aK,convert->aN,stringOp->bu,unary->bZ,makeInterface->cG,floatArith->cQ,complexOp->dj,buildSlice->dB,intArith->dC,floatCmp->dD,binOp->dR,makeSlice->dS,fieldAddr->dT,indexAddr->dU,intBits->dW,nilCheck->ez,intCmp->eA
open Array renaming getElem?_eq_some_iff->Ë,getElem?_setIfInBounds_ne->Ï,getElem?_setIfInBounds_self_of_lt->Ò,mem_of_getElem?->Û,getElem?_eq_getElem->Ý,getElem?_append_right->ć,empty_append->Ď,append_empty->ď,mapM_eq_mapM_toList->Ĕ,mem_append->Ĝ,getElem?_push_lt->Ģ,getD_eq_getD_getElem?->ĩ,replicate->ĺ,append_assoc->Ļ,append_singleton->Ł,all_eq_true->Ń,getElem?_modify->Ň,mem_iff_getElem->ŉ,getElem?_setIfInBounds->Ś,getElem_map->ŵ,getElem_extract->κ,forIn_toList->aE,range->dA
open Go.stepG renaming exec->Ì,apply->bC
open Go.MemOp renaming ofEvents->Í
open Go.GoStatus renaming running->Ð,finished->Ğ,blocked->Ů
open Nat renaming lt_of_lt_of_le->Ô,le_refl->ß,le_trans->õ,exists_eq_add_of_le->Ε,div_le_div_right->ο,add_assoc->cN,le_of_eq->dx,zero_le->dy
open List renaming map_toArray->Ø,map_cons->â,map_nil->ä,mem_cons_self->î,mem_cons_of_mem->ò,eq_nil_of_length_eq_zero->Ā,zipIdx_cons->Ĭ,mem_cons->œ,mem_singleton->ū,foldlM_cons->Ζ,filter_eq_nil_iff->Υ,foldlM_nil->ζ,forIn_cons->η,mapM_cons->ν,forIn_nil->φ,map_eq_nil_iff->ai,flatMap_cons->aV,mapM_nil->cP
open Go.Value renaming pointer->Þ,int->Ć,string->ħ,bool->Ľ,tuple->ſ,nilIface->aW,slice->bS,nilFunc->bT,chan->eh,func->eH
open Go.Item renaming inRegion->á,code->Đ,inLoop->dm,inBlock->dF,inScope->dG
open Go.Act renaming eval->å
open Go.IntKind renaming u64->æ,i64->Ŋ,u32->ŗ
open Go.MemAct renaming ofEvent->è,touch?->ÿ,mark->Ř
open Go.Builtin renaming unsafeString_->ê,unsafeAdd_->ñ,unsafeSliceData_->ė,min2->Ĳ,append_->ĸ,firstCells->ļ,min_->ń,copy_->ő,len_->ş,cap_->Š,zeroCells->Ŷ,lenOf->Α,holdsCells->aB,mayShare->a7,unsafeSliceData->bj,unsafeString->cT
open Go.Conc renaming mem_ofEvents->í,touchAt->Ě,crowd->ķ,woken->ţ,stepG_region_draw->Ż,parked->Γ,Deaf->Τ,rcase->θ,stepG_unwanted->υ,g?_old->aG,knows_own->bl,deafBehind_still->bq,stepG_value->bA,stepG_enter->bB,Knows->bD,stepG_cond->cC,mem_listed->cD,stepG_none->cE,enter_at->cF,deaf_old->cL,touch_of->dL,act?_old->dN,hb_app->ec,touch_mute->ef,counts_old->eg,act?_of->ey
open Go.Next renaming value->ï,enter->ũ,skip->aH
open Go.TypeDesc renaming pointer->ð,unsafePointer->đ,string->ę,int->Β,struct->de,slice->df
open Go.Call renaming operands->ô
open Go.Conv renaming unsafePointer->ö,bytesToString->ü,seenAt->Ž,runesToString->aF,floatToFloat->aQ,intToString->bb,floatToInt->bK,intToInt->cR
open Go.Loc renaming cell->û,mark->ů
open Ne renaming symm->ą
open Go.World renaming frozen?->Ĉ,setCell->ĉ,freeze->Ė,cell?->Ġ,farLoad->ŋ,farStore->Ŧ,shape?->Θ,setChan->ar,noCell->aP,viewStore->bJ
open Go.Extern.BytealgMakeNoZero renaming makeNoZero->Ċ,digits->ņ
open Go.Mode renaming atomic->ċ,plain->Ť
open Go.Obj renaming cells->Č,pending->Ÿ,chan->χ
open Go.Callee renaming builtin->ĝ,value->cb
open Option.some renaming inj->Ĥ,injEq->ž
open Go.Region renaming wanted->Ħ,schedule->bM,Mode->eF
open Go.Instr renaming sliceBounds->Ĩ,sliceBound->ī,buildSlice->ĭ,storeAt->ĳ,makeSlice->Ĺ,extract->ō,fieldAt->Ŏ,indexAt->ŏ,sliceAt->Ő,makeInterface->ŝ,loadAt->Ş,sureAddr->ŧ,alloc->Ű,field->ű,slice->Ų,index->ų,build->Ŵ,panic->ż,box->af,fill->az
open Go.Deferred renaming ofValue->İ
open Go.Mark renaming releaseMerge->Ķ,disable->cI,acquire->cJ,noRoom->c8,enable->dw,release->dM
open Go.Extern.AbiNoEscape renaming same->Ŀ
open Go.Halt renaming unsupported->ŀ
open Go.Trace renaming g?->Ņ
open Go.Stepped renaming next->ň
open Go.Touch.Kind renaming atomic->Ŕ,plain->eV
open Go.Frame renaming raise->Ŗ,finish_at->ε,finish->aT,catches->cS,enter->dI
open Go.Unsupported renaming unsafePointer->ť
open Go.GStep renaming after->Ź,go->aS,ended->eR
open Go.Goroutine renaming again->ι
open Except renaming bind->ρ,pure->ς,error->bG,map->cg
open Go.Op.Complex renaming corrected->σ,quotient->ah,product->aC,arith->a8,conv->bL,cmp->cm,mul->cu,add->cv,sub->cw,quo->cx
open Go.BinOp renaming eql->aA,neq->aL
open Go.Operand renaming func->aO,const->dV,global->ep
open Go.Code renaming cond->bz,region->bQ,refuse->dq,label->dX,block->dY,scope->dZ,skip->eM,loop->eN,exit->eO,goto->eP
open Go.ConcN renaming sumTo->bE,fork_knows->cM
variable{i n j b k m J j9 j7 j6:Nat}{w u W jX:Æ}{v x z jQ:Â}{g:Ó}{a p:Ú}{h c:Int}{e t T:Á}{d q:Array Â}{P:Õ}{y:bF}{B:ByteArray}{X:Nat->Prop}{O:Option Ú}{l:List Â}{yQ:Bool}{K H:bF->Æ->Prop}{o:au}{D:Nat->Nat}{E:Array Ó}{L:List ś}{jJ:List Nat}{qX:List Ę}{qQ:Ö}{qJ:ğ}{zX:dP->Prop}{zQ:List Int}{zJ:Go.TypeInfo}{xX:Ö->Â}{xQ:ψ}{xJ:Nat×Nat}{wX:aj}{wQ:cV}{wJ:Array Bool}{vX:List ByteArray}{vQ:Â->Æ->Prop}{vJ:Go.Exit->bF->Æ->Prop}{yX:eF}{Q:Array au}{f:Ę}{V:Array ý}{F:à}{s:Go.Func}
namespace Go.Proofs
theorem U{A:Sort _}{a:A}:a=a:=rfl
theorem Z{p:Prop}(h:p:=by omega):p:=h
theorem A{p:Prop}(h:p:=by decide):p:=h
theorem fp{p:Prop}(h:p:=by simp):p:=h
theorem fx{p:Prop}(h:p:=by kernel_rfl):p:=h
theorem fL{p:Prop}(h:p:=by rfl):p:=h
end Go.Proofs
namespace Go.Proofs.Y.Lift
open Go
abbrev fh{α:Type}:α->Prop:=λ_=>False
structure fw where
 jK:Nat->Nat->Prop
 C:Nat
instance:CoeFun fw λ_=>Nat->Nat->Prop:=⟨fw.jK⟩
def Bi(Y:fw):Prop:=(∀i j a,Y i j->Y i a->j=a)/\(∀i a j,Y i j->Y a j->i=a)/\(∀i j,Y i j->(i<Y.C↔j<Y.C))
def fw.r(Y a:fw):Prop:=(∀i j,Y i j->a i j)/\(Bi Y->Bi a)/\a.C=Y.C
def fw.N(Y:fw)(r a:Nat):fw:=⟨λi j=>Y i j\/(i=r/\j=a),Y.C⟩
def fw.M(Y:fw):Y.r Y:=⟨λ_ _ h=>h,id,U⟩
theorem fw.I{a b c:fw}(h:a.r b)(k:b.r c):a.r c:=⟨λi j x=>k.1 i j<|h.1 i j x,λx=>k.2.1<|h.2.1 x,k.2.2.trans h.2.2⟩
theorem fw.S{Y:fw}{r:Nat}(c:∀j,¬Y r j)(d:∀a,¬Y a i)(f:Y.C<=r)(g:Y.C<=i):Y.r (Y.N r i):=by
 refine⟨λ_ _ h=>Ç h,λb=>⟨?_,?_,?_⟩,U⟩
 .rintro a j k (x|⟨rfl,rfl⟩) (y|⟨e,rfl⟩)
  .exact b.1 _ _ _ x y
  .grind
  .grind
  .rfl
 .rintro a k j (x|⟨rfl,rfl⟩) (y|⟨rfl,e⟩)
  .exact b.2.1 _ _ _ x y
  .grind
  .grind
  .rfl
 .rintro a j (x|⟨rfl,rfl⟩)
  .exact b.2.2 _ _ x
  .show(a<Y.C↔j<Y.C);omega
def ig(Y:fw)(a b:Ú):Prop:=Y a.block b.block/\a.off=b.off/\a.spot=b.spot
def ig.ff{Y b:fw}(h:Y.r b)(r:ig Y a p):ig b a p:=⟨h.1 _ _ r.1,r.2⟩
def ig.r{Y:fw}(r:ig Y a p)(n:Nat):ig Y (a.add n) (p.add n):=by
 let⟨b,c,d⟩:=r;unfold Addr.add;by_cases e:n=0
 .rw[if_pos e,if_pos e];exact⟨b,c,d⟩
 .rw[if_neg e,if_neg e];exact⟨b,by simp[c],U⟩
inductive fu(Y:fw):Â->Â->Prop
 |lY (b:Bool):fu Y (Ľ b) (Ľ b)
 |iB (k:ú) (n:Int):fu Y (Ć k n) (Ć k n)
 |kt (s:ByteArray):fu Y (ħ s) (ħ s)
 |lE:fu Y (Þ ë) (Þ ë)
 |jE {a a':Ú} (h:ig Y a a'):fu Y (Þ<|À a) (Þ<|À a')
 |nD (n c:Nat):fu Y (bS ë n c) (bS ë n c)
 |j5 {a a':Ú} (h:ig Y a a') (n c:Nat):fu Y (bS (À a) n c) (bS (À a') n c)
 |tD:fu Y bT bT
 |fn (f:Fn):fu Y (eH f #[] #[]) (eH f #[] #[])
 |tE:fu Y aW aW
 |tF:fu Y (eh ë) (eh ë)
 |tH:fu Y (.map ë) (.map ë)
 |wx (t:Á) {v v':Â} (h:fu Y v v'):fu Y (.iface t v) (.iface t v')
 |oh {cs ku:Array Â} (hs:cs.size=ku.size) (h:∀i (h1:i<cs.size) (h2:i<ku.size),fu Y cs[i] ku[i]):fu Y (.agg cs) (.agg ku)
 |lZ {cs ku:Array Â} (hs:cs.size=ku.size) (h:∀i (h1:i<cs.size) (h2:i<ku.size),fu Y cs[i] ku[i]):fu Y (ſ cs) (ſ ku)
def fu.ff{Y a:fw}(h:Y.r a)(r:fu Y v x):fu a v x:=by
 induction r with
 |lY b=>exact .lY b
 |iB k n=>exact .iB k n
 |kt s=>exact .kt s
 |lE=>exact .lE
 |jE b=>exact .jE (b.ff h)
 |nD n c=>exact .nD n c
 |j5 b n c=>exact .j5 (b.ff h) n c
 |tD=>exact .tD
 |fn f=>exact .fn f
 |tE=>exact .tE
 |tF=>exact .tF
 |tH=>exact .tH
 |wx t _ b=>exact .wx t b
 |oh c _ b=>exact .oh c b
 |lZ c _ b=>exact .lZ c b
structure fU(Y:fw)(cs ku:Array Â):Prop where
 r:cs.size=ku.size
 C:∀i (h1:i<cs.size) (h2:i<ku.size),fu Y cs[i] ku[i]
def fU.ff{Y a:fw}(h:Y.r a){cs:Array Â}(r:fU Y cs d):fU a cs d:=⟨r.r,λi b c=>(r.C i b c).ff h⟩
theorem fU.M{Y:fw}(r:fU Y d q)(i:Nat):(d[i]?=ë/\q[i]?=ë)\/∃v b,d[i]?=À v/\q[i]?=À b/\fu Y v b:=by
 by_cases h:i<d.size
 .have a:i<q.size:=by rwa[<-r.r]
  exact Î ⟨d[i],q[i],Ý h,Ý a,r.C i h a⟩
 .have a:¬i<q.size:=by rwa[<-r.r]
  grind
def fU.N(Y:fw):fU Y #[] #[]:=⟨U,λi h=>absurd h fp⟩
theorem fU.VE{Y:fw}(r:fU Y d q)(h:fu Y v x):fU Y (d.push v) (q.push x):=by
 refine⟨by simp[r.r],λi b c=> ?_⟩;simp only[Array.getElem_push];have e:=r.r;by_cases a:i<d.size
 .rw[dif_pos a,dif_pos Z];exact r.C i a Z
 .grind
theorem fU.rh{Y:fw}(r:fU Y d q)(n:Nat)(h:fu Y v x):fU Y (d.setIfInBounds n v) (q.setIfInBounds n x):=by
 refine⟨by simp[r.r],λi c e=> ?_⟩;have f:i<d.size:=by simpa using c
 have g:i<q.size:=by simpa using e
 have a:(d.setIfInBounds n v)[i]?=if n=i then À v else d[i]?:=by grind
 have b:(q.setIfInBounds n x)[i]?=if n=i then À x else q[i]?:=by grind
 rw[Ý c]at a;rw[Ý e]at b;by_cases j:n=i
 .grind
 .rw[if_neg j]at a b;rw[Ý f]at a;rw[Ý g]at b;injection a with a;injection b with b;rw[a,b];exact r.C i f g
def fU.G{Y:fw}{cs b:Array Â}(r:fU Y cs d)(t:fU Y q b):fU Y (cs++q) (d++b):=by
 refine⟨by simp[r.r,t.r],λi c g=> ?_⟩;have e:=r.r;have f:=t.r;simp only[Array.getElem_append];by_cases a:i<cs.size
 .rw[dif_pos a,dif_pos Z];exact r.C i a Z
 .rw[dif_neg a,dif_neg Z];have:=t.C (i-cs.size) (by simp at c;omega) (by simp at c;omega);simpa[e]using this
def fU.F6{Y:fw}(r:fU Y d q)(a b:Nat):fU Y (d.extract a b) (q.extract a b):=by refine⟨by simp[r.r],λi c e=> ?_⟩;rw[κ ..,κ ..];exact r.C _ _ _
def fU.I{Y:fw}(h:fu Y v x):fU Y #[v] #[x]:= ⟨U,λi a b=>by have:i=0:=(by simpa using a);subst this;exact h⟩
def fu.gU{Y:fw}(h:fu Y v x):fU Y v.cells x.cells:=by
 cases h with
 |oh a h=>exact⟨a,h⟩
 |lY b=>exact fU.I<|.lY b
 |iB k n=>exact fU.I<|.iB k n
 |kt s=>exact fU.I<|.kt s
 |lE=>exact fU.I .lE
 |jE b=>exact fU.I<|.jE b
 |nD n c=>exact fU.I<|.nD n c
 |j5 b n c=>exact fU.I<|.j5 b n c
 |tD=>exact fU.I .tD
 |fn f=>exact fU.I<|.fn f
 |tE=>exact fU.I .tE
 |tF=>exact fU.I .tF
 |tH=>exact fU.I .tH
 |wx t b=>exact fU.I<|.wx t b
 |lZ a h=>exact fU.I<|.lZ a h
def zI:Â->Bool
 |.agg _|ſ _=>Ã
 |_=>É
def F7(e:Á)(n:Nat):Prop:=(e=304\/e=305)/\n<=16
class Bq (P:Õ):Prop where
 lt:∀e n,F7 e n->n<P.cellsOf e
def DZ(e:Á)(n a:Nat):Prop:=n=a\/(n<=a/\F7 e n)
structure pS(Y:fw)(s:Prop)(e:Á)(c c':Array Â):Prop where
 C:∀i (_:i<c.size) (_:i<c'.size),fu Y c[i] c'[i]
 M:c.size<=c'.size
 I:c.size=c'.size\/(s/\F7 e c.size)
section
variable{Y d:fw}{s:Prop}{c c':Array Â}
def pS.N(h:fU Y c c'):pS Y s e c c':=⟨h.C,by rw[h.r];exact ß _,Ç h.r⟩
def pS.r(h:pS Y s e c c')(a:¬s):fU Y c c':=⟨h.I.resolve_right λq=>a q.1,h.C⟩
def pS.ff(h:pS Y s e c c')(l:Y.r d):pS d s e c c':=⟨λi a b=>(h.C i a b).ff l,h.M,h.I⟩
theorem pS.F8(h:pS Y s e c c')(i:Nat):(c[i]?=ë/\True)\/∃v a,c[i]?=À v/\c'[i]?=À a/\fu Y v a:=by
 by_cases q:i<c.size
 .have b:=Ô q h.M;exact Î ⟨c[i],c'[i],Ý q,Ý b,h.C i q b⟩
 .grind
def pS.adA(h:pS Y s e c c'):DZ e c.size c'.size:=h.I.imp id λq=>⟨h.M,q.2⟩
end
inductive fJ(P:Õ){α:Type}(V:fw->α->α->Prop):fw->ē α->ē α->Prop
 |fF {Y:fw} {a a':α} (h:V Y a a'):fJ P V Y (aI a) (aI a')
 |gw {Y:fw} {a a':Ú} {k k':Â->ē α} (ha:ig Y a a') (hk:∀v v',fu Y v v'->fJ P V Y (k v) (k' v')):fJ P V Y (.load Ť a k) (.load Ť a' k')
 |jg {Y:fw} {a a':Ú} {v v':Â} {k k':ē α} (ha:ig Y a a') (hv:fu Y v v') (hk:fJ P V Y k k'):fJ P V Y (cZ Ť a v k) (cZ Ť a' v' k')
 |wy {Y:fw} {c c':Array Â} {e:Á} {k k':Nat->ē α} (hc:fU Y c c') (hk:∀r r',(∀j,¬Y r j)->(∀i,¬Y i r')->Y.C<=r->Y.C<=r'->fJ P V (Y.N r r') (k r) (k' r')):fJ P V Y (.new (Č c e) k) (.new (Č c' e) k')
 |wz {Y:fw} {r r':Nat} {k k':Option (TypeId×Nat)->ē α} (hr:Y r r') (hk:∀e n n',DZ e n n'->fJ P V Y (k<|À (e,n)) (k'<|À (e,n'))):fJ P V Y (.shape r k) (.shape r' k')
 |Oj {Y:fw} {a a':Ú} {k k':Bool->ē α} (ha:ig Y a a') (hk:∀b b',(b'=É->b=É)->fJ P V Y (k b) (k' b')):fJ P V Y (.frozen a k) (.frozen a' k')
 |Br {Y:fw} {q:bU} {k k':Nat->ē α} (hk:∀n,fJ P V Y (k n)<|k' n):fJ P V Y (.choose q k) (.choose q k')
 |Km {Y:fw} {k k':Õ->ē α} (hk:fJ P V Y (k P) (k' P)):fJ P V Y (.program k) (.program k')
 |D1 {Y:fw} {m:Mark} {k k':ē α} (hm:m=c8\/∃f,m=.extern f) (hk:fJ P V Y k k'):fJ P V Y (.mark m k) (.mark m k')
 |fT {Y:fw} {h:Halt} {m:ē α}:fJ P V Y (ei h) m
 |pn {Y:fw} {m m':ē α} (h:∀u x u',m.run P u≠ĥ x u'):fJ P V Y m m'
def xR{α β:Type}{m:ē α}{f:α->ē β}(h:∀u x b,m.run P u≠ĥ x b):∀u x b,(m.bind f).run P u≠ĥ x b:=by
 intro u x b e;have c:(m>>=f).run P u=ĥ x b:=e;rw[Ä]at c;cases d:m.run P u with
 |ok a w=>exact h _ _ _ d
 |halt z w=>rw[d]at c;cases c
def fJ.ma{α β:Type}{V:fw->α->α->Prop}{l:fw->β->β->Prop}{Y:fw}{m o:ē α}{f p:α->ē β}(h:fJ P V Y m o) (g:∀i a k,Y.r i->V i a k->fJ P l i (f a) (p k)):fJ P l Y (m.bind f) (o.bind p):=by
 induction h with
 |fF h=>exact g _ _ _ (fw.M _) h
 |gw j _ d=>exact .gw j λv c b=>d v c b g
 |jg j b _ d=>exact .jg j b (d g)
 |wy q _ d=>exact .wy q λr s c e n v=>d r s c e n v λi a k t b=>g i a k (fw.I (fw.S c e n v) t) b
 |wz b _ d=>exact .wz b λe n v c=>d e n v c g
 |Oj j _ d=>exact .Oj j λb c v=>d b c v g
 |Br _ d=>exact .Br λn=>d n g
 |Km _ d=>exact .Km (d g)
 |D1 c _ d=>exact .D1 c (d g)
 |fT=>exact .fT
 |pn h=>exact .pn (xR h)
def zK:Â->Bool
 |Ć .u8 _=>É
 |_=>Ã
def D2(c:Array Â):Prop:=∀(k:Nat) (v:Â),c[k]?=À v->zK v=Ã
structure je(Y:fw)(Sh:Nat->Prop)(u w:Æ):Prop where
 S:u.tape=w.tape
 N:u.drawn=w.drawn
 C:Bi Y
 I:Y.C<=u.heap.size
 M:Y.C<=w.heap.size
 r:∀i j,Y i j->∃c c' e fr xS,u.heap[i]?=À (Č c e fr)/\w.heap[j]?=À (Č c' e xS)/\pS Y (Sh j) e c c'/\(Sh j->fr.1=0/\c.size<=fr.2/\xS.2<=fr.2/\0<c.size/\(D2 c\/F7 e c.size))/\(¬Sh j->fr=xS)/\fr.2<=c.size
structure oj(Y:fw)(Sh:Nat->Prop)(w w':Æ):Prop where
 r:w.heap.size<=w'.heap.size
 I:w'.os=w.os
 M:w'.output=w.output
 S:w'.tape=w.tape
 C:∀j,j<w.heap.size->(∀i,¬Y i j)->w'.heap[j]?=w.heap[j]?
 N:∀j,Sh j->j<w.heap.size->w'.heap[j]?=w.heap[j]?
def Bs(Y:fw)(b:Nat->Prop)(e:ý):Prop:=
 (∃(a:Ú) (i:Nat),e.loc=û a/\Y i a.block/\e.sync=Ã/\(e.write=É->¬b a.block))\/e.loc=ů c8\/∃f,e.loc=ů (.extern f)
def xT{α:Type}{m:Mode}{k:ē α}(h:zI v=É): ã P (cZ m a v k) w=(match w.cell? a with
 |some _=>if w.frozen? a then bV (ŀ<|ť "a write to bytes that a string shares") w else k.run P (w.setCell a v)
 |none=>match w.farStore P a v (m==ċ)with
  |.ok (w,_)=>k.run P w
  |bG h=>bV h w):=by
 cases v<;>first|rfl|cases h
def adB{α:Type}{m:Mode}{k:ē α}(h:zI v=É): é P (cZ m a v k) w V=(match w.cell? a with
 |some _=>
  if w.frozen? a then(bV (ŀ<|ť "a write to bytes that a string shares") w,V)
  else k.runT P (w.setCell a v) (V.push ⟨û a,É,m==ċ⟩)
 |none=>match w.farStore P a v (m==ċ)with
  |.ok (w,touched)=>k.runT P w (V++touched.toArray.map (⟨.cell ·,É,m==.atomic⟩))
  |bG h=>(bV h w,V)):=by
 cases v<;>first|rfl|cases h
def adC{α:Type}{m:Mode}{k:ē α}(h:zI v=Ã){x:α}:ã P (cZ m a v k) w≠ĥ x u:=by cases v<;>first|exact Bool.noConfusion h|(intro e;simp[ã]at e)
def adD{Y:fw}(h:fu Y v x):zI x=zI v:=by cases h<;>rfl
section
variable{Y:fw}
def Bt(h:u.heap[a.block]?=À (Č d e xJ)):u.cell? a=if a.spot.isSome then ë else d[a.off]?:=by simp[Ġ,h]
def adE(h:u.heap[a.block]?=À (Č d e xJ))(b:Bool):∃x,u.farLoad P a b=bG x:=by simp[ŋ,h]
def adF(h:u.heap[a.block]?=À (Č d e xJ))(b:Bool):∃x,u.farStore P a v b=bG x:=by simp[Ŧ,h]
def je.gw(h:je Y X u w){a':Ú}(i:ig Y a a')(b:u.cell? a=À v):∃f,w.cell? a'=À f/\fu Y v f:=by
 let⟨j,k,l⟩:=i;let⟨c,s,e,t,y,m,n,o,_⟩:=h.r _ _ j;rw[Bt m]at b;rw[Bt n,<-k,<-l];cases g:a.spot with
 |some x=>rw[g]at b;cases b
 |none=>
  rw[g]at b;rcases o.F8 a.off with⟨d,_⟩|⟨x,p,d,q,r⟩
  .simp[d]at b
  .simp[d]at b;subst b;exact⟨p,by simp[q],r⟩
theorem je.adG(h:je Y X u w)(g:ig Y a p)(i:u.cell? a=À v)(j:u.frozen? a=Ã):¬X p.block/\w.frozen? p=Ã:=by
 let⟨k,l,q⟩:=g;let⟨c,r,e,b,s,d,m,t,x,n,y⟩:=h.r _ _ k;rw[Bt d]at i;have z:a.off<c.size:=by grind
 have o:(decide (b.1<=a.off)&&decide (a.off<b.2))=Ã:=by simpa[Ĉ,d]using j
 have f:¬X p.block:=by grind
 refine⟨f,?_⟩;have:=n f;subst this;simp only[Ĉ,m,<-l];exact o
def VF{w:Æ}(h:w.heap[a.block]?=À (Č d e xJ))(b:a.spot=ë): (w.setCell a v).heap[a.block]?=À (Č (d.setIfInBounds a.off v) e xJ):=by simp[ĉ,Ň,h,b]
def kg{w:Æ}:(w.setCell a v).heap.size=w.heap.size:=by simp[ĉ]
def Kn{w:Æ}(h:a.block≠j):(w.setCell a v).heap[j]?=w.heap[j]?:=by simp[ĉ,Ň,h]
def je.jg(h:je Y X u w)(B:ig Y a p)(C:fu Y v z)(D:u.cell? a=À x)(m:¬X p.block):je Y X (u.setCell a v) (w.setCell p z):=by
 let⟨d,E,F⟩:=B;have n:a.spot=ë:=by let⟨c,o,e,f,g,b,_⟩:=h.r _ _ d;rw[Bt b]at D;simp_all
 refine⟨h.S,h.N,h.C,by rw[kg];exact h.I,by rw[kg];exact h.M,λi j k=> ?_⟩;let⟨c,o,e,f,g,b,q,r,G,t,y⟩:=h.r i j k;by_cases l:a.block=i
 .subst l;have:j=p.block:=h.C.1 _ _ _ k d;subst this;exact⟨_,_,e,f,g,VF b n,VF q (by rw[<-F,n]),by rw[<-E];exact pS.N<|(r.r m).rh _ C,λs=>absurd s m,t,by simpa using y⟩
 .exact⟨c,o,e,f,g,by rwa[Kn l],by rwa[Kn λe=>l<|h.C.2.1 _ _ _ d<|e▸k],r,G,t,y⟩
theorem je.wy(h:je Y X u w)(m:∀j,X j->j<w.heap.size){c:Array Â}(n:fU Y c d): je (Y.N u.heap.size w.heap.size) X {u with heap:=u.heap.push (Č c e)} {w with heap:=w.heap.push (Č d e)}:=by
 have a:∀i j,Y i j->i<u.heap.size/\j<w.heap.size:=by intro i j s;let⟨_,_,_,_,_,f,g,_⟩:=h.r i j s;grind
 have b:=fw.S (Y:=Y) (λj x=>absurd (a _ _ x).1 Z) (λi x=>absurd (a _ _ x).2 Z) h.I h.M;refine⟨h.S,h.N,b.2.1 h.C,by have:=h.I;simp[fw.N];omega,by have:=h.M;simp[fw.N];omega,?_⟩
 .rintro i j (x|⟨rfl,rfl⟩)
  .let⟨s,o,p,q,r,f,g,t,v,y,z⟩:=h.r i j x;let⟨k,l⟩:=a i j x;exact⟨s,o,p,q,r,by simp only[Ģ k];rw[<-f,Ý k],by simp only[Ģ l];rw[<-g,Ý l],t.ff b,v,y,z⟩
  .exact⟨c,d,e,(0,0),(0,0),fp,fp,pS.N<|n.ff b,λs=>absurd (m _ s) Z,λ_=>rfl,dy _⟩
theorem oj.fV(Y:fw)(X:Nat->Prop)(w:Æ):oj Y X w w:=⟨ß _,U,U,U,λ_ _ _=>rfl,λ_ _ _=>rfl⟩
def oj.fj{b:fw}{w₁:Æ}(h:oj Y X w w₁)(k:oj b X w₁ u)(d:∀i j,b i j->Y i j\/w.heap.size<=j):oj Y X w u:= ⟨õ h.r k.r,k.I.trans h.I,k.M.trans h.M,k.S.trans h.S,λj a c=>(k.C j (Ô a h.r) λi y=>(d i j y).elim (c i) λz=>by omega).trans<|h.C j a c,λj s a=>(k.N j s<|Ô a h.r).trans<|h.N j s a⟩
def Ko{w:Æ}:(w.freeze a n).heap.size=w.heap.size:=by unfold Ė;split<;>simp
def adH{w:Æ}:(w.freeze a n).os=w.os:=by unfold Ė;split<;>rfl
def adI{w:Æ}:(w.freeze a n).output=w.output:=by unfold Ė;split<;>rfl
def Ol{w:Æ}:(w.freeze a n).tape=w.tape:=by unfold Ė;split<;>rfl
def VG{w:Æ}:(w.freeze a n).drawn=w.drawn:=by unfold Ė;split<;>rfl
theorem Kp{w:Æ}(h:a.block≠j):(w.freeze a n).heap[j]?=w.heap[j]?:=by unfold Ė;split;all_goals grind
def tJ(a:Ú)(n:Nat)(b:Nat×Nat):Nat×Nat:=if n=0 then b else if b.1==b.2 then(a.off,a.off+n)else(min b.1 a.off,max b.2<|a.off+n)
theorem VH{w:Æ}(h:w.heap[a.block]?=À (Č d e xJ)):(w.freeze a n).heap[a.block]?=À (Č d e<|tJ a n xJ):=by unfold Ė tJ;grind
def VI(h:a.off=p.off)(n:Nat)(b:Nat×Nat):tJ a n b=tJ p n b:=by unfold tJ;rw[h]
theorem adJ(h:a.off+n<=i)(b:xJ.2<=i):(tJ a n xJ).2<=i:=by unfold tJ;grind
theorem adK{b:Nat×Nat}(c:0<i)(d:xJ.1=0)(e:i<=xJ.2)(f:b.2<=xJ.2):(tJ a n xJ).1=0/\i<=(tJ a n xJ).2/\(tJ a n b).2<=(tJ a n xJ).2:=by unfold tJ;grind
def je.adL(h:je Y X u w)(y:ig Y a p)(n:Nat)(z:∀c e b,u.heap[a.block]?=À (Č c e b)->a.off+n<=c.size):je Y X (u.freeze a n) (w.freeze p n):=by
 obtain⟨k,l,I⟩:=y;refine⟨Ol.trans<|h.S.trans Ol.symm,VG.trans<|h.N.trans VG.symm,h.C,by rw[Ko];exact h.I,by rw[Ko];exact h.M,λi j d=> ?_⟩;obtain⟨c,m,e,b,B,f,o,q,r,t,v⟩:=h.r i j d;by_cases g:a.block=i
 .subst g;have:j=p.block:=h.C.1 _ _ _ d k;subst this;refine⟨c,m,e,_,_,VH f,VH o,q,λs=> ?_,λs=> ?_,adJ (z _ _ _ f) v⟩
  .obtain⟨C,D,E,x⟩:=r s;rw[<-VI l];obtain⟨F,G,H⟩:=adK x.1 C D E;exact⟨F,G,H,x⟩
  .rw[t s,VI l]
 .exact⟨c,m,e,b,B,by rwa[Kp g],by rwa[Kp λe=>g<|h.C.2.1 _ _ _ k<|e▸d],q,r,t,v⟩
theorem je.G(h:je Y X u w)(b:ig Y a p):w.frozen? p=É->u.frozen? a=É:=by let⟨d,f,j⟩:=b;let⟨c,k,e,l,m,g,i,n,o,q,r⟩:=h.r _ _ d;simp only[Ĉ,g,i,<-f,ě,decide_eq_true_eq];rintro⟨x,y⟩;by_cases s:X p.block;all_goals grind
theorem fJ.gO{α:Type}{V:fw->α->α->Prop}{Y:fw}{m m':ē α}(h:fJ P V Y m m'):∀{u w:Æ},je Y X u w->(∀j,X j->j<w.heap.size)->∀{x:α} {E:Æ},m.run P u=ĥ x E->∀n:Array ý,∃(l:fw) (t:α) (p:Æ) (B:Array ý),Y.r l/\(∀i j,l i j->Y i j\/(u.heap.size<=i/\w.heap.size<=j))/\m'.runT P w n=(ĥ t p,n++B)/\V l x t/\je l X E p/\oj Y X w p/\(∀e∈B,Bs l X e)/\u.heap.size<=E.heap.size:=by
 induction h with
 |fF h=>
  intro u w d _ x E b n;simp only[ã]at b;cases b;exact⟨_,_,w,#[],fw.M _,λ_ _ h=>Ç h,by simp[é],h,d,oj.fV _ _ _,λe o=>by simp at o,ß _⟩
 |@gw Y a a' k k' ha hk D=>
  intro u w d C x E b n;simp only[ã]at b;cases f:u.cell? a with
  |none=>
   let⟨c,Q,e,fr,xS,O,_⟩:=d.r _ _ ha.1;let⟨z,s⟩:=adE (P:=P) O<|Ť==ċ;rw[f]at b;simp only[s]at b;cases b
  |some v=>
   rw[f]at b;let⟨W,S,y⟩:=d.gw ha f;let⟨l,t,p,B,F,G,I,J,K,g,L,H⟩:=D v W y d C b<|n.push ⟨û a',Ã,Ã⟩;refine⟨l,t,p,#[⟨û a',Ã,Ã⟩]++B,F,G,?_,J,K,g,λe o=> ?_,H⟩
   .simp only[é,S];rw[show((Ť==ċ)=Ã)from U,I];rw[<-Ļ,Ł]
   .rcases Ĝ.1 o with o|o
    .simp at o;subst o;exact Ç ⟨a',_,U,F.1 _ _ ha.1,U,λe=>by cases e⟩
    .exact L e o
 |@jg Y a a' v W k k' ha hv _ D=>
  intro u w d C x E b n;cases ho:zI v with
  |false=>exact absurd b<|adC ho
  |true=>
   rw[xT ho]at b;cases f:u.cell? a with
   |none=>
    let⟨c,Q,e,fr,xS,O,_⟩:=d.r _ _ ha.1;let⟨z,s⟩:=adF (P:=P) (v:=v) O<|Ť==ċ;rw[f]at b;simp only[s]at b;cases b
   |some y=>
    rw[f]at b;cases M:u.frozen? a with
    |true=>rw[M]at b;simp at b
    |false=>
     simp only[M,Å,if_false]at b;let⟨ns,hf'⟩:=d.adG ha f M;let⟨y',Bu,_⟩:=d.gw ha f;let⟨l,t,p,B,F,G,I,J,K,g,L,H⟩:=D (d.jg ha hv f ns) (by rwa[kg]) b<|n.push ⟨û a',É,Ã⟩;have S:(w.setCell a' W).heap.size=w.heap.size:=kg;have VJ:(u.setCell a v).heap.size=u.heap.size:=kg;refine⟨l,t,p,#[⟨û a',É,Ã⟩]++B,F,by rwa[S,VJ]at G,?_,J,K,?_,λe o=> ?_,by rwa[VJ]at H⟩
     .rw[adB<|(adD hv).trans ho,Bu];simp only[hf',Å,if_false];rw[show((Ť==ċ)=Ã)from U,I];rw[<-Ļ,Ł]
     .refine⟨by rw[<-S];exact g.r,g.I,g.M,g.S,λj N T=> ?_,λj s N=>(g.N j s<|by rwa[S]).trans<|Kn λe=>ns<|e▸s⟩;rw[g.C j (by rwa[S]) T];exact Kn λe=>T a.block<|e▸ha.1
     .rcases Ĝ.1 o with o|o
      .simp at o;subst o;exact Ç ⟨a',_,U,F.1 _ _ ha.1,U,λ_=>ns⟩
      .exact L e o
 |@wy Y c Q e k k' f _ D=>
  intro u w d C x E b n;simp only[ã]at b;have W:∀i j,Y i j->i<u.heap.size/\j<w.heap.size:=by intro i j S;let⟨_,_,_,_,_,O,hw',_⟩:=d.r i j S;grind
  have n1:∀j,¬Y u.heap.size j:=λj y=>absurd (W _ _ y).1 Z;have n2:∀i,¬Y i w.heap.size:=λi y=>absurd (W _ _ y).2 Z;let⟨l,t,p,B,F,G,I,J,K,g,L,H⟩:=D u.heap.size w.heap.size n1 n2 d.I d.M (d.wy C f) (λj s=>by have:=C j s;simp;omega) b n;refine⟨l,t,p,B,fw.I (fw.S n1 n2 d.I d.M) F,λi j S=> ?_,by simp only[é];exact I,J,K,?_,L,by simp at H;omega⟩
  .rcases G i j S with(y|⟨rfl,rfl⟩)|y
   .exact Ç y
   .exact Î ⟨ß _,ß _⟩
   .simp at y;exact Î ⟨Z,Z⟩
  .have hs:=g.r;simp at hs;refine⟨Z,g.I,g.M,g.S,λj N T=> ?_,λj s N=>(g.N j s<|by simp;omega).trans ?_⟩
   .rw[g.C j (by simp;omega) (λi z=>z.elim (T i) λz=>by omega)];simp[Ģ N]
   .simp[Ģ N]
 |@wz Y r r' k k' pT _ D=>
  intro u w d C x E b n;simp only[ã]at b;let⟨c,Q,e,fr,xS,O,hw',S,_⟩:=d.r _ _ pT;have f:u.shape? r=À (e,c.size):=by simp[Θ,O]
  have s:w.shape? r'=À (e,Q.size):=by simp[Θ,hw']
  rw[f]at b;let⟨l,t,p,B,h⟩:=D e c.size Q.size S.adA d C b n;exact⟨l,t,p,B,by simp only[é,s];exact h⟩
 |@Oj Y a a' k k' ha _ D=>
  intro u w d C x E b n;simp only[ã]at b;let⟨l,t,p,B,h⟩:=D (u.frozen? a) (w.frozen? a') (d.G ha) d C b n;exact⟨l,t,p,B,by simpa only[é]using h⟩
 |@Br Y q k k' _ D=>
  intro u w d C x E b n;simp only[ã]at b;cases M:q.forced with
  |true=>
   rw[M]at b;simp only[if_true]at b;let⟨l,t,p,B,h⟩:=D 0 d C b n;exact⟨l,t,p,B,by simpa only[é,M,if_true]using h⟩
  |false=>
   rw[M]at b;simp only[Å,if_false]at b;have S:je Y X {u with drawn:=u.drawn+1} {w with drawn:=w.drawn+1}:=⟨d.S,by simp[d.N],d.C,d.I,d.M,d.r⟩;rw[d.S,d.N]at b;obtain⟨l,t,p,B,F,G,I,J,K,g,L,H⟩:=D (q.cut<|w.tape w.drawn q) S C (by rwa[d.S,d.N]) n;exact⟨l,t,p,B,F,G,by simp only[é,M,Å,if_false];exact I,J,K,⟨g.r,g.I,g.M,g.S,g.C,g.N⟩,L,H⟩
 |Km _ D=>
  intro u w d C x E b n;simp only[ã]at b;let⟨l,t,p,B,h⟩:=D d C b n;exact⟨l,t,p,B,by simpa only[é]using h⟩
 |@D1 Y mk k k' hm _ D=>
  intro u w d C x E b n;simp only[ã]at b;let⟨l,t,p,B,F,G,I,J,K,g,L,H⟩:=D d C b<|n.push ⟨ů mk,Ã,É⟩;refine⟨l,t,p,#[⟨ů mk,Ã,É⟩]++B,F,G,?_,J,K,g,λe o=> ?_,H⟩
  .simp only[é];rw[I];rw[<-Ļ,Ł]
  .rcases Ĝ.1 o with o|o
   .simp at o;subst o;rcases hm with rfl|⟨f,rfl⟩
    .exact Î<|Ç U
    .exact Î<|Î ⟨f,U⟩
   .exact L e o
 |fT=>
  intro u w _ _ x E b n;simp only[ã]at b;cases b
 |pn h=>
  intro u w _ _ x E b n;exact absurd b<|h _ _ _
end
inductive iF:Â->Prop
 |lY (b:Bool):iF (Ľ b)
 |iB (k:ú) (n:Int):iF (Ć k n)
 |kt (s:ByteArray):iF (ħ s)
 |lE:iF (Þ ë)
 |nD (n c:Nat):iF (bS ë n c)
 |tD:iF bT
 |tE:iF aW
 |tF:iF (eh ë)
 |tH:iF (.map ë)
 |oh {cs:Array Â} (h:∀i (h:i<cs.size),iF cs[i]):iF (.agg cs)
 |lZ {cs:Array Â} (h:∀i (h:i<cs.size),iF cs[i]):iF (ſ cs)
def iF.jK(h:iF v)(Y:fw):fu Y v v:=by
 induction h with
 |lY b=>exact .lY b
 |iB k n=>exact .iB k n
 |kt s=>exact .kt s
 |lE=>exact .lE
 |nD n c=>exact .nD n c
 |tD=>exact .tD
 |tE=>exact .tE
 |tF=>exact .tF
 |tH=>exact .tH
 |oh _ b=>exact .oh U λi c _=>b i c
 |lZ _ b=>exact .lZ U λi c _=>b i c
def om(P:Õ):Prop:=∀t i z,P.info? t=À i->i.zero=À z->iF z
def jy{α:Type}:fw->α->α->Prop:=λ_ a b=>a=b
section
variable{Y:fw}
def fH{α β:Type}{V:fw->α->α->Prop}{V':fw->β->β->Prop}{m c:ē α}{f d:α->ē β}(h:fJ P V Y m c) (g:∀b a e,Y.r b->V b a e->fJ P V' b (f a) (d e)):fJ P V' Y (m>>=f) (c>>=d):=fJ.ma h g
def tK{α β:Type}{c:fw->β->β->Prop}{m:ē α}{f d:α->ē β}(h:fJ P jy Y m m) (g:∀b a,Y.r b->fJ P c b (f a) (d a)):fJ P c Y (m>>=f) (m>>=d):= fJ.ma h λb a i j (e:a=i)=>by subst e;exact g b a j
def sd:fJ P (λ_ a b=>a=P/\b=P) Y da da:=.Km (.fF ⟨U,U⟩)
theorem Om{α:Type}{V:fw->α->α->Prop}{e:Ι}(h:(∃x y s c,e=.bounds x y s c)\/(∃m,e=.error m)\/(∃m,e=.plain m)\/e=.nilDeref):fJ P V Y (runtimePanic e) (runtimePanic e):=by unfold runtimePanic;refine fH sd ?_;rintro f a g _ ⟨b,d⟩;rw[b,d];rcases h with⟨x,y,s,c,rfl⟩|⟨m,rfl⟩|⟨m,rfl⟩|rfl<;>exact .fT
theorem D3{α:Type}{V:fw->α->α->Prop}{k:ú}{y:Int}{c:ax}:fJ P V Y (boundsPanic k h y c) (boundsPanic k h y c):=by
 unfold boundsPanic;simp only[];split
 .apply tK (.Br λn=> .fF U);grind [Om]
 .grind [Om]
def zL(t:Á):fJ P (λ_ a b=>a=b/\P.info? t=À a) Y (Δ t) (Δ t):=by
 unfold Δ;apply fH sd;rintro e a b _ ⟨c,d⟩;rw[c,d];cases h:P.info? t with
 |some i=>exact .fF ⟨U,U⟩
 |none=>exact .fT
def jf(t:Á):fJ P (λ_ a b=>a=b/\P.underlying t=À a) Y (ø t) (ø t):=by
 unfold ø;apply fH sd;rintro e a b _ ⟨c,d⟩;rw[c,d];cases h:P.underlying t with
 |some i=>exact .fF ⟨U,U⟩
 |none=>exact .fT
def F9(b:om P)(t:Á):fJ P fu Y (ω t) (ω t):=by
 unfold ω;apply fH (zL t);rintro d a e _ ⟨rfl,h⟩;cases c:a.zero with
 |some z=>exact .fF ((b t a z h c).jK _)
 |none=>exact .fT
def nF(t:Á):fJ P (λ_ a b=>a=b/\∃i,P.info? t=À i/\i.size=a) Y (ay t) (ay t):=by unfold ay;apply fH (zL t);rintro i a b _ ⟨rfl,h⟩;exact .fF ⟨U,_,h,U⟩
def VK(t:Á):fJ P jy Y (ek t) (ek t):=by unfold ek;apply fH (jf t);rintro b a c _ ⟨rfl,_⟩;split<;>exact .fF U
def Kq(h:ig Y a p):fJ P fu Y (aX a) (aX p):=.gw h λ_ _ b=> .fF b
def adM(h:ig Y a p)(b:fu Y v x):fJ P jy Y (ak a v) (ak p x):=.jg h b (.fF U)
def adN:∀{Y:fw} {a b:Ú} {i:Nat} {c d:Array Â},ig Y a b->fU Y c d->fJ P fU Y (Ō a i n c) (Ō b i n d):=by
 induction n with
 |zero=>intro Y a b i c d _ e;exact .fF e
 |succ n h=>
  intro Y a b i c d f e;unfold Ō;apply fH (Kq<|f.r i);exact λk v l g j=>h (f.ff g)<|(e.ff g).VE j
def On(h:ig Y a p)(n:Nat):fJ P fU Y (cW a n) (cW p n):=adN h<|fU.N Y
def Oo:∀{d c:List Â} {Y:fw} {a e:Ú} {i:Nat},ig Y a e->fU Y d.toArray c.toArray->fJ P jy Y (Κ a d i) (Κ e c i):=by
 intro d
 induction d with
 |nil=>
  intro c Y a e i _ b;have:c=[]:=by have:=b.r;simp at this;exact Ā this.symm
  subst this;exact .fF U
 |cons v d h=>
  intro c Y a e i f b;match c,b with
  |[],b=>have:=b.r;simp at this
  |v'::c,b=>
   unfold Κ;refine fH (adM (f.r i) (by have:=b.C 0 fp fp;simpa using this)) ?_;intro m _ _ g _;apply h (f.ff g);refine⟨by have:=b.r;simpa using this,λj k l=> ?_⟩;have:=b.C (j+1) (by simp at k|-;omega) (by simp at l|-;omega);exact(by simpa using this:fu Y _ _).ff g
theorem VL(h:ig Y a p)(t:Á):fJ P fu Y (ae t a) (ae t p):=by
 unfold ae;apply tK (VK t);intro g b d;split
 .apply fH (nF t);rintro i n _ f ⟨rfl,_⟩;apply fH (On ((h.ff d).ff f) n);exact λj c k _ e=> .fF (.oh e.r e.C)
 .exact Kq<|h.ff d
def adO(h:ig Y a p)(t:Á)(d:fu Y v x):fJ P jy Y (aJ t a v) (aJ t p x):=by
 unfold aJ;apply fH (nF t);rintro f n _ b ⟨rfl,_⟩;have c:=(d.ff b).gU;by_cases e:v.cells.size≠n
 .rw[if_pos e];exact .fT
 .rw[if_neg e,if_neg (by rwa[<-c.r])];exact Oo (h.ff b) c
def Bv(e:Á)(h:fU Y d q):fJ P ig Y (dQ e d) (dQ e q):= .wy h λ_ _ _ _ _ _=> .fF ⟨Î ⟨U,U⟩,U,U⟩
def VM(t:Á)(h:fu Y v x):fJ P ig Y (eI t v) (eI t x):=Bv t h.gU
def VN(t:Á)(h:fU Y d q)(a:Nat):fJ P fu Y (part t d a) (part t q a):=by
 unfold part;apply tK (VK t);intro i b e;split
 .apply fH (nF t);rintro g n _ f ⟨rfl,_⟩;have:=((h.ff e).ff f).F6 a<|a+n;exact .fF (.oh this.r this.C)
 .rcases(h.ff e).M a with⟨n,f⟩|⟨v,j,n,f,g⟩
  .rw[n];exact .fT
  .rw[n,f];exact .fF g
def Gb(h:fu Y v x):fJ P ig Y (ŧ v) (ŧ x):=by cases h<;>first|exact .fT|(rename_i a;exact .fF a)
def Kr(h:fu Y v x):fJ P jy Y (dc v) (dc x):=by cases h<;>first|exact .fF U|exact .fT
def Oq(h:fu Y v x):fJ P jy Y (dz v) (dz x):=by unfold dz;apply fH (Kr h);rintro b a _ _ rfl;exact .fF U
def VO(h:fu Y v x):fJ P jy Y (bW v) (bW x):=by cases h<;>first|exact .fF U|exact .fT
def adP(h:fu Y v x):fJ P fU Y (eJ v) (eJ x):=by cases h<;>first|exact .fT|(rename_i a y;exact .fF ⟨a,y⟩)
def VP(h:fu Y v x):fJ P ig Y (bX v) (bX x):=by cases h<;>first|exact Om (Î<|Î<|Î U)|(rename_i a;exact .fF a)|exact .fT
def adQ(b:om P)(t:Á)(v:Â):fJ P fu Y (Ű t É v) (Ű t É v):=by unfold Ű;apply fH (F9 b t);intro d z e _ h;apply fH (VM t h);exact λf a g _ c=> .fF (.jE c)
def adR(t:Á)(h:fu Y v x):fJ P fu Y (af t v) (af t x):=by unfold af;apply fH (VM t h);exact λc a d _ b=> .fF (.jE b)
theorem adS(t:Á)(h:fu Y v x):fJ P fu Y (Ş t v) (Ş t x):=by unfold Ş;apply fH (Gb h);grind [VL]
def adT(t:Á)(b:fu Y x z)(h:fu Y v jQ):fJ P jy Y (ĳ t x v) (ĳ t z jQ):=by unfold ĳ;apply fH (Gb b);exact λd x z c b=>adO b t<|h.ff c
def adU(h:fu Y v x)(n:Nat):fJ P fu Y (ō v n) (ō x n):=by
 cases h<;>first|exact .fT|skip
 rename_i e f c h;simp only[ō];rcases(fU.mk c h).M n with⟨a,b⟩|⟨v,x,a,b,d⟩
 .rw[a];exact .fT
 .rw[a,b];exact .fF d
def adV(t:Á)(h:fu Y v x)(n:Nat):fJ P fu Y (ű t v n) (ű t x n):=by
 unfold ű;apply fH (jf t);rintro g d _ a ⟨rfl,_⟩;split
 .rename_i b _;cases i:b[n]? with
  |none=>exact .fT
  |some f=>
   apply fH (adP<|h.ff a);exact λj c k _ e=>VN f.type e f.offset
 .exact .fT
end
section
variable{Y:fw}
def se{α β:Type}{V:fw->β->β->Prop}{a b:α}{f c:α->ē β}(h:fJ P V Y (f a) (c b)):fJ P V Y (pure a>>=f) (pure b>>=c):=h
def adW(s:Á)(h:fu Y v x)(n:Nat)(e:∀c f i,P.underlying s=À (de c)->c[n]?=À f->P.info? f.type=À i->i.size≠0): fJ P fu Y (Ŏ s v n) (Ŏ s x n):=by
 unfold Ŏ;apply fH (jf s);rintro r d _ g ⟨rfl,j⟩;cases d<;>try exact .fT
 .rename_i c;simp only[];cases k:c[n]? with
  |none=>exact .fT
  |some f=>
   apply fH (Gb<|h.ff g);intro t a u _ l;unfold bY;refine fH (fH (V':=ig) (nF f.type) ?_) ?_
   .rintro w z _ m ⟨rfl,i,o,p⟩;have:¬z=0:=by rw[<-p];exact e c f i j k o
    rw[if_neg this,if_neg this];exact .fF ((l.ff m).r _)
   .exact λy b B _ q=> .fF (.jE q)
def adX(t:Á)(h:fu Y x v)(j:fu Y z jQ):fJ P fu Y (ŏ t x z) (ŏ t v jQ):=by
 unfold ŏ;apply fH (Kr j);rintro r ⟨k,n⟩ _ l rfl;apply fH (jf t);rintro f d _ m ⟨rfl,s⟩;have g:=(h.ff l).ff m;cases d<;>try exact .fT
 .cases g<;>first|exact .fT|skip
  .refine se<|fH (jf t) ?_;exact λ_ _ _ _ _=>D3
  refine se<|fH (jf t) ?_;rintro o d _ c ⟨rfl,_⟩;simp only[];split
  .apply fH (nF _);rintro p b _ e ⟨rfl,_⟩;exact .fF (.jE (((‹ig f _ _›.ff c).ff e).r _))
  .repeat' (first|exact .fT|exact D3|split)
 .apply fH (Gb g);intro f a u _ q;refine se<|fH (jf t) ?_;rintro o d _ c ⟨rfl,_⟩;simp only[];split
  .apply fH (nF _);rintro p b _ e ⟨rfl,_⟩;exact .fF (.jE (((q.ff c).ff e).r _))
  .repeat' (first|exact .fT|exact D3|split)
def D4(h:fu Y x v)(y:Nat)(c:ax):fJ P jy Y (ī x y c) (ī v y c):=by
 unfold ī;apply fH (Kr h);rintro a ⟨k,n⟩ _ b rfl;simp only[];split
 .exact .fF U
 .exact D3
def sf(Y:fw)(x a:Option Â):Prop:=(x=ë/\a=ë)\/∃v b,x=À v/\a=À b/\fu Y v b
def sf.ff{Y a:fw}(h:Y.r a){x b:Option Â}(r:sf Y x b):sf a x b:=r.imp id λ⟨v,c,d,e,f⟩=>⟨v,c,d,e,f.ff h⟩
def Gc(f:Bool)(g i:Nat){l j h k m n:Option Â}(c:sf Y l j)(o:sf Y h k)(t:sf Y m n):fJ P jy Y (Ĩ f g i l h m) (Ĩ f g i j k n):=by
 unfold Ĩ;rcases t with⟨rfl,rfl⟩|⟨B,C,rfl,rfl,u⟩
 .refine se ?_;rcases o with⟨rfl,rfl⟩|⟨w,x,rfl,rfl,d⟩
  .refine se ?_;rcases c with⟨rfl,rfl⟩|⟨v,p,rfl,rfl,b⟩
   .exact .fF U
   .apply fH (D4 b _ _);rintro r q _ _ rfl;exact .fF U
  .refine fH (D4 d _ _) ?_;rintro y a _ e rfl;rcases(c.ff e)with⟨rfl,rfl⟩|⟨v,p,rfl,rfl,b⟩
   .exact .fF U
   .apply fH (D4 b _ _);rintro r q _ _ rfl;exact .fF U
 .refine fH (D4 u _ _) ?_;rintro D a _ s rfl;rcases o with⟨rfl,rfl⟩|⟨w,x,rfl,rfl,d⟩
  .exact .fT
  .refine fH (D4 (d.ff s) _ _) ?_;rintro y z _ e rfl;rcases(((c.ff s).ff e))with⟨rfl,rfl⟩|⟨v,p,rfl,rfl,b⟩
   .exact .fF U
   .apply fH (D4 b _ _);rintro r q _ _ rfl;exact .fF U
def adY(t:Á)(k:fu Y x v){l C h D m u:Option Â}(g:sf Y l C)(i:sf Y h D)(j:sf Y m u):fJ P fu Y (Ų t x l h m) (Ų t v C D u):=by
 unfold Ų;apply fH (jf t);rintro I d _ o ⟨rfl,J⟩;have k:=k.ff o;have g:=g.ff o;have i:=i.ff o;have j:=j.ff o;cases d<;>try exact .fT
 .cases k<;>first|exact .fT|skip
  rename_i s;have e:m.isSome=u.isSome:=by rcases j with⟨rfl,rfl⟩|⟨_,_,rfl,rfl,_⟩<;>rfl
  simp only[e];split
  .exact .fT
  .apply fH (Gc Ã s.size s.size g i<|Ç ⟨U,U⟩);rintro G ⟨a,b,c⟩ _ _ rfl;exact .fF (.kt _)
 .rename_i H;apply fH (VP k);intro G a K B f;apply fH (jf H);rintro L d _ p ⟨rfl,_⟩;have f:=f.ff p;cases d<;>try exact .fT
  rename_i n e _;apply fH (Gc Ã n n ((g.ff B).ff p) ((i.ff B).ff p)<|(j.ff B).ff p);rintro E ⟨x,y,z⟩ _ q rfl;apply fH (nF e);rintro F w _ r ⟨rfl,_⟩;have f:=(f.ff q).ff r;refine .fF (.j5 ?_ _ _);split
  .exact f
  .exact f.r _
 .rename_i e;cases k<;>first|exact .fT|skip
  .rename_i n c;apply fH (Gc É n c g i j);rintro E ⟨x,y,z⟩ _ q rfl;apply fH (nF e);rintro F w _ r ⟨rfl,_⟩;simp only[Option.map_none,ite_self];exact .fF (.nD _ _)
  .rename_i f n c;apply fH (Gc É n c g i j);rintro E ⟨x,y,z⟩ _ q rfl;apply fH (nF e);rintro F w _ r ⟨rfl,_⟩;have f:=(f.ff q).ff r;by_cases e:z=x
   .simp only[e,if_true];exact .fF (.j5 f _ _)
   .simp only[e,if_false,bH];exact .fF (.j5 (f.r _) _ _)
def adZ(t:Á)(b:fu Y x v){l o h p m q:Option Â}(c:sf Y l o)(f:sf Y h p)(g:sf Y m q):fJ P fu Y (Ő t x l h m) (Ő t v o p q):=by
 unfold Ő;apply fH (jf t);rintro u d _ i ⟨rfl,B⟩;have b:=b.ff i;have c:=c.ff i;have f:=f.ff i;have g:=g.ff i;cases d<;>try exact adY t b c f g
 rename_i n e;apply fH (Gb b);intro C a D k j;apply fH (Gc Ã n n (c.ff k) (f.ff k)<|g.ff k);rintro E ⟨x,y,z⟩ _ r rfl;apply fH (nF e);rintro F w _ s ⟨rfl,_⟩;have j:=(j.ff r).ff s;refine .fF (.j5 ?_ _ _);split
 .exact j
 .exact j.r _
def ad1(t:Á)(a:fu Y x v)(b:fu Y z jQ):fJ P fu Y (ų t x z) (ų t v jQ):=by
 unfold ų;apply fH (Kr b);rintro l ⟨k,n⟩ _ c rfl;apply fH (jf t);rintro m d _ f ⟨rfl,o⟩;have a:=(a.ff c).ff f;cases d<;>try exact .fT
 .cases a<;>first|exact .fT|skip
  simp only[];split
  .exact .fF (.iB _ _)
  .exact D3
 .rename_i p e;cases a<;>first|exact .fT|skip
  rename_i g h;simp only[];split
  .apply fH (nF e);rintro q w _ j ⟨rfl,_⟩;exact VN e ((fU.mk g h).ff j) _
  .exact D3
def ad2(a:UnOp)(b:fu Y x v):fJ P fu Y (bZ a x) (bZ a v):=by cases b<;>cases a<;>first|exact .fT|exact .fF (.iB _ _)|exact .fF (.lY _)
end
section
variable{Y:fw}
def ad3{α β:Type}{g:α->ē β}(d:∀{Y:fw} (a:α),fJ P jy Y (g a)<|g a):∀{Y:fw} (l:List α),fJ P jy Y (l.mapM g) (l.mapM g):=by
 intro Y l
 induction l generalizing Y with
 |nil=>exact .fF U
 |cons a l e=>
  rw[ν];apply tK (d a);intro f b _;apply tK e;exact λh c _=> .fF U
def ad4{α β:Type}{g:α->ē β}(b:∀{Y:fw} (a:α),fJ P jy Y (g a)<|g a)(l:Array α):fJ P jy Y (l.mapM g) (l.mapM g):=by rw[Ĕ];have:=ad3 b (Y:=Y) l.toList;apply fJ.ma this;intro d a c _ (e:a=c);subst e;exact .fF U
def ad5(Y:fw)(p a:Nat×Value):Prop:=p.1=a.1/\fu Y p.2 a.2
inductive wA(Y:fw):List (Nat×Value)->List (Nat×Value)->Prop
 |pU:wA Y [] []
 |xU {p p':Nat×Value} {l l':List (Nat×Value)} (h:ad5 Y p p') (t:wA Y l l'):wA Y (p::l) (p'::l')
def wA.ff{Y a:fw}(h:Y.r a){l b:List (Nat×Value)}(r:wA Y l b):wA a l b:=by
 induction r with
 |pU=>exact .pU
 |xU x _ c=>exact .xU ⟨x.1,x.2.ff h⟩ c
def ad6(f:Nat):∀(c a:List Â) (k:Nat) (b d:Array Â),fU Y c.toArray a.toArray->fU Y b d-> fU Y ((c.zipIdx k).foldl (λb (p:Value×Nat)=>b.setIfInBounds (f+p.2) p.1) b) ((a.zipIdx k).foldl (λb (p:Value×Nat)=>b.setIfInBounds (f+p.2) p.1) d):=by
 intro c
 induction c with
 |nil=>
  intro a k b d p e;have:a=[]:=by have:=p.r;simp at this;exact Ā this.symm
  subst this;exact e
 |cons x c g=>
  intro a k b d p e;match a,p with
  |[],p=>have:=p.r;simp at this
  |x'::a,p=>
   simp only[Ĭ,List.foldl_cons];refine g a (k+1) _ _ ⟨by have:=p.r;simpa using this,λj h i=> ?_⟩ (e.rh _ (by have:=p.C 0 fp fp;simpa using this));have:=p.C (j+1) (by simp at h|-;omega) (by simp at i|-;omega);simpa using this
theorem ad7(b:Nat){a c:Array Â}(e:fU Y d q)(f:fU Y a c): fU Y (d.zipIdx.foldl (λa (p:Value×Nat)=>a.setIfInBounds (b+p.2) p.1) a) (q.zipIdx.foldl (λa (p:Value×Nat)=>a.setIfInBounds (b+p.2) p.1) c):=by have:=ad6 b d.toList q.toList 0 a c (by simpa using e) f;grind [Array.toList_zipIdx]
def Ks(d:Nat->Option (Nat×Nat)):∀{l e:List (Nat×Value)} {a b:Array Â},wA Y l e->fU Y a b-> (az d a l=ë)\/∃c h,az d a l=À c/\az d b e=À h/\fU Y c h:=by
 intro l e a b h
 induction h generalizing a b with
 |pU=>intro c;exact Î ⟨a,b,U,U,c⟩
 |@xU p p' l e hp _ ih=>
  intro c;let⟨i,v⟩:=p;let⟨k,m⟩:=p';obtain⟨rfl,g⟩:=hp;unfold az;cases d i with
  |none=>exact Ç U
  |some q=>
   let⟨j,n⟩:=q;have f:=g.gU;simp only[<-f.r,<-c.r];split
   .exact Ç U
   .exact ih<|ad7 j f c
def ad8(q:om P)(t:Á){l m:Array (Nat×Value)}(h:wA Y l.toList m.toList):fJ P fu Y (Ŵ t l) (Ŵ t m):=by
 unfold Ŵ;apply fH (F9 q t);intro C z D r s;apply fH (jf t);rintro E d _ o ⟨rfl,F⟩;have p:=(s.ff o).gU;have h:=(h.ff r).ff o;cases d<;>try exact .fT
 .rename_i n e;refine fH (nF e) ?_;rintro u w _ b ⟨rfl,_⟩;rcases Ks (λi=>À (i*w,w)) (h.ff b) (p.ff b)with e|⟨c,v,j,k,g⟩
  .simp only[e];exact .fT
  .simp only[j,k];exact .fF (.oh g.r g.C)
 .rename_i x;refine tK (ad4 (λ{Y} (f:Field)=>fH (nF f.type) λG a H _ y=> ?_) x) ?_
  .obtain⟨rfl,_⟩:=y;exact .fF U
  .intro u B b;rcases Ks (B[·]?) (h.ff b) (p.ff b)with e|⟨c,v,j,k,g⟩
   .simp only[e];exact .fT
   .simp only[j,k];exact .fF (.oh g.r g.C)
end
section
variable{Y:fw}
theorem ad9(Y:fw):fu Y (default:Â) default:=.lY _
theorem fU.aea{Y:fw}(r:fU Y d q)(i:Nat):fu Y d[i]! q[i]!:=by
 by_cases h:i<d.size
 .have a:i<q.size:=by rwa[<-r.r]
  rw[getElem!_pos d i h,getElem!_pos q i a];exact r.C i h a
 .have a:¬i<q.size:=by rwa[<-r.r]
  grind [getElem,ad9]
def fU.S{Y:fw}(r:fU Y d q)(n:Nat):fU Y ((dA n).map (d[· %d.size]!)) ((dA n).map (q[· %q.size]!)):=by refine⟨fp,λi a b=> ?_⟩;simp only[ŵ,<-r.r];exact r.aea _
def fU.xV{Y:fw}(r:fU Y d q)(n:Nat):fU Y (Ŷ d n) (Ŷ q n):=by
 unfold Ŷ;have e:n*d.size=n*q.size:=by rw[r.r]
 rw[<-e];exact r.S _
def aeb(f:om P)(t:Á)(b:Nat){m n:Array (Nat×Value)}(h:wA Y m.toList n.toList):fJ P fu Y (ĭ t b m) (ĭ t b n):=by
 unfold ĭ;apply fH (jf t);rintro v d _ p ⟨rfl,x⟩;have h:=h.ff p;cases d<;>try exact .fT
 rename_i e;apply fH (nF e);rintro y w _ o ⟨rfl,_⟩;simp only[];split
 .exact .fT
 split
 .refine se ?_;rcases Ks (λi=>À (i*w,w)) (h.ff o) ((fU.N _).S<|b*w)with e0|⟨c,q,g,j,k⟩
  .rw[e0];exact .fT
  .rw[g,j];exact fH (Bv e k) λr a s _ l=> .fF (.j5 l _ _)
 .refine fH (F9 f e) λB z C u f=>se ?_;rcases Ks (λi=>À (i*w,w)) ((h.ff o).ff u) (f.gU.S<|b*w)with e0|⟨c,q,g,j,k⟩
  .rw[e0];exact .fT
  .rw[g,j];exact fH (Bv e k) λr a s _ l=> .fF (.j5 l _ _)
def Ot(h:fu Y x v):fJ P jy Y (Α x) (Α v):=by cases h<;>first|exact .fT|exact .fF U
def fU.aec(Y:fw)(b:Array UInt8):fU Y (b.map λb=>Ć .u8 b.toNat) (b.map λb=>Ć .u8 b.toNat):= ⟨U,λi a _=>by simp only[ŵ];exact .iB _ _⟩
def Gd(a n:Nat)(h:fu Y x v):fJ P fU Y (ļ a n x) (ļ a n v):=by
 cases h<;>first|exact .fT|exact .fF (fU.N _)|exact .fF (fU.aec _ _)|skip
 rename_i b _ _;exact On b _
def Ou(n:Nat):fJ P jy Y (bP n) (bP n):=by
 unfold bP;split
 .exact .D1 (Ç U) (.fF U)
 .exact .fF U
def aed(a:Array Á)(t:Á)(h:fu Y x v):fJ P fu Y (ş a t #[x]) (ş a t #[v]):=by
 unfold ş;cases a[0]? with
 |none=>exact .fT
 |some b=>
  apply fH (jf b);rintro f d _ c ⟨rfl,g⟩;have h:=h.ff c;cases d<;>try exact .fT
  .cases h<;>first|exact .fT|exact .fF (.iB _ _)
  .rename_i e;refine fH (jf e) ?_;rintro i d _ j ⟨rfl,_⟩;cases d<;>first|exact .fT|exact .fF (.iB _ _)
  .cases h<;>first|exact .fT|exact .fF (.iB _ _)
  .exact .fF (.iB _ _)
  all_goals cases h<;>first|exact .fT|exact .fF (.iB _ _)
def aee(a:Array Á)(t:Á)(h:fu Y x v):fJ P fu Y (Š a t #[x]) (Š a t #[v]):=by
 unfold Š;cases a[0]? with
 |none=>exact .fT
 |some b=>
  apply fH (jf b);rintro f d _ c ⟨rfl,g⟩;have h:=h.ff c;cases d<;>try exact .fT
  .rename_i e;refine fH (jf e) ?_;rintro i d _ j ⟨rfl,_⟩;cases d<;>first|exact .fT|exact .fF (.iB _ _)
  .cases h<;>first|exact .fT|exact .fF (.iB _ _)
  .exact .fF (.iB _ _)
  all_goals cases h<;>first|exact .fT|exact .fF (.iB _ _)
def aef(g:Array Á)(t:Á)(h:fu Y x v)(a:fu Y z jQ):fJ P fu Y (ő g t #[x,z]) (ő g t #[v,jQ]):=by
 unfold ő;cases g[0]? with
 |none=>exact .fT
 |some l=>
  apply fH (jf l);rintro u d _ i ⟨rfl,B⟩;have h:=h.ff i;have a:=a.ff i;cases d<;>try exact .fT
  rename_i e;cases h<;>first|exact .fT|skip
  .rename_i n c;apply fH (Ot a);rintro o m _ b rfl;apply fH (nF e);rintro p w _ f ⟨rfl,_⟩;apply fH (Gd w _<|(a.ff b).ff f);exact λq c r j k=> .fF (.iB _ _)
  .rename_i s n c;apply fH (Ot a);rintro o m _ b rfl;apply fH (nF e);rintro p w _ f ⟨rfl,_⟩;apply fH (Gd w _<|(a.ff b).ff f);intro q c r j k;apply fH (Oo (((s.ff b).ff f).ff j)<|by simpa using k);exact λC _ _ _ _=> .fF (.iB _ _)
end
section
variable{Y:fw}
def Ov{α:Type}{h:Halt}:∀u x a,(ei h:ē α).run P u≠ĥ x a:=by intro u x a e;cases e
theorem Ge{α β:Type}{m:ē α}{f:α->ē β}(h:∀a u x b,(f a).run P u≠ĥ x b):∀u x b,(m>>=f).run P u≠ĥ x b:=by
 intro u x b e;rw[Ä]at e;cases c:m.run P u with
 |ok a w=>rw[c]at e;exact h a _ _ _ e
 |halt z w=>rw[c]at e;cases e
theorem VQ{α:Type}:∀u x a,(goPanic v:ē α).run P u≠ĥ x a:=Ov
def aeg{α:Type}{v:br}:∀u x a,(unsupported v:ē α).run P u≠ĥ x a:=Ov
theorem si{α:Type}(e:Ι):∀u x a,(runtimePanic e:ē α).run P u≠ĥ x a:=by unfold runtimePanic;grind [Ge,VQ]
def Kt{α:Type}{V:fw->α->α->Prop}{e:Ι}{m:ē α}:fJ P V Y (runtimePanic e) m:=.pn (si e)
def aeh(H:om P)(p g t:Á)(i:(∃e,P.underlying g=À (df e))\/P.underlying g=À ę){B:Â}(j:fu Y v jQ)(c:fu Y x B): fJ P fu Y (ĸ #[p,g] t #[v,x]) (ĸ #[p,g] t #[jQ,B]):=by
 unfold ĸ;apply fH (jf p);rintro C d _ D ⟨rfl,W⟩;have j:=j.ff D;have c:=c.ff D;cases d<;>try exact .fT
 rename_i e;have r:=j;cases j<;>first|exact .fT|skip
 all_goals
  refine fH (nF e) ?_;rintro X w _ E ⟨rfl,_⟩;refine fH (jf g) ?_;rintro ρ3 d1 _ F ⟨rfl,k⟩;rcases i with⟨e1,i⟩|i;all_goals
   rw[i]at k;injection k with k;subst k;refine se<|fH (Ot<|c.ff<|fw.I E F) ?_;rintro ρ4 m _ I rfl;have f:=fw.I (fw.I E F) I;have c:=c.ff f;have r:=r.ff f;simp only[];split
   .apply fH (Gd w m c);intro J q K l u;first
     |exact .fF (.nD _ _)
     |exact fH (Oo (((‹ig C _ _›.ff f).ff l).r _)<|by simpa using u) λL _ _ h _=> .fF (.j5 (((‹ig C _ _›.ff f).ff l).ff h) _ _)
   .apply fH (zL e);rintro J G _ l ⟨rfl,_⟩;split
    .exact .pn (xR<|si _)
    .apply fH (zL e);rintro L G _ h ⟨rfl,_⟩;split
     .refine .pn (xR ?_);simp only[Å,if_false];refine Ge λb=> ?_;simp_all
     .apply tK (.Br λ_=> .fF U);intro M nc y;apply fH (zL e);rintro N G _ n ⟨rfl,_⟩;apply tK (Ou _);intro O _ Q;have f:=fw.I (fw.I (fw.I l h)<|fw.I y n) Q;apply fH (Gd w _<|r.ff f);intro ρa o o' h S;apply fH (Gd w m<|c.ff<|fw.I f h);intro M q K y u;apply fH (F9 H e);intro N z z' n T;exact fH (Bv e<|(((S.ff y).ff n).G<|u.ff n).G<|T.gU.xV _) λO a a' _ V=> .fF (.j5 V _ _)
end
section
variable{Y:fw}
def aei(g:om P)(t:Á)(i:fu Y v x)(j:fu Y z jQ):fJ P fu Y (Ĺ t v z) (Ĺ t x jQ):=by
 unfold Ĺ;apply fH (jf t);rintro o d _ f ⟨rfl,p⟩;cases d<;>try exact .fT
 rename_i e;apply fH (Oq<|i.ff f);rintro q r _ k rfl;apply fH (Oq<|(j.ff f).ff k);rintro s u _ y rfl;apply fH (zL e);rintro B C _ D ⟨rfl,_⟩;simp only[];split
 .split
  .exact .pn (xR<|si _)
  .split
   .exact .pn (xR<|si _)
   .exact .pn (Ge λ_=>xR<|si _)
 .apply tK (Ou _);intro E _ F;apply fH (nF e);rintro G w _ H ⟨rfl,_⟩;split
  .exact se<|fH (Bv e<|(fU.N _).S _) λm a n _ b=> .fF (.j5 b _ _)
  .exact fH (F9 g e) λ_ _ _ _ h=>se<|fH (Bv e<|h.gU.S _) λm a n _ b=> .fF (.j5 b _ _)
def uP(P:Õ)(t:Á):Prop:=P.underlying t=À .bool\/(∃k,P.underlying t=À (Β k))\/P.underlying t=À ę
def nG:Â->Prop
 |Þ (À _)=>False
 |_=>True
def VS(t:Á)(i:uP P t\/∃e,P.underlying t=À (ð e))(b:fu Y x v)(c:fu Y z jQ)(j:nG x\/nG z):fJ P jy Y (ó t x z) (ó t v jQ):=by
 unfold ó ā Λ;refine fH (jf t) ?_;rintro o d _ g ⟨rfl,a⟩;have b:=b.ff g;have c:=c.ff g;rcases i with(h|⟨k,h⟩|h)|⟨e,h⟩;all_goals
  rw[h]at a;injection a with a;subst a;cases b<;>cases c<;>first|exact .fT|exact .fF U|(simp[nG]at j;done)|skip
 .simp only[];split<;>first|exact .fF U|exact .fT
 .rename_i l n _ _ _;by_cases f:n=0
  .subst f;exact .fF U
  .refine .pn λu x m e=> ?_;simp_all
 .rename_i l n;by_cases f:n=0
  .subst f;exact .fF U
  .refine .pn λu x m e=> ?_;simp_all
end
section
variable{Y:fw}
def Ku{r:Nat}(h:Y r i):fJ P (λ_ a b=>a=ë/\b=ë) Y (dh r) (dh i):=.wz h λ_ _ _ _=> .fF ⟨U,U⟩
def VT{r:Nat}(h:Y r i):fJ P (λ_ a b=>a=ë/\b=ë) Y (b9 r) (b9 i):=.wz h λ_ _ _ _=> .fF ⟨U,U⟩
def Bw(h:ig Y a p):fJ P (λc x b=>ig c x.1 b.1/\x.2=b.2/\x=(a,Ã)/\b=(p,Ã)) Y (Į a) (Į p):=by unfold Į;apply fH (VT h.1);rintro c x d b ⟨rfl,rfl⟩;exact .fF ⟨h.ff b,U,U,U⟩
def aej(h:ig Y a p):fJ P jy Y (aY a) (aY p):=by unfold aY;apply fH (Ku h.1);rintro b x c d ⟨rfl,rfl⟩;exact .fF U
def Gf(h:ig Y a p):fJ P jy Y (di a) (di p):=by
 have f:=h;let⟨g,i,b⟩:=f;unfold di;cases c:a.spot with
 |some s=>
  rw[c]at b;rw[<-b];exact .fF U
 |none=>
  rw[c]at b;rw[<-b];apply fH sd;rintro k s l d ⟨rfl,e⟩;subst e;apply fH (aej<|h.ff d);intro m _ _ j _;refine .wz (j.1 _ _<|d.1 _ _ g) λe n o q=> ?_;simp only[<-i,ç];split
  .exact .fF U
  .split
   .exact .fF U
   .exact .fT
def Kv(c:Bi Y){b d:Ú}(f:ig Y a p)(g:ig Y b d):(a.block==b.block)=(p.block==d.block):=by
 rw[Χ,beq_iff_eq,beq_iff_eq];constructor
 .intro e;exact c.1 _ _ _ f.1<|e▸g.1
 .intro e;exact c.2.1 _ _ _ f.1<|e▸g.1
theorem VU(g:Bi Y){b c:Ú}(d:ig Y a p)(f:ig Y b c):(a==b)=(p==c):=by have e:=Kv g d f;rw[Χ,beq_iff_eq,beq_iff_eq]at e;rw[Χ,beq_iff_eq,beq_iff_eq];let⟨h,i,j⟩:=a;let⟨k,l,m⟩:=p;let⟨n,o,q⟩:=b;let⟨r,s,t⟩:=c;let⟨_,u,v⟩:=d;let⟨_,w,x⟩:=f;grind
theorem VW(f:Bi Y)(n:Y.C=P.globals.size){b d:Ú}(e:ig Y a p)(g:ig Y b d):fJ P jy Y (š a b) (š p d):=by
 unfold š;apply fH sd;rintro o c q h ⟨i,j⟩;rw[i,j];have k:(a.block !=b.block)=(p.block !=d.block):=by simp only[bne];rw[Kv f e g]
 have l:(decide<|a.block≥P.globals.size)=(decide<|p.block≥P.globals.size):=by have:=f.2.2 _ _ e.1;grind
 rw[k,l];split
 .exact .fT
 .apply fH (Gf<|e.ff h);rintro r x _ m rfl;apply fH (Gf<|(g.ff h).ff m);rintro s y _ t rfl;exact .fF U
def aek(d:Bi Y)(e:Y.C=P.globals.size)(k:ú){b c:Ú}(f:ig Y a p)(g:ig Y b c):fJ P fu Y (Μ k a b) (Μ k p c):=by unfold Μ;apply fH (VW d e f g);rintro h ⟨x,y⟩ _ _ rfl;exact .fF (.iB _ _)
def ael(e:Bi Y)(f:Y.C=P.globals.size)(c:ġ){b d:Ú}(g:ig Y a p)(h:ig Y b d):fJ P fu Y (Ν c a b) (Ν c p d):=by unfold Ν;refine fH (VW e f g h) ?_;rintro i ⟨x,y⟩ _ _ rfl;cases c<;>first|exact .fF (.lY _)|exact .fT
def VX(k:ú)(b:ig Y a p)(n:Int):fJ P fu Y (Ξ k a n) (Ξ k p n):=by
 unfold Ξ;refine .wz b.1 λe m d f=> ?_;apply se;apply fH (zL e);rintro g h _ c ⟨rfl,_⟩;simp only[];split
 .exact .fT
 .apply fH (Gf<|b.ff c);rintro i x _ _ rfl;exact .fF (.iB _ _)
def aem{n:Int}(h:j<=b)(a:ξ P i e j k n=À m):ξ P i e b k n=À m:=by
 unfold ξ at a|-;simp only[bind,Option.bind]at a|-;split at a
 .cases a
 .rename_i f;rw[if_neg f];split at a
  .cases a
  .rename_i g;simp only[g];dsimp only at a;split at a
   .cases a
   .rename_i l;rw[if_neg]
    .exact a
    .intro o;apply l;have:=(λw=>Nat.mul_le_mul_right w h)<|P.bytesOf e;simp at o|-;omega
def aen{i:Á->Bool}:∀{d:Nat} {e:Á} {c a b n:Nat},c<=a->cX P i d e c b n=É->cX P i d e a b n=É
 |0,_,_,_,_,_,_,h=>by simp[cX]at h
 |d+1,e,c,a,b,n,hc,h=>by
  unfold cX at h|-;simp only at h|-;split at h
  .cases h
  .rename_i j;rw[if_neg j];rw[bI,ě,ě,ě]at h|-;rcases h with⟨⟨f,g⟩,k⟩|⟨f,g⟩
   .exact Ç ⟨⟨f,by simp at g|-;omega⟩,k⟩
   .exact Î ⟨by simp at f|-;omega,g⟩
def VY:∀{d:Nat} {e:Á} {c a b:Nat} {u:Á} {n:Nat},c<=a->aZ P d e c b u n=É->aZ P d e a b u n=É
 |0,_,_,_,_,_,_,_,h=>by simp[aZ]at h
 |d+1,e,c,a,b,u,n,hc,h=>by
  unfold aZ at h|-;rw[bI]at h|-;rcases h with h|h
  .exact Ç<|aen hc h
  .right;split at h
   .rename_i f;first|rw[f]|skip
    exact VY hc h
   .cases h
def aeo{a:Á->Bool}:cX P a i e 0 j (n+1)=Ã:=by
 cases i with
 |zero=>simp[cX]
 |succ i=>
  unfold cX;simp
def aep{k:ú}(a:P.underlying t=À (Β k)):aZ P i e 0 j t (n+1)=Ã:=by
 cases i with
 |zero=>simp[aZ]
 |succ i=>
  unfold aZ;rw[aeo];simp[a]
def VZ(t:Á)(d:ig Y a p)(k:ú)(n:Int):fJ P fu Y (ñ #[] t #[Þ<|À a,Ć k n]) (ñ #[] t #[Þ<|À p,Ć k n]):=by
 have f:=d;let⟨c,g,h⟩:=f;unfold ñ;apply se;simp only[];split
 .apply fH (Ku c);rintro i x e b ⟨rfl,rfl⟩;exact .fF (.jE (d.ff b))
 .split
  .exact .fT
  .refine .wz c λe m u j=> ?_;apply se;apply fH sd;rintro i b v l ⟨o,r⟩;rw[o,r,<-g];cases s:ξ P P.depth e (m/P.cellsOf e) a.off n with
   |none=>exact .fT
   |some x=>
    rw[aem (ο<|j.elim (λq=>by omega) λq=>q.1) s];exact .fF (.jE ⟨l.1 _ _ c,U,h⟩)
end
def zM:Obj->Prop
 |Č .. =>False
 |_=>True
inductive kP(P:Õ){α:Type}(V:fw->α->α->Prop):fw->ē α->ē α->Prop
 |gh {Y:fw} {m m':ē α} (h:fJ P V Y m m'):kP P V Y m m'
 |ma {Y:fw} {β:Type} {V0:fw->β->β->Prop} {m m':ē β} {f f':β->ē α} (h:fJ P V0 Y m m') (hf:∀Y' a a',Y.r Y'->V0 Y' a a'->kP P V Y' (f a) (f' a')):kP P V Y (m.bind f) (m'.bind f')
 |D5 {Y:fw} {o:Obj} {g:Nat->α} {m':ē α} (ho:zM o):kP P V Y (.new o λr=>aI<|g r) m'
 |D6 {Y:fw} {m m':ē α} (h:∀u x u',m.run P u=ĥ x u'->∃i o,u.heap.size<=i/\u'.heap[i]?=À o/\zM o):kP P V Y m m'
section
variable{Y:fw}
def kP.aer{α β:Type}{V:fw->α->α->Prop}{i:fw->β->β->Prop}{m e:ē α}{f j:α->β}(h:kP P V Y m e)(k:∀c a d,Y.r c->V c a d->i c (f a) (j d)): kP P i Y (m.bind λa=>aI<|f a) (e.bind λa=>aI<|j a):=by
 induction h with
 |gh h=>exact .gh (h.ma λc a d u w=> .fF (k c a d u w))
 |ma h _ g=>
  rw[ř,ř];exact .ma h λc a d u w=>g c a d u w λx b z l n=>k x b z (fw.I u l) n
 |D5 b=>exact .D5 b
 |@D6 Y m e h=>
  refine .D6 λu x l b=> ?_;rw[Ĵ]at b;cases g:m.run P u with
  |halt z w=>rw[g]at b;cases b
  |ok a w=>
   rw[g]at b;simp only[ã]at b;cases b;exact h u a _ g
def D7(u a:Æ):Prop:=∀i o,u.heap.size<=i->a.heap[i]?=À o->¬zM o
def kP.gO{α:Type}{V:fw->α->α->Prop}{Y:fw}{m r:ē α}(h:kP P V Y m r):∀{u w:Æ},je Y X u w->(∀j,X j->j<w.heap.size)->∀{x:α} {c:Æ},m.run P u=ĥ x c->D7 u c->∀d:Array ý,∃(a:fw) (n:α) (s:Æ) (b:Array ý),Y.r a/\(∀i j,a i j->Y i j\/(u.heap.size<=i/\w.heap.size<=j))/\r.runT P w d=(ĥ n s,d++b)/\V a x n/\je a X c s/\oj Y X w s/\(∀e∈b,Bs a X e)/\u.heap.size<=c.heap.size:=by
 induction h with
 |gh h=>intro u w k g x c b _ d;exact h.gO k g b d
 |@ma Y β V0 m r f f' h _ ih=>
  intro u w k g x c b l d;rw[Ĵ]at b;cases t:m.run P u with
  |halt z w=>rw[t]at b;cases b
  |ok a u1=>
   rw[t]at b;let⟨G,H,w1,E,p,q,v,I,J,B,K,C⟩:=h.gO k g t d;let⟨L,n,M,N,F,O,Q,S,T,W,k7,k8⟩:=ih G a H p I J (λj s=>Ô (g j s) B.r) b (λi o s=>l i o<|õ C s)<|d++E;refine⟨L,n,M,E++N,fw.I p F,λi j D=> ?_,?_,S,T,B.fj W λi j D=>(q i j D).imp id λy=>y.2,λe s=> ?_,õ C k8⟩
   .rcases O i j D with y|⟨y1,y2⟩
    .exact q i j y
    .exact Î ⟨õ C y1,õ B.r y2⟩
   .rw[Ñ,v];simp only[];rw[Q,Ļ]
   .rcases Ĝ.1 s with s|s
    .rcases K e s with⟨a,i,y,z2,z3,z4⟩|z
     .exact Ç ⟨a,i,y,F.1 _ _ z2,z3,z4⟩
     .exact Î z
    .exact k7 e s
 |D5 s=>
  intro u w k g x c b l d;simp only[ã]at b;cases b;exact absurd s<|l u.heap.size _ (ß _) fp
 |D6 h=>
  intro u w k g x c b l d;let⟨i,o,p,q,v⟩:=h u x c b;exact absurd v<|l i o p q
end
section
variable{Y:fw}
theorem aes(i:Bi Y)(F:Y.C=P.globals.size)(t:Á)(s:uP P t){j b m:Ú}(e:ig Y a j)(f:ig Y b m):fJ P jy Y (ó t (Þ<|À a)<|Þ<|À b) (ó t (Þ<|À j)<|Þ<|À m):=by
 unfold ó ā Λ;refine fH (jf t) ?_;rintro G d _ g ⟨rfl,c⟩;rcases s with h|⟨k,h⟩|h
 .rw[h]at c;injection c with c;subst c;exact .fT
 .rw[h]at c;injection c with c;subst c;apply fH (Bw<|e.ff g);rintro H p u l ⟨_,_,rfl,rfl⟩;apply fH (Bw<|(f.ff g).ff l);rintro I q J n ⟨_,_,rfl,rfl⟩;apply fH sd;rintro K p u o ⟨v,w⟩;rw[v,w];have z:=(((e.ff g).ff l).ff n).ff o;have B:=(((f.ff g).ff l).ff n).ff o;have C:=Kv i e f;have D:(decide<|a.block<P.globals.size)=(decide<|j.block<P.globals.size):=by
   have:=i.2.2 _ _ e.1;grind
  simp only[C,D];split
  .apply fH (Gf z);rintro E x _ r rfl;apply fH (Gf<|B.ff r);rintro L y _ M rfl;exact .fF U
  .apply fH (zL t);rintro E x _ r ⟨rfl,_⟩;split
   .rw[VU i e f];split
    .exact .fF U
    .exact .fT
   .exact .fT
 .rw[h]at c;injection c with c;subst c;exact .fT
def aeu(e:Bi Y)(f:Y.C=P.globals.size)(t:Á)(b:uP P t)(c:fu Y x v)(d:fu Y z jQ):fJ P jy Y (ó t x z) (ó t v jQ):=by
 by_cases a:nG x\/nG z
 .exact VS t (Ç b) c d a
 .have g:=λh=>a<|Ç h;have i:=λh=>a<|Î h;cases c<;>first|exact absurd trivial g|skip
  cases d<;>first|exact absurd trivial i|skip
  rename_i j _ _ k;exact aes e f t b j k
def aev(a:ġ)(k:ú)(x y:Int):fJ P fu Y (ag a k x y) (ag a k x y):=by
 unfold ag;split
 .exact Kt
 .cases a<;>first|exact .fT|exact .fF (.iB _ _)
def aew(a:ġ)(k b:ú)(x y:Int):fJ P fu Y (aK a k x b y) (aK a k x b y):=by
 unfold aK;split
 .exact Kt
 .cases a<;>first|exact .fT|exact .fF (.iB _ _)
def aex(a:ġ)(t:Á)(k b:ú)(x y:Int):fJ P fu Y (Ũ a t (Ć k x)<|Ć b y) (Ũ a t (Ć k x)<|Ć b y):=by
 cases a<;>simp only[Ũ]<;>first|exact aew _ _ _ _ _|skip
 all_goals
  split
  .exact .fT
  .first|exact .fF (.iB _ _)|exact .fF (.lY _)|exact aev _ _ _ _
def aey(a:ġ)(t:Á)(x y:ByteArray):fJ P fu Y (Ũ a t (ħ x)<|ħ y) (Ũ a t (ħ x)<|ħ y):=by
 cases a<;>simp only[Ũ,bu]<;>first|exact .fT|exact .fF (.lY _)|skip
 split
 .exact .fT
 .exact .fF (.kt _)
end
section
variable{Y:fw}
def lr{α β:Type}{V0:fw->β->β->Prop}{V:fw->α->α->Prop}{m c:ē β}{f d:β->ē α}(h:fJ P V0 Y m c) (g:∀b a e,Y.r b->V0 b a e->kP P V b (f a) (d e)):kP P V Y (m>>=f) (c>>=d):=.ma h g
def aez{α β:Type}{V:fw->α->α->Prop}{c:fw->β->β->Prop}{m d:ē α}{f e:α->β}(h:kP P V Y m d)(i:∀b a g,Y.r b->V b a g->c b (f a) (e g)): kP P c Y (m>>=λa=>pure<|f a) (d>>=λa=>pure<|e a):=kP.aer h i
def V3(t:Á)(y:Â):∀u x a,(ñ #[] t #[Þ ë,y]).run P u≠ĥ x a:=by
 unfold ñ;refine Ge λn=> ?_;simp only[];split
 .exact aeg
 .split;all_goals simp_all
def D8(t:Á)(i:fu Y x v)(j:∃p,x=Þ p)(k:ú)(n:Int):kP P fu Y (ŕ t x<|Ć k n) (ŕ t v<|Ć k n):=by
 obtain⟨p,rfl⟩:=j;cases i with
 |lE=>
  unfold ŕ;refine lr (jf t) ?_;rintro e d _ h ⟨rfl,_⟩;cases d<;>simp only[Å,if_false,if_true]<;>first|exact .gh .fT|exact .gh (.pn (V3 t _))
 |jE f=>
  unfold ŕ;refine lr (jf t) ?_;rintro e d _ h ⟨rfl,_⟩;have l:∀{a g:Ú},ig e a g->kP P fu e (Į a>>=λp=>ñ #[] t #[Þ<|À p.1,Ć k n]>>=λc=>match c with|Þ (À b)=>ca b p.2|c=>pure c) (Į g>>=λp=>ñ #[] t #[Þ<|À p.1,Ć k n]>>=λc=>match c with|Þ (À b)=>ca b p.2|c=>pure c):=by intro a g f;refine lr (Bw f) ?_;rintro q p r s ⟨m,u,rfl,rfl⟩;refine lr (VZ t m k n) ?_;intro w c y z o;cases o<;>first|exact .D5 trivial|exact .gh (.fF (by constructor<;>assumption))
  cases d<;>simp only[Å,if_false,if_true]<;>first|exact .gh .fT|exact l<|f.ff h
def V4(t:Á)(b:fu Y x v)(c:∃p,x=Þ p)(k:ú)(n:Int):kP P fu Y (Ţ t x<|Ć k n) (Ţ t v<|Ć k n):=by
 unfold Ţ;obtain⟨p,rfl⟩:=c;cases b with
 |lE=>exact .gh (.pn (V3 t _))
 |jE a=>
  apply lr (VT a.1);rintro e p f d ⟨rfl,rfl⟩;exact .gh (VZ t (a.ff d) k n)
def aeA(P:Õ)(a:ġ)(t:Á)(x y:Â):Prop:=a=aA\/a=aL->(uP P t\/((∃e,P.underlying t=À (ð e))/\(nG x\/nG y)))
def V5(c:Bi Y)(d:Y.C=P.globals.size)(t:Á)(f:uP P t\/((∃e,P.underlying t=À (ð e))/\(nG x\/nG z)))(a:fu Y x v)(b:fu Y z jQ):fJ P jy Y (ó t x z) (ó t v jQ):=by
 rcases f with h|⟨g,i⟩
 .exact aeu c d t h a b
 .exact VS t (Î g) a b i
def aeB(m:Bi Y)(n:Y.C=P.globals.size)(c:ġ)(t:Á)(r:aeA P c t x z)(o:fu Y x v)(h:fu Y z jQ):kP P fu Y (Ũ c t x z) (Ũ c t v jQ):=by
 have f:c=aA->fJ P fu Y (ó t x z>>=λb=>pure<|Ľ b) (ó t v jQ>>=λb=>pure<|Ľ b):=by intro e;apply fH (V5 m n t (r<|Ç e) o h);rintro i b _ _ rfl;exact .fF (.lY _)
 have g:c=aL->fJ P fu Y (ó t x z>>=λb=>pure<|Ľ !b) (ó t v jQ>>=λb=>pure<|Ľ !b):=by intro e;apply fH (V5 m n t (r<|Î e) o h);rintro i b _ _ rfl;exact .fF (.lY _)
 cases o with
 |iB k a=>
  cases h with
  |iB d b=>exact .gh (aex c t k d a b)
  |jE l=>
   cases c<;>first|exact .gh .fT|exact .gh (f U)|exact .gh (g U)|exact D8 t (.jE l) ⟨_,U⟩ _ _|skip
   apply lr (Bw l);rintro i p s e ⟨j,_,_,_⟩;exact .gh (VX _ j _)
  |lE=>cases c<;>first|exact .gh .fT|exact .gh (f U)|exact .gh (g U)|exact D8 t .lE ⟨_,U⟩ _ _
  |_=>cases c<;>first|exact .gh .fT|exact .gh (f U)|exact .gh (g U)
 |kt a=>
  cases h with
  |kt b=>exact .gh (aey c t a b)
  |_=>cases c<;>first|exact .gh .fT|exact .gh (f U)|exact .gh (g U)
 |lE=>
  cases h with
  |iB k b=>
   cases c<;>first|exact .gh .fT|exact .gh (f U)|exact .gh (g U)|exact D8 t .lE ⟨_,U⟩ _ _|skip
   refine lr (jf t) ?_;rintro i d _ e ⟨rfl,_⟩;cases d<;>simp only[Å,if_false,if_true]<;>first|exact V4 t .lE ⟨_,U⟩ _ _|exact D8 t .lE ⟨_,U⟩ _ _
  |_=>cases c<;>first|exact .gh .fT|exact .gh (f U)|exact .gh (g U)
 |jE a=>
  cases h with
  |iB k b=>
   cases c<;>first|exact .gh .fT|exact .gh (f U)|exact .gh (g U)|exact D8 t (.jE a) ⟨_,U⟩ _ _|skip
   .refine lr (jf t) ?_;rintro i d _ e ⟨rfl,_⟩;have a:=a.ff e;cases d<;>simp only[Å,if_false,if_true]<;>first|exact V4 t (.jE a) ⟨_,U⟩ _ _|exact D8 t (.jE a) ⟨_,U⟩ _ _
   all_goals
    apply lr (Bw a);rintro i p s e ⟨j,_,_,_⟩;exact .gh (VX _ j _)
  |jE l=>
   cases c<;>first|exact .gh .fT|exact .gh (f U)|exact .gh (g U)|skip
   all_goals
    refine lr (Bw a) ?_;rintro i p s e ⟨j,_,rfl,rfl⟩;refine lr (Bw<|l.ff e) ?_;rintro w q B b ⟨d,_,rfl,rfl⟩;have k:=b.2.1<|e.2.1 m;have u:=b.2.2.trans<|e.2.2.trans n;first|exact .gh (aek k u _ (j.ff b) d)|exact .gh (ael k u _ (j.ff b) d)
  |_=>cases c<;>first|exact .gh .fT|exact .gh (f U)|exact .gh (g U)
 |_=>
  cases h<;>cases c<;>first|exact .gh .fT|exact .gh (f U)|exact .gh (g U)
end
section
variable{Y:fw}
def aeC(a b:Á)(h:(∃k g,P.underlying a=À (Β k)/\P.underlying b=À (Β g))\/(P.underlying a=À ę/\P.underlying b=À ę))(f:fu Y x v):fJ P fu Y (Œ a b x) (Œ a b v):=by
 unfold Œ;refine fH (jf a) ?_;rintro n d _ l ⟨rfl,c⟩;refine fH (jf b) ?_;rintro o p _ m ⟨rfl,e⟩;have f:=(f.ff l).ff m;rcases h with⟨k,g,i,j⟩|⟨i,j⟩;all_goals
  rw[i]at c;rw[j]at e;injection c with c;injection e with e;subst c e;cases f<;>first|exact .fT|exact .fF (.iB _ _)|exact .fF (.kt _)
inductive pV(Y:fw):Ο->Ο->Prop
 |ot {v v':Â} (h:fu Y v v'):pV Y (ï v) (ï v')
 |tL:pV Y aH aH
 |tM (f:à) {c c':Array Â} (h:fU Y c c'):pV Y (ũ f c) (ũ f c')
def Gi(P:Õ)(t:Á):Prop:=uP P t\/∃e,P.underlying t=À (ð e)
def aeD(t:Á)(f:Gi P t)(a g b i:Â):fJ P jy Y (į ā t a b) (į ā t g i):=by
 unfold ā į;refine fH (jf t) ?_;rintro j d _ l ⟨rfl,c⟩;rcases f with(h|⟨k,h⟩|h)|⟨e,h⟩;all_goals
  rw[h]at c;injection c with c;subst c;exact .fF U
def aeE(e:ġ)(t:Á)(c:e=aA\/e=aL->Gi P t)(x y:Ö){d:Â}(h:fu Y v z)(i:fu Y jQ d):fJ P jy Y (ŷ e t x y v jQ) (ŷ e t x y z d):=by
 have g:Gi P t->∀{f:fw} (s:br) (v z jQ d:Â),fJ P jy f (į ā t v jQ>>=λr=>if r=É then unsupported s else pure ()) (į ā t z d>>=λr=>if r=É then unsupported s else pure ()):=by
  intro c f s v z jQ d;apply fH (aeD t c v z jQ d);rintro j r _ _ rfl;split
  .exact .fT
  .exact .fF U
 unfold ŷ;cases e<;>first|exact .fF U|skip
 all_goals
  have c:=c (by first|exact Ç U|exact Î U);cases h<;>cases i<;>first|exact .fF U|skip
 all_goals first
  |(cases x<;>cases y<;>first|exact .fF U|exact g c _ _ _ _ _)
  |(
   simp only[þ,Å,if_false];apply fH sd;rintro f p m n ⟨r,s⟩;rw[r,s];apply fH sd;rintro j q o u ⟨k,l⟩;rw[k,l];split
   .exact .fF U
   .exact g c _ _ _ _ _)
def na{m a:ē Â}(h:fJ P fu Y m a):fJ P pV Y (m>>=λv=>pure<|ï v) (a>>=λv=>pure<|ï v):=h.ma λ_ _ _ _ v=> .fF (.ot v)
def V6{m a:ē Â}(h:kP P fu Y m a):kP P pV Y (m>>=λv=>pure<|ï v) (a>>=λv=>pure<|ï v):=aez h λ_ _ _ _ v=> .ot v
def aeF{m a:ē Unit}(h:fJ P jy Y m a):fJ P pV Y (m>>=λ_=>pure aH) (a>>=λ_=>pure aH):=h.ma λ_ _ _ _ _=> .fF .tL
def aeG(f:à)(b:∃a,P.funcs[f]?=À a/\(a.name== "runtime.NumGoroutine")=Ã/\a.body.isNone=Ã)(e:fU Y d q):fJ P pV Y (ĵ f d) (ĵ f q):=by let⟨a,g,h,i⟩:=b;unfold ĵ;apply fH sd;rintro m p n j ⟨k,l⟩;rw[k,l,g];simp only[h,i,Å,if_false];exact .fF (.tM f (e.ff j))
end
inductive kv(P:Õ)(ev:Ö->Â):Op->Prop
 |zN (x:Ö):kv P ev (.move x)
 |Gj (x:Ö):kv P ev (.assign x)
 |xW (c a b:Ö):kv P ev (.pick c a b)
 |iw (t:Á):kv P ev (.alloc t)
 |Ow (t:Á) (x:Ö):kv P ev (.box t x)
 |Ox (t:Á) (ps:Array (Nat×Operand)):kv P ev (.build t ps)
 |Oy (t:Á) (n:Nat) (ps:Array (Nat×Operand)):kv P ev (dB t n ps)
 |gw (t:Á) (a:Ö):kv P ev (.load t a)
 |jg (t:Á) (a x:Ö):kv P ev (.store t a x)
 |Gk (x:Ö):kv P ev (ez x)
 |D9 (op:ġ) (t:Á) (x y:Ö) (r:Á) (h:op=aA\/op=aL->(uP P t\/((∃e,P.underlying t=À (ð e))/\(nG (ev x)\/nG (ev y))))):kv P ev (dR op t x y r)
 |Oz (op:UnOp) (t:Á) (x:Ö):kv P ev (.unOp op t x)
 |OA (s d:Á) (x:Ö) (h:(∃k k',P.underlying s=À (Β k)/\P.underlying d=À (Β k'))\/(P.underlying s=À ę/\P.underlying d=À ę)):kv P ev (aN s d x)
 |OB (t:Á) (l c:Ö):kv P ev (dS t l c)
 |j5 (t:Á) (x:Ö) (lo hi mx:Option Ö):kv P ev (.slice t x lo hi mx)
 |OC (s:Á) (x:Ö) (n:Nat) (h:∀fields f i,P.underlying s=À (de fields)->fields[n]?=À f->P.info? f.type=À i->i.size≠0):kv P ev (dT s x n)
 |OD (t:Á) (x:Ö) (n:Nat):kv P ev (.field t x n)
 |OE (t:Á) (x i:Ö):kv P ev (dU t x i)
 |OG (t:Á) (x i:Ö):kv P ev (.index t x i)
 |F6 (x:Ö) (n:Nat):kv P ev (.extract x n)
 |Gl (x:Ö) (ts:Array Á):kv P ev (Ω {callee:=ĝ .len,args:=#[x],argTypes:=ts})
 |Gm (x:Ö) (ts:Array Á):kv P ev (Ω {callee:=ĝ .cap,args:=#[x],argTypes:=ts})
 |Gn (x y:Ö) (ts:Array Á):kv P ev (Ω {callee:=ĝ .copy,args:=#[x,y],argTypes:=ts})
 |Gp (x y:Ö) (t0 t1:Á) (h:(∃e,P.underlying t1=À (df e))\/P.underlying t1=À ę):kv P ev (Ω {callee:=ĝ .append,args:=#[x,y],argTypes:=#[t0,t1]})
 |gL (f:à) (args:Array Ö) (ts:Array Á) (nH:ev (aO f)=eH (.func f) #[] #[]) (h:∃fn,P.funcs[f]?=À fn/\(fn.name== "runtime.NumGoroutine")=Ã/\fn.body.isNone=Ã):kv P ev (Ω {callee:=cb<|aO f,args:=args,argTypes:=ts})
end Go.Proofs.Y.Lift
namespace Go.Proofs.Y.Lift
open Go Go.Conc
section
variable{Y:fw}
def V7(Y:fw):Ö->Prop
 |dV v=>fu Y v v
 |ep g=>Y g g
 |_=>True
theorem Gq(Y:fw):fu Y ľ ľ:=.lZ U λi h=>absurd h fp
def aeH{a a':bF}(h:fU Y a.tmps a'.tmps)(b:V7 Y qQ):fu Y (a.eval qQ) (a'.eval qQ):=by
 cases qQ with
 |tmp t=>
  simp only[å,ĩ];rcases h.M t with⟨f,g⟩|⟨v,d,f,g,c⟩
  .rw[f,g];exact Gq Y
  .rwa[f,g]
 |const v=>exact b
 |global g=>exact .jE ⟨b,U,U⟩
 |func f=>exact .fn _
def aeI(b:Array au)(h:fU Y d q)(j:Nat):ł b d j=ł b q j:=by
 unfold ł;cases(b[j]?).bind (·.dst)with
 |none=>rfl
 |some a=>
  simp only[Option.bind_some];rcases h.M a with⟨c,e⟩|⟨v,g,c,e,f⟩
  .rw[c,e]
  .rw[c,e];cases f<;>rfl
def Kw(a:Array au)(o:au)(h:fU Y d q):Ħ o (ł a d)=Ħ o (ł a q):=by have:ł a d=ł a q:=funext<|aeI a h;rw[this]
def aeJ{a a':bF}(h:fU Y a.tmps a'.tmps)(d:Option Tmp)(b:fu Y v x):fU Y (a.put d v).tmps (a'.put d x).tmps:=by
 cases d with
 |none=>exact h
 |some d=>exact h.rh d b
end
section
variable{Y:fw}
def V8{b:Ö->Â}(a:Array Ö)(h:∀x∈a,fu Y (xX x)<|b x):fU Y (a.map xX) (a.map b):= ⟨fp,λi c d=>by simp only[ŵ];exact h _<|Array.getElem_mem _⟩
def V9{c:Ö->Â}(a:Array (Nat×Operand))(h:∀x∈(a.toList.map (·.2)).toArray,fu Y (xX x)<|c x):wA Y (a.map λp=>(p.1,xX p.2)).toList (a.map λp=>(p.1,c p.2)).toList:=by
 simp only[Array.toList_map];have d:∀x∈a.toList.map (·.2),fu Y (xX x) (c x):=λx b=>h x (by simpa using b);generalize a.toList=l at d
 induction l with
 |nil=>exact .pU
 |cons p l e=>exact .xU ⟨U,d _ fp⟩ (e λx b=>d x<|by simp at b|-;exact Î b)
def OH{a:Ö->Â}(x:Option Ö)(h:∀y,x=À y->fu Y (xX y) (a y)):sf Y (x.map xX) (x.map a):=by
 cases x with
 |none=>exact Ç ⟨U,U⟩
 |some x=>exact Î ⟨_,_,U,U,h x U⟩
def Wa(p:om P)(D:Bi Y)(E:Y.C=P.globals.size){w:Ö->Â}(F:∀f,w (aO f)=eH (.func f) #[] #[])(B:kv P xX o.op)(g:∀x∈o.op.operands,fu Y (xX x)<|w x):kP P pV Y (ì xX o) (ì w o):=by
 let⟨O,u,Q,S,T,guard⟩:=o;simp only at B g;unfold ì;simp only[];cases B with
 |zN x=>exact .gh (.fF (pV.ot<|g x<|by simp[Ê]))
 |Gj x=>exact .gh (.fF (pV.ot<|g x<|by simp[Ê]))
 |xW c a b=>
  apply lr (VO<|g c<|by simp[Ê]);rintro G r _ k rfl;refine .gh (.fF (pV.ot ?_));split
  .exact(g a<|by simp[Ê]).ff k
  .exact(g b<|by simp[Ê]).ff k
 |iw t=>exact .gh (na<|adQ p t _)
 |Ow t x=>exact .gh (na<|adR t<|g x<|by simp[Ê])
 |Ox t z=>exact .gh (na<|ad8 p t<|V9 z g)
 |Oy t n z=>exact .gh (na<|aeb p t n<|V9 z g)
 |gw t a=>exact .gh (na<|adS t<|g a<|by simp[Ê])
 |jg t a x=>exact .gh (aeF<|adT t (g a<|by simp[Ê])<|g x<|by simp[Ê])
 |Gk x=>
  simp only[];have j:=g x (by simp[Ê]);generalize xX x=v at j;generalize w x=v' at j;cases j<;>first|exact .gh Kt|exact .gh (.fF (pV.ot<|by constructor<;>assumption))|skip
  rename_i f;cases f<;>exact .gh (.fF (pV.ot<|.fn _))
 |D9 u t x y r h=>
  have j:=g x (by simp[Ê]);have C:=g y (by simp[Ê]);apply V6;apply lr (aeE u t (λe=>(h e).imp id λq=>q.1) x y j C);exact λG _ _ k _=>aeB (k.2.1 D) (k.2.2.trans E) u t h (j.ff k)<|C.ff k
 |Oz u t x=>exact .gh (na<|ad2 u<|g x<|by simp[Ê])
 |OA s d x h=>exact .gh (na<|aeC s d h<|g x<|by simp[Ê])
 |OB t l c=>exact .gh (na<|aei p t (g l<|by simp[Ê])<|g c<|by simp[Ê])
 |j5 t x H I J=>exact .gh (na<|adZ t (g x<|by simp[Ê]) (OH H λy e=>g y<|by simp[Ê,e]) (OH I λy e=>g y<|by simp[Ê,e])<|OH J λy e=>g y<|by simp[Ê,e])
 |OC s x n h=>exact .gh (na<|adW s (g x<|by simp[Ê]) n h)
 |OD t x n=>exact .gh (na<|adV t (g x<|by simp[Ê]) n)
 |OE t x i=>exact .gh (na<|adX t (g x<|by simp[Ê])<|g i<|by simp[Ê])
 |OG t x i=>exact .gh (na<|ad1 t (g x<|by simp[Ê])<|g i<|by simp[Ê])
 |F6 x n=>exact .gh (na<|adU (g x<|by simp[Ê]) n)
 |Gl x m=>
  simp only[ù,č,Ē,pure_bind,Ø,â,ä];exact .gh (na<|aed m _<|g x<|by simp[Ê,ô])
 |Gm x m=>
  simp only[ù,č,Ē,pure_bind,Ø,â,ä];exact .gh (na<|aee m _<|g x<|by simp[Ê,ô])
 |Gn x y m=>
  simp only[ù,č,Ē,pure_bind,Ø,â,ä];exact .gh (na<|aef m _ (g x<|by simp[Ê,ô])<|g y<|by simp[Ê,ô])
 |Gp x y K L h=>
  simp only[ù,č,Ē,pure_bind,Ø,â,ä];exact .gh (na<|aeh p K L _ h (g x<|by simp[Ê,ô])<|g y<|by simp[Ê,ô])
 |gL f M m N h=>
  simp only[ù,N,F f,İ,č,pure_bind,Ď,ď];exact .gh (aeG f h<|V8 M λx j=>g x<|by simp[Ê,ô,j])
end
def World.tp(u:Æ)(T:ψ)(D:Nat):Æ:={u with tape:=T,drawn:=D}
def wB(T:ψ)(D:Nat)(a:ψ)(b n:Nat):Prop:=∀i,i<n->a (b+i)=T (D+i)
def wB.mb{T:ψ}(h:wB T i xQ j (n+1)):xQ j=T i:=h 0 Z
def wB.jz{T:ψ}(h:wB T i xQ j (n+m)):wB T i xQ j n:=λa b=>h a Z
def wB.aeK{b:ψ}(h:wB xQ i b j (n+m)):wB xQ (i+n) b (j+n) m:=λa c=>by have:=h (n+a) Z;rw[show j+n+a=j+(n+a) by omega,show i+n+a=i+(n+a) by omega];exact this
def sj{α:Type}(P:Õ)(m:ē α):Prop:=∀(u:Æ) (T:ψ) (D:Nat),∃(n:Nat) (v:Æ),
 ∀x c,m.run P ((World.tp u T D))=ĥ x c->c=(World.tp v T<|D+n)/\∀a b,wB T D a b n->m.run P ((World.tp u a b))=ĥ x ((World.tp v a<|b+n))
section
variable{α β:Type}
def Bx{m:ē α}(h:∀u x a,m.run P u=ĥ x a->a=u/\∀b c,m.run P ((World.tp u b c))=ĥ x ((World.tp u b c))):sj P m:=λu T D=>⟨0,u,λx a e=>by let⟨d,f⟩:=h _ x a e;exact⟨d,λb c _=>f b c⟩⟩
def OI{m:ē α}(h:∀u x a,m.run P u≠ĥ x a):sj P m:=λu T D=>⟨0,u,λx a e=>absurd e<|h _ _ _⟩
def aeL{m:ē α}{f:α->ē β}(h:sj P m)(i:∀a,sj P<|f a):sj P (m.bind f):=by
 intro u T D;let⟨n,v,j⟩:=h u T D;cases b:m.run P ((World.tp u T D))with
 |halt z w=>exact⟨0,u,λx c e=>by rw[Ĵ,b]at e;cases e⟩
 |ok a k=>
  obtain⟨rfl,l⟩:=j a k b;let⟨o,w,p⟩:=i a v T<|D+n;refine⟨n+o,w,λx c e=> ?_⟩;rw[Ĵ,b]at e;let⟨q,r⟩:=p x c e;refine⟨by rw[q,cN],λz d g=> ?_⟩;rw[Ĵ,l z d g.jz,<-cN];exact r z (d+n) g.aeK
theorem aeM{m a:ē α}(h:∀u,m.run P u=a.run P u)(b:sj P a):sj P m:=by intro u T D;let⟨n,v,c⟩:=b u T D;exact⟨n,v,λx d e=>by grind⟩
def aeN(q:bU):sj P (π q):=by
 intro u T D;cases a:q.forced with
 |true=>exact⟨0,u,λx d e=>by simp only[π,ã,a,if_true]at e;cases e;exact⟨U,λb c _=>by simp only[π,ã,a,if_true];rfl⟩⟩
 |false=>
  refine⟨1,u,λx d e=> ?_⟩;simp only[π,ã,a,Å,if_false]at e;cases e;refine⟨U,λb c f=> ?_⟩;simp only[π,ã,a,Å,if_false];have g:(World.tp u b c).tape (World.tp u b c).drawn q=T D q:=congrFun f.mb q;rw[g];rfl
def Kx{γ:Type}(s:String):(MonadExcept.throw s:Except String γ)=bG s:=rfl
def aeO(a:Ú)(md:Mode):sj P (aX a md):=by
 refine Bx λu x f e=> ?_;simp only[aX,ã]at e|-;cases b:u.cell? a with
 |some v=>
  rw[b]at e;cases e;exact⟨U,λc d=>by simp only[show((World.tp u c d)).cell? a=À x from b]⟩
 |none=>
  rw[b]at e;cases v:u.farLoad P a (md==ċ)with
  |error z=>simp only[v]at e;cases e
  |ok p=>
   simp only[v]at e;cases e;exact⟨U,λc d=>by simp only[show((World.tp u c d)).cell? a=ë from b,show((World.tp u c d)).farLoad P a (md==ċ)=.ok p from v]⟩
def OJ(u:Æ)(a:Ú)(v:Â)(md:Mode):∀T D,((World.tp u T D)).farStore P a v (md==ċ)=(u.farStore P a v<|md==ċ).map λp=>((World.tp p.1 T D),p.2):=by
 intro T D;have c:∀b t,((World.tp u T D)).viewStore P b t a v (md==ċ)=(u.viewStore P b t a v<|md==ċ).map λp=>((World.tp p.1 T D),p.2):=by
  intro b t;unfold bJ;have o:((World.tp u T D)).seen P b t a (md==ċ)=u.seen P b t a (md==ċ):=U;rw[o];simp only[bind,ρ,pure,ς,Kx];cases u.seen P b t a (md==ċ)with
  |error e=>simp only[];split<;>rfl
  |ok r=>
   simp only[];repeat' (first|rfl|split)
 unfold Ŧ;have e:((World.tp u T D)).heap=u.heap:=U;cases r:u.heap[a.block]? with
 |none=>simp only[aP,e,r];rfl
 |some o=>
  cases o<;>first
   |(simp only[aP,e,r];rfl)
   |skip
  simp only[e,r,c];cases u.viewStore P _ _ a v (md==ċ)<;>rfl
def aeP(a:Ú)(v:Â)(md:Mode):sj P (ak a v md):=by
 by_cases b:zI v=É
 .intro u T D;cases d:u.cell? a with
  |some y=>
   cases c:u.frozen? a with
   |true=>exact⟨0,u,λx h e=>by simp only[ak]at e;rw[xT b,show((World.tp u T D)).cell? a=À y from d]at e;simp only[show((World.tp u T D)).frozen? a=É from c,if_true]at e;cases e⟩
   |false=>
    refine⟨0,u.setCell a v,λx h e=> ?_⟩;simp only[ak]at e|-;rw[xT b,show((World.tp u T D)).cell? a=À y from d]at e;simp only[show((World.tp u T D)).frozen? a=Ã from c,Å,if_false]at e;cases e;refine⟨U,λf g i=> ?_⟩;rw[xT b,show((World.tp u f g)).cell? a=À y from d];simp only[show((World.tp u f g)).frozen? a=Ã from c,Å,if_false];rfl
  |none=>
   cases c:u.farStore P a v (md==ċ)with
   |error z=>exact⟨0,u,λx h e=>by simp only[ak]at e;rw[xT b,show((World.tp u T D)).cell? a=ë from d]at e;simp only[OJ u a v md T D,c,cg]at e;cases e⟩
   |ok p=>
    refine⟨0,p.1,λx h e=> ?_⟩;simp only[ak]at e|-;rw[xT b,show((World.tp u T D)).cell? a=ë from d]at e;simp only[OJ u a v md T D,c,cg]at e;cases e;refine⟨U,λf g i=> ?_⟩;rw[xT b,show((World.tp u f g)).cell? a=ë from d];simp only[OJ u a v md f g,c,cg];rfl
 .exact OI λu x h e=>by cases v<;>first|exact absurd U b|cases e
def aeQ(o:Obj):sj P (eK o):=λu T D=>⟨0,{u with heap:=u.heap.push o},λx a e=>by cases e;exact⟨U,λb c _=>rfl⟩⟩
def aeR(r:Nat):sj P (cj r):=by
 refine Bx λu x d e=> ?_;simp only[cj,ã]at e|-;cases a:u.heap[r]? with
 |none=>rw[a]at e;cases e
 |some o=>
  rw[a]at e;cases o<;>first
   |(cases e;done)
   |(cases e;exact⟨U,λb c=>by simp only[show((World.tp u b c)).heap[r]?=_ from a]⟩)
end
def ri(u:Æ):Prop:=∀(i:Nat) (c:Array Â) (e:Á),u.heap[i]?≠À (Ÿ c e)
structure Kd(u u':Æ):Prop where
 r:ri u->ri u'
 C:∀(i:Nat) (o:Obj),u.heap[i]?=À o->zM o->∃o',u'.heap[i]?=À o'/\zM o'
theorem Kd.fV(u:Æ):Kd u u:=⟨id,λ_ o h k=>⟨o,h,k⟩⟩
def Kd.fj{a c:Æ}(h:Kd a w)(k:Kd w c):Kd a c:=⟨λx=>k.r<|h.r x,λi o x y=>by let⟨d,e,f⟩:=h.C i o x y;exact k.C i d e f⟩
def Gr:Halt->Bool
 |.panic _=>É
 |.stuck _=>É
 |ŀ (.initOrder _)=>Ã
 |ŀ _=>É
 |_=>Ã
def pw{α:Type}(P:Õ)(m:ē α):Prop:=∀u,ri u->(∀x a,m.run P u=ĥ x a->Kd u a)/\(∀z a,m.run P u=bV z a->Gr z=É)
section
variable{α β:Type}
def Wb(a:α):pw P (aI a):=λu _=>⟨λx b h=>by cases h;exact Kd.fV u,λz b h=>by cases h⟩
def Gt{z:Halt}(h:Gr z=É):pw P (ei z:ē α):=λu _=>⟨λx a e=>(by cases e),λb a e=>(by cases e;exact h)⟩
def Ky{m:ē α}{f:α->ē β}(h:pw P m)(j:∀a,pw P<|f a):pw P (m.bind f):=by
 intro u d;let⟨g,k⟩:=h u d;refine⟨λx i e=> ?_,λz i e=> ?_⟩<;>rw[Ĵ]at e
 .cases b:m.run P u with
  |ok a c=>
   rw[b]at e;exact(g a c b).fj<|(j a c<|(g a c b).r d).1 x i e
  |halt z w=>rw[b]at e;cases e
 .cases b:m.run P u with
  |ok a c=>
   rw[b]at e;exact(j a c<|(g a c b).r d).2 z i e
  |halt c w=>rw[b]at e;cases e;exact k _ _ b
def Wc:pw P da:=λu _=>⟨λx a h=>by cases h;exact Kd.fV u,λz a h=>by cases h⟩
theorem aeS(q:bU):pw P (π q):=by
 intro u b;constructor
 .intro x a e;simp only[π,ã]at e;split at e<;>cases e
  .exact Kd.fV u
  .exact⟨id,λi o h k=>⟨o,h,k⟩⟩
 .intro z a e;simp only[π,ã]at e;grind
def aeT(m:Mark):pw P (mark m):=λu _=>⟨λx a h=>by cases h;exact Kd.fV u,λz a h=>by cases h⟩
def aeU(r:Nat):pw P (ck r):=λu _=>⟨λx a h=>by cases h;exact Kd.fV u,λz a h=>by cases h⟩
def aeV(a:Ú):pw P (eL a):=λu _=>⟨λx b h=>by cases h;exact Kd.fV u,λz b h=>by cases h⟩
theorem aeW(o:Obj)(h:∀c e,o≠Ÿ c e):pw P (eK o):=by
 intro u b;refine⟨λx d e=> ?_,λz d e=>by cases e⟩;cases e;refine⟨λ_ i c e a=> ?_,λi f a g=>⟨f,?_,g⟩⟩
 .simp only[Array.getElem?_push]at a;split at a
  .grind
  .exact b i c e a
 .grind
theorem Wg{f:Obj->Obj}(n:∀o,zM o->zM (f o))(j:∀o c e,f o=Ÿ c e->∃d g,o=Ÿ d g):Kd u {u with heap:=u.heap.modify b f}:=by
 refine⟨λh i c e a=> ?_,λi o a p=> ?_⟩
 .simp only[Ň]at a;split at a
  .let⟨o,k,l⟩:=ģ.1 a;let⟨d,g,m⟩:=j o c e l;exact h i d g<|m▸k
  .exact h i c e a
 .grind
theorem aeX(a:Ú)(v:Â):Kd u (u.setCell a v):=by
 unfold ĉ;refine Wg (λo b=> ?_) λo c e h=> ?_
 .cases o<;>first|exact b.elim|trivial
 .grind
theorem Wh(b:ri u)(a:Ú)(s:String):Gr (u.noCell a s)=É:=by
 unfold aP;split
 .rename_i h;exact absurd h<|b _ _ _
 .rfl
 .rfl
theorem aeY(a:Ú)(m:Mode):pw P (aX a m):=by
 intro u d;constructor
 .intro x c e;simp only[aX,ã]at e;grind [Kd.fV]
 .intro z c e;simp only[aX,ã]at e;split at e
  .cases e
  .split at e
   .cases e
   .rename_i b;cases e;unfold ŋ at b;split at b
    .split at b<;>cases b;rfl
    .grind [Wh]
theorem aeZ{k:Ú}{r:Array Value×TypeId×(Nat×Nat)×Nat×Value×List (Nat×Nat×List UInt8)}(h:w.seen P a t k yQ=.ok r):∃c e d,w.heap[a.block]?=À (Č c e d):=by unfold World.seen at h;simp only[bind,ρ,pure,ς,Kx]at h;grind
theorem ae0{k:Ú}{l:List Ú}(h:w.viewStore P a t k v yQ=.ok (u,l)):Kd w u:=by
 have q:∃c e n d f g,w.heap[a.block]?=À (Č d f g)/\u={w with heap:=w.heap.setIfInBounds a.block (Č c e n)}:=by
  unfold bJ at h;cases i:w.seen P a t k yQ with
  |error e=>
   rw[i]at h;simp only[bind,ρ,pure,ς,Kx]at h;repeat' (first|contradiction|split at h)
  |ok r=>
   let⟨d,f,g,j⟩:=aeZ i;rw[i]at h;simp only[bind,ρ,pure,ς,Kx]at h;repeat' (first|contradiction|split at h)
   all_goals(simp only[Except.ok.injEq,Prod.mk.injEq]at h;obtain⟨rfl,_⟩:=h;exact⟨_,_,_,d,f,g,j,U⟩)
 obtain⟨c,e,n,d,f,g,j,rfl⟩:=q;refine⟨λs i x m r=> ?_,λi o r y=> ?_⟩
 .rw[Ś]at r;split at r
  .grind
  .exact s i x m r
 .by_cases m:a.block=i
  .subst m;rw[j]at r;cases r;exact y.elim
  .grind
theorem ae1(a:Ú)(v:Â)(m:Mode):pw P (ak a v m):=by
 intro u d;by_cases c:zI v=É
 .constructor
  .intro x f e;simp only[ak]at e;rw[xT c]at e;split at e
   .split at e
    .cases e
    .cases e;exact aeX a v
   .split at e
    .rename_i b;cases e;unfold Ŧ at b;grind [ae0]
    .cases e
  .intro z f e;simp only[ak]at e;rw[xT c]at e;split at e
   .split at e
    .cases e;rfl
    .cases e
   .split at e
    .cases e
    .rename_i b;cases e;unfold Ŧ at b;split at b
     .split at b<;>cases b;rfl
     .grind [Wh]
 .cases v<;>first|exact absurd U c|exact Gt (P:=P) U u d
def fG(P:Õ)(m:ē α):Prop:=pw P m/\sj P m
theorem gH(a:α):fG P (pure a):=⟨Wb a,Bx λu x b e=>by cases e;exact⟨U,λ_ _=>rfl⟩⟩
def OL{z:Halt}(h:Gr z=É):fG P (ei z:ē α):=⟨Gt h,OI λu x a e=>by cases e⟩
theorem gf{m:ē α}{f:α->ē β}(h:fG P m)(b:∀a,fG P<|f a):fG P (m>>=f):=⟨Ky h.1 λa=>(b a).1,aeL h.2 λa=>(b a).2⟩
def OM{m:ē α}{f:α->β}(h:fG P m):fG P (Functor.map f m):=gf h λ_=>gH _
theorem ji(s:String):fG P (stuck s:ē α):=OL U
def Wi(v:Â):fG P (goPanic v:ē α):=OL U
theorem rj:fG P da:=⟨Wc,Bx λu x a e=>by cases e;exact⟨U,λ_ _=>rfl⟩⟩
theorem tN(q:bU):fG P (π q):=⟨aeS q,aeN q⟩
def Gu(m:Mark):fG P (mark m):=⟨aeT m,Bx λu x a e=>by cases e;exact⟨U,λ_ _=>rfl⟩⟩
theorem uQ(r:Nat):fG P (ck r):=⟨aeU r,Bx λu x a e=>by cases e;exact⟨U,λ_ _=>rfl⟩⟩
theorem OO(a:Ú):fG P (eL a):=⟨aeV a,Bx λu x b e=>by cases e;exact⟨U,λ_ _=>rfl⟩⟩
def Kz(o:Obj)(h:∀c e,o≠Ÿ c e):fG P (eK o):=⟨aeW o h,aeQ o⟩
def Gv(a:Ú)(m:Mode):fG P (aX a m):=⟨aeY a m,aeO a m⟩
def ae2(a:Ú)(v:Â)(m:Mode):fG P (ak a v m):=⟨ae1 a v m,aeP a v m⟩
theorem KA{m m':ē α}(h:∀u,m.run P u=m'.run P u)(a:fG P m'):fG P m:=⟨λu b=>by have:=a.1 u b;rwa[<-h u]at this,aeM h a.2⟩
end
section
variable{α:Type}
def nI(u:br)(h:Gr (ŀ u)=É):fG P (unsupported u:ē α):=OL h
def Gw(e:Á)(c:Array Â):fG P (dQ e c):=by unfold dQ;exact gf (Kz _<|by intro _ _ h;cases h) λ_=>gH _
def Wj(t:Á)(v:Â):fG P (eI t v):=Gw _ _
def wC(t:Á):fG P (Δ t):=by unfold Δ;repeat' (first|(with_reducible first|exact gH _|exact ji _|exact rj|refine gf ?_ λ_=> ?_)|split)
theorem sk(t:Á):fG P (ø t):=by unfold ø;repeat' (first|(with_reducible first|exact gH _|exact ji _|exact rj|refine gf ?_ λ_=> ?_)|split)
def uR{p:Prop}(h:p:=by repeat' (first|(with_reducible first|exact gH _|exact ji _|exact rj|exact sk _|exact Wi _|exact Wj _ _|exact tN _|exact wC _|exact Gv _ _|exact uQ _|exact Gu _|refine gf ?_ (λ_=> ?_)|refine OM ?_|refine nI _ ?_)|split|rfl)):p:=h
def KB(t:Á):fG P (Ū t):=by unfold Ū;exact uR
def xY(e:Ι):fG P (runtimePanic e:ē α):=by unfold runtimePanic;repeat' (first|(with_reducible first|exact KB _|refine gf ?_ λ_=> ?_)|split|exact uR)
def Wk(k:ú)(x y:Int)(c:ax):fG P (boundsPanic k x y c:ē α):=by unfold boundsPanic;simp only[];repeat' (first|(with_reducible first|exact xY _|refine gf ?_ λ_=> ?_)|split|exact uR)
def ae3(r:Nat):pw P (cj r):=by
 intro u b;constructor
 .intro x a e;simp only[cj,ã]at e;split at e<;>first|(cases e;done)|(cases e;exact Kd.fV u)
 .intro z a e;simp only[cj,ã]at e;split at e<;>first|(cases e;done)|(cases e;rfl)
theorem Wl(r:Nat):fG P (cj r):=⟨ae3 r,aeR r⟩
def KC(t:Á):fG P (ω t):=by unfold ω;exact uR
def uS(t:Á):fG P (ay t):=by unfold ay;exact uR
def OP(t:Á):fG P (ek t):=by unfold ek;exact uR
def Wm(a:Ú):∀(n i:Nat) (b:Array Â),fG P<|Ō a i n b
 |0,i,b=>gH _
 |n+1,i,b=>by unfold Ō;exact gf (Gv _ _) λ_=>Wm a n _ _
def OQ(a:Ú)(n:Nat):fG P (cW a n):=Wm a n _ _
def KD(a:Ú):∀(b:List Â) (i:Nat),fG P<|Κ a b i
 |[],i=>gH _
 |v::b,i=>by unfold Κ;exact gf (ae2 _ _ _) λ_=>KD a b _
theorem Wn(t:Á)(a:Ú):fG P (ae t a):=by unfold ae;repeat' (first|(with_reducible first|exact uS _|exact OP _|exact OQ _ _|refine gf ?_ λ_=> ?_)|split|exact uR)
def ae4(t:Á)(a:Ú)(v:Â):fG P (aJ t a v):=by unfold aJ;repeat' (first|(with_reducible first|exact uS _|exact KD _ _ _|refine gf ?_ λ_=> ?_)|split|exact uR)
def Wo(t:Á)(c:Array Â)(o:Nat):fG P (part t c o):=by unfold part;repeat' (first|(with_reducible first|exact uS _|exact OP _|refine gf ?_ λ_=> ?_)|split|exact uR)
def Wp(v:Â):fG P (ŧ v):=by unfold ŧ;exact uR
def Wq(v:Â):fG P (dc v):=by unfold dc;exact uR
def kh{p:Prop}(h:p:=by repeat' (first|(with_reducible first|exact gH _|exact ji _|exact rj|exact sk _|exact Wi _|exact Wj _ _|exact KB _|exact tN _|exact xY _|exact wC _|exact Gv _ _|exact uS _|exact OP _|exact OQ _ _|exact KD _ _ _|exact Wq _|exact KC _|exact ae4 _ _ _|exact Wn _ _|exact Wp _|exact Wo _ _ _|exact uQ _|exact Wl _|exact Wk _ _ _ _|exact Gu _|refine gf ?_ (λ_=> ?_)|refine OM ?_|refine nI _ ?_)|split|rfl)):p:=h
def Gx(v:Â):fG P (dz v):=by unfold dz;exact kh
def KE(v:Â):fG P (bW v):=by unfold bW;exact kh
def ae5(v:Â):fG P (eJ v):=by unfold eJ;exact kh
theorem Wr(v:Â):fG P (bX v):=by unfold bX;exact kh
def Ws(t:Á)(b:Bool)(v:Â):fG P (Ű t b v):=by unfold Ű;exact kh
def Wt(t:Á)(v:Â):fG P (af t v):=by unfold af;exact kh
def Wu(t:Á)(v:Â):fG P (Ş t v):=by unfold Ş;exact kh
def Wv(t:Á)(a v:Â):fG P (ĳ t a v):=by unfold ĳ;exact kh
def Ww(v:Â)(n:Nat):fG P (ō v n):=by unfold ō;exact kh
def Wx(t:Á)(v:Â)(n:Nat):fG P (ű t v n):=by unfold ű;repeat' (first|(with_reducible first|exact ae5 _|refine gf ?_ λ_=> ?_)|split|exact kh)
def Wy{γ δ:Type}(f:γ->ē δ)(a:∀x,fG P<|f x):∀l:List γ,fG P<|l.mapM f
 |[]=>by rw[cP];exact gH _
 |x::l=>by rw[ν];exact gf (a x) λ_=>gf (Wy f a l) λ_=>gH _
theorem Wz{γ δ:Type}(f:γ->ē δ)(a:∀x,fG P<|f x)(l:Array γ):fG P (l.mapM f):=by rw[Ĕ];exact OM<|Wy f a _
def ae6(l:Array Field):fG P (l.mapM λf=>do pure (f.offset,<-ay f.type)):=Wz _ (λ_=>gf (uS _) λ_=>gH _) l
def KF(r:Nat):fG P (dh r):=by unfold dh;exact kh
def WA(r:Nat):fG P (b9 r):=by unfold b9;exact kh
def WB(a:Ú):fG P (aY a):=by unfold aY;repeat' (first|(with_reducible first|exact KF _|refine gf ?_ λ_=> ?_)|split|exact kh)
def By(a:Ú):fG P (di a):=by unfold di;repeat' (first|(with_reducible first|exact gH _|exact ji _|exact rj|exact uQ _|exact WB _|refine gf ?_ λ_=> ?_)|split|simp only[]|(rename_i b;cases b<;>simp only[Å,if_false,if_true,þ,Ă]))
def Ea(a:Ú):fG P (Į a):=by unfold Į;repeat' (first|(with_reducible first|exact WA _|refine gf ?_ λ_=> ?_)|split|exact kh)
def ae7(a:Ú)(x y:Nat):fG P (partAt a x y):=by unfold partAt;repeat' (first|(with_reducible first|exact By _|refine gf ?_ λ_=> ?_)|split|exact kh)
def ae8(a:Ú)(f:Field):fG P (bY a f):=by unfold bY;repeat' (first|(with_reducible first|exact ae7 _ _ _|refine gf ?_ λ_=> ?_)|split|exact kh)
def WC(s:Á)(v:Â)(n:Nat):fG P (Ŏ s v n):=by unfold Ŏ;repeat' (first|(with_reducible first|exact ae8 _ _|refine gf ?_ λ_=> ?_)|split|exact kh)
def WE(t:Á)(x i:Â):fG P (ŏ t x i):=by unfold ŏ;repeat' (first|(with_reducible first|exact gH _|exact ji _|exact sk _|exact Wk _ _ _ _|exact uS _|exact Wp _|exact Wq _|refine gf ?_ (λ_=> ?_)|refine nI _ ?_)|split|rfl|simp only[])
def ae9(x:Â)(y:Nat)(c:ax):fG P (ī x y c):=by unfold ī;exact kh
def WG(b:Bool)(l c:Nat)(x y z:Option Â):fG P (Ĩ b l c x y z):=by unfold Ĩ;repeat' (first|(with_reducible first|exact ae9 _ _ _|refine gf ?_ λ_=> ?_)|split|exact kh)
def afa(t:Á)(v:Â)(x y z:Option Â):fG P (Ų t v x y z):=by unfold Ų;repeat' (first|(with_reducible first|exact Wr _|exact WG _ _ _ _ _ _|refine gf ?_ λ_=> ?_)|split|exact kh)
def WH(t:Á)(v:Â)(x y z:Option Â):fG P (Ő t v x y z):=by unfold Ő;repeat' (first|(with_reducible first|exact WG _ _ _ _ _ _|exact afa _ _ _ _ _|refine gf ?_ λ_=> ?_)|split|exact kh)
def WI(t:Á)(x i:Â):fG P (ų t x i):=by unfold ų;exact kh
def WJ(o:ġ)(k:ú)(x y:Int):fG P (dC o k x y):=by unfold dC;exact kh
def WK(o:ġ)(k:ú)(x y:Int):fG P (dW o k x y):=by unfold dW;exact kh
def WL(o:UnOp)(v:Â):fG P (bZ o v):=by unfold bZ;repeat' (first|(with_reducible first|exact WJ _ _ _ _|exact WK _ _ _ _)|split|exact kh)
def WM(t:Á)(a:Array (Nat×Value)):fG P (Ŵ t a):=by unfold Ŵ;repeat' (first|(with_reducible first|exact ae6 _|refine gf ?_ λ_=> ?_)|split|exact kh)
def WN(t:Á)(n:Nat)(a:Array (Nat×Value)):fG P (ĭ t n a):=by unfold ĭ;repeat' (first|(with_reducible first|exact gH _|exact ji _|exact Gw _ _|exact sk _|exact KC _|exact uS _|refine gf ?_ (λ_=> ?_)|refine nI _ ?_)|split|rfl|simp only[]|(rename_i b;cases b<;>simp only[Å,if_false,if_true,þ,Ă]))
def OS(n:Nat):fG P (bP n):=by unfold bP;exact kh
def WO(t:Á)(x y:Â):fG P (Ĺ t x y):=by unfold Ĺ;repeat' (first|(with_reducible first|exact gH _|exact ji _|exact tN _|exact Gw _ _|exact wC _|exact sk _|exact xY _|exact KC _|exact uS _|exact Gx _|exact OS _|refine gf ?_ λ_=> ?_)|split|simp only[]|(rename_i b;cases b<;>simp only[Å,if_false,if_true,þ,Ă]))
def WQ(v:Â):fG P (Α v):=by unfold Α;exact kh
def WR(s n:Nat)(v:Â):fG P (ļ s n v):=by unfold ļ;exact kh
def afb(a:Ú)(n:Nat):fG P (aB a n):=by unfold aB;exact kh
def afc(s l n:Nat)(b:Option Ú)(v:Â):fG P (a7 s l n b v):=by unfold a7;repeat' (first|(with_reducible first|exact gH _|exact OO _|exact afb _ _|refine gf ?_ λ_=> ?_)|split|simp only[]|(rename_i b;cases b<;>simp only[Å,if_false,if_true,þ,Ă]))
def WS(a:Array Á)(t:Á)(x:Array Â):fG P (ş a t x):=by unfold ş;exact kh
def WT(a:Array Á)(t:Á)(x:Array Â):fG P (Š a t x):=by unfold Š;exact kh
def WU(a:Array Á)(t:Á)(x:Array Â):fG P (ő a t x):=by unfold ő;repeat' (first|(with_reducible first|exact WQ _|exact WR _ _ _|refine gf ?_ λ_=> ?_)|split|exact kh)
def WV(a:Array Á)(t:Á)(x:Array Â):fG P (ĸ a t x):=by unfold ĸ;repeat' (first|(with_reducible first|exact gH _|exact ji _|exact tN _|exact Gu _|exact Gw _ _|exact wC _|exact sk _|exact xY _|exact KC _|exact uS _|exact KD _ _ _|exact Gx _|exact OS _|exact WQ _|exact WR _ _ _|exact afc _ _ _ _ _|refine gf ?_ (λ_=> ?_)|refine nI _ ?_)|split|rfl|(rename_i b;cases b<;>simp only[Å,if_false,if_true,þ,Ă]))
end
section
variable{α:Type}
theorem OT(o:ġ)(k:ı)(x y:Nat):fG P (cQ o k x y):=by unfold cQ;repeat' (first|(with_reducible first|exact gH _|exact ji _|exact tN _|refine gf ?_ λ_=> ?_)|split|simp only[]|(rename_i b;cases b<;>simp only[Å,if_false,if_true,þ,Ă]))
theorem OU(o:ġ)(k:ı)(x y:Nat):fG P (dD o k x y):=by unfold dD;grind [gH,ji]
theorem afd(s:ı)(b:Nat)(d:ı):fG P (aQ s b d):=by unfold aQ;grind [gH,tN,gf]
theorem WW(s:ı)(b:Nat)(d:ú):fG P (bK s b d):=by unfold bK;grind [gH,tN,gf]
theorem afe(o:ġ)(k:ı)(x y:Nat):fG P (a8 o k x y):=by unfold a8;grind [gH,ji,OT,gf]
def nJ{p:Prop}(h:p:=by repeat' (first|(with_reducible first|exact gH _|exact ji _|exact tN _|exact OT _ _ _ _|exact KE _|exact OU _ _ _ _|exact afd _ _ _|exact afe _ _ _ _|exact xY _|exact rj|exact By _|exact uQ _|exact Gx _|exact KF _|exact sk _|exact Ea _|exact WA _|refine gf ?_ (λ_=> ?_)|refine nI _ ?_)|split|rfl)):p:=h
def WX(o:ġ)(k:ı)(x y:Nat):fG P (cm o k x y):=by unfold cm;exact nJ
def aff(s:ı)(b:Nat)(d:ı):fG P (bL s b d):=by unfold bL;exact nJ
def OV(x y:Nat):fG P (cu x y):=by unfold cu;exact nJ
def OW(x y:Nat):fG P (cv x y):=by unfold cv;exact nJ
def OX(x y:Nat):fG P (cw x y):=by unfold cw;exact nJ
def afg(x y:Nat):fG P (cx x y):=by unfold cx;exact nJ
def afh(a b c d:Nat):fG P (aC a b c d):=by unfold aC;repeat' (first|(with_reducible first|exact OV _ _|exact OW _ _|exact OX _ _|refine gf ?_ λ_=> ?_)|split|exact nJ)
def afi(s a b c d:Nat):fG P (σ s a b c d):=by unfold σ;repeat' (first|(with_reducible first|exact OV _ _|exact OW _ _|exact OX _ _|refine gf ?_ λ_=> ?_)|split|exact nJ)
def afj(a b c d:Nat):fG P (ah a b c d):=by unfold ah;repeat' (first|(with_reducible first|exact gH _|exact WX _ _ _ _|exact OV _ _|exact OW _ _|exact OX _ _|exact afg _ _|exact afi _ _ _ _ _|refine gf ?_ λ_=> ?_)|split|simp only[])
def WY(o:ġ)(k:ı)(a b c d:Nat):fG P (dj o k a b c d):=by unfold dj;repeat' (first|(with_reducible first|exact WX _ _ _ _|exact aff _ _ _|exact afh _ _ _ _|exact afj _ _ _ _|refine gf ?_ λ_=> ?_)|split|exact nJ)
def afk(o:ġ)(k:ú)(x y:Int):fG P (ag o k x y):=by unfold ag;exact nJ
def WZ(o:ġ)(x y:Int):fG P (eA o x y):=by unfold eA;exact nJ
def afl(o:ġ)(k:ú)(x:Int)(a:ú)(y:Int):fG P (aK o k x a y):=by unfold aK;exact nJ
def OY(o:ġ)(x y:ByteArray):fG P (bu o x y):=by unfold bu;exact nJ
def W0(a b:Ú):fG P (š a b):=by unfold š;exact nJ
def afm(k:ú)(a b:Ú):fG P (Μ k a b):=by unfold Μ;repeat' (first|(with_reducible first|exact W0 _ _|refine gf ?_ λ_=> ?_)|split|exact nJ)
def afn(o:ġ)(a b:Ú):fG P (Ν o a b):=by unfold Ν;repeat' (first|(with_reducible first|exact W0 _ _|refine gf ?_ λ_=> ?_)|split|exact nJ)
def afo(k:ú)(a:Ú)(n:Int):fG P (Ξ k a n):=by unfold Ξ;repeat' (first|(with_reducible first|exact gH _|exact uQ _|exact wC _|exact By _|refine gf ?_ (λ_=> ?_)|refine nI _ ?_)|split|rfl|simp only[]|(rename_i b;cases b<;>simp only[Å,if_false,if_true,þ,Ă]))
def W3(a:Array Á)(t:Á)(x y:Â):fG P (ñ a t #[x,y]):=by
 unfold ñ;cases x<;>first|exact ji _|skip
 refine gf (Gx y) λn=> ?_;exact nJ
def afp(a:Ú)(b:Bool):fG P (ca a b):=by unfold ca;repeat' (first|(with_reducible first|exact gH _|refine gf ?_ (λ_=> ?_)|refine Kz _ ?_)|split|(intro _ _ h;cases h;done))
def afq(t:Á)(x y:Â):fG P (ŕ t x y):=by unfold ŕ;repeat' (first|(with_reducible first|exact W3 _ _ _ _|exact afp _ _|refine gf ?_ λ_=> ?_)|split|exact nJ)
def afr(t:Á)(x y:Â):fG P (Ţ t x y):=by unfold Ţ;repeat' (first|(with_reducible first|exact W3 _ _ _ _|refine gf ?_ λ_=> ?_)|split|exact nJ)
theorem xZ{γ:Type}{d:dE}(h:P.underlying t=À d){f:dE->ē γ}(a:fG P (f d)):fG P (ø t>>=f):=by
 have e:∀u,(ø t).run P u=ĥ d u:=by intro u;unfold ø;simp_all
 grind [KA,Ä,È]
def W4(t:Á)(x y:Â)(a:uP P t\/((∃e,P.underlying t=À (ð e))/\(nG x\/nG y))):fG P (ó t x y):=by
 unfold ó ā Λ;rcases a with(h|⟨k,h⟩|h)|⟨⟨e,h⟩,k⟩<;>refine xZ h ?_
 .repeat' (first|(with_reducible first|exact gH _|exact ji _|exact rj|exact wC _|exact By _|exact Ea _|refine gf ?_ (λ_=> ?_)|refine nI _ ?_)|contradiction|split)
 .repeat' (first|(with_reducible first|exact gH _|exact ji _|exact rj|exact wC _|exact By _|exact Ea _|refine gf ?_ (λ_=> ?_)|refine nI _ ?_)|contradiction|split|rfl)
 .repeat' (first|(with_reducible first|exact gH _|exact ji _|exact rj|exact wC _|exact By _|exact Ea _|refine gf ?_ (λ_=> ?_)|refine nI _ ?_)|contradiction|split)
 .repeat' (first|(with_reducible first|exact gH _|exact ji _|exact rj|exact wC _|exact By _|exact Ea _|refine gf ?_ (λ_=> ?_)|refine nI _ ?_)|contradiction|exact(Or.elim k id id:False).elim|split)
def afs(t:Á)(a:Gi P t)(x y:Â):fG P (į ā t x y):=by unfold ā į;rcases a with(h|⟨k,h⟩|h)|⟨e,h⟩<;>refine xZ h ?_<;>(cases x<;>cases y<;>exact gH _)
theorem W5(c:ġ)(t:Á)(d:c=aA\/c=aL->Gi P t)(x y:Ö)(a b:Â):fG P (ŷ c t x y a b):=by
 unfold ŷ;by_cases e:c=aA\/c=aL
 .have f:=d e;rcases e with rfl|rfl;all_goals
   repeat' (first|(with_reducible first|exact afs _ f _ _|refine gf ?_ λ_=> ?_)|split|exact nJ)
 .grind [gH]
end
section
variable{α:Type}
theorem afu(k:ú)(n:Int):fG P (cR k n):=by unfold cR;grind [gH]
theorem W6(n:Int):fG P (bb n):=by unfold bb;grind [gH]
def afv(a:ġ)(t:Á)(x y:Â)(h:a=aA\/a=aL->(uP P t\/((∃e,P.underlying t=À (ð e))/\(nG x\/nG y)))):fG P (Ũ a t x y):=by unfold Ũ;repeat' (first|(with_reducible first|exact W4 _ _ _ (h<|Ç U)|exact W4 _ _ _ (h<|Î U)|exact gH _|exact ji _|exact sk _|exact Ea _|exact WJ _ _ _ _|exact WK _ _ _ _|exact OT _ _ _ _|exact OU _ _ _ _|exact WY _ _ _ _ _ _|exact afk _ _ _ _|exact WZ _ _ _|exact afl _ _ _ _ _|exact OY _ _ _|exact afm _ _ _|exact afn _ _ _|exact afo _ _ _|exact afq _ _ _|exact afr _ _ _|refine gf ?_ (λ_=> ?_)|refine nI _ ?_)|contradiction|split|rfl)
def afw(s d:Á)(x:Â)(h:(∃k a,P.underlying s=À (Β k)/\P.underlying d=À (Β a))\/(P.underlying s=À ę/\P.underlying d=À ę)):fG P (Œ s d x):=by
 unfold Œ;rcases h with⟨k,a,b,c⟩|⟨b,c⟩<;>refine xZ b<|xZ c ?_
 .repeat' (first|(with_reducible first|exact afu _ _|exact gH _|exact WW _ _ _|refine nI _ ?_)|contradiction|split|rfl)
 .repeat' (first|(with_reducible first|exact W6 _|exact gH _|exact WW _ _ _|refine nI _ ?_)|contradiction|split|rfl)
def W7:∀(l:List FieldStep) (t:Á) (x:Option Â),fG P<|bx l t x
 |[],t,x=>by unfold bx;exact gH _
 |s::l,t,x=>by unfold bx;repeat' (first|(with_reducible first|exact W7 l _ _|exact gH _|exact ji _|exact sk _|exact Wo _ _ _|refine gf ?_ λ_=> ?_)|split|(intro _ _ h;cases h;done)|rfl|simp only[]|(rename_i b;cases b<;>simp only[Å,if_false,if_true,þ,Ă]))
def W8:∀(n:Nat) (t:Á) (v:Â) (s:String),fG P<|aR n t v s
 |0,t,v,s=>by unfold aR;exact gH _
 |n+1,t,v,s=>by unfold aR;repeat' (first|(with_reducible first|exact W8 n _ _ _|exact W7 _ _ _|exact gH _|exact ji _|exact wC _|exact sk _|refine gf ?_ λ_=> ?_)|split|(intro _ _ h;cases h;done)|rfl|simp only[]|(rename_i b;cases b<;>simp only[Å,if_false,if_true,þ,Ă]))
def me{m:ē Â}(h:fG P m):fG P (m>>=λv=>pure<|ï v):=gf h λ_=>gH _
theorem afx(f:à)(b:∃a,P.funcs[f]?=À a/\(a.name== "runtime.NumGoroutine")=Ã/\a.body.isNone=Ã)(c:Array Â):fG P (ĵ f c):=by let⟨a,d,e,g⟩:=b;refine KA (m':=pure<|ũ f c) (λu=> ?_)<|gH _;unfold ĵ;rw[Ä,ă];grind [È,Å]
def afy(j:kv P xX o.op):fG P (ì xX o):=by
 let⟨k,g,m,p,u,guard⟩:=o;simp only at j;unfold ì;simp only[];cases j with
 |zN x=>exact gH _
 |Gj x=>exact gH _
 |xW c a b=>exact gf (KE _) λ_=>gH _
 |iw t=>exact me<|Ws _ _ _
 |Ow t x=>exact me<|Wt _ _
 |Ox t b=>exact me<|WM _ _
 |Oy t n b=>exact me<|WN _ _ _
 |gw t a=>exact me<|Wu _ _
 |jg t a x=>exact gf (Wv _ _ _) λ_=>gH _
 |Gk x=>
  simp only[];repeat' (first|(with_reducible first|exact W8 _ _ _ _|exact gH _|exact rj|exact xY _|exact KE _|exact Ws _ _ _|exact Wt _ _|exact Wu _ _|exact Wv _ _ _|exact Ww _ _|exact Wx _ _ _|exact WC _ _ _|exact WE _ _ _|exact WH _ _ _ _ _|exact WI _ _ _|exact WL _ _|exact WM _ _|exact WN _ _ _|exact WO _ _ _|exact WS _ _ _|exact WT _ _ _|exact WU _ _ _|exact WV _ _ _|refine gf ?_ (λ_=> ?_)|refine nI _ ?_)|split|rfl)
 |D9 g t x y r h=>exact me<|gf (W5 g t (λe=>(h e).imp id λq=>q.1) x y _ _) λ_=>afv g t _ _ h
 |Oz g t x=>exact me<|WL _ _
 |OA s d x h=>exact me<|afw s d _ h
 |OB t l c=>exact me<|WO _ _ _
 |j5 t x b a c=>exact me<|WH _ _ _ _ _
 |OC s x n h=>exact me<|WC _ _ _
 |OD t x n=>exact me<|Wx _ _ _
 |OE t x i=>exact me<|WE _ _ _
 |OG t x i=>exact me<|WI _ _ _
 |F6 x n=>exact me<|Ww _ _
 |Gl x a=>
  simp only[ù,č,Ē,pure_bind,Ø,â,ä];exact me<|WS _ _ _
 |Gm x a=>
  simp only[ù,č,Ē,pure_bind,Ø,â,ä];exact me<|WT _ _ _
 |Gn x y a=>
  simp only[ù,č,Ē,pure_bind,Ø,â,ä];exact me<|WU _ _ _
 |Gp x y b c h=>
  simp only[ù,č,Ē,pure_bind,Ø,â,ä];exact me<|WV _ _ _
 |gL f c a b h=>
  simp only[ù,b,İ,č,pure_bind,Ď,ď];exact afx f h _
end
def fm(f:à)(t:Array Â)(k:List ś):Ę:=(base f).at ⟨t,[]⟩ k
structure St where
 f:à
 t:Array Â
 k:List ś
 C:Bool
 L:List (FuncId×Array Value×List ś)
def St.r(s:St)(cs:List Ę):Ó:=G (if s.C then{fm s.f s.t s.k with mode:=.returning}else fm s.f s.t s.k)<|s.L.map (λx=>fm x.1 x.2.1 x.2.2)++cs
def pW(t:Array Â)(d:Option Tmp)(v:Â):Array Â:=(Act.put ⟨t,[]⟩ d v).tmps
def tO(t:Array Â)(d:Option Tmp)(v:Â):Act.put ⟨t,[]⟩ d v=⟨pW t d v,[]⟩:=by cases d<;>rfl
inductive LS(P:Õ):St->Æ->St->Æ->Prop
 |pU {f t L u:_}:LS P ⟨f,t,[],Ã,L⟩ u ⟨f,t,[],É,L⟩ u
 |ou {f t k L u:_}:LS P ⟨f,t,Đ .ret::k,Ã,L⟩ u ⟨f,t,Đ .ret::k,É,L⟩ u
 |tL {f t k L u:_}:LS P ⟨f,t,Đ eM::k,Ã,L⟩ u ⟨f,t,k,Ã,L⟩ u
 |ya {f t k L u l:_}:LS P ⟨f,t,Đ (dX l)::k,Ã,L⟩ u ⟨f,t,k,Ã,L⟩ u
 |zO {f t k L u id:_}:LS P ⟨f,t,dF id::k,Ã,L⟩ u ⟨f,t,k,Ã,L⟩ u
 |wD {f t k L u c:_}:LS P ⟨f,t,dG c::k,Ã,L⟩ u ⟨f,t,k,Ã,L⟩ u
 |sr {f t k L u x y:_}:LS P ⟨f,t,Đ (.seq x y)::k,Ã,L⟩ u ⟨f,t,Đ x::Đ y::k,Ã,L⟩ u
 |uT {f t k L u c x y b:_} (h:å ⟨t,[]⟩ c=Ľ b):LS P ⟨f,t,Đ (bz c x y)::k,Ã,L⟩ u ⟨f,t,Đ (if b then x else y)::k,Ã,L⟩ u
 |su {f t k L u id c:_}:LS P ⟨f,t,Đ (dY id c)::k,Ã,L⟩ u ⟨f,t,Đ c::dF id::k,Ã,L⟩ u
 |yb {f t k L u c:_}:LS P ⟨f,t,Đ (eN c)::k,Ã,L⟩ u ⟨f,t,Đ c::dm c::k,Ã,L⟩ u
 |yc {f t k L u c:_}:LS P ⟨f,t,dm c::k,Ã,L⟩ u ⟨f,t,Đ c::dm c::k,Ã,L⟩ u
 |yd {f t k L u c:_}:LS P ⟨f,t,Đ (dZ c)::k,Ã,L⟩ u ⟨f,t,Đ c::dG c::k,Ã,L⟩ u
 |ye {f t k L u id k':_} (h:cA id k=À k'):LS P ⟨f,t,Đ (eO id)::k,Ã,L⟩ u ⟨f,t,k',Ã,L⟩ u
 |yf {f t k L u l k':_} (h:cB l k=À k'):LS P ⟨f,t,Đ (eP l)::k,Ã,L⟩ u ⟨f,t,k',Ã,L⟩ u
 |uU {f t k L u id ops:_}:LS P ⟨f,t,Đ (bQ id ops Ã)::k,Ã,L⟩ u ⟨f,t,á ops (List.range ops.size)::k,Ã,L⟩ u
 |Bz {f t k L u id ops:_}:LS P ⟨f,t,Đ (bQ id ops É)::k,Ã,L⟩ u ⟨f,t,á ops (bM (P.follows .mixedOrders) ops<|u.tape u.drawn<|.order f id)::k,Ã,L⟩ {u with drawn:=u.drawn+1}
 |Gy {f t k L u ops:_}:LS P ⟨f,t,á ops []::k,Ã,L⟩ u ⟨f,t,k,Ã,L⟩ u
 |Eb {f t k L u ops i rest o:_} (ho:ops[i]?=À o) (hw:Ħ o (ł ops t)=Ã):LS P ⟨f,t,á ops (i::rest)::k,Ã,L⟩ u ⟨f,pW t o.dst ľ,á ops rest::k,Ã,L⟩ u
 |ot {f t k L u ops i rest o v u':_} (ho:ops[i]?=À o) (hw:Ħ o (ł ops t)=É) (hr:(ì (å ⟨t,[]⟩) o).run P u=ĥ (ï v) u'):LS P ⟨f,t,á ops (i::rest)::k,Ã,L⟩ u ⟨f,pW t o.dst v,á ops rest::k,Ã,L⟩ u'
 |BA {f t k L u ops i rest o u':_} (ho:ops[i]?=À o) (hw:Ħ o (ł ops t)=É) (hr:(ì (å ⟨t,[]⟩) o).run P u=ĥ aH u'):LS P ⟨f,t,á ops (i::rest)::k,Ã,L⟩ u ⟨f,pW t o.dst ľ,á ops rest::k,Ã,L⟩ u'
 |tM {f t k L u ops i rest o g args fn c u':_} (ho:ops[i]?=À o) (hw:Ħ o (ł ops t)=É) (hr:(ì (å ⟨t,[]⟩) o).run P u=ĥ (ũ g args) u') (hf:P.funcs[g]?=À fn) (hb:fn.body=À c):LS P ⟨f,t,á ops (i::rest)::k,Ã,L⟩ u ⟨g,args++ĺ (fn.ntmps-args.size) ľ,[Đ c],Ã,(f,t,á ops (i::rest)::k)::L⟩ u'
 |Ec {f t k L u ops i rest:_} (ho:(ops:Array au)[(i:Nat)]?=ë):LS P ⟨f,t,á ops (i::rest)::k,Ã,L⟩ u ⟨f,t,á ops rest::k,Ã,L⟩ u
 |yg {f t k L u g t' ops i rest k' v fn u':_} (hf:P.funcs[f]?=À fn) (hr:(Ī fn t).run P u=ĥ v u'):LS P ⟨f,t,k,É,(g,t',á ops (i::rest)::k')::L⟩ u ⟨g,pW t' ((ops[i]?).bind (·.dst)) v,á ops rest::k',Ã,L⟩ u'
inductive mG(GL:Nat->Prop):Ö->Prop
 |W9 (t:Tmp):mG GL (.tmp t)
 |Xa {v:Â} (h:iF v):mG GL (dV v)
 |Xb {g:Nat} (h:GL g):mG GL (ep g)
 |Xc (f:à):mG GL (aO f)
structure ng(P:Õ)(GL:Nat->Prop)(eY:à->Prop)(o:au):Prop where
 nh:∀{Y:fw} {Sh:Nat->Prop} {t t':Array Â} {u w:Æ},om P->Y.C=P.globals.size->(∀g,GL g->Y g g)->fU Y t t'->je Y Sh u w->(∀j,Sh j->j<w.heap.size)->∀{x:Ο} {u':Æ},(ì (å ⟨t,[]⟩) o).run P u=ĥ x u'->D7 u u'->
  ∃(Y':fw) (x':Ο) (w':Æ) (Xd:Array ý),Y.r Y'/\(∀i j,Y' i j->Y i j\/(u.heap.size<=i/\w.heap.size<=j))/\(ì (å ⟨t',[]⟩) o).runT P w #[]=(ĥ x' w',#[]++Xd)/\pV Y' x x'/\je Y' Sh u' w'/\oj Y Sh w w'/\(∀e∈Xd,Bs Y' Sh e)/\u.heap.size<=u'.heap.size
 r:∀a:bF,fG P<|ì a.eval o
 I:∀(a:bF) (u:Æ) (n:Ο) (u':Æ),(ì a.eval o).run P u=ĥ n u'->(∃v,n=ï v)\/n=aH\/∃f c,n=ũ f c
 C:∀(a:bF) (u:Æ) (f:à) (c:Array Â) (u':Æ),(ì a.eval o).run P u=ĥ (ũ f c) u'->eY f
inductive kQ(P:Õ)(GL:Nat->Prop)(eY:à->Prop):aj->Prop
 |ou:kQ P GL eY .ret
 |tL:kQ P GL eY eM
 |ya (l:Nat):kQ P GL eY (dX l)
 |ye (id:Nat):kQ P GL eY (eO id)
 |yf (l:Nat):kQ P GL eY (eP l)
 |sr {x y:aj} (hx:kQ P GL eY x) (hy:kQ P GL eY y):kQ P GL eY (.seq x y)
 |uT {c:Ö} {x y:aj} (hc:mG GL c) (hx:kQ P GL eY x) (hy:kQ P GL eY y):kQ P GL eY (bz c x y)
 |su (id:Nat) {c:aj} (h:kQ P GL eY c):kQ P GL eY (dY id c)
 |yb {c:aj} (h:kQ P GL eY c):kQ P GL eY (eN c)
 |yd {c:aj} (h:kQ P GL eY c):kQ P GL eY (dZ c)
 |uU (id:Nat) {ops:Array au} (draw:Bool) (h:∀o∈ops,ng P GL eY o):kQ P GL eY (bQ id ops draw)
 |ov (Xe:String):kQ P GL eY (dq Xe)
inductive BB(P:Õ)(GL:Nat->Prop)(eY:à->Prop):ś->Prop
 |sw {c:aj} (h:kQ P GL eY c):BB P GL eY (Đ c)
 |zO (id:Nat):BB P GL eY (dF id)
 |wD {c:aj} (h:kQ P GL eY c):BB P GL eY (dG c)
 |yc {c:aj} (h:kQ P GL eY c):BB P GL eY (dm c)
 |yh {ops:Array au} (is:List Nat) (h:∀o∈ops,ng P GL eY o):BB P GL eY (á ops is)
def tP(P:Õ)(a:Nat->Prop)(b:à->Prop)(k:List ś):Prop:=∀i∈k,BB P a b i
structure kx(P:Õ)(GL:Nat->Prop)(eY:à->Prop)(s:St):Prop where
 gX:tP P GL eY s.k
 fv:∀x∈s.L,tP P GL eY x.2.2
def pX(P:Õ)(d:Nat->Prop)(a:à->Prop):Prop:=∀f,a f->∀b c,P.funcs[f]?=À b->b.body=À c->kQ P d a c
section
variable{GL:Nat->Prop}{eY:à->Prop}
def afz{a:aj}(h:kQ P GL eY wX):bg wX i=À a->kQ P GL eY a:=by
 induction h generalizing a with
 |sr j b d f=>
  intro e;simp only[bg]at e;split at e
  .rename_i r g;cases e;exact .sr (d g) b
  .exact f e
 |ya k=>
  intro e;simp only[bg]at e;split at e<;>cases e;exact .tL
 |_=>intro e;simp only[bg]at e;cases e
def afA{id:Nat}:∀{k a:List ś},tP P GL eY k->cA id k=À a->tP P GL eY a:=by
 intro k
 induction k with
 |nil=>intro a _ e;simp[cA]at e
 |cons i k c=>
  intro a h e;have b:=λj d=>h j<|ò _ d;cases i with
  |inBlock f=>
   simp only[cA]at e;split at e
   .cases e;exact b
   .exact c b e
  |_=>simp only[cA]at e;exact c b e
def afB:∀{k c:List ś},tP P GL eY k->cB i k=À c->tP P GL eY c:=by
 intro k
 induction k with
 |nil=>intro c _ e;simp[cB]at e
 |cons a k f=>
  intro c h e;have d:=λj b=>h j<|ò _ b;cases a with
  |inScope m=>
   simp only[cB]at e;have g:kQ P GL eY m:=by cases h _ (î ..)with|wD h=>exact h
   split at e
   .rename_i r n;cases e;intro j b;rcases œ.1 b with rfl|b
    .exact .sw (afz g n)
    .rcases œ.1 b with rfl|b
     .exact .wD g
     .exact d j b
   .exact f d e
  |_=>simp only[cB]at e;exact f d e
def ow{i:ś}(h:tP P GL eY (i::L)):tP P GL eY L:=λj a=>h j<|ò _ a
def py{i:ś}(b:BB P GL eY i)(h:tP P GL eY L):tP P GL eY (i::L):=λj a=>by
 rcases œ.1 a with rfl|a
 .exact b
 .exact h j a
def zP{c:aj}{k:List ś}(h:tP P GL eY (Đ c::k)):kQ P GL eY c:=by cases h _ (î ..)with|sw h=>exact h
def pY{ops:Array au}{k:List ś}(h:tP P GL eY (á ops jJ::k)):∀o∈ops,ng P GL eY o:=by cases h _ (î ..)with|yh _ h=>exact h
def LS.ok(i:pX P GL eY)(k:∀o a u f l w,ng P GL eY o->(ì (å a) o).run P u=ĥ (ũ f l) w->eY f){s g:St}(h:LS P s u g w)(ok:kx P GL eY s):kx P GL eY g:=by
 let⟨c,d⟩:=ok;cases h with
 |pU=>exact⟨c,d⟩
 |ou=>exact⟨c,d⟩
 |tL=>exact⟨ow c,d⟩
 |ya=>exact⟨ow c,d⟩
 |zO=>exact⟨ow c,d⟩
 |wD=>exact⟨ow c,d⟩
 |sr=>
  cases zP c with
  |sr e j=>exact⟨py (.sw e)<|py (.sw j)<|ow c,d⟩
 |@uT _ _ _ _ _ _ _ _ b _=>
  cases zP c with
  |uT _ e j=>exact⟨py (.sw (by cases b<;>simp[e,j]))<|ow c,d⟩
 |su=>
  cases zP c with
  |su _ h=>exact⟨py (.sw h)<|py (.zO _)<|ow c,d⟩
 |yb=>
  cases zP c with
  |yb h=>exact⟨py (.sw h)<|py (.yc h)<|ow c,d⟩
 |yc=>
  cases c _ (î ..)with
  |yc h=>exact⟨py (.sw h) c,d⟩
 |yd=>
  cases zP c with
  |yd h=>exact⟨py (.sw h)<|py (.wD h)<|ow c,d⟩
 |ye h=>exact⟨afA (ow c) h,d⟩
 |yf h=>exact⟨afB (ow c) h,d⟩
 |uU=>
  cases zP c with
  |uU _ _ h=>exact⟨py (.yh _ h)<|ow c,d⟩
 |Bz=>
  cases zP c with
  |uU _ _ h=>exact⟨py (.yh _ h)<|ow c,d⟩
 |Gy=>exact⟨ow c,d⟩
 |Eb=>exact⟨py (.yh _ (pY c))<|ow c,d⟩
 |ot=>exact⟨py (.yh _ (pY c))<|ow c,d⟩
 |BA=>exact⟨py (.yh _ (pY c))<|ow c,d⟩
 |tM m _ n p q=>
  refine⟨λj r=> ?_,λx e=> ?_⟩
  .have:=ū.1 r;rw[this];exact .sw (i _ (k _ _ _ _ _ _ (pY c _<|Û m) n) _ _ p q)
  .rcases œ.1 e with rfl|e
   .exact c
   .exact d x e
 |Ec=>exact⟨py (.yh _ (pY c))<|ow c,d⟩
 |yg=>
  have j:=d _<|î ..;exact⟨py (.yh _ (pY j))<|ow j,λx e=>d x<|ò _ e⟩
end
structure KG(Y:fw)(x y:FuncId×Array Value×List ś):Prop where
 f:x.1=y.1
 t:fU Y x.2.1 y.2.1
 k:x.2.2=y.2.2
inductive Ed(Y:fw):List (FuncId×Array Value×List ś)->List (FuncId×Array Value×List ś)->Prop
 |pU:Ed Y [] []
 |xU {x y:FuncId×Array Value×List ś} {L L':List (FuncId×Array Value×List ś)} (h:KG Y x y) (hs:Ed Y L L'):Ed Y (x::L) (y::L')
structure KH(Y:fw)(s s':St):Prop where
 f:s.f=s'.f
 t:fU Y s.t s'.t
 k:s.k=s'.k
 ou:s.C=s'.C
 L:Ed Y s.L s'.L
def KG.ff{Y a:fw}(h:Y.r a){x y:FuncId×Array Value×List ś}(r:KG Y x y):KG a x y:=⟨r.f,r.t.ff h,r.k⟩
def KI{Y b:fw}(h:Y.r b){L c:List (FuncId×Array Value×List ś)}(r:Ed Y L c):Ed b L c:=by
 induction r with
 |pU=>exact .pU
 |xU a _ d=>exact .xU (a.ff h) d
section
variable{Y:fw}{j:Nat->Prop}{p:à->Prop}
def afC(a:∀g,X g->Y g g)(h:mG X qQ):V7 Y qQ:=by
 cases h with
 |W9 t=>trivial
 |Xa h=>exact h.jK Y
 |Xb h=>exact a _ h
 |Xc f=>trivial
def yi(b:∀g,X g->Y g g)(h:fU Y d q)(c:mG X qQ):fu Y (å ⟨d,[]⟩ qQ) (å ⟨q,[]⟩ qQ):= aeH (a:=⟨d,[]⟩) (a':=⟨q,[]⟩) h<|afC b c
def pW.r{b:Array Â}(h:fU Y q b)(d:Option Tmp)(c:fu Y v x):fU Y (pW q d v) (pW b d x):= aeJ (a:=⟨q,[]⟩) (a':=⟨b,[]⟩) h d c
def Xf(n:Nat):fU Y (ĺ n ľ) (ĺ n ľ):=⟨U,λi a b=>by simp only[Array.getElem_replicate];exact Gq Y⟩
def afD(B:kv P xX o.op)(i:(ì xX o).run P u=ĥ (ũ F d) W):∃q l,o.op=Ω {callee:=cb<|aO F,args:=q,argTypes:=l}:=by
 have n:∀{m:ē Â} {x:Ο} {k p:Æ},(m>>=λv=>pure (ï v):ē Ο).run P k=ĥ x p->∃v,x=ï v:=by
  intro m x k p e;rw[Ä]at e;cases j:m.run P k with
  |ok a w=>rw[j]at e;cases e;exact⟨a,U⟩
  |halt z w=>rw[j]at e;cases e
 have C:∀{m:ē Unit} {x:Ο} {k p:Æ},(m>>=λ_=>pure aH:ē Ο).run P k=ĥ x p->x=aH:=by
  intro m x k p e;rw[Ä]at e;cases j:m.run P k with
  |ok a w=>rw[j]at e;cases e;rfl
  |halt z w=>rw[j]at e;cases e
 let⟨E,s,G,H,I,guard⟩:=o;simp only at B|-;unfold ì at i;simp only[]at i;cases B with
 |zN x=>cases i
 |Gj x=>cases i
 |xW c a b=>
  rw[Ä]at i;cases j:(bW<|xX c).run P u with
  |ok a w=>rw[j]at i;cases i
  |halt z w=>rw[j]at i;cases i
 |jg t a x=>exact absurd (C i) fp
 |Gk x=>
  simp only[]at i;split at i;all_goals first
   |(cases i;done)
   |exact absurd i<|si _ _ _ _
   |(
    split at i;all_goals first
     |(cases i;done)
     |exact absurd i<|si _ _ _ _
     |(
      rw[Ä,ă]at i;simp only[È]at i;rw[Ä]at i;revert i;generalize ã P (aR _ _ _ _) u=z;intro i;cases z with
      |halt z w=>cases i
      |ok a w=>
       simp only[È]at i;split at i
       .rw[Ä]at i;cases i
       .cases i))
 |Gl x l=>simp only[ù,č,Ē,pure_bind,Ø,â,ä]at i;let⟨v,e⟩:=n i;cases e
 |Gm x l=>simp only[ù,č,Ē,pure_bind,Ø,â,ä]at i;let⟨v,e⟩:=n i;cases e
 |Gn x y l=>simp only[ù,č,Ē,pure_bind,Ø,â,ä]at i;let⟨v,e⟩:=n i;cases e
 |Gp x y b c h=>simp only[ù,č,Ē,pure_bind,Ø,â,ä]at i;let⟨v,e⟩:=n i;cases e
 |gL g q l b h=>
  let⟨J,c,r,D⟩:=h;simp only[ù,b,İ,č,pure_bind,Ď,ď,ĵ]at i;rw[Ä,ă]at i;simp only[È,c,r,D,Å,if_false]at i;cases i;exact⟨q,l,U⟩
 |D9 s t x y r h=>
  rw[Ä]at i;cases j:ã P (ŷ s t x y (xX x) (xX y)>>=λ_=>Ũ s t (xX x)<|xX y) u with
  |ok a w=>rw[j]at i;cases i
  |halt z w=>rw[j]at i;cases i
 |_=>let⟨v,e⟩:=n i;cases e
theorem Xg(j:Func)(h:fU Y d q):fJ P fu Y (Ī j d) (Ī j q):=by
 have k:∀(f:fw),Y.r f->∀n,fu f (d.getD n ľ) (q.getD n ľ):=by intro f a n;simp only[ĩ];rcases(h.ff a).M n with⟨b,e⟩|⟨v,u,b,e,m⟩;all_goals grind [Gq]
 unfold Ī;refine fH (V:=fU) ?_ ?_
 .rw[Ĕ,Ĕ];have w:∀(l:List ResultVar) (c:fw),Y.r c->fJ P (λf (a o:List Â)=>fU f a.toArray o.toArray) c (l.mapM fun|ResultVar.tmp n=>pure (d.getD n ľ)|ResultVar.cell a e=>do ae e (<-bX (d.getD a ľ))) (l.mapM fun|ResultVar.tmp n=>pure (q.getD n ľ)|ResultVar.cell a e=>do ae e (<-bX (q.getD a ľ))):=by
   intro l
   induction l with
   |nil=>intro c _;simp only[cP];exact .fF (fU.N _)
   |cons r l x=>
    intro c g;simp only[ν];refine fH (V:=fu) ?_ ?_
    .cases r with
     |tmp n=>exact .fF (k c g n)
     |cell a e=>
      apply fH (VP<|k c g a);exact λp b s _ i=>VL i e
    .intro p v u e m;apply fH (x p<|fw.I g e);intro z s i y b;refine .fF ?_;have:=(fU.I<|m.ff y).G b;simpa using this
  exact fJ.ma (w _ Y<|fw.M _) λf a o _ e=> .fF e
 .intro c s i _ b;refine .fF ?_;by_cases e:s.size=1
  .have a:i.size=1:=by rwa[<-b.r]
   rw[dif_pos e,dif_pos a];exact b.C 0 _ _
  .have a:¬i.size=1:=by rwa[<-b.r]
   rw[dif_neg e,dif_neg a];exact .lZ b.r b.C
end
section
variable{Y:fw}{d:Nat->Prop}{l:à->Prop}
def jb(P:Õ)(Y:fw)(d:Nat->Prop)(main:Bool)(cs:List Ę)(h:St)(u w:Æ)(k:St)(c:Æ):Prop:=
 ∃(a:fw) (f:St) (b:Æ) (g:Array ý),Ù P main (h.r cs) w=aS (f.r cs) b g/\KH a k f/\Y.r a/\(∀i j,a i j->Y i j\/(u.heap.size<=i/\w.heap.size<=j))/\je a d c b/\oj Y d w b/\(∀e∈g,Bs a d e)/\u.heap.size<=c.heap.size
def jb.r{main:Bool}{cs:List Ę}{a b s1':St}(c:je Y d u w)(h:Ù P main (a.r cs) w=aS (s1'.r cs) w #[])(f:KH Y b s1'):jb P Y d main cs a u w b u:= ⟨Y,s1',w,#[],h,f,fw.M _,λ_ _ h=>Ç h,c,oj.fV _ _ w,λe g=>absurd g fp,ß _⟩
def KJ{α:Type}{m:ē α}{x:α}(h:m.runT P w #[]=(ĥ x u,#[]++V)):m.run P w=ĥ x u/\m.events P w #[]=V:=by simp_all
def Gz{main:Bool}{k:List ś}{c:Ę}{cs:List Ę}{es:Array ý}(a:P.funcs[F]?=À s)(b:(Ī s q).runT P w #[]=(ĥ v u,es)): Ù P main (G {fm F q k with mode:=.returning}<|c::cs) w=aS (G (c.finish v) cs) u (seen P F es):=by simp[G,Ù,dr,doReturn,fm,Frame.at,base,a,b,Ź,-ź]
def LS.nh(hz:om P)(hb:Y.C=P.globals.size)(hG:∀g,X g->Y g g){s s1 s':St}(h:LS P s u s1 W)(hs:KH Y s s')(ok:kx P X l s)(n:je Y d u w)(hl:∀j,d j->j<w.heap.size)(Q:D7 u W)(main:Bool)(cs:List Ę): jb P Y d main cs s' u w s1 W:=by
 let⟨f',r,k',ret',p⟩:=s';let⟨S,m,T,e3,q⟩:=hs;simp only at S T e3 m q;subst S T e3;cases h with
 |pU=>exact .r (s1':=⟨_,r,_,É,p⟩) n (by simp[St.r,fm,base,G,Ù,Ì,Frame.at]) ⟨U,m,U,U,q⟩
 |ou=>exact .r (s1':=⟨_,r,_,É,p⟩) n (by simp[St.r,fm,base,G,Ù,Ì,Frame.at]) ⟨U,m,U,U,q⟩
 |tL=>exact .r (s1':=⟨_,r,_,Ã,p⟩) n (by simp[St.r,fm,base,G,Ù,Ì,Frame.at]) ⟨U,m,U,U,q⟩
 |ya=>exact .r (s1':=⟨_,r,_,Ã,p⟩) n (by simp[St.r,fm,base,G,Ù,Ì,Frame.at]) ⟨U,m,U,U,q⟩
 |zO=>exact .r (s1':=⟨_,r,_,Ã,p⟩) n (by simp[St.r,fm,base,G,Ù,Ì,Frame.at]) ⟨U,m,U,U,q⟩
 |wD=>exact .r (s1':=⟨_,r,_,Ã,p⟩) n (by simp[St.r,fm,base,G,Ù,Ì,Frame.at]) ⟨U,m,U,U,q⟩
 |sr=>exact .r (s1':=⟨_,r,_,Ã,p⟩) n (by simp[St.r,fm,base,G,Ù,Ì,Frame.at]) ⟨U,m,U,U,q⟩
 |@uT _ _ _ _ _ c _ _ b Xh=>
  have V:=yi hG m (by cases zP ok.gX with|uT Q _ _=>exact Q);rw[Xh]at V;have e:å ⟨r,[]⟩ c=Ľ b:=by generalize å ⟨r,[]⟩ c=v' at V;cases V;rfl
  exact .r (s1':=⟨_,r,_,Ã,p⟩) n (cC e) ⟨U,m,U,U,q⟩
 |su=>exact .r (s1':=⟨_,r,_,Ã,p⟩) n (by simp[St.r,fm,base,G,Ù,Ì,Frame.at]) ⟨U,m,U,U,q⟩
 |yb=>exact .r (s1':=⟨_,r,_,Ã,p⟩) n (by simp[St.r,fm,base,G,Ù,Ì,Frame.at]) ⟨U,m,U,U,q⟩
 |yc=>exact .r (s1':=⟨_,r,_,Ã,p⟩) n (by simp[St.r,fm,base,G,Ù,Ì,Frame.at]) ⟨U,m,U,U,q⟩
 |yd=>exact .r (s1':=⟨_,r,_,Ã,p⟩) n (by simp[St.r,fm,base,G,Ù,Ì,Frame.at]) ⟨U,m,U,U,q⟩
 |ye B=>exact .r (s1':=⟨_,r,_,Ã,p⟩) n (by simp[St.r,fm,base,G,Ù,Ì,Frame.at,B]) ⟨U,m,U,U,q⟩
 |yf B=>exact .r (s1':=⟨_,r,_,Ã,p⟩) n (by simp[St.r,fm,base,G,Ù,Ì,Frame.at,B]) ⟨U,m,U,U,q⟩
 |uU=>exact .r (s1':=⟨_,r,_,Ã,p⟩) n (by simp[St.r,fm,base,G,Ù,Ì,Frame.at]) ⟨U,m,U,U,q⟩
 |@Bz f t k L _ id ops=>
  refine⟨Y,⟨f,r,á ops (bM (P.follows .mixedOrders) ops<|w.tape w.drawn<|.order f id)::k,Ã,p⟩,{w with drawn:=w.drawn+1},#[],Ż,⟨U,m,?_,U,q⟩,fw.M _,λ_ _ h=>Ç h,⟨n.S,by simp[n.N],n.C,n.I,n.M,n.r⟩,⟨ß _,U,U,U,λ_ _ _=>rfl,λ_ _ _=>rfl⟩,λe B=>absurd B fp,ß _⟩;simp only[n.S,n.N]
 |Gy=>exact .r (s1':=⟨_,r,_,Ã,p⟩) n (by simp[St.r,fm,base,G,Ù,Ì,Frame.at]) ⟨U,m,U,U,q⟩
 |@Eb f t k L _ ops i rest o ho hw=>
  rw[Kw _ _ m]at hw;have:=υ (P:=P) (main:=main) (b:=base f) (a:=⟨r,[]⟩) (k:=k) (cs:=p.map (λx=>fm x.1 x.2.1 x.2.2)++cs) (w:=w) (rest:=rest) ho hw;rw[tO]at this;exact .r (s1':=⟨f,pW r o.dst ľ,á ops rest::k,Ã,p⟩) n this ⟨U,pW.r m _<|Gq Y,U,U,q⟩
 |@ot f t k L _ ops i rest o v _ ho hw hr=>
  rw[Kw _ _ m]at hw;let⟨C,x',E,es,z,F,D,H,I,J,K,M⟩:=(pY ok.gX _<|Û ho).nh hz hb hG m n hl hr Q;let⟨N,O⟩:=KJ D;cases H with
  |ot V=>
   have:=bA (main:=main) (b:=base f) (k:=k) (cs:=p.map (λx=>fm x.1 x.2.1 x.2.2)++cs) (rest:=rest) ho hw (by simp[base]) N;rw[tO]at this;rename_i v';exact⟨C,⟨f,pW r o.dst v',á ops rest::k,Ã,p⟩,E,_,this,⟨U,pW.r (m.ff z) _ V,U,U,KI z q⟩,z,F,I,J,λe B=>K e (by have:=cD B;rwa[O]at this),M⟩
 |@BA f t k L _ ops i rest o _ ho hw hr=>
  rw[Kw _ _ m]at hw;let⟨C,x',E,es,z,F,D,H,I,J,K,M⟩:=(pY ok.gX _<|Û ho).nh hz hb hG m n hl hr Q;let⟨N,O⟩:=KJ D;cases H with
  |tL=>
   have:=cE (main:=main) (b:=base f) (k:=k) (cs:=p.map (λx=>fm x.1 x.2.1 x.2.2)++cs) (rest:=rest) ho hw (by simp[base]) N;rw[tO]at this;exact⟨C,⟨f,pW r o.dst ľ,á ops rest::k,Ã,p⟩,E,_,this,⟨U,pW.r (m.ff z) _<|Gq C,U,U,KI z q⟩,z,F,I,J,λe B=>K e (by have:=cD B;rwa[O]at this),M⟩
 |@tM f t k L _ ops i rest o g args fn c _ ho hw hr hf KL=>
  rw[Kw _ _ m]at hw;let⟨C,x',E,es,z,F,D,H,I,J,K,M⟩:=(pY ok.gX _<|Û ho).nh hz hb hG m n hl hr Q;let⟨N,O⟩:=KJ D;cases H with
  |tM _ rm=>
   have:=bB (main:=main) (b:=base f) (k:=k) (cs:=p.map (λx=>fm x.1 x.2.1 x.2.2)++cs) (rest:=rest) ho hw (by simp[base]) N;rw[cF _ hf KL]at this;rename_i Xi;refine⟨C,⟨g,Xi++ĺ (fn.ntmps-Xi.size) ľ,[Đ c],Ã,(f,r,á ops (i::rest)::k)::p⟩,E,_,this,⟨U,?_,U,U,.xU ⟨U,m.ff z,U⟩ (KI z q)⟩,z,F,I,J,λe B=>K e (by have:=cD B;rwa[O]at this),M⟩;rw[rm.r];exact rm.G<|Xf _
 |@Ec f t k L _ ops i rest ho=>exact .r (s1':=⟨f,r,á ops rest::k,Ã,p⟩) n (by simp[St.r,fm,base,G,Ù,Ì,Frame.at,ho,aT]) ⟨U,m,U,U,q⟩
 |@yg f t k L _ g t2' ops i rest k3 v fn _ hf hr=>
  cases q with
  |xU hx q=>
   rename_i y Xj;let⟨g',t2,k2⟩:=y;let⟨S,uV,T⟩:=hx;simp only at S T uV;subst S T;let⟨C,v',E,es,z,F,D,H,I,J,K,M⟩:=(Xg fn m).gO n hl hr #[];let⟨N,O⟩:=KJ D;refine⟨C,⟨g,pW t2 ((ops[i]?).bind (·.dst)) v',á ops rest::k3,Ã,Xj⟩,E,seen P f es,?_,⟨U,pW.r (uV.ff z) _ H,U,U,KI z q⟩,z,F,I,J,λe B=>K e<|mem_seen B,M⟩;have BD:=ε (base g) ⟨t2,[]⟩ ops i rest k3 v';rw[tO]at BD;have mq:=Gz (main:=main) (k:=k) (c:=fm g t2<|á ops (i::rest)::k3) (cs:=Xj.map (λx=>fm x.1 x.2.1 x.2.2)++cs) hf D;unfold fm at mq;rwa[BD,Ď]at mq
end
inductive qz(P:Õ)(Post:Â->Æ->Prop):St->Æ->Prop
 |jT {f:à} {t:Array Â} {k:List ś} {u:Æ} {fn:Func} {v:Â} (hf:P.funcs[f]?=À fn) (hr:∀tp d,(Ī fn t).run P {u with tape:=tp,drawn:=d}=ĥ v {u with tape:=tp,drawn:=d}) (hp:Post v u):qz P Post ⟨f,t,k,É,[]⟩ u
 |jL {s:St} {u:Æ} (S:ψ->Nat->St) (U:ψ->Nat->Æ) (h:∀tp d,LS P s {u with tape:=tp,drawn:=d} (S tp d)<|U tp d) (hc:∀tp d,D7 u<|U tp d) (ih:∀tp d,qz P Post (S tp d)<|U tp d):qz P Post s u
structure zR(M:Nat->Prop)(w w₁:Æ):Prop where
 r:w.heap.size<=w₁.heap.size
 C:∀j,M j->w₁.heap[j]?=w.heap[j]?
def KM(O b:Nat->Prop)(e:ý):Prop:=
 (∃a:Ú,e.loc=û a/\e.sync=Ã/\(O a.block\/(b a.block/\e.write=Ã)))\/e.loc=ů c8\/∃f,e.loc=ů (.extern f)
structure KN(Rd O O':Nat->Prop)(w w':Æ)(es:Array ý):Prop where
 r:w.heap.size<=w'.heap.size
 M:∀j,O j->O' j
 I:∀j,O' j->O j\/w.heap.size<=j
 fv:∀j,O' j->j<w'.heap.size
 ki:∀j,j<w.heap.size->¬O j->w'.heap[j]?=w.heap[j]?
 N:w'.os=w.os
 S:w'.output=w.output
 Y:w'.tape=w.tape
 C:∀e∈es,KM O' Rd e
inductive wE(P:Õ)(main:Bool)(Rd:Nat->Prop)(Stop:(Nat->Prop)->Ó->Æ->Prop):(Nat->Prop)->Ó->Æ->Prop
 |fD {O:Nat->Prop} {g:Ó} {w:Æ} (h:∀w₁,zR (λj=>O j\/Rd j) w w₁->Stop O g w₁):wE P main Rd Stop O g w
 |jL {O:Nat->Prop} {g:Ó} {w:Æ} (G':Æ->Ó) (W':Æ->Æ) (E':Æ->Array ý) (O':Æ->Nat->Prop) (iJ:g.status=Ð)
  (h:∀w₁,zR (λj=>O j\/Rd j) w w₁->Ù P main g w₁=aS (G' w₁) (W' w₁) (E' w₁))
  (hd:∀w₁,zR (λj=>O j\/Rd j) w w₁->KN Rd O (O' w₁) w₁ (W' w₁) (E' w₁))
  (ih:∀w₁,zR (λj=>O j\/Rd j) w w₁->wE P main Rd Stop (O' w₁) (G' w₁) (W' w₁)):wE P main Rd Stop O g w
instance:Nonempty fw:=⟨⟨λ_ _=>False,0⟩⟩
instance:Nonempty St:=⟨⟨0,#[],[],Ã,[]⟩⟩
instance:Nonempty (Goroutine×World×Array Event×(Nat->Prop)):=⟨(default,default,#[],λ_=>False)⟩
section
variable{Y:fw}{b Rd:Nat->Prop}{l:à->Prop}{main:Bool}{Stop:(Nat->Prop)->Ó->Æ->Prop}
def wE.mk(i:g.status=Ð) (h:∀a,zR (λj=>X j\/Rd j) w a->∃c b d e,Ù P main g a=aS c b d/\KN Rd X e a b d/\wE P main Rd Stop e c b):wE P main Rd Stop X g w:=by
 let p:=λ(a:Æ) (x:Goroutine×World×Array Event×(Nat->Prop))=>Ù P main g a=aS x.1 x.2.1 x.2.2.1/\KN Rd X x.2.2.2 a x.2.1 x.2.2.1/\wE P main Rd Stop x.2.2.2 x.1 x.2.1
 have f:∀a,zR (λj=>X j\/Rd j) w a->p a (Classical.epsilon<|p a):=λa r=>Classical.epsilon_spec (let⟨c,b,d,e,h⟩:=h a r;⟨(c,b,d,e),h⟩);exact .jL (λa=>(Classical.epsilon<|p a).1) (λa=>(Classical.epsilon<|p a).2.1) (λa=>(Classical.epsilon<|p a).2.2.1) (λa=>(Classical.epsilon<|p a).2.2.2) i (λa r=>(f a r).1) (λa r=>(f a r).2.1) λa r=>(f a r).2.2
def qA(Y:fw)(b:Nat->Prop)(u w:Æ):Prop:=je Y b {u with tape:=w.tape,drawn:=w.drawn} w
def fg(Y:fw)(b:Nat->Prop)(j:Nat):Prop:=(∃i,Y i j)/\¬b j
theorem qA.kj{w₁:Æ}(h:qA Y b u w)(p:∀i j,Y i j->b j->Rd j)(r:zR (λj=>fg Y b j\/Rd j) w w₁):qA Y b u w₁:=by
 refine⟨U,U,h.C,h.I,õ h.M r.r,λi j a=> ?_⟩;let⟨c,d,e,f,g,k,l,m,n,o⟩:=h.r i j a;refine⟨c,d,e,f,g,k,?_,m,n,o⟩;rw[r.C j ?_]
 .exact l
 .by_cases s:b j
  .grind
  .exact Ç ⟨⟨i,a⟩,s⟩
def je.to0(h:je Y b u w):qA Y b u w:=⟨U,U,h.C,h.I,h.M,h.r⟩
def je.wF(h:je Y b u w)(tp:ψ)(d:Nat):qA Y b {u with tape:=tp,drawn:=d} w:=⟨U,U,h.C,h.I,h.M,h.r⟩
theorem afE{c:fw}(k:∀i j,c i j->b j->Rd j){e:ý}(h:Bs c b e):KM (fg c b) Rd e:=by
 rcases h with⟨a,i,d,f,g,l⟩|h|h
 .by_cases s:b a.block
  .refine Ç ⟨a,d,g,Î ⟨k _ _ f s,?_⟩⟩;grind
  .exact Ç ⟨a,d,g,Ç ⟨⟨i,f⟩,s⟩⟩
 .exact Î<|Ç h
 .exact Î<|Î h
def Xk{c:fw}(f:Y.r c)(g:∀i j,c i j->Y i j\/(u.heap.size<=i/\w.heap.size<=j))(k:je c b W jX)(d:oj Y b w jX)(l:∀e∈V,Bs c b e)(m:∀i j,c i j->b j->Rd j): KN Rd (fg Y b) (fg c b) w jX V where
 r:=d.r;M j h:=⟨let⟨i,a⟩:=h.1;⟨i,f.1 _ _ a⟩,h.2⟩;I j h:=by
  let⟨⟨i,a⟩,s⟩:=h;rcases g i j a with x|x
  .exact Ç ⟨⟨i,x⟩,s⟩
  .exact Î x.2
 fv j h:=by let⟨⟨i,a⟩,_⟩:=h;let⟨_,_,_,_,_,_,x,_⟩:=k.r i j a;exact(Ë.1 x).1
 ki j hj hn:=by
  by_cases x:∃i,Y i j
  .by_cases s:b j
   .exact d.N j s hj
   .exact absurd ⟨x,s⟩ hn
  .exact d.C j hj λi a=>x ⟨i,a⟩
 N:=d.I;S:=d.M;Y:=d.S;C e he:=afE m<|l e he
def GA(Y:fw)(b:Nat->Prop)(f:Â->Æ->Prop)(c:Ę)(h:List Ę)(O:Nat->Prop)(g:Ó)(w:Æ):Prop:=
 ∃(a:fw) (d:Æ) (v e:Â),Y.r a/\O=fg a b/\qA a b d w/\fu a v e/\f v d/\g=G (c.finish e) h
def qz.OZ(hz:om P)(hP:pX P X l){s:St}(h:qz P vQ s u):∀{Y GB:fw} {s':St} {w:Æ},GB.r Y->Y.C=P.globals.size->(∀g,X g->Y g g)->KH Y s s'->kx P X l s->qA Y b u w->(∀j,b j->j<w.heap.size)->(∀i j,Y i j->b j->Rd j)->∀(c:Ę) (cs:List Ę),wE P main Rd (GA GB b vQ c cs) (fg Y b) (s'.r<|c::cs) w:=by
 have hE:∀o a u f F G,ng P X l o->(ì (å a) o).run P u=ĥ (ũ f F) G->l f:=by exact λo a u f F G d H=>d.C a u f F G H
 induction h with
 |@jT f t k u fn v hf H hp=>
  intro Y GB s' w I J K L M N O n c cs;let⟨f',t',k',ret',L'⟩:=s';let⟨V,W,e2,e3,hL⟩:=L;simp only at V e2 e3 W hL;subst V e2 e3;cases hL;refine .mk rfl λp r=> ?_;have d:=λj s=>Ô (O j s) r.r;let⟨z,v',w',es,B,C,m,D,q,E,Q,h8⟩:=(Xg fn W).gO (N.kj n r) d (H _ _) #[];have y:=λi j T s=>(C i j T).elim (λx=>n i j x s) λx=>absurd (d j s) Z;refine⟨_,w',_,fg z b,Gz hf m,Xk B C q E (λe he=>Q e (by have:=mem_seen he;simpa using this)) y,.fD λBE e=>⟨z,u,v,v',fw.I I B,rfl,qA.kj (q.wF _ _) y e,D,hp,rfl⟩⟩
 |@jL s u S U h hc _ ih=>
  intro Y GB s' w I J K L M N O n c cs;refine .mk rfl λp r=> ?_;have d:=λj s=>Ô (O j s) r.r;let⟨z,H,e,es,B,C,m,D,q,E,Q,h8⟩:=(h p.tape p.drawn).nh hz J K L M (N.kj n r) d (hc p.tape p.drawn) main<|c::cs;have y:=λi j T s=>(D i j T).elim (λx=>n i j x s) λx=>absurd (d j s) Z;refine⟨_,e,es,fg z b,B,Xk m D q E Q y,ih _ _ (fw.I I m) (m.2.2.trans J) (λg x=>m.1 _ _<|K g x) C ((h _ _).ok hP hE M) q.to0 (λj s=>Ô (d j s) E.r) y c cs⟩
end
def qB:Ę:={(default:Ę)with fn:=0,todo:=[Đ<|dq ""],defers:=[{target:=.nil,args:=#[]}],mode:=.run,kind:=.normal}
def St.I(s:St):Ę:=if s.C then{fm s.f s.t s.k with mode:=.returning}else fm s.f s.t s.k
def fv(L:List (FuncId×Array Value×List ś)):List Ę:=L.map (λx=>fm x.1 x.2.1 x.2.2)++[qB]
def LM(s:St)(u:Æ):bR:=aU s.I (fv s.L) u
section
variable{GL:Nat->Prop}{eY:à->Prop}{Q:Â->Æ->Prop}
def Ee{cs:List Ę}{a:Ę}{es:Array ý}(h:Ù P É (G f cs) w=aS (G a qX) u es):dO P (aU f cs w)=ň (aU a qX u):= step_lone_go<|by show(Ù P É (G f cs) w).bare=_;rw[h];rfl
def KO{fr:Ę}{cs:List Ę}{o:Outcome}{es:Array ý}(h:Ù P É (G fr cs) w=eR o u es):dO P (aU fr cs w)=.ended o u:= step_lone_ended<|by show(Ù P É (G fr cs) w).bare=_;rw[h];rfl
def ni(P:Õ)(Q:Â->Æ->Prop)(n:Nat)(m:bR):Prop:=∃b v a,dt P n m=ň (aU b [qB] a)/\b.leaving P a (.returned v)/\Q v a
def ni.r{m a:bR}(h:ni P Q (n+1) m)(b:dO P m=ň a):ni P Q n a:=by let⟨c,v,d,e,f⟩:=h;exact⟨c,v,d,by simpa only[dt,b]using e,f⟩
def ni.M{m:bR}{o:Outcome}(h:ni P Q (n+1) m)(b:dO P m=.ended o w):False:=by let⟨c,v,d,a,e⟩:=h;simp only[dt,b]at a;cases a
theorem Xl{fr:Ę}{cs:List Ę}(h:aU fr cs w=aU f qX u):fr=f/\cs=qX/\w=u:=by simp only[aU,Machine.mk.injEq,Array.mk.injEq,List.cons.injEq,Goroutine.mk.injEq]at h;grind
theorem ni.C{cs:List Ę}(h:ni P Q 0 (aU f cs w)):cs=[qB]/\∃v,f.leaving P w (.returned v)/\Q v w:=by let⟨b,v,c,a,d,e⟩:=h;simp only[dt,Stepped.next.injEq]at a;grind [Xl]
def afF(h:ni P Q n (aU qB [] u)):False:=by
 cases n with
 |zero=>let⟨a,_⟩:=h.C;cases a
 |succ n=>exact h.M<|KO (es:=#[])<|by simp[G,Ù,Ì,qB];exact⟨U,U⟩
def afG{a:List eb}(h:ni P Q n (aU (qB.raise a) [] u)):False:=by
 cases n with
 |zero=>let⟨b,_⟩:=h.C;cases b
 |succ n=>exact h.M<|KO (es:=#[])<|by simp[G,Ù,qB,Ŗ,dr,callDeferred];exact⟨U,U⟩
def afH(b:List eb):∀(L:List (FuncId×Array Value×List ś)) (f:à) (t:Array Â) (k:List ś) (u:Æ) (n:Nat),(∃a,P.funcs[f]?=À a)->(∀x∈L,∃a,P.funcs[x.1]?=À a)->¬ni P Q n (aU ((fm f t k).raise b) (fv L) u):=by
 intro L
 induction L with
 |nil=>
  intro f t k u n ⟨a,c⟩ _ h;cases n with
  |zero=>let⟨_,v,y,_⟩:=h.C;exact absurd y.1<|by simp[Ŗ,fm,Frame.at]
  |succ n=>
   have d:dO P (aU ((fm f t k).raise b) (fv []) u)=ň (aU (qB.raise b) [] u):=Ee (es:=#[]) (by simp[G,Ù,fm,base,Frame.at,Ŗ,dr,cS,c,fv]);exact afG<|h.r d
 |cons x L e=>
  intro f t k u n ⟨a,c⟩ d h;cases n with
  |zero=>let⟨_,v,y,_⟩:=h.C;exact absurd y.1<|by simp[Ŗ,fm,Frame.at]
  |succ n=>
   exact e x.1 x.2.1 x.2.2 u n (d x<|î ..) (λy v=>d y<|ò _ v)<|h.r<|Ee (es:=#[])<|by simp[G,Ù,fm,base,Frame.at,Ŗ,dr,cS,c,fv]
structure Ok(P:Õ)(GL:Nat->Prop)(eY:à->Prop)(s:St):Prop where
 r:kx P GL eY s
 I:eY s.f
 C:∀x∈s.L,eY x.1/\∃ops i rest k,x.2.2=á ops (i::rest)::k
def uW(P:Õ)(eY:à->Prop):Prop:=∀f,eY f->∃a c,P.funcs[f]?=À a/\a.body=À c
theorem O0{t:Array Â}:fG P (Ī s t):=by unfold Ī;grind [gf,Wz,gH,Wr,Wn]
def afI(k:kv P xX o.op){n:Ο}(d:(ì xX o).run P u=ĥ n W):(∃v,n=ï v)\/n=aH\/∃f c,n=ũ f c:=by
 have i:∀{m:ē Â} {x:Ο} {j l:Æ},(m>>=λv=>pure (ï v):ē Ο).run P j=ĥ x l->∃v,x=ï v:=by
  intro m x j l e;rw[Ä]at e;cases g:m.run P j with
  |ok a w=>rw[g]at e;cases e;exact⟨a,U⟩
  |halt z w=>rw[g]at e;cases e
 let⟨p,e,q,s,B,guard⟩:=o;simp only at k;unfold ì at d;simp only[]at d;cases k with
 |zN x=>cases d;exact Ç ⟨_,U⟩
 |Gj x=>cases d;exact Ç ⟨_,U⟩
 |xW c a b=>
  rw[Ä]at d;cases g:(bW<|xX c).run P u with
  |ok a w=>rw[g]at d;cases d;exact Ç ⟨_,U⟩
  |halt z w=>rw[g]at d;cases d
 |jg t a x=>
  rw[Ä]at d;cases g:(ĳ t (xX a)<|xX x).run P u with
  |ok a w=>rw[g]at d;cases d;exact Î<|Ç U
  |halt z w=>rw[g]at d;cases d
 |Gk x=>
  simp only[]at d;split at d;all_goals first
   |(cases d;exact Ç ⟨_,U⟩)
   |exact absurd d<|si _ _ _ _
   |(
    split at d;all_goals first
     |(cases d;exact Ç ⟨_,U⟩)
     |exact absurd d<|si _ _ _ _
     |(
      rw[Ä,ă]at d;simp only[È]at d;rw[Ä]at d;revert d;generalize ã P (aR _ _ _ _) u=z;intro d;cases z with
      |halt z w=>cases d
      |ok a w=>
       simp only[È]at d;split at d
       .rw[Ä]at d;cases d
       .cases d;exact Ç ⟨_,U⟩))
 |Gl x a=>simp only[ù,č,Ē,pure_bind,Ø,â,ä]at d;exact Ç<|i d
 |Gm x a=>simp only[ù,č,Ē,pure_bind,Ø,â,ä]at d;exact Ç<|i d
 |Gn x y a=>simp only[ù,č,Ē,pure_bind,Ø,â,ä]at d;exact Ç<|i d
 |Gp x y b g h=>simp only[ù,č,Ē,pure_bind,Ø,â,ä]at d;exact Ç<|i d
 |gL g C a b h=>
  let⟨D,r,w,z⟩:=h;simp only[ù,b,İ,č,pure_bind,Ď,ď,ĵ]at d;rw[Ä,ă]at d;simp only[È,r,w,z,Å,if_false]at d;cases d;exact Î<|Î ⟨_,_,U⟩
 |D9 e t x y r h=>exact Ç<|i d
 |_=>exact Ç<|i d
def ni.I(_hP:pX P GL eY)(hF:uW P eY){n:Nat}{s:St}{u:Æ}(ok:Ok P GL eY s)(hu:ri u)(h:ni P Q n (LM s u)): (n=0/\s.C=É/\s.L=[]/\∃fn v,P.funcs[s.f]?=À fn/\(Ī fn s.t).run P u=ĥ v u/\Q v u)\/∃m s' u',n=m+1/\LS P s u s' u'/\ni P Q m (LM s' u'):=by
 let⟨f,t,k,ret,L⟩:=s;let⟨⟨top,lw⟩,fs,ls⟩:=ok;simp only at top lw fs ls;let⟨fn,c,hfn,hbody⟩:=hF f fs;cases n with
 |zero=>
  let⟨h1,v,h2,h3⟩:=h.C;have hL:L=[]:=by simp only[fv]at h1;simp_all
  subst hL;let⟨m1,_,_,fn',m4,m5⟩:=h2;have afJ:ret=É:=by
   cases ret with
   |true=>rfl
   |false=>simp[St.I,fm,Frame.at]at m1
  subst afJ;exact Ç ⟨U,U,U,fn',v,m4,m5,h3⟩
 |succ n=>
  have go:∀{s':St} {u':Æ},LS P ⟨f,t,k,ret,L⟩ u s' u'->(∃es,Ù P É ((⟨f,t,k,ret,L⟩:St).r [qB]) u=aS (s'.r [qB]) u' es)->(n+1=0/\ret=É/\L=[]/\∃fn v,P.funcs[f]?=À fn/\(Ī fn t).run P u=ĥ v u/\Q v u)\/∃m s' u',n+1=m+1/\LS P ⟨f,t,k,ret,L⟩ u s' u'/\ni P Q m (LM s' u'):=by intro s' u' hl ⟨es,he⟩;exact Î ⟨n,s',u',U,hl,h.r<|Ee he⟩
  have bad:(∃o w es,Ù P É ((⟨f,t,k,ret,L⟩:St).r [qB]) u=eR o w es)->False:=λ⟨_,_,_,he⟩=>h.M<|KO he;cases ret with
  |true=>
   cases hr:(Ī fn t).runT P u #[]with
   |mk r es=>
    cases r with
    |halt z w=>
     refine absurd ?_ id;cases z<;>exact bad ⟨_,_,_,by simp[St.r,fm,base,G,Ù,dr,Frame.at,hfn,hr,Ź,-ź];exact⟨U,U,U⟩⟩
    |ok v u'=>
     cases L with
     |nil=>
      exact absurd (h.r<|Ee<|Gz hfn hr) afF
     |cons x L=>
      let⟨g,t',k'⟩:=x;let⟨_,ops,i,rest,k2,e⟩:=ls _<|î ..;simp only at e;subst e;refine go (.yg hfn (by rw[<-Ρ P (Ī fn t) u #[],hr])) ⟨seen P f es,?_⟩;have mq:=Gz (main:=É) (k:=k) (c:=fm g t'<|á ops (i::rest)::k2) (cs:=fv L) hfn hr;have BD:=ε (base g) ⟨t',[]⟩ ops i rest k2 v;rw[tO]at BD;unfold fm at mq;rwa[BD]at mq
  |false=>
   cases k with
   |nil=>exact go .pU ⟨_,by simp[St.r,fm,base,G,Ù,Ì,Frame.at];rfl⟩
   |cons it k=>
    have ti:=top it<|î ..;cases ti with
    |zO id=>exact go .zO ⟨_,by simp[St.r,fm,base,G,Ù,Ì,Frame.at];rfl⟩
    |wD _=>exact go .wD ⟨_,by simp[St.r,fm,base,G,Ù,Ì,Frame.at];rfl⟩
    |yc _=>exact go .yc ⟨_,by simp[St.r,fm,base,G,Ù,Ì,Frame.at];rfl⟩
    |sw hc=>
     cases hc with
     |ou=>exact go .ou ⟨_,by simp[St.r,fm,base,G,Ù,Ì,Frame.at];rfl⟩
     |tL=>exact go .tL ⟨_,by simp[St.r,fm,base,G,Ù,Ì,Frame.at];rfl⟩
     |ya l=>exact go .ya ⟨_,by simp[St.r,fm,base,G,Ù,Ì,Frame.at];rfl⟩
     |sr hx hy=>exact go .sr ⟨_,by simp[St.r,fm,base,G,Ù,Ì,Frame.at];rfl⟩
     |su id _=>exact go .su ⟨_,by simp[St.r,fm,base,G,Ù,Ì,Frame.at];rfl⟩
     |yb _=>exact go .yb ⟨_,by simp[St.r,fm,base,G,Ù,Ì,Frame.at];rfl⟩
     |yd _=>exact go .yd ⟨_,by simp[St.r,fm,base,G,Ù,Ì,Frame.at];rfl⟩
     |ov Xe=>exact(bad ⟨_,_,_,by simp[St.r,fm,base,G,Ù,Ì,Frame.at];exact⟨U,U,U⟩⟩).elim
     |ye id=>
      cases he:cA id k with
      |none=>exact(bad ⟨_,_,_,by simp[St.r,fm,base,G,Ù,Ì,Frame.at,he];exact⟨U,U,U⟩⟩).elim
      |some k'=>exact go (.ye he) ⟨_,by simp[St.r,fm,base,G,Ù,Ì,Frame.at,he];rfl⟩
     |yf l=>
      cases he:cB l k with
      |none=>exact(bad ⟨_,_,_,by simp[St.r,fm,base,G,Ù,Ì,Frame.at,he];exact⟨U,U,U⟩⟩).elim
      |some k'=>exact go (.yf he) ⟨_,by simp[St.r,fm,base,G,Ù,Ì,Frame.at,he];rfl⟩
     |@uT c x y _ _ _=>
      by_cases hb:∃b,å ⟨t,[]⟩ c=Ľ b
      .let⟨b,hb⟩:=hb;exact go (.uT hb) ⟨_,cC hb⟩
      .refine(bad ⟨.stuck "cond: bool expected" ((fm f t<|Đ (bz c x y)::k).pos P),u,#[],?_⟩).elim;have nH:(fm f t<|Đ (bz c x y)::k).eval c=å ⟨t,[]⟩ c:=Frame.eval_at _ _ _ _;have hx:Ù P É (G (fm f t<|Đ (bz c x y)::k)<|fv L) u=(match(fm f t<|Đ (bz c x y)::k).eval c with
        |Ľ b=>aS (G (fm f t<|Đ (if b then x else y)::k)<|fv L) u
        |_=>eR (.stuck "cond: bool expected" ((fm f t (Đ (bz c x y)::k)).pos P)) u):=by
        simp only[G,Ù,Ì,fm,Frame.at];rfl
       refine hx.trans ?_;rw[nH];generalize å ⟨t,[]⟩ c=v at hb;cases v<;>first|exact absurd ⟨_,U⟩ hb|rfl
     |uU id draw _=>
      cases draw with
      |false=>exact go .uU ⟨_,by simp[St.r,fm,base,G,Ù,Ì,Frame.at];rfl⟩
      |true=>exact go .Bz ⟨_,Ż⟩
    |yh is hO=>
     rename_i ops;cases is with
     |nil=>exact go .Gy ⟨_,by simp[St.r,fm,base,G,Ù,Ì,Frame.at];rfl⟩
     |cons i rest=>
      cases ho:ops[i]? with
      |none=>exact go (.Ec ho) ⟨_,by simp[St.r,fm,base,G,Ù,Ì,Frame.at,ho,aT];rfl⟩
      |some o=>
       cases hw:Ħ o (ł ops t)with
       |false=>
        have:=υ (P:=P) (main:=É) (b:=base f) (a:=⟨t,[]⟩) (k:=k) (cs:=fv L) (w:=u) (rest:=rest) ho hw;rw[tO]at this;exact go (.Eb ho hw) ⟨_,this⟩
       |true=>
        have oo:=hO o<|Û ho;have yj:=stepG_oper (P:=P) (main:=É) (b:=base f) (a:=⟨t,[]⟩) (k:=k) (cs:=fv L) (w:=u) (rest:=rest) ho hw;cases hr:(ì (å ⟨t,[]⟩) o).runT P u #[]with
        |mk r es=>
         have pT:(ì (å ⟨t,[]⟩) o).run P u=r:=by rw[<-Ρ P _ u #[],hr]
         cases r with
         |halt z w=>
          have hz:=((oo.r ⟨t,[]⟩).1 u hu).2 z w pT;cases z with
          |panic v=>
           have hs:dO P (LM ⟨f,t,á ops (i::rest)::k,Ã,L⟩ u)=ň (aU ((fm f t<|á ops (i::rest)::k).raise [{v,recovered:=Ã}]) (fv L) w):= Ee (es:=seen P f es) (yj.trans<|by simp[bC,hr,G,Frame.at,fm,base,Ź,Ŗ,-ź]);exact absurd (h.r hs) (afH _ L f t _ w n ⟨fn,hfn⟩ λx hx=>let⟨fn',_,h1,_⟩:=hF x.1 (ls x hx).1;⟨fn',h1⟩)
          |stuck s=>exact(bad ⟨_,_,_,yj.trans<|by simp[bC,hr,Frame.at,base,Ź,-ź];exact⟨U,U,U⟩⟩).elim
          |unsupported un=>
           cases un<;>first|(cases hz;done)|exact(bad ⟨_,_,_,yj.trans<|by simp[bC,hr,Frame.at,base,Ź,-ź];exact⟨U,U,U⟩⟩).elim
          |_=>cases hz
         |ok nx u'=>
          rcases oo.I ⟨t,[]⟩ u nx u' pT with⟨v,rfl⟩|rfl|⟨g,args,rfl⟩
          .have:=bA (main:=É) (b:=base f) (k:=k) (cs:=fv L) (rest:=rest) ho hw (by simp[base]) pT;rw[tO]at this;exact go (.ot ho hw pT) ⟨_,this⟩
          .have:=cE (main:=É) (b:=base f) (k:=k) (cs:=fv L) (rest:=rest) ho hw (by simp[base]) pT;rw[tO]at this;exact go (.BA ho hw pT) ⟨_,this⟩
          .let⟨fn',c',h1,h2⟩:=hF g<|oo.C ⟨t,[]⟩ u g args u' pT;have:=bB (main:=É) (b:=base f) (k:=k) (cs:=fv L) (rest:=rest) ho hw (by simp[base]) pT;rw[cF _ h1 h2]at this;exact go (.tM ho hw pT h1 h2) ⟨_,this⟩
end
def kl(u:Æ):Prop:=∀(i:Nat) (o:Obj),u.heap[i]?=À o->¬zM o
def kl.ri(h:kl u):ri u:=λi _ _ a=>h i _ a trivial
def wG(a:Â->Æ->Prop):Prop:=∀v u T D,a v u->a v ((World.tp u T D))
section
variable{GL:Nat->Prop}{eY:à->Prop}{Post:Â->Æ->Prop}
def LS.OZ{s s':St}(h:LS P s u s' W)(cs:List Ę):∃j,Ù P É (s.r cs) u=aS (s'.r cs) W j:=by
 cases h with
 |@uT f t k L _ c x y b hc=>exact⟨_,cC hc⟩
 |ye e=>exact⟨_,by simp[St.r,fm,base,G,Ù,Ì,Frame.at,e];rfl⟩
 |yf e=>exact⟨_,by simp[St.r,fm,base,G,Ù,Ì,Frame.at,e];rfl⟩
 |@Bz f t k L _ id ops=>exact⟨_,Ż⟩
 |@Ec f t k L _ ops i rest ho=>exact⟨_,by simp[St.r,fm,base,G,Ù,Ì,Frame.at,ho,aT];rfl⟩
 |@Eb f t k L _ ops i rest o ho hw=>
  have:=υ (P:=P) (main:=É) (b:=base f) (a:=⟨t,[]⟩) (k:=k) (cs:=L.map (λx=>fm x.1 x.2.1 x.2.2)++cs) (w:=u) (rest:=rest) ho hw;rw[tO]at this;exact⟨_,this⟩
 |@ot f t k L _ ops i rest o v _ ho hw hr=>
  have:=bA (main:=É) (b:=base f) (k:=k) (cs:=L.map (λx=>fm x.1 x.2.1 x.2.2)++cs) (rest:=rest) ho hw (by simp[base]) hr;rw[tO]at this;exact⟨_,this⟩
 |@BA f t k L _ ops i rest o _ ho hw hr=>
  have:=cE (main:=É) (b:=base f) (k:=k) (cs:=L.map (λx=>fm x.1 x.2.1 x.2.2)++cs) (rest:=rest) ho hw (by simp[base]) hr;rw[tO]at this;exact⟨_,this⟩
 |@tM f t k L _ ops i rest o g args fn c _ ho hw hr hf hb=>
  have:=bB (main:=É) (b:=base f) (k:=k) (cs:=L.map (λx=>fm x.1 x.2.1 x.2.2)++cs) (rest:=rest) ho hw (by simp[base]) hr;rw[cF _ hf hb]at this;exact⟨_,this⟩
 |@yg f t k L _ g t' ops i rest k' v fn _ hf hr=>
  cases l:(Ī fn t).runT P u #[]with
  |mk r j=>
   have e:r=ĥ v W:=by rw[<-hr,<-Ρ P (Ī fn t) u #[],l]
   subst e;have d:=Gz (main:=É) (k:=k) (c:=fm g t'<|á ops (i::rest)::k') (cs:=L.map (λx=>fm x.1 x.2.1 x.2.2)++cs) hf l;have x:=ε (base g) ⟨t',[]⟩ ops i rest k' v;rw[tO]at x;unfold fm at d;rw[x]at d;exact⟨_,d⟩
 |_=>exact⟨_,by simp[St.r,fm,base,G,Ù,Ì,Frame.at];rfl⟩
def LS.wH{s a:St}(h:LS P s u a w):dO P (LM s u)=ň (LM a w):= let⟨_,b⟩:=h.OZ [qB];Ee b
def LS.O1(j:pX P GL eY){s g:St}(h:LS P s u g w)(ok:Ok P GL eY s):Ok P GL eY g:=by
 have i:∀o a u f e w,ng P GL eY o->(ì (å a) o).run P u=ĥ (ũ f e) w->eY f:=by exact λo a u f e w c d=>c.C a u f e w d
 refine⟨h.ok j i ok.r,?_,?_⟩
 .cases h with
  |tM c _ d _ _=>exact i _ _ _ _ _ _ (pY ok.r.gX _<|Û c) d
  |yg=>exact(ok.C _<|î ..).1
  |_=>exact ok.I
 .cases h with
  |tM c _ d _ _=>
   intro x b;rcases œ.1 b with rfl|b
   .exact⟨ok.I,_,_,_,_,U⟩
   .exact ok.C x b
  |yg=>exact λx b=>ok.C x<|ò _ b
  |_=>exact ok.C
def LS.kd{s c:St}{u b:Æ}(h:LS P s u c b)(ok:kx P GL eY s)(a:ri u):Kd u b:=by
 cases h with
 |ot k _ i=>exact(((pY ok.gX _<|Û k).r _).1 u a).1 _ _ i
 |BA k _ i=>exact(((pY ok.gX _<|Û k).r _).1 u a).1 _ _ i
 |tM k _ i _ _=>exact(((pY ok.gX _<|Û k).r _).1 u a).1 _ _ i
 |yg _ i=>exact(O0.1 u a).1 _ _ i
 |Bz=>exact⟨id,λi o h k=>⟨o,h,k⟩⟩
 |_=>exact Kd.fV u
def LS.afK{s o:St}{u p:Æ}{T:ψ}{D:Nat}(h:LS P s ((World.tp u T D)) o p)(ok:kx P GL eY s):∃n v,p=(World.tp v T<|D+n)/\∀a b,wB T D a b n->LS P s ((World.tp u a b)) o ((World.tp v a<|b+n)):=by
 cases h with
 |ot c e g=>
  obtain⟨n,v,i⟩:=((pY ok.gX _<|Û c).r ⟨_,[]⟩).2 u T D;obtain⟨j,l⟩:=i _ _ g;exact⟨n,v,j,λa b d=> .ot c e (l a b d)⟩
 |BA c e g=>
  obtain⟨n,v,i⟩:=((pY ok.gX _<|Û c).r ⟨_,[]⟩).2 u T D;obtain⟨j,l⟩:=i _ _ g;exact⟨n,v,j,λa b d=> .BA c e (l a b d)⟩
 |tM c e g m q=>
  obtain⟨n,v,i⟩:=((pY ok.gX _<|Û c).r ⟨_,[]⟩).2 u T D;obtain⟨j,l⟩:=i _ _ g;exact⟨n,v,j,λa b d=> .tM c e (l a b d) m q⟩
 |yg m g=>
  obtain⟨n,v,i⟩:=(O0).2 u T D;obtain⟨j,l⟩:=i _ _ g;exact⟨n,v,j,λa b d=> .yg m (l a b d)⟩
 |@Bz f t k L _ id ops=>
  refine⟨1,u,U,λa b d=> ?_⟩;have g:=LS.Bz (P:=P) (f:=f) (t:=t) (k:=k) (L:=L) (u:=(World.tp u a b)) (id:=id) (ops:=ops);have i:((World.tp u a b)).tape ((World.tp u a b)).drawn=((World.tp u T D)).tape ((World.tp u T D)).drawn:=d.mb;rwa[i]at g
 |pU=>exact⟨0,u,U,λ_ _ _=> .pU⟩
 |ou=>exact⟨0,u,U,λ_ _ _=> .ou⟩
 |tL=>exact⟨0,u,U,λ_ _ _=> .tL⟩
 |ya=>exact⟨0,u,U,λ_ _ _=> .ya⟩
 |zO=>exact⟨0,u,U,λ_ _ _=> .zO⟩
 |wD=>exact⟨0,u,U,λ_ _ _=> .wD⟩
 |sr=>exact⟨0,u,U,λ_ _ _=> .sr⟩
 |uT h=>exact⟨0,u,U,λ_ _ _=> .uT h⟩
 |su=>exact⟨0,u,U,λ_ _ _=> .su⟩
 |yb=>exact⟨0,u,U,λ_ _ _=> .yb⟩
 |yc=>exact⟨0,u,U,λ_ _ _=> .yc⟩
 |yd=>exact⟨0,u,U,λ_ _ _=> .yd⟩
 |ye h=>exact⟨0,u,U,λ_ _ _=> .ye h⟩
 |yf h=>exact⟨0,u,U,λ_ _ _=> .yf h⟩
 |uU=>exact⟨0,u,U,λ_ _ _=> .uU⟩
 |Gy=>exact⟨0,u,U,λ_ _ _=> .Gy⟩
 |Eb c e=>exact⟨0,u,U,λ_ _ _=> .Eb c e⟩
 |Ec c=>exact⟨0,u,U,λ_ _ _=> .Ec c⟩
def ni.gU(c:pX P GL eY)(hF:uW P eY)(g:∀v u,vQ v u->kl u):∀(n:Nat) {s:St} {u:Æ},Ok P GL eY s->ri u->ni P vQ n (LM s u)->kl u:=by
 intro n
 induction n with
 |zero=>
  intro s u a b h;rcases h.I c hF a b with⟨_,_,_,_,v,_,_,d⟩|⟨m,_,_,e,_⟩
  .exact g v u d
  .cases e
 |succ n j=>
  intro s u a b h;rcases h.I c hF a b with⟨e,_⟩|⟨m,w,x,e,d,k⟩
  .cases e
  .cases e;have f:=d.kd a.r b;intro i o l p;let⟨q,r,t⟩:=f.C i o l p;exact j (d.O1 c a) (f.r b) k i q r t
def qz.afL(b:wG Post){s:St}(h:qz P Post s u)(T:ψ)(D:Nat):qz P Post s ((World.tp u T D)):=by
 cases h with
 |jT a S c=>exact .jT a S (b _ _ T D c)
 |jL S a h c d=>exact .jL S a h c d
def Xm(m:wG Post)(o:∀v u,vQ v u->Post v u){s:St}(c:s.C=É)(b:s.L=[])(e:∃g v,P.funcs[s.f]?=À g/\(Ī g s.t).run P ((World.tp u xQ i))=ĥ v ((World.tp u xQ i))/\vQ v ((World.tp u xQ i))):qz P Post s u:=by
 obtain⟨f,t,k,z,L⟩:=s;simp only at c b;subst c b;obtain⟨g,v,p,q,r⟩:=e;refine .jT (v:=v) p (λh d=> ?_) ?_
 .obtain⟨n,w,c⟩:=(O0).2 u xQ i;obtain⟨b,e⟩:=c _ _ q;have x:n=0:=by
   have:((World.tp u xQ i)).drawn=((World.tp w xQ<|i+n)).drawn:=by rw[<-b]
   simp only[World.tp]at this;omega
  subst x;have y:(World.tp w h d)=(World.tp u h d):=by
   have a:((World.tp u xQ i)).heap=((World.tp w xQ<|i+0)).heap:=by rw[<-b]
   have j:((World.tp u xQ i)).os=((World.tp w xQ<|i+0)).os:=by rw[<-b]
   have l:((World.tp u xQ i)).output=((World.tp w xQ<|i+0)).output:=by rw[<-b]
   simp only[World.tp]at a j l|-;rw[a,j,l]
  have:=e h d (λa j=>by omega);rwa[show d+0=d from rfl,y]at this
 .have:=m v _ u.tape u.drawn<|o v _ r;exact this
structure KP where
 s:St
 u:Æ
 D:Nat
 T:ψ
 n:Nat
structure KQ(P:Õ)(GL:Nat->Prop)(eY:à->Prop)(Post:Â->Æ->Prop)(s0:St)(u0:Æ)(x:KP):Prop where
 ok:Ok P GL eY x.s
 afM:ri x.u
 afN:¬qz P Post x.s x.u
 ox:∀T',(∀i,i<x.D->T' i=x.T i)->dt P x.n (LM s0<|(World.tp u0 T' 0))=ň (LM x.s<|(World.tp x.u T' x.D))
def Xn{m:bR}{s:St}{N:Nat}(a:dt P n m=ň (LM s u))(e:ni P vQ N m):∃k,N=n+k/\ni P vQ k (LM s u):=by
 by_cases f:n<=N
 .obtain⟨k,rfl⟩:=Ε f;refine⟨k,U,?_⟩;let⟨g,v,c,b,d⟩:=e;rw[dH,a]at b;exact⟨g,v,c,b,d⟩
 .obtain⟨k,rfl⟩:=Nat.exists_eq_add_of_lt<|Nat.lt_of_not_le f;let⟨g,v,c,b,d,_⟩:=e;rw[show N+k+1=N+(k+1) by omega,dH,b]at a;simp only[dt,step_leave_returned d]at a;cases k with
  |zero=>
   simp only[dt,Stepped.next.injEq]at a;have:=(Xl a).2.1;simp[fv]at this
  |succ k=>
   simp only[dt,(KO (P:=P) (fr:=qB) (cs:=[]) (w:=c) (es:=#[])<|by simp[G,Ù,Ì,qB];exact⟨U,U⟩)]at a;cases a
theorem O2(f:pX P GL eY)(hF:uW P eY)(t:wG Post)(C:∀v u,vQ v u->kl u)(E:∀v u,vQ v u->Post v u){j:St}(F:∀T,∃n,ni P vQ n<|LM j<|(World.tp w T 0)){x:KP}(G:KQ P GL eY Post j w x): ∃y:KP,KQ P GL eY Post j w y/\y.n=x.n+1/\x.D<=y.D/\∀i,i<x.D->y.T i=x.T i:=by
 let⟨s,u,D,T,n⟩:=x;let⟨ok,pend,l,q⟩:=G;simp only at ok pend l q;have H:∃y d,∀a g,LS P s ((World.tp u y d)) a g->D7 u g->¬qz P Post a g:=by
  refine Classical.byContradiction λo=>l ?_;have c:∀y d,∃p:St×World,LS P s ((World.tp u y d)) p.1 p.2/\D7 u p.2/\qz P Post p.1 p.2:=by simp_all
  exact .jL (λy d=>(Classical.choose<|c y d).1) (λy d=>(Classical.choose<|c y d).2) (λy d=>(Classical.choose_spec<|c y d).1) (λy d=>(Classical.choose_spec<|c y d).2.1) λy d=>(Classical.choose_spec<|c y d).2.2
 let⟨y,d,I⟩:=H;let p:ψ:=λi=>if i<D then T i else y (d+(i-D))
 have r:∀i,i<D->p i=T i:=λi h=>if_pos h;have J:=λi=>by show(if D+i<D then T (D+i)else y (d+(D+i-D)))=y (d+i);grind
 let⟨N,K⟩:=F p;let⟨k,_,L⟩:=Xn (q p r) K;have b:ri ((World.tp u p D)):=pend;rcases L.I f hF ok b with⟨_,M,O,S⟩|⟨m,a,g,_,e,V⟩
 .exact absurd (Xm t E M O S) l
 .obtain⟨c,v,rfl,z⟩:=e.afK ok.r;have W:¬qz P Post a v:=λX=>I a _ (z y d λi _=>(J i).symm) (λi o _ B=>(ni.gU f hF C m (e.O1 f ok) ((e.kd ok.r b).r b) V) i o B)<|X.afL t y<|d+c;refine⟨⟨a,v,D+c,p,n+1⟩,⟨e.O1 f ok,(e.kd ok.r b).r b,W,λo B=> ?_⟩,U,fp,r⟩;rw[dH,(q o λi h=>(B i<|by simp only;omega).trans<|r i h)];simp only[dt,(z o D λi h=>B (D+i)<|by simp only;omega).wH]
theorem afO(b:pX P GL eY)(hF:uW P eY)(c:wG Post){Q:Â->Æ->Prop}(g:∀v u,Q v u->kl u)(d:∀v u,Q v u->Post v u){a:St}(ok:Ok P GL eY a)(q:ri w)(f:∀T,∃n,ni P Q n<|LM a<|(World.tp w T 0)):qz P Post a w:=by
 refine Classical.byContradiction λr=> ?_;have s:KQ P GL eY Post a w ⟨a,w,0,λ_ _=>0,0⟩:=⟨ok,q,r,λI _=>rfl⟩;let F:Nat->{x:KP//KQ P GL eY Post a w x}:=λk=>Nat.rec ⟨_,s⟩ (λ_ x=>⟨Classical.choose<|O2 b hF c g d f x.2,(Classical.choose_spec<|O2 b hF c g d f x.2).1⟩) k
 have l:=λk=>(Classical.choose_spec<|O2 b hF c g d f (F k).2).2;have t:∀k,(F k).1.n=k:=by
  intro k
  induction k with
  |zero=>rfl
  |succ k e=>rw[(l k).1,e]
 have J:∀j k,(F j).1.D<=(F<|j+k).1.D/\∀i,i<(F j).1.D->(F<|j+k).1.T i=(F j).1.T i:=by
  intro j k
  induction k with
  |zero=>exact⟨ß _,λ_ _=>rfl⟩
  |succ k e=>
   have:=(l<|j+k).2;exact⟨õ e.1 this.1,λi m=>(this.2 i<|Ô m e.1).trans<|e.2 i m⟩
 have K:∀j k i,i<(F j).1.D->i<(F k).1.D->(F j).1.T i=(F k).1.T i:=by intro j k i e o;rcases Nat.le_total j k with h|h;all_goals grind [Ε]
 let T:ψ:=λi=>open Classical in if h:∃k,i<(F k).1.D then(F<|Classical.choose h).1.T i else λ_=>0
 have y:∀k i,i<(F k).1.D->T i=(F k).1.T i:=by intro k i m;have e:∃k,i<(F k).1.D:=⟨k,m⟩;show(open Classical in if h:∃k,i<(F k).1.D then(F<|Classical.choose h).1.T i else λ_=>0)=_;rw[dif_pos e];grind
 let⟨N,z⟩:=f T;have p:=(F N).2.ox T<|y N;rw[t N]at p;let⟨k,e,o⟩:=Xn p z;have B:k=0:=Z
 subst B;have C:ri ((World.tp (F N).1.u T<|(F N).1.D)):=(F N).2.afM;rcases o.I b hF (F N).2.ok C with⟨_,E,G,H⟩|⟨m,_,_,e,_⟩
 .exact(F N).2.afN<|Xm c d E G H
 .cases e
end
section
variable{m:à->Prop}
def O3(f:à)(b:Func)(c:aj)(a:Array Â):St:=⟨f,a++ĺ (b.ntmps-a.size) ľ,[Đ c],Ã,[]⟩
def Xo(a:Array Â)(b:P.funcs[F]?=À s)(d:s.body=À wX):dI P F a .normal=(O3 F s wX a).I:=cF a b d
def afP(b:pX P X m)(hF:uW P m)(l:wG vQ)(g:m F)(j:P.funcs[F]?=À s)(k:s.body=À wX)(o:kl u) (p:∀T,Calls P F d ((World.tp u T 0)) fun|.returned v,u'=>vQ v u'/\kl u'|_,_=>False):qz P vQ (O3 F s wX d) u:=by
 refine afO b hF l (Q:=λv u=>vQ v u/\kl u) (λv u h=>h.2) (λv u h=>h.1) ⟨⟨λi q=> ?_,λx h=>by cases h⟩,g,λx h=>by cases h⟩ o.ri λT=> ?_
 .rw[ū.1 q];exact .sw (b F g s wX j k)
 .let⟨e,r,t,a,w,_,y⟩:=p T [qB];cases e with
  |returned v=>
   let⟨n,z⟩:=w;refine⟨n,t,v,r,?_,y,a⟩;rw[<-z,Xo d j k];rfl
  |panicked n=>exact a.elim
  |outgrown=>exact a.elim
def afQ(r:om P)(b:pX P X m)(hF:uW P m)(t:wG vQ)(n:m F)(e:P.funcs[F]?=À s)(h:s.body=À wX)(y:kl u) (z:∀T,Calls P F d ((World.tp u T 0)) fun|.returned v,u'=>vQ v u'/\kl u'|_,_=>False) {Y:fw} {a o:Nat->Prop} (B:Y.C=P.globals.size) (C:∀g,X g->Y g g) (p:fU Y d q) (D:qA Y a u w) (E:∀j,a j->j<w.heap.size) (H:∀i j,Y i j->a j->o j) (main:Bool) (k:Ę) (l:List Ę): wE P main o (GA Y a vQ k l) (fg Y a) (G (dI P F q .normal)<|k::l) w:=by
 have:=(afP b hF t n e h y z).OZ (main:=main) r b (Y:=Y) (GB:=Y) (s':=O3 F s wX q) (fw.M _) B C ⟨U,?_,U,U,.pU⟩ ⟨λi I=> ?_,λx J=>by cases J⟩ D E H k l
 .rw[Xo q e h];exact this
 .show fU Y (d++_) (q++_);rw[p.r];exact p.G<|Xf _
 .rw[ū.1 I];exact .sw (b F n s wX e h)
def zS:Â->Bool
 |Ľ _|Ć _ _|ħ _|Þ ë|bS ë _ _|bT|aW|eh ë|.map ë=>É
 |_=>Ã
def O4:Â->Bool
 |.agg a=>a.all zS
 |ſ a=>a.all zS
 |v=>zS v
def GD(h:zS v=É):iF v:=by
 cases v with
 |bool b=>exact .lY b
 |int k n=>exact .iB k n
 |string s=>exact .kt s
 |pointer p=>cases p with
  |none=>exact .lE
  |some a=>cases h
 |slice p n c=>cases p with
  |none=>exact .nD n c
  |some a=>cases h
 |nilFunc=>exact .tD
 |nilIface=>exact .tE
 |chan p=>cases p with
  |none=>exact .tF
  |some a=>cases h
 |map p=>cases p with
  |none=>exact .tH
  |some a=>cases h
 |_=>cases h
def afR(h:O4 v=É):iF v:=by
 cases v with
 |agg b=>exact .oh λi a=>GD<|(Ń.1 h) i a
 |tuple b=>exact .lZ λi a=>GD<|(Ń.1 h) i a
 |_=>exact GD h
def yk(X:Nat->Bool):Ö->Bool
 |.tmp _=>É
 |dV v=>O4 v
 |ep g=>X g
 |aO _=>É
theorem KR{g:Nat->Bool}(h:yk g qQ=É):mG (λj=>g j=É) qQ:=by
 cases qQ with
 |tmp t=>exact .W9 t
 |const v=>exact .Xa (afR h)
 |global j=>exact .Xb h
 |func f=>exact .Xc f
def O5(P:Õ)(t:Á):Bool:=match P.underlying t with
 |some .bool=>É
 |some (Β _)=>É
 |some ę=>É
 |_=>Ã
def afS(h:O5 P t=É):uP P t:=by
 unfold O5 at h;split at h
 .rename_i e;exact Ç e
 .rename_i k e;exact Î<|Ç ⟨k,e⟩
 .rename_i e;exact Î<|Î e
 .cases h
def KS:Ö->Bool
 |dV (Þ ë)=>É
 |_=>Ã
def Xp(h:KS qQ=É):nG (y.eval qQ):=by
 unfold KS at h;split at h
 .trivial
 .cases h
def O6(P:Õ)(t:Á)(x y:Ö):Bool:=O5 P t||((match P.underlying t with|some (ð _)=>É|_=>Ã)&&(KS x||KS y))
theorem afT{a:bF}{y:Ö}(h:O6 P t qQ y=É):uP P t\/((∃e,P.underlying t=À (ð e))/\(nG (a.eval qQ)\/nG (a.eval y))):=by
 unfold O6 at h;rcases Ŝ.1 h with h|h
 .exact Ç<|afS h
 .let⟨b,e⟩:=Ü.1 h;refine Î ⟨?_,(Ŝ.1 e).imp Xp Xp⟩;grind
def O7(P:Õ)(s d:Á):Bool:=match P.underlying s,P.underlying d with
 |some (Β _),À (Β _)=>É
 |some ę,À ę=>É
 |_,_=>Ã
theorem afU(h:O7 P e t=É):(∃k a,P.underlying e=À (Β k)/\P.underlying t=À (Β a))\/(P.underlying e=À ę/\P.underlying t=À ę):=by unfold O7 at h;grind
def O8(P:Õ)(s:Á)(n:Nat):Bool:=match P.underlying s with
 |some (de fields)=>match fields[n]? with
  |some f=>match P.info? f.type with
   |some i=>i.size !=0
   |none=>Ã
  |none=>Ã
 |_=>Ã
def afV(h:O8 P e n=É):∀a f i,P.underlying e=À (de a)->a[n]?=À f->P.info? f.type=À i->i.size≠0:=by intro a f i b c d;simp only[O8,b,c,d]at h;simpa using h
def O9(P:Õ)(m:à->Bool)(f:à):Bool:=m f&&(match P.funcs[f]? with
 |some a=> !(a.name== "runtime.NumGoroutine")&&!a.body.isNone
 |none=>Ã)
theorem Xq{g:à->Bool}(h:O9 P g F=É):g F=É/\∃a,P.funcs[F]?=À a/\(a.name== "runtime.NumGoroutine")=Ã/\a.body.isNone=Ã:=by let⟨b,c⟩:=Ü.1 h;grind
def Xr(P:Õ):List Á->Bool
 |[_,t1]=>(match P.underlying t1 with|some (df _)=>É|some ę=>É|_=>Ã)
 |_=>Ã
def Xs(P:Õ)(m:à->Bool)(b:Callee)(a:List Ö)(c:List Á):Bool:=match b with
 |ĝ .len=>a.length==1
 |ĝ .cap=>a.length==1
 |ĝ .copy=>a.length==2
 |ĝ .append=>a.length==2&&Xr P c
 |cb (aO f)=>O9 P m f
 |_=>Ã
def Ef(P:Õ)(m:à->Bool):Op->Bool
 |.move _|.assign _|.pick _ _ _|.alloc _|.box _ _|.build _ _|dB _ _ _|.load _ _|.store _ _ _|ez _|.unOp _ _ _|dS _ _ _|.slice _ _ _ _ _|.field _ _ _|dU _ _ _|.index _ _ _|.extract _ _=>É
 |dR c t x y _=>if c==aA||c==aL then O6 P t x y else É
 |aN s d _=>O7 P s d
 |dT s _ n=>O8 P s n
 |Ω c=>Xs P m c.callee c.args.toList c.argTypes.toList
 |_=>Ã
def KT{a:Array Ö}(h:(a.toList.length==1)=É):∃x,a=#[x]:=by
 let⟨l⟩:=a;match l,h with
 |[x],_=>exact⟨x,U⟩
def Pa{a:Array Ö}(h:(a.toList.length==2)=É):∃x y,a=#[x,y]:=by
 let⟨l⟩:=a;match l,h with
 |[x,y],_=>exact⟨x,y,U⟩
def afW{g:à->Bool}{k:Op}(h:Ef P g k=É)(a:bF):kv P a.eval k:=by
 cases k with
 |binOp o t x y r=>
  refine .D9 o t x y r λe=> ?_;have:(o==aA||o==aL)=É:=by rcases e with rfl|rfl<;>rfl
  simp only[Ef,if_pos this]at h;exact afT h
 |convert s d x=>exact .OA _ _ _ (afU h)
 |fieldAddr s x n=>exact .OC _ _ _ (afV h)
 |call c=>
  let⟨z,B,j⟩:=c;simp only[Ef]at h;unfold Xs at h;split at h
  .obtain⟨x,rfl⟩:=KT h;exact .Gl x j
  .obtain⟨x,rfl⟩:=KT h;exact .Gm x j
  .obtain⟨x,y,rfl⟩:=Pa h;exact .Gn x y j
  .let⟨q,f⟩:=Ü.1 h;obtain⟨x,y,rfl⟩:=Pa q;let⟨l⟩:=j;match l,f with
   |[t0,t1],f=>
    refine .Gp x y t0 t1 ?_;simp only[Xr]at f;split at f
    .rename_i e m;exact Ç ⟨e,m⟩
    .rename_i m;exact Î m
    .cases f
  .exact .gL _ _ _ U (Xq h).2
  .cases h
 |move x=>exact .zN x
 |assign x=>exact .Gj x
 |pick c a b=>exact .xW c a b
 |alloc t=>exact .iw t
 |box t x=>exact .Ow t x
 |build t p=>exact .Ox t p
 |buildSlice t n p=>exact .Oy t n p
 |load t a=>exact .gw t a
 |store t a x=>exact .jg t a x
 |nilCheck x=>exact .Gk x
 |unOp o t x=>exact .Oz o t x
 |makeSlice t l c=>exact .OB t l c
 |slice t x u v w=>exact .j5 t x u v w
 |field t x n=>exact .OD t x n
 |indexAddr t x i=>exact .OE t x i
 |index t x i=>exact .OG t x i
 |extract x n=>exact .F6 x n
 |_=>simp[Ef]at h
def Pb(P:Õ)(X:Nat->Bool)(m:à->Bool)(o:au):Bool:=Ef P m o.op&&o.op.operands.all (yk X)
def afX{X:Nat->Prop}{m:à->Prop}{o:au}(op:∀a:bF,kv P a.eval o.op)(opd:∀x∈o.op.operands,mG X x)(calls:∀f args ts,o.op=Ω {callee:=cb<|aO f,args:=args,argTypes:=ts}->m f):ng P X m o where
 nh hz hb hG ht hW hl x u' hr hc:=(Wa hz hW.C hb (λf=>rfl) (op _) λx hx=>yi hG ht<|opd x hx).gO hW hl hr hc #[];r a:=afy<|op a;I a u n u' hr:=afI (op a) hr;C a u f c u' hr:=let⟨as,ts,e⟩:=afD (op a) hr;calls f as ts e
theorem afY{g:Nat->Bool}{k:à->Bool}(h:Pb P g k o=É):ng P (λj=>g j=É) (λf=>k f=É) o:=by
 let⟨j,b⟩:=Ü.1 h;refine afX (λa=>afW j a) (λx a=>KR ?_) λf a x e=> ?_
 .grind [ŉ]
 .rw[e]at j;exact(Xq<|show O9 P k f=É from j).1
end
section
variable{Y:fw}{g:à->Prop}{α:Type}
def Eg(m:(Ö->Â)->ē Â)(e:∀b,ì b o=m b>>=λv=>pure<|ï v) (hrel:∀(Y:fw) (b h:Ö->Â),om P->Bi Y->Y.C=P.globals.size->(∀x∈o.op.operands,fu Y (b x)<|h x)->kP P fu Y (m b) (m h)) (i:∀b,fG P<|m b) (j:∀x∈o.op.operands,mG X x):ng P X g o where
 nh hz hb hG ht hW hl x u' hr hc:=by rw[e]at hr|-;exact(V6<|hrel _ _ _ hz hW.C hb λx d=>yi hG ht<|j x d).gO hW hl hr hc #[]
 r a:=by rw[e];exact me<|i _
 I a u n u' hr:=by
  rw[e,Ä]at hr;cases d:(m a.eval).run P u with
  |ok v w=>rw[d]at hr;cases hr;exact Ç ⟨v,U⟩
  |halt z w=>rw[d]at hr;cases hr
 C a u f c u' hr:=by
  rw[e,Ä]at hr;cases d:(m a.eval).run P u with
  |ok v w=>rw[d]at hr;cases hr
  |halt z w=>rw[d]at hr;cases hr
theorem afZ(a:o.op=cG t qQ)(b:∀y∈o.op.operands,mG X y):ng P X g o:=by
 refine Eg (λd=>ŝ t<|d qQ) (λd=> ?_) (λY d c _ _ _ h=> .gh ?_) (λd=> ?_) b
 .unfold ì;rw[a]
 .unfold ŝ;apply fH (jf t);rintro e d _ c ⟨rfl,_⟩;split
  .exact .fT
  .exact .fF (.wx t ((h qQ<|by rw[a];simp[Ê]).ff c))
 .unfold ŝ;grind [gH,ji,sk,gf]
theorem af0(c:Sys):pw P (sys c):=by
 intro u hu;refine⟨λx u' e=> ?_,λz u' e=>by cases e⟩;have:u'.heap=u.heap:=by
  simp only[sys,ã]at e;cases e;unfold World.sys;have ask:∀{γ:Type} (b:Ask γ) (w:Æ),(w.ask b).2.heap=w.heap:=by
   intro γ b
   induction b with
   |done a=>intro w;rfl
   |ask what range k ih=>
    intro w;simp only[World.ask];split
    .exact ih 0 w
    .exact ih _ _
  grind
 exact⟨λh i c e he=>h i c e (by rwa[<-this]),λi o he ho=>⟨o,by rwa[this],ho⟩⟩
theorem Xt(x:Â):∀u y a,(ż x).run P u≠ĥ y a:=by
 unfold ż;cases x<;>simp only[]<;>first|exact Ov|skip
 grind [Ge,VQ,si]
def af2(x:Â):fG P (ż x):=by
 refine⟨?_,OI<|Xt x⟩;unfold ż;cases x<;>simp only[]<;>first|exact Gt U|skip
 refine Ky ?_ λa=> ?_
 .unfold Instr.panicnil;refine Ky (af0 _) λr=> ?_;cases r<;>first|exact Gt U|skip
  exact Ky Wc λ_=>Wb _
 .split
  .exact Gt U
  .exact(xY _).1
def af3(b:o.op=.panic qQ)(c:∀y∈o.op.operands,mG X y):ng P X g o:=by refine Eg (λa=>ż<|a qQ) (λa=> ?_) (λY a d _ _ _ h=> .gh (.pn (Xt _))) (λa=>af2 _) c;unfold ì;rw[b]
def af4(c:fu Y x v)(d:fu Y z jQ):fJ P fu Y (Ĳ x z) (Ĳ v jQ):=by
 cases c<;>cases d<;>first|exact .fT|exact .fF (.iB _ _)|skip
 refine fH (V:=fu) (.fF (.lY _)) λf a g _ e=> ?_;apply fH (VO e);rintro h b _ _ rfl;exact .fF (.kt _)
def af5(x y:Â):fG P (Ĳ x y):=by unfold Ĳ;repeat' (first|(with_reducible first|exact gH _|exact ji _|exact tN _|exact KE _|exact OY _ _ _|refine gf ?_ (λ_=> ?_)|refine nI _ ?_)|split|rfl)
def af6:∀{l b:List Â} {Y:fw} {x c:Â},fu Y x c->fU Y l.toArray b.toArray->fJ P fu Y (l.foldlM Ĳ x) (b.foldlM Ĳ c):=by
 intro l
 induction l with
 |nil=>
  intro b Y x c d a;have:b=[]:=by have:=a.r;simp at this;exact Ā this.symm
  subst this;rw[ζ,ζ];exact .fF d
 |cons v l e=>
  intro b Y x c d a;match b,a with
  |[],a=>have:=a.r;simp at this
  |v'::b,a=>
   rw[Ζ,Ζ];refine fH (af4 d (by have:=a.C 0 fp fp;simpa using this)) ?_;intro k y m f g;refine e g ⟨by have:=a.r;simpa using this,λj h i=> ?_⟩;have:=a.C (j+1) (by simp at h|-;omega) (by simp at i|-;omega);exact(by simpa using this:fu Y _ _).ff f
theorem Xu:∀(l:List Â) (x:Â),fG P<|l.foldlM Ĳ x
 |[],x=>by rw[ζ];exact gH _
 |v::l,x=>by rw[Ζ];exact gf (af5 _ _) λy=>Xu l y
def af7(a:Array Á)(t:Á)(h:fU Y d q):fJ P fu Y (ń a t d) (ń a t q):=by
 let⟨l⟩:=d;let⟨b⟩:=q;unfold ń;match l,b,h with
 |[],_,_=>exact .fT
 |v::l,[],h=>have:=h.r;simp at this
 |v::l,v'::b,h=>
  refine af6 (by have:=h.C 0 fp fp;simpa using this) ⟨by have:=h.r;simpa using this,λj e f=> ?_⟩;have:=h.C (j+1) (by simp at e|-;omega) (by simp at f|-;omega);exact(by simpa using this:fu Y _ _)
theorem af8(a:Array Á)(t:Á)(c:Array Â):fG P (ń a t c):=by let⟨l⟩:=c;unfold ń;grind [ji,Xu]
def af9{b:Array Ö}{c:Array Á}(d:o.op=Ω {callee:=ĝ .min,args:=b,argTypes:=c})(e:∀y∈o.op.operands,mG X y):ng P X g o:=by refine Eg (λa=>ń c o.type<|b.map a) (λa=> ?_) (λY a i _ _ _ h=> .gh (af7 _ _<|V8 b λz f=>h z<|by rw[d];simp[Ê,ô,f])) (λa=>af8 _ _ _) e;unfold ì;rw[d];simp only[ù,č,Ē,pure_bind]
def aga{β:Type}{f g:Â->β->ē (ForInStep β)}(k:∀a v e b,Y.r a->fu a v e->fJ P jy a (f v b) (g e b)):∀{l d:List Â} {a:fw} (b:β),Y.r a->fU a l.toArray d.toArray->fJ P jy a (forIn l b f) (forIn d b g):=by
 intro l
 induction l with
 |nil=>
  intro d a b _ c;have:d=[]:=by have:=c.r;simp at this;exact Ā this.symm
  subst this;rw[φ,φ];exact .fF U
 |cons v l m=>
  intro d a b h c;match d,c with
  |[],c=>have:=c.r;simp at this
  |e::d,c=>
   rw[η,η];refine fH (k a v e b h (by have:=c.C 0 fp fp;simpa using this)) ?_;rintro p r _ i rfl;cases r with
   |done b=>exact .fF U
   |yield b=>
    apply m b (fw.I h i);refine⟨by have:=c.r;simpa using this,λj n o=> ?_⟩;have:=c.C (j+1) (by simp at n|-;omega) (by simp at o|-;omega);exact(by simpa using this:fu a _ _).ff i
theorem Xv{β:Type}{f:Â->β->ē (ForInStep β)}(a:∀v b,fG P<|f v b):∀(l:List Â) (b:β),fG P<|forIn l b f
 |[],b=>by rw[φ];exact gH _
 |v::l,b=>by
  rw[η];refine gf (a v b) λr=> ?_;cases r with
  |done b=>exact gH _
  |yield b=>exact Xv a l b
def agb(d:fu Y x v):fJ P fu Y (ü x) (ü v):=by
 cases d<;>first|exact .fT|exact .fF (.kt _)|skip
 rename_i h n c;unfold ü;apply fH (On h n);intro e j l m f;simp only[<-aE];refine fH (aga (Y:=e) ?_ _ (fw.M _) f) ?_
 .intro g a o b _ i;cases i<;>first|exact .fT|skip
  rename_i k n;cases k<;>first|exact .fT|exact .fF U
 .rintro g s _ _ rfl;exact .fF (.kt _)
theorem agc(x:Â):fG P (ü x):=by
 unfold ü;split
 .exact gH _
 .refine gf (OQ _ _) λa=> ?_;simp only[<-aE];grind [gf,Xv,gH,ji]
 .exact ji _
theorem agd(i:o.op=aN t T qQ)(k:P.underlying t=À (df e))(l:P.underlying T=À ę)(m:P.underlying e=À (Β .u8))(n:∀y∈o.op.operands,mG X y):ng P X g o:=by
 refine Eg (λa=>Œ t T<|a qQ) (λa=> ?_) (λY a f _ _ _ h=> .gh ?_) (λa=> ?_) n
 .unfold ì;rw[i]
 .unfold Œ;refine fH (jf t) ?_;rintro z B _ p ⟨rfl,b⟩;rw[k]at b;injection b with b;subst b;refine fH (jf T) ?_;rintro q C _ r ⟨rfl,c⟩;rw[l]at c;injection c with c;subst c;have j:=((h qQ<|by rw[i];simp[Ê]).ff p).ff r;have u:fJ P fu q (ø e>>=λy=>match y with|Β .u8=>ü (a qQ)|Β .i32=>aF (a qQ)|_=>stuck "Convert: a slice of what to string?") (ø e>>=λy=>match y with|Β .u8=>ü (f qQ)|Β .i32=>aF (f qQ)|_=>stuck "Convert: a slice of what to string?"):=by
   apply fH (jf e);rintro D E _ w ⟨rfl,h⟩;rw[m]at h;injection h with h;subst h;exact agb<|j.ff w
  generalize a qQ=v at*;generalize f qQ=v' at*;cases j<;>first|exact u|exact .fT|exact .fF (.kt _)|skip
 .unfold Œ;grind [xZ,agc,W6,gH]
end
section
variable{Y:fw}{b:à->Prop}{α:Type}
def Xw(hrel:∀(Y:fw) (a g:bF),om P->Bi Y->Y.C=P.globals.size->(∀x∈o.op.operands,fu Y (a.eval x)<|g.eval x)->kP P pV Y (ì a.eval o) (ì g.eval o)) (i:∀a:bF,fG P<|ì a.eval o) (h:∀(a:bF) (u:Æ) (n:Ο) (d:Æ),(ì a.eval o).run P u=ĥ n d->∃v,n=ï v) (j:∀x∈o.op.operands,mG X x):ng P X b o where
 nh hz hb hG ht hW hl x d hr hc:=(hrel _ ⟨_,[]⟩ ⟨_,[]⟩ hz hW.C hb λx e=>yi hG ht<|j x e).gO hW hl hr hc #[];r a:=i a;I a u n d hr:=Ç<|h a u n d hr;C a u f c d hr:=by let⟨v,e⟩:=h a u _ d hr;cases e
def agf{e:Array Â->ē Â}{k:Array Á}(g:o.op=Ω {callee:=cb<|aO F,args:=#[qQ],argTypes:=k})(l:P.funcs[F]?=À s)(m:(s.name== "runtime.NumGoroutine")=Ã)(q:s.body.isNone=É)(r:Extern.findNext s=ë)(t:Extern.find s=À e) (hrel:∀(Y:fw) (v i:Â),fu Y v i->fJ P fu Y (e #[v]) (e #[i])) (B:∀v,fG P<|e #[v]) (C:∀y∈o.op.operands,mG X y):ng P X b o:=by
 have c:∀a:bF,ì a.eval o=ĵ F #[a.eval qQ]:=by intro a;unfold ì;rw[g];simp only[ù,å,İ,č,pure_bind,Ď,ď,Ø,â,ä]
 have j:∀(v:Â) (u:Æ),(ĵ F #[v]).run P u=(mark (.extern F)>>=λ_=>e #[v]>>=λy=>pure (ï y):ē Ο).run P u:=by intro v u;unfold ĵ;simp_all
 refine Xw (λY a w _ _ _ h=> ?_) (λa=> ?_) (λa u n D d=> ?_) C
 .rw[c,c];unfold ĵ;refine .gh (fH sd ?_);rintro H p I w ⟨z,E⟩;rw[z,E];simp only[l,m,q,r,t,Å,if_false,if_true];apply fH (V:=jy) (.D1 (Î ⟨F,U⟩) (.fF U));exact λJ _ _ G _=>na<|hrel _ _ _<|((h qQ<|by rw[g];simp[Ê,ô]).ff w).ff G
 .rw[c];exact KA (j _)<|gf (Gu _) λ_=>me<|B _
 .rw[c,j,Ä]at d;simp only[mark,ã,È]at d;have:ã P (e #[a.eval qQ]>>=λy=>pure (ï y):ē Ο) u=ĥ n D:=d;rw[Ä]at this;cases h:(e #[a.eval qQ]).run P u with
  |ok v w=>rw[h]at this;cases this;exact⟨v,U⟩
  |halt z w=>rw[h]at this;cases this
def agh(x a:Â)(h:fu Y x a):fJ P fu Y (Ŀ #[x]) (Ŀ #[a]):=.fF h
def agi(x:Â):fG P (Ŀ #[x]):=gH _
def Xx:∀(n t:Nat) {c a:Array Â},fU Y c a->fU Y (ņ n t c) (ņ n t a)
 |0,_,_,_,h=>h
 |n+1,t,_,_,h=>Xx n (t/256)<|h.VE<|.iB _ _
def agj(b:Array Á)(t:Á)(v c:Â)(h:fu Y v c):fJ P fu Y (Ċ b #[t] #[v]) (Ċ b #[t] #[c]):=by
 cases h<;>first|exact .fT|skip
 rename_i k n;cases k<;>first|exact .fT|skip
 refine fH (jf t) ?_;rintro j d _ l ⟨rfl,_⟩;cases d<;>first|exact .fT|skip
 rename_i e _;simp only[];split
 .exact .pn (xR<|si _)
 .apply tK (.Br λn=> .fF U);intro m f _;apply tK (Ou _);intro o _ _;apply tK (.Br λn=> .fF U);intro p g _;apply fH (Bv e<|Xx f g<|fU.N _);exact λq a r _ i=> .fF (.j5 i _ _)
def agk(a:Array Á)(t:Á)(v:Â):fG P (Ċ a #[t] #[v]):=by
 cases v<;>first|exact ji _|skip
 rename_i k n;cases k<;>first|exact ji _|skip
 refine gf (sk t) λd=> ?_;cases d<;>first|exact ji _|skip
 repeat' (first|(with_reducible first|exact gH _|exact ji _|exact tN _|exact Gw _ _|exact sk _|exact xY _|exact OS _|refine gf ?_ λ_=> ?_)|split)
def agl(f:Array Á)(t:Á)(j:fu Y x v):kP P fu Y (ė f t #[x]) (ė f t #[v]):=by
 cases j<;>first|exact .gh .fT|exact .gh (.fF .lE)|skip
 rename_i a g h n c;change kP P fu Y (ite _ _ _) (ite _ _ _);by_cases i:c≠0
 .simp only[if_pos i];exact .gh (.fF (.jE h))
 .simp only[if_neg i];apply lr (Ku h.1);rintro l b m o ⟨rfl,rfl⟩;simp only[Option.isSome_none,Å,if_false];refine lr (V0:=λ_ a g=>a=g) ?_ ?_
  .unfold Ū;refine fH (jf t) ?_;rintro k d _ p ⟨rfl,_⟩;cases d<;>first|exact .fT|exact .fF U
  .rintro k e _ _ rfl;exact .D5 trivial
def agm(b:Array Á)(t:Á)(x:Â):fG P (ė b t #[x]):=by
 cases x<;>first|exact ji _|skip
 rename_i p n c;cases p with
 |none=>exact gH _
 |some a=>
  change fG P (ite _ _ _);repeat' (first|(with_reducible first|exact gH _|exact ji _|exact KB _|exact KF _|refine gf ?_ (λ_=> ?_)|refine Kz _ ?_)|split|(intro _ _ h;cases h;done))
def agn{c:Array Á}(d:o.op=Ω {callee:=ĝ bj,args:=#[qQ],argTypes:=c})(e:∀y∈o.op.operands,mG X y):ng P X b o:=by refine Eg (λa=>ė c o.type #[a qQ]) (λa=> ?_) (λY a f _ _ _ h=>agl _ _<|h qQ<|by rw[d];simp[Ê,ô]) (λa=>agm _ _ _) e;unfold ì;rw[d];simp only[ù,č,Ē,pure_bind,Ø,â,ä]
end
section
variable{Y:fw}{f:Nat->Prop}{g:à->Prop}{α:Type}
def Xy(h:ig Y a p):fJ P ig Y (Ž a) (Ž p):=by unfold Ž;apply fH (Ku h.1);rintro c x d b ⟨rfl,rfl⟩;exact .fF (h.ff b)
def agp{r:Nat}(h:Y r i):fJ P (λ_ c q=>∃n a,c=À n/\q=À a/\n<=a) Y (du r) (du i):=.wz h λ_ n a c=> .fF ⟨n,a,U,U,c.elim (λq=>by omega) λq=>q.1⟩
def Xz(h:ig Y a p)(t:Á)(n:Nat):fJ P (λ_ b e=>b=É->e=É) Y (Ą a t n) (Ą p t n):=by unfold Ą;apply fH sd;rintro i b j c ⟨d,f⟩;rw[d,f];refine .wz (c.1 _ _ h.1) λe m k g=> ?_;rw[h.2.1];exact .fF λq=>VY (ο<|g.elim (λq=>by omega) λq=>q.1) q
def agq(a:Ú):fG P (Ž a):=by unfold Ž;repeat' (first|(with_reducible first|exact gH _|exact rj|exact uQ _|exact KF _|refine gf ?_ (λ_=> ?_)|refine nI _ ?_)|split|rfl)
theorem agr(r:Nat):fG P (du r):=by unfold du;grind [gH,uQ,Wl,gf]
theorem XA(a:Ú)(t:Á)(n:Nat):fG P (Ą a t n):=by unfold Ą;grind [gH,rj,uQ,gf]
theorem agt(l:P.underlying e=À (ð t))(m:P.underlying T=À đ)(o:fu Y x v):kP P fu Y (ö e T x) (ö e T v):=by
 unfold ö;refine lr (jf e) ?_;rintro z B _ p ⟨rfl,f⟩;rw[l]at f;injection f with f;subst f;refine lr (jf T) ?_;rintro C D _ q ⟨rfl,g⟩;rw[m]at g;injection g with g;subst g;have r:=(o.ff p).ff q;cases r<;>first|exact .gh .fT|exact .gh (.fF .lE)|skip
 rename_i a E h;refine lr (Xy h) ?_;intro F b j G i;refine lr (agp i.1) ?_;rintro H c I u ⟨w,J,rfl,rfl,K⟩;refine lr (nF t) ?_;rintro L n _ y ⟨rfl,_⟩;rw[i.2.1,i.2.2];simp only[];by_cases k:(decide (n=0)||(decide (j.off≥w)&&j.spot.isNone))=É
 .rw[if_pos k];exact .D5 trivial
 .rw[if_neg k,if_neg]
  .exact .gh (.fF (.jE ((i.ff u).ff y)))
  .grind
theorem agu{d:Á}(l:P.underlying T=À đ)(o:P.underlying d=À (ð t))(q:fu Y x z):kP P fu Y (ö T d x) (ö T d z):=by
 unfold ö;refine lr (jf T) ?_;rintro F G _ r ⟨rfl,f⟩;rw[l]at f;injection f with f;subst f;refine lr (jf d) ?_;rintro H I _ w ⟨rfl,g⟩;rw[o]at g;injection g with g;subst g;have y:=(q.ff r).ff w;cases y<;>first|exact .gh .fT|exact .gh (.fF .lE)|skip
 rename_i a J h;refine lr (Xy h) ?_;intro K b B L i;refine lr (nF t) ?_;rintro M n _ j ⟨rfl,_⟩;refine lr (Xz (i.ff j) t 1) ?_;rintro C v N D O;have Q:kP P fu C (pure<|Þ<|À b) (pure<|Þ<|À B):=.gh (.fF (.jE ((i.ff j).ff D)));by_cases E:(decide (n=0)||v)=É
 .grind
 .rw[if_neg E];refine .D6 λu x S c=> ?_;rw[Ä]at c;simp only[ck,ã,È]at c;cases k:u.shape? b.block with
  |none=>rw[k]at c;cases c
  |some p=>
   let⟨e,m⟩:=p;rw[k]at c;simp only[Ä,ă,È]at c;split at c
   .cases c
   .cases c;exact⟨u.heap.size,.view b t,ß _,fp,trivial⟩
theorem agv(h:(P.underlying e=À (ð t)/\P.underlying T=À đ)\/(P.underlying e=À đ/\P.underlying T=À (ð t)))(x:Â):fG P (ö e T x):=by
 unfold ö;rcases h with⟨b,c⟩|⟨b,c⟩<;>refine xZ b<|xZ c ?_;all_goals
  cases x<;>first|exact ji _|skip
  rename_i p;cases p with
  |none=>exact gH _
  |some a=>
   repeat' (first|(with_reducible first|exact agq _|exact agr _|exact XA _ _ _|exact gH _|exact ji _|exact rj|exact uQ _|exact uS _|refine gf ?_ (λ_=> ?_)|refine nI _ ?_|refine Kz _ ?_)|split|(intro _ _ h;cases h;done)|rfl)
theorem XB(b:o.op=aN e T qQ)(h:(P.underlying e=À (ð t)/\P.underlying T=À đ)\/(P.underlying e=À đ/\P.underlying T=À (ð t)))(c:∀y∈o.op.operands,mG X y):ng P X g o:=by
 refine Eg (λa=>Œ e T<|a qQ) (λa=> ?_) (λY a i _ _ _ f=> ?_) (λa=> ?_) c
 .unfold ì;rw[b]
 .unfold Œ;apply lr (jf e);rintro j k _ a ⟨rfl,l⟩;apply lr (jf T);rintro m n _ i ⟨rfl,p⟩;have q:=((f qQ<|by rw[b];simp[Ê]).ff a).ff i;grind [agt,agu]
 .unfold Œ;grind [agv,xZ]
theorem agw(a:Ú)(n:Nat):pw P (eT a n):=by
 intro u f;refine⟨λx b e=> ?_,λz b e=>by cases e⟩;cases e;unfold Ė;split
 .exact Kd.fV u
 .refine Wg (λo d=> ?_) λo c e h=> ?_
  .cases o<;>first|exact d.elim|trivial
  .grind
def agx(a:Ú)(n:Nat):fG P (eT a n):=by
 refine⟨agw a n,λu T D=>⟨0,u.freeze a n,λx b e=> ?_⟩⟩;have c:∀T D,(World.tp u T D).freeze a n=World.tp (u.freeze a n) T D:=by intro T D;unfold Ė;split<;>rfl
 simp_all
def XC:∀(n:Nat) {Y:fw} {a c:Ú} (d:ByteArray),ig Y a c->fJ P jy Y (ĕ a d n) (ĕ c d n)
 |0,_,_,_,_,_=> .fF U
 |n+1,Y,a,c,d,h=>by
  unfold ĕ;refine fH (Kq h) ?_;intro g v i e f;cases f<;>first|exact .fT|skip
  rename_i k b;cases k<;>first|exact .fT|exact XC n _<|(h.ff e).r 1
def XD:∀(n:Nat) (a:Ú) (b:ByteArray),fG P<|ĕ a b n
 |0,_,_=>gH _
 |n+1,a,b=>by
  unfold ĕ;refine gf (Gv _ _) λv=> ?_;split
  .exact XD n _ _
  .exact ji _
def jM(pt:Á)(a:Ú)(n:Nat):ē ByteArray:=do
 if<-Ą a (<-Ū pt) n then ĕ a .empty n else unsupported (ť "String: not so many bytes at ptr")
def agy(pt:Á)(h:ig Y a p)(n:Nat):fJ P jy Y (jM pt a n) (jM pt p n):=by
 unfold jM;refine fH (V:=jy) ?_ ?_
 .unfold Ū;refine fH (jf pt) ?_;rintro f d _ c ⟨rfl,_⟩;cases d<;>first|exact .fT|exact .fF U
 .rintro i e _ d rfl;apply fH (Xz (h.ff d) e n);rintro f b j c g;cases b with
  |true=>rw[g U];exact XC n _<|(h.ff d).ff c
  |false=>exact .fT
def agz[Bq P](F:je Y f u w)(h:ig Y a p){pt:Á}(G:∀u l j,(Ū pt).run P u=ĥ l j->∃k,P.underlying l=À (Β k))(g:(jM pt a<|n+1).run P u=ĥ B W):¬f p.block:=by
 intro H;let⟨c,L,e,M,N,r,O,Q,t,_⟩:=F.r _ _ h.1;let⟨_,_,_,_,o⟩:=t H;unfold jM at g;rw[Ä]at g;cases i:(Ū pt).run P u with
 |halt z x=>rw[i]at g;cases g
 |ok l j=>
  have I:j=u:=by
   unfold Ū at i;rw[Ä]at i;unfold ø at i;rw[Ä,ă]at i;simp only[È]at i;cases D:P.underlying pt with
   |none=>rw[D]at i;cases i
   |some d=>
    rw[D]at i;cases d<;>cases i<;>rfl
  subst I;rw[i]at g;simp only[È]at g;rw[Ä]at g;have y:∃b,(Ą a l<|n+1).run P j=ĥ b j:=by unfold Ą;rw[Ä,ă];simp only[È];rw[Ä];simp only[ck,ã,È];split<;>exact⟨_,U⟩
  rcases o with o|o;rotate_left
  .let⟨k,J⟩:=G _ _ _ i;have K:(Ą a l<|n+1).run P j=ĥ Ã j:=by
    unfold Ą;rw[Ä,ă];simp only[È];rw[Ä];simp only[ck,ã,È];have t:j.shape? a.block=À (e,c.size):=by simp[Θ,r]
    rw[t];simp only[Nat.div_eq_of_lt<|Bq.lt e c.size o,aep J];rfl
   rw[K]at g;cases g
  let⟨b,y⟩:=y;rw[y]at g;simp only[È]at g;split at g
  .unfold ĕ at g;rw[Ä]at g;simp only[aX,ã]at g;cases C:j.cell? a with
   |none=>
    rw[C]at g;simp only[ŋ,r]at g;cases g
   |some v=>
    rw[C]at g;simp only[È]at g;have q:=C;rw[Bt r]at q;cases E:a.spot with
    |some x=>rw[E]at q;cases q
    |none=>
     rw[E]at q;have:=o _ _ (by simpa using q);cases v<;>first|(cases g;done)|skip
     rename_i k m;cases k<;>first|(cases g;done)|cases this
  .cases g
end
section
variable{Y:fw}{d:Nat->Prop}{f:à->Prop}{α:Type}
def zU(a:Á)(p:Option Ú)(n:Int):ē Â:=ê #[a] a #[Þ p,Ć Ŋ n]
def zV(pt a t:Á)(p:Option Ú)(k:ú)(n:Int):ê #[pt,a] t #[Þ p,Ć k n]=zU pt p n:=by cases p<;>rfl
section
variable{pt:Á}{p:Option Ú}
def XE(a:h<0):∃c,∃k:PUnit->ē Â,zU pt p h=(runtimePanic c>>=k):=⟨_,_,if_pos a⟩
def XF(a:¬h<0)(b:h>Ŋ.max):∃c,zU pt p h=unsupported (ť c):=⟨_,(if_neg a).trans<|if_pos b⟩
def Pd(a:¬h<0)(b:¬h>Ŋ.max)(c:h=0):zU pt p h=pure (ħ .empty):=by cases p<;>exact(if_neg a).trans<|(if_neg b).trans<|if_pos c
def agA(a:¬h<0)(b:¬h>Ŋ.max)(d:¬h=0):∃c,zU pt ë h=runtimePanic c:=⟨_,(if_neg a).trans<|(if_neg b).trans<|if_neg d⟩
end
def XG(pt:Á)(a:Ú)(c:¬h<0)(d:¬h>Ŋ.max)(e:¬h=0): zU pt (À a) h=(jM pt a h.toNat>>=λs=>eT a h.toNat>>=λ_=>pure<|ħ s):=by refine((if_neg c).trans<|(if_neg d).trans<|if_neg e).trans ?_;unfold jM;show _=ç (ç _ _) _;rw[ř];congr 1;funext et;show ç _ _=ç (ç _ _) _;rw[ř];congr 1;funext b;cases b<;>rfl
def agB(pt:Á)(p:Option Ú)(n:Int):fG P (zU pt p n):=by cases p<;>show fG P (if n<0 then _ else _)<;>repeat' (first|(with_reducible first|exact XA _ _ _|exact XD _ _ _|exact agx _ _|exact gH _|exact KB _|exact xY _|refine gf ?_ (λ_=> ?_)|refine nI _ ?_)|split|rfl)
theorem agC(_hW:je Y d u w):∀(n:Nat) {a i:Ú} {j s:ByteArray},ig Y a i->a.spot=ë->(ĕ a j n).run P u=ĥ s W->∀c e f,u.heap[a.block]?=À (Č c e f)->a.off<=c.size->a.off+n<=c.size:=by
 intro n
 induction n with
 |zero=>intro a i j s _ _ _ c e f _ r;exact r
 |succ n t=>
  intro a i j s h p b c e f l _;unfold ĕ at b;rw[Ä]at b;simp only[aX,ã]at b;cases o:u.cell? a with
  |none=>
   rw[o]at b;simp only[ŋ,l]at b;cases b
  |some v=>
   rw[o]at b;simp only[È]at b;have q:=o;rw[Bt l,p]at q;have y:=(Ë.1<|by simpa using q).1;cases v<;>first|(cases b;done)|skip
   rename_i k m;cases k<;>first|(cases b;done)|skip
   have g:a.add 1={a with off:=a.off+1}:=by unfold Addr.add;grind
   have x:=h.r 1;have:=t x (by rwa[g]) b c e f (by rwa[g]) (by rw[g];simp only;omega);rw[g]at this;simp only at this;omega
end
section
variable{Y:fw}{g:Nat->Prop}{r:à->Prop}{α:Type}
def Pe(pt a t:Á)(p:Option Ú)(y:Â):ê #[pt,a] t #[Þ p,y]=(dz y>>=λn=>zU pt p n):=by cases p<;>rfl
def XH:∀(n:Nat) {a:Ú} {f s:ByteArray} {u c:Æ},(ĕ a f n).run P u=ĥ s c->c=u
 |0,_,_,_,_,_,h=>by cases h;rfl
 |n+1,a,f,s,u,c,h=>by
  unfold ĕ at h;rw[Ä]at h;have g:∀v b,(aX a).run P u=ĥ v b->b=u:=by
   intro v b e;simp only[aX,ã]at e;split at e
   .cases e;rfl
   .split at e<;>cases e;rfl
  cases d:(aX a).run P u with
  |halt z w=>rw[d]at h;cases h
  |ok v b=>
   have:=g v b d;subst this;rw[d]at h;simp only[È]at h;cases v<;>first|(cases h;done)|skip
   rename_i k m;cases k<;>first|(cases h;done)|exact XH n h
def agD{pt:Á}(c:(jM pt a n).run P u=ĥ B w):w=u/\(ĕ a .empty n).run P u=ĥ B u:=by
 unfold jM at c;rw[Ä]at c;cases e:(Ū pt).run P u with
 |halt z x=>rw[e]at c;cases c
 |ok z x=>
  have f:x=u:=by
   unfold Ū at e;rw[Ä]at e;unfold ø at e;rw[Ä,ă]at e;simp only[È]at e;cases b:P.underlying pt with
   |none=>rw[b]at e;cases e
   |some d=>
    rw[b]at e;cases d<;>cases e<;>rfl
  subst f;rw[e]at c;simp only[È]at c;rw[Ä]at c;have d:∃b,(Ą a z n).run P x=ĥ b x:=by unfold Ą;rw[Ä,ă];simp only[È];rw[Ä];simp only[ck,ã,È];split<;>exact⟨_,U⟩
  let⟨b,d⟩:=d;rw[d]at c;simp only[È]at c;split at c
  .have:=XH n c;subst this;exact⟨U,c⟩
  .cases c
def KU(P:Õ)(t:Á):Bool:=match P.underlying t with
 |some (ð e)=>(match P.underlying e with|some (Β _)=>É|_=>Ã)
 |_=>Ã
theorem agE{P:Õ}{pt:Á}(h:KU P pt=É):∀u b c,(Ū pt).run P u=ĥ b c->∃k,P.underlying b=À (Β k):=by
 intro u b c a;unfold Ū ø at a;rw[Ä,Ä,ă]at a;simp only[È]at a;unfold KU at h;split at h
 .rename_i e d;rw[d]at a;cases a;grind
 .cases h
def agF[Bq P]{y:Ö}{pt:Á}(W:o.op=Ω {callee:=ĝ cT,args:=#[qQ,y],argTypes:=#[pt,T]})(hpt:KU P pt=É)(KV:∀z∈o.op.operands,mG X z):ng P X r o:=by
 have he:∀M:Ö->Â,ì M o=(ê #[pt,T] o.type #[M qQ,M y]>>=λv=>pure<|ï v):=by intro M;unfold ì;rw[W];simp only[ù,č,Ē,pure_bind,Ø,â,ä]
 have N:∀v w:Â,fG P (ê #[pt,T] o.type #[v,w]):=by
  intro v w;cases v<;>first|exact ji _|skip
  rw[Pe];exact gf (Gx _) λn=>agB _ _ _
 have hk:∀(a:bF) (u:Æ) (n:Ο) (C:Æ),(ì a.eval o).run P u=ĥ n C->∃v,n=ï v:=by
  intro a u n C b;rw[he,Ä]at b;cases O:(ê #[pt,T] o.type #[a.eval qQ,a.eval y]).run P u with
  |ok v w=>rw[O]at b;cases b;exact⟨v,U⟩
  |halt z w=>rw[O]at b;cases b
 refine⟨?_,λa=>by rw[he];exact me<|N _ _,λa u n C b=>Ç<|hk a u n C b,λa u f c C b=>by let⟨v,e⟩:=hk a u _ C b;cases e⟩;intro Y g t t' u w hz hb hG ht J hl z C b hc;have hx:=yi hG ht (KV qQ<|by rw[W];simp[Ê,ô]);have Q:=yi hG ht (KV y<|by rw[W];simp[Ê,ô]);rw[he]at b|-;generalize å ⟨t,[]⟩ qQ=v at hx b;generalize å ⟨t',[]⟩ qQ=v' at hx|-;generalize å ⟨t,[]⟩ y=l at Q b;generalize å ⟨t',[]⟩ y=l' at Q|-;have E:fJ P fu Y (ê #[pt,T] o.type #[v,l]) (ê #[pt,T] o.type #[v',l'])->∃(K:fw) (x':Ο) (w':Æ) (S:Array ý),Y.r K/\(∀i j,K i j->Y i j\/(u.heap.size<=i/\w.heap.size<=j))/\(ê #[pt,T] o.type #[v',l']>>=λv=>pure (ï v):ē Ο).runT P w #[]=(ĥ x' w',#[]++S)/\pV K z x'/\je K g C w'/\oj Y g w w'/\(∀e∈S,Bs K g e)/\u.heap.size<=C.heap.size:= λh=>(na h).gO J hl b #[];cases hx with
 |lE=>
  apply E;rw[Pe,Pe];apply fH (Oq Q);rintro XI n _ _ rfl;by_cases B:n<0
  .let⟨c,k,q⟩:=XE (pt:=pt) (p:=ë) B;rw[q];exact .pn (xR<|si _)
  .by_cases d:n>Ŋ.max
   .let⟨c,q⟩:=XF (pt:=pt) (p:=ë) B d;rw[q];exact .fT
   .by_cases D:n=0
    .rw[Pd B d D];exact .fF (.kt _)
    .let⟨c,q⟩:=agA (pt:=pt) B d D;rw[q];apply Kt
 |jE F=>
  rename_i a a';cases Q with
  |iB k n=>
   by_cases B:n<0
   .apply E;let⟨c,k,q⟩:=XE (pt:=pt) (p:=À a) B;rw[zV,zV,q];exact .pn (xR<|si _)
   .by_cases d:n>Ŋ.max
    .apply E;let⟨c,q⟩:=XF (pt:=pt) (p:=À a) B d;rw[zV,zV,q];exact .fT
    .by_cases D:n=0
     .apply E;rw[zV,zV,Pd B d D,Pd B d D];exact .fF (.kt _)
     .rw[zV,XG pt a B d D]at b;rw[zV,XG pt a' B d D];obtain⟨m,O⟩:∃m,n.toNat=m+1:=⟨n.toNat-1,Z⟩;rw[O]at b|-;cases L:(jM pt a<|m+1).run P u with
      |halt z w=>
       rw[Ä,Ä,L]at b;cases b
      |ok s u1=>
       obtain⟨rfl,XJ⟩:=agD L;rw[Ä,Ä,L]at b;have BF:=b;cases BF;let⟨XI,s',w1,es,k1,k2,k3,k4,k5,G,k7,k8⟩:=(agy pt F<|m+1).gO J hl L #[];have S:=k4;subst S;let⟨c,c',e,fr,xS,V,hw,rm,_⟩:=J.r _ _ F.1;have XK:a.spot=ë/\a.off<c.size:=by
        have H:=XJ;unfold ĕ at H;rw[Ä]at H;simp only[aX,ã]at H;cases I:u1.cell? a with
        |none=>
         rw[I]at H;simp only[ŋ,V]at H;cases H
        |some v=>
         rw[Bt V]at I;cases pz:a.spot with
         |some qQ=>rw[pz]at I;cases I
         |none=>rw[pz]at I;exact⟨U,(Ë.1<|by simpa using I).1⟩
       have fits:∀c e fr,u1.heap[a.block]?=À (Č c e fr)->a.off+(m+1)<=c.size:=by intro c2 e2 XL d;rw[V]at d;injection d with d;injection d with q1 q2 q3;subst q1;exact agC J (m+1) F XK.1 XJ c e fr V<|Nat.le_of_lt XK.2
       refine⟨XI,ï<|ħ s,w1.freeze a'<|m+1,es,k1,k2,?_,.ot (.kt s),k5.adL (F.ff k1) (m+1) fits,?_,k7,by rw[Ko];exact ß _⟩
       .show é P (ç (ç _ _) _) w #[]=_;rw[Ñ,Ñ,k3];rfl
       .refine⟨by rw[Ko];exact G.r,adH.trans G.I,adI.trans G.M,Ol.trans G.S,λj hj N=> ?_,λj hs hj=> ?_⟩
        .rw[Kp (λe=>N a.block<|by rw[<-e];exact F.1)];exact G.C j hj N
        .rw[Kp (λe=>(agz J F (agE hpt) L)<|by rwa[e])];exact G.N j hs hj
  |_=>exact E .fT
 |_=>exact E .fT
end
section
variable{Y:fw}{g:Nat->Prop}{i:à->Prop}{α:Type}
theorem agG(a:Ú):fG P (bk a):=by unfold bk;grind [gH,uQ,OO,gf]
theorem agH(a b:Ú):fG P (cH a b):=by unfold cH;grind [agG,gH,uQ,gf]
def agI(a b:Ú):fG P (Ŭ a b):=by unfold Ŭ;repeat' (first|(with_reducible first|exact agH _ _|exact gH _|exact tN _|exact OO _|exact WB _|refine gf ?_ (λ_=> ?_)|refine nI _ ?_)|split|rfl)
def XM(h:P.underlying t=À (ð e))(x y:Â):fG P (ó t x y):=by unfold ó ā Λ;refine xZ h ?_;repeat' (first|(with_reducible first|exact agI _ _|exact gH _|exact ji _|exact tN _|exact uS _|refine gf ?_ λ_=> ?_)|contradiction|split)
def agJ{a:ġ}(b:a=aA\/a=aL)(h:P.underlying t=À (ð e))(x y:Â):fG P (Ũ a t x y):=by
 have c:=XM h x y;rcases b with rfl|rfl;all_goals
  unfold Ũ;repeat' (first|(with_reducible first|exact XM h _ _|exact gH _|exact ji _|exact OU _ _ _ _|exact WY _ _ _ _ _ _|exact WZ _ _ _|exact OY _ _ _|refine gf ?_ λ_=> ?_)|contradiction|split)
def zW(u:Æ)(r:Nat):Prop:=∃c e a,u.heap[r]?=À (Č c e a)/\a.2<=c.size
def KW(a:Ú)(u:Æ)(b:Array ý):(eL a).runT P u b=(ĥ (u.frozen? a) u,b):=rfl
def KX{r:Nat}(h:u.heap[r]?=À (Č d e xJ))(a:Array ý):(ck r).runT P u a=(ĥ (À (e,d.size)) u,a):=by simp only[ck,é,Θ,h]
def XO(h:zW u a.block)(b:Array ý):(bk a).runT P u b=(ĥ (u.frozen? a) u,b):=by
 let⟨c,e,f,d,g⟩:=h;unfold bk;show é P (ç _ _) u b=_;rw[Ñ,KW];cases i:u.frozen? a with
 |true=>rfl
 |false=>
  simp only[Å,if_false];show é P (ç _ _) u b=_;rw[Ñ,KX d];simp only[];rw[KW];have:u.frozen? {block:=a.block,off:=c.size}=Ã:=by simp only[Ĉ,d];simp;omega
  rw[this]
def XP(f:u.heap[a.block]?=À (Č d e xJ))(g:xJ.2<=d.size)(b:u.frozen? a=É):d.size≠0:=by simp only[Ĉ,f]at b;simp at b;omega
def agK(i:zW u a.block)(j:zW u p.block)(k:(u.frozen? a&&u.frozen? p)=Ã)(g:Array ý):(cH a p).runT P u g=(ĥ Ã u,g):=by
 have q:=i;have r:=j;let⟨c,e,w,l,s⟩:=q;let⟨d,f,x,m,t⟩:=r;unfold cH;show é P (ç _ _) u g=_;rw[Ñ,XO i];simp only[];show é P (ç _ _) u g=_;rw[Ñ,XO j];simp only[];show é P (ç (ç _ _) _) u g=_;rw[Ñ,Ñ,KX l];simp only[];show é P (ç (ç _ _) _) u g=_;rw[Ñ,Ñ,KX m];simp only[];congr 2;cases o:u.frozen? a with
 |true=>
  rw[o]at k;have h:u.frozen? p=Ã:=by simpa using k
  have:=XP l s o;simp only[h];cases v:c.size with
  |zero=>exact absurd v this
  |succ n=>rfl
 |false=>
  cases h:u.frozen? p with
  |true=>
   have:=XP m t h;cases v:d.size with
   |zero=>exact absurd v this
   |succ n=>rfl
  |false=>rfl
def XQ(h:zW u a.block)(b:Array ý):(aY a).runT P u b=(ĥ () u,b):=by let⟨c,e,f,d,g⟩:=h;unfold aY dh;show é P (ç (ç _ _) _) u b=_;rw[Ñ,Ñ,KX d];rfl
def XR(e:zW u a.block)(f:zW u p.block)(c:Array ý):(Ŭ a p).runT P u c= if(a.block==p.block)=É then(ĥ (a==p) u,c)else if(u.frozen? a&&u.frozen? p)=É then(bV (ŀ .addressObserved) u,c)else(ĥ Ã u,c):=by
 unfold Ŭ;by_cases h:(a.block==p.block)=É
 .simp_all
 .rw[if_neg h,if_neg h];show é P (ç _ _) u c=_;rw[Ñ,KW];simp only[];show é P (ç _ _) u c=_;rw[Ñ,KW];simp only[];by_cases d:(u.frozen? a&&u.frozen? p)=É
  .simp_all
  .rw[if_neg d,if_neg d];show é P (ç _ _) u c=_;rw[Ñ,XQ e];simp only[];show é P (ç _ _) u c=_;rw[Ñ,XQ f];simp only[];show é P (ç _ _) u c=_;rw[Ñ,agK e f (by simpa using d)];rfl
end
section
variable{Y:fw}{g:Nat->Prop}{j:à->Prop}
def agL{d:dE}(h:P.underlying t=À d)(u:Æ)(a:Array ý):(ø t).runT P u a=(ĥ d u,a):=by unfold ø;simp_all
theorem agM(h:P.info? t=À zJ)(u:Æ)(a:Array ý):(ay t).runT P u a=(ĥ zJ.size u,a):=by
 unfold ay;show é P (ç _ _) u a=_;rw[Ñ];have:(Δ t).runT P u a=(ĥ zJ u,a):=by unfold Δ;simp_all
 rw[this];rfl
theorem XS(h:P.underlying t=À (ð e))(d:P.info? e=À zJ)(f:zJ.size≠0)(a b:Ú)(u:Æ)(c:Array ý):(ó t (Þ<|À a)<|Þ<|À b).runT P u c=(Ŭ a b).runT P u c:=by unfold ó ā Λ;show é P (ç _ _) u c=_;rw[Ñ,agL h];simp only[];show é P (ç _ _) u c=_;grind [Ñ,agM]
def iy(a:ġ)(r:Bool):Bool:=if a=aA then r else !r
def XT{d:ġ}(k:d=aA\/d=aL)(h:P.underlying t=À (ð e))(g:P.info? e=À zJ)(j:zJ.size≠0)(x y:Ö)(a b:Ú)(u:Æ)(c:Array ý): ((ŷ d t x y (Þ<|À a) (Þ<|À b)>>=λ_=>Ũ d t (Þ<|À a)<|Þ<|À b)>>=λv=>pure (ï v):ē Ο).runT P u c= match(Ŭ a b).runT P u c with
 |(ĥ r u',f)=>(ĥ (ï<|Ľ<|iy d r) u',f)
 |(bV z u',f)=>(bV z u',f):=by
 rcases k with rfl|rfl
 .show é P (ç (ç (ó t (Þ<|À a)<|Þ<|À b) λr=>aI<|Ľ r) λv=>aI<|ï v) u c=_;rw[Ñ,Ñ,XS h g j];cases(Ŭ a b).runT P u c with
  |mk r f=>cases r<;>rfl
 .show é P (ç (ç (ó t (Þ<|À a)<|Þ<|À b) λr=>aI<|Ľ !r) λv=>aI<|ï v) u c=_;rw[Ñ,Ñ,XS h g j];cases(Ŭ a b).runT P u c with
  |mk r f=>cases r<;>rfl
theorem agN{m:ġ}{r:Á}{y:Ö}(E:o.op=dR m t qQ y r)(H:m=aA\/m=aL)(h:P.underlying t=À (ð e))(T:P.info? e=À zJ)(V:zJ.size≠0)(I:∀z∈o.op.operands,mG X z):ng P X j o:=by
 have J:∀B:Ö->Â,ì B o=((ŷ m t qQ y (B qQ) (B y)>>=λ_=>Ũ m t (B qQ)<|B y)>>=λv=>pure<|ï v):=by intro B;unfold ì;rw[E]
 have W:∀(a:bF) (u:Æ) (n:Ο) (s:Æ),(ì a.eval o).run P u=ĥ n s->∃v,n=ï v:=by
  intro a u n s k;rw[J,Ä]at k;cases C:(ŷ m t qQ y (a.eval qQ) (a.eval y)>>=λ_=>Ũ m t (a.eval qQ)<|a.eval y).run P u with
  |ok v w=>rw[C]at k;cases k;exact⟨v,U⟩
  |halt z w=>rw[C]at k;cases k
 refine⟨?_,λa=> ?_,λa u n s k=>Ç<|W a u n s k,λa u f c s k=>by let⟨v,e⟩:=W a u _ s k;cases e⟩
 .intro Y g D XU u w K hb L M p hl z s k hc;have N:=yi L M (I qQ<|by rw[E];simp[Ê]);have O:=yi L M (I y<|by rw[E];simp[Ê]);by_cases Q:nG (å ⟨D,[]⟩ qQ)\/nG (å ⟨D,[]⟩ y)
  .have hOk:kv P (å ⟨D,[]⟩) o.op:=by
    rw[E];exact .D9 m t qQ y r λ_=>Î ⟨⟨e,h⟩,Q⟩
   exact(Wa K p.C hb (λf=>rfl) hOk λz K=>yi L M<|I z K).gO p hl k hc #[]
  .have n1:=λq=>Q<|Ç q;have n2:=λq=>Q<|Î q;rw[J]at k|-;generalize å ⟨D,[]⟩ qQ=v at N k n1;generalize å ⟨XU,[]⟩ qQ=v' at N|-;generalize å ⟨D,[]⟩ y=l at O k n2;generalize å ⟨XU,[]⟩ y=l' at O|-;cases N<;>first|exact absurd trivial n1|skip
   cases O<;>first|exact absurd trivial n2|skip
   rename_i a a' F b b' G;have fit:∀{c S:Ú},ig Y c S->zW u c.block/\zW w S.block:=by intro c S KY;let⟨d,d',e2,fr,xS,hu,hw,rm,qC,Pf,hfr⟩:=p.r _ _ KY.1;refine⟨⟨d,e2,fr,hu,hfr⟩,d',e2,xS,hw,?_⟩;refine õ ?_ rm.M;grind
   let⟨fa,fa'⟩:=fit F;let⟨fb,fb'⟩:=fit G;rw[<-Ρ P _ u #[],XT H h T V,XR fa fb]at k;rw[XT H h T V,XR fa' fb'];rw[<-(Kv p.C F G),<-(VU p.C F G)];by_cases q:(a.block==b.block)=É
   .rw[if_pos q]at k|-;cases k;exact⟨Y,_,w,#[],fw.M _,λ_ _ q=>Ç q,U,.ot (.lY _),p,oj.fV _ _ _,λ_ C=>absurd C fp,ß _⟩
   .rw[if_neg q]at k|-;by_cases q2:(u.frozen? a&&u.frozen? b)=É
    .grind
    .rw[if_neg q2]at k;have q3:¬(w.frozen? a'&&w.frozen? b')=É:=by
      intro q4;let⟨z1,z2⟩:=Ü.1 q4;exact q2<|Ü.2 ⟨p.G F z1,p.G G z2⟩
     rw[if_neg q3];cases k;exact⟨Y,_,w,#[],fw.M _,λ_ _ q=>Ç q,U,.ot (.lY _),p,oj.fV _ _ _,λ_ C=>absurd C fp,ß _⟩
 .rw[J];exact me<|gf (W5 m t (λ_=>Î ⟨e,h⟩) qQ y _ _) λ_=>agJ H h _ _
end
def Pg(P:Õ)(s d:Á):Bool:=match P.underlying s,P.underlying d with
 |some (df e),À ę=>(match P.underlying e with|some (Β .u8)=>É|_=>Ã)
 |some (ð _),À đ=>É
 |some đ,À (ð _)=>É
 |_,_=>Ã
def Pj(P:Õ)(t:Á):Bool:=match P.underlying t with
 |some (ð e)=>(match P.info? e with|some i=>i.size !=0|none=>Ã)
 |_=>Ã
def Pk(P:Õ)(b:à->Bool)(c:Callee)(a:List Ö)(d:List Á):Bool:=match c with
 |ĝ .min=>a.length !=0
 |ĝ bj=>a.length==1
 |ĝ cT=>a.length==2&&(match d with|[t,_]=>KU P t|_=>Ã)
 |cb (aO f)=>b f&&a.length==1
 |_=>Ã
def Pm(P:Õ)(a:à->Bool):Op->Bool
 |cG _ _|.panic _=>É
 |dR c t _ _ _=>(c==aA||c==aL)&&Pj P t
 |aN s d _=>Pg P s d
 |Ω c=>Pk P a c.callee c.args.toList c.argTypes.toList
 |_=>Ã
def Eh(P:Õ)(a:Nat->Bool)(b c:à->Bool)(o:au):Bool:=Pb P a b o||(Pm P c o.op&&o.op.operands.all (yk a))
def GF(P:Õ)(c:à->Bool):Prop:=∀f,c f=É->∃a e,P.funcs[f]?=À a/\(a.name== "runtime.NumGoroutine")=Ã/\a.body.isNone=É/\Extern.findNext a=ë/\Extern.find a=À e/\
 (∀(Y:fw) (v b:Â),fu Y v b->fJ P fu Y (e #[v]) (e #[b]))/\∀v,fG P<|e #[v]
theorem KZ[Bq P]{g:Nat->Bool}{k x:à->Bool}(C:GF P x)(h:Eh P g k x o=É):ng P (λj=>g j=É) (λf=>k f=É) o:=by
 rcases Ŝ.1 h with h|h
 .exact afY h
 .let⟨v,S⟩:=Ü.1 h;have q:∀z∈o.op.operands,mG (λj=>g j=É) z:=by
   grind [ŉ,KR,Ń]
  cases n:o.op with
  |makeInterface t y=>exact afZ n q
  |panic y=>exact af3 n q
  |binOp w t a b r=>
   rw[n]at v;let⟨T,m⟩:=Ü.1 (show((w==aA||w==aL)&&Pj P t)=É from v);have D:w=aA\/w=aL:=by grind
   unfold Pj at m;split at m
   .rename_i e E;split at m
    .rename_i i F;exact agN n D E F (by simpa using m) q
    .cases m
   .cases m
  |convert s d y=>
   rw[n]at v;have m:Pg P s d=É:=v;unfold Pg at m;split at m
   .rename_i e u p;split at m
    .rename_i G;exact agd n u p G q
    .cases m
   .rename_i t u p;exact XB n (Ç ⟨u,p⟩) q
   .rename_i t u p;exact XB n (Î ⟨u,p⟩) q
   .cases m
  |call c=>
   rw[n]at v;let⟨H,I,B⟩:=c;have m:Pk P x H I.toList B.toList=É:=v;unfold Pk at m;split at m
   .exact af9 n q
   .obtain⟨y,rfl⟩:=KT m;exact agn n q
   .let⟨u,p⟩:=Ü.1 m;obtain⟨y,z,rfl⟩:=Pa u;let⟨l⟩:=B;match l,p with
    |[t1,t2],p=>exact agF n p q
   .rename_i f;let⟨u,p⟩:=Ü.1 m;obtain⟨y,rfl⟩:=KT p;let⟨V,e,J,K,L,M,N,O,Q⟩:=C f u;exact agf n J K L M N O Q q
   .cases m
  |_=>rw[n]at v;simp[Pm]at v
def oy(P:Õ)(a:Nat->Bool)(b d:à->Bool):aj->Bool
 |.ret|eM|dX _|eO _|eP _=>É
 |.seq x y=>oy P a b d x&&oy P a b d y
 |bz c x y=>yk a c&&oy P a b d x&&oy P a b d y
 |dY _ c|eN c|dZ c=>oy P a b d c
 |bQ _ c _=>c.all<|Eh P a b d
 |dq _=>É
 |_=>Ã
def wI[Bq P]{g:Nat->Bool}{k x:à->Bool}(a:GF P x):∀{c:aj},oy P g k x c=É->kQ P (λj=>g j=É) (λf=>k f=É) c
 |.ret,_=> .ou
 |eM,_=> .tL
 |dX l,_=> .ya l
 |eO l,_=> .ye l
 |eP l,_=> .yf l
 |.seq y z,h=>by let⟨f,i⟩:=Ü.1 (show(oy P g k x y&&oy P g k x z)=É from h);exact .sr (wI a f) (wI a i)
 |bz c y z,h=>by let⟨f,i⟩:=Ü.1 (show(yk g c&&oy P g k x y&&oy P g k x z)=É from h);let⟨j,f⟩:=Ü.1 f;exact .uT (KR j) (wI a f) (wI a i)
 |dY id c,h=> .su id (wI a<|show oy P g k x c=É from h)
 |eN c,h=> .yb (wI a<|show oy P g k x c=É from h)
 |dZ c,h=> .yd (wI a<|show oy P g k x c=É from h)
 |bQ id ops d,h=> .uU id d λo f=>by obtain⟨i,j,rfl⟩:=ŉ.1 f;exact KZ a<|Ń.1 (show ops.all (Eh P g k x)=É from h) i j
 |.rangeFunc _ _ _ _,h=>by simp[oy]at h
 |dq w,_=> .ov w
end Go.Proofs.Y.Lift
namespace Go.Proofs.Y.fA
open Go Go.Conc Go.Proofs.Y.Lift
def rn(t:ğ)(g:Nat)(l:dP):Prop:=∀p a,Ě t p=À a->a.loc=l->bD t g p
def pZ(t:ğ)(g:Nat)(l:dP):Prop:=∀p a,Ě t p=À a->a.loc=l->a.write=É->bD t g p
def rn.r{t:ğ}{l:dP}(h:rn t i l):pZ t i l:=λp a b c _=>h p a b c
section
variable{t u:ğ}{g:Nat}{l:dP}
theorem nj{a:dK}(h:Ě (t++u) i=À a):(i<t.size/\Ě t i=À a)\/(t.size<=i/\∃x∈u,x.act.touch?=À a/\(t++u)[i]?=À x):=by
 let⟨x,c,d⟩:=dL h;rcases getElem?_append_cases c with⟨b,e⟩|⟨b,f⟩
 .exact Ç ⟨b,by rwa[touchAt_of e]⟩
 .grind
theorem rn.C(h:rn t g l)(j:∀c∈u,∀b,c.act.touch?=À b->b.loc=l->c.g=g):rn (t++u) g l:=by
 intro p a e f;rcases nj e with⟨_,d⟩|⟨_,c,d,k,i⟩
 .exact(h p a d f).app u
 .have:=bl i;grind
theorem pZ.r(h:pZ t g l)(k:∀c∈u,∀b,c.act.touch?=À b->b.loc=l->b.write=É->c.g=g):pZ (t++u) g l:=by
 intro p a e f i;rcases nj e with⟨_,d⟩|⟨_,c,d,m,j⟩
 .exact(h p a d f i).app u
 .have:=bl j;grind
def rn.wy(h:∀p a,Ě t p=À a->a.loc≠l):rn t g l:=λp a b c=>absurd c<|h p a b
theorem Pn(h:∀c,¬eC c t)(l:∀d∈u,d.g=g)(m:∀d∈u,∀b,d.act.touch?=À b->(b.write=Ã/\pZ t g b.loc)\/rn t g b.loc\/(b.kind=Ŕ/\∀p a,Ě t p=À a->a.loc=b.loc->a.kind=eV->bD t g p)):∀c,¬eC c (t++u):=by
 intro c;refine noRace_append (h c) l λi a f d n b o r=> ?_;let⟨j,v,e,w⟩:=r;rcases m d n b o with⟨s,k⟩|q|⟨s,k⟩
 .rcases e with e|e
  .exact k i a f j e
  .grind
 .exact q i a f j
 .grind
theorem BG(f:∀c,¬eC c t)(r:∀d∈u,d.act.touch?=ë):∀c,¬eC c (t++u):=by
 intro c;rintro⟨i,j,g,⟨a,b,h,k,l⟩,m,n⟩;rcases nj k with⟨s,e⟩|⟨_,d,e,v,_⟩
 .rcases nj h with⟨o,p⟩|⟨o,_⟩
  .exact f c ⟨i,j,g,⟨a,b,p,e,l⟩,λq=>m<|ec u q,λq=>n<|ec u q⟩
  .omega
 .grind
end
structure fe where
 O:Nat->Prop
 I:Nat->Prop
 r:Ú->Prop
 N:Ú->Prop
 K:Ú->Prop
 d:Nat
 q:Prop
 w:Æ
def fe.M(l:fe):Nat->Prop:=λj=>l.O j\/l.I j
def fe.C(l:fe):Ú->Prop:=λa=>l.r a\/l.N a
structure fI(l:fe)(w w₁:Æ):Prop where
 r:w.heap.size<=w₁.heap.size
 I:∀j,l.M j->w₁.heap[j]?=w.heap[j]?
 N:∀a,l.C a->w₁.cell? a=w.cell? a
 Y:∀a,l.C a->w₁.frozen? a=w.frozen? a
 S:∀a,l.K a->(w.cell? a).isSome=É->(w₁.cell? a).isSome=É
theorem fI.fV(l:fe)(w:Æ):fI l w w:=⟨ß _,λ_ _=>rfl,λ_ _=>rfl,λ_ _=>rfl,λ_ _ h=>h⟩
def fI.fj{l:fe}{a c:Æ}(h:fI l a w)(k:fI l w c):fI l a c:= ⟨õ h.r k.r,λj d=>(k.I j d).trans<|h.I j d,λj d=>(k.N j d).trans<|h.N j d,λj d=>(k.Y j d).trans<|h.Y j d,λa e q=>k.S a e<|h.S a e q⟩
def kY(w:Æ)(b:Nat):Option (Nat×Nat):=match w.heap[b]? with
 |some (Č _ _ fr)=>À fr
 |_=>ë
def yl{w':Æ}(h:w'.heap[b]?=w.heap[b]?):kY w' b=kY w b:=by unfold kY;rw[h]
theorem XV(w:Æ)(a:Ú):w.frozen? a=match kY w a.block with
 |some (lo,hi)=>decide (lo<=a.off)&&decide (a.off<hi)
 |none=>Ã:=by
 unfold Ĉ kY;grind
def K0(h:kY u a.block=kY w a.block):u.frozen? a=w.frozen? a:=by rw[XV,XV,h]
def wK(l:fe)(e:ý):Prop:=
 (∃a:Ú,e.loc=û a/\(l.O a.block\/l.r a\/((l.I a.block\/l.N a)/\e.write=Ã/\e.sync=Ã)))\/e.loc=ů c8\/(∃f,e.loc=ů (.extern f))\/e.loc=ů cI\/e.loc=ů dw\/
 ∃a:Ú,l.O a.block/\(e.loc=ů (.read a)\/e.loc=ů (.write a)\/e.loc=ů (Ķ a)\/e.loc=ů (cJ a))
structure mH(l l':fe)(w w':Æ)(es:Array ý):Prop where
 C:w.heap.size<=w'.heap.size
 M:∀j,l'.O j->l.O j\/w.heap.size<=j
 fv:∀j,l'.O j->j<w'.heap.size
 rd:l'.I=l.I
 r:l'.r=l.r
 I:l'.N=l.N
 k:l'.K=l.K
 ki:∀j,j<w.heap.size->¬l.O j->(∀a:Ú,a.block=j->¬l.r a)->w'.heap[j]?=w.heap[j]?
 S:∀a:Ú,a.block<w.heap.size->¬l.O a.block->¬l.r a->w'.cell? a=w.cell? a
 Y:∀a:Ú,a.block<w.heap.size->¬l.O a.block->kY w' a.block=kY w a.block
 c:w'.os=w.os
 f:w'.output=w.output
 i:w'.tape=w.tape
 b:∀e∈es,wK l' e
 g:l'.d=ŭ l.d es
 q:l'.q=l.q
 h:l.q->w'=w/\(∀e∈es,e.mute=É)/\l'.O=l.O
 N:l'.w=w'
structure Po(t:ğ)(g:Nat)(l:fe):Prop where
 fg:∀a:Ú,l.O a.block->rn t g (û a)
 rd:∀a:Ú,l.I a.block->pZ t g (û a)
 C:∀a:Ú,l.r a->rn t g (û a)
 r:∀a:Ú,l.N a->pZ t g (û a)
theorem XW{l:fe}{e:ý}(h:wK l e){b:dK}(c:(è e).touch?=À b):∃a:Ú,b.loc=û a/\(l.O a.block\/l.r a\/((l.I a.block\/l.N a)/\b.write=Ã)):=by
 let⟨j,wr,i⟩:=e;rcases h with⟨a,g,d⟩|h|⟨f,h⟩|h|h|⟨a,g,d⟩
 .simp only at g d;subst g;have:(è ⟨û a,wr,i⟩).touch?=À ⟨û a,wr,if i then Ŕ else eV⟩:=U;grind
 .simp only at h;subst h;simp[è,ÿ]at c
 .simp only at h;subst h;simp[è,ÿ]at c
 .simp only at h;subst h;simp[è,ÿ]at c
 .simp only at h;subst h;simp[è,ÿ]at c
 .simp only at d;rcases d with rfl|rfl|rfl|rfl<;>simp[è,ÿ]at c<;>subst c;all_goals grind
def agO{l:fe}(d:∀j,l.O j->j<i)(k:∀j,l.I j->j<i)(g:∀a:Ú,l.C a->a.block<i){e:ý}(h:wK l e):(è e).low i:=by
 let⟨m,wr,n⟩:=e;rcases h with⟨a,c,b⟩|h|⟨f,h⟩|h|h|⟨a,c,b⟩
 .simp only at c b;subst c;rcases b with h|h|⟨h|h,_⟩
  .exact d _ h
  .exact g _<|Ç h
  .exact k _ h
  .exact g _<|Î h
 .simp only at h;subst h;trivial
 .simp only at h;subst h;trivial
 .simp only at h;subst h;trivial
 .simp only at h;subst h;trivial
 .simp only at b;rcases b with rfl|rfl|rfl|rfl<;>exact d _ c
def XX(B:Nat)(t:ğ):Prop:=∀a∈t,a.act.low B
def XY(h:XX i qJ){a:dK}(g:Ě qJ n=À a){x:Ú}(d:a.loc=û x):x.block<i:=by
 let⟨f,j,b⟩:=dL g;have c:=h f<|Û j;revert b c;cases f.act with
 |access e=>
  intro b c;simp only[ÿ,ž]at b;subst b;simp only at d;simp only[MemAct.low,d,Loc.low]at c;exact c
 |mark m=>
  intro b c;cases m<;>simp[ÿ]at b;all_goals
   subst b;simp only[Loc.cell.injEq]at d;subst d;exact c
 |_=>intro b _;simp[ÿ]at b
theorem oQ{a:String}:∀op∈Í i F a V,op.g=i:=λop b=>by obtain⟨e,_,rfl⟩:=í (op:=op) b;rfl
structure ja(B0:Nat)(Live:Nat->Prop)(Y:Nat->Prop)(lot:Nat->fe)(w:Æ)(t:ğ):Prop where
 o:∀i j,Live i->Live j->i≠j->∀b,(lot i).O b->¬(lot j).M b
 h:∀i j,Live i->Live j->i≠j->∀a,(lot i).r a->¬(lot j).C a
 m:∀i,Live i->∀b,(lot i).O b->¬(lot i).I b
 g:∀i,Live i->∀a,(lot i).r a->¬(lot i).N a
 I:∀i,Live i->∀b,(lot i).M b->¬Y b
 e:∀i,Live i->∀a,(lot i).C a->Y a.block
 fv:∀i,Live i->∀b,(lot i).M b->b<w.heap.size
 N:∀b,Y b->b<w.heap.size
 r:∀i,Live i->fI (lot i) (lot i).w w
 S:∀i,Live i->Po t i (lot i)
 f:∀i,Live i->Τ t i=(lot i).d
 l:∀said,¬eC said t
 q:XX w.heap.size t
 s:∀p a c,Ě t p=À a->a.loc=.obj c->a.kind=eV->c<B0
 n:∀i,Live i->∀a,(lot i).K a->Y a.block/\∀k,Live k->¬(lot k).r a
def gi(lot:Nat->fe)(i:Nat)(l:fe):Nat->fe:=λk=>if k=i then l else lot k
theorem gV(a:Nat->fe)(i:Nat)(l:fe):gi a i l i=l:=if_pos U
theorem gI(a:Nat->fe)(l:fe)(h:k≠i):gi a i l k=a k:=if_neg h
section
variable{B0:Nat}{Live Y:Nat->Prop}{lot:Nat->fe}{w':Æ}{t u:ğ}
def Pp{g:Nat}(a:k≠g)(t:ğ){u:ğ}(b:∀c∈u,c.g=g):Τ (t++u) k=Τ t k:= Deaf_other t (g:=k) (g':=g) (ą a) _ b
def ja.at(h:ja B0 Live Y lot w t)(d:Nat):ja B0 Live Y lot (w.at d) t:= ⟨h.o,h.h,h.m,h.g,h.I,h.e,h.fv,h.N,λi a=>⟨(h.r i a).r,(h.r i a).I,(h.r i a).N,(h.r i a).Y,(h.r i a).S⟩,h.S,h.f,h.l,h.q,h.s,h.n⟩
def ja.agP(h:ja B0 Live Y lot w t)(r:Live i){s:fe}(l:mH (lot i) s w w' V)(E:à)(F:String): ja B0 Live Y (gi lot i s) w' (t++Í i E F V):=by
 have G:=l.M;have Q:∀b,s.M b->(lot i).M b\/w.heap.size<=b:=λb g=>g.elim (λq=>(G b q).imp Ç id) (λq=>Ç<|Î<|by rwa[<-l.rd]);have J:∀a,s.C a↔(lot i).C a:=λa=>by unfold fe.C;rw[l.r,l.I]
 have I:=λk f a d=>h.N _<|h.e k f a d;have L:∀k,Live k->k≠i->∀b,(lot k).M b->¬s.O b:=by
  intro k f y b g c;rcases G b c with q|q
  .exact h.o i k r f (ą y) b q g
  .have:=h.fv k f b g;omega
 have H:∀m∈Í i E F V,∀b,m.act.touch?=À b->∃a:Ú,b.loc=û a/\(s.O a.block\/s.r a\/((s.I a.block\/s.N a)/\b.write=Ã)):=by intro m o b g;obtain⟨e,N,rfl⟩:=í o;exact XW (l.b e N) g
 have T:∀a:Ú,s.O a.block->rn t i (û a):=by
  intro a d;rcases G _ d with q|q
  .exact(h.S i r).fg a q
  .exact .wy λp x P n=>by have:=XY h.q P n;omega
 have D:Po t i s:=⟨T,λa d=>(h.S i r).rd a (by rwa[<-l.rd]),λa d=>(h.S i r).C a (by rwa[<-l.r]),λa d=>(h.S i r).r a<|by rwa[<-l.I]⟩;refine⟨?_,?_,?_,?_,?_,?_,?_,λb g=>Ô (h.N b g) l.C,?_,?_,?_,?_,?_,?_,?_⟩
 .intro k j f u y b g;by_cases c:k=i
  .subst c;rw[gV]at g;rw[gI lot _<|ą y];exact λq=>L j u (ą y) b q g
  .rw[gI lot _ c]at g;by_cases v:j=i
   .subst v;rw[gV];intro q;rcases Q b q with z|z
    .exact h.o k j f u y b g z
    .have:=h.fv k f b<|Ç g;omega
   .rw[gI lot _ v];exact h.o k j f u y b g
 .intro k j f u y a d;by_cases c:k=i
  .subst c;rw[gV,l.r]at d;rw[gI lot _<|ą y];exact h.h k j f u y a d
  .rw[gI lot _ c]at d;by_cases v:j=i
   .subst v;rw[gV,J];exact h.h k j f u y a d
   .rw[gI lot _ v];exact h.h k j f u y a d
 .intro k f b g;by_cases c:k=i
  .subst c;rw[gV]at g|-;rw[l.rd];rcases G b g with z|z
   .exact h.m k f b z
   .intro q;have:=h.fv k f b<|Î q;omega
  .rw[gI lot _ c]at g|-;exact h.m k f b g
 .intro k f a d;by_cases c:k=i
  .subst c;rw[gV]at d|-;rw[l.I];rw[l.r]at d;exact h.g k f a d
  .rw[gI lot _ c]at d|-;exact h.g k f a d
 .intro k f b g;by_cases c:k=i
  .subst c;rw[gV]at g;rcases Q b g with z|z
   .exact h.I k f b z
   .intro y;have:=h.N b y;omega
  .rw[gI lot _ c]at g;exact h.I k f b g
 .intro k f a d;by_cases c:k=i
  .subst c;rw[gV,J]at d;exact h.e k f a d
  .rw[gI lot _ c]at d;exact h.e k f a d
 .intro k f b g;by_cases c:k=i
  .subst c;rw[gV]at g;exact g.elim (l.fv b) λq=>Ô (h.fv k f b<|Î<|by rwa[<-l.rd]) l.C
  .rw[gI lot _ c]at g;exact Ô (h.fv k f b g) l.C
 .intro k f;by_cases c:k=i
  .subst c;rw[gV,l.N];exact fI.fV _ _
  .rw[gI lot _ c];refine(h.r k f).fj ⟨l.C,λb g=>l.ki b (h.fv k f b g) (λq=>h.o i k r f (ą c) b q g) (λa d q=>h.I k f b g<|by rw[<-d];exact h.e i r a<|Ç q),λa d=>l.S a (I k f a d) (λq=>h.I i r _ (Ç q)<|h.e k f a d) λq=>h.h i k r f (ą c) a q d,λa d=>K0 (l.Y a (I k f a d) λq=>h.I i r _ (Ç q)<|h.e k f a d),λa d q=> ?_⟩;let⟨y,v⟩:=h.n k f a d;rwa[l.S a (h.N _ y) (λq=>h.I i r _ (Ç q) y)<|v i r]
 .intro k f;by_cases c:k=i
  .subst c;rw[gV];exact⟨λa d=>(D.fg a d).C λm o _ _ _=>oQ m o,λa d=>(D.rd a d).r λm o _ _ _ _=>oQ m o,λa d=>(D.C a d).C λm o _ _ _=>oQ m o,λa d=>(D.r a d).r λm o _ _ _ _=>oQ m o⟩
  .rw[gI lot _ c];have W:∀a:Ú,(lot k).O a.block->∀m∈Í i E F V,∀b,m.act.touch?=À b->b.loc=û a->False:=by
    intro a d m o b g n;let⟨x,y,v⟩:=H m o b g;rw[y]at n;injection n with n;subst n;rcases v with q|q|⟨q|q,_⟩
    .exact L k f c _ (Ç d) q
    .exact h.I k f _ (Ç d)<|h.e i r x<|Ç<|by rwa[<-l.r]
    .exact h.o k i f r c _ d<|Î<|by rwa[<-l.rd]
    .exact h.I k f _ (Ç d)<|h.e i r x<|Î<|by rwa[<-l.I]
   have X:∀a:Ú,(lot k).I a.block->∀m∈Í i E F V,∀b,m.act.touch?=À b->b.loc=û a->b.write=É->False:=by
    intro a d m o b g n B;let⟨x,y,v⟩:=H m o b g;rw[y]at n;injection n with n;subst n;rcases v with q|q|⟨_,q⟩
    .exact L k f c _ (Î d) q
    .exact h.I k f _ (Î d)<|h.e i r x<|Ç<|by rwa[<-l.r]
    .rw[q]at B;cases B
   have S:∀a:Ú,(lot k).C a->∀m∈Í i E F V,∀b,m.act.touch?=À b->b.loc=û a->(s.I a.block\/s.N a)/\b.write=Ã:=by
    intro a d m o b g n;let⟨x,y,v⟩:=H m o b g;rw[y]at n;injection n with n;subst n;rcases v with q|q|q
    .exfalso;rcases G _ q with z|z
     .exact h.I i r _ (Ç z)<|h.e k f x d
     .have:=I k f x d;omega
    .exact absurd d<|h.h i k r f (ą c) x<|by rwa[<-l.r]
    .exact q
   refine⟨λa d=>((h.S k f).fg a d).C λm o b g n=>(W a d m o b g n).elim,λa d=>((h.S k f).rd a d).r λm o b g n B=>(X a d m o b g n B).elim,λa d=>((h.S k f).C a d).C λm o b g n=> ?_,λa d=>((h.S k f).r a d).r λm o b g n B=> ?_⟩
   .exfalso;obtain⟨q|q,_⟩:=S a (Ç d) m o b g n
    .exact h.I i r _ (Î<|by rwa[<-l.rd])<|h.e k f a<|Ç d
    .exact h.h k i f r c a d<|Î<|by rwa[<-l.I]
   .have:=(S a (Î d) m o b g n).2;rw[this]at B;cases B
 .intro k f;by_cases c:k=i
  .subst c;rw[gV,l.g,Deaf_own,h.f k f]
  .rw[gI lot _ c,Pp c t oQ];exact h.f k f
 .refine Pn h.l oQ λm o b g=> ?_;let⟨a,y,v⟩:=H m o b g;rw[y];rcases v with q|q|⟨q,B⟩
  .exact Î<|Ç<|D.fg a q
  .exact Î<|Ç<|D.C a q
  .exact Ç ⟨B,q.elim (D.rd a)<|D.r a⟩
 .intro m o;rcases Ĝ.1 o with q|q
  .exact MemAct.low_mono l.C<|h.q m q
  .obtain⟨e,N,rfl⟩:=í q;refine agO l.fv (λj u=>Ô (h.fv i r j<|Î<|by rwa[<-l.rd]) l.C) (λa d=> ?_)<|l.b e N;rw[J]at d;exact Ô (I i r a d) l.C
 .intro p a c d n f;rcases nj d with⟨_,y⟩|⟨_,m,y,v,_⟩
  .exact h.s p a c y n f
  .let⟨x,P,_⟩:=H m y a v;rw[P]at n;cases n
 .intro k f a d;have y:∀j,(gi lot i s j).r=(lot j).r:=λj=>by
   by_cases e:j=i
   .subst e;rw[gV,l.r]
   .rw[gI lot _ e]
  have c:(gi lot i s k).K=(lot k).K:=by
   by_cases e:k=i
   .subst e;rw[gV,l.k]
   .rw[gI lot _ e]
  rw[c]at d;exact⟨(h.n k f a d).1,λj u=>by rw[y];exact(h.n k f a d).2 j u⟩
end
def GG(Live Y:Nat->Prop)(d:Nat->fe)(b:dK):Prop:=(∃a:Ú,b.loc=û a/\Y a.block/\∀k,Live k->¬(d k).C a)\/∃c,b.loc=.obj c/\Y c/\b.kind=Ŕ
structure qD(Live Y:Nat->Prop)(lot:Nat->fe)(w w':Æ):Prop where
 r:w'.heap.size=w.heap.size
 ki:∀j,¬Y j->w'.heap[j]?=w.heap[j]?
 M:∀k,Live k->∀a,(lot k).C a->w'.cell? a=w.cell? a
 N:∀k,Live k->∀a,(lot k).C a->w'.frozen? a=w.frozen? a
 I:∀a,(w.cell? a).isSome=É->(w'.cell? a).isSome=É
theorem qD.fV(Live Y:Nat->Prop)(a:Nat->fe)(w:Æ):qD Live Y a w w:=⟨U,λ_ _=>rfl,λ_ _ _ _=>rfl,λ_ _ _ _=>rfl,λ_ h=>h⟩
structure wL(w':Æ)(l l':fe):Prop where
 O:l'.O=l.O
 N:l'.I=l.I
 r:l'.r=l.r
 I:l'.N=l.N
 K:l'.K=l.K
 w:l'.w=l.w\/l'.w=w'
theorem wL.fV(w':Æ)(l:fe):wL w' l l:=⟨U,U,U,U,U,Ç U⟩
def wL.M{w':Æ}{l a:fe}(h:wL w' l a):a.M=l.M:=by unfold fe.M;rw[h.O,h.N]
def wL.C{w':Æ}{l a:fe}(h:wL w' l a):a.C=l.C:=by unfold fe.C;rw[h.r,h.I]
def fI.agQ{l c:fe}(h:wL w l c)(r:fI l u W):fI c u W:= ⟨r.r,by rw[h.M];exact r.I,by rw[h.C];exact r.N,by rw[h.C];exact r.Y,by rw[h.K];exact r.S⟩
section
variable{Live Y:Nat->Prop}{lot o:Nat->fe}{w':Æ}{t u:ğ}
def ja.G(h:ja n Live Y lot w t)(m:∀k,wL w' (lot k)<|o k)(s:qD Live Y lot w w')(B:∀l∈u,∀b,l.act.touch?=À b->GG Live Y lot b)(g:∀l∈u,l.act.low w.heap.size)(E:∀F,¬eC F (t++u))(G:∀k,Live k->Τ (t++u) k=(o k).d):ja n Live Y o w' (t++u) where
 o i j hi v lN b q:=by rw[(m j).M];exact h.o i j hi v lN b<|by rwa[<-(m i).O]
 h i j hi v lN a f:=by rw[(m j).C];exact h.h i j hi v lN a<|by rwa[<-(m i).r]
 m i hi b q:=by rw[(m i).N];exact h.m i hi b<|by rwa[<-(m i).O]
 g i hi a f:=by rw[(m i).I];exact h.g i hi a<|by rwa[<-(m i).r]
 I i hi b q:=h.I i hi b (by rwa[<-(m i).M]);e i hi a f:=h.e i hi a (by rwa[<-(m i).C]);fv i hi b q:=by rw[s.r];exact h.fv i hi b<|by rwa[<-(m i).M]
 N b q:=by rw[s.r];exact h.N b q
 r i hi:=by
  rcases(m i).w with e|e
  .rw[e];refine((h.r i hi).fj ⟨dx s.r.symm,λj v=>s.ki j<|h.I i hi j v,λa f=>s.M i hi a f,λa f=>s.N i hi a f,λa _=>s.I a⟩).agQ<|m i
  .rw[e];exact fI.fV _ _
 S i hi:=by
  have z:∀a:Ú,(lot i).M a.block->∀l∈u,∀b,l.act.touch?=À b->b.loc=û a->False:=by
   intro a f l e b q g;rcases B l e b q with⟨x,r,y,_⟩|⟨c,r,_⟩
   .rw[r]at g;injection g with g;subst g;exact h.I i hi _ f y
   .rw[r]at g;cases g
  have D:∀a:Ú,(lot i).C a->∀l∈u,∀b,l.act.touch?=À b->b.loc=û a->False:=by
   intro a f l e b q g;rcases B l e b q with⟨x,r,_,y⟩|⟨c,r,_⟩
   .rw[r]at g;injection g with g;subst g;exact y i hi f
   .rw[r]at g;cases g
  exact⟨λa f=>((h.S i hi).fg a<|by rwa[<-(m i).O]).C λl e b q g=>(z a (Ç<|by rwa[<-(m i).O]) l e b q g).elim,λa f=>((h.S i hi).rd a<|by rwa[<-(m i).N]).r λl e b q g _=>(z a (Î<|by rwa[<-(m i).N]) l e b q g).elim,λa f=>((h.S i hi).C a<|by rwa[<-(m i).r]).C λl e b q g=>(D a (Ç<|by rwa[<-(m i).r]) l e b q g).elim,λa f=>((h.S i hi).r a<|by rwa[<-(m i).I]).r λl e b q g _=>(D a (Î<|by rwa[<-(m i).I]) l e b q g).elim⟩
 f:=G;l:=E;q l e:=by rw[s.r];exact(Ĝ.1 e).elim (h.q l)<|g l
 s p a c f g z:=by
  rcases nj f with⟨_,r⟩|⟨_,l,r,y,_⟩
  .exact h.s p a c r g z
  .rcases B l r a y with⟨x,D,_⟩|⟨x,_,_,D⟩
   .rw[D]at g;cases g
   .rw[D]at z;cases z
 n i hi a f:=by rw[(m i).K]at f;exact⟨(h.n i hi a f).1,λk z=>by rw[(m k).r];exact(h.n i hi a f).2 k z⟩
end
structure gq(l:fe):Prop where
 c:∀b,l.O b->¬l.I b
 Y:∀a,l.r a->¬l.N a
 S:∀a,l.C a->¬l.M a.block
 fv:∀b,l.M b->b<l.w.heap.size
 I:∀a,l.C a->a.block<l.w.heap.size
 N:∀a,l.K a->¬l.M a.block/\a.block<l.w.heap.size/\¬l.r a
def ja.M{Live Y:Nat->Prop}{c:Nat->fe}(h:ja n Live Y c w qJ)(b:Live i):gq {c i with w:=w} where
 c:=h.m i b;Y:=h.g i b;S a ha hb:=h.I i b _ hb<|h.e i b a ha;fv:=h.fv i b;I a ha:=h.N _<|h.e i b a ha;N a ha:=⟨λq=>h.I i b _ q (h.n i b a ha).1,h.N _ (h.n i b a ha).1,(h.n i b a ha).2 i b⟩
abbrev Jd:=fe->Ó->Prop
inductive fi(P:Õ)(main:Bool)(Stop:Jd):Jd
 |fD {l:fe} {g:Ó} (h:∀w₁,fI l l.w w₁->Stop {l with w:=w₁} g):fi P main Stop l g
 |jL {l:fe} {g:Ó} (G':Æ->Ó) (W':Æ->Æ) (E':Æ->Array ý) (L':Æ->fe) (iJ:g.status=Ð)
  (h:∀w₁,fI l l.w w₁->Ù P main g w₁=aS (G' w₁) (W' w₁) (E' w₁)) (hd:∀w₁,fI l l.w w₁->mH l (L' w₁) w₁ (W' w₁) (E' w₁))
  (ih:∀w₁,fI l l.w w₁->fi P main Stop (L' w₁) (G' w₁)):fi P main Stop l g
instance:Nonempty fe:=⟨⟨λ_=>False,λ_=>False,λ_=>False,λ_=>False,λ_=>False,0,False,default⟩⟩
instance:Nonempty (Goroutine×World×Array Event×fe):=⟨(default,default,#[],Classical.choice inferInstance)⟩
section
variable{main:Bool}{Stop m:Jd}
def fi.mk{l:fe}(i:g.status=Ð) (h:∀a,fI l l.w a->∃b c d e,Ù P main g a=aS b c d/\mH l e a c d/\fi P main Stop e b):fi P main Stop l g:=by
 let p:=λ(a:Æ) (x:Goroutine×World×Array Event×fe)=>Ù P main g a=aS x.1 x.2.1 x.2.2.1/\mH l x.2.2.2 a x.2.1 x.2.2.1/\fi P main Stop x.2.2.2 x.1
 have f:∀a,fI l l.w a->p a (Classical.epsilon<|p a):=λa r=>Classical.epsilon_spec (let⟨b,c,d,e,h⟩:=h a r;⟨(b,c,d,e),h⟩);exact .jL (λa=>(Classical.epsilon<|p a).1) (λa=>(Classical.epsilon<|p a).2.1) (λa=>(Classical.epsilon<|p a).2.2.1) (λa=>(Classical.epsilon<|p a).2.2.2) i (λa r=>(f a r).1) (λa r=>(f a r).2.1) λa r=>(f a r).2.2
def fi.kj{l:fe}{w₁:Æ}(h:fi P main Stop l g)(r:fI l l.w w₁):fi P main Stop {l with w:=w₁} g:=by
 have e:∀{a b:Æ},fI {l with w:=w₁} a b->fI l a b:=λq=>⟨q.r,q.I,q.N,q.Y,q.S⟩;cases h with
 |fD h=>exact .fD λc d=>h c<|r.fj<|e d
 |jL f i j m n h o p=>
  exact .jL f i j m n (λc d=>h c<|r.fj<|e d) (λc d=>let q:=o c<|r.fj<|e d;⟨q.C,q.M,q.fv,q.rd,q.r,q.I,q.k,q.ki,q.S,q.Y,q.c,q.f,q.i,q.b,q.g,q.q,q.h,q.N⟩) λc d=>p c<|r.fj<|e d
def fi.ff(a:∀l g,Stop l g->m l g){l:fe}(h:fi P main Stop l g):fi P main m l g:=by
 induction h with
 |fD h=>exact .fD λb r=>a _ _<|h b r
 |jL b r c d e h f _ i=>exact .jL b r c d e h f i
def fi.fj{l:fe}(h:fi P main (fi P main Stop) l g):fi P main Stop l g:=by
 induction h with
 |fD h=>exact h _<|fI.fV _ _
 |jL a b c d e h f _ i=>exact .jL a b c d e h f i
def fi.ma(a:∀l g,Stop l g->fi P main m l g){l:fe}(h:fi P main Stop l g):fi P main m l g:=(h.ff a).fj
end
inductive gl where
 |fD:gl
 |jL (k:Æ->gl):gl
def XZ(x:gl):gl->Prop
 |.fD=>False
 |.jL k=>∃w,x=k w
def X0:WellFounded XZ:=⟨λa=>by
 induction a with
 |fD=>exact⟨_,λy h=>h.elim⟩
 |jL k b=>exact⟨_,λy ⟨w,h⟩=>h▸b w⟩⟩
def lu(P:Õ)(b:Bool)(c:Jd):gl->Jd
 |.fD,l,g=>∀a,fI l l.w a->c {l with w:=a} g
 |.jL k,l,g=>g.status=Ð/\∀a,fI l l.w a->∃d e f h,Ù P b g a=aS d e f/\mH l h a e f/\lu P b c (k a) h d
section
variable{main:Bool}{Stop:Jd}
theorem jq{l:fe}(h:fi P main Stop l g):∃tr,lu P main Stop tr l g:=by
 induction h with
 |fD h=>exact⟨.fD,h⟩
 |@jL l g G' W' E' L' iJ h hd _ ih=>
  have b:∀a,∃tr,fI l l.w a->lu P main Stop tr (L' a) (G' a):=by
   intro a;by_cases r:fI l l.w a
   .grind
   .exact⟨.fD,λq=>absurd q r⟩
  refine⟨.jL λa=>Classical.choose<|b a,iJ,λa r=>⟨G' a,W' a,E' a,L' a,h a r,hd a r,Classical.choose_spec (b a) r⟩⟩
end
theorem agR{l:fe}{b:Nat->Prop}(d:∀j,X j->l.O j)(f:∀j,b j->l.I j){e:ý}(h:KM X b e):wK l e:=by
 rcases h with⟨a,c,g,i⟩|h|h
 .refine Ç ⟨a,c,?_⟩;grind
 .exact Î<|Ç h
 .exact Î<|Î<|Ç h
theorem agS{b:Nat->Prop}(h:∀e∈V,KM X b e)(d:Nat):ŭ d V=d:=by refine bq (λe c=> ?_) d;rcases h e c with⟨a,g,_⟩|h|⟨f,h⟩;all_goals grind
theorem gK{w':Æ}(h:w'.heap[a.block]?=w.heap[a.block]?):w'.cell? a=w.cell? a:=by unfold Ġ;rw[h]
def uX(h:u.heap[a.block]?=w.heap[a.block]?):u.frozen? a=w.frozen? a:=by unfold Ĉ;rw[h]
def agT{t:(Nat->Prop)->Ó->Æ->Prop}{O:Nat->Prop}(h:wE P yQ X t O g w):∀l:fe,l.w=w->(∀j,O j->l.O j)->(∀j,X j->l.I j)->(∀j,l.O j->j<w.heap.size)->¬l.q-> fi P yQ (λa b=>∃f,t f b a.w/\(∀j,O j->f j)/\(∀j,f j->a.O j)/\(∀j,l.O j->a.O j)/\(∀j,a.O j->l.O j\/f j)/\(∀j,a.O j->l.O j\/w.heap.size<=j)/\a.I=l.I/\a.r=l.r/\a.N=l.N/\a.d=l.d/\a.q=l.q/\a.K=l.K) l g:=by
 induction h with
 |@fD O g w h=>
  intro l e i m _ _;refine .fD λb r=>⟨O,h b ⟨by rw[<-e];exact r.r,λj c=>by rw[r.I j (c.elim (λq=>Ç<|i j q) λq=>Î<|m j q),e]⟩,λ_ q=>q,i,λ_ q=>q,λ_ q=>Ç q,λ_ q=>Ç q,U,U,U,U,U,U⟩
 |@jL O g w G' W' E' f iJ h hd _ ih=>
  intro l e i m C u;refine .mk iJ λb r=> ?_;have n:zR (λj=>O j\/X j) w b:=⟨by rw[<-e];exact r.r,λj c=>by rw[r.I j (c.elim (λq=>Ç<|i j q) λq=>Î<|m j q),e]⟩;have D:=hd b n;have o:=n.r;have v:∀j,(l.O j\/f b j)->j<(W' b).heap.size:=λj c=>c.elim (λq=>Ô (C j q)<|õ o D.r)<|D.fv j;have p:∀j,j<b.heap.size->¬l.O j->(W' b).heap[j]?=b.heap[j]?:=λj c k=>D.ki j c λq=>k<|i j q;refine⟨G' b,W' b,E' b,{l with O:=λj=>l.O j\/f b j,w:=W' b},h b n,⟨D.r,λj c=>c.elim Ç λq=>(D.I j q).imp (i j) id,v,U,U,U,U,λj c k _=>p j c k,λa s k _=>gK<|p _ s k,λa s k=>yl<|p _ s k,D.N,D.S,D.Y,λx E=>agR (l:={l with O:=λj=>l.O j\/f b j,w:=W' b}) (λj q=>Î q) m<|D.C x E,(agS D.C _).symm,U,λq=>absurd q u,U⟩,?_⟩;have:=ih b n {l with O:=λj=>l.O j\/f b j,w:=W' b} U (λj q=>Î q) m v u;apply this.ff;rintro N Q ⟨F,G,B,H,I,J,L,M⟩;refine⟨F,G,λj q=>B j<|D.M j q,H,λj q=>I j<|Ç q,λj q=> ?_,λj q=> ?_,M⟩
  .rcases J j q with(z|z)|z
   .exact Ç z
   .exact Î<|B j z
   .exact Î z
  .rcases L j q with(z|z)|z
   .exact Ç z
   .rcases D.I j z with y|y
    .exact Ç<|i j y
    .exact Î<|õ o y
   .exact Î<|õ (õ o D.r) z
def kG(a:Ú):ý:=⟨û a,Ã,É⟩
def nk(a:Ú):ý:=⟨û a,É,É⟩
def j1(m:Mark):ý:=⟨ů m,Ã,É⟩
def fY:Int:=4294967296
def Ei(c:Nat):Array ý:=#[⟨.obj c,Ã,É⟩,⟨.obj c,É,É⟩]
section
variable(P:Õ)(main:Bool)
def GH(m:Mark)(N:Jd):Jd:=λl g=>g.status=Ð/\∃a,(∀b,Ù P main g b=aS a b #[j1 m])/\fi P main N l a
def X1(a:Ú)(N:Int->Jd):Jd:=λl g=>g.status=Ð/\∀v,∃c,(∀b:Æ,b.cell? a=À (Ć æ v)->Ù P main g b=aS c b #[kG a])/\fi P main (N v) l c
def Pq(a:Ú)(d:Int)(N:Int->Jd):Jd:=λl g=>g.status=Ð/\∀v,∃c,(∀b:Æ,b.cell? a=À (Ć æ v)->b.frozen? a=Ã->Ù P main g b=aS c (b.setCell a<|Ć æ<|æ.wrap<|v+d) #[kG a,nk a])/\N (æ.wrap<|v+d) l c
def agU(a:Ú)(v:Int)(N:Jd):Jd:=λl g=>g.status=Ð/\∃c,(∀(b:Æ) (x:Int),b.cell? a=À (Ć æ x)->b.frozen? a=Ã->Ù P main g b=aS c (b.setCell a<|Ć æ v) #[nk a])/\fi P main N l c
def agV(a:Ú)(N:Jd):Jd:=λl g=>g.status=Ð/\g.offers=ë/\(∀b:Æ,b.cell? a=À (Ć ŗ 0)->Ù P main g b=aS {g with status:=Ů} b #[])/\
 ∃c,(∀(b:Æ) (n:Int),n≠0->b.cell? a=À (Ć ŗ n)->b.frozen? a=Ã->Ù P main g b=aS c (b.setCell a<|Ć ŗ<|n-1) (semEvents a))/\fi P main N l c
def agW(a:Ú)(N:Jd):Jd:=λl g=>g.status=Ð/\mayWake P g=É/\∃c,c.status=Ð/\(∀(b:Æ) (n:Int),b.cell? a=À (Ć ŗ n)->b.frozen? a=Ã->Ù P main g b=aS c (b.setCell a<|Ć ŗ<|ŗ.wrap<|n+1) (semEvents a))/\N l c
def ym(c:Nat)(z:Â)(N:Option Â->Jd):Jd:=λl g=>g.status=Ð/\g.offers=ë/\(∀x,Ù P main g x=.comm g #[θ c z] É (.recv É) x #[])/\
 ∀x:Option Â,fi P main (N x) l {g with frame:=g.frame.finish (ſ #[x.getD z,Ľ x.isSome])}
def BH(c:Nat)(v:Â)(N:Jd):Jd:=λl g=>g.status=Ð/\g.offers=ë/\(∀a,∃b,Ù P main g a=.comm g #[scase c v b] É .send a #[])/\fi P main N l {g with frame:=g.frame.finish ľ}
def K1(c:Nat)(N:Jd):Jd:=λl g=>g.status=Ð/\mayWake P g=É/\∃a,a.status=Ð/\(∀(b:Æ) cap buf s r tm,b.heap[c]?=À (χ cap buf Ã s r tm)->Ù P main g b=aS a (b.setChan c cap buf É s r tm) (Ei c))/\fi P main N l a
def p8(n:Nat):Jd:=λl g=>QuitsD P n l.d g
inductive SP where
 |gX (n:Nat)
 |ld (v:Int) (m:Nat)
def Ej(a:Ú)(B:Nat)(d e:Int->Jd)(p:SP):Jd:=λl g=>∃T:SP->Ó->Prop,T p g/\∀p g,T p g->g.status=Ð/\match p with
 |.gX (n+1)=>n+1<=B/\(T (.gX 0) g\/∀b,∃c,Ù P main g b=aS c b #[]/\T (.gX n) c)
 |.gX 0=>∀v,∃c,(∀b:Æ,b.cell? a=À (Ć æ v)->Ù P main g b=aS c b #[kG a])/\(if 0<=v/\v<fY then v<1000000->fi P main (d v) l c else(fY<=v/\v<fY*2147483648/\v%fY<1000000)->∃m,m<=B/\T (.ld v m) c)
 |.ld v (m+1)=>fY<=v/\m+1<=B/\(T (.ld v 0) g\/∀b,∃c,Ù P main g b=aS c b #[]/\T (.ld v m) c)
 |.ld v 0=>fY<=v/\(∃c,(∀b:Æ,b.cell? a=À (Ć æ v)->b.frozen? a=Ã->Ù P main g b=aS c (b.setCell a<|Ć æ<|æ.wrap<|v+1) #[kG a,nk a])/\fi P main (e v) l c)/\
  ∃c,(∀(b:Æ) (x:Int),x≠v->b.cell? a=À (Ć æ x)->b.frozen? a=Ã->Ù P main g b=aS c b #[kG a])/\∃n,n<=B/\T (.gX n) c
end
section
variable{P:Õ}{main:Bool}
def K2{e f:Int->Jd}{p:SP}{l:fe}{w₁:Æ}(h:Ej P main a i e f p l g)(r:fI l l.w w₁):Ej P main a i e f p {l with w:=w₁} g:=by
 let⟨T,o,h⟩:=h;refine⟨T,o,λp g j=>⟨(h p g j).1,?_⟩⟩;have:=(h p g j).2;match p,this with
 |.gX (n+1),q=>exact q
 |.gX 0,q=>
  intro v;let⟨c,d,b⟩:=q v;refine⟨c,d,?_⟩;by_cases k:0<=v/\v<fY
  .rw[if_pos k]at b|-;exact λq=>(b q).kj r
  .rw[if_neg k]at b|-;exact b
 |.ld v (m+1),q=>exact q
 |.ld v 0,⟨q0,⟨c,d,b⟩,q⟩=>exact⟨q0,⟨c,d,b.kj r⟩,q⟩
end
inductive iD where
 |no|iE|tR (c:Nat) (z:Â)
inductive yn(g0:Ó):iD->Ó->Prop
 |gO {k:iD}:yn g0 k g0
 |oR (h:g0.status=Ð) (ho:g0.offers=ë):yn g0 .iE {g0 with status:=Ů}
 |uY (c:Nat) (z:Â) (h:g0.status=Ð):yn g0 (.tR c z) (Γ g0 #[θ c z]<|.recv É)
 |nK (c:Nat) (z:Â) (h:g0.status=Ð):yn g0 (.tR c z) {Γ g0 #[θ c z] (.recv É)with status:=Ð}
section
variable{P:Õ}
theorem agX(h:g.status=Ð\/g.status=Ğ)(w:Æ):g.again w=g:=by unfold ι;grind
theorem Pt{a o:Ó}(h:o.status=Ð\/o.status=Ğ):ţ P g a w o=o:=by unfold ţ;grind [agX]
def yn.GI{g0 a b:Ó}{k:iD}(h:yn g0 k g)(d:g0.status=Ð\/g0.status=Ğ):yn g0 k (ţ P a b w g):=by
 cases h with
 |gO=>rw[Pt d];exact .gO
 |oR h c=>
  unfold ţ;split
  .have:ι w {g0 with status:=Ů}=g0:=by
    let⟨z,e,st,f,i⟩:=g0;simp only at h c;subst h c;rfl
   rw[this];exact .gO
  .exact .oR h c
 |uY c z h=>
  unfold ţ;split
  .unfold ι Γ;simp only[];split
   .exact .nK c z h
   .exact .uY c z h
  .exact .uY c z h
 |nK c z h=>
  rw[Pt<|Ç U];exact .nK c z h
end
structure gM(P:Õ)(B0:Nat)(Y:Nat->Prop)(S:Nat->Jd)(tr:Nat->gl)(kp:Nat->iD)(lot:Nat->fe)(gs:Array Ó)(w:Æ)(t:ğ):Prop where
 r:ja B0 (λi=>i<gs.size) Y lot w t
 C:∀i g,gs[i]?=À g->∃g0,lu P (i==0) (S i) (tr i) (lot i) g0/\yn g0 (kp i) g/\(g0.status=Ð\/g0.status=Ğ)/\(g=g0\/tr i=.fD)
 I:∀j,gs.size<=j->Τ t j=0
def fB{α:Type}(f:Nat->α)(i:Nat)(x:α):Nat->α:=λk=>if k=i then x else f k
theorem gD{α:Type}(f:Nat->α)(i:Nat)(x:α):fB f i x i=x:=if_pos U
theorem fK{α:Type}(f:Nat->α)(x:α)(h:k≠i):fB f i x k=f k:=if_neg h
section
variable{P:Õ}{B0:Nat}{Y:Nat->Prop}{S:Nat->Jd}{tr:Nat->gl}{kp:Nat->iD}{lot:Nat->fe}{gs:Array Ó}{w':Æ}{t:ğ}{sl:Option (Nat×Nat)}
theorem Pu{a:Ó}(b:gs[i]?=À g)(h:Ù P (i==0) g w=aS a w' V): ∃gs',cU P (ķ gs w sl) i=(ň<|ķ gs' w' sl,Í i g.frame.fn g.frame.place V)/\gs'.size=gs.size/\gs'[i]?=À a/\∀k,k≠i->gs'[k]?=gs[k]?.map (ţ P g a w'):=by refine⟨_,runT_crowd_go b h,fp,by simp[(Ë.1 b).1],λk c=> ?_⟩;grind
def gM.at(a:gM P B0 Y S tr kp lot gs w t)(d:Nat):gM P B0 Y S tr kp lot gs (w.at d) t:=⟨a.r.at d,a.C,a.I⟩
theorem gM.X2(f:gM P B0 Y S tr kp lot gs w t){a:Ó}{J:Jd}{T:gl}{K:iD}{d:fe}(h:gs[i]?=À g)(o:Ù P (i==0) g w=aS a w' V) (B:ja B0 (λi=>i<gs.size) Y (gi lot i d) w' (t++Í i g.frame.fn g.frame.place V)) (hF:lu P (i==0) J T d a) (p:a.status=Ð\/a.status=Ğ): ∃b,cU P (ķ gs w sl) i=(ň<|ķ b w' sl,Í i g.frame.fn g.frame.place V)/\b.size=gs.size/\b[i]?=À a/\(∀k,k≠i->b[k]?=gs[k]?.map (ţ P g a w'))/\ gM P B0 Y (fB S i J) (fB tr i T) (fB kp i K) (gi lot i d) b w' (t++Í i g.frame.fn g.frame.place V):=by
 obtain⟨b,q,r,l,m⟩:=Pu h o;have C:=(Ë.1 h).1;refine⟨b,q,r,l,m,?_,λk x c=> ?_,λj D=> ?_⟩
 .grind
 .by_cases e:k=i
  .subst e;rw[l]at c;obtain rfl:=Ĥ c;rw[gD,gD,gD,gV];exact⟨a,hF,.gO,p,Ç U⟩
  .rw[m k e]at c;obtain⟨y,s,rfl⟩:=ģ.1 c;rw[fK S _ e,fK tr _ e,fK kp _ e,gI lot _ e];let⟨g0,u,v,n,z⟩:=f.C k y s;refine⟨g0,u,v.GI n,n,z.imp (λe=> ?_) id⟩;grind [Pt]
 .rw[Pp Z t oQ];exact f.I j Z
theorem agY{J:Jd}{k:Æ->gl}{l:fe}(h:lu P yQ J (.jL k) l g):g.status=Ð:=h.1
def gM.fg(f:gM P B0 Y S tr kp lot gs w t){k:Æ->gl}(m:gs[i]?=À g)(n:tr i=.jL k)(s:∀l g,S i l g->g.status=Ð\/g.status=Ğ): ∃c w' d h,cU P (ķ gs w sl) i=(ň<|ķ c w' sl,Í i g.frame.fn g.frame.place d)/\c.size=gs.size/\(∃b,c[i]?=À b/\(b.status=Ð\/b.status=Ğ))/\(∀k,k≠i->∃a j:Ó,c[k]?=gs[k]?.map (ţ P a j w'))/\mH (lot i) h w w' d/\ gM P B0 Y S (fB tr i<|k w) kp (gi lot i h) c w' (t++Í i g.frame.fn g.frame.place d):=by
 have o:=(Ë.1 m).1;let⟨g0,hF,F,_,u⟩:=f.C i g m;obtain rfl:g=g0:=u.resolve_right (by rw[n];simp);rw[n]at hF;let⟨G,hF⟩:=hF;let⟨b,w',d,h,v,p,e⟩:=hF w<|f.r.r i o;have q:b.status=Ð\/b.status=Ğ:=by
  cases j:k w with
  |fD=>rw[j]at e;exact s _ _<|e _<|fI.fV _ _
  |jL r=>rw[j]at e;exact Ç e.1
 obtain⟨c,x,y,z,B,r⟩:=f.X2 m v (f.r.agP o p _ _) e q;refine⟨c,w',d,h,x,y,⟨b,z,q⟩,λj C=>⟨g,b,B j C⟩,p,?_⟩;have D:fB S i (S i)=S:=by funext j;unfold fB;split<;>simp[*]
 have E:fB kp i (kp i)=kp:=by funext j;unfold fB;split<;>simp[*]
 rwa[D,E]at r
theorem gM.rp(c:gM P B0 Y S tr kp lot gs w t){a:Ó}{J:Jd}{K:iD}{T:gl}(l:gs[i]?=À g)(m:Ù P (i==0) g w=aS a w' V)(n:qD (λi=>i<gs.size) Y lot w w') (hF:lu P (i==0) J T {lot i with d:=ŭ (lot i).d V,w:=w'} a) (o:a.status=Ð\/a.status=Ğ) (p:∀e∈V,(∀b,(è e).touch?=À b->GG (λi=>i<gs.size) Y lot b)/\(è e).low w.heap.size) (q:∀r,¬eC r (t++Í i g.frame.fn g.frame.place V)): ∃gs',cU P (ķ gs w sl) i=(ň<|ķ gs' w' sl,Í i g.frame.fn g.frame.place V)/\gs'.size=gs.size/\gs'[i]?=À a/\(∀k,k≠i->gs'[k]?=gs[k]?.map (ţ P g a w'))/\ gM P B0 Y (fB S i J) (fB tr i T) (fB kp i K) (gi lot i {lot i with d:=ŭ (lot i).d V,w:=w'}) gs' w' (t++Í i g.frame.fn g.frame.place V):=by
 refine c.X2 l m (c.r.G (λk=> ?_) n (λh f b j=> ?_) (λh f=> ?_) q λk h=> ?_) hF o
 .by_cases e:k=i
  .subst e;rw[gV];exact⟨U,U,U,U,U,Î U⟩
  .grind [gI,wL.fV]
 .obtain⟨e,j,rfl⟩:=í f;grind
 .obtain⟨e,j,rfl⟩:=í f;exact(p e j).2
 .by_cases e:k=i
  .subst e;rw[gV,Deaf_own,c.r.f k h]
  .rw[gI lot _ e,Pp e t oQ];exact c.r.f k h
def gM.Pv(h:gM P B0 Y S tr kp lot gs w t)(p:gs[i]?=À g)(x:i≠0)(l:g.status=Ð)(q:kp i=.no)(y:tr i=.fD)(z:S i=p8 P n): ∃c f b,n=b+1/\cU P (ķ gs w sl) i=(ň<|ķ c w sl,Í i g.frame.fn g.frame.place f)/\c.size=gs.size/\(∀k,k≠i->∃a e:Ó,c[k]?=gs[k]?.map (ţ P a e w))/\(∀e∈f,e.mute=É)/\ gM P B0 Y (fB S i<|p8 P b) tr kp (gi lot i {lot i with d:=ŭ (lot i).d f,w:=w}) c w (t++Í i g.frame.fn g.frame.place f):=by
 let⟨g0,hF,r,L,_⟩:=h.C i g p;have B:g=g0:=by
  rw[q]at r;cases r with
  |gO=>rfl
 subst B;rw[y,z]at hF;have s:=hF w<|h.r.r i<|(Ë.1 p).1;cases n with
 |zero=>rw[s.1]at l;cases l
 |succ n=>
  rcases s with⟨C,_⟩|⟨_,D,f,a,E,u⟩
  .rw[C]at l;cases l
  have m:(i==0)=Ã:=by simpa using x
  have F:fB kp i .no=kp:=by funext j;unfold fB;split<;>simp[*]
  have G:fB tr i .fD=tr:=by funext j;unfold fB;split<;>simp[*]
  obtain⟨c,H,I,_,K,v⟩:=h.rp (J:=p8 P n) (T:=.fD) p (by rw[m];exact E w) (qD.fV _ _ _ _) (λ_ _=>u) u.status (λe o=>⟨λb m=>(by rw[ef<|a e o]at m;cases m),low_mute (a e o) _⟩) (BG h.r.l λM b=>by obtain⟨e,o,rfl⟩:=í b;exact ef<|a e o);rw[F,G]at v;exact⟨c,f,n,U,H,I,λk q=>⟨g,D,K k q⟩,a,v⟩
end
def yo(u:ğ):Prop:=∀a∈u,a.act.touch?=ë/\∀m,a.act≠Ř m
theorem agZ(t:ğ)(a:cV)(b:a.act≠Ř cI)(c:a.act≠Ř dw)(j:Nat):Τ (t.push a) j=Τ t j:=by
 have d:t.push a=t++#[a]:=fp
 unfold Τ;rw[d,show(t++#[a]).size=t.size+1 by simp];show(match(t++#[a])[t.size]? with
  |some {g:=h,act:=Ř cI, .. }=>if h=j then(t++#[a]).deaf j t.size+1 else(t++#[a]).deaf j t.size
  |some {g:=h,act:=Ř dw, .. }=>if h=j then(t++#[a]).deaf j t.size-1 else(t++#[a]).deaf j t.size
  |_=>(t++#[a]).deaf j t.size)=_
 have e:(t++#[a])[t.size]?=À a:=fp
 rw[e];let⟨g,f,i,k⟩:=a;simp only at b c;split
 .grind
 .grind
 .exact cL<|ß _
def X3(t:ğ):∀(u:List cV),(∀a∈u,a.act≠Ř cI/\a.act≠Ř dw)->∀j,Τ (t++u.toArray) j=Τ t j
 |[],_,j=>by simp
 |a::u,h,j=>by
  have e:t++(a::u).toArray=(t.push a)++u.toArray:=by apply Array.ext';simp
  rw[e,X3 (t.push a) u (λx b=>h x<|by simp[b]) j];exact agZ t a (h a fp).1 (h a fp).2 j
def K3{u:ğ}(h:yo u)(j:Nat):Τ (qJ++u) j=Τ qJ j:=by have:=X3 qJ u.toList (λa b=>⟨(h a<|by simpa using b).2 _,(h a<|by simpa using b).2 _⟩) j;simpa using this
section
variable{S:Nat->Jd}{C:Nat->gl}{B:Nat->iD}{lot:Nat->fe}{u:ğ}{sl:Option (Nat×Nat)}
def ja.ag0{Live:Nat->Prop}(h:ja i Live X lot w qJ)(f:qD Live X lot w W)(c:yo u)(g:∀a∈u,a.act.low w.heap.size):ja i Live X lot W (qJ++u):= h.G (λk=>wL.fV _ _) f (λa d b e=>by rw[(c a d).1]at e;cases e) g (BG h.l λa d=>(c a d).1) λk b=>by rw[K3 c];exact h.f k b
def K4{Live:Nat->Prop}{r:Nat}{x:Bool}(y:X i)(p:w.heap[i]?=À (χ n d yQ j r x))(f g h:Nat)(l:Array Â)(m o:Bool):qD Live X lot w (w.setChan i f l m g h o):=by
 have q:∀b,b≠i->(w.setChan i f l m g h o).heap[b]?=w.heap[b]?:=λb u=>by unfold ar;simp only;exact Ï<|ą u
 have v:(w.setChan i f l m g h o).heap[i]?=À (χ f l m g h o):=by unfold ar;simp[(Ë.1 p).1]
 refine⟨by unfold ar;simp,λb u=>q b λe=>u<|e▸y,λk _ a _=> ?_,λk _ a _=> ?_,λa t=> ?_⟩
 .by_cases e:a.block=i
  .unfold Ġ;rw[e,v,p]
  .unfold Ġ;rw[q _ e]
 .by_cases e:a.block=i
  .unfold Ĉ;rw[e,v,p]
  .unfold Ĉ;rw[q _ e]
 .by_cases e:a.block=i
  .unfold Ġ at t;rw[e,p]at t;cases t
  .have:(w.setChan i f l m g h o).cell? a=w.cell? a:=by unfold Ġ;rw[q _ e]
   rwa[this]
def gM.G(b:gM P i X S C B lot E w qJ){J:Jd}{T:gl}{K:iD}(d:n<E.size)(f:qD (λn=>n<E.size) X lot w W)(c:yo u)(h:∀l∈u,l.act.low w.heap.size) (hF:lu P (n==0) J T (lot n) g) (m:g.status=Ð\/g.status=Ğ): gM P i X (fB S n J) (fB C n T) (fB B n K) lot (E.setIfInBounds n g) W (qJ++u):=by
 refine⟨?_,λk x a=> ?_,λj o=> ?_⟩
 .rw[show(λj=>j<(E.setIfInBounds n g).size)=(λj=>j<E.size) by simp];exact b.r.ag0 f c h
 .by_cases e:k=n
  .subst e;rw[Ò d]at a;obtain rfl:=Ĥ a;rw[gD,gD,gD];exact⟨_,hF,.gO,m,Ç U⟩
  .rw[Ï<|ą e]at a;rw[fK S _ e,fK C _ e,fK B _ e];exact b.C k x a
 .rw[K3 c];exact b.I j<|by simpa using o
def Px{γ δ:Type}{f:γ->List δ}:∀{l:List γ},(∀x∈l,f x=[])->l.flatMap f=[]
 |[],_=>rfl
 |x::l,h=>by rw[aV,h x fp,Px λy a=>h y (by simp[a])];rfl
def zY(r:Nat)(b:Bool)(g:Ó):Prop:=g.status=Ů/\∃a d,g.offers=À (a,d)/\∃c∈a,(c.send.isSome==b)=É/\(match c.chan with|eh (À r')=>r'==r|_=>Ã)=É
theorem X4{r:Nat}{E:Array Ó}(h:∀(i:Nat) (g:Ó),E[i]?=À g->¬zY r yQ g):Η E r yQ=[]:=by
 unfold Η;refine Px λx m=> ?_;let⟨g,i⟩:=x;have d:E[i]?=À g:=by grind
 simp only[];split
 .rename_i b e f j;rw[ai,Υ];intro y n a;let⟨c,k⟩:=y;have l:c∈b:=by
   grind
  simp only[ě]at a;exact h i g d ⟨f,b,e,j,c,l,a.1,by have:=a.2;revert this;cases c.chan<;>first|exact id|(rename_i q;cases q<;>exact id)⟩
 .rfl
def X5{γ δ:Type}(f:γ×Nat->List δ):∀(L:List γ) (n h:Nat) (x:γ),(∀y k,k≠h->(y,k)∈L.zipIdx n->f (y,k)=[])->n<=h->L[h-n]?=À x->(L.zipIdx n).flatMap f=f (x,h)
 |[],n,h,x,_,_,hx=>by simp at hx
 |a::L,n,h,x,hf,hn,hx=>by
  rw[Ĭ,aV];by_cases e:h=n
  .subst e;have:a=x:=by simpa using hx
   subst this;rw[Px ?_,List.append_nil];intro y b;let⟨y,k⟩:=y;refine hf y k ?_ (by rw[Ĭ];exact ò _ b);have:=List.le_snd_of_mem_zipIdx b;simp only at this;omega
  .rw[hf a n Z (by rw[Ĭ];exact î ..),List.nil_append];refine X5 f L (n+1) h x (λy k c b=>hf y k c<|by rw[Ĭ];exact ò _ b) Z ?_;have b:h-n=(h-(n+1))+1:=Z
   rw[b]at hx;simpa using hx
theorem ag1{E:Array Ó}(l:E[n]?=À g)(m:g.status=Ů)(o:g.offers=À (#[θ i z],.recv É))(p:∀(a:Nat) (b:Ó),a≠n->E[a]?=À b->¬zY i Ã b):Η E i Ã=[(n,0)]:=by
 unfold Η;have e:E.zipIdx.toList=E.toList.zipIdx:=fp
 rw[e];rw[X5 _ E.toList 0 n g (λy k r B=> ?_) (dy _) (by simpa using l)]
 .simp[m,o,θ]
 .have s:E[k]?=À y:=by
   grind
  simp only[];split
  .rename_i j t u v;rw[ai,Υ];intro x C d;let⟨f,D⟩:=x;have w:f∈j:=by
    grind
   simp only[ě]at d;exact p k y r s ⟨u,j,t,v,f,w,d.1,by have:=d.2;revert this;cases f.chan<;>first|exact id|(rename_i q;cases q<;>exact id)⟩
  .rfl
theorem Py(h:(E.setIfInBounds i ph)[k]?=À g):g.status=Ğ\/(k≠i/\E[k]?=À g):=by
 by_cases e:k=i
 .subst e;rw[Ś]at h;simp only[if_true]at h;split at h
  .left;obtain rfl:=Ĥ h;rfl
  .cases h
 .grind
theorem gM.Pz(l:gM P i X S C B lot E w qJ)(c a:Nat):Η (E.setIfInBounds a ph) c É=[]:=by
 refine X4 λk x m=> ?_;rintro⟨d,p,r,b,n,f,o,_⟩;rcases Py m with q|⟨_,q⟩
 .grind
 .let⟨g0,_,g,j,_⟩:=l.C k x q;generalize B k=K at g;cases g with
  |gO=>rw[d]at j;rcases j with e|e<;>cases e
  |oR h e=>simp only[e]at b;cases b
  |uY e z h=>
   simp only[Γ,ž,Prod.mk.injEq]at b;rw[<-b.1]at f;have:n=θ e z:=by simpa using f
   subst this;cases o
  |nK e z h=>cases d
def gM.PE(e:gM P i X S C B lot E w qJ){N:Option Â->Jd}(f:E[n]?=À g)(k:g.status=Ð)(l:B n=.tR j z)(m:C n=.fD)(o:S n=ym P (n==0) j z N): ∃a,lu P (n==0) (S n) (C n) (lot n) a/\a.status=Ð/\a.offers=ë/\Ù P (n==0) g w=.comm a #[θ j z] É (.recv É) w #[]/\∀x:Option Â,fi P (n==0) (N x) (lot n) {a with frame:=a.frame.finish (ſ #[x.getD z,Ľ x.isSome])}:=by
 let⟨a,hF,b,_,_⟩:=e.C n g f;have p:=hF;rw[o,m]at hF;let⟨x,q,d,r⟩:=hF _<|fI.fV _ _;rw[l]at b;refine⟨a,p,x,q,?_,r⟩;cases b with
 |gO=>exact d w
 |uY j z h=>cases k
 |nK j z h=>rw[stepG_tries];rw[show({a with status:=Ð}:Ó)=a by cases a;simp only at x;subst x;rfl];exact d w
def zZ{g0:Ó}{a:Array CommCase}{b:CommShape}{ok:Bool}(c:g0.status=Ð)(d:g0.offers=ë):g0.finishComm P a b h v ok={g0 with frame:=g0.frame.finish (commResult a b h v ok)}:=by let⟨f,a,st,e,o⟩:=g0;simp only at c d;subst c d;rfl
def gM.nL(e:gM P i X S C B lot E w qJ){N:Option Â->Jd}(h:E[n]?=À g)(G:g.status=Ð)(l:B n=.tR j z)(H:C n=.fD)(I:S n=ym P (n==0) j z N)(p:X j){r:Nat}{o:Bool}(q:w.heap[j]?=À (χ b d yQ m r o))(t:d[0]?=À v)(K:iD): ∃a u T f,cU P (ķ E w sl) n=(ň<|ķ a (w.setChan j b (d.extract 1 d.size) yQ m (r+1) o) sl,u)/\a.size=E.size/\a[n]?=À f/\f.status=Ð/\(∀k,k≠n->a[k]?=E[k]?)/\yo u/\ gM P i X (fB S n<|N<|À v) (fB C n T) (fB B n K) lot a (w.setChan j b (d.extract 1 d.size) yQ m (r+1) o) (qJ++u):=by
 have x:=(Ë.1 h).1;let⟨g0,_,f,y,J,L⟩:=e.PE h G l H I;have D:d.getD 0 ľ=v:=by simp[ĩ,t]
 have M:=crowd_recv_buf (sl:=sl) h J q ((Ë.1 t).1)<|e.Pz j n;let⟨T,O⟩:=jq<|L<|À v;refine⟨_,_,T,{g0 with frame:=g0.frame.finish (ſ #[v,Ľ É])},M,fp,?_,f,λk l=>Ï<|ą l,?_,?_⟩
 .rw[zZ f y,D,Ò x];rfl
 .intro F a;simp[Í]at a;rcases a with rfl|rfl<;>exact⟨U,fp⟩
 .rw[zZ f y,D];refine e.G x (K4 p q _ _ _ _ _ _) ?_ ?_ O<|Ç f
  .intro F a;simp[Í]at a;rcases a with rfl|rfl<;>exact⟨U,fp⟩
  .intro F a;simp[Í]at a;rcases a with rfl|rfl<;>exact e.r.N j p
def gM.jj(e:gM P i X S C B lot E w qJ){N:Option Â->Jd}(h:E[n]?=À g)(q:g.status=Ð)(l:B n=.tR j z)(t:C n=.fD)(v:S n=ym P (n==0) j z N)(x:X j){r:Nat}(y:w.heap[j]?=À (χ b #[] É k r yQ))(K:iD): ∃d u T f,cU P (ķ E w sl) n=(ň<|ķ d w sl,u)/\d.size=E.size/\d[n]?=À f/\f.status=Ð/\(∀a,a≠n->d[a]?=E[a]?)/\yo u/\ gM P i X (fB S n<|N ë) (fB C n T) (fB B n K) lot d w (qJ++u):=by
 have m:=(Ë.1 h).1;let⟨g0,_,f,o,D,F⟩:=e.PE h q l t v;let⟨T,G⟩:=jq<|F ë;refine⟨_,_,T,{g0 with frame:=g0.frame.finish (ſ #[z,Ľ Ã])},crowd_recv_closed (sl:=sl) h D y<|e.Pz j n,fp,?_,f,λa l=>Ï<|ą l,?_,?_⟩
 .rw[zZ f o,Ò m];rfl
 .intro p d;simp[Í]at d;subst d;exact⟨U,fp⟩
 .rw[zZ f o];refine e.G m (qD.fV _ _ _ _) ?_ ?_ G<|Ç f
  .intro p d;simp[Í]at d;subst d;exact⟨U,fp⟩
  .intro p d;simp[Í]at d;subst d;exact e.r.N j x
def gM.ag2(f:gM P i X S C B lot E w qJ){N:Option Â->Jd}(m:E[n]?=À g)(u:g.status=Ð)(h:B n=.tR j z)(o:C n=.fD)(v:S n=ym P (n==0) j z N){r:Nat}(p:w.heap[j]?=À (χ b #[] Ã k r yQ)): ∃d e,cU P (ķ E w sl) n=(ň<|ķ d w sl,#[])/\d.size=E.size/\d[n]?=À e/\e.status=Ů/\(∀a,a≠n->d[a]?=E[a]?)/\gM P i X S C B lot d w qJ:=by
 have q:=(Ë.1 m).1;let⟨g0,hF,t,G,y,H⟩:=f.PE m u h o v;have D:=crowd_waits (sl:=sl) m y (λd e=>by
  have:d=θ j z:=by simpa using e
  subst this;exact⟨by simp[illMade,θ,p],by simp[ways,θ,p,f.Pz j n]⟩)
 refine⟨_,Γ g0 #[θ j z]<|.recv É,?_,fp,Ò q,U,λa h=>Ï<|ą h,?_,λa x l=> ?_,λd F=>f.I d<|by simpa using F⟩
 .rw[D];rfl
 .rw[show(λd=>d<(E.setIfInBounds n<|Γ g0 #[θ j z]<|.recv É).size)=(λd=>d<E.size) by simp];exact f.r
 .by_cases e:a=n
  .subst e;rw[Ò q]at l;obtain rfl:=Ĥ l;refine⟨g0,hF,?_,Ç t,Î o⟩;rw[h];exact .uY j z t
  .rw[Ï<|ą e]at l;exact f.C a x l
def gM.iQ(f:gM P i X S C B lot E w qJ){N:Jd}(h:E[n]?=À g)(l:B n=.no)(F:C n=.fD)(G:S n=BH P (n==0) b v N)(p:X b){r:Nat}(t:w.heap[b]?=À (χ m d Ã J r yQ))(H:d.size<m) (I:∀(k:Nat) (x:Ó),E[k]?=À x->¬zY b Ã x): ∃e u T a,cU P (ķ E w sl) n=(ň<|ķ e (w.setChan b m (d.push v) Ã (J+1) r yQ) sl,u)/\e.size=E.size/\e[n]?=À a/\a.status=Ð/\(∀k,k≠n->e[k]?=E[k]?)/\yo u/\ gM P i X (fB S n N) (fB C n T) B lot e (w.setChan b m (d.push v) Ã (J+1) r yQ) (qJ++u):=by
 have y:=(Ë.1 h).1;let⟨g0,hF,z,_,_⟩:=f.C n g h;rw[l]at z;cases z with
 |gO=>
  rw[G,F]at hF;let⟨a,D,o,K⟩:=hF _<|fI.fV _ _;let⟨V,o⟩:=o w;have L:Η (E.setIfInBounds n ph) b Ã=[]:=X4 λk x M=>by
   rcases Py M with q|⟨_,q⟩
   .rintro⟨e,_⟩;rw[q]at e;cases e
   .exact I k x q
  let⟨T,O⟩:=jq K;have Q:fB B n .no=B:=by funext j;unfold fB;split<;>simp[*]
  refine⟨_,_,T,{g with frame:=g.frame.finish ľ},crowd_send_room (sl:=sl) h o t H L,fp,?_,a,λk l=>Ï<|ą l,?_,?_⟩
  .rw[zZ a D,Ò y];rfl
  .intro q e;simp[Í]at e;rcases e with rfl|rfl<;>exact⟨U,fp⟩
  .rw[zZ a D,<-Q];refine f.G y (K4 p t _ _ _ _ _ _) ?_ ?_ O<|Ç a
   .intro q e;simp[Í]at e;rcases e with rfl|rfl<;>exact⟨U,fp⟩
   .intro q e;simp[Í]at e;rcases e with rfl|rfl<;>exact f.r.N b p
def gM.ag3(o:gM P i X S C B lot E w qJ){p:Ó}{N:Jd}{D:Option Â->Jd}(F:E[n]?=À g)(f:B n=.no)(ht:C n=.fD)(hs:S n=BH P (n==0) b v N)(L:X b){r:Nat}(M:w.heap[b]?=À (χ J d Ã j9 r yQ)) (G:j≠n) (t:E[j]?=À p) (O:p.status=Ů) (K5:B j=.tR b z) (PF:C j=.fD) (K6:S j=ym P (j==0) b z D) (K:iD) (hp:∀(k:Nat) (x:Ó),k≠j->E[k]?=À x->¬zY b Ã x): ∃e u T y h q,cU P (ķ E w sl) n=(ň<|ķ e (w.setChan b J d Ã (j9+1) (r+1) yQ) sl,u)/\e.size=E.size/\e[n]?=À h/\h.status=Ð/\e[j]?=À q/\q.status=Ð/\(∀k,k≠n->k≠j->e[k]?=E[k]?)/\yo u/\ gM P i X (fB (fB S j<|D<|À v) n N) (fB (fB C j y) n T) (fB (fB B j K) n .no) lot e (w.setChan b J d Ã (j9+1) (r+1) yQ) (qJ++u):=by
 have Q:=(Ë.1 F).1;have V:=(Ë.1 t).1;let⟨g0,hF,W,_,_⟩:=o.C n g F;let⟨a,Y,X6,atZ,_⟩:=o.C j p t;rw[f]at W;rw[K5]at X6;cases W with
 |gO=>
  rw[hs,ht]at hF;let⟨H,h2,I,h4⟩:=hF _<|fI.fV _ _;let⟨z',I⟩:=I w;rw[K6,PF]at Y;let⟨l,k2,k3,k4⟩:=Y _<|fI.fV _ _;have Ek:p=Γ a #[θ b z] (.recv É):=by
   cases X6 with
   |gO=>rw[O]at l;cases l
   |uY _ _ h=>rfl
   |nK _ _ h=>cases O
  subst Ek;have hpn:Η (E.setIfInBounds n ph) b Ã=[(j,0)]:=ag1 (by rwa[Ï<|ą G]) U U λk x f hx=>by
   rcases Py hx with q|⟨_,q⟩
   .rintro⟨e,_⟩;rw[q]at e;cases e
   .exact hp k x f q
  have PG:=crowd_send_meets (sl:=sl) F I M G t hpn;let⟨T,hT⟩:=jq h4;let⟨y,hTj⟩:=jq<|k4<|À v;rw[zZ H h2,zZ l k2]at PG;have q:∀{h:cV},h∈Í n g.frame.fn g.frame.place #[]++#[{g:=n,fn:=g.frame.fn,pos:=g.frame.place,act:=.send b j9},{g:=j,fn:=a.frame.fn,pos:=a.frame.place,act:=.recv b r J},{g:=n,fn:=g.frame.fn,pos:=g.frame.place,act:=.sendDone b j9},{g:=j,fn:=a.frame.fn,pos:=a.frame.place,act:=.recvDone b r}]->(h.act.touch?=ë/\∀m,h.act≠Ř m)/\h.act.low w.heap.size:=by intro h e;simp[Í]at e;rcases e with rfl|rfl|rfl|rfl<;>exact⟨⟨U,fp⟩,o.r.N b L⟩
  refine⟨_,_,T,y,{g with frame:=g.frame.finish ľ},{a with frame:=a.frame.finish (ſ #[v,Ľ É])},PG,fp,?_,H,?_,l,λk f uZ=> ?_,λh e=>(q e).1,?_⟩
  .rw[Ò (by simpa using Q)];rfl
  .rw[Ï<|ą G,Ò V];rfl
  .rw[Ï<|ą f,Ï<|ą uZ]
  .have m:gM P i X (fB S j<|D<|À v) (fB C j y) (fB B j K) lot (E.setIfInBounds j {a with frame:=a.frame.finish (ſ #[v,Ľ É])}) w (qJ++#[]):=o.G V (qD.fV _ _ _ _) (λh e=>by simp at e) (λh e=>by simp at e) hTj<|Ç l;rw[ď]at m;refine m.G (by simpa using Q) (K4 L M _ _ _ _ _ _) (λh e=>(q e).1) (λh e=>(q e).2) hT<|Ç H
theorem gM.kZ(o:gM P i X S C B lot E w qJ){N:Jd}(I:E[n]?=À g)(K:B n=.no)(ht:C n=.fD)(hs:S n=K1 P (n==0) J N)(L:X J)(hB:i<=J){r:Nat}(O:w.heap[J]?=À (χ j9 q Ã j7 r yQ)): ∃t u T G,cU P (ķ E w sl) n=(ň<|ķ t (w.setChan J j9 q É j7 r yQ) sl,u)/\t.size=E.size/\t[n]?=À G/\G.status=Ð/\(∀k x,k≠n->E[k]?=À x->t[k]?=À (x.again<|w.setChan J j9 q É j7 r yQ))/\(∀l∈u,l.g=n)/\(∀l∈u,∀b,l.act.touch?=À b->b.loc=.obj J/\b.kind=Ŕ)/\(∀l∈u,∀m,l.act≠Ř m)/\ gM P i X (fB S n N) (fB C n T) B (gi lot n {lot n with w:=w.setChan J j9 q É j7 r yQ}) t (w.setChan J j9 q É j7 r yQ) (qJ++u):=by
 have H:=(Ë.1 I).1;have Q:=o.r.N J L;let⟨g0,hF,V,_,_⟩:=o.C n g I;rw[K]at V;cases V with
 |gO=>
  rw[hs,ht]at hF;let⟨h1,h2,G,M,h4,h5⟩:=hF w<|o.r.r n H;have v:=K4 (lot:=lot) (Live:=λn=>n<E.size) L O j9 j7 r q É yQ;have y:fI (lot n) w (w.setChan J j9 q É j7 r yQ):=⟨dx v.r.symm,λj hj=>v.ki j<|o.r.I n H j hj,λa z=>v.M n H a z,λa z=>v.N n H a z,λa _=>v.I a⟩;let⟨T,hT⟩:=jq<|h5.kj ⟨y.r,y.I,y.N,y.Y,y.S⟩;have W:ŭ (lot n).d (Ei J)=(lot n).d:=bq (λe f=>by simp[Ei]at f;grind) _;have D:∀e∈Ei J,(∀b,(è e).touch?=À b->b.loc=.obj J/\b.kind=Ŕ)/\(è e).low w.heap.size:=by
   intro e f;simp[Ei]at f;rcases f with rfl|rfl
   .exact⟨λb h=>by simp[è,ÿ]at h;subst h;exact⟨U,U⟩,Q⟩
   .exact⟨λb h=>by simp[è,ÿ]at h,Q⟩
  have e2:fB B n .no=B:=by funext j;unfold fB;split<;>simp[*]
  obtain⟨t,q1,q2,q3,q4,Y⟩:=o.rp I (h4 w j9 q j7 r yQ O) v (by rwa[W]) (Ç M) (λe f=>⟨λb h=>Î ⟨J,((D e f).1 b h).1,L,((D e f).1 b h).2⟩,(D e f).2⟩) (Pn o.r.l oQ λl F b h=>by obtain⟨e,f,rfl⟩:=í F;let⟨z1,z2⟩:=(D e f).1 b h;refine Î (Î ⟨z2,λp a z hl mI=> ?_⟩);have:=o.r.s p a J z (by rw[hl,z1]) mI;omega);rw[W,e2]at Y;refine⟨t,_,T,G,q1,q2,q3,M,λk x K p=> ?_,oQ,λl F b h=> ?_,λl F=> ?_,Y⟩
  .rw[q4 k K,p];simp only[bH,ž];unfold ţ;rw[if_pos (by simp[h2,M])]
  .obtain⟨e,f,rfl⟩:=í F;exact(D e f).1 b h
  .obtain⟨e,f,rfl⟩:=í F;simp[Ei]at f;intro m;rcases f with rfl|rfl<;>simp[è]
end
def fQ(b:Nat):Ú:=⟨b,0,ë⟩
def gY(b:Nat):Ú:=⟨b,1,ë⟩
inductive GS where
 |cl (c reg:Nat)
 |jM (reg:Nat)
 |gZ (r s:Nat)
def GS.st:GS->Int
 |.cl c a=>c*fY+a
 |.jM a=>a
 |.gZ _ _=>0
def GS.sm:GS->Int
 |.gZ _ s=>s
 |_=>0
def GS.ok:GS->Prop
 |.cl c r=>c<1000000/\r<1000000/\(c=0->r=0)
 |.jM r=>0<r/\r<1000000
 |.gZ r s=>r+s<1000000
structure ik(w:Æ)(b:Nat)(G:GS):Prop where
 C:w.cell? (fQ b)=À (Ć æ G.st)
 M:w.cell? (gY b)=À (Ć ŗ G.sm)
 I:w.frozen? (fQ b)=Ã
 N:w.frozen? (gY b)=Ã
 r:G.ok
theorem BI(h:w.cell? a=À x):(w.setCell a v).cell? a=À v:=by unfold Ġ at h|-;unfold ĉ;grind
theorem z8(h:a.block≠p.block\/a.off≠p.off):(w.setCell a v).cell? p=w.cell? p:=by unfold Ġ ĉ;grind
theorem PH:kY (w.setCell a v) b=kY w b:=by unfold kY ĉ;grind
def tS:(w.setCell a v).frozen? p=w.frozen? p:=by simp_all
theorem lF(h:j≠a.block):(w.setCell a v).heap[j]?=w.heap[j]?:=by unfold ĉ;grind
def kg:(w.setCell a v).heap.size=w.heap.size:=by simp_all
theorem Aa(h:(w.cell? p).isSome=É):((w.setCell a v).cell? p).isSome=É:=by unfold Ġ ĉ at*;grind
theorem ag4{Live Y:Nat->Prop}{c:Nat->fe}(f:Y a.block)(l:a.spot=ë)(m:∀k,Live k->¬(c k).C a)(g:∀k,Live k->∀b,(c k).C b->b.spot=ë):qD Live Y c w (w.setCell a v):=by
 refine⟨kg,λj h=>lF λe=>h<|e▸f,λk i b d=>z8 ?_,λ_ _ _ _=>tS,λb d=>Aa d⟩;by_cases e:a.block=b.block
 .right;intro n;have:=g k i b d;let⟨o,p,q⟩:=b;let⟨r,s,t⟩:=a;grind
 .exact Ç e
section
variable{b:Nat}{G:GS}
def ik.wM(h:ik w b G)(a:u.cell? (fQ b)=w.cell? (fQ b))(c:u.cell? (gY b)=w.cell? (gY b))(d:u.frozen? (fQ b)=w.frozen? (fQ b))(e:u.frozen? (gY b)=w.frozen? (gY b)):ik u b G:= ⟨a.trans h.C,c.trans h.M,d.trans h.I,e.trans h.N,h.r⟩
def ik.iU(h:ik w b G)(c:a.block≠b):ik (w.setCell a v) b G:= h.wM (z8<|Ç c) (z8<|Ç c) tS tS
def ik.K7{G':GS}(h:ik w b G)(a:G'.sm=G.sm)(d:G'.ok)(e:c=G'.st):ik (w.setCell (fQ b)<|Ć æ c) b G':= ⟨by rw[BI h.C,e],by rw[z8 (Î<|by simp[fQ,gY]),h.M,a],by rw[tS,h.I],by rw[tS,h.N],d⟩
def ik.X7{G':GS}(h:ik w b G)(a:G'.st=G.st)(d:G'.ok)(e:c=G'.sm):ik (w.setCell (gY b)<|Ć ŗ c) b G':= ⟨by rw[z8 (Î<|by simp[fQ,gY]),h.C,a],by rw[BI h.M,e],by rw[tS,h.I],by rw[tS,h.N],d⟩
end
theorem K8(a:0<=h)(b:h<18446744073709551616):æ.wrap h=h:=by have:æ.wrap h=h%18446744073709551616:=rfl;rw[this];omega
def ag5(a:4294967296<=h)(b:h<18446744073709551616):æ.wrap (h+18446744069414584320)=h-4294967296:=by have:æ.wrap (h+18446744069414584320)=(h+18446744069414584320)%18446744073709551616:=rfl;rw[this];omega
theorem ag6(a:0<=h)(b:h<4294967296):ŗ.wrap h=h:=by have:ŗ.wrap h=h%4294967296:=rfl;rw[this];omega
def ru:Int:=18446744069414584320
def GS.jT:GS->GS
 |.cl (c+1) reg=>if c=0/\0<reg then .jM reg else .cl c reg
 |G=>G
section
variable{b:Nat}
theorem ik.ag7(h:ik w b (.cl i 0))(a:i+1<1000000):æ.wrap ((GS.cl i 0).st+fY)=(GS.cl (i+1) 0).st/\ik (w.setCell (fQ b)<|Ć æ<|æ.wrap<|(GS.cl i 0).st+fY) b (.cl (i+1) 0):=by
 have e:æ.wrap ((GS.cl i 0).st+fY)=(GS.cl (i+1) 0).st:=by simp only[GS.st,fY];grind [K8]
 exact⟨e,h.K7 (G':=.cl (i+1) 0) U ⟨a,Z,Z⟩ e⟩
def ik.jT(h:ik w b (.cl (i+1) n)):æ.wrap ((GS.cl (i+1) n).st+ru)=(GS.jT<|.cl (i+1) n).st/\ik (w.setCell (fQ b)<|Ć æ<|æ.wrap<|(GS.cl (i+1) n).st+ru) b (GS.jT<|.cl (i+1) n):=by
 let⟨f,a,g⟩:=h.r;have d:æ.wrap ((GS.cl (i+1) n).st+ru)=(i:Int)*fY+n:=by simp only[GS.st,fY,ru];rw[ag5 Z Z];omega
 have e:æ.wrap ((GS.cl (i+1) n).st+ru)=(GS.jT<|.cl (i+1) n).st:=by
  rw[d];simp only[GS.jT];by_cases q:i=0/\0<n
  .rw[if_pos q];obtain⟨rfl,_⟩:=q;simp[GS.st]
  .rw[if_neg q];rfl
 refine⟨e,h.K7 ?_ ?_ e⟩
 .simp only[GS.jT];split<;>rfl
 .simp only[GS.jT];by_cases q:i=0/\0<n
  .rw[if_pos q];exact⟨q.2,a⟩
  .rw[if_neg q];exact⟨Z,a,λe=>by omega⟩
theorem ik.X8(h:ik w b (.cl i n))(f:0<i)(a:n+1<1000000):æ.wrap ((GS.cl i n).st+1)=(GS.cl i<|n+1).st/\ik (w.setCell (fQ b)<|Ć æ<|æ.wrap<|(GS.cl i n).st+1) b (.cl i (n+1)):=by
 let⟨d,g,j⟩:=h.r;have e:æ.wrap ((GS.cl i n).st+1)=(GS.cl i<|n+1).st:=by simp only[GS.st,fY];grind [K8]
 exact⟨e,h.K7 (G':=.cl i (n+1)) U ⟨d,a,λe=>by omega⟩ e⟩
def ik.X9(h:ik w b (.jM i)):ik (w.setCell (fQ b)<|Ć æ 0) b (.gZ i 0):= h.K7 (G':=.gZ i 0) U (by have:=h.r;simp only[GS.ok]at this|-;omega) U
theorem ik.jK{r:Nat}(h:ik w b (.gZ (r+1) i)):ik (w.setCell (gY b)<|Ć ŗ<|ŗ.wrap<|(GS.gZ (r+1) i).sm+1) b (.gZ r (i+1)):=by have:=h.r;simp only[GS.ok]at this;refine h.X7 (G':=.gZ r (i+1)) U (by simp only[GS.ok];omega) ?_;simp only[GS.sm];grind [ag6]
def ik.kH{r:Nat}(h:ik w b (.gZ r (i+1))):ik (w.setCell (gY b)<|Ć ŗ<|(GS.gZ r<|i+1).sm-1) b (.gZ r i):=by have:=h.r;simp only[GS.ok]at this;refine h.X7 (G':=.gZ r i) U (by simp only[GS.ok];omega) ?_;simp only[GS.sm];omega
def ik.ag8{G:GS}(h:ik w b G):(0<=G.st/\G.st<fY)↔∀c a,G=.cl c a->c=0:=by
 have d:=h.r;cases G with
 |cl c a=>
  let⟨r,s,f⟩:=d;simp only[GS.st,fY];constructor
  .intro q g i e;cases e;omega
  .intro q;have:=q c a U;subst this;omega
 |jM a=>simp only[GS.ok]at d;simp only[GS.st,fY];exact⟨λ_ _ _ e=>(by cases e),λ_=>by omega⟩
 |gZ r s=>simp only[GS.st,fY];exact⟨λ_ _ _ e=>(by cases e),λ_=>by omega⟩
end
inductive jN where
 |jK|iG|gw (W:Nat)|jg (W:Nat)|iE (r:Nat)
inductive jA where
 |jc|mr (p:SP)|wr|kH|gw|ly
section
variable(P:Õ)(main:Bool)(B:Nat)(b:Nat)(J:Jd)
def GJ:Nat->Jd
 |0=>J
 |r+1=>λl g=>l.d=1/\agW P main (gY b) (match r with|0=>J|_=>fi P main<|GJ r) l g
def K9(W:Nat):Jd:=λl g=>l.d=1/\agU P main (fQ b) 0 (GJ P main b J W) l g
def La(W:Nat):Jd:=λl g=>l.d=1/\X1 P main (fQ b) (λv=>if v=(W:Int)then K9 P main b J W else λ_ _=>True) l g
def PK:Jd:=λl g=>l.d=1/\Pq P main (fQ b) ru (λs=>if s=0\/(fY<=s/\s<1000000*fY/\s%fY<1000000)then J else if 0<s/\s<1000000 then fi P main (La P main b J s.toNat)else λ_ _=>True) l g
def Ab:Jd:=λl g=>l.d=0/\GH P main (Ķ<|fQ b) (PK P main b J) l g
def El:jN->Jd
 |.jK=>Ab P main b J
 |.iG=>PK P main b J
 |.gw W=>La P main b J W
 |.jg W=>K9 P main b J W
 |.iE r=>GJ P main b J r
def GK:Jd:=λl g=>l.d=0/\GH P main (cJ<|fQ b) J l g
def Ya:Jd:=λl g=>l.d=1/\X1 P main (fQ b) (λv=>if v=0 then GK P main b J else λ_ _=>True) l g
def Lb:Jd:=λl g=>l.d=1/\agV P main (gY b) (Ya P main b J) l g
def PL:Jd:=λl g=>l.d=1/\GH P main (.write<|gY b) (Lb P main b J) l g
def PN(p:SP):Jd:=λl g=>l.d=1/\Ej P main (fQ b) B (λ_=>GK P main b J) (λv=>if v%fY=0 then PL P main b J else Lb P main b J) p l g
def rv:jA->Jd
 |.jc=>λl g=>∃k,k<=B/\PN P main B b J (.gX k) l g
 |.mr p=>PN P main B b J p
 |.wr=>PL P main b J
 |.kH=>Lb P main b J
 |.gw=>Ya P main b J
 |.ly=>GK P main b J
end
section
variable{P:Õ}{Y:Nat->Prop}{S:Nat->Jd}{tr:Nat->gl}{f:Nat->iD}{lot:Nat->fe}{gs:Array Ó}{t:ğ}
theorem ja.C{Live:Nat->Prop}(h:ja n Live Y lot w t)(E:Live i){l:fe}(s:∀b,l.O b->(lot i).O b) (x:∀b,l.I b->(lot i).M b\/(b<w.heap.size/\¬Y b/\(∀k,Live k->¬(lot k).O b)/\∀a:Ú,a.block=b->pZ t i (û a))) (u:∀a,l.r a->(lot i).r a) (y:∀a,l.N a->(lot i).C a\/(Y a.block/\(∀k,Live k->¬(lot k).r a)/\pZ t i (û a))) (F:l.K=(lot i).K) (D:l.d=(lot i).d) (G:l.w=w) (H:∀b,l.O b->¬l.I b) (I:∀a,l.r a->¬l.N a):ja n Live Y (gi lot i l) w t:=by
 have v:∀b,l.M b->(lot i).M b\/(b<w.heap.size/\¬Y b/\(∀k,Live k->¬(lot k).O b)/\∀a:Ú,a.block=b->pZ t i (û a)):=λb g=>g.elim (λq=>Ç<|Ç<|s b q)<|x b;have B:∀a,l.C a->(lot i).C a\/(Y a.block/\(∀k,Live k->¬(lot k).r a)/\pZ t i (û a)):=λa f=>f.elim (λq=>Ç<|Ç<|u a q)<|y a;refine⟨λk j c o m b g=> ?_,λk j c o m a f=> ?_,λk c b g=> ?_,λk c a f=> ?_,λk c b g=> ?_,λk c a f=> ?_,λk c b g=> ?_,h.N,λk c=> ?_,λk c=> ?_,λk c=> ?_,h.l,h.q,h.s,λk c a f=> ?_⟩
 .by_cases e:k=i
  .subst e;rw[gV]at g;rw[gI lot _<|ą m];exact h.o k j c o m b<|s b g
  .rw[gI lot _ e]at g;by_cases p:j=i
   .subst p;rw[gV];intro q;rcases v b q with z|⟨_,_,z,_⟩
    .exact h.o k j c o m b g z
    .exact z k c g
   .rw[gI lot _ p];exact h.o k j c o m b g
 .by_cases e:k=i
  .subst e;rw[gV]at f;rw[gI lot _<|ą m];exact h.h k j c o m a<|u a f
  .rw[gI lot _ e]at f;by_cases p:j=i
   .subst p;rw[gV];intro q;rcases B a q with z|⟨_,z,_⟩
    .exact h.h k j c o m a f z
    .exact z k c f
   .rw[gI lot _ p];exact h.h k j c o m a f
 .by_cases e:k=i
  .grind [gV]
  .rw[gI lot _ e]at g|-;exact h.m k c b g
 .by_cases e:k=i
  .grind [gV]
  .rw[gI lot _ e]at f|-;exact h.g k c a f
 .by_cases e:k=i
  .subst e;rw[gV]at g;exact(v b g).elim (h.I k c b) λz=>z.2.1
  .rw[gI lot _ e]at g;exact h.I k c b g
 .by_cases e:k=i
  .subst e;rw[gV]at f;exact(B a f).elim (h.e k c a) λz=>z.1
  .rw[gI lot _ e]at f;exact h.e k c a f
 .by_cases e:k=i
  .subst e;rw[gV]at g;exact(v b g).elim (h.fv k c b) λz=>z.1
  .rw[gI lot _ e]at g;exact h.fv k c b g
 .by_cases e:k=i
  .grind [gV,fI.fV]
  .rw[gI lot _ e];exact h.r k c
 .by_cases e:k=i
  .subst e;rw[gV];refine⟨λa f=>(h.S k c).fg a<|s _ f,λa f=> ?_,λa f=>(h.S k c).C a<|u a f,λa f=> ?_⟩
   .rcases x _ f with(z|z)|⟨_,_,_,z⟩
    .exact((h.S k c).fg a z).r
    .exact(h.S k c).rd a z
    .exact z a U
   .rcases y _ f with(z|z)|⟨_,_,z⟩
    .exact((h.S k c).C a z).r
    .exact(h.S k c).r a z
    .exact z
  .rw[gI lot _ e];exact h.S k c
 .by_cases e:k=i
  .subst e;rw[gV,D];exact h.f k c
  .rw[gI lot _ e];exact h.f k c
 .have e:(lot k).K a:=by
   grind [gV,gI]
  let⟨p,q⟩:=h.n k c a e;grind [gV,gI]
def gM.M(b:gM P n Y S tr f lot gs w t){J:Jd}{T:gl}{K:iD}{l:fe}(c:gs[i]?=À g)(d:g.status=Ð\/g.status=Ğ)(h:ja n (λi=>i<gs.size) Y (gi lot i l) w t)(hF:lu P (i==0) J T l g): gM P n Y (fB S i J) (fB tr i T) (fB f i K) (gi lot i l) gs w t:=by
 refine⟨h,λk x a=> ?_,b.I⟩;by_cases e:k=i
 .subst e;rw[c]at a;obtain rfl:=Ĥ a;rw[gD,gD,gD,gV];exact⟨g,hF,.gO,d,Ç U⟩
 .rw[fK S _ e,fK tr _ e,fK f _ e,gI lot _ e];exact b.C k x a
end
end Go.Proofs.Y.fA
namespace Go.Proofs.Y.fA
open Go Go.Conc Go.Proofs.Y.Lift
open Go.ConcN (RelBy fork_knows)
def BJ(t:ğ)(p:Nat)(l:dP):Prop:=∀q a,Ě t q=À a->a.loc=l->a.write=É->Before t q p
theorem BJ.BM{u:ğ}{l:dP}(h:BJ qJ i l)(j:∀c∈u,∀b,c.act.touch?=À b->b.loc=l->b.write=É->False):BJ (qJ++u) i l:=by
 intro q a e f g;rcases nj e with⟨_,d⟩|⟨_,c,d,k,_⟩
 .exact(h q a d f g).app u
 .grind
def BJ.ag9{l:dP}(h:BJ qJ i l)(b:bD qJ n i):pZ qJ n l:=λq a c d e=>Knows.of_before (h q a c d e) b
theorem aha{l:dP}(h:pZ qJ i l)(c:wQ.g=i)(j:wQ.act.touch?=ë):BJ (qJ++#[wQ]) qJ.size l:=by
 intro q a d e f;rcases nj d with⟨_,b⟩|⟨_,k,b,m,_⟩
 .exact Î<|(h q a b e f).hb_new (ß _) (by rw[ć<|ß _];simp) c
 .grind
structure Fx where
 L:Nat
 m:Nat
 C:Nat
 I:Nat->Nat
def Fx.M(F:Fx)(b:Nat):Prop:=b=F.C\/∃k,k<=F.m/\b=F.I k
def Fx.G(F:Fx)(x:Ú):Prop:=∃b,F.M b/\(x=fQ b\/x=gY b)
def jk(F:Fx)(k:Nat):Ú:=⟨F.I k,2,ë⟩
def Fx.PO(F:Fx)(a:Nat->Option Nat)(x:Ú)(g:Option Nat):Prop:=(x=gY F.C/\g=À 0)\/∃k j,k<=F.m/\x=gY (F.I k)/\a k=À j/\g=À (F.L+1+j)
structure TI(F:Fx)(t0:Nat)(jr:dP->Prop)(sp rl:Nat)(V:Nat->Nat->Prop)(pk:Nat->Nat)(fs:Nat->Option Nat)(rx:Nat->Prop)(ql:Nat->Nat)(t:ğ):Prop where
 N:t0<=t.size
 M:∀p a x,Ě t p=À a->a.loc=û x->F.G x->(p<t0/\t.g? p=À 0)\/a.kind=Ŕ\/(a.kind=.said/\F.PO fs x (t.g? p))
 BN:∀x,x<sp->∀p,p<t0->t.g? p=À 0->bD t (F.L+x) p
 Y:∀k,1<=k->k<=rl->t.act? (pk k)=À (Ř<|Ķ<|fQ<|F.I k)/\t.g? (pk k)=À F.L/\t.heard (pk k)
 I:∀k,1<=k->k<=rl->∀a:Ú,(V k a.block\/a=jk F k)->BJ t (pk k) (û a)
 c:∀b,F.M b->NoRelease (fQ b) t
 r:∀x,x<sp->rx x->RelBy (fQ F.C) t (F.L+x) (ql x)/\∀p a,Ě t p=À a->t.g? p=À (F.L+x)->p<=ql x\/((∃y:Ú,a.loc=û y/\y.block=F.C)/\a.kind=Ŕ)
 S:∀p a,t0<=p->Ě t p=À a->t.g? p=À 0\/∃x,x<sp/\t.g? p=À (F.L+x)
 e:∀p a,p<t0->Ě t p=À a->a.loc.isMemory=É->bD t 0 p\/(jr a.loc/\a.kind=Ŕ)
 d:∀p g,p<t0->t.g? p=À g->g≠0->t.counts p->∃j,t.g? j=À 0/\HappensBefore t p j
section
variable{F:Fx}{t0:Nat}{jr:dP->Prop}{sp rl:Nat}{V:Nat->Nat->Prop}{pk:Nat->Nat}{fs:Nat->Option Nat}{rx:Nat->Prop}{ql:Nat->Nat}{t u:ğ}
theorem Lc(h:t.g? i=À n):i<t.size:=by unfold Ņ at h;grind
def GM(h:t.g? i=À n):(t++u).g? i=À n:=by rwa[aG<|Lc h]
theorem PQ{a:dK}(h:Ě t i=À a):i<t.size:=by let⟨b,c,_⟩:=dL h;grind
structure Ld(F:Fx)(sp rl:Nat)(V:Nat->Nat->Prop)(fs:Nat->Option Nat)(rx:Nat->Prop)(t u:ğ)(i:Nat):Prop where
 C:∀op∈u,∀a,op.act.touch?=À a->op.g=i
 S:i=0\/(∃x,x<sp/\i=F.L+x)\/∀op∈u,op.act.touch?=ë
 M:∀op∈u,∀a x,op.act.touch?=À a->a.loc=û x->F.G x->a.kind=Ŕ\/(a.kind=.said/\F.PO fs x (À i))
 fE:∀op∈u,∀(a:dK) (y:Ú),op.act.touch?=À a->a.write=É->a.loc=û y->∀k,1<=k->k<=rl->¬V k y.block/\y≠jk F k
 N:∀op∈u,∀b,F.M b->op.act≠Ř (dM<|fQ b)
 I:∀x,x<sp->rx x->(∀r,RelBy (fQ F.C) t (F.L+x) r->RelBy (fQ F.C) (t++u) (F.L+x) r)/\(F.L+x=i->∀op∈u,∀a,op.act.touch?=À a->(∃y:Ú,a.loc=û y/\y.block=F.C)/\a.kind=Ŕ)
def TI.C(h:TI F t0 jr sp rl V pk fs rx ql t)(f:Ld F sp rl V fs rx t u i):TI F t0 jr sp rl V pk fs rx ql (t++u) where
 N:=by rw[Array.size_append];have:=h.N;omega
 M p a x n y hc:=by
  rcases nj n with⟨d,c⟩|⟨d,m,c,l,j⟩
  .rw[aG d];exact h.M p a x c y hc
  .refine Î ((f.M m c a x l y hc).imp id λq=>⟨q.1,?_⟩);have:(t++u).g? p=À i:=by unfold Ņ;rw[j];simp[f.C m c a l]
   rw[this];exact q.2
 BN x r p d o:=(h.BN x r p d<|by rwa[aG<|Ô d h.N]at o).app u;Y k c l:=by let⟨v,s,b⟩:=h.Y k c l;have w:=Lc s;exact⟨by rwa[dN w],GM s,(heard_old w).2 b⟩
 I k c l a n:=(h.I k c l a n).BM λm B b z y C=>by have:=f.fE m B b a z C y k c l;exact n.elim this.1 this.2
 c b z:=(h.c b z).app λm B=>f.N m B b z;r x r hr:=by
  let⟨v,s⟩:=h.r x r hr;let⟨D,E⟩:=f.I x r hr;refine⟨D _ v,λp a n o=> ?_⟩;rcases nj n with⟨d,c⟩|⟨d,m,c,l,j⟩
  .exact s p a c<|by rwa[aG d]at o
  .have e:(t++u).g? p=À i:=by unfold Ņ;rw[j];simp[f.C m c a l]
   rw[e]at o;exact Î<|E (Ĥ o).symm m c a l
 S p a d n:=by
  rcases nj n with⟨D,c⟩|⟨_,m,c,l,j⟩
  .rw[aG D];exact h.S p a d c
  .have e:(t++u).g? p=À i:=by unfold Ņ;rw[j];simp[f.C m c a l]
   rw[e];rcases f.S with q|⟨x,r,q⟩|q
   .exact Ç<|by rw[q]
   .exact Î ⟨x,r,by rw[q]⟩
   .rw[q m c]at l;cases l
 e p a d n hm:=by rw[touchAt_old<|Ô d h.N]at n;exact(h.e p a d n hm).imp (·.app u) id
 d p g d o lN hc:=by have w:=Ô d h.N;rw[aG w]at o;rw[eg w]at hc;let⟨j,v,s⟩:=h.d p g d o lN hc;exact⟨j,GM v,ec u s⟩
theorem Ac(f:∀c∈u,c.act.touch?=ë)(h:∀c∈u,∀b,F.M b->c.act≠Ř (dM<|fQ b)):Ld F sp rl V fs rx t u 0 where
 C c e a d:=by rw[f c e]at d;cases d
 S:=Ç U;M c e a x d:=by rw[f c e]at d;cases d
 fE c e a y d:=by rw[f c e]at d;cases d
 N:=h;I x hx g:=by refine⟨λr g=>g.app λj l m i=> ?_,λ_ c e a d=>by rw[f c e]at d;cases d⟩;let⟨z,k,_⟩:=i;rcases nj k with⟨q,_⟩|⟨_,c,n,o,_⟩;all_goals grind
def TI.ahb(h:TI F t0 jr sp rl V pk fs rx ql t){b:Nat->Option Nat}(c:∀k y,fs k=À y->b k=À y):TI F t0 jr sp rl V pk b rx ql t:= {h with M:=λp a x d e f=>(h.M p a x d e f).imp id (Or.imp id λq=>⟨q.1,q.2.imp id λ⟨k,j,g,i,l,m⟩=>⟨k,j,g,i,c k j l,m⟩⟩)}
theorem TI.GN(h:TI F t0 jr sp rl V pk fs rx ql t){y:cV}(j:wQ.g=0/\wQ.act=.go (F.L+sp))(k:y.g=F.L+sp/\y.act=.start)(m:Τ t 0=0)(n:Τ t (F.L+sp)=0)(B:¬rx sp)(o:∀wQ,rx wQ->wQ<sp):TI F t0 jr (sp+1) rl V pk fs rx ql (t++#[wQ,y]):=by
 have q:∀c∈#[wQ,y],c.act.touch?=ë:=by
  intro c a;simp at a;rcases a with rfl|rfl
  .rw[j.2];rfl
  .rw[k.2];rfl
 have r:∀c∈#[wQ,y],∀b,F.M b->c.act≠Ř (dM<|fQ b):=by grind
 have d:=h.C<|Ac q r;refine{d with BN:=λz s p f i=> ?_,r:=λz s l=>d.r z (o z l) l,S:=λp a f u=>((d.S p a f u).imp id λ⟨z,v,e⟩=>⟨z,Z,e⟩)}
 .by_cases e:z<sp
  .exact d.BN z e p f i
  .obtain rfl:z=sp:=Z
   rw[aG<|Ô f h.N]at i;let⟨c,v,w⟩:=ģ.1 i;have:=bl v;rw[w]at this;exact cM j k m n this
theorem ahc{y:cV}(d:wQ.g=0/\wQ.act=.go k)(e:y.g=k/\y.act=.start)(j:Τ t 0=0)(m:Τ t k=0){l:dP}:(rn t 0 l->rn (t++#[wQ,y]) k l)/\(pZ t 0 l->pZ (t++#[wQ,y]) k l):=by
 have q:∀c∈#[wQ,y],c.act.touch?=ë:=by
  intro c a;simp at a;rcases a with rfl|rfl
  .rw[d.2];rfl
  .rw[e.2];rfl
 refine⟨λh p a f i=> ?_,λh p a f i n=> ?_⟩
 .rcases nj f with⟨_,b⟩|⟨_,c,b,o,_⟩
  .exact cM d e j m<|h p a b i
  .grind
 .rcases nj f with⟨_,b⟩|⟨_,c,b,o,_⟩
  .exact cM d e j m<|h p a b i n
  .grind
theorem TI.ahd(h:TI F t0 jr sp rl V pk fs rx ql t)(f:wQ.g=F.L)(i:wQ.act=Ř (Ķ<|fQ<|F.I<|rl+1))(l:Τ t F.L=0)(q:∀a:Ú,(V (rl+1) a.block\/a=jk F (rl+1))->pZ t F.L (û a)): TI F t0 jr sp (rl+1) V (fB pk (rl+1) t.size) fs rx ql (t++#[wQ]):=by
 have m:∀c∈#[wQ],c.act.touch?=ë:=by
  intro c e;have:c=wQ:=by simpa using e
  rw[this,i];rfl
 have d:=h.C (Ac m λc e b _=>by grind);have n:(t++#[wQ])[t.size]?=À wQ:=by rw[ć<|ß _];simp
 have j:∀k,k<=rl->fB pk (rl+1) t.size k=pk k:=λk r=>fK pk _ Z;refine{d with Y:=λk b o=> ?_,I:=λk b o a p=> ?_}
 .by_cases e:k=rl+1
  .subst e;rw[gD];exact⟨by rw[ey n,i],by simp[Ņ,f],⟨F.L,by simp[Ņ,f],by rwa[cL<|ß _]⟩⟩
  .rw[j k Z];exact d.Y k b Z
 .by_cases e:k=rl+1
  .grind [gD,aha]
  .rw[j k Z];exact d.I k b Z a p
theorem TI.ahe(h:TI F t0 jr sp rl V pk fs rx ql t){x:Nat}(r:x<sp)(d:wQ.g=F.L+x)(f:wQ.act=Ř (Ķ<|fQ F.C))(k:Τ t (F.L+x)=0)(s:¬rx x): TI F t0 jr sp rl V pk fs (λz=>rx z\/z=x) (fB ql x t.size) (t++#[wQ]):=by
 have l:∀c∈#[wQ],c.act.touch?=ë:=by
  intro c a;have:c=wQ:=by simpa using a
  rw[this,f];rfl
 have j:=h.C (Ac l λc a b _=>by grind);have b:(t++#[wQ])[t.size]?=À wQ:=by rw[ć<|ß _];simp
 refine{j with r:=λz m n=> ?_};by_cases e:z=x
 .subst e;rw[gD];refine⟨⟨by rw[ey b,f],by simp[Ņ,d],⟨F.L+z,by simp[Ņ,d],by rwa[cL<|ß _]⟩,λi u o=> ?_⟩,λp a q _=>Ç ?_⟩
  .have:=Lc o;simp at this;omega
  .have:=PQ q;simp at this;omega
 .rw[fK ql _ e];exact j.r z m<|n.resolve_right e
def Yb(e:t.act? i=À (Ř<|Ķ a))(f:t.g? i=À k)(h:t.heard i)(l:NoRelease a t)(c:wQ.g=n)(m:wQ.act=Ř (cJ a))(o:Τ t n=0):bD (t++#[wQ]) n i:=by
 have b:=Lc f;have d:(t++#[wQ])[t.size]?=À wQ:=by rw[ć<|ß _];simp
 refine⟨t.size,wQ,d,c,Î<|.single<|Î ⟨.marked b (Î<|by rwa[dN b]) (by rw[ey d,m]) λj _ q=> ?_,(heard_old b).2 h,⟨n,by simp[Ņ,c],by rwa[cL<|ß _]⟩⟩⟩;rw[dN q];exact l j
theorem TI.kZ(h:TI F t0 jr sp rl V pk fs rx ql t)(G:wQ.g=0)(o:wQ.act=Ř (cJ<|fQ F.C))(H:Τ t 0=0)(k:∀x,x<sp->rx x): (∀p a,Ě (t++#[wQ]) p=À a->a.loc.isMemory=É->bD (t++#[wQ]) 0 p\/((jr a.loc\/∃x:Ú,a.loc=û x/\x.block=F.C)/\a.kind=Ŕ))/\(t++#[wQ]).HandedOver:=by
 have Q:wQ.act.touch?=ë:=by rw[o];rfl
 have s:=λx c=>by let⟨b,_⟩:=h.r x c<|k x c;exact Yb b.act b.g b.heard (h.c _<|Ç U) G o H
 have u:∀p a,Ě (t++#[wQ]) p=À a->p<t.size/\Ě t p=À a:=λp a l=>by rcases nj l with q|⟨_,v,d,w,_⟩;all_goals grind
 have B:∀p q x,t.g? p=À (F.L+x)->t.g? q=À (F.L+x)->p<=q->Before (t++#[wQ]) p q:=λp q x d w S=>by
  rcases Nat.lt_or_ge p q with f|i
  .exact Î<|.single<|Ç ⟨f,_,GM d,GM w⟩
  .exact Ç Z
 refine⟨λp a l I=> ?_,λp g C J K=> ?_⟩
 .let⟨f,d⟩:=u p a l;by_cases e:p<t0
  .rcases h.e p a e d I with q|⟨b,i⟩
   .exact Ç<|q.app _
   .grind
  .rcases h.S p a Z d with q|⟨x,c,q⟩
   .let⟨v,m,n⟩:=ģ.1 q;have:=bl m;rw[n]at this;exact Ç<|this.app _
   .let⟨b,i⟩:=h.r x c<|k x c;rcases i p a d q with z|⟨j,P⟩
    .exact Ç<|Knows.of_before (B p (ql x) x q b.g z)<|s x c
    .grind
 .let⟨z,D,M,N⟩:=K;let⟨f,d⟩:=u p z D;have O:t.g? p=À g:=by rwa[aG f]at C
  have E:=(eg f).1 ⟨z,D,M,N⟩;by_cases e:p<t0
  .let⟨j,b,i⟩:=h.d p g e O J E;exact⟨j,GM b,ec _ i⟩
  .rcases h.S p z Z d with q|⟨x,c,q⟩
   .grind
   .let⟨b,_⟩:=h.r x c<|k x c;let⟨r,v,m,n,i⟩:=s x c;have j:(t++#[wQ]).g? r=À 0:=by unfold Ņ;rw[m];simp[n]
    refine⟨r,j,?_⟩;rcases(B p (ql x) x q b.g<|Nat.le_of_not_lt λP=>b.after p P q E).trans i with P|P;all_goals grind
end
end Go.Proofs.Y.fA
namespace Go.Proofs.Y.fA
open Go Go.Conc Go.Proofs.Y.Lift
open Go.ConcN (sumTo)
structure Ph extends Fx where
 P:Õ
 S:Nat
 n:Nat
 q:Nat
 Y:Nat
 f:Nat
 r:Nat->Nat
 a:Nat->Nat
 b:Nat->Nat
 c:Nat->Â
 z:Â
 B:Nat
 γ:Type
 l:γ
 i:Nat->Prop
 p:Nat->γ->γ->Prop
 d:Nat->γ->(Nat->Prop)->Æ->Prop
 o:Nat->ByteArray
 k:Nat->ByteArray
 g:Nat->(Nat->Nat)->Jd
 h:Nat->Jd
 e:Nat->Nat->Jd
 j:(Nat->Nat)->Jd
inductive nN(F:Ph):Nat->F.γ->Prop
 |wF:nN F 0 F.l
 |Em {k:Nat} {s s':F.γ} (h:nN F k s) (hn:F.p k s s'):nN F (k+1) s'
def ju(F:Ph)(p:Nat):Ú:=⟨F.Y,p,ë⟩
inductive fX where
 |go (j:Nat)|lO (j:Nat)|rd (j:Nat)|iG (j:Nat)|iQ (r:Nat)|kZ (r:Nat)|fC (p:jA)|fZ
inductive jF where
 |kR (k:Nat)|mk (k:Nat)|dn (k:Nat) (p:jN)
inductive gP where
 |nL (r:Nat)|fC (r:Nat) (p:jA)|gL (r:Nat)|ox (r:Nat)
inductive iq where
 |pA|fZ (p:jN)|jz (N:Nat)
section
variable(F:Ph)
def GO:Jd:=λl g=>∃N,QuitsD F.P N l.d g
def kI(l:fe):fe:={l with O:=λ_=>False,I:=λ_=>False,r:=λ_=>False,N:=λ_=>False,q:=True}
def BO:Jd:=λl g=>El F.P Ã F.C (GO F) .jK (kI l) g
def En(c j r:Nat):Jd:=ym F.P Ã c F.z λx=>match x with
 |some v=>λl g=>v=F.c (j+r*F.n)->rv F.P Ã F.B (F.I<|F.r<|j+r*F.n) (F.e c<|j+r*F.n) .jc l g
 |none=>BO F
def wN(l:fe)(i:Nat):fe:={l with r:=λa=>l.r a/\a≠ju F (F.a i),N:=λa=>l.N a\/a=ju F (F.a i)}
def qE(l:fe)(k:Nat):fe:={l with O:=λ_=>False,I:=l.M,r:=λa=>l.r a/\a≠ju F (F.b k)/\a≠jk F.toFx k,N:=λa=>l.N a\/a=ju F (F.b k)\/a=jk F.toFx k}
def JW(c j:Nat):gP->Jd
 |.nL r=>En F c j r
 |.fC r p=>rv F.P Ã F.B (F.I<|F.r<|j+r*F.n) (F.e c<|j+r*F.n) p
 |.gL r=>F.e c<|j+r*F.n
 |.ox r=>λl g=>l.w.cell? (ju F<|F.a<|j+r*F.n)=À (ħ<|F.k<|j+r*F.n)/\En F c j (r+1) (wN F l<|j+r*F.n) g
def JI(sg:Nat->F.γ):jF->Jd
 |.kR k=>F.h k
 |.mk k=>λl g=>∃p V,F.p (k-1) (sg<|k-1) p/\F.d k p V l.w/\(∀b,V b->l.M b)/\l.w.cell? (ju F<|F.b k)=À (ħ<|F.o k)/\El F.P Ã (F.I k) (fi F.P Ã<|F.h k) .jK (qE F l k) g
 |.dn k p=>El F.P Ã (F.I k) (fi F.P Ã<|F.h k) p
def JE:iq->Jd
 |.pA=>BO F
 |.fZ p=>El F.P Ã F.C (GO F) p
 |.jz N=>p8 F.P N
def Le(j:Nat)(a:Nat->Nat):Jd:=λl g=>∃c,F.g j (fB a (j-1) c) l g
def Yc(j:Nat)(a:Nat->Nat):Jd:=λl g=>l.d=1/\GH F.P É (.read<|gY F.C) (Le F j a) l g
def PU(j:Nat)(a:Nat->Nat):Jd:=λl g=>l.d=1/\Pq F.P É (fQ F.C) fY (λs=>if s=fY then fi F.P É (Yc F j a)else if fY<s/\s<1000000*fY/\s%fY=0 then fi F.P É (Le F j a)else λ_ _=>True) l g
def BP(a:Nat->Nat):Nat->Jd
 |0=>rv F.P É F.B F.C (F.j a) .jc
 |r+1=>K1 F.P É (a<|F.n-(r+1))<|BP a r
def GQ(a:Nat->Nat):Nat->Jd
 |0=>BP F a F.n
 |r+1=>BH F.P É (a<|(F.q-(r+1))%F.n) (F.c<|F.q-(r+1))<|GQ a r
def JM(dk:Nat->Nat):fX->Jd
 |.go j=>F.g j dk
 |.lO j=>Le F j dk
 |.rd j=>Yc F j dk
 |.iG j=>PU F j dk
 |.iQ r=>GQ F dk r
 |.kZ r=>BP F dk r
 |.fC p=>rv F.P É F.B F.C (F.j dk) p
 |.fZ=>F.j dk
def mf(x:Nat)(a:Ú):Prop:=if x=0 then(∃k,1<=k/\k<=F.m/\(a=jk F.toFx k\/a=ju F (F.b k)))else∃i,i<F.q/\i%F.n=x-1/\a=ju F (F.a i)
end
def fX.sp(n:Nat):fX->Nat
 |.go j|.lO j|.rd j|.iG j=>j
 |_=>n+1
def fX.ad(n:Nat):fX->Nat
 |.iG j=>j
 |.go j|.lO j|.rd j=>j+1
 |_=>n+1
def fX.mJ(q:Nat):fX->Nat
 |.go _|.lO _|.rd _|.iG _=>0
 |.iQ r=>q-r
 |_=>q
def fX.jj(n:Nat):fX->Nat
 |.kZ r=>n-r
 |.fC _|.fZ=>n
 |_=>0
def jA.tT:jA->Nat
 |.wr|.kH=>1
 |_=>0
def fX.gB:fX->Nat
 |.fC p=>p.tT
 |_=>0
def jN.kS:jN->Nat
 |.jK|.iG=>1
 |_=>0
def iq.kS:iq->Nat
 |.pA=>1
 |.fZ p=>p.kS
 |_=>0
def iq.oS:iq->Prop
 |.pA=>False
 |_=>True
def my:Option iq->Nat
 |none=>1
 |some e=>e.kS
def jN.iy:jN->Prop
 |.jK=>False
 |_=>True
def iq.iy:iq->Prop
 |.pA=>False
 |.fZ p=>p.iy
 |_=>True
def jF.md:jF->Nat
 |.kR k=>k
 |.mk k=>k-1
 |.dn k _=>k
def jF.rl:jF->Nat
 |.kR k=>k
 |.mk k=>k-1
 |.dn k .jK=>k-1
 |.dn k _=>k
def jF.od:jF->Nat
 |.kR k=>k
 |.mk k=>k-1
 |.dn k .jK|.dn k .iG=>k-1
 |.dn k _=>k
def gP.iW:gP->Nat
 |.nL r=>r
 |.fC r _|.gL r|.ox r=>r+1
def gP.ky:gP->Nat
 |.nL r|.fC r _|.gL r|.ox r=>r
def gP.gB(F:Ph)(j:Nat)(k:Nat):gP->Nat
 |.fC r p=>if F.r (j+r*F.n)=k then p.tT else 0
 |_=>0
structure fW(F:Ph) where
 M:fX
 S:jF
 C:Nat->gP
 N:Nat->Option iq
 I:Nat->Nat
 c:Nat->F.γ
 V:Nat->Nat->Prop
 e:Nat->Nat
 d:Nat->Option Nat
 f:Nat->Nat
 b:GS
 a:Nat->GS
 g:Option Nat
 h:Nat->Nat
section
variable{F:Ph}
def fW.r(E:fW F):Nat:=E.M.sp F.n
def fW.G(E:fW F)(x:Nat):Nat:=if x<E.M.ad F.n then my (E.N x)else 0
def fW.iy(E:fW F)(x:Nat):Prop:=∃e,E.N x=À e/\e.iy
def fW.oS(E:fW F)(x:Nat):Prop:=∃e,E.N x=À e/\e.oS
def fW.Y(E:fW F)(b:Nat):Prop:=F.M b\/b=F.Y\/∃j,j+2<=E.r/\b=E.I j
def u5(n j Q s:Nat):Prop:=∀i,i<s↔j+i*n<Q
def kM:fX->iD
 |.fC .kH=> .iE
 |_=> .no
def kW(F:Ph)(c:Nat):gP->iD
 |.nL _=> .tR c F.z
 |.fC _ .kH=> .iE
 |_=> .no
end
structure Ph.Ok(F:Ph):Prop where
 N:1<=F.n
 r:1<=F.L
 oz:F.n+F.q+F.m<1000
 I:∀i,i<F.q->F.r i<=F.m
 M:∀k,k<=F.m->F.I k≠F.C
 S:∀k k',k<=F.m->k'<=F.m->F.I k=F.I k'->k=k'
 C:¬F.M F.Y
 a:∀i i',i<F.q->i'<F.q->F.a i=F.a i'->i=i'
 pi:∀k k',1<=k->k<=F.m->1<=k'->k'<=F.m->F.b k=F.b k'->k=k'
 PV:∀i k,i<F.q->1<=k->k<=F.m->F.a i≠F.b k
 gh:∀b,F.M b\/b=F.Y->F.S<=b
 Y:(∀k,1<=k->k<=F.m->F.b k≠F.f)/\∀i,i<F.q->F.a i≠F.f
structure iN(F:Ph)(E:fW F)(lot:Nat->fe)(sz:Nat)(w:Æ):Prop where
 gU:∀i,i<sz->∀a,(lot i).C a->(∃k,k<=F.m/\a=jk F.toFx k)\/∃p,p≠F.f/\a=ju F p
 o:∀x,E.r<=x->x<=F.n->∀a,mf F x a->(lot 0).r a
 mb:E.r<=F.n->(lot 0).N (jk F.toFx 0)/\∀b,F.i b->(lot 0).I b
 e:0<E.r->∀k,E.S.md<k->k<=F.m->(lot F.L).r (jk F.toFx k)/\(lot F.L).r (ju F<|F.b k)
 f:0<E.r->E.N 0=ë->(lot F.L).N (jk F.toFx E.S.md)/\∀b,E.V E.S.md b->(lot F.L).I b
 h:∀j,j+2<=E.r->E.N (j+1)=ë->∀r,j+r*F.n<F.q->(E.C j).ky<=r->(lot<|F.L+1+j).r (ju F<|F.a<|j+r*F.n)
 l:∀j,j+2<=E.r->E.N (j+1)=ë->(lot<|F.L+1+j).N (jk F.toFx 0)/\∀b,F.i b->(lot<|F.L+1+j).I b
 S:∀x,E.oS x->lot (F.L+x)=kI (lot<|F.L+x)
 M:∀i,(i=0\/∃x,x<E.r/\i=F.L+x/\¬E.oS x)->¬(lot i).q
 c:∀i,0<i->i<F.L->lot i=kI (lot i)
 I:∀k,k<=E.S.md->∀b,E.V k b->b<w.heap.size/\¬E.Y b/\∀i,i<sz->¬(lot i).O b
 N:∀k,k<=E.S.md->∀i,i<sz->¬(lot i).r (jk F.toFx k)
 g:∀k,1<=k->k<=E.S.md->∀i,i<sz->¬(lot i).r (ju F<|F.b k)
 d:∀j,j+2<=E.r->∀r,j+r*F.n<F.q->r<(E.C j).ky->∀i,i<sz->¬(lot i).r (ju F<|F.a<|j+r*F.n)
structure Wd(F:Ph)(E:fW F)(w:Æ):Prop where
 C:ik w F.C E.b
 I:∀k,k<=F.m->ik w (F.I k) (E.a k)
 jO:∀j,j+2<=E.r->∃buf s,w.heap[E.I j]?=À (χ F.q buf (decide<|j<E.M.jj F.n) s (E.C j).iW Ã)/\u5 F.n j (E.M.mJ F.q) s/\(E.C j).iW<=s/\buf.size=s-(E.C j).iW/\∀i,i<s-(E.C j).iW->buf[i]?=À (F.c<|j+((E.C j).iW+i)*F.n)
 M:∀k,k<=E.S.md->nN F k (E.c k)/\F.d k (E.c k) (E.V k) w
 S:∀k,1<=k->k<=E.S.md->w.cell? (ju F<|F.b k)=À (ħ<|F.o k)
 N:∀j,j+2<=E.r->∀r,j+r*F.n<F.q->r<(E.C j).ky->w.cell? (ju F<|F.a<|j+r*F.n)=À (ħ<|F.k<|j+r*F.n)
structure Ps(F:Ph)(E:fW F):Prop where
 v:E.V 0=F.i
 C:∀j,E.M=.go j\/E.M=.lO j\/E.M=.rd j\/E.M=.iG j->j<=F.n
 K:∀j,E.M=.lO j\/E.M=.rd j\/E.M=.iG j->1<=j
 L:∀r,(E.M=.iQ r->r<=F.q)/\(E.M=.kZ r->r<=F.n)
 J:E.r=0->E.S=.kR 0
 I:∀k,(E.S=.kR k->k<=F.m)/\(E.S=.mk k->1<=k/\k<=F.m)/\(∀p,E.S=.dn k p->1<=k/\k<=F.m)
 z:∀j,E.r<j+2->E.C j=.nL 0
 d:∀j r,j+2<=E.r->((∃p,E.C j=.fC r p)\/E.C j=.gL r\/E.C j=.ox r)->j+r*F.n<F.q
 l:∀j,j+2<=E.r->E.N (j+1)≠ë->j<E.M.jj F.n/\∃r,E.C j=.nL r/\∀i,j+i*F.n<F.q->i<r
 f:E.N 0≠ë->E.S=.kR F.m
 h:∀x,E.r<=x->E.N x=ë
 M:∀j j',j+2<=E.r->j'+2<=E.r->E.I j=E.I j'->j=j'
 o:∀j,j+2<=E.r->¬F.M (E.I j)/\E.I j≠F.Y/\F.S<=E.I j
 t:∀c reg,E.b=.cl c reg->c=bE (F.n+1) E.G/\reg=E.M.gB
 g:∀reg,E.b=.jM reg->bE (F.n+1) E.G=0/\reg=E.M.gB/\∃x,x<E.r/\E.g=À x/\(E.N x=À (.fZ (.gw reg))\/E.N x=À (.fZ (.jg reg)))
 u:∀r s,E.b=.gZ r s->bE (F.n+1) E.G=0/\r+s=E.M.gB/\(0<r->∃x,x<E.r/\E.g=À x/\E.N x=À (.fZ (.iE r)))
 N:∀x p,E.N x=À (.fZ p)->(∀W,p=.gw W\/p=.jg W->E.g=À x/\E.b=.jM W)/\(∀r,p=.iE r->0<r/\E.g=À x/\∃s,E.b=.gZ r s)
 B:E.M=.fC .gw\/E.M=.fC .ly\/E.M=.fZ->bE (F.n+1) E.G=0
 e:∀k,1<=k->k<=F.m->E.S.od<k->E.a k=.cl 1 (bE F.n λj=>(E.C j).gB F j k)
 Y:∀k,k<=F.m->k<=E.S.od->(∃W,(E.S=.dn k (.gw W)\/E.S=.dn k (.jg W))/\E.a k=.jM W/\W=bE F.n λj=>(E.C j).gB F j k)\/(∃r s,E.S=.dn k (.iE r)/\0<r/\E.a k=.gZ r s/\r+s=bE F.n λj=>(E.C j).gB F j k)\/((∀p,E.S≠ .dn k p)/\((E.a k=.cl 0 0/\(bE F.n λj=>(E.C j).gB F j k)=0)\/∃s,E.a k=.gZ 0 s/\s=bE F.n λj=>(E.C j).gB F j k))
 w:∀j r,j+2<=E.r->(E.C j=.fC r .gw\/E.C j=.fC r .ly\/E.C j=.gL r)->F.r (j+r*F.n)<=E.S.od
 H:∀j r,j+2<=E.r->E.C j=.fC r .gw->∃a b,E.a (F.r<|j+r*F.n)=.gZ a b
 O:E.M=.fC .gw->∃a b,E.b=.gZ a b
 S:(∀p,E.M≠ .fC p)->E.M≠ .fZ->∃c,E.b=.cl c 0
 y:∀k,k<=F.m->E.a k=.cl 1 0->E.d k=ë
 D:∀j r,j+2<=E.r->E.C j=.fC r .wr->E.d (F.r<|j+r*F.n)=À j
def fq(F:Ph)(E:fW F)(a:Array Ó)(w:Æ):Prop:=∀i g,a[i]?=À g->g.status=Ů->
 (i=0/\E.M=.fC .kH/\E.b.sm=0)\/(∃j,j+2<=E.r/\E.N (j+1)=ë/\i=F.L+1+j/\((∃r,E.C j=.fC r .kH/\(E.a<|F.r<|j+r*F.n).sm=0)\/∃r b s c,E.C j=.nL r/\w.heap[E.I j]?=À (χ b #[] Ã s c Ã)))
structure PI(F:Ph)(t0:Nat)(jr:dP->Prop)(E:fW F)(S:Nat->Jd)(tr:Nat->gl)(kp:Nat->iD)(lot:Nat->fe)(gs:Array Ó)(w:Æ)(t:ğ):Prop where
 b:gs.size=F.L+E.r
 I:gM F.P F.S E.Y S tr kp lot gs w t
 h:S 0=JM F E.I E.M/\kp 0=kM E.M
 m:0<E.r->E.N 0=ë->S F.L=JI F E.c E.S/\kp F.L=.no
 g:∀j,j+2<=E.r->E.N (j+1)=ë->S (F.L+1+j)=JW F (E.I j) j (E.C j)/\kp (F.L+1+j)=kW F (E.I j) (E.C j)
 k:∀x e,x<E.r->E.N x=À e->S (F.L+x)=JE F e/\kp (F.L+x)=.no/\((∃N,e=.jz N)->tr (F.L+x)=.fD)
 l:∀i,0<i->i<F.L->S i=p8 F.P (E.h i)/\tr i=.fD/\kp i=.no
 a:iN F E lot gs.size w
 M:Wd F E w
 C:Ps F E
 d:TI F.toFx t0 jr E.r (E.S.rl) E.V E.e E.d E.iy E.f t
 c:fq F E gs w
 f:∀j r,j+2<=E.r->E.C j=.gL r->1<=F.r (j+r*F.n)->bD t (F.L+1+j) (E.e<|F.r<|j+r*F.n)
structure gT(F:Ph):Prop where
 C:F.Ok
 S:∀k s V w w',F.d k s V w->(∀b,V b->w'.heap[b]?=w.heap[b]?)->w'.cell? (jk F.toFx k)=w.cell? (jk F.toFx k)->w'.cell? (ju F F.f)=w.cell? (ju F F.f)->kY w' F.Y=kY w F.Y->(w'.os=w.os/\w'.output=w.output)->F.d k s V w'
 GR:∀j dk l g w₁,F.g j dk l g->fI l l.w w₁->F.g j dk {l with w:=w₁} g
 I:∀j dk l g,F.g j dk l g->g.status=Ð
 N:∀k l g,F.h k l g->g.status=Ð
 Y:∀c i l g,F.e c i l g->g.status=Ð
 M:∀dk l g,F.j dk l g->g.status=Ð
 go:∀j dk l g,j<=F.n->F.g j dk l g->gq l->l.d=0/\∃(g' child:Ó) (X:Nat->Prop),g'.status=Ð/\child.status=Ð/\(∀w₁,Ù F.P É g w₁=.spawn g' child w₁ #[])/\(∀b,X b->l.O b)/\
  (1<=j->l.O (dk<|j-1)/\¬X (dk<|j-1)/\l.w.heap[dk<|j-1]?=À (χ F.q #[] Ã 0 0 Ã)/\F.S<=dk (j-1))/\
  (∀l':fe,gq l'->(∀b,X b\/l.I b->l'.I b)->l'.w=l.w->l'.d=0->¬l'.q->(∀b,¬l'.O b)->l'.K=l.K->l'.N=l.N->(∀a,l'.r a->l.r a)->fi F.P Ã (if j=0 then F.h 0 else En F (dk<|j-1) (j-1) 0) l' child)/\
  (∀l':fe,gq l'->l'.O=(λb=>l.O b/\¬X b/\(1<=j->b≠dk (j-1)))->(∀b,X b\/l.I b->l'.I b)->l'.w=l.w->l'.d=0->l'.q=l.q->l'.K=l.K->l'.N=l.N->(∀a,l'.r a->l.r a)->fi F.P É (JM F dk<|if j<F.n then .iG (j+1)else .iQ F.q) l' g')
 e:∀k s V l g,k<F.m->F.h k l g->gq l->nN F k s->F.d k s V l.w->(∀b,V b->l.I b)->l.N (jk F.toFx k)->l.r (jk F.toFx<|k+1)->l.r (ju F<|F.b<|k+1)->∀sg:Nat->F.γ,sg k=s->fi F.P Ã (JI F sg<|.mk (k+1)) l g
 f:∀l g,F.h F.m l g->gq l->fi F.P Ã (BO F) l g
 gL:∀c j r s V l g,j+r*F.n<F.q->F.e c (j+r*F.n) l g->∀l':fe,gq l'->l'.O=l.O->(∀b,l.I b\/V b->l'.I b)->l'.w=l.w->l'.d=l.d->l'.q=l.q->l'.r=l.r->l'.K=l.K->nN F (F.r<|j+r*F.n) s->F.d (F.r<|j+r*F.n) s V l.w->l'.N (jk F.toFx<|F.r<|j+r*F.n)->l'.r (ju F<|F.a<|j+r*F.n)->fi F.P Ã (JW F c j<|.ox r) l' g
end Go.Proofs.Y.fA
