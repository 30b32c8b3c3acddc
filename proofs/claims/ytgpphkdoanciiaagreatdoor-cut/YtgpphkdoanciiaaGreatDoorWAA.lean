/- Cut: the texts of the proof, packed by program out of some 230: remarks struck, names and blanks shortened, for the sake of a claim's size alone. -/
import Derived.KernelRfl
import Derived.Conc.Own
import Derived.Conc.Events
import Derived.Laws.Sem
import Derived.Conc.Own5
import Derived.Conc.CompanyDraw
import Derived.Conc.Know
import Derived.Conc.Beside
import Derived.Conc.MarkLaws
import Derived.Conc.CrowdComm
import Derived.Conc.CrowdTrace
import Derived.Conc.CrowdBase
set_option linter.all false
set_option maxRecDepth 1000000
set_option maxHeartbeats 8000000
open Option renaming some->À,none->í,map_eq_some_iff->đ,map_some->Ů
open Go renaming TypeId->Á,Value->Ã,World->È,Goroutine->Ô,Program->Ù,Operand->Ú,Addr->Ü,stepG->Ý,FuncId->ã,execOp->î,underlying->ù,typeInfo->þ,run_program->ÿ,resolve->Ă,variablesAt->Ą,IntKind->Ć,Event->ĉ,loadBytes->Ė,invoke->Ę,builtin->ĝ,Sem->Ğ,zeroValue->Ġ,Frame->ģ,Trace->ī,BinOp->ĭ,results->İ,behindNumber->Ļ,FloatKind->ľ,callFunc->Ń,askRoom->Ň,newRow->ō,undef->ŏ,choose->Ŗ,yielded->ŗ,sizeOf->Ŝ,storeCells->ŝ,elemOf->Ş,loadCellsFrom->Š,convert->Ŧ,movedNumber->ũ,Item->ű,movedPointer->ŷ,binOp->Α,sameAddr->Δ,deafBehind->Ε,lone->Η,eqGuard->Ο,partners->ο,RuntimeError->υ,Next->ae,cellAtBytes->ay,Tape->aG,loadVar->aH,Code->aQ,store->aR,Oper->aT,BoundsCode->aU,storeVar->bm,nilAhead->bA,load->bF,noView->bG,liesAt->bH,findLabel->bK,stringish->bN,Unsupported->bQ,followBlind->bS,Act->bZ,step->cw,Machine->cA,Question->cC,asBool->cE,asAddr->cF,fieldPlace->cG,viewAt->cJ,numberAt->cK,asNumber->cL,getObj->cO,shape->cP,exitTo->cW,gotoIn->cX,freeze->de,mayBeOne->df,runT->dz,MemOp->dA,loadCells->dB,rowAt->dC,program->dE,asIntOf->dF,byteOf->dI,unwind->dN,runN->dO,cellsIn->dP,asInt->dU,TypeDesc->dY,runN_add->ef,Touch->ei,Loc->ew,mark->ey,newObj->eE,PanicEntry->eK,isAgg->eR,Race->eZ
open Bool renaming false->Â,false_eq_true->Ç,true->Ë,and_eq_true_iff->Þ,not_true->ċ,not_false->ď,and_eq_true->ĕ,or_eq_true_iff->ŀ,eq_iff_iff->Ŋ,or_eq_true->ů
open Array renaming getElem?_eq_some_iff->Ä,getElem?_setIfInBounds_ne->É,getElem?_setIfInBounds_self_of_lt->Ó,mem_of_getElem?->Ø,getElem?_eq_getElem->ß,getElem?_modify->à,getElem?_append_right->Ā,getElem?_setIfInBounds->Đ,empty_append->ę,append_empty->Ě,mapM_eq_mapM_toList->ğ,mem_append->ħ,mem_zipIdx_iff_getElem?->Į,getElem?_push_lt->į,getD_eq_getD_getElem?->Ĵ,all_eq_true->ĵ,range->Ķ,replicate->ŋ,append_assoc->Ō,getElem?_eq_none->Œ,append_singleton->ŕ,mem_iff_getElem->ś,mem_toList_iff->ŭ,getElem_map->Ξ,getElem_extract->av,toList_zipIdx->aK,getElem?_push->aL,foldl_toList->aW,forIn_toList->bg
open Go.Sem renaming run_bind->Å,runT_bind'->Ð,run->ä,runT->ç,bind->è,run_bind'->ł,bind_assoc'->Ű,runT_fst->Ÿ,runT_eq->Υ,pure->bl,store->dD,halt->eP
open Or renaming inl->Æ,inr->Í
open Go.Result renaming andThen_ok->Ê,ok->ı,halt->cD
open Go.Op renaming operands->Ì,equal->û,maxDepth->Ď,eqGuardIn->ļ,twoPlaces->Ŷ,equalIn->φ,addrSub->χ,addrCmp->ψ,addrMod->ω,call->ah,intDiv->aJ,shift->bn,convert->br,stringOp->bR,unary->cI,makeInterface->dc,floatArith->du,complexOp->dJ,buildSlice->dV,intArith->dW,floatCmp->dX,binOp->ez,makeSlice->eA,fieldAddr->eB,indexAddr->eC,intBits->eF,nilCheck->eW,intCmp->eX
open Go.stepG renaming exec->Î,apply->bW
open Go.MemOp renaming ofEvents->Ï
open Go.GoStatus renaming running->Ñ,finished->Ī,blocked->Ζ
open Go.Value renaming pointer->Ò,slice->ø,int->ē,string->Ĥ,bool->Ŏ,tuple->η,nilIface->bE,nilFunc->cB,chan->eO
open Nat renaming lt_of_lt_of_le->Õ,le_refl->á,le_trans->ö,exists_eq_add_of_le->Ő,div_le_div_right->az,add_assoc->dq,le_of_eq->dS,zero_le->dT
open Go.Builtin renaming firstCells->Ö,unsafeString_->ò,unsafeAdd_->ô,zeroCells->ú,unsafeSliceData_->Ģ,mayShare->Ĩ,nextslicecap->ķ,min2->Ŀ,append_->ň,min_->Ř,copy_->ť,len_->Ŵ,cap_->ŵ,lenOf->ι,holdsCells->aY,unsafeSliceData->bM,unsafeString->dy
open List renaming map_toArray->Û,map_cons->æ,map_nil->é,mem_cons_self->ð,mem_cons_of_mem->õ,eq_nil_of_length_eq_zero->č,zipIdx_cons->Ĺ,mem_cons->ŧ,mem_singleton->Γ,foldlM_cons->ξ,filter_eq_nil_iff->ag,foldlM_nil->aj,forIn_cons->ak,mapM_cons->ax,forIn_nil->aE,map_eq_nil_iff->aO,flatMap_cons->bD,mapM_nil->dt
open Go.IntKind renaming i64->â,u64->ë,u32->ū
open Go.Item renaming inRegion->å,code->ě,inLoop->dK,inBlock->dZ,inScope->ec
open Go.Act renaming eval->ê
open Go.MemAct renaming ofEvent->ì,touch?->Č,mark->Ŭ
open Go.Conc renaming mem_ofEvents->ï,touchAt->Ħ,crowd->ņ,woken->Ź,stepG_region_draw->Χ,parked->ν,Deaf->af,rcase->ar,stepG_unwanted->aD,lt_size_of_getElem?->aP,g?_old->bj,knows_own->bO,deafBehind_still->bP,stepG_value->bU,stepG_enter->bV,Knows->bX,stepG_cond->cZ,mem_listed->c8,stepG_none->c9,enter_at->da,deaf_old->dm,touch_of->ek,act?_old->eu,hb_app->eL,touch_mute->eM,counts_old->eN,act?_of->eV
open Go.Next renaming value->ñ,enter->Β,skip->bk
open Go.TypeDesc renaming pointer->ó,unsafePointer->Ĝ,string->ĥ,int->κ,struct->dG,slice->dH
open Go.Call renaming operands->ü
open Go.Conv renaming unsafePointer->ý,bytesToString->Ĉ,seenAt->ε,runesToString->bh,floatToFloat->bz,intToString->bJ,floatToInt->cj,intToInt->dw
open Go.World renaming setCell->ā,frozen?->Ċ,freeze->ġ,cell?->Ĭ,farLoad->ş,farStore->Ż,shape?->ς,setChan->aS,noCell->bx,viewStore->cg
open Ne renaming symm->ă
open Option.some renaming inj->ą,injEq->ζ
open Go.Loc renaming cell->ć,mark->Θ
open Go.Extern.BytealgMakeNoZero renaming makeNoZero->Ē,digits->Ś
open Go.Mode renaming atomic->Ĕ,plain->ź
open Go.Obj renaming cells->ė,pending->Ρ,chan->aF
open Go.Callee renaming builtin->ĩ,value->cM
open Go.Region renaming wanted->Ĳ,schedule->cu,Mode->ZnI
open Go.Instr renaming sliceBounds->ĳ,sliceBound->ĸ,buildSlice->ĺ,storeAt->Ł,makeSlice->ŉ,extract->š,fieldAt->Ţ,indexAt->ţ,sliceAt->Ť,makeInterface->Ų,loadAt->ų,sureAddr->ż,fill->Ž,alloc->Ι,field->Κ,slice->Λ,index->Μ,build->Ν,panic->Ω,box->aI
open Go.Deferred renaming ofValue->Ľ
open Go.Stepped renaming next->ń
open Go.Mark renaming releaseMerge->Ņ,noRoom->π,disable->dh,acquire->di,enable->dR,release->ep
open Go.Extern.AbiNoEscape renaming same->ő
open Go.Halt renaming unsupported->œ
open Go.Unsupported renaming unsafePointer->Ŕ,resourceLimit->ſ,noEntry->cH
open Go.Trace renaming g?->ř
open Go.Touch.Kind renaming atomic->Ũ
open Go.Frame renaming raise->Ū,finish_at->ai,finish->bC,catches->dx,enter->eg
open Go.Question renaming appendCap->ž
open Go.GStep renaming after->Τ,go->bB
open Go.RuntimeError renaming error->θ
open Go.Goroutine renaming again->au
open Except renaming bind->aA,pure->aB,error->b9,map->cN
open Go.Op.Complex renaming corrected->aC,quotient->aN,product->aZ,arith->bI,conv->cm,cmp->cQ,mul->cR,add->cS,sub->cT,quo->cU
open Go.BinOp renaming eql->aX,neq->bq
open Go.Operand renaming func->bu,const->eD,global->eS
open Go.Code renaming cond->bT,region->cz,refuse->dM,label->eG,block->eH,scope->eI
open Go.ConcN renaming sumTo->bY,fork_knows->dp
variable{i n j b k m J j9 j7 j6:Nat}{w u W jX:È}{v x z jQ:Ã}{g:Ô}{a p:Ü}{h c:Int}{e t T:Á}{d q:Array Ã}{P:Ù}{y:bZ}{B:ByteArray}{X:Nat->Prop}{O:Option Ü}{l:List Ã}{yQ:Bool}{K H:bZ->È->Prop}{o:aT}{D:Nat->Nat}{E:Array Ô}{L:List ű}{jJ:List Nat}{qX:List ģ}{qQ:Ú}{qJ:ī}{zX:ew->Prop}{zQ:List Int}{zJ:Go.TypeInfo}{xX:Ú->Ã}{xQ:aG}{xJ:Nat×Nat}{wX:aQ}{wQ:dA}{wJ:Array Bool}{vX:List ByteArray}{vQ:Ã->È->Prop}{vJ:Go.Exit->bZ->È->Prop}{yX:ZnI}{Q:Array aT}{f:ģ}{V:Array ĉ}{F:ã}{s:Go.Func}
namespace Go.Proofs
theorem U{A:Sort _}{a:A}:a=a:=rfl
theorem Z{p:Prop}(h:p:=by omega):p:=h
theorem A{p:Prop}(h:p:=by decide):p:=h
theorem ft{p:Prop}(h:p:=by simp):p:=h
theorem fw{p:Prop}(h:p:=by kernel_rfl):p:=h
theorem fR{p:Prop}(h:p:=by rfl):p:=h
end Go.Proofs
namespace Go.Proofs.Y.Lift
open Go
structure fv where
 jH:Nat->Nat->Prop
 C:Nat
instance:CoeFun fv λ_=>Nat->Nat->Prop:=⟨fv.jH⟩
def Bi(ρ:fv):Prop:=(∀i j a,ρ i j->ρ i a->j=a)/\(∀i a j,ρ i j->ρ a j->i=a)/\(∀i j,ρ i j->(i<ρ.C↔j<ρ.C))
def fv.r(ρ a:fv):Prop:=(∀i j,ρ i j->a i j)/\(Bi ρ->Bi a)/\a.C=ρ.C
def fv.N(ρ:fv)(r a:Nat):fv:=⟨λi j=>ρ i j\/(i=r/\j=a),ρ.C⟩
def fv.M(ρ:fv):ρ.r ρ:=⟨λ_ _ h=>h,id,U⟩
def fv.I{a b c:fv}(h:a.r b)(k:b.r c):a.r c:=⟨λi j x=>k.1 i j<|h.1 i j x,λx=>k.2.1<|h.2.1 x,k.2.2.trans h.2.2⟩
def fv.S{ρ:fv}{r:Nat}(c:∀j,¬ρ r j)(d:∀a,¬ρ a i)(f:ρ.C<=r)(g:ρ.C<=i):ρ.r (ρ.N r i):=by
 refine⟨λ_ _ h=>Æ h,λb=>⟨?_,?_,?_⟩,U⟩
 .rintro a j k (x|⟨rfl,rfl⟩) (y|⟨e,rfl⟩)
  .exact b.1 _ _ _ x y
  .subst e;exact absurd x<|c _
  .exact absurd y<|c _
  .rfl
 .rintro a k j (x|⟨rfl,rfl⟩) (y|⟨rfl,e⟩)
  .exact b.2.1 _ _ _ x y
  .subst e;exact absurd x<|d _
  .exact absurd y<|d _
  .rfl
 .rintro a j (x|⟨rfl,rfl⟩)
  .exact b.2.2 _ _ x
  .show(a<ρ.C↔j<ρ.C);omega
def hD(ρ:fv)(a b:Ü):Prop:=ρ a.block b.block/\a.off=b.off/\a.spot=b.spot
def hD.r{ρ b:fv}(h:ρ.r b)(r:hD ρ a p):hD b a p:=⟨h.1 _ _ r.1,r.2⟩
def hD.C{ρ:fv}(r:hD ρ a p)(n:Nat):hD ρ (a.add n) (p.add n):=by
 let⟨b,c,d⟩:=r;unfold Addr.add;by_cases e:n=0
 .rw[if_pos e,if_pos e];exact⟨b,c,d⟩
 .rw[if_neg e,if_neg e];exact⟨b,by simp[c],U⟩
inductive fq(ρ:fv):Ã->Ã->Prop
 |my (b:Bool):fq ρ (Ŏ b) (Ŏ b)
 |iK (k:Ć) (n:Int):fq ρ (ē k n) (ē k n)
 |kS (s:ByteArray):fq ρ (Ĥ s) (Ĥ s)
 |lM:fq ρ (Ò í) (Ò í)
 |jZ {a a':Ü} (h:hD ρ a a'):fq ρ (Ò<|À a) (Ò<|À a')
 |nS (n c:Nat):fq ρ (ø í n c) (ø í n c)
 |kT {a a':Ü} (h:hD ρ a a') (n c:Nat):fq ρ (ø (À a) n c) (ø (À a') n c)
 |vd:fq ρ cB cB
 |fn (f:Fn):fq ρ (.func f #[] #[]) (.func f #[] #[])
 |ve:fq ρ bE bE
 |vf:fq ρ (eO í) (eO í)
 |vg:fq ρ (.map í) (.map í)
 |yc (t:Á) {v v':Ã} (h:fq ρ v v'):fq ρ (.iface t v) (.iface t v')
 |oM {cs lN:Array Ã} (hs:cs.size=lN.size) (h:∀i (h1:i<cs.size) (h2:i<lN.size),fq ρ cs[i] lN[i]):fq ρ (.agg cs) (.agg lN)
 |nT {cs lN:Array Ã} (hs:cs.size=lN.size) (h:∀i (h1:i<cs.size) (h2:i<lN.size),fq ρ cs[i] lN[i]):fq ρ (η cs) (η lN)
def fq.fQ{ρ a:fv}(h:ρ.r a)(r:fq ρ v x):fq a v x:=by
 induction r with
 |my b=>exact .my b
 |iK k n=>exact .iK k n
 |kS s=>exact .kS s
 |lM=>exact .lM
 |jZ b=>exact .jZ (b.r h)
 |nS n c=>exact .nS n c
 |kT b n c=>exact .kT (b.r h) n c
 |vd=>exact .vd
 |fn f=>exact .fn f
 |ve=>exact .ve
 |vf=>exact .vf
 |vg=>exact .vg
 |yc t _ b=>exact .yc t b
 |oM c _ b=>exact .oM c b
 |nT c _ b=>exact .nT c b
structure fT(ρ:fv)(cs lN:Array Ã):Prop where
 r:cs.size=lN.size
 C:∀i (h1:i<cs.size) (h2:i<lN.size),fq ρ cs[i] lN[i]
def fT.I{ρ a:fv}(h:ρ.r a){cs:Array Ã}(r:fT ρ cs d):fT a cs d:=⟨r.r,λi b c=>(r.C i b c).fQ h⟩
def fT.S{ρ:fv}(r:fT ρ d q)(i:Nat):(d[i]?=í/\q[i]?=í)\/∃v b,d[i]?=À v/\q[i]?=À b/\fq ρ v b:=by
 by_cases h:i<d.size
 .have a:i<q.size:=by rwa[<-r.r]
  exact Í ⟨d[i],q[i],ß h,ß a,r.C i h a⟩
 .have a:¬i<q.size:=by rwa[<-r.r]
  exact Æ ⟨Œ Z,Œ Z⟩
def fT.N(ρ:fv):fT ρ #[] #[]:=⟨U,λi h=>absurd h ft⟩
def fT.UT{ρ:fv}(r:fT ρ d q)(h:fq ρ v x):fT ρ (d.push v) (q.push x):=by
 refine⟨by simp[r.r],λi b c=> ?_⟩;simp only[Array.getElem_push];have e:=r.r;by_cases a:i<d.size
 .rw[dif_pos a,dif_pos Z];exact r.C i a Z
 .rwa[dif_neg a,dif_neg Z]
def fT.G{ρ:fv}(r:fT ρ d q)(n:Nat)(h:fq ρ v x):fT ρ (d.setIfInBounds n v) (q.setIfInBounds n x):=by
 refine⟨by simp[r.r],λi c f=> ?_⟩;have g:i<d.size:=by simpa using c
 have j:i<q.size:=by simpa using f
 have a:(d.setIfInBounds n v)[i]?=if n=i then À v else d[i]?:=by
  rw[Đ];by_cases e:n=i
  .rw[if_pos e,if_pos e,if_pos Z]
  .rw[if_neg e,if_neg e]
 have b:(q.setIfInBounds n x)[i]?=if n=i then À x else q[i]?:=by
  rw[Đ];by_cases e:n=i
  .rw[if_pos e,if_pos e,if_pos Z]
  .rw[if_neg e,if_neg e]
 rw[ß c]at a;rw[ß f]at b;by_cases e:n=i
 .rw[if_pos e]at a b;injection a with a;injection b with b;rwa[a,b]
 .rw[if_neg e]at a b;rw[ß g]at a;rw[ß j]at b;injection a with a;injection b with b;rw[a,b];exact r.C i g j
def fT.Y{ρ:fv}{cs b:Array Ã}(r:fT ρ cs d)(t:fT ρ q b):fT ρ (cs++q) (d++b):=by
 refine⟨by simp[r.r,t.r],λi c g=> ?_⟩;have e:=r.r;have f:=t.r;simp only[Array.getElem_append];by_cases a:i<cs.size
 .rw[dif_pos a,dif_pos Z];exact r.C i a Z
 .rw[dif_neg a,dif_neg Z];have:=t.C (i-cs.size) (by simp at c;omega) (by simp at c;omega);simpa[e]using this
def fT.Gr{ρ:fv}(r:fT ρ d q)(a b:Nat):fT ρ (d.extract a b) (q.extract a b):=by have e:=r.r;refine⟨by simp[e],λi c f=> ?_⟩;have g:(d.extract a b)[i]=d[a+i]'(by simp at c;omega):=av ..;have h:(q.extract a b)[i]=q[a+i]'(by simp at f;omega):=av ..;rw[g,h];exact r.C _ _ _
def fT.M{ρ:fv}(h:fq ρ v x):fT ρ #[v] #[x]:= ⟨U,λi a b=>by have:i=0:=(by simpa using a);subst this;exact h⟩
def fq.gX{ρ:fv}(h:fq ρ v x):fT ρ v.cells x.cells:=by
 cases h with
 |oM a h=>exact⟨a,h⟩
 |my b=>exact fT.M<|.my b
 |iK k n=>exact fT.M<|.iK k n
 |kS s=>exact fT.M<|.kS s
 |lM=>exact fT.M .lM
 |jZ b=>exact fT.M<|.jZ b
 |nS n c=>exact fT.M<|.nS n c
 |kT b n c=>exact fT.M<|.kT b n c
 |vd=>exact fT.M .vd
 |fn f=>exact fT.M<|.fn f
 |ve=>exact fT.M .ve
 |vf=>exact fT.M .vf
 |vg=>exact fT.M .vg
 |yc t b=>exact fT.M<|.yc t b
 |nT a h=>exact fT.M<|.nT a h
def yd:Ã->Bool
 |.agg _|η _=>Â
 |_=>Ë
def Gs(e:Á)(n:Nat):Prop:=(e=304\/e=305)/\n<=16
class Ag (P:Ù):Prop where
 lt:∀e n,Gs e n->n<P.cellsOf e
def DY(e:Á)(n a:Nat):Prop:=n=a\/(n<=a/\Gs e n)
structure po(ρ:fv)(s:Prop)(e:Á)(c c':Array Ã):Prop where
 r:∀i (_:i<c.size) (_:i<c'.size),fq ρ c[i] c'[i]
 I:c.size<=c'.size
 C:c.size=c'.size\/(s/\Gs e c.size)
section
variable{ρ d:fv}{s:Prop}{c c':Array Ã}
def po.M(h:fT ρ c c'):po ρ s e c c':=⟨h.C,by rw[h.r];exact á _,Æ h.r⟩
def po.N(h:po ρ s e c c')(a:¬s):fT ρ c c':=⟨h.C.resolve_right λq=>a q.1,h.r⟩
def po.fQ(h:po ρ s e c c')(l:ρ.r d):po d s e c c':=⟨λi a b=>(h.r i a b).fQ l,h.I,h.C⟩
def po.Ah(h:po ρ s e c c')(i:Nat):(c[i]?=í/\True)\/∃v a,c[i]?=À v/\c'[i]?=À a/\fq ρ v a:=by
 by_cases q:i<c.size
 .have b:=Õ q h.I;exact Í ⟨c[i],c'[i],ß q,ß b,h.r i q b⟩
 .exact Æ ⟨Œ Z,trivial⟩
def po.acu(h:po ρ s e c c'):DY e c.size c'.size:=h.C.imp id λq=>⟨h.I,q.2⟩
end
inductive fJ(P:Ù){α:Type}(V:fv->α->α->Prop):fv->Ğ α->Ğ α->Prop
 |fH {ρ:fv} {a a':α} (h:V ρ a a'):fJ P V ρ (bl a) (bl a')
 |gG {ρ:fv} {a a':Ü} {k k':Ã->Ğ α} (ha:hD ρ a a') (hk:∀v v',fq ρ v v'->fJ P V ρ (k v) (k' v')):fJ P V ρ (.load ź a k) (.load ź a' k')
 |jf {ρ:fv} {a a':Ü} {v v':Ã} {k k':Ğ α} (ha:hD ρ a a') (hv:fq ρ v v') (hk:fJ P V ρ k k'):fJ P V ρ (dD ź a v k) (dD ź a' v' k')
 |ye {ρ:fv} {c c':Array Ã} {e:Á} {k k':Nat->Ğ α} (hc:fT ρ c c') (hk:∀r r',(∀j,¬ρ r j)->(∀i,¬ρ i r')->ρ.C<=r->ρ.C<=r'->fJ P V (ρ.N r r') (k r) (k' r')):fJ P V ρ (.new (ė c e) k) (.new (ė c' e) k')
 |vh {ρ:fv} {r r':Nat} {k k':Option (TypeId×Nat)->Ğ α} (hr:ρ r r') (hk:∀e n n',DY e n n'->fJ P V ρ (k<|À (e,n)) (k'<|À (e,n'))):fJ P V ρ (.shape r k) (.shape r' k')
 |Oj {ρ:fv} {a a':Ü} {k k':Bool->Ğ α} (ha:hD ρ a a') (hk:∀b b',(b'=Ë->b=Ë)->fJ P V ρ (k b) (k' b')):fJ P V ρ (.frozen a k) (.frozen a' k')
 |Ai {ρ:fv} {q:cC} {k k':Nat->Ğ α} (hk:∀n,fJ P V ρ (k n)<|k' n):fJ P V ρ (.choose q k) (.choose q k')
 |J0 {ρ:fv} {k k':Ù->Ğ α} (hk:fJ P V ρ (k P) (k' P)):fJ P V ρ (.program k) (.program k')
 |DZ {ρ:fv} {m:Mark} {k k':Ğ α} (hm:m=π\/∃f,m=.extern f) (hk:fJ P V ρ k k'):fJ P V ρ (.mark m k) (.mark m k')
 |fS {ρ:fv} {h:Halt} {m:Ğ α}:fJ P V ρ (eP h) m
 |oN {ρ:fv} {m m':Ğ α} (h:∀u x u',m.run P u≠ı x u'):fJ P V ρ m m'
def vi{α β:Type}{m:Ğ α}{f:α->Ğ β}(h:∀u x b,m.run P u≠ı x b):∀u x b,(m.bind f).run P u≠ı x b:=by
 intro u x b e;have c:(m>>=f).run P u=ı x b:=e;rw[Å]at c;cases d:m.run P u with
 |ok a w=>exact h _ _ _ d
 |halt z w=>rw[d]at c;cases c
def fJ.mA{α β:Type}{V:fv->α->α->Prop}{l:fv->β->β->Prop}{ρ:fv}{m o:Ğ α}{f p:α->Ğ β}(h:fJ P V ρ m o) (g:∀i a k,ρ.r i->V i a k->fJ P l i (f a) (p k)):fJ P l ρ (m.bind f) (o.bind p):=by
 induction h with
 |fH h=>exact g _ _ _ (fv.M _) h
 |gG j _ d=>exact .gG j λv c b=>d v c b g
 |jf j b _ d=>exact .jf j b (d g)
 |ye q _ d=>exact .ye q λr s c e n v=>d r s c e n v λi a k t b=>g i a k (fv.I (fv.S c e n v) t) b
 |vh b _ d=>exact .vh b λe n v c=>d e n v c g
 |Oj j _ d=>exact .Oj j λb c v=>d b c v g
 |Ai _ d=>exact .Ai λn=>d n g
 |J0 _ d=>exact .J0 (d g)
 |DZ c _ d=>exact .DZ c (d g)
 |fS=>exact .fS
 |oN h=>exact .oN (vi h)
def yf:Ã->Bool
 |ē .u8 _=>Ë
 |_=>Â
def D1(c:Array Ã):Prop:=∀(k:Nat) (v:Ã),c[k]?=À v->yf v=Â
structure jo(ρ:fv)(Sh:Nat->Prop)(u w:È):Prop where
 S:u.tape=w.tape
 N:u.drawn=w.drawn
 C:Bi ρ
 I:ρ.C<=u.heap.size
 M:ρ.C<=w.heap.size
 r:∀i j,ρ i j->∃c c' e fr wz,u.heap[i]?=À (ė c e fr)/\w.heap[j]?=À (ė c' e wz)/\po ρ (Sh j) e c c'/\(Sh j->fr.1=0/\c.size<=fr.2/\wz.2<=fr.2/\0<c.size/\(D1 c\/Gs e c.size))/\(¬Sh j->fr=wz)/\fr.2<=c.size
structure nU(ρ:fv)(Sh:Nat->Prop)(w w':È):Prop where
 r:w.heap.size<=w'.heap.size
 I:w'.os=w.os
 M:w'.output=w.output
 S:w'.tape=w.tape
 C:∀j,j<w.heap.size->(∀i,¬ρ i j)->w'.heap[j]?=w.heap[j]?
 N:∀j,Sh j->j<w.heap.size->w'.heap[j]?=w.heap[j]?
def Aj(ρ:fv)(b:Nat->Prop)(e:ĉ):Prop:=
 (∃(a:Ü) (i:Nat),e.loc=ć a/\ρ i a.block/\e.sync=Â/\(e.write=Ë->¬b a.block))\/e.loc=Θ π\/∃f,e.loc=Θ (.extern f)
def wA{α:Type}{m:Mode}{k:Ğ α}(h:yd v=Ë): ä P (dD m a v k) w=(match w.cell? a with
 |some _=>if w.frozen? a then cD (œ<|Ŕ "a write to bytes that a string shares") w else k.run P (w.setCell a v)
 |none=>match w.farStore P a v (m==Ĕ)with
  |.ok (w,_)=>k.run P w
  |b9 h=>cD h w):=by
 cases v<;>first|rfl|cases h
def acv{α:Type}{m:Mode}{k:Ğ α}(h:yd v=Ë): ç P (dD m a v k) w V=(match w.cell? a with
 |some _=>
  if w.frozen? a then(cD (œ<|Ŕ "a write to bytes that a string shares") w,V)
  else k.runT P (w.setCell a v) (V.push ⟨ć a,Ë,m==Ĕ⟩)
 |none=>match w.farStore P a v (m==Ĕ)with
  |.ok (w,touched)=>k.runT P w (V++touched.toArray.map (⟨.cell ·,Ë,m==.atomic⟩))
  |b9 h=>(cD h w,V)):=by
 cases v<;>first|rfl|cases h
def acw{α:Type}{m:Mode}{k:Ğ α}(h:yd v=Â){x:α}:ä P (dD m a v k) w≠ı x u:=by cases v<;>first|exact Bool.noConfusion h|(intro e;simp[ä]at e)
def acy{ρ:fv}(h:fq ρ v x):yd x=yd v:=by cases h<;>rfl
section
variable{ρ:fv}
def Ak(h:u.heap[a.block]?=À (ė d e xJ)):u.cell? a=if a.spot.isSome then í else d[a.off]?:=by simp[Ĭ,h]
def acz(h:u.heap[a.block]?=À (ė d e xJ))(b:Bool):∃x,u.farLoad P a b=b9 x:=by simp[ş,h]
def acA(h:u.heap[a.block]?=À (ė d e xJ))(b:Bool):∃x,u.farStore P a v b=b9 x:=by simp[Ż,h]
def jo.G(h:jo ρ X u w){a':Ü}(i:hD ρ a a')(b:u.cell? a=À v):∃f,w.cell? a'=À f/\fq ρ v f:=by
 let⟨j,k,l⟩:=i;let⟨c,s,e,t,y,m,n,o,_⟩:=h.r _ _ j;rw[Ak m]at b;rw[Ak n,<-k,<-l];cases g:a.spot with
 |some x=>rw[g]at b;cases b
 |none=>
  rw[g]at b;rcases o.Ah a.off with⟨d,_⟩|⟨x,p,d,q,r⟩
  .simp[d]at b
  .simp[d]at b;subst b;exact⟨p,by simp[q],r⟩
def jo.acB(h:jo ρ X u w)(i:hD ρ a p)(b:u.cell? a=À v)(j:u.frozen? a=Â):¬X p.block/\w.frozen? p=Â:=by
 let⟨k,l,r⟩:=i;let⟨c,t,e,d,y,f,m,z,n,o,B⟩:=h.r _ _ k;rw[Ak f]at b;have C:a.off<c.size:=by
  cases s:a.spot with
  |some x=>rw[s]at b;cases b
  |none=>rw[s]at b;exact(Ä.1<|by simpa using b).1
 have x:(decide (d.1<=a.off)&&decide (a.off<d.2))=Â:=by simpa[Ċ,f]using j
 have g:¬X p.block:=by intro s;let⟨q,D,_⟩:=n s;simp[q]at x;omega
 refine⟨g,?_⟩;have:=o g;subst this;simp only[Ċ,m,<-l];exact x
def UU{w:È}(h:w.heap[a.block]?=À (ė d e xJ))(b:a.spot=í): (w.setCell a v).heap[a.block]?=À (ė (d.setIfInBounds a.off v) e xJ):=by simp[ā,à,h,b]
def jT{w:È}:(w.setCell a v).heap.size=w.heap.size:=by simp[ā]
def J3{w:È}(h:a.block≠j):(w.setCell a v).heap[j]?=w.heap[j]?:=by simp[ā,à,h]
def jo.jf(h:jo ρ X u w)(C:hD ρ a p)(D:fq ρ v z)(d:u.cell? a=À x)(n:¬X p.block):jo ρ X (u.setCell a v) (w.setCell p z):=by
 let⟨f,E,F⟩:=C;have o:a.spot=í:=by
  let⟨c,q,e,g,k,b,_⟩:=h.r _ _ f;rw[Ak b]at d;cases i:a.spot with
  |some x=>rw[i]at d;cases d
  |none=>rfl
 have G:p.spot=í:=by rw[<-F,o]
 refine⟨h.S,h.N,h.C,by rw[jT];exact h.I,by rw[jT];exact h.M,λi j l=> ?_⟩;let⟨c,q,e,g,k,b,r,t,H,y,B⟩:=h.r i j l;by_cases m:a.block=i
 .subst m;have:j=p.block:=h.C.1 _ _ _ l f;subst this;exact⟨_,_,e,g,k,UU b o,UU r G,by rw[<-E];exact po.M<|(t.N n).G _ D,λs=>absurd s n,y,by simpa using B⟩
 .have s:p.block≠j:=λe=>m<|h.C.2.1 _ _ _ f<|e▸l;exact⟨c,q,e,g,k,by rwa[J3 m],by rwa[J3 s],t,H,y,B⟩
def jo.ye(h:jo ρ X u w)(m:∀j,X j->j<w.heap.size)(n:fT ρ d q): jo (ρ.N u.heap.size w.heap.size) X {u with heap:=u.heap.push (ė d e)} {w with heap:=w.heap.push (ė q e)}:=by
 have a:∀i j,ρ i j->i<u.heap.size/\j<w.heap.size:=by intro i j s;let⟨_,_,_,_,_,b,f,_⟩:=h.r i j s;exact⟨(Ä.1 b).1,(Ä.1 f).1⟩
 have g:=fv.S (ρ:=ρ) (λj x=>absurd (a _ _ x).1 Z) (λi x=>absurd (a _ _ x).2 Z) h.I h.M;refine⟨h.S,h.N,g.2.1 h.C,by have:=h.I;simp[fv.N];omega,by have:=h.M;simp[fv.N];omega,?_⟩
 .rintro i j (x|⟨rfl,rfl⟩)
  .let⟨s,o,p,r,t,b,f,v,y,z,B⟩:=h.r i j x;let⟨k,l⟩:=a i j x;exact⟨s,o,p,r,t,by simp only[į k];rw[<-b,ß k],by simp only[į l];rw[<-f,ß l],v.fQ g,y,z,B⟩
  .exact⟨d,q,e,(0,0),(0,0),ft,ft,po.M<|n.I g,λs=>absurd (m _ s) Z,λ_=>rfl,dT _⟩
def nU.fW(ρ:fv)(X:Nat->Prop)(w:È):nU ρ X w w:=⟨á _,U,U,U,λ_ _ _=>rfl,λ_ _ _=>rfl⟩
def nU.fj{b:fv}{w₁:È}(h:nU ρ X w w₁)(k:nU b X w₁ u)(d:∀i j,b i j->ρ i j\/w.heap.size<=j):nU ρ X w u:= ⟨ö h.r k.r,k.I.trans h.I,k.M.trans h.M,k.S.trans h.S,λj a c=>(k.C j (Õ a h.r) λi y=>(d i j y).elim (c i) λz=>by omega).trans<|h.C j a c,λj s a=>(k.N j s<|Õ a h.r).trans<|h.N j s a⟩
def J4{w:È}:(w.freeze a n).heap.size=w.heap.size:=by unfold ġ;split<;>simp
def acC{w:È}:(w.freeze a n).os=w.os:=by unfold ġ;split<;>rfl
def acD{w:È}:(w.freeze a n).output=w.output:=by unfold ġ;split<;>rfl
def Ol{w:È}:(w.freeze a n).tape=w.tape:=by unfold ġ;split<;>rfl
def UW{w:È}:(w.freeze a n).drawn=w.drawn:=by unfold ġ;split<;>rfl
def J5{w:È}(h:a.block≠j):(w.freeze a n).heap[j]?=w.heap[j]?:=by
 unfold ġ;split
 .rfl
 .simp[à,h]
def sM(a:Ü)(n:Nat)(b:Nat×Nat):Nat×Nat:=if n=0 then b else if b.1==b.2 then(a.off,a.off+n)else(min b.1 a.off,max b.2<|a.off+n)
def UX{w:È}(h:w.heap[a.block]?=À (ė d e xJ)):(w.freeze a n).heap[a.block]?=À (ė d e<|sM a n xJ):=by
 unfold ġ sM;by_cases b:n=0
 .rwa[if_pos b,if_pos b]
 .rw[if_neg b,if_neg b];simp[à,h]
def UY(h:a.off=p.off)(n:Nat)(b:Nat×Nat):sM a n b=sM p n b:=by unfold sM;rw[h]
def acE(h:a.off+n<=i)(b:xJ.2<=i):(sM a n xJ).2<=i:=by
 unfold sM;split
 .exact b
 .split
  .exact h
  .exact Nat.max_le.2 ⟨b,h⟩
def acG{b:Nat×Nat}(h:0<i)(c:xJ.1=0)(f:i<=xJ.2)(g:b.2<=xJ.2):(sM a n xJ).1=0/\i<=(sM a n xJ).2/\(sM a n b).2<=(sM a n xJ).2:=by
 unfold sM;by_cases d:n=0
 .simp only[if_pos d];exact⟨c,f,g⟩
 .have e:(xJ.1==xJ.2)=Â:=by rw[beq_eq_false_iff_ne];omega
  simp only[if_neg d,e,Ç,if_false];refine⟨by simp[c],Z,?_⟩;split<;>simp only<;>omega
def jo.acH(h:jo ρ X u w)(y:hD ρ a p)(n:Nat)(z:∀c e b,u.heap[a.block]?=À (ė c e b)->a.off+n<=c.size):jo ρ X (u.freeze a n) (w.freeze p n):=by
 obtain⟨k,l,I⟩:=y;refine⟨Ol.trans<|h.S.trans Ol.symm,UW.trans<|h.N.trans UW.symm,h.C,by rw[J4];exact h.I,by rw[J4];exact h.M,λi j d=> ?_⟩;obtain⟨c,m,e,b,B,f,o,q,r,t,v⟩:=h.r i j d;by_cases g:a.block=i
 .subst g;have:j=p.block:=h.C.1 _ _ _ d k;subst this;refine⟨c,m,e,_,_,UX f,UX o,q,λs=> ?_,λs=> ?_,acE (z _ _ _ f) v⟩
  .obtain⟨C,D,E,x⟩:=r s;rw[<-UY l];obtain⟨F,G,H⟩:=acG x.1 C D E;exact⟨F,G,H,x⟩
  .rw[t s,UY l]
 .have s:p.block≠j:=λe=>g<|h.C.2.1 _ _ _ k<|e▸d;exact⟨c,m,e,b,B,by rwa[J5 g],by rwa[J5 s],q,r,t,v⟩
def jo.Y(h:jo ρ X u w)(b:hD ρ a p):w.frozen? p=Ë->u.frozen? a=Ë:=by
 let⟨d,f,l⟩:=b;let⟨c,m,e,n,o,g,i,q,j,k,r⟩:=h.r _ _ d;simp only[Ċ,g,i,<-f,ĕ,decide_eq_true_eq];rintro⟨x,y⟩;by_cases s:X p.block
 .let⟨t,v,z⟩:=j s;exact⟨Z,Z⟩
 .rw[k s];exact⟨x,y⟩
def fJ.gp{α:Type}{V:fv->α->α->Prop}{ρ:fv}{m m':Ğ α}(h:fJ P V ρ m m'):∀{u w:È},jo ρ X u w->(∀j,X j->j<w.heap.size)->∀{x:α} {E:È},m.run P u=ı x E->∀n:Array ĉ,∃(l:fv) (t:α) (p:È) (B:Array ĉ),ρ.r l/\(∀i j,l i j->ρ i j\/(u.heap.size<=i/\w.heap.size<=j))/\m'.runT P w n=(ı t p,n++B)/\V l x t/\jo l X E p/\nU ρ X w p/\(∀e∈B,Aj l X e)/\u.heap.size<=E.heap.size:=by
 induction h with
 |fH h=>
  intro u w d _ x E b n;simp only[ä]at b;cases b;exact⟨_,_,w,#[],fv.M _,λ_ _ h=>Æ h,by simp[ç],h,d,nU.fW _ _ _,λe o=>by simp at o,á _⟩
 |@gG ρ a a' k k' ha hk D=>
  intro u w d C x E b n;simp only[ä]at b;cases f:u.cell? a with
  |none=>
   let⟨c,Q,e,fr,wz,N,_⟩:=d.r _ _ ha.1;let⟨z,s⟩:=acz (P:=P) N<|ź==Ĕ;rw[f]at b;simp only[s]at b;cases b
  |some v=>
   rw[f]at b;let⟨Y,T,y⟩:=d.G ha f;let⟨l,t,p,B,F,G,I,J,K,g,L,H⟩:=D v Y y d C b<|n.push ⟨ć a',Â,Â⟩;refine⟨l,t,p,#[⟨ć a',Â,Â⟩]++B,F,G,?_,J,K,g,λe o=> ?_,H⟩
   .simp only[ç,T];rw[show((ź==Ĕ)=Â)from U,I];rw[<-Ō,ŕ]
   .rcases ħ.1 o with o|o
    .simp at o;subst o;exact Æ ⟨a',_,U,F.1 _ _ ha.1,U,λe=>by cases e⟩
    .exact L e o
 |@jf ρ a a' v Y k k' ha hv _ D=>
  intro u w d C x E b n;cases ho:yd v with
  |false=>exact absurd b<|acw ho
  |true=>
   have ho':=(acy hv).trans ho;rw[wA ho]at b;cases f:u.cell? a with
   |none=>
    let⟨c,Q,e,fr,wz,N,_⟩:=d.r _ _ ha.1;let⟨z,s⟩:=acA (P:=P) (v:=v) N<|ź==Ĕ;rw[f]at b;simp only[s]at b;cases b
   |some y=>
    rw[f]at b;cases M:u.frozen? a with
    |true=>rw[M]at b;simp at b
    |false=>
     simp only[M,Ç,if_false]at b;let⟨ns,hf'⟩:=d.acB ha f M;let⟨y',Om,_⟩:=d.G ha f;let⟨l,t,p,B,F,G,I,J,K,g,L,H⟩:=D (d.jf ha hv f ns) (by rwa[jT]) b<|n.push ⟨ć a',Ë,Â⟩;have T:(w.setCell a' Y).heap.size=w.heap.size:=jT;have UZ:(u.setCell a v).heap.size=u.heap.size:=jT;refine⟨l,t,p,#[⟨ć a',Ë,Â⟩]++B,F,by rwa[T,UZ]at G,?_,J,K,?_,λe o=> ?_,by rwa[UZ]at H⟩
     .rw[acv ho',Om];simp only[hf',Ç,if_false];rw[show((ź==Ĕ)=Â)from U,I];rw[<-Ō,ŕ]
     .refine⟨by rw[<-T];exact g.r,g.I,g.M,g.S,λj O W=> ?_,λj s O=>(g.N j s<|by rwa[T]).trans<|J3 λe=>ns<|e▸s⟩;rw[g.C j (by rwa[T]) W];exact J3 λe=>W a.block<|e▸ha.1
     .rcases ħ.1 o with o|o
      .simp at o;subst o;exact Æ ⟨a',_,U,F.1 _ _ ha.1,U,λ_=>ns⟩
      .exact L e o
 |@ye ρ c Q e k k' f _ D=>
  intro u w d C x E b n;simp only[ä]at b;have lo:∀i j,ρ i j->i<u.heap.size/\j<w.heap.size:=by intro i j T;let⟨_,_,_,_,_,N,Y,_⟩:=d.r i j T;exact⟨(Ä.1 N).1,(Ä.1 Y).1⟩
  have n1:∀j,¬ρ u.heap.size j:=λj y=>absurd (lo _ _ y).1 Z;have n2:∀i,¬ρ i w.heap.size:=λi y=>absurd (lo _ _ y).2 Z;let⟨l,t,p,B,F,G,I,J,K,g,L,H⟩:=D u.heap.size w.heap.size n1 n2 d.I d.M (d.ye C f) (λj s=>by have:=C j s;simp;omega) b n;have le:=fv.S n1 n2 d.I d.M;refine⟨l,t,p,B,fv.I le F,λi j T=> ?_,by simp only[ç];exact I,J,K,?_,L,by simp at H;omega⟩
  .rcases G i j T with(y|⟨rfl,rfl⟩)|y
   .exact Æ y
   .exact Í ⟨á _,á _⟩
   .simp at y;exact Í ⟨Z,Z⟩
  .have hs:=g.r;simp at hs;refine⟨Z,g.I,g.M,g.S,λj O W=> ?_,λj s O=>(g.N j s<|by simp;omega).trans ?_⟩
   .rw[g.C j (by simp;omega) (λi z=>z.elim (W i) λz=>by omega)];simp[į O]
   .simp[į O]
 |@vh ρ r r' k k' oz _ D=>
  intro u w d C x E b n;simp only[ä]at b;let⟨c,Q,e,fr,wz,N,Y,T,_⟩:=d.r _ _ oz;have f:u.shape? r=À (e,c.size):=by simp[ς,N]
  have s:w.shape? r'=À (e,Q.size):=by simp[ς,Y]
  rw[f]at b;let⟨l,t,p,B,h⟩:=D e c.size Q.size T.acu d C b n;exact⟨l,t,p,B,by simp only[ç,s];exact h⟩
 |@Oj ρ a a' k k' ha _ D=>
  intro u w d C x E b n;simp only[ä]at b;let⟨l,t,p,B,h⟩:=D (u.frozen? a) (w.frozen? a') (d.Y ha) d C b n;exact⟨l,t,p,B,by simpa only[ç]using h⟩
 |@Ai ρ q k k' _ D=>
  intro u w d C x E b n;simp only[ä]at b;cases M:q.forced with
  |true=>
   rw[M]at b;simp only[if_true]at b;let⟨l,t,p,B,h⟩:=D 0 d C b n;exact⟨l,t,p,B,by simpa only[ç,M,if_true]using h⟩
  |false=>
   rw[M]at b;simp only[Ç,if_false]at b;have T:jo ρ X {u with drawn:=u.drawn+1} {w with drawn:=w.drawn+1}:=⟨d.S,by simp[d.N],d.C,d.I,d.M,d.r⟩;rw[d.S,d.N]at b;obtain⟨l,t,p,B,F,G,I,J,K,g,L,H⟩:=D (q.cut<|w.tape w.drawn q) T C (by rwa[d.S,d.N]) n;exact⟨l,t,p,B,F,G,by simp only[ç,M,Ç,if_false];exact I,J,K,⟨g.r,g.I,g.M,g.S,g.C,g.N⟩,L,H⟩
 |J0 _ D=>
  intro u w d C x E b n;simp only[ä]at b;let⟨l,t,p,B,h⟩:=D d C b n;exact⟨l,t,p,B,by simpa only[ç]using h⟩
 |@DZ ρ mk k k' hm _ D=>
  intro u w d C x E b n;simp only[ä]at b;let⟨l,t,p,B,F,G,I,J,K,g,L,H⟩:=D d C b<|n.push ⟨Θ mk,Â,Ë⟩;refine⟨l,t,p,#[⟨Θ mk,Â,Ë⟩]++B,F,G,?_,J,K,g,λe o=> ?_,H⟩
  .simp only[ç];rw[I];rw[<-Ō,ŕ]
  .rcases ħ.1 o with o|o
   .simp at o;subst o;rcases hm with rfl|⟨f,rfl⟩
    .exact Í<|Æ U
    .exact Í<|Í ⟨f,U⟩
   .exact L e o
 |fS=>
  intro u w _ _ x E b n;simp only[ä]at b;cases b
 |oN h=>
  intro u w _ _ x E b n;exact absurd b<|h _ _ _
end
inductive jU:Ã->Prop
 |my (b:Bool):jU (Ŏ b)
 |iK (k:Ć) (n:Int):jU (ē k n)
 |kS (s:ByteArray):jU (Ĥ s)
 |lM:jU (Ò í)
 |nS (n c:Nat):jU (ø í n c)
 |vd:jU cB
 |ve:jU bE
 |vf:jU (eO í)
 |vg:jU (.map í)
 |oM {cs:Array Ã} (h:∀i (h:i<cs.size),jU cs[i]):jU (.agg cs)
 |nT {cs:Array Ã} (h:∀i (h:i<cs.size),jU cs[i]):jU (η cs)
def jU.jH(h:jU v)(ρ:fv):fq ρ v v:=by
 induction h with
 |my b=>exact .my b
 |iK k n=>exact .iK k n
 |kS s=>exact .kS s
 |lM=>exact .lM
 |nS n c=>exact .nS n c
 |vd=>exact .vd
 |ve=>exact .ve
 |vf=>exact .vf
 |vg=>exact .vg
 |oM _ b=>exact .oM U λi c _=>b i c
 |nT _ b=>exact .nT U λi c _=>b i c
def nV(P:Ù):Prop:=∀t i z,P.info? t=À i->i.zero=À z->jU z
def jw{α:Type}:fv->α->α->Prop:=λ_ a b=>a=b
section
variable{ρ:fv}
def fI{α β:Type}{V:fv->α->α->Prop}{V':fv->β->β->Prop}{m c:Ğ α}{f d:α->Ğ β}(h:fJ P V ρ m c) (g:∀b a e,ρ.r b->V b a e->fJ P V' b (f a) (d e)):fJ P V' ρ (m>>=f) (c>>=d):=fJ.mA h g
def sN{α β:Type}{c:fv->β->β->Prop}{m:Ğ α}{f d:α->Ğ β}(h:fJ P jw ρ m m) (g:∀b a,ρ.r b->fJ P c b (f a) (d a)):fJ P c ρ (m>>=f) (m>>=d):= fJ.mA h λb a i j (e:a=i)=>by subst e;exact g b a j
def rC:fJ P (λ_ a b=>a=P/\b=P) ρ dE dE:=.J0 (.fH ⟨U,U⟩)
def On{α:Type}{V:fv->α->α->Prop}{e:υ}(h:(∃x y s c,e=.bounds x y s c)\/(∃m,e=θ m)\/(∃m,e=.plain m)\/e=.nilDeref):fJ P V ρ (runtimePanic e) (runtimePanic e):=by unfold runtimePanic;refine fI rC ?_;rintro f a g _ ⟨b,d⟩;rw[b,d];rcases h with⟨x,y,s,c,rfl⟩|⟨m,rfl⟩|⟨m,rfl⟩|rfl<;>exact .fS
def Gt{α:Type}{V:fv->α->α->Prop}{k:Ć}{y:Int}{c:aU}:fJ P V ρ (boundsPanic k h y c) (boundsPanic k h y c):=by
 unfold boundsPanic;simp only[];split
 .apply sN (.Ai λn=> .fH U);intro n a _;exact On<|Æ ⟨_,_,_,_,U⟩
 .exact On<|Æ ⟨_,_,_,_,U⟩
def yg(t:Á):fJ P (λ_ a b=>a=b/\P.info? t=À a) ρ (þ t) (þ t):=by
 unfold þ;apply fI rC;rintro e a b _ ⟨c,d⟩;rw[c,d];cases h:P.info? t with
 |some i=>exact .fH ⟨U,U⟩
 |none=>exact .fS
def jg(t:Á):fJ P (λ_ a b=>a=b/\P.underlying t=À a) ρ (ù t) (ù t):=by
 unfold ù;apply fI rC;rintro e a b _ ⟨c,d⟩;rw[c,d];cases h:P.underlying t with
 |some i=>exact .fH ⟨U,U⟩
 |none=>exact .fS
def Gu(b:nV P)(t:Á):fJ P fq ρ (Ġ t) (Ġ t):=by
 unfold Ġ;apply fI (yg t);rintro d a e _ ⟨rfl,h⟩;cases c:a.zero with
 |some z=>exact .fH ((b t a z h c).jH _)
 |none=>exact .fS
def nj(t:Á):fJ P (λ_ a b=>a=b/\∃i,P.info? t=À i/\i.size=a) ρ (Ŝ t) (Ŝ t):=by unfold Ŝ;apply fI (yg t);rintro i a b _ ⟨rfl,h⟩;exact .fH ⟨U,_,h,U⟩
def U0(t:Á):fJ P jw ρ (eR t) (eR t):=by unfold eR;apply fI (jg t);rintro b a c _ ⟨rfl,_⟩;split<;>exact .fH U
def J6(h:hD ρ a p):fJ P fq ρ (bF a) (bF p):=.gG h λ_ _ b=> .fH b
def acI(h:hD ρ a p)(b:fq ρ v x):fJ P jw ρ (aR a v) (aR p x):=.jf h b (.fH U)
def acJ:∀{ρ:fv} {a b:Ü} {i:Nat} {c d:Array Ã},hD ρ a b->fT ρ c d->fJ P fT ρ (Š a i n c) (Š b i n d):=by
 induction n with
 |zero=>intro ρ a b i c d _ e;exact .fH e
 |succ n h=>
  intro ρ a b i c d f e;unfold Š;apply fI (J6<|f.C i);intro k v l g j;exact h (f.r g)<|(e.I g).UT j
def Oo(h:hD ρ a p)(n:Nat):fJ P fT ρ (dB a n) (dB p n):=acJ h<|fT.N ρ
def Oq:∀{d c:List Ã} {ρ:fv} {a e:Ü} {i:Nat},hD ρ a e->fT ρ d.toArray c.toArray->fJ P jw ρ (ŝ a d i) (ŝ e c i):=by
 intro d
 induction d with
 |nil=>
  intro c ρ a e i _ b;have:c=[]:=by have:=b.r;simp at this;exact č this.symm
  subst this;exact .fH U
 |cons v d h=>
  intro c ρ a e i f b;match c,b with
  |[],b=>have:=b.r;simp at this
  |v'::c,b=>
   unfold ŝ;have k:fq ρ v v':=by have:=b.C 0 ft ft;simpa using this
   apply fI (acI (f.C i) k);intro n _ _ g _;apply h (f.r g);refine⟨by have:=b.r;simpa using this,λj l m=> ?_⟩;have:=b.C (j+1) (by simp at l|-;omega) (by simp at m|-;omega);exact(by simpa using this:fq ρ _ _).fQ g
def U1(h:hD ρ a p)(t:Á):fJ P fq ρ (aH t a) (aH t p):=by
 unfold aH;apply sN (U0 t);intro g b d;split
 .apply fI (nj t);rintro i n _ f ⟨rfl,_⟩;apply fI (Oo ((h.r d).r f) n);intro j c k _ e;exact .fH (.oM e.r e.C)
 .exact J6<|h.r d
def acK(h:hD ρ a p)(t:Á)(d:fq ρ v x):fJ P jw ρ (bm t a v) (bm t p x):=by
 unfold bm;apply fI (nj t);rintro f n _ b ⟨rfl,_⟩;have c:=(d.fQ b).gX;by_cases e:v.cells.size≠n
 .rw[if_pos e];exact .fS
 .rw[if_neg e,if_neg (by rwa[<-c.r])];exact Oq (h.r b) c
def Gv(e:Á)(h:fT ρ d q):fJ P hD ρ (ō e d) (ō e q):= .ye h λ_ _ _ _ _ _=> .fH ⟨Í ⟨U,U⟩,U,U⟩
def U2(t:Á)(h:fq ρ v x):fJ P hD ρ (newVar t v) (newVar t x):=Gv t h.gX
def U3(t:Á)(h:fT ρ d q)(a:Nat):fJ P fq ρ (part t d a) (part t q a):=by
 unfold part;apply sN (U0 t);intro i b e;split
 .apply fI (nj t);rintro g n _ f ⟨rfl,_⟩;have:=((h.I e).I f).Gr a<|a+n;exact .fH (.oM this.r this.C)
 .rcases(h.I e).S a with⟨n,f⟩|⟨v,j,n,f,g⟩
  .rw[n];exact .fS
  .rw[n,f];exact .fH g
def Gw(h:fq ρ v x):fJ P hD ρ (ż v) (ż x):=by cases h<;>first|exact .fS|(rename_i a;exact .fH a)
def J7(h:fq ρ v x):fJ P jw ρ (dF v) (dF x):=by cases h<;>first|exact .fH U|exact .fS
def Ot(h:fq ρ v x):fJ P jw ρ (dU v) (dU x):=by unfold dU;apply fI (J7 h);rintro b a _ _ rfl;exact .fH U
def U4(h:fq ρ v x):fJ P jw ρ (cE v) (cE x):=by cases h<;>first|exact .fH U|exact .fS
def acM(h:fq ρ v x):fJ P fT ρ (asAgg v) (asAgg x):=by cases h<;>first|exact .fS|(rename_i a y;exact .fH ⟨a,y⟩)
def U5(h:fq ρ v x):fJ P hD ρ (cF v) (cF x):=by cases h<;>first|exact On (Í<|Í<|Í U)|(rename_i a;exact .fH a)|exact .fS
def acN(b:nV P)(t:Á)(v:Ã):fJ P fq ρ (Ι t Ë v) (Ι t Ë v):=by unfold Ι;apply fI (Gu b t);intro d z e _ h;apply fI (U2 t h);intro f a g _ c;exact .fH (.jZ c)
def acO(t:Á)(h:fq ρ v x):fJ P fq ρ (aI t v) (aI t x):=by unfold aI;apply fI (U2 t h);intro c a d _ b;exact .fH (.jZ b)
def acP(t:Á)(h:fq ρ v x):fJ P fq ρ (ų t v) (ų t x):=by unfold ų;apply fI (Gw h);intro c a d _ b;exact U1 b t
def acQ(t:Á)(b:fq ρ x z)(h:fq ρ v jQ):fJ P jw ρ (Ł t x v) (Ł t z jQ):=by unfold Ł;apply fI (Gw b);intro d x z c b;exact acK b t<|h.fQ c
def acR(h:fq ρ v x)(n:Nat):fJ P fq ρ (š v n) (š x n):=by
 cases h<;>first|exact .fS|skip
 rename_i e f c h;simp only[š];rcases(fT.mk c h).S n with⟨a,b⟩|⟨v,x,a,b,d⟩
 .rw[a];exact .fS
 .rw[a,b];exact .fH d
def acS(t:Á)(h:fq ρ v x)(n:Nat):fJ P fq ρ (Κ t v n) (Κ t x n):=by
 unfold Κ;apply fI (jg t);rintro g d _ a ⟨rfl,_⟩;split
 .rename_i b _;cases i:b[n]? with
  |none=>exact .fS
  |some f=>
   apply fI (acM<|h.fQ a);intro j c k _ e;exact U3 f.type e f.offset
 .exact .fS
end
section
variable{ρ:fv}
def Al{α β:Type}{V:fv->β->β->Prop}{a b:α}{f c:α->Ğ β}(h:fJ P V ρ (f a) (c b)):fJ P V ρ (pure a>>=f) (pure b>>=c):=h
def acT(s:Á)(h:fq ρ v x)(n:Nat)(e:∀c f i,P.underlying s=À (dG c)->c[n]?=À f->P.info? f.type=À i->i.size≠0): fJ P fq ρ (Ţ s v n) (Ţ s x n):=by
 unfold Ţ;apply fI (jg s);rintro r d _ g ⟨rfl,j⟩;cases d<;>try exact .fS
 .rename_i c;simp only[];cases k:c[n]? with
  |none=>exact .fS
  |some f=>
   apply fI (Gw<|h.fQ g);intro t a u _ l;unfold cG;refine fI (fI (V':=hD) (nj f.type) ?_) ?_
   .rintro w z _ m ⟨rfl,i,o,p⟩;have:¬z=0:=by rw[<-p];exact e c f i j k o
    rw[if_neg this,if_neg this];exact .fH ((l.r m).C _)
   .intro y b B _ q;exact .fH (.jZ q)
def acU(t:Á){s:Ã}(w:fq ρ x v)(y:fq ρ jQ s):fJ P fq ρ (ţ t x jQ) (ţ t v s):=by
 unfold ţ;apply fI (J7 y);rintro I ⟨k,n⟩ _ B rfl;apply fI (jg t);rintro J d _ C ⟨rfl,K⟩;have u:=(w.fQ B).fQ C;have D:∀{j:fv} {b g:Option Ü} (f:Nat) (e:Á),((b=í/\g=í)\/∃a h,b=À a/\g=À h/\hD j a h)->∀(o:Bool),fJ P fq j (match b with
   |some a=>if 0<=n/\n<f then do pure (Ò<|À<|a.add<|n.toNat*(<-Ŝ e))else if o=Ë then unsupported (cH "op/indexAddr.an index out of range at an array of length 0 or 1 (ledger 616)")else boundsPanic k n f .index
   |none=>boundsPanic k n 0 .index)
  (match g with
   |some a=>if 0<=n/\n<f then do pure (Ò<|À<|a.add<|n.toNat*(<-Ŝ e))else if o=Ë then unsupported (cH "op/indexAddr.an index out of range at an array of length 0 or 1 (ledger 616)")else boundsPanic k n f .index
   |none=>boundsPanic k n 0 .index):=by
  intro j b g f e p o;rcases p with⟨rfl,rfl⟩|⟨a,h,rfl,rfl,l⟩
  .exact Gt
  .simp only[];split
   .apply fI (nj e);rintro E z _ q ⟨rfl,_⟩;exact .fH (.jZ ((l.r q).C _))
   .split
    .exact .fS
    .exact Gt
 have r:∀{j:fv} {b g:Option Ü} (f:Nat) (e:Á),((b=í/\g=í)\/∃a h,b=À a/\g=À h/\hD j a h)->fJ P fq j (ù t>>=λd=>match b with
   |some a=>if 0<=n/\n<f then do pure (Ò<|À<|a.add<|n.toNat*(<-Ŝ e))else if(decide (f<=1)&&(match d with|.array .. =>Ë|_=>Â))=Ë then unsupported (cH "op/indexAddr.an index out of range at an array of length 0 or 1 (ledger 616)")else boundsPanic k n f .index
   |none=>boundsPanic k n 0 .index)
  (ù t>>=λd=>match g with
   |some a=>if 0<=n/\n<f then do pure (Ò<|À<|a.add<|n.toNat*(<-Ŝ e))else if(decide (f<=1)&&(match d with|.array .. =>Ë|_=>Â))=Ë then unsupported (cH "op/indexAddr.an index out of range at an array of length 0 or 1 (ledger 616)")else boundsPanic k n f .index
   |none=>boundsPanic k n 0 .index):=by
  intro j b g f e p;apply fI (jg t);rintro E d _ q ⟨rfl,_⟩;exact D f e (p.imp id λ⟨a,h,F,G,H⟩=>⟨a,h,F,G,H.r q⟩) _
 cases d<;>try exact .fS
 .rename_i e;cases u<;>first|exact .fS|skip
  .rename_i m c;exact r m e<|Æ ⟨U,U⟩
  .rename_i l m c;exact r m e<|Í ⟨_,_,U,U,l⟩
 .rename_i f e;apply fI (Gw u);intro j a h _ l;exact r f e<|Í ⟨_,_,U,U,l⟩
def D2(h:fq ρ x v)(y:Nat)(c:aU):fJ P jw ρ (ĸ x y c) (ĸ v y c):=by
 unfold ĸ;apply fI (J7 h);rintro a ⟨k,n⟩ _ b rfl;simp only[];split
 .exact .fH U
 .exact Gt
def rD(ρ:fv)(x a:Option Ã):Prop:=(x=í/\a=í)\/∃v b,x=À v/\a=À b/\fq ρ v b
def rD.r{ρ a:fv}(h:ρ.r a){x b:Option Ã}(r:rD ρ x b):rD a x b:=r.imp id λ⟨v,c,d,e,f⟩=>⟨v,c,d,e,f.fQ h⟩
def Gx(g:Bool)(i j:Nat){l k h n m o:Option Ã}(d:rD ρ l k)(p:rD ρ h n)(u:rD ρ m o):fJ P jw ρ (ĳ g i j l h m) (ĳ g i j k n o):=by
 unfold ĳ;rcases u with⟨rfl,rfl⟩|⟨C,D,rfl,rfl,w⟩
 .refine Al ?_;rcases p with⟨rfl,rfl⟩|⟨x,y,rfl,rfl,e⟩
  .refine Al ?_;have b:=d;rcases b with⟨rfl,rfl⟩|⟨v,r,rfl,rfl,c⟩
   .exact .fH U
   .apply fI (D2 c _ _);rintro s q _ _ rfl;exact .fH U
  .refine fI (D2 e _ _) ?_;rintro B a _ f rfl;have b:=(d.r f);rcases b with⟨rfl,rfl⟩|⟨v,r,rfl,rfl,c⟩
   .exact .fH U
   .apply fI (D2 c _ _);rintro s q _ _ rfl;exact .fH U
 .refine fI (D2 w _ _) ?_;rintro E a _ t rfl;rcases p with⟨rfl,rfl⟩|⟨x,y,rfl,rfl,e⟩
  .exact .fS
  .refine fI (D2 (e.fQ t) _ _) ?_;rintro B z _ f rfl;have b:=((d.r t).r f);rcases b with⟨rfl,rfl⟩|⟨v,r,rfl,rfl,c⟩
   .exact .fH U
   .apply fI (D2 c _ _);rintro s q _ _ rfl;exact .fH U
def acV(t:Á)(k:fq ρ x v){l C h D m u:Option Ã}(g:rD ρ l C)(i:rD ρ h D)(j:rD ρ m u):fJ P fq ρ (Λ t x l h m) (Λ t v C D u):=by
 unfold Λ;apply fI (jg t);rintro I d _ o ⟨rfl,J⟩;have k:=k.fQ o;have g:=g.r o;have i:=i.r o;have j:=j.r o;cases d<;>try exact .fS
 .cases k<;>first|exact .fS|skip
  rename_i s;have e:m.isSome=u.isSome:=by rcases j with⟨rfl,rfl⟩|⟨_,_,rfl,rfl,_⟩<;>rfl
  simp only[e];split
  .exact .fS
  .apply fI (Gx Â s.size s.size g i<|Æ ⟨U,U⟩);rintro G ⟨a,b,c⟩ _ _ rfl;exact .fH (.kS _)
 .rename_i H;apply fI (U5 k);intro G a K B f;apply fI (jg H);rintro L d _ p ⟨rfl,_⟩;have g:=(g.r B).r p;have i:=(i.r B).r p;have j:=(j.r B).r p;have f:=f.r p;cases d<;>try exact .fS
  rename_i n e _;apply fI (Gx Â n n g i j);rintro E ⟨x,y,z⟩ _ q rfl;apply fI (nj e);rintro F w _ r ⟨rfl,_⟩;have f:=(f.r q).r r;refine .fH (.kT ?_ _ _);split
  .exact f
  .exact f.C _
 .rename_i e;cases k<;>first|exact .fS|skip
  .rename_i n c;apply fI (Gx Ë n c g i j);rintro E ⟨x,y,z⟩ _ q rfl;apply fI (nj e);rintro F w _ r ⟨rfl,_⟩;simp only[Option.map_none,ite_self];exact .fH (.nS _ _)
  .rename_i f n c;apply fI (Gx Ë n c g i j);rintro E ⟨x,y,z⟩ _ q rfl;apply fI (nj e);rintro F w _ r ⟨rfl,_⟩;have f:=(f.r q).r r;by_cases e:z=x
   .simp only[e,if_true];exact .fH (.kT f _ _)
   .simp only[e,if_false,Ů];exact .fH (.kT (f.C _) _ _)
def acW(t:Á)(b:fq ρ x v){l o h p m q:Option Ã}(c:rD ρ l o)(f:rD ρ h p)(g:rD ρ m q):fJ P fq ρ (Ť t x l h m) (Ť t v o p q):=by
 unfold Ť;apply fI (jg t);rintro u d _ i ⟨rfl,B⟩;have b:=b.fQ i;have c:=c.r i;have f:=f.r i;have g:=g.r i;cases d<;>try exact acV t b c f g
 rename_i n e;apply fI (Gw b);intro C a D k j;apply fI (Gx Â n n (c.r k) (f.r k)<|g.r k);rintro E ⟨x,y,z⟩ _ r rfl;apply fI (nj e);rintro F w _ s ⟨rfl,_⟩;have j:=(j.r r).r s;refine .fH (.kT ?_ _ _);split
 .exact j
 .exact j.C _
def acX(t:Á)(a:fq ρ x v)(b:fq ρ z jQ):fJ P fq ρ (Μ t x z) (Μ t v jQ):=by
 unfold Μ;apply fI (J7 b);rintro l ⟨k,n⟩ _ c rfl;apply fI (jg t);rintro m d _ f ⟨rfl,o⟩;have a:=(a.fQ c).fQ f;cases d<;>try exact .fS
 .cases a<;>first|exact .fS|skip
  simp only[];split
  .exact .fH (.iK _ _)
  .exact Gt
 .rename_i p e;cases a<;>first|exact .fS|skip
  rename_i g h;simp only[];split
  .apply fI (nj e);rintro q w _ j ⟨rfl,_⟩;exact U3 e ((fT.mk g h).I j) _
  .exact Gt
def acY(a:UnOp)(b:fq ρ x v):fJ P fq ρ (cI a x) (cI a v):=by cases b<;>cases a<;>first|exact .fS|exact .fH (.iK _ _)|exact .fH (.my _)
end
section
variable{ρ:fv}
def acZ{α β:Type}{g:α->Ğ β}(d:∀{ρ:fv} (a:α),fJ P jw ρ (g a)<|g a):∀{ρ:fv} (l:List α),fJ P jw ρ (l.mapM g) (l.mapM g):=by
 intro ρ l
 induction l generalizing ρ with
 |nil=>exact .fH U
 |cons a l e=>
  rw[ax];apply sN (d a);intro f b _;apply sN e;intro h c _;exact .fH U
def ac0{α β:Type}{g:α->Ğ β}(b:∀{ρ:fv} (a:α),fJ P jw ρ (g a)<|g a)(l:Array α):fJ P jw ρ (l.mapM g) (l.mapM g):=by rw[ğ];have:=acZ b (ρ:=ρ) l.toList;apply fJ.mA this;intro d a c _ (e:a=c);subst e;exact .fH U
def ac1(ρ:fv)(p a:Nat×Value):Prop:=p.1=a.1/\fq ρ p.2 a.2
inductive vj(ρ:fv):List (Nat×Value)->List (Nat×Value)->Prop
 |pv:vj ρ [] []
 |wB {p p':Nat×Value} {l l':List (Nat×Value)} (h:ac1 ρ p p') (t:vj ρ l l'):vj ρ (p::l) (p'::l')
def vj.fQ{ρ a:fv}(h:ρ.r a){l b:List (Nat×Value)}(r:vj ρ l b):vj a l b:=by
 induction r with
 |pv=>exact .pv
 |wB x _ c=>exact .wB ⟨x.1,x.2.fQ h⟩ c
def ac2(f:Nat):∀(c a:List Ã) (k:Nat) (b d:Array Ã),fT ρ c.toArray a.toArray->fT ρ b d-> fT ρ ((c.zipIdx k).foldl (λb (p:Value×Nat)=>b.setIfInBounds (f+p.2) p.1) b) ((a.zipIdx k).foldl (λb (p:Value×Nat)=>b.setIfInBounds (f+p.2) p.1) d):=by
 intro c
 induction c with
 |nil=>
  intro a k b d p e;have:a=[]:=by have:=p.r;simp at this;exact č this.symm
  subst this;exact e
 |cons x c g=>
  intro a k b d p e;match a,p with
  |[],p=>have:=p.r;simp at this
  |x'::a,p=>
   simp only[Ĺ,List.foldl_cons];have h:fq ρ x x':=by have:=p.C 0 ft ft;simpa using this
   refine g a (k+1) _ _ ⟨by have:=p.r;simpa using this,λj i l=> ?_⟩<|e.G _ h;have:=p.C (j+1) (by simp at i|-;omega) (by simp at l|-;omega);simpa using this
def ac3(b:Nat){a c:Array Ã}(e:fT ρ d q)(f:fT ρ a c): fT ρ (d.zipIdx.foldl (λa (p:Value×Nat)=>a.setIfInBounds (b+p.2) p.1) a) (q.zipIdx.foldl (λa (p:Value×Nat)=>a.setIfInBounds (b+p.2) p.1) c):=by have:=ac2 b d.toList q.toList 0 a c (by simpa using e) f;rw[<-aW,<-aW,aK,aK];exact this
def Ou(d:Nat->Option (Nat×Nat)):∀{l e:List (Nat×Value)} {a b:Array Ã},vj ρ l e->fT ρ a b-> (Ž d a l=í)\/∃c h,Ž d a l=À c/\Ž d b e=À h/\fT ρ c h:=by
 intro l e a b h
 induction h generalizing a b with
 |pv=>intro c;exact Í ⟨a,b,U,U,c⟩
 |@wB p p' l e hp _ ih=>
  intro c;let⟨i,v⟩:=p;let⟨k,m⟩:=p';obtain⟨rfl,g⟩:=hp;unfold Ž;cases d i with
  |none=>exact Æ U
  |some q=>
   let⟨j,n⟩:=q;have f:=g.gX;simp only[<-f.r,<-c.r];split
   .exact Æ U
   .exact ih<|ac3 j f c
def ac4(q:nV P)(t:Á){l m:Array (Nat×Value)}(h:vj ρ l.toList m.toList):fJ P fq ρ (Ν t l) (Ν t m):=by
 unfold Ν;apply fI (Gu q t);intro C z D r s;apply fI (jg t);rintro E d _ o ⟨rfl,F⟩;have p:=(s.fQ o).gX;have h:=(h.fQ r).fQ o;cases d<;>try exact .fS
 .rename_i n e;refine fI (nj e) ?_;rintro u w _ b ⟨rfl,_⟩;rcases Ou (λi=>À (i*w,w)) (h.fQ b) (p.I b)with e|⟨c,v,j,k,g⟩
  .simp only[e];exact .fS
  .simp only[j,k];exact .fH (.oM g.r g.C)
 .rename_i x;refine sN (ac0 (λ{ρ} (f:Field)=>fI (nj f.type) λG a H _ y=> ?_) x) ?_
  .obtain⟨rfl,_⟩:=y;exact .fH U
  .intro u B b;rcases Ou (B[·]?) (h.fQ b) (p.I b)with e|⟨c,v,j,k,g⟩
   .simp only[e];exact .fS
   .simp only[j,k];exact .fH (.oM g.r g.C)
end
section
variable{ρ:fv}
def ac5(ρ:fv):fq ρ (default:Ã) default:=.my _
def fT.ac6{ρ:fv}(r:fT ρ d q)(i:Nat):fq ρ d[i]! q[i]!:=by
 by_cases h:i<d.size
 .have a:i<q.size:=by rwa[<-r.r]
  rw[getElem!_pos d i h,getElem!_pos q i a];exact r.C i h a
 .have a:¬i<q.size:=by rwa[<-r.r]
  rw[getElem!_neg d i h,getElem!_neg q i a];exact ac5 ρ
def fT.Ov{ρ:fv}(r:fT ρ d q)(n:Nat):fT ρ ((Ķ n).map (d[· %d.size]!)) ((Ķ n).map (q[· %q.size]!)):=by refine⟨ft,λi a b=> ?_⟩;simp only[Ξ,<-r.r];exact r.ac6 _
def fT.yh{ρ:fv}(r:fT ρ d q)(n:Nat):fT ρ (ú d n) (ú q n):=by
 unfold ú;have e:n*d.size=n*q.size:=by rw[r.r]
 rw[<-e];exact r.Ov _
def ac7(p:nV P)(t:Á)(b:Nat){j k:Array (Nat×Value)}(h:vj ρ j.toList k.toList):fJ P fq ρ (ĺ t b j) (ĺ t b k):=by
 unfold ĺ;apply fI (jg t);rintro B d _ q ⟨rfl,C⟩;have h:=h.fQ q;cases d<;>try exact .fS
 rename_i e;apply fI (nj e);rintro r w _ s ⟨rfl,_⟩;have h:=h.fQ s;simp only[];split
 .exact .fS
 have o:∀{f:fv} {z g:Array Ã},r.r f->fT f z g->fJ P fq f (match Ž (λi=>À (i*w,w)) ((Ķ<|b*w).map (z[· %z.size]!)) j.toList with
   |some l=>do pure (ø (À<|<-ō e l) b b)
   |_=>stuck "buildSlice: a part of the wrong size")
  (match Ž (λi=>À (i*w,w)) ((Ķ<|b*w).map (g[· %g.size]!)) k.toList with
   |some l=>do pure (ø (À<|<-ō e l) b b)
   |_=>stuck "buildSlice: a part of the wrong size"):=by
  intro f z g m n;rcases Ou (λi=>À (i*w,w)) (h.fQ m) (n.Ov<|b*w)with e0|⟨c,D,u,v,x⟩
  .rw[e0];exact .fS
  .rw[u,v];apply fI (Gv e x);intro E a F _ y;exact .fH (.kT y _ _)
 split
 .exact o (fv.M _)<|fT.N _
 .apply fI (Gu p e);intro f z g m n;exact o m n.gX
def J8(h:fq ρ x v):fJ P jw ρ (ι x) (ι v):=by cases h<;>first|exact .fS|exact .fH U
def fT.ac8(ρ:fv)(b:Array UInt8):fT ρ (b.map λb=>ē .u8 b.toNat) (b.map λb=>ē .u8 b.toNat):= ⟨U,λi a _=>by simp only[Ξ];exact .iK _ _⟩
def Gy(a n:Nat)(h:fq ρ x v):fJ P fT ρ (Ö a n x) (Ö a n v):=by
 cases h<;>first|exact .fS|exact .fH (fT.N _)|exact .fH (fT.ac8 _ _)|skip
 rename_i b _ _;exact Oo b _
def Ow(n:Nat):fJ P jw ρ (Ň n) (Ň n):=by
 unfold Ň;split
 .exact .DZ (Æ U) (.fH U)
 .exact .fH U
def ac9(a:Array Á)(t:Á)(h:fq ρ x v):fJ P fq ρ (Ŵ a t #[x]) (Ŵ a t #[v]):=by
 unfold Ŵ;cases a[0]? with
 |none=>exact .fS
 |some b=>
  apply fI (jg b);rintro f d _ c ⟨rfl,g⟩;have h:=h.fQ c;cases d<;>try exact .fS
  .cases h<;>first|exact .fS|exact .fH (.iK _ _)
  .rename_i e;refine fI (jg e) ?_;rintro i d _ j ⟨rfl,_⟩;cases d<;>first|exact .fS|exact .fH (.iK _ _)
  .cases h<;>first|exact .fS|exact .fH (.iK _ _)
  .exact .fH (.iK _ _)
  all_goals cases h<;>first|exact .fS|exact .fH (.iK _ _)
def ada(a:Array Á)(t:Á)(h:fq ρ x v):fJ P fq ρ (ŵ a t #[x]) (ŵ a t #[v]):=by
 unfold ŵ;cases a[0]? with
 |none=>exact .fS
 |some b=>
  apply fI (jg b);rintro f d _ c ⟨rfl,g⟩;have h:=h.fQ c;cases d<;>try exact .fS
  .rename_i e;refine fI (jg e) ?_;rintro i d _ j ⟨rfl,_⟩;cases d<;>first|exact .fS|exact .fH (.iK _ _)
  .cases h<;>first|exact .fS|exact .fH (.iK _ _)
  .exact .fH (.iK _ _)
  all_goals cases h<;>first|exact .fS|exact .fH (.iK _ _)
def adb(g:Array Á)(t:Á)(h:fq ρ x v)(a:fq ρ z jQ):fJ P fq ρ (ť g t #[x,z]) (ť g t #[v,jQ]):=by
 unfold ť;cases g[0]? with
 |none=>exact .fS
 |some l=>
  apply fI (jg l);rintro u d _ i ⟨rfl,B⟩;have h:=h.fQ i;have a:=a.fQ i;cases d<;>try exact .fS
  rename_i e;cases h<;>first|exact .fS|skip
  .rename_i n c;apply fI (J8 a);rintro o m _ b rfl;apply fI (nj e);rintro p w _ f ⟨rfl,_⟩;apply fI (Gy w _<|(a.fQ b).fQ f);intro q c r j k;exact .fH (.iK _ _)
  .rename_i s n c;apply fI (J8 a);rintro o m _ b rfl;apply fI (nj e);rintro p w _ f ⟨rfl,_⟩;apply fI (Gy w _<|(a.fQ b).fQ f);intro q c r j k;apply fI (Oq (((s.r b).r f).r j)<|by simpa using k);intro C _ _ _ _;exact .fH (.iK _ _)
end
section
variable{ρ:fv}
def Ox{α:Type}{h:Halt}:∀u x a,(eP h:Ğ α).run P u≠ı x a:=by intro u x a e;cases e
def yi{α β:Type}{m:Ğ α}{f:α->Ğ β}(h:∀a u x b,(f a).run P u≠ı x b):∀u x b,(m>>=f).run P u≠ı x b:=by
 intro u x b e;rw[Å]at e;cases c:m.run P u with
 |ok a w=>rw[c]at e;exact h a _ _ _ e
 |halt z w=>rw[c]at e;cases e
def Oy{α:Type}:∀u x a,(goPanic v:Ğ α).run P u≠ı x a:=Ox
def Am{α:Type}{v:bQ}:∀u x a,(unsupported v:Ğ α).run P u≠ı x a:=Ox
def rE{α:Type}(e:υ):∀u x a,(runtimePanic e:Ğ α).run P u≠ı x a:=by
 unfold runtimePanic;refine yi λp=> ?_;cases e<;>simp only[]<;>first|exact Oy|skip
 all_goals
  refine yi λ_=> ?_;refine yi λ_=> ?_;exact Oy
def J9{α:Type}{V:fv->α->α->Prop}{e:υ}{m:Ğ α}:fJ P V ρ (runtimePanic e) m:=.oN (rE e)
def ade(Q:nV P)(K D t:Á)(y:(∃e,P.underlying D=À (dH e))\/P.underlying D=À ĥ){B:Ã}(p:fq ρ v jQ)(E:fq ρ x B): fJ P fq ρ (ň #[K,D] t #[v,x]) (ň #[K,D] t #[jQ,B]):=by
 unfold ň;apply fI (jg K);rintro F d _ M ⟨rfl,hd⟩;have p:=p.fQ M;have E:=E.fQ M;cases d<;>try exact .fS
 rename_i e;have T:∀{g:fv} (z:Bool) (w n c m:Nat) {b f:Option Ü},F.r g->fq g (ø b n c) (ø f n c)->fJ P fq g (do
   let newCap<-Ŗ (ž (n+m) c e)
   Ň<|newCap*(<-þ e).bytes;let old<-Ö w n (ø b n c)
   let h<-Ö w m x
   let j:=ú (<-Ġ e).cells<|newCap-(n+m)
   pure (ø (À (<-ō e (old++h++j))) (n+m) newCap))
  (do
   let newCap<-Ŗ (ž (n+m) c e)
   Ň<|newCap*(<-þ e).bytes;let old<-Ö w n (ø f n c)
   let h<-Ö w m B
   let j:=ú (<-Ġ e).cells<|newCap-(n+m)
   pure (ø (À (<-ō e (old++h++j))) (n+m) newCap)):=by
  intro g _ w n c m b f i p;apply sN (.Ai λ_=> .fH U);intro H nc k;apply fI (yg e);rintro I l _ r ⟨rfl,_⟩;apply sN (Ow _);intro ρ5 _ V;have G:=fv.I (fv.I k r) V;apply fI (Gy w n<|p.fQ G);intro ρ6 o o' W X;apply fI (Gy w m<|E.fQ<|fv.I i<|fv.I G W);intro ρ7 q Y hl7 L;apply fI (Gu Q e);intro ρ8 z z' N hzz;apply fI (Gv e<|(((X.I hl7).I N).Y<|L.I N).Y<|hzz.gX.yh _);intro ρ9 a J _ C;exact .fH (.kT C _ _)
 have j:∀{g:fv} (w n c m:Nat) {b f:Option Ü},F.r g->fq g (ø b n c) (ø f n c)->fJ P fq g (do
   let l<-þ e
   if((n+m:Nat):Int)>â.max/\(Â=Ë\/l.bytes=0)then runtimePanic (θ "growslice: len out of range")
   if ķ (n+m) c*(<-þ e).bytes>2^48 then(if Â=Ë then runtimePanic (θ "growslice: len out of range")else do
    if !(<-Ĩ w n m b x)then ey π
    unsupported (ſ "append: a slice or a string whose bytes no memory bears"))
   let newCap<-Ŗ (ž (n+m) c e)
   Ň<|newCap*(<-þ e).bytes;let old<-Ö w n (ø b n c)
   let h<-Ö w m x
   let j:=ú (<-Ġ e).cells<|newCap-(n+m)
   pure (ø (À (<-ō e (old++h++j))) (n+m) newCap))
  (do
   let l<-þ e
   if((n+m:Nat):Int)>â.max/\(Â=Ë\/l.bytes=0)then runtimePanic (θ "growslice: len out of range")
   if ķ (n+m) c*(<-þ e).bytes>2^48 then(if Â=Ë then runtimePanic (θ "growslice: len out of range")else do
    if !(<-Ĩ w n m f B)then ey π
    unsupported (ſ "append: a slice or a string whose bytes no memory bears"))
   let newCap<-Ŗ (ž (n+m) c e)
   Ň<|newCap*(<-þ e).bytes;let old<-Ö w n (ø f n c)
   let h<-Ö w m B
   let j:=ú (<-Ġ e).cells<|newCap-(n+m)
   pure (ø (À (<-ō e (old++h++j))) (n+m) newCap)):=by
  intro g w n c m b f i p;apply fI (yg e);rintro H l _ k ⟨rfl,_⟩;simp only[];split
  .exact .oN (vi<|rE _)
  .apply fI (yg e);rintro I l _ r ⟨rfl,_⟩;have G:=fv.I k r;split
   .refine .oN (vi ?_);simp only[Ç,if_false];refine yi λb=> ?_;split
    .exact yi λ_=>Am
    .exact Am
   .exact T Â w n c m (fv.I i G)<|p.fQ G
 have O:∀{b f:Option Ü} (n c:Nat),((b=í/\f=í)\/∃a J,b=À a/\f=À J/\hD F a J)->fq F (ø b n c) (ø f n c)->∀{g:fv} (w m:Nat),F.r g->fJ P fq g (if n+m<=c then(Ö w m x>>=λh=>match b with
   |some a=>ŝ (a.add<|n*w) h.toList>>=λ_=>pure<|ø b (n+m) c
   |_=>pure (ø b (n+m) c))else(do
   let l<-þ e
   if((n+m:Nat):Int)>â.max/\(Â=Ë\/l.bytes=0)then runtimePanic (θ "growslice: len out of range")
   if ķ (n+m) c*(<-þ e).bytes>2^48 then(if Â=Ë then runtimePanic (θ "growslice: len out of range")else do
    if !(<-Ĩ w n m b x)then ey π
    unsupported (ſ "append: a slice or a string whose bytes no memory bears"))
   let newCap<-Ŗ (ž (n+m) c e)
   Ň<|newCap*(<-þ e).bytes;let old<-Ö w n (ø b n c)
   let h<-Ö w m x
   let j:=ú (<-Ġ e).cells<|newCap-(n+m)
   pure (ø (À (<-ō e (old++h++j))) (n+m) newCap)))
  (if n+m<=c then(Ö w m B>>=λh=>match f with
   |some a=>ŝ (a.add<|n*w) h.toList>>=λ_=>pure<|ø f (n+m) c
   |_=>pure (ø f (n+m) c))else(do
   let l<-þ e
   if((n+m:Nat):Int)>â.max/\(Â=Ë\/l.bytes=0)then runtimePanic (θ "growslice: len out of range")
   if ķ (n+m) c*(<-þ e).bytes>2^48 then(if Â=Ë then runtimePanic (θ "growslice: len out of range")else do
    if !(<-Ĩ w n m f B)then ey π
    unsupported (ſ "append: a slice or a string whose bytes no memory bears"))
   let newCap<-Ŗ (ž (n+m) c e)
   Ň<|newCap*(<-þ e).bytes;let old<-Ö w n (ø f n c)
   let h<-Ö w m B
   let j:=ú (<-Ġ e).cells<|newCap-(n+m)
   pure (ø (À (<-ō e (old++h++j))) (n+m) newCap))):=by
  intro b f n c hb p g w m i;split
  .refine fI (Gy w m<|E.fQ i) ?_;intro H q Y k L;rcases hb with⟨rfl,rfl⟩|⟨a,J,rfl,rfl,C⟩
   .exact .fH (.nS _ _)
   .apply fI (Oq (((C.r i).r k).C _)<|by simpa using L);intro I _ _ r _;exact .fH (.kT (((C.r i).r k).r r) _ _)
  .exact j w n c m i<|p.fQ i
 cases p<;>first|exact .fS|skip
 .rename_i n c;refine fI (nj e) ?_;rintro g w _ i ⟨rfl,_⟩;refine fI (jg D) ?_;rintro H d1 _ k ⟨rfl,u⟩;rcases y with⟨e1,y⟩|y;all_goals
   rw[y]at u;injection u with u;subst u;apply Al;apply fI (J8<|E.fQ<|fv.I i k);rintro I m _ r rfl;exact O n c (Æ ⟨U,U⟩) (.nS _ _) w m<|fv.I (fv.I i k) r
 .rename_i C n c;refine fI (nj e) ?_;rintro g w _ i ⟨rfl,_⟩;refine fI (jg D) ?_;rintro H d1 _ k ⟨rfl,u⟩;rcases y with⟨e1,y⟩|y;all_goals
   rw[y]at u;injection u with u;subst u;apply Al;apply fI (J8<|E.fQ<|fv.I i k);rintro I m _ r rfl;exact O n c (Í ⟨_,_,U,U,C⟩) (.kT C _ _) w m<|fv.I (fv.I i k) r
end
section
variable{ρ:fv}
def adf(p:nV P)(t:Á){j:Ã}(q:fq ρ v x)(r:fq ρ jQ j):fJ P fq ρ (ŉ t v jQ) (ŉ t x j):=by
 unfold ŉ;apply fI (jg t);rintro B d _ k ⟨rfl,C⟩;cases d<;>try exact .fS
 rename_i e;apply fI (Ot<|q.fQ k);rintro D g _ s rfl;apply fI (Ot<|(r.fQ k).fQ s);rintro E b _ F rfl;apply fI (yg e);rintro G m _ H ⟨rfl,_⟩;have u:∀{n:fv},fJ P fq n (do
   Ň<|(â.wrap b).toNat*m.bytes;let w<-Ŝ e
   let zero<-if(â.wrap b).toNat*w=0 then pure #[]else do pure (<-Ġ e).cells
   let a<-ō e ((Ķ<|(â.wrap b).toNat*w).map (zero[· %zero.size]!))
   pure (ø (À a) (â.wrap g).toNat (â.wrap b).toNat))
  (do
   Ň<|(â.wrap b).toNat*m.bytes;let w<-Ŝ e
   let zero<-if(â.wrap b).toNat*w=0 then pure #[]else do pure (<-Ġ e).cells
   let a<-ō e ((Ķ<|(â.wrap b).toNat*w).map (zero[· %zero.size]!))
   pure (ø (À a) (â.wrap g).toNat (â.wrap b).toNat)):=by
  intro n;apply sN (Ow _);intro I _ J;apply fI (nj e);rintro K w _ L ⟨rfl,_⟩;have o:∀{h:fv} {z f:Array Ã},fT h z f->fJ P fq h (ō e ((Ķ<|(â.wrap b).toNat*w).map (z[· %z.size]!))>>=λa=>pure<|ø (À a) (â.wrap g).toNat (â.wrap b).toNat) (ō e ((Ķ<|(â.wrap b).toNat*w).map (f[· %f.size]!))>>=λa=>pure<|ø (À a) (â.wrap g).toNat (â.wrap b).toNat):=by intro h z f i;apply fI (Gv e<|i.Ov _);intro M a N _ y;exact .fH (.kT y _ _)
  simp only[];split
  .exact o<|fT.N _
  .apply fI (Gu p e);intro h z f _ i;exact o i.gX
 simp only[];split
 .split
  .exact .oN (vi<|rE _)
  .split
   .exact .oN (vi<|rE _)
   .exact .oN (yi λ_=>vi<|rE _)
 .exact u
def tP(P:Ù)(t:Á):Prop:=P.underlying t=À .bool\/(∃k,P.underlying t=À (κ k))\/P.underlying t=À ĥ
def nk:Ã->Prop
 |Ò (À _)=>False
 |_=>True
def U6(t:Á)(i:tP P t\/∃e,P.underlying t=À (ó e))(b:fq ρ x v)(c:fq ρ z jQ)(j:nk x\/nk z):fJ P jw ρ (û t x z) (û t v jQ):=by
 unfold û Ď φ;refine fI (jg t) ?_;rintro o d _ g ⟨rfl,a⟩;have b:=b.fQ g;have c:=c.fQ g;rcases i with(h|⟨k,h⟩|h)|⟨e,h⟩;all_goals
  rw[h]at a;injection a with a;subst a;cases b<;>cases c<;>first|exact .fS|exact .fH U|(simp[nk]at j;done)|skip
 .simp only[];split<;>first|exact .fH U|exact .fS
 .rename_i l n _ _ _;by_cases f:n=0
  .subst f;exact .fH U
  .refine .oN λu x m e=> ?_;split at e<;>first|(exact Am _ _ _ e)|(simp_all;done)
 .rename_i l n;by_cases f:n=0
  .subst f;exact .fH U
  .refine .oN λu x m e=> ?_;split at e<;>first|(exact Am _ _ _ e)|(simp_all;done)
end
section
variable{ρ:fv}
def Ka{r:Nat}(h:ρ r i):fJ P (λ_ a b=>a=í/\b=í) ρ (cJ r) (cJ i):=.vh h λ_ _ _ _=> .fH ⟨U,U⟩
def U7{r:Nat}(h:ρ r i):fJ P (λ_ a b=>a=í/\b=í) ρ (cK r) (cK i):=.vh h λ_ _ _ _=> .fH ⟨U,U⟩
def An(h:hD ρ a p):fJ P (λc x b=>hD c x.1 b.1/\x.2=b.2/\x=(a,Â)/\b=(p,Â)) ρ (Ļ a) (Ļ p):=by unfold Ļ;apply fI (U7 h.1);rintro c x d b ⟨rfl,rfl⟩;exact .fH ⟨h.r b,U,U,U⟩
def adg(h:hD ρ a p):fJ P jw ρ (bG a) (bG p):=by unfold bG;apply fI (Ka h.1);rintro b x c d ⟨rfl,rfl⟩;exact .fH U
def Gz(h:hD ρ a p):fJ P jw ρ (dI a) (dI p):=by
 have f:=h;let⟨g,i,b⟩:=f;unfold dI;cases c:a.spot with
 |some s=>
  rw[c]at b;rw[<-b];exact .fH U
 |none=>
  rw[c]at b;rw[<-b];apply fI rC;rintro k s l d ⟨rfl,e⟩;subst e;apply fI (adg<|h.r d);intro m _ _ j _;refine .vh (j.1 _ _<|d.1 _ _ g) λe n o q=> ?_;simp only[<-i,è];split
  .exact .fH U
  .split
   .exact .fH U
   .exact .fS
def Kb(c:Bi ρ){b d:Ü}(f:hD ρ a p)(g:hD ρ b d):(a.block==b.block)=(p.block==d.block):=by
 rw[Ŋ,beq_iff_eq,beq_iff_eq];constructor
 .intro e;exact c.1 _ _ _ f.1<|e▸g.1
 .intro e;exact c.2.1 _ _ _ f.1<|e▸g.1
def U8(k:Bi ρ){b c:Ü}(d:hD ρ a p)(f:hD ρ b c):(a==b)=(p==c):=by have e:=Kb k d f;rw[Ŋ,beq_iff_eq,beq_iff_eq]at e;rw[Ŋ,beq_iff_eq,beq_iff_eq];let⟨l,m,n⟩:=a;let⟨o,q,r⟩:=p;let⟨s,t,u⟩:=b;let⟨v,w,x⟩:=c;let⟨_,g,h⟩:=d;let⟨_,i,j⟩:=f;simp only at g h i j e;subst g h i j;simp only[Addr.mk.injEq,e]
def U9(f:Bi ρ)(i:ρ.C=P.globals.size){b d:Ü}(e:hD ρ a p)(g:hD ρ b d):fJ P jw ρ (Ŷ a b) (Ŷ p d):=by
 unfold Ŷ;apply fI rC;rintro o c q h ⟨j,k⟩;rw[j,k];have l:(a.block !=b.block)=(p.block !=d.block):=by simp only[bne];rw[Kb f e g]
 have m:(decide<|a.block≥P.globals.size)=(decide<|p.block≥P.globals.size):=by have:=f.2.2 _ _ e.1;rw[i]at this;rw[Ŋ,decide_eq_true_iff,decide_eq_true_iff];omega
 rw[l,m];split
 .exact .fS
 .apply fI (Gz<|e.r h);rintro r x _ n rfl;apply fI (Gz<|(g.r h).r n);rintro s y _ t rfl;exact .fH U
def adh(d:Bi ρ)(e:ρ.C=P.globals.size)(k:Ć){b c:Ü}(f:hD ρ a p)(g:hD ρ b c):fJ P fq ρ (χ k a b) (χ k p c):=by unfold χ;apply fI (U9 d e f g);rintro h ⟨x,y⟩ _ _ rfl;exact .fH (.iK _ _)
def adi(e:Bi ρ)(f:ρ.C=P.globals.size)(c:ĭ){b d:Ü}(g:hD ρ a p)(h:hD ρ b d):fJ P fq ρ (ψ c a b) (ψ c p d):=by unfold ψ;refine fI (U9 e f g h) ?_;rintro i ⟨x,y⟩ _ _ rfl;cases c<;>first|exact .fH (.my _)|exact .fS
def Va(k:Ć)(b:hD ρ a p)(n:Int):fJ P fq ρ (ω k a n) (ω k p n):=by
 unfold ω;refine .vh b.1 λe m d f=> ?_;apply Al;apply fI (yg e);rintro g h _ c ⟨rfl,_⟩;simp only[];split
 .exact .fS
 .apply fI (Gz<|b.r c);rintro i x _ _ rfl;exact .fH (.iK _ _)
def adj{n:Int}(h:j<=b)(a:ay P i e j k n=À m):ay P i e b k n=À m:=by
 have f:=λw=>Nat.mul_le_mul_right w h;unfold ay at a|-;simp only[bind,Option.bind]at a|-;split at a
 .cases a
 .rename_i g;rw[if_neg g];split at a
  .cases a
  .rename_i l;simp only[l];dsimp only at a;split at a
   .cases a
   .rename_i o;rw[if_neg]
    .exact a
    .intro q;apply o;have:=f<|P.bytesOf e;simp at q|-;omega
def adk{i:Á->Bool}:∀{d:Nat} {e:Á} {c a b n:Nat},c<=a->dC P i d e c b n=Ë->dC P i d e a b n=Ë
 |0,_,_,_,_,_,_,h=>by simp[dC]at h
 |d+1,e,c,a,b,n,hc,h=>by
  unfold dC at h|-;simp only at h|-;split at h
  .cases h
  .rename_i j;rw[if_neg j];rw[ů,ĕ,ĕ,ĕ]at h|-;rcases h with⟨⟨f,g⟩,k⟩|⟨f,g⟩
   .exact Æ ⟨⟨f,by simp at g|-;omega⟩,k⟩
   .exact Í ⟨by simp at f|-;omega,g⟩
def Vb:∀{d:Nat} {e:Á} {c a b:Nat} {u:Á} {n:Nat},c<=a->bH P d e c b u n=Ë->bH P d e a b u n=Ë
 |0,_,_,_,_,_,_,_,h=>by simp[bH]at h
 |d+1,e,c,a,b,u,n,hc,h=>by
  unfold bH at h|-;rw[ů]at h|-;rcases h with h|h
  .exact Æ<|adk hc h
  .right;split at h
   .rename_i f;first|rw[f]|skip
    exact Vb hc h
   .cases h
def adl{a:Á->Bool}:dC P a i e 0 j (n+1)=Â:=by
 cases i with
 |zero=>simp[dC]
 |succ i=>
  unfold dC;simp
def adn{k:Ć}(a:P.underlying t=À (κ k)):bH P i e 0 j t (n+1)=Â:=by
 cases i with
 |zero=>simp[bH]
 |succ i=>
  unfold bH;rw[adl];simp[a]
def Vd(t:Á)(d:hD ρ a p)(k:Ć)(n:Int):fJ P fq ρ (ô #[] t #[Ò<|À a,ē k n]) (ô #[] t #[Ò<|À p,ē k n]):=by
 have f:=d;let⟨c,g,h⟩:=f;unfold ô;apply Al;simp only[];split
 .apply fI (Ka c);rintro i x q b ⟨rfl,rfl⟩;exact .fH (.jZ (d.r b))
 .split
  .exact .fS
  .refine .vh c λe m j l=> ?_;apply Al;apply fI rC;rintro i b v o ⟨r,s⟩;rw[r,s,<-g];have u:m/P.cellsOf e<=j/P.cellsOf e:=az (l.elim (λq=>by omega) λq=>q.1);cases q:ay P P.depth e (m/P.cellsOf e) a.off n with
   |none=>exact .fS
   |some x=>
    rw[adj u q];exact .fH (.jZ ⟨o.1 _ _ c,U,h⟩)
end
def yj:Obj->Prop
 |ė .. =>False
 |_=>True
inductive kx(P:Ù){α:Type}(V:fv->α->α->Prop):fv->Ğ α->Ğ α->Prop
 |gu {ρ:fv} {m m':Ğ α} (h:fJ P V ρ m m'):kx P V ρ m m'
 |mA {ρ:fv} {β:Type} {V0:fv->β->β->Prop} {m m':Ğ β} {f f':β->Ğ α} (h:fJ P V0 ρ m m') (hf:∀wC a a',ρ.r wC->V0 wC a a'->kx P V wC (f a) (f' a')):kx P V ρ (m.bind f) (m'.bind f')
 |D3 {ρ:fv} {o:Obj} {g:Nat->α} {m':Ğ α} (ho:yj o):kx P V ρ (.new o λr=>bl<|g r) m'
 |D4 {ρ:fv} {m m':Ğ α} (h:∀u x u',m.run P u=ı x u'->∃i o,u.heap.size<=i/\u'.heap[i]?=À o/\yj o):kx P V ρ m m'
section
variable{ρ:fv}
def kx.ado{α β:Type}{V:fv->α->α->Prop}{i:fv->β->β->Prop}{m e:Ğ α}{f j:α->β}(h:kx P V ρ m e)(k:∀c a d,ρ.r c->V c a d->i c (f a) (j d)): kx P i ρ (m.bind λa=>bl<|f a) (e.bind λa=>bl<|j a):=by
 induction h with
 |gu h=>exact .gu (h.mA λc a d u w=> .fH (k c a d u w))
 |mA h _ g=>
  rw[Ű,Ű];exact .mA h λc a d u w=>g c a d u w λx b z l n=>k x b z (fv.I u l) n
 |D3 b=>exact .D3 b
 |@D4 ρ m e h=>
  refine .D4 λu x l b=> ?_;rw[ł]at b;cases g:m.run P u with
  |halt z w=>rw[g]at b;cases b
  |ok a w=>
   rw[g]at b;simp only[ä]at b;cases b;exact h u a _ g
def D5(u a:È):Prop:=∀i o,u.heap.size<=i->a.heap[i]?=À o->¬yj o
def kx.gp{α:Type}{V:fv->α->α->Prop}{ρ:fv}{m t:Ğ α}(h:kx P V ρ m t):∀{u w:È},jo ρ X u w->(∀j,X j->j<w.heap.size)->∀{x:α} {c:È},m.run P u=ı x c->D5 u c->∀d:Array ĉ,∃(a:fv) (p:α) (b:È) (g:Array ĉ),ρ.r a/\(∀i j,a i j->ρ i j\/(u.heap.size<=i/\w.heap.size<=j))/\t.runT P w d=(ı p b,d++g)/\V a x p/\jo a X c b/\nU ρ X w b/\(∀e∈g,Aj a X e)/\u.heap.size<=c.heap.size:=by
 induction h with
 |gu h=>intro u w k g x c b _ d;exact h.gp k g b d
 |@mA ρ β V0 m t f f' h _ ih=>
  intro u w k g x c b l d;rw[ł]at b;cases v:m.run P u with
  |halt z w=>rw[v]at b;cases b
  |ok a u1=>
   rw[v]at b;let⟨H,I,w1,F,q,r,B,J,K,C,L,D⟩:=h.gp k g v d;have M:=λj s=>Õ (g j s) C.r;let⟨N,p,O,Q,G,T,W,Y,k5,k6,k7,k8⟩:=ih H a I q J K M b (λi o n=>l i o<|ö D n)<|d++F;refine⟨N,p,O,F++Q,fv.I q G,λi j E=> ?_,?_,Y,k5,C.fj k6 λi j E=>(r i j E).imp id λy=>y.2,λe n=> ?_,ö D k8⟩
   .rcases T i j E with y|⟨y1,y2⟩
    .exact r i j y
    .exact Í ⟨ö D y1,ö C.r y2⟩
   .rw[Ð,B];simp only[];rw[W,Ō]
   .rcases ħ.1 n with n|n
    .rcases L e n with⟨a,i,y,z2,z3,z4⟩|z
     .exact Æ ⟨a,i,y,G.1 _ _ z2,z3,z4⟩
     .exact Í z
    .exact k7 e n
 |D3 a=>
  intro u w k g x c b l d;simp only[ä]at b;cases b;exact absurd a<|l u.heap.size _ (á _) ft
 |D4 h=>
  intro u w k g x c b l d;let⟨i,o,q,r,B⟩:=h u x c b;exact absurd B<|l i o q r
end
section
variable{ρ:fv}
def adp(i:Bi ρ)(s:ρ.C=P.globals.size)(t:Á)(u:tP P t){j b m:Ü}(e:hD ρ a j)(f:hD ρ b m):fJ P jw ρ (û t (Ò<|À a)<|Ò<|À b) (û t (Ò<|À j)<|Ò<|À m):=by
 unfold û Ď φ;refine fI (jg t) ?_;rintro G d _ g ⟨rfl,c⟩;rcases u with h|⟨k,h⟩|h
 .rw[h]at c;injection c with c;subst c;exact .fS
 .rw[h]at c;injection c with c;subst c;apply fI (An<|e.r g);rintro H p v l ⟨_,_,rfl,rfl⟩;apply fI (An<|(f.r g).r l);rintro I q J n ⟨_,_,rfl,rfl⟩;apply fI rC;rintro K p v o ⟨w,z⟩;rw[w,z];have B:=(((e.r g).r l).r n).r o;have C:=(((f.r g).r l).r n).r o;have D:=Kb i e f;have E:(decide<|a.block<P.globals.size)=(decide<|j.block<P.globals.size):=by
   have:=i.2.2 _ _ e.1;rw[s]at this;rw[Ŋ,decide_eq_true_iff,decide_eq_true_iff];exact this
  simp only[D,E];split
  .apply fI (Gz B);rintro F x _ r rfl;apply fI (Gz<|C.r r);rintro L y _ M rfl;exact .fH U
  .apply fI (yg t);rintro F x _ r ⟨rfl,_⟩;split
   .rw[U8 i e f];split
    .exact .fH U
    .exact .fS
   .exact .fS
 .rw[h]at c;injection c with c;subst c;exact .fS
def adq(e:Bi ρ)(f:ρ.C=P.globals.size)(t:Á)(b:tP P t)(c:fq ρ x v)(d:fq ρ z jQ):fJ P jw ρ (û t x z) (û t v jQ):=by
 by_cases a:nk x\/nk z
 .exact U6 t (Æ b) c d a
 .have g:=λh=>a<|Æ h;have i:=λh=>a<|Í h;cases c<;>first|exact absurd trivial g|skip
  cases d<;>first|exact absurd trivial i|skip
  rename_i j _ _ k;exact adp e f t b j k
def adr(a:ĭ)(k:Ć)(x y:Int):fJ P fq ρ (aJ a k x y) (aJ a k x y):=by
 unfold aJ;split
 .exact J9
 .cases a<;>first|exact .fS|exact .fH (.iK _ _)
def ads(a:ĭ)(k b:Ć)(x y:Int):fJ P fq ρ (bn a k x b y) (bn a k x b y):=by
 unfold bn;split
 .exact J9
 .cases a<;>first|exact .fS|exact .fH (.iK _ _)
def adt(a:ĭ)(t:Á)(k b:Ć)(x y:Int):fJ P fq ρ (Α a t (ē k x)<|ē b y) (Α a t (ē k x)<|ē b y):=by
 cases a<;>simp only[Α]<;>first|exact ads _ _ _ _ _|skip
 all_goals
  split
  .exact .fS
  .first|exact .fH (.iK _ _)|exact .fH (.my _)|exact adr _ _ _ _
def adu(a:ĭ)(t:Á)(x y:ByteArray):fJ P fq ρ (Α a t (Ĥ x)<|Ĥ y) (Α a t (Ĥ x)<|Ĥ y):=by
 cases a<;>simp only[Α,bR]<;>first|exact .fS|exact .fH (.my _)|skip
 split
 .exact .fS
 .exact .fH (.kS _)
end
section
variable{ρ:fv}
def kY{α β:Type}{V0:fv->β->β->Prop}{V:fv->α->α->Prop}{m c:Ğ β}{f d:β->Ğ α}(h:fJ P V0 ρ m c) (g:∀b a e,ρ.r b->V0 b a e->kx P V b (f a) (d e)):kx P V ρ (m>>=f) (c>>=d):=.mA h g
def adv{α β:Type}{V:fv->α->α->Prop}{c:fv->β->β->Prop}{m d:Ğ α}{f e:α->β}(h:kx P V ρ m d)(i:∀b a g,ρ.r b->V b a g->c b (f a) (e g)): kx P c ρ (m>>=λa=>pure<|f a) (d>>=λa=>pure<|e a):=kx.ado h i
def Ve(t:Á)(y:Ã):∀u x a,(ô #[] t #[Ò í,y]).run P u≠ı x a:=by
 unfold ô;refine yi λn=> ?_;simp only[];split
 .exact Am
 .split
  .exact vi Am
  .exact Am
def D6(t:Á)(i:fq ρ x v)(j:∃p,x=Ò p)(k:Ć)(n:Int):kx P fq ρ (ũ t x<|ē k n) (ũ t v<|ē k n):=by
 obtain⟨p,rfl⟩:=j;cases i with
 |lM=>
  unfold ũ;refine kY (jg t) ?_;rintro e d _ h ⟨rfl,_⟩;cases d<;>simp only[Ç,if_false,if_true]<;>first|exact .gu .fS|exact .gu (.oN (Ve t _))
 |jZ f=>
  unfold ũ;refine kY (jg t) ?_;rintro e d _ h ⟨rfl,_⟩;have l:∀{a g:Ü},hD e a g->kx P fq e (Ļ a>>=λp=>ô #[] t #[Ò<|À p.1,ē k n]>>=λc=>match c with|Ò (À b)=>cL b p.2|c=>pure c) (Ļ g>>=λp=>ô #[] t #[Ò<|À p.1,ē k n]>>=λc=>match c with|Ò (À b)=>cL b p.2|c=>pure c):=by intro a g f;refine kY (An f) ?_;rintro q p r s ⟨m,u,rfl,rfl⟩;refine kY (Vd t m k n) ?_;intro w c y z o;cases o<;>first|exact .D3 trivial|exact .gu (.fH (by constructor<;>assumption))
  cases d<;>simp only[Ç,if_false,if_true]<;>first|exact .gu .fS|exact l<|f.r h
def Vf(t:Á)(b:fq ρ x v)(c:∃p,x=Ò p)(k:Ć)(n:Int):kx P fq ρ (ŷ t x<|ē k n) (ŷ t v<|ē k n):=by
 unfold ŷ;obtain⟨p,rfl⟩:=c;cases b with
 |lM=>exact .gu (.oN (Ve t _))
 |jZ a=>
  apply kY (U7 a.1);rintro e p f d ⟨rfl,rfl⟩;exact .gu (Vd t (a.r d) k n)
def adw(P:Ù)(a:ĭ)(t:Á)(x y:Ã):Prop:=a=aX\/a=bq->(tP P t\/((∃e,P.underlying t=À (ó e))/\(nk x\/nk y)))
def Vg(c:Bi ρ)(d:ρ.C=P.globals.size)(t:Á)(f:tP P t\/((∃e,P.underlying t=À (ó e))/\(nk x\/nk z)))(a:fq ρ x v)(b:fq ρ z jQ):fJ P jw ρ (û t x z) (û t v jQ):=by
 rcases f with h|⟨g,i⟩
 .exact adq c d t h a b
 .exact U6 t (Í g) a b i
def adx(m:Bi ρ)(n:ρ.C=P.globals.size)(c:ĭ)(t:Á)(r:adw P c t x z)(o:fq ρ x v)(h:fq ρ z jQ):kx P fq ρ (Α c t x z) (Α c t v jQ):=by
 have f:c=aX->fJ P fq ρ (û t x z>>=λb=>pure<|Ŏ b) (û t v jQ>>=λb=>pure<|Ŏ b):=by intro e;apply fI (Vg m n t (r<|Æ e) o h);rintro i b _ _ rfl;exact .fH (.my _)
 have g:c=bq->fJ P fq ρ (û t x z>>=λb=>pure<|Ŏ !b) (û t v jQ>>=λb=>pure<|Ŏ !b):=by intro e;apply fI (Vg m n t (r<|Í e) o h);rintro i b _ _ rfl;exact .fH (.my _)
 cases o with
 |iK k a=>
  cases h with
  |iK d b=>exact .gu (adt c t k d a b)
  |jZ l=>
   cases c<;>first|exact .gu .fS|exact .gu (f U)|exact .gu (g U)|exact D6 t (.jZ l) ⟨_,U⟩ _ _|skip
   apply kY (An l);rintro i p s e ⟨j,_,_,_⟩;exact .gu (Va _ j _)
  |lM=>cases c<;>first|exact .gu .fS|exact .gu (f U)|exact .gu (g U)|exact D6 t .lM ⟨_,U⟩ _ _
  |_=>cases c<;>first|exact .gu .fS|exact .gu (f U)|exact .gu (g U)
 |kS a=>
  cases h with
  |kS b=>exact .gu (adu c t a b)
  |_=>cases c<;>first|exact .gu .fS|exact .gu (f U)|exact .gu (g U)
 |lM=>
  cases h with
  |iK k b=>
   cases c<;>first|exact .gu .fS|exact .gu (f U)|exact .gu (g U)|exact D6 t .lM ⟨_,U⟩ _ _|skip
   refine kY (jg t) ?_;rintro i d _ e ⟨rfl,_⟩;cases d<;>simp only[Ç,if_false,if_true]<;>first|exact Vf t .lM ⟨_,U⟩ _ _|exact D6 t .lM ⟨_,U⟩ _ _
  |_=>cases c<;>first|exact .gu .fS|exact .gu (f U)|exact .gu (g U)
 |jZ a=>
  cases h with
  |iK k b=>
   cases c<;>first|exact .gu .fS|exact .gu (f U)|exact .gu (g U)|exact D6 t (.jZ a) ⟨_,U⟩ _ _|skip
   .refine kY (jg t) ?_;rintro i d _ e ⟨rfl,_⟩;have a:=a.r e;cases d<;>simp only[Ç,if_false,if_true]<;>first|exact Vf t (.jZ a) ⟨_,U⟩ _ _|exact D6 t (.jZ a) ⟨_,U⟩ _ _
   all_goals
    apply kY (An a);rintro i p s e ⟨j,_,_,_⟩;exact .gu (Va _ j _)
  |jZ l=>
   cases c<;>first|exact .gu .fS|exact .gu (f U)|exact .gu (g U)|skip
   all_goals
    refine kY (An a) ?_;rintro i p s e ⟨j,_,rfl,rfl⟩;refine kY (An<|l.r e) ?_;rintro w q B b ⟨d,_,rfl,rfl⟩;have k:=b.2.1<|e.2.1 m;have u:=b.2.2.trans<|e.2.2.trans n;first|exact .gu (adh k u _ (j.r b) d)|exact .gu (adi k u _ (j.r b) d)
  |_=>cases c<;>first|exact .gu .fS|exact .gu (f U)|exact .gu (g U)
 |_=>
  cases h<;>cases c<;>first|exact .gu .fS|exact .gu (f U)|exact .gu (g U)
end
section
variable{ρ:fv}
def ady(a b:Á)(h:(∃k g,P.underlying a=À (κ k)/\P.underlying b=À (κ g))\/(P.underlying a=À ĥ/\P.underlying b=À ĥ))(f:fq ρ x v):fJ P fq ρ (Ŧ a b x) (Ŧ a b v):=by
 unfold Ŧ;refine fI (jg a) ?_;rintro n d _ l ⟨rfl,c⟩;refine fI (jg b) ?_;rintro o p _ m ⟨rfl,e⟩;have f:=(f.fQ l).fQ m;rcases h with⟨k,g,i,j⟩|⟨i,j⟩;all_goals
  rw[i]at c;rw[j]at e;injection c with c;injection e with e;subst c e;cases f<;>first|exact .fS|exact .fH (.iK _ _)|exact .fH (.kS _)
inductive pw(ρ:fv):ae->ae->Prop
 |nW {v v':Ã} (h:fq ρ v v'):pw ρ (ñ v) (ñ v')
 |sP:pw ρ bk bk
 |sQ (f:ã) {c c':Array Ã} (h:fT ρ c c'):pw ρ (Β f c) (Β f c')
def GA(P:Ù)(t:Á):Prop:=tP P t\/∃e,P.underlying t=À (ó e)
def adz(t:Á)(f:GA P t)(a g b i:Ã):fJ P jw ρ (ļ Ď t a b) (ļ Ď t g i):=by
 unfold Ď ļ;refine fI (jg t) ?_;rintro j d _ l ⟨rfl,c⟩;rcases f with(h|⟨k,h⟩|h)|⟨e,h⟩;all_goals
  rw[h]at c;injection c with c;subst c;exact .fH U
def adA(e:ĭ)(t:Á)(c:e=aX\/e=bq->GA P t)(x y:Ú){d:Ã}(h:fq ρ v z)(i:fq ρ jQ d):fJ P jw ρ (Ο e t x y v jQ) (Ο e t x y z d):=by
 have g:GA P t->∀{f:fv} (s:bQ) (v z jQ d:Ã),fJ P jw f (ļ Ď t v jQ>>=λr=>if r=Ë then unsupported s else pure ()) (ļ Ď t z d>>=λr=>if r=Ë then unsupported s else pure ()):=by
  intro c f s v z jQ d;apply fI (adz t c v z jQ d);rintro j r _ _ rfl;split
  .exact .fS
  .exact .fH U
 unfold Ο;cases e<;>first|exact .fH U|skip
 all_goals
  have c:=c (by first|exact Æ U|exact Í U);cases h<;>cases i<;>first|exact .fH U|skip
 all_goals first
  |(cases x<;>cases y<;>first|exact .fH U|exact g c _ _ _ _ _)
  |(
   simp only[ċ,Ç,if_false];apply fI rC;rintro f p m n ⟨r,s⟩;rw[r,s];apply fI rC;rintro j q o u ⟨k,l⟩;rw[k,l];split
   .exact .fH U
   .exact g c _ _ _ _ _)
def mO{m a:Ğ Ã}(h:fJ P fq ρ m a):fJ P pw ρ (m>>=λv=>pure<|ñ v) (a>>=λv=>pure<|ñ v):=h.mA λ_ _ _ _ v=> .fH (.nW v)
def Vh{m a:Ğ Ã}(h:kx P fq ρ m a):kx P pw ρ (m>>=λv=>pure<|ñ v) (a>>=λv=>pure<|ñ v):=adv h λ_ _ _ _ v=> .nW v
def adB{m a:Ğ Unit}(h:fJ P jw ρ m a):fJ P pw ρ (m>>=λ_=>pure bk) (a>>=λ_=>pure bk):=h.mA λ_ _ _ _ _=> .fH .sP
def adC(f:ã)(b:∃a,P.funcs[f]?=À a/\(a.name== "runtime.NumGoroutine")=Â/\a.body.isNone=Â)(e:fT ρ d q):fJ P pw ρ (Ń f d) (Ń f q):=by let⟨a,g,h,i⟩:=b;unfold Ń;apply fI rC;rintro m p n j ⟨k,l⟩;rw[k,l,g];simp only[h,i,Ç,if_false];exact .fH (.sQ f (e.I j))
end
inductive kj(P:Ù)(ev:Ú->Ã):Op->Prop
 |Ao (x:Ú):kj P ev (.move x)
 |GB (x:Ú):kj P ev (.assign x)
 |wD (c a b:Ú):kj P ev (.pick c a b)
 |gI (t:Á):kj P ev (.alloc t)
 |Oz (t:Á) (x:Ú):kj P ev (.box t x)
 |OA (t:Á) (ps:Array (Nat×Operand)):kj P ev (.build t ps)
 |OB (t:Á) (n:Nat) (ps:Array (Nat×Operand)):kj P ev (dV t n ps)
 |gG (t:Á) (a:Ú):kj P ev (.load t a)
 |jf (t:Á) (a x:Ú):kj P ev (.store t a x)
 |GD (x:Ú):kj P ev (eW x)
 |D7 (op:ĭ) (t:Á) (x y:Ú) (r:Á) (h:op=aX\/op=bq->(tP P t\/((∃e,P.underlying t=À (ó e))/\(nk (ev x)\/nk (ev y))))):kj P ev (ez op t x y r)
 |OC (op:UnOp) (t:Á) (x:Ú):kj P ev (.unOp op t x)
 |OD (s d:Á) (x:Ú) (h:(∃k k',P.underlying s=À (κ k)/\P.underlying d=À (κ k'))\/(P.underlying s=À ĥ/\P.underlying d=À ĥ)):kj P ev (br s d x)
 |OG (t:Á) (l c:Ú):kj P ev (eA t l c)
 |kT (t:Á) (x:Ú) (lo hi mx:Option Ú):kj P ev (.slice t x lo hi mx)
 |OH (s:Á) (x:Ú) (n:Nat) (h:∀fields f i,P.underlying s=À (dG fields)->fields[n]?=À f->P.info? f.type=À i->i.size≠0):kj P ev (eB s x n)
 |OJ (t:Á) (x:Ú) (n:Nat):kj P ev (.field t x n)
 |OL (t:Á) (x i:Ú):kj P ev (eC t x i)
 |OM (t:Á) (x i:Ú):kj P ev (.index t x i)
 |Gr (x:Ú) (n:Nat):kj P ev (.extract x n)
 |GF (x:Ú) (ts:Array Á):kj P ev (ah {callee:=ĩ .len,args:=#[x],argTypes:=ts})
 |GG (x:Ú) (ts:Array Á):kj P ev (ah {callee:=ĩ .cap,args:=#[x],argTypes:=ts})
 |GH (x y:Ú) (ts:Array Á):kj P ev (ah {callee:=ĩ .copy,args:=#[x,y],argTypes:=ts})
 |GI (x y:Ú) (t0 t1:Á) (h:(∃e,P.underlying t1=À (dH e))\/P.underlying t1=À ĥ):kj P ev (ah {callee:=ĩ .append,args:=#[x,y],argTypes:=#[t0,t1]})
 |jM (f:ã) (args:Array Ú) (ts:Array Á) (Ke:ev (bu f)=.func (.func f) #[] #[]) (h:∃fn,P.funcs[f]?=À fn/\(fn.name== "runtime.NumGoroutine")=Â/\fn.body.isNone=Â):kj P ev (ah {callee:=cM<|bu f,args:=args,argTypes:=ts})
end Go.Proofs.Y.Lift
namespace Go.Proofs.Y.Lift
open Go Go.Conc
section
variable{ρ:fv}
def Vi(ρ:fv):Ú->Prop
 |eD v=>fq ρ v v
 |eS g=>ρ g g
 |_=>True
def GJ(ρ:fv):fq ρ ŏ ŏ:=.nT U λi h=>absurd h ft
def adD{a a':bZ}(h:fT ρ a.tmps a'.tmps)(b:Vi ρ qQ):fq ρ (a.eval qQ) (a'.eval qQ):=by
 cases qQ with
 |tmp t=>
  simp only[ê,Ĵ];rcases h.S t with⟨f,g⟩|⟨v,d,f,g,c⟩
  .rw[f,g];exact GJ ρ
  .rwa[f,g]
 |const v=>exact b
 |global g=>exact .jZ ⟨b,U,U⟩
 |func f=>exact .fn _
def adE(b:Array aT)(h:fT ρ d q)(j:Nat):ŗ b d j=ŗ b q j:=by
 unfold ŗ;cases(b[j]?).bind (·.dst)with
 |none=>rfl
 |some a=>
  simp only[Option.bind_some];rcases h.S a with⟨c,e⟩|⟨v,g,c,e,f⟩
  .rw[c,e]
  .rw[c,e];cases f<;>rfl
def Kf(a:Array aT)(o:aT)(h:fT ρ d q):Ĳ o (ŗ a d)=Ĳ o (ŗ a q):=by have:ŗ a d=ŗ a q:=funext<|adE a h;rw[this]
def adF{a a':bZ}(h:fT ρ a.tmps a'.tmps)(d:Option Tmp)(b:fq ρ v x):fT ρ (a.put d v).tmps (a'.put d x).tmps:=by
 cases d with
 |none=>exact h
 |some d=>exact h.G d b
end
section
variable{ρ:fv}
def Vj{b:Ú->Ã}(a:Array Ú)(h:∀x∈a,fq ρ (xX x)<|b x):fT ρ (a.map xX) (a.map b):= ⟨ft,λi c d=>by simp only[Ξ];exact h _<|Array.getElem_mem _⟩
def Vk{c:Ú->Ã}(a:Array (Nat×Operand))(h:∀x∈(a.toList.map (·.2)).toArray,fq ρ (xX x)<|c x):vj ρ (a.map λp=>(p.1,xX p.2)).toList (a.map λp=>(p.1,c p.2)).toList:=by
 simp only[Array.toList_map];have d:∀x∈a.toList.map (·.2),fq ρ (xX x) (c x):=λx b=>h x (by simpa using b);generalize a.toList=l at d
 induction l with
 |nil=>exact .pv
 |cons p l e=>exact .wB ⟨U,d _ ft⟩ (e λx b=>d x<|by simp at b|-;exact Í b)
def ON{a:Ú->Ã}(x:Option Ú)(h:∀y,x=À y->fq ρ (xX y) (a y)):rD ρ (x.map xX) (x.map a):=by
 cases x with
 |none=>exact Æ ⟨U,U⟩
 |some x=>exact Í ⟨_,_,U,U,h x U⟩
def Vl(p:nV P)(D:Bi ρ)(E:ρ.C=P.globals.size){w:Ú->Ã}(F:∀f,w (bu f)=.func (.func f) #[] #[])(B:kj P xX o.op)(g:∀x∈o.op.operands,fq ρ (xX x)<|w x):kx P pw ρ (î xX o) (î w o):=by
 let⟨O,u,Q,T,V,guard⟩:=o;simp only at B g;unfold î;simp only[];cases B with
 |Ao x=>exact .gu (.fH (pw.nW<|g x<|by simp[Ì]))
 |GB x=>exact .gu (.fH (pw.nW<|g x<|by simp[Ì]))
 |wD c a b=>
  apply kY (U4<|g c<|by simp[Ì]);rintro G r _ k rfl;refine .gu (.fH (pw.nW ?_));split
  .exact(g a<|by simp[Ì]).fQ k
  .exact(g b<|by simp[Ì]).fQ k
 |gI t=>exact .gu (mO<|acN p t _)
 |Oz t x=>exact .gu (mO<|acO t<|g x<|by simp[Ì])
 |OA t z=>exact .gu (mO<|ac4 p t<|Vk z g)
 |OB t n z=>exact .gu (mO<|ac7 p t n<|Vk z g)
 |gG t a=>exact .gu (mO<|acP t<|g a<|by simp[Ì])
 |jf t a x=>exact .gu (adB<|acQ t (g a<|by simp[Ì])<|g x<|by simp[Ì])
 |GD x=>
  simp only[];have j:=g x (by simp[Ì]);generalize xX x=v at j;generalize w x=v' at j;cases j<;>first|exact .gu J9|exact .gu (.fH (pw.nW<|by constructor<;>assumption))|skip
  rename_i f;cases f<;>exact .gu (.fH (pw.nW<|.fn _))
 |D7 u t x y r h=>
  have j:=g x (by simp[Ì]);have C:=g y (by simp[Ì]);apply Vh;apply kY (adA u t (λe=>(h e).imp id λq=>q.1) x y j C);intro G _ _ k _;exact adx (k.2.1 D) (k.2.2.trans E) u t h (j.fQ k)<|C.fQ k
 |OC u t x=>exact .gu (mO<|acY u<|g x<|by simp[Ì])
 |OD s d x h=>exact .gu (mO<|ady s d h<|g x<|by simp[Ì])
 |OG t l c=>exact .gu (mO<|adf p t (g l<|by simp[Ì])<|g c<|by simp[Ì])
 |kT t x H I J=>exact .gu (mO<|acW t (g x<|by simp[Ì]) (ON H λy e=>g y<|by simp[Ì,e]) (ON I λy e=>g y<|by simp[Ì,e])<|ON J λy e=>g y<|by simp[Ì,e])
 |OH s x n h=>exact .gu (mO<|acT s (g x<|by simp[Ì]) n h)
 |OJ t x n=>exact .gu (mO<|acS t (g x<|by simp[Ì]) n)
 |OL t x i=>exact .gu (mO<|acU t (g x<|by simp[Ì])<|g i<|by simp[Ì])
 |OM t x i=>exact .gu (mO<|acX t (g x<|by simp[Ì])<|g i<|by simp[Ì])
 |Gr x n=>exact .gu (mO<|acR (g x<|by simp[Ì]) n)
 |GF x m=>
  simp only[Ă,Ę,ĝ,pure_bind,Û,æ,é];exact .gu (mO<|ac9 m _<|g x<|by simp[Ì,ü])
 |GG x m=>
  simp only[Ă,Ę,ĝ,pure_bind,Û,æ,é];exact .gu (mO<|ada m _<|g x<|by simp[Ì,ü])
 |GH x y m=>
  simp only[Ă,Ę,ĝ,pure_bind,Û,æ,é];exact .gu (mO<|adb m _ (g x<|by simp[Ì,ü])<|g y<|by simp[Ì,ü])
 |GI x y K L h=>
  simp only[Ă,Ę,ĝ,pure_bind,Û,æ,é];exact .gu (mO<|ade p K L _ h (g x<|by simp[Ì,ü])<|g y<|by simp[Ì,ü])
 |jM f M m N h=>
  simp only[Ă,N,F f,Ľ,Ę,pure_bind,ę,Ě];exact .gu (adC f h<|Vj M λx j=>g x<|by simp[Ì,ü,j])
end
def World.tp(u:È)(T:aG)(D:Nat):È:={u with tape:=T,drawn:=D}
def vk(T:aG)(D:Nat)(a:aG)(b n:Nat):Prop:=∀i,i<n->a (b+i)=T (D+i)
def vk.lO{T:aG}(h:vk T i xQ j (n+1)):xQ j=T i:=h 0 Z
def vk.jh{T:aG}(h:vk T i xQ j (n+m)):vk T i xQ j n:=λa b=>h a Z
def vk.adG{b:aG}(h:vk xQ i b j (n+m)):vk xQ (i+n) b (j+n) m:=λa c=>by have:=h (n+a) Z;rw[show j+n+a=j+(n+a) by omega,show i+n+a=i+(n+a) by omega];exact this
def rF{α:Type}(P:Ù)(m:Ğ α):Prop:=∀(u:È) (T:aG) (D:Nat),∃(n:Nat) (v:È),
 ∀x c,m.run P ((World.tp u T D))=ı x c->c=(World.tp v T<|D+n)/\∀a b,vk T D a b n->m.run P ((World.tp u a b))=ı x ((World.tp v a<|b+n))
section
variable{α β:Type}
def Ap{m:Ğ α}(h:∀u x a,m.run P u=ı x a->a=u/\∀b c,m.run P ((World.tp u b c))=ı x ((World.tp u b c))):rF P m:=λu T D=>⟨0,u,λx a e=>by let⟨d,f⟩:=h _ x a e;exact⟨d,λb c _=>f b c⟩⟩
def OO{m:Ğ α}(h:∀u x a,m.run P u≠ı x a):rF P m:=λu T D=>⟨0,u,λx a e=>absurd e<|h _ _ _⟩
def adH{m:Ğ α}{f:α->Ğ β}(h:rF P m)(i:∀a,rF P<|f a):rF P (m.bind f):=by
 intro u T D;let⟨n,v,j⟩:=h u T D;cases b:m.run P ((World.tp u T D))with
 |halt z w=>exact⟨0,u,λx c e=>by rw[ł,b]at e;cases e⟩
 |ok a k=>
  obtain⟨rfl,l⟩:=j a k b;let⟨o,w,p⟩:=i a v T<|D+n;refine⟨n+o,w,λx c e=> ?_⟩;rw[ł,b]at e;let⟨q,r⟩:=p x c e;refine⟨by rw[q,dq],λz d g=> ?_⟩;rw[ł,l z d g.jh,<-dq];exact r z (d+n) g.adG
def adI{m a:Ğ α}(h:∀u,m.run P u=a.run P u)(b:rF P a):rF P m:=by intro u T D;let⟨n,v,c⟩:=b u T D;exact⟨n,v,λx d e=>by let⟨f,g⟩:=c x d<|(h _).symm.trans e;exact⟨f,λi j k=>(h _).trans<|g i j k⟩⟩
def adJ(q:cC):rF P (Ŗ q):=by
 intro u T D;cases a:q.forced with
 |true=>exact⟨0,u,λx d e=>by simp only[Ŗ,ä,a,if_true]at e;cases e;exact⟨U,λb c _=>by simp only[Ŗ,ä,a,if_true];rfl⟩⟩
 |false=>
  refine⟨1,u,λx d e=> ?_⟩;simp only[Ŗ,ä,a,Ç,if_false]at e;cases e;refine⟨U,λb c f=> ?_⟩;simp only[Ŗ,ä,a,Ç,if_false];have g:(World.tp u b c).tape (World.tp u b c).drawn q=T D q:=congrFun f.lO q;rw[g];rfl
def Kg{γ:Type}(s:String):(MonadExcept.throw s:Except String γ)=b9 s:=rfl
def adK(a:Ü)(md:Mode):rF P (bF a md):=by
 refine Ap λu x f e=> ?_;simp only[bF,ä]at e|-;cases b:u.cell? a with
 |some v=>
  rw[b]at e;cases e;exact⟨U,λc d=>by simp only[show((World.tp u c d)).cell? a=À x from b]⟩
 |none=>
  rw[b]at e;cases v:u.farLoad P a (md==Ĕ)with
  |error z=>simp only[v]at e;cases e
  |ok p=>
   simp only[v]at e;cases e;exact⟨U,λc d=>by simp only[show((World.tp u c d)).cell? a=í from b,show((World.tp u c d)).farLoad P a (md==Ĕ)=.ok p from v]⟩
def OP(u:È)(a:Ü)(v:Ã)(md:Mode):∀T D,((World.tp u T D)).farStore P a v (md==Ĕ)=(u.farStore P a v<|md==Ĕ).map λp=>((World.tp p.1 T D),p.2):=by
 intro T D;have c:∀b t,((World.tp u T D)).viewStore P b t a v (md==Ĕ)=(u.viewStore P b t a v<|md==Ĕ).map λp=>((World.tp p.1 T D),p.2):=by
  intro b t;unfold cg;have o:((World.tp u T D)).seen P b t a (md==Ĕ)=u.seen P b t a (md==Ĕ):=U;rw[o];simp only[bind,aA,pure,aB,Kg];cases u.seen P b t a (md==Ĕ)with
  |error e=>simp only[];split<;>rfl
  |ok r=>
   simp only[];repeat' (first|rfl|split)
 unfold Ż;have e:((World.tp u T D)).heap=u.heap:=U;cases r:u.heap[a.block]? with
 |none=>simp only[bx,e,r];rfl
 |some o=>
  cases o<;>first
   |(simp only[bx,e,r];rfl)
   |skip
  simp only[e,r,c];cases u.viewStore P _ _ a v (md==Ĕ)<;>rfl
def adL(a:Ü)(v:Ã)(md:Mode):rF P (aR a v md):=by
 by_cases b:yd v=Ë
 .intro u T D;cases d:u.cell? a with
  |some y=>
   cases c:u.frozen? a with
   |true=>exact⟨0,u,λx h e=>by simp only[aR]at e;rw[wA b,show((World.tp u T D)).cell? a=À y from d]at e;simp only[show((World.tp u T D)).frozen? a=Ë from c,if_true]at e;cases e⟩
   |false=>
    refine⟨0,u.setCell a v,λx h e=> ?_⟩;simp only[aR]at e|-;rw[wA b,show((World.tp u T D)).cell? a=À y from d]at e;simp only[show((World.tp u T D)).frozen? a=Â from c,Ç,if_false]at e;cases e;refine⟨U,λf g i=> ?_⟩;rw[wA b,show((World.tp u f g)).cell? a=À y from d];simp only[show((World.tp u f g)).frozen? a=Â from c,Ç,if_false];rfl
  |none=>
   cases c:u.farStore P a v (md==Ĕ)with
   |error z=>exact⟨0,u,λx h e=>by simp only[aR]at e;rw[wA b,show((World.tp u T D)).cell? a=í from d]at e;simp only[OP u a v md T D,c,cN]at e;cases e⟩
   |ok p=>
    refine⟨0,p.1,λx h e=> ?_⟩;simp only[aR]at e|-;rw[wA b,show((World.tp u T D)).cell? a=í from d]at e;simp only[OP u a v md T D,c,cN]at e;cases e;refine⟨U,λf g i=> ?_⟩;rw[wA b,show((World.tp u f g)).cell? a=í from d];simp only[OP u a v md f g,c,cN];rfl
 .exact OO λu x h e=>by cases v<;>first|exact absurd U b|cases e
def adM(o:Obj):rF P (eE o):=λu T D=>⟨0,{u with heap:=u.heap.push o},λx a e=>by cases e;exact⟨U,λb c _=>rfl⟩⟩
def adN(r:Nat):rF P (cO r):=by
 refine Ap λu x d e=> ?_;simp only[cO,ä]at e|-;cases a:u.heap[r]? with
 |none=>rw[a]at e;cases e
 |some o=>
  rw[a]at e;cases o<;>first
   |(cases e;done)
   |(cases e;exact⟨U,λb c=>by simp only[show((World.tp u b c)).heap[r]?=_ from a]⟩)
end
def qN(u:È):Prop:=∀(i:Nat) (c:Array Ã) (e:Á),u.heap[i]?≠À (Ρ c e)
structure Kd(u u':È):Prop where
 r:qN u->qN u'
 C:∀(i:Nat) (o:Obj),u.heap[i]?=À o->yj o->∃o',u'.heap[i]?=À o'/\yj o'
def Kd.fW(u:È):Kd u u:=⟨id,λ_ o h k=>⟨o,h,k⟩⟩
def Kd.fj{c:È}(h:Kd w u)(k:Kd u c):Kd w c:=⟨λx=>k.r<|h.r x,λi o x y=>by let⟨d,e,f⟩:=h.C i o x y;exact k.C i d e f⟩
def GK:Halt->Bool
 |.panic _=>Ë
 |.stuck _=>Ë
 |œ (.initOrder _)=>Â
 |œ _=>Ë
 |_=>Â
def oO{α:Type}(P:Ù)(m:Ğ α):Prop:=∀u,qN u->(∀x a,m.run P u=ı x a->Kd u a)/\(∀z a,m.run P u=cD z a->GK z=Ë)
section
variable{α β:Type}
def Vm(a:α):oO P (bl a):=λu _=>⟨λx b h=>by cases h;exact Kd.fW u,λz b h=>by cases h⟩
def GM{z:Halt}(h:GK z=Ë):oO P (eP z:Ğ α):=λu _=>⟨λx a e=>(by cases e),λb a e=>(by cases e;exact h)⟩
def Kh{m:Ğ α}{f:α->Ğ β}(h:oO P m)(j:∀a,oO P<|f a):oO P (m.bind f):=by
 intro u d;let⟨g,k⟩:=h u d;refine⟨λx i e=> ?_,λz i e=> ?_⟩<;>rw[ł]at e
 .cases b:m.run P u with
  |ok a c=>
   rw[b]at e;exact(g a c b).fj<|(j a c<|(g a c b).r d).1 x i e
  |halt z w=>rw[b]at e;cases e
 .cases b:m.run P u with
  |ok a c=>
   rw[b]at e;exact(j a c<|(g a c b).r d).2 z i e
  |halt c w=>rw[b]at e;cases e;exact k _ _ b
def Vo:oO P dE:=λu _=>⟨λx a h=>by cases h;exact Kd.fW u,λz a h=>by cases h⟩
def adO(q:cC):oO P (Ŗ q):=by
 intro u b;constructor
 .intro x a e;simp only[Ŗ,ä]at e;split at e<;>cases e
  .exact Kd.fW u
  .exact⟨id,λi o h k=>⟨o,h,k⟩⟩
 .intro z a e;simp only[Ŗ,ä]at e;split at e<;>cases e
def adP(m:Mark):oO P (ey m):=λu _=>⟨λx a h=>by cases h;exact Kd.fW u,λz a h=>by cases h⟩
def adQ(r:Nat):oO P (cP r):=λu _=>⟨λx a h=>by cases h;exact Kd.fW u,λz a h=>by cases h⟩
def adR(a:Ü):oO P (frozen a):=λu _=>⟨λx b h=>by cases h;exact Kd.fW u,λz b h=>by cases h⟩
def adS(o:Obj)(h:∀c e,o≠Ρ c e):oO P (eE o):=by
 intro u b;refine⟨λx d e=> ?_,λz d e=>by cases e⟩;cases e;refine⟨λ_ i c e a=> ?_,λi f a g=>⟨f,?_,g⟩⟩
 .simp only[aL]at a;split at a
  .injection a with a;exact h c e a
  .exact b i c e a
 .simp only[aL];have:i<u.heap.size:=(Ä.1 a).1;rwa[if_neg Z]
def Vp{f:Obj->Obj}(k:∀o,yj o->yj (f o))(l:∀o c e,f o=Ρ c e->∃d g,o=Ρ d g):Kd u {u with heap:=u.heap.modify b f}:=by
 refine⟨λh i c e a=> ?_,λi o a j=> ?_⟩
 .simp only[à]at a;split at a
  .let⟨o,m,n⟩:=đ.1 a;let⟨d,g,p⟩:=l o c e n;exact h i d g<|p▸m
  .exact h i c e a
 .simp only[à];split
  .exact⟨f o,by rw[a];rfl,k o j⟩
  .exact⟨o,a,j⟩
def adT(a:Ü)(v:Ã):Kd u (u.setCell a v):=by
 unfold ā;refine Vp (λo b=> ?_) λo c e h=> ?_
 .cases o<;>first|exact b.elim|trivial
 .cases o<;>first|(cases h;done)|exact⟨_,_,U⟩
def Vq(b:qN u)(a:Ü)(s:String):GK (u.noCell a s)=Ë:=by
 unfold bx;split
 .rename_i h;exact absurd h<|b _ _ _
 .rfl
 .rfl
def adU(a:Ü)(m:Mode):oO P (bF a m):=by
 intro u c;constructor
 .intro x d e;simp only[bF,ä]at e;split at e
  .cases e;exact Kd.fW u
  .split at e<;>cases e;exact Kd.fW u
 .intro z d e;simp only[bF,ä]at e;split at e
  .cases e
  .split at e
   .cases e
   .rename_i b;cases e;unfold ş at b;split at b
    .split at b<;>cases b;rfl
    .cases b;exact Vq c _ _
def adV{k:Ü}{r:Array Value×TypeId×(Nat×Nat)×Nat×Value×List (Nat×Nat×List UInt8)}(h:w.seen P a t k yQ=.ok r):∃c e f,w.heap[a.block]?=À (ė c e f):=by
 unfold World.seen at h;simp only[bind,aA,pure,aB,Kg]at h;cases d:w.heap[a.block]? with
 |none=>
  rw[d]at h;repeat' (first|contradiction|split at h)
 |some o=>
  cases o<;>first|exact⟨_,_,_,U⟩|(rw[d]at h;repeat' (first|contradiction|split at h))
def adW{k:Ü}{l:List Ü}(h:w.viewStore P a t k v yQ=.ok (u,l)):Kd w u:=by
 have s:∃c e n d f g,w.heap[a.block]?=À (ė d f g)/\u={w with heap:=w.heap.setIfInBounds a.block (ė c e n)}:=by
  unfold cg at h;cases i:w.seen P a t k yQ with
  |error e=>
   rw[i]at h;simp only[bind,aA,pure,aB,Kg]at h;repeat' (first|contradiction|split at h)
  |ok r=>
   let⟨d,f,g,m⟩:=adV i;rw[i]at h;simp only[bind,aA,pure,aB,Kg]at h;repeat' (first|contradiction|split at h)
   all_goals(simp only[Except.ok.injEq,Prod.mk.injEq]at h;obtain⟨rfl,_⟩:=h;exact⟨_,_,_,d,f,g,m,U⟩)
 obtain⟨c,e,n,d,f,g,m,rfl⟩:=s;refine⟨λx i y j r=> ?_,λi o r q=> ?_⟩
 .rw[Đ]at r;split at r
  .split at r<;>cases r
  .exact x i y j r
 .by_cases j:a.block=i
  .subst j;rw[m]at r;cases r;exact q.elim
  .exact⟨o,by simp only[É j];exact r,q⟩
def adX(a:Ü)(v:Ã)(m:Mode):oO P (aR a v m):=by
 intro u d;by_cases c:yd v=Ë
 .constructor
  .intro x f e;simp only[aR]at e;rw[wA c]at e;split at e
   .split at e
    .cases e
    .cases e;exact adT a v
   .split at e
    .rename_i b;cases e;unfold Ż at b;split at b
     .split at b<;>cases b;rename_i g;exact adW g
     .cases b
    .cases e
  .intro z f e;simp only[aR]at e;rw[wA c]at e;split at e
   .split at e
    .cases e;rfl
    .cases e
   .split at e
    .cases e
    .rename_i b;cases e;unfold Ż at b;split at b
     .split at b<;>cases b;rfl
     .cases b;exact Vq d _ _
 .cases v<;>first|exact absurd U c|exact GM (P:=P) U u d
def fG(P:Ù)(m:Ğ α):Prop:=oO P m/\rF P m
def gC(a:α):fG P (pure a):=⟨Vm a,Ap λu x b e=>by cases e;exact⟨U,λ_ _=>rfl⟩⟩
def OQ{z:Halt}(h:GK z=Ë):fG P (eP z:Ğ α):=⟨GM h,OO λu x a e=>by cases e⟩
def gq{m:Ğ α}{f:α->Ğ β}(h:fG P m)(b:∀a,fG P<|f a):fG P (m>>=f):=⟨Kh h.1 λa=>(b a).1,adH h.2 λa=>(b a).2⟩
def OS{m:Ğ α}{f:α->β}(h:fG P m):fG P (f<$>m):=gq h λ_=>gC _
def ji(s:String):fG P (stuck s:Ğ α):=OQ U
def Vr(v:Ã):fG P (goPanic v:Ğ α):=OQ U
def qO:fG P dE:=⟨Vo,Ap λu x a e=>by cases e;exact⟨U,λ_ _=>rfl⟩⟩
def sR(q:cC):fG P (Ŗ q):=⟨adO q,adJ q⟩
def GN(m:Mark):fG P (ey m):=⟨adP m,Ap λu x a e=>by cases e;exact⟨U,λ_ _=>rfl⟩⟩
def tR(r:Nat):fG P (cP r):=⟨adQ r,Ap λu x a e=>by cases e;exact⟨U,λ_ _=>rfl⟩⟩
def OT(a:Ü):fG P (frozen a):=⟨adR a,Ap λu x b e=>by cases e;exact⟨U,λ_ _=>rfl⟩⟩
def Ki(o:Obj)(h:∀c e,o≠Ρ c e):fG P (eE o):=⟨adS o h,adM o⟩
def GO(a:Ü)(m:Mode):fG P (bF a m):=⟨adU a m,adK a m⟩
def adY(a:Ü)(v:Ã)(m:Mode):fG P (aR a v m):=⟨adX a v m,adL a v m⟩
def Kj{m m':Ğ α}(h:∀u,m.run P u=m'.run P u)(a:fG P m'):fG P m:=⟨λu b=>by have:=a.1 u b;rwa[<-h u]at this,adI h a.2⟩
end
section
variable{α:Type}
def nn(u:bQ)(h:GK (œ u)=Ë):fG P (unsupported u:Ğ α):=OQ h
def GQ(e:Á)(c:Array Ã):fG P (ō e c):=by unfold ō;exact gq (Ki _<|by intro _ _ h;cases h) λ_=>gC _
def Vt(t:Á)(v:Ã):fG P (newVar t v):=GQ _ _
def vl(t:Á):fG P (þ t):=by unfold þ;repeat' (first|(with_reducible first|exact gC _|exact ji _|exact qO|refine gq ?_ λ_=> ?_)|split)
def rG(t:Á):fG P (ù t):=by unfold ù;repeat' (first|(with_reducible first|exact gC _|exact ji _|exact qO|refine gq ?_ λ_=> ?_)|split)
def tS{p:Prop}(h:p:=by repeat' (first|(with_reducible first|exact gC _|exact ji _|exact qO|exact rG _|exact Vr _|exact Vt _ _|exact sR _|exact vl _|exact GO _ _|exact tR _|exact GN _|refine gq ?_ (λ_=> ?_)|refine OS ?_|refine nn _ ?_)|split|rfl)):p:=h
def Kk(t:Á):fG P (Ş t):=by unfold Ş;exact tS
def wE(e:υ):fG P (runtimePanic e:Ğ α):=by unfold runtimePanic;repeat' (first|(with_reducible first|exact Kk _|refine gq ?_ λ_=> ?_)|split|exact tS)
def Vu(k:Ć)(x y:Int)(c:aU):fG P (boundsPanic k x y c:Ğ α):=by unfold boundsPanic;simp only[];repeat' (first|(with_reducible first|exact wE _|refine gq ?_ λ_=> ?_)|split|exact tS)
def adZ(r:Nat):oO P (cO r):=by
 intro u b;constructor
 .intro x a e;simp only[cO,ä]at e;split at e<;>first|(cases e;done)|(cases e;exact Kd.fW u)
 .intro z a e;simp only[cO,ä]at e;split at e<;>first|(cases e;done)|(cases e;rfl)
def Vv(r:Nat):fG P (cO r):=⟨adZ r,adN r⟩
def Kl(t:Á):fG P (Ġ t):=by unfold Ġ;exact tS
def tT(t:Á):fG P (Ŝ t):=by unfold Ŝ;exact tS
def OU(t:Á):fG P (eR t):=by unfold eR;exact tS
def Vw(a:Ü):∀(n i:Nat) (b:Array Ã),fG P<|Š a i n b
 |0,i,b=>gC _
 |n+1,i,b=>by unfold Š;exact gq (GO _ _) λ_=>Vw a n _ _
def OV(a:Ü)(n:Nat):fG P (dB a n):=Vw a n _ _
def Km(a:Ü):∀(b:List Ã) (i:Nat),fG P<|ŝ a b i
 |[],i=>gC _
 |v::b,i=>by unfold ŝ;exact gq (adY _ _ _) λ_=>Km a b _
def Vx(t:Á)(a:Ü):fG P (aH t a):=by unfold aH;repeat' (first|(with_reducible first|exact tT _|exact OU _|exact OV _ _|refine gq ?_ λ_=> ?_)|split|exact tS)
def ad1(t:Á)(a:Ü)(v:Ã):fG P (bm t a v):=by unfold bm;repeat' (first|(with_reducible first|exact tT _|exact Km _ _ _|refine gq ?_ λ_=> ?_)|split|exact tS)
def Vy(t:Á)(c:Array Ã)(o:Nat):fG P (part t c o):=by unfold part;repeat' (first|(with_reducible first|exact tT _|exact OU _|refine gq ?_ λ_=> ?_)|split|exact tS)
def Vz(v:Ã):fG P (ż v):=by unfold ż;exact tS
def VA(v:Ã):fG P (dF v):=by unfold dF;exact tS
def j0{p:Prop}(h:p:=by repeat' (first|(with_reducible first|exact gC _|exact ji _|exact qO|exact rG _|exact Vr _|exact Vt _ _|exact Kk _|exact sR _|exact wE _|exact vl _|exact GO _ _|exact tT _|exact OU _|exact OV _ _|exact Km _ _ _|exact VA _|exact Kl _|exact ad1 _ _ _|exact Vx _ _|exact Vz _|exact Vy _ _ _|exact tR _|exact Vv _|exact Vu _ _ _ _|exact GN _|refine gq ?_ (λ_=> ?_)|refine OS ?_|refine nn _ ?_)|split|rfl)):p:=h
def GR(v:Ã):fG P (dU v):=by unfold dU;exact j0
def Kn(v:Ã):fG P (cE v):=by unfold cE;exact j0
def ad2(v:Ã):fG P (asAgg v):=by unfold asAgg;exact j0
def VB(v:Ã):fG P (cF v):=by unfold cF;exact j0
def VC(t:Á)(b:Bool)(v:Ã):fG P (Ι t b v):=by unfold Ι;exact j0
def VD(t:Á)(v:Ã):fG P (aI t v):=by unfold aI;exact j0
def VE(t:Á)(v:Ã):fG P (ų t v):=by unfold ų;exact j0
def VF(t:Á)(a v:Ã):fG P (Ł t a v):=by unfold Ł;exact j0
def VG(v:Ã)(n:Nat):fG P (š v n):=by unfold š;exact j0
def VH(t:Á)(v:Ã)(n:Nat):fG P (Κ t v n):=by unfold Κ;repeat' (first|(with_reducible first|exact ad2 _|refine gq ?_ λ_=> ?_)|split|exact j0)
def VI{γ δ:Type}(f:γ->Ğ δ)(a:∀x,fG P<|f x):∀l:List γ,fG P<|l.mapM f
 |[]=>by rw[dt];exact gC _
 |x::l=>by rw[ax];exact gq (a x) λ_=>gq (VI f a l) λ_=>gC _
def VJ{γ δ:Type}(f:γ->Ğ δ)(a:∀x,fG P<|f x)(l:Array γ):fG P (l.mapM f):=by rw[ğ];exact OS<|VI f a _
def ad3(l:Array Field):fG P (l.mapM λf=>do pure (f.offset,<-Ŝ f.type)):=VJ _ (λ_=>gq (tT _) λ_=>gC _) l
def Ko(r:Nat):fG P (cJ r):=by unfold cJ;exact j0
def VK(r:Nat):fG P (cK r):=by unfold cK;exact j0
def VL(a:Ü):fG P (bG a):=by unfold bG;repeat' (first|(with_reducible first|exact Ko _|refine gq ?_ λ_=> ?_)|split|exact j0)
def Aq(a:Ü):fG P (dI a):=by unfold dI;repeat' (first|(with_reducible first|exact gC _|exact ji _|exact qO|exact tR _|exact VL _|refine gq ?_ λ_=> ?_)|split|simp only[]|(rename_i b;cases b<;>simp only[Ç,if_false,if_true,ċ,ď]))
def D8(a:Ü):fG P (Ļ a):=by unfold Ļ;repeat' (first|(with_reducible first|exact VK _|refine gq ?_ λ_=> ?_)|split|exact j0)
def ad4(a:Ü)(x y:Nat):fG P (partAt a x y):=by unfold partAt;repeat' (first|(with_reducible first|exact Aq _|refine gq ?_ λ_=> ?_)|split|exact j0)
def ad5(a:Ü)(f:Field):fG P (cG a f):=by unfold cG;repeat' (first|(with_reducible first|exact ad4 _ _ _|refine gq ?_ λ_=> ?_)|split|exact j0)
def VM(s:Á)(v:Ã)(n:Nat):fG P (Ţ s v n):=by unfold Ţ;repeat' (first|(with_reducible first|exact ad5 _ _|refine gq ?_ λ_=> ?_)|split|exact j0)
def VN(t:Á)(x i:Ã):fG P (ţ t x i):=by unfold ţ;repeat' (first|(with_reducible first|exact gC _|exact ji _|exact rG _|exact Vu _ _ _ _|exact tT _|exact Vz _|exact VA _|refine gq ?_ (λ_=> ?_)|refine nn _ ?_)|split|rfl|simp only[])
def ad6(x:Ã)(y:Nat)(c:aU):fG P (ĸ x y c):=by unfold ĸ;exact j0
def VO(b:Bool)(l c:Nat)(x y z:Option Ã):fG P (ĳ b l c x y z):=by unfold ĳ;repeat' (first|(with_reducible first|exact ad6 _ _ _|refine gq ?_ λ_=> ?_)|split|exact j0)
def ad7(t:Á)(v:Ã)(x y z:Option Ã):fG P (Λ t v x y z):=by unfold Λ;repeat' (first|(with_reducible first|exact VB _|exact VO _ _ _ _ _ _|refine gq ?_ λ_=> ?_)|split|exact j0)
def VP(t:Á)(v:Ã)(x y z:Option Ã):fG P (Ť t v x y z):=by unfold Ť;repeat' (first|(with_reducible first|exact VO _ _ _ _ _ _|exact ad7 _ _ _ _ _|refine gq ?_ λ_=> ?_)|split|exact j0)
def VQ(t:Á)(x i:Ã):fG P (Μ t x i):=by unfold Μ;exact j0
def VR(o:ĭ)(k:Ć)(x y:Int):fG P (dW o k x y):=by unfold dW;exact j0
def VS(o:ĭ)(k:Ć)(x y:Int):fG P (eF o k x y):=by unfold eF;exact j0
def VT(o:UnOp)(v:Ã):fG P (cI o v):=by unfold cI;repeat' (first|(with_reducible first|exact VR _ _ _ _|exact VS _ _ _ _)|split|exact j0)
def VU(t:Á)(a:Array (Nat×Value)):fG P (Ν t a):=by unfold Ν;repeat' (first|(with_reducible first|exact ad3 _|refine gq ?_ λ_=> ?_)|split|exact j0)
def VW(t:Á)(n:Nat)(a:Array (Nat×Value)):fG P (ĺ t n a):=by unfold ĺ;repeat' (first|(with_reducible first|exact gC _|exact ji _|exact GQ _ _|exact rG _|exact Kl _|exact tT _|refine gq ?_ (λ_=> ?_)|refine nn _ ?_)|split|rfl|simp only[]|(rename_i b;cases b<;>simp only[Ç,if_false,if_true,ċ,ď]))
def OW(n:Nat):fG P (Ň n):=by unfold Ň;exact j0
def VX(t:Á)(x y:Ã):fG P (ŉ t x y):=by unfold ŉ;repeat' (first|(with_reducible first|exact gC _|exact ji _|exact sR _|exact GQ _ _|exact vl _|exact rG _|exact wE _|exact Kl _|exact tT _|exact GR _|exact OW _|refine gq ?_ λ_=> ?_)|split|simp only[]|(rename_i b;cases b<;>simp only[Ç,if_false,if_true,ċ,ď]))
def VY(v:Ã):fG P (ι v):=by unfold ι;exact j0
def VZ(s n:Nat)(v:Ã):fG P (Ö s n v):=by unfold Ö;exact j0
def ad8(a:Ü)(n:Nat):fG P (aY a n):=by unfold aY;exact j0
def ad9(s l n:Nat)(b:Option Ü)(v:Ã):fG P (Ĩ s l n b v):=by unfold Ĩ;repeat' (first|(with_reducible first|exact gC _|exact OT _|exact ad8 _ _|refine gq ?_ λ_=> ?_)|split|simp only[]|(rename_i b;cases b<;>simp only[Ç,if_false,if_true,ċ,ď]))
def V1(a:Array Á)(t:Á)(x:Array Ã):fG P (Ŵ a t x):=by unfold Ŵ;exact j0
def V3(a:Array Á)(t:Á)(x:Array Ã):fG P (ŵ a t x):=by unfold ŵ;exact j0
def V4(a:Array Á)(t:Á)(x:Array Ã):fG P (ť a t x):=by unfold ť;repeat' (first|(with_reducible first|exact VY _|exact VZ _ _ _|refine gq ?_ λ_=> ?_)|split|exact j0)
def V5(a:Array Á)(t:Á)(x:Array Ã):fG P (ň a t x):=by unfold ň;repeat' (first|(with_reducible first|exact gC _|exact ji _|exact sR _|exact GN _|exact GQ _ _|exact vl _|exact rG _|exact wE _|exact Kl _|exact tT _|exact Km _ _ _|exact GR _|exact OW _|exact VY _|exact VZ _ _ _|exact ad9 _ _ _ _ _|refine gq ?_ (λ_=> ?_)|refine nn _ ?_)|split|rfl|(rename_i b;cases b<;>simp only[Ç,if_false,if_true,ċ,ď]))
end
section
variable{α:Type}
def OX(o:ĭ)(k:ľ)(x y:Nat):fG P (du o k x y):=by unfold du;repeat' (first|(with_reducible first|exact gC _|exact ji _|exact sR _|refine gq ?_ λ_=> ?_)|split|simp only[]|(rename_i b;cases b<;>simp only[Ç,if_false,if_true,ċ,ď]))
def OY(o:ĭ)(k:ľ)(x y:Nat):fG P (dX o k x y):=by unfold dX;repeat' (first|(with_reducible first|exact gC _|exact ji _)|split)
def aea(s:ľ)(b:Nat)(d:ľ):fG P (bz s b d):=by unfold bz;repeat' (first|(with_reducible first|exact gC _|exact sR _|refine gq ?_ λ_=> ?_)|split|simp only[])
def V7(s:ľ)(b:Nat)(d:Ć):fG P (cj s b d):=by unfold cj;repeat' (first|(with_reducible first|exact gC _|exact sR _|refine gq ?_ λ_=> ?_)|split)
def aeb(o:ĭ)(k:ľ)(x y:Nat):fG P (bI o k x y):=by unfold bI;repeat' (first|(with_reducible first|exact gC _|exact ji _|exact OX _ _ _ _|refine gq ?_ λ_=> ?_)|split)
def np{p:Prop}(h:p:=by repeat' (first|(with_reducible first|exact gC _|exact ji _|exact sR _|exact OX _ _ _ _|exact Kn _|exact OY _ _ _ _|exact aea _ _ _|exact aeb _ _ _ _|exact wE _|exact qO|exact Aq _|exact tR _|exact GR _|exact Ko _|exact rG _|exact D8 _|exact VK _|refine gq ?_ (λ_=> ?_)|refine nn _ ?_)|split|rfl)):p:=h
def V8(o:ĭ)(k:ľ)(x y:Nat):fG P (cQ o k x y):=by unfold cQ;exact np
def aec(s:ľ)(b:Nat)(d:ľ):fG P (cm s b d):=by unfold cm;exact np
def OZ(x y:Nat):fG P (cR x y):=by unfold cR;exact np
def O0(x y:Nat):fG P (cS x y):=by unfold cS;exact np
def O1(x y:Nat):fG P (cT x y):=by unfold cT;exact np
def aed(x y:Nat):fG P (cU x y):=by unfold cU;exact np
def aee(a b c d:Nat):fG P (aZ a b c d):=by unfold aZ;repeat' (first|(with_reducible first|exact OZ _ _|exact O0 _ _|exact O1 _ _|refine gq ?_ λ_=> ?_)|split|exact np)
def aef(s a b c d:Nat):fG P (aC s a b c d):=by unfold aC;repeat' (first|(with_reducible first|exact OZ _ _|exact O0 _ _|exact O1 _ _|refine gq ?_ λ_=> ?_)|split|exact np)
def aeg(a b c d:Nat):fG P (aN a b c d):=by unfold aN;repeat' (first|(with_reducible first|exact gC _|exact V8 _ _ _ _|exact OZ _ _|exact O0 _ _|exact O1 _ _|exact aed _ _|exact aef _ _ _ _ _|refine gq ?_ λ_=> ?_)|split|simp only[])
def V9(o:ĭ)(k:ľ)(a b c d:Nat):fG P (dJ o k a b c d):=by unfold dJ;repeat' (first|(with_reducible first|exact V8 _ _ _ _|exact aec _ _ _|exact aee _ _ _ _|exact aeg _ _ _ _|refine gq ?_ λ_=> ?_)|split|exact np)
def aeh(o:ĭ)(k:Ć)(x y:Int):fG P (aJ o k x y):=by unfold aJ;exact np
def Wa(o:ĭ)(x y:Int):fG P (eX o x y):=by unfold eX;exact np
def aei(o:ĭ)(k:Ć)(x:Int)(a:Ć)(y:Int):fG P (bn o k x a y):=by unfold bn;exact np
def O2(o:ĭ)(x y:ByteArray):fG P (bR o x y):=by unfold bR;exact np
def Wb(a b:Ü):fG P (Ŷ a b):=by unfold Ŷ;exact np
def aej(k:Ć)(a b:Ü):fG P (χ k a b):=by unfold χ;repeat' (first|(with_reducible first|exact Wb _ _|refine gq ?_ λ_=> ?_)|split|exact np)
def aek(o:ĭ)(a b:Ü):fG P (ψ o a b):=by unfold ψ;repeat' (first|(with_reducible first|exact Wb _ _|refine gq ?_ λ_=> ?_)|split|exact np)
def ael(k:Ć)(a:Ü)(n:Int):fG P (ω k a n):=by unfold ω;repeat' (first|(with_reducible first|exact gC _|exact tR _|exact vl _|exact Aq _|refine gq ?_ (λ_=> ?_)|refine nn _ ?_)|split|rfl|simp only[]|(rename_i b;cases b<;>simp only[Ç,if_false,if_true,ċ,ď]))
def Wc(a:Array Á)(t:Á)(x y:Ã):fG P (ô a t #[x,y]):=by
 unfold ô;cases x<;>first|exact ji _|skip
 refine gq (GR y) λn=> ?_;exact np
def aem(a:Ü)(b:Bool):fG P (cL a b):=by unfold cL;repeat' (first|(with_reducible first|exact gC _|refine gq ?_ (λ_=> ?_)|refine Ki _ ?_)|split|(intro _ _ h;cases h;done))
def aen(t:Á)(x y:Ã):fG P (ũ t x y):=by unfold ũ;repeat' (first|(with_reducible first|exact Wc _ _ _ _|exact aem _ _|refine gq ?_ λ_=> ?_)|split|exact np)
def aeo(t:Á)(x y:Ã):fG P (ŷ t x y):=by unfold ŷ;repeat' (first|(with_reducible first|exact Wc _ _ _ _|refine gq ?_ λ_=> ?_)|split|exact np)
def sS{γ:Type}{d:dY}(h:P.underlying t=À d){f:dY->Ğ γ}(a:fG P (f d)):fG P (ù t>>=f):=by
 have e:∀u,(ù t).run P u=ı d u:=by intro u;unfold ù;rw[Å,ÿ];simp only[Ê,h];rfl
 exact Kj (λu=>by rw[Å,e,Ê]) a
def Wg(t:Á)(x y:Ã)(a:tP P t\/((∃e,P.underlying t=À (ó e))/\(nk x\/nk y))):fG P (û t x y):=by
 unfold û Ď φ;rcases a with(h|⟨k,h⟩|h)|⟨⟨e,h⟩,k⟩<;>refine sS h ?_
 .repeat' (first|(with_reducible first|exact gC _|exact ji _|exact qO|exact vl _|exact Aq _|exact D8 _|refine gq ?_ (λ_=> ?_)|refine nn _ ?_)|contradiction|split)
 .repeat' (first|(with_reducible first|exact gC _|exact ji _|exact qO|exact vl _|exact Aq _|exact D8 _|refine gq ?_ (λ_=> ?_)|refine nn _ ?_)|contradiction|split|rfl)
 .repeat' (first|(with_reducible first|exact gC _|exact ji _|exact qO|exact vl _|exact Aq _|exact D8 _|refine gq ?_ (λ_=> ?_)|refine nn _ ?_)|contradiction|split)
 .repeat' (first|(with_reducible first|exact gC _|exact ji _|exact qO|exact vl _|exact Aq _|exact D8 _|refine gq ?_ (λ_=> ?_)|refine nn _ ?_)|contradiction|exact(Or.elim k id id:False).elim|split)
def aep(t:Á)(a:GA P t)(x y:Ã):fG P (ļ Ď t x y):=by unfold Ď ļ;rcases a with(h|⟨k,h⟩|h)|⟨e,h⟩<;>refine sS h ?_<;>(cases x<;>cases y<;>exact gC _)
def Wh(c:ĭ)(t:Á)(d:c=aX\/c=bq->GA P t)(x y:Ú)(a b:Ã):fG P (Ο c t x y a b):=by
 unfold Ο;by_cases e:c=aX\/c=bq
 .have f:=d e;rcases e with rfl|rfl;all_goals
   repeat' (first|(with_reducible first|exact aep _ f _ _|refine gq ?_ λ_=> ?_)|split|exact np)
 .cases c<;>first|exact absurd (Æ U) e|exact absurd (Í U) e|exact gC _
end
section
variable{α:Type}
def aer(k:Ć)(n:Int):fG P (dw k n):=by unfold dw;repeat' (first|(with_reducible first|exact gC _)|split)
def Wi(n:Int):fG P (bJ n):=by unfold bJ;repeat' (first|(with_reducible first|exact gC _)|split)
def aes(a:ĭ)(t:Á)(x y:Ã)(h:a=aX\/a=bq->(tP P t\/((∃e,P.underlying t=À (ó e))/\(nk x\/nk y)))):fG P (Α a t x y):=by unfold Α;repeat' (first|(with_reducible first|exact Wg _ _ _ (h<|Æ U)|exact Wg _ _ _ (h<|Í U)|exact gC _|exact ji _|exact rG _|exact D8 _|exact VR _ _ _ _|exact VS _ _ _ _|exact OX _ _ _ _|exact OY _ _ _ _|exact V9 _ _ _ _ _ _|exact aeh _ _ _ _|exact Wa _ _ _|exact aei _ _ _ _ _|exact O2 _ _ _|exact aej _ _ _|exact aek _ _ _|exact ael _ _ _|exact aen _ _ _|exact aeo _ _ _|refine gq ?_ (λ_=> ?_)|refine nn _ ?_)|contradiction|split|rfl)
def aeu(s d:Á)(x:Ã)(h:(∃k a,P.underlying s=À (κ k)/\P.underlying d=À (κ a))\/(P.underlying s=À ĥ/\P.underlying d=À ĥ)):fG P (Ŧ s d x):=by
 unfold Ŧ;rcases h with⟨k,a,b,c⟩|⟨b,c⟩<;>refine sS b<|sS c ?_
 .repeat' (first|(with_reducible first|exact aer _ _|exact gC _|exact V7 _ _ _|refine nn _ ?_)|contradiction|split|rfl)
 .repeat' (first|(with_reducible first|exact Wi _|exact gC _|exact V7 _ _ _|refine nn _ ?_)|contradiction|split|rfl)
def Wj:∀(l:List FieldStep) (t:Á) (x:Option Ã),fG P<|bS l t x
 |[],t,x=>by unfold bS;exact gC _
 |s::l,t,x=>by unfold bS;repeat' (first|(with_reducible first|exact Wj l _ _|exact gC _|exact ji _|exact rG _|exact Vy _ _ _|refine gq ?_ λ_=> ?_)|split|(intro _ _ h;cases h;done)|rfl|simp only[]|(rename_i b;cases b<;>simp only[Ç,if_false,if_true,ċ,ď]))
def Wk:∀(n:Nat) (t:Á) (v:Ã) (s:String),fG P<|bA n t v s
 |0,t,v,s=>by unfold bA;exact gC _
 |n+1,t,v,s=>by unfold bA;repeat' (first|(with_reducible first|exact Wk n _ _ _|exact Wj _ _ _|exact gC _|exact ji _|exact vl _|exact rG _|refine gq ?_ λ_=> ?_)|split|(intro _ _ h;cases h;done)|rfl|simp only[]|(rename_i b;cases b<;>simp only[Ç,if_false,if_true,ċ,ď]))
def lP{m:Ğ Ã}(h:fG P m):fG P (m>>=λv=>pure<|ñ v):=gq h λ_=>gC _
def aev(f:ã)(b:∃a,P.funcs[f]?=À a/\(a.name== "runtime.NumGoroutine")=Â/\a.body.isNone=Â)(c:Array Ã):fG P (Ń f c):=by let⟨a,d,e,g⟩:=b;refine Kj (m':=pure<|Β f c) (λu=> ?_)<|gC _;unfold Ń;rw[Å,ÿ];simp only[Ê,d,e,g,Ç,if_false]
def aew(j:kj P xX o.op):fG P (î xX o):=by
 let⟨k,g,m,p,u,guard⟩:=o;simp only at j;unfold î;simp only[];cases j with
 |Ao x=>exact gC _
 |GB x=>exact gC _
 |wD c a b=>exact gq (Kn _) λ_=>gC _
 |gI t=>exact lP<|VC _ _ _
 |Oz t x=>exact lP<|VD _ _
 |OA t b=>exact lP<|VU _ _
 |OB t n b=>exact lP<|VW _ _ _
 |gG t a=>exact lP<|VE _ _
 |jf t a x=>exact gq (VF _ _ _) λ_=>gC _
 |GD x=>
  simp only[];repeat' (first|(with_reducible first|exact Wk _ _ _ _|exact gC _|exact qO|exact wE _|exact Kn _|exact VC _ _ _|exact VD _ _|exact VE _ _|exact VF _ _ _|exact VG _ _|exact VH _ _ _|exact VM _ _ _|exact VN _ _ _|exact VP _ _ _ _ _|exact VQ _ _ _|exact VT _ _|exact VU _ _|exact VW _ _ _|exact VX _ _ _|exact V1 _ _ _|exact V3 _ _ _|exact V4 _ _ _|exact V5 _ _ _|refine gq ?_ (λ_=> ?_)|refine nn _ ?_)|split|rfl)
 |D7 g t x y r h=>exact lP<|gq (Wh g t (λe=>(h e).imp id λq=>q.1) x y _ _) λ_=>aes g t _ _ h
 |OC g t x=>exact lP<|VT _ _
 |OD s d x h=>exact lP<|aeu s d _ h
 |OG t l c=>exact lP<|VX _ _ _
 |kT t x b a c=>exact lP<|VP _ _ _ _ _
 |OH s x n h=>exact lP<|VM _ _ _
 |OJ t x n=>exact lP<|VH _ _ _
 |OL t x i=>exact lP<|VN _ _ _
 |OM t x i=>exact lP<|VQ _ _ _
 |Gr x n=>exact lP<|VG _ _
 |GF x a=>
  simp only[Ă,Ę,ĝ,pure_bind,Û,æ,é];exact lP<|V1 _ _ _
 |GG x a=>
  simp only[Ă,Ę,ĝ,pure_bind,Û,æ,é];exact lP<|V3 _ _ _
 |GH x y a=>
  simp only[Ă,Ę,ĝ,pure_bind,Û,æ,é];exact lP<|V4 _ _ _
 |GI x y b c h=>
  simp only[Ă,Ę,ĝ,pure_bind,Û,æ,é];exact lP<|V5 _ _ _
 |jM f c a b h=>
  simp only[Ă,b,Ľ,Ę,pure_bind,ę,Ě];exact aev f h _
end
def fm(f:ã)(t:Array Ã)(k:List ű):ģ:=(base f).at ⟨t,[]⟩ k
structure St where
 f:ã
 t:Array Ã
 k:List ű
 C:Bool
 L:List (FuncId×Array Value×List ű)
def St.r(s:St)(cs:List ģ):Ô:=G (if s.C then{fm s.f s.t s.k with mode:=.returning}else fm s.f s.t s.k)<|s.L.map (λx=>fm x.1 x.2.1 x.2.2)++cs
def py(t:Array Ã)(d:Option Tmp)(v:Ã):Array Ã:=(Act.put ⟨t,[]⟩ d v).tmps
def sT(t:Array Ã)(d:Option Tmp)(v:Ã):Act.put ⟨t,[]⟩ d v=⟨py t d v,[]⟩:=by cases d<;>rfl
inductive LS(P:Ù):St->È->St->È->Prop
 |pv {f t L u:_}:LS P ⟨f,t,[],Â,L⟩ u ⟨f,t,[],Ë,L⟩ u
 |vm {f t k L u:_}:LS P ⟨f,t,ě .ret::k,Â,L⟩ u ⟨f,t,ě .ret::k,Ë,L⟩ u
 |sP {f t k L u:_}:LS P ⟨f,t,ě .skip::k,Â,L⟩ u ⟨f,t,k,Â,L⟩ u
 |wF {f t k L u l:_}:LS P ⟨f,t,ě (eG l)::k,Â,L⟩ u ⟨f,t,k,Â,L⟩ u
 |yk {f t k L u id:_}:LS P ⟨f,t,dZ id::k,Â,L⟩ u ⟨f,t,k,Â,L⟩ u
 |vn {f t k L u c:_}:LS P ⟨f,t,ec c::k,Â,L⟩ u ⟨f,t,k,Â,L⟩ u
 |rH {f t k L u x y:_}:LS P ⟨f,t,ě (.seq x y)::k,Â,L⟩ u ⟨f,t,ě x::ě y::k,Â,L⟩ u
 |tU {f t k L u c x y b:_} (h:ê ⟨t,[]⟩ c=Ŏ b):LS P ⟨f,t,ě (bT c x y)::k,Â,L⟩ u ⟨f,t,ě (if b then x else y)::k,Â,L⟩ u
 |rI {f t k L u id c:_}:LS P ⟨f,t,ě (eH id c)::k,Â,L⟩ u ⟨f,t,ě c::dZ id::k,Â,L⟩ u
 |wG {f t k L u c:_}:LS P ⟨f,t,ě (.loop c)::k,Â,L⟩ u ⟨f,t,ě c::dK c::k,Â,L⟩ u
 |wH {f t k L u c:_}:LS P ⟨f,t,dK c::k,Â,L⟩ u ⟨f,t,ě c::dK c::k,Â,L⟩ u
 |wI {f t k L u c:_}:LS P ⟨f,t,ě (eI c)::k,Â,L⟩ u ⟨f,t,ě c::ec c::k,Â,L⟩ u
 |wK {f t k L u id k':_} (h:cW id k=À k'):LS P ⟨f,t,ě (.exit id)::k,Â,L⟩ u ⟨f,t,k',Â,L⟩ u
 |wL {f t k L u l k':_} (h:cX l k=À k'):LS P ⟨f,t,ě (.goto l)::k,Â,L⟩ u ⟨f,t,k',Â,L⟩ u
 |tV {f t k L u id ops:_}:LS P ⟨f,t,ě (cz id ops Â)::k,Â,L⟩ u ⟨f,t,å ops (List.range ops.size)::k,Â,L⟩ u
 |Ar {f t k L u id ops:_}:LS P ⟨f,t,ě (cz id ops Ë)::k,Â,L⟩ u ⟨f,t,å ops (cu (P.follows .mixedOrders) ops<|u.tape u.drawn<|.order f id)::k,Â,L⟩ {u with drawn:=u.drawn+1}
 |GU {f t k L u ops:_}:LS P ⟨f,t,å ops []::k,Â,L⟩ u ⟨f,t,k,Â,L⟩ u
 |D9 {f t k L u ops i rest o:_} (ho:ops[i]?=À o) (hw:Ĳ o (ŗ ops t)=Â):LS P ⟨f,t,å ops (i::rest)::k,Â,L⟩ u ⟨f,py t o.dst ŏ,å ops rest::k,Â,L⟩ u
 |nW {f t k L u ops i rest o v u':_} (ho:ops[i]?=À o) (hw:Ĳ o (ŗ ops t)=Ë) (hr:(î (ê ⟨t,[]⟩) o).run P u=ı (ñ v) u'):LS P ⟨f,t,å ops (i::rest)::k,Â,L⟩ u ⟨f,py t o.dst v,å ops rest::k,Â,L⟩ u'
 |As {f t k L u ops i rest o u':_} (ho:ops[i]?=À o) (hw:Ĳ o (ŗ ops t)=Ë) (hr:(î (ê ⟨t,[]⟩) o).run P u=ı bk u'):LS P ⟨f,t,å ops (i::rest)::k,Â,L⟩ u ⟨f,py t o.dst ŏ,å ops rest::k,Â,L⟩ u'
 |sQ {f t k L u ops i rest o g args fn c u':_} (ho:ops[i]?=À o) (hw:Ĳ o (ŗ ops t)=Ë) (hr:(î (ê ⟨t,[]⟩) o).run P u=ı (Β g args) u') (hf:P.funcs[g]?=À fn) (hb:fn.body=À c):LS P ⟨f,t,å ops (i::rest)::k,Â,L⟩ u ⟨g,args++ŋ (fn.ntmps-args.size) ŏ,[ě c],Â,(f,t,å ops (i::rest)::k)::L⟩ u'
 |Ea {f t k L u ops i rest:_} (ho:(ops:Array aT)[(i:Nat)]?=í):LS P ⟨f,t,å ops (i::rest)::k,Â,L⟩ u ⟨f,t,å ops rest::k,Â,L⟩ u
 |wM {f t k L u g t' ops i rest k' v fn u':_} (hf:P.funcs[f]?=À fn) (hr:(İ fn t).run P u=ı v u'):LS P ⟨f,t,k,Ë,(g,t',å ops (i::rest)::k')::L⟩ u ⟨g,py t' ((ops[i]?).bind (·.dst)) v,å ops rest::k',Â,L⟩ u'
inductive mB(GL:Nat->Prop):Ú->Prop
 |Wl (t:Tmp):mB GL (.tmp t)
 |Wm {v:Ã} (h:jU v):mB GL (eD v)
 |Wn {g:Nat} (h:GL g):mB GL (eS g)
 |Wo (f:ã):mB GL (bu f)
structure mP(P:Ù)(GL:Nat->Prop)(ff:ã->Prop)(o:aT):Prop where
 mQ:∀{ρ:fv} {Sh:Nat->Prop} {t t':Array Ã} {u w:È},nV P->ρ.C=P.globals.size->(∀g,GL g->ρ g g)->fT ρ t t'->jo ρ Sh u w->(∀j,Sh j->j<w.heap.size)->∀{x:ae} {u':È},(î (ê ⟨t,[]⟩) o).run P u=ı x u'->D5 u u'->
  ∃(wC:fv) (x':ae) (w':È) (Wp:Array ĉ),ρ.r wC/\(∀i j,wC i j->ρ i j\/(u.heap.size<=i/\w.heap.size<=j))/\(î (ê ⟨t',[]⟩) o).runT P w #[]=(ı x' w',#[]++Wp)/\pw wC x x'/\jo wC Sh u' w'/\nU ρ Sh w w'/\(∀e∈Wp,Aj wC Sh e)/\u.heap.size<=u'.heap.size
 r:∀a:bZ,fG P<|î a.eval o
 I:∀(a:bZ) (u:È) (n:ae) (u':È),(î a.eval o).run P u=ı n u'->(∃v,n=ñ v)\/n=bk\/∃f c,n=Β f c
 C:∀(a:bZ) (u:È) (f:ã) (c:Array Ã) (u':È),(î a.eval o).run P u=ı (Β f c) u'->ff f
inductive kH(P:Ù)(GL:Nat->Prop)(ff:ã->Prop):aQ->Prop
 |vm:kH P GL ff .ret
 |sP:kH P GL ff .skip
 |wF (l:Nat):kH P GL ff (eG l)
 |wK (id:Nat):kH P GL ff (.exit id)
 |wL (l:Nat):kH P GL ff (.goto l)
 |rH {x y:aQ} (hx:kH P GL ff x) (hy:kH P GL ff y):kH P GL ff (.seq x y)
 |tU {c:Ú} {x y:aQ} (hc:mB GL c) (hx:kH P GL ff x) (hy:kH P GL ff y):kH P GL ff (bT c x y)
 |rI (id:Nat) {c:aQ} (h:kH P GL ff c):kH P GL ff (eH id c)
 |wG {c:aQ} (h:kH P GL ff c):kH P GL ff (.loop c)
 |wI {c:aQ} (h:kH P GL ff c):kH P GL ff (eI c)
 |tV (id:Nat) {ops:Array aT} (draw:Bool) (h:∀o∈ops,mP P GL ff o):kH P GL ff (cz id ops draw)
 |pz (Wq:String):kH P GL ff (dM Wq)
inductive At(P:Ù)(GL:Nat->Prop)(ff:ã->Prop):ű->Prop
 |rJ {c:aQ} (h:kH P GL ff c):At P GL ff (ě c)
 |yk (id:Nat):At P GL ff (dZ id)
 |vn {c:aQ} (h:kH P GL ff c):At P GL ff (ec c)
 |wH {c:aQ} (h:kH P GL ff c):At P GL ff (dK c)
 |wN {ops:Array aT} (is:List Nat) (h:∀o∈ops,mP P GL ff o):At P GL ff (å ops is)
def sU(P:Ù)(a:Nat->Prop)(b:ã->Prop)(k:List ű):Prop:=∀i∈k,At P a b i
structure lB(P:Ù)(GL:Nat->Prop)(ff:ã->Prop)(s:St):Prop where
 gk:sU P GL ff s.k
 fx:∀x∈s.L,sU P GL ff x.2.2
def pA(P:Ù)(d:Nat->Prop)(a:ã->Prop):Prop:=∀f,a f->∀b c,P.funcs[f]?=À b->b.body=À c->kH P d a c
section
variable{GL:Nat->Prop}{ff:ã->Prop}
def aex{a:aQ}(h:kH P GL ff wX):bK wX i=À a->kH P GL ff a:=by
 induction h generalizing a with
 |rH j b d f=>
  intro e;simp only[bK]at e;split at e
  .rename_i r g;cases e;exact .rH (d g) b
  .exact f e
 |wF k=>
  intro e;simp only[bK]at e;split at e<;>cases e;exact .sP
 |_=>intro e;simp only[bK]at e;cases e
def aey{id:Nat}:∀{k a:List ű},sU P GL ff k->cW id k=À a->sU P GL ff a:=by
 intro k
 induction k with
 |nil=>intro a _ e;simp[cW]at e
 |cons i k c=>
  intro a h e;have b:=λj d=>h j<|õ _ d;cases i with
  |inBlock f=>
   simp only[cW]at e;split at e
   .cases e;exact b
   .exact c b e
  |_=>simp only[cW]at e;exact c b e
def aez:∀{k c:List ű},sU P GL ff k->cX i k=À c->sU P GL ff c:=by
 intro k
 induction k with
 |nil=>intro c _ e;simp[cX]at e
 |cons a k f=>
  intro c h e;have d:=λj b=>h j<|õ _ b;cases a with
  |inScope m=>
   simp only[cX]at e;have g:kH P GL ff m:=by cases h _ (ð ..)with|vn h=>exact h
   split at e
   .rename_i r n;cases e;intro j b;rcases ŧ.1 b with rfl|b
    .exact .rJ (aex g n)
    .rcases ŧ.1 b with rfl|b
     .exact .vn g
     .exact d j b
   .exact f d e
  |_=>simp only[cX]at e;exact f d e
def nX{i:ű}(h:sU P GL ff (i::L)):sU P GL ff L:=λj a=>h j<|õ _ a
def oP{i:ű}(b:At P GL ff i)(h:sU P GL ff L):sU P GL ff (i::L):=λj a=>by
 rcases ŧ.1 a with rfl|a
 .exact b
 .exact h j a
def yl{c:aQ}{k:List ű}(h:sU P GL ff (ě c::k)):kH P GL ff c:=by cases h _ (ð ..)with|rJ h=>exact h
def pB{ops:Array aT}{k:List ű}(h:sU P GL ff (å ops jJ::k)):∀o∈ops,mP P GL ff o:=by cases h _ (ð ..)with|wN _ h=>exact h
def LS.ok(i:pA P GL ff)(k:∀o a u f l w,mP P GL ff o->(î (ê a) o).run P u=ı (Β f l) w->ff f){s g:St}(h:LS P s u g w)(ok:lB P GL ff s):lB P GL ff g:=by
 let⟨c,d⟩:=ok;cases h with
 |pv=>exact⟨c,d⟩
 |vm=>exact⟨c,d⟩
 |sP=>exact⟨nX c,d⟩
 |wF=>exact⟨nX c,d⟩
 |yk=>exact⟨nX c,d⟩
 |vn=>exact⟨nX c,d⟩
 |rH=>
  cases yl c with
  |rH e j=>exact⟨oP (.rJ e)<|oP (.rJ j)<|nX c,d⟩
 |@tU _ _ _ _ _ _ _ _ b _=>
  cases yl c with
  |tU _ e j=>exact⟨oP (.rJ (by cases b<;>simp[e,j]))<|nX c,d⟩
 |rI=>
  cases yl c with
  |rI _ h=>exact⟨oP (.rJ h)<|oP (.yk _)<|nX c,d⟩
 |wG=>
  cases yl c with
  |wG h=>exact⟨oP (.rJ h)<|oP (.wH h)<|nX c,d⟩
 |wH=>
  cases c _ (ð ..)with
  |wH h=>exact⟨oP (.rJ h) c,d⟩
 |wI=>
  cases yl c with
  |wI h=>exact⟨oP (.rJ h)<|oP (.vn h)<|nX c,d⟩
 |wK h=>exact⟨aey (nX c) h,d⟩
 |wL h=>exact⟨aez (nX c) h,d⟩
 |tV=>
  cases yl c with
  |tV _ _ h=>exact⟨oP (.wN _ h)<|nX c,d⟩
 |Ar=>
  cases yl c with
  |tV _ _ h=>exact⟨oP (.wN _ h)<|nX c,d⟩
 |GU=>exact⟨nX c,d⟩
 |D9=>exact⟨oP (.wN _ (pB c))<|nX c,d⟩
 |nW=>exact⟨oP (.wN _ (pB c))<|nX c,d⟩
 |As=>exact⟨oP (.wN _ (pB c))<|nX c,d⟩
 |sQ m _ n p q=>
  have r:=k _ _ _ _ _ _ (pB c _<|Ø m) n;refine⟨λj t=> ?_,λx e=> ?_⟩
  .have:=Γ.1 t;rw[this];exact .rJ (i _ r _ _ p q)
  .rcases ŧ.1 e with rfl|e
   .exact c
   .exact d x e
 |Ea=>exact⟨oP (.wN _ (pB c))<|nX c,d⟩
 |wM=>
  have j:=d _<|ð ..;exact⟨oP (.wN _ (pB j))<|nX j,λx e=>d x<|õ _ e⟩
end
structure Kp(ρ:fv)(x y:FuncId×Array Value×List ű):Prop where
 f:x.1=y.1
 t:fT ρ x.2.1 y.2.1
 k:x.2.2=y.2.2
inductive Eb(ρ:fv):List (FuncId×Array Value×List ű)->List (FuncId×Array Value×List ű)->Prop
 |pv:Eb ρ [] []
 |wB {x y:FuncId×Array Value×List ű} {L L':List (FuncId×Array Value×List ű)} (h:Kp ρ x y) (hs:Eb ρ L L'):Eb ρ (x::L) (y::L')
structure Kq(ρ:fv)(s s':St):Prop where
 f:s.f=s'.f
 t:fT ρ s.t s'.t
 k:s.k=s'.k
 vm:s.C=s'.C
 L:Eb ρ s.L s'.L
def Kp.fQ{ρ a:fv}(h:ρ.r a){x y:FuncId×Array Value×List ű}(r:Kp ρ x y):Kp a x y:=⟨r.f,r.t.I h,r.k⟩
def Kr{ρ b:fv}(h:ρ.r b){L c:List (FuncId×Array Value×List ű)}(r:Eb ρ L c):Eb b L c:=by
 induction r with
 |pv=>exact .pv
 |wB a _ d=>exact .wB (a.fQ h) d
section
variable{ρ:fv}{j:Nat->Prop}{p:ã->Prop}
def aeA(a:∀g,X g->ρ g g)(h:mB X qQ):Vi ρ qQ:=by
 cases h with
 |Wl t=>trivial
 |Wm h=>exact h.jH ρ
 |Wn h=>exact a _ h
 |Wo f=>trivial
def wO(b:∀g,X g->ρ g g)(h:fT ρ d q)(c:mB X qQ):fq ρ (ê ⟨d,[]⟩ qQ) (ê ⟨q,[]⟩ qQ):= adD (a:=⟨d,[]⟩) (a':=⟨q,[]⟩) h<|aeA b c
def py.r{b:Array Ã}(h:fT ρ q b)(d:Option Tmp)(c:fq ρ v x):fT ρ (py q d v) (py b d x):= adF (a:=⟨q,[]⟩) (a':=⟨b,[]⟩) h d c
def Wr(n:Nat):fT ρ (ŋ n ŏ) (ŋ n ŏ):=⟨U,λi a b=>by simp only[Array.getElem_replicate];exact GJ ρ⟩
def aeB(B:kj P xX o.op)(i:(î xX o).run P u=ı (Β F d) W):∃q l,o.op=ah {callee:=cM<|bu F,args:=q,argTypes:=l}:=by
 have n:∀{m:Ğ Ã} {x:ae} {k p:È},(m>>=λv=>pure (ñ v):Ğ ae).run P k=ı x p->∃v,x=ñ v:=by
  intro m x k p e;rw[Å]at e;cases j:m.run P k with
  |ok a w=>rw[j]at e;cases e;exact⟨a,U⟩
  |halt z w=>rw[j]at e;cases e
 have C:∀{m:Ğ Unit} {x:ae} {k p:È},(m>>=λ_=>pure bk:Ğ ae).run P k=ı x p->x=bk:=by
  intro m x k p e;rw[Å]at e;cases j:m.run P k with
  |ok a w=>rw[j]at e;cases e;rfl
  |halt z w=>rw[j]at e;cases e
 let⟨E,s,G,H,I,guard⟩:=o;simp only at B|-;unfold î at i;simp only[]at i;cases B with
 |Ao x=>cases i
 |GB x=>cases i
 |wD c a b=>
  rw[Å]at i;cases j:(cE<|xX c).run P u with
  |ok a w=>rw[j]at i;cases i
  |halt z w=>rw[j]at i;cases i
 |jf t a x=>exact absurd (C i) ft
 |GD x=>
  simp only[]at i;split at i;all_goals first
   |(cases i;done)
   |exact absurd i<|rE _ _ _ _
   |(
    split at i;all_goals first
     |(cases i;done)
     |exact absurd i<|rE _ _ _ _
     |(
      rw[Å,ÿ]at i;simp only[Ê]at i;rw[Å]at i;revert i;generalize ä P (bA _ _ _ _) u=z;intro i;cases z with
      |halt z w=>cases i
      |ok a w=>
       simp only[Ê]at i;split at i
       .rw[Å]at i;cases i
       .cases i))
 |GF x l=>simp only[Ă,Ę,ĝ,pure_bind,Û,æ,é]at i;let⟨v,e⟩:=n i;cases e
 |GG x l=>simp only[Ă,Ę,ĝ,pure_bind,Û,æ,é]at i;let⟨v,e⟩:=n i;cases e
 |GH x y l=>simp only[Ă,Ę,ĝ,pure_bind,Û,æ,é]at i;let⟨v,e⟩:=n i;cases e
 |GI x y b c h=>simp only[Ă,Ę,ĝ,pure_bind,Û,æ,é]at i;let⟨v,e⟩:=n i;cases e
 |jM g q l b h=>
  let⟨J,c,r,D⟩:=h;simp only[Ă,b,Ľ,Ę,pure_bind,ę,Ě,Ń]at i;rw[Å,ÿ]at i;simp only[Ê,c,r,D,Ç,if_false]at i;cases i;exact⟨q,l,U⟩
 |D7 s t x y r h=>
  rw[Å]at i;cases j:ä P (Ο s t x y (xX x) (xX y)>>=λ_=>Α s t (xX x)<|xX y) u with
  |ok a w=>rw[j]at i;cases i
  |halt z w=>rw[j]at i;cases i
 |_=>let⟨v,e⟩:=n i;cases e
def Ws(k:Func)(h:fT ρ d q):fJ P fq ρ (İ k d) (İ k q):=by
 have m:∀(c:fv),ρ.r c->∀n,fq c (d.getD n ŏ) (q.getD n ŏ):=by
  intro c a n;simp only[Ĵ];rcases(h.I a).S n with⟨b,e⟩|⟨v,u,b,e,g⟩
  .rw[b,e];exact GJ c
  .rwa[b,e]
 unfold İ;refine fI (V:=fT) ?_ ?_
 .rw[ğ,ğ];have w:∀(l:List ResultVar) (f:fv),ρ.r f->fJ P (λc (a o:List Ã)=>fT c a.toArray o.toArray) f (l.mapM fun|ResultVar.tmp n=>pure (d.getD n ŏ)|ResultVar.cell a e=>do aH e (<-cF (d.getD a ŏ))) (l.mapM fun|ResultVar.tmp n=>pure (q.getD n ŏ)|ResultVar.cell a e=>do aH e (<-cF (q.getD a ŏ))):=by
   intro l
   induction l with
   |nil=>intro f _;simp only[dt];exact .fH (fT.N _)
   |cons r l x=>
    intro f i;simp only[ax];refine fI (V:=fq) ?_ ?_
    .cases r with
     |tmp n=>exact .fH (m f i n)
     |cell a e=>
      apply fI (U5<|m f i a);intro p b s _ j;exact U1 j e
    .intro p v u e g;apply fI (x p<|fv.I i e);intro z s j y b;refine .fH ?_;have:=(fT.M<|g.fQ y).Y b;simpa using this
  exact fJ.mA (w _ ρ<|fv.M _) λc a o _ e=> .fH e
 .intro f s j _ b;refine .fH ?_;by_cases e:s.size=1
  .have a:j.size=1:=by rwa[<-b.r]
   rw[dif_pos e,dif_pos a];exact b.C 0 _ _
  .have a:¬j.size=1:=by rwa[<-b.r]
   rw[dif_neg e,dif_neg a];exact .nT b.r b.C
end
section
variable{ρ:fv}{d:Nat->Prop}{l:ã->Prop}
def iY(P:Ù)(ρ:fv)(d:Nat->Prop)(main:Bool)(cs:List ģ)(h:St)(u w:È)(k:St)(c:È):Prop:=
 ∃(a:fv) (f:St) (b:È) (g:Array ĉ),Ý P main (h.r cs) w=bB (f.r cs) b g/\Kq a k f/\ρ.r a/\(∀i j,a i j->ρ i j\/(u.heap.size<=i/\w.heap.size<=j))/\jo a d c b/\nU ρ d w b/\(∀e∈g,Aj a d e)/\u.heap.size<=c.heap.size
def iY.r{main:Bool}{cs:List ģ}{a b s1':St}(c:jo ρ d u w)(h:Ý P main (a.r cs) w=bB (s1'.r cs) w #[])(f:Kq ρ b s1'):iY P ρ d main cs a u w b u:= ⟨ρ,s1',w,#[],h,f,fv.M _,λ_ _ h=>Æ h,c,nU.fW _ _ w,λe g=>absurd g ft,á _⟩
def Ks{α:Type}{m:Ğ α}{x:α}(h:m.runT P w #[]=(ı x u,#[]++V)):m.run P w=ı x u/\m.events P w #[]=V:=by
 constructor
 .rw[<-Ÿ P m w #[],h]
 .unfold Sem.events;rw[h];simp
def GV{main:Bool}{k:List ű}{c:ģ}{cs:List ģ}{es:Array ĉ}(a:P.funcs[F]?=À s)(b:(İ s q).runT P w #[]=(ı v u,es)): Ý P main (G {fm F q k with mode:=.returning}<|c::cs) w=bB (G (c.finish v) cs) u (seen P F es):=by simp[G,Ý,dN,doReturn,fm,Frame.at,base,a,b,Τ,-Υ]
def LS.mQ(hz:nV P)(hb:ρ.C=P.globals.size)(hG:∀g,X g->ρ g g){s s1 s':St}(h:LS P s u s1 W)(hs:Kq ρ s s')(ok:lB P X l s)(n:jo ρ d u w)(hl:∀j,d j->j<w.heap.size)(Q:D5 u W)(main:Bool)(cs:List ģ): iY P ρ d main cs s' u w s1 W:=by
 let⟨f',r,k',ret',p⟩:=s';let⟨T,m,V,e3,q⟩:=hs;simp only at T V e3 m q;subst T V e3;cases h with
 |pv=>exact .r (s1':=⟨_,r,_,Ë,p⟩) n (by simp[St.r,fm,base,G,Ý,Î,Frame.at]) ⟨U,m,U,U,q⟩
 |vm=>exact .r (s1':=⟨_,r,_,Ë,p⟩) n (by simp[St.r,fm,base,G,Ý,Î,Frame.at]) ⟨U,m,U,U,q⟩
 |sP=>exact .r (s1':=⟨_,r,_,Â,p⟩) n (by simp[St.r,fm,base,G,Ý,Î,Frame.at]) ⟨U,m,U,U,q⟩
 |wF=>exact .r (s1':=⟨_,r,_,Â,p⟩) n (by simp[St.r,fm,base,G,Ý,Î,Frame.at]) ⟨U,m,U,U,q⟩
 |yk=>exact .r (s1':=⟨_,r,_,Â,p⟩) n (by simp[St.r,fm,base,G,Ý,Î,Frame.at]) ⟨U,m,U,U,q⟩
 |vn=>exact .r (s1':=⟨_,r,_,Â,p⟩) n (by simp[St.r,fm,base,G,Ý,Î,Frame.at]) ⟨U,m,U,U,q⟩
 |rH=>exact .r (s1':=⟨_,r,_,Â,p⟩) n (by simp[St.r,fm,base,G,Ý,Î,Frame.at]) ⟨U,m,U,U,q⟩
 |@tU _ _ _ _ _ c _ _ b hc'=>
  have Y:=wO hG m (by cases yl ok.gk with|tU Q _ _=>exact Q);rw[hc']at Y;have e:ê ⟨r,[]⟩ c=Ŏ b:=by generalize ê ⟨r,[]⟩ c=v' at Y;cases Y;rfl
  exact .r (s1':=⟨_,r,_,Â,p⟩) n (cZ e) ⟨U,m,U,U,q⟩
 |rI=>exact .r (s1':=⟨_,r,_,Â,p⟩) n (by simp[St.r,fm,base,G,Ý,Î,Frame.at]) ⟨U,m,U,U,q⟩
 |wG=>exact .r (s1':=⟨_,r,_,Â,p⟩) n (by simp[St.r,fm,base,G,Ý,Î,Frame.at]) ⟨U,m,U,U,q⟩
 |wH=>exact .r (s1':=⟨_,r,_,Â,p⟩) n (by simp[St.r,fm,base,G,Ý,Î,Frame.at]) ⟨U,m,U,U,q⟩
 |wI=>exact .r (s1':=⟨_,r,_,Â,p⟩) n (by simp[St.r,fm,base,G,Ý,Î,Frame.at]) ⟨U,m,U,U,q⟩
 |wK B=>exact .r (s1':=⟨_,r,_,Â,p⟩) n (by simp[St.r,fm,base,G,Ý,Î,Frame.at,B]) ⟨U,m,U,U,q⟩
 |wL B=>exact .r (s1':=⟨_,r,_,Â,p⟩) n (by simp[St.r,fm,base,G,Ý,Î,Frame.at,B]) ⟨U,m,U,U,q⟩
 |tV=>exact .r (s1':=⟨_,r,_,Â,p⟩) n (by simp[St.r,fm,base,G,Ý,Î,Frame.at]) ⟨U,m,U,U,q⟩
 |@Ar f t k L _ id ops=>
  refine⟨ρ,⟨f,r,å ops (cu (P.follows .mixedOrders) ops<|w.tape w.drawn<|.order f id)::k,Â,p⟩,{w with drawn:=w.drawn+1},#[],Χ,⟨U,m,?_,U,q⟩,fv.M _,λ_ _ h=>Æ h,⟨n.S,by simp[n.N],n.C,n.I,n.M,n.r⟩,⟨á _,U,U,U,λ_ _ _=>rfl,λ_ _ _=>rfl⟩,λe B=>absurd B ft,á _⟩;simp only[n.S,n.N]
 |GU=>exact .r (s1':=⟨_,r,_,Â,p⟩) n (by simp[St.r,fm,base,G,Ý,Î,Frame.at]) ⟨U,m,U,U,q⟩
 |@D9 f t k L _ ops i rest o ho hw=>
  rw[Kf _ _ m]at hw;have:=aD (P:=P) (main:=main) (b:=base f) (a:=⟨r,[]⟩) (k:=k) (cs:=p.map (λx=>fm x.1 x.2.1 x.2.2)++cs) (w:=w) (rest:=rest) ho hw;rw[sT]at this;exact .r (s1':=⟨f,py r o.dst ŏ,å ops rest::k,Â,p⟩) n this ⟨U,py.r m _<|GJ ρ,U,U,q⟩
 |@nW f t k L _ ops i rest o v _ ho hw hr=>
  rw[Kf _ _ m]at hw;have hO:=pB ok.gk _<|Ø ho;let⟨C,x',E,es,z,F,D,H,I,J,K,M⟩:=hO.mQ hz hb hG m n hl hr Q;let⟨N,O⟩:=Ks D;cases H with
  |nW Y=>
   have:=bU (main:=main) (b:=base f) (k:=k) (cs:=p.map (λx=>fm x.1 x.2.1 x.2.2)++cs) (rest:=rest) ho hw (by simp[base]) N;rw[sT]at this;rename_i v';exact⟨C,⟨f,py r o.dst v',å ops rest::k,Â,p⟩,E,_,this,⟨U,py.r (m.I z) _ Y,U,U,Kr z q⟩,z,F,I,J,λe B=>K e (by have:=c8 B;rwa[O]at this),M⟩
 |@As f t k L _ ops i rest o _ ho hw hr=>
  rw[Kf _ _ m]at hw;have hO:=pB ok.gk _<|Ø ho;let⟨C,x',E,es,z,F,D,H,I,J,K,M⟩:=hO.mQ hz hb hG m n hl hr Q;let⟨N,O⟩:=Ks D;cases H with
  |sP=>
   have:=c9 (main:=main) (b:=base f) (k:=k) (cs:=p.map (λx=>fm x.1 x.2.1 x.2.2)++cs) (rest:=rest) ho hw (by simp[base]) N;rw[sT]at this;exact⟨C,⟨f,py r o.dst ŏ,å ops rest::k,Â,p⟩,E,_,this,⟨U,py.r (m.I z) _<|GJ C,U,U,Kr z q⟩,z,F,I,J,λe B=>K e (by have:=c8 B;rwa[O]at this),M⟩
 |@sQ f t k L _ ops i rest o g args fn c _ ho hw hr hf Kt=>
  rw[Kf _ _ m]at hw;have hO:=pB ok.gk _<|Ø ho;let⟨C,x',E,es,z,F,D,H,I,J,K,M⟩:=hO.mQ hz hb hG m n hl hr Q;let⟨N,O⟩:=Ks D;cases H with
  |sQ _ p7=>
   have:=bV (main:=main) (b:=base f) (k:=k) (cs:=p.map (λx=>fm x.1 x.2.1 x.2.2)++cs) (rest:=rest) ho hw (by simp[base]) N;rw[da _ hf Kt]at this;rename_i Wt;refine⟨C,⟨g,Wt++ŋ (fn.ntmps-Wt.size) ŏ,[ě c],Â,(f,r,å ops (i::rest)::k)::p⟩,E,_,this,⟨U,?_,U,U,.wB ⟨U,m.I z,U⟩ (Kr z q)⟩,z,F,I,J,λe B=>K e (by have:=c8 B;rwa[O]at this),M⟩;rw[p7.r];exact p7.Y<|Wr _
 |@Ea f t k L _ ops i rest ho=>exact .r (s1':=⟨f,r,å ops rest::k,Â,p⟩) n (by simp[St.r,fm,base,G,Ý,Î,Frame.at,ho,bC]) ⟨U,m,U,U,q⟩
 |@wM f t k L _ g t2' ops i rest k3 v fn _ hf hr=>
  cases q with
  |wB hx q=>
   rename_i y Wu;let⟨g',t2,k2⟩:=y;let⟨T,Ku,V⟩:=hx;simp only at T V Ku;subst T V;let⟨C,v',E,es,z,F,D,H,I,J,K,M⟩:=(Ws fn m).gp n hl hr #[];let⟨N,O⟩:=Ks D;refine⟨C,⟨g,py t2 ((ops[i]?).bind (·.dst)) v',å ops rest::k3,Â,Wu⟩,E,seen P f es,?_,⟨U,py.r (Ku.I z) _ H,U,U,Kr z q⟩,z,F,I,J,λe B=>K e<|mem_seen B,M⟩;have Au:=ai (base g) ⟨t2,[]⟩ ops i rest k3 v';rw[sT]at Au;have lQ:=GV (main:=main) (k:=k) (c:=fm g t2<|å ops (i::rest)::k3) (cs:=Wu.map (λx=>fm x.1 x.2.1 x.2.2)++cs) hf D;unfold fm at lQ;rwa[Au,ę]at lQ
end
inductive p8(P:Ù)(kZ:Ã->È->Prop):St->È->Prop
 |jN {f:ã} {t:Array Ã} {k:List ű} {u:È} {fn:Func} {v:Ã} (hf:P.funcs[f]?=À fn) (hr:∀tp d,(İ fn t).run P {u with tape:=tp,drawn:=d}=ı v {u with tape:=tp,drawn:=d}) (hp:kZ v u):p8 P kZ ⟨f,t,k,Ë,[]⟩ u
 |jO {s:St} {u:È} (S:aG->Nat->St) (U:aG->Nat->È) (h:∀tp d,LS P s {u with tape:=tp,drawn:=d} (S tp d)<|U tp d) (hc:∀tp d,D5 u<|U tp d) (ih:∀tp d,p8 P kZ (S tp d)<|U tp d):p8 P kZ s u
structure ym(M:Nat->Prop)(w w₁:È):Prop where
 r:w.heap.size<=w₁.heap.size
 C:∀j,M j->w₁.heap[j]?=w.heap[j]?
def Kv(O b:Nat->Prop)(e:ĉ):Prop:=
 (∃a:Ü,e.loc=ć a/\e.sync=Â/\(O a.block\/(b a.block/\e.write=Â)))\/e.loc=Θ π\/∃f,e.loc=Θ (.extern f)
structure Kw(Rd O O':Nat->Prop)(w w':È)(es:Array ĉ):Prop where
 r:w.heap.size<=w'.heap.size
 M:∀j,O j->O' j
 I:∀j,O' j->O j\/w.heap.size<=j
 fx:∀j,O' j->j<w'.heap.size
 jV:∀j,j<w.heap.size->¬O j->w'.heap[j]?=w.heap[j]?
 N:w'.os=w.os
 S:w'.output=w.output
 Y:w'.tape=w.tape
 C:∀e∈es,Kv O' Rd e
inductive vo(P:Ù)(main:Bool)(Rd:Nat->Prop)(Stop:(Nat->Prop)->Ô->È->Prop):(Nat->Prop)->Ô->È->Prop
 |fF {O:Nat->Prop} {g:Ô} {w:È} (h:∀w₁,ym (λj=>O j\/Rd j) w w₁->Stop O g w₁):vo P main Rd Stop O g w
 |jO {O:Nat->Prop} {g:Ô} {w:È} (G':È->Ô) (W':È->È) (E':È->Array ĉ) (O':È->Nat->Prop) (jd:g.status=Ñ)
  (h:∀w₁,ym (λj=>O j\/Rd j) w w₁->Ý P main g w₁=bB (G' w₁) (W' w₁) (E' w₁))
  (hd:∀w₁,ym (λj=>O j\/Rd j) w w₁->Kw Rd O (O' w₁) w₁ (W' w₁) (E' w₁))
  (ih:∀w₁,ym (λj=>O j\/Rd j) w w₁->vo P main Rd Stop (O' w₁) (G' w₁) (W' w₁)):vo P main Rd Stop O g w
instance:Nonempty fv:=⟨⟨λ_ _=>False,0⟩⟩
instance:Nonempty St:=⟨⟨0,#[],[],Â,[]⟩⟩
instance:Nonempty (Goroutine×World×Array Event×(Nat->Prop)):=⟨(default,default,#[],λ_=>False)⟩
section
variable{ρ:fv}{b Rd:Nat->Prop}{l:ã->Prop}{main:Bool}{Stop:(Nat->Prop)->Ô->È->Prop}
def vo.mk(i:g.status=Ñ) (h:∀a,ym (λj=>X j\/Rd j) w a->∃c b d e,Ý P main g a=bB c b d/\Kw Rd X e a b d/\vo P main Rd Stop e c b):vo P main Rd Stop X g w:=by
 let p:=λ(a:È) (x:Goroutine×World×Array Event×(Nat->Prop))=>Ý P main g a=bB x.1 x.2.1 x.2.2.1/\Kw Rd X x.2.2.2 a x.2.1 x.2.2.1/\vo P main Rd Stop x.2.2.2 x.1 x.2.1
 have f:∀a,ym (λj=>X j\/Rd j) w a->p a (Classical.epsilon<|p a):=λa r=>Classical.epsilon_spec (let⟨c,b,d,e,h⟩:=h a r;⟨(c,b,d,e),h⟩);exact .jO (λa=>(Classical.epsilon<|p a).1) (λa=>(Classical.epsilon<|p a).2.1) (λa=>(Classical.epsilon<|p a).2.2.1) (λa=>(Classical.epsilon<|p a).2.2.2) i (λa r=>(f a r).1) (λa r=>(f a r).2.1) λa r=>(f a r).2.2
def rK(ρ:fv)(b:Nat->Prop)(u w:È):Prop:=jo ρ b {u with tape:=w.tape,drawn:=w.drawn} w
def fu(ρ:fv)(b:Nat->Prop)(j:Nat):Prop:=(∃i,ρ i j)/\¬b j
def rK.jP{w₁:È}(h:rK ρ b u w)(d:∀i j,ρ i j->b j->Rd j)(r:ym (λj=>fu ρ b j\/Rd j) w w₁):rK ρ b u w₁:=by
 refine⟨U,U,h.C,h.I,ö h.M r.r,λi j a=> ?_⟩;let⟨c,f,e,g,k,l,m,n,o,p⟩:=h.r i j a;refine⟨c,f,e,g,k,l,?_,n,o,p⟩;rw[r.C j ?_]
 .exact m
 .by_cases s:b j
  .exact Í<|d i j a s
  .exact Æ ⟨⟨i,a⟩,s⟩
def jo.to0(h:jo ρ b u w):rK ρ b u w:=⟨U,U,h.C,h.I,h.M,h.r⟩
def jo.vp(h:jo ρ b u w)(tp:aG)(d:Nat):rK ρ b {u with tape:=tp,drawn:=d} w:=⟨U,U,h.C,h.I,h.M,h.r⟩
def aeC{c:fv}(k:∀i j,c i j->b j->Rd j){e:ĉ}(h:Aj c b e):Kv (fu c b) Rd e:=by
 rcases h with⟨a,i,d,f,g,l⟩|h|h
 .by_cases s:b a.block
  .refine Æ ⟨a,d,g,Í ⟨k _ _ f s,?_⟩⟩;cases m:e.write with
   |false=>rfl
   |true=>exact absurd s<|l m
  .exact Æ ⟨a,d,g,Æ ⟨⟨i,f⟩,s⟩⟩
 .exact Í<|Æ h
 .exact Í<|Í h
def Wv{c:fv}(f:ρ.r c)(g:∀i j,c i j->ρ i j\/(u.heap.size<=i/\w.heap.size<=j))(k:jo c b W jX)(d:nU ρ b w jX)(l:∀e∈V,Aj c b e)(m:∀i j,c i j->b j->Rd j): Kw Rd (fu ρ b) (fu c b) w jX V where
 r:=d.r;M j h:=⟨let⟨i,a⟩:=h.1;⟨i,f.1 _ _ a⟩,h.2⟩;I j h:=by
  let⟨⟨i,a⟩,s⟩:=h;rcases g i j a with x|x
  .exact Æ ⟨⟨i,x⟩,s⟩
  .exact Í x.2
 fx j h:=by let⟨⟨i,a⟩,_⟩:=h;let⟨_,_,_,_,_,_,x,_⟩:=k.r i j a;exact(Ä.1 x).1
 jV j hj hn:=by
  by_cases x:∃i,ρ i j
  .by_cases s:b j
   .exact d.N j s hj
   .exact absurd ⟨x,s⟩ hn
  .exact d.C j hj λi a=>x ⟨i,a⟩
 N:=d.I;S:=d.M;Y:=d.S;C e he:=aeC m<|l e he
def GX(ρ:fv)(b:Nat->Prop)(f:Ã->È->Prop)(c:ģ)(h:List ģ)(O:Nat->Prop)(g:Ô)(w:È):Prop:=
 ∃(a:fv) (d:È) (v e:Ã),ρ.r a/\O=fu a b/\rK a b d w/\fq a v e/\f v d/\g=G (c.finish e) h
def p8.O3(hz:nV P)(hP:pA P X l){s:St}(h:p8 P vQ s u):∀{ρ GY:fv} {s':St} {w:È},GY.r ρ->ρ.C=P.globals.size->(∀g,X g->ρ g g)->Kq ρ s s'->lB P X l s->rK ρ b u w->(∀j,b j->j<w.heap.size)->(∀i j,ρ i j->b j->Rd j)->∀(c:ģ) (cs:List ģ),vo P main Rd (GX GY b vQ c cs) (fu ρ b) (s'.r<|c::cs) w:=by
 have hE:∀o a u f F G,mP P X l o->(î (ê a) o).run P u=ı (Β f F) G->l f:=by intro o a u f F G d H;exact d.C a u f F G H
 induction h with
 |@jN f t k u fn v hf H hp=>
  intro ρ GY s' w I J K L M N O n c cs;let⟨f',t',k',ret',L'⟩:=s';let⟨W,Y,e2,e3,hL⟩:=L;simp only at W e2 e3 Y hL;subst W e2 e3;cases hL;refine .mk rfl λp r=> ?_;have Q:=N.jP n r;have d:=λj s=>Õ (O j s) r.r;let⟨z,v',w',es,B,C,m,D,q,E,T,h8⟩:=(Ws fn Y).gp Q d (H _ _) #[];have y:=λi j V s=>(C i j V).elim (λx=>n i j x s) λx=>absurd (d j s) Z;refine⟨_,w',_,fu z b,GV hf m,Wv B C q E (λe he=>T e (by have:=mem_seen he;simpa using this)) y,.fF λpC e=> ?_⟩;exact⟨z,u,v,v',fv.I I B,rfl,rK.jP (q.vp _ _) y e,D,hp,rfl⟩
 |@jO s u S U h hc _ ih=>
  intro ρ GY s' w I J K L M N O n c cs;refine .mk rfl λp r=> ?_;have Q:=N.jP n r;have d:=λj s=>Õ (O j s) r.r;let⟨z,H,e,es,B,C,m,D,q,E,T,h8⟩:=(h p.tape p.drawn).mQ hz J K L M Q d (hc p.tape p.drawn) main<|c::cs;have y:=λi j V s=>(D i j V).elim (λx=>n i j x s) λx=>absurd (d j s) Z;refine⟨_,e,es,fu z b,B,Wv m D q E T y,?_⟩;exact ih _ _ (fv.I I m) (m.2.2.trans J) (λg x=>m.1 _ _<|K g x) C ((h _ _).ok hP hE M) q.to0 (λj s=>Õ (d j s) E.r) y c cs
end
def oA:ģ:={(default:ģ)with fn:=0,todo:=[ě<|dM ""],defers:=[{target:=.nil,args:=#[]}],mode:=.run,kind:=.normal}
def St.I(s:St):ģ:=if s.C then{fm s.f s.t s.k with mode:=.returning}else fm s.f s.t s.k
def fx(L:List (FuncId×Array Value×List ű)):List ģ:=L.map (λx=>fm x.1 x.2.1 x.2.2)++[oA]
def LM(s:St)(u:È):cA:=Η s.I (fx s.L) u
section
variable{GL:Nat->Prop}{ff:ã->Prop}{Q:Ã->È->Prop}
def Ec{cs:List ģ}{a:ģ}{es:Array ĉ}(h:Ý P Ë (G f cs) w=bB (G a qX) u es):cw P (Η f cs w)=ń (Η a qX u):= step_lone_go<|by show(Ý P Ë (G f cs) w).bare=_;rw[h];rfl
def Kx{fr:ģ}{cs:List ģ}{o:Outcome}{es:Array ĉ}(h:Ý P Ë (G fr cs) w=.ended o u es):cw P (Η fr cs w)=.ended o u:= step_lone_ended<|by show(Ý P Ë (G fr cs) w).bare=_;rw[h];rfl
def mR(P:Ù)(Q:Ã->È->Prop)(n:Nat)(m:cA):Prop:=∃b v a,dO P n m=ń (Η b [oA] a)/\b.leaving P a (.returned v)/\Q v a
def mR.r{m a:cA}(h:mR P Q (n+1) m)(b:cw P m=ń a):mR P Q n a:=by let⟨c,v,d,e,f⟩:=h;exact⟨c,v,d,by simpa only[dO,b]using e,f⟩
def mR.M{m:cA}{o:Outcome}(h:mR P Q (n+1) m)(b:cw P m=.ended o w):False:=by let⟨c,v,d,a,e⟩:=h;simp only[dO,b]at a;cases a
def Ww{fr:ģ}{cs:List ģ}(h:Η fr cs w=Η f qX u):fr=f/\cs=qX/\w=u:=by simp only[Η,Machine.mk.injEq,Array.mk.injEq,List.cons.injEq,Goroutine.mk.injEq]at h;exact⟨h.2.1.1.1,h.2.1.1.2.1,h.1⟩
def mR.C{cs:List ģ}(h:mR P Q 0 (Η f cs w)):cs=[oA]/\∃v,f.leaving P w (.returned v)/\Q v w:=by let⟨d,v,e,a,b,c⟩:=h;simp only[dO,Stepped.next.injEq]at a;obtain⟨rfl,rfl,rfl⟩:=Ww a;exact⟨U,v,b,c⟩
def aeD(h:mR P Q n (Η oA [] u)):False:=by
 cases n with
 |zero=>let⟨a,_⟩:=h.C;cases a
 |succ n=>exact h.M<|Kx (es:=#[])<|by simp[G,Ý,Î,oA];exact⟨U,U⟩
def aeE{a:List eK}(h:mR P Q n (Η (oA.raise a) [] u)):False:=by
 cases n with
 |zero=>let⟨b,_⟩:=h.C;cases b
 |succ n=>exact h.M<|Kx (es:=#[])<|by simp[G,Ý,oA,Ū,dN,callDeferred];exact⟨U,U⟩
def aeF(a:List eK):∀(L:List (FuncId×Array Value×List ű)) (f:ã) (t:Array Ã) (k:List ű) (u:È) (n:Nat),(∃b,P.funcs[f]?=À b)->(∀x∈L,∃b,P.funcs[x.1]?=À b)->¬mR P Q n (Η ((fm f t k).raise a) (fx L) u):=by
 intro L
 induction L with
 |nil=>
  intro f t k u n ⟨b,c⟩ _ h;cases n with
  |zero=>let⟨_,v,y,_⟩:=h.C;exact absurd y.1<|by simp[Ū,fm,Frame.at]
  |succ n=>
   have d:cw P (Η ((fm f t k).raise a) (fx []) u)=ń (Η (oA.raise a) [] u):=Ec (es:=#[]) (by simp[G,Ý,fm,base,Frame.at,Ū,dN,dx,c,fx]);exact aeE<|h.r d
 |cons x L g=>
  intro f t k u n ⟨b,c⟩ e h;cases n with
  |zero=>let⟨_,v,y,_⟩:=h.C;exact absurd y.1<|by simp[Ū,fm,Frame.at]
  |succ n=>
   have d:cw P (Η ((fm f t k).raise a) (fx<|x::L) u)=ń (Η ((fm x.1 x.2.1 x.2.2).raise a) (fx L) u):=Ec (es:=#[]) (by simp[G,Ý,fm,base,Frame.at,Ū,dN,dx,c,fx]);exact g x.1 x.2.1 x.2.2 u n (e x<|ð ..) (λy v=>e y<|õ _ v)<|h.r d
structure Ok(P:Ù)(GL:Nat->Prop)(ff:ã->Prop)(s:St):Prop where
 r:lB P GL ff s
 I:ff s.f
 C:∀x∈s.L,ff x.1/\∃ops i rest k,x.2.2=å ops (i::rest)::k
def tW(P:Ù)(ff:ã->Prop):Prop:=∀f,ff f->∃a c,P.funcs[f]?=À a/\a.body=À c
def O4{t:Array Ã}:fG P (İ s t):=by
 unfold İ;refine gq (VJ _ (λr=> ?_) _) λ_=>gC _;cases r with
 |tmp n=>exact gC _
 |cell a n=>exact gq (VB _) λ_=>Vx _ _
def aeG(k:kj P xX o.op){n:ae}(d:(î xX o).run P u=ı n W):(∃v,n=ñ v)\/n=bk\/∃f c,n=Β f c:=by
 have i:∀{m:Ğ Ã} {x:ae} {j l:È},(m>>=λv=>pure (ñ v):Ğ ae).run P j=ı x l->∃v,x=ñ v:=by
  intro m x j l e;rw[Å]at e;cases g:m.run P j with
  |ok a w=>rw[g]at e;cases e;exact⟨a,U⟩
  |halt z w=>rw[g]at e;cases e
 let⟨p,e,q,s,B,guard⟩:=o;simp only at k;unfold î at d;simp only[]at d;cases k with
 |Ao x=>cases d;exact Æ ⟨_,U⟩
 |GB x=>cases d;exact Æ ⟨_,U⟩
 |wD c a b=>
  rw[Å]at d;cases g:(cE<|xX c).run P u with
  |ok a w=>rw[g]at d;cases d;exact Æ ⟨_,U⟩
  |halt z w=>rw[g]at d;cases d
 |jf t a x=>
  rw[Å]at d;cases g:(Ł t (xX a)<|xX x).run P u with
  |ok a w=>rw[g]at d;cases d;exact Í<|Æ U
  |halt z w=>rw[g]at d;cases d
 |GD x=>
  simp only[]at d;split at d;all_goals first
   |(cases d;exact Æ ⟨_,U⟩)
   |exact absurd d<|rE _ _ _ _
   |(
    split at d;all_goals first
     |(cases d;exact Æ ⟨_,U⟩)
     |exact absurd d<|rE _ _ _ _
     |(
      rw[Å,ÿ]at d;simp only[Ê]at d;rw[Å]at d;revert d;generalize ä P (bA _ _ _ _) u=z;intro d;cases z with
      |halt z w=>cases d
      |ok a w=>
       simp only[Ê]at d;split at d
       .rw[Å]at d;cases d
       .cases d;exact Æ ⟨_,U⟩))
 |GF x a=>simp only[Ă,Ę,ĝ,pure_bind,Û,æ,é]at d;exact Æ<|i d
 |GG x a=>simp only[Ă,Ę,ĝ,pure_bind,Û,æ,é]at d;exact Æ<|i d
 |GH x y a=>simp only[Ă,Ę,ĝ,pure_bind,Û,æ,é]at d;exact Æ<|i d
 |GI x y b g h=>simp only[Ă,Ę,ĝ,pure_bind,Û,æ,é]at d;exact Æ<|i d
 |jM g C a b h=>
  let⟨D,r,w,z⟩:=h;simp only[Ă,b,Ľ,Ę,pure_bind,ę,Ě,Ń]at d;rw[Å,ÿ]at d;simp only[Ê,r,w,z,Ç,if_false]at d;cases d;exact Í<|Í ⟨_,_,U⟩
 |D7 e t x y r h=>exact Æ<|i d
 |_=>exact Æ<|i d
def mR.I(_hP:pA P GL ff)(hF:tW P ff){n:Nat}{s:St}{u:È}(ok:Ok P GL ff s)(hu:qN u)(h:mR P Q n (LM s u)): (n=0/\s.C=Ë/\s.L=[]/\∃fn v,P.funcs[s.f]?=À fn/\(İ fn s.t).run P u=ı v u/\Q v u)\/∃m s' u',n=m+1/\LS P s u s' u'/\mR P Q m (LM s' u'):=by
 let⟨f,t,k,ret,L⟩:=s;let⟨⟨top,lw⟩,fs,ls⟩:=ok;simp only at top lw fs ls;let⟨fn,c,hfn,hbody⟩:=hF f fs;cases n with
 |zero=>
  let⟨h1,v,h2,h3⟩:=h.C;have hL:L=[]:=by
   simp only[fx]at h1;cases L with
   |nil=>rfl
   |cons x L=>simp at h1
  subst hL;let⟨m1,_,_,fn',m4,m5⟩:=h2;have aeH:ret=Ë:=by
   cases ret with
   |true=>rfl
   |false=>simp[St.I,fm,Frame.at]at m1
  subst aeH;exact Æ ⟨U,U,U,fn',v,m4,m5,h3⟩
 |succ n=>
  have go:∀{s':St} {u':È},LS P ⟨f,t,k,ret,L⟩ u s' u'->(∃es,Ý P Ë ((⟨f,t,k,ret,L⟩:St).r [oA]) u=bB (s'.r [oA]) u' es)->(n+1=0/\ret=Ë/\L=[]/\∃fn v,P.funcs[f]?=À fn/\(İ fn t).run P u=ı v u/\Q v u)\/∃m s' u',n+1=m+1/\LS P ⟨f,t,k,ret,L⟩ u s' u'/\mR P Q m (LM s' u'):=by intro s' u' hl ⟨es,he⟩;exact Í ⟨n,s',u',U,hl,h.r<|Ec he⟩
  have bad:(∃o w es,Ý P Ë ((⟨f,t,k,ret,L⟩:St).r [oA]) u=.ended o w es)->False:=λ⟨_,_,_,he⟩=>h.M<|Kx he;cases ret with
  |true=>
   cases hr:(İ fn t).runT P u #[]with
   |mk r es=>
    have oz:(İ fn t).run P u=r:=by rw[<-Ÿ P (İ fn t) u #[],hr]
    cases r with
    |halt z w=>
     refine absurd ?_ id;cases z<;>exact bad ⟨_,_,_,by simp[St.r,fm,base,G,Ý,dN,Frame.at,hfn,hr,Τ,-Υ];exact⟨U,U,U⟩⟩
    |ok v u'=>
     cases L with
     |nil=>
      have hs:cw P (LM ⟨f,t,k,Ë,[]⟩ u)=ń (Η oA [] u'):=Ec<|GV hfn hr;exact absurd (h.r hs) aeD
     |cons x L=>
      let⟨g,t',k'⟩:=x;let⟨_,ops,i,rest,k2,e⟩:=ls _<|ð ..;simp only at e;subst e;refine go (.wM hfn oz) ⟨seen P f es,?_⟩;have lQ:=GV (main:=Ë) (k:=k) (c:=fm g t'<|å ops (i::rest)::k2) (cs:=fx L) hfn hr;have Au:=ai (base g) ⟨t',[]⟩ ops i rest k2 v;rw[sT]at Au;unfold fm at lQ;rwa[Au]at lQ
  |false=>
   cases k with
   |nil=>exact go .pv ⟨_,by simp[St.r,fm,base,G,Ý,Î,Frame.at];rfl⟩
   |cons it k=>
    have ti:=top it<|ð ..;cases ti with
    |yk id=>exact go .yk ⟨_,by simp[St.r,fm,base,G,Ý,Î,Frame.at];rfl⟩
    |vn _=>exact go .vn ⟨_,by simp[St.r,fm,base,G,Ý,Î,Frame.at];rfl⟩
    |wH _=>exact go .wH ⟨_,by simp[St.r,fm,base,G,Ý,Î,Frame.at];rfl⟩
    |rJ hc=>
     cases hc with
     |vm=>exact go .vm ⟨_,by simp[St.r,fm,base,G,Ý,Î,Frame.at];rfl⟩
     |sP=>exact go .sP ⟨_,by simp[St.r,fm,base,G,Ý,Î,Frame.at];rfl⟩
     |wF l=>exact go .wF ⟨_,by simp[St.r,fm,base,G,Ý,Î,Frame.at];rfl⟩
     |rH hx hy=>exact go .rH ⟨_,by simp[St.r,fm,base,G,Ý,Î,Frame.at];rfl⟩
     |rI id _=>exact go .rI ⟨_,by simp[St.r,fm,base,G,Ý,Î,Frame.at];rfl⟩
     |wG _=>exact go .wG ⟨_,by simp[St.r,fm,base,G,Ý,Î,Frame.at];rfl⟩
     |wI _=>exact go .wI ⟨_,by simp[St.r,fm,base,G,Ý,Î,Frame.at];rfl⟩
     |pz Wq=>exact(bad ⟨_,_,_,by simp[St.r,fm,base,G,Ý,Î,Frame.at];exact⟨U,U,U⟩⟩).elim
     |wK id=>
      cases he:cW id k with
      |none=>exact(bad ⟨_,_,_,by simp[St.r,fm,base,G,Ý,Î,Frame.at,he];exact⟨U,U,U⟩⟩).elim
      |some k'=>exact go (.wK he) ⟨_,by simp[St.r,fm,base,G,Ý,Î,Frame.at,he];rfl⟩
     |wL l=>
      cases he:cX l k with
      |none=>exact(bad ⟨_,_,_,by simp[St.r,fm,base,G,Ý,Î,Frame.at,he];exact⟨U,U,U⟩⟩).elim
      |some k'=>exact go (.wL he) ⟨_,by simp[St.r,fm,base,G,Ý,Î,Frame.at,he];rfl⟩
     |@tU c x y _ _ _=>
      by_cases hb:∃b,ê ⟨t,[]⟩ c=Ŏ b
      .let⟨b,hb⟩:=hb;exact go (.tU hb) ⟨_,cZ hb⟩
      .refine(bad ⟨.stuck "cond: bool expected" ((fm f t<|ě (bT c x y)::k).pos P),u,#[],?_⟩).elim;have Ke:(fm f t<|ě (bT c x y)::k).eval c=ê ⟨t,[]⟩ c:=Frame.eval_at _ _ _ _;have hx:Ý P Ë (G (fm f t<|ě (bT c x y)::k)<|fx L) u=(match(fm f t<|ě (bT c x y)::k).eval c with
        |Ŏ b=>bB (G (fm f t<|ě (if b then x else y)::k)<|fx L) u
        |_=>.ended (.stuck "cond: bool expected" ((fm f t (ě (bT c x y)::k)).pos P)) u):=by
        simp only[G,Ý,Î,fm,Frame.at];rfl
       refine hx.trans ?_;rw[Ke];generalize ê ⟨t,[]⟩ c=v at hb;cases v<;>first|exact absurd ⟨_,U⟩ hb|rfl
     |tV id draw _=>
      cases draw with
      |false=>exact go .tV ⟨_,by simp[St.r,fm,base,G,Ý,Î,Frame.at];rfl⟩
      |true=>exact go .Ar ⟨_,Χ⟩
    |wN is hO=>
     rename_i ops;cases is with
     |nil=>exact go .GU ⟨_,by simp[St.r,fm,base,G,Ý,Î,Frame.at];rfl⟩
     |cons i rest=>
      cases ho:ops[i]? with
      |none=>exact go (.Ea ho) ⟨_,by simp[St.r,fm,base,G,Ý,Î,Frame.at,ho,bC];rfl⟩
      |some o=>
       cases hw:Ĳ o (ŗ ops t)with
       |false=>
        have:=aD (P:=P) (main:=Ë) (b:=base f) (a:=⟨t,[]⟩) (k:=k) (cs:=fx L) (w:=u) (rest:=rest) ho hw;rw[sT]at this;exact go (.D9 ho hw) ⟨_,this⟩
       |true=>
        have oo:=hO o<|Ø ho;have nc:=oo.r ⟨t,[]⟩;have GZ:=stepG_oper (P:=P) (main:=Ë) (b:=base f) (a:=⟨t,[]⟩) (k:=k) (cs:=fx L) (w:=u) (rest:=rest) ho hw;cases hr:(î (ê ⟨t,[]⟩) o).runT P u #[]with
        |mk r es=>
         have oz:(î (ê ⟨t,[]⟩) o).run P u=r:=by rw[<-Ÿ P _ u #[],hr]
         cases r with
         |halt z w=>
          have hz:=(nc.1 u hu).2 z w oz;cases z with
          |panic v=>
           have hs:cw P (LM ⟨f,t,å ops (i::rest)::k,Â,L⟩ u)=ń (Η ((fm f t<|å ops (i::rest)::k).raise [{v,recovered:=Â}]) (fx L) w):= Ec (es:=seen P f es) (GZ.trans<|by simp[bW,hr,G,Frame.at,fm,base,Τ,Ū,-Υ]);exact absurd (h.r hs) (aeF _ L f t _ w n ⟨fn,hfn⟩ λx hx=>let⟨fn',_,h1,_⟩:=hF x.1 (ls x hx).1;⟨fn',h1⟩)
          |stuck s=>exact(bad ⟨_,_,_,GZ.trans<|by simp[bW,hr,Frame.at,base,Τ,-Υ];exact⟨U,U,U⟩⟩).elim
          |unsupported un=>
           cases un<;>first|(cases hz;done)|exact(bad ⟨_,_,_,GZ.trans<|by simp[bW,hr,Frame.at,base,Τ,-Υ];exact⟨U,U,U⟩⟩).elim
          |_=>cases hz
         |ok nx u'=>
          rcases oo.I ⟨t,[]⟩ u nx u' oz with⟨v,rfl⟩|rfl|⟨g,args,rfl⟩
          .have:=bU (main:=Ë) (b:=base f) (k:=k) (cs:=fx L) (rest:=rest) ho hw (by simp[base]) oz;rw[sT]at this;exact go (.nW ho hw oz) ⟨_,this⟩
          .have:=c9 (main:=Ë) (b:=base f) (k:=k) (cs:=fx L) (rest:=rest) ho hw (by simp[base]) oz;rw[sT]at this;exact go (.As ho hw oz) ⟨_,this⟩
          .let⟨fn',c',h1,h2⟩:=hF g<|oo.C ⟨t,[]⟩ u g args u' oz;have:=bV (main:=Ë) (b:=base f) (k:=k) (cs:=fx L) (rest:=rest) ho hw (by simp[base]) oz;rw[da _ h1 h2]at this;exact go (.sQ ho hw oz h1 h2) ⟨_,this⟩
end
def kl(u:È):Prop:=∀(i:Nat) (o:Obj),u.heap[i]?=À o->¬yj o
def kl.qN(h:kl u):qN u:=λi _ _ a=>h i _ a trivial
def wP(a:Ã->È->Prop):Prop:=∀v u T D,a v u->a v ((World.tp u T D))
section
variable{GL:Nat->Prop}{ff:ã->Prop}{kZ:Ã->È->Prop}
def LS.O3{s s':St}(h:LS P s u s' W)(cs:List ģ):∃j,Ý P Ë (s.r cs) u=bB (s'.r cs) W j:=by
 cases h with
 |@tU f t k L _ c x y b hc=>exact⟨_,cZ hc⟩
 |wK e=>exact⟨_,by simp[St.r,fm,base,G,Ý,Î,Frame.at,e];rfl⟩
 |wL e=>exact⟨_,by simp[St.r,fm,base,G,Ý,Î,Frame.at,e];rfl⟩
 |@Ar f t k L _ id ops=>exact⟨_,Χ⟩
 |@Ea f t k L _ ops i rest ho=>exact⟨_,by simp[St.r,fm,base,G,Ý,Î,Frame.at,ho,bC];rfl⟩
 |@D9 f t k L _ ops i rest o ho hw=>
  have:=aD (P:=P) (main:=Ë) (b:=base f) (a:=⟨t,[]⟩) (k:=k) (cs:=L.map (λx=>fm x.1 x.2.1 x.2.2)++cs) (w:=u) (rest:=rest) ho hw;rw[sT]at this;exact⟨_,this⟩
 |@nW f t k L _ ops i rest o v _ ho hw hr=>
  have:=bU (main:=Ë) (b:=base f) (k:=k) (cs:=L.map (λx=>fm x.1 x.2.1 x.2.2)++cs) (rest:=rest) ho hw (by simp[base]) hr;rw[sT]at this;exact⟨_,this⟩
 |@As f t k L _ ops i rest o _ ho hw hr=>
  have:=c9 (main:=Ë) (b:=base f) (k:=k) (cs:=L.map (λx=>fm x.1 x.2.1 x.2.2)++cs) (rest:=rest) ho hw (by simp[base]) hr;rw[sT]at this;exact⟨_,this⟩
 |@sQ f t k L _ ops i rest o g args fn c _ ho hw hr hf hb=>
  have:=bV (main:=Ë) (b:=base f) (k:=k) (cs:=L.map (λx=>fm x.1 x.2.1 x.2.2)++cs) (rest:=rest) ho hw (by simp[base]) hr;rw[da _ hf hb]at this;exact⟨_,this⟩
 |@wM f t k L _ g t' ops i rest k' v fn _ hf hr=>
  cases l:(İ fn t).runT P u #[]with
  |mk r j=>
   have e:r=ı v W:=by rw[<-hr,<-Ÿ P (İ fn t) u #[],l]
   subst e;have d:=GV (main:=Ë) (k:=k) (c:=fm g t'<|å ops (i::rest)::k') (cs:=L.map (λx=>fm x.1 x.2.1 x.2.2)++cs) hf l;have x:=ai (base g) ⟨t',[]⟩ ops i rest k' v;rw[sT]at x;unfold fm at d;rw[x]at d;exact⟨_,d⟩
 |_=>exact⟨_,by simp[St.r,fm,base,G,Ý,Î,Frame.at];rfl⟩
def LS.vq{s a:St}(h:LS P s u a w):cw P (LM s u)=ń (LM a w):= let⟨_,b⟩:=h.O3 [oA];Ec b
def LS.O5(j:pA P GL ff){s g:St}(h:LS P s u g w)(ok:Ok P GL ff s):Ok P GL ff g:=by
 have i:∀o a u f e w,mP P GL ff o->(î (ê a) o).run P u=ı (Β f e) w->ff f:=by intro o a u f e w c d;exact c.C a u f e w d
 refine⟨h.ok j i ok.r,?_,?_⟩
 .cases h with
  |sQ c _ d _ _=>exact i _ _ _ _ _ _ (pB ok.r.gk _<|Ø c) d
  |wM=>exact(ok.C _<|ð ..).1
  |_=>exact ok.I
 .cases h with
  |sQ c _ d _ _=>
   intro x b;rcases ŧ.1 b with rfl|b
   .exact⟨ok.I,_,_,_,_,U⟩
   .exact ok.C x b
  |wM=>exact λx b=>ok.C x<|õ _ b
  |_=>exact ok.C
def LS.kd{s c:St}{u b:È}(h:LS P s u c b)(ok:lB P GL ff s)(a:qN u):Kd u b:=by
 cases h with
 |nW k _ i=>exact(((pB ok.gk _<|Ø k).r _).1 u a).1 _ _ i
 |As k _ i=>exact(((pB ok.gk _<|Ø k).r _).1 u a).1 _ _ i
 |sQ k _ i _ _=>exact(((pB ok.gk _<|Ø k).r _).1 u a).1 _ _ i
 |wM _ i=>exact(O4.1 u a).1 _ _ i
 |Ar=>exact⟨id,λi o h k=>⟨o,h,k⟩⟩
 |_=>exact Kd.fW u
def LS.aeI{s o:St}{u p:È}{T:aG}{D:Nat}(h:LS P s ((World.tp u T D)) o p)(ok:lB P GL ff s):∃n v,p=(World.tp v T<|D+n)/\∀a b,vk T D a b n->LS P s ((World.tp u a b)) o ((World.tp v a<|b+n)):=by
 cases h with
 |nW c g e=>
  obtain⟨n,v,i⟩:=((pB ok.gk _<|Ø c).r ⟨_,[]⟩).2 u T D;obtain⟨j,l⟩:=i _ _ e;exact⟨n,v,j,λa b d=> .nW c g (l a b d)⟩
 |As c g e=>
  obtain⟨n,v,i⟩:=((pB ok.gk _<|Ø c).r ⟨_,[]⟩).2 u T D;obtain⟨j,l⟩:=i _ _ e;exact⟨n,v,j,λa b d=> .As c g (l a b d)⟩
 |sQ c g e m q=>
  obtain⟨n,v,i⟩:=((pB ok.gk _<|Ø c).r ⟨_,[]⟩).2 u T D;obtain⟨j,l⟩:=i _ _ e;exact⟨n,v,j,λa b d=> .sQ c g (l a b d) m q⟩
 |wM m e=>
  obtain⟨n,v,i⟩:=(O4).2 u T D;obtain⟨j,l⟩:=i _ _ e;exact⟨n,v,j,λa b d=> .wM m (l a b d)⟩
 |@Ar f t k L _ id ops=>
  refine⟨1,u,U,λa b d=> ?_⟩;have e:=d.lO;have i:=LS.Ar (P:=P) (f:=f) (t:=t) (k:=k) (L:=L) (u:=(World.tp u a b)) (id:=id) (ops:=ops);have j:((World.tp u a b)).tape ((World.tp u a b)).drawn=((World.tp u T D)).tape ((World.tp u T D)).drawn:=e;rwa[j]at i
 |pv=>exact⟨0,u,U,λ_ _ _=> .pv⟩
 |vm=>exact⟨0,u,U,λ_ _ _=> .vm⟩
 |sP=>exact⟨0,u,U,λ_ _ _=> .sP⟩
 |wF=>exact⟨0,u,U,λ_ _ _=> .wF⟩
 |yk=>exact⟨0,u,U,λ_ _ _=> .yk⟩
 |vn=>exact⟨0,u,U,λ_ _ _=> .vn⟩
 |rH=>exact⟨0,u,U,λ_ _ _=> .rH⟩
 |tU h=>exact⟨0,u,U,λ_ _ _=> .tU h⟩
 |rI=>exact⟨0,u,U,λ_ _ _=> .rI⟩
 |wG=>exact⟨0,u,U,λ_ _ _=> .wG⟩
 |wH=>exact⟨0,u,U,λ_ _ _=> .wH⟩
 |wI=>exact⟨0,u,U,λ_ _ _=> .wI⟩
 |wK h=>exact⟨0,u,U,λ_ _ _=> .wK h⟩
 |wL h=>exact⟨0,u,U,λ_ _ _=> .wL h⟩
 |tV=>exact⟨0,u,U,λ_ _ _=> .tV⟩
 |GU=>exact⟨0,u,U,λ_ _ _=> .GU⟩
 |D9 c g=>exact⟨0,u,U,λ_ _ _=> .D9 c g⟩
 |Ea c=>exact⟨0,u,U,λ_ _ _=> .Ea c⟩
def mR.gX(c:pA P GL ff)(hF:tW P ff)(g:∀v u,vQ v u->kl u):∀(n:Nat) {s:St} {u:È},Ok P GL ff s->qN u->mR P vQ n (LM s u)->kl u:=by
 intro n
 induction n with
 |zero=>
  intro s u a b h;rcases h.I c hF a b with⟨_,_,_,_,v,_,_,d⟩|⟨m,_,_,e,_⟩
  .exact g v u d
  .cases e
 |succ n j=>
  intro s u a b h;rcases h.I c hF a b with⟨e,_⟩|⟨m,w,x,e,d,k⟩
  .cases e
  .cases e;have f:=d.kd a.r b;intro i o l p;let⟨q,r,t⟩:=f.C i o l p;exact j (d.O5 c a) (f.r b) k i q r t
def p8.aeJ(b:wP kZ){s:St}(h:p8 P kZ s u)(T:aG)(D:Nat):p8 P kZ s ((World.tp u T D)):=by
 cases h with
 |jN a c d=>exact .jN a c (b _ _ T D d)
 |jO S a h c d=>exact .jO S a h c d
def Wx(m:wP kZ)(o:∀v u,vQ v u->kZ v u){s:St}(c:s.C=Ë)(b:s.L=[])(e:∃g v,P.funcs[s.f]?=À g/\(İ g s.t).run P ((World.tp u xQ i))=ı v ((World.tp u xQ i))/\vQ v ((World.tp u xQ i))):p8 P kZ s u:=by
 obtain⟨f,t,k,z,L⟩:=s;simp only at c b;subst c b;obtain⟨g,v,p,q,r⟩:=e;refine .jN (v:=v) p (λh d=> ?_) ?_
 .obtain⟨n,w,c⟩:=(O4).2 u xQ i;obtain⟨b,e⟩:=c _ _ q;have x:n=0:=by
   have:((World.tp u xQ i)).drawn=((World.tp w xQ<|i+n)).drawn:=by rw[<-b]
   simp only[World.tp]at this;omega
  subst x;have y:(World.tp w h d)=(World.tp u h d):=by
   have a:((World.tp u xQ i)).heap=((World.tp w xQ<|i+0)).heap:=by rw[<-b]
   have j:((World.tp u xQ i)).os=((World.tp w xQ<|i+0)).os:=by rw[<-b]
   have l:((World.tp u xQ i)).output=((World.tp w xQ<|i+0)).output:=by rw[<-b]
   simp only[World.tp]at a j l|-;rw[a,j,l]
  have:=e h d (λa j=>by omega);rwa[show d+0=d from rfl,y]at this
 .have:=m v _ u.tape u.drawn<|o v _ r;exact this
structure Ky where
 s:St
 u:È
 D:Nat
 T:aG
 n:Nat
structure Kz(P:Ù)(GL:Nat->Prop)(ff:ã->Prop)(kZ:Ã->È->Prop)(s0:St)(u0:È)(x:Ky):Prop where
 ok:Ok P GL ff x.s
 aeK:qN x.u
 aeL:¬p8 P kZ x.s x.u
 oQ:∀T',(∀i,i<x.D->T' i=x.T i)->dO P x.n (LM s0<|(World.tp u0 T' 0))=ń (LM x.s<|(World.tp x.u T' x.D))
def Wy{m:cA}{s:St}{N:Nat}(a:dO P n m=ń (LM s u))(f:mR P vQ N m):∃k,N=n+k/\mR P vQ k (LM s u):=by
 by_cases g:n<=N
 .obtain⟨k,rfl⟩:=Ő g;refine⟨k,U,?_⟩;let⟨d,v,b,c,e⟩:=f;rw[ef,a]at c;exact⟨d,v,b,c,e⟩
 .obtain⟨k,rfl⟩:=Nat.exists_eq_add_of_lt<|Nat.lt_of_not_le g;let⟨d,v,b,c,e,_⟩:=f;rw[show N+k+1=N+(k+1) by omega,ef,c]at a;have h:cw P (Η d [oA] b)=ń (Η oA [] b):=step_leave_returned e;simp only[dO,h]at a;cases k with
  |zero=>
   simp only[dO,Stepped.next.injEq]at a;have:=(Ww a).2.1;simp[fx]at this
  |succ k=>
   have i:=Kx (P:=P) (fr:=oA) (cs:=[]) (w:=b) (es:=#[]) (by simp[G,Ý,Î,oA];exact⟨U,U⟩);simp only[dO,i]at a;cases a
def O6(g:pA P GL ff)(hF:tW P ff)(C:wP kZ)(G:∀v u,vQ v u->kl u)(H:∀v u,vQ v u->kZ v u){j:St}(I:∀T,∃n,mR P vQ n<|LM j<|(World.tp w T 0)){x:Ky}(J:Kz P GL ff kZ j w x): ∃y:Ky,Kz P GL ff kZ j w y/\y.n=x.n+1/\x.D<=y.D/\∀i,i<x.D->y.T i=x.T i:=by
 let⟨s,u,D,T,n⟩:=x;let⟨ok,pend,l,q⟩:=J;simp only at ok pend l q;have K:∃y d,∀a b,LS P s ((World.tp u y d)) a b->D5 u b->¬p8 P kZ a b:=by
  refine Classical.byContradiction λo=>l ?_;have c:∀y d,∃p:St×World,LS P s ((World.tp u y d)) p.1 p.2/\D5 u p.2/\p8 P kZ p.1 p.2:=by intro y d;refine Classical.byContradiction λe=>o ⟨y,d,λa b r t z=>e ⟨(a,b),r,t,z⟩⟩
  exact .jO (λy d=>(Classical.choose<|c y d).1) (λy d=>(Classical.choose<|c y d).2) (λy d=>(Classical.choose_spec<|c y d).1) (λy d=>(Classical.choose_spec<|c y d).2.1) λy d=>(Classical.choose_spec<|c y d).2.2
 let⟨y,d,L⟩:=K;let p:aG:=λi=>if i<D then T i else y (d+(i-D))
 have B:∀i,i<D->p i=T i:=λi h=>if_pos h;have M:=λi=>by show(if D+i<D then T (D+i)else y (d+(D+i-D)))=y (d+i);rw[if_neg Z,show D+i-D=i by omega]
 let⟨N,O⟩:=I p;let⟨k,_,V⟩:=Wy (q p B) O;have e:qN ((World.tp u p D)):=pend;rcases V.I g hF ok e with⟨_,r,t,z⟩|⟨m,a,b,_,f,W⟩
 .exact absurd (Wx C H r t z) l
 .obtain⟨c,v,rfl,E⟩:=f.aeI ok.r;have X:=mR.gX g hF G m (f.O5 g ok) ((f.kd ok.r e).r e) W;have Y:=E y d λi _=>(M i).symm;have hbv:¬p8 P kZ a v:=λhv=>L a _ Y (λi o _ F=>X i o F)<|hv.aeJ C y<|d+c;refine⟨⟨a,v,D+c,p,n+1⟩,⟨f.O5 g ok,(f.kd ok.r e).r e,hbv,λo F=> ?_⟩,U,ft,B⟩;have h0:=q o λi h=>(F i<|by simp only;omega).trans<|B i h;have hl3:=E o D λi h=>F (D+i) (by simp only;omega);rw[ef,h0];simp only[dO,hl3.vq]
def aeM(b:pA P GL ff)(hF:tW P ff)(d:wP kZ){Q:Ã->È->Prop}(l:∀v u,Q v u->kl u)(f:∀v u,Q v u->kZ v u){a:St}(ok:Ok P GL ff a)(r:qN w)(g:∀T,∃n,mR P Q n<|LM a<|(World.tp w T 0)):p8 P kZ a w:=by
 refine Classical.byContradiction λs=> ?_;have t:Kz P GL ff kZ a w ⟨a,w,0,λ_ _=>0,0⟩:=⟨ok,r,s,λK _=>rfl⟩;let F:Nat->{x:Ky//Kz P GL ff kZ a w x}:=λk=>Nat.rec ⟨_,t⟩ (λ_ x=>⟨Classical.choose<|O6 b hF d l f g x.2,(Classical.choose_spec<|O6 b hF d l f g x.2).1⟩) k
 have p:=λk=>(Classical.choose_spec<|O6 b hF d l f g (F k).2).2;have y:∀k,(F k).1.n=k:=by
  intro k
  induction k with
  |zero=>rfl
  |succ k c=>rw[(p k).1,c]
 have q:∀j k,(F j).1.D<=(F<|j+k).1.D/\∀i,i<(F j).1.D->(F<|j+k).1.T i=(F j).1.T i:=by
  intro j k
  induction k with
  |zero=>exact⟨á _,λ_ _=>rfl⟩
  |succ k c=>
   have:=(p<|j+k).2;exact⟨ö c.1 this.1,λi e=>(this.2 i<|Õ e c.1).trans<|c.2 i e⟩
 have z:∀j k i,i<(F j).1.D->i<(F k).1.D->(F j).1.T i=(F k).1.T i:=by
  intro j k i m o;rcases Nat.le_total j k with h|h
  .obtain⟨c,rfl⟩:=Ő h;exact((q j c).2 i m).symm
  .obtain⟨c,rfl⟩:=Ő h;exact(q k c).2 i o
 let T:aG:=λi=>open Classical in if h:∃k,i<(F k).1.D then(F<|Classical.choose h).1.T i else λ_=>0
 have B:∀k i,i<(F k).1.D->T i=(F k).1.T i:=by intro k i e;have c:∃k,i<(F k).1.D:=⟨k,e⟩;show(open Classical in if h:∃k,i<(F k).1.D then(F<|Classical.choose h).1.T i else λ_=>0)=_;rw[dif_pos c];exact z _ _ i (Classical.choose_spec c) e
 let⟨N,C⟩:=g T;have c:=(F N).2.oQ T<|B N;rw[y N]at c;let⟨k,e,o⟩:=Wy c C;have E:k=0:=Z
 subst E;have G:qN ((World.tp (F N).1.u T<|(F N).1.D)):=(F N).2.aeK;rcases o.I b hF (F N).2.ok G with⟨_,H,I,J⟩|⟨m,_,_,e,_⟩
 .exact(F N).2.aeL<|Wx d f H I J
 .cases e
end
section
variable{m:ã->Prop}
def O7(f:ã)(b:Func)(c:aQ)(a:Array Ã):St:=⟨f,a++ŋ (b.ntmps-a.size) ŏ,[ě c],Â,[]⟩
def Wz(a:Array Ã)(b:P.funcs[F]?=À s)(d:s.body=À wX):eg P F a .normal=(O7 F s wX a).I:=da a b d
def aeN(b:pA P X m)(hF:tW P m)(l:wP vQ)(g:m F)(j:P.funcs[F]?=À s)(k:s.body=À wX)(o:kl u) (p:∀T,Calls P F d ((World.tp u T 0)) fun|.returned v,u'=>vQ v u'/\kl u'|_,_=>False):p8 P vQ (O7 F s wX d) u:=by
 refine aeM b hF l (Q:=λv u=>vQ v u/\kl u) (λv u h=>h.2) (λv u h=>h.1) ⟨⟨λi q=> ?_,λx h=>by cases h⟩,g,λx h=>by cases h⟩ o.qN λT=> ?_
 .rw[Γ.1 q];exact .rJ (b F g s wX j k)
 .let⟨e,r,t,a,w,_,y⟩:=p T [oA];cases e with
  |returned v=>
   let⟨n,z⟩:=w;refine⟨n,t,v,r,?_,y,a⟩;rw[<-z,Wz d j k];rfl
  |panicked n=>exact a.elim
  |outgrown=>exact a.elim
def aeO(t:nV P)(b:pA P X m)(hF:tW P m)(y:wP vQ)(o:m F)(e:P.funcs[F]?=À s)(k:s.body=À wX)(z:kl u) (B:∀T,Calls P F d ((World.tp u T 0)) fun|.returned v,u'=>vQ v u'/\kl u'|_,_=>False) {ρ:fv} {a p:Nat->Prop} (C:ρ.C=P.globals.size) (D:∀g,X g->ρ g g) (r:fT ρ d q) (E:rK ρ a u w) (H:∀j,a j->j<w.heap.size) (I:∀i j,ρ i j->a j->p j) (main:Bool) (l:ģ) (n:List ģ): vo P main p (GX ρ a vQ l n) (fu ρ a) (G (eg P F q .normal)<|l::n) w:=by
 have h:=aeN b hF y o e k z B;have:=h.O3 (main:=main) t b (ρ:=ρ) (GY:=ρ) (s':=O7 F s wX q) (fv.M _) C D ⟨U,?_,U,U,.pv⟩ ⟨λi J=> ?_,λx K=>by cases K⟩ E H I l n
 .rw[Wz q e k];exact this
 .show fT ρ (d++_) (q++_);rw[r.r];exact r.Y<|Wr _
 .rw[Γ.1 J];exact .rJ (b F o s wX e k)
def yn:Ã->Bool
 |Ŏ _|ē _ _|Ĥ _|Ò í|ø í _ _|cB|bE|eO í|.map í=>Ë
 |_=>Â
def O8:Ã->Bool
 |.agg a=>a.all yn
 |η a=>a.all yn
 |v=>yn v
def G0(h:yn v=Ë):jU v:=by
 cases v with
 |bool b=>exact .my b
 |int k n=>exact .iK k n
 |string s=>exact .kS s
 |pointer p=>cases p with
  |none=>exact .lM
  |some a=>cases h
 |slice p n c=>cases p with
  |none=>exact .nS n c
  |some a=>cases h
 |nilFunc=>exact .vd
 |nilIface=>exact .ve
 |chan p=>cases p with
  |none=>exact .vf
  |some a=>cases h
 |map p=>cases p with
  |none=>exact .vg
  |some a=>cases h
 |_=>cases h
def aeP(h:O8 v=Ë):jU v:=by
 cases v with
 |agg b=>exact .oM λi a=>G0<|(ĵ.1 h) i a
 |tuple b=>exact .nT λi a=>G0<|(ĵ.1 h) i a
 |_=>exact G0 h
def wR(X:Nat->Bool):Ú->Bool
 |.tmp _=>Ë
 |eD v=>O8 v
 |eS g=>X g
 |bu _=>Ë
def KA{g:Nat->Bool}(h:wR g qQ=Ë):mB (λj=>g j=Ë) qQ:=by
 cases qQ with
 |tmp t=>exact .Wl t
 |const v=>exact .Wm (aeP h)
 |global j=>exact .Wn h
 |func f=>exact .Wo f
def O9(P:Ù)(t:Á):Bool:=match P.underlying t with
 |some .bool=>Ë
 |some (κ _)=>Ë
 |some ĥ=>Ë
 |_=>Â
def aeQ(h:O9 P t=Ë):tP P t:=by
 unfold O9 at h;split at h
 .rename_i e;exact Æ e
 .rename_i k e;exact Í<|Æ ⟨k,e⟩
 .rename_i e;exact Í<|Í e
 .cases h
def KB:Ú->Bool
 |eD (Ò í)=>Ë
 |_=>Â
def WA(h:KB qQ=Ë):nk (y.eval qQ):=by
 unfold KB at h;split at h
 .trivial
 .cases h
def Pa(P:Ù)(t:Á)(x y:Ú):Bool:=O9 P t||((match P.underlying t with|some (ó _)=>Ë|_=>Â)&&(KB x||KB y))
def aeR{a:bZ}{y:Ú}(h:Pa P t qQ y=Ë):tP P t\/((∃e,P.underlying t=À (ó e))/\(nk (a.eval qQ)\/nk (a.eval y))):=by
 unfold Pa at h;rcases ŀ.1 h with h|h
 .exact Æ<|aeQ h
 .let⟨b,c⟩:=Þ.1 h;refine Í ⟨?_,(ŀ.1 c).imp WA WA⟩;split at b
  .rename_i e d;exact⟨e,d⟩
  .cases b
def Pd(P:Ù)(s d:Á):Bool:=match P.underlying s,P.underlying d with
 |some (κ _),À (κ _)=>Ë
 |some ĥ,À ĥ=>Ë
 |_,_=>Â
def aeS(h:Pd P e t=Ë):(∃k a,P.underlying e=À (κ k)/\P.underlying t=À (κ a))\/(P.underlying e=À ĥ/\P.underlying t=À ĥ):=by
 unfold Pd at h;split at h
 .rename_i k a b c;exact Æ ⟨k,a,b,c⟩
 .rename_i b c;exact Í ⟨b,c⟩
 .cases h
def Pe(P:Ù)(s:Á)(n:Nat):Bool:=match P.underlying s with
 |some (dG fields)=>match fields[n]? with
  |some f=>match P.info? f.type with
   |some i=>i.size !=0
   |none=>Â
  |none=>Â
 |_=>Â
def aeT(h:Pe P e n=Ë):∀a f i,P.underlying e=À (dG a)->a[n]?=À f->P.info? f.type=À i->i.size≠0:=by intro a f i b c d;simp only[Pe,b,c,d]at h;simpa using h
def Pf(P:Ù)(m:ã->Bool)(f:ã):Bool:=m f&&(match P.funcs[f]? with
 |some a=> !(a.name== "runtime.NumGoroutine")&&!a.body.isNone
 |none=>Â)
def WB{g:ã->Bool}(h:Pf P g F=Ë):g F=Ë/\∃a,P.funcs[F]?=À a/\(a.name== "runtime.NumGoroutine")=Â/\a.body.isNone=Â:=by
 let⟨c,b⟩:=Þ.1 h;refine⟨c,?_⟩;split at b
 .rename_i a e;let⟨d,i⟩:=Þ.1 b;exact⟨a,e,by simpa using d,by simpa using i⟩
 .cases b
def WC(P:Ù):List Á->Bool
 |[_,t1]=>(match P.underlying t1 with|some (dH _)=>Ë|some ĥ=>Ë|_=>Â)
 |_=>Â
def WE(P:Ù)(m:ã->Bool)(b:Callee)(a:List Ú)(c:List Á):Bool:=match b with
 |ĩ .len=>a.length==1
 |ĩ .cap=>a.length==1
 |ĩ .copy=>a.length==2
 |ĩ .append=>a.length==2&&WC P c
 |cM (bu f)=>Pf P m f
 |_=>Â
def Ed(P:Ù)(m:ã->Bool):Op->Bool
 |.move _|.assign _|.pick _ _ _|.alloc _|.box _ _|.build _ _|dV _ _ _|.load _ _|.store _ _ _|eW _|.unOp _ _ _|eA _ _ _|.slice _ _ _ _ _|.field _ _ _|eC _ _ _|.index _ _ _|.extract _ _=>Ë
 |ez c t x y _=>if c==aX||c==bq then Pa P t x y else Ë
 |br s d _=>Pd P s d
 |eB s _ n=>Pe P s n
 |ah c=>WE P m c.callee c.args.toList c.argTypes.toList
 |_=>Â
def KC{a:Array Ú}(h:(a.toList.length==1)=Ë):∃x,a=#[x]:=by
 let⟨l⟩:=a;match l,h with
 |[x],_=>exact⟨x,U⟩
def Pg{a:Array Ú}(h:(a.toList.length==2)=Ë):∃x y,a=#[x,y]:=by
 let⟨l⟩:=a;match l,h with
 |[x,y],_=>exact⟨x,y,U⟩
def aeU{g:ã->Bool}{k:Op}(h:Ed P g k=Ë)(a:bZ):kj P a.eval k:=by
 cases k with
 |binOp o t x y r=>
  refine .D7 o t x y r λe=> ?_;have:(o==aX||o==bq)=Ë:=by rcases e with rfl|rfl<;>rfl
  simp only[Ed,if_pos this]at h;exact aeR h
 |convert s d x=>exact .OD _ _ _ (aeS h)
 |fieldAddr s x n=>exact .OH _ _ _ (aeT h)
 |call c=>
  let⟨z,B,j⟩:=c;simp only[Ed]at h;unfold WE at h;split at h
  .obtain⟨x,rfl⟩:=KC h;exact .GF x j
  .obtain⟨x,rfl⟩:=KC h;exact .GG x j
  .obtain⟨x,y,rfl⟩:=Pg h;exact .GH x y j
  .let⟨q,f⟩:=Þ.1 h;obtain⟨x,y,rfl⟩:=Pg q;let⟨l⟩:=j;match l,f with
   |[t0,t1],f=>
    refine .GI x y t0 t1 ?_;simp only[WC]at f;split at f
    .rename_i e m;exact Æ ⟨e,m⟩
    .rename_i m;exact Í m
    .cases f
  .exact .jM _ _ _ U (WB h).2
  .cases h
 |move x=>exact .Ao x
 |assign x=>exact .GB x
 |pick c a b=>exact .wD c a b
 |alloc t=>exact .gI t
 |box t x=>exact .Oz t x
 |build t p=>exact .OA t p
 |buildSlice t n p=>exact .OB t n p
 |load t a=>exact .gG t a
 |store t a x=>exact .jf t a x
 |nilCheck x=>exact .GD x
 |unOp o t x=>exact .OC o t x
 |makeSlice t l c=>exact .OG t l c
 |slice t x u v w=>exact .kT t x u v w
 |field t x n=>exact .OJ t x n
 |indexAddr t x i=>exact .OL t x i
 |index t x i=>exact .OM t x i
 |extract x n=>exact .Gr x n
 |_=>simp[Ed]at h
def Pj(P:Ù)(X:Nat->Bool)(m:ã->Bool)(o:aT):Bool:=Ed P m o.op&&o.op.operands.all (wR X)
def aeV{X:Nat->Prop}{m:ã->Prop}{o:aT}(op:∀a:bZ,kj P a.eval o.op)(opd:∀x∈o.op.operands,mB X x)(calls:∀f args ts,o.op=ah {callee:=cM<|bu f,args:=args,argTypes:=ts}->m f):mP P X m o where
 mQ hz hb hG ht hW hl x u' hr hc:=(Vl hz hW.C hb (λf=>rfl) (op _) λx hx=>wO hG ht<|opd x hx).gp hW hl hr hc #[];r a:=aew<|op a;I a u n u' hr:=aeG (op a) hr;C a u f c u' hr:=let⟨as,ts,e⟩:=aeB (op a) hr;calls f as ts e
def aeW{g:Nat->Bool}{k:ã->Bool}(h:Pj P g k o=Ë):mP P (λj=>g j=Ë) (λf=>k f=Ë) o:=by
 let⟨j,b⟩:=Þ.1 h;refine aeV (λa=>aeU j a) (λx a=>KA ?_) λf x i e=> ?_
 .obtain⟨i,x,rfl⟩:=ś.1 a;exact ĵ.1 b i x
 .rw[e]at j;exact(WB<|show Pf P k f=Ë from j).1
end
section
variable{ρ:fv}{g:ã->Prop}{α:Type}
def Ee(m:(Ú->Ã)->Ğ Ã)(e:∀b,î b o=m b>>=λv=>pure<|ñ v) (i:∀(ρ:fv) (b h:Ú->Ã),nV P->Bi ρ->ρ.C=P.globals.size->(∀x∈o.op.operands,fq ρ (b x)<|h x)->kx P fq ρ (m b) (m h)) (j:∀b,fG P<|m b) (k:∀x∈o.op.operands,mB X x):mP P X g o where
 mQ hz hb hG ht hW hl x u' hr hc:=by rw[e]at hr|-;exact(Vh<|i _ _ _ hz hW.C hb λx d=>wO hG ht<|k x d).gp hW hl hr hc #[]
 r a:=by rw[e];exact lP<|j _
 I a u n u' hr:=by
  rw[e,Å]at hr;cases d:(m a.eval).run P u with
  |ok v w=>rw[d]at hr;cases hr;exact Æ ⟨v,U⟩
  |halt z w=>rw[d]at hr;cases hr
 C a u f c u' hr:=by
  rw[e,Å]at hr;cases d:(m a.eval).run P u with
  |ok v w=>rw[d]at hr;cases hr
  |halt z w=>rw[d]at hr;cases hr
def aeX(a:o.op=dc t qQ)(b:∀y∈o.op.operands,mB X y):mP P X g o:=by
 refine Ee (λd=>Ų t<|d qQ) (λd=> ?_) (λρ d c _ _ _ h=> .gu ?_) (λd=> ?_) b
 .unfold î;rw[a]
 .have c:=h qQ (by rw[a];simp[Ì]);unfold Ų;apply fI (jg t);rintro f d _ e ⟨rfl,_⟩;split
  .exact .fS
  .exact .fH (.yc t (c.fQ e))
 .unfold Ų;repeat' (first|(with_reducible first|exact gC _|exact ji _|exact rG _|refine gq ?_ λ_=> ?_)|split)
def aeY(c:Sys):oO P (sys c):=by
 intro u hu;refine⟨λx u' e=> ?_,λz u' e=>by cases e⟩;have:u'.heap=u.heap:=by
  simp only[sys,ä]at e;cases e;unfold World.sys;have ask:∀{γ:Type} (b:Ask γ) (w:È),(w.ask b).2.heap=w.heap:=by
   intro γ b
   induction b with
   |done a=>intro w;rfl
   |ask what range k ih=>
    intro w;simp only[World.ask];split
    .exact ih 0 w
    .exact ih _ _
  have:=ask (Kernel.perform c u.os) u;split
  .rfl
  .rename_i r os w kI heq;rwa[heq]at this
 exact⟨λh i c e he=>h i c e (by rwa[<-this]),λi o he ho=>⟨o,by rwa[this],ho⟩⟩
def WG(x:Ã):∀u y b,(Ω x).run P u≠ı y b:=by
 unfold Ω;cases x<;>simp only[]<;>first|exact Ox|skip
 refine yi λa=> ?_;split
 .exact Oy
 .exact rE _
def aeZ(x:Ã):fG P (Ω x):=by
 refine⟨?_,OO<|WG x⟩;unfold Ω;cases x<;>simp only[]<;>first|exact GM U|skip
 refine Kh ?_ λa=> ?_
 .unfold Instr.panicnil;refine Kh (aeY _) λr=> ?_;cases r<;>first|exact GM U|skip
  exact Kh Vo λ_=>Vm _
 .split
  .exact GM U
  .exact(wE _).1
def ae0(b:o.op=.panic qQ)(c:∀y∈o.op.operands,mB X y):mP P X g o:=by refine Ee (λa=>Ω<|a qQ) (λa=> ?_) (λρ a d _ _ _ h=> .gu (.oN (WG _))) (λa=>aeZ _) c;unfold î;rw[b]
def ae1(c:fq ρ x v)(d:fq ρ z jQ):fJ P fq ρ (Ŀ x z) (Ŀ v jQ):=by
 cases c<;>cases d<;>first|exact .fS|exact .fH (.iK _ _)|skip
 refine fI (V:=fq) (.fH (.my _)) λf a g _ e=> ?_;apply fI (U4 e);rintro h b _ _ rfl;exact .fH (.kS _)
def ae2(x y:Ã):fG P (Ŀ x y):=by unfold Ŀ;repeat' (first|(with_reducible first|exact gC _|exact ji _|exact sR _|exact Kn _|exact O2 _ _ _|refine gq ?_ (λ_=> ?_)|refine nn _ ?_)|split|rfl)
def ae3:∀{l b:List Ã} {ρ:fv} {x c:Ã},fq ρ x c->fT ρ l.toArray b.toArray->fJ P fq ρ (l.foldlM Ŀ x) (b.foldlM Ŀ c):=by
 intro l
 induction l with
 |nil=>
  intro b ρ x c d a;have:b=[]:=by have:=a.r;simp at this;exact č this.symm
  subst this;rw[aj,aj];exact .fH d
 |cons v l e=>
  intro b ρ x c d a;match b,a with
  |[],a=>have:=a.r;simp at this
  |v'::b,a=>
   rw[ξ,ξ];have f:fq ρ v v':=by have:=a.C 0 ft ft;simpa using this
   apply fI (ae1 d f);intro m y n g h;refine e h ⟨by have:=a.r;simpa using this,λj i k=> ?_⟩;have:=a.C (j+1) (by simp at i|-;omega) (by simp at k|-;omega);exact(by simpa using this:fq ρ _ _).fQ g
def WH:∀(l:List Ã) (x:Ã),fG P<|l.foldlM Ŀ x
 |[],x=>by rw[aj];exact gC _
 |v::l,x=>by rw[ξ];exact gq (ae2 _ _) λy=>WH l y
def ae4(a:Array Á)(t:Á)(h:fT ρ d q):fJ P fq ρ (Ř a t d) (Ř a t q):=by
 let⟨l⟩:=d;let⟨b⟩:=q;unfold Ř;match l,b,h with
 |[],_,_=>exact .fS
 |v::l,[],h=>have:=h.r;simp at this
 |v::l,v'::b,h=>
  have e:fq ρ v v':=by have:=h.C 0 ft ft;simpa using this
  refine ae3 e ⟨by have:=h.r;simpa using this,λj f g=> ?_⟩;have:=h.C (j+1) (by simp at f|-;omega) (by simp at g|-;omega);exact(by simpa using this:fq ρ _ _)
def ae5(a:Array Á)(t:Á)(c:Array Ã):fG P (Ř a t c):=by
 let⟨l⟩:=c;unfold Ř;match l with
 |[]=>exact ji _
 |v::l=>exact WH l v
def ae6{b:Array Ú}{c:Array Á}(d:o.op=ah {callee:=ĩ .min,args:=b,argTypes:=c})(e:∀y∈o.op.operands,mB X y):mP P X g o:=by refine Ee (λa=>Ř c o.type<|b.map a) (λa=> ?_) (λρ a i _ _ _ h=> .gu (ae4 _ _<|Vj b λz f=>h z<|by rw[d];simp[Ì,ü,f])) (λa=>ae5 _ _ _) e;unfold î;rw[d];simp only[Ă,Ę,ĝ,pure_bind]
def ae7{β:Type}{f g:Ã->β->Ğ (ForInStep β)}(k:∀a v e b,ρ.r a->fq a v e->fJ P jw a (f v b) (g e b)):∀{l d:List Ã} {a:fv} (b:β),ρ.r a->fT a l.toArray d.toArray->fJ P jw a (forIn l b f) (forIn d b g):=by
 intro l
 induction l with
 |nil=>
  intro d a b _ c;have:d=[]:=by have:=c.r;simp at this;exact č this.symm
  subst this;rw[aE,aE];exact .fH U
 |cons v l m=>
  intro d a b h c;match d,c with
  |[],c=>have:=c.r;simp at this
  |e::d,c=>
   rw[ak,ak];have n:fq a v e:=by have:=c.C 0 ft ft;simpa using this
   apply fI (k a v e b h n);rintro q r _ i rfl;cases r with
   |done b=>exact .fH U
   |yield b=>
    apply m b (fv.I h i);refine⟨by have:=c.r;simpa using this,λj o p=> ?_⟩;have:=c.C (j+1) (by simp at o|-;omega) (by simp at p|-;omega);exact(by simpa using this:fq a _ _).fQ i
def WI{β:Type}{f:Ã->β->Ğ (ForInStep β)}(a:∀v b,fG P<|f v b):∀(l:List Ã) (b:β),fG P<|forIn l b f
 |[],b=>by rw[aE];exact gC _
 |v::l,b=>by
  rw[ak];refine gq (a v b) λr=> ?_;cases r with
  |done b=>exact gC _
  |yield b=>exact WI a l b
def ae8(d:fq ρ x v):fJ P fq ρ (Ĉ x) (Ĉ v):=by
 cases d<;>first|exact .fS|exact .fH (.kS _)|skip
 rename_i h n c;unfold Ĉ;apply fI (Oo h n);intro e j l m f;simp only[<-bg];refine fI (ae7 (ρ:=e) ?_ _ (fv.M _) f) ?_
 .intro g a o b _ i;cases i<;>first|exact .fS|skip
  rename_i k n;cases k<;>first|exact .fS|exact .fH U
 .rintro g s _ _ rfl;exact .fH (.kS _)
def ae9(x:Ã):fG P (Ĉ x):=by
 unfold Ĉ;split
 .exact gC _
 .refine gq (OV _ _) λa=> ?_;simp only[<-bg];refine gq (WI (λv b=> ?_) _ _) λ_=>gC _;split
  .exact gC _
  .exact ji _
 .exact ji _
def afa(j:o.op=br t T qQ)(k:P.underlying t=À (dH e))(l:P.underlying T=À ĥ)(m:P.underlying e=À (κ .u8))(p:∀y∈o.op.operands,mB X y):mP P X g o:=by
 refine Ee (λa=>Ŧ t T<|a qQ) (λa=> ?_) (λρ a i _ _ _ h=> .gu ?_) (λa=> ?_) p
 .unfold î;rw[j]
 .have q:=h qQ (by rw[j];simp[Ì]);unfold Ŧ;refine fI (jg t) ?_;rintro C D _ r ⟨rfl,b⟩;rw[k]at b;injection b with b;subst b;refine fI (jg T) ?_;rintro u E _ w ⟨rfl,c⟩;rw[l]at c;injection c with c;subst c;have n:=(q.fQ r).fQ w;have z:fJ P fq u (ù e>>=λy=>match y with|κ .u8=>Ĉ (a qQ)|κ .i32=>bh (a qQ)|_=>stuck "Convert: a slice of what to string?") (ù e>>=λy=>match y with|κ .u8=>Ĉ (i qQ)|κ .i32=>bh (i qQ)|_=>stuck "Convert: a slice of what to string?"):=by
   apply fI (jg e);rintro F G _ B ⟨rfl,f⟩;rw[m]at f;injection f with f;subst f;exact ae8<|n.fQ B
  generalize a qQ=v at*;generalize i qQ=v' at*;cases n<;>first|exact z|exact .fS|exact .fH (.kS _)|skip
 .unfold Ŧ;refine sS k<|sS l ?_;generalize a qQ=v;cases v<;>first|exact sS m (ae9 _)|exact Wi _|exact gC _
end
section
variable{ρ:fv}{b:ã->Prop}{α:Type}
def WJ(i:∀(ρ:fv) (a g:bZ),nV P->Bi ρ->ρ.C=P.globals.size->(∀x∈o.op.operands,fq ρ (a.eval x)<|g.eval x)->kx P pw ρ (î a.eval o) (î g.eval o)) (j:∀a:bZ,fG P<|î a.eval o) (h:∀(a:bZ) (u:È) (n:ae) (d:È),(î a.eval o).run P u=ı n d->∃v,n=ñ v) (k:∀x∈o.op.operands,mB X x):mP P X b o where
 mQ hz hb hG ht hW hl x d hr hc:=(i _ ⟨_,[]⟩ ⟨_,[]⟩ hz hW.C hb λx e=>wO hG ht<|k x e).gp hW hl hr hc #[];r a:=j a;I a u n d hr:=Æ<|h a u n d hr;C a u f c d hr:=by let⟨v,e⟩:=h a u _ d hr;cases e
def afb{e:Array Ã->Ğ Ã}{t:Array Á}(g:o.op=ah {callee:=cM<|bu F,args:=#[qQ],argTypes:=t})(i:P.funcs[F]?=À s)(j:(s.name== "runtime.NumGoroutine")=Â)(k:s.body.isNone=Ë)(l:Extern.findNext s=í)(m:Extern.find s=À e) (B:∀(ρ:fv) (v q:Ã),fq ρ v q->fJ P fq ρ (e #[v]) (e #[q])) (C:∀v,fG P<|e #[v]) (D:∀y∈o.op.operands,mB X y):mP P X b o:=by
 have c:∀a:bZ,î a.eval o=Ń F #[a.eval qQ]:=by intro a;unfold î;rw[g];simp only[Ă,ê,Ľ,Ę,pure_bind,ę,Ě,Û,æ,é]
 have r:∀(v:Ã) (u:È),(Ń F #[v]).run P u=(ey (.extern F)>>=λ_=>e #[v]>>=λy=>pure (ñ y):Ğ ae).run P u:=by intro v u;unfold Ń;rw[Å,ÿ];simp only[Ê,i,j,k,l,m,Ç,if_false,if_true]
 refine WJ (λρ a w _ _ _ h=> ?_) (λa=> ?_) (λa u n E d=> ?_) D
 .rw[c,c];have w:=h qQ (by rw[g];simp[Ì,ü]);unfold Ń;refine .gu (fI rC ?_);rintro J p K z ⟨G,H⟩;rw[G,H];simp only[i,j,k,l,m,Ç,if_false,if_true];apply fI (V:=jw) (.DZ (Í ⟨F,U⟩) (.fH U));intro L _ _ I _;exact mO<|B _ _ _<|(w.fQ z).fQ I
 .rw[c];exact Kj (r _)<|gq (GN _) λ_=>lP<|C _
 .rw[c,r,Å]at d;simp only[ey,ä,Ê]at d;have:ä P (e #[a.eval qQ]>>=λy=>pure (ñ y):Ğ ae) u=ı n E:=d;rw[Å]at this;cases h:(e #[a.eval qQ]).run P u with
  |ok v w=>rw[h]at this;cases this;exact⟨v,U⟩
  |halt z w=>rw[h]at this;cases this
def afc(x a:Ã)(h:fq ρ x a):fJ P fq ρ (ő #[x]) (ő #[a]):=.fH h
def afd(x:Ã):fG P (ő #[x]):=gC _
def WK:∀(n t:Nat) {c a:Array Ã},fT ρ c a->fT ρ (Ś n t c) (Ś n t a)
 |0,_,_,_,h=>h
 |n+1,t,_,_,h=>WK n (t/256)<|h.UT<|.iK _ _
def afe(b:Array Á)(t:Á)(v c:Ã)(h:fq ρ v c):fJ P fq ρ (Ē b #[t] #[v]) (Ē b #[t] #[c]):=by
 cases h<;>first|exact .fS|skip
 rename_i k n;cases k<;>first|exact .fS|skip
 refine fI (jg t) ?_;rintro j d _ l ⟨rfl,_⟩;cases d<;>first|exact .fS|skip
 rename_i e _;simp only[];split
 .exact .oN (vi<|rE _)
 .apply sN (.Ai λn=> .fH U);intro m f _;apply sN (Ow _);intro o _ _;apply sN (.Ai λn=> .fH U);intro p g _;apply fI (Gv e<|WK f g<|fT.N _);intro q a r _ i;exact .fH (.kT i _ _)
def aff(a:Array Á)(t:Á)(v:Ã):fG P (Ē a #[t] #[v]):=by
 cases v<;>first|exact ji _|skip
 rename_i k n;cases k<;>first|exact ji _|skip
 refine gq (rG t) λd=> ?_;cases d<;>first|exact ji _|skip
 repeat' (first|(with_reducible first|exact gC _|exact ji _|exact sR _|exact GQ _ _|exact rG _|exact wE _|exact OW _|refine gq ?_ λ_=> ?_)|split)
def G1(t:Á)(a:Ü)(c:Nat):Ğ Ã:=
 if c≠0 then pure (Ò<|À a)else do
  if(<-cJ a.block).isSome then pure (Ò<|À a)
  else pure (Ò<|À ⟨<-eE (.view a<|<-Ş t),0,í⟩)
def afg(g:Array Á)(t:Á)(j:fq ρ x v):kx P fq ρ (Ģ g t #[x]) (Ģ g t #[v]):=by
 cases j<;>first|exact .gu .fS|exact .gu (.fH .lM)|skip
 rename_i a f h n c;show kx P fq ρ (G1 t a c) (G1 t f c);unfold G1;by_cases i:c≠0
 .simp only[if_pos i];exact .gu (.fH (.jZ h))
 .simp only[if_neg i];apply kY (Ka h.1);rintro l b m o ⟨rfl,rfl⟩;simp only[Option.isSome_none,Ç,if_false];refine kY (V0:=λ_ a f=>a=f) ?_ ?_
  .unfold Ş;refine fI (jg t) ?_;rintro k d _ p ⟨rfl,_⟩;cases d<;>first|exact .fS|exact .fH U
  .rintro k e _ _ rfl;exact .D3 trivial
def afh(b:Array Á)(t:Á)(x:Ã):fG P (Ģ b t #[x]):=by
 cases x<;>first|exact ji _|skip
 rename_i p n c;cases p with
 |none=>exact gC _
 |some a=>
  show fG P (G1 t a c);unfold G1;repeat' (first|(with_reducible first|exact gC _|exact ji _|exact Kk _|exact Ko _|refine gq ?_ (λ_=> ?_)|refine Ki _ ?_)|split|(intro _ _ h;cases h;done))
def afi{c:Array Á}(d:o.op=ah {callee:=ĩ bM,args:=#[qQ],argTypes:=c})(e:∀y∈o.op.operands,mB X y):mP P X b o:=by refine Ee (λa=>Ģ c o.type #[a qQ]) (λa=> ?_) (λρ a f _ _ _ h=>afg _ _<|h qQ<|by rw[d];simp[Ì,ü]) (λa=>afh _ _ _) e;unfold î;rw[d];simp only[Ă,Ę,ĝ,pure_bind,Û,æ,é]
end
section
variable{ρ:fv}{f:Nat->Prop}{g:ã->Prop}{α:Type}
def WL(h:hD ρ a p):fJ P hD ρ (ε a) (ε p):=by unfold ε;apply fI (Ka h.1);rintro c x d b ⟨rfl,rfl⟩;exact .fH (h.r b)
def afj{r:Nat}(h:ρ r i):fJ P (λ_ c q=>∃n a,c=À n/\q=À a/\n<=a) ρ (dP r) (dP i):=.vh h λ_ n a c=> .fH ⟨n,a,U,U,c.elim (λq=>by omega) λq=>q.1⟩
def WM(h:hD ρ a p)(t:Á)(n:Nat):fJ P (λ_ b e=>b=Ë->e=Ë) ρ (Ą a t n) (Ą p t n):=by unfold Ą;apply fI rC;rintro i b j c ⟨d,f⟩;rw[d,f];refine .vh (c.1 _ _ h.1) λe m k g=> ?_;rw[h.2.1];exact .fH λq=>Vb (az<|g.elim (λq=>by omega) λq=>q.1) q
def afk(a:Ü):fG P (ε a):=by unfold ε;repeat' (first|(with_reducible first|exact gC _|exact qO|exact tR _|exact Ko _|refine gq ?_ (λ_=> ?_)|refine nn _ ?_)|split|rfl)
def afl(r:Nat):fG P (dP r):=by unfold dP;repeat' (first|(with_reducible first|exact gC _|exact tR _|exact Vv _|refine gq ?_ λ_=> ?_)|split)
def WN(a:Ü)(t:Á)(n:Nat):fG P (Ą a t n):=by unfold Ą;repeat' (first|(with_reducible first|exact gC _|exact qO|exact tR _|refine gq ?_ λ_=> ?_)|split)
def afm(l:P.underlying e=À (ó t))(m:P.underlying T=À Ĝ)(o:fq ρ x v):kx P fq ρ (ý e T x) (ý e T v):=by
 unfold ý;refine kY (jg e) ?_;rintro G H _ p ⟨rfl,f⟩;rw[l]at f;injection f with f;subst f;refine kY (jg T) ?_;rintro I J _ r ⟨rfl,g⟩;rw[m]at g;injection g with g;subst g;have u:=(o.fQ p).fQ r;cases u<;>first|exact .gu .fS|exact .gu (.fH .lM)|skip
 rename_i a K h;refine kY (WL h) ?_;intro L b j M i;refine kY (afj i.1) ?_;rintro N c O w ⟨z,Q,rfl,rfl,V⟩;refine kY (nj t) ?_;rintro B n _ C ⟨rfl,_⟩;have D:=i.2.1;have E:=i.2.2;rw[D,E];have F:kx P fq B (pure<|Ò<|À b) (pure<|Ò<|À j):=.gu (.fH (.jZ ((i.r w).r C)));simp only[];by_cases k:(decide (n=0)||(decide (j.off≥z)&&j.spot.isNone))=Ë
 .rw[if_pos k];exact .D3 trivial
 .rw[if_neg k,if_neg]
  .exact F
  .intro q;apply k;simp only[ů,ĕ,decide_eq_true_eq]at q|-;exact q.imp id λy=>⟨Z,y.2⟩
def afn{d:Á}(o:P.underlying T=À Ĝ)(q:P.underlying d=À (ó t))(r:fq ρ x z):kx P fq ρ (ý T d x) (ý T d z):=by
 unfold ý;refine kY (jg T) ?_;rintro I J _ w ⟨rfl,f⟩;rw[o]at f;injection f with f;subst f;refine kY (jg d) ?_;rintro K L _ y ⟨rfl,g⟩;rw[q]at g;injection g with g;subst g;have B:=(r.fQ w).fQ y;cases B<;>first|exact .gu .fS|exact .gu (.fH .lM)|skip
 rename_i a M h;refine kY (WL h) ?_;intro N b C O j;refine kY (nj t) ?_;rintro Q n _ k ⟨rfl,_⟩;refine kY (WM (j.r k) t 1) ?_;rintro D v V E F;have G:=(j.r k).r E;have H:kx P fq D (pure<|Ò<|À b) (pure<|Ò<|À C):=.gu (.fH (.jZ G));by_cases i:(decide (n=0)||v)=Ë
 .rw[if_pos i,if_pos]
  .exact H
  .simp only[ů,decide_eq_true_eq]at i|-;exact i.imp id F
 .rw[if_neg i];refine .D4 λu x W c=> ?_;rw[Å]at c;simp only[cP,ä,Ê]at c;cases l:u.shape? b.block with
  |none=>rw[l]at c;cases c
  |some p=>
   let⟨e,m⟩:=p;rw[l]at c;simp only[Å,ÿ,Ê]at c;split at c
   .cases c
   .cases c;exact⟨u.heap.size,.view b t,á _,ft,trivial⟩
def afo(h:(P.underlying e=À (ó t)/\P.underlying T=À Ĝ)\/(P.underlying e=À Ĝ/\P.underlying T=À (ó t)))(x:Ã):fG P (ý e T x):=by
 unfold ý;rcases h with⟨b,c⟩|⟨b,c⟩<;>refine sS b<|sS c ?_;all_goals
  cases x<;>first|exact ji _|skip
  rename_i p;cases p with
  |none=>exact gC _
  |some a=>
   repeat' (first|(with_reducible first|exact afk _|exact afl _|exact WN _ _ _|exact gC _|exact ji _|exact qO|exact tR _|exact tT _|refine gq ?_ (λ_=> ?_)|refine nn _ ?_|refine Ki _ ?_)|split|(intro _ _ h;cases h;done)|rfl)
def WO(l:o.op=br e T qQ)(h:(P.underlying e=À (ó t)/\P.underlying T=À Ĝ)\/(P.underlying e=À Ĝ/\P.underlying T=À (ó t)))(m:∀y∈o.op.operands,mB X y):mP P X g o:=by
 refine Ee (λi=>Ŧ e T<|i qQ) (λi=> ?_) (λρ i n _ _ _ p=> ?_) (λi=> ?_) m
 .unfold î;rw[l]
 .have q:=p qQ (by rw[l];simp[Ì]);unfold Ŧ;refine kY (jg e) ?_;rintro w z _ r ⟨rfl,a⟩;refine kY (jg T) ?_;rintro B C _ u ⟨rfl,b⟩;have j:=(q.fQ r).fQ u;generalize i qQ=v at j;generalize n qQ=v' at j;rcases h with⟨c,f⟩|⟨c,f⟩
  .rw[c]at a;injection a with a;subst a;rw[f]at b;injection b with b;subst b;have k:=afm c f j;cases j<;>first|exact k|exact .base .halt
  .rw[c]at a;injection a with a;subst a;rw[f]at b;injection b with b;subst b;have k:=afn c f j;cases j<;>first|exact k|exact .base .halt
 .unfold Ŧ;have k:=λv=>afo h v;rcases h with⟨c,f⟩|⟨c,f⟩;all_goals
   refine sS c<|sS f ?_;generalize i qQ=v;cases v<;>exact k _
def afp(a:Ü)(n:Nat):oO P (de a n):=by
 intro u f;refine⟨λx b e=> ?_,λz b e=>by cases e⟩;cases e;unfold ġ;split
 .exact Kd.fW u
 .refine Vp (λo d=> ?_) λo c e h=> ?_
  .cases o<;>first|exact d.elim|trivial
  .cases o<;>first|(cases h;done)|exact⟨_,_,U⟩
def afq(a:Ü)(n:Nat):fG P (de a n):=by
 refine⟨afp a n,λu T D=>⟨0,u.freeze a n,λx c e=> ?_⟩⟩;have b:∀T D,(World.tp u T D).freeze a n=World.tp (u.freeze a n) T D:=by intro T D;unfold ġ;split<;>rfl
 simp only[de,ä,b]at e;cases e;exact⟨U,λd f _=>by simp only[de,ä,b];rfl⟩
def WQ:∀(n:Nat) {ρ:fv} {a c:Ü} (d:ByteArray),hD ρ a c->fJ P jw ρ (Ė a d n) (Ė c d n)
 |0,_,_,_,_,_=> .fH U
 |n+1,ρ,a,c,d,h=>by
  unfold Ė;refine fI (J6 h) ?_;intro g v i e f;cases f<;>first|exact .fS|skip
  rename_i k b;cases k<;>first|exact .fS|exact WQ n _<|(h.r e).C 1
def WR:∀(n:Nat) (a:Ü) (b:ByteArray),fG P<|Ė a b n
 |0,_,_=>gC _
 |n+1,a,b=>by
  unfold Ė;refine gq (GO _ _) λv=> ?_;split
  .exact WR n _ _
  .exact ji _
def jI(b:Á)(a:Ü)(n:Nat):Ğ ByteArray:=do
 if<-Ą a (<-Ş b) n then Ė a .empty n else unsupported (Ŕ "String: not so many bytes at ptr")
def afr(c:Á)(h:hD ρ a p)(n:Nat):fJ P jw ρ (jI c a n) (jI c p n):=by
 unfold jI;refine fI (V:=jw) ?_ ?_
 .unfold Ş;refine fI (jg c) ?_;rintro g d _ f ⟨rfl,_⟩;cases d<;>first|exact .fS|exact .fH U
 .rintro j e _ d rfl;apply fI (WM (h.r d) e n);rintro g b k f i;cases b with
  |true=>rw[i U];exact WQ n _<|(h.r d).r f
  |false=>exact .fS
def afs[Ag P](G:jo ρ f u w)(h:hD ρ a p)(H:∀u l j,(Ş t).run P u=ı l j->∃k,P.underlying l=À (κ k))(g:(jI t a<|n+1).run P u=ı B W):¬f p.block:=by
 intro I;let⟨c,N,e,O,Q,r,T,V,y,_⟩:=G.r _ _ h.1;let⟨_,_,_,_,o⟩:=y I;unfold jI at g;rw[Å]at g;cases i:(Ş t).run P u with
 |halt z x=>rw[i]at g;cases g
 |ok l j=>
  have J:j=u:=by
   unfold Ş at i;rw[Å]at i;unfold ù at i;rw[Å,ÿ]at i;simp only[Ê]at i;cases E:P.underlying t with
   |none=>rw[E]at i;cases i
   |some d=>
    rw[E]at i;cases d<;>cases i<;>rfl
  subst J;rw[i]at g;simp only[Ê]at g;rw[Å]at g;have C:∃b,(Ą a l<|n+1).run P j=ı b j:=by unfold Ą;rw[Å,ÿ];simp only[Ê];rw[Å];simp only[cP,ä,Ê];split<;>exact⟨_,U⟩
  rcases o with o|o;rotate_left
  .let⟨k,K⟩:=H _ _ _ i;have L:(Ą a l<|n+1).run P j=ı Â j:=by
    unfold Ą;rw[Å,ÿ];simp only[Ê];rw[Å];simp only[cP,ä,Ê];have y:j.shape? a.block=À (e,c.size):=by simp[ς,r]
    rw[y];simp only[Nat.div_eq_of_lt<|Ag.lt e c.size o,adn K];rfl
   rw[L]at g;cases g
  let⟨b,C⟩:=C;rw[C]at g;simp only[Ê]at g;split at g
  .unfold Ė at g;rw[Å]at g;simp only[bF,ä]at g;cases D:j.cell? a with
   |none=>
    rw[D]at g;simp only[ş,r]at g;cases g
   |some v=>
    rw[D]at g;simp only[Ê]at g;have q:=D;rw[Ak r]at q;cases F:a.spot with
    |some x=>rw[F]at q;cases q
    |none=>
     rw[F]at q;have M:c[a.off]?=À v:=by simpa using q
     have:=o _ _ M;cases v<;>first|(cases g;done)|skip
     rename_i k m;cases k<;>first|(cases g;done)|cases this
  .cases g
end
section
variable{ρ:fv}{d:Nat->Prop}{f:ã->Prop}{α:Type}
def vr(b:Á)(p:Option Ü)(n:Int):Ğ Ã:=do
 if n<0 then runtimePanic (θ "unsafe.String: len out of range")
 if n>â.max then unsupported (Ŕ "String: a length above the largest int")
 match p with
 |none=>
  if n=0 then pure (Ĥ .empty)
  else runtimePanic (θ "unsafe.String: ptr is nil and len is not zero")
 |some a=>
  if n=0 then pure (Ĥ .empty)
  else if<-Ą a (<-Ş b) n.toNat then do
   let s<-Ė a .empty n.toNat
   de a n.toNat
   pure<|Ĥ s
  else unsupported (Ŕ "String: not so many bytes at ptr")
def yo(a b t:Á)(p:Option Ü)(k:Ć)(n:Int):ò #[a,b] t #[Ò p,ē k n]=vr a p n:=by cases p<;>rfl
def WS(c:Á)(a:Ü)(d:¬h<0)(e:¬h>â.max)(f:¬h=0): vr c (À a) h=(jI c a h.toNat>>=λs=>de a h.toNat>>=λ_=>pure<|Ĥ s):=by unfold vr;simp only[if_neg d,if_neg e,if_neg f];unfold jI;show _=è (è _ _) _;rw[Ű];congr 1;funext et;show è _ _=è (è _ _) _;rw[Ű];congr 1;funext b;cases b<;>rfl
def afu(a:Á)(p:Option Ü)(n:Int):fG P (vr a p n):=by unfold vr;repeat' (first|(with_reducible first|exact WN _ _ _|exact WR _ _ _|exact afq _ _|exact gC _|exact Kk _|exact wE _|refine gq ?_ (λ_=> ?_)|refine nn _ ?_)|split|rfl)
def afv(_hW:jo ρ d u w):∀(n:Nat) {a i:Ü} {j s:ByteArray},hD ρ a i->a.spot=í->(Ė a j n).run P u=ı s W->∀c e f,u.heap[a.block]?=À (ė c e f)->a.off<=c.size->a.off+n<=c.size:=by
 intro n
 induction n with
 |zero=>intro a i j s _ _ _ c e f _ r;exact r
 |succ n t=>
  intro a i j s h l b c e f o _;unfold Ė at b;rw[Å]at b;simp only[bF,ä]at b;cases p:u.cell? a with
  |none=>
   rw[p]at b;simp only[ş,o]at b;cases b
  |some v=>
   rw[p]at b;simp only[Ê]at b;have q:=p;rw[Ak o,l]at q;have y:=(Ä.1<|by simpa using q).1;cases v<;>first|(cases b;done)|skip
   rename_i k m;cases k<;>first|(cases b;done)|skip
   have g:a.add 1={a with off:=a.off+1}:=by unfold Addr.add;rw[if_neg A];simp[l]
   have x:=h.C 1;have:=t x (by rwa[g]) b c e f (by rwa[g]) (by rw[g];simp only;omega);rw[g]at this;simp only at this;omega
end
section
variable{ρ:fv}{g:Nat->Prop}{q:ã->Prop}{α:Type}
def Pk(a b t:Á)(p:Option Ü)(y:Ã):ò #[a,b] t #[Ò p,y]=(dU y>>=λn=>vr a p n):=by cases p<;>rfl
def WT:∀(n:Nat) {a:Ü} {f s:ByteArray} {u c:È},(Ė a f n).run P u=ı s c->c=u
 |0,_,_,_,_,_,h=>by cases h;rfl
 |n+1,a,f,s,u,c,h=>by
  unfold Ė at h;rw[Å]at h;have g:∀v b,(bF a).run P u=ı v b->b=u:=by
   intro v b e;simp only[bF,ä]at e;split at e
   .cases e;rfl
   .split at e<;>cases e;rfl
  cases d:(bF a).run P u with
  |halt z w=>rw[d]at h;cases h
  |ok v b=>
   have:=g v b d;subst this;rw[d]at h;simp only[Ê]at h;cases v<;>first|(cases h;done)|skip
   rename_i k m;cases k<;>first|(cases h;done)|exact WT n h
def afw(c:(jI e a n).run P u=ı B w):w=u/\(Ė a .empty n).run P u=ı B u:=by
 unfold jI at c;rw[Å]at c;cases f:(Ş e).run P u with
 |halt z x=>rw[f]at c;cases c
 |ok z x=>
  have g:x=u:=by
   unfold Ş at f;rw[Å]at f;unfold ù at f;rw[Å,ÿ]at f;simp only[Ê]at f;cases b:P.underlying e with
   |none=>rw[b]at f;cases f
   |some d=>
    rw[b]at f;cases d<;>cases f<;>rfl
  subst g;rw[f]at c;simp only[Ê]at c;rw[Å]at c;have d:∃b,(Ą a z n).run P x=ı b x:=by unfold Ą;rw[Å,ÿ];simp only[Ê];rw[Å];simp only[cP,ä,Ê];split<;>exact⟨_,U⟩
  let⟨b,d⟩:=d;rw[d]at c;simp only[Ê]at c;split at c
  .have:=WT n c;subst this;exact⟨U,c⟩
  .cases c
def KD(P:Ù)(t:Á):Bool:=match P.underlying t with
 |some (ó e)=>(match P.underlying e with|some (κ _)=>Ë|_=>Â)
 |_=>Â
def afx{P:Ù}(h:KD P e=Ë):∀u c d,(Ş e).run P u=ı c d->∃k,P.underlying c=À (κ k):=by
 intro u c d b;unfold Ş ù at b;rw[Å,Å,ÿ]at b;simp only[Ê]at b;unfold KD at h;split at h
 .rename_i a f;rw[f]at b;cases b;split at h
  .rename_i k g;exact⟨k,g⟩
  .cases h
 .cases h
def afy[Ag P]{y:Ú}{B:Á}(V:o.op=ah {callee:=ĩ dy,args:=#[qQ,y],argTypes:=#[T,B]})(hpt:KD P T=Ë)(WU:∀z∈o.op.operands,mB X z):mP P X q o:=by
 have W:∀K:Ú->Ã,î K o=(ò #[T,B] o.type #[K qQ,K y]>>=λv=>pure<|ñ v):=by intro K;unfold î;rw[V];simp only[Ă,Ę,ĝ,pure_bind,Û,æ,é]
 have L:∀v w:Ã,fG P (ò #[T,B] o.type #[v,w]):=by
  intro v w;cases v<;>first|exact ji _|skip
  rw[Pk];exact gq (GR _) λn=>afu _ _ _
 have hk:∀(a:bZ) (u:È) (n:ae) (p:È),(î a.eval o).run P u=ı n p->∃v,n=ñ v:=by
  intro a u n p b;rw[W,Å]at b;cases M:(ò #[T,B] o.type #[a.eval qQ,a.eval y]).run P u with
  |ok v w=>rw[M]at b;cases b;exact⟨v,U⟩
  |halt z w=>rw[M]at b;cases b
 refine⟨?_,λa=>by rw[W];exact lP<|L _ _,λa u n p b=>Æ<|hk a u n p b,λa u f c p b=>by let⟨v,e⟩:=hk a u _ p b;cases e⟩;intro ρ g t t' u w hz hb hG ht H hl z p b hc;have Y:=wO hG ht (WU qQ<|by rw[V];simp[Ì,ü]);have N:=wO hG ht (WU y<|by rw[V];simp[Ì,ü]);rw[W]at b|-;generalize ê ⟨t,[]⟩ qQ=v at Y b;generalize ê ⟨t',[]⟩ qQ=v' at Y|-;generalize ê ⟨t,[]⟩ y=l at N b;generalize ê ⟨t',[]⟩ y=l' at N|-;have C:fJ P fq ρ (ò #[T,B] o.type #[v,l]) (ò #[T,B] o.type #[v',l'])->∃(I:fv) (x':ae) (w':È) (O:Array ĉ),ρ.r I/\(∀i j,I i j->ρ i j\/(u.heap.size<=i/\w.heap.size<=j))/\(ò #[T,B] o.type #[v',l']>>=λv=>pure (ñ v):Ğ ae).runT P w #[]=(ı x' w',#[]++O)/\pw I z x'/\jo I g p w'/\nU ρ g w w'/\(∀e∈O,Aj I g e)/\u.heap.size<=p.heap.size:= λh=>(mO h).gp H hl b #[];cases Y with
 |lM=>
  apply C;rw[Pk,Pk];apply fI (Ot N);rintro WV n _ _ rfl;unfold vr;by_cases r:n<0
  .simp only[if_pos r];exact .oN (vi<|rE _)
  .by_cases d:n>â.max
   .simp only[if_neg r,if_pos d];exact .fS
   .simp only[if_neg r,if_neg d];split
    .exact .fH (.kS _)
    .exact J9
 |jZ D=>
  rename_i a a';cases N with
  |iK k n=>
   by_cases r:n<0
   .apply C;rw[yo,yo];unfold vr;simp only[if_pos r];exact .oN (vi<|rE _)
   .by_cases d:n>â.max
    .apply C;rw[yo,yo];unfold vr;simp only[if_neg r,if_pos d];exact .fS
    .by_cases h3:n=0
     .apply C;rw[yo,yo];unfold vr;simp only[if_neg r,if_neg d,if_pos h3];exact .fH (.kS _)
     .rw[yo,WS T a r d h3]at b;rw[yo,WS T a' r d h3];obtain⟨m,M⟩:∃m,n.toNat=m+1:=⟨n.toNat-1,Z⟩;rw[M]at b|-;cases J:(jI T a<|m+1).run P u with
      |halt z w=>
       rw[Å,Å,J]at b;cases b
      |ok s u1=>
       obtain⟨rfl,WW⟩:=afw J;rw[Å,Å,J]at b;have Av:=b;cases Av;have ns:=afs H D (afx hpt) J;let⟨WV,s',w1,es,k1,k2,k3,k4,k5,E,k7,k8⟩:=(afr T D<|m+1).gp H hl J #[];have O:=k4;subst O;let⟨c,c',e,fr,wz,Q,hw,p7,_⟩:=H.r _ _ D.1;have WX:a.spot=í/\a.off<c.size:=by
        have F:=WW;unfold Ė at F;rw[Å]at F;simp only[bF,ä]at F;cases G:u1.cell? a with
        |none=>
         rw[G]at F;simp only[ş,Q]at F;cases F
        |some v=>
         rw[Ak Q]at G;cases oR:a.spot with
         |some qQ=>rw[oR]at G;cases G
         |none=>rw[oR]at G;exact⟨U,(Ä.1<|by simpa using G).1⟩
       have fits:∀c e fr,u1.heap[a.block]?=À (ė c e fr)->a.off+(m+1)<=c.size:=by intro c2 e2 p9 d;rw[Q]at d;injection d with d;injection d with q1 q2 q3;subst q1;exact afv H (m+1) D WX.1 WW c e fr Q<|Nat.le_of_lt WX.2
       refine⟨WV,ñ<|Ĥ s,w1.freeze a'<|m+1,es,k1,k2,?_,.nW (.kS s),k5.acH (D.r k1) (m+1) fits,?_,k7,by rw[J4];exact á _⟩
       .show ç P (è (è _ _) _) w #[]=_;rw[Ð,Ð,k3];rfl
       .refine⟨by rw[J4];exact E.r,acC.trans E.I,acD.trans E.M,Ol.trans E.S,λj hj L=> ?_,λj hs hj=> ?_⟩
        .rw[J5 (λe=>L a.block<|by rw[<-e];exact D.1)];exact E.C j hj L
        .rw[J5 (λe=>ns<|by rwa[e])];exact E.N j hs hj
  |_=>exact C .fS
 |_=>exact C .fS
end
section
variable{ρ:fv}{g:Nat->Prop}{i:ã->Prop}{α:Type}
def afz(a:Ü):fG P (bN a):=by unfold bN;repeat' (first|(with_reducible first|exact gC _|exact tR _|exact OT _|refine gq ?_ λ_=> ?_)|split)
def afA(a b:Ü):fG P (df a b):=by unfold df;repeat' (first|(with_reducible first|exact afz _|exact gC _|exact tR _|refine gq ?_ λ_=> ?_)|split)
def afB(a b:Ü):fG P (Δ a b):=by unfold Δ;repeat' (first|(with_reducible first|exact afA _ _|exact gC _|exact sR _|exact OT _|exact VL _|refine gq ?_ (λ_=> ?_)|refine nn _ ?_)|split|rfl)
def WY(h:P.underlying t=À (ó e))(x y:Ã):fG P (û t x y):=by unfold û Ď φ;refine sS h ?_;repeat' (first|(with_reducible first|exact afB _ _|exact gC _|exact ji _|exact sR _|exact tT _|refine gq ?_ λ_=> ?_)|contradiction|split)
def afC{a:ĭ}(b:a=aX\/a=bq)(h:P.underlying t=À (ó e))(x y:Ã):fG P (Α a t x y):=by
 have c:=WY h x y;rcases b with rfl|rfl;all_goals
  unfold Α;repeat' (first|(with_reducible first|exact WY h _ _|exact gC _|exact ji _|exact OY _ _ _ _|exact V9 _ _ _ _ _ _|exact Wa _ _ _|exact O2 _ _ _|refine gq ?_ λ_=> ?_)|contradiction|split)
def yp(u:È)(r:Nat):Prop:=∃c e a,u.heap[r]?=À (ė c e a)/\a.2<=c.size
def KE(a:Ü)(u:È)(b:Array ĉ):(frozen a).runT P u b=(ı (u.frozen? a) u,b):=rfl
def KF{r:Nat}(h:u.heap[r]?=À (ė d e xJ))(a:Array ĉ):(cP r).runT P u a=(ı (À (e,d.size)) u,a):=by simp only[cP,ç,ς,h]
def WZ(h:yp u a.block)(b:Array ĉ):(bN a).runT P u b=(ı (u.frozen? a) u,b):=by
 let⟨c,e,f,d,g⟩:=h;unfold bN;show ç P (è _ _) u b=_;rw[Ð,KE];cases i:u.frozen? a with
 |true=>rfl
 |false=>
  simp only[Ç,if_false];show ç P (è _ _) u b=_;rw[Ð,KF d];simp only[];rw[KE];have:u.frozen? {block:=a.block,off:=c.size}=Â:=by simp only[Ċ,d];simp;omega
  rw[this]
def W0(f:u.heap[a.block]?=À (ė d e xJ))(g:xJ.2<=d.size)(b:u.frozen? a=Ë):d.size≠0:=by simp only[Ċ,f]at b;simp at b;omega
def afD(i:yp u a.block)(j:yp u p.block)(k:(u.frozen? a&&u.frozen? p)=Â)(g:Array ĉ):(df a p).runT P u g=(ı Â u,g):=by
 have q:=i;have r:=j;let⟨c,e,w,l,s⟩:=q;let⟨d,f,x,m,t⟩:=r;unfold df;show ç P (è _ _) u g=_;rw[Ð,WZ i];simp only[];show ç P (è _ _) u g=_;rw[Ð,WZ j];simp only[];show ç P (è (è _ _) _) u g=_;rw[Ð,Ð,KF l];simp only[];show ç P (è (è _ _) _) u g=_;rw[Ð,Ð,KF m];simp only[];congr 2;cases o:u.frozen? a with
 |true=>
  rw[o]at k;have h:u.frozen? p=Â:=by simpa using k
  have:=W0 l s o;simp only[h];cases v:c.size with
  |zero=>exact absurd v this
  |succ n=>rfl
 |false=>
  cases h:u.frozen? p with
  |true=>
   have:=W0 m t h;cases v:d.size with
   |zero=>exact absurd v this
   |succ n=>rfl
  |false=>rfl
def W3(h:yp u a.block)(b:Array ĉ):(bG a).runT P u b=(ı () u,b):=by let⟨c,e,f,d,g⟩:=h;unfold bG cJ;show ç P (è (è _ _) _) u b=_;rw[Ð,Ð,KF d];rfl
def W4(e:yp u a.block)(f:yp u p.block)(c:Array ĉ):(Δ a p).runT P u c= if(a.block==p.block)=Ë then(ı (a==p) u,c)else if(u.frozen? a&&u.frozen? p)=Ë then(cD (œ .addressObserved) u,c)else(ı Â u,c):=by
 unfold Δ;by_cases h:(a.block==p.block)=Ë
 .rw[if_pos h,if_pos h];rfl
 .rw[if_neg h,if_neg h];show ç P (è _ _) u c=_;rw[Ð,KE];simp only[];show ç P (è _ _) u c=_;rw[Ð,KE];simp only[];by_cases d:(u.frozen? a&&u.frozen? p)=Ë
  .rw[if_pos d,if_pos d];rfl
  .rw[if_neg d,if_neg d];show ç P (è _ _) u c=_;rw[Ð,W3 e];simp only[];show ç P (è _ _) u c=_;rw[Ð,W3 f];simp only[];show ç P (è _ _) u c=_;rw[Ð,afD e f (by simpa using d)];rfl
end
section
variable{ρ:fv}{g:Nat->Prop}{j:ã->Prop}
def afE{d:dY}(h:P.underlying t=À d)(u:È)(a:Array ĉ):(ù t).runT P u a=(ı d u,a):=by unfold ù;show ç P (è _ _) u a=_;rw[Ð];show ç P (match P.underlying t with|some d=>pure d|none=>stuck _) u a=_;rw[h];rfl
def afF(h:P.info? t=À zJ)(u:È)(a:Array ĉ):(Ŝ t).runT P u a=(ı zJ.size u,a):=by
 unfold Ŝ;show ç P (è _ _) u a=_;rw[Ð];have:(þ t).runT P u a=(ı zJ u,a):=by unfold þ;show ç P (è _ _) u a=_;rw[Ð];show ç P (match P.info? t with|some d=>pure d|none=>stuck _) u a=_;rw[h];rfl
 rw[this];rfl
def W5(h:P.underlying t=À (ó e))(d:P.info? e=À zJ)(f:zJ.size≠0)(a b:Ü)(u:È)(c:Array ĉ):(û t (Ò<|À a)<|Ò<|À b).runT P u c=(Δ a b).runT P u c:=by unfold û Ď φ;show ç P (è _ _) u c=_;rw[Ð,afE h];simp only[];show ç P (è _ _) u c=_;rw[Ð,afF d];simp only[];rw[if_pos f]
def ie(a:ĭ)(r:Bool):Bool:=if a=aX then r else !r
def W6{d:ĭ}(k:d=aX\/d=bq)(h:P.underlying t=À (ó e))(g:P.info? e=À zJ)(j:zJ.size≠0)(x y:Ú)(a b:Ü)(u:È)(c:Array ĉ): ((Ο d t x y (Ò<|À a) (Ò<|À b)>>=λ_=>Α d t (Ò<|À a)<|Ò<|À b)>>=λv=>pure (ñ v):Ğ ae).runT P u c= match(Δ a b).runT P u c with
 |(ı r u',f)=>(ı (ñ<|Ŏ<|ie d r) u',f)
 |(cD z u',f)=>(cD z u',f):=by
 rcases k with rfl|rfl
 .show ç P (è (è (û t (Ò<|À a)<|Ò<|À b) λr=>bl<|Ŏ r) λv=>bl<|ñ v) u c=_;rw[Ð,Ð,W5 h g j];cases(Δ a b).runT P u c with
  |mk r f=>cases r<;>rfl
 .show ç P (è (è (û t (Ò<|À a)<|Ò<|À b) λr=>bl<|Ŏ !r) λv=>bl<|ñ v) u c=_;rw[Ð,Ð,W5 h g j];cases(Δ a b).runT P u c with
  |mk r f=>cases r<;>rfl
def afG{m:ĭ}{r:Á}{y:Ú}(E:o.op=ez m t qQ y r)(I:m=aX\/m=bq)(h:P.underlying t=À (ó e))(Y:P.info? e=À zJ)(hs:zJ.size≠0)(J:∀z∈o.op.operands,mB X z):mP P X j o:=by
 have K:∀B:Ú->Ã,î B o=((Ο m t qQ y (B qQ) (B y)>>=λ_=>Α m t (B qQ)<|B y)>>=λv=>pure<|ñ v):=by intro B;unfold î;rw[E]
 have hk:∀(a:bZ) (u:È) (n:ae) (s:È),(î a.eval o).run P u=ı n s->∃v,n=ñ v:=by
  intro a u n s k;rw[K,Å]at k;cases C:(Ο m t qQ y (a.eval qQ) (a.eval y)>>=λ_=>Α m t (a.eval qQ)<|a.eval y).run P u with
  |ok v w=>rw[C]at k;cases k;exact⟨v,U⟩
  |halt z w=>rw[C]at k;cases k
 refine⟨?_,λa=> ?_,λa u n s k=>Æ<|hk a u n s k,λa u f c s k=>by let⟨v,e⟩:=hk a u _ s k;cases e⟩
 .intro ρ g D W7 u w L hb M N p hl z s k hc;have O:=wO M N (J qQ<|by rw[E];simp[Ì]);have Q:=wO M N (J y<|by rw[E];simp[Ì]);by_cases T:nk (ê ⟨D,[]⟩ qQ)\/nk (ê ⟨D,[]⟩ y)
  .have hOk:kj P (ê ⟨D,[]⟩) o.op:=by
    rw[E];exact .D7 m t qQ y r λ_=>Í ⟨⟨e,h⟩,T⟩
   exact(Vl L p.C hb (λf=>rfl) hOk λz L=>wO M N<|J z L).gp p hl k hc #[]
  .have n1:=λq=>T<|Æ q;have n2:=λq=>T<|Í q;rw[K]at k|-;generalize ê ⟨D,[]⟩ qQ=v at O k n1;generalize ê ⟨W7,[]⟩ qQ=v' at O|-;generalize ê ⟨D,[]⟩ y=l at Q k n2;generalize ê ⟨W7,[]⟩ y=l' at Q|-;cases O<;>first|exact absurd trivial n1|skip
   cases Q<;>first|exact absurd trivial n2|skip
   rename_i a a' F b b' G;have fit:∀{c H:Ü},hD ρ c H->yp u c.block/\yp w H.block:=by
    intro c H hcc;let⟨d,d',e2,fr,wz,hu,hw,p7,nt,Aw,V⟩:=p.r _ _ hcc.1;refine⟨⟨d,e2,fr,hu,V⟩,d',e2,wz,hw,?_⟩;refine ö ?_ p7.I;by_cases q:g H.block
    .exact ö (nt q).2.2.1 V
    .rwa[<-Aw q]
   let⟨fa,fa'⟩:=fit F;let⟨fb,fb'⟩:=fit G;rw[<-Ÿ P _ u #[],W6 I h Y hs,W4 fa fb]at k;rw[W6 I h Y hs,W4 fa' fb'];have eb:=Kb p.C F G;have ea:=U8 p.C F G;rw[<-eb,<-ea];by_cases q:(a.block==b.block)=Ë
   .rw[if_pos q]at k|-;cases k;exact⟨ρ,_,w,#[],fv.M _,λ_ _ q=>Æ q,U,.nW (.my _),p,nU.fW _ _ _,λ_ C=>absurd C ft,á _⟩
   .rw[if_neg q]at k|-;by_cases W:(u.frozen? a&&u.frozen? b)=Ë
    .rw[if_pos W]at k;cases k
    .rw[if_neg W]at k;have q3:¬(w.frozen? a'&&w.frozen? b')=Ë:=by
      intro q4;let⟨z1,z2⟩:=Þ.1 q4;exact W<|Þ.2 ⟨p.Y F z1,p.Y G z2⟩
     rw[if_neg q3];cases k;exact⟨ρ,_,w,#[],fv.M _,λ_ _ q=>Æ q,U,.nW (.my _),p,nU.fW _ _ _,λ_ C=>absurd C ft,á _⟩
 .rw[K];exact lP<|gq (Wh m t (λ_=>Í ⟨e,h⟩) qQ y _ _) λ_=>afC I h _ _
end
def Pl(P:Ù)(s d:Á):Bool:=match P.underlying s,P.underlying d with
 |some (dH e),À ĥ=>(match P.underlying e with|some (κ .u8)=>Ë|_=>Â)
 |some (ó _),À Ĝ=>Ë
 |some Ĝ,À (ó _)=>Ë
 |_,_=>Â
def Pm(P:Ù)(t:Á):Bool:=match P.underlying t with
 |some (ó e)=>(match P.info? e with|some i=>i.size !=0|none=>Â)
 |_=>Â
def Pn(P:Ù)(b:ã->Bool)(c:Callee)(a:List Ú)(d:List Á):Bool:=match c with
 |ĩ .min=>a.length !=0
 |ĩ bM=>a.length==1
 |ĩ dy=>a.length==2&&(match d with|[t,_]=>KD P t|_=>Â)
 |cM (bu f)=>b f&&a.length==1
 |_=>Â
def Po(P:Ù)(a:ã->Bool):Op->Bool
 |dc _ _|.panic _=>Ë
 |ez c t _ _ _=>(c==aX||c==bq)&&Pm P t
 |br s d _=>Pl P s d
 |ah c=>Pn P a c.callee c.args.toList c.argTypes.toList
 |_=>Â
def Ef(P:Ù)(a:Nat->Bool)(b c:ã->Bool)(o:aT):Bool:=Pj P a b o||(Po P c o.op&&o.op.operands.all (wR a))
def G2(P:Ù)(c:ã->Bool):Prop:=∀f,c f=Ë->∃a e,P.funcs[f]?=À a/\(a.name== "runtime.NumGoroutine")=Â/\a.body.isNone=Ë/\Extern.findNext a=í/\Extern.find a=À e/\
 (∀(ρ:fv) (v b:Ã),fq ρ v b->fJ P fq ρ (e #[v]) (e #[b]))/\∀v,fG P<|e #[v]
def KG[Ag P]{g:Nat->Bool}{k x:ã->Bool}(E:G2 P x)(h:Ef P g k x o=Ë):mP P (λj=>g j=Ë) (λf=>k f=Ë) o:=by
 rcases ŀ.1 h with h|h
 .exact aeW h
 .let⟨w,F⟩:=Þ.1 h;have u:∀z∈o.op.operands,mB (λj=>g j=Ë) z:=by
   intro z G;obtain⟨i,C,rfl⟩:=ś.1 G;exact KA<|ĵ.1 F i C
  cases n:o.op with
  |makeInterface t y=>exact aeX n u
  |panic y=>exact ae0 n u
  |binOp B t a b r=>
   rw[n]at w;let⟨H,m⟩:=Þ.1 (show((B==aX||B==bq)&&Pm P t)=Ë from w);have I:B=aX\/B=bq:=by
    rcases ŀ.1 H with q|q
    .exact Æ (by cases B<;>first|rfl|cases q)
    .exact Í (by cases B<;>first|rfl|cases q)
   unfold Pm at m;split at m
   .rename_i e J;split at m
    .rename_i i C;exact afG n I J C (by simpa using m) u
    .cases m
   .cases m
  |convert s d y=>
   rw[n]at w;have m:Pl P s d=Ë:=w;unfold Pl at m;split at m
   .rename_i e v p;split at m
    .rename_i K;exact afa n v p K u
    .cases m
   .rename_i t v p;exact WO n (Æ ⟨v,p⟩) u
   .rename_i t v p;exact WO n (Í ⟨v,p⟩) u
   .cases m
  |call c=>
   rw[n]at w;let⟨L,M,D⟩:=c;have m:Pn P x L M.toList D.toList=Ë:=w;unfold Pn at m;split at m
   .exact ae6 n u
   .obtain⟨y,rfl⟩:=KC m;exact afi n u
   .let⟨v,p⟩:=Þ.1 m;obtain⟨y,z,rfl⟩:=Pg v;let⟨l⟩:=D;match l,p with
    |[t1,t2],p=>exact afy n p u
   .rename_i f;let⟨v,p⟩:=Þ.1 m;obtain⟨y,rfl⟩:=KC p;let⟨Y,e,N,O,Q,T,V,W,X⟩:=E f v;exact afb n N O Q T V W X u
   .cases m
  |_=>rw[n]at w;simp[Po]at w
def nY(P:Ù)(a:Nat->Bool)(b d:ã->Bool):aQ->Bool
 |.ret|.skip|eG _|.exit _|.goto _=>Ë
 |.seq x y=>nY P a b d x&&nY P a b d y
 |bT c x y=>wR a c&&nY P a b d x&&nY P a b d y
 |eH _ c|.loop c|eI c=>nY P a b d c
 |cz _ c _=>c.all<|Ef P a b d
 |dM _=>Ë
 |_=>Â
def vt[Ag P]{g:Nat->Bool}{k x:ã->Bool}(a:G2 P x):∀{c:aQ},nY P g k x c=Ë->kH P (λj=>g j=Ë) (λf=>k f=Ë) c
 |.ret,_=> .vm
 |.skip,_=> .sP
 |eG l,_=> .wF l
 |.exit l,_=> .wK l
 |.goto l,_=> .wL l
 |.seq y z,h=>by let⟨f,i⟩:=Þ.1 (show(nY P g k x y&&nY P g k x z)=Ë from h);exact .rH (vt a f) (vt a i)
 |bT c y z,h=>by let⟨f,i⟩:=Þ.1 (show(wR g c&&nY P g k x y&&nY P g k x z)=Ë from h);let⟨j,f⟩:=Þ.1 f;exact .tU (KA j) (vt a f) (vt a i)
 |eH id c,h=> .rI id (vt a<|show nY P g k x c=Ë from h)
 |.loop c,h=> .wG (vt a<|show nY P g k x c=Ë from h)
 |eI c,h=> .wI (vt a<|show nY P g k x c=Ë from h)
 |cz id ops d,h=> .tV id d λo f=>by obtain⟨i,j,rfl⟩:=ś.1 f;exact KG a<|ĵ.1 (show ops.all (Ef P g k x)=Ë from h) i j
 |.rangeFunc _ _ _ _,h=>by simp[nY]at h
 |dM w,_=> .pz w
end Go.Proofs.Y.Lift
namespace Go.Proofs.Y.fD
open Go Go.Conc Go.Proofs.Y.Lift
def qP(t:ī)(g:Nat)(l:ew):Prop:=∀p a,Ħ t p=À a->a.loc=l->bX t g p
def pD(t:ī)(g:Nat)(l:ew):Prop:=∀p a,Ħ t p=À a->a.loc=l->a.write=Ë->bX t g p
def qP.r{t:ī}{l:ew}(h:qP t i l):pD t i l:=λp a b c _=>h p a b c
section
variable{t u:ī}{g:Nat}{l:ew}
def mS{a:ei}(h:Ħ (t++u) i=À a):(i<t.size/\Ħ t i=À a)\/(t.size<=i/\∃b∈u,b.act.touch?=À a/\(t++u)[i]?=À b):=by
 let⟨x,c,d⟩:=ek h;rcases getElem?_append_cases c with⟨b,e⟩|⟨b,f⟩
 .exact Æ ⟨b,by rwa[touchAt_of e]⟩
 .exact Í ⟨b,x,f,d,c⟩
def qP.C(h:qP t g l)(f:∀c∈u,∀b,c.act.touch?=À b->b.loc=l->c.g=g):qP (t++u) g l:=by
 intro p a i e;rcases mS i with⟨_,d⟩|⟨_,c,d,j,k⟩
 .exact(h p a d e).app u
 .have:=bO k;rwa[f c d a j e]at this
def pD.r(h:pD t g l)(i:∀c∈u,∀b,c.act.touch?=À b->b.loc=l->b.write=Ë->c.g=g):pD (t++u) g l:=by
 intro p a j e f;rcases mS j with⟨_,d⟩|⟨_,c,d,k,m⟩
 .exact(h p a d e f).app u
 .have:=bO m;rwa[i c d a k e f]at this
def qP.ye(h:∀p a,Ħ t p=À a->a.loc≠l):qP t g l:=λp a b c=>absurd c<|h p a b
def Pp(h:∀e,¬eZ e t)(n:∀f∈u,f.g=g)(o:∀f∈u,∀b,f.act.touch?=À b->(b.write=Â/\pD t g b.loc)\/qP t g b.loc\/(b.kind=Ũ/\∀p a,Ħ t p=À a->a.loc=b.loc->a.kind=.plain->bX t g p)):∀e,¬eZ e (t++u):=by
 intro e;refine noRace_append (h e) n λi a j f r b s v=> ?_;let⟨k,w,d,c⟩:=v;rcases o f r b s with⟨l,m⟩|q|⟨l,m⟩
 .rcases d with d|d
  .exact m i a j k d
  .rw[l]at d;cases d
 .exact q i a j k
 .rw[l]at c;rcases c with c|c|⟨_,_,c⟩
  .exact m i a j k c
  .cases c
  .cases c
def Ax(g:∀c,¬eZ c t)(h:∀d∈u,d.act.touch?=í):∀c,¬eZ c (t++u):=by
 intro c;rintro⟨i,j,k,⟨a,b,l,m,n⟩,o,p⟩;have r:=m;have s:=l;rcases mS r with⟨x,e⟩|⟨_,d,e,f,_⟩
 .rcases mS s with⟨v,w⟩|⟨v,_⟩
  .exact g c ⟨i,j,k,⟨a,b,w,e,n⟩,λq=>o<|eL u q,λq=>p<|eL u q⟩
  .omega
 .rw[h d e]at f;cases f
end
structure fh where
 O:Nat->Prop
 I:Nat->Prop
 r:Ü->Prop
 N:Ü->Prop
 K:Ü->Prop
 d:Nat
 q:Prop
 w:È
def fh.M(l:fh):Nat->Prop:=λj=>l.O j\/l.I j
def fh.C(l:fh):Ü->Prop:=λa=>l.r a\/l.N a
structure fK(l:fh)(w w₁:È):Prop where
 r:w.heap.size<=w₁.heap.size
 I:∀j,l.M j->w₁.heap[j]?=w.heap[j]?
 N:∀a,l.C a->w₁.cell? a=w.cell? a
 Y:∀a,l.C a->w₁.frozen? a=w.frozen? a
 S:∀a,l.K a->(w.cell? a).isSome=Ë->(w₁.cell? a).isSome=Ë
def fK.fW(l:fh)(w:È):fK l w w:=⟨á _,λ_ _=>rfl,λ_ _=>rfl,λ_ _=>rfl,λ_ _ h=>h⟩
def fK.fj{l:fh}{c:È}(h:fK l w u)(k:fK l u c):fK l w c:= ⟨ö h.r k.r,λj d=>(k.I j d).trans<|h.I j d,λj d=>(k.N j d).trans<|h.N j d,λj d=>(k.Y j d).trans<|h.Y j d,λw e q=>k.S w e<|h.S w e q⟩
def kU(w:È)(b:Nat):Option (Nat×Nat):=match w.heap[b]? with
 |some (ė _ _ fr)=>À fr
 |_=>í
def wS{w':È}(h:w'.heap[b]?=w.heap[b]?):kU w' b=kU w b:=by unfold kU;rw[h]
def W8(w:È)(a:Ü):w.frozen? a=match kU w a.block with
 |some (lo,hi)=>decide (lo<=a.off)&&decide (a.off<hi)
 |none=>Â:=by
 unfold Ċ kU;cases w.heap[a.block]? with
 |none=>rfl
 |some o=>cases o<;>rfl
def KH(h:kU u a.block=kU w a.block):u.frozen? a=w.frozen? a:=by rw[W8,W8,h]
def yq(l:fh)(e:ĉ):Prop:=
 (∃a:Ü,e.loc=ć a/\(l.O a.block\/l.r a\/((l.I a.block\/l.N a)/\e.write=Â/\e.sync=Â)))\/e.loc=Θ π\/(∃f,e.loc=Θ (.extern f))\/e.loc=Θ dh\/e.loc=Θ dR\/
 ∃a:Ü,l.O a.block/\(e.loc=Θ (.read a)\/e.loc=Θ (.write a)\/e.loc=Θ (Ņ a)\/e.loc=Θ (di a))
structure mC(l l':fh)(w w':È)(es:Array ĉ):Prop where
 C:w.heap.size<=w'.heap.size
 S:∀j,l'.O j->l.O j\/w.heap.size<=j
 fx:∀j,l'.O j->j<w'.heap.size
 I:l'.I=l.I
 r:l'.r=l.r
 M:l'.N=l.N
 k:l'.K=l.K
 jV:∀j,j<w.heap.size->¬l.O j->(∀a:Ü,a.block=j->¬l.r a)->w'.heap[j]?=w.heap[j]?
 N:∀a:Ü,a.block<w.heap.size->¬l.O a.block->¬l.r a->w'.cell? a=w.cell? a
 Y:∀a:Ü,a.block<w.heap.size->¬l.O a.block->kU w' a.block=kU w a.block
 f:w'.os=w.os
 g:w'.output=w.output
 m:w'.tape=w.tape
 c:∀e∈es,yq l' e
 h:l'.d=Ε l.d es
 q:l'.q=l.q
 i:l.q->w'=w/\(∀e∈es,e.mute=Ë)/\l'.O=l.O
 b:l'.w=w'
structure Pq(t:ī)(g:Nat)(l:fh):Prop where
 fu:∀a:Ü,l.O a.block->qP t g (ć a)
 C:∀a:Ü,l.I a.block->pD t g (ć a)
 I:∀a:Ü,l.r a->qP t g (ć a)
 r:∀a:Ü,l.N a->pD t g (ć a)
def W9{l:fh}{e:ĉ}(h:yq l e){b:ei}(c:(ì e).touch?=À b):∃a:Ü,b.loc=ć a/\(l.O a.block\/l.r a\/((l.I a.block\/l.N a)/\b.write=Â)):=by
 let⟨k,i,j⟩:=e;rcases h with⟨a,d,g⟩|h|⟨f,h⟩|h|h|⟨a,d,g⟩
 .simp only at d g;subst d;have:(ì ⟨ć a,i,j⟩).touch?=À ⟨ć a,i,if j then Ũ else .plain⟩:=U;rw[this]at c;obtain rfl:=ą c;exact⟨a,U,g.imp id<|Or.imp id λx=>⟨x.1,x.2.1⟩⟩
 .simp only at h;subst h;simp[ì,Č]at c
 .simp only at h;subst h;simp[ì,Č]at c
 .simp only at h;subst h;simp[ì,Č]at c
 .simp only at h;subst h;simp[ì,Č]at c
 .simp only at g;rcases g with rfl|rfl|rfl|rfl<;>simp[ì,Č]at c<;>subst c
  .exact⟨a,U,Æ d⟩
  .exact⟨a,U,Æ d⟩
def afH{l:fh}(d:∀j,l.O j->j<i)(k:∀j,l.I j->j<i)(g:∀a:Ü,l.C a->a.block<i){e:ĉ}(h:yq l e):(ì e).low i:=by
 let⟨m,n,o⟩:=e;rcases h with⟨a,c,b⟩|h|⟨f,h⟩|h|h|⟨a,c,b⟩
 .simp only at c b;subst c;rcases b with h|h|⟨h|h,_⟩
  .exact d _ h
  .exact g _<|Æ h
  .exact k _ h
  .exact g _<|Í h
 .simp only at h;subst h;trivial
 .simp only at h;subst h;trivial
 .simp only at h;subst h;trivial
 .simp only at h;subst h;trivial
 .simp only at b;rcases b with rfl|rfl|rfl|rfl<;>exact d _ c
def Xa(B:Nat)(t:ī):Prop:=∀a∈t,a.act.low B
def Xb(h:Xa i qJ){a:ei}(g:Ħ qJ n=À a){x:Ü}(d:a.loc=ć x):x.block<i:=by
 let⟨f,j,b⟩:=ek g;have c:=h f<|Ø j;revert b c;cases f.act with
 |access e=>
  intro b c;simp only[Č,ζ]at b;subst b;simp only at d;simp only[MemAct.low,d,Loc.low]at c;exact c
 |mark m=>
  intro b c;cases m<;>simp[Č]at b;all_goals
   subst b;simp only[Loc.cell.injEq]at d;subst d;exact c
 |_=>intro b _;simp[Č]at b
def oB{a:String}:∀op∈Ï i F a V,op.g=i:=λop b=>by obtain⟨e,_,rfl⟩:=ï (op:=op) b;rfl
structure iT(B0:Nat)(Live:Nat->Prop)(Y:Nat->Prop)(lot:Nat->fh)(w:È)(t:ī):Prop where
 o:∀i j,Live i->Live j->i≠j->∀b,(lot i).O b->¬(lot j).M b
 h:∀i j,Live i->Live j->i≠j->∀a,(lot i).r a->¬(lot j).C a
 m:∀i,Live i->∀b,(lot i).O b->¬(lot i).I b
 g:∀i,Live i->∀a,(lot i).r a->¬(lot i).N a
 I:∀i,Live i->∀b,(lot i).M b->¬Y b
 e:∀i,Live i->∀a,(lot i).C a->Y a.block
 fx:∀i,Live i->∀b,(lot i).M b->b<w.heap.size
 N:∀b,Y b->b<w.heap.size
 r:∀i,Live i->fK (lot i) (lot i).w w
 S:∀i,Live i->Pq t i (lot i)
 f:∀i,Live i->af t i=(lot i).d
 l:∀said,¬eZ said t
 q:Xa w.heap.size t
 s:∀p a c,Ħ t p=À a->a.loc=.obj c->a.kind=.plain->c<B0
 n:∀i,Live i->∀a,(lot i).K a->Y a.block/\∀k,Live k->¬(lot k).r a
def gw(lot:Nat->fh)(i:Nat)(l:fh):Nat->fh:=λk=>if k=i then l else lot k
def gY(a:Nat->fh)(i:Nat)(l:fh):gw a i l i=l:=if_pos U
def gJ(a:Nat->fh)(l:fh)(h:k≠i):gw a i l k=a k:=if_neg h
section
variable{B0:Nat}{Live Y:Nat->Prop}{lot:Nat->fh}{w':È}{t u:ī}
def Pr{g:Nat}(a:k≠g)(t:ī){u:ī}(b:∀c∈u,c.g=g):af (t++u) k=af t k:= Deaf_other t (g:=k) (g':=g) (ă a) _ b
def iT.at(h:iT B0 Live Y lot w t)(d:Nat):iT B0 Live Y lot (w.at d) t:= ⟨h.o,h.h,h.m,h.g,h.I,h.e,h.fx,h.N,λi a=>⟨(h.r i a).r,(h.r i a).I,(h.r i a).N,(h.r i a).Y,(h.r i a).S⟩,h.S,h.f,h.l,h.q,h.s,h.n⟩
def iT.afI(h:iT B0 Live Y lot w t)(r:Live i){s:fh}(l:mC (lot i) s w w' V)(E:ã)(F:String): iT B0 Live Y (gw lot i s) w' (t++Ï i E F V):=by
 have G:=l.S;have Q:∀b,s.M b->(lot i).M b\/w.heap.size<=b:=λb g=>g.elim (λq=>(G b q).imp Æ id) (λq=>Æ<|Í<|by rwa[<-l.I]);have J:∀a,s.C a↔(lot i).C a:=λa=>by unfold fh.C;rw[l.r,l.M]
 have I:=λk f a d=>h.N _<|h.e k f a d;have L:∀k,Live k->k≠i->∀b,(lot k).M b->¬s.O b:=by
  intro k f y b g c;rcases G b c with q|q
  .exact h.o i k r f (ă y) b q g
  .have:=h.fx k f b g;omega
 have H:∀m∈Ï i E F V,∀b,m.act.touch?=À b->∃a:Ü,b.loc=ć a/\(s.O a.block\/s.r a\/((s.I a.block\/s.N a)/\b.write=Â)):=by intro m o b g;obtain⟨e,N,rfl⟩:=ï o;exact W9 (l.c e N) g
 have W:∀a:Ü,s.O a.block->qP t i (ć a):=by
  intro a d;rcases G _ d with q|q
  .exact(h.S i r).fu a q
  .exact .ye λp x P n=>by have:=Xb h.q P n;omega
 have D:Pq t i s:=⟨W,λa d=>(h.S i r).C a (by rwa[<-l.I]),λa d=>(h.S i r).I a (by rwa[<-l.r]),λa d=>(h.S i r).r a<|by rwa[<-l.M]⟩;refine⟨?_,?_,?_,?_,?_,?_,?_,λb g=>Õ (h.N b g) l.C,?_,?_,?_,?_,?_,?_,?_⟩
 .intro k j f u y b g;by_cases c:k=i
  .subst c;rw[gY]at g;rw[gJ lot _<|ă y];exact λq=>L j u (ă y) b q g
  .rw[gJ lot _ c]at g;by_cases v:j=i
   .subst v;rw[gY];intro q;rcases Q b q with z|z
    .exact h.o k j f u y b g z
    .have:=h.fx k f b<|Æ g;omega
   .rw[gJ lot _ v];exact h.o k j f u y b g
 .intro k j f u y a d;by_cases c:k=i
  .subst c;rw[gY,l.r]at d;rw[gJ lot _<|ă y];exact h.h k j f u y a d
  .rw[gJ lot _ c]at d;by_cases v:j=i
   .subst v;rw[gY,J];exact h.h k j f u y a d
   .rw[gJ lot _ v];exact h.h k j f u y a d
 .intro k f b g;by_cases c:k=i
  .subst c;rw[gY]at g|-;rw[l.I];rcases G b g with z|z
   .exact h.m k f b z
   .intro q;have:=h.fx k f b<|Í q;omega
  .rw[gJ lot _ c]at g|-;exact h.m k f b g
 .intro k f a d;by_cases c:k=i
  .subst c;rw[gY]at d|-;rw[l.M];rw[l.r]at d;exact h.g k f a d
  .rw[gJ lot _ c]at d|-;exact h.g k f a d
 .intro k f b g;by_cases c:k=i
  .subst c;rw[gY]at g;rcases Q b g with z|z
   .exact h.I k f b z
   .intro y;have:=h.N b y;omega
  .rw[gJ lot _ c]at g;exact h.I k f b g
 .intro k f a d;by_cases c:k=i
  .subst c;rw[gY,J]at d;exact h.e k f a d
  .rw[gJ lot _ c]at d;exact h.e k f a d
 .intro k f b g;by_cases c:k=i
  .subst c;rw[gY]at g;exact g.elim (l.fx b) λq=>Õ (h.fx k f b<|Í<|by rwa[<-l.I]) l.C
  .rw[gJ lot _ c]at g;exact Õ (h.fx k f b g) l.C
 .intro k f;by_cases c:k=i
  .subst c;rw[gY,l.b];exact fK.fW _ _
  .rw[gJ lot _ c];refine(h.r k f).fj ⟨l.C,λb g=>l.jV b (h.fx k f b g) (λq=>h.o i k r f (ă c) b q g) (λa d q=>h.I k f b g<|by rw[<-d];exact h.e i r a<|Æ q),λa d=>l.N a (I k f a d) (λq=>h.I i r _ (Æ q)<|h.e k f a d) λq=>h.h i k r f (ă c) a q d,λa d=>KH (l.Y a (I k f a d) λq=>h.I i r _ (Æ q)<|h.e k f a d),λa d q=> ?_⟩;let⟨y,v⟩:=h.n k f a d;rwa[l.N a (h.N _ y) (λq=>h.I i r _ (Æ q) y)<|v i r]
 .intro k f;by_cases c:k=i
  .subst c;rw[gY];exact⟨λa d=>(D.fu a d).C λm o _ _ _=>oB m o,λa d=>(D.C a d).r λm o _ _ _ _=>oB m o,λa d=>(D.I a d).C λm o _ _ _=>oB m o,λa d=>(D.r a d).r λm o _ _ _ _=>oB m o⟩
  .rw[gJ lot _ c];have X:∀a:Ü,(lot k).O a.block->∀m∈Ï i E F V,∀b,m.act.touch?=À b->b.loc=ć a->False:=by
    intro a d m o b g n;let⟨x,y,v⟩:=H m o b g;rw[y]at n;injection n with n;subst n;rcases v with q|q|⟨q|q,_⟩
    .exact L k f c _ (Æ d) q
    .exact h.I k f _ (Æ d)<|h.e i r x<|Æ<|by rwa[<-l.r]
    .exact h.o k i f r c _ d<|Í<|by rwa[<-l.I]
    .exact h.I k f _ (Æ d)<|h.e i r x<|Í<|by rwa[<-l.M]
   have oC:∀a:Ü,(lot k).I a.block->∀m∈Ï i E F V,∀b,m.act.touch?=À b->b.loc=ć a->b.write=Ë->False:=by
    intro a d m o b g n B;let⟨x,y,v⟩:=H m o b g;rw[y]at n;injection n with n;subst n;rcases v with q|q|⟨_,q⟩
    .exact L k f c _ (Í d) q
    .exact h.I k f _ (Í d)<|h.e i r x<|Æ<|by rwa[<-l.r]
    .rw[q]at B;cases B
   have T:∀a:Ü,(lot k).C a->∀m∈Ï i E F V,∀b,m.act.touch?=À b->b.loc=ć a->(s.I a.block\/s.N a)/\b.write=Â:=by
    intro a d m o b g n;let⟨x,y,v⟩:=H m o b g;rw[y]at n;injection n with n;subst n;rcases v with q|q|q
    .exfalso;rcases G _ q with z|z
     .exact h.I i r _ (Æ z)<|h.e k f x d
     .have:=I k f x d;omega
    .exact absurd d<|h.h i k r f (ă c) x<|by rwa[<-l.r]
    .exact q
   refine⟨λa d=>((h.S k f).fu a d).C λm o b g n=>(X a d m o b g n).elim,λa d=>((h.S k f).C a d).r λm o b g n B=>(oC a d m o b g n B).elim,λa d=>((h.S k f).I a d).C λm o b g n=> ?_,λa d=>((h.S k f).r a d).r λm o b g n B=> ?_⟩
   .exfalso;obtain⟨q|q,_⟩:=T a (Æ d) m o b g n
    .exact h.I i r _ (Í<|by rwa[<-l.I])<|h.e k f a<|Æ d
    .exact h.h k i f r c a d<|Í<|by rwa[<-l.M]
   .have:=(T a (Í d) m o b g n).2;rw[this]at B;cases B
 .intro k f;by_cases c:k=i
  .subst c;rw[gY,l.h,Deaf_own,h.f k f]
  .rw[gJ lot _ c,Pr c t oB];exact h.f k f
 .refine Pp h.l oB λm o b g=> ?_;let⟨a,y,v⟩:=H m o b g;rw[y];rcases v with q|q|⟨q,B⟩
  .exact Í<|Æ<|D.fu a q
  .exact Í<|Æ<|D.I a q
  .exact Æ ⟨B,q.elim (D.C a)<|D.r a⟩
 .intro m o;rcases ħ.1 o with q|q
  .exact MemAct.low_mono l.C<|h.q m q
  .obtain⟨e,N,rfl⟩:=ï q;refine afH l.fx (λj u=>Õ (h.fx i r j<|Í<|by rwa[<-l.I]) l.C) (λa d=> ?_)<|l.c e N;rw[J]at d;exact Õ (I i r a d) l.C
 .intro p a c d n f;rcases mS d with⟨_,y⟩|⟨_,m,y,v,_⟩
  .exact h.s p a c y n f
  .let⟨x,P,_⟩:=H m y a v;rw[P]at n;cases n
 .intro k f a d;have y:∀j,(gw lot i s j).r=(lot j).r:=λj=>by
   by_cases e:j=i
   .subst e;rw[gY,l.r]
   .rw[gJ lot _ e]
  have c:(gw lot i s k).K=(lot k).K:=by
   by_cases e:k=i
   .subst e;rw[gY,l.k]
   .rw[gJ lot _ e]
  rw[c]at d;exact⟨(h.n k f a d).1,λj u=>by rw[y];exact(h.n k f a d).2 j u⟩
end
def G3(Live Y:Nat->Prop)(d:Nat->fh)(b:ei):Prop:=(∃a:Ü,b.loc=ć a/\Y a.block/\∀k,Live k->¬(d k).C a)\/∃c,b.loc=.obj c/\Y c/\b.kind=Ũ
structure qa(Live Y:Nat->Prop)(lot:Nat->fh)(w w':È):Prop where
 r:w'.heap.size=w.heap.size
 jV:∀j,¬Y j->w'.heap[j]?=w.heap[j]?
 M:∀k,Live k->∀a,(lot k).C a->w'.cell? a=w.cell? a
 N:∀k,Live k->∀a,(lot k).C a->w'.frozen? a=w.frozen? a
 I:∀a,(w.cell? a).isSome=Ë->(w'.cell? a).isSome=Ë
def qa.fW(Live Y:Nat->Prop)(a:Nat->fh)(w:È):qa Live Y a w w:=⟨U,λ_ _=>rfl,λ_ _ _ _=>rfl,λ_ _ _ _=>rfl,λ_ h=>h⟩
structure vu(w':È)(l l':fh):Prop where
 O:l'.O=l.O
 N:l'.I=l.I
 r:l'.r=l.r
 I:l'.N=l.N
 K:l'.K=l.K
 w:l'.w=l.w\/l'.w=w'
def vu.fW(w':È)(l:fh):vu w' l l:=⟨U,U,U,U,U,Æ U⟩
def vu.M{w':È}{l a:fh}(h:vu w' l a):a.M=l.M:=by unfold fh.M;rw[h.O,h.N]
def vu.C{w':È}{l a:fh}(h:vu w' l a):a.C=l.C:=by unfold fh.C;rw[h.r,h.I]
def fK.afJ{l c:fh}(h:vu w l c)(r:fK l u W):fK c u W:= ⟨r.r,by rw[h.M];exact r.I,by rw[h.C];exact r.N,by rw[h.C];exact r.Y,by rw[h.K];exact r.S⟩
section
variable{Live Y:Nat->Prop}{lot o:Nat->fh}{w':È}{t u:ī}
def iT.G(h:iT n Live Y lot w t)(m:∀k,vu w' (lot k)<|o k)(s:qa Live Y lot w w')(B:∀l∈u,∀b,l.act.touch?=À b->G3 Live Y lot b)(g:∀l∈u,l.act.low w.heap.size)(E:∀F,¬eZ F (t++u))(G:∀k,Live k->af (t++u) k=(o k).d):iT n Live Y o w' (t++u) where
 o i j hi v kI b q:=by rw[(m j).M];exact h.o i j hi v kI b<|by rwa[<-(m i).O]
 h i j hi v kI a f:=by rw[(m j).C];exact h.h i j hi v kI a<|by rwa[<-(m i).r]
 m i hi b q:=by rw[(m i).N];exact h.m i hi b<|by rwa[<-(m i).O]
 g i hi a f:=by rw[(m i).I];exact h.g i hi a<|by rwa[<-(m i).r]
 I i hi b q:=h.I i hi b (by rwa[<-(m i).M]);e i hi a f:=h.e i hi a (by rwa[<-(m i).C]);fx i hi b q:=by rw[s.r];exact h.fx i hi b<|by rwa[<-(m i).M]
 N b q:=by rw[s.r];exact h.N b q
 r i hi:=by
  rcases(m i).w with e|e
  .rw[e];refine((h.r i hi).fj ⟨dS s.r.symm,λj v=>s.jV j<|h.I i hi j v,λa f=>s.M i hi a f,λa f=>s.N i hi a f,λa _=>s.I a⟩).afJ<|m i
  .rw[e];exact fK.fW _ _
 S i hi:=by
  have z:∀a:Ü,(lot i).M a.block->∀l∈u,∀b,l.act.touch?=À b->b.loc=ć a->False:=by
   intro a f l e b q g;rcases B l e b q with⟨x,r,y,_⟩|⟨c,r,_⟩
   .rw[r]at g;injection g with g;subst g;exact h.I i hi _ f y
   .rw[r]at g;cases g
  have D:∀a:Ü,(lot i).C a->∀l∈u,∀b,l.act.touch?=À b->b.loc=ć a->False:=by
   intro a f l e b q g;rcases B l e b q with⟨x,r,_,y⟩|⟨c,r,_⟩
   .rw[r]at g;injection g with g;subst g;exact y i hi f
   .rw[r]at g;cases g
  exact⟨λa f=>((h.S i hi).fu a<|by rwa[<-(m i).O]).C λl e b q g=>(z a (Æ<|by rwa[<-(m i).O]) l e b q g).elim,λa f=>((h.S i hi).C a<|by rwa[<-(m i).N]).r λl e b q g _=>(z a (Í<|by rwa[<-(m i).N]) l e b q g).elim,λa f=>((h.S i hi).I a<|by rwa[<-(m i).r]).C λl e b q g=>(D a (Æ<|by rwa[<-(m i).r]) l e b q g).elim,λa f=>((h.S i hi).r a<|by rwa[<-(m i).I]).r λl e b q g _=>(D a (Í<|by rwa[<-(m i).I]) l e b q g).elim⟩
 f:=G;l:=E;q l e:=by rw[s.r];exact(ħ.1 e).elim (h.q l)<|g l
 s p a c f g z:=by
  rcases mS f with⟨_,r⟩|⟨_,l,r,y,_⟩
  .exact h.s p a c r g z
  .rcases B l r a y with⟨x,D,_⟩|⟨x,_,_,D⟩
   .rw[D]at g;cases g
   .rw[D]at z;cases z
 n i hi a f:=by rw[(m i).K]at f;exact⟨(h.n i hi a f).1,λk z=>by rw[(m k).r];exact(h.n i hi a f).2 k z⟩
end
structure gB(l:fh):Prop where
 c:∀b,l.O b->¬l.I b
 Y:∀a,l.r a->¬l.N a
 N:∀a,l.C a->¬l.M a.block
 fx:∀b,l.M b->b<l.w.heap.size
 I:∀a,l.C a->a.block<l.w.heap.size
 S:∀a,l.K a->¬l.M a.block/\a.block<l.w.heap.size/\¬l.r a
def iT.M{Live Y:Nat->Prop}{c:Nat->fh}(h:iT n Live Y c w qJ)(b:Live i):gB {c i with w:=w} where
 c:=h.m i b;Y:=h.g i b;N a ha hb:=h.I i b _ hb<|h.e i b a ha;fx:=h.fx i b;I a ha:=h.N _<|h.e i b a ha;S a ha:=⟨λq=>h.I i b _ q (h.n i b a ha).1,h.N _ (h.n i b a ha).1,(h.n i b a ha).2 i b⟩
abbrev Jd:=fh->Ô->Prop
inductive fp(P:Ù)(main:Bool)(Stop:Jd):Jd
 |fF {l:fh} {g:Ô} (h:∀w₁,fK l l.w w₁->Stop {l with w:=w₁} g):fp P main Stop l g
 |jO {l:fh} {g:Ô} (G':È->Ô) (W':È->È) (E':È->Array ĉ) (L':È->fh) (jd:g.status=Ñ)
  (h:∀w₁,fK l l.w w₁->Ý P main g w₁=bB (G' w₁) (W' w₁) (E' w₁)) (hd:∀w₁,fK l l.w w₁->mC l (L' w₁) w₁ (W' w₁) (E' w₁))
  (ih:∀w₁,fK l l.w w₁->fp P main Stop (L' w₁) (G' w₁)):fp P main Stop l g
instance:Nonempty fh:=⟨⟨λ_=>False,λ_=>False,λ_=>False,λ_=>False,λ_=>False,0,False,default⟩⟩
instance:Nonempty (Goroutine×World×Array Event×fh):=⟨(default,default,#[],Classical.choice inferInstance)⟩
section
variable{main:Bool}{Stop m:Jd}
def fp.mk{l:fh}(i:g.status=Ñ) (h:∀a,fK l l.w a->∃b c d e,Ý P main g a=bB b c d/\mC l e a c d/\fp P main Stop e b):fp P main Stop l g:=by
 let p:=λ(a:È) (x:Goroutine×World×Array Event×fh)=>Ý P main g a=bB x.1 x.2.1 x.2.2.1/\mC l x.2.2.2 a x.2.1 x.2.2.1/\fp P main Stop x.2.2.2 x.1
 have f:∀a,fK l l.w a->p a (Classical.epsilon<|p a):=λa r=>Classical.epsilon_spec (let⟨b,c,d,e,h⟩:=h a r;⟨(b,c,d,e),h⟩);exact .jO (λa=>(Classical.epsilon<|p a).1) (λa=>(Classical.epsilon<|p a).2.1) (λa=>(Classical.epsilon<|p a).2.2.1) (λa=>(Classical.epsilon<|p a).2.2.2) i (λa r=>(f a r).1) (λa r=>(f a r).2.1) λa r=>(f a r).2.2
def fp.jP{l:fh}{w₁:È}(h:fp P main Stop l g)(r:fK l l.w w₁):fp P main Stop {l with w:=w₁} g:=by
 have e:∀{a b:È},fK {l with w:=w₁} a b->fK l a b:=λq=>⟨q.r,q.I,q.N,q.Y,q.S⟩;cases h with
 |fF h=>exact .fF λc d=>h c<|r.fj<|e d
 |jO f i j m n h o p=>
  exact .jO f i j m n (λc d=>h c<|r.fj<|e d) (λc d=>let q:=o c<|r.fj<|e d;⟨q.C,q.S,q.fx,q.I,q.r,q.M,q.k,q.jV,q.N,q.Y,q.f,q.g,q.m,q.c,q.h,q.q,q.i,q.b⟩) λc d=>p c<|r.fj<|e d
def fp.fQ(a:∀l g,Stop l g->m l g){l:fh}(h:fp P main Stop l g):fp P main m l g:=by
 induction h with
 |fF h=>exact .fF λb r=>a _ _<|h b r
 |jO b r c d e h f _ i=>exact .jO b r c d e h f i
def fp.fj{l:fh}(h:fp P main (fp P main Stop) l g):fp P main Stop l g:=by
 induction h with
 |fF h=>exact h _<|fK.fW _ _
 |jO a b c d e h f _ i=>exact .jO a b c d e h f i
def fp.mA(a:∀l g,Stop l g->fp P main m l g){l:fh}(h:fp P main Stop l g):fp P main m l g:=(h.fQ a).fj
end
inductive gy where
 |fF:gy
 |jO (k:È->gy):gy
def Xc(x:gy):gy->Prop
 |.fF=>False
 |.jO k=>∃w,x=k w
def Xd:WellFounded Xc:=⟨λa=>by
 induction a with
 |fF=>exact⟨_,λy h=>h.elim⟩
 |jO k b=>exact⟨_,λy ⟨w,h⟩=>h▸b w⟩⟩
def k9(P:Ù)(b:Bool)(c:Jd):gy->Jd
 |.fF,l,g=>∀a,fK l l.w a->c {l with w:=a} g
 |.jO k,l,g=>g.status=Ñ/\∀a,fK l l.w a->∃d e f h,Ý P b g a=bB d e f/\mC l h a e f/\k9 P b c (k a) h d
section
variable{main:Bool}{Stop:Jd}
def jq{l:fh}(h:fp P main Stop l g):∃tr,k9 P main Stop tr l g:=by
 induction h with
 |fF h=>exact⟨.fF,h⟩
 |@jO l g G' W' E' L' jd h hd _ ih=>
  have b:∀a,∃tr,fK l l.w a->k9 P main Stop tr (L' a) (G' a):=by
   intro a;by_cases r:fK l l.w a
   .let⟨tr,q⟩:=ih a r;exact⟨tr,λ_=>q⟩
   .exact⟨.fF,λq=>absurd q r⟩
  refine⟨.jO λa=>Classical.choose<|b a,jd,λa r=>⟨G' a,W' a,E' a,L' a,h a r,hd a r,Classical.choose_spec (b a) r⟩⟩
end
def afK{l:fh}{c:Nat->Prop}(d:∀j,X j->l.O j)(f:∀j,c j->l.I j){e:ĉ}(h:Kv X c e):yq l e:=by
 rcases h with⟨a,g,i,b⟩|h|h
 .refine Æ ⟨a,g,?_⟩;rcases b with b|⟨b,k⟩
  .exact Æ<|d _ b
  .exact Í<|Í ⟨Æ<|f _ b,k,i⟩
 .exact Í<|Æ h
 .exact Í<|Í<|Æ h
def afL{b:Nat->Prop}(h:∀e∈V,Kv X b e)(d:Nat):Ε d V=d:=by
 refine bP (λe c=> ?_) d;rcases h e c with⟨a,g,_⟩|h|⟨f,h⟩
 .rw[g];exact⟨ft,ft⟩
 .rw[h];exact⟨ft,ft⟩
 .rw[h];exact⟨ft,ft⟩
def gM{w':È}(h:w'.heap[a.block]?=w.heap[a.block]?):w'.cell? a=w.cell? a:=by unfold Ĭ;rw[h]
def wT(h:u.heap[a.block]?=w.heap[a.block]?):u.frozen? a=w.frozen? a:=by unfold Ċ;rw[h]
def afM{t:(Nat->Prop)->Ô->È->Prop}{O:Nat->Prop}(h:vo P yQ X t O g w):∀l:fh,l.w=w->(∀j,O j->l.O j)->(∀j,X j->l.I j)->(∀j,l.O j->j<w.heap.size)->¬l.q-> fp P yQ (λa b=>∃f,t f b a.w/\(∀j,O j->f j)/\(∀j,f j->a.O j)/\(∀j,l.O j->a.O j)/\(∀j,a.O j->l.O j\/f j)/\(∀j,a.O j->l.O j\/w.heap.size<=j)/\a.I=l.I/\a.r=l.r/\a.N=l.N/\a.d=l.d/\a.q=l.q/\a.K=l.K) l g:=by
 induction h with
 |@fF O g w h=>
  intro l e i m _ _;refine .fF λb r=>⟨O,h b ⟨by rw[<-e];exact r.r,λj c=>by rw[r.I j (c.elim (λq=>Æ<|i j q) λq=>Í<|m j q),e]⟩,λ_ q=>q,i,λ_ q=>q,λ_ q=>Æ q,λ_ q=>Æ q,U,U,U,U,U,U⟩
 |@jO O g w G' W' E' f jd h hd _ ih=>
  intro l e i m C u;refine .mk jd λb r=> ?_;have n:ym (λj=>O j\/X j) w b:=⟨by rw[<-e];exact r.r,λj c=>by rw[r.I j (c.elim (λq=>Æ<|i j q) λq=>Í<|m j q),e]⟩;have D:=hd b n;have o:=n.r;have v:∀j,(l.O j\/f b j)->j<(W' b).heap.size:=λj c=>c.elim (λq=>Õ (C j q)<|ö o D.r)<|D.fx j;have p:∀j,j<b.heap.size->¬l.O j->(W' b).heap[j]?=b.heap[j]?:=λj c k=>D.jV j c λq=>k<|i j q;refine⟨G' b,W' b,E' b,{l with O:=λj=>l.O j\/f b j,w:=W' b},h b n,⟨D.r,λj c=>c.elim Æ λq=>(D.I j q).imp (i j) id,v,U,U,U,U,λj c k _=>p j c k,λa s k _=>gM<|p _ s k,λa s k=>wS<|p _ s k,D.N,D.S,D.Y,λx E=>afK (l:={l with O:=λj=>l.O j\/f b j,w:=W' b}) (λj q=>Í q) m<|D.C x E,(afL D.C _).symm,U,λq=>absurd q u,U⟩,?_⟩;have:=ih b n {l with O:=λj=>l.O j\/f b j,w:=W' b} U (λj q=>Í q) m v u;apply this.fQ;rintro N Q ⟨F,G,B,H,I,J,L,M⟩;refine⟨F,G,λj q=>B j<|D.M j q,H,λj q=>I j<|Æ q,λj q=> ?_,λj q=> ?_,M⟩
  .rcases J j q with(z|z)|z
   .exact Æ z
   .exact Í<|B j z
   .exact Í z
  .rcases L j q with(z|z)|z
   .exact Æ z
   .rcases D.I j z with y|y
    .exact Æ<|i j y
    .exact Í<|ö o y
   .exact Í<|ö (ö o D.r) z
def ky(a:Ü):ĉ:=⟨ć a,Â,Ë⟩
def mT(a:Ü):ĉ:=⟨ć a,Ë,Ë⟩
def jA(m:Mark):ĉ:=⟨Θ m,Â,Ë⟩
def gd:Int:=4294967296
def Eg(c:Nat):Array ĉ:=#[⟨.obj c,Â,Ë⟩,⟨.obj c,Ë,Ë⟩]
section
variable(P:Ù)(main:Bool)
def G4(m:Mark)(N:Jd):Jd:=λl g=>g.status=Ñ/\∃a,(∀b,Ý P main g b=bB a b #[jA m])/\fp P main N l a
def Xe(a:Ü)(N:Int->Jd):Jd:=λl g=>g.status=Ñ/\∀v,∃c,(∀b:È,b.cell? a=À (ē ë v)->Ý P main g b=bB c b #[ky a])/\fp P main (N v) l c
def Pt(a:Ü)(d:Int)(N:Int->Jd):Jd:=λl g=>g.status=Ñ/\∀v,∃c,(∀b:È,b.cell? a=À (ē ë v)->b.frozen? a=Â->Ý P main g b=bB c (b.setCell a<|ē ë<|ë.wrap<|v+d) #[ky a,mT a])/\N (ë.wrap<|v+d) l c
def afN(a:Ü)(v:Int)(N:Jd):Jd:=λl g=>g.status=Ñ/\∃c,(∀(b:È) (x:Int),b.cell? a=À (ē ë x)->b.frozen? a=Â->Ý P main g b=bB c (b.setCell a<|ē ë v) #[mT a])/\fp P main N l c
def afO(a:Ü)(N:Jd):Jd:=λl g=>g.status=Ñ/\g.offers=í/\(∀b:È,b.cell? a=À (ē ū 0)->Ý P main g b=bB {g with status:=Ζ} b #[])/\
 ∃c,(∀(b:È) (n:Int),n≠0->b.cell? a=À (ē ū n)->b.frozen? a=Â->Ý P main g b=bB c (b.setCell a<|ē ū<|n-1) (semEvents a))/\fp P main N l c
def afP(a:Ü)(N:Jd):Jd:=λl g=>g.status=Ñ/\mayWake P g=Ë/\∃c,c.status=Ñ/\(∀(b:È) (n:Int),b.cell? a=À (ē ū n)->b.frozen? a=Â->Ý P main g b=bB c (b.setCell a<|ē ū<|ū.wrap<|n+1) (semEvents a))/\N l c
def wU(c:Nat)(z:Ã)(N:Option Ã->Jd):Jd:=λl g=>g.status=Ñ/\g.offers=í/\(∀x,Ý P main g x=.comm g #[ar c z] Ë (.recv Ë) x #[])/\
 ∀x:Option Ã,fp P main (N x) l {g with frame:=g.frame.finish (η #[x.getD z,Ŏ x.isSome])}
def Ay(c:Nat)(v:Ã)(N:Jd):Jd:=λl g=>g.status=Ñ/\g.offers=í/\(∀a,∃b,Ý P main g a=.comm g #[scase c v b] Ë .send a #[])/\fp P main N l {g with frame:=g.frame.finish ŏ}
def KI(c:Nat)(N:Jd):Jd:=λl g=>g.status=Ñ/\mayWake P g=Ë/\∃a,a.status=Ñ/\(∀(b:È) cap buf s r tm,b.heap[c]?=À (aF cap buf Â s r tm)->Ý P main g b=bB a (b.setChan c cap buf Ë s r tm) (Eg c))/\fp P main N l a
def oS(n:Nat):Jd:=λl g=>QuitsD P n l.d g
inductive SP where
 |gk (n:Nat)
 |ld (v:Int) (m:Nat)
def Eh(a:Ü)(B:Nat)(d e:Int->Jd)(p:SP):Jd:=λl g=>∃T:SP->Ô->Prop,T p g/\∀p g,T p g->g.status=Ñ/\match p with
 |.gk (n+1)=>n+1<=B/\(T (.gk 0) g\/∀b,∃c,Ý P main g b=bB c b #[]/\T (.gk n) c)
 |.gk 0=>∀v,∃c,(∀b:È,b.cell? a=À (ē ë v)->Ý P main g b=bB c b #[ky a])/\(if 0<=v/\v<gd then v<1000000->fp P main (d v) l c else(gd<=v/\v<gd*2147483648/\v%gd<1000000)->∃m,m<=B/\T (.ld v m) c)
 |.ld v (m+1)=>gd<=v/\m+1<=B/\(T (.ld v 0) g\/∀b,∃c,Ý P main g b=bB c b #[]/\T (.ld v m) c)
 |.ld v 0=>gd<=v/\(∃c,(∀b:È,b.cell? a=À (ē ë v)->b.frozen? a=Â->Ý P main g b=bB c (b.setCell a<|ē ë<|ë.wrap<|v+1) #[ky a,mT a])/\fp P main (e v) l c)/\
  ∃c,(∀(b:È) (x:Int),x≠v->b.cell? a=À (ē ë x)->b.frozen? a=Â->Ý P main g b=bB c b #[ky a])/\∃n,n<=B/\T (.gk n) c
end
section
variable{P:Ù}{main:Bool}
def KJ{e f:Int->Jd}{p:SP}{l:fh}{w₁:È}(h:Eh P main a i e f p l g)(r:fK l l.w w₁):Eh P main a i e f p {l with w:=w₁} g:=by
 let⟨T,o,h⟩:=h;refine⟨T,o,λp g j=>⟨(h p g j).1,?_⟩⟩;have:=(h p g j).2;match p,this with
 |.gk (n+1),q=>exact q
 |.gk 0,q=>
  intro v;let⟨c,d,b⟩:=q v;refine⟨c,d,?_⟩;by_cases k:0<=v/\v<gd
  .rw[if_pos k]at b|-;exact λq=>(b q).jP r
  .rw[if_neg k]at b|-;exact b
 |.ld v (m+1),q=>exact q
 |.ld v 0,⟨q0,⟨c,d,b⟩,q⟩=>exact⟨q0,⟨c,d,b.jP r⟩,q⟩
end
inductive iB where
 |no|iC|sV (c:Nat) (z:Ã)
inductive wV(g0:Ô):iB->Ô->Prop
 |gp {k:iB}:wV g0 k g0
 |nZ (h:g0.status=Ñ) (ho:g0.offers=í):wV g0 .iC {g0 with status:=Ζ}
 |tX (c:Nat) (z:Ã) (h:g0.status=Ñ):wV g0 (.sV c z) (ν g0 #[ar c z]<|.recv Ë)
 |nu (c:Nat) (z:Ã) (h:g0.status=Ñ):wV g0 (.sV c z) {ν g0 #[ar c z] (.recv Ë)with status:=Ñ}
section
variable{P:Ù}
def afQ(h:g.status=Ñ\/g.status=Ī)(w:È):g.again w=g:=by unfold au;rcases h with h|h<;>rw[h]
def Pu{a o:Ô}(h:o.status=Ñ\/o.status=Ī):Ź P g a w o=o:=by
 unfold Ź;split
 .exact afQ h _
 .rfl
def wV.G5{g0 a b:Ô}{k:iB}(h:wV g0 k g)(d:g0.status=Ñ\/g0.status=Ī):wV g0 k (Ź P a b w g):=by
 cases h with
 |gp=>rw[Pu d];exact .gp
 |nZ h c=>
  unfold Ź;split
  .have:au w {g0 with status:=Ζ}=g0:=by
    let⟨z,e,st,f,i⟩:=g0;simp only at h c;subst h c;rfl
   rw[this];exact .gp
  .exact .nZ h c
 |tX c z h=>
  unfold Ź;split
  .unfold au ν;simp only[];split
   .exact .nu c z h
   .exact .tX c z h
  .exact .tX c z h
 |nu c z h=>
  rw[Pu<|Æ U];exact .nu c z h
end
structure gN(P:Ù)(B0:Nat)(Y:Nat->Prop)(S:Nat->Jd)(tr:Nat->gy)(kp:Nat->iB)(lot:Nat->fh)(gs:Array Ô)(w:È)(t:ī):Prop where
 r:iT B0 (λi=>i<gs.size) Y lot w t
 C:∀i g,gs[i]?=À g->∃g0,k9 P (i==0) (S i) (tr i) (lot i) g0/\wV g0 (kp i) g/\(g0.status=Ñ\/g0.status=Ī)/\(g=g0\/tr i=.fF)
 I:∀j,gs.size<=j->af t j=0
def fA{α:Type}(f:Nat->α)(i:Nat)(x:α):Nat->α:=λk=>if k=i then x else f k
def gD{α:Type}(f:Nat->α)(i:Nat)(x:α):fA f i x i=x:=if_pos U
def fL{α:Type}(f:Nat->α)(x:α)(h:k≠i):fA f i x k=f k:=if_neg h
section
variable{P:Ù}{B0:Nat}{Y:Nat->Prop}{S:Nat->Jd}{tr:Nat->gy}{kp:Nat->iB}{lot:Nat->fh}{gs:Array Ô}{w':È}{t:ī}{sl:Option (Nat×Nat)}
def Pv{a:Ô}(b:gs[i]?=À g)(h:Ý P (i==0) g w=bB a w' V): ∃gs',dz P (ņ gs w sl) i=(ń<|ņ gs' w' sl,Ï i g.frame.fn g.frame.place V)/\gs'.size=gs.size/\gs'[i]?=À a/\∀k,k≠i->gs'[k]?=gs[k]?.map (Ź P g a w'):=by have c:=(Ä.1 b).1;refine⟨_,runT_crowd_go b h,ft,by simp[c],λk d=> ?_⟩;rw[É<|ă d,Array.getElem?_map]
def gN.at(a:gN P B0 Y S tr kp lot gs w t)(d:Nat):gN P B0 Y S tr kp lot gs (w.at d) t:=⟨a.r.at d,a.C,a.I⟩
def gN.Xf(h:gN P B0 Y S tr kp lot gs w t){b:Ô}{J:Jd}{T:gy}{K:iB}{d:fh}(l:gs[i]?=À g)(p:Ý P (i==0) g w=bB b w' V) (q:iT B0 (λi=>i<gs.size) Y (gw lot i d) w' (t++Ï i g.frame.fn g.frame.place V)) (hF:k9 P (i==0) J T d b) (r:b.status=Ñ\/b.status=Ī): ∃a,dz P (ņ gs w sl) i=(ń<|ņ a w' sl,Ï i g.frame.fn g.frame.place V)/\a.size=gs.size/\a[i]?=À b/\(∀k,k≠i->a[k]?=gs[k]?.map (Ź P g b w'))/\ gN P B0 Y (fA S i J) (fA tr i T) (fA kp i K) (gw lot i d) a w' (t++Ï i g.frame.fn g.frame.place V):=by
 obtain⟨a,s,m,n,o⟩:=Pv l p;have C:=(Ä.1 l).1;refine⟨a,s,m,n,o,?_,λk x c=> ?_,λj D=> ?_⟩
 .rwa[show(λi=>i<a.size)=(λi=>i<gs.size) by rw[m]]
 .by_cases e:k=i
  .subst e;rw[n]at c;obtain rfl:=ą c;rw[gD,gD,gD,gY];exact⟨b,hF,.gp,r,Æ U⟩
  .rw[o k e]at c;obtain⟨y,u,rfl⟩:=đ.1 c;rw[fL S _ e,fL tr _ e,fL kp _ e,gJ lot _ e];let⟨g0,v,z,f,B⟩:=h.C k y u;refine⟨g0,v,z.G5 f,f,B.imp (λe=> ?_) id⟩;subst e;exact Pu f
 .rw[Pr Z t oB];exact h.I j Z
def afR{J:Jd}{k:È->gy}{l:fh}(h:k9 P yQ J (.jO k) l g):g.status=Ñ:=h.1
def gN.fu(f:gN P B0 Y S tr kp lot gs w t){k:È->gy}(m:gs[i]?=À g)(n:tr i=.jO k)(s:∀l g,S i l g->g.status=Ñ\/g.status=Ī): ∃c w' d h,dz P (ņ gs w sl) i=(ń<|ņ c w' sl,Ï i g.frame.fn g.frame.place d)/\c.size=gs.size/\(∃b,c[i]?=À b/\(b.status=Ñ\/b.status=Ī))/\(∀k,k≠i->∃a j:Ô,c[k]?=gs[k]?.map (Ź P a j w'))/\mC (lot i) h w w' d/\ gN P B0 Y S (fA tr i<|k w) kp (gw lot i h) c w' (t++Ï i g.frame.fn g.frame.place d):=by
 have o:=(Ä.1 m).1;let⟨g0,hF,F,_,u⟩:=f.C i g m;obtain rfl:g=g0:=u.resolve_right (by rw[n];simp);rw[n]at hF;let⟨G,hF⟩:=hF;let⟨b,w',d,h,v,p,e⟩:=hF w<|f.r.r i o;have q:b.status=Ñ\/b.status=Ī:=by
  cases j:k w with
  |fF=>rw[j]at e;exact s _ _<|e _<|fK.fW _ _
  |jO r=>rw[j]at e;exact Æ e.1
 obtain⟨c,x,y,z,B,r⟩:=f.Xf m v (f.r.afI o p _ _) e q;refine⟨c,w',d,h,x,y,⟨b,z,q⟩,λj C=>⟨g,b,B j C⟩,p,?_⟩;have D:fA S i (S i)=S:=by funext j;unfold fA;split<;>simp[*]
 have E:fA kp i (kp i)=kp:=by funext j;unfold fA;split<;>simp[*]
 rwa[D,E]at r
def gN.qR(c:gN P B0 Y S tr kp lot gs w t){a:Ô}{J:Jd}{K:iB}{T:gy}(m:gs[i]?=À g)(n:Ý P (i==0) g w=bB a w' V)(o:qa (λi=>i<gs.size) Y lot w w') (hF:k9 P (i==0) J T {lot i with d:=Ε (lot i).d V,w:=w'} a) (p:a.status=Ñ\/a.status=Ī) (j:∀e∈V,(∀b,(ì e).touch?=À b->G3 (λi=>i<gs.size) Y lot b)/\(ì e).low w.heap.size) (q:∀r,¬eZ r (t++Ï i g.frame.fn g.frame.place V)): ∃gs',dz P (ņ gs w sl) i=(ń<|ņ gs' w' sl,Ï i g.frame.fn g.frame.place V)/\gs'.size=gs.size/\gs'[i]?=À a/\(∀k,k≠i->gs'[k]?=gs[k]?.map (Ź P g a w'))/\ gN P B0 Y (fA S i J) (fA tr i T) (fA kp i K) (gw lot i {lot i with d:=Ε (lot i).d V,w:=w'}) gs' w' (t++Ï i g.frame.fn g.frame.place V):=by
 refine c.Xf m n (c.r.G (λk=> ?_) o (λh f b s=> ?_) (λh f=> ?_) q λk l=> ?_) hF p
 .by_cases e:k=i
  .subst e;rw[gY];exact⟨U,U,U,U,U,Í U⟩
  .rw[gJ lot _ e];exact vu.fW _ _
 .obtain⟨e,h,rfl⟩:=ï f;exact(j e h).1 b s
 .obtain⟨e,h,rfl⟩:=ï f;exact(j e h).2
 .by_cases e:k=i
  .subst e;rw[gY,Deaf_own,c.r.f k l]
  .rw[gJ lot _ e,Pr e t oB];exact c.r.f k l
def gN.Px(h:gN P B0 Y S tr kp lot gs w t)(p:gs[i]?=À g)(x:i≠0)(l:g.status=Ñ)(q:kp i=.no)(y:tr i=.fF)(z:S i=oS P n): ∃c f b,n=b+1/\dz P (ņ gs w sl) i=(ń<|ņ c w sl,Ï i g.frame.fn g.frame.place f)/\c.size=gs.size/\(∀k,k≠i->∃a e:Ô,c[k]?=gs[k]?.map (Ź P a e w))/\(∀e∈f,e.mute=Ë)/\ gN P B0 Y (fA S i<|oS P b) tr kp (gw lot i {lot i with d:=Ε (lot i).d f,w:=w}) c w (t++Ï i g.frame.fn g.frame.place f):=by
 have B:=(Ä.1 p).1;let⟨g0,hF,r,M,_⟩:=h.C i g p;have C:g=g0:=by
  rw[q]at r;cases r with
  |gp=>rfl
 subst C;rw[y,z]at hF;have s:=hF w<|h.r.r i B;cases n with
 |zero=>rw[s.1]at l;cases l
 |succ n=>
  rcases s with⟨D,_⟩|⟨_,E,f,a,F,u⟩
  .rw[D]at l;cases l
  have m:(i==0)=Â:=by simpa using x
  have G:fA kp i .no=kp:=by funext j;unfold fA;split<;>simp[*]
  have H:fA tr i .fF=tr:=by funext j;unfold fA;split<;>simp[*]
  obtain⟨c,I,K,_,L,v⟩:=h.qR (J:=oS P n) (T:=.fF) p (by rw[m];exact F w) (qa.fW _ _ _ _) (λ_ _=>u) u.status (λe o=>⟨λb m=>(by rw[eM<|a e o]at m;cases m),low_mute (a e o) _⟩) (Ax h.r.l λN b=>by obtain⟨e,o,rfl⟩:=ï b;exact eM<|a e o);rw[G,H]at v;exact⟨c,f,n,U,I,K,λk q=>⟨g,E,L k q⟩,a,v⟩
end
def wW(u:ī):Prop:=∀a∈u,a.act.touch?=í/\∀m,a.act≠Ŭ m
def afS(t:ī)(a:dA)(c:a.act≠Ŭ dh)(d:a.act≠Ŭ dR)(j:Nat):af (t.push a) j=af t j:=by
 have e:t.push a=t++#[a]:=ft
 have f:(t++#[a]).deaf j t.size=t.deaf j t.size:=dm<|á _;unfold af;rw[e,show(t++#[a]).size=t.size+1 by simp];show(match(t++#[a])[t.size]? with
  |some {g:=h,act:=Ŭ dh, .. }=>if h=j then(t++#[a]).deaf j t.size+1 else(t++#[a]).deaf j t.size
  |some {g:=h,act:=Ŭ dR, .. }=>if h=j then(t++#[a]).deaf j t.size-1 else(t++#[a]).deaf j t.size
  |_=>(t++#[a]).deaf j t.size)=_
 have i:(t++#[a])[t.size]?=À a:=ft
 rw[i];let⟨g,k,l,m⟩:=a;simp only at c d;split
 .rename_i b;cases b;exact absurd U c
 .rename_i b;cases b;exact absurd U d
 .exact f
def Xg(t:ī):∀(u:List dA),(∀a∈u,a.act≠Ŭ dh/\a.act≠Ŭ dR)->∀j,af (t++u.toArray) j=af t j
 |[],_,j=>by simp
 |a::u,h,j=>by
  have e:t++(a::u).toArray=(t.push a)++u.toArray:=by apply Array.ext';simp
  rw[e,Xg (t.push a) u (λx b=>h x<|by simp[b]) j];exact afS t a (h a ft).1 (h a ft).2 j
def KL{u:ī}(h:wW u)(j:Nat):af (qJ++u) j=af qJ j:=by have:=Xg qJ u.toList (λa b=>⟨(h a<|by simpa using b).2 _,(h a<|by simpa using b).2 _⟩) j;simpa using this
section
variable{S:Nat->Jd}{C:Nat->gy}{B:Nat->iB}{lot:Nat->fh}{u:ī}{sl:Option (Nat×Nat)}
def iT.afT{Live:Nat->Prop}(h:iT i Live X lot w qJ)(f:qa Live X lot w W)(c:wW u)(g:∀a∈u,a.act.low w.heap.size):iT i Live X lot W (qJ++u):= h.G (λk=>vu.fW _ _) f (λa d b e=>by rw[(c a d).1]at e;cases e) g (Ax h.l λa d=>(c a d).1) λk b=>by rw[KL c];exact h.f k b
def KM{Live:Nat->Prop}{r:Nat}{x:Bool}(y:X i)(p:w.heap[i]?=À (aF n d yQ j r x))(f g h:Nat)(l:Array Ã)(m o:Bool):qa Live X lot w (w.setChan i f l m g h o):=by
 have z:=(Ä.1 p).1;have q:∀b,b≠i->(w.setChan i f l m g h o).heap[b]?=w.heap[b]?:=λb u=>by unfold aS;simp only;exact É<|ă u
 have v:(w.setChan i f l m g h o).heap[i]?=À (aF f l m g h o):=by unfold aS;simp[z]
 refine⟨by unfold aS;simp,λb u=>q b λe=>u<|e▸y,λk _ a _=> ?_,λk _ a _=> ?_,λa t=> ?_⟩
 .by_cases e:a.block=i
  .unfold Ĭ;rw[e,v,p]
  .unfold Ĭ;rw[q _ e]
 .by_cases e:a.block=i
  .unfold Ċ;rw[e,v,p]
  .unfold Ċ;rw[q _ e]
 .by_cases e:a.block=i
  .unfold Ĭ at t;rw[e,p]at t;cases t
  .have:(w.setChan i f l m g h o).cell? a=w.cell? a:=by unfold Ĭ;rw[q _ e]
   rwa[this]
def gN.G(b:gN P i X S C B lot E w qJ){J:Jd}{T:gy}{K:iB}(d:n<E.size)(f:qa (λn=>n<E.size) X lot w W)(c:wW u)(h:∀l∈u,l.act.low w.heap.size) (hF:k9 P (n==0) J T (lot n) g) (m:g.status=Ñ\/g.status=Ī): gN P i X (fA S n J) (fA C n T) (fA B n K) lot (E.setIfInBounds n g) W (qJ++u):=by
 refine⟨?_,λk x a=> ?_,λj o=> ?_⟩
 .rw[show(λj=>j<(E.setIfInBounds n g).size)=(λj=>j<E.size) by simp];exact b.r.afT f c h
 .by_cases e:k=n
  .subst e;rw[Ó d]at a;obtain rfl:=ą a;rw[gD,gD,gD];exact⟨_,hF,.gp,m,Æ U⟩
  .rw[É<|ă e]at a;rw[fL S _ e,fL C _ e,fL B _ e];exact b.C k x a
 .rw[KL c];exact b.I j<|by simpa using o
def Py{γ δ:Type}{f:γ->List δ}:∀{l:List γ},(∀x∈l,f x=[])->l.flatMap f=[]
 |[],_=>rfl
 |x::l,h=>by rw[bD,h x ft,Py λy a=>h y (by simp[a])];rfl
def yr(r:Nat)(b:Bool)(g:Ô):Prop:=g.status=Ζ/\∃a d,g.offers=À (a,d)/\∃c∈a,(c.send.isSome==b)=Ë/\(match c.chan with|eO (À r')=>r'==r|_=>Â)=Ë
def Xh{r:Nat}{E:Array Ô}(h:∀(i:Nat) (g:Ô),E[i]?=À g->¬yr r yQ g):ο E r yQ=[]:=by
 unfold ο;refine Py λx f=> ?_;let⟨g,i⟩:=x;have j:E[i]?=À g:=by have b:=ŭ.1 f;rwa[Į]at b
 simp only[];split
 .rename_i d l m n;rw[aO,ag];intro y o a;let⟨c,k⟩:=y;have p:c∈d:=by
   have e:=ŭ.1 o;rw[Į]at e;exact Ø e
  simp only[ĕ]at a;exact h i g j ⟨m,d,l,n,c,p,a.1,by have:=a.2;revert this;cases c.chan<;>first|exact id|(rename_i q;cases q<;>exact id)⟩
 .rfl
def Xi{γ δ:Type}(f:γ×Nat->List δ):∀(L:List γ) (n h:Nat) (x:γ),(∀y k,k≠h->(y,k)∈L.zipIdx n->f (y,k)=[])->n<=h->L[h-n]?=À x->(L.zipIdx n).flatMap f=f (x,h)
 |[],n,h,x,_,_,hx=>by simp at hx
 |a::L,n,h,x,hf,hn,hx=>by
  rw[Ĺ,bD];by_cases e:h=n
  .subst e;have:a=x:=by simpa using hx
   subst this;rw[Py ?_,List.append_nil];intro y b;let⟨y,k⟩:=y;refine hf y k ?_ (by rw[Ĺ];exact õ _ b);have:=List.le_snd_of_mem_zipIdx b;simp only at this;omega
  .rw[hf a n Z (by rw[Ĺ];exact ð ..),List.nil_append];refine Xi f L (n+1) h x (λy k c b=>hf y k c<|by rw[Ĺ];exact õ _ b) Z ?_;have b:h-n=(h-(n+1))+1:=Z
   rw[b]at hx;simpa using hx
def afU{E:Array Ô}(o:E[n]?=À g)(p:g.status=Ζ)(r:g.offers=À (#[ar i z],.recv Ë))(s:∀(a:Nat) (b:Ô),a≠n->E[a]?=À b->¬yr i Â b):ο E i Â=[(n,0)]:=by
 unfold ο;have e:E.zipIdx.toList=E.toList.zipIdx:=ft
 rw[e];rw[Xi _ E.toList 0 n g (λy k t j=> ?_) (dT _) (by simpa using o)]
 .simp[p,r,ar]
 .have u:E[k]?=À y:=by
   rw[List.mem_zipIdx_iff_getElem?]at j;simpa using j
  simp only[];split
  .rename_i l v w B;rw[aO,ag];intro x C d;let⟨f,F⟩:=x;have D:f∈l:=by
    have m:=ŭ.1 C;rw[Į]at m;exact Ø m
   simp only[ĕ]at d;exact s k y t u ⟨w,l,v,B,f,D,d.1,by have:=d.2;revert this;cases f.chan<;>first|exact id|(rename_i q;cases q<;>exact id)⟩
  .rfl
def Pz(h:(E.setIfInBounds i ph)[k]?=À g):g.status=Ī\/(k≠i/\E[k]?=À g):=by
 by_cases e:k=i
 .subst e;rw[Đ]at h;simp only[if_true]at h;split at h
  .left;obtain rfl:=ą h;rfl
  .cases h
 .rw[É<|ă e]at h;exact Í ⟨e,h⟩
def gN.PE(l:gN P i X S C B lot E w qJ)(c a:Nat):ο (E.setIfInBounds a ph) c Ë=[]:=by
 refine Xh λk x m=> ?_;rintro⟨b,p,r,d,n,f,o,_⟩;rcases Pz m with q|⟨_,q⟩
 .rw[q]at b;cases b
 .let⟨g0,_,g,j,_⟩:=l.C k x q;generalize B k=K at g;cases g with
  |gp=>rw[b]at j;rcases j with e|e<;>cases e
  |nZ h e=>simp only[e]at d;cases d
  |tX e z h=>
   simp only[ν,ζ,Prod.mk.injEq]at d;rw[<-d.1]at f;have:n=ar e z:=by simpa using f
   subst this;cases o
  |nu e z h=>cases b
def gN.PF(f:gN P i X S C B lot E w qJ){N:Option Ã->Jd}(b:E[n]?=À g)(k:g.status=Ñ)(l:B n=.sV j z)(m:C n=.fF)(o:S n=wU P (n==0) j z N): ∃a,k9 P (n==0) (S n) (C n) (lot n) a/\a.status=Ñ/\a.offers=í/\Ý P (n==0) g w=.comm a #[ar j z] Ë (.recv Ë) w #[]/\∀x:Option Ã,fp P (n==0) (N x) (lot n) {a with frame:=a.frame.finish (η #[x.getD z,Ŏ x.isSome])}:=by
 have t:=(Ä.1 b).1;let⟨a,hF,d,_,_⟩:=f.C n g b;have p:=hF;rw[o,m]at hF;have q:=hF _<|fK.fW _ _;let⟨x,r,e,s⟩:=q;rw[l]at d;refine⟨a,p,x,r,?_,s⟩;cases d with
 |gp=>exact e w
 |tX j z h=>cases k
 |nu j z h=>rw[stepG_tries];rw[show({a with status:=Ñ}:Ô)=a by cases a;simp only at x;subst x;rfl];exact e w
def yt{g0:Ô}{a:Array CommCase}{b:CommShape}{ok:Bool}(c:g0.status=Ñ)(d:g0.offers=í):g0.finishComm P a b h v ok={g0 with frame:=g0.frame.finish (commResult a b h v ok)}:=by let⟨f,a,st,e,o⟩:=g0;simp only at c d;subst c d;rfl
def gN.nz(e:gN P i X S C B lot E w qJ){N:Option Ã->Jd}(h:E[n]?=À g)(G:g.status=Ñ)(l:B n=.sV j z)(H:C n=.fF)(I:S n=wU P (n==0) j z N)(p:X j){r:Nat}{o:Bool}(q:w.heap[j]?=À (aF b d yQ m r o))(t:d[0]?=À v)(K:iB): ∃a u T f,dz P (ņ E w sl) n=(ń<|ņ a (w.setChan j b (d.extract 1 d.size) yQ m (r+1) o) sl,u)/\a.size=E.size/\a[n]?=À f/\f.status=Ñ/\(∀k,k≠n->a[k]?=E[k]?)/\wW u/\ gN P i X (fA S n<|N<|À v) (fA C n T) (fA B n K) lot a (w.setChan j b (d.extract 1 d.size) yQ m (r+1) o) (qJ++u):=by
 have x:=(Ä.1 h).1;have J:=e.r.N j p;let⟨g0,_,f,y,L,M⟩:=e.PF h G l H I;have O:=(Ä.1 t).1;have D:d.getD 0 ŏ=v:=by simp[Ĵ,t]
 have Q:=crowd_recv_buf (sl:=sl) h L q O<|e.PE j n;let⟨T,V⟩:=jq<|M<|À v;refine⟨_,_,T,{g0 with frame:=g0.frame.finish (η #[v,Ŏ Ë])},Q,ft,?_,f,λk l=>É<|ă l,?_,?_⟩
 .rw[yt f y,D,Ó x];rfl
 .intro F a;simp[Ï]at a;rcases a with rfl|rfl<;>exact⟨U,ft⟩
 .rw[yt f y,D];refine e.G x (KM p q _ _ _ _ _ _) ?_ ?_ V<|Æ f
  .intro F a;simp[Ï]at a;rcases a with rfl|rfl<;>exact⟨U,ft⟩
  .intro F a;simp[Ï]at a;rcases a with rfl|rfl<;>exact J
def gN.jj(e:gN P i X S C B lot E w qJ){N:Option Ã->Jd}(h:E[n]?=À g)(q:g.status=Ñ)(l:B n=.sV j z)(t:C n=.fF)(v:S n=wU P (n==0) j z N)(x:X j){r:Nat}(y:w.heap[j]?=À (aF b #[] Ë k r yQ))(K:iB): ∃d u T f,dz P (ņ E w sl) n=(ń<|ņ d w sl,u)/\d.size=E.size/\d[n]?=À f/\f.status=Ñ/\(∀a,a≠n->d[a]?=E[a]?)/\wW u/\ gN P i X (fA S n<|N í) (fA C n T) (fA B n K) lot d w (qJ++u):=by
 have m:=(Ä.1 h).1;have D:=e.r.N j x;let⟨g0,_,f,o,F,G⟩:=e.PF h q l t v;have H:=crowd_recv_closed (sl:=sl) h F y<|e.PE j n;let⟨T,I⟩:=jq<|G í;refine⟨_,_,T,{g0 with frame:=g0.frame.finish (η #[z,Ŏ Â])},H,ft,?_,f,λa l=>É<|ă l,?_,?_⟩
 .rw[yt f o,Ó m];rfl
 .intro p d;simp[Ï]at d;subst d;exact⟨U,ft⟩
 .rw[yt f o];refine e.G m (qa.fW _ _ _ _) ?_ ?_ I<|Æ f
  .intro p d;simp[Ï]at d;subst d;exact⟨U,ft⟩
  .intro p d;simp[Ï]at d;subst d;exact D
def gN.afV(f:gN P i X S C B lot E w qJ){N:Option Ã->Jd}(m:E[n]?=À g)(u:g.status=Ñ)(h:B n=.sV j z)(o:C n=.fF)(v:S n=wU P (n==0) j z N){r:Nat}(p:w.heap[j]?=À (aF b #[] Â k r yQ)): ∃d e,dz P (ņ E w sl) n=(ń<|ņ d w sl,#[])/\d.size=E.size/\d[n]?=À e/\e.status=Ζ/\(∀a,a≠n->d[a]?=E[a]?)/\gN P i X S C B lot d w qJ:=by
 have q:=(Ä.1 m).1;let⟨g0,hF,t,H,y,I⟩:=f.PF m u h o v;have D:=f.PE j n;have F:=crowd_waits (sl:=sl) m y (λd e=>by
  have:d=ar j z:=by simpa using e
  subst this;exact⟨by simp[illMade,ar,p],by simp[ways,ar,p,D]⟩)
 refine⟨_,ν g0 #[ar j z]<|.recv Ë,?_,ft,Ó q,U,λa h=>É<|ă h,?_,λa x l=> ?_,λd G=>f.I d<|by simpa using G⟩
 .rw[F];rfl
 .rw[show(λd=>d<(E.setIfInBounds n<|ν g0 #[ar j z]<|.recv Ë).size)=(λd=>d<E.size) by simp];exact f.r
 .by_cases e:a=n
  .subst e;rw[Ó q]at l;obtain rfl:=ą l;refine⟨g0,hF,?_,Æ t,Í o⟩;rw[h];exact .tX j z t
  .rw[É<|ă e]at l;exact f.C a x l
def gN.iL(f:gN P i X S C B lot E w qJ){N:Jd}(h:E[n]?=À g)(l:B n=.no)(F:C n=.fF)(G:S n=Ay P (n==0) b v N)(p:X b){r:Nat}(t:w.heap[b]?=À (aF m d Â J r yQ))(H:d.size<m) (I:∀(k:Nat) (x:Ô),E[k]?=À x->¬yr b Â x): ∃e u T a,dz P (ņ E w sl) n=(ń<|ņ e (w.setChan b m (d.push v) Â (J+1) r yQ) sl,u)/\e.size=E.size/\e[n]?=À a/\a.status=Ñ/\(∀k,k≠n->e[k]?=E[k]?)/\wW u/\ gN P i X (fA S n N) (fA C n T) B lot e (w.setChan b m (d.push v) Â (J+1) r yQ) (qJ++u):=by
 have y:=(Ä.1 h).1;have K:=f.r.N b p;let⟨g0,hF,z,_,_⟩:=f.C n g h;rw[l]at z;cases z with
 |gp=>
  rw[G,F]at hF;let⟨a,D,o,L⟩:=hF _<|fK.fW _ _;let⟨Y,o⟩:=o w;have M:ο (E.setIfInBounds n ph) b Â=[]:=Xh λk x O=>by
   rcases Pz O with q|⟨_,q⟩
   .rintro⟨e,_⟩;rw[q]at e;cases e
   .exact I k x q
  have Q:=crowd_send_room (sl:=sl) h o t H M;let⟨T,V⟩:=jq L;have W:fA B n .no=B:=by funext j;unfold fA;split<;>simp[*]
  refine⟨_,_,T,{g with frame:=g.frame.finish ŏ},Q,ft,?_,a,λk l=>É<|ă l,?_,?_⟩
  .rw[yt a D,Ó y];rfl
  .intro q e;simp[Ï]at e;rcases e with rfl|rfl<;>exact⟨U,ft⟩
  .rw[yt a D,<-W];refine f.G y (KM p t _ _ _ _ _ _) ?_ ?_ V<|Æ a
   .intro q e;simp[Ï]at e;rcases e with rfl|rfl<;>exact⟨U,ft⟩
   .intro q e;simp[Ï]at e;rcases e with rfl|rfl<;>exact K
def gN.afW(o:gN P i X S C B lot E w qJ){p:Ô}{N:Jd}{D:Option Ã->Jd}(F:E[n]?=À g)(f:B n=.no)(ht:C n=.fF)(hs:S n=Ay P (n==0) b v N)(L:X b){r:Nat}(M:w.heap[b]?=À (aF J d Â j9 r yQ)) (G:j≠n) (t:E[j]?=À p) (O:p.status=Ζ) (KN:B j=.sV b z) (PG:C j=.fF) (KO:S j=wU P (j==0) b z D) (K:iB) (hp:∀(k:Nat) (x:Ô),k≠j->E[k]?=À x->¬yr b Â x): ∃e u T y h q,dz P (ņ E w sl) n=(ń<|ņ e (w.setChan b J d Â (j9+1) (r+1) yQ) sl,u)/\e.size=E.size/\e[n]?=À h/\h.status=Ñ/\e[j]?=À q/\q.status=Ñ/\(∀k,k≠n->k≠j->e[k]?=E[k]?)/\wW u/\ gN P i X (fA (fA S j<|D<|À v) n N) (fA (fA C j y) n T) (fA (fA B j K) n .no) lot e (w.setChan b J d Â (j9+1) (r+1) yQ) (qJ++u):=by
 have Q:=(Ä.1 F).1;have V:=(Ä.1 t).1;have G6:=o.r.N b L;let⟨g0,hF,W,_,_⟩:=o.C n g F;let⟨a,Y,Xj,as6,_⟩:=o.C j p t;rw[f]at W;rw[KN]at Xj;cases W with
 |gp=>
  rw[hs,ht]at hF;let⟨H,h2,I,h4⟩:=hF _<|fK.fW _ _;let⟨z',I⟩:=I w;rw[KO,PG]at Y;let⟨l,k2,k3,k4⟩:=Y _<|fK.fW _ _;have Ei:p=ν a #[ar b z] (.recv Ë):=by
   cases Xj with
   |gp=>rw[O]at l;cases l
   |tX _ _ h=>rfl
   |nu _ _ h=>cases O
  subst Ei;have hpn:ο (E.setIfInBounds n ph) b Â=[(j,0)]:=afU (by rwa[É<|ă G]) U U λk x f hx=>by
   rcases Pz hx with q|⟨_,q⟩
   .rintro⟨e,_⟩;rw[q]at e;cases e
   .exact hp k x f q
  have PH:=crowd_send_meets (sl:=sl) F I M G t hpn;let⟨T,hT⟩:=jq h4;let⟨y,hTj⟩:=jq<|k4<|À v;rw[yt H h2,yt l k2]at PH;have q:∀{h:dA},h∈Ï n g.frame.fn g.frame.place #[]++#[{g:=n,fn:=g.frame.fn,pos:=g.frame.place,act:=.send b j9},{g:=j,fn:=a.frame.fn,pos:=a.frame.place,act:=.recv b r J},{g:=n,fn:=g.frame.fn,pos:=g.frame.place,act:=.sendDone b j9},{g:=j,fn:=a.frame.fn,pos:=a.frame.place,act:=.recvDone b r}]->(h.act.touch?=í/\∀m,h.act≠Ŭ m)/\h.act.low w.heap.size:=by intro h e;simp[Ï]at e;rcases e with rfl|rfl|rfl|rfl<;>exact⟨⟨U,ft⟩,G6⟩
  refine⟨_,_,T,y,{g with frame:=g.frame.finish ŏ},{a with frame:=a.frame.finish (η #[v,Ŏ Ë])},PH,ft,?_,H,?_,l,λk f tY=> ?_,λh e=>(q e).1,?_⟩
  .rw[Ó (by simpa using Q)];rfl
  .rw[É<|ă G,Ó V];rfl
  .rw[É<|ă f,É<|ă tY]
  .have m:gN P i X (fA S j<|D<|À v) (fA C j y) (fA B j K) lot (E.setIfInBounds j {a with frame:=a.frame.finish (η #[v,Ŏ Ë])}) w (qJ++#[]):=o.G V (qa.fW _ _ _ _) (λh e=>by simp at e) (λh e=>by simp at e) hTj<|Æ l;rw[Ě]at m;refine m.G (by simpa using Q) ?_ (λh e=>(q e).1) (λh e=>(q e).2) hT<|Æ H;exact KM L M _ _ _ _ _ _
def gN.kV(o:gN P i X S C B lot E w qJ){N:Jd}(I:E[n]?=À g)(K:B n=.no)(ht:C n=.fF)(hs:S n=KI P (n==0) J N)(L:X J)(hB:i<=J){r:Nat}(O:w.heap[J]?=À (aF j9 q Â j7 r yQ)): ∃t u T G,dz P (ņ E w sl) n=(ń<|ņ t (w.setChan J j9 q Ë j7 r yQ) sl,u)/\t.size=E.size/\t[n]?=À G/\G.status=Ñ/\(∀k x,k≠n->E[k]?=À x->t[k]?=À (x.again<|w.setChan J j9 q Ë j7 r yQ))/\(∀l∈u,l.g=n)/\(∀l∈u,∀b,l.act.touch?=À b->b.loc=.obj J/\b.kind=Ũ)/\(∀l∈u,∀m,l.act≠Ŭ m)/\ gN P i X (fA S n N) (fA C n T) B (gw lot n {lot n with w:=w.setChan J j9 q Ë j7 r yQ}) t (w.setChan J j9 q Ë j7 r yQ) (qJ++u):=by
 have H:=(Ä.1 I).1;have Q:=o.r.N J L;let⟨g0,hF,V,_,_⟩:=o.C n g I;rw[K]at V;cases V with
 |gp=>
  rw[hs,ht]at hF;let⟨h1,h2,G,M,h4,h5⟩:=hF w<|o.r.r n H;have lQ:=h4 w j9 q j7 r yQ O;have v:=KM (lot:=lot) (Live:=λn=>n<E.size) L O j9 j7 r q Ë yQ;have y:fK (lot n) w (w.setChan J j9 q Ë j7 r yQ):=⟨dS v.r.symm,λj hj=>v.jV j<|o.r.I n H j hj,λa z=>v.M n H a z,λa z=>v.N n H a z,λa _=>v.I a⟩;let⟨T,hT⟩:=jq<|h5.jP ⟨y.r,y.I,y.N,y.Y,y.S⟩;have W:Ε (lot n).d (Eg J)=(lot n).d:=bP (λe f=>by simp[Eg]at f;rcases f with rfl|rfl<;>exact⟨ft,ft⟩) _;have D:∀e∈Eg J,(∀b,(ì e).touch?=À b->b.loc=.obj J/\b.kind=Ũ)/\(ì e).low w.heap.size:=by
   intro e f;simp[Eg]at f;rcases f with rfl|rfl
   .exact⟨λb h=>by simp[ì,Č]at h;subst h;exact⟨U,U⟩,Q⟩
   .exact⟨λb h=>by simp[ì,Č]at h,Q⟩
  have e2:fA B n .no=B:=by funext j;unfold fA;split<;>simp[*]
  obtain⟨t,q1,q2,q3,q4,Y⟩:=o.qR I lQ v (by rwa[W]) (Æ M) (λe f=>⟨λb h=>Í ⟨J,((D e f).1 b h).1,L,((D e f).1 b h).2⟩,(D e f).2⟩) (Pp o.r.l oB λl F b h=>by obtain⟨e,f,rfl⟩:=ï F;let⟨z1,z2⟩:=(D e f).1 b h;refine Í (Í ⟨z2,λp a z hl qc=> ?_⟩);have:=o.r.s p a J z (by rw[hl,z1]) qc;omega);rw[W,e2]at Y;refine⟨t,_,T,G,q1,q2,q3,M,λk x K p=> ?_,oB,λl F b h=> ?_,λl F=> ?_,Y⟩
  .rw[q4 k K,p];simp only[Ů,ζ];unfold Ź;rw[if_pos (by simp[h2,M])]
  .obtain⟨e,f,rfl⟩:=ï F;exact(D e f).1 b h
  .obtain⟨e,f,rfl⟩:=ï F;simp[Eg]at f;intro m;rcases f with rfl|rfl<;>simp[ì]
end
def fM(b:Nat):Ü:=⟨b,0,í⟩
def gQ(b:Nat):Ü:=⟨b,1,í⟩
inductive GS where
 |cl (c reg:Nat)
 |jI (reg:Nat)
 |gR (r s:Nat)
def GS.st:GS->Int
 |.cl c a=>c*gd+a
 |.jI a=>a
 |.gR _ _=>0
def GS.sm:GS->Int
 |.gR _ s=>s
 |_=>0
def GS.ok:GS->Prop
 |.cl c r=>c<1000000/\r<1000000/\(c=0->r=0)
 |.jI r=>0<r/\r<1000000
 |.gR r s=>r+s<1000000
structure ig(w:È)(b:Nat)(G:GS):Prop where
 C:w.cell? (fM b)=À (ē ë G.st)
 M:w.cell? (gQ b)=À (ē ū G.sm)
 I:w.frozen? (fM b)=Â
 N:w.frozen? (gQ b)=Â
 r:G.ok
def tZ(h:w.cell? a=À x):(w.setCell a v).cell? a=À v:=by
 unfold Ĭ at h|-;unfold ā;cases b:w.heap[a.block]? with
 |none=>rw[b]at h;cases h
 |some o=>
  rw[b]at h;cases o with
  |cells c e f=>
   simp only at h;by_cases d:a.spot.isSome
   .simp[d]at h
   .simp only[d]at h;have g:=(Ä.1<|by simpa using h).1;simp[à,b,d,g]
  |_=>cases h
def yu(h:a.block≠p.block\/a.off≠p.off):(w.setCell a v).cell? p=w.cell? p:=by
 unfold Ĭ ā;simp only[à];by_cases e:a.block=p.block
 .simp only[e,if_true];have d:=h.resolve_left λq=>q e;cases g:w.heap[p.block]? with
  |none=>rfl
  |some o=>
   cases o with
   |cells c t f=>
    simp only[Ů];by_cases q:a.spot.isSome
    .simp[q]
    .simp[q,É d]
   |_=>rfl
 .simp[e]
def PK:kU (w.setCell a v) b=kU w b:=by
 unfold kU ā;simp only[à];by_cases e:a.block=b
 .rw[if_pos e];cases w.heap[b]? with
  |none=>rfl
  |some o=>cases o<;>rfl
 .rw[if_neg e]
def sW:(w.setCell a v).frozen? p=w.frozen? p:=by
 unfold Ċ ā;simp only[à];by_cases e:a.block=p.block
 .simp only[e,if_true];cases c:w.heap[p.block]? with
  |none=>rfl
  |some o=>cases o<;>rfl
 .simp[e]
def lr(h:j≠a.block):(w.setCell a v).heap[j]?=w.heap[j]?:=by unfold ā;simp only[à];rw[if_neg<|ă h]
def jT:(w.setCell a v).heap.size=w.heap.size:=by unfold ā;simp
def yv(h:(w.cell? p).isSome=Ë):((w.setCell a v).cell? p).isSome=Ë:=by
 unfold Ĭ ā at*;simp only[à];by_cases e:a.block=p.block
 .simp only[e,if_true];cases d:w.heap[p.block]? with
  |none=>rw[d]at h;cases h
  |some o=>
   rw[d]at h;cases o with
   |cells c t f=>
    simp only[Ů];by_cases g:p.spot.isSome
    .simp[g]at h
    .simp only[g]at h|-;by_cases i:a.spot.isSome
     .simp_all
     .simp_all
   |_=>cases h
 .simp only[e,if_false];exact h
def afX{Live Y:Nat->Prop}{d:Nat->fh}(i:Y a.block)(f:a.spot=í)(l:∀k,Live k->¬(d k).C a)(m:∀k,Live k->∀b,(d k).C b->b.spot=í):qa Live Y d w (w.setCell a v):=by
 refine⟨jT,λj n=>lr λe=>n<|e▸i,λk g b c=>yu ?_,λ_ _ _ _=>sW,λb c=>yv c⟩;by_cases e:a.block=b.block
 .right;intro h;have:=m k g b c;let⟨o,p,q⟩:=b;let⟨r,s,t⟩:=a;simp only at e h this f;subst e h this f;exact l k g c
 .exact Æ e
section
variable{b:Nat}{G:GS}
def ig.vv(h:ig w b G)(a:u.cell? (fM b)=w.cell? (fM b))(c:u.cell? (gQ b)=w.cell? (gQ b))(d:u.frozen? (fM b)=w.frozen? (fM b))(e:u.frozen? (gQ b)=w.frozen? (gQ b)):ig u b G:= ⟨a.trans h.C,c.trans h.M,d.trans h.I,e.trans h.N,h.r⟩
def ig.iU(h:ig w b G)(c:a.block≠b):ig (w.setCell a v) b G:= h.vv (yu<|Æ c) (yu<|Æ c) sW sW
def ig.KP{G':GS}(h:ig w b G)(a:G'.sm=G.sm)(d:G'.ok)(e:c=G'.st):ig (w.setCell (fM b)<|ē ë c) b G':= ⟨by rw[tZ h.C,e],by rw[yu (Í<|by simp[fM,gQ]),h.M,a],by rw[sW,h.I],by rw[sW,h.N],d⟩
def ig.Xk{G':GS}(h:ig w b G)(a:G'.st=G.st)(d:G'.ok)(e:c=G'.sm):ig (w.setCell (gQ b)<|ē ū c) b G':= ⟨by rw[yu (Í<|by simp[fM,gQ]),h.C,a],by rw[tZ h.M,e],by rw[sW,h.I],by rw[sW,h.N],d⟩
end
def KQ(a:0<=h)(b:h<18446744073709551616):ë.wrap h=h:=by have:ë.wrap h=h%18446744073709551616:=rfl;rw[this];omega
def afY(a:4294967296<=h)(b:h<18446744073709551616):ë.wrap (h+18446744069414584320)=h-4294967296:=by have:ë.wrap (h+18446744069414584320)=(h+18446744069414584320)%18446744073709551616:=rfl;rw[this];omega
def afZ(a:0<=h)(b:h<4294967296):ū.wrap h=h:=by have:ū.wrap h=h%4294967296:=rfl;rw[this];omega
def qS:Int:=18446744069414584320
def GS.jN:GS->GS
 |.cl (c+1) reg=>if c=0/\0<reg then .jI reg else .cl c reg
 |G=>G
section
variable{b:Nat}
def ig.af0(h:ig w b (.cl i 0))(a:i+1<1000000):ë.wrap ((GS.cl i 0).st+gd)=(GS.cl (i+1) 0).st/\ig (w.setCell (fM b)<|ē ë<|ë.wrap<|(GS.cl i 0).st+gd) b (.cl (i+1) 0):=by
 have e:ë.wrap ((GS.cl i 0).st+gd)=(GS.cl (i+1) 0).st:=by simp only[GS.st,gd];rw[KQ Z Z];omega
 exact⟨e,h.KP (G':=.cl (i+1) 0) U ⟨a,Z,Z⟩ e⟩
def ig.jN(h:ig w b (.cl (i+1) n)):ë.wrap ((GS.cl (i+1) n).st+qS)=(GS.jN<|.cl (i+1) n).st/\ig (w.setCell (fM b)<|ē ë<|ë.wrap<|(GS.cl (i+1) n).st+qS) b (GS.jN<|.cl (i+1) n):=by
 let⟨f,a,g⟩:=h.r;have d:ë.wrap ((GS.cl (i+1) n).st+qS)=(i:Int)*gd+n:=by simp only[GS.st,gd,qS];rw[afY Z Z];omega
 have e:ë.wrap ((GS.cl (i+1) n).st+qS)=(GS.jN<|.cl (i+1) n).st:=by
  rw[d];simp only[GS.jN];by_cases q:i=0/\0<n
  .rw[if_pos q];obtain⟨rfl,_⟩:=q;simp[GS.st]
  .rw[if_neg q];rfl
 refine⟨e,h.KP ?_ ?_ e⟩
 .simp only[GS.jN];split<;>rfl
 .simp only[GS.jN];by_cases q:i=0/\0<n
  .rw[if_pos q];exact⟨q.2,a⟩
  .rw[if_neg q];exact⟨Z,a,λe=>by omega⟩
def ig.Xl(h:ig w b (.cl i n))(f:0<i)(a:n+1<1000000):ë.wrap ((GS.cl i n).st+1)=(GS.cl i<|n+1).st/\ig (w.setCell (fM b)<|ē ë<|ë.wrap<|(GS.cl i n).st+1) b (.cl i (n+1)):=by
 let⟨d,g,j⟩:=h.r;have e:ë.wrap ((GS.cl i n).st+1)=(GS.cl i<|n+1).st:=by simp only[GS.st,gd];rw[KQ Z Z];omega
 exact⟨e,h.KP (G':=.cl i (n+1)) U ⟨d,a,λe=>by omega⟩ e⟩
def ig.Xm(h:ig w b (.jI i)):ig (w.setCell (fM b)<|ē ë 0) b (.gR i 0):= h.KP (G':=.gR i 0) U (by have:=h.r;simp only[GS.ok]at this|-;omega) U
def ig.jH{r:Nat}(h:ig w b (.gR (r+1) i)):ig (w.setCell (gQ b)<|ē ū<|ū.wrap<|(GS.gR (r+1) i).sm+1) b (.gR r (i+1)):=by have:=h.r;simp only[GS.ok]at this;refine h.Xk (G':=.gR r (i+1)) U (by simp only[GS.ok];omega) ?_;simp only[GS.sm];rw[afZ Z Z];omega
def ig.kz{r:Nat}(h:ig w b (.gR r (i+1))):ig (w.setCell (gQ b)<|ē ū<|(GS.gR r<|i+1).sm-1) b (.gR r i):=by have:=h.r;simp only[GS.ok]at this;refine h.Xk (G':=.gR r i) U (by simp only[GS.ok];omega) ?_;simp only[GS.sm];omega
def ig.af2{G:GS}(h:ig w b G):(0<=G.st/\G.st<gd)↔∀c a,G=.cl c a->c=0:=by
 have d:=h.r;cases G with
 |cl c a=>
  let⟨r,s,f⟩:=d;simp only[GS.st,gd];constructor
  .intro q g i e;cases e;omega
  .intro q;have:=q c a U;subst this;omega
 |jI a=>simp only[GS.ok]at d;simp only[GS.st,gd];exact⟨λ_ _ _ e=>(by cases e),λ_=>by omega⟩
 |gR r s=>simp only[GS.st,gd];exact⟨λ_ _ _ e=>(by cases e),λ_=>by omega⟩
end
inductive jK where
 |jH|iF|gG (W:Nat)|jf (W:Nat)|iC (r:Nat)
inductive jr where
 |iZ|lX (p:SP)|wr|kz|gG|lb
section
variable(P:Ù)(main:Bool)(B:Nat)(b:Nat)(J:Jd)
def G7:Nat->Jd
 |0=>J
 |r+1=>λl g=>l.d=1/\afP P main (gQ b) (match r with|0=>J|_=>fp P main<|G7 r) l g
def KR(W:Nat):Jd:=λl g=>l.d=1/\afN P main (fM b) 0 (G7 P main b J W) l g
def KS(W:Nat):Jd:=λl g=>l.d=1/\Xe P main (fM b) (λv=>if v=(W:Int)then KR P main b J W else λ_ _=>True) l g
def PL:Jd:=λl g=>l.d=1/\Pt P main (fM b) qS (λs=>if s=0\/(gd<=s/\s<1000000*gd/\s%gd<1000000)then J else if 0<s/\s<1000000 then fp P main (KS P main b J s.toNat)else λ_ _=>True) l g
def yw:Jd:=λl g=>l.d=0/\G4 P main (Ņ<|fM b) (PL P main b J) l g
def Ej:jK->Jd
 |.jH=>yw P main b J
 |.iF=>PL P main b J
 |.gG W=>KS P main b J W
 |.jf W=>KR P main b J W
 |.iC r=>G7 P main b J r
def Ek:Jd:=λl g=>l.d=0/\G4 P main (di<|fM b) J l g
def Xn:Jd:=λl g=>l.d=1/\Xe P main (fM b) (λv=>if v=0 then Ek P main b J else λ_ _=>True) l g
def KT:Jd:=λl g=>l.d=1/\afO P main (gQ b) (Xn P main b J) l g
def PN:Jd:=λl g=>l.d=1/\G4 P main (.write<|gQ b) (KT P main b J) l g
def PO(p:SP):Jd:=λl g=>l.d=1/\Eh P main (fM b) B (λ_=>Ek P main b J) (λv=>if v%gd=0 then PN P main b J else KT P main b J) p l g
def qT:jr->Jd
 |.iZ=>λl g=>∃k,k<=B/\PO P main B b J (.gk k) l g
 |.lX p=>PO P main B b J p
 |.wr=>PN P main b J
 |.kz=>KT P main b J
 |.gG=>Xn P main b J
 |.lb=>Ek P main b J
end
section
variable{P:Ù}{Y:Nat->Prop}{S:Nat->Jd}{tr:Nat->gy}{m:Nat->iB}{lot:Nat->fh}{gs:Array Ô}{t:ī}
def iT.C{Live:Nat->Prop}(h:iT n Live Y lot w t)(J:Live i){l:fh}(u:∀b,l.O b->(lot i).O b) (x:∀b,l.I b->(lot i).M b\/(b<w.heap.size/\¬Y b/\(∀k,Live k->¬(lot k).O b)/\∀a:Ü,a.block=b->pD t i (ć a))) (s:∀a,l.r a->(lot i).r a) (y:∀a,l.N a->(lot i).C a\/(Y a.block/\(∀k,Live k->¬(lot k).r a)/\pD t i (ć a))) (D:l.K=(lot i).K) (E:l.d=(lot i).d) (F:l.w=w) (G:∀b,l.O b->¬l.I b) (H:∀a,l.r a->¬l.N a):iT n Live Y (gw lot i l) w t:=by
 have v:∀b,l.M b->(lot i).M b\/(b<w.heap.size/\¬Y b/\(∀k,Live k->¬(lot k).O b)/\∀a:Ü,a.block=b->pD t i (ć a)):=λb g=>g.elim (λq=>Æ<|Æ<|u b q)<|x b;have B:∀a,l.C a->(lot i).C a\/(Y a.block/\(∀k,Live k->¬(lot k).r a)/\pD t i (ć a)):=λa f=>f.elim (λq=>Æ<|Æ<|s a q)<|y a;refine⟨λk j c m o b g=> ?_,λk j c m o a f=> ?_,λk c b g=> ?_,λk c a f=> ?_,λk c b g=> ?_,λk c a f=> ?_,λk c b g=> ?_,h.N,λk c=> ?_,λk c=> ?_,λk c=> ?_,h.l,h.q,h.s,λk c a f=> ?_⟩
 .by_cases e:k=i
  .subst e;rw[gY]at g;rw[gJ lot _<|ă o];exact h.o k j c m o b<|u b g
  .rw[gJ lot _ e]at g;by_cases p:j=i
   .subst p;rw[gY];intro q;rcases v b q with z|⟨_,_,z,_⟩
    .exact h.o k j c m o b g z
    .exact z k c g
   .rw[gJ lot _ p];exact h.o k j c m o b g
 .by_cases e:k=i
  .subst e;rw[gY]at f;rw[gJ lot _<|ă o];exact h.h k j c m o a<|s a f
  .rw[gJ lot _ e]at f;by_cases p:j=i
   .subst p;rw[gY];intro q;rcases B a q with z|⟨_,z,_⟩
    .exact h.h k j c m o a f z
    .exact z k c f
   .rw[gJ lot _ p];exact h.h k j c m o a f
 .by_cases e:k=i
  .subst e;rw[gY]at g|-;exact G b g
  .rw[gJ lot _ e]at g|-;exact h.m k c b g
 .by_cases e:k=i
  .subst e;rw[gY]at f|-;exact H a f
  .rw[gJ lot _ e]at f|-;exact h.g k c a f
 .by_cases e:k=i
  .subst e;rw[gY]at g;exact(v b g).elim (h.I k c b) λz=>z.2.1
  .rw[gJ lot _ e]at g;exact h.I k c b g
 .by_cases e:k=i
  .subst e;rw[gY]at f;exact(B a f).elim (h.e k c a) λz=>z.1
  .rw[gJ lot _ e]at f;exact h.e k c a f
 .by_cases e:k=i
  .subst e;rw[gY]at g;exact(v b g).elim (h.fx k c b) λz=>z.1
  .rw[gJ lot _ e]at g;exact h.fx k c b g
 .by_cases e:k=i
  .subst e;rw[gY,F];exact fK.fW _ _
  .rw[gJ lot _ e];exact h.r k c
 .by_cases e:k=i
  .subst e;rw[gY];refine⟨λa f=>(h.S k c).fu a<|u _ f,λa f=> ?_,λa f=>(h.S k c).I a<|s a f,λa f=> ?_⟩
   .rcases x _ f with(z|z)|⟨_,_,_,z⟩
    .exact((h.S k c).fu a z).r
    .exact(h.S k c).C a z
    .exact z a U
   .rcases y _ f with(z|z)|⟨_,_,z⟩
    .exact((h.S k c).I a z).r
    .exact(h.S k c).r a z
    .exact z
  .rw[gJ lot _ e];exact h.S k c
 .by_cases e:k=i
  .subst e;rw[gY,E];exact h.f k c
  .rw[gJ lot _ e];exact h.f k c
 .have z:(lot k).K a:=by
   by_cases e:k=i
   .subst e;rwa[gY,D]at f
   .rwa[gJ lot _ e]at f
  let⟨I,p⟩:=h.n k c a z;refine⟨I,λj m q=> ?_⟩;by_cases e:j=i
  .subst e;rw[gY]at q;exact p j m<|s a q
  .rw[gJ lot _ e]at q;exact p j m q
def gN.M(b:gN P n Y S tr m lot gs w t){J:Jd}{T:gy}{K:iB}{l:fh}(c:gs[i]?=À g)(d:g.status=Ñ\/g.status=Ī)(f:iT n (λi=>i<gs.size) Y (gw lot i l) w t)(hF:k9 P (i==0) J T l g): gN P n Y (fA S i J) (fA tr i T) (fA m i K) (gw lot i l) gs w t:=by
 refine⟨f,λk x a=> ?_,b.I⟩;by_cases e:k=i
 .subst e;rw[c]at a;obtain rfl:=ą a;rw[gD,gD,gD,gY];exact⟨g,hF,.gp,d,Æ U⟩
 .rw[fL S _ e,fL tr _ e,fL m _ e,gJ lot _ e];exact b.C k x a
end
end Go.Proofs.Y.fD
namespace Go.Proofs.Y.fD
open Go Go.Conc Go.Proofs.Y.Lift
open Go.ConcN (RelBy fork_knows)
def Az(t:ī)(p:Nat)(l:ew):Prop:=∀q a,Ħ t q=À a->a.loc=l->a.write=Ë->Before t q p
def Az.G8{u:ī}{l:ew}(h:Az qJ i l)(g:∀c∈u,∀b,c.act.touch?=À b->b.loc=l->b.write=Ë->False):Az (qJ++u) i l:=by
 intro q a j e f;rcases mS j with⟨_,d⟩|⟨_,c,d,k,_⟩
 .exact(h q a d e f).app u
 .exact(g c d a k e f).elim
def Az.af3{l:ew}(h:Az qJ i l)(b:bX qJ n i):pD qJ n l:=λq a c d e=>Knows.of_before (h q a c d e) b
def af4{l:ew}(h:pD qJ i l)(d:wQ.g=i)(e:wQ.act.touch?=í):Az (qJ++#[wQ]) qJ.size l:=by
 intro q a f j k;have m:(qJ++#[wQ])[qJ.size]?=À wQ:=by rw[Ā<|á _];simp
 rcases mS f with⟨_,b⟩|⟨_,n,b,c,_⟩
 .exact Í<|(h q a b j k).hb_new (á _) m d
 .have:n=wQ:=by simpa using b
  rw[this,e]at c;cases c
structure Fx where
 L:Nat
 m:Nat
 C:Nat
 I:Nat->Nat
def Fx.M(F:Fx)(b:Nat):Prop:=b=F.C\/∃k,k<=F.m/\b=F.I k
def Fx.G(F:Fx)(x:Ü):Prop:=∃b,F.M b/\(x=fM b\/x=gQ b)
def jk(F:Fx)(k:Nat):Ü:=⟨F.I k,2,í⟩
def Fx.PQ(F:Fx)(a:Nat->Option Nat)(x:Ü)(g:Option Nat):Prop:=(x=gQ F.C/\g=À 0)\/∃k j,k<=F.m/\x=gQ (F.I k)/\a k=À j/\g=À (F.L+1+j)
structure TI(F:Fx)(t0:Nat)(ju:ew->Prop)(sp rl:Nat)(V:Nat->Nat->Prop)(pk:Nat->Nat)(fs:Nat->Option Nat)(rx:Nat->Prop)(ql:Nat->Nat)(t:ī):Prop where
 N:t0<=t.size
 M:∀p a x,Ħ t p=À a->a.loc=ć x->F.G x->(p<t0/\t.g? p=À 0)\/a.kind=Ũ\/(a.kind=.said/\F.PQ fs x (t.g? p))
 AA:∀x,x<sp->∀p,p<t0->t.g? p=À 0->bX t (F.L+x) p
 Y:∀k,1<=k->k<=rl->t.act? (pk k)=À (Ŭ<|Ņ<|fM<|F.I k)/\t.g? (pk k)=À F.L/\t.heard (pk k)
 I:∀k,1<=k->k<=rl->∀a:Ü,(V k a.block\/a=jk F k)->Az t (pk k) (ć a)
 c:∀b,F.M b->NoRelease (fM b) t
 r:∀x,x<sp->rx x->RelBy (fM F.C) t (F.L+x) (ql x)/\∀p a,Ħ t p=À a->t.g? p=À (F.L+x)->p<=ql x\/((∃y:Ü,a.loc=ć y/\y.block=F.C)/\a.kind=Ũ)
 S:∀p a,t0<=p->Ħ t p=À a->t.g? p=À 0\/∃x,x<sp/\t.g? p=À (F.L+x)
 e:∀p a,p<t0->Ħ t p=À a->a.loc.isMemory=Ë->bX t 0 p\/(ju a.loc/\a.kind=Ũ)
 d:∀p g,p<t0->t.g? p=À g->g≠0->t.counts p->∃j,t.g? j=À 0/\HappensBefore t p j
section
variable{F:Fx}{t0:Nat}{ju:ew->Prop}{sp rl:Nat}{V:Nat->Nat->Prop}{pk:Nat->Nat}{fs:Nat->Option Nat}{rx:Nat->Prop}{ql:Nat->Nat}{t u:ī}
def KU(h:t.g? i=À n):i<t.size:=by unfold ř at h;let⟨z,a,_⟩:=đ.1 h;exact aP a
def G9(h:t.g? i=À n):(t++u).g? i=À n:=by rwa[bj<|KU h]
def PU{a:ei}(h:Ħ t i=À a):i<t.size:=by let⟨c,b,_⟩:=ek h;exact aP b
structure KV(F:Fx)(sp rl:Nat)(V:Nat->Nat->Prop)(fs:Nat->Option Nat)(rx:Nat->Prop)(t u:ī)(i:Nat):Prop where
 C:∀op∈u,∀a,op.act.touch?=À a->op.g=i
 S:i=0\/(∃x,x<sp/\i=F.L+x)\/∀op∈u,op.act.touch?=í
 M:∀op∈u,∀a x,op.act.touch?=À a->a.loc=ć x->F.G x->a.kind=Ũ\/(a.kind=.said/\F.PQ fs x (À i))
 fN:∀op∈u,∀(a:ei) (y:Ü),op.act.touch?=À a->a.write=Ë->a.loc=ć y->∀k,1<=k->k<=rl->¬V k y.block/\y≠jk F k
 N:∀op∈u,∀b,F.M b->op.act≠Ŭ (ep<|fM b)
 I:∀x,x<sp->rx x->(∀r,RelBy (fM F.C) t (F.L+x) r->RelBy (fM F.C) (t++u) (F.L+x) r)/\(F.L+x=i->∀op∈u,∀a,op.act.touch?=À a->(∃y:Ü,a.loc=ć y/\y.block=F.C)/\a.kind=Ũ)
def TI.C(h:TI F t0 ju sp rl V pk fs rx ql t)(f:KV F sp rl V fs rx t u i):TI F t0 ju sp rl V pk fs rx ql (t++u) where
 N:=by rw[Array.size_append];have:=h.N;omega
 M p a x n y hc:=by
  rcases mS n with⟨d,c⟩|⟨d,m,c,l,j⟩
  .rw[bj d];exact h.M p a x c y hc
  .refine Í ((f.M m c a x l y hc).imp id λq=>⟨q.1,?_⟩);have:(t++u).g? p=À i:=by unfold ř;rw[j];simp[f.C m c a l]
   rw[this];exact q.2
 AA x s p d o:=(h.AA x s p d<|by rwa[bj<|Õ d h.N]at o).app u;Y k c l:=by let⟨w,v,b⟩:=h.Y k c l;have r:=KU v;exact⟨by rwa[eu r],G9 v,(heard_old r).2 b⟩
 I k c l a n:=(h.I k c l a n).G8 λm B b z y C=>by have:=f.fN m B b a z C y k c l;exact n.elim this.1 this.2
 c b z:=(h.c b z).app λm B=>f.N m B b z;r x s hr:=by
  let⟨w,v⟩:=h.r x s hr;let⟨D,E⟩:=f.I x s hr;refine⟨D _ w,λp a n o=> ?_⟩;rcases mS n with⟨d,c⟩|⟨d,m,c,l,j⟩
  .exact v p a c<|by rwa[bj d]at o
  .have e:(t++u).g? p=À i:=by unfold ř;rw[j];simp[f.C m c a l]
   rw[e]at o;exact Í<|E (ą o).symm m c a l
 S p a d n:=by
  rcases mS n with⟨D,c⟩|⟨_,m,c,l,j⟩
  .rw[bj D];exact h.S p a d c
  .have e:(t++u).g? p=À i:=by unfold ř;rw[j];simp[f.C m c a l]
   rw[e];rcases f.S with q|⟨x,s,q⟩|q
   .exact Æ<|by rw[q]
   .exact Í ⟨x,s,by rw[q]⟩
   .rw[q m c]at l;cases l
 e p a d n hm:=by have r:=Õ d h.N;rw[touchAt_old r]at n;exact(h.e p a d n hm).imp (·.app u) id
 d p g d o kI hc:=by have r:=Õ d h.N;rw[bj r]at o;rw[eN r]at hc;let⟨j,w,v⟩:=h.d p g d o kI hc;exact⟨j,G9 w,eL u v⟩
def yx(f:∀c∈u,c.act.touch?=í)(i:∀c∈u,∀b,F.M b->c.act≠Ŭ (ep<|fM b)):KV F sp rl V fs rx t u 0 where
 C c e a d:=by rw[f c e]at d;cases d
 S:=Æ U;M c e a x d:=by rw[f c e]at d;cases d
 fN c e a y d:=by rw[f c e]at d;cases d
 N:=i;I x hx g:=by
  refine⟨λr g=>g.app λj o p k=> ?_,λ_ c e a d=>by rw[f c e]at d;cases d⟩;let⟨z,l,_⟩:=k;have m:=l;rcases mS m with⟨q,_⟩|⟨_,c,n,h,_⟩
  .omega
  .rw[f c n]at h;cases h
def TI.af5(h:TI F t0 ju sp rl V pk fs rx ql t){b:Nat->Option Nat}(c:∀k y,fs k=À y->b k=À y):TI F t0 ju sp rl V pk b rx ql t:= {h with M:=λp a x d e f=>(h.M p a x d e f).imp id (Or.imp id λq=>⟨q.1,q.2.imp id λ⟨k,j,g,i,l,m⟩=>⟨k,j,g,i,c k j l,m⟩⟩)}
def TI.Ha(h:TI F t0 ju sp rl V pk fs rx ql t){y:dA}(i:wQ.g=0/\wQ.act=.go (F.L+sp))(j:y.g=F.L+sp/\y.act=.start)(m:af t 0=0)(n:af t (F.L+sp)=0)(C:¬rx sp)(o:∀wQ,rx wQ->wQ<sp):TI F t0 ju (sp+1) rl V pk fs rx ql (t++#[wQ,y]):=by
 have q:∀c∈#[wQ,y],c.act.touch?=í:=by
  intro c a;simp at a;rcases a with rfl|rfl
  .rw[i.2];rfl
  .rw[j.2];rfl
 have r:∀c∈#[wQ,y],∀b,F.M b->c.act≠Ŭ (ep<|fM b):=by
  intro c a b _;simp at a;rcases a with rfl|rfl
  .rw[i.2];simp
  .rw[j.2];simp
 have d:=h.C<|yx q r;refine{d with AA:=λz s p f k=> ?_,r:=λz s l=> ?_,S:=λp a f u=> ?_}
 .by_cases e:z<sp
  .exact d.AA z e p f k
  .obtain rfl:z=sp:=Z
   have v:=Õ f h.N;rw[bj v]at k;let⟨c,w,B⟩:=đ.1 k;have:=bO w;rw[B]at this;exact dp i j m n this
 .exact d.r z (o z l) l
 .exact(d.S p a f u).imp id λ⟨z,v,e⟩=>⟨z,Z,e⟩
def af6{y:dA}(e:wQ.g=0/\wQ.act=.go k)(f:y.g=k/\y.act=.start)(m:af t 0=0)(n:af t k=0){l:ew}:(qP t 0 l->qP (t++#[wQ,y]) k l)/\(pD t 0 l->pD (t++#[wQ,y]) k l):=by
 have o:∀c∈#[wQ,y],c.act.touch?=í:=by
  intro c a;simp at a;rcases a with rfl|rfl
  .rw[e.2];rfl
  .rw[f.2];rfl
 refine⟨λh p a i j=> ?_,λh p a i j q=> ?_⟩
 .rcases mS i with⟨_,b⟩|⟨_,c,b,d,_⟩
  .exact dp e f m n<|h p a b j
  .rw[o c b]at d;cases d
 .rcases mS i with⟨_,b⟩|⟨_,c,b,d,_⟩
  .exact dp e f m n<|h p a b j q
  .rw[o c b]at d;cases d
def TI.af7(h:TI F t0 ju sp rl V pk fs rx ql t)(f:wQ.g=F.L)(d:wQ.act=Ŭ (Ņ<|fM<|F.I<|rl+1))(m:af t F.L=0)(n:∀a:Ü,(V (rl+1) a.block\/a=jk F (rl+1))->pD t F.L (ć a)): TI F t0 ju sp (rl+1) V (fA pk (rl+1) t.size) fs rx ql (t++#[wQ]):=by
 have o:∀c∈#[wQ],c.act.touch?=í:=by
  intro c e;have:c=wQ:=by simpa using e
  rw[this,d];rfl
 have i:=h.C (yx o (λc e b _=>by
  have:c=wQ:=by simpa using e
  rw[this,d];simp))
 have p:(t++#[wQ])[t.size]?=À wQ:=by rw[Ā<|á _];simp
 have j:∀k,k<=rl->fA pk (rl+1) t.size k=pk k:=λk r=>fL pk _ Z;refine{i with Y:=λk b q=> ?_,I:=λk b q a l=> ?_}
 .by_cases e:k=rl+1
  .subst e;rw[gD];exact⟨by rw[eV p,d],by simp[ř,f],⟨F.L,by simp[ř,f],by rwa[dm<|á _]⟩⟩
  .rw[j k Z];exact i.Y k b Z
 .by_cases e:k=rl+1
  .subst e;rw[gD];exact af4 (n a l) f<|by rw[d];rfl
  .rw[j k Z];exact i.I k b Z a l
def TI.af8(h:TI F t0 ju sp rl V pk fs rx ql t){x:Nat}(r:x<sp)(f:wQ.g=F.L+x)(d:wQ.act=Ŭ (Ņ<|fM F.C))(k:af t (F.L+x)=0)(s:¬rx x): TI F t0 ju sp rl V pk fs (λz=>rx z\/z=x) (fA ql x t.size) (t++#[wQ]):=by
 have l:∀c∈#[wQ],c.act.touch?=í:=by
  intro c a;have:c=wQ:=by simpa using a
  rw[this,d];rfl
 have j:=h.C (yx l (λc a b _=>by
  have:c=wQ:=by simpa using a
  rw[this,d];simp))
 have b:(t++#[wQ])[t.size]?=À wQ:=by rw[Ā<|á _];simp
 refine{j with r:=λz m n=> ?_};by_cases e:z=x
 .subst e;rw[gD];refine⟨⟨by rw[eV b,d],by simp[ř,f],⟨F.L+z,by simp[ř,f],by rwa[dm<|á _]⟩,λi u o=> ?_⟩,λp a q _=>Æ ?_⟩
  .have:=KU o;simp at this;omega
  .have:=PU q;simp at this;omega
 .rw[fL ql _ e];exact j.r z m<|n.resolve_right e
def Xo(e:t.act? i=À (Ŭ<|Ņ a))(f:t.g? i=À k)(h:t.heard i)(l:NoRelease a t)(c:wQ.g=n)(m:wQ.act=Ŭ (di a))(o:af t n=0):bX (t++#[wQ]) n i:=by
 have b:=KU f;have d:(t++#[wQ])[t.size]?=À wQ:=by rw[Ā<|á _];simp
 refine⟨t.size,wQ,d,c,Í<|.single<|Í ⟨.marked b (Í<|by rwa[eu b]) (by rw[eV d,m]) λj _ q=> ?_,(heard_old b).2 h,⟨n,by simp[ř,c],by rwa[dm<|á _]⟩⟩⟩;rw[eu q];exact l j
def TI.kV(h:TI F t0 ju sp rl V pk fs rx ql t)(J:wQ.g=0)(w:wQ.act=Ŭ (di<|fM F.C))(K:af t 0=0)(l:∀x,x<sp->rx x): (∀p a,Ħ (t++#[wQ]) p=À a->a.loc.isMemory=Ë->bX (t++#[wQ]) 0 p\/((ju a.loc\/∃x:Ü,a.loc=ć x/\x.block=F.C)/\a.kind=Ũ))/\(t++#[wQ]).HandedOver:=by
 have M:wQ.act.touch?=í:=by rw[w];rfl
 have Y:(t++#[wQ])[t.size]?=À wQ:=by rw[Ā<|á _];simp
 have N:F.M F.C:=Æ U;have B:=λx c=>by let⟨b,_⟩:=h.r x c<|l x c;exact Xo b.act b.g b.heard (h.c _ N) J w K
 have C:∀p a,Ħ (t++#[wQ]) p=À a->p<t.size/\Ħ t p=À a:=λp a m=>by
  rcases mS m with q|⟨_,n,d,k,_⟩
  .exact q
  .have:n=wQ:=by simpa using d
   rw[this,M]at k;cases k
 have D:∀p q x,t.g? p=À (F.L+x)->t.g? q=À (F.L+x)->p<=q->Before (t++#[wQ]) p q:=λp q x d k E=>by
  rcases Nat.lt_or_ge p q with f|j
  .exact Í<|.single<|Æ ⟨f,_,G9 d,G9 k⟩
  .exact Æ Z
 refine⟨λp a m O=> ?_,λp g o s P=> ?_⟩
 .let⟨f,d⟩:=C p a m;by_cases e:p<t0
  .rcases h.e p a e d O with q|⟨b,i⟩
   .exact Æ<|q.app _
   .exact Í ⟨Æ b,i⟩
  .rcases h.S p a Z d with q|⟨x,c,q⟩
   .let⟨n,u,v⟩:=đ.1 q;have:=bO u;rw[v]at this;exact Æ<|this.app _
   .let⟨b,i⟩:=h.r x c<|l x c;rcases i p a d q with z|⟨j,G⟩
    .exact Æ<|Knows.of_before (D p (ql x) x q b.g z)<|B x c
    .exact Í ⟨Í j,G⟩
 .let⟨z,G,Q,T⟩:=P;let⟨f,d⟩:=C p z G;have H:t.g? p=À g:=by rwa[bj f]at o
  have I:=(eN f).1 ⟨z,G,Q,T⟩;by_cases e:p<t0
  .let⟨j,b,i⟩:=h.d p g e H s I;exact⟨j,G9 b,eL _ i⟩
  .rcases h.S p z Z d with q|⟨x,c,q⟩
   .rw[H]at q;exact absurd (ą q) s
   .let⟨b,_⟩:=h.r x c<|l x c;have E:=Nat.le_of_not_lt λW=>b.after p W q I;let⟨r,n,u,v,X⟩:=B x c;have i:(t++#[wQ]).g? r=À 0:=by unfold ř;rw[u];simp[v]
    refine⟨r,i,?_⟩;rcases(D p (ql x) x q b.g E).trans X with j|j
    .subst j;rw[o]at i;exact absurd (ą i) s
    .exact j
end
end Go.Proofs.Y.fD
namespace Go.Proofs.Y.fD
open Go Go.Conc Go.Proofs.Y.Lift
open Go.ConcN (sumTo)
structure Ph extends Fx where
 P:Ù
 S:Nat
 n:Nat
 q:Nat
 Y:Nat
 f:Nat
 r:Nat->Nat
 a:Nat->Nat
 b:Nat->Nat
 c:Nat->Ã
 z:Ã
 B:Nat
 γ:Type
 l:γ
 i:Nat->Prop
 p:Nat->γ->γ->Prop
 d:Nat->γ->(Nat->Prop)->È->Prop
 o:Nat->ByteArray
 k:Nat->ByteArray
 g:Nat->(Nat->Nat)->Jd
 h:Nat->Jd
 e:Nat->Nat->Jd
 j:(Nat->Nat)->Jd
inductive nA(F:Ph):Nat->F.γ->Prop
 |vp:nA F 0 F.l
 |El {k:Nat} {s s':F.γ} (h:nA F k s) (hn:F.p k s s'):nA F (k+1) s'
def jv(F:Ph)(p:Nat):Ü:=⟨F.Y,p,í⟩
inductive fX where
 |go (j:Nat)|lC (j:Nat)|rd (j:Nat)|iF (j:Nat)|iL (r:Nat)|kV (r:Nat)|fC (p:jr)|gi
inductive jB where
 |kJ (k:Nat)|mk (k:Nat)|dn (k:Nat) (p:jK)
inductive gO where
 |nz (r:Nat)|fC (r:Nat) (p:jr)|jM (r:Nat)|oQ (r:Nat)
inductive ij where
 |oT|gi (p:jK)|jh (N:Nat)
section
variable(F:Ph)
def Em:Jd:=λl g=>∃N,QuitsD F.P N l.d g
def kA(l:fh):fh:={l with O:=λ_=>False,I:=λ_=>False,r:=λ_=>False,N:=λ_=>False,q:=True}
def AB:Jd:=λl g=>Ej F.P Â F.C (Em F) .jH (kA l) g
def En(c j r:Nat):Jd:=wU F.P Â c F.z λx=>match x with
 |some v=>λl g=>v=F.c (j+r*F.n)->qT F.P Â F.B (F.I<|F.r<|j+r*F.n) (F.e c<|j+r*F.n) .iZ l g
 |none=>AB F
def vw(l:fh)(i:Nat):fh:={l with r:=λa=>l.r a/\a≠jv F (F.a i),N:=λa=>l.N a\/a=jv F (F.a i)}
def qd(l:fh)(k:Nat):fh:={l with O:=λ_=>False,I:=l.M,r:=λa=>l.r a/\a≠jv F (F.b k)/\a≠jk F.toFx k,N:=λa=>l.N a\/a=jv F (F.b k)\/a=jk F.toFx k}
def JW(c j:Nat):gO->Jd
 |.nz r=>En F c j r
 |.fC r p=>qT F.P Â F.B (F.I<|F.r<|j+r*F.n) (F.e c<|j+r*F.n) p
 |.jM r=>F.e c<|j+r*F.n
 |.oQ r=>λl g=>l.w.cell? (jv F<|F.a<|j+r*F.n)=À (Ĥ<|F.k<|j+r*F.n)/\En F c j (r+1) (vw F l<|j+r*F.n) g
def JI(sg:Nat->F.γ):jB->Jd
 |.kJ k=>F.h k
 |.mk k=>λl g=>∃p V,F.p (k-1) (sg<|k-1) p/\F.d k p V l.w/\(∀b,V b->l.M b)/\l.w.cell? (jv F<|F.b k)=À (Ĥ<|F.o k)/\Ej F.P Â (F.I k) (fp F.P Â<|F.h k) .jH (qd F l k) g
 |.dn k p=>Ej F.P Â (F.I k) (fp F.P Â<|F.h k) p
def JE:ij->Jd
 |.oT=>AB F
 |.gi p=>Ej F.P Â F.C (Em F) p
 |.jh N=>oS F.P N
def KW(j:Nat)(a:Nat->Nat):Jd:=λl g=>∃c,F.g j (fA a (j-1) c) l g
def Xp(j:Nat)(a:Nat->Nat):Jd:=λl g=>l.d=1/\G4 F.P Ë (.read<|gQ F.C) (KW F j a) l g
def PV(j:Nat)(a:Nat->Nat):Jd:=λl g=>l.d=1/\Pt F.P Ë (fM F.C) gd (λs=>if s=gd then fp F.P Ë (Xp F j a)else if gd<s/\s<1000000*gd/\s%gd=0 then fp F.P Ë (KW F j a)else λ_ _=>True) l g
def AF(a:Nat->Nat):Nat->Jd
 |0=>qT F.P Ë F.B F.C (F.j a) .iZ
 |r+1=>KI F.P Ë (a<|F.n-(r+1))<|AF a r
def Hb(a:Nat->Nat):Nat->Jd
 |0=>AF F a F.n
 |r+1=>Ay F.P Ë (a<|(F.q-(r+1))%F.n) (F.c<|F.q-(r+1))<|Hb a r
def JM(dk:Nat->Nat):fX->Jd
 |.go j=>F.g j dk
 |.lC j=>KW F j dk
 |.rd j=>Xp F j dk
 |.iF j=>PV F j dk
 |.iL r=>Hb F dk r
 |.kV r=>AF F dk r
 |.fC p=>qT F.P Ë F.B F.C (F.j dk) p
 |.gi=>F.j dk
def lS(x:Nat)(a:Ü):Prop:=if x=0 then(∃k,1<=k/\k<=F.m/\(a=jk F.toFx k\/a=jv F (F.b k)))else∃i,i<F.q/\i%F.n=x-1/\a=jv F (F.a i)
end
def fX.sp(n:Nat):fX->Nat
 |.go j|.lC j|.rd j|.iF j=>j
 |_=>n+1
def fX.ad(n:Nat):fX->Nat
 |.iF j=>j
 |.go j|.lC j|.rd j=>j+1
 |_=>n+1
def fX.mD(q:Nat):fX->Nat
 |.go _|.lC _|.rd _|.iF _=>0
 |.iL r=>q-r
 |_=>q
def fX.jj(n:Nat):fX->Nat
 |.kV r=>n-r
 |.fC _|.gi=>n
 |_=>0
def jr.rL:jr->Nat
 |.wr|.kz=>1
 |_=>0
def fX.gE:fX->Nat
 |.fC p=>p.rL
 |_=>0
def jK.kK:jK->Nat
 |.jH|.iF=>1
 |_=>0
def ij.kK:ij->Nat
 |.oT=>1
 |.gi p=>p.kK
 |_=>0
def ij.lT:ij->Prop
 |.oT=>False
 |_=>True
def lY:Option ij->Nat
 |none=>1
 |some e=>e.kK
def jK.ie:jK->Prop
 |.jH=>False
 |_=>True
def ij.ie:ij->Prop
 |.oT=>False
 |.gi p=>p.ie
 |_=>True
def jB.md:jB->Nat
 |.kJ k=>k
 |.mk k=>k-1
 |.dn k _=>k
def jB.rl:jB->Nat
 |.kJ k=>k
 |.mk k=>k-1
 |.dn k .jH=>k-1
 |.dn k _=>k
def jB.od:jB->Nat
 |.kJ k=>k
 |.mk k=>k-1
 |.dn k .jH|.dn k .iF=>k-1
 |.dn k _=>k
def gO.iO:gO->Nat
 |.nz r=>r
 |.fC r _|.jM r|.oQ r=>r+1
def gO.kB:gO->Nat
 |.nz r|.fC r _|.jM r|.oQ r=>r
def gO.gE(F:Ph)(j:Nat)(k:Nat):gO->Nat
 |.fC r p=>if F.r (j+r*F.n)=k then p.rL else 0
 |_=>0
structure fV(F:Ph) where
 M:fX
 S:jB
 C:Nat->gO
 N:Nat->Option ij
 I:Nat->Nat
 c:Nat->F.γ
 V:Nat->Nat->Prop
 e:Nat->Nat
 d:Nat->Option Nat
 f:Nat->Nat
 b:GS
 a:Nat->GS
 g:Option Nat
 h:Nat->Nat
section
variable{F:Ph}
def fV.r(σ:fV F):Nat:=σ.M.sp F.n
def fV.G(σ:fV F)(x:Nat):Nat:=if x<σ.M.ad F.n then lY (σ.N x)else 0
def fV.ie(σ:fV F)(x:Nat):Prop:=∃e,σ.N x=À e/\e.ie
def fV.lT(σ:fV F)(x:Nat):Prop:=∃e,σ.N x=À e/\e.lT
def fV.Y(σ:fV F)(b:Nat):Prop:=F.M b\/b=F.Y\/∃j,j+2<=σ.r/\b=σ.I j
def ua(n j Q s:Nat):Prop:=∀i,i<s↔j+i*n<Q
def kM:fX->iB
 |.fC .kz=> .iC
 |_=> .no
def kW(F:Ph)(c:Nat):gO->iB
 |.nz _=> .sV c F.z
 |.fC _ .kz=> .iC
 |_=> .no
end
structure Ph.Ok(F:Ph):Prop where
 C:1<=F.n
 r:1<=F.L
 gf:F.n+F.q+F.m<1000
 M:∀i,i<F.q->F.r i<=F.m
 N:∀k,k<=F.m->F.I k≠F.C
 S:∀k k',k<=F.m->k'<=F.m->F.I k=F.I k'->k=k'
 I:¬F.M F.Y
 a:∀i i',i<F.q->i'<F.q->F.a i=F.a i'->i=i'
 pi:∀k k',1<=k->k<=F.m->1<=k'->k'<=F.m->F.b k=F.b k'->k=k'
 PW:∀i k,i<F.q->1<=k->k<=F.m->F.a i≠F.b k
 gu:∀b,F.M b\/b=F.Y->F.S<=b
 Y:(∀k,1<=k->k<=F.m->F.b k≠F.f)/\∀i,i<F.q->F.a i≠F.f
structure iI(F:Ph)(σ:fV F)(lot:Nat->fh)(sz:Nat)(w:È):Prop where
 gX:∀i,i<sz->∀a,(lot i).C a->(∃k,k<=F.m/\a=jk F.toFx k)\/∃p,p≠F.f/\a=jv F p
 o:∀x,σ.r<=x->x<=F.n->∀a,lS F x a->(lot 0).r a
 lO:σ.r<=F.n->(lot 0).N (jk F.toFx 0)/\∀b,F.i b->(lot 0).I b
 e:0<σ.r->∀k,σ.S.md<k->k<=F.m->(lot F.L).r (jk F.toFx k)/\(lot F.L).r (jv F<|F.b k)
 f:0<σ.r->σ.N 0=í->(lot F.L).N (jk F.toFx σ.S.md)/\∀b,σ.V σ.S.md b->(lot F.L).I b
 h:∀j,j+2<=σ.r->σ.N (j+1)=í->∀r,j+r*F.n<F.q->(σ.C j).kB<=r->(lot<|F.L+1+j).r (jv F<|F.a<|j+r*F.n)
 l:∀j,j+2<=σ.r->σ.N (j+1)=í->(lot<|F.L+1+j).N (jk F.toFx 0)/\∀b,F.i b->(lot<|F.L+1+j).I b
 S:∀x,σ.lT x->lot (F.L+x)=kA (lot<|F.L+x)
 M:∀i,(i=0\/∃x,x<σ.r/\i=F.L+x/\¬σ.lT x)->¬(lot i).q
 c:∀i,0<i->i<F.L->lot i=kA (lot i)
 I:∀k,k<=σ.S.md->∀b,σ.V k b->b<w.heap.size/\¬σ.Y b/\∀i,i<sz->¬(lot i).O b
 N:∀k,k<=σ.S.md->∀i,i<sz->¬(lot i).r (jk F.toFx k)
 g:∀k,1<=k->k<=σ.S.md->∀i,i<sz->¬(lot i).r (jv F<|F.b k)
 d:∀j,j+2<=σ.r->∀r,j+r*F.n<F.q->r<(σ.C j).kB->∀i,i<sz->¬(lot i).r (jv F<|F.a<|j+r*F.n)
structure Wd(F:Ph)(σ:fV F)(w:È):Prop where
 C:ig w F.C σ.b
 I:∀k,k<=F.m->ig w (F.I k) (σ.a k)
 jL:∀j,j+2<=σ.r->∃buf s,w.heap[σ.I j]?=À (aF F.q buf (decide<|j<σ.M.jj F.n) s (σ.C j).iO Â)/\ua F.n j (σ.M.mD F.q) s/\(σ.C j).iO<=s/\buf.size=s-(σ.C j).iO/\∀i,i<s-(σ.C j).iO->buf[i]?=À (F.c<|j+((σ.C j).iO+i)*F.n)
 M:∀k,k<=σ.S.md->nA F k (σ.c k)/\F.d k (σ.c k) (σ.V k) w
 S:∀k,1<=k->k<=σ.S.md->w.cell? (jv F<|F.b k)=À (Ĥ<|F.o k)
 N:∀j,j+2<=σ.r->∀r,j+r*F.n<F.q->r<(σ.C j).kB->w.cell? (jv F<|F.a<|j+r*F.n)=À (Ĥ<|F.k<|j+r*F.n)
structure Ps(F:Ph)(σ:fV F):Prop where
 v:σ.V 0=F.i
 C:∀j,σ.M=.go j\/σ.M=.lC j\/σ.M=.rd j\/σ.M=.iF j->j<=F.n
 E:∀j,σ.M=.lC j\/σ.M=.rd j\/σ.M=.iF j->1<=j
 K:∀r,(σ.M=.iL r->r<=F.q)/\(σ.M=.kV r->r<=F.n)
 J:σ.r=0->σ.S=.kJ 0
 I:∀k,(σ.S=.kJ k->k<=F.m)/\(σ.S=.mk k->1<=k/\k<=F.m)/\(∀p,σ.S=.dn k p->1<=k/\k<=F.m)
 z:∀j,σ.r<j+2->σ.C j=.nz 0
 d:∀j r,j+2<=σ.r->((∃p,σ.C j=.fC r p)\/σ.C j=.jM r\/σ.C j=.oQ r)->j+r*F.n<F.q
 l:∀j,j+2<=σ.r->σ.N (j+1)≠í->j<σ.M.jj F.n/\∃r,σ.C j=.nz r/\∀i,j+i*F.n<F.q->i<r
 f:σ.N 0≠í->σ.S=.kJ F.m
 h:∀x,σ.r<=x->σ.N x=í
 M:∀j j',j+2<=σ.r->j'+2<=σ.r->σ.I j=σ.I j'->j=j'
 o:∀j,j+2<=σ.r->¬F.M (σ.I j)/\σ.I j≠F.Y/\F.S<=σ.I j
 t:∀c reg,σ.b=.cl c reg->c=bY (F.n+1) σ.G/\reg=σ.M.gE
 g:∀reg,σ.b=.jI reg->bY (F.n+1) σ.G=0/\reg=σ.M.gE/\∃x,x<σ.r/\σ.g=À x/\(σ.N x=À (.gi (.gG reg))\/σ.N x=À (.gi (.jf reg)))
 u:∀r s,σ.b=.gR r s->bY (F.n+1) σ.G=0/\r+s=σ.M.gE/\(0<r->∃x,x<σ.r/\σ.g=À x/\σ.N x=À (.gi (.iC r)))
 N:∀x p,σ.N x=À (.gi p)->(∀W,p=.gG W\/p=.jf W->σ.g=À x/\σ.b=.jI W)/\(∀r,p=.iC r->0<r/\σ.g=À x/\∃s,σ.b=.gR r s)
 B:σ.M=.fC .gG\/σ.M=.fC .lb\/σ.M=.gi->bY (F.n+1) σ.G=0
 e:∀k,1<=k->k<=F.m->σ.S.od<k->σ.a k=.cl 1 (bY F.n λj=>(σ.C j).gE F j k)
 Y:∀k,k<=F.m->k<=σ.S.od->(∃W,(σ.S=.dn k (.gG W)\/σ.S=.dn k (.jf W))/\σ.a k=.jI W/\W=bY F.n λj=>(σ.C j).gE F j k)\/(∃r s,σ.S=.dn k (.iC r)/\0<r/\σ.a k=.gR r s/\r+s=bY F.n λj=>(σ.C j).gE F j k)\/((∀p,σ.S≠ .dn k p)/\((σ.a k=.cl 0 0/\(bY F.n λj=>(σ.C j).gE F j k)=0)\/∃s,σ.a k=.gR 0 s/\s=bY F.n λj=>(σ.C j).gE F j k))
 w:∀j r,j+2<=σ.r->(σ.C j=.fC r .gG\/σ.C j=.fC r .lb\/σ.C j=.jM r)->F.r (j+r*F.n)<=σ.S.od
 H:∀j r,j+2<=σ.r->σ.C j=.fC r .gG->∃a b,σ.a (F.r<|j+r*F.n)=.gR a b
 L:σ.M=.fC .gG->∃a b,σ.b=.gR a b
 S:(∀p,σ.M≠ .fC p)->σ.M≠ .gi->∃c,σ.b=.cl c 0
 y:∀k,k<=F.m->σ.a k=.cl 1 0->σ.d k=í
 D:∀j r,j+2<=σ.r->σ.C j=.fC r .wr->σ.d (F.r<|j+r*F.n)=À j
def fl(F:Ph)(σ:fV F)(a:Array Ô)(w:È):Prop:=∀i g,a[i]?=À g->g.status=Ζ->
 (i=0/\σ.M=.fC .kz/\σ.b.sm=0)\/(∃j,j+2<=σ.r/\σ.N (j+1)=í/\i=F.L+1+j/\((∃r,σ.C j=.fC r .kz/\(σ.a<|F.r<|j+r*F.n).sm=0)\/∃r b s c,σ.C j=.nz r/\w.heap[σ.I j]?=À (aF b #[] Â s c Â)))
structure PI(F:Ph)(t0:Nat)(ju:ew->Prop)(σ:fV F)(S:Nat->Jd)(tr:Nat->gy)(kp:Nat->iB)(lot:Nat->fh)(gs:Array Ô)(w:È)(t:ī):Prop where
 b:gs.size=F.L+σ.r
 I:gN F.P F.S σ.Y S tr kp lot gs w t
 h:S 0=JM F σ.I σ.M/\kp 0=kM σ.M
 m:0<σ.r->σ.N 0=í->S F.L=JI F σ.c σ.S/\kp F.L=.no
 g:∀j,j+2<=σ.r->σ.N (j+1)=í->S (F.L+1+j)=JW F (σ.I j) j (σ.C j)/\kp (F.L+1+j)=kW F (σ.I j) (σ.C j)
 k:∀x e,x<σ.r->σ.N x=À e->S (F.L+x)=JE F e/\kp (F.L+x)=.no/\((∃N,e=.jh N)->tr (F.L+x)=.fF)
 l:∀i,0<i->i<F.L->S i=oS F.P (σ.h i)/\tr i=.fF/\kp i=.no
 a:iI F σ lot gs.size w
 M:Wd F σ w
 C:Ps F σ
 d:TI F.toFx t0 ju σ.r (σ.S.rl) σ.V σ.e σ.d σ.ie σ.f t
 c:fl F σ gs w
 f:∀j r,j+2<=σ.r->σ.C j=.jM r->1<=F.r (j+r*F.n)->bX t (F.L+1+j) (σ.e<|F.r<|j+r*F.n)
structure gU(F:Ph):Prop where
 C:F.Ok
 S:∀k s V w w',F.d k s V w->(∀b,V b->w'.heap[b]?=w.heap[b]?)->w'.cell? (jk F.toFx k)=w.cell? (jk F.toFx k)->w'.cell? (jv F F.f)=w.cell? (jv F F.f)->kU w' F.Y=kU w F.Y->(w'.os=w.os/\w'.output=w.output)->F.d k s V w'
 Hc:∀j dk l g w₁,F.g j dk l g->fK l l.w w₁->F.g j dk {l with w:=w₁} g
 I:∀j dk l g,F.g j dk l g->g.status=Ñ
 N:∀k l g,F.h k l g->g.status=Ñ
 Y:∀c i l g,F.e c i l g->g.status=Ñ
 M:∀dk l g,F.j dk l g->g.status=Ñ
 go:∀j dk l g,j<=F.n->F.g j dk l g->gB l->l.d=0/\∃(g' child:Ô) (X:Nat->Prop),g'.status=Ñ/\child.status=Ñ/\(∀w₁,Ý F.P Ë g w₁=.spawn g' child w₁ #[])/\(∀b,X b->l.O b)/\
  (1<=j->l.O (dk<|j-1)/\¬X (dk<|j-1)/\l.w.heap[dk<|j-1]?=À (aF F.q #[] Â 0 0 Â)/\F.S<=dk (j-1))/\
  (∀l':fh,gB l'->(∀b,X b\/l.I b->l'.I b)->l'.w=l.w->l'.d=0->¬l'.q->(∀b,¬l'.O b)->l'.K=l.K->l'.N=l.N->(∀a,l'.r a->l.r a)->fp F.P Â (if j=0 then F.h 0 else En F (dk<|j-1) (j-1) 0) l' child)/\
  (∀l':fh,gB l'->l'.O=(λb=>l.O b/\¬X b/\(1<=j->b≠dk (j-1)))->(∀b,X b\/l.I b->l'.I b)->l'.w=l.w->l'.d=0->l'.q=l.q->l'.K=l.K->l'.N=l.N->(∀a,l'.r a->l.r a)->fp F.P Ë (JM F dk<|if j<F.n then .iF (j+1)else .iL F.q) l' g')
 f:∀k s V l g,k<F.m->F.h k l g->gB l->nA F k s->F.d k s V l.w->(∀b,V b->l.I b)->l.N (jk F.toFx k)->l.r (jk F.toFx<|k+1)->l.r (jv F<|F.b<|k+1)->∀sg:Nat->F.γ,sg k=s->fp F.P Â (JI F sg<|.mk (k+1)) l g
 h:∀l g,F.h F.m l g->gB l->fp F.P Â (AB F) l g
 e:∀c j r s V l g,j+r*F.n<F.q->F.e c (j+r*F.n) l g->∀l':fh,gB l'->l'.O=l.O->(∀b,l.I b\/V b->l'.I b)->l'.w=l.w->l'.d=l.d->l'.q=l.q->l'.r=l.r->l'.K=l.K->nA F (F.r<|j+r*F.n) s->F.d (F.r<|j+r*F.n) s V l.w->l'.N (jk F.toFx<|F.r<|j+r*F.n)->l'.r (jv F<|F.a<|j+r*F.n)->fp F.P Â (JW F c j<|.oQ r) l' g
end Go.Proofs.Y.fD
