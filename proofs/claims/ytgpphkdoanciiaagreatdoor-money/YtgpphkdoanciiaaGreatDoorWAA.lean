/- Money: the texts of the proof, packed by program out of some 250: remarks struck, names and blanks shortened, for the limit of a claim's size. -/
import Derived.KernelRfl
import Derived.Conc.Own
import Derived.Conc.Events
import Derived.Laws.Sem
import Derived.Conc.Own5
import Derived.Conc.CompanyDraw
import Derived.Conc.Know
import Derived.Conc.Beside
import Derived.Conc.MarkLaws
import Derived.Conc.CrowdComm
import Derived.Conc.CrowdTrace
import Derived.Conc.CrowdBase
set_option linter.all false
set_option maxRecDepth 1000000
set_option maxHeartbeats 8000000
open Option renaming some->À,none->ë,map_eq_some_iff->ģ,map_some->bH
open Go renaming TypeId->Á,Value->Â,World->Æ,Goroutine->Ó,Program->Õ,Operand->Ö,stepG->Ù,Addr->Ú,FuncId->à,execOp->ì,underlying->ø,resolve->ù,IntKind->ú,Event->ý,run_program->ă,variablesAt->Ą,invoke->č,builtin->Ē,Sem->ē,loadBytes->ĕ,Frame->Ę,Trace->ğ,BinOp->ġ,results->Ī,behindNumber->Į,FloatKind->ı,callFunc->ĵ,undef->ľ,yielded->ł,loadCellsFrom->Ō,convert->Œ,movedNumber->ŕ,Item->ś,movedPointer->Ţ,binOp->Ũ,elemOf->Ū,sameAddr->Ŭ,deafBehind->ŭ,eqGuard->ŷ,typeInfo->Δ,partners->Η,RuntimeError->Ι,storeCells->Κ,Next->Ο,cellAtBytes->ξ,choose->π,Tape->ψ,zeroValue->ω,loadVar->ae,Code->ak,store->ar,Oper->av,BoundsCode->ax,sizeOf->ay,storeVar->aJ,nilAhead->aR,lone->aU,load->aX,noView->aY,liesAt->aZ,findLabel->bj,stringish->bm,Unsupported->br,followBlind->bx,Act->bF,askRoom->bP,Machine->bR,Question->bU,asBool->bW,asAddr->bX,fieldPlace->bY,numberAt->b9,asNumber->cg,getObj->cu,shape->cw,exitTo->cD,gotoIn->cE,mayBeOne->cK,runT->cX,MemOp->cZ,loadCells->c8,rowAt->c9,program->de,asIntOf->df,viewAt->dj,byteOf->dm,unwind->du,runN->dw,cellsIn->dx,asInt->dB,TypeDesc->dG,runN_add->dJ,Touch->dM,step->dQ,Loc->dR,newRow->dS,PanicEntry->ef,isAgg->eu,Race->eE,newVar->eK,asAgg->eL,newObj->eM,frozen->eN,freeze->eV
open Bool renaming false->Ã,false_eq_true->Å,true->É,and_eq_true_iff->Ü,not_true->þ,not_false->Ă,and_eq_true->ě,or_eq_true_iff->Ŝ,eq_iff_iff->Χ,or_eq_true->bI
open Go.Sem renaming run_bind->Ä,runT_bind'->Ñ,run->ã,bind->ç,runT->é,run_bind'->Ĵ,bind_assoc'->ř,runT_eq->ź,runT_fst->Ρ,pure->aI,store->da,halt->ep
open Or renaming inl->Ç,inr->Î
open Go.Result renaming andThen_ok->È,ok->ĥ,halt->bV
open Go.Op renaming operands->Ê,equal->ó,maxDepth->ā,eqGuardIn->į,twoPlaces->š,equalIn->Λ,addrSub->Μ,addrCmp->Ν,addrMod->Ξ,call->Ω,intDiv->ah,shift->aK,convert->aN,stringOp->bu,unary->bZ,makeInterface->cJ,floatArith->cT,complexOp->dp,buildSlice->dD,intArith->dE,floatCmp->dF,binOp->dT,makeSlice->dU,fieldAddr->dV,indexAddr->dW,intBits->dY,nilCheck->eB,intCmp->eC
open Array renaming getElem?_eq_some_iff->Ë,getElem?_setIfInBounds_ne->Ï,getElem?_setIfInBounds_self_of_lt->Ò,mem_of_getElem?->Û,getElem?_eq_getElem->Ý,getElem?_append_right->ć,empty_append->Ď,append_empty->ď,mapM_eq_mapM_toList->Ĕ,mem_append->Ĝ,getElem?_push_lt->Ģ,getD_eq_getD_getElem?->ĩ,replicate->ĺ,append_assoc->Ļ,append_singleton->Ł,all_eq_true->Ń,getElem?_modify->Ň,mem_iff_getElem->ŉ,getElem?_setIfInBounds->Ś,getElem_map->ŵ,getElem_extract->κ,forIn_toList->aE,range->dC
open Go.stepG renaming exec->Ì,apply->bC
open Go.MemOp renaming ofEvents->Í
open Go.GoStatus renaming running->Ð,finished->Ğ,blocked->Ů
open Nat renaming lt_of_lt_of_le->Ô,le_refl->ß,le_trans->õ,exists_eq_add_of_le->Ε,div_le_div_right->ο,add_assoc->cQ,le_of_eq->dz,zero_le->dA
open List renaming map_toArray->Ø,map_cons->â,map_nil->ä,mem_cons_self->î,mem_cons_of_mem->ò,eq_nil_of_length_eq_zero->Ā,zipIdx_cons->Ĭ,mem_cons->œ,mem_singleton->ū,foldlM_cons->Ζ,filter_eq_nil_iff->Υ,foldlM_nil->ζ,forIn_cons->η,mapM_cons->ν,forIn_nil->φ,map_eq_nil_iff->aj,flatMap_cons->aV,mapM_nil->cS
open Go.Value renaming pointer->Þ,int->Ć,string->ħ,bool->Ľ,tuple->ſ,nilIface->aW,slice->bS,nilFunc->bT,chan->ek,func->eJ
open Go.Item renaming inRegion->á,code->Đ,inLoop->dq,inBlock->dH,inScope->dI
open Go.Act renaming eval->å
open Go.IntKind renaming u64->æ,i64->Ŋ,u32->ŗ
open Go.MemAct renaming ofEvent->è,touch?->ÿ,mark->Ř
open Go.Builtin renaming unsafeString_->ê,unsafeAdd_->ñ,unsafeSliceData_->ė,min2->Ĳ,append_->ĸ,firstCells->ļ,min_->ń,copy_->ő,len_->ş,cap_->Š,zeroCells->Ŷ,lenOf->Α,holdsCells->aB,mayShare->bb,unsafeSliceData->bl,unsafeString->cW
open Go.Conc renaming mem_ofEvents->í,touchAt->Ě,crowd->ķ,woken->ţ,stepG_region_draw->Ż,parked->Γ,Deaf->Τ,rcase->θ,stepG_unwanted->υ,g?_old->aG,knows_own->bn,deafBehind_still->bq,stepG_value->bA,stepG_enter->bB,Knows->bD,stepG_cond->cF,mem_listed->cG,stepG_none->cH,enter_at->cI,deaf_old->cO,touch_of->dN,act?_old->dP,hb_app->eg,touch_mute->eh,counts_old->ei,act?_of->eA
open Go.Next renaming value->ï,enter->ũ,skip->aH
open Go.TypeDesc renaming pointer->ð,unsafePointer->đ,string->ę,int->Β,struct->dh,slice->di
open Go.Call renaming operands->ô
open Go.Conv renaming unsafePointer->ö,bytesToString->ü,seenAt->Ž,runesToString->aF,floatToFloat->aQ,intToString->bh,floatToInt->bK,intToInt->cU
open Go.Loc renaming cell->û,mark->ů
open Ne renaming symm->ą
open Go.World renaming frozen?->Ĉ,setCell->ĉ,freeze->Ė,cell?->Ġ,farLoad->ŋ,farStore->Ŧ,shape?->Θ,setChan->au,noCell->aP,viewStore->bJ
open Go.Extern.BytealgMakeNoZero renaming makeNoZero->Ċ,digits->ņ
open Go.Mode renaming atomic->ċ,plain->Ť
open Go.Obj renaming cells->Č,pending->Ÿ,chan->χ
open Go.Callee renaming builtin->ĝ,value->cj
open Option.some renaming inj->Ĥ,injEq->ž
open Go.Region renaming wanted->Ħ,schedule->bM,Mode->eH
open Go.Instr renaming sliceBounds->Ĩ,sliceBound->ī,buildSlice->ĭ,storeAt->ĳ,makeSlice->Ĺ,extract->ō,fieldAt->Ŏ,indexAt->ŏ,sliceAt->Ő,makeInterface->ŝ,loadAt->Ş,sureAddr->ŧ,alloc->Ű,field->ű,slice->Ų,index->ų,build->Ŵ,panic->ż,box->ag,fill->az
open Go.Deferred renaming ofValue->İ
open Go.Mark renaming releaseMerge->Ķ,disable->cL,acquire->cM,noRoom->dc,enable->dy,release->dO
open Go.Extern.AbiNoEscape renaming same->Ŀ
open Go.Halt renaming unsupported->ŀ
open Go.Trace renaming g?->Ņ
open Go.Stepped renaming next->ň
open Go.Touch.Kind renaming atomic->Ŕ,plain->eX
open Go.Frame renaming raise->Ŗ,finish_at->ε,finish->aT,catches->cV,enter->dK
open Go.Unsupported renaming unsafePointer->ť
open Go.GStep renaming after->Ź,go->aS,ended->eT
open Go.Goroutine renaming again->ι
open Except renaming bind->ρ,pure->ς,error->bG,map->cm
open Go.Op.Complex renaming corrected->σ,quotient->ai,product->aC,arith->bg,conv->bL,cmp->cx,mul->cy,add->cz,sub->cA,quo->cB
open Go.BinOp renaming eql->aA,neq->aL
open Go.Operand renaming func->aO,const->dX,global->ew
open Go.Code renaming cond->bz,region->bQ,refuse->dt,label->dZ,block->ea,scope->eb,skip->eO,loop->eP,exit->eR,goto->eS
open Go.ConcN renaming sumTo->bE,fork_knows->cP
variable{i n j b k m J j9 j7 j6:Nat}{w u W jX:Æ}{v x z jQ:Â}{g:Ó}{a p:Ú}{h c:Int}{e t T:Á}{d q:Array Â}{P:Õ}{y:bF}{B:ByteArray}{X:Nat->Prop}{O:Option Ú}{l:List Â}{yQ:Bool}{K H:bF->Æ->Prop}{o:av}{D:Nat->Nat}{E:Array Ó}{L:List ś}{jJ:List Nat}{qX:List Ę}{qQ:Ö}{qJ:ğ}{zX:dR->Prop}{zQ:List Int}{zJ:Go.TypeInfo}{xX:Ö->Â}{xQ:ψ}{xJ:Nat×Nat}{wX:ak}{wQ:cZ}{wJ:Array Bool}{vX:List ByteArray}{vQ:Â->Æ->Prop}{vJ:Go.Exit->bF->Æ->Prop}{yX:eH}{Q:Array av}{f:Ę}{V:Array ý}{F:à}{s:Go.Func}
namespace Go.Proofs
theorem U{A:Sort _}{a:A}:a=a:=rfl
theorem Z{p:Prop}(h:p:=by omega):p:=h
theorem A{p:Prop}(h:p:=by decide):p:=h
theorem fj{p:Prop}(h:p:=by simp):p:=h
theorem fu{p:Prop}(h:p:=by kernel_rfl):p:=h
theorem fQ{p:Prop}(h:p:=by rfl):p:=h
end Go.Proofs
namespace Go.Proofs.Y.Lift
open Go
abbrev ff{α:Type}:α->Prop:=λ_=>False
structure ft where
 jA:Nat->Nat->Prop
 C:Nat
instance:CoeFun ft λ_=>Nat->Nat->Prop:=⟨ft.jA⟩
def Bi(Y:ft):Prop:=(∀i j a,Y i j->Y i a->j=a)/\(∀i a j,Y i j->Y a j->i=a)/\(∀i j,Y i j->(i<Y.C↔j<Y.C))
def ft.r(Y a:ft):Prop:=(∀i j,Y i j->a i j)/\(Bi Y->Bi a)/\a.C=Y.C
def ft.N(Y:ft)(r a:Nat):ft:=⟨λi j=>Y i j\/(i=r/\j=a),Y.C⟩
def ft.M(Y:ft):Y.r Y:=⟨λ_ _ h=>h,id,U⟩
theorem ft.I{a b c:ft}(h:a.r b)(k:b.r c):a.r c:=⟨λi j x=>k.1 i j<|h.1 i j x,λx=>k.2.1<|h.2.1 x,k.2.2.trans h.2.2⟩
theorem ft.S{Y:ft}{r:Nat}(c:∀j,¬Y r j)(d:∀a,¬Y a i)(f:Y.C<=r)(g:Y.C<=i):Y.r (Y.N r i):=by
 refine⟨λ_ _ h=>Ç h,λb=>⟨?_,?_,?_⟩,U⟩
 .rintro a j k (x|⟨rfl,rfl⟩) (y|⟨e,rfl⟩)
  .exact b.1 _ _ _ x y
  .grind
  .grind
  .rfl
 .rintro a k j (x|⟨rfl,rfl⟩) (y|⟨rfl,e⟩)
  .exact b.2.1 _ _ _ x y
  .grind
  .grind
  .rfl
 .rintro a j (x|⟨rfl,rfl⟩)
  .exact b.2.2 _ _ x
  .show(a<Y.C↔j<Y.C);omega
def gZ(Y:ft)(a b:Ú):Prop:=Y a.block b.block/\a.off=b.off/\a.spot=b.spot
def gZ.r{Y b:ft}(h:Y.r b)(r:gZ Y a p):gZ b a p:=⟨h.1 _ _ r.1,r.2⟩
def gZ.C{Y:ft}(r:gZ Y a p)(n:Nat):gZ Y (a.add n) (p.add n):=by
 let⟨b,c,d⟩:=r;unfold Addr.add;by_cases e:n=0
 .rw[if_pos e,if_pos e];exact⟨b,c,d⟩
 .rw[if_neg e,if_neg e];exact⟨b,by simp[c],U⟩
inductive fl(Y:ft):Â->Â->Prop
 |mj (b:Bool):fl Y (Ľ b) (Ľ b)
 |iE (k:ú) (n:Int):fl Y (Ć k n) (Ć k n)
 |kq (s:ByteArray):fl Y (ħ s) (ħ s)
 |lJ:fl Y (Þ ë) (Þ ë)
 |jM {a a':Ú} (h:gZ Y a a'):fl Y (Þ<|À a) (Þ<|À a')
 |nX (n c:Nat):fl Y (bS ë n c) (bS ë n c)
 |kH {a a':Ú} (h:gZ Y a a') (n c:Nat):fl Y (bS (À a) n c) (bS (À a') n c)
 |uQ:fl Y bT bT
 |fn (f:Fn):fl Y (eJ f #[] #[]) (eJ f #[] #[])
 |uR:fl Y aW aW
 |uS:fl Y (ek ë) (ek ë)
 |uT:fl Y (.map ë) (.map ë)
 |xW (t:Á) {v v':Â} (h:fl Y v v'):fl Y (.iface t v) (.iface t v')
 |ow {cs lL:Array Â} (hs:cs.size=lL.size) (h:∀i (h1:i<cs.size) (h2:i<lL.size),fl Y cs[i] lL[i]):fl Y (.agg cs) (.agg lL)
 |nD {cs lL:Array Â} (hs:cs.size=lL.size) (h:∀i (h1:i<cs.size) (h2:i<lL.size),fl Y cs[i] lL[i]):fl Y (ſ cs) (ſ lL)
def fl.fN{Y a:ft}(h:Y.r a)(r:fl Y v x):fl a v x:=by
 induction r with
 |mj b=>exact .mj b
 |iE k n=>exact .iE k n
 |kq s=>exact .kq s
 |lJ=>exact .lJ
 |jM b=>exact .jM (b.r h)
 |nX n c=>exact .nX n c
 |kH b n c=>exact .kH (b.r h) n c
 |uQ=>exact .uQ
 |fn f=>exact .fn f
 |uR=>exact .uR
 |uS=>exact .uS
 |uT=>exact .uT
 |xW t _ b=>exact .xW t b
 |ow c _ b=>exact .ow c b
 |nD c _ b=>exact .nD c b
structure fR(Y:ft)(cs lL:Array Â):Prop where
 r:cs.size=lL.size
 C:∀i (h1:i<cs.size) (h2:i<lL.size),fl Y cs[i] lL[i]
def fR.I{Y a:ft}(h:Y.r a){cs:Array Â}(r:fR Y cs d):fR a cs d:=⟨r.r,λi b c=>(r.C i b c).fN h⟩
theorem fR.S{Y:ft}(r:fR Y d q)(i:Nat):(d[i]?=ë/\q[i]?=ë)\/∃v b,d[i]?=À v/\q[i]?=À b/\fl Y v b:=by
 by_cases h:i<d.size
 .have a:i<q.size:=by rwa[<-r.r]
  exact Î ⟨d[i],q[i],Ý h,Ý a,r.C i h a⟩
 .have a:¬i<q.size:=by rwa[<-r.r]
  grind
def fR.N(Y:ft):fR Y #[] #[]:=⟨U,λi h=>absurd h fj⟩
theorem fR.UG{Y:ft}(r:fR Y d q)(h:fl Y v x):fR Y (d.push v) (q.push x):=by
 refine⟨by simp[r.r],λi b c=> ?_⟩;simp only[Array.getElem_push];have e:=r.r;by_cases a:i<d.size
 .rw[dif_pos a,dif_pos Z];exact r.C i a Z
 .grind
theorem fR.qh{Y:ft}(r:fR Y d q)(n:Nat)(h:fl Y v x):fR Y (d.setIfInBounds n v) (q.setIfInBounds n x):=by
 refine⟨by simp[r.r],λi c e=> ?_⟩;have f:i<d.size:=by simpa using c
 have g:i<q.size:=by simpa using e
 have a:(d.setIfInBounds n v)[i]?=if n=i then À v else d[i]?:=by grind
 have b:(q.setIfInBounds n x)[i]?=if n=i then À x else q[i]?:=by grind
 rw[Ý c]at a;rw[Ý e]at b;by_cases j:n=i
 .grind
 .rw[if_neg j]at a b;rw[Ý f]at a;rw[Ý g]at b;injection a with a;injection b with b;rw[a,b];exact r.C i f g
def fR.s9{Y:ft}{cs b:Array Â}(r:fR Y cs d)(t:fR Y q b):fR Y (cs++q) (d++b):=by
 refine⟨by simp[r.r,t.r],λi c g=> ?_⟩;have e:=r.r;have f:=t.r;simp only[Array.getElem_append];by_cases a:i<cs.size
 .rw[dif_pos a,dif_pos Z];exact r.C i a Z
 .rw[dif_neg a,dif_neg Z];have:=t.C (i-cs.size) (by simp at c;omega) (by simp at c;omega);simpa[e]using this
def fR.Fa{Y:ft}(r:fR Y d q)(a b:Nat):fR Y (d.extract a b) (q.extract a b):=by refine⟨by simp[r.r],λi c e=> ?_⟩;rw[κ ..,κ ..];exact r.C _ _ _
def fR.M{Y:ft}(h:fl Y v x):fR Y #[v] #[x]:= ⟨U,λi a b=>by have:i=0:=(by simpa using a);subst this;exact h⟩
def fl.gS{Y:ft}(h:fl Y v x):fR Y v.cells x.cells:=by
 cases h with
 |ow a h=>exact⟨a,h⟩
 |mj b=>exact fR.M<|.mj b
 |iE k n=>exact fR.M<|.iE k n
 |kq s=>exact fR.M<|.kq s
 |lJ=>exact fR.M .lJ
 |jM b=>exact fR.M<|.jM b
 |nX n c=>exact fR.M<|.nX n c
 |kH b n c=>exact fR.M<|.kH b n c
 |uQ=>exact fR.M .uQ
 |fn f=>exact fR.M<|.fn f
 |uR=>exact fR.M .uR
 |uS=>exact fR.M .uS
 |uT=>exact fR.M .uT
 |xW t b=>exact fR.M<|.xW t b
 |nD a h=>exact fR.M<|.nD a h
def xY:Â->Bool
 |.agg _|ſ _=>Ã
 |_=>É
def Fb(e:Á)(n:Nat):Prop:=(e=304\/e=305)/\n<=16
class Ab (P:Õ):Prop where
 lt:∀e n,Fb e n->n<P.cellsOf e
def Cw(e:Á)(n a:Nat):Prop:=n=a\/(n<=a/\Fb e n)
structure oN(Y:ft)(s:Prop)(e:Á)(c c':Array Â):Prop where
 r:∀i (_:i<c.size) (_:i<c'.size),fl Y c[i] c'[i]
 I:c.size<=c'.size
 C:c.size=c'.size\/(s/\Fb e c.size)
section
variable{Y d:ft}{s:Prop}{c c':Array Â}
def oN.M(h:fR Y c c'):oN Y s e c c':=⟨h.C,by rw[h.r];exact ß _,Ç h.r⟩
def oN.N(h:oN Y s e c c')(a:¬s):fR Y c c':=⟨h.C.resolve_right λq=>a q.1,h.r⟩
def oN.fN(h:oN Y s e c c')(l:Y.r d):oN d s e c c':=⟨λi a b=>(h.r i a b).fN l,h.I,h.C⟩
theorem oN.Fc(h:oN Y s e c c')(i:Nat):(c[i]?=ë/\True)\/∃v a,c[i]?=À v/\c'[i]?=À a/\fl Y v a:=by
 by_cases q:i<c.size
 .have b:=Ô q h.I;exact Î ⟨c[i],c'[i],Ý q,Ý b,h.r i q b⟩
 .grind
def oN.acE(h:oN Y s e c c'):Cw e c.size c'.size:=h.C.imp id λq=>⟨h.I,q.2⟩
end
inductive fG(P:Õ){α:Type}(V:ft->α->α->Prop):ft->ē α->ē α->Prop
 |fC {Y:ft} {a a':α} (h:V Y a a'):fG P V Y (aI a) (aI a')
 |gA {Y:ft} {a a':Ú} {k k':Â->ē α} (ha:gZ Y a a') (hk:∀v v',fl Y v v'->fG P V Y (k v) (k' v')):fG P V Y (.load Ť a k) (.load Ť a' k')
 |ja {Y:ft} {a a':Ú} {v v':Â} {k k':ē α} (ha:gZ Y a a') (hv:fl Y v v') (hk:fG P V Y k k'):fG P V Y (da Ť a v k) (da Ť a' v' k')
 |xZ {Y:ft} {c c':Array Â} {e:Á} {k k':Nat->ē α} (hc:fR Y c c') (hk:∀r r',(∀j,¬Y r j)->(∀i,¬Y i r')->Y.C<=r->Y.C<=r'->fG P V (Y.N r r') (k r) (k' r')):fG P V Y (.new (Č c e) k) (.new (Č c' e) k')
 |uU {Y:ft} {r r':Nat} {k k':Option (TypeId×Nat)->ē α} (hr:Y r r') (hk:∀e n n',Cw e n n'->fG P V Y (k<|À (e,n)) (k'<|À (e,n'))):fG P V Y (.shape r k) (.shape r' k')
 |M0 {Y:ft} {a a':Ú} {k k':Bool->ē α} (ha:gZ Y a a') (hk:∀b b',(b'=É->b=É)->fG P V Y (k b) (k' b')):fG P V Y (.frozen a k) (.frozen a' k')
 |Ac {Y:ft} {q:bU} {k k':Nat->ē α} (hk:∀n,fG P V Y (k n)<|k' n):fG P V Y (.choose q k) (.choose q k')
 |IH {Y:ft} {k k':Õ->ē α} (hk:fG P V Y (k P) (k' P)):fG P V Y (.program k) (.program k')
 |Cx {Y:ft} {m:Mark} {k k':ē α} (hm:m=dc\/∃f,m=.extern f) (hk:fG P V Y k k'):fG P V Y (.mark m k) (.mark m k')
 |fO {Y:ft} {h:Halt} {m:ē α}:fG P V Y (ep h) m
 |ox {Y:ft} {m m':ē α} (h:∀u x u',m.run P u≠ĥ x u'):fG P V Y m m'
def vT{α β:Type}{m:ē α}{f:α->ē β}(h:∀u x b,m.run P u≠ĥ x b):∀u x b,(m.bind f).run P u≠ĥ x b:=by
 intro u x b e;have c:(m>>=f).run P u=ĥ x b:=e;rw[Ä]at c;cases d:m.run P u with
 |ok a w=>exact h _ _ _ d
 |halt z w=>rw[d]at c;cases c
def fG.lU{α β:Type}{V:ft->α->α->Prop}{l:ft->β->β->Prop}{Y:ft}{m o:ē α}{f p:α->ē β}(h:fG P V Y m o) (g:∀i a k,Y.r i->V i a k->fG P l i (f a) (p k)):fG P l Y (m.bind f) (o.bind p):=by
 induction h with
 |fC h=>exact g _ _ _ (ft.M _) h
 |gA j _ d=>exact .gA j λv c b=>d v c b g
 |ja j b _ d=>exact .ja j b (d g)
 |xZ q _ d=>exact .xZ q λr s c e n v=>d r s c e n v λi a k t b=>g i a k (ft.I (ft.S c e n v) t) b
 |uU b _ d=>exact .uU b λe n v c=>d e n v c g
 |M0 j _ d=>exact .M0 j λb c v=>d b c v g
 |Ac _ d=>exact .Ac λn=>d n g
 |IH _ d=>exact .IH (d g)
 |Cx c _ d=>exact .Cx c (d g)
 |fO=>exact .fO
 |ox h=>exact .ox (vT h)
def ya:Â->Bool
 |Ć .u8 _=>É
 |_=>Ã
def Cy(c:Array Â):Prop:=∀(k:Nat) (v:Â),c[k]?=À v->ya v=Ã
structure jf(Y:ft)(Sh:Nat->Prop)(u w:Æ):Prop where
 S:u.tape=w.tape
 N:u.drawn=w.drawn
 C:Bi Y
 I:Y.C<=u.heap.size
 M:Y.C<=w.heap.size
 r:∀i j,Y i j->∃c c' e fr vU,u.heap[i]?=À (Č c e fr)/\w.heap[j]?=À (Č c' e vU)/\oN Y (Sh j) e c c'/\(Sh j->fr.1=0/\c.size<=fr.2/\vU.2<=fr.2/\0<c.size/\(Cy c\/Fb e c.size))/\(¬Sh j->fr=vU)/\fr.2<=c.size
structure nF(Y:ft)(Sh:Nat->Prop)(w w':Æ):Prop where
 r:w.heap.size<=w'.heap.size
 I:w'.os=w.os
 M:w'.output=w.output
 S:w'.tape=w.tape
 C:∀j,j<w.heap.size->(∀i,¬Y i j)->w'.heap[j]?=w.heap[j]?
 N:∀j,Sh j->j<w.heap.size->w'.heap[j]?=w.heap[j]?
def Ad(Y:ft)(b:Nat->Prop)(e:ý):Prop:=
 (∃(a:Ú) (i:Nat),e.loc=û a/\Y i a.block/\e.sync=Ã/\(e.write=É->¬b a.block))\/e.loc=ů dc\/∃f,e.loc=ů (.extern f)
def vV{α:Type}{m:Mode}{k:ē α}(h:xY v=É): ã P (da m a v k) w=(match w.cell? a with
 |some _=>if w.frozen? a then bV (ŀ<|ť "a write to bytes that a string shares") w else k.run P (w.setCell a v)
 |none=>match w.farStore P a v (m==ċ)with
  |.ok (w,_)=>k.run P w
  |bG h=>bV h w):=by
 cases v<;>first|rfl|cases h
def acG{α:Type}{m:Mode}{k:ē α}(h:xY v=É): é P (da m a v k) w V=(match w.cell? a with
 |some _=>
  if w.frozen? a then(bV (ŀ<|ť "a write to bytes that a string shares") w,V)
  else k.runT P (w.setCell a v) (V.push ⟨û a,É,m==ċ⟩)
 |none=>match w.farStore P a v (m==ċ)with
  |.ok (w,touched)=>k.runT P w (V++touched.toArray.map (⟨.cell ·,É,m==.atomic⟩))
  |bG h=>(bV h w,V)):=by
 cases v<;>first|rfl|cases h
def acH{α:Type}{m:Mode}{k:ē α}(h:xY v=Ã){x:α}:ã P (da m a v k) w≠ĥ x u:=by cases v<;>first|exact Bool.noConfusion h|(intro e;simp[ã]at e)
def acI{Y:ft}(h:fl Y v x):xY x=xY v:=by cases h<;>rfl
section
variable{Y:ft}
def Ae(h:u.heap[a.block]?=À (Č d e xJ)):u.cell? a=if a.spot.isSome then ë else d[a.off]?:=by simp[Ġ,h]
def acJ(h:u.heap[a.block]?=À (Č d e xJ))(b:Bool):∃x,u.farLoad P a b=bG x:=by simp[ŋ,h]
def acK(h:u.heap[a.block]?=À (Č d e xJ))(b:Bool):∃x,u.farStore P a v b=bG x:=by simp[Ŧ,h]
def jf.gA(h:jf Y X u w){a':Ú}(i:gZ Y a a')(b:u.cell? a=À v):∃f,w.cell? a'=À f/\fl Y v f:=by
 let⟨j,k,l⟩:=i;let⟨c,s,e,t,y,m,n,o,_⟩:=h.r _ _ j;rw[Ae m]at b;rw[Ae n,<-k,<-l];cases g:a.spot with
 |some x=>rw[g]at b;cases b
 |none=>
  rw[g]at b;rcases o.Fc a.off with⟨d,_⟩|⟨x,p,d,q,r⟩
  .simp[d]at b
  .simp[d]at b;subst b;exact⟨p,by simp[q],r⟩
theorem jf.acM(h:jf Y X u w)(g:gZ Y a p)(i:u.cell? a=À v)(j:u.frozen? a=Ã):¬X p.block/\w.frozen? p=Ã:=by
 let⟨k,l,q⟩:=g;let⟨c,r,e,b,s,d,m,t,x,n,y⟩:=h.r _ _ k;rw[Ae d]at i;have z:a.off<c.size:=by grind
 have o:(decide (b.1<=a.off)&&decide (a.off<b.2))=Ã:=by simpa[Ĉ,d]using j
 have f:¬X p.block:=by grind
 refine⟨f,?_⟩;have:=n f;subst this;simp only[Ĉ,m,<-l];exact o
def UH{w:Æ}(h:w.heap[a.block]?=À (Č d e xJ))(b:a.spot=ë): (w.setCell a v).heap[a.block]?=À (Č (d.setIfInBounds a.off v) e xJ):=by simp[ĉ,Ň,h,b]
def jU{w:Æ}:(w.setCell a v).heap.size=w.heap.size:=by simp[ĉ]
def IJ{w:Æ}(h:a.block≠j):(w.setCell a v).heap[j]?=w.heap[j]?:=by simp[ĉ,Ň,h]
def jf.ja(h:jf Y X u w)(B:gZ Y a p)(C:fl Y v z)(D:u.cell? a=À x)(m:¬X p.block):jf Y X (u.setCell a v) (w.setCell p z):=by
 let⟨d,E,F⟩:=B;have n:a.spot=ë:=by let⟨c,o,e,f,g,b,_⟩:=h.r _ _ d;rw[Ae b]at D;simp_all
 refine⟨h.S,h.N,h.C,by rw[jU];exact h.I,by rw[jU];exact h.M,λi j k=> ?_⟩;let⟨c,o,e,f,g,b,q,r,G,t,y⟩:=h.r i j k;by_cases l:a.block=i
 .subst l;have:j=p.block:=h.C.1 _ _ _ k d;subst this;exact⟨_,_,e,f,g,UH b n,UH q (by rw[<-F,n]),by rw[<-E];exact oN.M<|(r.N m).qh _ C,λs=>absurd s m,t,by simpa using y⟩
 .exact⟨c,o,e,f,g,by rwa[IJ l],by rwa[IJ λe=>l<|h.C.2.1 _ _ _ d<|e▸k],r,G,t,y⟩
theorem jf.xZ(h:jf Y X u w)(m:∀j,X j->j<w.heap.size)(n:fR Y d q): jf (Y.N u.heap.size w.heap.size) X {u with heap:=u.heap.push (Č d e)} {w with heap:=w.heap.push (Č q e)}:=by
 have a:∀i j,Y i j->i<u.heap.size/\j<w.heap.size:=by intro i j s;let⟨_,_,_,_,_,f,g,_⟩:=h.r i j s;grind
 have b:=ft.S (Y:=Y) (λj x=>absurd (a _ _ x).1 Z) (λi x=>absurd (a _ _ x).2 Z) h.I h.M;refine⟨h.S,h.N,b.2.1 h.C,by have:=h.I;simp[ft.N];omega,by have:=h.M;simp[ft.N];omega,?_⟩
 .rintro i j (x|⟨rfl,rfl⟩)
  .let⟨s,o,p,r,t,f,g,v,y,z,B⟩:=h.r i j x;let⟨k,l⟩:=a i j x;exact⟨s,o,p,r,t,by simp only[Ģ k];rw[<-f,Ý k],by simp only[Ģ l];rw[<-g,Ý l],v.fN b,y,z,B⟩
  .exact⟨d,q,e,(0,0),(0,0),fj,fj,oN.M<|n.I b,λs=>absurd (m _ s) Z,λ_=>rfl,dA _⟩
theorem nF.fU(Y:ft)(X:Nat->Prop)(w:Æ):nF Y X w w:=⟨ß _,U,U,U,λ_ _ _=>rfl,λ_ _ _=>rfl⟩
def nF.fg{b:ft}{w₁:Æ}(h:nF Y X w w₁)(k:nF b X w₁ u)(d:∀i j,b i j->Y i j\/w.heap.size<=j):nF Y X w u:= ⟨õ h.r k.r,k.I.trans h.I,k.M.trans h.M,k.S.trans h.S,λj a c=>(k.C j (Ô a h.r) λi y=>(d i j y).elim (c i) λz=>by omega).trans<|h.C j a c,λj s a=>(k.N j s<|Ô a h.r).trans<|h.N j s a⟩
def IK{w:Æ}:(w.freeze a n).heap.size=w.heap.size:=by unfold Ė;split<;>simp
def acN{w:Æ}:(w.freeze a n).os=w.os:=by unfold Ė;split<;>rfl
def acO{w:Æ}:(w.freeze a n).output=w.output:=by unfold Ė;split<;>rfl
def M1{w:Æ}:(w.freeze a n).tape=w.tape:=by unfold Ė;split<;>rfl
def UI{w:Æ}:(w.freeze a n).drawn=w.drawn:=by unfold Ė;split<;>rfl
theorem IL{w:Æ}(h:a.block≠j):(w.freeze a n).heap[j]?=w.heap[j]?:=by unfold Ė;split;all_goals grind
def rW(a:Ú)(n:Nat)(b:Nat×Nat):Nat×Nat:=if n=0 then b else if b.1==b.2 then(a.off,a.off+n)else(min b.1 a.off,max b.2<|a.off+n)
theorem UJ{w:Æ}(h:w.heap[a.block]?=À (Č d e xJ)):(w.freeze a n).heap[a.block]?=À (Č d e<|rW a n xJ):=by unfold Ė rW;grind
def UK(h:a.off=p.off)(n:Nat)(b:Nat×Nat):rW a n b=rW p n b:=by unfold rW;rw[h]
theorem acP(h:a.off+n<=i)(b:xJ.2<=i):(rW a n xJ).2<=i:=by unfold rW;grind
theorem acQ{b:Nat×Nat}(c:0<i)(d:xJ.1=0)(e:i<=xJ.2)(f:b.2<=xJ.2):(rW a n xJ).1=0/\i<=(rW a n xJ).2/\(rW a n b).2<=(rW a n xJ).2:=by unfold rW;grind
def jf.acR(h:jf Y X u w)(y:gZ Y a p)(n:Nat)(z:∀c e b,u.heap[a.block]?=À (Č c e b)->a.off+n<=c.size):jf Y X (u.freeze a n) (w.freeze p n):=by
 obtain⟨k,l,I⟩:=y;refine⟨M1.trans<|h.S.trans M1.symm,UI.trans<|h.N.trans UI.symm,h.C,by rw[IK];exact h.I,by rw[IK];exact h.M,λi j d=> ?_⟩;obtain⟨c,m,e,b,B,f,o,q,r,t,v⟩:=h.r i j d;by_cases g:a.block=i
 .subst g;have:j=p.block:=h.C.1 _ _ _ d k;subst this;refine⟨c,m,e,_,_,UJ f,UJ o,q,λs=> ?_,λs=> ?_,acP (z _ _ _ f) v⟩
  .obtain⟨C,D,E,x⟩:=r s;rw[<-UK l];obtain⟨F,G,H⟩:=acQ x.1 C D E;exact⟨F,G,H,x⟩
  .rw[t s,UK l]
 .exact⟨c,m,e,b,B,by rwa[IL g],by rwa[IL λe=>g<|h.C.2.1 _ _ _ k<|e▸d],q,r,t,v⟩
theorem jf.G(h:jf Y X u w)(b:gZ Y a p):w.frozen? p=É->u.frozen? a=É:=by let⟨d,f,j⟩:=b;let⟨c,k,e,l,m,g,i,n,o,q,r⟩:=h.r _ _ d;simp only[Ĉ,g,i,<-f,ě,decide_eq_true_eq];rintro⟨x,y⟩;by_cases s:X p.block;all_goals grind
theorem fG.gl{α:Type}{V:ft->α->α->Prop}{Y:ft}{m m':ē α}(h:fG P V Y m m'):∀{u w:Æ},jf Y X u w->(∀j,X j->j<w.heap.size)->∀{x:α} {E:Æ},m.run P u=ĥ x E->∀n:Array ý,∃(l:ft) (t:α) (p:Æ) (B:Array ý),Y.r l/\(∀i j,l i j->Y i j\/(u.heap.size<=i/\w.heap.size<=j))/\m'.runT P w n=(ĥ t p,n++B)/\V l x t/\jf l X E p/\nF Y X w p/\(∀e∈B,Ad l X e)/\u.heap.size<=E.heap.size:=by
 induction h with
 |fC h=>
  intro u w d _ x E b n;simp only[ã]at b;cases b;exact⟨_,_,w,#[],ft.M _,λ_ _ h=>Ç h,by simp[é],h,d,nF.fU _ _ _,λe o=>by simp at o,ß _⟩
 |@gA Y a a' k k' ha hk D=>
  intro u w d C x E b n;simp only[ã]at b;cases f:u.cell? a with
  |none=>
   let⟨c,Q,e,fr,vU,O,_⟩:=d.r _ _ ha.1;let⟨z,s⟩:=acJ (P:=P) O<|Ť==ċ;rw[f]at b;simp only[s]at b;cases b
  |some v=>
   rw[f]at b;let⟨W,S,y⟩:=d.gA ha f;let⟨l,t,p,B,F,G,I,J,K,g,L,H⟩:=D v W y d C b<|n.push ⟨û a',Ã,Ã⟩;refine⟨l,t,p,#[⟨û a',Ã,Ã⟩]++B,F,G,?_,J,K,g,λe o=> ?_,H⟩
   .simp only[é,S];rw[show((Ť==ċ)=Ã)from U,I];rw[<-Ļ,Ł]
   .rcases Ĝ.1 o with o|o
    .simp at o;subst o;exact Ç ⟨a',_,U,F.1 _ _ ha.1,U,λe=>by cases e⟩
    .exact L e o
 |@ja Y a a' v W k k' ha hv _ D=>
  intro u w d C x E b n;cases ho:xY v with
  |false=>exact absurd b<|acH ho
  |true=>
   rw[vV ho]at b;cases f:u.cell? a with
   |none=>
    let⟨c,Q,e,fr,vU,O,_⟩:=d.r _ _ ha.1;let⟨z,s⟩:=acK (P:=P) (v:=v) O<|Ť==ċ;rw[f]at b;simp only[s]at b;cases b
   |some y=>
    rw[f]at b;cases M:u.frozen? a with
    |true=>rw[M]at b;simp at b
    |false=>
     simp only[M,Å,if_false]at b;let⟨ns,hf'⟩:=d.acM ha f M;let⟨y',M3,_⟩:=d.gA ha f;let⟨l,t,p,B,F,G,I,J,K,g,L,H⟩:=D (d.ja ha hv f ns) (by rwa[jU]) b<|n.push ⟨û a',É,Ã⟩;have S:(w.setCell a' W).heap.size=w.heap.size:=jU;have UL:(u.setCell a v).heap.size=u.heap.size:=jU;refine⟨l,t,p,#[⟨û a',É,Ã⟩]++B,F,by rwa[S,UL]at G,?_,J,K,?_,λe o=> ?_,by rwa[UL]at H⟩
     .rw[acG<|(acI hv).trans ho,M3];simp only[hf',Å,if_false];rw[show((Ť==ċ)=Ã)from U,I];rw[<-Ļ,Ł]
     .refine⟨by rw[<-S];exact g.r,g.I,g.M,g.S,λj N T=> ?_,λj s N=>(g.N j s<|by rwa[S]).trans<|IJ λe=>ns<|e▸s⟩;rw[g.C j (by rwa[S]) T];exact IJ λe=>T a.block<|e▸ha.1
     .rcases Ĝ.1 o with o|o
      .simp at o;subst o;exact Ç ⟨a',_,U,F.1 _ _ ha.1,U,λ_=>ns⟩
      .exact L e o
 |@xZ Y c Q e k k' f _ D=>
  intro u w d C x E b n;simp only[ã]at b;have W:∀i j,Y i j->i<u.heap.size/\j<w.heap.size:=by intro i j S;let⟨_,_,_,_,_,O,hw',_⟩:=d.r i j S;grind
  have n1:∀j,¬Y u.heap.size j:=λj y=>absurd (W _ _ y).1 Z;have n2:∀i,¬Y i w.heap.size:=λi y=>absurd (W _ _ y).2 Z;let⟨l,t,p,B,F,G,I,J,K,g,L,H⟩:=D u.heap.size w.heap.size n1 n2 d.I d.M (d.xZ C f) (λj s=>by have:=C j s;simp;omega) b n;refine⟨l,t,p,B,ft.I (ft.S n1 n2 d.I d.M) F,λi j S=> ?_,by simp only[é];exact I,J,K,?_,L,by simp at H;omega⟩
  .rcases G i j S with(y|⟨rfl,rfl⟩)|y
   .exact Ç y
   .exact Î ⟨ß _,ß _⟩
   .simp at y;exact Î ⟨Z,Z⟩
  .have hs:=g.r;simp at hs;refine⟨Z,g.I,g.M,g.S,λj N T=> ?_,λj s N=>(g.N j s<|by simp;omega).trans ?_⟩
   .rw[g.C j (by simp;omega) (λi z=>z.elim (T i) λz=>by omega)];simp[Ģ N]
   .simp[Ģ N]
 |@uU Y r r' k k' oO _ D=>
  intro u w d C x E b n;simp only[ã]at b;let⟨c,Q,e,fr,vU,O,hw',S,_⟩:=d.r _ _ oO;have f:u.shape? r=À (e,c.size):=by simp[Θ,O]
  have s:w.shape? r'=À (e,Q.size):=by simp[Θ,hw']
  rw[f]at b;let⟨l,t,p,B,h⟩:=D e c.size Q.size S.acE d C b n;exact⟨l,t,p,B,by simp only[é,s];exact h⟩
 |@M0 Y a a' k k' ha _ D=>
  intro u w d C x E b n;simp only[ã]at b;let⟨l,t,p,B,h⟩:=D (u.frozen? a) (w.frozen? a') (d.G ha) d C b n;exact⟨l,t,p,B,by simpa only[é]using h⟩
 |@Ac Y q k k' _ D=>
  intro u w d C x E b n;simp only[ã]at b;cases M:q.forced with
  |true=>
   rw[M]at b;simp only[if_true]at b;let⟨l,t,p,B,h⟩:=D 0 d C b n;exact⟨l,t,p,B,by simpa only[é,M,if_true]using h⟩
  |false=>
   rw[M]at b;simp only[Å,if_false]at b;have S:jf Y X {u with drawn:=u.drawn+1} {w with drawn:=w.drawn+1}:=⟨d.S,by simp[d.N],d.C,d.I,d.M,d.r⟩;rw[d.S,d.N]at b;obtain⟨l,t,p,B,F,G,I,J,K,g,L,H⟩:=D (q.cut<|w.tape w.drawn q) S C (by rwa[d.S,d.N]) n;exact⟨l,t,p,B,F,G,by simp only[é,M,Å,if_false];exact I,J,K,⟨g.r,g.I,g.M,g.S,g.C,g.N⟩,L,H⟩
 |IH _ D=>
  intro u w d C x E b n;simp only[ã]at b;let⟨l,t,p,B,h⟩:=D d C b n;exact⟨l,t,p,B,by simpa only[é]using h⟩
 |@Cx Y mk k k' hm _ D=>
  intro u w d C x E b n;simp only[ã]at b;let⟨l,t,p,B,F,G,I,J,K,g,L,H⟩:=D d C b<|n.push ⟨ů mk,Ã,É⟩;refine⟨l,t,p,#[⟨ů mk,Ã,É⟩]++B,F,G,?_,J,K,g,λe o=> ?_,H⟩
  .simp only[é];rw[I];rw[<-Ļ,Ł]
  .rcases Ĝ.1 o with o|o
   .simp at o;subst o;rcases hm with rfl|⟨f,rfl⟩
    .exact Î<|Ç U
    .exact Î<|Î ⟨f,U⟩
   .exact L e o
 |fO=>
  intro u w _ _ x E b n;simp only[ã]at b;cases b
 |ox h=>
  intro u w _ _ x E b n;exact absurd b<|h _ _ _
end
inductive jN:Â->Prop
 |mj (b:Bool):jN (Ľ b)
 |iE (k:ú) (n:Int):jN (Ć k n)
 |kq (s:ByteArray):jN (ħ s)
 |lJ:jN (Þ ë)
 |nX (n c:Nat):jN (bS ë n c)
 |uQ:jN bT
 |uR:jN aW
 |uS:jN (ek ë)
 |uT:jN (.map ë)
 |ow {cs:Array Â} (h:∀i (h:i<cs.size),jN cs[i]):jN (.agg cs)
 |nD {cs:Array Â} (h:∀i (h:i<cs.size),jN cs[i]):jN (ſ cs)
def jN.jA(h:jN v)(Y:ft):fl Y v v:=by
 induction h with
 |mj b=>exact .mj b
 |iE k n=>exact .iE k n
 |kq s=>exact .kq s
 |lJ=>exact .lJ
 |nX n c=>exact .nX n c
 |uQ=>exact .uQ
 |uR=>exact .uR
 |uS=>exact .uS
 |uT=>exact .uT
 |ow _ b=>exact .ow U λi c _=>b i c
 |nD _ b=>exact .nD U λi c _=>b i c
def nG(P:Õ):Prop:=∀t i z,P.info? t=À i->i.zero=À z->jN z
def jm{α:Type}:ft->α->α->Prop:=λ_ a b=>a=b
section
variable{Y:ft}
def fE{α β:Type}{V:ft->α->α->Prop}{V':ft->β->β->Prop}{m c:ē α}{f d:α->ē β}(h:fG P V Y m c) (g:∀b a e,Y.r b->V b a e->fG P V' b (f a) (d e)):fG P V' Y (m>>=f) (c>>=d):=fG.lU h g
def rX{α β:Type}{c:ft->β->β->Prop}{m:ē α}{f d:α->ē β}(h:fG P jm Y m m) (g:∀b a,Y.r b->fG P c b (f a) (d a)):fG P c Y (m>>=f) (m>>=d):= fG.lU h λb a i j (e:a=i)=>by subst e;exact g b a j
def qL:fG P (λ_ a b=>a=P/\b=P) Y de de:=.IH (.fC ⟨U,U⟩)
theorem M4{α:Type}{V:ft->α->α->Prop}{e:Ι}(h:(∃x y s c,e=.bounds x y s c)\/(∃m,e=.error m)\/(∃m,e=.plain m)\/e=.nilDeref):fG P V Y (runtimePanic e) (runtimePanic e):=by unfold runtimePanic;refine fE qL ?_;rintro f a g _ ⟨b,d⟩;rw[b,d];rcases h with⟨x,y,s,c,rfl⟩|⟨m,rfl⟩|⟨m,rfl⟩|rfl<;>exact .fO
theorem Cz{α:Type}{V:ft->α->α->Prop}{k:ú}{y:Int}{c:ax}:fG P V Y (boundsPanic k h y c) (boundsPanic k h y c):=by
 unfold boundsPanic;simp only[];split
 .apply rX (.Ac λn=> .fC U);grind [M4]
 .grind [M4]
def yb(t:Á):fG P (λ_ a b=>a=b/\P.info? t=À a) Y (Δ t) (Δ t):=by
 unfold Δ;apply fE qL;rintro e a b _ ⟨c,d⟩;rw[c,d];cases h:P.info? t with
 |some i=>exact .fC ⟨U,U⟩
 |none=>exact .fO
def iZ(t:Á):fG P (λ_ a b=>a=b/\P.underlying t=À a) Y (ø t) (ø t):=by
 unfold ø;apply fE qL;rintro e a b _ ⟨c,d⟩;rw[c,d];cases h:P.underlying t with
 |some i=>exact .fC ⟨U,U⟩
 |none=>exact .fO
def Fe(b:nG P)(t:Á):fG P fl Y (ω t) (ω t):=by
 unfold ω;apply fE (yb t);rintro d a e _ ⟨rfl,h⟩;cases c:a.zero with
 |some z=>exact .fC ((b t a z h c).jA _)
 |none=>exact .fO
def mU(t:Á):fG P (λ_ a b=>a=b/\∃i,P.info? t=À i/\i.size=a) Y (ay t) (ay t):=by unfold ay;apply fE (yb t);rintro i a b _ ⟨rfl,h⟩;exact .fC ⟨U,_,h,U⟩
def UM(t:Á):fG P jm Y (eu t) (eu t):=by unfold eu;apply fE (iZ t);rintro b a c _ ⟨rfl,_⟩;split<;>exact .fC U
def IN(h:gZ Y a p):fG P fl Y (aX a) (aX p):=.gA h λ_ _ b=> .fC b
def acS(h:gZ Y a p)(b:fl Y v x):fG P jm Y (ar a v) (ar p x):=.ja h b (.fC U)
def acT:∀{Y:ft} {a b:Ú} {i:Nat} {c d:Array Â},gZ Y a b->fR Y c d->fG P fR Y (Ō a i n c) (Ō b i n d):=by
 induction n with
 |zero=>intro Y a b i c d _ e;exact .fC e
 |succ n h=>
  intro Y a b i c d f e;unfold Ō;apply fE (IN<|f.C i);exact λk v l g j=>h (f.r g)<|(e.I g).UG j
def M5(h:gZ Y a p)(n:Nat):fG P fR Y (c8 a n) (c8 p n):=acT h<|fR.N Y
def M6:∀{d c:List Â} {Y:ft} {a e:Ú} {i:Nat},gZ Y a e->fR Y d.toArray c.toArray->fG P jm Y (Κ a d i) (Κ e c i):=by
 intro d
 induction d with
 |nil=>
  intro c Y a e i _ b;have:c=[]:=by have:=b.r;simp at this;exact Ā this.symm
  subst this;exact .fC U
 |cons v d h=>
  intro c Y a e i f b;match c,b with
  |[],b=>have:=b.r;simp at this
  |v'::c,b=>
   unfold Κ;refine fE (acS (f.C i) (by have:=b.C 0 fj fj;simpa using this)) ?_;intro m _ _ g _;apply h (f.r g);refine⟨by have:=b.r;simpa using this,λj k l=> ?_⟩;have:=b.C (j+1) (by simp at k|-;omega) (by simp at l|-;omega);exact(by simpa using this:fl Y _ _).fN g
theorem UN(h:gZ Y a p)(t:Á):fG P fl Y (ae t a) (ae t p):=by
 unfold ae;apply rX (UM t);intro g b d;split
 .apply fE (mU t);rintro i n _ f ⟨rfl,_⟩;apply fE (M5 ((h.r d).r f) n);exact λj c k _ e=> .fC (.ow e.r e.C)
 .exact IN<|h.r d
def acU(h:gZ Y a p)(t:Á)(d:fl Y v x):fG P jm Y (aJ t a v) (aJ t p x):=by
 unfold aJ;apply fE (mU t);rintro f n _ b ⟨rfl,_⟩;have c:=(d.fN b).gS;by_cases e:v.cells.size≠n
 .rw[if_pos e];exact .fO
 .rw[if_neg e,if_neg (by rwa[<-c.r])];exact M6 (h.r b) c
def Af(e:Á)(h:fR Y d q):fG P gZ Y (dS e d) (dS e q):= .xZ h λ_ _ _ _ _ _=> .fC ⟨Î ⟨U,U⟩,U,U⟩
def UO(t:Á)(h:fl Y v x):fG P gZ Y (eK t v) (eK t x):=Af t h.gS
def UP(t:Á)(h:fR Y d q)(a:Nat):fG P fl Y (part t d a) (part t q a):=by
 unfold part;apply rX (UM t);intro i b e;split
 .apply fE (mU t);rintro g n _ f ⟨rfl,_⟩;have:=((h.I e).I f).Fa a<|a+n;exact .fC (.ow this.r this.C)
 .rcases(h.I e).S a with⟨n,f⟩|⟨v,j,n,f,g⟩
  .rw[n];exact .fO
  .rw[n,f];exact .fC g
def Ff(h:fl Y v x):fG P gZ Y (ŧ v) (ŧ x):=by cases h<;>first|exact .fO|(rename_i a;exact .fC a)
def IP(h:fl Y v x):fG P jm Y (df v) (df x):=by cases h<;>first|exact .fC U|exact .fO
def M7(h:fl Y v x):fG P jm Y (dB v) (dB x):=by unfold dB;apply fE (IP h);rintro b a _ _ rfl;exact .fC U
def UQ(h:fl Y v x):fG P jm Y (bW v) (bW x):=by cases h<;>first|exact .fC U|exact .fO
def acV(h:fl Y v x):fG P fR Y (eL v) (eL x):=by cases h<;>first|exact .fO|(rename_i a y;exact .fC ⟨a,y⟩)
def UR(h:fl Y v x):fG P gZ Y (bX v) (bX x):=by cases h<;>first|exact M4 (Î<|Î<|Î U)|(rename_i a;exact .fC a)|exact .fO
def acW(b:nG P)(t:Á)(v:Â):fG P fl Y (Ű t É v) (Ű t É v):=by unfold Ű;apply fE (Fe b t);intro d z e _ h;apply fE (UO t h);exact λf a g _ c=> .fC (.jM c)
def acX(t:Á)(h:fl Y v x):fG P fl Y (ag t v) (ag t x):=by unfold ag;apply fE (UO t h);exact λc a d _ b=> .fC (.jM b)
theorem acY(t:Á)(h:fl Y v x):fG P fl Y (Ş t v) (Ş t x):=by unfold Ş;apply fE (Ff h);grind [UN]
def acZ(t:Á)(b:fl Y x z)(h:fl Y v jQ):fG P jm Y (ĳ t x v) (ĳ t z jQ):=by unfold ĳ;apply fE (Ff b);exact λd x z c b=>acU b t<|h.fN c
def ac0(h:fl Y v x)(n:Nat):fG P fl Y (ō v n) (ō x n):=by
 cases h<;>first|exact .fO|skip
 rename_i e f c h;simp only[ō];rcases(fR.mk c h).S n with⟨a,b⟩|⟨v,x,a,b,d⟩
 .rw[a];exact .fO
 .rw[a,b];exact .fC d
def ac1(t:Á)(h:fl Y v x)(n:Nat):fG P fl Y (ű t v n) (ű t x n):=by
 unfold ű;apply fE (iZ t);rintro g d _ a ⟨rfl,_⟩;split
 .rename_i b _;cases i:b[n]? with
  |none=>exact .fO
  |some f=>
   apply fE (acV<|h.fN a);exact λj c k _ e=>UP f.type e f.offset
 .exact .fO
end
section
variable{Y:ft}
def qM{α β:Type}{V:ft->β->β->Prop}{a b:α}{f c:α->ē β}(h:fG P V Y (f a) (c b)):fG P V Y (pure a>>=f) (pure b>>=c):=h
def ac2(s:Á)(h:fl Y v x)(n:Nat)(e:∀c f i,P.underlying s=À (dh c)->c[n]?=À f->P.info? f.type=À i->i.size≠0): fG P fl Y (Ŏ s v n) (Ŏ s x n):=by
 unfold Ŏ;apply fE (iZ s);rintro r d _ g ⟨rfl,j⟩;cases d<;>try exact .fO
 .rename_i c;simp only[];cases k:c[n]? with
  |none=>exact .fO
  |some f=>
   apply fE (Ff<|h.fN g);intro t a u _ l;unfold bY;refine fE (fE (V':=gZ) (mU f.type) ?_) ?_
   .rintro w z _ m ⟨rfl,i,o,p⟩;have:¬z=0:=by rw[<-p];exact e c f i j k o
    rw[if_neg this,if_neg this];exact .fC ((l.r m).C _)
   .exact λy b B _ q=> .fC (.jM q)
def ac3(t:Á)(h:fl Y x v)(j:fl Y z jQ):fG P fl Y (ŏ t x z) (ŏ t v jQ):=by
 unfold ŏ;apply fE (IP j);rintro r ⟨k,n⟩ _ l rfl;apply fE (iZ t);rintro f d _ m ⟨rfl,s⟩;have g:=(h.fN l).fN m;cases d<;>try exact .fO
 .cases g<;>first|exact .fO|skip
  .refine qM<|fE (iZ t) ?_;exact λ_ _ _ _ _=>Cz
  refine qM<|fE (iZ t) ?_;rintro o d _ c ⟨rfl,_⟩;simp only[];split
  .apply fE (mU _);rintro p b _ e ⟨rfl,_⟩;exact .fC (.jM (((‹gZ f _ _›.r c).r e).C _))
  .repeat' (first|exact .fO|exact Cz|split)
 .apply fE (Ff g);intro f a u _ q;refine qM<|fE (iZ t) ?_;rintro o d _ c ⟨rfl,_⟩;simp only[];split
  .apply fE (mU _);rintro p b _ e ⟨rfl,_⟩;exact .fC (.jM (((q.r c).r e).C _))
  .repeat' (first|exact .fO|exact Cz|split)
def CB(h:fl Y x v)(y:Nat)(c:ax):fG P jm Y (ī x y c) (ī v y c):=by
 unfold ī;apply fE (IP h);rintro a ⟨k,n⟩ _ b rfl;simp only[];split
 .exact .fC U
 .exact Cz
def qN(Y:ft)(x a:Option Â):Prop:=(x=ë/\a=ë)\/∃v b,x=À v/\a=À b/\fl Y v b
def qN.r{Y a:ft}(h:Y.r a){x b:Option Â}(r:qN Y x b):qN a x b:=r.imp id λ⟨v,c,d,e,f⟩=>⟨v,c,d,e,f.fN h⟩
def Fg(f:Bool)(g i:Nat){l j h k m n:Option Â}(c:qN Y l j)(o:qN Y h k)(t:qN Y m n):fG P jm Y (Ĩ f g i l h m) (Ĩ f g i j k n):=by
 unfold Ĩ;rcases t with⟨rfl,rfl⟩|⟨B,C,rfl,rfl,u⟩
 .refine qM ?_;rcases o with⟨rfl,rfl⟩|⟨w,x,rfl,rfl,d⟩
  .refine qM ?_;rcases c with⟨rfl,rfl⟩|⟨v,p,rfl,rfl,b⟩
   .exact .fC U
   .apply fE (CB b _ _);rintro r q _ _ rfl;exact .fC U
  .refine fE (CB d _ _) ?_;rintro y a _ e rfl;rcases(c.r e)with⟨rfl,rfl⟩|⟨v,p,rfl,rfl,b⟩
   .exact .fC U
   .apply fE (CB b _ _);rintro r q _ _ rfl;exact .fC U
 .refine fE (CB u _ _) ?_;rintro D a _ s rfl;rcases o with⟨rfl,rfl⟩|⟨w,x,rfl,rfl,d⟩
  .exact .fO
  .refine fE (CB (d.fN s) _ _) ?_;rintro y z _ e rfl;rcases(((c.r s).r e))with⟨rfl,rfl⟩|⟨v,p,rfl,rfl,b⟩
   .exact .fC U
   .apply fE (CB b _ _);rintro r q _ _ rfl;exact .fC U
def ac4(t:Á)(k:fl Y x v){l C h D m u:Option Â}(g:qN Y l C)(i:qN Y h D)(j:qN Y m u):fG P fl Y (Ų t x l h m) (Ų t v C D u):=by
 unfold Ų;apply fE (iZ t);rintro I d _ o ⟨rfl,J⟩;have k:=k.fN o;have g:=g.r o;have i:=i.r o;have j:=j.r o;cases d<;>try exact .fO
 .cases k<;>first|exact .fO|skip
  rename_i s;have e:m.isSome=u.isSome:=by rcases j with⟨rfl,rfl⟩|⟨_,_,rfl,rfl,_⟩<;>rfl
  simp only[e];split
  .exact .fO
  .apply fE (Fg Ã s.size s.size g i<|Ç ⟨U,U⟩);rintro G ⟨a,b,c⟩ _ _ rfl;exact .fC (.kq _)
 .rename_i H;apply fE (UR k);intro G a K B f;apply fE (iZ H);rintro L d _ p ⟨rfl,_⟩;have f:=f.r p;cases d<;>try exact .fO
  rename_i n e _;apply fE (Fg Ã n n ((g.r B).r p) ((i.r B).r p)<|(j.r B).r p);rintro E ⟨x,y,z⟩ _ q rfl;apply fE (mU e);rintro F w _ r ⟨rfl,_⟩;have f:=(f.r q).r r;refine .fC (.kH ?_ _ _);split
  .exact f
  .exact f.C _
 .rename_i e;cases k<;>first|exact .fO|skip
  .rename_i n c;apply fE (Fg É n c g i j);rintro E ⟨x,y,z⟩ _ q rfl;apply fE (mU e);rintro F w _ r ⟨rfl,_⟩;simp only[Option.map_none,ite_self];exact .fC (.nX _ _)
  .rename_i f n c;apply fE (Fg É n c g i j);rintro E ⟨x,y,z⟩ _ q rfl;apply fE (mU e);rintro F w _ r ⟨rfl,_⟩;have f:=(f.r q).r r;by_cases e:z=x
   .simp only[e,if_true];exact .fC (.kH f _ _)
   .simp only[e,if_false,bH];exact .fC (.kH (f.C _) _ _)
def ac5(t:Á)(b:fl Y x v){l o h p m q:Option Â}(c:qN Y l o)(f:qN Y h p)(g:qN Y m q):fG P fl Y (Ő t x l h m) (Ő t v o p q):=by
 unfold Ő;apply fE (iZ t);rintro u d _ i ⟨rfl,B⟩;have b:=b.fN i;have c:=c.r i;have f:=f.r i;have g:=g.r i;cases d<;>try exact ac4 t b c f g
 rename_i n e;apply fE (Ff b);intro C a D k j;apply fE (Fg Ã n n (c.r k) (f.r k)<|g.r k);rintro E ⟨x,y,z⟩ _ r rfl;apply fE (mU e);rintro F w _ s ⟨rfl,_⟩;have j:=(j.r r).r s;refine .fC (.kH ?_ _ _);split
 .exact j
 .exact j.C _
def ac6(t:Á)(a:fl Y x v)(b:fl Y z jQ):fG P fl Y (ų t x z) (ų t v jQ):=by
 unfold ų;apply fE (IP b);rintro l ⟨k,n⟩ _ c rfl;apply fE (iZ t);rintro m d _ f ⟨rfl,o⟩;have a:=(a.fN c).fN f;cases d<;>try exact .fO
 .cases a<;>first|exact .fO|skip
  simp only[];split
  .exact .fC (.iE _ _)
  .exact Cz
 .rename_i p e;cases a<;>first|exact .fO|skip
  rename_i g h;simp only[];split
  .apply fE (mU e);rintro q w _ j ⟨rfl,_⟩;exact UP e ((fR.mk g h).I j) _
  .exact Cz
def ac7(a:UnOp)(b:fl Y x v):fG P fl Y (bZ a x) (bZ a v):=by cases b<;>cases a<;>first|exact .fO|exact .fC (.iE _ _)|exact .fC (.mj _)
end
section
variable{Y:ft}
def ac8{α β:Type}{g:α->ē β}(d:∀{Y:ft} (a:α),fG P jm Y (g a)<|g a):∀{Y:ft} (l:List α),fG P jm Y (l.mapM g) (l.mapM g):=by
 intro Y l
 induction l generalizing Y with
 |nil=>exact .fC U
 |cons a l e=>
  rw[ν];apply rX (d a);intro f b _;apply rX e;exact λh c _=> .fC U
def ac9{α β:Type}{g:α->ē β}(b:∀{Y:ft} (a:α),fG P jm Y (g a)<|g a)(l:Array α):fG P jm Y (l.mapM g) (l.mapM g):=by rw[Ĕ];have:=ac8 b (Y:=Y) l.toList;apply fG.lU this;intro d a c _ (e:a=c);subst e;exact .fC U
def ada(Y:ft)(p a:Nat×Value):Prop:=p.1=a.1/\fl Y p.2 a.2
inductive uV(Y:ft):List (Nat×Value)->List (Nat×Value)->Prop
 |oP:uV Y [] []
 |vW {p p':Nat×Value} {l l':List (Nat×Value)} (h:ada Y p p') (t:uV Y l l'):uV Y (p::l) (p'::l')
def uV.fN{Y a:ft}(h:Y.r a){l b:List (Nat×Value)}(r:uV Y l b):uV a l b:=by
 induction r with
 |oP=>exact .oP
 |vW x _ c=>exact .vW ⟨x.1,x.2.fN h⟩ c
def adb(f:Nat):∀(c a:List Â) (k:Nat) (b d:Array Â),fR Y c.toArray a.toArray->fR Y b d-> fR Y ((c.zipIdx k).foldl (λb (p:Value×Nat)=>b.setIfInBounds (f+p.2) p.1) b) ((a.zipIdx k).foldl (λb (p:Value×Nat)=>b.setIfInBounds (f+p.2) p.1) d):=by
 intro c
 induction c with
 |nil=>
  intro a k b d p e;have:a=[]:=by have:=p.r;simp at this;exact Ā this.symm
  subst this;exact e
 |cons x c g=>
  intro a k b d p e;match a,p with
  |[],p=>have:=p.r;simp at this
  |x'::a,p=>
   simp only[Ĭ,List.foldl_cons];refine g a (k+1) _ _ ⟨by have:=p.r;simpa using this,λj h i=> ?_⟩ (e.qh _ (by have:=p.C 0 fj fj;simpa using this));have:=p.C (j+1) (by simp at h|-;omega) (by simp at i|-;omega);simpa using this
theorem ade(b:Nat){a c:Array Â}(e:fR Y d q)(f:fR Y a c): fR Y (d.zipIdx.foldl (λa (p:Value×Nat)=>a.setIfInBounds (b+p.2) p.1) a) (q.zipIdx.foldl (λa (p:Value×Nat)=>a.setIfInBounds (b+p.2) p.1) c):=by have:=adb b d.toList q.toList 0 a c (by simpa using e) f;grind [Array.toList_zipIdx]
def IQ(d:Nat->Option (Nat×Nat)):∀{l e:List (Nat×Value)} {a b:Array Â},uV Y l e->fR Y a b-> (az d a l=ë)\/∃c h,az d a l=À c/\az d b e=À h/\fR Y c h:=by
 intro l e a b h
 induction h generalizing a b with
 |oP=>intro c;exact Î ⟨a,b,U,U,c⟩
 |@vW p p' l e hp _ ih=>
  intro c;let⟨i,v⟩:=p;let⟨k,m⟩:=p';obtain⟨rfl,g⟩:=hp;unfold az;cases d i with
  |none=>exact Ç U
  |some q=>
   let⟨j,n⟩:=q;have f:=g.gS;simp only[<-f.r,<-c.r];split
   .exact Ç U
   .exact ih<|ade j f c
def adf(q:nG P)(t:Á){l m:Array (Nat×Value)}(h:uV Y l.toList m.toList):fG P fl Y (Ŵ t l) (Ŵ t m):=by
 unfold Ŵ;apply fE (Fe q t);intro C z D r s;apply fE (iZ t);rintro E d _ o ⟨rfl,F⟩;have p:=(s.fN o).gS;have h:=(h.fN r).fN o;cases d<;>try exact .fO
 .rename_i n e;refine fE (mU e) ?_;rintro u w _ b ⟨rfl,_⟩;rcases IQ (λi=>À (i*w,w)) (h.fN b) (p.I b)with e|⟨c,v,j,k,g⟩
  .simp only[e];exact .fO
  .simp only[j,k];exact .fC (.ow g.r g.C)
 .rename_i x;refine rX (ac9 (λ{Y} (f:Field)=>fE (mU f.type) λG a H _ y=> ?_) x) ?_
  .obtain⟨rfl,_⟩:=y;exact .fC U
  .intro u B b;rcases IQ (B[·]?) (h.fN b) (p.I b)with e|⟨c,v,j,k,g⟩
   .simp only[e];exact .fO
   .simp only[j,k];exact .fC (.ow g.r g.C)
end
section
variable{Y:ft}
theorem adg(Y:ft):fl Y (default:Â) default:=.mj _
theorem fR.adh{Y:ft}(r:fR Y d q)(i:Nat):fl Y d[i]! q[i]!:=by
 by_cases h:i<d.size
 .have a:i<q.size:=by rwa[<-r.r]
  rw[getElem!_pos d i h,getElem!_pos q i a];exact r.C i h a
 .have a:¬i<q.size:=by rwa[<-r.r]
  grind [getElem,adg]
def fR.G{Y:ft}(r:fR Y d q)(n:Nat):fR Y ((dC n).map (d[· %d.size]!)) ((dC n).map (q[· %q.size]!)):=by refine⟨fj,λi a b=> ?_⟩;simp only[ŵ,<-r.r];exact r.adh _
def fR.yc{Y:ft}(r:fR Y d q)(n:Nat):fR Y (Ŷ d n) (Ŷ q n):=by
 unfold Ŷ;have e:n*d.size=n*q.size:=by rw[r.r]
 rw[<-e];exact r.G _
def adi(f:nG P)(t:Á)(b:Nat){m n:Array (Nat×Value)}(h:uV Y m.toList n.toList):fG P fl Y (ĭ t b m) (ĭ t b n):=by
 unfold ĭ;apply fE (iZ t);rintro v d _ p ⟨rfl,x⟩;have h:=h.fN p;cases d<;>try exact .fO
 rename_i e;apply fE (mU e);rintro y w _ o ⟨rfl,_⟩;simp only[];split
 .exact .fO
 split
 .refine qM ?_;rcases IQ (λi=>À (i*w,w)) (h.fN o) ((fR.N _).G<|b*w)with e0|⟨c,q,g,j,k⟩
  .rw[e0];exact .fO
  .rw[g,j];exact fE (Af e k) λr a s _ l=> .fC (.kH l _ _)
 .refine fE (Fe f e) λB z C u f=>qM ?_;rcases IQ (λi=>À (i*w,w)) ((h.fN o).fN u) (f.gS.G<|b*w)with e0|⟨c,q,g,j,k⟩
  .rw[e0];exact .fO
  .rw[g,j];exact fE (Af e k) λr a s _ l=> .fC (.kH l _ _)
def M8(h:fl Y x v):fG P jm Y (Α x) (Α v):=by cases h<;>first|exact .fO|exact .fC U
def fR.adj(Y:ft)(b:Array UInt8):fR Y (b.map λb=>Ć .u8 b.toNat) (b.map λb=>Ć .u8 b.toNat):= ⟨U,λi a _=>by simp only[ŵ];exact .iE _ _⟩
def Fh(a n:Nat)(h:fl Y x v):fG P fR Y (ļ a n x) (ļ a n v):=by
 cases h<;>first|exact .fO|exact .fC (fR.N _)|exact .fC (fR.adj _ _)|skip
 rename_i b _ _;exact M5 b _
def M9(n:Nat):fG P jm Y (bP n) (bP n):=by
 unfold bP;split
 .exact .Cx (Ç U) (.fC U)
 .exact .fC U
def adk(a:Array Á)(t:Á)(h:fl Y x v):fG P fl Y (ş a t #[x]) (ş a t #[v]):=by
 unfold ş;cases a[0]? with
 |none=>exact .fO
 |some b=>
  apply fE (iZ b);rintro f d _ c ⟨rfl,g⟩;have h:=h.fN c;cases d<;>try exact .fO
  .cases h<;>first|exact .fO|exact .fC (.iE _ _)
  .rename_i e;refine fE (iZ e) ?_;rintro i d _ j ⟨rfl,_⟩;cases d<;>first|exact .fO|exact .fC (.iE _ _)
  .cases h<;>first|exact .fO|exact .fC (.iE _ _)
  .exact .fC (.iE _ _)
  all_goals cases h<;>first|exact .fO|exact .fC (.iE _ _)
def adl(a:Array Á)(t:Á)(h:fl Y x v):fG P fl Y (Š a t #[x]) (Š a t #[v]):=by
 unfold Š;cases a[0]? with
 |none=>exact .fO
 |some b=>
  apply fE (iZ b);rintro f d _ c ⟨rfl,g⟩;have h:=h.fN c;cases d<;>try exact .fO
  .rename_i e;refine fE (iZ e) ?_;rintro i d _ j ⟨rfl,_⟩;cases d<;>first|exact .fO|exact .fC (.iE _ _)
  .cases h<;>first|exact .fO|exact .fC (.iE _ _)
  .exact .fC (.iE _ _)
  all_goals cases h<;>first|exact .fO|exact .fC (.iE _ _)
def adn(g:Array Á)(t:Á)(h:fl Y x v)(a:fl Y z jQ):fG P fl Y (ő g t #[x,z]) (ő g t #[v,jQ]):=by
 unfold ő;cases g[0]? with
 |none=>exact .fO
 |some l=>
  apply fE (iZ l);rintro u d _ i ⟨rfl,B⟩;have h:=h.fN i;have a:=a.fN i;cases d<;>try exact .fO
  rename_i e;cases h<;>first|exact .fO|skip
  .rename_i n c;apply fE (M8 a);rintro o m _ b rfl;apply fE (mU e);rintro p w _ f ⟨rfl,_⟩;apply fE (Fh w _<|(a.fN b).fN f);exact λq c r j k=> .fC (.iE _ _)
  .rename_i s n c;apply fE (M8 a);rintro o m _ b rfl;apply fE (mU e);rintro p w _ f ⟨rfl,_⟩;apply fE (Fh w _<|(a.fN b).fN f);intro q c r j k;apply fE (M6 (((s.r b).r f).r j)<|by simpa using k);exact λC _ _ _ _=> .fC (.iE _ _)
end
section
variable{Y:ft}
def Na{α:Type}{h:Halt}:∀u x a,(ep h:ē α).run P u≠ĥ x a:=by intro u x a e;cases e
theorem Fi{α β:Type}{m:ē α}{f:α->ē β}(h:∀a u x b,(f a).run P u≠ĥ x b):∀u x b,(m>>=f).run P u≠ĥ x b:=by
 intro u x b e;rw[Ä]at e;cases c:m.run P u with
 |ok a w=>rw[c]at e;exact h a _ _ _ e
 |halt z w=>rw[c]at e;cases e
theorem US{α:Type}:∀u x a,(goPanic v:ē α).run P u≠ĥ x a:=Na
def ado{α:Type}{v:br}:∀u x a,(unsupported v:ē α).run P u≠ĥ x a:=Na
theorem qO{α:Type}(e:Ι):∀u x a,(runtimePanic e:ē α).run P u≠ĥ x a:=by unfold runtimePanic;grind [Fi,US]
def IT{α:Type}{V:ft->α->α->Prop}{e:Ι}{m:ē α}:fG P V Y (runtimePanic e) m:=.ox (qO e)
def adp(H:nG P)(p g t:Á)(i:(∃e,P.underlying g=À (di e))\/P.underlying g=À ę){B:Â}(j:fl Y v jQ)(c:fl Y x B): fG P fl Y (ĸ #[p,g] t #[v,x]) (ĸ #[p,g] t #[jQ,B]):=by
 unfold ĸ;apply fE (iZ p);rintro C d _ D ⟨rfl,W⟩;have j:=j.fN D;have c:=c.fN D;cases d<;>try exact .fO
 rename_i e;have r:=j;cases j<;>first|exact .fO|skip
 all_goals
  refine fE (mU e) ?_;rintro X w _ E ⟨rfl,_⟩;refine fE (iZ g) ?_;rintro ρ3 d1 _ F ⟨rfl,k⟩;rcases i with⟨e1,i⟩|i;all_goals
   rw[i]at k;injection k with k;subst k;refine qM<|fE (M8<|c.fN<|ft.I E F) ?_;rintro ρ4 m _ I rfl;have f:=ft.I (ft.I E F) I;have c:=c.fN f;have r:=r.fN f;simp only[];split
   .apply fE (Fh w m c);intro J q K l u;first
     |exact .fC (.nX _ _)
     |exact fE (M6 (((‹gZ C _ _›.r f).r l).C _)<|by simpa using u) λL _ _ h _=> .fC (.kH (((‹gZ C _ _›.r f).r l).r h) _ _)
   .apply fE (yb e);rintro J G _ l ⟨rfl,_⟩;split
    .exact .ox (vT<|qO _)
    .apply fE (yb e);rintro L G _ h ⟨rfl,_⟩;split
     .refine .ox (vT ?_);simp only[Å,if_false];refine Fi λb=> ?_;simp_all
     .apply rX (.Ac λ_=> .fC U);intro M nc y;apply fE (yb e);rintro N G _ n ⟨rfl,_⟩;apply rX (M9 _);intro O _ Q;have f:=ft.I (ft.I (ft.I l h)<|ft.I y n) Q;apply fE (Fh w _<|r.fN f);intro ρa o o' h S;apply fE (Fh w m<|c.fN<|ft.I f h);intro M q K y u;apply fE (Fe H e);intro N z z' n T;exact fE (Af e<|(((S.I y).I n).s9<|u.I n).s9<|T.gS.yc _) λO a a' _ V=> .fC (.kH V _ _)
end
section
variable{Y:ft}
def adq(g:nG P)(t:Á)(i:fl Y v x)(j:fl Y z jQ):fG P fl Y (Ĺ t v z) (Ĺ t x jQ):=by
 unfold Ĺ;apply fE (iZ t);rintro o d _ f ⟨rfl,p⟩;cases d<;>try exact .fO
 rename_i e;apply fE (M7<|i.fN f);rintro q r _ k rfl;apply fE (M7<|(j.fN f).fN k);rintro s u _ y rfl;apply fE (yb e);rintro B C _ D ⟨rfl,_⟩;simp only[];split
 .split
  .exact .ox (vT<|qO _)
  .split
   .exact .ox (vT<|qO _)
   .exact .ox (Fi λ_=>vT<|qO _)
 .apply rX (M9 _);intro E _ F;apply fE (mU e);rintro G w _ H ⟨rfl,_⟩;split
  .exact qM<|fE (Af e<|(fR.N _).G _) λm a n _ b=> .fC (.kH b _ _)
  .exact fE (Fe g e) λ_ _ _ _ h=>qM<|fE (Af e<|h.gS.G _) λm a n _ b=> .fC (.kH b _ _)
def td(P:Õ)(t:Á):Prop:=P.underlying t=À .bool\/(∃k,P.underlying t=À (Β k))\/P.underlying t=À ę
def mV:Â->Prop
 |Þ (À _)=>False
 |_=>True
def UT(t:Á)(i:td P t\/∃e,P.underlying t=À (ð e))(b:fl Y x v)(c:fl Y z jQ)(j:mV x\/mV z):fG P jm Y (ó t x z) (ó t v jQ):=by
 unfold ó ā Λ;refine fE (iZ t) ?_;rintro o d _ g ⟨rfl,a⟩;have b:=b.fN g;have c:=c.fN g;rcases i with(h|⟨k,h⟩|h)|⟨e,h⟩;all_goals
  rw[h]at a;injection a with a;subst a;cases b<;>cases c<;>first|exact .fO|exact .fC U|(simp[mV]at j;done)|skip
 .simp only[];split<;>first|exact .fC U|exact .fO
 .rename_i l n _ _ _;by_cases f:n=0
  .subst f;exact .fC U
  .refine .ox λu x m e=> ?_;simp_all
 .rename_i l n;by_cases f:n=0
  .subst f;exact .fC U
  .refine .ox λu x m e=> ?_;simp_all
end
section
variable{Y:ft}
def IU{r:Nat}(h:Y r i):fG P (λ_ a b=>a=ë/\b=ë) Y (dj r) (dj i):=.uU h λ_ _ _ _=> .fC ⟨U,U⟩
def UU{r:Nat}(h:Y r i):fG P (λ_ a b=>a=ë/\b=ë) Y (b9 r) (b9 i):=.uU h λ_ _ _ _=> .fC ⟨U,U⟩
def Ag(h:gZ Y a p):fG P (λc x b=>gZ c x.1 b.1/\x.2=b.2/\x=(a,Ã)/\b=(p,Ã)) Y (Į a) (Į p):=by unfold Į;apply fE (UU h.1);rintro c x d b ⟨rfl,rfl⟩;exact .fC ⟨h.r b,U,U,U⟩
def adr(h:gZ Y a p):fG P jm Y (aY a) (aY p):=by unfold aY;apply fE (IU h.1);rintro b x c d ⟨rfl,rfl⟩;exact .fC U
def Fj(h:gZ Y a p):fG P jm Y (dm a) (dm p):=by
 have f:=h;let⟨g,i,b⟩:=f;unfold dm;cases c:a.spot with
 |some s=>
  rw[c]at b;rw[<-b];exact .fC U
 |none=>
  rw[c]at b;rw[<-b];apply fE qL;rintro k s l d ⟨rfl,e⟩;subst e;apply fE (adr<|h.r d);intro m _ _ j _;refine .uU (j.1 _ _<|d.1 _ _ g) λe n o q=> ?_;simp only[<-i,ç];split
  .exact .fC U
  .split
   .exact .fC U
   .exact .fO
def IV(c:Bi Y){b d:Ú}(f:gZ Y a p)(g:gZ Y b d):(a.block==b.block)=(p.block==d.block):=by
 rw[Χ,beq_iff_eq,beq_iff_eq];constructor
 .intro e;exact c.1 _ _ _ f.1<|e▸g.1
 .intro e;exact c.2.1 _ _ _ f.1<|e▸g.1
theorem UW(g:Bi Y){b c:Ú}(d:gZ Y a p)(f:gZ Y b c):(a==b)=(p==c):=by have e:=IV g d f;rw[Χ,beq_iff_eq,beq_iff_eq]at e;rw[Χ,beq_iff_eq,beq_iff_eq];let⟨h,i,j⟩:=a;let⟨k,l,m⟩:=p;let⟨n,o,q⟩:=b;let⟨r,s,t⟩:=c;let⟨_,u,v⟩:=d;let⟨_,w,x⟩:=f;grind
theorem UX(f:Bi Y)(n:Y.C=P.globals.size){b d:Ú}(e:gZ Y a p)(g:gZ Y b d):fG P jm Y (š a b) (š p d):=by
 unfold š;apply fE qL;rintro o c q h ⟨i,j⟩;rw[i,j];have k:(a.block !=b.block)=(p.block !=d.block):=by simp only[bne];rw[IV f e g]
 have l:(decide<|a.block≥P.globals.size)=(decide<|p.block≥P.globals.size):=by have:=f.2.2 _ _ e.1;grind
 rw[k,l];split
 .exact .fO
 .apply fE (Fj<|e.r h);rintro r x _ m rfl;apply fE (Fj<|(g.r h).r m);rintro s y _ t rfl;exact .fC U
def ads(d:Bi Y)(e:Y.C=P.globals.size)(k:ú){b c:Ú}(f:gZ Y a p)(g:gZ Y b c):fG P fl Y (Μ k a b) (Μ k p c):=by unfold Μ;apply fE (UX d e f g);rintro h ⟨x,y⟩ _ _ rfl;exact .fC (.iE _ _)
def adt(e:Bi Y)(f:Y.C=P.globals.size)(c:ġ){b d:Ú}(g:gZ Y a p)(h:gZ Y b d):fG P fl Y (Ν c a b) (Ν c p d):=by unfold Ν;refine fE (UX e f g h) ?_;rintro i ⟨x,y⟩ _ _ rfl;cases c<;>first|exact .fC (.mj _)|exact .fO
def UY(k:ú)(b:gZ Y a p)(n:Int):fG P fl Y (Ξ k a n) (Ξ k p n):=by
 unfold Ξ;refine .uU b.1 λe m d f=> ?_;apply qM;apply fE (yb e);rintro g h _ c ⟨rfl,_⟩;simp only[];split
 .exact .fO
 .apply fE (Fj<|b.r c);rintro i x _ _ rfl;exact .fC (.iE _ _)
def adu{n:Int}(h:j<=b)(a:ξ P i e j k n=À m):ξ P i e b k n=À m:=by
 unfold ξ at a|-;simp only[bind,Option.bind]at a|-;split at a
 .cases a
 .rename_i f;rw[if_neg f];split at a
  .cases a
  .rename_i g;simp only[g];dsimp only at a;split at a
   .cases a
   .rename_i l;rw[if_neg]
    .exact a
    .intro o;apply l;have:=(λw=>Nat.mul_le_mul_right w h)<|P.bytesOf e;simp at o|-;omega
def adv{i:Á->Bool}:∀{d:Nat} {e:Á} {c a b n:Nat},c<=a->c9 P i d e c b n=É->c9 P i d e a b n=É
 |0,_,_,_,_,_,_,h=>by simp[c9]at h
 |d+1,e,c,a,b,n,hc,h=>by
  unfold c9 at h|-;simp only at h|-;split at h
  .cases h
  .rename_i j;rw[if_neg j];rw[bI,ě,ě,ě]at h|-;rcases h with⟨⟨f,g⟩,k⟩|⟨f,g⟩
   .exact Ç ⟨⟨f,by simp at g|-;omega⟩,k⟩
   .exact Î ⟨by simp at f|-;omega,g⟩
def UZ:∀{d:Nat} {e:Á} {c a b:Nat} {u:Á} {n:Nat},c<=a->aZ P d e c b u n=É->aZ P d e a b u n=É
 |0,_,_,_,_,_,_,_,h=>by simp[aZ]at h
 |d+1,e,c,a,b,u,n,hc,h=>by
  unfold aZ at h|-;rw[bI]at h|-;rcases h with h|h
  .exact Ç<|adv hc h
  .right;split at h
   .rename_i f;first|rw[f]|skip
    exact UZ hc h
   .cases h
def adw{a:Á->Bool}:c9 P a i e 0 j (n+1)=Ã:=by
 cases i with
 |zero=>simp[c9]
 |succ i=>
  unfold c9;simp
def adx{k:ú}(a:P.underlying t=À (Β k)):aZ P i e 0 j t (n+1)=Ã:=by
 cases i with
 |zero=>simp[aZ]
 |succ i=>
  unfold aZ;rw[adw];simp[a]
def U0(t:Á)(d:gZ Y a p)(k:ú)(n:Int):fG P fl Y (ñ #[] t #[Þ<|À a,Ć k n]) (ñ #[] t #[Þ<|À p,Ć k n]):=by
 have f:=d;let⟨c,g,h⟩:=f;unfold ñ;apply qM;simp only[];split
 .apply fE (IU c);rintro i x e b ⟨rfl,rfl⟩;exact .fC (.jM (d.r b))
 .split
  .exact .fO
  .refine .uU c λe m u j=> ?_;apply qM;apply fE qL;rintro i b v l ⟨o,r⟩;rw[o,r,<-g];cases s:ξ P P.depth e (m/P.cellsOf e) a.off n with
   |none=>exact .fO
   |some x=>
    rw[adu (ο<|j.elim (λq=>by omega) λq=>q.1) s];exact .fC (.jM ⟨l.1 _ _ c,U,h⟩)
end
def yd:Obj->Prop
 |Č .. =>False
 |_=>True
inductive kI(P:Õ){α:Type}(V:ft->α->α->Prop):ft->ē α->ē α->Prop
 |gq {Y:ft} {m m':ē α} (h:fG P V Y m m'):kI P V Y m m'
 |lU {Y:ft} {β:Type} {V0:ft->β->β->Prop} {m m':ē β} {f f':β->ē α} (h:fG P V0 Y m m') (hf:∀Y' a a',Y.r Y'->V0 Y' a a'->kI P V Y' (f a) (f' a')):kI P V Y (m.bind f) (m'.bind f')
 |CC {Y:ft} {o:Obj} {g:Nat->α} {m':ē α} (ho:yd o):kI P V Y (.new o λr=>aI<|g r) m'
 |CF {Y:ft} {m m':ē α} (h:∀u x u',m.run P u=ĥ x u'->∃i o,u.heap.size<=i/\u'.heap[i]?=À o/\yd o):kI P V Y m m'
section
variable{Y:ft}
def kI.ady{α β:Type}{V:ft->α->α->Prop}{i:ft->β->β->Prop}{m e:ē α}{f j:α->β}(h:kI P V Y m e)(k:∀c a d,Y.r c->V c a d->i c (f a) (j d)): kI P i Y (m.bind λa=>aI<|f a) (e.bind λa=>aI<|j a):=by
 induction h with
 |gq h=>exact .gq (h.lU λc a d u w=> .fC (k c a d u w))
 |lU h _ g=>
  rw[ř,ř];exact .lU h λc a d u w=>g c a d u w λx b z l n=>k x b z (ft.I u l) n
 |CC b=>exact .CC b
 |@CF Y m e h=>
  refine .CF λu x l b=> ?_;rw[Ĵ]at b;cases g:m.run P u with
  |halt z w=>rw[g]at b;cases b
  |ok a w=>
   rw[g]at b;simp only[ã]at b;cases b;exact h u a _ g
def CG(u a:Æ):Prop:=∀i o,u.heap.size<=i->a.heap[i]?=À o->¬yd o
def kI.gl{α:Type}{V:ft->α->α->Prop}{Y:ft}{m r:ē α}(h:kI P V Y m r):∀{u w:Æ},jf Y X u w->(∀j,X j->j<w.heap.size)->∀{x:α} {c:Æ},m.run P u=ĥ x c->CG u c->∀d:Array ý,∃(a:ft) (n:α) (s:Æ) (b:Array ý),Y.r a/\(∀i j,a i j->Y i j\/(u.heap.size<=i/\w.heap.size<=j))/\r.runT P w d=(ĥ n s,d++b)/\V a x n/\jf a X c s/\nF Y X w s/\(∀e∈b,Ad a X e)/\u.heap.size<=c.heap.size:=by
 induction h with
 |gq h=>intro u w k g x c b _ d;exact h.gl k g b d
 |@lU Y β V0 m r f f' h _ ih=>
  intro u w k g x c b l d;rw[Ĵ]at b;cases t:m.run P u with
  |halt z w=>rw[t]at b;cases b
  |ok a u1=>
   rw[t]at b;let⟨G,H,w1,E,p,q,v,I,J,B,K,C⟩:=h.gl k g t d;let⟨L,n,M,N,F,O,Q,S,T,W,k7,k8⟩:=ih G a H p I J (λj s=>Ô (g j s) B.r) b (λi o s=>l i o<|õ C s)<|d++E;refine⟨L,n,M,E++N,ft.I p F,λi j D=> ?_,?_,S,T,B.fg W λi j D=>(q i j D).imp id λy=>y.2,λe s=> ?_,õ C k8⟩
   .rcases O i j D with y|⟨y1,y2⟩
    .exact q i j y
    .exact Î ⟨õ C y1,õ B.r y2⟩
   .rw[Ñ,v];simp only[];rw[Q,Ļ]
   .rcases Ĝ.1 s with s|s
    .rcases K e s with⟨a,i,y,z2,z3,z4⟩|z
     .exact Ç ⟨a,i,y,F.1 _ _ z2,z3,z4⟩
     .exact Î z
    .exact k7 e s
 |CC s=>
  intro u w k g x c b l d;simp only[ã]at b;cases b;exact absurd s<|l u.heap.size _ (ß _) fj
 |CF h=>
  intro u w k g x c b l d;let⟨i,o,p,q,v⟩:=h u x c b;exact absurd v<|l i o p q
end
section
variable{Y:ft}
theorem adz(i:Bi Y)(F:Y.C=P.globals.size)(t:Á)(s:td P t){j b m:Ú}(e:gZ Y a j)(f:gZ Y b m):fG P jm Y (ó t (Þ<|À a)<|Þ<|À b) (ó t (Þ<|À j)<|Þ<|À m):=by
 unfold ó ā Λ;refine fE (iZ t) ?_;rintro G d _ g ⟨rfl,c⟩;rcases s with h|⟨k,h⟩|h
 .rw[h]at c;injection c with c;subst c;exact .fO
 .rw[h]at c;injection c with c;subst c;apply fE (Ag<|e.r g);rintro H p u l ⟨_,_,rfl,rfl⟩;apply fE (Ag<|(f.r g).r l);rintro I q J n ⟨_,_,rfl,rfl⟩;apply fE qL;rintro K p u o ⟨v,w⟩;rw[v,w];have z:=(((e.r g).r l).r n).r o;have B:=(((f.r g).r l).r n).r o;have C:=IV i e f;have D:(decide<|a.block<P.globals.size)=(decide<|j.block<P.globals.size):=by
   have:=i.2.2 _ _ e.1;grind
  simp only[C,D];split
  .apply fE (Fj z);rintro E x _ r rfl;apply fE (Fj<|B.r r);rintro L y _ M rfl;exact .fC U
  .apply fE (yb t);rintro E x _ r ⟨rfl,_⟩;split
   .rw[UW i e f];split
    .exact .fC U
    .exact .fO
   .exact .fO
 .rw[h]at c;injection c with c;subst c;exact .fO
def adA(e:Bi Y)(f:Y.C=P.globals.size)(t:Á)(b:td P t)(c:fl Y x v)(d:fl Y z jQ):fG P jm Y (ó t x z) (ó t v jQ):=by
 by_cases a:mV x\/mV z
 .exact UT t (Ç b) c d a
 .have g:=λh=>a<|Ç h;have i:=λh=>a<|Î h;cases c<;>first|exact absurd trivial g|skip
  cases d<;>first|exact absurd trivial i|skip
  rename_i j _ _ k;exact adz e f t b j k
def adB(a:ġ)(k:ú)(x y:Int):fG P fl Y (ah a k x y) (ah a k x y):=by
 unfold ah;split
 .exact IT
 .cases a<;>first|exact .fO|exact .fC (.iE _ _)
def adC(a:ġ)(k b:ú)(x y:Int):fG P fl Y (aK a k x b y) (aK a k x b y):=by
 unfold aK;split
 .exact IT
 .cases a<;>first|exact .fO|exact .fC (.iE _ _)
def adD(a:ġ)(t:Á)(k b:ú)(x y:Int):fG P fl Y (Ũ a t (Ć k x)<|Ć b y) (Ũ a t (Ć k x)<|Ć b y):=by
 cases a<;>simp only[Ũ]<;>first|exact adC _ _ _ _ _|skip
 all_goals
  split
  .exact .fO
  .first|exact .fC (.iE _ _)|exact .fC (.mj _)|exact adB _ _ _ _
def adE(a:ġ)(t:Á)(x y:ByteArray):fG P fl Y (Ũ a t (ħ x)<|ħ y) (Ũ a t (ħ x)<|ħ y):=by
 cases a<;>simp only[Ũ,bu]<;>first|exact .fO|exact .fC (.mj _)|skip
 split
 .exact .fO
 .exact .fC (.kq _)
end
section
variable{Y:ft}
def kU{α β:Type}{V0:ft->β->β->Prop}{V:ft->α->α->Prop}{m c:ē β}{f d:β->ē α}(h:fG P V0 Y m c) (g:∀b a e,Y.r b->V0 b a e->kI P V b (f a) (d e)):kI P V Y (m>>=f) (c>>=d):=.lU h g
def adF{α β:Type}{V:ft->α->α->Prop}{c:ft->β->β->Prop}{m d:ē α}{f e:α->β}(h:kI P V Y m d)(i:∀b a g,Y.r b->V b a g->c b (f a) (e g)): kI P c Y (m>>=λa=>pure<|f a) (d>>=λa=>pure<|e a):=kI.ady h i
def U1(t:Á)(y:Â):∀u x a,(ñ #[] t #[Þ ë,y]).run P u≠ĥ x a:=by
 unfold ñ;refine Fi λn=> ?_;simp only[];split
 .exact ado
 .split;all_goals simp_all
def CH(t:Á)(i:fl Y x v)(j:∃p,x=Þ p)(k:ú)(n:Int):kI P fl Y (ŕ t x<|Ć k n) (ŕ t v<|Ć k n):=by
 obtain⟨p,rfl⟩:=j;cases i with
 |lJ=>
  unfold ŕ;refine kU (iZ t) ?_;rintro e d _ h ⟨rfl,_⟩;cases d<;>simp only[Å,if_false,if_true]<;>first|exact .gq .fO|exact .gq (.ox (U1 t _))
 |jM f=>
  unfold ŕ;refine kU (iZ t) ?_;rintro e d _ h ⟨rfl,_⟩;have l:∀{a g:Ú},gZ e a g->kI P fl e (Į a>>=λp=>ñ #[] t #[Þ<|À p.1,Ć k n]>>=λc=>match c with|Þ (À b)=>cg b p.2|c=>pure c) (Į g>>=λp=>ñ #[] t #[Þ<|À p.1,Ć k n]>>=λc=>match c with|Þ (À b)=>cg b p.2|c=>pure c):=by intro a g f;refine kU (Ag f) ?_;rintro q p r s ⟨m,u,rfl,rfl⟩;refine kU (U0 t m k n) ?_;intro w c y z o;cases o<;>first|exact .CC trivial|exact .gq (.fC (by constructor<;>assumption))
  cases d<;>simp only[Å,if_false,if_true]<;>first|exact .gq .fO|exact l<|f.r h
def U2(t:Á)(b:fl Y x v)(c:∃p,x=Þ p)(k:ú)(n:Int):kI P fl Y (Ţ t x<|Ć k n) (Ţ t v<|Ć k n):=by
 unfold Ţ;obtain⟨p,rfl⟩:=c;cases b with
 |lJ=>exact .gq (.ox (U1 t _))
 |jM a=>
  apply kU (UU a.1);rintro e p f d ⟨rfl,rfl⟩;exact .gq (U0 t (a.r d) k n)
def adG(P:Õ)(a:ġ)(t:Á)(x y:Â):Prop:=a=aA\/a=aL->(td P t\/((∃e,P.underlying t=À (ð e))/\(mV x\/mV y)))
def U3(c:Bi Y)(d:Y.C=P.globals.size)(t:Á)(f:td P t\/((∃e,P.underlying t=À (ð e))/\(mV x\/mV z)))(a:fl Y x v)(b:fl Y z jQ):fG P jm Y (ó t x z) (ó t v jQ):=by
 rcases f with h|⟨g,i⟩
 .exact adA c d t h a b
 .exact UT t (Î g) a b i
def adH(m:Bi Y)(n:Y.C=P.globals.size)(c:ġ)(t:Á)(r:adG P c t x z)(o:fl Y x v)(h:fl Y z jQ):kI P fl Y (Ũ c t x z) (Ũ c t v jQ):=by
 have f:c=aA->fG P fl Y (ó t x z>>=λb=>pure<|Ľ b) (ó t v jQ>>=λb=>pure<|Ľ b):=by intro e;apply fE (U3 m n t (r<|Ç e) o h);rintro i b _ _ rfl;exact .fC (.mj _)
 have g:c=aL->fG P fl Y (ó t x z>>=λb=>pure<|Ľ !b) (ó t v jQ>>=λb=>pure<|Ľ !b):=by intro e;apply fE (U3 m n t (r<|Î e) o h);rintro i b _ _ rfl;exact .fC (.mj _)
 cases o with
 |iE k a=>
  cases h with
  |iE d b=>exact .gq (adD c t k d a b)
  |jM l=>
   cases c<;>first|exact .gq .fO|exact .gq (f U)|exact .gq (g U)|exact CH t (.jM l) ⟨_,U⟩ _ _|skip
   apply kU (Ag l);rintro i p s e ⟨j,_,_,_⟩;exact .gq (UY _ j _)
  |lJ=>cases c<;>first|exact .gq .fO|exact .gq (f U)|exact .gq (g U)|exact CH t .lJ ⟨_,U⟩ _ _
  |_=>cases c<;>first|exact .gq .fO|exact .gq (f U)|exact .gq (g U)
 |kq a=>
  cases h with
  |kq b=>exact .gq (adE c t a b)
  |_=>cases c<;>first|exact .gq .fO|exact .gq (f U)|exact .gq (g U)
 |lJ=>
  cases h with
  |iE k b=>
   cases c<;>first|exact .gq .fO|exact .gq (f U)|exact .gq (g U)|exact CH t .lJ ⟨_,U⟩ _ _|skip
   refine kU (iZ t) ?_;rintro i d _ e ⟨rfl,_⟩;cases d<;>simp only[Å,if_false,if_true]<;>first|exact U2 t .lJ ⟨_,U⟩ _ _|exact CH t .lJ ⟨_,U⟩ _ _
  |_=>cases c<;>first|exact .gq .fO|exact .gq (f U)|exact .gq (g U)
 |jM a=>
  cases h with
  |iE k b=>
   cases c<;>first|exact .gq .fO|exact .gq (f U)|exact .gq (g U)|exact CH t (.jM a) ⟨_,U⟩ _ _|skip
   .refine kU (iZ t) ?_;rintro i d _ e ⟨rfl,_⟩;have a:=a.r e;cases d<;>simp only[Å,if_false,if_true]<;>first|exact U2 t (.jM a) ⟨_,U⟩ _ _|exact CH t (.jM a) ⟨_,U⟩ _ _
   all_goals
    apply kU (Ag a);rintro i p s e ⟨j,_,_,_⟩;exact .gq (UY _ j _)
  |jM l=>
   cases c<;>first|exact .gq .fO|exact .gq (f U)|exact .gq (g U)|skip
   all_goals
    refine kU (Ag a) ?_;rintro i p s e ⟨j,_,rfl,rfl⟩;refine kU (Ag<|l.r e) ?_;rintro w q B b ⟨d,_,rfl,rfl⟩;have k:=b.2.1<|e.2.1 m;have u:=b.2.2.trans<|e.2.2.trans n;first|exact .gq (ads k u _ (j.r b) d)|exact .gq (adt k u _ (j.r b) d)
  |_=>cases c<;>first|exact .gq .fO|exact .gq (f U)|exact .gq (g U)
 |_=>
  cases h<;>cases c<;>first|exact .gq .fO|exact .gq (f U)|exact .gq (g U)
end
section
variable{Y:ft}
def adI(a b:Á)(h:(∃k g,P.underlying a=À (Β k)/\P.underlying b=À (Β g))\/(P.underlying a=À ę/\P.underlying b=À ę))(f:fl Y x v):fG P fl Y (Œ a b x) (Œ a b v):=by
 unfold Œ;refine fE (iZ a) ?_;rintro n d _ l ⟨rfl,c⟩;refine fE (iZ b) ?_;rintro o p _ m ⟨rfl,e⟩;have f:=(f.fN l).fN m;rcases h with⟨k,g,i,j⟩|⟨i,j⟩;all_goals
  rw[i]at c;rw[j]at e;injection c with c;injection e with e;subst c e;cases f<;>first|exact .fO|exact .fC (.iE _ _)|exact .fC (.kq _)
inductive oQ(Y:ft):Ο->Ο->Prop
 |nH {v v':Â} (h:fl Y v v'):oQ Y (ï v) (ï v')
 |rY:oQ Y aH aH
 |rZ (f:à) {c c':Array Â} (h:fR Y c c'):oQ Y (ũ f c) (ũ f c')
def Fl(P:Õ)(t:Á):Prop:=td P t\/∃e,P.underlying t=À (ð e)
def adJ(t:Á)(f:Fl P t)(a g b i:Â):fG P jm Y (į ā t a b) (į ā t g i):=by
 unfold ā į;refine fE (iZ t) ?_;rintro j d _ l ⟨rfl,c⟩;rcases f with(h|⟨k,h⟩|h)|⟨e,h⟩;all_goals
  rw[h]at c;injection c with c;subst c;exact .fC U
def adK(e:ġ)(t:Á)(c:e=aA\/e=aL->Fl P t)(x y:Ö){d:Â}(h:fl Y v z)(i:fl Y jQ d):fG P jm Y (ŷ e t x y v jQ) (ŷ e t x y z d):=by
 have g:Fl P t->∀{f:ft} (s:br) (v z jQ d:Â),fG P jm f (į ā t v jQ>>=λr=>if r=É then unsupported s else pure ()) (į ā t z d>>=λr=>if r=É then unsupported s else pure ()):=by
  intro c f s v z jQ d;apply fE (adJ t c v z jQ d);rintro j r _ _ rfl;split
  .exact .fO
  .exact .fC U
 unfold ŷ;cases e<;>first|exact .fC U|skip
 all_goals
  have c:=c (by first|exact Ç U|exact Î U);cases h<;>cases i<;>first|exact .fC U|skip
 all_goals first
  |(cases x<;>cases y<;>first|exact .fC U|exact g c _ _ _ _ _)
  |(
   simp only[þ,Å,if_false];apply fE qL;rintro f p m n ⟨r,s⟩;rw[r,s];apply fE qL;rintro j q o u ⟨k,l⟩;rw[k,l];split
   .exact .fC U
   .exact g c _ _ _ _ _)
def mG{m a:ē Â}(h:fG P fl Y m a):fG P oQ Y (m>>=λv=>pure<|ï v) (a>>=λv=>pure<|ï v):=h.lU λ_ _ _ _ v=> .fC (.nH v)
def U4{m a:ē Â}(h:kI P fl Y m a):kI P oQ Y (m>>=λv=>pure<|ï v) (a>>=λv=>pure<|ï v):=adF h λ_ _ _ _ v=> .nH v
def adL{m a:ē Unit}(h:fG P jm Y m a):fG P oQ Y (m>>=λ_=>pure aH) (a>>=λ_=>pure aH):=h.lU λ_ _ _ _ _=> .fC .rY
def adM(f:à)(b:∃a,P.funcs[f]?=À a/\(a.name== "runtime.NumGoroutine")=Ã/\a.body.isNone=Ã)(e:fR Y d q):fG P oQ Y (ĵ f d) (ĵ f q):=by let⟨a,g,h,i⟩:=b;unfold ĵ;apply fE qL;rintro m p n j ⟨k,l⟩;rw[k,l,g];simp only[h,i,Å,if_false];exact .fC (.rZ f (e.I j))
end
inductive j5(P:Õ)(ev:Ö->Â):Op->Prop
 |Ah (x:Ö):j5 P ev (.move x)
 |Fo (x:Ö):j5 P ev (.assign x)
 |vY (c a b:Ö):j5 P ev (.pick c a b)
 |gJ (t:Á):j5 P ev (.alloc t)
 |Nb (t:Á) (x:Ö):j5 P ev (.box t x)
 |Nc (t:Á) (ps:Array (Nat×Operand)):j5 P ev (.build t ps)
 |Nd (t:Á) (n:Nat) (ps:Array (Nat×Operand)):j5 P ev (dD t n ps)
 |gA (t:Á) (a:Ö):j5 P ev (.load t a)
 |ja (t:Á) (a x:Ö):j5 P ev (.store t a x)
 |Fp (x:Ö):j5 P ev (eB x)
 |CI (op:ġ) (t:Á) (x y:Ö) (r:Á) (h:op=aA\/op=aL->(td P t\/((∃e,P.underlying t=À (ð e))/\(mV (ev x)\/mV (ev y))))):j5 P ev (dT op t x y r)
 |Nf (op:UnOp) (t:Á) (x:Ö):j5 P ev (.unOp op t x)
 |Ng (s d:Á) (x:Ö) (h:(∃k k',P.underlying s=À (Β k)/\P.underlying d=À (Β k'))\/(P.underlying s=À ę/\P.underlying d=À ę)):j5 P ev (aN s d x)
 |Nh (t:Á) (l c:Ö):j5 P ev (dU t l c)
 |kH (t:Á) (x:Ö) (lo hi mx:Option Ö):j5 P ev (.slice t x lo hi mx)
 |Ni (s:Á) (x:Ö) (n:Nat) (h:∀fields f i,P.underlying s=À (dh fields)->fields[n]?=À f->P.info? f.type=À i->i.size≠0):j5 P ev (dV s x n)
 |Nj (t:Á) (x:Ö) (n:Nat):j5 P ev (.field t x n)
 |Nk (t:Á) (x i:Ö):j5 P ev (dW t x i)
 |Nl (t:Á) (x i:Ö):j5 P ev (.index t x i)
 |Fa (x:Ö) (n:Nat):j5 P ev (.extract x n)
 |Fq (x:Ö) (ts:Array Á):j5 P ev (Ω {callee:=ĝ .len,args:=#[x],argTypes:=ts})
 |Fs (x:Ö) (ts:Array Á):j5 P ev (Ω {callee:=ĝ .cap,args:=#[x],argTypes:=ts})
 |Ft (x y:Ö) (ts:Array Á):j5 P ev (Ω {callee:=ĝ .copy,args:=#[x,y],argTypes:=ts})
 |s9 (x y:Ö) (t0 t1:Á) (h:(∃e,P.underlying t1=À (di e))\/P.underlying t1=À ę):j5 P ev (Ω {callee:=ĝ .append,args:=#[x,y],argTypes:=#[t0,t1]})
 |jF (f:à) (args:Array Ö) (ts:Array Á) (U5:ev (aO f)=eJ (.func f) #[] #[]) (h:∃fn,P.funcs[f]?=À fn/\(fn.name== "runtime.NumGoroutine")=Ã/\fn.body.isNone=Ã):j5 P ev (Ω {callee:=cj<|aO f,args:=args,argTypes:=ts})
end Go.Proofs.Y.Lift
namespace Go.Proofs.Y.Lift
open Go Go.Conc
section
variable{Y:ft}
def U6(Y:ft):Ö->Prop
 |dX v=>fl Y v v
 |ew g=>Y g g
 |_=>True
theorem Fu(Y:ft):fl Y ľ ľ:=.nD U λi h=>absurd h fj
def adN{a a':bF}(h:fR Y a.tmps a'.tmps)(b:U6 Y qQ):fl Y (a.eval qQ) (a'.eval qQ):=by
 cases qQ with
 |tmp t=>
  simp only[å,ĩ];rcases h.S t with⟨f,g⟩|⟨v,d,f,g,c⟩
  .rw[f,g];exact Fu Y
  .rwa[f,g]
 |const v=>exact b
 |global g=>exact .jM ⟨b,U,U⟩
 |func f=>exact .fn _
def adO(b:Array av)(h:fR Y d q)(j:Nat):ł b d j=ł b q j:=by
 unfold ł;cases(b[j]?).bind (·.dst)with
 |none=>rfl
 |some a=>
  simp only[Option.bind_some];rcases h.S a with⟨c,e⟩|⟨v,g,c,e,f⟩
  .rw[c,e]
  .rw[c,e];cases f<;>rfl
def IW(a:Array av)(o:av)(h:fR Y d q):Ħ o (ł a d)=Ħ o (ł a q):=by have:ł a d=ł a q:=funext<|adO a h;rw[this]
def adP{a a':bF}(h:fR Y a.tmps a'.tmps)(d:Option Tmp)(b:fl Y v x):fR Y (a.put d v).tmps (a'.put d x).tmps:=by
 cases d with
 |none=>exact h
 |some d=>exact h.qh d b
end
section
variable{Y:ft}
def U7{b:Ö->Â}(a:Array Ö)(h:∀x∈a,fl Y (xX x)<|b x):fR Y (a.map xX) (a.map b):= ⟨fj,λi c d=>by simp only[ŵ];exact h _<|Array.getElem_mem _⟩
def U8{c:Ö->Â}(a:Array (Nat×Operand))(h:∀x∈(a.toList.map (·.2)).toArray,fl Y (xX x)<|c x):uV Y (a.map λp=>(p.1,xX p.2)).toList (a.map λp=>(p.1,c p.2)).toList:=by
 simp only[Array.toList_map];have d:∀x∈a.toList.map (·.2),fl Y (xX x) (c x):=λx b=>h x (by simpa using b);generalize a.toList=l at d
 induction l with
 |nil=>exact .oP
 |cons p l e=>exact .vW ⟨U,d _ fj⟩ (e λx b=>d x<|by simp at b|-;exact Î b)
def Nn{a:Ö->Â}(x:Option Ö)(h:∀y,x=À y->fl Y (xX y) (a y)):qN Y (x.map xX) (x.map a):=by
 cases x with
 |none=>exact Ç ⟨U,U⟩
 |some x=>exact Î ⟨_,_,U,U,h x U⟩
def U9(p:nG P)(D:Bi Y)(E:Y.C=P.globals.size){w:Ö->Â}(F:∀f,w (aO f)=eJ (.func f) #[] #[])(B:j5 P xX o.op)(g:∀x∈o.op.operands,fl Y (xX x)<|w x):kI P oQ Y (ì xX o) (ì w o):=by
 let⟨O,u,Q,S,T,guard⟩:=o;simp only at B g;unfold ì;simp only[];cases B with
 |Ah x=>exact .gq (.fC (oQ.nH<|g x<|by simp[Ê]))
 |Fo x=>exact .gq (.fC (oQ.nH<|g x<|by simp[Ê]))
 |vY c a b=>
  apply kU (UQ<|g c<|by simp[Ê]);rintro G r _ k rfl;refine .gq (.fC (oQ.nH ?_));split
  .exact(g a<|by simp[Ê]).fN k
  .exact(g b<|by simp[Ê]).fN k
 |gJ t=>exact .gq (mG<|acW p t _)
 |Nb t x=>exact .gq (mG<|acX t<|g x<|by simp[Ê])
 |Nc t z=>exact .gq (mG<|adf p t<|U8 z g)
 |Nd t n z=>exact .gq (mG<|adi p t n<|U8 z g)
 |gA t a=>exact .gq (mG<|acY t<|g a<|by simp[Ê])
 |ja t a x=>exact .gq (adL<|acZ t (g a<|by simp[Ê])<|g x<|by simp[Ê])
 |Fp x=>
  simp only[];have j:=g x (by simp[Ê]);generalize xX x=v at j;generalize w x=v' at j;cases j<;>first|exact .gq IT|exact .gq (.fC (oQ.nH<|by constructor<;>assumption))|skip
  rename_i f;cases f<;>exact .gq (.fC (oQ.nH<|.fn _))
 |CI u t x y r h=>
  have j:=g x (by simp[Ê]);have C:=g y (by simp[Ê]);apply U4;apply kU (adK u t (λe=>(h e).imp id λq=>q.1) x y j C);exact λG _ _ k _=>adH (k.2.1 D) (k.2.2.trans E) u t h (j.fN k)<|C.fN k
 |Nf u t x=>exact .gq (mG<|ac7 u<|g x<|by simp[Ê])
 |Ng s d x h=>exact .gq (mG<|adI s d h<|g x<|by simp[Ê])
 |Nh t l c=>exact .gq (mG<|adq p t (g l<|by simp[Ê])<|g c<|by simp[Ê])
 |kH t x H I J=>exact .gq (mG<|ac5 t (g x<|by simp[Ê]) (Nn H λy e=>g y<|by simp[Ê,e]) (Nn I λy e=>g y<|by simp[Ê,e])<|Nn J λy e=>g y<|by simp[Ê,e])
 |Ni s x n h=>exact .gq (mG<|ac2 s (g x<|by simp[Ê]) n h)
 |Nj t x n=>exact .gq (mG<|ac1 t (g x<|by simp[Ê]) n)
 |Nk t x i=>exact .gq (mG<|ac3 t (g x<|by simp[Ê])<|g i<|by simp[Ê])
 |Nl t x i=>exact .gq (mG<|ac6 t (g x<|by simp[Ê])<|g i<|by simp[Ê])
 |Fa x n=>exact .gq (mG<|ac0 (g x<|by simp[Ê]) n)
 |Fq x m=>
  simp only[ù,č,Ē,pure_bind,Ø,â,ä];exact .gq (mG<|adk m _<|g x<|by simp[Ê,ô])
 |Fs x m=>
  simp only[ù,č,Ē,pure_bind,Ø,â,ä];exact .gq (mG<|adl m _<|g x<|by simp[Ê,ô])
 |Ft x y m=>
  simp only[ù,č,Ē,pure_bind,Ø,â,ä];exact .gq (mG<|adn m _ (g x<|by simp[Ê,ô])<|g y<|by simp[Ê,ô])
 |s9 x y K L h=>
  simp only[ù,č,Ē,pure_bind,Ø,â,ä];exact .gq (mG<|adp p K L _ h (g x<|by simp[Ê,ô])<|g y<|by simp[Ê,ô])
 |jF f M m N h=>
  simp only[ù,N,F f,İ,č,pure_bind,Ď,ď];exact .gq (adM f h<|U7 M λx j=>g x<|by simp[Ê,ô,j])
end
def World.tp(u:Æ)(T:ψ)(D:Nat):Æ:={u with tape:=T,drawn:=D}
def uW(T:ψ)(D:Nat)(a:ψ)(b n:Nat):Prop:=∀i,i<n->a (b+i)=T (D+i)
def uW.lM{T:ψ}(h:uW T i xQ j (n+1)):xQ j=T i:=h 0 Z
def uW.jo{T:ψ}(h:uW T i xQ j (n+m)):uW T i xQ j n:=λa b=>h a Z
def uW.adQ{b:ψ}(h:uW xQ i b j (n+m)):uW xQ (i+n) b (j+n) m:=λa c=>by have:=h (n+a) Z;rw[show j+n+a=j+(n+a) by omega,show i+n+a=i+(n+a) by omega];exact this
def qP{α:Type}(P:Õ)(m:ē α):Prop:=∀(u:Æ) (T:ψ) (D:Nat),∃(n:Nat) (v:Æ),
 ∀x c,m.run P ((World.tp u T D))=ĥ x c->c=(World.tp v T<|D+n)/\∀a b,uW T D a b n->m.run P ((World.tp u a b))=ĥ x ((World.tp v a<|b+n))
section
variable{α β:Type}
def Ai{m:ē α}(h:∀u x a,m.run P u=ĥ x a->a=u/\∀b c,m.run P ((World.tp u b c))=ĥ x ((World.tp u b c))):qP P m:=λu T D=>⟨0,u,λx a e=>by let⟨d,f⟩:=h _ x a e;exact⟨d,λb c _=>f b c⟩⟩
def Np{m:ē α}(h:∀u x a,m.run P u≠ĥ x a):qP P m:=λu T D=>⟨0,u,λx a e=>absurd e<|h _ _ _⟩
def adR{m:ē α}{f:α->ē β}(h:qP P m)(i:∀a,qP P<|f a):qP P (m.bind f):=by
 intro u T D;let⟨n,v,j⟩:=h u T D;cases b:m.run P ((World.tp u T D))with
 |halt z w=>exact⟨0,u,λx c e=>by rw[Ĵ,b]at e;cases e⟩
 |ok a k=>
  obtain⟨rfl,l⟩:=j a k b;let⟨o,w,p⟩:=i a v T<|D+n;refine⟨n+o,w,λx c e=> ?_⟩;rw[Ĵ,b]at e;let⟨q,r⟩:=p x c e;refine⟨by rw[q,cQ],λz d g=> ?_⟩;rw[Ĵ,l z d g.jo,<-cQ];exact r z (d+n) g.adQ
theorem adS{m a:ē α}(h:∀u,m.run P u=a.run P u)(b:qP P a):qP P m:=by intro u T D;let⟨n,v,c⟩:=b u T D;exact⟨n,v,λx d e=>by grind⟩
def adT(q:bU):qP P (π q):=by
 intro u T D;cases a:q.forced with
 |true=>exact⟨0,u,λx d e=>by simp only[π,ã,a,if_true]at e;cases e;exact⟨U,λb c _=>by simp only[π,ã,a,if_true];rfl⟩⟩
 |false=>
  refine⟨1,u,λx d e=> ?_⟩;simp only[π,ã,a,Å,if_false]at e;cases e;refine⟨U,λb c f=> ?_⟩;simp only[π,ã,a,Å,if_false];have g:(World.tp u b c).tape (World.tp u b c).drawn q=T D q:=congrFun f.lM q;rw[g];rfl
def IX{γ:Type}(s:String):(MonadExcept.throw s:Except String γ)=bG s:=rfl
def adU(a:Ú)(md:Mode):qP P (aX a md):=by
 refine Ai λu x f e=> ?_;simp only[aX,ã]at e|-;cases b:u.cell? a with
 |some v=>
  rw[b]at e;cases e;exact⟨U,λc d=>by simp only[show((World.tp u c d)).cell? a=À x from b]⟩
 |none=>
  rw[b]at e;cases v:u.farLoad P a (md==ċ)with
  |error z=>simp only[v]at e;cases e
  |ok p=>
   simp only[v]at e;cases e;exact⟨U,λc d=>by simp only[show((World.tp u c d)).cell? a=ë from b,show((World.tp u c d)).farLoad P a (md==ċ)=.ok p from v]⟩
def Nq(u:Æ)(a:Ú)(v:Â)(md:Mode):∀T D,((World.tp u T D)).farStore P a v (md==ċ)=(u.farStore P a v<|md==ċ).map λp=>((World.tp p.1 T D),p.2):=by
 intro T D;have c:∀b t,((World.tp u T D)).viewStore P b t a v (md==ċ)=(u.viewStore P b t a v<|md==ċ).map λp=>((World.tp p.1 T D),p.2):=by
  intro b t;unfold bJ;have o:((World.tp u T D)).seen P b t a (md==ċ)=u.seen P b t a (md==ċ):=U;rw[o];simp only[bind,ρ,pure,ς,IX];cases u.seen P b t a (md==ċ)with
  |error e=>simp only[];split<;>rfl
  |ok r=>
   simp only[];repeat' (first|rfl|split)
 unfold Ŧ;have e:((World.tp u T D)).heap=u.heap:=U;cases r:u.heap[a.block]? with
 |none=>simp only[aP,e,r];rfl
 |some o=>
  cases o<;>first
   |(simp only[aP,e,r];rfl)
   |skip
  simp only[e,r,c];cases u.viewStore P _ _ a v (md==ċ)<;>rfl
def adV(a:Ú)(v:Â)(md:Mode):qP P (ar a v md):=by
 by_cases b:xY v=É
 .intro u T D;cases d:u.cell? a with
  |some y=>
   cases c:u.frozen? a with
   |true=>exact⟨0,u,λx h e=>by simp only[ar]at e;rw[vV b,show((World.tp u T D)).cell? a=À y from d]at e;simp only[show((World.tp u T D)).frozen? a=É from c,if_true]at e;cases e⟩
   |false=>
    refine⟨0,u.setCell a v,λx h e=> ?_⟩;simp only[ar]at e|-;rw[vV b,show((World.tp u T D)).cell? a=À y from d]at e;simp only[show((World.tp u T D)).frozen? a=Ã from c,Å,if_false]at e;cases e;refine⟨U,λf g i=> ?_⟩;rw[vV b,show((World.tp u f g)).cell? a=À y from d];simp only[show((World.tp u f g)).frozen? a=Ã from c,Å,if_false];rfl
  |none=>
   cases c:u.farStore P a v (md==ċ)with
   |error z=>exact⟨0,u,λx h e=>by simp only[ar]at e;rw[vV b,show((World.tp u T D)).cell? a=ë from d]at e;simp only[Nq u a v md T D,c,cm]at e;cases e⟩
   |ok p=>
    refine⟨0,p.1,λx h e=> ?_⟩;simp only[ar]at e|-;rw[vV b,show((World.tp u T D)).cell? a=ë from d]at e;simp only[Nq u a v md T D,c,cm]at e;cases e;refine⟨U,λf g i=> ?_⟩;rw[vV b,show((World.tp u f g)).cell? a=ë from d];simp only[Nq u a v md f g,c,cm];rfl
 .exact Np λu x h e=>by cases v<;>first|exact absurd U b|cases e
def adW(o:Obj):qP P (eM o):=λu T D=>⟨0,{u with heap:=u.heap.push o},λx a e=>by cases e;exact⟨U,λb c _=>rfl⟩⟩
def adX(r:Nat):qP P (cu r):=by
 refine Ai λu x d e=> ?_;simp only[cu,ã]at e|-;cases a:u.heap[r]? with
 |none=>rw[a]at e;cases e
 |some o=>
  rw[a]at e;cases o<;>first
   |(cases e;done)
   |(cases e;exact⟨U,λb c=>by simp only[show((World.tp u b c)).heap[r]?=_ from a]⟩)
end
def qi(u:Æ):Prop:=∀(i:Nat) (c:Array Â) (e:Á),u.heap[i]?≠À (Ÿ c e)
structure Kd(u u':Æ):Prop where
 r:qi u->qi u'
 C:∀(i:Nat) (o:Obj),u.heap[i]?=À o->yd o->∃o',u'.heap[i]?=À o'/\yd o'
theorem Kd.fU(u:Æ):Kd u u:=⟨id,λ_ o h k=>⟨o,h,k⟩⟩
def Kd.fg{c:Æ}(h:Kd w u)(k:Kd u c):Kd w c:=⟨λx=>k.r<|h.r x,λi o x y=>by let⟨d,e,f⟩:=h.C i o x y;exact k.C i d e f⟩
def Fv:Halt->Bool
 |.panic _=>É
 |.stuck _=>É
 |ŀ (.initOrder _)=>Ã
 |ŀ _=>É
 |_=>Ã
def oy{α:Type}(P:Õ)(m:ē α):Prop:=∀u,qi u->(∀x a,m.run P u=ĥ x a->Kd u a)/\(∀z a,m.run P u=bV z a->Fv z=É)
section
variable{α β:Type}
def Va(a:α):oy P (aI a):=λu _=>⟨λx b h=>by cases h;exact Kd.fU u,λz b h=>by cases h⟩
def Fw{z:Halt}(h:Fv z=É):oy P (ep z:ē α):=λu _=>⟨λx a e=>(by cases e),λb a e=>(by cases e;exact h)⟩
def IY{m:ē α}{f:α->ē β}(h:oy P m)(j:∀a,oy P<|f a):oy P (m.bind f):=by
 intro u d;let⟨g,k⟩:=h u d;refine⟨λx i e=> ?_,λz i e=> ?_⟩<;>rw[Ĵ]at e
 .cases b:m.run P u with
  |ok a c=>
   rw[b]at e;exact(g a c b).fg<|(j a c<|(g a c b).r d).1 x i e
  |halt z w=>rw[b]at e;cases e
 .cases b:m.run P u with
  |ok a c=>
   rw[b]at e;exact(j a c<|(g a c b).r d).2 z i e
  |halt c w=>rw[b]at e;cases e;exact k _ _ b
def Vb:oy P de:=λu _=>⟨λx a h=>by cases h;exact Kd.fU u,λz a h=>by cases h⟩
theorem adY(q:bU):oy P (π q):=by
 intro u b;constructor
 .intro x a e;simp only[π,ã]at e;split at e<;>cases e
  .exact Kd.fU u
  .exact⟨id,λi o h k=>⟨o,h,k⟩⟩
 .intro z a e;simp only[π,ã]at e;grind
def adZ(m:Mark):oy P (mark m):=λu _=>⟨λx a h=>by cases h;exact Kd.fU u,λz a h=>by cases h⟩
def ad1(r:Nat):oy P (cw r):=λu _=>⟨λx a h=>by cases h;exact Kd.fU u,λz a h=>by cases h⟩
def ad2(a:Ú):oy P (eN a):=λu _=>⟨λx b h=>by cases h;exact Kd.fU u,λz b h=>by cases h⟩
theorem ad3(o:Obj)(h:∀c e,o≠Ÿ c e):oy P (eM o):=by
 intro u b;refine⟨λx d e=> ?_,λz d e=>by cases e⟩;cases e;refine⟨λ_ i c e a=> ?_,λi f a g=>⟨f,?_,g⟩⟩
 .simp only[Array.getElem?_push]at a;split at a
  .grind
  .exact b i c e a
 .grind
theorem Vd{f:Obj->Obj}(n:∀o,yd o->yd (f o))(j:∀o c e,f o=Ÿ c e->∃d g,o=Ÿ d g):Kd u {u with heap:=u.heap.modify b f}:=by
 refine⟨λh i c e a=> ?_,λi o a p=> ?_⟩
 .simp only[Ň]at a;split at a
  .let⟨o,k,l⟩:=ģ.1 a;let⟨d,g,m⟩:=j o c e l;exact h i d g<|m▸k
  .exact h i c e a
 .grind
theorem ad4(a:Ú)(v:Â):Kd u (u.setCell a v):=by
 unfold ĉ;refine Vd (λo b=> ?_) λo c e h=> ?_
 .cases o<;>first|exact b.elim|trivial
 .grind
theorem Ve(b:qi u)(a:Ú)(s:String):Fv (u.noCell a s)=É:=by
 unfold aP;split
 .rename_i h;exact absurd h<|b _ _ _
 .rfl
 .rfl
theorem ad5(a:Ú)(m:Mode):oy P (aX a m):=by
 intro u d;constructor
 .intro x c e;simp only[aX,ã]at e;grind [Kd.fU]
 .intro z c e;simp only[aX,ã]at e;split at e
  .cases e
  .split at e
   .cases e
   .rename_i b;cases e;unfold ŋ at b;split at b
    .split at b<;>cases b;rfl
    .grind [Ve]
theorem ad6{k:Ú}{r:Array Value×TypeId×(Nat×Nat)×Nat×Value×List (Nat×Nat×List UInt8)}(h:w.seen P a t k yQ=.ok r):∃c e d,w.heap[a.block]?=À (Č c e d):=by unfold World.seen at h;simp only[bind,ρ,pure,ς,IX]at h;grind
theorem ad7{k:Ú}{l:List Ú}(h:w.viewStore P a t k v yQ=.ok (u,l)):Kd w u:=by
 have q:∃c e n d f g,w.heap[a.block]?=À (Č d f g)/\u={w with heap:=w.heap.setIfInBounds a.block (Č c e n)}:=by
  unfold bJ at h;cases i:w.seen P a t k yQ with
  |error e=>
   rw[i]at h;simp only[bind,ρ,pure,ς,IX]at h;repeat' (first|contradiction|split at h)
  |ok r=>
   let⟨d,f,g,j⟩:=ad6 i;rw[i]at h;simp only[bind,ρ,pure,ς,IX]at h;repeat' (first|contradiction|split at h)
   all_goals(simp only[Except.ok.injEq,Prod.mk.injEq]at h;obtain⟨rfl,_⟩:=h;exact⟨_,_,_,d,f,g,j,U⟩)
 obtain⟨c,e,n,d,f,g,j,rfl⟩:=q;refine⟨λs i x m r=> ?_,λi o r y=> ?_⟩
 .rw[Ś]at r;split at r
  .grind
  .exact s i x m r
 .by_cases m:a.block=i
  .subst m;rw[j]at r;cases r;exact y.elim
  .grind
theorem ad8(a:Ú)(v:Â)(m:Mode):oy P (ar a v m):=by
 intro u d;by_cases c:xY v=É
 .constructor
  .intro x f e;simp only[ar]at e;rw[vV c]at e;split at e
   .split at e
    .cases e
    .cases e;exact ad4 a v
   .split at e
    .rename_i b;cases e;unfold Ŧ at b;grind [ad7]
    .cases e
  .intro z f e;simp only[ar]at e;rw[vV c]at e;split at e
   .split at e
    .cases e;rfl
    .cases e
   .split at e
    .cases e
    .rename_i b;cases e;unfold Ŧ at b;split at b
     .split at b<;>cases b;rfl
     .grind [Ve]
 .cases v<;>first|exact absurd U c|exact Fw (P:=P) U u d
def fD(P:Õ)(m:ē α):Prop:=oy P m/\qP P m
theorem gG(a:α):fD P (pure a):=⟨Va a,Ai λu x b e=>by cases e;exact⟨U,λ_ _=>rfl⟩⟩
def Nr{z:Halt}(h:Fv z=É):fD P (ep z:ē α):=⟨Fw h,Np λu x a e=>by cases e⟩
theorem gp{m:ē α}{f:α->ē β}(h:fD P m)(b:∀a,fD P<|f a):fD P (m>>=f):=⟨IY h.1 λa=>(b a).1,adR h.2 λa=>(b a).2⟩
def Ns{m:ē α}{f:α->β}(h:fD P m):fD P (f<$>m):=gp h λ_=>gG _
theorem jc(s:String):fD P (stuck s:ē α):=Nr U
def Vf(v:Â):fD P (goPanic v:ē α):=Nr U
theorem qj:fD P de:=⟨Vb,Ai λu x a e=>by cases e;exact⟨U,λ_ _=>rfl⟩⟩
theorem sd(q:bU):fD P (π q):=⟨adY q,adT q⟩
def Fy(m:Mark):fD P (mark m):=⟨adZ m,Ai λu x a e=>by cases e;exact⟨U,λ_ _=>rfl⟩⟩
theorem tf(r:Nat):fD P (cw r):=⟨ad1 r,Ai λu x a e=>by cases e;exact⟨U,λ_ _=>rfl⟩⟩
theorem Nt(a:Ú):fD P (eN a):=⟨ad2 a,Ai λu x b e=>by cases e;exact⟨U,λ_ _=>rfl⟩⟩
def IZ(o:Obj)(h:∀c e,o≠Ÿ c e):fD P (eM o):=⟨ad3 o h,adW o⟩
def Fz(a:Ú)(m:Mode):fD P (aX a m):=⟨ad5 a m,adU a m⟩
def ad9(a:Ú)(v:Â)(m:Mode):fD P (ar a v m):=⟨ad8 a v m,adV a v m⟩
theorem I1{m m':ē α}(h:∀u,m.run P u=m'.run P u)(a:fD P m'):fD P m:=⟨λu b=>by have:=a.1 u b;rwa[<-h u]at this,adS h a.2⟩
end
section
variable{α:Type}
def mW(u:br)(h:Fv (ŀ u)=É):fD P (unsupported u:ē α):=Nr h
def FA(e:Á)(c:Array Â):fD P (dS e c):=by unfold dS;exact gp (IZ _<|by intro _ _ h;cases h) λ_=>gG _
def Vg(t:Á)(v:Â):fD P (eK t v):=FA _ _
def uX(t:Á):fD P (Δ t):=by unfold Δ;repeat' (first|(with_reducible first|exact gG _|exact jc _|exact qj|refine gp ?_ λ_=> ?_)|split)
theorem qR(t:Á):fD P (ø t):=by unfold ø;repeat' (first|(with_reducible first|exact gG _|exact jc _|exact qj|refine gp ?_ λ_=> ?_)|split)
def tg{p:Prop}(h:p:=by repeat' (first|(with_reducible first|exact gG _|exact jc _|exact qj|exact qR _|exact Vf _|exact Vg _ _|exact sd _|exact uX _|exact Fz _ _|exact tf _|exact Fy _|refine gp ?_ (λ_=> ?_)|refine Ns ?_|refine mW _ ?_)|split|rfl)):p:=h
def I2(t:Á):fD P (Ū t):=by unfold Ū;exact tg
def vZ(e:Ι):fD P (runtimePanic e:ē α):=by unfold runtimePanic;repeat' (first|(with_reducible first|exact I2 _|refine gp ?_ λ_=> ?_)|split|exact tg)
def Vh(k:ú)(x y:Int)(c:ax):fD P (boundsPanic k x y c:ē α):=by unfold boundsPanic;simp only[];repeat' (first|(with_reducible first|exact vZ _|refine gp ?_ λ_=> ?_)|split|exact tg)
def aea(r:Nat):oy P (cu r):=by
 intro u b;constructor
 .intro x a e;simp only[cu,ã]at e;split at e<;>first|(cases e;done)|(cases e;exact Kd.fU u)
 .intro z a e;simp only[cu,ã]at e;split at e<;>first|(cases e;done)|(cases e;rfl)
theorem Vi(r:Nat):fD P (cu r):=⟨aea r,adX r⟩
def I3(t:Á):fD P (ω t):=by unfold ω;exact tg
def tj(t:Á):fD P (ay t):=by unfold ay;exact tg
def Nu(t:Á):fD P (eu t):=by unfold eu;exact tg
def Vj(a:Ú):∀(n i:Nat) (b:Array Â),fD P<|Ō a i n b
 |0,i,b=>gG _
 |n+1,i,b=>by unfold Ō;exact gp (Fz _ _) λ_=>Vj a n _ _
def Nv(a:Ú)(n:Nat):fD P (c8 a n):=Vj a n _ _
def I4(a:Ú):∀(b:List Â) (i:Nat),fD P<|Κ a b i
 |[],i=>gG _
 |v::b,i=>by unfold Κ;exact gp (ad9 _ _ _) λ_=>I4 a b _
theorem Vk(t:Á)(a:Ú):fD P (ae t a):=by unfold ae;repeat' (first|(with_reducible first|exact tj _|exact Nu _|exact Nv _ _|refine gp ?_ λ_=> ?_)|split|exact tg)
def aeb(t:Á)(a:Ú)(v:Â):fD P (aJ t a v):=by unfold aJ;repeat' (first|(with_reducible first|exact tj _|exact I4 _ _ _|refine gp ?_ λ_=> ?_)|split|exact tg)
def Vl(t:Á)(c:Array Â)(o:Nat):fD P (part t c o):=by unfold part;repeat' (first|(with_reducible first|exact tj _|exact Nu _|refine gp ?_ λ_=> ?_)|split|exact tg)
def Vm(v:Â):fD P (ŧ v):=by unfold ŧ;exact tg
def Vo(v:Â):fD P (df v):=by unfold df;exact tg
def jV{p:Prop}(h:p:=by repeat' (first|(with_reducible first|exact gG _|exact jc _|exact qj|exact qR _|exact Vf _|exact Vg _ _|exact I2 _|exact sd _|exact vZ _|exact uX _|exact Fz _ _|exact tj _|exact Nu _|exact Nv _ _|exact I4 _ _ _|exact Vo _|exact I3 _|exact aeb _ _ _|exact Vk _ _|exact Vm _|exact Vl _ _ _|exact tf _|exact Vi _|exact Vh _ _ _ _|exact Fy _|refine gp ?_ (λ_=> ?_)|refine Ns ?_|refine mW _ ?_)|split|rfl)):p:=h
def FB(v:Â):fD P (dB v):=by unfold dB;exact jV
def I5(v:Â):fD P (bW v):=by unfold bW;exact jV
def aec(v:Â):fD P (eL v):=by unfold eL;exact jV
theorem Vp(v:Â):fD P (bX v):=by unfold bX;exact jV
def Vq(t:Á)(b:Bool)(v:Â):fD P (Ű t b v):=by unfold Ű;exact jV
def Vr(t:Á)(v:Â):fD P (ag t v):=by unfold ag;exact jV
def Vt(t:Á)(v:Â):fD P (Ş t v):=by unfold Ş;exact jV
def Vu(t:Á)(a v:Â):fD P (ĳ t a v):=by unfold ĳ;exact jV
def Vv(v:Â)(n:Nat):fD P (ō v n):=by unfold ō;exact jV
def Vw(t:Á)(v:Â)(n:Nat):fD P (ű t v n):=by unfold ű;repeat' (first|(with_reducible first|exact aec _|refine gp ?_ λ_=> ?_)|split|exact jV)
def Vx{γ δ:Type}(f:γ->ē δ)(a:∀x,fD P<|f x):∀l:List γ,fD P<|l.mapM f
 |[]=>by rw[cS];exact gG _
 |x::l=>by rw[ν];exact gp (a x) λ_=>gp (Vx f a l) λ_=>gG _
theorem Vy{γ δ:Type}(f:γ->ē δ)(a:∀x,fD P<|f x)(l:Array γ):fD P (l.mapM f):=by rw[Ĕ];exact Ns<|Vx f a _
def aed(l:Array Field):fD P (l.mapM λf=>do pure (f.offset,<-ay f.type)):=Vy _ (λ_=>gp (tj _) λ_=>gG _) l
def I6(r:Nat):fD P (dj r):=by unfold dj;exact jV
def Vz(r:Nat):fD P (b9 r):=by unfold b9;exact jV
def VA(a:Ú):fD P (aY a):=by unfold aY;repeat' (first|(with_reducible first|exact I6 _|refine gp ?_ λ_=> ?_)|split|exact jV)
def Aj(a:Ú):fD P (dm a):=by unfold dm;repeat' (first|(with_reducible first|exact gG _|exact jc _|exact qj|exact tf _|exact VA _|refine gp ?_ λ_=> ?_)|split|simp only[]|(rename_i b;cases b<;>simp only[Å,if_false,if_true,þ,Ă]))
def CJ(a:Ú):fD P (Į a):=by unfold Į;repeat' (first|(with_reducible first|exact Vz _|refine gp ?_ λ_=> ?_)|split|exact jV)
def aee(a:Ú)(x y:Nat):fD P (partAt a x y):=by unfold partAt;repeat' (first|(with_reducible first|exact Aj _|refine gp ?_ λ_=> ?_)|split|exact jV)
def aef(a:Ú)(f:Field):fD P (bY a f):=by unfold bY;repeat' (first|(with_reducible first|exact aee _ _ _|refine gp ?_ λ_=> ?_)|split|exact jV)
def VB(s:Á)(v:Â)(n:Nat):fD P (Ŏ s v n):=by unfold Ŏ;repeat' (first|(with_reducible first|exact aef _ _|refine gp ?_ λ_=> ?_)|split|exact jV)
def VC(t:Á)(x i:Â):fD P (ŏ t x i):=by unfold ŏ;repeat' (first|(with_reducible first|exact gG _|exact jc _|exact qR _|exact Vh _ _ _ _|exact tj _|exact Vm _|exact Vo _|refine gp ?_ (λ_=> ?_)|refine mW _ ?_)|split|rfl|simp only[])
def aeg(x:Â)(y:Nat)(c:ax):fD P (ī x y c):=by unfold ī;exact jV
def VD(b:Bool)(l c:Nat)(x y z:Option Â):fD P (Ĩ b l c x y z):=by unfold Ĩ;repeat' (first|(with_reducible first|exact aeg _ _ _|refine gp ?_ λ_=> ?_)|split|exact jV)
def aeh(t:Á)(v:Â)(x y z:Option Â):fD P (Ų t v x y z):=by unfold Ų;repeat' (first|(with_reducible first|exact Vp _|exact VD _ _ _ _ _ _|refine gp ?_ λ_=> ?_)|split|exact jV)
def VE(t:Á)(v:Â)(x y z:Option Â):fD P (Ő t v x y z):=by unfold Ő;repeat' (first|(with_reducible first|exact VD _ _ _ _ _ _|exact aeh _ _ _ _ _|refine gp ?_ λ_=> ?_)|split|exact jV)
def VF(t:Á)(x i:Â):fD P (ų t x i):=by unfold ų;exact jV
def VG(o:ġ)(k:ú)(x y:Int):fD P (dE o k x y):=by unfold dE;exact jV
def VH(o:ġ)(k:ú)(x y:Int):fD P (dY o k x y):=by unfold dY;exact jV
def VI(o:UnOp)(v:Â):fD P (bZ o v):=by unfold bZ;repeat' (first|(with_reducible first|exact VG _ _ _ _|exact VH _ _ _ _)|split|exact jV)
def VJ(t:Á)(a:Array (Nat×Value)):fD P (Ŵ t a):=by unfold Ŵ;repeat' (first|(with_reducible first|exact aed _|refine gp ?_ λ_=> ?_)|split|exact jV)
def VK(t:Á)(n:Nat)(a:Array (Nat×Value)):fD P (ĭ t n a):=by unfold ĭ;repeat' (first|(with_reducible first|exact gG _|exact jc _|exact FA _ _|exact qR _|exact I3 _|exact tj _|refine gp ?_ (λ_=> ?_)|refine mW _ ?_)|split|rfl|simp only[]|(rename_i b;cases b<;>simp only[Å,if_false,if_true,þ,Ă]))
def Nw(n:Nat):fD P (bP n):=by unfold bP;exact jV
def VL(t:Á)(x y:Â):fD P (Ĺ t x y):=by unfold Ĺ;repeat' (first|(with_reducible first|exact gG _|exact jc _|exact sd _|exact FA _ _|exact uX _|exact qR _|exact vZ _|exact I3 _|exact tj _|exact FB _|exact Nw _|refine gp ?_ λ_=> ?_)|split|simp only[]|(rename_i b;cases b<;>simp only[Å,if_false,if_true,þ,Ă]))
def VM(v:Â):fD P (Α v):=by unfold Α;exact jV
def VN(s n:Nat)(v:Â):fD P (ļ s n v):=by unfold ļ;exact jV
def aei(a:Ú)(n:Nat):fD P (aB a n):=by unfold aB;exact jV
def aej(s l n:Nat)(b:Option Ú)(v:Â):fD P (bb s l n b v):=by unfold bb;repeat' (first|(with_reducible first|exact gG _|exact Nt _|exact aei _ _|refine gp ?_ λ_=> ?_)|split|simp only[]|(rename_i b;cases b<;>simp only[Å,if_false,if_true,þ,Ă]))
def VO(a:Array Á)(t:Á)(x:Array Â):fD P (ş a t x):=by unfold ş;exact jV
def VP(a:Array Á)(t:Á)(x:Array Â):fD P (Š a t x):=by unfold Š;exact jV
def VQ(a:Array Á)(t:Á)(x:Array Â):fD P (ő a t x):=by unfold ő;repeat' (first|(with_reducible first|exact VM _|exact VN _ _ _|refine gp ?_ λ_=> ?_)|split|exact jV)
def VR(a:Array Á)(t:Á)(x:Array Â):fD P (ĸ a t x):=by unfold ĸ;repeat' (first|(with_reducible first|exact gG _|exact jc _|exact sd _|exact Fy _|exact FA _ _|exact uX _|exact qR _|exact vZ _|exact I3 _|exact tj _|exact I4 _ _ _|exact FB _|exact Nw _|exact VM _|exact VN _ _ _|exact aej _ _ _ _ _|refine gp ?_ (λ_=> ?_)|refine mW _ ?_)|split|rfl|(rename_i b;cases b<;>simp only[Å,if_false,if_true,þ,Ă]))
end
section
variable{α:Type}
theorem Nx(o:ġ)(k:ı)(x y:Nat):fD P (cT o k x y):=by unfold cT;repeat' (first|(with_reducible first|exact gG _|exact jc _|exact sd _|refine gp ?_ λ_=> ?_)|split|simp only[]|(rename_i b;cases b<;>simp only[Å,if_false,if_true,þ,Ă]))
theorem Ny(o:ġ)(k:ı)(x y:Nat):fD P (dF o k x y):=by unfold dF;grind [gG,jc]
theorem aek(s:ı)(b:Nat)(d:ı):fD P (aQ s b d):=by unfold aQ;grind [gG,sd,gp]
theorem VS(s:ı)(b:Nat)(d:ú):fD P (bK s b d):=by unfold bK;grind [gG,sd,gp]
theorem ael(o:ġ)(k:ı)(x y:Nat):fD P (bg o k x y):=by unfold bg;grind [gG,jc,Nx,gp]
def mX{p:Prop}(h:p:=by repeat' (first|(with_reducible first|exact gG _|exact jc _|exact sd _|exact Nx _ _ _ _|exact I5 _|exact Ny _ _ _ _|exact aek _ _ _|exact ael _ _ _ _|exact vZ _|exact qj|exact Aj _|exact tf _|exact FB _|exact I6 _|exact qR _|exact CJ _|exact Vz _|refine gp ?_ (λ_=> ?_)|refine mW _ ?_)|split|rfl)):p:=h
def VT(o:ġ)(k:ı)(x y:Nat):fD P (cx o k x y):=by unfold cx;exact mX
def aem(s:ı)(b:Nat)(d:ı):fD P (bL s b d):=by unfold bL;exact mX
def Nz(x y:Nat):fD P (cy x y):=by unfold cy;exact mX
def NA(x y:Nat):fD P (cz x y):=by unfold cz;exact mX
def NB(x y:Nat):fD P (cA x y):=by unfold cA;exact mX
def aen(x y:Nat):fD P (cB x y):=by unfold cB;exact mX
def aeo(a b c d:Nat):fD P (aC a b c d):=by unfold aC;repeat' (first|(with_reducible first|exact Nz _ _|exact NA _ _|exact NB _ _|refine gp ?_ λ_=> ?_)|split|exact mX)
def aep(s a b c d:Nat):fD P (σ s a b c d):=by unfold σ;repeat' (first|(with_reducible first|exact Nz _ _|exact NA _ _|exact NB _ _|refine gp ?_ λ_=> ?_)|split|exact mX)
def aer(a b c d:Nat):fD P (ai a b c d):=by unfold ai;repeat' (first|(with_reducible first|exact gG _|exact VT _ _ _ _|exact Nz _ _|exact NA _ _|exact NB _ _|exact aen _ _|exact aep _ _ _ _ _|refine gp ?_ λ_=> ?_)|split|simp only[])
def VU(o:ġ)(k:ı)(a b c d:Nat):fD P (dp o k a b c d):=by unfold dp;repeat' (first|(with_reducible first|exact VT _ _ _ _|exact aem _ _ _|exact aeo _ _ _ _|exact aer _ _ _ _|refine gp ?_ λ_=> ?_)|split|exact mX)
def aes(o:ġ)(k:ú)(x y:Int):fD P (ah o k x y):=by unfold ah;exact mX
def VW(o:ġ)(x y:Int):fD P (eC o x y):=by unfold eC;exact mX
def aeu(o:ġ)(k:ú)(x:Int)(a:ú)(y:Int):fD P (aK o k x a y):=by unfold aK;exact mX
def NC(o:ġ)(x y:ByteArray):fD P (bu o x y):=by unfold bu;exact mX
def VX(a b:Ú):fD P (š a b):=by unfold š;exact mX
def aev(k:ú)(a b:Ú):fD P (Μ k a b):=by unfold Μ;repeat' (first|(with_reducible first|exact VX _ _|refine gp ?_ λ_=> ?_)|split|exact mX)
def aew(o:ġ)(a b:Ú):fD P (Ν o a b):=by unfold Ν;repeat' (first|(with_reducible first|exact VX _ _|refine gp ?_ λ_=> ?_)|split|exact mX)
def aex(k:ú)(a:Ú)(n:Int):fD P (Ξ k a n):=by unfold Ξ;repeat' (first|(with_reducible first|exact gG _|exact tf _|exact uX _|exact Aj _|refine gp ?_ (λ_=> ?_)|refine mW _ ?_)|split|rfl|simp only[]|(rename_i b;cases b<;>simp only[Å,if_false,if_true,þ,Ă]))
def VY(a:Array Á)(t:Á)(x y:Â):fD P (ñ a t #[x,y]):=by
 unfold ñ;cases x<;>first|exact jc _|skip
 refine gp (FB y) λn=> ?_;exact mX
def aey(a:Ú)(b:Bool):fD P (cg a b):=by unfold cg;repeat' (first|(with_reducible first|exact gG _|refine gp ?_ (λ_=> ?_)|refine IZ _ ?_)|split|(intro _ _ h;cases h;done))
def aez(t:Á)(x y:Â):fD P (ŕ t x y):=by unfold ŕ;repeat' (first|(with_reducible first|exact VY _ _ _ _|exact aey _ _|refine gp ?_ λ_=> ?_)|split|exact mX)
def aeA(t:Á)(x y:Â):fD P (Ţ t x y):=by unfold Ţ;repeat' (first|(with_reducible first|exact VY _ _ _ _|refine gp ?_ λ_=> ?_)|split|exact mX)
theorem we{γ:Type}{d:dG}(h:P.underlying t=À d){f:dG->ē γ}(a:fD P (f d)):fD P (ø t>>=f):=by
 have e:∀u,(ø t).run P u=ĥ d u:=by intro u;unfold ø;simp_all
 grind [I1,Ä,È]
def VZ(t:Á)(x y:Â)(a:td P t\/((∃e,P.underlying t=À (ð e))/\(mV x\/mV y))):fD P (ó t x y):=by
 unfold ó ā Λ;rcases a with(h|⟨k,h⟩|h)|⟨⟨e,h⟩,k⟩<;>refine we h ?_
 .repeat' (first|(with_reducible first|exact gG _|exact jc _|exact qj|exact uX _|exact Aj _|exact CJ _|refine gp ?_ (λ_=> ?_)|refine mW _ ?_)|contradiction|split)
 .repeat' (first|(with_reducible first|exact gG _|exact jc _|exact qj|exact uX _|exact Aj _|exact CJ _|refine gp ?_ (λ_=> ?_)|refine mW _ ?_)|contradiction|split|rfl)
 .repeat' (first|(with_reducible first|exact gG _|exact jc _|exact qj|exact uX _|exact Aj _|exact CJ _|refine gp ?_ (λ_=> ?_)|refine mW _ ?_)|contradiction|split)
 .repeat' (first|(with_reducible first|exact gG _|exact jc _|exact qj|exact uX _|exact Aj _|exact CJ _|refine gp ?_ (λ_=> ?_)|refine mW _ ?_)|contradiction|exact(Or.elim k id id:False).elim|split)
def aeB(t:Á)(a:Fl P t)(x y:Â):fD P (į ā t x y):=by unfold ā į;rcases a with(h|⟨k,h⟩|h)|⟨e,h⟩<;>refine we h ?_<;>(cases x<;>cases y<;>exact gG _)
theorem V1(c:ġ)(t:Á)(d:c=aA\/c=aL->Fl P t)(x y:Ö)(a b:Â):fD P (ŷ c t x y a b):=by
 unfold ŷ;by_cases e:c=aA\/c=aL
 .have f:=d e;rcases e with rfl|rfl;all_goals
   repeat' (first|(with_reducible first|exact aeB _ f _ _|refine gp ?_ λ_=> ?_)|split|exact mX)
 .grind [gG]
end
section
variable{α:Type}
theorem aeC(k:ú)(n:Int):fD P (cU k n):=by unfold cU;grind [gG]
theorem V2(n:Int):fD P (bh n):=by unfold bh;grind [gG]
def aeD(a:ġ)(t:Á)(x y:Â)(h:a=aA\/a=aL->(td P t\/((∃e,P.underlying t=À (ð e))/\(mV x\/mV y)))):fD P (Ũ a t x y):=by unfold Ũ;repeat' (first|(with_reducible first|exact VZ _ _ _ (h<|Ç U)|exact VZ _ _ _ (h<|Î U)|exact gG _|exact jc _|exact qR _|exact CJ _|exact VG _ _ _ _|exact VH _ _ _ _|exact Nx _ _ _ _|exact Ny _ _ _ _|exact VU _ _ _ _ _ _|exact aes _ _ _ _|exact VW _ _ _|exact aeu _ _ _ _ _|exact NC _ _ _|exact aev _ _ _|exact aew _ _ _|exact aex _ _ _|exact aez _ _ _|exact aeA _ _ _|refine gp ?_ (λ_=> ?_)|refine mW _ ?_)|contradiction|split|rfl)
def aeE(s d:Á)(x:Â)(h:(∃k a,P.underlying s=À (Β k)/\P.underlying d=À (Β a))\/(P.underlying s=À ę/\P.underlying d=À ę)):fD P (Œ s d x):=by
 unfold Œ;rcases h with⟨k,a,b,c⟩|⟨b,c⟩<;>refine we b<|we c ?_
 .repeat' (first|(with_reducible first|exact aeC _ _|exact gG _|exact VS _ _ _|refine mW _ ?_)|contradiction|split|rfl)
 .repeat' (first|(with_reducible first|exact V2 _|exact gG _|exact VS _ _ _|refine mW _ ?_)|contradiction|split|rfl)
def V3:∀(l:List FieldStep) (t:Á) (x:Option Â),fD P<|bx l t x
 |[],t,x=>by unfold bx;exact gG _
 |s::l,t,x=>by unfold bx;repeat' (first|(with_reducible first|exact V3 l _ _|exact gG _|exact jc _|exact qR _|exact Vl _ _ _|refine gp ?_ λ_=> ?_)|split|(intro _ _ h;cases h;done)|rfl|simp only[]|(rename_i b;cases b<;>simp only[Å,if_false,if_true,þ,Ă]))
def V4:∀(n:Nat) (t:Á) (v:Â) (s:String),fD P<|aR n t v s
 |0,t,v,s=>by unfold aR;exact gG _
 |n+1,t,v,s=>by unfold aR;repeat' (first|(with_reducible first|exact V4 n _ _ _|exact V3 _ _ _|exact gG _|exact jc _|exact uX _|exact qR _|refine gp ?_ λ_=> ?_)|split|(intro _ _ h;cases h;done)|rfl|simp only[]|(rename_i b;cases b<;>simp only[Å,if_false,if_true,þ,Ă]))
def lN{m:ē Â}(h:fD P m):fD P (m>>=λv=>pure<|ï v):=gp h λ_=>gG _
theorem aeF(f:à)(b:∃a,P.funcs[f]?=À a/\(a.name== "runtime.NumGoroutine")=Ã/\a.body.isNone=Ã)(c:Array Â):fD P (ĵ f c):=by let⟨a,d,e,g⟩:=b;refine I1 (m':=pure<|ũ f c) (λu=> ?_)<|gG _;unfold ĵ;rw[Ä,ă];grind [È,Å]
def aeG(j:j5 P xX o.op):fD P (ì xX o):=by
 let⟨k,g,m,p,u,guard⟩:=o;simp only at j;unfold ì;simp only[];cases j with
 |Ah x=>exact gG _
 |Fo x=>exact gG _
 |vY c a b=>exact gp (I5 _) λ_=>gG _
 |gJ t=>exact lN<|Vq _ _ _
 |Nb t x=>exact lN<|Vr _ _
 |Nc t b=>exact lN<|VJ _ _
 |Nd t n b=>exact lN<|VK _ _ _
 |gA t a=>exact lN<|Vt _ _
 |ja t a x=>exact gp (Vu _ _ _) λ_=>gG _
 |Fp x=>
  simp only[];repeat' (first|(with_reducible first|exact V4 _ _ _ _|exact gG _|exact qj|exact vZ _|exact I5 _|exact Vq _ _ _|exact Vr _ _|exact Vt _ _|exact Vu _ _ _|exact Vv _ _|exact Vw _ _ _|exact VB _ _ _|exact VC _ _ _|exact VE _ _ _ _ _|exact VF _ _ _|exact VI _ _|exact VJ _ _|exact VK _ _ _|exact VL _ _ _|exact VO _ _ _|exact VP _ _ _|exact VQ _ _ _|exact VR _ _ _|refine gp ?_ (λ_=> ?_)|refine mW _ ?_)|split|rfl)
 |CI g t x y r h=>exact lN<|gp (V1 g t (λe=>(h e).imp id λq=>q.1) x y _ _) λ_=>aeD g t _ _ h
 |Nf g t x=>exact lN<|VI _ _
 |Ng s d x h=>exact lN<|aeE s d _ h
 |Nh t l c=>exact lN<|VL _ _ _
 |kH t x b a c=>exact lN<|VE _ _ _ _ _
 |Ni s x n h=>exact lN<|VB _ _ _
 |Nj t x n=>exact lN<|Vw _ _ _
 |Nk t x i=>exact lN<|VC _ _ _
 |Nl t x i=>exact lN<|VF _ _ _
 |Fa x n=>exact lN<|Vv _ _
 |Fq x a=>
  simp only[ù,č,Ē,pure_bind,Ø,â,ä];exact lN<|VO _ _ _
 |Fs x a=>
  simp only[ù,č,Ē,pure_bind,Ø,â,ä];exact lN<|VP _ _ _
 |Ft x y a=>
  simp only[ù,č,Ē,pure_bind,Ø,â,ä];exact lN<|VQ _ _ _
 |s9 x y b c h=>
  simp only[ù,č,Ē,pure_bind,Ø,â,ä];exact lN<|VR _ _ _
 |jF f c a b h=>
  simp only[ù,b,İ,č,pure_bind,Ď,ď];exact aeF f h _
end
def fm(f:à)(t:Array Â)(k:List ś):Ę:=(base f).at ⟨t,[]⟩ k
structure St where
 f:à
 t:Array Â
 k:List ś
 C:Bool
 L:List (FuncId×Array Value×List ś)
def St.r(s:St)(cs:List Ę):Ó:=G (if s.C then{fm s.f s.t s.k with mode:=.returning}else fm s.f s.t s.k)<|s.L.map (λx=>fm x.1 x.2.1 x.2.2)++cs
def oR(t:Array Â)(d:Option Tmp)(v:Â):Array Â:=(Act.put ⟨t,[]⟩ d v).tmps
def se(t:Array Â)(d:Option Tmp)(v:Â):Act.put ⟨t,[]⟩ d v=⟨oR t d v,[]⟩:=by cases d<;>rfl
inductive LS(P:Õ):St->Æ->St->Æ->Prop
 |oP {f t L u:_}:LS P ⟨f,t,[],Ã,L⟩ u ⟨f,t,[],É,L⟩ u
 |uY {f t k L u:_}:LS P ⟨f,t,Đ .ret::k,Ã,L⟩ u ⟨f,t,Đ .ret::k,É,L⟩ u
 |rY {f t k L u:_}:LS P ⟨f,t,Đ eO::k,Ã,L⟩ u ⟨f,t,k,Ã,L⟩ u
 |wh {f t k L u l:_}:LS P ⟨f,t,Đ (dZ l)::k,Ã,L⟩ u ⟨f,t,k,Ã,L⟩ u
 |ye {f t k L u id:_}:LS P ⟨f,t,dH id::k,Ã,L⟩ u ⟨f,t,k,Ã,L⟩ u
 |uZ {f t k L u c:_}:LS P ⟨f,t,dI c::k,Ã,L⟩ u ⟨f,t,k,Ã,L⟩ u
 |qS {f t k L u x y:_}:LS P ⟨f,t,Đ (.seq x y)::k,Ã,L⟩ u ⟨f,t,Đ x::Đ y::k,Ã,L⟩ u
 |tq {f t k L u c x y b:_} (h:å ⟨t,[]⟩ c=Ľ b):LS P ⟨f,t,Đ (bz c x y)::k,Ã,L⟩ u ⟨f,t,Đ (if b then x else y)::k,Ã,L⟩ u
 |qT {f t k L u id c:_}:LS P ⟨f,t,Đ (ea id c)::k,Ã,L⟩ u ⟨f,t,Đ c::dH id::k,Ã,L⟩ u
 |wi {f t k L u c:_}:LS P ⟨f,t,Đ (eP c)::k,Ã,L⟩ u ⟨f,t,Đ c::dq c::k,Ã,L⟩ u
 |wj {f t k L u c:_}:LS P ⟨f,t,dq c::k,Ã,L⟩ u ⟨f,t,Đ c::dq c::k,Ã,L⟩ u
 |wm {f t k L u c:_}:LS P ⟨f,t,Đ (eb c)::k,Ã,L⟩ u ⟨f,t,Đ c::dI c::k,Ã,L⟩ u
 |wo {f t k L u id k':_} (h:cD id k=À k'):LS P ⟨f,t,Đ (eR id)::k,Ã,L⟩ u ⟨f,t,k',Ã,L⟩ u
 |wq {f t k L u l k':_} (h:cE l k=À k'):LS P ⟨f,t,Đ (eS l)::k,Ã,L⟩ u ⟨f,t,k',Ã,L⟩ u
 |tu {f t k L u id ops:_}:LS P ⟨f,t,Đ (bQ id ops Ã)::k,Ã,L⟩ u ⟨f,t,á ops (List.range ops.size)::k,Ã,L⟩ u
 |Ak {f t k L u id ops:_}:LS P ⟨f,t,Đ (bQ id ops É)::k,Ã,L⟩ u ⟨f,t,á ops (bM (P.follows .mixedOrders) ops<|u.tape u.drawn<|.order f id)::k,Ã,L⟩ {u with drawn:=u.drawn+1}
 |FC {f t k L u ops:_}:LS P ⟨f,t,á ops []::k,Ã,L⟩ u ⟨f,t,k,Ã,L⟩ u
 |CK {f t k L u ops i rest o:_} (ho:ops[i]?=À o) (hw:Ħ o (ł ops t)=Ã):LS P ⟨f,t,á ops (i::rest)::k,Ã,L⟩ u ⟨f,oR t o.dst ľ,á ops rest::k,Ã,L⟩ u
 |nH {f t k L u ops i rest o v u':_} (ho:ops[i]?=À o) (hw:Ħ o (ł ops t)=É) (hr:(ì (å ⟨t,[]⟩) o).run P u=ĥ (ï v) u'):LS P ⟨f,t,á ops (i::rest)::k,Ã,L⟩ u ⟨f,oR t o.dst v,á ops rest::k,Ã,L⟩ u'
 |Al {f t k L u ops i rest o u':_} (ho:ops[i]?=À o) (hw:Ħ o (ł ops t)=É) (hr:(ì (å ⟨t,[]⟩) o).run P u=ĥ aH u'):LS P ⟨f,t,á ops (i::rest)::k,Ã,L⟩ u ⟨f,oR t o.dst ľ,á ops rest::k,Ã,L⟩ u'
 |rZ {f t k L u ops i rest o g args fn c u':_} (ho:ops[i]?=À o) (hw:Ħ o (ł ops t)=É) (hr:(ì (å ⟨t,[]⟩) o).run P u=ĥ (ũ g args) u') (hf:P.funcs[g]?=À fn) (hb:fn.body=À c):LS P ⟨f,t,á ops (i::rest)::k,Ã,L⟩ u ⟨g,args++ĺ (fn.ntmps-args.size) ľ,[Đ c],Ã,(f,t,á ops (i::rest)::k)::L⟩ u'
 |CL {f t k L u ops i rest:_} (ho:(ops:Array av)[(i:Nat)]?=ë):LS P ⟨f,t,á ops (i::rest)::k,Ã,L⟩ u ⟨f,t,á ops rest::k,Ã,L⟩ u
 |wv {f t k L u g t' ops i rest k' v fn u':_} (hf:P.funcs[f]?=À fn) (hr:(Ī fn t).run P u=ĥ v u'):LS P ⟨f,t,k,É,(g,t',á ops (i::rest)::k')::L⟩ u ⟨g,oR t' ((ops[i]?).bind (·.dst)) v,á ops rest::k',Ã,L⟩ u'
inductive ml(GL:Nat->Prop):Ö->Prop
 |V5 (t:Tmp):ml GL (.tmp t)
 |V7 {v:Â} (h:jN v):ml GL (dX v)
 |V8 {g:Nat} (h:GL g):ml GL (ew g)
 |V9 (f:à):ml GL (aO f)
structure mH(P:Õ)(GL:Nat->Prop)(e8:à->Prop)(o:av):Prop where
 mI:∀{Y:ft} {Sh:Nat->Prop} {t t':Array Â} {u w:Æ},nG P->Y.C=P.globals.size->(∀g,GL g->Y g g)->fR Y t t'->jf Y Sh u w->(∀j,Sh j->j<w.heap.size)->∀{x:Ο} {u':Æ},(ì (å ⟨t,[]⟩) o).run P u=ĥ x u'->CG u u'->
  ∃(Y':ft) (x':Ο) (w':Æ) (Wa:Array ý),Y.r Y'/\(∀i j,Y' i j->Y i j\/(u.heap.size<=i/\w.heap.size<=j))/\(ì (å ⟨t',[]⟩) o).runT P w #[]=(ĥ x' w',#[]++Wa)/\oQ Y' x x'/\jf Y' Sh u' w'/\nF Y Sh w w'/\(∀e∈Wa,Ad Y' Sh e)/\u.heap.size<=u'.heap.size
 r:∀a:bF,fD P<|ì a.eval o
 I:∀(a:bF) (u:Æ) (n:Ο) (u':Æ),(ì a.eval o).run P u=ĥ n u'->(∃v,n=ï v)\/n=aH\/∃f c,n=ũ f c
 C:∀(a:bF) (u:Æ) (f:à) (c:Array Â) (u':Æ),(ì a.eval o).run P u=ĥ (ũ f c) u'->e8 f
inductive kJ(P:Õ)(GL:Nat->Prop)(e8:à->Prop):ak->Prop
 |uY:kJ P GL e8 .ret
 |rY:kJ P GL e8 eO
 |wh (l:Nat):kJ P GL e8 (dZ l)
 |wo (id:Nat):kJ P GL e8 (eR id)
 |wq (l:Nat):kJ P GL e8 (eS l)
 |qS {x y:ak} (hx:kJ P GL e8 x) (hy:kJ P GL e8 y):kJ P GL e8 (.seq x y)
 |tq {c:Ö} {x y:ak} (hc:ml GL c) (hx:kJ P GL e8 x) (hy:kJ P GL e8 y):kJ P GL e8 (bz c x y)
 |qT (id:Nat) {c:ak} (h:kJ P GL e8 c):kJ P GL e8 (ea id c)
 |wi {c:ak} (h:kJ P GL e8 c):kJ P GL e8 (eP c)
 |wm {c:ak} (h:kJ P GL e8 c):kJ P GL e8 (eb c)
 |tu (id:Nat) {ops:Array av} (draw:Bool) (h:∀o∈ops,mH P GL e8 o):kJ P GL e8 (bQ id ops draw)
 |nI (Wb:String):kJ P GL e8 (dt Wb)
inductive Am(P:Õ)(GL:Nat->Prop)(e8:à->Prop):ś->Prop
 |qU {c:ak} (h:kJ P GL e8 c):Am P GL e8 (Đ c)
 |ye (id:Nat):Am P GL e8 (dH id)
 |uZ {c:ak} (h:kJ P GL e8 c):Am P GL e8 (dI c)
 |wj {c:ak} (h:kJ P GL e8 c):Am P GL e8 (dq c)
 |wx {ops:Array av} (is:List Nat) (h:∀o∈ops,mH P GL e8 o):Am P GL e8 (á ops is)
def sf(P:Õ)(a:Nat->Prop)(b:à->Prop)(k:List ś):Prop:=∀i∈k,Am P a b i
structure kV(P:Õ)(GL:Nat->Prop)(e8:à->Prop)(s:St):Prop where
 gd:sf P GL e8 s.k
 fx:∀x∈s.L,sf P GL e8 x.2.2
def oS(P:Õ)(d:Nat->Prop)(a:à->Prop):Prop:=∀f,a f->∀b c,P.funcs[f]?=À b->b.body=À c->kJ P d a c
section
variable{GL:Nat->Prop}{e8:à->Prop}
def aeH{a:ak}(h:kJ P GL e8 wX):bj wX i=À a->kJ P GL e8 a:=by
 induction h generalizing a with
 |qS j b d f=>
  intro e;simp only[bj]at e;split at e
  .rename_i r g;cases e;exact .qS (d g) b
  .exact f e
 |wh k=>
  intro e;simp only[bj]at e;split at e<;>cases e;exact .rY
 |_=>intro e;simp only[bj]at e;cases e
def aeI{id:Nat}:∀{k a:List ś},sf P GL e8 k->cD id k=À a->sf P GL e8 a:=by
 intro k
 induction k with
 |nil=>intro a _ e;simp[cD]at e
 |cons i k c=>
  intro a h e;have b:=λj d=>h j<|ò _ d;cases i with
  |inBlock f=>
   simp only[cD]at e;split at e
   .cases e;exact b
   .exact c b e
  |_=>simp only[cD]at e;exact c b e
def aeJ:∀{k c:List ś},sf P GL e8 k->cE i k=À c->sf P GL e8 c:=by
 intro k
 induction k with
 |nil=>intro c _ e;simp[cE]at e
 |cons a k f=>
  intro c h e;have d:=λj b=>h j<|ò _ b;cases a with
  |inScope m=>
   simp only[cE]at e;have g:kJ P GL e8 m:=by cases h _ (î ..)with|uZ h=>exact h
   split at e
   .rename_i r n;cases e;intro j b;rcases œ.1 b with rfl|b
    .exact .qU (aeH g n)
    .rcases œ.1 b with rfl|b
     .exact .uZ g
     .exact d j b
   .exact f d e
  |_=>simp only[cE]at e;exact f d e
def nJ{i:ś}(h:sf P GL e8 (i::L)):sf P GL e8 L:=λj a=>h j<|ò _ a
def oz{i:ś}(b:Am P GL e8 i)(h:sf P GL e8 L):sf P GL e8 (i::L):=λj a=>by
 rcases œ.1 a with rfl|a
 .exact b
 .exact h j a
def yf{c:ak}{k:List ś}(h:sf P GL e8 (Đ c::k)):kJ P GL e8 c:=by cases h _ (î ..)with|qU h=>exact h
def oT{ops:Array av}{k:List ś}(h:sf P GL e8 (á ops jJ::k)):∀o∈ops,mH P GL e8 o:=by cases h _ (î ..)with|wx _ h=>exact h
def LS.ok(i:oS P GL e8)(k:∀o a u f l w,mH P GL e8 o->(ì (å a) o).run P u=ĥ (ũ f l) w->e8 f){s g:St}(h:LS P s u g w)(ok:kV P GL e8 s):kV P GL e8 g:=by
 let⟨c,d⟩:=ok;cases h with
 |oP=>exact⟨c,d⟩
 |uY=>exact⟨c,d⟩
 |rY=>exact⟨nJ c,d⟩
 |wh=>exact⟨nJ c,d⟩
 |ye=>exact⟨nJ c,d⟩
 |uZ=>exact⟨nJ c,d⟩
 |qS=>
  cases yf c with
  |qS e j=>exact⟨oz (.qU e)<|oz (.qU j)<|nJ c,d⟩
 |@tq _ _ _ _ _ _ _ _ b _=>
  cases yf c with
  |tq _ e j=>exact⟨oz (.qU (by cases b<;>simp[e,j]))<|nJ c,d⟩
 |qT=>
  cases yf c with
  |qT _ h=>exact⟨oz (.qU h)<|oz (.ye _)<|nJ c,d⟩
 |wi=>
  cases yf c with
  |wi h=>exact⟨oz (.qU h)<|oz (.wj h)<|nJ c,d⟩
 |wj=>
  cases c _ (î ..)with
  |wj h=>exact⟨oz (.qU h) c,d⟩
 |wm=>
  cases yf c with
  |wm h=>exact⟨oz (.qU h)<|oz (.uZ h)<|nJ c,d⟩
 |wo h=>exact⟨aeI (nJ c) h,d⟩
 |wq h=>exact⟨aeJ (nJ c) h,d⟩
 |tu=>
  cases yf c with
  |tu _ _ h=>exact⟨oz (.wx _ h)<|nJ c,d⟩
 |Ak=>
  cases yf c with
  |tu _ _ h=>exact⟨oz (.wx _ h)<|nJ c,d⟩
 |FC=>exact⟨nJ c,d⟩
 |CK=>exact⟨oz (.wx _ (oT c))<|nJ c,d⟩
 |nH=>exact⟨oz (.wx _ (oT c))<|nJ c,d⟩
 |Al=>exact⟨oz (.wx _ (oT c))<|nJ c,d⟩
 |rZ m _ n p q=>
  refine⟨λj r=> ?_,λx e=> ?_⟩
  .have:=ū.1 r;rw[this];exact .qU (i _ (k _ _ _ _ _ _ (oT c _<|Û m) n) _ _ p q)
  .rcases œ.1 e with rfl|e
   .exact c
   .exact d x e
 |CL=>exact⟨oz (.wx _ (oT c))<|nJ c,d⟩
 |wv=>
  have j:=d _<|î ..;exact⟨oz (.wx _ (oT j))<|nJ j,λx e=>d x<|ò _ e⟩
end
structure I7(Y:ft)(x y:FuncId×Array Value×List ś):Prop where
 f:x.1=y.1
 t:fR Y x.2.1 y.2.1
 k:x.2.2=y.2.2
inductive CM(Y:ft):List (FuncId×Array Value×List ś)->List (FuncId×Array Value×List ś)->Prop
 |oP:CM Y [] []
 |vW {x y:FuncId×Array Value×List ś} {L L':List (FuncId×Array Value×List ś)} (h:I7 Y x y) (hs:CM Y L L'):CM Y (x::L) (y::L')
structure I8(Y:ft)(s s':St):Prop where
 f:s.f=s'.f
 t:fR Y s.t s'.t
 k:s.k=s'.k
 uY:s.C=s'.C
 L:CM Y s.L s'.L
def I7.fN{Y a:ft}(h:Y.r a){x y:FuncId×Array Value×List ś}(r:I7 Y x y):I7 a x y:=⟨r.f,r.t.I h,r.k⟩
def I9{Y b:ft}(h:Y.r b){L c:List (FuncId×Array Value×List ś)}(r:CM Y L c):CM b L c:=by
 induction r with
 |oP=>exact .oP
 |vW a _ d=>exact .vW (a.fN h) d
section
variable{Y:ft}{j:Nat->Prop}{p:à->Prop}
def aeK(a:∀g,X g->Y g g)(h:ml X qQ):U6 Y qQ:=by
 cases h with
 |V5 t=>trivial
 |V7 h=>exact h.jA Y
 |V8 h=>exact a _ h
 |V9 f=>trivial
def wy(b:∀g,X g->Y g g)(h:fR Y d q)(c:ml X qQ):fl Y (å ⟨d,[]⟩ qQ) (å ⟨q,[]⟩ qQ):= adN (a:=⟨d,[]⟩) (a':=⟨q,[]⟩) h<|aeK b c
def oR.r{b:Array Â}(h:fR Y q b)(d:Option Tmp)(c:fl Y v x):fR Y (oR q d v) (oR b d x):= adP (a:=⟨q,[]⟩) (a':=⟨b,[]⟩) h d c
def Wc(n:Nat):fR Y (ĺ n ľ) (ĺ n ľ):=⟨U,λi a b=>by simp only[Array.getElem_replicate];exact Fu Y⟩
def aeL(B:j5 P xX o.op)(i:(ì xX o).run P u=ĥ (ũ F d) W):∃q l,o.op=Ω {callee:=cj<|aO F,args:=q,argTypes:=l}:=by
 have n:∀{m:ē Â} {x:Ο} {k p:Æ},(m>>=λv=>pure (ï v):ē Ο).run P k=ĥ x p->∃v,x=ï v:=by
  intro m x k p e;rw[Ä]at e;cases j:m.run P k with
  |ok a w=>rw[j]at e;cases e;exact⟨a,U⟩
  |halt z w=>rw[j]at e;cases e
 have C:∀{m:ē Unit} {x:Ο} {k p:Æ},(m>>=λ_=>pure aH:ē Ο).run P k=ĥ x p->x=aH:=by
  intro m x k p e;rw[Ä]at e;cases j:m.run P k with
  |ok a w=>rw[j]at e;cases e;rfl
  |halt z w=>rw[j]at e;cases e
 let⟨E,s,G,H,I,guard⟩:=o;simp only at B|-;unfold ì at i;simp only[]at i;cases B with
 |Ah x=>cases i
 |Fo x=>cases i
 |vY c a b=>
  rw[Ä]at i;cases j:(bW<|xX c).run P u with
  |ok a w=>rw[j]at i;cases i
  |halt z w=>rw[j]at i;cases i
 |ja t a x=>exact absurd (C i) fj
 |Fp x=>
  simp only[]at i;split at i;all_goals first
   |(cases i;done)
   |exact absurd i<|qO _ _ _ _
   |(
    split at i;all_goals first
     |(cases i;done)
     |exact absurd i<|qO _ _ _ _
     |(
      rw[Ä,ă]at i;simp only[È]at i;rw[Ä]at i;revert i;generalize ã P (aR _ _ _ _) u=z;intro i;cases z with
      |halt z w=>cases i
      |ok a w=>
       simp only[È]at i;split at i
       .rw[Ä]at i;cases i
       .cases i))
 |Fq x l=>simp only[ù,č,Ē,pure_bind,Ø,â,ä]at i;let⟨v,e⟩:=n i;cases e
 |Fs x l=>simp only[ù,č,Ē,pure_bind,Ø,â,ä]at i;let⟨v,e⟩:=n i;cases e
 |Ft x y l=>simp only[ù,č,Ē,pure_bind,Ø,â,ä]at i;let⟨v,e⟩:=n i;cases e
 |s9 x y b c h=>simp only[ù,č,Ē,pure_bind,Ø,â,ä]at i;let⟨v,e⟩:=n i;cases e
 |jF g q l b h=>
  let⟨J,c,r,D⟩:=h;simp only[ù,b,İ,č,pure_bind,Ď,ď,ĵ]at i;rw[Ä,ă]at i;simp only[È,c,r,D,Å,if_false]at i;cases i;exact⟨q,l,U⟩
 |CI s t x y r h=>
  rw[Ä]at i;cases j:ã P (ŷ s t x y (xX x) (xX y)>>=λ_=>Ũ s t (xX x)<|xX y) u with
  |ok a w=>rw[j]at i;cases i
  |halt z w=>rw[j]at i;cases i
 |_=>let⟨v,e⟩:=n i;cases e
theorem Wg(j:Func)(h:fR Y d q):fG P fl Y (Ī j d) (Ī j q):=by
 have k:∀(f:ft),Y.r f->∀n,fl f (d.getD n ľ) (q.getD n ľ):=by intro f a n;simp only[ĩ];rcases(h.I a).S n with⟨b,e⟩|⟨v,u,b,e,m⟩;all_goals grind [Fu]
 unfold Ī;refine fE (V:=fR) ?_ ?_
 .rw[Ĕ,Ĕ];have w:∀(l:List ResultVar) (c:ft),Y.r c->fG P (λf (a o:List Â)=>fR f a.toArray o.toArray) c (l.mapM fun|ResultVar.tmp n=>pure (d.getD n ľ)|ResultVar.cell a e=>do ae e (<-bX (d.getD a ľ))) (l.mapM fun|ResultVar.tmp n=>pure (q.getD n ľ)|ResultVar.cell a e=>do ae e (<-bX (q.getD a ľ))):=by
   intro l
   induction l with
   |nil=>intro c _;simp only[cS];exact .fC (fR.N _)
   |cons r l x=>
    intro c g;simp only[ν];refine fE (V:=fl) ?_ ?_
    .cases r with
     |tmp n=>exact .fC (k c g n)
     |cell a e=>
      apply fE (UR<|k c g a);exact λp b s _ i=>UN i e
    .intro p v u e m;apply fE (x p<|ft.I g e);intro z s i y b;refine .fC ?_;have:=(fR.M<|m.fN y).s9 b;simpa using this
  exact fG.lU (w _ Y<|ft.M _) λf a o _ e=> .fC e
 .intro c s i _ b;refine .fC ?_;by_cases e:s.size=1
  .have a:i.size=1:=by rwa[<-b.r]
   rw[dif_pos e,dif_pos a];exact b.C 0 _ _
  .have a:¬i.size=1:=by rwa[<-b.r]
   rw[dif_neg e,dif_neg a];exact .nD b.r b.C
end
section
variable{Y:ft}{d:Nat->Prop}{l:à->Prop}
def iW(P:Õ)(Y:ft)(d:Nat->Prop)(main:Bool)(cs:List Ę)(h:St)(u w:Æ)(k:St)(c:Æ):Prop:=
 ∃(a:ft) (f:St) (b:Æ) (g:Array ý),Ù P main (h.r cs) w=aS (f.r cs) b g/\I8 a k f/\Y.r a/\(∀i j,a i j->Y i j\/(u.heap.size<=i/\w.heap.size<=j))/\jf a d c b/\nF Y d w b/\(∀e∈g,Ad a d e)/\u.heap.size<=c.heap.size
def iW.r{main:Bool}{cs:List Ę}{a b s1':St}(c:jf Y d u w)(h:Ù P main (a.r cs) w=aS (s1'.r cs) w #[])(f:I8 Y b s1'):iW P Y d main cs a u w b u:= ⟨Y,s1',w,#[],h,f,ft.M _,λ_ _ h=>Ç h,c,nF.fU _ _ w,λe g=>absurd g fj,ß _⟩
def Ja{α:Type}{m:ē α}{x:α}(h:m.runT P w #[]=(ĥ x u,#[]++V)):m.run P w=ĥ x u/\m.events P w #[]=V:=by simp_all
def FD{main:Bool}{k:List ś}{c:Ę}{cs:List Ę}{es:Array ý}(a:P.funcs[F]?=À s)(b:(Ī s q).runT P w #[]=(ĥ v u,es)): Ù P main (G {fm F q k with mode:=.returning}<|c::cs) w=aS (G (c.finish v) cs) u (seen P F es):=by simp[G,Ù,du,doReturn,fm,Frame.at,base,a,b,Ź,-ź]
def LS.mI(hz:nG P)(hb:Y.C=P.globals.size)(hG:∀g,X g->Y g g){s s1 s':St}(h:LS P s u s1 W)(hs:I8 Y s s')(ok:kV P X l s)(n:jf Y d u w)(hl:∀j,d j->j<w.heap.size)(Q:CG u W)(main:Bool)(cs:List Ę): iW P Y d main cs s' u w s1 W:=by
 let⟨f',r,k',ret',p⟩:=s';let⟨S,m,T,e3,q⟩:=hs;simp only at S T e3 m q;subst S T e3;cases h with
 |oP=>exact .r (s1':=⟨_,r,_,É,p⟩) n (by simp[St.r,fm,base,G,Ù,Ì,Frame.at]) ⟨U,m,U,U,q⟩
 |uY=>exact .r (s1':=⟨_,r,_,É,p⟩) n (by simp[St.r,fm,base,G,Ù,Ì,Frame.at]) ⟨U,m,U,U,q⟩
 |rY=>exact .r (s1':=⟨_,r,_,Ã,p⟩) n (by simp[St.r,fm,base,G,Ù,Ì,Frame.at]) ⟨U,m,U,U,q⟩
 |wh=>exact .r (s1':=⟨_,r,_,Ã,p⟩) n (by simp[St.r,fm,base,G,Ù,Ì,Frame.at]) ⟨U,m,U,U,q⟩
 |ye=>exact .r (s1':=⟨_,r,_,Ã,p⟩) n (by simp[St.r,fm,base,G,Ù,Ì,Frame.at]) ⟨U,m,U,U,q⟩
 |uZ=>exact .r (s1':=⟨_,r,_,Ã,p⟩) n (by simp[St.r,fm,base,G,Ù,Ì,Frame.at]) ⟨U,m,U,U,q⟩
 |qS=>exact .r (s1':=⟨_,r,_,Ã,p⟩) n (by simp[St.r,fm,base,G,Ù,Ì,Frame.at]) ⟨U,m,U,U,q⟩
 |@tq _ _ _ _ _ c _ _ b hc'=>
  have V:=wy hG m (by cases yf ok.gd with|tq Q _ _=>exact Q);rw[hc']at V;have e:å ⟨r,[]⟩ c=Ľ b:=by generalize å ⟨r,[]⟩ c=v' at V;cases V;rfl
  exact .r (s1':=⟨_,r,_,Ã,p⟩) n (cF e) ⟨U,m,U,U,q⟩
 |qT=>exact .r (s1':=⟨_,r,_,Ã,p⟩) n (by simp[St.r,fm,base,G,Ù,Ì,Frame.at]) ⟨U,m,U,U,q⟩
 |wi=>exact .r (s1':=⟨_,r,_,Ã,p⟩) n (by simp[St.r,fm,base,G,Ù,Ì,Frame.at]) ⟨U,m,U,U,q⟩
 |wj=>exact .r (s1':=⟨_,r,_,Ã,p⟩) n (by simp[St.r,fm,base,G,Ù,Ì,Frame.at]) ⟨U,m,U,U,q⟩
 |wm=>exact .r (s1':=⟨_,r,_,Ã,p⟩) n (by simp[St.r,fm,base,G,Ù,Ì,Frame.at]) ⟨U,m,U,U,q⟩
 |wo B=>exact .r (s1':=⟨_,r,_,Ã,p⟩) n (by simp[St.r,fm,base,G,Ù,Ì,Frame.at,B]) ⟨U,m,U,U,q⟩
 |wq B=>exact .r (s1':=⟨_,r,_,Ã,p⟩) n (by simp[St.r,fm,base,G,Ù,Ì,Frame.at,B]) ⟨U,m,U,U,q⟩
 |tu=>exact .r (s1':=⟨_,r,_,Ã,p⟩) n (by simp[St.r,fm,base,G,Ù,Ì,Frame.at]) ⟨U,m,U,U,q⟩
 |@Ak f t k L _ id ops=>
  refine⟨Y,⟨f,r,á ops (bM (P.follows .mixedOrders) ops<|w.tape w.drawn<|.order f id)::k,Ã,p⟩,{w with drawn:=w.drawn+1},#[],Ż,⟨U,m,?_,U,q⟩,ft.M _,λ_ _ h=>Ç h,⟨n.S,by simp[n.N],n.C,n.I,n.M,n.r⟩,⟨ß _,U,U,U,λ_ _ _=>rfl,λ_ _ _=>rfl⟩,λe B=>absurd B fj,ß _⟩;simp only[n.S,n.N]
 |FC=>exact .r (s1':=⟨_,r,_,Ã,p⟩) n (by simp[St.r,fm,base,G,Ù,Ì,Frame.at]) ⟨U,m,U,U,q⟩
 |@CK f t k L _ ops i rest o ho hw=>
  rw[IW _ _ m]at hw;have:=υ (P:=P) (main:=main) (b:=base f) (a:=⟨r,[]⟩) (k:=k) (cs:=p.map (λx=>fm x.1 x.2.1 x.2.2)++cs) (w:=w) (rest:=rest) ho hw;rw[se]at this;exact .r (s1':=⟨f,oR r o.dst ľ,á ops rest::k,Ã,p⟩) n this ⟨U,oR.r m _<|Fu Y,U,U,q⟩
 |@nH f t k L _ ops i rest o v _ ho hw hr=>
  rw[IW _ _ m]at hw;let⟨C,x',E,es,z,F,D,H,I,J,K,M⟩:=(oT ok.gd _<|Û ho).mI hz hb hG m n hl hr Q;let⟨N,O⟩:=Ja D;cases H with
  |nH V=>
   have:=bA (main:=main) (b:=base f) (k:=k) (cs:=p.map (λx=>fm x.1 x.2.1 x.2.2)++cs) (rest:=rest) ho hw (by simp[base]) N;rw[se]at this;rename_i v';exact⟨C,⟨f,oR r o.dst v',á ops rest::k,Ã,p⟩,E,_,this,⟨U,oR.r (m.I z) _ V,U,U,I9 z q⟩,z,F,I,J,λe B=>K e (by have:=cG B;rwa[O]at this),M⟩
 |@Al f t k L _ ops i rest o _ ho hw hr=>
  rw[IW _ _ m]at hw;let⟨C,x',E,es,z,F,D,H,I,J,K,M⟩:=(oT ok.gd _<|Û ho).mI hz hb hG m n hl hr Q;let⟨N,O⟩:=Ja D;cases H with
  |rY=>
   have:=cH (main:=main) (b:=base f) (k:=k) (cs:=p.map (λx=>fm x.1 x.2.1 x.2.2)++cs) (rest:=rest) ho hw (by simp[base]) N;rw[se]at this;exact⟨C,⟨f,oR r o.dst ľ,á ops rest::k,Ã,p⟩,E,_,this,⟨U,oR.r (m.I z) _<|Fu C,U,U,I9 z q⟩,z,F,I,J,λe B=>K e (by have:=cG B;rwa[O]at this),M⟩
 |@rZ f t k L _ ops i rest o g args fn c _ ho hw hr hf Jb=>
  rw[IW _ _ m]at hw;let⟨C,x',E,es,z,F,D,H,I,J,K,M⟩:=(oT ok.gd _<|Û ho).mI hz hb hG m n hl hr Q;let⟨N,O⟩:=Ja D;cases H with
  |rZ _ si=>
   have:=bB (main:=main) (b:=base f) (k:=k) (cs:=p.map (λx=>fm x.1 x.2.1 x.2.2)++cs) (rest:=rest) ho hw (by simp[base]) N;rw[cI _ hf Jb]at this;rename_i Wh;refine⟨C,⟨g,Wh++ĺ (fn.ntmps-Wh.size) ľ,[Đ c],Ã,(f,r,á ops (i::rest)::k)::p⟩,E,_,this,⟨U,?_,U,U,.vW ⟨U,m.I z,U⟩ (I9 z q)⟩,z,F,I,J,λe B=>K e (by have:=cG B;rwa[O]at this),M⟩;rw[si.r];exact si.s9<|Wc _
 |@CL f t k L _ ops i rest ho=>exact .r (s1':=⟨f,r,á ops rest::k,Ã,p⟩) n (by simp[St.r,fm,base,G,Ù,Ì,Frame.at,ho,aT]) ⟨U,m,U,U,q⟩
 |@wv f t k L _ g t2' ops i rest k3 v fn _ hf hr=>
  cases q with
  |vW hx q=>
   rename_i y Wi;let⟨g',t2,k2⟩:=y;let⟨S,Jc,T⟩:=hx;simp only at S T Jc;subst S T;let⟨C,v',E,es,z,F,D,H,I,J,K,M⟩:=(Wg fn m).gl n hl hr #[];let⟨N,O⟩:=Ja D;refine⟨C,⟨g,oR t2 ((ops[i]?).bind (·.dst)) v',á ops rest::k3,Ã,Wi⟩,E,seen P f es,?_,⟨U,oR.r (Jc.I z) _ H,U,U,I9 z q⟩,z,F,I,J,λe B=>K e<|mem_seen B,M⟩;have An:=ε (base g) ⟨t2,[]⟩ ops i rest k3 v';rw[se]at An;have mY:=FD (main:=main) (k:=k) (c:=fm g t2<|á ops (i::rest)::k3) (cs:=Wi.map (λx=>fm x.1 x.2.1 x.2.2)++cs) hf D;unfold fm at mY;rwa[An,Ď]at mY
end
inductive pF(P:Õ)(kg:Â->Æ->Prop):St->Æ->Prop
 |jG {f:à} {t:Array Â} {k:List ś} {u:Æ} {fn:Func} {v:Â} (hf:P.funcs[f]?=À fn) (hr:∀tp d,(Ī fn t).run P {u with tape:=tp,drawn:=d}=ĥ v {u with tape:=tp,drawn:=d}) (hp:kg v u):pF P kg ⟨f,t,k,É,[]⟩ u
 |ju {s:St} {u:Æ} (S:ψ->Nat->St) (U:ψ->Nat->Æ) (h:∀tp d,LS P s {u with tape:=tp,drawn:=d} (S tp d)<|U tp d) (hc:∀tp d,CG u<|U tp d) (ih:∀tp d,pF P kg (S tp d)<|U tp d):pF P kg s u
structure yg(M:Nat->Prop)(w w₁:Æ):Prop where
 r:w.heap.size<=w₁.heap.size
 C:∀j,M j->w₁.heap[j]?=w.heap[j]?
def Je(O b:Nat->Prop)(e:ý):Prop:=
 (∃a:Ú,e.loc=û a/\e.sync=Ã/\(O a.block\/(b a.block/\e.write=Ã)))\/e.loc=ů dc\/∃f,e.loc=ů (.extern f)
structure Jf(Rd O O':Nat->Prop)(w w':Æ)(es:Array ý):Prop where
 r:w.heap.size<=w'.heap.size
 M:∀j,O j->O' j
 I:∀j,O' j->O j\/w.heap.size<=j
 fx:∀j,O' j->j<w'.heap.size
 jO:∀j,j<w.heap.size->¬O j->w'.heap[j]?=w.heap[j]?
 N:w'.os=w.os
 S:w'.output=w.output
 Y:w'.tape=w.tape
 C:∀e∈es,Je O' Rd e
inductive u5(P:Õ)(main:Bool)(Rd:Nat->Prop)(Stop:(Nat->Prop)->Ó->Æ->Prop):(Nat->Prop)->Ó->Æ->Prop
 |fB {O:Nat->Prop} {g:Ó} {w:Æ} (h:∀w₁,yg (λj=>O j\/Rd j) w w₁->Stop O g w₁):u5 P main Rd Stop O g w
 |ju {O:Nat->Prop} {g:Ó} {w:Æ} (G':Æ->Ó) (W':Æ->Æ) (E':Æ->Array ý) (O':Æ->Nat->Prop) (iI:g.status=Ð)
  (h:∀w₁,yg (λj=>O j\/Rd j) w w₁->Ù P main g w₁=aS (G' w₁) (W' w₁) (E' w₁))
  (hd:∀w₁,yg (λj=>O j\/Rd j) w w₁->Jf Rd O (O' w₁) w₁ (W' w₁) (E' w₁))
  (ih:∀w₁,yg (λj=>O j\/Rd j) w w₁->u5 P main Rd Stop (O' w₁) (G' w₁) (W' w₁)):u5 P main Rd Stop O g w
instance:Nonempty ft:=⟨⟨λ_ _=>False,0⟩⟩
instance:Nonempty St:=⟨⟨0,#[],[],Ã,[]⟩⟩
instance:Nonempty (Goroutine×World×Array Event×(Nat->Prop)):=⟨(default,default,#[],λ_=>False)⟩
section
variable{Y:ft}{b Rd:Nat->Prop}{l:à->Prop}{main:Bool}{Stop:(Nat->Prop)->Ó->Æ->Prop}
def u5.mk(i:g.status=Ð) (h:∀a,yg (λj=>X j\/Rd j) w a->∃c b d e,Ù P main g a=aS c b d/\Jf Rd X e a b d/\u5 P main Rd Stop e c b):u5 P main Rd Stop X g w:=by
 let p:=λ(a:Æ) (x:Goroutine×World×Array Event×(Nat->Prop))=>Ù P main g a=aS x.1 x.2.1 x.2.2.1/\Jf Rd X x.2.2.2 a x.2.1 x.2.2.1/\u5 P main Rd Stop x.2.2.2 x.1 x.2.1
 have f:∀a,yg (λj=>X j\/Rd j) w a->p a (Classical.epsilon<|p a):=λa r=>Classical.epsilon_spec (let⟨c,b,d,e,h⟩:=h a r;⟨(c,b,d,e),h⟩);exact .ju (λa=>(Classical.epsilon<|p a).1) (λa=>(Classical.epsilon<|p a).2.1) (λa=>(Classical.epsilon<|p a).2.2.1) (λa=>(Classical.epsilon<|p a).2.2.2) i (λa r=>(f a r).1) (λa r=>(f a r).2.1) λa r=>(f a r).2.2
def qV(Y:ft)(b:Nat->Prop)(u w:Æ):Prop:=jf Y b {u with tape:=w.tape,drawn:=w.drawn} w
def fp(Y:ft)(b:Nat->Prop)(j:Nat):Prop:=(∃i,Y i j)/\¬b j
theorem qV.jW{w₁:Æ}(h:qV Y b u w)(p:∀i j,Y i j->b j->Rd j)(r:yg (λj=>fp Y b j\/Rd j) w w₁):qV Y b u w₁:=by
 refine⟨U,U,h.C,h.I,õ h.M r.r,λi j a=> ?_⟩;let⟨c,d,e,f,g,k,l,m,n,o⟩:=h.r i j a;refine⟨c,d,e,f,g,k,?_,m,n,o⟩;rw[r.C j ?_]
 .exact l
 .by_cases s:b j
  .grind
  .exact Ç ⟨⟨i,a⟩,s⟩
def jf.to0(h:jf Y b u w):qV Y b u w:=⟨U,U,h.C,h.I,h.M,h.r⟩
def jf.u6(h:jf Y b u w)(tp:ψ)(d:Nat):qV Y b {u with tape:=tp,drawn:=d} w:=⟨U,U,h.C,h.I,h.M,h.r⟩
theorem aeM{c:ft}(k:∀i j,c i j->b j->Rd j){e:ý}(h:Ad c b e):Je (fp c b) Rd e:=by
 rcases h with⟨a,i,d,f,g,l⟩|h|h
 .by_cases s:b a.block
  .refine Ç ⟨a,d,g,Î ⟨k _ _ f s,?_⟩⟩;grind
  .exact Ç ⟨a,d,g,Ç ⟨⟨i,f⟩,s⟩⟩
 .exact Î<|Ç h
 .exact Î<|Î h
def Wj{c:ft}(f:Y.r c)(g:∀i j,c i j->Y i j\/(u.heap.size<=i/\w.heap.size<=j))(k:jf c b W jX)(d:nF Y b w jX)(l:∀e∈V,Ad c b e)(m:∀i j,c i j->b j->Rd j): Jf Rd (fp Y b) (fp c b) w jX V where
 r:=d.r;M j h:=⟨let⟨i,a⟩:=h.1;⟨i,f.1 _ _ a⟩,h.2⟩;I j h:=by
  let⟨⟨i,a⟩,s⟩:=h;rcases g i j a with x|x
  .exact Ç ⟨⟨i,x⟩,s⟩
  .exact Î x.2
 fx j h:=by let⟨⟨i,a⟩,_⟩:=h;let⟨_,_,_,_,_,_,x,_⟩:=k.r i j a;exact(Ë.1 x).1
 jO j hj hn:=by
  by_cases x:∃i,Y i j
  .by_cases s:b j
   .exact d.N j s hj
   .exact absurd ⟨x,s⟩ hn
  .exact d.C j hj λi a=>x ⟨i,a⟩
 N:=d.I;S:=d.M;Y:=d.S;C e he:=aeM m<|l e he
def FE(Y:ft)(b:Nat->Prop)(f:Â->Æ->Prop)(c:Ę)(h:List Ę)(O:Nat->Prop)(g:Ó)(w:Æ):Prop:=
 ∃(a:ft) (d:Æ) (v e:Â),Y.r a/\O=fp a b/\qV a b d w/\fl a v e/\f v d/\g=G (c.finish e) h
def pF.ND(hz:nG P)(hP:oS P X l){s:St}(h:pF P vQ s u):∀{Y FF:ft} {s':St} {w:Æ},FF.r Y->Y.C=P.globals.size->(∀g,X g->Y g g)->I8 Y s s'->kV P X l s->qV Y b u w->(∀j,b j->j<w.heap.size)->(∀i j,Y i j->b j->Rd j)->∀(c:Ę) (cs:List Ę),u5 P main Rd (FE FF b vQ c cs) (fp Y b) (s'.r<|c::cs) w:=by
 have hE:∀o a u f F G,mH P X l o->(ì (å a) o).run P u=ĥ (ũ f F) G->l f:=by exact λo a u f F G d H=>d.C a u f F G H
 induction h with
 |@jG f t k u fn v hf H hp=>
  intro Y FF s' w I J K L M N O n c cs;let⟨f',t',k',ret',L'⟩:=s';let⟨V,W,e2,e3,hL⟩:=L;simp only at V e2 e3 W hL;subst V e2 e3;cases hL;refine .mk rfl λp r=> ?_;have d:=λj s=>Ô (O j s) r.r;let⟨z,v',w',es,B,C,m,D,q,E,Q,h8⟩:=(Wg fn W).gl (N.jW n r) d (H _ _) #[];have y:=λi j T s=>(C i j T).elim (λx=>n i j x s) λx=>absurd (d j s) Z;refine⟨_,w',_,fp z b,FD hf m,Wj B C q E (λe he=>Q e (by have:=mem_seen he;simpa using this)) y,.fB λAo e=>⟨z,u,v,v',ft.I I B,rfl,qV.jW (q.u6 _ _) y e,D,hp,rfl⟩⟩
 |@ju s u S U h hc _ ih=>
  intro Y FF s' w I J K L M N O n c cs;refine .mk rfl λp r=> ?_;have d:=λj s=>Ô (O j s) r.r;let⟨z,H,e,es,B,C,m,D,q,E,Q,h8⟩:=(h p.tape p.drawn).mI hz J K L M (N.jW n r) d (hc p.tape p.drawn) main<|c::cs;have y:=λi j T s=>(D i j T).elim (λx=>n i j x s) λx=>absurd (d j s) Z;refine⟨_,e,es,fp z b,B,Wj m D q E Q y,ih _ _ (ft.I I m) (m.2.2.trans J) (λg x=>m.1 _ _<|K g x) C ((h _ _).ok hP hE M) q.to0 (λj s=>Ô (d j s) E.r) y c cs⟩
end
def pG:Ę:={(default:Ę)with fn:=0,todo:=[Đ<|dt ""],defers:=[{target:=.nil,args:=#[]}],mode:=.run,kind:=.normal}
def St.I(s:St):Ę:=if s.C then{fm s.f s.t s.k with mode:=.returning}else fm s.f s.t s.k
def fx(L:List (FuncId×Array Value×List ś)):List Ę:=L.map (λx=>fm x.1 x.2.1 x.2.2)++[pG]
def LM(s:St)(u:Æ):bR:=aU s.I (fx s.L) u
section
variable{GL:Nat->Prop}{e8:à->Prop}{Q:Â->Æ->Prop}
def CN{cs:List Ę}{a:Ę}{es:Array ý}(h:Ù P É (G f cs) w=aS (G a qX) u es):dQ P (aU f cs w)=ň (aU a qX u):= step_lone_go<|by show(Ù P É (G f cs) w).bare=_;rw[h];rfl
def Jg{fr:Ę}{cs:List Ę}{o:Outcome}{es:Array ý}(h:Ù P É (G fr cs) w=eT o u es):dQ P (aU fr cs w)=.ended o u:= step_lone_ended<|by show(Ù P É (G fr cs) w).bare=_;rw[h];rfl
def mJ(P:Õ)(Q:Â->Æ->Prop)(n:Nat)(m:bR):Prop:=∃b v a,dw P n m=ň (aU b [pG] a)/\b.leaving P a (.returned v)/\Q v a
def mJ.r{m a:bR}(h:mJ P Q (n+1) m)(b:dQ P m=ň a):mJ P Q n a:=by let⟨c,v,d,e,f⟩:=h;exact⟨c,v,d,by simpa only[dw,b]using e,f⟩
def mJ.M{m:bR}{o:Outcome}(h:mJ P Q (n+1) m)(b:dQ P m=.ended o w):False:=by let⟨c,v,d,a,e⟩:=h;simp only[dw,b]at a;cases a
theorem Wk{fr:Ę}{cs:List Ę}(h:aU fr cs w=aU f qX u):fr=f/\cs=qX/\w=u:=by simp only[aU,Machine.mk.injEq,Array.mk.injEq,List.cons.injEq,Goroutine.mk.injEq]at h;grind
theorem mJ.C{cs:List Ę}(h:mJ P Q 0 (aU f cs w)):cs=[pG]/\∃v,f.leaving P w (.returned v)/\Q v w:=by let⟨b,v,c,a,d,e⟩:=h;simp only[dw,Stepped.next.injEq]at a;grind [Wk]
def aeN(h:mJ P Q n (aU pG [] u)):False:=by
 cases n with
 |zero=>let⟨a,_⟩:=h.C;cases a
 |succ n=>exact h.M<|Jg (es:=#[])<|by simp[G,Ù,Ì,pG];exact⟨U,U⟩
def aeO{a:List ef}(h:mJ P Q n (aU (pG.raise a) [] u)):False:=by
 cases n with
 |zero=>let⟨b,_⟩:=h.C;cases b
 |succ n=>exact h.M<|Jg (es:=#[])<|by simp[G,Ù,pG,Ŗ,du,callDeferred];exact⟨U,U⟩
def aeP(b:List ef):∀(L:List (FuncId×Array Value×List ś)) (f:à) (t:Array Â) (k:List ś) (u:Æ) (n:Nat),(∃a,P.funcs[f]?=À a)->(∀x∈L,∃a,P.funcs[x.1]?=À a)->¬mJ P Q n (aU ((fm f t k).raise b) (fx L) u):=by
 intro L
 induction L with
 |nil=>
  intro f t k u n ⟨a,c⟩ _ h;cases n with
  |zero=>let⟨_,v,y,_⟩:=h.C;exact absurd y.1<|by simp[Ŗ,fm,Frame.at]
  |succ n=>
   have d:dQ P (aU ((fm f t k).raise b) (fx []) u)=ň (aU (pG.raise b) [] u):=CN (es:=#[]) (by simp[G,Ù,fm,base,Frame.at,Ŗ,du,cV,c,fx]);exact aeO<|h.r d
 |cons x L e=>
  intro f t k u n ⟨a,c⟩ d h;cases n with
  |zero=>let⟨_,v,y,_⟩:=h.C;exact absurd y.1<|by simp[Ŗ,fm,Frame.at]
  |succ n=>
   exact e x.1 x.2.1 x.2.2 u n (d x<|î ..) (λy v=>d y<|ò _ v)<|h.r<|CN (es:=#[])<|by simp[G,Ù,fm,base,Frame.at,Ŗ,du,cV,c,fx]
structure Ok(P:Õ)(GL:Nat->Prop)(e8:à->Prop)(s:St):Prop where
 r:kV P GL e8 s
 I:e8 s.f
 C:∀x∈s.L,e8 x.1/\∃ops i rest k,x.2.2=á ops (i::rest)::k
def tw(P:Õ)(e8:à->Prop):Prop:=∀f,e8 f->∃a c,P.funcs[f]?=À a/\a.body=À c
theorem NG{t:Array Â}:fD P (Ī s t):=by unfold Ī;grind [gp,Vy,gG,Vp,Vk]
def aeQ(k:j5 P xX o.op){n:Ο}(d:(ì xX o).run P u=ĥ n W):(∃v,n=ï v)\/n=aH\/∃f c,n=ũ f c:=by
 have i:∀{m:ē Â} {x:Ο} {j l:Æ},(m>>=λv=>pure (ï v):ē Ο).run P j=ĥ x l->∃v,x=ï v:=by
  intro m x j l e;rw[Ä]at e;cases g:m.run P j with
  |ok a w=>rw[g]at e;cases e;exact⟨a,U⟩
  |halt z w=>rw[g]at e;cases e
 let⟨p,e,q,s,B,guard⟩:=o;simp only at k;unfold ì at d;simp only[]at d;cases k with
 |Ah x=>cases d;exact Ç ⟨_,U⟩
 |Fo x=>cases d;exact Ç ⟨_,U⟩
 |vY c a b=>
  rw[Ä]at d;cases g:(bW<|xX c).run P u with
  |ok a w=>rw[g]at d;cases d;exact Ç ⟨_,U⟩
  |halt z w=>rw[g]at d;cases d
 |ja t a x=>
  rw[Ä]at d;cases g:(ĳ t (xX a)<|xX x).run P u with
  |ok a w=>rw[g]at d;cases d;exact Î<|Ç U
  |halt z w=>rw[g]at d;cases d
 |Fp x=>
  simp only[]at d;split at d;all_goals first
   |(cases d;exact Ç ⟨_,U⟩)
   |exact absurd d<|qO _ _ _ _
   |(
    split at d;all_goals first
     |(cases d;exact Ç ⟨_,U⟩)
     |exact absurd d<|qO _ _ _ _
     |(
      rw[Ä,ă]at d;simp only[È]at d;rw[Ä]at d;revert d;generalize ã P (aR _ _ _ _) u=z;intro d;cases z with
      |halt z w=>cases d
      |ok a w=>
       simp only[È]at d;split at d
       .rw[Ä]at d;cases d
       .cases d;exact Ç ⟨_,U⟩))
 |Fq x a=>simp only[ù,č,Ē,pure_bind,Ø,â,ä]at d;exact Ç<|i d
 |Fs x a=>simp only[ù,č,Ē,pure_bind,Ø,â,ä]at d;exact Ç<|i d
 |Ft x y a=>simp only[ù,č,Ē,pure_bind,Ø,â,ä]at d;exact Ç<|i d
 |s9 x y b g h=>simp only[ù,č,Ē,pure_bind,Ø,â,ä]at d;exact Ç<|i d
 |jF g C a b h=>
  let⟨D,r,w,z⟩:=h;simp only[ù,b,İ,č,pure_bind,Ď,ď,ĵ]at d;rw[Ä,ă]at d;simp only[È,r,w,z,Å,if_false]at d;cases d;exact Î<|Î ⟨_,_,U⟩
 |CI e t x y r h=>exact Ç<|i d
 |_=>exact Ç<|i d
def mJ.I(_hP:oS P GL e8)(hF:tw P e8){n:Nat}{s:St}{u:Æ}(ok:Ok P GL e8 s)(hu:qi u)(h:mJ P Q n (LM s u)): (n=0/\s.C=É/\s.L=[]/\∃fn v,P.funcs[s.f]?=À fn/\(Ī fn s.t).run P u=ĥ v u/\Q v u)\/∃m s' u',n=m+1/\LS P s u s' u'/\mJ P Q m (LM s' u'):=by
 let⟨f,t,k,ret,L⟩:=s;let⟨⟨top,lw⟩,fs,ls⟩:=ok;simp only at top lw fs ls;let⟨fn,c,hfn,hbody⟩:=hF f fs;cases n with
 |zero=>
  let⟨h1,v,h2,h3⟩:=h.C;have hL:L=[]:=by simp only[fx]at h1;simp_all
  subst hL;let⟨m1,_,_,fn',m4,m5⟩:=h2;have aeR:ret=É:=by
   cases ret with
   |true=>rfl
   |false=>simp[St.I,fm,Frame.at]at m1
  subst aeR;exact Ç ⟨U,U,U,fn',v,m4,m5,h3⟩
 |succ n=>
  have go:∀{s':St} {u':Æ},LS P ⟨f,t,k,ret,L⟩ u s' u'->(∃es,Ù P É ((⟨f,t,k,ret,L⟩:St).r [pG]) u=aS (s'.r [pG]) u' es)->(n+1=0/\ret=É/\L=[]/\∃fn v,P.funcs[f]?=À fn/\(Ī fn t).run P u=ĥ v u/\Q v u)\/∃m s' u',n+1=m+1/\LS P ⟨f,t,k,ret,L⟩ u s' u'/\mJ P Q m (LM s' u'):=by intro s' u' hl ⟨es,he⟩;exact Î ⟨n,s',u',U,hl,h.r<|CN he⟩
  have bad:(∃o w es,Ù P É ((⟨f,t,k,ret,L⟩:St).r [pG]) u=eT o w es)->False:=λ⟨_,_,_,he⟩=>h.M<|Jg he;cases ret with
  |true=>
   cases hr:(Ī fn t).runT P u #[]with
   |mk r es=>
    cases r with
    |halt z w=>
     refine absurd ?_ id;cases z<;>exact bad ⟨_,_,_,by simp[St.r,fm,base,G,Ù,du,Frame.at,hfn,hr,Ź,-ź];exact⟨U,U,U⟩⟩
    |ok v u'=>
     cases L with
     |nil=>
      exact absurd (h.r<|CN<|FD hfn hr) aeN
     |cons x L=>
      let⟨g,t',k'⟩:=x;let⟨_,ops,i,rest,k2,e⟩:=ls _<|î ..;simp only at e;subst e;refine go (.wv hfn (by rw[<-Ρ P (Ī fn t) u #[],hr])) ⟨seen P f es,?_⟩;have mY:=FD (main:=É) (k:=k) (c:=fm g t'<|á ops (i::rest)::k2) (cs:=fx L) hfn hr;have An:=ε (base g) ⟨t',[]⟩ ops i rest k2 v;rw[se]at An;unfold fm at mY;rwa[An]at mY
  |false=>
   cases k with
   |nil=>exact go .oP ⟨_,by simp[St.r,fm,base,G,Ù,Ì,Frame.at];rfl⟩
   |cons it k=>
    have ti:=top it<|î ..;cases ti with
    |ye id=>exact go .ye ⟨_,by simp[St.r,fm,base,G,Ù,Ì,Frame.at];rfl⟩
    |uZ _=>exact go .uZ ⟨_,by simp[St.r,fm,base,G,Ù,Ì,Frame.at];rfl⟩
    |wj _=>exact go .wj ⟨_,by simp[St.r,fm,base,G,Ù,Ì,Frame.at];rfl⟩
    |qU hc=>
     cases hc with
     |uY=>exact go .uY ⟨_,by simp[St.r,fm,base,G,Ù,Ì,Frame.at];rfl⟩
     |rY=>exact go .rY ⟨_,by simp[St.r,fm,base,G,Ù,Ì,Frame.at];rfl⟩
     |wh l=>exact go .wh ⟨_,by simp[St.r,fm,base,G,Ù,Ì,Frame.at];rfl⟩
     |qS hx hy=>exact go .qS ⟨_,by simp[St.r,fm,base,G,Ù,Ì,Frame.at];rfl⟩
     |qT id _=>exact go .qT ⟨_,by simp[St.r,fm,base,G,Ù,Ì,Frame.at];rfl⟩
     |wi _=>exact go .wi ⟨_,by simp[St.r,fm,base,G,Ù,Ì,Frame.at];rfl⟩
     |wm _=>exact go .wm ⟨_,by simp[St.r,fm,base,G,Ù,Ì,Frame.at];rfl⟩
     |nI Wb=>exact(bad ⟨_,_,_,by simp[St.r,fm,base,G,Ù,Ì,Frame.at];exact⟨U,U,U⟩⟩).elim
     |wo id=>
      cases he:cD id k with
      |none=>exact(bad ⟨_,_,_,by simp[St.r,fm,base,G,Ù,Ì,Frame.at,he];exact⟨U,U,U⟩⟩).elim
      |some k'=>exact go (.wo he) ⟨_,by simp[St.r,fm,base,G,Ù,Ì,Frame.at,he];rfl⟩
     |wq l=>
      cases he:cE l k with
      |none=>exact(bad ⟨_,_,_,by simp[St.r,fm,base,G,Ù,Ì,Frame.at,he];exact⟨U,U,U⟩⟩).elim
      |some k'=>exact go (.wq he) ⟨_,by simp[St.r,fm,base,G,Ù,Ì,Frame.at,he];rfl⟩
     |@tq c x y _ _ _=>
      by_cases hb:∃b,å ⟨t,[]⟩ c=Ľ b
      .let⟨b,hb⟩:=hb;exact go (.tq hb) ⟨_,cF hb⟩
      .refine(bad ⟨.stuck "cond: bool expected" ((fm f t<|Đ (bz c x y)::k).pos P),u,#[],?_⟩).elim;have U5:(fm f t<|Đ (bz c x y)::k).eval c=å ⟨t,[]⟩ c:=Frame.eval_at _ _ _ _;have hx:Ù P É (G (fm f t<|Đ (bz c x y)::k)<|fx L) u=(match(fm f t<|Đ (bz c x y)::k).eval c with
        |Ľ b=>aS (G (fm f t<|Đ (if b then x else y)::k)<|fx L) u
        |_=>eT (.stuck "cond: bool expected" ((fm f t (Đ (bz c x y)::k)).pos P)) u):=by
        simp only[G,Ù,Ì,fm,Frame.at];rfl
       refine hx.trans ?_;rw[U5];generalize å ⟨t,[]⟩ c=v at hb;cases v<;>first|exact absurd ⟨_,U⟩ hb|rfl
     |tu id draw _=>
      cases draw with
      |false=>exact go .tu ⟨_,by simp[St.r,fm,base,G,Ù,Ì,Frame.at];rfl⟩
      |true=>exact go .Ak ⟨_,Ż⟩
    |wx is hO=>
     rename_i ops;cases is with
     |nil=>exact go .FC ⟨_,by simp[St.r,fm,base,G,Ù,Ì,Frame.at];rfl⟩
     |cons i rest=>
      cases ho:ops[i]? with
      |none=>exact go (.CL ho) ⟨_,by simp[St.r,fm,base,G,Ù,Ì,Frame.at,ho,aT];rfl⟩
      |some o=>
       cases hw:Ħ o (ł ops t)with
       |false=>
        have:=υ (P:=P) (main:=É) (b:=base f) (a:=⟨t,[]⟩) (k:=k) (cs:=fx L) (w:=u) (rest:=rest) ho hw;rw[se]at this;exact go (.CK ho hw) ⟨_,this⟩
       |true=>
        have oo:=hO o<|Û ho;have oU:=stepG_oper (P:=P) (main:=É) (b:=base f) (a:=⟨t,[]⟩) (k:=k) (cs:=fx L) (w:=u) (rest:=rest) ho hw;cases hr:(ì (å ⟨t,[]⟩) o).runT P u #[]with
        |mk r es=>
         have oO:(ì (å ⟨t,[]⟩) o).run P u=r:=by rw[<-Ρ P _ u #[],hr]
         cases r with
         |halt z w=>
          have hz:=((oo.r ⟨t,[]⟩).1 u hu).2 z w oO;cases z with
          |panic v=>
           have hs:dQ P (LM ⟨f,t,á ops (i::rest)::k,Ã,L⟩ u)=ň (aU ((fm f t<|á ops (i::rest)::k).raise [{v,recovered:=Ã}]) (fx L) w):= CN (es:=seen P f es) (oU.trans<|by simp[bC,hr,G,Frame.at,fm,base,Ź,Ŗ,-ź]);exact absurd (h.r hs) (aeP _ L f t _ w n ⟨fn,hfn⟩ λx hx=>let⟨fn',_,h1,_⟩:=hF x.1 (ls x hx).1;⟨fn',h1⟩)
          |stuck s=>exact(bad ⟨_,_,_,oU.trans<|by simp[bC,hr,Frame.at,base,Ź,-ź];exact⟨U,U,U⟩⟩).elim
          |unsupported un=>
           cases un<;>first|(cases hz;done)|exact(bad ⟨_,_,_,oU.trans<|by simp[bC,hr,Frame.at,base,Ź,-ź];exact⟨U,U,U⟩⟩).elim
          |_=>cases hz
         |ok nx u'=>
          rcases oo.I ⟨t,[]⟩ u nx u' oO with⟨v,rfl⟩|rfl|⟨g,args,rfl⟩
          .have:=bA (main:=É) (b:=base f) (k:=k) (cs:=fx L) (rest:=rest) ho hw (by simp[base]) oO;rw[se]at this;exact go (.nH ho hw oO) ⟨_,this⟩
          .have:=cH (main:=É) (b:=base f) (k:=k) (cs:=fx L) (rest:=rest) ho hw (by simp[base]) oO;rw[se]at this;exact go (.Al ho hw oO) ⟨_,this⟩
          .let⟨fn',c',h1,h2⟩:=hF g<|oo.C ⟨t,[]⟩ u g args u' oO;have:=bB (main:=É) (b:=base f) (k:=k) (cs:=fx L) (rest:=rest) ho hw (by simp[base]) oO;rw[cI _ h1 h2]at this;exact go (.rZ ho hw oO h1 h2) ⟨_,this⟩
end
def kh(u:Æ):Prop:=∀(i:Nat) (o:Obj),u.heap[i]?=À o->¬yd o
def kh.qi(h:kh u):qi u:=λi _ _ a=>h i _ a trivial
def wz(a:Â->Æ->Prop):Prop:=∀v u T D,a v u->a v ((World.tp u T D))
section
variable{GL:Nat->Prop}{e8:à->Prop}{kg:Â->Æ->Prop}
def LS.ND{s s':St}(h:LS P s u s' W)(cs:List Ę):∃j,Ù P É (s.r cs) u=aS (s'.r cs) W j:=by
 cases h with
 |@tq f t k L _ c x y b hc=>exact⟨_,cF hc⟩
 |wo e=>exact⟨_,by simp[St.r,fm,base,G,Ù,Ì,Frame.at,e];rfl⟩
 |wq e=>exact⟨_,by simp[St.r,fm,base,G,Ù,Ì,Frame.at,e];rfl⟩
 |@Ak f t k L _ id ops=>exact⟨_,Ż⟩
 |@CL f t k L _ ops i rest ho=>exact⟨_,by simp[St.r,fm,base,G,Ù,Ì,Frame.at,ho,aT];rfl⟩
 |@CK f t k L _ ops i rest o ho hw=>
  have:=υ (P:=P) (main:=É) (b:=base f) (a:=⟨t,[]⟩) (k:=k) (cs:=L.map (λx=>fm x.1 x.2.1 x.2.2)++cs) (w:=u) (rest:=rest) ho hw;rw[se]at this;exact⟨_,this⟩
 |@nH f t k L _ ops i rest o v _ ho hw hr=>
  have:=bA (main:=É) (b:=base f) (k:=k) (cs:=L.map (λx=>fm x.1 x.2.1 x.2.2)++cs) (rest:=rest) ho hw (by simp[base]) hr;rw[se]at this;exact⟨_,this⟩
 |@Al f t k L _ ops i rest o _ ho hw hr=>
  have:=cH (main:=É) (b:=base f) (k:=k) (cs:=L.map (λx=>fm x.1 x.2.1 x.2.2)++cs) (rest:=rest) ho hw (by simp[base]) hr;rw[se]at this;exact⟨_,this⟩
 |@rZ f t k L _ ops i rest o g args fn c _ ho hw hr hf hb=>
  have:=bB (main:=É) (b:=base f) (k:=k) (cs:=L.map (λx=>fm x.1 x.2.1 x.2.2)++cs) (rest:=rest) ho hw (by simp[base]) hr;rw[cI _ hf hb]at this;exact⟨_,this⟩
 |@wv f t k L _ g t' ops i rest k' v fn _ hf hr=>
  cases l:(Ī fn t).runT P u #[]with
  |mk r j=>
   have e:r=ĥ v W:=by rw[<-hr,<-Ρ P (Ī fn t) u #[],l]
   subst e;have d:=FD (main:=É) (k:=k) (c:=fm g t'<|á ops (i::rest)::k') (cs:=L.map (λx=>fm x.1 x.2.1 x.2.2)++cs) hf l;have x:=ε (base g) ⟨t',[]⟩ ops i rest k' v;rw[se]at x;unfold fm at d;rw[x]at d;exact⟨_,d⟩
 |_=>exact⟨_,by simp[St.r,fm,base,G,Ù,Ì,Frame.at];rfl⟩
def LS.u7{s a:St}(h:LS P s u a w):dQ P (LM s u)=ň (LM a w):= let⟨_,b⟩:=h.ND [pG];CN b
def LS.NH(j:oS P GL e8){s g:St}(h:LS P s u g w)(ok:Ok P GL e8 s):Ok P GL e8 g:=by
 have i:∀o a u f e w,mH P GL e8 o->(ì (å a) o).run P u=ĥ (ũ f e) w->e8 f:=by exact λo a u f e w c d=>c.C a u f e w d
 refine⟨h.ok j i ok.r,?_,?_⟩
 .cases h with
  |rZ c _ d _ _=>exact i _ _ _ _ _ _ (oT ok.r.gd _<|Û c) d
  |wv=>exact(ok.C _<|î ..).1
  |_=>exact ok.I
 .cases h with
  |rZ c _ d _ _=>
   intro x b;rcases œ.1 b with rfl|b
   .exact⟨ok.I,_,_,_,_,U⟩
   .exact ok.C x b
  |wv=>exact λx b=>ok.C x<|ò _ b
  |_=>exact ok.C
def LS.kd{s c:St}{u b:Æ}(h:LS P s u c b)(ok:kV P GL e8 s)(a:qi u):Kd u b:=by
 cases h with
 |nH k _ i=>exact(((oT ok.gd _<|Û k).r _).1 u a).1 _ _ i
 |Al k _ i=>exact(((oT ok.gd _<|Û k).r _).1 u a).1 _ _ i
 |rZ k _ i _ _=>exact(((oT ok.gd _<|Û k).r _).1 u a).1 _ _ i
 |wv _ i=>exact(NG.1 u a).1 _ _ i
 |Ak=>exact⟨id,λi o h k=>⟨o,h,k⟩⟩
 |_=>exact Kd.fU u
def LS.aeS{s o:St}{u p:Æ}{T:ψ}{D:Nat}(h:LS P s ((World.tp u T D)) o p)(ok:kV P GL e8 s):∃n v,p=(World.tp v T<|D+n)/\∀a b,uW T D a b n->LS P s ((World.tp u a b)) o ((World.tp v a<|b+n)):=by
 cases h with
 |nH c e g=>
  obtain⟨n,v,i⟩:=((oT ok.gd _<|Û c).r ⟨_,[]⟩).2 u T D;obtain⟨j,l⟩:=i _ _ g;exact⟨n,v,j,λa b d=> .nH c e (l a b d)⟩
 |Al c e g=>
  obtain⟨n,v,i⟩:=((oT ok.gd _<|Û c).r ⟨_,[]⟩).2 u T D;obtain⟨j,l⟩:=i _ _ g;exact⟨n,v,j,λa b d=> .Al c e (l a b d)⟩
 |rZ c e g m q=>
  obtain⟨n,v,i⟩:=((oT ok.gd _<|Û c).r ⟨_,[]⟩).2 u T D;obtain⟨j,l⟩:=i _ _ g;exact⟨n,v,j,λa b d=> .rZ c e (l a b d) m q⟩
 |wv m g=>
  obtain⟨n,v,i⟩:=(NG).2 u T D;obtain⟨j,l⟩:=i _ _ g;exact⟨n,v,j,λa b d=> .wv m (l a b d)⟩
 |@Ak f t k L _ id ops=>
  refine⟨1,u,U,λa b d=> ?_⟩;have g:=LS.Ak (P:=P) (f:=f) (t:=t) (k:=k) (L:=L) (u:=(World.tp u a b)) (id:=id) (ops:=ops);have i:((World.tp u a b)).tape ((World.tp u a b)).drawn=((World.tp u T D)).tape ((World.tp u T D)).drawn:=d.lM;rwa[i]at g
 |oP=>exact⟨0,u,U,λ_ _ _=> .oP⟩
 |uY=>exact⟨0,u,U,λ_ _ _=> .uY⟩
 |rY=>exact⟨0,u,U,λ_ _ _=> .rY⟩
 |wh=>exact⟨0,u,U,λ_ _ _=> .wh⟩
 |ye=>exact⟨0,u,U,λ_ _ _=> .ye⟩
 |uZ=>exact⟨0,u,U,λ_ _ _=> .uZ⟩
 |qS=>exact⟨0,u,U,λ_ _ _=> .qS⟩
 |tq h=>exact⟨0,u,U,λ_ _ _=> .tq h⟩
 |qT=>exact⟨0,u,U,λ_ _ _=> .qT⟩
 |wi=>exact⟨0,u,U,λ_ _ _=> .wi⟩
 |wj=>exact⟨0,u,U,λ_ _ _=> .wj⟩
 |wm=>exact⟨0,u,U,λ_ _ _=> .wm⟩
 |wo h=>exact⟨0,u,U,λ_ _ _=> .wo h⟩
 |wq h=>exact⟨0,u,U,λ_ _ _=> .wq h⟩
 |tu=>exact⟨0,u,U,λ_ _ _=> .tu⟩
 |FC=>exact⟨0,u,U,λ_ _ _=> .FC⟩
 |CK c e=>exact⟨0,u,U,λ_ _ _=> .CK c e⟩
 |CL c=>exact⟨0,u,U,λ_ _ _=> .CL c⟩
def mJ.gS(c:oS P GL e8)(hF:tw P e8)(g:∀v u,vQ v u->kh u):∀(n:Nat) {s:St} {u:Æ},Ok P GL e8 s->qi u->mJ P vQ n (LM s u)->kh u:=by
 intro n
 induction n with
 |zero=>
  intro s u a b h;rcases h.I c hF a b with⟨_,_,_,_,v,_,_,d⟩|⟨m,_,_,e,_⟩
  .exact g v u d
  .cases e
 |succ n j=>
  intro s u a b h;rcases h.I c hF a b with⟨e,_⟩|⟨m,w,x,e,d,k⟩
  .cases e
  .cases e;have f:=d.kd a.r b;intro i o l p;let⟨q,r,t⟩:=f.C i o l p;exact j (d.NH c a) (f.r b) k i q r t
def pF.aeT(b:wz kg){s:St}(h:pF P kg s u)(T:ψ)(D:Nat):pF P kg s ((World.tp u T D)):=by
 cases h with
 |jG a S c=>exact .jG a S (b _ _ T D c)
 |ju S a h c d=>exact .ju S a h c d
def Wl(m:wz kg)(o:∀v u,vQ v u->kg v u){s:St}(c:s.C=É)(b:s.L=[])(e:∃g v,P.funcs[s.f]?=À g/\(Ī g s.t).run P ((World.tp u xQ i))=ĥ v ((World.tp u xQ i))/\vQ v ((World.tp u xQ i))):pF P kg s u:=by
 obtain⟨f,t,k,z,L⟩:=s;simp only at c b;subst c b;obtain⟨g,v,p,q,r⟩:=e;refine .jG (v:=v) p (λh d=> ?_) ?_
 .obtain⟨n,w,c⟩:=(NG).2 u xQ i;obtain⟨b,e⟩:=c _ _ q;have x:n=0:=by
   have:((World.tp u xQ i)).drawn=((World.tp w xQ<|i+n)).drawn:=by rw[<-b]
   simp only[World.tp]at this;omega
  subst x;have y:(World.tp w h d)=(World.tp u h d):=by
   have a:((World.tp u xQ i)).heap=((World.tp w xQ<|i+0)).heap:=by rw[<-b]
   have j:((World.tp u xQ i)).os=((World.tp w xQ<|i+0)).os:=by rw[<-b]
   have l:((World.tp u xQ i)).output=((World.tp w xQ<|i+0)).output:=by rw[<-b]
   simp only[World.tp]at a j l|-;rw[a,j,l]
  have:=e h d (λa j=>by omega);rwa[show d+0=d from rfl,y]at this
 .have:=m v _ u.tape u.drawn<|o v _ r;exact this
structure Jh where
 s:St
 u:Æ
 D:Nat
 T:ψ
 n:Nat
structure Ji(P:Õ)(GL:Nat->Prop)(e8:à->Prop)(kg:Â->Æ->Prop)(s0:St)(u0:Æ)(x:Jh):Prop where
 ok:Ok P GL e8 x.s
 aeU:qi x.u
 aeV:¬pF P kg x.s x.u
 mZ:∀T',(∀i,i<x.D->T' i=x.T i)->dw P x.n (LM s0<|(World.tp u0 T' 0))=ň (LM x.s<|(World.tp x.u T' x.D))
def Wm{m:bR}{s:St}{N:Nat}(a:dw P n m=ň (LM s u))(e:mJ P vQ N m):∃k,N=n+k/\mJ P vQ k (LM s u):=by
 by_cases f:n<=N
 .obtain⟨k,rfl⟩:=Ε f;refine⟨k,U,?_⟩;let⟨g,v,c,b,d⟩:=e;rw[dJ,a]at b;exact⟨g,v,c,b,d⟩
 .obtain⟨k,rfl⟩:=Nat.exists_eq_add_of_lt<|Nat.lt_of_not_le f;let⟨g,v,c,b,d,_⟩:=e;rw[show N+k+1=N+(k+1) by omega,dJ,b]at a;simp only[dw,step_leave_returned d]at a;cases k with
  |zero=>
   simp only[dw,Stepped.next.injEq]at a;have:=(Wk a).2.1;simp[fx]at this
  |succ k=>
   simp only[dw,(Jg (P:=P) (fr:=pG) (cs:=[]) (w:=c) (es:=#[])<|by simp[G,Ù,Ì,pG];exact⟨U,U⟩)]at a;cases a
theorem NJ(f:oS P GL e8)(hF:tw P e8)(t:wz kg)(C:∀v u,vQ v u->kh u)(E:∀v u,vQ v u->kg v u){j:St}(F:∀T,∃n,mJ P vQ n<|LM j<|(World.tp w T 0)){x:Jh}(G:Ji P GL e8 kg j w x): ∃y:Jh,Ji P GL e8 kg j w y/\y.n=x.n+1/\x.D<=y.D/\∀i,i<x.D->y.T i=x.T i:=by
 let⟨s,u,D,T,n⟩:=x;let⟨ok,pend,l,q⟩:=G;simp only at ok pend l q;have H:∃y d,∀a g,LS P s ((World.tp u y d)) a g->CG u g->¬pF P kg a g:=by
  refine Classical.byContradiction λo=>l ?_;have c:∀y d,∃p:St×World,LS P s ((World.tp u y d)) p.1 p.2/\CG u p.2/\pF P kg p.1 p.2:=by simp_all
  exact .ju (λy d=>(Classical.choose<|c y d).1) (λy d=>(Classical.choose<|c y d).2) (λy d=>(Classical.choose_spec<|c y d).1) (λy d=>(Classical.choose_spec<|c y d).2.1) λy d=>(Classical.choose_spec<|c y d).2.2
 let⟨y,d,I⟩:=H;let p:ψ:=λi=>if i<D then T i else y (d+(i-D))
 have r:∀i,i<D->p i=T i:=λi h=>if_pos h;have J:=λi=>by show(if D+i<D then T (D+i)else y (d+(D+i-D)))=y (d+i);grind
 let⟨N,K⟩:=F p;let⟨k,_,L⟩:=Wm (q p r) K;have b:qi ((World.tp u p D)):=pend;rcases L.I f hF ok b with⟨_,M,O,S⟩|⟨m,a,g,_,e,V⟩
 .exact absurd (Wl t E M O S) l
 .obtain⟨c,v,rfl,z⟩:=e.aeS ok.r;have W:¬pF P kg a v:=λX=>I a _ (z y d λi _=>(J i).symm) (λi o _ B=>(mJ.gS f hF C m (e.NH f ok) ((e.kd ok.r b).r b) V) i o B)<|X.aeT t y<|d+c;refine⟨⟨a,v,D+c,p,n+1⟩,⟨e.NH f ok,(e.kd ok.r b).r b,W,λo B=> ?_⟩,U,fj,r⟩;rw[dJ,(q o λi h=>(B i<|by simp only;omega).trans<|r i h)];simp only[dw,(z o D λi h=>B (D+i)<|by simp only;omega).u7]
theorem aeW(b:oS P GL e8)(hF:tw P e8)(c:wz kg){Q:Â->Æ->Prop}(g:∀v u,Q v u->kh u)(d:∀v u,Q v u->kg v u){a:St}(ok:Ok P GL e8 a)(q:qi w)(f:∀T,∃n,mJ P Q n<|LM a<|(World.tp w T 0)):pF P kg a w:=by
 refine Classical.byContradiction λr=> ?_;have s:Ji P GL e8 kg a w ⟨a,w,0,λ_ _=>0,0⟩:=⟨ok,q,r,λI _=>rfl⟩;let F:Nat->{x:Jh//Ji P GL e8 kg a w x}:=λk=>Nat.rec ⟨_,s⟩ (λ_ x=>⟨Classical.choose<|NJ b hF c g d f x.2,(Classical.choose_spec<|NJ b hF c g d f x.2).1⟩) k
 have l:=λk=>(Classical.choose_spec<|NJ b hF c g d f (F k).2).2;have t:∀k,(F k).1.n=k:=by
  intro k
  induction k with
  |zero=>rfl
  |succ k e=>rw[(l k).1,e]
 have J:∀j k,(F j).1.D<=(F<|j+k).1.D/\∀i,i<(F j).1.D->(F<|j+k).1.T i=(F j).1.T i:=by
  intro j k
  induction k with
  |zero=>exact⟨ß _,λ_ _=>rfl⟩
  |succ k e=>
   have:=(l<|j+k).2;exact⟨õ e.1 this.1,λi m=>(this.2 i<|Ô m e.1).trans<|e.2 i m⟩
 have K:∀j k i,i<(F j).1.D->i<(F k).1.D->(F j).1.T i=(F k).1.T i:=by intro j k i e o;rcases Nat.le_total j k with h|h;all_goals grind [Ε]
 let T:ψ:=λi=>open Classical in if h:∃k,i<(F k).1.D then(F<|Classical.choose h).1.T i else λ_=>0
 have y:∀k i,i<(F k).1.D->T i=(F k).1.T i:=by intro k i m;have e:∃k,i<(F k).1.D:=⟨k,m⟩;show(open Classical in if h:∃k,i<(F k).1.D then(F<|Classical.choose h).1.T i else λ_=>0)=_;rw[dif_pos e];grind
 let⟨N,z⟩:=f T;have p:=(F N).2.mZ T<|y N;rw[t N]at p;let⟨k,e,o⟩:=Wm p z;have B:k=0:=Z
 subst B;have C:qi ((World.tp (F N).1.u T<|(F N).1.D)):=(F N).2.aeU;rcases o.I b hF (F N).2.ok C with⟨_,E,G,H⟩|⟨m,_,_,e,_⟩
 .exact(F N).2.aeV<|Wl c d E G H
 .cases e
end
section
variable{m:à->Prop}
def NK(f:à)(b:Func)(c:ak)(a:Array Â):St:=⟨f,a++ĺ (b.ntmps-a.size) ľ,[Đ c],Ã,[]⟩
def Wn(a:Array Â)(b:P.funcs[F]?=À s)(d:s.body=À wX):dK P F a .normal=(NK F s wX a).I:=cI a b d
def aeX(b:oS P X m)(hF:tw P m)(l:wz vQ)(g:m F)(j:P.funcs[F]?=À s)(k:s.body=À wX)(o:kh u) (p:∀T,Calls P F d ((World.tp u T 0)) fun|.returned v,u'=>vQ v u'/\kh u'|_,_=>False):pF P vQ (NK F s wX d) u:=by
 refine aeW b hF l (Q:=λv u=>vQ v u/\kh u) (λv u h=>h.2) (λv u h=>h.1) ⟨⟨λi q=> ?_,λx h=>by cases h⟩,g,λx h=>by cases h⟩ o.qi λT=> ?_
 .rw[ū.1 q];exact .qU (b F g s wX j k)
 .let⟨e,r,t,a,w,_,y⟩:=p T [pG];cases e with
  |returned v=>
   let⟨n,z⟩:=w;refine⟨n,t,v,r,?_,y,a⟩;rw[<-z,Wn d j k];rfl
  |panicked n=>exact a.elim
  |outgrown=>exact a.elim
def aeY(r:nG P)(b:oS P X m)(hF:tw P m)(t:wz vQ)(n:m F)(e:P.funcs[F]?=À s)(h:s.body=À wX)(y:kh u) (z:∀T,Calls P F d ((World.tp u T 0)) fun|.returned v,u'=>vQ v u'/\kh u'|_,_=>False) {Y:ft} {a o:Nat->Prop} (B:Y.C=P.globals.size) (C:∀g,X g->Y g g) (p:fR Y d q) (D:qV Y a u w) (E:∀j,a j->j<w.heap.size) (H:∀i j,Y i j->a j->o j) (main:Bool) (k:Ę) (l:List Ę): u5 P main o (FE Y a vQ k l) (fp Y a) (G (dK P F q .normal)<|k::l) w:=by
 have:=(aeX b hF t n e h y z).ND (main:=main) r b (Y:=Y) (FF:=Y) (s':=NK F s wX q) (ft.M _) B C ⟨U,?_,U,U,.oP⟩ ⟨λi I=> ?_,λx J=>by cases J⟩ D E H k l
 .rw[Wn q e h];exact this
 .show fR Y (d++_) (q++_);rw[p.r];exact p.s9<|Wc _
 .rw[ū.1 I];exact .qU (b F n s wX e h)
def yh:Â->Bool
 |Ľ _|Ć _ _|ħ _|Þ ë|bS ë _ _|bT|aW|ek ë|.map ë=>É
 |_=>Ã
def NL:Â->Bool
 |.agg a=>a.all yh
 |ſ a=>a.all yh
 |v=>yh v
def FG(h:yh v=É):jN v:=by
 cases v with
 |bool b=>exact .mj b
 |int k n=>exact .iE k n
 |string s=>exact .kq s
 |pointer p=>cases p with
  |none=>exact .lJ
  |some a=>cases h
 |slice p n c=>cases p with
  |none=>exact .nX n c
  |some a=>cases h
 |nilFunc=>exact .uQ
 |nilIface=>exact .uR
 |chan p=>cases p with
  |none=>exact .uS
  |some a=>cases h
 |map p=>cases p with
  |none=>exact .uT
  |some a=>cases h
 |_=>cases h
def aeZ(h:NL v=É):jN v:=by
 cases v with
 |agg b=>exact .ow λi a=>FG<|(Ń.1 h) i a
 |tuple b=>exact .nD λi a=>FG<|(Ń.1 h) i a
 |_=>exact FG h
def wA(X:Nat->Bool):Ö->Bool
 |.tmp _=>É
 |dX v=>NL v
 |ew g=>X g
 |aO _=>É
theorem Jj{g:Nat->Bool}(h:wA g qQ=É):ml (λj=>g j=É) qQ:=by
 cases qQ with
 |tmp t=>exact .V5 t
 |const v=>exact .V7 (aeZ h)
 |global j=>exact .V8 h
 |func f=>exact .V9 f
def NM(P:Õ)(t:Á):Bool:=match P.underlying t with
 |some .bool=>É
 |some (Β _)=>É
 |some ę=>É
 |_=>Ã
def ae0(h:NM P t=É):td P t:=by
 unfold NM at h;split at h
 .rename_i e;exact Ç e
 .rename_i k e;exact Î<|Ç ⟨k,e⟩
 .rename_i e;exact Î<|Î e
 .cases h
def Jk:Ö->Bool
 |dX (Þ ë)=>É
 |_=>Ã
def Wo(h:Jk qQ=É):mV (y.eval qQ):=by
 unfold Jk at h;split at h
 .trivial
 .cases h
def NN(P:Õ)(t:Á)(x y:Ö):Bool:=NM P t||((match P.underlying t with|some (ð _)=>É|_=>Ã)&&(Jk x||Jk y))
theorem ae1{a:bF}{y:Ö}(h:NN P t qQ y=É):td P t\/((∃e,P.underlying t=À (ð e))/\(mV (a.eval qQ)\/mV (a.eval y))):=by
 unfold NN at h;rcases Ŝ.1 h with h|h
 .exact Ç<|ae0 h
 .let⟨b,e⟩:=Ü.1 h;refine Î ⟨?_,(Ŝ.1 e).imp Wo Wo⟩;grind
def NO(P:Õ)(s d:Á):Bool:=match P.underlying s,P.underlying d with
 |some (Β _),À (Β _)=>É
 |some ę,À ę=>É
 |_,_=>Ã
theorem ae2(h:NO P e t=É):(∃k a,P.underlying e=À (Β k)/\P.underlying t=À (Β a))\/(P.underlying e=À ę/\P.underlying t=À ę):=by unfold NO at h;grind
def NP(P:Õ)(s:Á)(n:Nat):Bool:=match P.underlying s with
 |some (dh fields)=>match fields[n]? with
  |some f=>match P.info? f.type with
   |some i=>i.size !=0
   |none=>Ã
  |none=>Ã
 |_=>Ã
def ae3(h:NP P e n=É):∀a f i,P.underlying e=À (dh a)->a[n]?=À f->P.info? f.type=À i->i.size≠0:=by intro a f i b c d;simp only[NP,b,c,d]at h;simpa using h
def NQ(P:Õ)(m:à->Bool)(f:à):Bool:=m f&&(match P.funcs[f]? with
 |some a=> !(a.name== "runtime.NumGoroutine")&&!a.body.isNone
 |none=>Ã)
theorem Wp{g:à->Bool}(h:NQ P g F=É):g F=É/\∃a,P.funcs[F]?=À a/\(a.name== "runtime.NumGoroutine")=Ã/\a.body.isNone=Ã:=by let⟨b,c⟩:=Ü.1 h;grind
def Wq(P:Õ):List Á->Bool
 |[_,t1]=>(match P.underlying t1 with|some (di _)=>É|some ę=>É|_=>Ã)
 |_=>Ã
def Wr(P:Õ)(m:à->Bool)(b:Callee)(a:List Ö)(c:List Á):Bool:=match b with
 |ĝ .len=>a.length==1
 |ĝ .cap=>a.length==1
 |ĝ .copy=>a.length==2
 |ĝ .append=>a.length==2&&Wq P c
 |cj (aO f)=>NQ P m f
 |_=>Ã
def CO(P:Õ)(m:à->Bool):Op->Bool
 |.move _|.assign _|.pick _ _ _|.alloc _|.box _ _|.build _ _|dD _ _ _|.load _ _|.store _ _ _|eB _|.unOp _ _ _|dU _ _ _|.slice _ _ _ _ _|.field _ _ _|dW _ _ _|.index _ _ _|.extract _ _=>É
 |dT c t x y _=>if c==aA||c==aL then NN P t x y else É
 |aN s d _=>NO P s d
 |dV s _ n=>NP P s n
 |Ω c=>Wr P m c.callee c.args.toList c.argTypes.toList
 |_=>Ã
def Jl{a:Array Ö}(h:(a.toList.length==1)=É):∃x,a=#[x]:=by
 let⟨l⟩:=a;match l,h with
 |[x],_=>exact⟨x,U⟩
def NS{a:Array Ö}(h:(a.toList.length==2)=É):∃x y,a=#[x,y]:=by
 let⟨l⟩:=a;match l,h with
 |[x,y],_=>exact⟨x,y,U⟩
def ae4{g:à->Bool}{k:Op}(h:CO P g k=É)(a:bF):j5 P a.eval k:=by
 cases k with
 |binOp o t x y r=>
  refine .CI o t x y r λe=> ?_;have:(o==aA||o==aL)=É:=by rcases e with rfl|rfl<;>rfl
  simp only[CO,if_pos this]at h;exact ae1 h
 |convert s d x=>exact .Ng _ _ _ (ae2 h)
 |fieldAddr s x n=>exact .Ni _ _ _ (ae3 h)
 |call c=>
  let⟨z,B,j⟩:=c;simp only[CO]at h;unfold Wr at h;split at h
  .obtain⟨x,rfl⟩:=Jl h;exact .Fq x j
  .obtain⟨x,rfl⟩:=Jl h;exact .Fs x j
  .obtain⟨x,y,rfl⟩:=NS h;exact .Ft x y j
  .let⟨q,f⟩:=Ü.1 h;obtain⟨x,y,rfl⟩:=NS q;let⟨l⟩:=j;match l,f with
   |[t0,t1],f=>
    refine .s9 x y t0 t1 ?_;simp only[Wq]at f;split at f
    .rename_i e m;exact Ç ⟨e,m⟩
    .rename_i m;exact Î m
    .cases f
  .exact .jF _ _ _ U (Wp h).2
  .cases h
 |move x=>exact .Ah x
 |assign x=>exact .Fo x
 |pick c a b=>exact .vY c a b
 |alloc t=>exact .gJ t
 |box t x=>exact .Nb t x
 |build t p=>exact .Nc t p
 |buildSlice t n p=>exact .Nd t n p
 |load t a=>exact .gA t a
 |store t a x=>exact .ja t a x
 |nilCheck x=>exact .Fp x
 |unOp o t x=>exact .Nf o t x
 |makeSlice t l c=>exact .Nh t l c
 |slice t x u v w=>exact .kH t x u v w
 |field t x n=>exact .Nj t x n
 |indexAddr t x i=>exact .Nk t x i
 |index t x i=>exact .Nl t x i
 |extract x n=>exact .Fa x n
 |_=>simp[CO]at h
def NT(P:Õ)(X:Nat->Bool)(m:à->Bool)(o:av):Bool:=CO P m o.op&&o.op.operands.all (wA X)
def ae5{X:Nat->Prop}{m:à->Prop}{o:av}(op:∀a:bF,j5 P a.eval o.op)(opd:∀x∈o.op.operands,ml X x)(calls:∀f args ts,o.op=Ω {callee:=cj<|aO f,args:=args,argTypes:=ts}->m f):mH P X m o where
 mI hz hb hG ht hW hl x u' hr hc:=(U9 hz hW.C hb (λf=>rfl) (op _) λx hx=>wy hG ht<|opd x hx).gl hW hl hr hc #[];r a:=aeG<|op a;I a u n u' hr:=aeQ (op a) hr;C a u f c u' hr:=let⟨as,ts,e⟩:=aeL (op a) hr;calls f as ts e
theorem ae6{g:Nat->Bool}{k:à->Bool}(h:NT P g k o=É):mH P (λj=>g j=É) (λf=>k f=É) o:=by
 let⟨j,b⟩:=Ü.1 h;refine ae5 (λa=>ae4 j a) (λx a=>Jj ?_) λf a x e=> ?_
 .grind [ŉ]
 .rw[e]at j;exact(Wp<|show NQ P k f=É from j).1
end
section
variable{Y:ft}{g:à->Prop}{α:Type}
def CP(m:(Ö->Â)->ē Â)(e:∀b,ì b o=m b>>=λv=>pure<|ï v) (i:∀(Y:ft) (b h:Ö->Â),nG P->Bi Y->Y.C=P.globals.size->(∀x∈o.op.operands,fl Y (b x)<|h x)->kI P fl Y (m b) (m h)) (j:∀b,fD P<|m b) (k:∀x∈o.op.operands,ml X x):mH P X g o where
 mI hz hb hG ht hW hl x u' hr hc:=by rw[e]at hr|-;exact(U4<|i _ _ _ hz hW.C hb λx d=>wy hG ht<|k x d).gl hW hl hr hc #[]
 r a:=by rw[e];exact lN<|j _
 I a u n u' hr:=by
  rw[e,Ä]at hr;cases d:(m a.eval).run P u with
  |ok v w=>rw[d]at hr;cases hr;exact Ç ⟨v,U⟩
  |halt z w=>rw[d]at hr;cases hr
 C a u f c u' hr:=by
  rw[e,Ä]at hr;cases d:(m a.eval).run P u with
  |ok v w=>rw[d]at hr;cases hr
  |halt z w=>rw[d]at hr;cases hr
theorem ae7(a:o.op=cJ t qQ)(b:∀y∈o.op.operands,ml X y):mH P X g o:=by
 refine CP (λd=>ŝ t<|d qQ) (λd=> ?_) (λY d c _ _ _ h=> .gq ?_) (λd=> ?_) b
 .unfold ì;rw[a]
 .unfold ŝ;apply fE (iZ t);rintro e d _ c ⟨rfl,_⟩;split
  .exact .fO
  .exact .fC (.xW t ((h qQ<|by rw[a];simp[Ê]).fN c))
 .unfold ŝ;grind [gG,jc,qR,gp]
theorem ae8(c:Sys):oy P (sys c):=by
 intro u hu;refine⟨λx u' e=> ?_,λz u' e=>by cases e⟩;have:u'.heap=u.heap:=by
  simp only[sys,ã]at e;cases e;unfold World.sys;have ask:∀{γ:Type} (b:Ask γ) (w:Æ),(w.ask b).2.heap=w.heap:=by
   intro γ b
   induction b with
   |done a=>intro w;rfl
   |ask what range k ih=>
    intro w;simp only[World.ask];split
    .exact ih 0 w
    .exact ih _ _
  grind
 exact⟨λh i c e he=>h i c e (by rwa[<-this]),λi o he ho=>⟨o,by rwa[this],ho⟩⟩
theorem Ws(x:Â):∀u y a,(ż x).run P u≠ĥ y a:=by
 unfold ż;cases x<;>simp only[]<;>first|exact Na|skip
 grind [Fi,US,qO]
def ae9(x:Â):fD P (ż x):=by
 refine⟨?_,Np<|Ws x⟩;unfold ż;cases x<;>simp only[]<;>first|exact Fw U|skip
 refine IY ?_ λa=> ?_
 .unfold Instr.panicnil;refine IY (ae8 _) λr=> ?_;cases r<;>first|exact Fw U|skip
  exact IY Vb λ_=>Va _
 .split
  .exact Fw U
  .exact(vZ _).1
def afa(b:o.op=.panic qQ)(c:∀y∈o.op.operands,ml X y):mH P X g o:=by refine CP (λa=>ż<|a qQ) (λa=> ?_) (λY a d _ _ _ h=> .gq (.ox (Ws _))) (λa=>ae9 _) c;unfold ì;rw[b]
def afb(c:fl Y x v)(d:fl Y z jQ):fG P fl Y (Ĳ x z) (Ĳ v jQ):=by
 cases c<;>cases d<;>first|exact .fO|exact .fC (.iE _ _)|skip
 refine fE (V:=fl) (.fC (.mj _)) λf a g _ e=> ?_;apply fE (UQ e);rintro h b _ _ rfl;exact .fC (.kq _)
def afc(x y:Â):fD P (Ĳ x y):=by unfold Ĳ;repeat' (first|(with_reducible first|exact gG _|exact jc _|exact sd _|exact I5 _|exact NC _ _ _|refine gp ?_ (λ_=> ?_)|refine mW _ ?_)|split|rfl)
def afd:∀{l b:List Â} {Y:ft} {x c:Â},fl Y x c->fR Y l.toArray b.toArray->fG P fl Y (l.foldlM Ĳ x) (b.foldlM Ĳ c):=by
 intro l
 induction l with
 |nil=>
  intro b Y x c d a;have:b=[]:=by have:=a.r;simp at this;exact Ā this.symm
  subst this;rw[ζ,ζ];exact .fC d
 |cons v l e=>
  intro b Y x c d a;match b,a with
  |[],a=>have:=a.r;simp at this
  |v'::b,a=>
   rw[Ζ,Ζ];refine fE (afb d (by have:=a.C 0 fj fj;simpa using this)) ?_;intro k y m f g;refine e g ⟨by have:=a.r;simpa using this,λj h i=> ?_⟩;have:=a.C (j+1) (by simp at h|-;omega) (by simp at i|-;omega);exact(by simpa using this:fl Y _ _).fN f
theorem Wt:∀(l:List Â) (x:Â),fD P<|l.foldlM Ĳ x
 |[],x=>by rw[ζ];exact gG _
 |v::l,x=>by rw[Ζ];exact gp (afc _ _) λy=>Wt l y
def afe(a:Array Á)(t:Á)(h:fR Y d q):fG P fl Y (ń a t d) (ń a t q):=by
 let⟨l⟩:=d;let⟨b⟩:=q;unfold ń;match l,b,h with
 |[],_,_=>exact .fO
 |v::l,[],h=>have:=h.r;simp at this
 |v::l,v'::b,h=>
  refine afd (by have:=h.C 0 fj fj;simpa using this) ⟨by have:=h.r;simpa using this,λj e f=> ?_⟩;have:=h.C (j+1) (by simp at e|-;omega) (by simp at f|-;omega);exact(by simpa using this:fl Y _ _)
theorem aff(a:Array Á)(t:Á)(c:Array Â):fD P (ń a t c):=by let⟨l⟩:=c;unfold ń;grind [jc,Wt]
def afg{b:Array Ö}{c:Array Á}(d:o.op=Ω {callee:=ĝ .min,args:=b,argTypes:=c})(e:∀y∈o.op.operands,ml X y):mH P X g o:=by refine CP (λa=>ń c o.type<|b.map a) (λa=> ?_) (λY a i _ _ _ h=> .gq (afe _ _<|U7 b λz f=>h z<|by rw[d];simp[Ê,ô,f])) (λa=>aff _ _ _) e;unfold ì;rw[d];simp only[ù,č,Ē,pure_bind]
def afh{β:Type}{f g:Â->β->ē (ForInStep β)}(k:∀a v e b,Y.r a->fl a v e->fG P jm a (f v b) (g e b)):∀{l d:List Â} {a:ft} (b:β),Y.r a->fR a l.toArray d.toArray->fG P jm a (forIn l b f) (forIn d b g):=by
 intro l
 induction l with
 |nil=>
  intro d a b _ c;have:d=[]:=by have:=c.r;simp at this;exact Ā this.symm
  subst this;rw[φ,φ];exact .fC U
 |cons v l m=>
  intro d a b h c;match d,c with
  |[],c=>have:=c.r;simp at this
  |e::d,c=>
   rw[η,η];refine fE (k a v e b h (by have:=c.C 0 fj fj;simpa using this)) ?_;rintro p r _ i rfl;cases r with
   |done b=>exact .fC U
   |yield b=>
    apply m b (ft.I h i);refine⟨by have:=c.r;simpa using this,λj n o=> ?_⟩;have:=c.C (j+1) (by simp at n|-;omega) (by simp at o|-;omega);exact(by simpa using this:fl a _ _).fN i
theorem Wu{β:Type}{f:Â->β->ē (ForInStep β)}(a:∀v b,fD P<|f v b):∀(l:List Â) (b:β),fD P<|forIn l b f
 |[],b=>by rw[φ];exact gG _
 |v::l,b=>by
  rw[η];refine gp (a v b) λr=> ?_;cases r with
  |done b=>exact gG _
  |yield b=>exact Wu a l b
def afi(d:fl Y x v):fG P fl Y (ü x) (ü v):=by
 cases d<;>first|exact .fO|exact .fC (.kq _)|skip
 rename_i h n c;unfold ü;apply fE (M5 h n);intro e j l m f;simp only[<-aE];refine fE (afh (Y:=e) ?_ _ (ft.M _) f) ?_
 .intro g a o b _ i;cases i<;>first|exact .fO|skip
  rename_i k n;cases k<;>first|exact .fO|exact .fC U
 .rintro g s _ _ rfl;exact .fC (.kq _)
theorem afj(x:Â):fD P (ü x):=by
 unfold ü;split
 .exact gG _
 .refine gp (Nv _ _) λa=> ?_;simp only[<-aE];grind [gp,Wu,gG,jc]
 .exact jc _
theorem afk(i:o.op=aN t T qQ)(k:P.underlying t=À (di e))(l:P.underlying T=À ę)(m:P.underlying e=À (Β .u8))(n:∀y∈o.op.operands,ml X y):mH P X g o:=by
 refine CP (λa=>Œ t T<|a qQ) (λa=> ?_) (λY a f _ _ _ h=> .gq ?_) (λa=> ?_) n
 .unfold ì;rw[i]
 .unfold Œ;refine fE (iZ t) ?_;rintro z B _ p ⟨rfl,b⟩;rw[k]at b;injection b with b;subst b;refine fE (iZ T) ?_;rintro q C _ r ⟨rfl,c⟩;rw[l]at c;injection c with c;subst c;have j:=((h qQ<|by rw[i];simp[Ê]).fN p).fN r;have u:fG P fl q (ø e>>=λy=>match y with|Β .u8=>ü (a qQ)|Β .i32=>aF (a qQ)|_=>stuck "Convert: a slice of what to string?") (ø e>>=λy=>match y with|Β .u8=>ü (f qQ)|Β .i32=>aF (f qQ)|_=>stuck "Convert: a slice of what to string?"):=by
   apply fE (iZ e);rintro D E _ w ⟨rfl,h⟩;rw[m]at h;injection h with h;subst h;exact afi<|j.fN w
  generalize a qQ=v at*;generalize f qQ=v' at*;cases j<;>first|exact u|exact .fO|exact .fC (.kq _)|skip
 .unfold Œ;grind [we,afj,V2,gG]
end
section
variable{Y:ft}{b:à->Prop}{α:Type}
def Wv(i:∀(Y:ft) (a g:bF),nG P->Bi Y->Y.C=P.globals.size->(∀x∈o.op.operands,fl Y (a.eval x)<|g.eval x)->kI P oQ Y (ì a.eval o) (ì g.eval o)) (j:∀a:bF,fD P<|ì a.eval o) (h:∀(a:bF) (u:Æ) (n:Ο) (d:Æ),(ì a.eval o).run P u=ĥ n d->∃v,n=ï v) (k:∀x∈o.op.operands,ml X x):mH P X b o where
 mI hz hb hG ht hW hl x d hr hc:=(i _ ⟨_,[]⟩ ⟨_,[]⟩ hz hW.C hb λx e=>wy hG ht<|k x e).gl hW hl hr hc #[];r a:=j a;I a u n d hr:=Ç<|h a u n d hr;C a u f c d hr:=by let⟨v,e⟩:=h a u _ d hr;cases e
def afl{e:Array Â->ē Â}{k:Array Á}(g:o.op=Ω {callee:=cj<|aO F,args:=#[qQ],argTypes:=k})(l:P.funcs[F]?=À s)(m:(s.name== "runtime.NumGoroutine")=Ã)(q:s.body.isNone=É)(r:Extern.findNext s=ë)(t:Extern.find s=À e) (B:∀(Y:ft) (v i:Â),fl Y v i->fG P fl Y (e #[v]) (e #[i])) (C:∀v,fD P<|e #[v]) (D:∀y∈o.op.operands,ml X y):mH P X b o:=by
 have c:∀a:bF,ì a.eval o=ĵ F #[a.eval qQ]:=by intro a;unfold ì;rw[g];simp only[ù,å,İ,č,pure_bind,Ď,ď,Ø,â,ä]
 have j:∀(v:Â) (u:Æ),(ĵ F #[v]).run P u=(mark (.extern F)>>=λ_=>e #[v]>>=λy=>pure (ï y):ē Ο).run P u:=by intro v u;unfold ĵ;simp_all
 refine Wv (λY a w _ _ _ h=> ?_) (λa=> ?_) (λa u n E d=> ?_) D
 .rw[c,c];unfold ĵ;refine .gq (fE qL ?_);rintro I p J w ⟨z,G⟩;rw[z,G];simp only[l,m,q,r,t,Å,if_false,if_true];apply fE (V:=jm) (.Cx (Î ⟨F,U⟩) (.fC U));exact λK _ _ H _=>mG<|B _ _ _<|((h qQ<|by rw[g];simp[Ê,ô]).fN w).fN H
 .rw[c];exact I1 (j _)<|gp (Fy _) λ_=>lN<|C _
 .rw[c,j,Ä]at d;simp only[mark,ã,È]at d;have:ã P (e #[a.eval qQ]>>=λy=>pure (ï y):ē Ο) u=ĥ n E:=d;rw[Ä]at this;cases h:(e #[a.eval qQ]).run P u with
  |ok v w=>rw[h]at this;cases this;exact⟨v,U⟩
  |halt z w=>rw[h]at this;cases this
def afm(x a:Â)(h:fl Y x a):fG P fl Y (Ŀ #[x]) (Ŀ #[a]):=.fC h
def afn(x:Â):fD P (Ŀ #[x]):=gG _
def Ww:∀(n t:Nat) {c a:Array Â},fR Y c a->fR Y (ņ n t c) (ņ n t a)
 |0,_,_,_,h=>h
 |n+1,t,_,_,h=>Ww n (t/256)<|h.UG<|.iE _ _
def afo(b:Array Á)(t:Á)(v c:Â)(h:fl Y v c):fG P fl Y (Ċ b #[t] #[v]) (Ċ b #[t] #[c]):=by
 cases h<;>first|exact .fO|skip
 rename_i k n;cases k<;>first|exact .fO|skip
 refine fE (iZ t) ?_;rintro j d _ l ⟨rfl,_⟩;cases d<;>first|exact .fO|skip
 rename_i e _;simp only[];split
 .exact .ox (vT<|qO _)
 .apply rX (.Ac λn=> .fC U);intro m f _;apply rX (M9 _);intro o _ _;apply rX (.Ac λn=> .fC U);intro p g _;apply fE (Af e<|Ww f g<|fR.N _);exact λq a r _ i=> .fC (.kH i _ _)
def afp(a:Array Á)(t:Á)(v:Â):fD P (Ċ a #[t] #[v]):=by
 cases v<;>first|exact jc _|skip
 rename_i k n;cases k<;>first|exact jc _|skip
 refine gp (qR t) λd=> ?_;cases d<;>first|exact jc _|skip
 repeat' (first|(with_reducible first|exact gG _|exact jc _|exact sd _|exact FA _ _|exact qR _|exact vZ _|exact Nw _|refine gp ?_ λ_=> ?_)|split)
def afq(f:Array Á)(t:Á)(j:fl Y x v):kI P fl Y (ė f t #[x]) (ė f t #[v]):=by
 cases j<;>first|exact .gq .fO|exact .gq (.fC .lJ)|skip
 rename_i a g h n c;change kI P fl Y (ite _ _ _) (ite _ _ _);by_cases i:c≠0
 .simp only[if_pos i];exact .gq (.fC (.jM h))
 .simp only[if_neg i];apply kU (IU h.1);rintro l b m o ⟨rfl,rfl⟩;simp only[Option.isSome_none,Å,if_false];refine kU (V0:=λ_ a g=>a=g) ?_ ?_
  .unfold Ū;refine fE (iZ t) ?_;rintro k d _ p ⟨rfl,_⟩;cases d<;>first|exact .fO|exact .fC U
  .rintro k e _ _ rfl;exact .CC trivial
def afr(b:Array Á)(t:Á)(x:Â):fD P (ė b t #[x]):=by
 cases x<;>first|exact jc _|skip
 rename_i p n c;cases p with
 |none=>exact gG _
 |some a=>
  change fD P (ite _ _ _);repeat' (first|(with_reducible first|exact gG _|exact jc _|exact I2 _|exact I6 _|refine gp ?_ (λ_=> ?_)|refine IZ _ ?_)|split|(intro _ _ h;cases h;done))
def afs{c:Array Á}(d:o.op=Ω {callee:=ĝ bl,args:=#[qQ],argTypes:=c})(e:∀y∈o.op.operands,ml X y):mH P X b o:=by refine CP (λa=>ė c o.type #[a qQ]) (λa=> ?_) (λY a f _ _ _ h=>afq _ _<|h qQ<|by rw[d];simp[Ê,ô]) (λa=>afr _ _ _) e;unfold ì;rw[d];simp only[ù,č,Ē,pure_bind,Ø,â,ä]
end
section
variable{Y:ft}{f:Nat->Prop}{g:à->Prop}{α:Type}
def Wx(h:gZ Y a p):fG P gZ Y (Ž a) (Ž p):=by unfold Ž;apply fE (IU h.1);rintro c x d b ⟨rfl,rfl⟩;exact .fC (h.r b)
def afu{r:Nat}(h:Y r i):fG P (λ_ c q=>∃n a,c=À n/\q=À a/\n<=a) Y (dx r) (dx i):=.uU h λ_ n a c=> .fC ⟨n,a,U,U,c.elim (λq=>by omega) λq=>q.1⟩
def Wy(h:gZ Y a p)(t:Á)(n:Nat):fG P (λ_ b e=>b=É->e=É) Y (Ą a t n) (Ą p t n):=by unfold Ą;apply fE qL;rintro i b j c ⟨d,f⟩;rw[d,f];refine .uU (c.1 _ _ h.1) λe m k g=> ?_;rw[h.2.1];exact .fC λq=>UZ (ο<|g.elim (λq=>by omega) λq=>q.1) q
def afv(a:Ú):fD P (Ž a):=by unfold Ž;repeat' (first|(with_reducible first|exact gG _|exact qj|exact tf _|exact I6 _|refine gp ?_ (λ_=> ?_)|refine mW _ ?_)|split|rfl)
theorem afw(r:Nat):fD P (dx r):=by unfold dx;grind [gG,tf,Vi,gp]
theorem Wz(a:Ú)(t:Á)(n:Nat):fD P (Ą a t n):=by unfold Ą;grind [gG,qj,tf,gp]
theorem afx(l:P.underlying e=À (ð t))(m:P.underlying T=À đ)(o:fl Y x v):kI P fl Y (ö e T x) (ö e T v):=by
 unfold ö;refine kU (iZ e) ?_;rintro z B _ p ⟨rfl,f⟩;rw[l]at f;injection f with f;subst f;refine kU (iZ T) ?_;rintro C D _ q ⟨rfl,g⟩;rw[m]at g;injection g with g;subst g;have r:=(o.fN p).fN q;cases r<;>first|exact .gq .fO|exact .gq (.fC .lJ)|skip
 rename_i a E h;refine kU (Wx h) ?_;intro F b j G i;refine kU (afu i.1) ?_;rintro H c I u ⟨w,J,rfl,rfl,K⟩;refine kU (mU t) ?_;rintro L n _ y ⟨rfl,_⟩;rw[i.2.1,i.2.2];simp only[];by_cases k:(decide (n=0)||(decide (j.off≥w)&&j.spot.isNone))=É
 .rw[if_pos k];exact .CC trivial
 .rw[if_neg k,if_neg]
  .exact .gq (.fC (.jM ((i.r u).r y)))
  .grind
theorem afy{d:Á}(l:P.underlying T=À đ)(o:P.underlying d=À (ð t))(q:fl Y x z):kI P fl Y (ö T d x) (ö T d z):=by
 unfold ö;refine kU (iZ T) ?_;rintro F G _ r ⟨rfl,f⟩;rw[l]at f;injection f with f;subst f;refine kU (iZ d) ?_;rintro H I _ w ⟨rfl,g⟩;rw[o]at g;injection g with g;subst g;have y:=(q.fN r).fN w;cases y<;>first|exact .gq .fO|exact .gq (.fC .lJ)|skip
 rename_i a J h;refine kU (Wx h) ?_;intro K b B L i;refine kU (mU t) ?_;rintro M n _ j ⟨rfl,_⟩;refine kU (Wy (i.r j) t 1) ?_;rintro C v N D O;have Q:kI P fl C (pure<|Þ<|À b) (pure<|Þ<|À B):=.gq (.fC (.jM ((i.r j).r D)));by_cases E:(decide (n=0)||v)=É
 .grind
 .rw[if_neg E];refine .CF λu x S c=> ?_;rw[Ä]at c;simp only[cw,ã,È]at c;cases k:u.shape? b.block with
  |none=>rw[k]at c;cases c
  |some p=>
   let⟨e,m⟩:=p;rw[k]at c;simp only[Ä,ă,È]at c;split at c
   .cases c
   .cases c;exact⟨u.heap.size,.view b t,ß _,fj,trivial⟩
theorem afz(h:(P.underlying e=À (ð t)/\P.underlying T=À đ)\/(P.underlying e=À đ/\P.underlying T=À (ð t)))(x:Â):fD P (ö e T x):=by
 unfold ö;rcases h with⟨b,c⟩|⟨b,c⟩<;>refine we b<|we c ?_;all_goals
  cases x<;>first|exact jc _|skip
  rename_i p;cases p with
  |none=>exact gG _
  |some a=>
   repeat' (first|(with_reducible first|exact afv _|exact afw _|exact Wz _ _ _|exact gG _|exact jc _|exact qj|exact tf _|exact tj _|refine gp ?_ (λ_=> ?_)|refine mW _ ?_|refine IZ _ ?_)|split|(intro _ _ h;cases h;done)|rfl)
theorem WA(b:o.op=aN e T qQ)(h:(P.underlying e=À (ð t)/\P.underlying T=À đ)\/(P.underlying e=À đ/\P.underlying T=À (ð t)))(c:∀y∈o.op.operands,ml X y):mH P X g o:=by
 refine CP (λa=>Œ e T<|a qQ) (λa=> ?_) (λY a i _ _ _ f=> ?_) (λa=> ?_) c
 .unfold ì;rw[b]
 .unfold Œ;apply kU (iZ e);rintro j k _ a ⟨rfl,l⟩;apply kU (iZ T);rintro m n _ i ⟨rfl,p⟩;have q:=((f qQ<|by rw[b];simp[Ê]).fN a).fN i;grind [afx,afy]
 .unfold Œ;grind [afz,we]
theorem afA(a:Ú)(n:Nat):oy P (eV a n):=by
 intro u f;refine⟨λx b e=> ?_,λz b e=>by cases e⟩;cases e;unfold Ė;split
 .exact Kd.fU u
 .refine Vd (λo d=> ?_) λo c e h=> ?_
  .cases o<;>first|exact d.elim|trivial
  .grind
def afB(a:Ú)(n:Nat):fD P (eV a n):=by
 refine⟨afA a n,λu T D=>⟨0,u.freeze a n,λx b e=> ?_⟩⟩;have c:∀T D,(World.tp u T D).freeze a n=World.tp (u.freeze a n) T D:=by intro T D;unfold Ė;split<;>rfl
 simp_all
def WB:∀(n:Nat) {Y:ft} {a c:Ú} (d:ByteArray),gZ Y a c->fG P jm Y (ĕ a d n) (ĕ c d n)
 |0,_,_,_,_,_=> .fC U
 |n+1,Y,a,c,d,h=>by
  unfold ĕ;refine fE (IN h) ?_;intro g v i e f;cases f<;>first|exact .fO|skip
  rename_i k b;cases k<;>first|exact .fO|exact WB n _<|(h.r e).C 1
def WC:∀(n:Nat) (a:Ú) (b:ByteArray),fD P<|ĕ a b n
 |0,_,_=>gG _
 |n+1,a,b=>by
  unfold ĕ;refine gp (Fz _ _) λv=> ?_;split
  .exact WC n _ _
  .exact jc _
def jB(pt:Á)(a:Ú)(n:Nat):ē ByteArray:=do
 if<-Ą a (<-Ū pt) n then ĕ a .empty n else unsupported (ť "String: not so many bytes at ptr")
def afC(pt:Á)(h:gZ Y a p)(n:Nat):fG P jm Y (jB pt a n) (jB pt p n):=by
 unfold jB;refine fE (V:=jm) ?_ ?_
 .unfold Ū;refine fE (iZ pt) ?_;rintro f d _ c ⟨rfl,_⟩;cases d<;>first|exact .fO|exact .fC U
 .rintro i e _ d rfl;apply fE (Wy (h.r d) e n);rintro f b j c g;cases b with
  |true=>rw[g U];exact WB n _<|(h.r d).r c
  |false=>exact .fO
def afD[Ab P](F:jf Y f u w)(h:gZ Y a p){pt:Á}(G:∀u l j,(Ū pt).run P u=ĥ l j->∃k,P.underlying l=À (Β k))(g:(jB pt a<|n+1).run P u=ĥ B W):¬f p.block:=by
 intro H;let⟨c,L,e,M,N,r,O,Q,t,_⟩:=F.r _ _ h.1;let⟨_,_,_,_,o⟩:=t H;unfold jB at g;rw[Ä]at g;cases i:(Ū pt).run P u with
 |halt z x=>rw[i]at g;cases g
 |ok l j=>
  have I:j=u:=by
   unfold Ū at i;rw[Ä]at i;unfold ø at i;rw[Ä,ă]at i;simp only[È]at i;cases D:P.underlying pt with
   |none=>rw[D]at i;cases i
   |some d=>
    rw[D]at i;cases d<;>cases i<;>rfl
  subst I;rw[i]at g;simp only[È]at g;rw[Ä]at g;have y:∃b,(Ą a l<|n+1).run P j=ĥ b j:=by unfold Ą;rw[Ä,ă];simp only[È];rw[Ä];simp only[cw,ã,È];split<;>exact⟨_,U⟩
  rcases o with o|o;rotate_left
  .let⟨k,J⟩:=G _ _ _ i;have K:(Ą a l<|n+1).run P j=ĥ Ã j:=by
    unfold Ą;rw[Ä,ă];simp only[È];rw[Ä];simp only[cw,ã,È];have t:j.shape? a.block=À (e,c.size):=by simp[Θ,r]
    rw[t];simp only[Nat.div_eq_of_lt<|Ab.lt e c.size o,adx J];rfl
   rw[K]at g;cases g
  let⟨b,y⟩:=y;rw[y]at g;simp only[È]at g;split at g
  .unfold ĕ at g;rw[Ä]at g;simp only[aX,ã]at g;cases C:j.cell? a with
   |none=>
    rw[C]at g;simp only[ŋ,r]at g;cases g
   |some v=>
    rw[C]at g;simp only[È]at g;have q:=C;rw[Ae r]at q;cases E:a.spot with
    |some x=>rw[E]at q;cases q
    |none=>
     rw[E]at q;have:=o _ _ (by simpa using q);cases v<;>first|(cases g;done)|skip
     rename_i k m;cases k<;>first|(cases g;done)|cases this
  .cases g
end
section
variable{Y:ft}{d:Nat->Prop}{f:à->Prop}{α:Type}
def yi(a:Á)(p:Option Ú)(n:Int):ē Â:=ê #[a] a #[Þ p,Ć Ŋ n]
def yj(pt a t:Á)(p:Option Ú)(k:ú)(n:Int):ê #[pt,a] t #[Þ p,Ć k n]=yi pt p n:=by cases p<;>rfl
section
variable{pt:Á}{p:Option Ú}
def WE(a:h<0):∃c,∃k:PUnit->ē Â,yi pt p h=(runtimePanic c>>=k):=⟨_,_,if_pos a⟩
def WG(a:¬h<0)(b:h>Ŋ.max):∃c,yi pt p h=unsupported (ť c):=⟨_,(if_neg a).trans<|if_pos b⟩
def NU(a:¬h<0)(b:¬h>Ŋ.max)(c:h=0):yi pt p h=pure (ħ .empty):=by cases p<;>exact(if_neg a).trans<|(if_neg b).trans<|if_pos c
def afE(a:¬h<0)(b:¬h>Ŋ.max)(d:¬h=0):∃c,yi pt ë h=runtimePanic c:=⟨_,(if_neg a).trans<|(if_neg b).trans<|if_neg d⟩
end
def WH(pt:Á)(a:Ú)(c:¬h<0)(d:¬h>Ŋ.max)(e:¬h=0): yi pt (À a) h=(jB pt a h.toNat>>=λs=>eV a h.toNat>>=λ_=>pure<|ħ s):=by refine((if_neg c).trans<|(if_neg d).trans<|if_neg e).trans ?_;unfold jB;show _=ç (ç _ _) _;rw[ř];congr 1;funext et;show ç _ _=ç (ç _ _) _;rw[ř];congr 1;funext b;cases b<;>rfl
def afF(pt:Á)(p:Option Ú)(n:Int):fD P (yi pt p n):=by cases p<;>show fD P (if n<0 then _ else _)<;>repeat' (first|(with_reducible first|exact Wz _ _ _|exact WC _ _ _|exact afB _ _|exact gG _|exact I2 _|exact vZ _|refine gp ?_ (λ_=> ?_)|refine mW _ ?_)|split|rfl)
theorem afG(_hW:jf Y d u w):∀(n:Nat) {a i:Ú} {j s:ByteArray},gZ Y a i->a.spot=ë->(ĕ a j n).run P u=ĥ s W->∀c e f,u.heap[a.block]?=À (Č c e f)->a.off<=c.size->a.off+n<=c.size:=by
 intro n
 induction n with
 |zero=>intro a i j s _ _ _ c e f _ r;exact r
 |succ n t=>
  intro a i j s h p b c e f l _;unfold ĕ at b;rw[Ä]at b;simp only[aX,ã]at b;cases o:u.cell? a with
  |none=>
   rw[o]at b;simp only[ŋ,l]at b;cases b
  |some v=>
   rw[o]at b;simp only[È]at b;have q:=o;rw[Ae l,p]at q;have y:=(Ë.1<|by simpa using q).1;cases v<;>first|(cases b;done)|skip
   rename_i k m;cases k<;>first|(cases b;done)|skip
   have g:a.add 1={a with off:=a.off+1}:=by unfold Addr.add;grind
   have x:=h.C 1;have:=t x (by rwa[g]) b c e f (by rwa[g]) (by rw[g];simp only;omega);rw[g]at this;simp only at this;omega
end
section
variable{Y:ft}{g:Nat->Prop}{r:à->Prop}{α:Type}
def NV(pt a t:Á)(p:Option Ú)(y:Â):ê #[pt,a] t #[Þ p,y]=(dB y>>=λn=>yi pt p n):=by cases p<;>rfl
def WI:∀(n:Nat) {a:Ú} {f s:ByteArray} {u c:Æ},(ĕ a f n).run P u=ĥ s c->c=u
 |0,_,_,_,_,_,h=>by cases h;rfl
 |n+1,a,f,s,u,c,h=>by
  unfold ĕ at h;rw[Ä]at h;have g:∀v b,(aX a).run P u=ĥ v b->b=u:=by
   intro v b e;simp only[aX,ã]at e;split at e
   .cases e;rfl
   .split at e<;>cases e;rfl
  cases d:(aX a).run P u with
  |halt z w=>rw[d]at h;cases h
  |ok v b=>
   have:=g v b d;subst this;rw[d]at h;simp only[È]at h;cases v<;>first|(cases h;done)|skip
   rename_i k m;cases k<;>first|(cases h;done)|exact WI n h
def afH{pt:Á}(c:(jB pt a n).run P u=ĥ B w):w=u/\(ĕ a .empty n).run P u=ĥ B u:=by
 unfold jB at c;rw[Ä]at c;cases e:(Ū pt).run P u with
 |halt z x=>rw[e]at c;cases c
 |ok z x=>
  have f:x=u:=by
   unfold Ū at e;rw[Ä]at e;unfold ø at e;rw[Ä,ă]at e;simp only[È]at e;cases b:P.underlying pt with
   |none=>rw[b]at e;cases e
   |some d=>
    rw[b]at e;cases d<;>cases e<;>rfl
  subst f;rw[e]at c;simp only[È]at c;rw[Ä]at c;have d:∃b,(Ą a z n).run P x=ĥ b x:=by unfold Ą;rw[Ä,ă];simp only[È];rw[Ä];simp only[cw,ã,È];split<;>exact⟨_,U⟩
  let⟨b,d⟩:=d;rw[d]at c;simp only[È]at c;split at c
  .have:=WI n c;subst this;exact⟨U,c⟩
  .cases c
def Jm(P:Õ)(t:Á):Bool:=match P.underlying t with
 |some (ð e)=>(match P.underlying e with|some (Β _)=>É|_=>Ã)
 |_=>Ã
theorem afI{P:Õ}{pt:Á}(h:Jm P pt=É):∀u b c,(Ū pt).run P u=ĥ b c->∃k,P.underlying b=À (Β k):=by
 intro u b c a;unfold Ū ø at a;rw[Ä,Ä,ă]at a;simp only[È]at a;unfold Jm at h;split at h
 .rename_i e d;rw[d]at a;cases a;grind
 .cases h
def afJ[Ab P]{y:Ö}{pt:Á}(W:o.op=Ω {callee:=ĝ cW,args:=#[qQ,y],argTypes:=#[pt,T]})(hpt:Jm P pt=É)(WJ:∀z∈o.op.operands,ml X z):mH P X r o:=by
 have he:∀M:Ö->Â,ì M o=(ê #[pt,T] o.type #[M qQ,M y]>>=λv=>pure<|ï v):=by intro M;unfold ì;rw[W];simp only[ù,č,Ē,pure_bind,Ø,â,ä]
 have N:∀v w:Â,fD P (ê #[pt,T] o.type #[v,w]):=by
  intro v w;cases v<;>first|exact jc _|skip
  rw[NV];exact gp (FB _) λn=>afF _ _ _
 have hk:∀(a:bF) (u:Æ) (n:Ο) (C:Æ),(ì a.eval o).run P u=ĥ n C->∃v,n=ï v:=by
  intro a u n C b;rw[he,Ä]at b;cases O:(ê #[pt,T] o.type #[a.eval qQ,a.eval y]).run P u with
  |ok v w=>rw[O]at b;cases b;exact⟨v,U⟩
  |halt z w=>rw[O]at b;cases b
 refine⟨?_,λa=>by rw[he];exact lN<|N _ _,λa u n C b=>Ç<|hk a u n C b,λa u f c C b=>by let⟨v,e⟩:=hk a u _ C b;cases e⟩;intro Y g t t' u w hz hb hG ht J hl z C b hc;have hx:=wy hG ht (WJ qQ<|by rw[W];simp[Ê,ô]);have Q:=wy hG ht (WJ y<|by rw[W];simp[Ê,ô]);rw[he]at b|-;generalize å ⟨t,[]⟩ qQ=v at hx b;generalize å ⟨t',[]⟩ qQ=v' at hx|-;generalize å ⟨t,[]⟩ y=l at Q b;generalize å ⟨t',[]⟩ y=l' at Q|-;have E:fG P fl Y (ê #[pt,T] o.type #[v,l]) (ê #[pt,T] o.type #[v',l'])->∃(K:ft) (x':Ο) (w':Æ) (S:Array ý),Y.r K/\(∀i j,K i j->Y i j\/(u.heap.size<=i/\w.heap.size<=j))/\(ê #[pt,T] o.type #[v',l']>>=λv=>pure (ï v):ē Ο).runT P w #[]=(ĥ x' w',#[]++S)/\oQ K z x'/\jf K g C w'/\nF Y g w w'/\(∀e∈S,Ad K g e)/\u.heap.size<=C.heap.size:= λh=>(mG h).gl J hl b #[];cases hx with
 |lJ=>
  apply E;rw[NV,NV];apply fE (M7 Q);rintro WK n _ _ rfl;by_cases B:n<0
  .let⟨c,k,q⟩:=WE (pt:=pt) (p:=ë) B;rw[q];exact .ox (vT<|qO _)
  .by_cases d:n>Ŋ.max
   .let⟨c,q⟩:=WG (pt:=pt) (p:=ë) B d;rw[q];exact .fO
   .by_cases D:n=0
    .rw[NU B d D];exact .fC (.kq _)
    .let⟨c,q⟩:=afE (pt:=pt) B d D;rw[q];apply IT
 |jM F=>
  rename_i a a';cases Q with
  |iE k n=>
   by_cases B:n<0
   .apply E;let⟨c,k,q⟩:=WE (pt:=pt) (p:=À a) B;rw[yj,yj,q];exact .ox (vT<|qO _)
   .by_cases d:n>Ŋ.max
    .apply E;let⟨c,q⟩:=WG (pt:=pt) (p:=À a) B d;rw[yj,yj,q];exact .fO
    .by_cases D:n=0
     .apply E;rw[yj,yj,NU B d D,NU B d D];exact .fC (.kq _)
     .rw[yj,WH pt a B d D]at b;rw[yj,WH pt a' B d D];obtain⟨m,O⟩:∃m,n.toNat=m+1:=⟨n.toNat-1,Z⟩;rw[O]at b|-;cases L:(jB pt a<|m+1).run P u with
      |halt z w=>
       rw[Ä,Ä,L]at b;cases b
      |ok s u1=>
       obtain⟨rfl,WL⟩:=afH L;rw[Ä,Ä,L]at b;have Ap:=b;cases Ap;let⟨WK,s',w1,es,k1,k2,k3,k4,k5,G,k7,k8⟩:=(afC pt F<|m+1).gl J hl L #[];have S:=k4;subst S;let⟨c,c',e,fr,vU,V,hw,si,_⟩:=J.r _ _ F.1;have WM:a.spot=ë/\a.off<c.size:=by
        have H:=WL;unfold ĕ at H;rw[Ä]at H;simp only[aX,ã]at H;cases I:u1.cell? a with
        |none=>
         rw[I]at H;simp only[ŋ,V]at H;cases H
        |some v=>
         rw[Ae V]at I;cases oA:a.spot with
         |some qQ=>rw[oA]at I;cases I
         |none=>rw[oA]at I;exact⟨U,(Ë.1<|by simpa using I).1⟩
       have fits:∀c e fr,u1.heap[a.block]?=À (Č c e fr)->a.off+(m+1)<=c.size:=by intro c2 e2 qk d;rw[V]at d;injection d with d;injection d with q1 q2 q3;subst q1;exact afG J (m+1) F WM.1 WL c e fr V<|Nat.le_of_lt WM.2
       refine⟨WK,ï<|ħ s,w1.freeze a'<|m+1,es,k1,k2,?_,.nH (.kq s),k5.acR (F.r k1) (m+1) fits,?_,k7,by rw[IK];exact ß _⟩
       .show é P (ç (ç _ _) _) w #[]=_;rw[Ñ,Ñ,k3];rfl
       .refine⟨by rw[IK];exact G.r,acN.trans G.I,acO.trans G.M,M1.trans G.S,λj hj N=> ?_,λj hs hj=> ?_⟩
        .rw[IL (λe=>N a.block<|by rw[<-e];exact F.1)];exact G.C j hj N
        .rw[IL (λe=>(afD J F (afI hpt) L)<|by rwa[e])];exact G.N j hs hj
  |_=>exact E .fO
 |_=>exact E .fO
end
section
variable{Y:ft}{g:Nat->Prop}{i:à->Prop}{α:Type}
theorem afK(a:Ú):fD P (bm a):=by unfold bm;grind [gG,tf,Nt,gp]
theorem afL(a b:Ú):fD P (cK a b):=by unfold cK;grind [afK,gG,tf,gp]
def afM(a b:Ú):fD P (Ŭ a b):=by unfold Ŭ;repeat' (first|(with_reducible first|exact afL _ _|exact gG _|exact sd _|exact Nt _|exact VA _|refine gp ?_ (λ_=> ?_)|refine mW _ ?_)|split|rfl)
def WN(h:P.underlying t=À (ð e))(x y:Â):fD P (ó t x y):=by unfold ó ā Λ;refine we h ?_;repeat' (first|(with_reducible first|exact afM _ _|exact gG _|exact jc _|exact sd _|exact tj _|refine gp ?_ λ_=> ?_)|contradiction|split)
def afN{a:ġ}(b:a=aA\/a=aL)(h:P.underlying t=À (ð e))(x y:Â):fD P (Ũ a t x y):=by
 have c:=WN h x y;rcases b with rfl|rfl;all_goals
  unfold Ũ;repeat' (first|(with_reducible first|exact WN h _ _|exact gG _|exact jc _|exact Ny _ _ _ _|exact VU _ _ _ _ _ _|exact VW _ _ _|exact NC _ _ _|refine gp ?_ λ_=> ?_)|contradiction|split)
def yk(u:Æ)(r:Nat):Prop:=∃c e a,u.heap[r]?=À (Č c e a)/\a.2<=c.size
def Jn(a:Ú)(u:Æ)(b:Array ý):(eN a).runT P u b=(ĥ (u.frozen? a) u,b):=rfl
def Jo{r:Nat}(h:u.heap[r]?=À (Č d e xJ))(a:Array ý):(cw r).runT P u a=(ĥ (À (e,d.size)) u,a):=by simp only[cw,é,Θ,h]
def WO(h:yk u a.block)(b:Array ý):(bm a).runT P u b=(ĥ (u.frozen? a) u,b):=by
 let⟨c,e,f,d,g⟩:=h;unfold bm;show é P (ç _ _) u b=_;rw[Ñ,Jn];cases i:u.frozen? a with
 |true=>rfl
 |false=>
  simp only[Å,if_false];show é P (ç _ _) u b=_;rw[Ñ,Jo d];simp only[];rw[Jn];have:u.frozen? {block:=a.block,off:=c.size}=Ã:=by simp only[Ĉ,d];simp;omega
  rw[this]
def WQ(f:u.heap[a.block]?=À (Č d e xJ))(g:xJ.2<=d.size)(b:u.frozen? a=É):d.size≠0:=by simp only[Ĉ,f]at b;simp at b;omega
def afO(i:yk u a.block)(j:yk u p.block)(k:(u.frozen? a&&u.frozen? p)=Ã)(g:Array ý):(cK a p).runT P u g=(ĥ Ã u,g):=by
 have q:=i;have r:=j;let⟨c,e,w,l,s⟩:=q;let⟨d,f,x,m,t⟩:=r;unfold cK;show é P (ç _ _) u g=_;rw[Ñ,WO i];simp only[];show é P (ç _ _) u g=_;rw[Ñ,WO j];simp only[];show é P (ç (ç _ _) _) u g=_;rw[Ñ,Ñ,Jo l];simp only[];show é P (ç (ç _ _) _) u g=_;rw[Ñ,Ñ,Jo m];simp only[];congr 2;cases o:u.frozen? a with
 |true=>
  rw[o]at k;have h:u.frozen? p=Ã:=by simpa using k
  have:=WQ l s o;simp only[h];cases v:c.size with
  |zero=>exact absurd v this
  |succ n=>rfl
 |false=>
  cases h:u.frozen? p with
  |true=>
   have:=WQ m t h;cases v:d.size with
   |zero=>exact absurd v this
   |succ n=>rfl
  |false=>rfl
def WR(h:yk u a.block)(b:Array ý):(aY a).runT P u b=(ĥ () u,b):=by let⟨c,e,f,d,g⟩:=h;unfold aY dj;show é P (ç (ç _ _) _) u b=_;rw[Ñ,Ñ,Jo d];rfl
def WS(e:yk u a.block)(f:yk u p.block)(c:Array ý):(Ŭ a p).runT P u c= if(a.block==p.block)=É then(ĥ (a==p) u,c)else if(u.frozen? a&&u.frozen? p)=É then(bV (ŀ .addressObserved) u,c)else(ĥ Ã u,c):=by
 unfold Ŭ;by_cases h:(a.block==p.block)=É
 .simp_all
 .rw[if_neg h,if_neg h];show é P (ç _ _) u c=_;rw[Ñ,Jn];simp only[];show é P (ç _ _) u c=_;rw[Ñ,Jn];simp only[];by_cases d:(u.frozen? a&&u.frozen? p)=É
  .simp_all
  .rw[if_neg d,if_neg d];show é P (ç _ _) u c=_;rw[Ñ,WR e];simp only[];show é P (ç _ _) u c=_;rw[Ñ,WR f];simp only[];show é P (ç _ _) u c=_;rw[Ñ,afO e f (by simpa using d)];rfl
end
section
variable{Y:ft}{g:Nat->Prop}{j:à->Prop}
def afP{d:dG}(h:P.underlying t=À d)(u:Æ)(a:Array ý):(ø t).runT P u a=(ĥ d u,a):=by unfold ø;simp_all
theorem afQ(h:P.info? t=À zJ)(u:Æ)(a:Array ý):(ay t).runT P u a=(ĥ zJ.size u,a):=by
 unfold ay;show é P (ç _ _) u a=_;rw[Ñ];have:(Δ t).runT P u a=(ĥ zJ u,a):=by unfold Δ;simp_all
 rw[this];rfl
theorem WT(h:P.underlying t=À (ð e))(d:P.info? e=À zJ)(f:zJ.size≠0)(a b:Ú)(u:Æ)(c:Array ý):(ó t (Þ<|À a)<|Þ<|À b).runT P u c=(Ŭ a b).runT P u c:=by unfold ó ā Λ;show é P (ç _ _) u c=_;rw[Ñ,afP h];simp only[];show é P (ç _ _) u c=_;grind [Ñ,afQ]
def iu(a:ġ)(r:Bool):Bool:=if a=aA then r else !r
def WU{d:ġ}(k:d=aA\/d=aL)(h:P.underlying t=À (ð e))(g:P.info? e=À zJ)(j:zJ.size≠0)(x y:Ö)(a b:Ú)(u:Æ)(c:Array ý): ((ŷ d t x y (Þ<|À a) (Þ<|À b)>>=λ_=>Ũ d t (Þ<|À a)<|Þ<|À b)>>=λv=>pure (ï v):ē Ο).runT P u c= match(Ŭ a b).runT P u c with
 |(ĥ r u',f)=>(ĥ (ï<|Ľ<|iu d r) u',f)
 |(bV z u',f)=>(bV z u',f):=by
 rcases k with rfl|rfl
 .show é P (ç (ç (ó t (Þ<|À a)<|Þ<|À b) λr=>aI<|Ľ r) λv=>aI<|ï v) u c=_;rw[Ñ,Ñ,WT h g j];cases(Ŭ a b).runT P u c with
  |mk r f=>cases r<;>rfl
 .show é P (ç (ç (ó t (Þ<|À a)<|Þ<|À b) λr=>aI<|Ľ !r) λv=>aI<|ï v) u c=_;rw[Ñ,Ñ,WT h g j];cases(Ŭ a b).runT P u c with
  |mk r f=>cases r<;>rfl
theorem afR{m:ġ}{r:Á}{y:Ö}(E:o.op=dT m t qQ y r)(H:m=aA\/m=aL)(h:P.underlying t=À (ð e))(T:P.info? e=À zJ)(V:zJ.size≠0)(I:∀z∈o.op.operands,ml X z):mH P X j o:=by
 have J:∀B:Ö->Â,ì B o=((ŷ m t qQ y (B qQ) (B y)>>=λ_=>Ũ m t (B qQ)<|B y)>>=λv=>pure<|ï v):=by intro B;unfold ì;rw[E]
 have W:∀(a:bF) (u:Æ) (n:Ο) (s:Æ),(ì a.eval o).run P u=ĥ n s->∃v,n=ï v:=by
  intro a u n s k;rw[J,Ä]at k;cases C:(ŷ m t qQ y (a.eval qQ) (a.eval y)>>=λ_=>Ũ m t (a.eval qQ)<|a.eval y).run P u with
  |ok v w=>rw[C]at k;cases k;exact⟨v,U⟩
  |halt z w=>rw[C]at k;cases k
 refine⟨?_,λa=> ?_,λa u n s k=>Ç<|W a u n s k,λa u f c s k=>by let⟨v,e⟩:=W a u _ s k;cases e⟩
 .intro Y g D WV u w K hb L M p hl z s k hc;have N:=wy L M (I qQ<|by rw[E];simp[Ê]);have O:=wy L M (I y<|by rw[E];simp[Ê]);by_cases Q:mV (å ⟨D,[]⟩ qQ)\/mV (å ⟨D,[]⟩ y)
  .have hOk:j5 P (å ⟨D,[]⟩) o.op:=by
    rw[E];exact .CI m t qQ y r λ_=>Î ⟨⟨e,h⟩,Q⟩
   exact(U9 K p.C hb (λf=>rfl) hOk λz K=>wy L M<|I z K).gl p hl k hc #[]
  .have n1:=λq=>Q<|Ç q;have n2:=λq=>Q<|Î q;rw[J]at k|-;generalize å ⟨D,[]⟩ qQ=v at N k n1;generalize å ⟨WV,[]⟩ qQ=v' at N|-;generalize å ⟨D,[]⟩ y=l at O k n2;generalize å ⟨WV,[]⟩ y=l' at O|-;cases N<;>first|exact absurd trivial n1|skip
   cases O<;>first|exact absurd trivial n2|skip
   rename_i a a' F b b' G;have fit:∀{c S:Ú},gZ Y c S->yk u c.block/\yk w S.block:=by intro c S hcc;let⟨d,d',e2,fr,vU,hu,hw,si,pH,NW,hfr⟩:=p.r _ _ hcc.1;refine⟨⟨d,e2,fr,hu,hfr⟩,d',e2,vU,hw,?_⟩;refine õ ?_ si.I;grind
   let⟨fa,fa'⟩:=fit F;let⟨fb,fb'⟩:=fit G;rw[<-Ρ P _ u #[],WU H h T V,WS fa fb]at k;rw[WU H h T V,WS fa' fb'];rw[<-(IV p.C F G),<-(UW p.C F G)];by_cases q:(a.block==b.block)=É
   .rw[if_pos q]at k|-;cases k;exact⟨Y,_,w,#[],ft.M _,λ_ _ q=>Ç q,U,.nH (.mj _),p,nF.fU _ _ _,λ_ C=>absurd C fj,ß _⟩
   .rw[if_neg q]at k|-;by_cases q2:(u.frozen? a&&u.frozen? b)=É
    .grind
    .rw[if_neg q2]at k;have q3:¬(w.frozen? a'&&w.frozen? b')=É:=by
      intro q4;let⟨z1,z2⟩:=Ü.1 q4;exact q2<|Ü.2 ⟨p.G F z1,p.G G z2⟩
     rw[if_neg q3];cases k;exact⟨Y,_,w,#[],ft.M _,λ_ _ q=>Ç q,U,.nH (.mj _),p,nF.fU _ _ _,λ_ C=>absurd C fj,ß _⟩
 .rw[J];exact lN<|gp (V1 m t (λ_=>Î ⟨e,h⟩) qQ y _ _) λ_=>afN H h _ _
end
def NY(P:Õ)(s d:Á):Bool:=match P.underlying s,P.underlying d with
 |some (di e),À ę=>(match P.underlying e with|some (Β .u8)=>É|_=>Ã)
 |some (ð _),À đ=>É
 |some đ,À (ð _)=>É
 |_,_=>Ã
def NZ(P:Õ)(t:Á):Bool:=match P.underlying t with
 |some (ð e)=>(match P.info? e with|some i=>i.size !=0|none=>Ã)
 |_=>Ã
def N0(P:Õ)(b:à->Bool)(c:Callee)(a:List Ö)(d:List Á):Bool:=match c with
 |ĝ .min=>a.length !=0
 |ĝ bl=>a.length==1
 |ĝ cW=>a.length==2&&(match d with|[t,_]=>Jm P t|_=>Ã)
 |cj (aO f)=>b f&&a.length==1
 |_=>Ã
def N4(P:Õ)(a:à->Bool):Op->Bool
 |cJ _ _|.panic _=>É
 |dT c t _ _ _=>(c==aA||c==aL)&&NZ P t
 |aN s d _=>NY P s d
 |Ω c=>N0 P a c.callee c.args.toList c.argTypes.toList
 |_=>Ã
def CQ(P:Õ)(a:Nat->Bool)(b c:à->Bool)(o:av):Bool:=NT P a b o||(N4 P c o.op&&o.op.operands.all (wA a))
def FH(P:Õ)(c:à->Bool):Prop:=∀f,c f=É->∃a e,P.funcs[f]?=À a/\(a.name== "runtime.NumGoroutine")=Ã/\a.body.isNone=É/\Extern.findNext a=ë/\Extern.find a=À e/\
 (∀(Y:ft) (v b:Â),fl Y v b->fG P fl Y (e #[v]) (e #[b]))/\∀v,fD P<|e #[v]
theorem Jp[Ab P]{g:Nat->Bool}{k x:à->Bool}(C:FH P x)(h:CQ P g k x o=É):mH P (λj=>g j=É) (λf=>k f=É) o:=by
 rcases Ŝ.1 h with h|h
 .exact ae6 h
 .let⟨v,S⟩:=Ü.1 h;have q:∀z∈o.op.operands,ml (λj=>g j=É) z:=by
   grind [ŉ,Jj,Ń]
  cases n:o.op with
  |makeInterface t y=>exact ae7 n q
  |panic y=>exact afa n q
  |binOp w t a b r=>
   rw[n]at v;let⟨T,m⟩:=Ü.1 (show((w==aA||w==aL)&&NZ P t)=É from v);have D:w=aA\/w=aL:=by grind
   unfold NZ at m;split at m
   .rename_i e E;split at m
    .rename_i i F;exact afR n D E F (by simpa using m) q
    .cases m
   .cases m
  |convert s d y=>
   rw[n]at v;have m:NY P s d=É:=v;unfold NY at m;split at m
   .rename_i e u p;split at m
    .rename_i G;exact afk n u p G q
    .cases m
   .rename_i t u p;exact WA n (Ç ⟨u,p⟩) q
   .rename_i t u p;exact WA n (Î ⟨u,p⟩) q
   .cases m
  |call c=>
   rw[n]at v;let⟨H,I,B⟩:=c;have m:N0 P x H I.toList B.toList=É:=v;unfold N0 at m;split at m
   .exact afg n q
   .obtain⟨y,rfl⟩:=Jl m;exact afs n q
   .let⟨u,p⟩:=Ü.1 m;obtain⟨y,z,rfl⟩:=NS u;let⟨l⟩:=B;match l,p with
    |[t1,t2],p=>exact afJ n p q
   .rename_i f;let⟨u,p⟩:=Ü.1 m;obtain⟨y,rfl⟩:=Jl p;let⟨V,e,J,K,L,M,N,O,Q⟩:=C f u;exact afl n J K L M N O Q q
   .cases m
  |_=>rw[n]at v;simp[N4]at v
def nK(P:Õ)(a:Nat->Bool)(b d:à->Bool):ak->Bool
 |.ret|eO|dZ _|eR _|eS _=>É
 |.seq x y=>nK P a b d x&&nK P a b d y
 |bz c x y=>wA a c&&nK P a b d x&&nK P a b d y
 |ea _ c|eP c|eb c=>nK P a b d c
 |bQ _ c _=>c.all<|CQ P a b d
 |dt _=>É
 |_=>Ã
def u9[Ab P]{g:Nat->Bool}{k x:à->Bool}(a:FH P x):∀{c:ak},nK P g k x c=É->kJ P (λj=>g j=É) (λf=>k f=É) c
 |.ret,_=> .uY
 |eO,_=> .rY
 |dZ l,_=> .wh l
 |eR l,_=> .wo l
 |eS l,_=> .wq l
 |.seq y z,h=>by let⟨f,i⟩:=Ü.1 (show(nK P g k x y&&nK P g k x z)=É from h);exact .qS (u9 a f) (u9 a i)
 |bz c y z,h=>by let⟨f,i⟩:=Ü.1 (show(wA g c&&nK P g k x y&&nK P g k x z)=É from h);let⟨j,f⟩:=Ü.1 f;exact .tq (Jj j) (u9 a f) (u9 a i)
 |ea id c,h=> .qT id (u9 a<|show nK P g k x c=É from h)
 |eP c,h=> .wi (u9 a<|show nK P g k x c=É from h)
 |eb c,h=> .wm (u9 a<|show nK P g k x c=É from h)
 |bQ id ops d,h=> .tu id d λo f=>by obtain⟨i,j,rfl⟩:=ŉ.1 f;exact Jp a<|Ń.1 (show ops.all (CQ P g k x)=É from h) i j
 |.rangeFunc _ _ _ _,h=>by simp[nK]at h
 |dt w,_=> .nI w
end Go.Proofs.Y.Lift
namespace Go.Proofs.Y.fv
open Go Go.Conc Go.Proofs.Y.Lift
def qm(t:ğ)(g:Nat)(l:dR):Prop:=∀p a,Ě t p=À a->a.loc=l->bD t g p
def oV(t:ğ)(g:Nat)(l:dR):Prop:=∀p a,Ě t p=À a->a.loc=l->a.write=É->bD t g p
def qm.r{t:ğ}{l:dR}(h:qm t i l):oV t i l:=λp a b c _=>h p a b c
section
variable{t u:ğ}{g:Nat}{l:dR}
theorem mK{a:dM}(h:Ě (t++u) i=À a):(i<t.size/\Ě t i=À a)\/(t.size<=i/\∃x∈u,x.act.touch?=À a/\(t++u)[i]?=À x):=by
 let⟨x,c,d⟩:=dN h;rcases getElem?_append_cases c with⟨b,e⟩|⟨b,f⟩
 .exact Ç ⟨b,by rwa[touchAt_of e]⟩
 .grind
theorem qm.C(h:qm t g l)(j:∀c∈u,∀b,c.act.touch?=À b->b.loc=l->c.g=g):qm (t++u) g l:=by
 intro p a e f;rcases mK e with⟨_,d⟩|⟨_,c,d,k,i⟩
 .exact(h p a d f).app u
 .have:=bn i;grind
theorem oV.r(h:oV t g l)(k:∀c∈u,∀b,c.act.touch?=À b->b.loc=l->b.write=É->c.g=g):oV (t++u) g l:=by
 intro p a e f i;rcases mK e with⟨_,d⟩|⟨_,c,d,m,j⟩
 .exact(h p a d f i).app u
 .have:=bn j;grind
def qm.xZ(h:∀p a,Ě t p=À a->a.loc≠l):qm t g l:=λp a b c=>absurd c<|h p a b
theorem N5(h:∀c,¬eE c t)(l:∀d∈u,d.g=g)(m:∀d∈u,∀b,d.act.touch?=À b->(b.write=Ã/\oV t g b.loc)\/qm t g b.loc\/(b.kind=Ŕ/\∀p a,Ě t p=À a->a.loc=b.loc->a.kind=eX->bD t g p)):∀c,¬eE c (t++u):=by
 intro c;refine noRace_append (h c) l λi a f d n b o r=> ?_;let⟨j,v,e,w⟩:=r;rcases m d n b o with⟨s,k⟩|q|⟨s,k⟩
 .rcases e with e|e
  .exact k i a f j e
  .grind
 .exact q i a f j
 .grind
theorem Aq(f:∀c,¬eE c t)(r:∀d∈u,d.act.touch?=ë):∀c,¬eE c (t++u):=by
 intro c;rintro⟨i,j,g,⟨a,b,h,k,l⟩,m,n⟩;rcases mK k with⟨s,e⟩|⟨_,d,e,v,_⟩
 .rcases mK h with⟨o,p⟩|⟨o,_⟩
  .exact f c ⟨i,j,g,⟨a,b,p,e,l⟩,λq=>m<|eg u q,λq=>n<|eg u q⟩
  .omega
 .grind
end
structure fc where
 O:Nat->Prop
 I:Nat->Prop
 r:Ú->Prop
 N:Ú->Prop
 K:Ú->Prop
 d:Nat
 q:Prop
 w:Æ
def fc.M(l:fc):Nat->Prop:=λj=>l.O j\/l.I j
def fc.C(l:fc):Ú->Prop:=λa=>l.r a\/l.N a
structure fH(l:fc)(w w₁:Æ):Prop where
 r:w.heap.size<=w₁.heap.size
 I:∀j,l.M j->w₁.heap[j]?=w.heap[j]?
 N:∀a,l.C a->w₁.cell? a=w.cell? a
 Y:∀a,l.C a->w₁.frozen? a=w.frozen? a
 S:∀a,l.K a->(w.cell? a).isSome=É->(w₁.cell? a).isSome=É
theorem fH.fU(l:fc)(w:Æ):fH l w w:=⟨ß _,λ_ _=>rfl,λ_ _=>rfl,λ_ _=>rfl,λ_ _ h=>h⟩
def fH.fg{l:fc}{c:Æ}(h:fH l w u)(k:fH l u c):fH l w c:= ⟨õ h.r k.r,λj d=>(k.I j d).trans<|h.I j d,λj d=>(k.N j d).trans<|h.N j d,λj d=>(k.Y j d).trans<|h.Y j d,λw e q=>k.S w e<|h.S w e q⟩
def kQ(w:Æ)(b:Nat):Option (Nat×Nat):=match w.heap[b]? with
 |some (Č _ _ fr)=>À fr
 |_=>ë
def wB{w':Æ}(h:w'.heap[b]?=w.heap[b]?):kQ w' b=kQ w b:=by unfold kQ;rw[h]
theorem WW(w:Æ)(a:Ú):w.frozen? a=match kQ w a.block with
 |some (lo,hi)=>decide (lo<=a.off)&&decide (a.off<hi)
 |none=>Ã:=by
 unfold Ĉ kQ;grind
def Jq(h:kQ u a.block=kQ w a.block):u.frozen? a=w.frozen? a:=by rw[WW,WW,h]
def yl(l:fc)(e:ý):Prop:=
 (∃a:Ú,e.loc=û a/\(l.O a.block\/l.r a\/((l.I a.block\/l.N a)/\e.write=Ã/\e.sync=Ã)))\/e.loc=ů dc\/(∃f,e.loc=ů (.extern f))\/e.loc=ů cL\/e.loc=ů dy\/
 ∃a:Ú,l.O a.block/\(e.loc=ů (.read a)\/e.loc=ů (.write a)\/e.loc=ů (Ķ a)\/e.loc=ů (cM a))
structure mo(l l':fc)(w w':Æ)(es:Array ý):Prop where
 C:w.heap.size<=w'.heap.size
 S:∀j,l'.O j->l.O j\/w.heap.size<=j
 fx:∀j,l'.O j->j<w'.heap.size
 I:l'.I=l.I
 r:l'.r=l.r
 M:l'.N=l.N
 k:l'.K=l.K
 jO:∀j,j<w.heap.size->¬l.O j->(∀a:Ú,a.block=j->¬l.r a)->w'.heap[j]?=w.heap[j]?
 N:∀a:Ú,a.block<w.heap.size->¬l.O a.block->¬l.r a->w'.cell? a=w.cell? a
 Y:∀a:Ú,a.block<w.heap.size->¬l.O a.block->kQ w' a.block=kQ w a.block
 f:w'.os=w.os
 g:w'.output=w.output
 m:w'.tape=w.tape
 c:∀e∈es,yl l' e
 h:l'.d=ŭ l.d es
 q:l'.q=l.q
 i:l.q->w'=w/\(∀e∈es,e.mute=É)/\l'.O=l.O
 b:l'.w=w'
structure N6(t:ğ)(g:Nat)(l:fc):Prop where
 fp:∀a:Ú,l.O a.block->qm t g (û a)
 C:∀a:Ú,l.I a.block->oV t g (û a)
 I:∀a:Ú,l.r a->qm t g (û a)
 r:∀a:Ú,l.N a->oV t g (û a)
theorem WX{l:fc}{e:ý}(h:yl l e){b:dM}(c:(è e).touch?=À b):∃a:Ú,b.loc=û a/\(l.O a.block\/l.r a\/((l.I a.block\/l.N a)/\b.write=Ã)):=by
 let⟨k,i,j⟩:=e;rcases h with⟨a,g,d⟩|h|⟨f,h⟩|h|h|⟨a,g,d⟩
 .simp only at g d;subst g;have:(è ⟨û a,i,j⟩).touch?=À ⟨û a,i,if j then Ŕ else eX⟩:=U;grind
 .simp only at h;subst h;simp[è,ÿ]at c
 .simp only at h;subst h;simp[è,ÿ]at c
 .simp only at h;subst h;simp[è,ÿ]at c
 .simp only at h;subst h;simp[è,ÿ]at c
 .simp only at d;rcases d with rfl|rfl|rfl|rfl<;>simp[è,ÿ]at c<;>subst c;all_goals grind
def afS{l:fc}(d:∀j,l.O j->j<i)(k:∀j,l.I j->j<i)(g:∀a:Ú,l.C a->a.block<i){e:ý}(h:yl l e):(è e).low i:=by
 let⟨m,n,o⟩:=e;rcases h with⟨a,c,b⟩|h|⟨f,h⟩|h|h|⟨a,c,b⟩
 .simp only at c b;subst c;rcases b with h|h|⟨h|h,_⟩
  .exact d _ h
  .exact g _<|Ç h
  .exact k _ h
  .exact g _<|Î h
 .simp only at h;subst h;trivial
 .simp only at h;subst h;trivial
 .simp only at h;subst h;trivial
 .simp only at h;subst h;trivial
 .simp only at b;rcases b with rfl|rfl|rfl|rfl<;>exact d _ c
def WY(B:Nat)(t:ğ):Prop:=∀a∈t,a.act.low B
def WZ(h:WY i qJ){a:dM}(g:Ě qJ n=À a){x:Ú}(d:a.loc=û x):x.block<i:=by
 let⟨f,j,b⟩:=dN g;have c:=h f<|Û j;revert b c;cases f.act with
 |access e=>
  intro b c;simp only[ÿ,ž]at b;subst b;simp only at d;simp only[MemAct.low,d,Loc.low]at c;exact c
 |mark m=>
  intro b c;cases m<;>simp[ÿ]at b;all_goals
   subst b;simp only[Loc.cell.injEq]at d;subst d;exact c
 |_=>intro b _;simp[ÿ]at b
theorem nY{a:String}:∀op∈Í i F a V,op.g=i:=λop b=>by obtain⟨e,_,rfl⟩:=í (op:=op) b;rfl
structure iQ(B0:Nat)(Live:Nat->Prop)(Y:Nat->Prop)(lot:Nat->fc)(w:Æ)(t:ğ):Prop where
 o:∀i j,Live i->Live j->i≠j->∀b,(lot i).O b->¬(lot j).M b
 h:∀i j,Live i->Live j->i≠j->∀a,(lot i).r a->¬(lot j).C a
 m:∀i,Live i->∀b,(lot i).O b->¬(lot i).I b
 g:∀i,Live i->∀a,(lot i).r a->¬(lot i).N a
 I:∀i,Live i->∀b,(lot i).M b->¬Y b
 e:∀i,Live i->∀a,(lot i).C a->Y a.block
 fx:∀i,Live i->∀b,(lot i).M b->b<w.heap.size
 N:∀b,Y b->b<w.heap.size
 r:∀i,Live i->fH (lot i) (lot i).w w
 S:∀i,Live i->N6 t i (lot i)
 f:∀i,Live i->Τ t i=(lot i).d
 l:∀said,¬eE said t
 q:WY w.heap.size t
 s:∀p a c,Ě t p=À a->a.loc=.obj c->a.kind=eX->c<B0
 n:∀i,Live i->∀a,(lot i).K a->Y a.block/\∀k,Live k->¬(lot k).r a
def gu(lot:Nat->fc)(i:Nat)(l:fc):Nat->fc:=λk=>if k=i then l else lot k
theorem gT(a:Nat->fc)(i:Nat)(l:fc):gu a i l i=l:=if_pos U
theorem gH(a:Nat->fc)(l:fc)(h:k≠i):gu a i l k=a k:=if_neg h
section
variable{B0:Nat}{Live Y:Nat->Prop}{lot:Nat->fc}{w':Æ}{t u:ğ}
def N7{g:Nat}(a:k≠g)(t:ğ){u:ğ}(b:∀c∈u,c.g=g):Τ (t++u) k=Τ t k:= Deaf_other t (g:=k) (g':=g) (ą a) _ b
def iQ.at(h:iQ B0 Live Y lot w t)(d:Nat):iQ B0 Live Y lot (w.at d) t:= ⟨h.o,h.h,h.m,h.g,h.I,h.e,h.fx,h.N,λi a=>⟨(h.r i a).r,(h.r i a).I,(h.r i a).N,(h.r i a).Y,(h.r i a).S⟩,h.S,h.f,h.l,h.q,h.s,h.n⟩
def iQ.afT(h:iQ B0 Live Y lot w t)(r:Live i){s:fc}(l:mo (lot i) s w w' V)(E:à)(F:String): iQ B0 Live Y (gu lot i s) w' (t++Í i E F V):=by
 have G:=l.S;have Q:∀b,s.M b->(lot i).M b\/w.heap.size<=b:=λb g=>g.elim (λq=>(G b q).imp Ç id) (λq=>Ç<|Î<|by rwa[<-l.I]);have J:∀a,s.C a↔(lot i).C a:=λa=>by unfold fc.C;rw[l.r,l.M]
 have I:=λk f a d=>h.N _<|h.e k f a d;have L:∀k,Live k->k≠i->∀b,(lot k).M b->¬s.O b:=by
  intro k f y b g c;rcases G b c with q|q
  .exact h.o i k r f (ą y) b q g
  .have:=h.fx k f b g;omega
 have H:∀m∈Í i E F V,∀b,m.act.touch?=À b->∃a:Ú,b.loc=û a/\(s.O a.block\/s.r a\/((s.I a.block\/s.N a)/\b.write=Ã)):=by intro m o b g;obtain⟨e,N,rfl⟩:=í o;exact WX (l.c e N) g
 have T:∀a:Ú,s.O a.block->qm t i (û a):=by
  intro a d;rcases G _ d with q|q
  .exact(h.S i r).fp a q
  .exact .xZ λp x P n=>by have:=WZ h.q P n;omega
 have D:N6 t i s:=⟨T,λa d=>(h.S i r).C a (by rwa[<-l.I]),λa d=>(h.S i r).I a (by rwa[<-l.r]),λa d=>(h.S i r).r a<|by rwa[<-l.M]⟩;refine⟨?_,?_,?_,?_,?_,?_,?_,λb g=>Ô (h.N b g) l.C,?_,?_,?_,?_,?_,?_,?_⟩
 .intro k j f u y b g;by_cases c:k=i
  .subst c;rw[gT]at g;rw[gH lot _<|ą y];exact λq=>L j u (ą y) b q g
  .rw[gH lot _ c]at g;by_cases v:j=i
   .subst v;rw[gT];intro q;rcases Q b q with z|z
    .exact h.o k j f u y b g z
    .have:=h.fx k f b<|Ç g;omega
   .rw[gH lot _ v];exact h.o k j f u y b g
 .intro k j f u y a d;by_cases c:k=i
  .subst c;rw[gT,l.r]at d;rw[gH lot _<|ą y];exact h.h k j f u y a d
  .rw[gH lot _ c]at d;by_cases v:j=i
   .subst v;rw[gT,J];exact h.h k j f u y a d
   .rw[gH lot _ v];exact h.h k j f u y a d
 .intro k f b g;by_cases c:k=i
  .subst c;rw[gT]at g|-;rw[l.I];rcases G b g with z|z
   .exact h.m k f b z
   .intro q;have:=h.fx k f b<|Î q;omega
  .rw[gH lot _ c]at g|-;exact h.m k f b g
 .intro k f a d;by_cases c:k=i
  .subst c;rw[gT]at d|-;rw[l.M];rw[l.r]at d;exact h.g k f a d
  .rw[gH lot _ c]at d|-;exact h.g k f a d
 .intro k f b g;by_cases c:k=i
  .subst c;rw[gT]at g;rcases Q b g with z|z
   .exact h.I k f b z
   .intro y;have:=h.N b y;omega
  .rw[gH lot _ c]at g;exact h.I k f b g
 .intro k f a d;by_cases c:k=i
  .subst c;rw[gT,J]at d;exact h.e k f a d
  .rw[gH lot _ c]at d;exact h.e k f a d
 .intro k f b g;by_cases c:k=i
  .subst c;rw[gT]at g;exact g.elim (l.fx b) λq=>Ô (h.fx k f b<|Î<|by rwa[<-l.I]) l.C
  .rw[gH lot _ c]at g;exact Ô (h.fx k f b g) l.C
 .intro k f;by_cases c:k=i
  .subst c;rw[gT,l.b];exact fH.fU _ _
  .rw[gH lot _ c];refine(h.r k f).fg ⟨l.C,λb g=>l.jO b (h.fx k f b g) (λq=>h.o i k r f (ą c) b q g) (λa d q=>h.I k f b g<|by rw[<-d];exact h.e i r a<|Ç q),λa d=>l.N a (I k f a d) (λq=>h.I i r _ (Ç q)<|h.e k f a d) λq=>h.h i k r f (ą c) a q d,λa d=>Jq (l.Y a (I k f a d) λq=>h.I i r _ (Ç q)<|h.e k f a d),λa d q=> ?_⟩;let⟨y,v⟩:=h.n k f a d;rwa[l.N a (h.N _ y) (λq=>h.I i r _ (Ç q) y)<|v i r]
 .intro k f;by_cases c:k=i
  .subst c;rw[gT];exact⟨λa d=>(D.fp a d).C λm o _ _ _=>nY m o,λa d=>(D.C a d).r λm o _ _ _ _=>nY m o,λa d=>(D.I a d).C λm o _ _ _=>nY m o,λa d=>(D.r a d).r λm o _ _ _ _=>nY m o⟩
  .rw[gH lot _ c];have W:∀a:Ú,(lot k).O a.block->∀m∈Í i E F V,∀b,m.act.touch?=À b->b.loc=û a->False:=by
    intro a d m o b g n;let⟨x,y,v⟩:=H m o b g;rw[y]at n;injection n with n;subst n;rcases v with q|q|⟨q|q,_⟩
    .exact L k f c _ (Ç d) q
    .exact h.I k f _ (Ç d)<|h.e i r x<|Ç<|by rwa[<-l.r]
    .exact h.o k i f r c _ d<|Î<|by rwa[<-l.I]
    .exact h.I k f _ (Ç d)<|h.e i r x<|Î<|by rwa[<-l.M]
   have X:∀a:Ú,(lot k).I a.block->∀m∈Í i E F V,∀b,m.act.touch?=À b->b.loc=û a->b.write=É->False:=by
    intro a d m o b g n B;let⟨x,y,v⟩:=H m o b g;rw[y]at n;injection n with n;subst n;rcases v with q|q|⟨_,q⟩
    .exact L k f c _ (Î d) q
    .exact h.I k f _ (Î d)<|h.e i r x<|Ç<|by rwa[<-l.r]
    .rw[q]at B;cases B
   have S:∀a:Ú,(lot k).C a->∀m∈Í i E F V,∀b,m.act.touch?=À b->b.loc=û a->(s.I a.block\/s.N a)/\b.write=Ã:=by
    intro a d m o b g n;let⟨x,y,v⟩:=H m o b g;rw[y]at n;injection n with n;subst n;rcases v with q|q|q
    .exfalso;rcases G _ q with z|z
     .exact h.I i r _ (Ç z)<|h.e k f x d
     .have:=I k f x d;omega
    .exact absurd d<|h.h i k r f (ą c) x<|by rwa[<-l.r]
    .exact q
   refine⟨λa d=>((h.S k f).fp a d).C λm o b g n=>(W a d m o b g n).elim,λa d=>((h.S k f).C a d).r λm o b g n B=>(X a d m o b g n B).elim,λa d=>((h.S k f).I a d).C λm o b g n=> ?_,λa d=>((h.S k f).r a d).r λm o b g n B=> ?_⟩
   .exfalso;obtain⟨q|q,_⟩:=S a (Ç d) m o b g n
    .exact h.I i r _ (Î<|by rwa[<-l.I])<|h.e k f a<|Ç d
    .exact h.h k i f r c a d<|Î<|by rwa[<-l.M]
   .have:=(S a (Î d) m o b g n).2;rw[this]at B;cases B
 .intro k f;by_cases c:k=i
  .subst c;rw[gT,l.h,Deaf_own,h.f k f]
  .rw[gH lot _ c,N7 c t nY];exact h.f k f
 .refine N5 h.l nY λm o b g=> ?_;let⟨a,y,v⟩:=H m o b g;rw[y];rcases v with q|q|⟨q,B⟩
  .exact Î<|Ç<|D.fp a q
  .exact Î<|Ç<|D.I a q
  .exact Ç ⟨B,q.elim (D.C a)<|D.r a⟩
 .intro m o;rcases Ĝ.1 o with q|q
  .exact MemAct.low_mono l.C<|h.q m q
  .obtain⟨e,N,rfl⟩:=í q;refine afS l.fx (λj u=>Ô (h.fx i r j<|Î<|by rwa[<-l.I]) l.C) (λa d=> ?_)<|l.c e N;rw[J]at d;exact Ô (I i r a d) l.C
 .intro p a c d n f;rcases mK d with⟨_,y⟩|⟨_,m,y,v,_⟩
  .exact h.s p a c y n f
  .let⟨x,P,_⟩:=H m y a v;rw[P]at n;cases n
 .intro k f a d;have y:∀j,(gu lot i s j).r=(lot j).r:=λj=>by
   by_cases e:j=i
   .subst e;rw[gT,l.r]
   .rw[gH lot _ e]
  have c:(gu lot i s k).K=(lot k).K:=by
   by_cases e:k=i
   .subst e;rw[gT,l.k]
   .rw[gH lot _ e]
  rw[c]at d;exact⟨(h.n k f a d).1,λj u=>by rw[y];exact(h.n k f a d).2 j u⟩
end
def FI(Live Y:Nat->Prop)(d:Nat->fc)(b:dM):Prop:=(∃a:Ú,b.loc=û a/\Y a.block/\∀k,Live k->¬(d k).C a)\/∃c,b.loc=.obj c/\Y c/\b.kind=Ŕ
structure pI(Live Y:Nat->Prop)(lot:Nat->fc)(w w':Æ):Prop where
 r:w'.heap.size=w.heap.size
 jO:∀j,¬Y j->w'.heap[j]?=w.heap[j]?
 M:∀k,Live k->∀a,(lot k).C a->w'.cell? a=w.cell? a
 N:∀k,Live k->∀a,(lot k).C a->w'.frozen? a=w.frozen? a
 I:∀a,(w.cell? a).isSome=É->(w'.cell? a).isSome=É
theorem pI.fU(Live Y:Nat->Prop)(a:Nat->fc)(w:Æ):pI Live Y a w w:=⟨U,λ_ _=>rfl,λ_ _ _ _=>rfl,λ_ _ _ _=>rfl,λ_ h=>h⟩
structure va(w':Æ)(l l':fc):Prop where
 O:l'.O=l.O
 N:l'.I=l.I
 r:l'.r=l.r
 I:l'.N=l.N
 K:l'.K=l.K
 w:l'.w=l.w\/l'.w=w'
theorem va.fU(w':Æ)(l:fc):va w' l l:=⟨U,U,U,U,U,Ç U⟩
def va.M{w':Æ}{l a:fc}(h:va w' l a):a.M=l.M:=by unfold fc.M;rw[h.O,h.N]
def va.C{w':Æ}{l a:fc}(h:va w' l a):a.C=l.C:=by unfold fc.C;rw[h.r,h.I]
def fH.afU{l c:fc}(h:va w l c)(r:fH l u W):fH c u W:= ⟨r.r,by rw[h.M];exact r.I,by rw[h.C];exact r.N,by rw[h.C];exact r.Y,by rw[h.K];exact r.S⟩
section
variable{Live Y:Nat->Prop}{lot o:Nat->fc}{w':Æ}{t u:ğ}
def iQ.G(h:iQ n Live Y lot w t)(m:∀k,va w' (lot k)<|o k)(s:pI Live Y lot w w')(B:∀l∈u,∀b,l.act.touch?=À b->FI Live Y lot b)(g:∀l∈u,l.act.low w.heap.size)(E:∀F,¬eE F (t++u))(G:∀k,Live k->Τ (t++u) k=(o k).d):iQ n Live Y o w' (t++u) where
 o i j hi v lA b q:=by rw[(m j).M];exact h.o i j hi v lA b<|by rwa[<-(m i).O]
 h i j hi v lA a f:=by rw[(m j).C];exact h.h i j hi v lA a<|by rwa[<-(m i).r]
 m i hi b q:=by rw[(m i).N];exact h.m i hi b<|by rwa[<-(m i).O]
 g i hi a f:=by rw[(m i).I];exact h.g i hi a<|by rwa[<-(m i).r]
 I i hi b q:=h.I i hi b (by rwa[<-(m i).M]);e i hi a f:=h.e i hi a (by rwa[<-(m i).C]);fx i hi b q:=by rw[s.r];exact h.fx i hi b<|by rwa[<-(m i).M]
 N b q:=by rw[s.r];exact h.N b q
 r i hi:=by
  rcases(m i).w with e|e
  .rw[e];refine((h.r i hi).fg ⟨dz s.r.symm,λj v=>s.jO j<|h.I i hi j v,λa f=>s.M i hi a f,λa f=>s.N i hi a f,λa _=>s.I a⟩).afU<|m i
  .rw[e];exact fH.fU _ _
 S i hi:=by
  have z:∀a:Ú,(lot i).M a.block->∀l∈u,∀b,l.act.touch?=À b->b.loc=û a->False:=by
   intro a f l e b q g;rcases B l e b q with⟨x,r,y,_⟩|⟨c,r,_⟩
   .rw[r]at g;injection g with g;subst g;exact h.I i hi _ f y
   .rw[r]at g;cases g
  have D:∀a:Ú,(lot i).C a->∀l∈u,∀b,l.act.touch?=À b->b.loc=û a->False:=by
   intro a f l e b q g;rcases B l e b q with⟨x,r,_,y⟩|⟨c,r,_⟩
   .rw[r]at g;injection g with g;subst g;exact y i hi f
   .rw[r]at g;cases g
  exact⟨λa f=>((h.S i hi).fp a<|by rwa[<-(m i).O]).C λl e b q g=>(z a (Ç<|by rwa[<-(m i).O]) l e b q g).elim,λa f=>((h.S i hi).C a<|by rwa[<-(m i).N]).r λl e b q g _=>(z a (Î<|by rwa[<-(m i).N]) l e b q g).elim,λa f=>((h.S i hi).I a<|by rwa[<-(m i).r]).C λl e b q g=>(D a (Ç<|by rwa[<-(m i).r]) l e b q g).elim,λa f=>((h.S i hi).r a<|by rwa[<-(m i).I]).r λl e b q g _=>(D a (Î<|by rwa[<-(m i).I]) l e b q g).elim⟩
 f:=G;l:=E;q l e:=by rw[s.r];exact(Ĝ.1 e).elim (h.q l)<|g l
 s p a c f g z:=by
  rcases mK f with⟨_,r⟩|⟨_,l,r,y,_⟩
  .exact h.s p a c r g z
  .rcases B l r a y with⟨x,D,_⟩|⟨x,_,_,D⟩
   .rw[D]at g;cases g
   .rw[D]at z;cases z
 n i hi a f:=by rw[(m i).K]at f;exact⟨(h.n i hi a f).1,λk z=>by rw[(m k).r];exact(h.n i hi a f).2 k z⟩
end
structure gy(l:fc):Prop where
 c:∀b,l.O b->¬l.I b
 Y:∀a,l.r a->¬l.N a
 N:∀a,l.C a->¬l.M a.block
 fx:∀b,l.M b->b<l.w.heap.size
 I:∀a,l.C a->a.block<l.w.heap.size
 S:∀a,l.K a->¬l.M a.block/\a.block<l.w.heap.size/\¬l.r a
def iQ.M{Live Y:Nat->Prop}{c:Nat->fc}(h:iQ n Live Y c w qJ)(b:Live i):gy {c i with w:=w} where
 c:=h.m i b;Y:=h.g i b;N a ha hb:=h.I i b _ hb<|h.e i b a ha;fx:=h.fx i b;I a ha:=h.N _<|h.e i b a ha;S a ha:=⟨λq=>h.I i b _ q (h.n i b a ha).1,h.N _ (h.n i b a ha).1,(h.n i b a ha).2 i b⟩
abbrev Jd:=fc->Ó->Prop
inductive fi(P:Õ)(main:Bool)(Stop:Jd):Jd
 |fB {l:fc} {g:Ó} (h:∀w₁,fH l l.w w₁->Stop {l with w:=w₁} g):fi P main Stop l g
 |ju {l:fc} {g:Ó} (G':Æ->Ó) (W':Æ->Æ) (E':Æ->Array ý) (L':Æ->fc) (iI:g.status=Ð)
  (h:∀w₁,fH l l.w w₁->Ù P main g w₁=aS (G' w₁) (W' w₁) (E' w₁)) (hd:∀w₁,fH l l.w w₁->mo l (L' w₁) w₁ (W' w₁) (E' w₁))
  (ih:∀w₁,fH l l.w w₁->fi P main Stop (L' w₁) (G' w₁)):fi P main Stop l g
instance:Nonempty fc:=⟨⟨λ_=>False,λ_=>False,λ_=>False,λ_=>False,λ_=>False,0,False,default⟩⟩
instance:Nonempty (Goroutine×World×Array Event×fc):=⟨(default,default,#[],Classical.choice inferInstance)⟩
section
variable{main:Bool}{Stop m:Jd}
def fi.mk{l:fc}(i:g.status=Ð) (h:∀a,fH l l.w a->∃b c d e,Ù P main g a=aS b c d/\mo l e a c d/\fi P main Stop e b):fi P main Stop l g:=by
 let p:=λ(a:Æ) (x:Goroutine×World×Array Event×fc)=>Ù P main g a=aS x.1 x.2.1 x.2.2.1/\mo l x.2.2.2 a x.2.1 x.2.2.1/\fi P main Stop x.2.2.2 x.1
 have f:∀a,fH l l.w a->p a (Classical.epsilon<|p a):=λa r=>Classical.epsilon_spec (let⟨b,c,d,e,h⟩:=h a r;⟨(b,c,d,e),h⟩);exact .ju (λa=>(Classical.epsilon<|p a).1) (λa=>(Classical.epsilon<|p a).2.1) (λa=>(Classical.epsilon<|p a).2.2.1) (λa=>(Classical.epsilon<|p a).2.2.2) i (λa r=>(f a r).1) (λa r=>(f a r).2.1) λa r=>(f a r).2.2
def fi.jW{l:fc}{w₁:Æ}(h:fi P main Stop l g)(r:fH l l.w w₁):fi P main Stop {l with w:=w₁} g:=by
 have e:∀{a b:Æ},fH {l with w:=w₁} a b->fH l a b:=λq=>⟨q.r,q.I,q.N,q.Y,q.S⟩;cases h with
 |fB h=>exact .fB λc d=>h c<|r.fg<|e d
 |ju f i j m n h o p=>
  exact .ju f i j m n (λc d=>h c<|r.fg<|e d) (λc d=>let q:=o c<|r.fg<|e d;⟨q.C,q.S,q.fx,q.I,q.r,q.M,q.k,q.jO,q.N,q.Y,q.f,q.g,q.m,q.c,q.h,q.q,q.i,q.b⟩) λc d=>p c<|r.fg<|e d
def fi.fN(a:∀l g,Stop l g->m l g){l:fc}(h:fi P main Stop l g):fi P main m l g:=by
 induction h with
 |fB h=>exact .fB λb r=>a _ _<|h b r
 |ju b r c d e h f _ i=>exact .ju b r c d e h f i
def fi.fg{l:fc}(h:fi P main (fi P main Stop) l g):fi P main Stop l g:=by
 induction h with
 |fB h=>exact h _<|fH.fU _ _
 |ju a b c d e h f _ i=>exact .ju a b c d e h f i
def fi.lU(a:∀l g,Stop l g->fi P main m l g){l:fc}(h:fi P main Stop l g):fi P main m l g:=(h.fN a).fg
end
inductive gw where
 |fB:gw
 |ju (k:Æ->gw):gw
def W0(x:gw):gw->Prop
 |.fB=>False
 |.ju k=>∃w,x=k w
def W3:WellFounded W0:=⟨λa=>by
 induction a with
 |fB=>exact⟨_,λy h=>h.elim⟩
 |ju k b=>exact⟨_,λy ⟨w,h⟩=>h▸b w⟩⟩
def kX(P:Õ)(b:Bool)(c:Jd):gw->Jd
 |.fB,l,g=>∀a,fH l l.w a->c {l with w:=a} g
 |.ju k,l,g=>g.status=Ð/\∀a,fH l l.w a->∃d e f h,Ù P b g a=aS d e f/\mo l h a e f/\kX P b c (k a) h d
section
variable{main:Bool}{Stop:Jd}
theorem ji{l:fc}(h:fi P main Stop l g):∃tr,kX P main Stop tr l g:=by
 induction h with
 |fB h=>exact⟨.fB,h⟩
 |@ju l g G' W' E' L' iI h hd _ ih=>
  have b:∀a,∃tr,fH l l.w a->kX P main Stop tr (L' a) (G' a):=by
   intro a;by_cases r:fH l l.w a
   .grind
   .exact⟨.fB,λq=>absurd q r⟩
  refine⟨.ju λa=>Classical.choose<|b a,iI,λa r=>⟨G' a,W' a,E' a,L' a,h a r,hd a r,Classical.choose_spec (b a) r⟩⟩
end
theorem afV{l:fc}{b:Nat->Prop}(d:∀j,X j->l.O j)(f:∀j,b j->l.I j){e:ý}(h:Je X b e):yl l e:=by
 rcases h with⟨a,c,g,i⟩|h|h
 .refine Ç ⟨a,c,?_⟩;grind
 .exact Î<|Ç h
 .exact Î<|Î<|Ç h
theorem afW{b:Nat->Prop}(h:∀e∈V,Je X b e)(d:Nat):ŭ d V=d:=by refine bq (λe c=> ?_) d;rcases h e c with⟨a,g,_⟩|h|⟨f,h⟩;all_goals grind
theorem gK{w':Æ}(h:w'.heap[a.block]?=w.heap[a.block]?):w'.cell? a=w.cell? a:=by unfold Ġ;rw[h]
def wC(h:u.heap[a.block]?=w.heap[a.block]?):u.frozen? a=w.frozen? a:=by unfold Ĉ;rw[h]
def afX{t:(Nat->Prop)->Ó->Æ->Prop}{O:Nat->Prop}(h:u5 P yQ X t O g w):∀l:fc,l.w=w->(∀j,O j->l.O j)->(∀j,X j->l.I j)->(∀j,l.O j->j<w.heap.size)->¬l.q-> fi P yQ (λa b=>∃f,t f b a.w/\(∀j,O j->f j)/\(∀j,f j->a.O j)/\(∀j,l.O j->a.O j)/\(∀j,a.O j->l.O j\/f j)/\(∀j,a.O j->l.O j\/w.heap.size<=j)/\a.I=l.I/\a.r=l.r/\a.N=l.N/\a.d=l.d/\a.q=l.q/\a.K=l.K) l g:=by
 induction h with
 |@fB O g w h=>
  intro l e i m _ _;refine .fB λb r=>⟨O,h b ⟨by rw[<-e];exact r.r,λj c=>by rw[r.I j (c.elim (λq=>Ç<|i j q) λq=>Î<|m j q),e]⟩,λ_ q=>q,i,λ_ q=>q,λ_ q=>Ç q,λ_ q=>Ç q,U,U,U,U,U,U⟩
 |@ju O g w G' W' E' f iI h hd _ ih=>
  intro l e i m C u;refine .mk iI λb r=> ?_;have n:yg (λj=>O j\/X j) w b:=⟨by rw[<-e];exact r.r,λj c=>by rw[r.I j (c.elim (λq=>Ç<|i j q) λq=>Î<|m j q),e]⟩;have D:=hd b n;have o:=n.r;have v:∀j,(l.O j\/f b j)->j<(W' b).heap.size:=λj c=>c.elim (λq=>Ô (C j q)<|õ o D.r)<|D.fx j;have p:∀j,j<b.heap.size->¬l.O j->(W' b).heap[j]?=b.heap[j]?:=λj c k=>D.jO j c λq=>k<|i j q;refine⟨G' b,W' b,E' b,{l with O:=λj=>l.O j\/f b j,w:=W' b},h b n,⟨D.r,λj c=>c.elim Ç λq=>(D.I j q).imp (i j) id,v,U,U,U,U,λj c k _=>p j c k,λa s k _=>gK<|p _ s k,λa s k=>wB<|p _ s k,D.N,D.S,D.Y,λx E=>afV (l:={l with O:=λj=>l.O j\/f b j,w:=W' b}) (λj q=>Î q) m<|D.C x E,(afW D.C _).symm,U,λq=>absurd q u,U⟩,?_⟩;have:=ih b n {l with O:=λj=>l.O j\/f b j,w:=W' b} U (λj q=>Î q) m v u;apply this.fN;rintro N Q ⟨F,G,B,H,I,J,L,M⟩;refine⟨F,G,λj q=>B j<|D.M j q,H,λj q=>I j<|Ç q,λj q=> ?_,λj q=> ?_,M⟩
  .rcases J j q with(z|z)|z
   .exact Ç z
   .exact Î<|B j z
   .exact Î z
  .rcases L j q with(z|z)|z
   .exact Ç z
   .rcases D.I j z with y|y
    .exact Ç<|i j y
    .exact Î<|õ o y
   .exact Î<|õ (õ o D.r) z
def kv(a:Ú):ý:=⟨û a,Ã,É⟩
def mL(a:Ú):ý:=⟨û a,É,É⟩
def jP(m:Mark):ý:=⟨ů m,Ã,É⟩
def fY:Int:=4294967296
def CR(c:Nat):Array ý:=#[⟨.obj c,Ã,É⟩,⟨.obj c,É,É⟩]
section
variable(P:Õ)(main:Bool)
def FJ(m:Mark)(N:Jd):Jd:=λl g=>g.status=Ð/\∃a,(∀b,Ù P main g b=aS a b #[jP m])/\fi P main N l a
def W4(a:Ú)(N:Int->Jd):Jd:=λl g=>g.status=Ð/\∀v,∃c,(∀b:Æ,b.cell? a=À (Ć æ v)->Ù P main g b=aS c b #[kv a])/\fi P main (N v) l c
def N8(a:Ú)(d:Int)(N:Int->Jd):Jd:=λl g=>g.status=Ð/\∀v,∃c,(∀b:Æ,b.cell? a=À (Ć æ v)->b.frozen? a=Ã->Ù P main g b=aS c (b.setCell a<|Ć æ<|æ.wrap<|v+d) #[kv a,mL a])/\N (æ.wrap<|v+d) l c
def afY(a:Ú)(v:Int)(N:Jd):Jd:=λl g=>g.status=Ð/\∃c,(∀(b:Æ) (x:Int),b.cell? a=À (Ć æ x)->b.frozen? a=Ã->Ù P main g b=aS c (b.setCell a<|Ć æ v) #[mL a])/\fi P main N l c
def afZ(a:Ú)(N:Jd):Jd:=λl g=>g.status=Ð/\g.offers=ë/\(∀b:Æ,b.cell? a=À (Ć ŗ 0)->Ù P main g b=aS {g with status:=Ů} b #[])/\
 ∃c,(∀(b:Æ) (n:Int),n≠0->b.cell? a=À (Ć ŗ n)->b.frozen? a=Ã->Ù P main g b=aS c (b.setCell a<|Ć ŗ<|n-1) (semEvents a))/\fi P main N l c
def af0(a:Ú)(N:Jd):Jd:=λl g=>g.status=Ð/\mayWake P g=É/\∃c,c.status=Ð/\(∀(b:Æ) (n:Int),b.cell? a=À (Ć ŗ n)->b.frozen? a=Ã->Ù P main g b=aS c (b.setCell a<|Ć ŗ<|ŗ.wrap<|n+1) (semEvents a))/\N l c
def wD(c:Nat)(z:Â)(N:Option Â->Jd):Jd:=λl g=>g.status=Ð/\g.offers=ë/\(∀x,Ù P main g x=.comm g #[θ c z] É (.recv É) x #[])/\
 ∀x:Option Â,fi P main (N x) l {g with frame:=g.frame.finish (ſ #[x.getD z,Ľ x.isSome])}
def Ar(c:Nat)(v:Â)(N:Jd):Jd:=λl g=>g.status=Ð/\g.offers=ë/\(∀a,∃b,Ù P main g a=.comm g #[scase c v b] É .send a #[])/\fi P main N l {g with frame:=g.frame.finish ľ}
def Jr(c:Nat)(N:Jd):Jd:=λl g=>g.status=Ð/\mayWake P g=É/\∃a,a.status=Ð/\(∀(b:Æ) cap buf s r tm,b.heap[c]?=À (χ cap buf Ã s r tm)->Ù P main g b=aS a (b.setChan c cap buf É s r tm) (CR c))/\fi P main N l a
def oW(n:Nat):Jd:=λl g=>QuitsD P n l.d g
inductive SP where
 |gd (n:Nat)
 |ld (v:Int) (m:Nat)
def CS(a:Ú)(B:Nat)(d e:Int->Jd)(p:SP):Jd:=λl g=>∃T:SP->Ó->Prop,T p g/\∀p g,T p g->g.status=Ð/\match p with
 |.gd (n+1)=>n+1<=B/\(T (.gd 0) g\/∀b,∃c,Ù P main g b=aS c b #[]/\T (.gd n) c)
 |.gd 0=>∀v,∃c,(∀b:Æ,b.cell? a=À (Ć æ v)->Ù P main g b=aS c b #[kv a])/\(if 0<=v/\v<fY then v<1000000->fi P main (d v) l c else(fY<=v/\v<fY*2147483648/\v%fY<1000000)->∃m,m<=B/\T (.ld v m) c)
 |.ld v (m+1)=>fY<=v/\m+1<=B/\(T (.ld v 0) g\/∀b,∃c,Ù P main g b=aS c b #[]/\T (.ld v m) c)
 |.ld v 0=>fY<=v/\(∃c,(∀b:Æ,b.cell? a=À (Ć æ v)->b.frozen? a=Ã->Ù P main g b=aS c (b.setCell a<|Ć æ<|æ.wrap<|v+1) #[kv a,mL a])/\fi P main (e v) l c)/\
  ∃c,(∀(b:Æ) (x:Int),x≠v->b.cell? a=À (Ć æ x)->b.frozen? a=Ã->Ù P main g b=aS c b #[kv a])/\∃n,n<=B/\T (.gd n) c
end
section
variable{P:Õ}{main:Bool}
def Js{e f:Int->Jd}{p:SP}{l:fc}{w₁:Æ}(h:CS P main a i e f p l g)(r:fH l l.w w₁):CS P main a i e f p {l with w:=w₁} g:=by
 let⟨T,o,h⟩:=h;refine⟨T,o,λp g j=>⟨(h p g j).1,?_⟩⟩;have:=(h p g j).2;match p,this with
 |.gd (n+1),q=>exact q
 |.gd 0,q=>
  intro v;let⟨c,d,b⟩:=q v;refine⟨c,d,?_⟩;by_cases k:0<=v/\v<fY
  .rw[if_pos k]at b|-;exact λq=>(b q).jW r
  .rw[if_neg k]at b|-;exact b
 |.ld v (m+1),q=>exact q
 |.ld v 0,⟨q0,⟨c,d,b⟩,q⟩=>exact⟨q0,⟨c,d,b.jW r⟩,q⟩
end
inductive iy where
 |no|iz|sj (c:Nat) (z:Â)
inductive wE(g0:Ó):iy->Ó->Prop
 |gl {k:iy}:wE g0 k g0
 |nL (h:g0.status=Ð) (ho:g0.offers=ë):wE g0 .iz {g0 with status:=Ů}
 |tx (c:Nat) (z:Â) (h:g0.status=Ð):wE g0 (.sj c z) (Γ g0 #[θ c z]<|.recv É)
 |na (c:Nat) (z:Â) (h:g0.status=Ð):wE g0 (.sj c z) {Γ g0 #[θ c z] (.recv É)with status:=Ð}
section
variable{P:Õ}
theorem af2(h:g.status=Ð\/g.status=Ğ)(w:Æ):g.again w=g:=by unfold ι;grind
theorem N9{a o:Ó}(h:o.status=Ð\/o.status=Ğ):ţ P g a w o=o:=by unfold ţ;grind [af2]
def wE.FK{g0 a b:Ó}{k:iy}(h:wE g0 k g)(d:g0.status=Ð\/g0.status=Ğ):wE g0 k (ţ P a b w g):=by
 cases h with
 |gl=>rw[N9 d];exact .gl
 |nL h c=>
  unfold ţ;split
  .have:ι w {g0 with status:=Ů}=g0:=by
    let⟨z,e,st,f,i⟩:=g0;simp only at h c;subst h c;rfl
   rw[this];exact .gl
  .exact .nL h c
 |tx c z h=>
  unfold ţ;split
  .unfold ι Γ;simp only[];split
   .exact .na c z h
   .exact .tx c z h
  .exact .tx c z h
 |na c z h=>
  rw[N9<|Ç U];exact .na c z h
end
structure gL(P:Õ)(B0:Nat)(Y:Nat->Prop)(S:Nat->Jd)(tr:Nat->gw)(kp:Nat->iy)(lot:Nat->fc)(gs:Array Ó)(w:Æ)(t:ğ):Prop where
 r:iQ B0 (λi=>i<gs.size) Y lot w t
 C:∀i g,gs[i]?=À g->∃g0,kX P (i==0) (S i) (tr i) (lot i) g0/\wE g0 (kp i) g/\(g0.status=Ð\/g0.status=Ğ)/\(g=g0\/tr i=.fB)
 I:∀j,gs.size<=j->Τ t j=0
def fy{α:Type}(f:Nat->α)(i:Nat)(x:α):Nat->α:=λk=>if k=i then x else f k
theorem gF{α:Type}(f:Nat->α)(i:Nat)(x:α):fy f i x i=x:=if_pos U
theorem fI{α:Type}(f:Nat->α)(x:α)(h:k≠i):fy f i x k=f k:=if_neg h
section
variable{P:Õ}{B0:Nat}{Y:Nat->Prop}{S:Nat->Jd}{tr:Nat->gw}{kp:Nat->iy}{lot:Nat->fc}{gs:Array Ó}{w':Æ}{t:ğ}{sl:Option (Nat×Nat)}
theorem Oa{a:Ó}(b:gs[i]?=À g)(h:Ù P (i==0) g w=aS a w' V): ∃gs',cX P (ķ gs w sl) i=(ň<|ķ gs' w' sl,Í i g.frame.fn g.frame.place V)/\gs'.size=gs.size/\gs'[i]?=À a/\∀k,k≠i->gs'[k]?=gs[k]?.map (ţ P g a w'):=by refine⟨_,runT_crowd_go b h,fj,by simp[(Ë.1 b).1],λk c=> ?_⟩;grind
def gL.at(a:gL P B0 Y S tr kp lot gs w t)(d:Nat):gL P B0 Y S tr kp lot gs (w.at d) t:=⟨a.r.at d,a.C,a.I⟩
theorem gL.W5(f:gL P B0 Y S tr kp lot gs w t){a:Ó}{J:Jd}{T:gw}{K:iy}{d:fc}(h:gs[i]?=À g)(o:Ù P (i==0) g w=aS a w' V) (B:iQ B0 (λi=>i<gs.size) Y (gu lot i d) w' (t++Í i g.frame.fn g.frame.place V)) (hF:kX P (i==0) J T d a) (p:a.status=Ð\/a.status=Ğ): ∃b,cX P (ķ gs w sl) i=(ň<|ķ b w' sl,Í i g.frame.fn g.frame.place V)/\b.size=gs.size/\b[i]?=À a/\(∀k,k≠i->b[k]?=gs[k]?.map (ţ P g a w'))/\ gL P B0 Y (fy S i J) (fy tr i T) (fy kp i K) (gu lot i d) b w' (t++Í i g.frame.fn g.frame.place V):=by
 obtain⟨b,q,r,l,m⟩:=Oa h o;have C:=(Ë.1 h).1;refine⟨b,q,r,l,m,?_,λk x c=> ?_,λj D=> ?_⟩
 .grind
 .by_cases e:k=i
  .subst e;rw[l]at c;obtain rfl:=Ĥ c;rw[gF,gF,gF,gT];exact⟨a,hF,.gl,p,Ç U⟩
  .rw[m k e]at c;obtain⟨y,s,rfl⟩:=ģ.1 c;rw[fI S _ e,fI tr _ e,fI kp _ e,gH lot _ e];let⟨g0,u,v,n,z⟩:=f.C k y s;refine⟨g0,u,v.FK n,n,z.imp (λe=> ?_) id⟩;grind [N9]
 .rw[N7 Z t nY];exact f.I j Z
theorem af3{J:Jd}{k:Æ->gw}{l:fc}(h:kX P yQ J (.ju k) l g):g.status=Ð:=h.1
def gL.fp(f:gL P B0 Y S tr kp lot gs w t){k:Æ->gw}(m:gs[i]?=À g)(n:tr i=.ju k)(s:∀l g,S i l g->g.status=Ð\/g.status=Ğ): ∃c w' d h,cX P (ķ gs w sl) i=(ň<|ķ c w' sl,Í i g.frame.fn g.frame.place d)/\c.size=gs.size/\(∃b,c[i]?=À b/\(b.status=Ð\/b.status=Ğ))/\(∀k,k≠i->∃a j:Ó,c[k]?=gs[k]?.map (ţ P a j w'))/\mo (lot i) h w w' d/\ gL P B0 Y S (fy tr i<|k w) kp (gu lot i h) c w' (t++Í i g.frame.fn g.frame.place d):=by
 have o:=(Ë.1 m).1;let⟨g0,hF,F,_,u⟩:=f.C i g m;obtain rfl:g=g0:=u.resolve_right (by rw[n];simp);rw[n]at hF;let⟨G,hF⟩:=hF;let⟨b,w',d,h,v,p,e⟩:=hF w<|f.r.r i o;have q:b.status=Ð\/b.status=Ğ:=by
  cases j:k w with
  |fB=>rw[j]at e;exact s _ _<|e _<|fH.fU _ _
  |ju r=>rw[j]at e;exact Ç e.1
 obtain⟨c,x,y,z,B,r⟩:=f.W5 m v (f.r.afT o p _ _) e q;refine⟨c,w',d,h,x,y,⟨b,z,q⟩,λj C=>⟨g,b,B j C⟩,p,?_⟩;have D:fy S i (S i)=S:=by funext j;unfold fy;split<;>simp[*]
 have E:fy kp i (kp i)=kp:=by funext j;unfold fy;split<;>simp[*]
 rwa[D,E]at r
theorem gL.qn(c:gL P B0 Y S tr kp lot gs w t){a:Ó}{J:Jd}{K:iy}{T:gw}(l:gs[i]?=À g)(m:Ù P (i==0) g w=aS a w' V)(n:pI (λi=>i<gs.size) Y lot w w') (hF:kX P (i==0) J T {lot i with d:=ŭ (lot i).d V,w:=w'} a) (o:a.status=Ð\/a.status=Ğ) (p:∀e∈V,(∀b,(è e).touch?=À b->FI (λi=>i<gs.size) Y lot b)/\(è e).low w.heap.size) (q:∀r,¬eE r (t++Í i g.frame.fn g.frame.place V)): ∃gs',cX P (ķ gs w sl) i=(ň<|ķ gs' w' sl,Í i g.frame.fn g.frame.place V)/\gs'.size=gs.size/\gs'[i]?=À a/\(∀k,k≠i->gs'[k]?=gs[k]?.map (ţ P g a w'))/\ gL P B0 Y (fy S i J) (fy tr i T) (fy kp i K) (gu lot i {lot i with d:=ŭ (lot i).d V,w:=w'}) gs' w' (t++Í i g.frame.fn g.frame.place V):=by
 refine c.W5 l m (c.r.G (λk=> ?_) n (λh f b j=> ?_) (λh f=> ?_) q λk h=> ?_) hF o
 .by_cases e:k=i
  .subst e;rw[gT];exact⟨U,U,U,U,U,Î U⟩
  .grind [gH,va.fU]
 .obtain⟨e,j,rfl⟩:=í f;grind
 .obtain⟨e,j,rfl⟩:=í f;exact(p e j).2
 .by_cases e:k=i
  .subst e;rw[gT,Deaf_own,c.r.f k h]
  .rw[gH lot _ e,N7 e t nY];exact c.r.f k h
def gL.Ob(h:gL P B0 Y S tr kp lot gs w t)(p:gs[i]?=À g)(x:i≠0)(l:g.status=Ð)(q:kp i=.no)(y:tr i=.fB)(z:S i=oW P n): ∃c f b,n=b+1/\cX P (ķ gs w sl) i=(ň<|ķ c w sl,Í i g.frame.fn g.frame.place f)/\c.size=gs.size/\(∀k,k≠i->∃a e:Ó,c[k]?=gs[k]?.map (ţ P a e w))/\(∀e∈f,e.mute=É)/\ gL P B0 Y (fy S i<|oW P b) tr kp (gu lot i {lot i with d:=ŭ (lot i).d f,w:=w}) c w (t++Í i g.frame.fn g.frame.place f):=by
 let⟨g0,hF,r,L,_⟩:=h.C i g p;have B:g=g0:=by
  rw[q]at r;cases r with
  |gl=>rfl
 subst B;rw[y,z]at hF;have s:=hF w<|h.r.r i<|(Ë.1 p).1;cases n with
 |zero=>rw[s.1]at l;cases l
 |succ n=>
  rcases s with⟨C,_⟩|⟨_,D,f,a,E,u⟩
  .rw[C]at l;cases l
  have m:(i==0)=Ã:=by simpa using x
  have F:fy kp i .no=kp:=by funext j;unfold fy;split<;>simp[*]
  have G:fy tr i .fB=tr:=by funext j;unfold fy;split<;>simp[*]
  obtain⟨c,H,I,_,K,v⟩:=h.qn (J:=oW P n) (T:=.fB) p (by rw[m];exact E w) (pI.fU _ _ _ _) (λ_ _=>u) u.status (λe o=>⟨λb m=>(by rw[eh<|a e o]at m;cases m),low_mute (a e o) _⟩) (Aq h.r.l λM b=>by obtain⟨e,o,rfl⟩:=í b;exact eh<|a e o);rw[F,G]at v;exact⟨c,f,n,U,H,I,λk q=>⟨g,D,K k q⟩,a,v⟩
end
def wF(u:ğ):Prop:=∀a∈u,a.act.touch?=ë/\∀m,a.act≠Ř m
theorem af4(t:ğ)(a:cZ)(b:a.act≠Ř cL)(c:a.act≠Ř dy)(j:Nat):Τ (t.push a) j=Τ t j:=by
 have d:t.push a=t++#[a]:=fj
 unfold Τ;rw[d,show(t++#[a]).size=t.size+1 by simp];show(match(t++#[a])[t.size]? with
  |some {g:=h,act:=Ř cL, .. }=>if h=j then(t++#[a]).deaf j t.size+1 else(t++#[a]).deaf j t.size
  |some {g:=h,act:=Ř dy, .. }=>if h=j then(t++#[a]).deaf j t.size-1 else(t++#[a]).deaf j t.size
  |_=>(t++#[a]).deaf j t.size)=_
 have e:(t++#[a])[t.size]?=À a:=fj
 rw[e];let⟨g,f,i,k⟩:=a;simp only at b c;split
 .grind
 .grind
 .exact cO<|ß _
def W6(t:ğ):∀(u:List cZ),(∀a∈u,a.act≠Ř cL/\a.act≠Ř dy)->∀j,Τ (t++u.toArray) j=Τ t j
 |[],_,j=>by simp
 |a::u,h,j=>by
  have e:t++(a::u).toArray=(t.push a)++u.toArray:=by apply Array.ext';simp
  rw[e,W6 (t.push a) u (λx b=>h x<|by simp[b]) j];exact af4 t a (h a fj).1 (h a fj).2 j
def Jt{u:ğ}(h:wF u)(j:Nat):Τ (qJ++u) j=Τ qJ j:=by have:=W6 qJ u.toList (λa b=>⟨(h a<|by simpa using b).2 _,(h a<|by simpa using b).2 _⟩) j;simpa using this
section
variable{S:Nat->Jd}{C:Nat->gw}{B:Nat->iy}{lot:Nat->fc}{u:ğ}{sl:Option (Nat×Nat)}
def iQ.af5{Live:Nat->Prop}(h:iQ i Live X lot w qJ)(f:pI Live X lot w W)(c:wF u)(g:∀a∈u,a.act.low w.heap.size):iQ i Live X lot W (qJ++u):= h.G (λk=>va.fU _ _) f (λa d b e=>by rw[(c a d).1]at e;cases e) g (Aq h.l λa d=>(c a d).1) λk b=>by rw[Jt c];exact h.f k b
def Ju{Live:Nat->Prop}{r:Nat}{x:Bool}(y:X i)(p:w.heap[i]?=À (χ n d yQ j r x))(f g h:Nat)(l:Array Â)(m o:Bool):pI Live X lot w (w.setChan i f l m g h o):=by
 have q:∀b,b≠i->(w.setChan i f l m g h o).heap[b]?=w.heap[b]?:=λb u=>by unfold au;simp only;exact Ï<|ą u
 have v:(w.setChan i f l m g h o).heap[i]?=À (χ f l m g h o):=by unfold au;simp[(Ë.1 p).1]
 refine⟨by unfold au;simp,λb u=>q b λe=>u<|e▸y,λk _ a _=> ?_,λk _ a _=> ?_,λa t=> ?_⟩
 .by_cases e:a.block=i
  .unfold Ġ;rw[e,v,p]
  .unfold Ġ;rw[q _ e]
 .by_cases e:a.block=i
  .unfold Ĉ;rw[e,v,p]
  .unfold Ĉ;rw[q _ e]
 .by_cases e:a.block=i
  .unfold Ġ at t;rw[e,p]at t;cases t
  .have:(w.setChan i f l m g h o).cell? a=w.cell? a:=by unfold Ġ;rw[q _ e]
   rwa[this]
def gL.G(b:gL P i X S C B lot E w qJ){J:Jd}{T:gw}{K:iy}(d:n<E.size)(f:pI (λn=>n<E.size) X lot w W)(c:wF u)(h:∀l∈u,l.act.low w.heap.size) (hF:kX P (n==0) J T (lot n) g) (m:g.status=Ð\/g.status=Ğ): gL P i X (fy S n J) (fy C n T) (fy B n K) lot (E.setIfInBounds n g) W (qJ++u):=by
 refine⟨?_,λk x a=> ?_,λj o=> ?_⟩
 .rw[show(λj=>j<(E.setIfInBounds n g).size)=(λj=>j<E.size) by simp];exact b.r.af5 f c h
 .by_cases e:k=n
  .subst e;rw[Ò d]at a;obtain rfl:=Ĥ a;rw[gF,gF,gF];exact⟨_,hF,.gl,m,Ç U⟩
  .rw[Ï<|ą e]at a;rw[fI S _ e,fI C _ e,fI B _ e];exact b.C k x a
 .rw[Jt c];exact b.I j<|by simpa using o
def Oc{γ δ:Type}{f:γ->List δ}:∀{l:List γ},(∀x∈l,f x=[])->l.flatMap f=[]
 |[],_=>rfl
 |x::l,h=>by rw[aV,h x fj,Oc λy a=>h y (by simp[a])];rfl
def ym(r:Nat)(b:Bool)(g:Ó):Prop:=g.status=Ů/\∃a d,g.offers=À (a,d)/\∃c∈a,(c.send.isSome==b)=É/\(match c.chan with|ek (À r')=>r'==r|_=>Ã)=É
theorem W7{r:Nat}{E:Array Ó}(h:∀(i:Nat) (g:Ó),E[i]?=À g->¬ym r yQ g):Η E r yQ=[]:=by
 unfold Η;refine Oc λx m=> ?_;let⟨g,i⟩:=x;have d:E[i]?=À g:=by grind
 simp only[];split
 .rename_i b e f j;rw[aj,Υ];intro y n a;let⟨c,k⟩:=y;have l:c∈b:=by
   grind
  simp only[ě]at a;exact h i g d ⟨f,b,e,j,c,l,a.1,by have:=a.2;revert this;cases c.chan<;>first|exact id|(rename_i q;cases q<;>exact id)⟩
 .rfl
def W8{γ δ:Type}(f:γ×Nat->List δ):∀(L:List γ) (n h:Nat) (x:γ),(∀y k,k≠h->(y,k)∈L.zipIdx n->f (y,k)=[])->n<=h->L[h-n]?=À x->(L.zipIdx n).flatMap f=f (x,h)
 |[],n,h,x,_,_,hx=>by simp at hx
 |a::L,n,h,x,hf,hn,hx=>by
  rw[Ĭ,aV];by_cases e:h=n
  .subst e;have:a=x:=by simpa using hx
   subst this;rw[Oc ?_,List.append_nil];intro y b;let⟨y,k⟩:=y;refine hf y k ?_ (by rw[Ĭ];exact ò _ b);have:=List.le_snd_of_mem_zipIdx b;simp only at this;omega
  .rw[hf a n Z (by rw[Ĭ];exact î ..),List.nil_append];refine W8 f L (n+1) h x (λy k c b=>hf y k c<|by rw[Ĭ];exact ò _ b) Z ?_;have b:h-n=(h-(n+1))+1:=Z
   rw[b]at hx;simpa using hx
theorem af6{E:Array Ó}(l:E[n]?=À g)(m:g.status=Ů)(o:g.offers=À (#[θ i z],.recv É))(p:∀(a:Nat) (b:Ó),a≠n->E[a]?=À b->¬ym i Ã b):Η E i Ã=[(n,0)]:=by
 unfold Η;have e:E.zipIdx.toList=E.toList.zipIdx:=fj
 rw[e];rw[W8 _ E.toList 0 n g (λy k r B=> ?_) (dA _) (by simpa using l)]
 .simp[m,o,θ]
 .have s:E[k]?=À y:=by
   grind
  simp only[];split
  .rename_i j t u v;rw[aj,Υ];intro x C d;let⟨f,D⟩:=x;have w:f∈j:=by
    grind
   simp only[ě]at d;exact p k y r s ⟨u,j,t,v,f,w,d.1,by have:=d.2;revert this;cases f.chan<;>first|exact id|(rename_i q;cases q<;>exact id)⟩
  .rfl
theorem Od(h:(E.setIfInBounds i ph)[k]?=À g):g.status=Ğ\/(k≠i/\E[k]?=À g):=by
 by_cases e:k=i
 .subst e;rw[Ś]at h;simp only[if_true]at h;split at h
  .left;obtain rfl:=Ĥ h;rfl
  .cases h
 .grind
theorem gL.Oe(l:gL P i X S C B lot E w qJ)(c a:Nat):Η (E.setIfInBounds a ph) c É=[]:=by
 refine W7 λk x m=> ?_;rintro⟨d,p,r,b,n,f,o,_⟩;rcases Od m with q|⟨_,q⟩
 .grind
 .let⟨g0,_,g,j,_⟩:=l.C k x q;generalize B k=K at g;cases g with
  |gl=>rw[d]at j;rcases j with e|e<;>cases e
  |nL h e=>simp only[e]at b;cases b
  |tx e z h=>
   simp only[Γ,ž,Prod.mk.injEq]at b;rw[<-b.1]at f;have:n=θ e z:=by simpa using f
   subst this;cases o
  |na e z h=>cases d
def gL.Og(e:gL P i X S C B lot E w qJ){N:Option Â->Jd}(f:E[n]?=À g)(k:g.status=Ð)(l:B n=.sj j z)(m:C n=.fB)(o:S n=wD P (n==0) j z N): ∃a,kX P (n==0) (S n) (C n) (lot n) a/\a.status=Ð/\a.offers=ë/\Ù P (n==0) g w=.comm a #[θ j z] É (.recv É) w #[]/\∀x:Option Â,fi P (n==0) (N x) (lot n) {a with frame:=a.frame.finish (ſ #[x.getD z,Ľ x.isSome])}:=by
 let⟨a,hF,b,_,_⟩:=e.C n g f;have p:=hF;rw[o,m]at hF;let⟨x,q,d,r⟩:=hF _<|fH.fU _ _;rw[l]at b;refine⟨a,p,x,q,?_,r⟩;cases b with
 |gl=>exact d w
 |tx j z h=>cases k
 |na j z h=>rw[stepG_tries];rw[show({a with status:=Ð}:Ó)=a by cases a;simp only at x;subst x;rfl];exact d w
def yn{g0:Ó}{a:Array CommCase}{b:CommShape}{ok:Bool}(c:g0.status=Ð)(d:g0.offers=ë):g0.finishComm P a b h v ok={g0 with frame:=g0.frame.finish (commResult a b h v ok)}:=by let⟨f,a,st,e,o⟩:=g0;simp only at c d;subst c d;rfl
def gL.ng(e:gL P i X S C B lot E w qJ){N:Option Â->Jd}(h:E[n]?=À g)(G:g.status=Ð)(l:B n=.sj j z)(H:C n=.fB)(I:S n=wD P (n==0) j z N)(p:X j){r:Nat}{o:Bool}(q:w.heap[j]?=À (χ b d yQ m r o))(t:d[0]?=À v)(K:iy): ∃a u T f,cX P (ķ E w sl) n=(ň<|ķ a (w.setChan j b (d.extract 1 d.size) yQ m (r+1) o) sl,u)/\a.size=E.size/\a[n]?=À f/\f.status=Ð/\(∀k,k≠n->a[k]?=E[k]?)/\wF u/\ gL P i X (fy S n<|N<|À v) (fy C n T) (fy B n K) lot a (w.setChan j b (d.extract 1 d.size) yQ m (r+1) o) (qJ++u):=by
 have x:=(Ë.1 h).1;let⟨g0,_,f,y,J,L⟩:=e.Og h G l H I;have D:d.getD 0 ľ=v:=by simp[ĩ,t]
 have M:=crowd_recv_buf (sl:=sl) h J q ((Ë.1 t).1)<|e.Oe j n;let⟨T,O⟩:=ji<|L<|À v;refine⟨_,_,T,{g0 with frame:=g0.frame.finish (ſ #[v,Ľ É])},M,fj,?_,f,λk l=>Ï<|ą l,?_,?_⟩
 .rw[yn f y,D,Ò x];rfl
 .intro F a;simp[Í]at a;rcases a with rfl|rfl<;>exact⟨U,fj⟩
 .rw[yn f y,D];refine e.G x (Ju p q _ _ _ _ _ _) ?_ ?_ O<|Ç f
  .intro F a;simp[Í]at a;rcases a with rfl|rfl<;>exact⟨U,fj⟩
  .intro F a;simp[Í]at a;rcases a with rfl|rfl<;>exact e.r.N j p
def gL.jd(e:gL P i X S C B lot E w qJ){N:Option Â->Jd}(h:E[n]?=À g)(q:g.status=Ð)(l:B n=.sj j z)(t:C n=.fB)(v:S n=wD P (n==0) j z N)(x:X j){r:Nat}(y:w.heap[j]?=À (χ b #[] É k r yQ))(K:iy): ∃d u T f,cX P (ķ E w sl) n=(ň<|ķ d w sl,u)/\d.size=E.size/\d[n]?=À f/\f.status=Ð/\(∀a,a≠n->d[a]?=E[a]?)/\wF u/\ gL P i X (fy S n<|N ë) (fy C n T) (fy B n K) lot d w (qJ++u):=by
 have m:=(Ë.1 h).1;let⟨g0,_,f,o,D,F⟩:=e.Og h q l t v;let⟨T,G⟩:=ji<|F ë;refine⟨_,_,T,{g0 with frame:=g0.frame.finish (ſ #[z,Ľ Ã])},crowd_recv_closed (sl:=sl) h D y<|e.Oe j n,fj,?_,f,λa l=>Ï<|ą l,?_,?_⟩
 .rw[yn f o,Ò m];rfl
 .intro p d;simp[Í]at d;subst d;exact⟨U,fj⟩
 .rw[yn f o];refine e.G m (pI.fU _ _ _ _) ?_ ?_ G<|Ç f
  .intro p d;simp[Í]at d;subst d;exact⟨U,fj⟩
  .intro p d;simp[Í]at d;subst d;exact e.r.N j x
def gL.af7(f:gL P i X S C B lot E w qJ){N:Option Â->Jd}(m:E[n]?=À g)(u:g.status=Ð)(h:B n=.sj j z)(o:C n=.fB)(v:S n=wD P (n==0) j z N){r:Nat}(p:w.heap[j]?=À (χ b #[] Ã k r yQ)): ∃d e,cX P (ķ E w sl) n=(ň<|ķ d w sl,#[])/\d.size=E.size/\d[n]?=À e/\e.status=Ů/\(∀a,a≠n->d[a]?=E[a]?)/\gL P i X S C B lot d w qJ:=by
 have q:=(Ë.1 m).1;let⟨g0,hF,t,G,y,H⟩:=f.Og m u h o v;have D:=crowd_waits (sl:=sl) m y (λd e=>by
  have:d=θ j z:=by simpa using e
  subst this;exact⟨by simp[illMade,θ,p],by simp[ways,θ,p,f.Oe j n]⟩)
 refine⟨_,Γ g0 #[θ j z]<|.recv É,?_,fj,Ò q,U,λa h=>Ï<|ą h,?_,λa x l=> ?_,λd F=>f.I d<|by simpa using F⟩
 .rw[D];rfl
 .rw[show(λd=>d<(E.setIfInBounds n<|Γ g0 #[θ j z]<|.recv É).size)=(λd=>d<E.size) by simp];exact f.r
 .by_cases e:a=n
  .subst e;rw[Ò q]at l;obtain rfl:=Ĥ l;refine⟨g0,hF,?_,Ç t,Î o⟩;rw[h];exact .tx j z t
  .rw[Ï<|ą e]at l;exact f.C a x l
def gL.iJ(f:gL P i X S C B lot E w qJ){N:Jd}(h:E[n]?=À g)(l:B n=.no)(F:C n=.fB)(G:S n=Ar P (n==0) b v N)(p:X b){r:Nat}(t:w.heap[b]?=À (χ m d Ã J r yQ))(H:d.size<m) (I:∀(k:Nat) (x:Ó),E[k]?=À x->¬ym b Ã x): ∃e u T a,cX P (ķ E w sl) n=(ň<|ķ e (w.setChan b m (d.push v) Ã (J+1) r yQ) sl,u)/\e.size=E.size/\e[n]?=À a/\a.status=Ð/\(∀k,k≠n->e[k]?=E[k]?)/\wF u/\ gL P i X (fy S n N) (fy C n T) B lot e (w.setChan b m (d.push v) Ã (J+1) r yQ) (qJ++u):=by
 have y:=(Ë.1 h).1;let⟨g0,hF,z,_,_⟩:=f.C n g h;rw[l]at z;cases z with
 |gl=>
  rw[G,F]at hF;let⟨a,D,o,K⟩:=hF _<|fH.fU _ _;let⟨V,o⟩:=o w;have L:Η (E.setIfInBounds n ph) b Ã=[]:=W7 λk x M=>by
   rcases Od M with q|⟨_,q⟩
   .rintro⟨e,_⟩;rw[q]at e;cases e
   .exact I k x q
  let⟨T,O⟩:=ji K;have Q:fy B n .no=B:=by funext j;unfold fy;split<;>simp[*]
  refine⟨_,_,T,{g with frame:=g.frame.finish ľ},crowd_send_room (sl:=sl) h o t H L,fj,?_,a,λk l=>Ï<|ą l,?_,?_⟩
  .rw[yn a D,Ò y];rfl
  .intro q e;simp[Í]at e;rcases e with rfl|rfl<;>exact⟨U,fj⟩
  .rw[yn a D,<-Q];refine f.G y (Ju p t _ _ _ _ _ _) ?_ ?_ O<|Ç a
   .intro q e;simp[Í]at e;rcases e with rfl|rfl<;>exact⟨U,fj⟩
   .intro q e;simp[Í]at e;rcases e with rfl|rfl<;>exact f.r.N b p
def gL.af8(o:gL P i X S C B lot E w qJ){p:Ó}{N:Jd}{D:Option Â->Jd}(F:E[n]?=À g)(f:B n=.no)(ht:C n=.fB)(hs:S n=Ar P (n==0) b v N)(L:X b){r:Nat}(M:w.heap[b]?=À (χ J d Ã j9 r yQ)) (G:j≠n) (t:E[j]?=À p) (O:p.status=Ů) (Jv:B j=.sj b z) (Oh:C j=.fB) (Jw:S j=wD P (j==0) b z D) (K:iy) (hp:∀(k:Nat) (x:Ó),k≠j->E[k]?=À x->¬ym b Ã x): ∃e u T y h q,cX P (ķ E w sl) n=(ň<|ķ e (w.setChan b J d Ã (j9+1) (r+1) yQ) sl,u)/\e.size=E.size/\e[n]?=À h/\h.status=Ð/\e[j]?=À q/\q.status=Ð/\(∀k,k≠n->k≠j->e[k]?=E[k]?)/\wF u/\ gL P i X (fy (fy S j<|D<|À v) n N) (fy (fy C j y) n T) (fy (fy B j K) n .no) lot e (w.setChan b J d Ã (j9+1) (r+1) yQ) (qJ++u):=by
 have Q:=(Ë.1 F).1;have V:=(Ë.1 t).1;let⟨g0,hF,W,_,_⟩:=o.C n g F;let⟨a,Y,W9,atW,_⟩:=o.C j p t;rw[f]at W;rw[Jv]at W9;cases W with
 |gl=>
  rw[hs,ht]at hF;let⟨H,h2,I,h4⟩:=hF _<|fH.fU _ _;let⟨z',I⟩:=I w;rw[Jw,Oh]at Y;let⟨l,k2,k3,k4⟩:=Y _<|fH.fU _ _;have CU:p=Γ a #[θ b z] (.recv É):=by
   cases W9 with
   |gl=>rw[O]at l;cases l
   |tx _ _ h=>rfl
   |na _ _ h=>cases O
  subst CU;have hpn:Η (E.setIfInBounds n ph) b Ã=[(j,0)]:=af6 (by rwa[Ï<|ą G]) U U λk x f hx=>by
   rcases Od hx with q|⟨_,q⟩
   .rintro⟨e,_⟩;rw[q]at e;cases e
   .exact hp k x f q
  have Oi:=crowd_send_meets (sl:=sl) F I M G t hpn;let⟨T,hT⟩:=ji h4;let⟨y,hTj⟩:=ji<|k4<|À v;rw[yn H h2,yn l k2]at Oi;have q:∀{h:cZ},h∈Í n g.frame.fn g.frame.place #[]++#[{g:=n,fn:=g.frame.fn,pos:=g.frame.place,act:=.send b j9},{g:=j,fn:=a.frame.fn,pos:=a.frame.place,act:=.recv b r J},{g:=n,fn:=g.frame.fn,pos:=g.frame.place,act:=.sendDone b j9},{g:=j,fn:=a.frame.fn,pos:=a.frame.place,act:=.recvDone b r}]->(h.act.touch?=ë/\∀m,h.act≠Ř m)/\h.act.low w.heap.size:=by intro h e;simp[Í]at e;rcases e with rfl|rfl|rfl|rfl<;>exact⟨⟨U,fj⟩,o.r.N b L⟩
  refine⟨_,_,T,y,{g with frame:=g.frame.finish ľ},{a with frame:=a.frame.finish (ſ #[v,Ľ É])},Oi,fj,?_,H,?_,l,λk f tA=> ?_,λh e=>(q e).1,?_⟩
  .rw[Ò (by simpa using Q)];rfl
  .rw[Ï<|ą G,Ò V];rfl
  .rw[Ï<|ą f,Ï<|ą tA]
  .have m:gL P i X (fy S j<|D<|À v) (fy C j y) (fy B j K) lot (E.setIfInBounds j {a with frame:=a.frame.finish (ſ #[v,Ľ É])}) w (qJ++#[]):=o.G V (pI.fU _ _ _ _) (λh e=>by simp at e) (λh e=>by simp at e) hTj<|Ç l;rw[ď]at m;refine m.G (by simpa using Q) (Ju L M _ _ _ _ _ _) (λh e=>(q e).1) (λh e=>(q e).2) hT<|Ç H
theorem gL.kR(o:gL P i X S C B lot E w qJ){N:Jd}(I:E[n]?=À g)(K:B n=.no)(ht:C n=.fB)(hs:S n=Jr P (n==0) J N)(L:X J)(hB:i<=J){r:Nat}(O:w.heap[J]?=À (χ j9 q Ã j7 r yQ)): ∃t u T G,cX P (ķ E w sl) n=(ň<|ķ t (w.setChan J j9 q É j7 r yQ) sl,u)/\t.size=E.size/\t[n]?=À G/\G.status=Ð/\(∀k x,k≠n->E[k]?=À x->t[k]?=À (x.again<|w.setChan J j9 q É j7 r yQ))/\(∀l∈u,l.g=n)/\(∀l∈u,∀b,l.act.touch?=À b->b.loc=.obj J/\b.kind=Ŕ)/\(∀l∈u,∀m,l.act≠Ř m)/\ gL P i X (fy S n N) (fy C n T) B (gu lot n {lot n with w:=w.setChan J j9 q É j7 r yQ}) t (w.setChan J j9 q É j7 r yQ) (qJ++u):=by
 have H:=(Ë.1 I).1;have Q:=o.r.N J L;let⟨g0,hF,V,_,_⟩:=o.C n g I;rw[K]at V;cases V with
 |gl=>
  rw[hs,ht]at hF;let⟨h1,h2,G,M,h4,h5⟩:=hF w<|o.r.r n H;have v:=Ju (lot:=lot) (Live:=λn=>n<E.size) L O j9 j7 r q É yQ;have y:fH (lot n) w (w.setChan J j9 q É j7 r yQ):=⟨dz v.r.symm,λj hj=>v.jO j<|o.r.I n H j hj,λa z=>v.M n H a z,λa z=>v.N n H a z,λa _=>v.I a⟩;let⟨T,hT⟩:=ji<|h5.jW ⟨y.r,y.I,y.N,y.Y,y.S⟩;have W:ŭ (lot n).d (CR J)=(lot n).d:=bq (λe f=>by simp[CR]at f;grind) _;have D:∀e∈CR J,(∀b,(è e).touch?=À b->b.loc=.obj J/\b.kind=Ŕ)/\(è e).low w.heap.size:=by
   intro e f;simp[CR]at f;rcases f with rfl|rfl
   .exact⟨λb h=>by simp[è,ÿ]at h;subst h;exact⟨U,U⟩,Q⟩
   .exact⟨λb h=>by simp[è,ÿ]at h,Q⟩
  have e2:fy B n .no=B:=by funext j;unfold fy;split<;>simp[*]
  obtain⟨t,q1,q2,q3,q4,Y⟩:=o.qn I (h4 w j9 q j7 r yQ O) v (by rwa[W]) (Ç M) (λe f=>⟨λb h=>Î ⟨J,((D e f).1 b h).1,L,((D e f).1 b h).2⟩,(D e f).2⟩) (N5 o.r.l nY λl F b h=>by obtain⟨e,f,rfl⟩:=í F;let⟨z1,z2⟩:=(D e f).1 b h;refine Î (Î ⟨z2,λp a z hl qW=> ?_⟩);have:=o.r.s p a J z (by rw[hl,z1]) qW;omega);rw[W,e2]at Y;refine⟨t,_,T,G,q1,q2,q3,M,λk x K p=> ?_,nY,λl F b h=> ?_,λl F=> ?_,Y⟩
  .rw[q4 k K,p];simp only[bH,ž];unfold ţ;rw[if_pos (by simp[h2,M])]
  .obtain⟨e,f,rfl⟩:=í F;exact(D e f).1 b h
  .obtain⟨e,f,rfl⟩:=í F;simp[CR]at f;intro m;rcases f with rfl|rfl<;>simp[è]
end
def fM(b:Nat):Ú:=⟨b,0,ë⟩
def gV(b:Nat):Ú:=⟨b,1,ë⟩
inductive GS where
 |cl (c reg:Nat)
 |jB (reg:Nat)
 |gW (r s:Nat)
def GS.st:GS->Int
 |.cl c a=>c*fY+a
 |.jB a=>a
 |.gW _ _=>0
def GS.sm:GS->Int
 |.gW _ s=>s
 |_=>0
def GS.ok:GS->Prop
 |.cl c r=>c<1000000/\r<1000000/\(c=0->r=0)
 |.jB r=>0<r/\r<1000000
 |.gW r s=>r+s<1000000
structure ia(w:Æ)(b:Nat)(G:GS):Prop where
 C:w.cell? (fM b)=À (Ć æ G.st)
 M:w.cell? (gV b)=À (Ć ŗ G.sm)
 I:w.frozen? (fM b)=Ã
 N:w.frozen? (gV b)=Ã
 r:G.ok
theorem As(h:w.cell? a=À x):(w.setCell a v).cell? a=À v:=by unfold Ġ at h|-;unfold ĉ;grind
theorem yo(h:a.block≠p.block\/a.off≠p.off):(w.setCell a v).cell? p=w.cell? p:=by unfold Ġ ĉ;grind
theorem Oj:kQ (w.setCell a v) b=kQ w b:=by unfold kQ ĉ;grind
def sk:(w.setCell a v).frozen? p=w.frozen? p:=by simp_all
theorem lk(h:j≠a.block):(w.setCell a v).heap[j]?=w.heap[j]?:=by unfold ĉ;grind
def jU:(w.setCell a v).heap.size=w.heap.size:=by simp_all
theorem yp(h:(w.cell? p).isSome=É):((w.setCell a v).cell? p).isSome=É:=by unfold Ġ ĉ at*;grind
theorem af9{Live Y:Nat->Prop}{c:Nat->fc}(f:Y a.block)(l:a.spot=ë)(m:∀k,Live k->¬(c k).C a)(g:∀k,Live k->∀b,(c k).C b->b.spot=ë):pI Live Y c w (w.setCell a v):=by
 refine⟨jU,λj h=>lk λe=>h<|e▸f,λk i b d=>yo ?_,λ_ _ _ _=>sk,λb d=>yp d⟩;by_cases e:a.block=b.block
 .right;intro n;have:=g k i b d;let⟨o,p,q⟩:=b;let⟨r,s,t⟩:=a;grind
 .exact Ç e
section
variable{b:Nat}{G:GS}
def ia.vd(h:ia w b G)(a:u.cell? (fM b)=w.cell? (fM b))(c:u.cell? (gV b)=w.cell? (gV b))(d:u.frozen? (fM b)=w.frozen? (fM b))(e:u.frozen? (gV b)=w.frozen? (gV b)):ia u b G:= ⟨a.trans h.C,c.trans h.M,d.trans h.I,e.trans h.N,h.r⟩
def ia.iR(h:ia w b G)(c:a.block≠b):ia (w.setCell a v) b G:= h.vd (yo<|Ç c) (yo<|Ç c) sk sk
def ia.Jx{G':GS}(h:ia w b G)(a:G'.sm=G.sm)(d:G'.ok)(e:c=G'.st):ia (w.setCell (fM b)<|Ć æ c) b G':= ⟨by rw[As h.C,e],by rw[yo (Î<|by simp[fM,gV]),h.M,a],by rw[sk,h.I],by rw[sk,h.N],d⟩
def ia.Xa{G':GS}(h:ia w b G)(a:G'.st=G.st)(d:G'.ok)(e:c=G'.sm):ia (w.setCell (gV b)<|Ć ŗ c) b G':= ⟨by rw[yo (Î<|by simp[fM,gV]),h.C,a],by rw[As h.M,e],by rw[sk,h.I],by rw[sk,h.N],d⟩
end
theorem Jy(a:0<=h)(b:h<18446744073709551616):æ.wrap h=h:=by have:æ.wrap h=h%18446744073709551616:=rfl;rw[this];omega
def aga(a:4294967296<=h)(b:h<18446744073709551616):æ.wrap (h+18446744069414584320)=h-4294967296:=by have:æ.wrap (h+18446744069414584320)=(h+18446744069414584320)%18446744073709551616:=rfl;rw[this];omega
theorem agb(a:0<=h)(b:h<4294967296):ŗ.wrap h=h:=by have:ŗ.wrap h=h%4294967296:=rfl;rw[this];omega
def qo:Int:=18446744069414584320
def GS.jG:GS->GS
 |.cl (c+1) reg=>if c=0/\0<reg then .jB reg else .cl c reg
 |G=>G
section
variable{b:Nat}
theorem ia.agc(h:ia w b (.cl i 0))(a:i+1<1000000):æ.wrap ((GS.cl i 0).st+fY)=(GS.cl (i+1) 0).st/\ia (w.setCell (fM b)<|Ć æ<|æ.wrap<|(GS.cl i 0).st+fY) b (.cl (i+1) 0):=by
 have e:æ.wrap ((GS.cl i 0).st+fY)=(GS.cl (i+1) 0).st:=by simp only[GS.st,fY];grind [Jy]
 exact⟨e,h.Jx (G':=.cl (i+1) 0) U ⟨a,Z,Z⟩ e⟩
def ia.jG(h:ia w b (.cl (i+1) n)):æ.wrap ((GS.cl (i+1) n).st+qo)=(GS.jG<|.cl (i+1) n).st/\ia (w.setCell (fM b)<|Ć æ<|æ.wrap<|(GS.cl (i+1) n).st+qo) b (GS.jG<|.cl (i+1) n):=by
 let⟨f,a,g⟩:=h.r;have d:æ.wrap ((GS.cl (i+1) n).st+qo)=(i:Int)*fY+n:=by simp only[GS.st,fY,qo];rw[aga Z Z];omega
 have e:æ.wrap ((GS.cl (i+1) n).st+qo)=(GS.jG<|.cl (i+1) n).st:=by
  rw[d];simp only[GS.jG];by_cases q:i=0/\0<n
  .rw[if_pos q];obtain⟨rfl,_⟩:=q;simp[GS.st]
  .rw[if_neg q];rfl
 refine⟨e,h.Jx ?_ ?_ e⟩
 .simp only[GS.jG];split<;>rfl
 .simp only[GS.jG];by_cases q:i=0/\0<n
  .rw[if_pos q];exact⟨q.2,a⟩
  .rw[if_neg q];exact⟨Z,a,λe=>by omega⟩
theorem ia.Xb(h:ia w b (.cl i n))(f:0<i)(a:n+1<1000000):æ.wrap ((GS.cl i n).st+1)=(GS.cl i<|n+1).st/\ia (w.setCell (fM b)<|Ć æ<|æ.wrap<|(GS.cl i n).st+1) b (.cl i (n+1)):=by
 let⟨d,g,j⟩:=h.r;have e:æ.wrap ((GS.cl i n).st+1)=(GS.cl i<|n+1).st:=by simp only[GS.st,fY];grind [Jy]
 exact⟨e,h.Jx (G':=.cl i (n+1)) U ⟨d,a,λe=>by omega⟩ e⟩
def ia.Xc(h:ia w b (.jB i)):ia (w.setCell (fM b)<|Ć æ 0) b (.gW i 0):= h.Jx (G':=.gW i 0) U (by have:=h.r;simp only[GS.ok]at this|-;omega) U
theorem ia.jA{r:Nat}(h:ia w b (.gW (r+1) i)):ia (w.setCell (gV b)<|Ć ŗ<|ŗ.wrap<|(GS.gW (r+1) i).sm+1) b (.gW r (i+1)):=by have:=h.r;simp only[GS.ok]at this;refine h.Xa (G':=.gW r (i+1)) U (by simp only[GS.ok];omega) ?_;simp only[GS.sm];grind [agb]
def ia.kx{r:Nat}(h:ia w b (.gW r (i+1))):ia (w.setCell (gV b)<|Ć ŗ<|(GS.gW r<|i+1).sm-1) b (.gW r i):=by have:=h.r;simp only[GS.ok]at this;refine h.Xa (G':=.gW r i) U (by simp only[GS.ok];omega) ?_;simp only[GS.sm];omega
def ia.agd{G:GS}(h:ia w b G):(0<=G.st/\G.st<fY)↔∀c a,G=.cl c a->c=0:=by
 have d:=h.r;cases G with
 |cl c a=>
  let⟨r,s,f⟩:=d;simp only[GS.st,fY];constructor
  .intro q g i e;cases e;omega
  .intro q;have:=q c a U;subst this;omega
 |jB a=>simp only[GS.ok]at d;simp only[GS.st,fY];exact⟨λ_ _ _ e=>(by cases e),λ_=>by omega⟩
 |gW r s=>simp only[GS.st,fY];exact⟨λ_ _ _ e=>(by cases e),λ_=>by omega⟩
end
inductive jC where
 |jA|iF|gA (W:Nat)|ja (W:Nat)|iz (r:Nat)
inductive jq where
 |iX|lV (p:SP)|wr|kx|gA|kY
section
variable(P:Õ)(main:Bool)(B:Nat)(b:Nat)(J:Jd)
def FL:Nat->Jd
 |0=>J
 |r+1=>λl g=>l.d=1/\af0 P main (gV b) (match r with|0=>J|_=>fi P main<|FL r) l g
def Jz(W:Nat):Jd:=λl g=>l.d=1/\afY P main (fM b) 0 (FL P main b J W) l g
def JA(W:Nat):Jd:=λl g=>l.d=1/\W4 P main (fM b) (λv=>if v=(W:Int)then Jz P main b J W else λ_ _=>True) l g
def Ol:Jd:=λl g=>l.d=1/\N8 P main (fM b) qo (λs=>if s=0\/(fY<=s/\s<1000000*fY/\s%fY<1000000)then J else if 0<s/\s<1000000 then fi P main (JA P main b J s.toNat)else λ_ _=>True) l g
def yq:Jd:=λl g=>l.d=0/\FJ P main (Ķ<|fM b) (Ol P main b J) l g
def CV:jC->Jd
 |.jA=>yq P main b J
 |.iF=>Ol P main b J
 |.gA W=>JA P main b J W
 |.ja W=>Jz P main b J W
 |.iz r=>FL P main b J r
def FM:Jd:=λl g=>l.d=0/\FJ P main (cM<|fM b) J l g
def Xd:Jd:=λl g=>l.d=1/\W4 P main (fM b) (λv=>if v=0 then FM P main b J else λ_ _=>True) l g
def JB:Jd:=λl g=>l.d=1/\afZ P main (gV b) (Xd P main b J) l g
def Om:Jd:=λl g=>l.d=1/\FJ P main (.write<|gV b) (JB P main b J) l g
def On(p:SP):Jd:=λl g=>l.d=1/\CS P main (fM b) B (λ_=>FM P main b J) (λv=>if v%fY=0 then Om P main b J else JB P main b J) p l g
def qp:jq->Jd
 |.iX=>λl g=>∃k,k<=B/\On P main B b J (.gd k) l g
 |.lV p=>On P main B b J p
 |.wr=>Om P main b J
 |.kx=>JB P main b J
 |.gA=>Xd P main b J
 |.kY=>FM P main b J
end
section
variable{P:Õ}{Y:Nat->Prop}{S:Nat->Jd}{tr:Nat->gw}{f:Nat->iy}{lot:Nat->fc}{gs:Array Ó}{t:ğ}
theorem iQ.C{Live:Nat->Prop}(h:iQ n Live Y lot w t)(E:Live i){l:fc}(s:∀b,l.O b->(lot i).O b) (x:∀b,l.I b->(lot i).M b\/(b<w.heap.size/\¬Y b/\(∀k,Live k->¬(lot k).O b)/\∀a:Ú,a.block=b->oV t i (û a))) (u:∀a,l.r a->(lot i).r a) (y:∀a,l.N a->(lot i).C a\/(Y a.block/\(∀k,Live k->¬(lot k).r a)/\oV t i (û a))) (F:l.K=(lot i).K) (D:l.d=(lot i).d) (G:l.w=w) (H:∀b,l.O b->¬l.I b) (I:∀a,l.r a->¬l.N a):iQ n Live Y (gu lot i l) w t:=by
 have v:∀b,l.M b->(lot i).M b\/(b<w.heap.size/\¬Y b/\(∀k,Live k->¬(lot k).O b)/\∀a:Ú,a.block=b->oV t i (û a)):=λb g=>g.elim (λq=>Ç<|Ç<|s b q)<|x b;have B:∀a,l.C a->(lot i).C a\/(Y a.block/\(∀k,Live k->¬(lot k).r a)/\oV t i (û a)):=λa f=>f.elim (λq=>Ç<|Ç<|u a q)<|y a;refine⟨λk j c o m b g=> ?_,λk j c o m a f=> ?_,λk c b g=> ?_,λk c a f=> ?_,λk c b g=> ?_,λk c a f=> ?_,λk c b g=> ?_,h.N,λk c=> ?_,λk c=> ?_,λk c=> ?_,h.l,h.q,h.s,λk c a f=> ?_⟩
 .by_cases e:k=i
  .subst e;rw[gT]at g;rw[gH lot _<|ą m];exact h.o k j c o m b<|s b g
  .rw[gH lot _ e]at g;by_cases p:j=i
   .subst p;rw[gT];intro q;rcases v b q with z|⟨_,_,z,_⟩
    .exact h.o k j c o m b g z
    .exact z k c g
   .rw[gH lot _ p];exact h.o k j c o m b g
 .by_cases e:k=i
  .subst e;rw[gT]at f;rw[gH lot _<|ą m];exact h.h k j c o m a<|u a f
  .rw[gH lot _ e]at f;by_cases p:j=i
   .subst p;rw[gT];intro q;rcases B a q with z|⟨_,z,_⟩
    .exact h.h k j c o m a f z
    .exact z k c f
   .rw[gH lot _ p];exact h.h k j c o m a f
 .by_cases e:k=i
  .grind [gT]
  .rw[gH lot _ e]at g|-;exact h.m k c b g
 .by_cases e:k=i
  .grind [gT]
  .rw[gH lot _ e]at f|-;exact h.g k c a f
 .by_cases e:k=i
  .subst e;rw[gT]at g;exact(v b g).elim (h.I k c b) λz=>z.2.1
  .rw[gH lot _ e]at g;exact h.I k c b g
 .by_cases e:k=i
  .subst e;rw[gT]at f;exact(B a f).elim (h.e k c a) λz=>z.1
  .rw[gH lot _ e]at f;exact h.e k c a f
 .by_cases e:k=i
  .subst e;rw[gT]at g;exact(v b g).elim (h.fx k c b) λz=>z.1
  .rw[gH lot _ e]at g;exact h.fx k c b g
 .by_cases e:k=i
  .grind [gT,fH.fU]
  .rw[gH lot _ e];exact h.r k c
 .by_cases e:k=i
  .subst e;rw[gT];refine⟨λa f=>(h.S k c).fp a<|s _ f,λa f=> ?_,λa f=>(h.S k c).I a<|u a f,λa f=> ?_⟩
   .rcases x _ f with(z|z)|⟨_,_,_,z⟩
    .exact((h.S k c).fp a z).r
    .exact(h.S k c).C a z
    .exact z a U
   .rcases y _ f with(z|z)|⟨_,_,z⟩
    .exact((h.S k c).I a z).r
    .exact(h.S k c).r a z
    .exact z
  .rw[gH lot _ e];exact h.S k c
 .by_cases e:k=i
  .subst e;rw[gT,D];exact h.f k c
  .rw[gH lot _ e];exact h.f k c
 .have e:(lot k).K a:=by
   grind [gT,gH]
  let⟨p,q⟩:=h.n k c a e;grind [gT,gH]
def gL.M(b:gL P n Y S tr f lot gs w t){J:Jd}{T:gw}{K:iy}{l:fc}(c:gs[i]?=À g)(d:g.status=Ð\/g.status=Ğ)(h:iQ n (λi=>i<gs.size) Y (gu lot i l) w t)(hF:kX P (i==0) J T l g): gL P n Y (fy S i J) (fy tr i T) (fy f i K) (gu lot i l) gs w t:=by
 refine⟨h,λk x a=> ?_,b.I⟩;by_cases e:k=i
 .subst e;rw[c]at a;obtain rfl:=Ĥ a;rw[gF,gF,gF,gT];exact⟨g,hF,.gl,d,Ç U⟩
 .rw[fI S _ e,fI tr _ e,fI f _ e,gH lot _ e];exact b.C k x a
end
end Go.Proofs.Y.fv
namespace Go.Proofs.Y.fv
open Go Go.Conc Go.Proofs.Y.Lift
open Go.ConcN (RelBy fork_knows)
def At(t:ğ)(p:Nat)(l:dR):Prop:=∀q a,Ě t q=À a->a.loc=l->a.write=É->Before t q p
theorem At.Oo{u:ğ}{l:dR}(h:At qJ i l)(j:∀c∈u,∀b,c.act.touch?=À b->b.loc=l->b.write=É->False):At (qJ++u) i l:=by
 intro q a e f g;rcases mK e with⟨_,d⟩|⟨_,c,d,k,_⟩
 .exact(h q a d f g).app u
 .grind
def At.agf{l:dR}(h:At qJ i l)(b:bD qJ n i):oV qJ n l:=λq a c d e=>Knows.of_before (h q a c d e) b
theorem agh{l:dR}(h:oV qJ i l)(c:wQ.g=i)(j:wQ.act.touch?=ë):At (qJ++#[wQ]) qJ.size l:=by
 intro q a d e f;rcases mK d with⟨_,b⟩|⟨_,k,b,m,_⟩
 .exact Î<|(h q a b e f).hb_new (ß _) (by rw[ć<|ß _];simp) c
 .grind
structure Fx where
 L:Nat
 m:Nat
 C:Nat
 I:Nat->Nat
def Fx.M(F:Fx)(b:Nat):Prop:=b=F.C\/∃k,k<=F.m/\b=F.I k
def Fx.G(F:Fx)(x:Ú):Prop:=∃b,F.M b/\(x=fM b\/x=gV b)
def je(F:Fx)(k:Nat):Ú:=⟨F.I k,2,ë⟩
def Fx.Oq(F:Fx)(a:Nat->Option Nat)(x:Ú)(g:Option Nat):Prop:=(x=gV F.C/\g=À 0)\/∃k j,k<=F.m/\x=gV (F.I k)/\a k=À j/\g=À (F.L+1+j)
structure TI(F:Fx)(t0:Nat)(jj:dR->Prop)(sp rl:Nat)(V:Nat->Nat->Prop)(pk:Nat->Nat)(fs:Nat->Option Nat)(rx:Nat->Prop)(ql:Nat->Nat)(t:ğ):Prop where
 N:t0<=t.size
 M:∀p a x,Ě t p=À a->a.loc=û x->F.G x->(p<t0/\t.g? p=À 0)\/a.kind=Ŕ\/(a.kind=.said/\F.Oq fs x (t.g? p))
 Au:∀x,x<sp->∀p,p<t0->t.g? p=À 0->bD t (F.L+x) p
 Y:∀k,1<=k->k<=rl->t.act? (pk k)=À (Ř<|Ķ<|fM<|F.I k)/\t.g? (pk k)=À F.L/\t.heard (pk k)
 I:∀k,1<=k->k<=rl->∀a:Ú,(V k a.block\/a=je F k)->At t (pk k) (û a)
 c:∀b,F.M b->NoRelease (fM b) t
 r:∀x,x<sp->rx x->RelBy (fM F.C) t (F.L+x) (ql x)/\∀p a,Ě t p=À a->t.g? p=À (F.L+x)->p<=ql x\/((∃y:Ú,a.loc=û y/\y.block=F.C)/\a.kind=Ŕ)
 S:∀p a,t0<=p->Ě t p=À a->t.g? p=À 0\/∃x,x<sp/\t.g? p=À (F.L+x)
 e:∀p a,p<t0->Ě t p=À a->a.loc.isMemory=É->bD t 0 p\/(jj a.loc/\a.kind=Ŕ)
 d:∀p g,p<t0->t.g? p=À g->g≠0->t.counts p->∃j,t.g? j=À 0/\HappensBefore t p j
section
variable{F:Fx}{t0:Nat}{jj:dR->Prop}{sp rl:Nat}{V:Nat->Nat->Prop}{pk:Nat->Nat}{fs:Nat->Option Nat}{rx:Nat->Prop}{ql:Nat->Nat}{t u:ğ}
theorem JC(h:t.g? i=À n):i<t.size:=by unfold Ņ at h;grind
def FN(h:t.g? i=À n):(t++u).g? i=À n:=by rwa[aG<|JC h]
theorem Ot{a:dM}(h:Ě t i=À a):i<t.size:=by let⟨b,c,_⟩:=dN h;grind
structure JD(F:Fx)(sp rl:Nat)(V:Nat->Nat->Prop)(fs:Nat->Option Nat)(rx:Nat->Prop)(t u:ğ)(i:Nat):Prop where
 C:∀op∈u,∀a,op.act.touch?=À a->op.g=i
 S:i=0\/(∃x,x<sp/\i=F.L+x)\/∀op∈u,op.act.touch?=ë
 M:∀op∈u,∀a x,op.act.touch?=À a->a.loc=û x->F.G x->a.kind=Ŕ\/(a.kind=.said/\F.Oq fs x (À i))
 fL:∀op∈u,∀(a:dM) (y:Ú),op.act.touch?=À a->a.write=É->a.loc=û y->∀k,1<=k->k<=rl->¬V k y.block/\y≠je F k
 N:∀op∈u,∀b,F.M b->op.act≠Ř (dO<|fM b)
 I:∀x,x<sp->rx x->(∀r,RelBy (fM F.C) t (F.L+x) r->RelBy (fM F.C) (t++u) (F.L+x) r)/\(F.L+x=i->∀op∈u,∀a,op.act.touch?=À a->(∃y:Ú,a.loc=û y/\y.block=F.C)/\a.kind=Ŕ)
def TI.C(h:TI F t0 jj sp rl V pk fs rx ql t)(f:JD F sp rl V fs rx t u i):TI F t0 jj sp rl V pk fs rx ql (t++u) where
 N:=by rw[Array.size_append];have:=h.N;omega
 M p a x n y hc:=by
  rcases mK n with⟨d,c⟩|⟨d,m,c,l,j⟩
  .rw[aG d];exact h.M p a x c y hc
  .refine Î ((f.M m c a x l y hc).imp id λq=>⟨q.1,?_⟩);have:(t++u).g? p=À i:=by unfold Ņ;rw[j];simp[f.C m c a l]
   rw[this];exact q.2
 Au x r p d o:=(h.Au x r p d<|by rwa[aG<|Ô d h.N]at o).app u;Y k c l:=by let⟨v,s,b⟩:=h.Y k c l;have w:=JC s;exact⟨by rwa[dP w],FN s,(heard_old w).2 b⟩
 I k c l a n:=(h.I k c l a n).Oo λm B b z y C=>by have:=f.fL m B b a z C y k c l;exact n.elim this.1 this.2
 c b z:=(h.c b z).app λm B=>f.N m B b z;r x r hr:=by
  let⟨v,s⟩:=h.r x r hr;let⟨D,E⟩:=f.I x r hr;refine⟨D _ v,λp a n o=> ?_⟩;rcases mK n with⟨d,c⟩|⟨d,m,c,l,j⟩
  .exact s p a c<|by rwa[aG d]at o
  .have e:(t++u).g? p=À i:=by unfold Ņ;rw[j];simp[f.C m c a l]
   rw[e]at o;exact Î<|E (Ĥ o).symm m c a l
 S p a d n:=by
  rcases mK n with⟨D,c⟩|⟨_,m,c,l,j⟩
  .rw[aG D];exact h.S p a d c
  .have e:(t++u).g? p=À i:=by unfold Ņ;rw[j];simp[f.C m c a l]
   rw[e];rcases f.S with q|⟨x,r,q⟩|q
   .exact Ç<|by rw[q]
   .exact Î ⟨x,r,by rw[q]⟩
   .rw[q m c]at l;cases l
 e p a d n hm:=by rw[touchAt_old<|Ô d h.N]at n;exact(h.e p a d n hm).imp (·.app u) id
 d p g d o lA hc:=by have w:=Ô d h.N;rw[aG w]at o;rw[ei w]at hc;let⟨j,v,s⟩:=h.d p g d o lA hc;exact⟨j,FN v,eg u s⟩
theorem yr(f:∀c∈u,c.act.touch?=ë)(h:∀c∈u,∀b,F.M b->c.act≠Ř (dO<|fM b)):JD F sp rl V fs rx t u 0 where
 C c e a d:=by rw[f c e]at d;cases d
 S:=Ç U;M c e a x d:=by rw[f c e]at d;cases d
 fL c e a y d:=by rw[f c e]at d;cases d
 N:=h;I x hx g:=by refine⟨λr g=>g.app λj l m i=> ?_,λ_ c e a d=>by rw[f c e]at d;cases d⟩;let⟨z,k,_⟩:=i;rcases mK k with⟨q,_⟩|⟨_,c,n,o,_⟩;all_goals grind
def TI.agi(h:TI F t0 jj sp rl V pk fs rx ql t){b:Nat->Option Nat}(c:∀k y,fs k=À y->b k=À y):TI F t0 jj sp rl V pk b rx ql t:= {h with M:=λp a x d e f=>(h.M p a x d e f).imp id (Or.imp id λq=>⟨q.1,q.2.imp id λ⟨k,j,g,i,l,m⟩=>⟨k,j,g,i,c k j l,m⟩⟩)}
theorem TI.FO(h:TI F t0 jj sp rl V pk fs rx ql t){y:cZ}(j:wQ.g=0/\wQ.act=.go (F.L+sp))(k:y.g=F.L+sp/\y.act=.start)(m:Τ t 0=0)(n:Τ t (F.L+sp)=0)(B:¬rx sp)(o:∀wQ,rx wQ->wQ<sp):TI F t0 jj (sp+1) rl V pk fs rx ql (t++#[wQ,y]):=by
 have q:∀c∈#[wQ,y],c.act.touch?=ë:=by
  intro c a;simp at a;rcases a with rfl|rfl
  .rw[j.2];rfl
  .rw[k.2];rfl
 have r:∀c∈#[wQ,y],∀b,F.M b->c.act≠Ř (dO<|fM b):=by grind
 have d:=h.C<|yr q r;refine{d with Au:=λz s p f i=> ?_,r:=λz s l=>d.r z (o z l) l,S:=λp a f u=>((d.S p a f u).imp id λ⟨z,v,e⟩=>⟨z,Z,e⟩)}
 .by_cases e:z<sp
  .exact d.Au z e p f i
  .obtain rfl:z=sp:=Z
   rw[aG<|Ô f h.N]at i;let⟨c,v,w⟩:=ģ.1 i;have:=bn v;rw[w]at this;exact cP j k m n this
theorem agj{y:cZ}(d:wQ.g=0/\wQ.act=.go k)(e:y.g=k/\y.act=.start)(j:Τ t 0=0)(m:Τ t k=0){l:dR}:(qm t 0 l->qm (t++#[wQ,y]) k l)/\(oV t 0 l->oV (t++#[wQ,y]) k l):=by
 have q:∀c∈#[wQ,y],c.act.touch?=ë:=by
  intro c a;simp at a;rcases a with rfl|rfl
  .rw[d.2];rfl
  .rw[e.2];rfl
 refine⟨λh p a f i=> ?_,λh p a f i n=> ?_⟩
 .rcases mK f with⟨_,b⟩|⟨_,c,b,o,_⟩
  .exact cP d e j m<|h p a b i
  .grind
 .rcases mK f with⟨_,b⟩|⟨_,c,b,o,_⟩
  .exact cP d e j m<|h p a b i n
  .grind
theorem TI.agk(h:TI F t0 jj sp rl V pk fs rx ql t)(f:wQ.g=F.L)(i:wQ.act=Ř (Ķ<|fM<|F.I<|rl+1))(l:Τ t F.L=0)(q:∀a:Ú,(V (rl+1) a.block\/a=je F (rl+1))->oV t F.L (û a)): TI F t0 jj sp (rl+1) V (fy pk (rl+1) t.size) fs rx ql (t++#[wQ]):=by
 have m:∀c∈#[wQ],c.act.touch?=ë:=by
  intro c e;have:c=wQ:=by simpa using e
  rw[this,i];rfl
 have d:=h.C (yr m λc e b _=>by grind);have n:(t++#[wQ])[t.size]?=À wQ:=by rw[ć<|ß _];simp
 have j:∀k,k<=rl->fy pk (rl+1) t.size k=pk k:=λk r=>fI pk _ Z;refine{d with Y:=λk b o=> ?_,I:=λk b o a p=> ?_}
 .by_cases e:k=rl+1
  .subst e;rw[gF];exact⟨by rw[eA n,i],by simp[Ņ,f],⟨F.L,by simp[Ņ,f],by rwa[cO<|ß _]⟩⟩
  .rw[j k Z];exact d.Y k b Z
 .by_cases e:k=rl+1
  .grind [gF,agh]
  .rw[j k Z];exact d.I k b Z a p
theorem TI.agl(h:TI F t0 jj sp rl V pk fs rx ql t){x:Nat}(r:x<sp)(d:wQ.g=F.L+x)(f:wQ.act=Ř (Ķ<|fM F.C))(k:Τ t (F.L+x)=0)(s:¬rx x): TI F t0 jj sp rl V pk fs (λz=>rx z\/z=x) (fy ql x t.size) (t++#[wQ]):=by
 have l:∀c∈#[wQ],c.act.touch?=ë:=by
  intro c a;have:c=wQ:=by simpa using a
  rw[this,f];rfl
 have j:=h.C (yr l λc a b _=>by grind);have b:(t++#[wQ])[t.size]?=À wQ:=by rw[ć<|ß _];simp
 refine{j with r:=λz m n=> ?_};by_cases e:z=x
 .subst e;rw[gF];refine⟨⟨by rw[eA b,f],by simp[Ņ,d],⟨F.L+z,by simp[Ņ,d],by rwa[cO<|ß _]⟩,λi u o=> ?_⟩,λp a q _=>Ç ?_⟩
  .have:=JC o;simp at this;omega
  .have:=Ot q;simp at this;omega
 .rw[fI ql _ e];exact j.r z m<|n.resolve_right e
def Xe(e:t.act? i=À (Ř<|Ķ a))(f:t.g? i=À k)(h:t.heard i)(l:NoRelease a t)(c:wQ.g=n)(m:wQ.act=Ř (cM a))(o:Τ t n=0):bD (t++#[wQ]) n i:=by
 have b:=JC f;have d:(t++#[wQ])[t.size]?=À wQ:=by rw[ć<|ß _];simp
 refine⟨t.size,wQ,d,c,Î<|.single<|Î ⟨.marked b (Î<|by rwa[dP b]) (by rw[eA d,m]) λj _ q=> ?_,(heard_old b).2 h,⟨n,by simp[Ņ,c],by rwa[cO<|ß _]⟩⟩⟩;rw[dP q];exact l j
theorem TI.kR(h:TI F t0 jj sp rl V pk fs rx ql t)(G:wQ.g=0)(o:wQ.act=Ř (cM<|fM F.C))(H:Τ t 0=0)(k:∀x,x<sp->rx x): (∀p a,Ě (t++#[wQ]) p=À a->a.loc.isMemory=É->bD (t++#[wQ]) 0 p\/((jj a.loc\/∃x:Ú,a.loc=û x/\x.block=F.C)/\a.kind=Ŕ))/\(t++#[wQ]).HandedOver:=by
 have Q:wQ.act.touch?=ë:=by rw[o];rfl
 have s:=λx c=>by let⟨b,_⟩:=h.r x c<|k x c;exact Xe b.act b.g b.heard (h.c _<|Ç U) G o H
 have u:∀p a,Ě (t++#[wQ]) p=À a->p<t.size/\Ě t p=À a:=λp a l=>by rcases mK l with q|⟨_,v,d,w,_⟩;all_goals grind
 have B:∀p q x,t.g? p=À (F.L+x)->t.g? q=À (F.L+x)->p<=q->Before (t++#[wQ]) p q:=λp q x d w S=>by
  rcases Nat.lt_or_ge p q with f|i
  .exact Î<|.single<|Ç ⟨f,_,FN d,FN w⟩
  .exact Ç Z
 refine⟨λp a l I=> ?_,λp g C J K=> ?_⟩
 .let⟨f,d⟩:=u p a l;by_cases e:p<t0
  .rcases h.e p a e d I with q|⟨b,i⟩
   .exact Ç<|q.app _
   .grind
  .rcases h.S p a Z d with q|⟨x,c,q⟩
   .let⟨v,m,n⟩:=ģ.1 q;have:=bn m;rw[n]at this;exact Ç<|this.app _
   .let⟨b,i⟩:=h.r x c<|k x c;rcases i p a d q with z|⟨j,P⟩
    .exact Ç<|Knows.of_before (B p (ql x) x q b.g z)<|s x c
    .grind
 .let⟨z,D,M,N⟩:=K;let⟨f,d⟩:=u p z D;have O:t.g? p=À g:=by rwa[aG f]at C
  have E:=(ei f).1 ⟨z,D,M,N⟩;by_cases e:p<t0
  .let⟨j,b,i⟩:=h.d p g e O J E;exact⟨j,FN b,eg _ i⟩
  .rcases h.S p z Z d with q|⟨x,c,q⟩
   .grind
   .let⟨b,_⟩:=h.r x c<|k x c;let⟨r,v,m,n,i⟩:=s x c;have j:(t++#[wQ]).g? r=À 0:=by unfold Ņ;rw[m];simp[n]
    refine⟨r,j,?_⟩;rcases(B p (ql x) x q b.g<|Nat.le_of_not_lt λP=>b.after p P q E).trans i with P|P;all_goals grind
end
end Go.Proofs.Y.fv
namespace Go.Proofs.Y.fv
open Go Go.Conc Go.Proofs.Y.Lift
open Go.ConcN (sumTo)
structure Ph extends Fx where
 P:Õ
 S:Nat
 n:Nat
 q:Nat
 Y:Nat
 f:Nat
 r:Nat->Nat
 a:Nat->Nat
 b:Nat->Nat
 c:Nat->Â
 z:Â
 B:Nat
 γ:Type
 l:γ
 i:Nat->Prop
 p:Nat->γ->γ->Prop
 d:Nat->γ->(Nat->Prop)->Æ->Prop
 o:Nat->ByteArray
 k:Nat->ByteArray
 g:Nat->(Nat->Nat)->Jd
 h:Nat->Jd
 e:Nat->Nat->Jd
 j:(Nat->Nat)->Jd
inductive nh(F:Ph):Nat->F.γ->Prop
 |u6:nh F 0 F.l
 |CW {k:Nat} {s s':F.γ} (h:nh F k s) (hn:F.p k s s'):nh F (k+1) s'
def jk(F:Ph)(p:Nat):Ú:=⟨F.Y,p,ë⟩
inductive fV where
 |go (j:Nat)|lB (j:Nat)|rd (j:Nat)|iF (j:Nat)|iJ (r:Nat)|kR (r:Nat)|fA (p:jq)|gf
inductive jv where
 |kK (k:Nat)|mk (k:Nat)|dn (k:Nat) (p:jC)
inductive gM where
 |ng (r:Nat)|fA (r:Nat) (p:jq)|jF (r:Nat)|mZ (r:Nat)
inductive ij where
 |oB|gf (p:jC)|jo (N:Nat)
section
variable(F:Ph)
def FP:Jd:=λl g=>∃N,QuitsD F.P N l.d g
def ky(l:fc):fc:={l with O:=λ_=>False,I:=λ_=>False,r:=λ_=>False,N:=λ_=>False,q:=True}
def Av:Jd:=λl g=>CV F.P Ã F.C (FP F) .jA (ky l) g
def CX(c j r:Nat):Jd:=wD F.P Ã c F.z λx=>match x with
 |some v=>λl g=>v=F.c (j+r*F.n)->qp F.P Ã F.B (F.I<|F.r<|j+r*F.n) (F.e c<|j+r*F.n) .iX l g
 |none=>Av F
def ve(l:fc)(i:Nat):fc:={l with r:=λa=>l.r a/\a≠jk F (F.a i),N:=λa=>l.N a\/a=jk F (F.a i)}
def pJ(l:fc)(k:Nat):fc:={l with O:=λ_=>False,I:=l.M,r:=λa=>l.r a/\a≠jk F (F.b k)/\a≠je F.toFx k,N:=λa=>l.N a\/a=jk F (F.b k)\/a=je F.toFx k}
def JW(c j:Nat):gM->Jd
 |.ng r=>CX F c j r
 |.fA r p=>qp F.P Ã F.B (F.I<|F.r<|j+r*F.n) (F.e c<|j+r*F.n) p
 |.jF r=>F.e c<|j+r*F.n
 |.mZ r=>λl g=>l.w.cell? (jk F<|F.a<|j+r*F.n)=À (ħ<|F.k<|j+r*F.n)/\CX F c j (r+1) (ve F l<|j+r*F.n) g
def JI(sg:Nat->F.γ):jv->Jd
 |.kK k=>F.h k
 |.mk k=>λl g=>∃p V,F.p (k-1) (sg<|k-1) p/\F.d k p V l.w/\(∀b,V b->l.M b)/\l.w.cell? (jk F<|F.b k)=À (ħ<|F.o k)/\CV F.P Ã (F.I k) (fi F.P Ã<|F.h k) .jA (pJ F l k) g
 |.dn k p=>CV F.P Ã (F.I k) (fi F.P Ã<|F.h k) p
def JE:ij->Jd
 |.oB=>Av F
 |.gf p=>CV F.P Ã F.C (FP F) p
 |.jo N=>oW F.P N
def JF(j:Nat)(a:Nat->Nat):Jd:=λl g=>∃c,F.g j (fy a (j-1) c) l g
def Xf(j:Nat)(a:Nat->Nat):Jd:=λl g=>l.d=1/\FJ F.P É (.read<|gV F.C) (JF F j a) l g
def Ou(j:Nat)(a:Nat->Nat):Jd:=λl g=>l.d=1/\N8 F.P É (fM F.C) fY (λs=>if s=fY then fi F.P É (Xf F j a)else if fY<s/\s<1000000*fY/\s%fY=0 then fi F.P É (JF F j a)else λ_ _=>True) l g
def Aw(a:Nat->Nat):Nat->Jd
 |0=>qp F.P É F.B F.C (F.j a) .iX
 |r+1=>Jr F.P É (a<|F.n-(r+1))<|Aw a r
def FQ(a:Nat->Nat):Nat->Jd
 |0=>Aw F a F.n
 |r+1=>Ar F.P É (a<|(F.q-(r+1))%F.n) (F.c<|F.q-(r+1))<|FQ a r
def JM(dk:Nat->Nat):fV->Jd
 |.go j=>F.g j dk
 |.lB j=>JF F j dk
 |.rd j=>Xf F j dk
 |.iF j=>Ou F j dk
 |.iJ r=>FQ F dk r
 |.kR r=>Aw F dk r
 |.fA p=>qp F.P É F.B F.C (F.j dk) p
 |.gf=>F.j dk
def lO(x:Nat)(a:Ú):Prop:=if x=0 then(∃k,1<=k/\k<=F.m/\(a=je F.toFx k\/a=jk F (F.b k)))else∃i,i<F.q/\i%F.n=x-1/\a=jk F (F.a i)
end
def fV.sp(n:Nat):fV->Nat
 |.go j|.lB j|.rd j|.iF j=>j
 |_=>n+1
def fV.ad(n:Nat):fV->Nat
 |.iF j=>j
 |.go j|.lB j|.rd j=>j+1
 |_=>n+1
def fV.mq(q:Nat):fV->Nat
 |.go _|.lB _|.rd _|.iF _=>0
 |.iJ r=>q-r
 |_=>q
def fV.jd(n:Nat):fV->Nat
 |.kR r=>n-r
 |.fA _|.gf=>n
 |_=>0
def jq.sr:jq->Nat
 |.wr|.kx=>1
 |_=>0
def fV.gD:fV->Nat
 |.fA p=>p.sr
 |_=>0
def jC.kL:jC->Nat
 |.jA|.iF=>1
 |_=>0
def ij.kL:ij->Nat
 |.oB=>1
 |.gf p=>p.kL
 |_=>0
def ij.nZ:ij->Prop
 |.oB=>False
 |_=>True
def lW:Option ij->Nat
 |none=>1
 |some e=>e.kL
def jC.iu:jC->Prop
 |.jA=>False
 |_=>True
def ij.iu:ij->Prop
 |.oB=>False
 |.gf p=>p.iu
 |_=>True
def jv.md:jv->Nat
 |.kK k=>k
 |.mk k=>k-1
 |.dn k _=>k
def jv.rl:jv->Nat
 |.kK k=>k
 |.mk k=>k-1
 |.dn k .jA=>k-1
 |.dn k _=>k
def jv.od:jv->Nat
 |.kK k=>k
 |.mk k=>k-1
 |.dn k .jA|.dn k .iF=>k-1
 |.dn k _=>k
def gM.iL:gM->Nat
 |.ng r=>r
 |.fA r _|.jF r|.mZ r=>r+1
def gM.kz:gM->Nat
 |.ng r|.fA r _|.jF r|.mZ r=>r
def gM.gD(F:Ph)(j:Nat)(k:Nat):gM->Nat
 |.fA r p=>if F.r (j+r*F.n)=k then p.sr else 0
 |_=>0
structure fT(F:Ph) where
 M:fV
 S:jv
 C:Nat->gM
 N:Nat->Option ij
 I:Nat->Nat
 c:Nat->F.γ
 V:Nat->Nat->Prop
 e:Nat->Nat
 d:Nat->Option Nat
 f:Nat->Nat
 b:GS
 a:Nat->GS
 g:Option Nat
 h:Nat->Nat
section
variable{F:Ph}
def fT.r(E:fT F):Nat:=E.M.sp F.n
def fT.G(E:fT F)(x:Nat):Nat:=if x<E.M.ad F.n then lW (E.N x)else 0
def fT.iu(E:fT F)(x:Nat):Prop:=∃e,E.N x=À e/\e.iu
def fT.nZ(E:fT F)(x:Nat):Prop:=∃e,E.N x=À e/\e.nZ
def fT.Y(E:fT F)(b:Nat):Prop:=F.M b\/b=F.Y\/∃j,j+2<=E.r/\b=E.I j
def tB(n j Q s:Nat):Prop:=∀i,i<s↔j+i*n<Q
def kM:fV->iy
 |.fA .kx=> .iz
 |_=> .no
def kW(F:Ph)(c:Nat):gM->iy
 |.ng _=> .sj c F.z
 |.fA _ .kx=> .iz
 |_=> .no
end
structure Ph.Ok(F:Ph):Prop where
 N:1<=F.n
 r:1<=F.L
 fZ:F.n+F.q+F.m<1000
 I:∀i,i<F.q->F.r i<=F.m
 M:∀k,k<=F.m->F.I k≠F.C
 S:∀k k',k<=F.m->k'<=F.m->F.I k=F.I k'->k=k'
 C:¬F.M F.Y
 a:∀i i',i<F.q->i'<F.q->F.a i=F.a i'->i=i'
 pi:∀k k',1<=k->k<=F.m->1<=k'->k'<=F.m->F.b k=F.b k'->k=k'
 Ov:∀i k,i<F.q->1<=k->k<=F.m->F.a i≠F.b k
 gq:∀b,F.M b\/b=F.Y->F.S<=b
 Y:(∀k,1<=k->k<=F.m->F.b k≠F.f)/\∀i,i<F.q->F.a i≠F.f
structure iG(F:Ph)(E:fT F)(lot:Nat->fc)(sz:Nat)(w:Æ):Prop where
 gS:∀i,i<sz->∀a,(lot i).C a->(∃k,k<=F.m/\a=je F.toFx k)\/∃p,p≠F.f/\a=jk F p
 o:∀x,E.r<=x->x<=F.n->∀a,lO F x a->(lot 0).r a
 lM:E.r<=F.n->(lot 0).N (je F.toFx 0)/\∀b,F.i b->(lot 0).I b
 e:0<E.r->∀k,E.S.md<k->k<=F.m->(lot F.L).r (je F.toFx k)/\(lot F.L).r (jk F<|F.b k)
 f:0<E.r->E.N 0=ë->(lot F.L).N (je F.toFx E.S.md)/\∀b,E.V E.S.md b->(lot F.L).I b
 h:∀j,j+2<=E.r->E.N (j+1)=ë->∀r,j+r*F.n<F.q->(E.C j).kz<=r->(lot<|F.L+1+j).r (jk F<|F.a<|j+r*F.n)
 l:∀j,j+2<=E.r->E.N (j+1)=ë->(lot<|F.L+1+j).N (je F.toFx 0)/\∀b,F.i b->(lot<|F.L+1+j).I b
 S:∀x,E.nZ x->lot (F.L+x)=ky (lot<|F.L+x)
 M:∀i,(i=0\/∃x,x<E.r/\i=F.L+x/\¬E.nZ x)->¬(lot i).q
 c:∀i,0<i->i<F.L->lot i=ky (lot i)
 I:∀k,k<=E.S.md->∀b,E.V k b->b<w.heap.size/\¬E.Y b/\∀i,i<sz->¬(lot i).O b
 N:∀k,k<=E.S.md->∀i,i<sz->¬(lot i).r (je F.toFx k)
 g:∀k,1<=k->k<=E.S.md->∀i,i<sz->¬(lot i).r (jk F<|F.b k)
 d:∀j,j+2<=E.r->∀r,j+r*F.n<F.q->r<(E.C j).kz->∀i,i<sz->¬(lot i).r (jk F<|F.a<|j+r*F.n)
structure Wd(F:Ph)(E:fT F)(w:Æ):Prop where
 C:ia w F.C E.b
 I:∀k,k<=F.m->ia w (F.I k) (E.a k)
 jD:∀j,j+2<=E.r->∃buf s,w.heap[E.I j]?=À (χ F.q buf (decide<|j<E.M.jd F.n) s (E.C j).iL Ã)/\tB F.n j (E.M.mq F.q) s/\(E.C j).iL<=s/\buf.size=s-(E.C j).iL/\∀i,i<s-(E.C j).iL->buf[i]?=À (F.c<|j+((E.C j).iL+i)*F.n)
 M:∀k,k<=E.S.md->nh F k (E.c k)/\F.d k (E.c k) (E.V k) w
 S:∀k,1<=k->k<=E.S.md->w.cell? (jk F<|F.b k)=À (ħ<|F.o k)
 N:∀j,j+2<=E.r->∀r,j+r*F.n<F.q->r<(E.C j).kz->w.cell? (jk F<|F.a<|j+r*F.n)=À (ħ<|F.k<|j+r*F.n)
structure Ps(F:Ph)(E:fT F):Prop where
 v:E.V 0=F.i
 C:∀j,E.M=.go j\/E.M=.lB j\/E.M=.rd j\/E.M=.iF j->j<=F.n
 K:∀j,E.M=.lB j\/E.M=.rd j\/E.M=.iF j->1<=j
 L:∀r,(E.M=.iJ r->r<=F.q)/\(E.M=.kR r->r<=F.n)
 J:E.r=0->E.S=.kK 0
 I:∀k,(E.S=.kK k->k<=F.m)/\(E.S=.mk k->1<=k/\k<=F.m)/\(∀p,E.S=.dn k p->1<=k/\k<=F.m)
 z:∀j,E.r<j+2->E.C j=.ng 0
 d:∀j r,j+2<=E.r->((∃p,E.C j=.fA r p)\/E.C j=.jF r\/E.C j=.mZ r)->j+r*F.n<F.q
 l:∀j,j+2<=E.r->E.N (j+1)≠ë->j<E.M.jd F.n/\∃r,E.C j=.ng r/\∀i,j+i*F.n<F.q->i<r
 f:E.N 0≠ë->E.S=.kK F.m
 h:∀x,E.r<=x->E.N x=ë
 M:∀j j',j+2<=E.r->j'+2<=E.r->E.I j=E.I j'->j=j'
 o:∀j,j+2<=E.r->¬F.M (E.I j)/\E.I j≠F.Y/\F.S<=E.I j
 t:∀c reg,E.b=.cl c reg->c=bE (F.n+1) E.G/\reg=E.M.gD
 g:∀reg,E.b=.jB reg->bE (F.n+1) E.G=0/\reg=E.M.gD/\∃x,x<E.r/\E.g=À x/\(E.N x=À (.gf (.gA reg))\/E.N x=À (.gf (.ja reg)))
 u:∀r s,E.b=.gW r s->bE (F.n+1) E.G=0/\r+s=E.M.gD/\(0<r->∃x,x<E.r/\E.g=À x/\E.N x=À (.gf (.iz r)))
 N:∀x p,E.N x=À (.gf p)->(∀W,p=.gA W\/p=.ja W->E.g=À x/\E.b=.jB W)/\(∀r,p=.iz r->0<r/\E.g=À x/\∃s,E.b=.gW r s)
 B:E.M=.fA .gA\/E.M=.fA .kY\/E.M=.gf->bE (F.n+1) E.G=0
 e:∀k,1<=k->k<=F.m->E.S.od<k->E.a k=.cl 1 (bE F.n λj=>(E.C j).gD F j k)
 Y:∀k,k<=F.m->k<=E.S.od->(∃W,(E.S=.dn k (.gA W)\/E.S=.dn k (.ja W))/\E.a k=.jB W/\W=bE F.n λj=>(E.C j).gD F j k)\/(∃r s,E.S=.dn k (.iz r)/\0<r/\E.a k=.gW r s/\r+s=bE F.n λj=>(E.C j).gD F j k)\/((∀p,E.S≠ .dn k p)/\((E.a k=.cl 0 0/\(bE F.n λj=>(E.C j).gD F j k)=0)\/∃s,E.a k=.gW 0 s/\s=bE F.n λj=>(E.C j).gD F j k))
 w:∀j r,j+2<=E.r->(E.C j=.fA r .gA\/E.C j=.fA r .kY\/E.C j=.jF r)->F.r (j+r*F.n)<=E.S.od
 H:∀j r,j+2<=E.r->E.C j=.fA r .gA->∃a b,E.a (F.r<|j+r*F.n)=.gW a b
 O:E.M=.fA .gA->∃a b,E.b=.gW a b
 S:(∀p,E.M≠ .fA p)->E.M≠ .gf->∃c,E.b=.cl c 0
 y:∀k,k<=F.m->E.a k=.cl 1 0->E.d k=ë
 D:∀j r,j+2<=E.r->E.C j=.fA r .wr->E.d (F.r<|j+r*F.n)=À j
def fh(F:Ph)(E:fT F)(a:Array Ó)(w:Æ):Prop:=∀i g,a[i]?=À g->g.status=Ů->
 (i=0/\E.M=.fA .kx/\E.b.sm=0)\/(∃j,j+2<=E.r/\E.N (j+1)=ë/\i=F.L+1+j/\((∃r,E.C j=.fA r .kx/\(E.a<|F.r<|j+r*F.n).sm=0)\/∃r b s c,E.C j=.ng r/\w.heap[E.I j]?=À (χ b #[] Ã s c Ã)))
structure PI(F:Ph)(t0:Nat)(jj:dR->Prop)(E:fT F)(S:Nat->Jd)(tr:Nat->gw)(kp:Nat->iy)(lot:Nat->fc)(gs:Array Ó)(w:Æ)(t:ğ):Prop where
 b:gs.size=F.L+E.r
 I:gL F.P F.S E.Y S tr kp lot gs w t
 h:S 0=JM F E.I E.M/\kp 0=kM E.M
 m:0<E.r->E.N 0=ë->S F.L=JI F E.c E.S/\kp F.L=.no
 g:∀j,j+2<=E.r->E.N (j+1)=ë->S (F.L+1+j)=JW F (E.I j) j (E.C j)/\kp (F.L+1+j)=kW F (E.I j) (E.C j)
 k:∀x e,x<E.r->E.N x=À e->S (F.L+x)=JE F e/\kp (F.L+x)=.no/\((∃N,e=.jo N)->tr (F.L+x)=.fB)
 l:∀i,0<i->i<F.L->S i=oW F.P (E.h i)/\tr i=.fB/\kp i=.no
 a:iG F E lot gs.size w
 M:Wd F E w
 C:Ps F E
 d:TI F.toFx t0 jj E.r (E.S.rl) E.V E.e E.d E.iu E.f t
 c:fh F E gs w
 f:∀j r,j+2<=E.r->E.C j=.jF r->1<=F.r (j+r*F.n)->bD t (F.L+1+j) (E.e<|F.r<|j+r*F.n)
structure gR(F:Ph):Prop where
 C:F.Ok
 S:∀k s V w w',F.d k s V w->(∀b,V b->w'.heap[b]?=w.heap[b]?)->w'.cell? (je F.toFx k)=w.cell? (je F.toFx k)->w'.cell? (jk F F.f)=w.cell? (jk F F.f)->kQ w' F.Y=kQ w F.Y->(w'.os=w.os/\w'.output=w.output)->F.d k s V w'
 FR:∀j dk l g w₁,F.g j dk l g->fH l l.w w₁->F.g j dk {l with w:=w₁} g
 I:∀j dk l g,F.g j dk l g->g.status=Ð
 N:∀k l g,F.h k l g->g.status=Ð
 Y:∀c i l g,F.e c i l g->g.status=Ð
 M:∀dk l g,F.j dk l g->g.status=Ð
 go:∀j dk l g,j<=F.n->F.g j dk l g->gy l->l.d=0/\∃(g' child:Ó) (X:Nat->Prop),g'.status=Ð/\child.status=Ð/\(∀w₁,Ù F.P É g w₁=.spawn g' child w₁ #[])/\(∀b,X b->l.O b)/\
  (1<=j->l.O (dk<|j-1)/\¬X (dk<|j-1)/\l.w.heap[dk<|j-1]?=À (χ F.q #[] Ã 0 0 Ã)/\F.S<=dk (j-1))/\
  (∀l':fc,gy l'->(∀b,X b\/l.I b->l'.I b)->l'.w=l.w->l'.d=0->¬l'.q->(∀b,¬l'.O b)->l'.K=l.K->l'.N=l.N->(∀a,l'.r a->l.r a)->fi F.P Ã (if j=0 then F.h 0 else CX F (dk<|j-1) (j-1) 0) l' child)/\
  (∀l':fc,gy l'->l'.O=(λb=>l.O b/\¬X b/\(1<=j->b≠dk (j-1)))->(∀b,X b\/l.I b->l'.I b)->l'.w=l.w->l'.d=0->l'.q=l.q->l'.K=l.K->l'.N=l.N->(∀a,l'.r a->l.r a)->fi F.P É (JM F dk<|if j<F.n then .iF (j+1)else .iJ F.q) l' g')
 f:∀k s V l g,k<F.m->F.h k l g->gy l->nh F k s->F.d k s V l.w->(∀b,V b->l.I b)->l.N (je F.toFx k)->l.r (je F.toFx<|k+1)->l.r (jk F<|F.b<|k+1)->∀sg:Nat->F.γ,sg k=s->fi F.P Ã (JI F sg<|.mk (k+1)) l g
 h:∀l g,F.h F.m l g->gy l->fi F.P Ã (Av F) l g
 e:∀c j r s V l g,j+r*F.n<F.q->F.e c (j+r*F.n) l g->∀l':fc,gy l'->l'.O=l.O->(∀b,l.I b\/V b->l'.I b)->l'.w=l.w->l'.d=l.d->l'.q=l.q->l'.r=l.r->l'.K=l.K->nh F (F.r<|j+r*F.n) s->F.d (F.r<|j+r*F.n) s V l.w->l'.N (je F.toFx<|F.r<|j+r*F.n)->l'.r (jk F<|F.a<|j+r*F.n)->fi F.P Ã (JW F c j<|.mZ r) l' g
end Go.Proofs.Y.fv
