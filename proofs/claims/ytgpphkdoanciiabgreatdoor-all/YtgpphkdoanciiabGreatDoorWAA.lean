/- All: the texts of the proof, packed by program out of some 277: remarks struck, names and blanks shortened, for the limit of a claim's size. -/
import Derived.KernelRfl
import Derived.Conc.Own
import Derived.Conc.Events
import Derived.Laws.Sem
import Derived.Conc.Own5
import Derived.Conc.CompanyDraw
import Derived.Conc.Know
import Derived.Conc.Beside
import Derived.Conc.MarkLaws
import Derived.Conc.CrowdComm
import Derived.Conc.CrowdTrace
import Derived.Conc.CrowdBase
set_option linter.all false
set_option maxRecDepth 1000000
set_option maxHeartbeats 8000000
open Option renaming some->À,none->Ú,map_eq_some_iff->è
open Or renaming inl->Á,inr->Å
open Go renaming TypeId->Â,Value->Ã,World->Ç,Goroutine->Ì,Program->Ó,Operand->Ô,Addr->Õ,FuncId->Û,stepG->à,execOp->ã,deafBehind->å,Event->ê,underlying->ð,IntKind->ñ,run_program->õ,variablesAt->ö,Trace->ÿ,Sem->ă,loadBytes->ą,resolve->ć,Frame->Ċ,BinOp->ď,results->Ė,invoke->Ę,behindNumber->ě,FloatKind->Ğ,callFunc->ģ,builtin->ħ,undef->ĭ,yielded->Ĳ,loadCellsFrom->Ļ,convert->Ł,movedNumber->ł,Item->ŉ,movedPointer->Ő,binOp->ŕ,elemOf->ŗ,sameAddr->Ř,eqGuard->Š,typeInfo->Ŭ,partners->ů,RuntimeError->ű,storeCells->Ų,Next->ŷ,Oper->Α,cellAtBytes->Γ,choose->Ε,Tape->Μ,zeroValue->Ν,loadVar->Ξ,Code->Ω,store->δ,BoundsCode->η,sizeOf->θ,storeVar->φ,nilAhead->ah,lone->aj,load->au,noView->ax,liesAt->ay,findLabel->aC,stringish->aF,Unsupported->aH,followBlind->aJ,Act->aP,runT->aW,askRoom->aY,Machine->a8,Question->bk,asBool->bq,asAddr->br,fieldPlace->bu,numberAt->bz,asNumber->bA,getObj->bD,shape->bE,exitTo->ZnJ,gotoIn->ZnK,mayBeOne->ZnQ,MemOp->Zn1,loadCells->Zn2,rowAt->Zn3,Touch->Zn4,program->Zn7,asIntOf->Zn8,viewAt->Zob,byteOf->Zoc,unwind->Zoh,cellsIn->Zoi,asInt->Zoj,TypeDesc->Zon,runN_add->Zoq
open Bool renaming false->Ä,true->È,false_eq_true->Î
open Go.Sem renaming run_bind->Æ,runT_bind'->Ð,run->Ù,bind->Þ,runT->ß,run_bind'->Ģ,bind_assoc'->ņ,runT_eq->ţ,runT_fst->Ÿ,pure->υ,store->Zn5,halt->ZoD
open Go.Result renaming andThen_ok->É,ok->Ē,halt->bl
open Go.MemOp renaming ofEvents->Ê
open Go.Op renaming operands->Ë,equal->ë,maxDepth->ô,eqGuardIn->Ĝ,twoPlaces->ŏ,equalIn->ų,addrSub->Ŵ,addrCmp->ŵ,addrMod->Ŷ,call->ź,intDiv->Ρ,shift->χ,convert->ω,stringOp->aI,unary->bx,makeInterface->ZnP,floatArith->ZnW,complexOp->Zod,intArith->Zol,floatCmp->Zom,binOp->Zow,intBits->Zoy
open Go.GoStatus renaming running->Í,finished->ï,blocked->č
open Go.MemAct renaming ofEvent->Ï,touch?->í,mark->Ņ
open Array renaming getElem?_setIfInBounds_self_of_lt->Ñ,getElem?_append_right->ú,mapM_eq_mapM_toList->Ą,getElem?_push_lt->Đ,replicate->Ĩ,append_assoc->Ī,append_singleton->ı,all_eq_true->ĳ,mem_iff_getElem->ķ,getElem?_setIfInBounds->Ň,getElem_map->Ş,getElem_extract->ſ,range->Zok
open Go.Conc renaming mem_ofEvents->Ò,touchAt->Ĉ,crowd->đ,woken->ė,semEvents->Ġ,stepG_region_draw->Ť,Deaf->Ū,parked->ū,rcase->Ž,stepG_unwanted->Ι,knows_own->Τ,Knows->ε,g?_old->ρ,deafBehind_still->aG,stepG_value->aL,stepG_enter->aN,stepG_cond->ZnL,mem_listed->ZnM,stepG_none->ZnN,enter_at->ZnO,deaf_old->ZnT,touch_of->Zot,act?_old->Zov
open Go.Value renaming pointer->Ö,int->ù,string->Ĕ,bool->Ĭ,tuple->ŧ,nilIface->ar,slice->bh,nilFunc->bj
open Go.Item renaming inRegion->Ø,code->ā,inLoop->Zoe,inBlock->Zoo,inScope->Zop
open Go.Act renaming eval->Ü
open Go.IntKind renaming u64->Ý,i64->Ĺ,u32->ń
open Go.Builtin renaming unsafeString_->á,unsafeAdd_->ç,unsafeSliceData_->ĉ,min2->ğ,append_->ĥ,firstCells->ī,min_->Ĵ,copy_->ŀ,len_->ō,cap_->Ŏ,zeroCells->ş,lenOf->Ũ,holdsCells->ν,mayShare->az,unsafeSliceData->aE,unsafeString->ZnZ
open Nat renaming le_trans->â,exists_eq_add_of_le->ŭ,strongRecOn->ž,div_le_div_right->Δ
open Go.Next renaming value->ä,enter->Ŗ,skip->ς
open Go.TypeDesc renaming pointer->æ,unsafePointer->Ă,string->ċ,int->ũ,struct->Zn9,slice->Zoa
open Go.Loc renaming cell->é,mark->Ŋ
open Go.Call renaming operands->ì
open Go.Conv renaming unsafePointer->î,bytesToString->ò,seenAt->Ŧ,runesToString->π,floatToFloat->ag,intToString->aB,floatToInt->aS,intToInt->ZnX
open List renaming eq_nil_of_length_eq_zero->ó,foldlM_cons->Ů,filter_eq_nil_iff->Ź,foldlM_nil->ż,mapM_cons->Β,forIn_nil->Κ,map_eq_nil_iff->Χ,mapM_nil->ZnV
open Go.stepG renaming exec->ø,apply->aO
open Go.World renaming frozen?->û,setCell->ü,freeze->Ć,cell?->Ď,farLoad->ĺ,farStore->œ,shape?->Ű,setChan->ζ,noCell->af,viewStore->aR
open Go.Extern.BytealgMakeNoZero renaming makeNoZero->ý,digits->Ķ
open Go.Mode renaming atomic->þ,plain->ő
open Go.Obj renaming cells->Ā,pending->š,chan->Λ
open Go.Callee renaming builtin->Č,value->bB
open Go.Region renaming wanted->ē,schedule->aU,Mode->ZoI
open Go.Instr renaming sliceBounds->ĕ,sliceBound->ę,buildSlice->Ě,storeAt->ġ,makeSlice->Ħ,extract->ļ,fieldAt->Ľ,indexAt->ľ,sliceAt->Ŀ,makeInterface->ŋ,loadAt->Ō,sureAddr->Ŕ,alloc->ř,field->Ś,slice->ś,index->Ŝ,build->ŝ,panic->ť,box->Ο,fill->ι
open Go.Deferred renaming ofValue->ĝ
open Go.Mark renaming releaseMerge->Ĥ,disable->ak,enable->bg,acquire->ZnR,noRoom->Zn6,release->Zou
open Go.Touch.Kind renaming atomic->ĩ
open Go.Stepped renaming next->Į
open Go.Extern.AbiNoEscape renaming same->į
open Go.Halt renaming unsupported->İ
open Go.Trace renaming g?->ĵ
open Go.ConcN renaming sumTo->ĸ,fork_knows->ZnU
open Go.Frame renaming raise->Ń,finish_at->Ż,finish->ai,catches->ZnY,enter->Zor
open Go.Goroutine renaming again->ň
open Go.Unsupported renaming unsafePointer->Œ
open Go.GStep renaming after->Ţ,go->σ
open Except renaming bind->Ζ,pure->Η,error->aQ,map->bC
open Go.Op.Complex renaming corrected->Θ,quotient->Υ,product->ξ,arith->aA,conv->aT,cmp->bF,mul->bG,add->bH,sub->bI,quo->bK
open Go.BinOp renaming eql->κ,neq->ψ
open Go.Code renaming cond->aK,region->aZ,refuse->Zog,label->Zoz,block->ZoA,scope->ZoB
variable{i n j b k m J j9 j7 j6:Nat}{w u W jX:Ç}{v x z jQ:Ã}{g:Ì}{a p:Õ}{h c:Int}{e t T:Â}{d q:Array Ã}{P:Ó}{y:aP}{B:ByteArray}{X:Nat->Prop}{O:Option Õ}{l:List Ã}{yQ:Bool}{cX cQ:aP->Ç->Prop}{o:Α}{D:Nat->Nat}{E:Array Ì}{L:List ŉ}{jJ:List Nat}{qX:List Ċ}{qQ:Ô}{qJ:ÿ}{zX:Go.Loc->Prop}{zQ:List Int}{zJ:Go.TypeInfo}{xX:Ô->Ã}{xQ:Μ}{xJ:Nat×Nat}{wX:Ω}{wQ:Zn1}{wJ:Array Bool}{vX:List ByteArray}{vQ:Ã->Ç->Prop}{vJ:Go.Exit->aP->Ç->Prop}{yX:ZoI}{Q:Array Α}{f:Ċ}{V:Array ê}{F:Û}{s:Go.Func}{gX gQ:Type}{gJ kX:List (Nat×Int)}{bJ:List (Int×Bool)}{kJ:Option (Nat×Nat)}{pX:Ç->Prop}{pQ:Option Ã}{pJ:Û->Prop}{fX:List Α}{fQ:Nat->Int}{fJ:Nat->ByteArray}{bX:Array Â}{bQ:Prop}
namespace Go.Proofs
theorem U{A:Sort _}{a:A}:a=a:=rfl
theorem Z{p:Prop}(h:p:=by omega):p:=h
theorem A{p:Prop}(h:p:=by decide):p:=h
theorem fN{p q:Prop}(h:p)(e:p=q:=by simp):q:=e▸h
theorem fD{p:Prop}(h:p:=by simp):p:=h
theorem fK{p:Prop}(h:p:=by kernel_rfl):p:=h
theorem gq{p:Prop}(h:p:=by rfl):p:=h
def dK:=@Array.append_empty
def cA:=@Array.empty_append
def dY:=@Array.eq_empty_of_size_eq_zero
def cx:=@Array.ext_getElem?
def cz:=@Array.forIn_toList
def fq:=@Array.getD_eq_getD_getElem?
def fj:=@Array.getElem?_eq_getElem
def dj:=@Array.getElem?_eq_none
def fp:=@Array.getElem?_eq_some_iff
def de:=@Array.getElem?_extract
def fh:=@Array.getElem?_modify
def cF:=@Array.getElem?_push
def fc:=@Array.getElem?_replicate
def eA:=@Array.getElem?_setIfInBounds_ne
def eV:=@Array.getElem?_toList
def cH:=@Array.getElem_toList
def dU:=@Array.length_toList
def dq:=@Array.mem_append
def fg:=@Array.mem_of_getElem?
def eS:=@Array.mem_toList_iff
def b7:=@Array.size_append
def dy:=@Array.size_setIfInBounds
def cL:=@Array.toList_append
def cP:=@Array.toList_extract
def dF:=@Array.toList_setIfInBounds
def eC:=@Bool.and_eq_true
def cV:=@Bool.and_eq_true_iff
def dA:=@Bool.eq_iff_iff
def cG:=@Bool.false_or
def bN:=@Bool.not_true
def cU:=@Bool.or_eq_false_iff
def eg:=@Bool.or_eq_true
def cW:=@Bool.or_eq_true_iff
def bO:=@Bool.or_false
def cj:=@ByteArray.data_append
def cC:=@ByteArray.data_extract
def bM:=@ByteArray.ext
def dX:=@ByteArray.getElem_eq_getElem_data
def cK:=@Int.le_refl
def cu:=@Int.natCast_nonneg
def dM:=@Int.tdiv_eq_ediv_of_nonneg
def eX:=@Int.tmod_eq_emod_of_nonneg
def dO:=@Int.toNat_natCast
def dc:=@Int.toNat_of_nonneg
def eI:=@List.all_eq_true
def du:=@List.any_eq_true
def dL:=@List.append_assoc
def ep:=@List.append_nil
def ck:=@List.cons_append
def di:=@List.drop_eq_nil_of_le
def ea:=@List.eq_nil_iff_forall_not_mem
def dP:=@List.ext_getElem?
def dE:=@List.extract_eq_take_drop
def cM:=@List.flatMap_append
def eL:=@List.flatMap_cons
def b9:=@List.foldl_append
def dS:=@List.foldl_cons
def bV:=@List.forIn_cons
def eR:=@List.getElem?_append_left
def eT:=@List.getElem?_append_right
def dt:=@List.getElem?_cons_succ
def dC:=@List.getElem?_cons_zero
def cB:=@List.getElem?_drop
def fe:=@List.getElem?_eq_getElem
def da:=@List.getElem?_eq_none
def eP:=@List.getElem?_eq_some_iff
def dN:=@List.getElem?_map
def ek:=@List.getElem?_of_mem
def dW:=@List.getElem?_range
def eM:=@List.getElem?_take_of_lt
def eu:=@List.getElem?_toArray
def cJ:=@List.getElem_of_mem
def eH:=@List.length_cons
def dw:=@List.length_map
def bY:=@List.length_range
def dB:=@List.length_take
def bW:=@List.map_append
def dR:=@List.map_cons
def dG:=@List.map_nil
def eJ:=@List.map_toArray
def dx:=@List.mem_append
def eK:=@List.mem_cons
def fi:=@List.mem_cons_of_mem
def eZ:=@List.mem_cons_self
def cw:=@List.mem_flatMap
def cI:=@List.mem_map
def eU:=@List.mem_of_getElem?
def cT:=@List.mem_of_mem_take
def eO:=@List.mem_or_eq_of_mem_set
def dZ:=@List.mem_range
def eY:=@List.mem_singleton
def ec:=@List.nil_append
def dr:=@List.not_mem_nil
def ez:=@List.reverse_singleton
def dH:=@List.setIfInBounds_toArray
def ei:=@List.set_append_left
def eF:=@List.set_append_right
def cO:=@List.set_cons_succ
def cN:=@List.set_cons_zero
def eh:=@List.singleton_append
def eN:=@List.size_toArray
def cD:=@List.take_add_one
def eG:=@List.take_of_length_le
def bZ:=@List.zipIdx_cons
def c8:=@Nat.add_assoc
def dD:=@Nat.add_sub_cancel_left
def dm:=@Nat.add_zero
def ew:=@Nat.and_two_pow_sub_one_eq_mod
def dV:=@Nat.eq_zero_or_pos
def bS:=@Nat.le_antisymm
def cZ:=@Nat.le_of_eq
def dp:=@Nat.le_of_lt
def dz:=@Nat.le_of_not_lt
def eE:=@Nat.le_refl
def ff:=@Nat.lt_of_lt_of_le
def b8:=@Nat.lt_of_not_le
def ey:=@Nat.lt_or_ge
def bT:=@Nat.mod_add_div
def eB:=@Nat.mul_le_mul_right
def bL:=@Nat.pow_succ
def dQ:=@Nat.zero_add
def eD:=@Nat.zero_le
def bR:=@Nat.zero_mul
def cR:=@Ne.symm
def ef:=@Option.bind_some
def bU:=@Option.getD_some
def eW:=@Option.isSome_none
def dT:=@Option.map_some
def dh:=@Option.some.inj
def dI:=@Option.some.injEq
def cg:=@Option.toList_some
def dJ:=@Prod.mk.injEq
def bP:=@UInt8.toNat_inj
end Go.Proofs
namespace Go.Proofs.Y
namespace Lift
abbrev fB:gX->Prop:=λ_=>False
structure fL where
 kv:Nat->Nat->Prop
 gA:Nat
instance:CoeFun fL λ_=>Nat->Nat->Prop:=⟨fL.kv⟩
def Bi(Y:fL):Prop:=(∀i j a,Y i j->Y i a->j=a)/\(∀i a j,Y i j->Y a j->i=a)/\(∀i j,Y i j->(i<Y.gA↔j<Y.gA))
def fL.r(Y a:fL):Prop:=(∀i j,Y i j->a i j)/\(Bi Y->Bi a)/\a.gA=Y.gA
def fL.M(Y:fL)(r a:Nat):fL:=⟨λi j=>Y i j\/(i=r/\j=a),Y.gA⟩
def fL.I(Y:fL):Y.r Y:=⟨λ_ _ h=>h,id,U⟩
theorem fL.C{a b c:fL}(h:a.r b)(k:b.r c):a.r c:=⟨λi j x=>k.1 i j<|h.1 i j x,λx=>k.2.1<|h.2.1 x,k.2.2.trans h.2.2⟩
theorem fL.N{Y:fL}{r:Nat}(c:∀j,¬Y r j)(d:∀a,¬Y a i)(f:Y.gA<=r)(g:Y.gA<=i):Y.r (Y.M r i):=by refine⟨λ_ _ h=>Á h,λb=>⟨?_,?_,?_⟩,U⟩;rintro a j k (x|⟨rfl,rfl⟩) (y|⟨e,rfl⟩);exact b.1 _ _ _ x y;grind;grind;rfl;rintro a k j (x|⟨rfl,rfl⟩) (y|⟨rfl,e⟩);exact b.2.1 _ _ _ x y;grind;grind;rfl;rintro a j (x|⟨rfl,rfl⟩);exact b.2.2 _ _ x;show(a<Y.gA↔j<Y.gA);omega
def iN(Y:fL)(a b:Õ):Prop:=Y a.block b.block/\a.off=b.off/\a.spot=b.spot
def iN.fG{Y b:fL}(h:Y.r b)(r:iN Y a p):iN b a p:=⟨h.1 _ _ r.1,r.2⟩
def iN.r{Y:fL}(r:iN Y a p)(n:Nat):iN Y (a.add n) (p.add n):=by let⟨b,c,d⟩:=r;unfold Addr.add;by_cases e:n=0;rw[if_pos e,if_pos e];exact⟨b,c,d⟩;rw[if_neg e,if_neg e];exact⟨b,by simp[c],U⟩
inductive fI(Y:fL):Ã->Ã->Prop|nF (b:Bool):fI Y (Ĭ b) (Ĭ b)|iZ (k:ñ) (n:Int):fI Y (ù k n) (ù k n)|lb (s:ByteArray):fI Y (Ĕ s) (Ĕ s)|mN:fI Y (Ö Ú) (Ö Ú)|kn {a a':Õ} (h:iN Y a a'):fI Y (Ö<|À a) (Ö<|À a')|oP (n c:Nat):fI Y (bh Ú n c) (bh Ú n c)|lh {a a':Õ} (h:iN Y a a') (n c:Nat):fI Y (bh (À a) n c) (bh (À a') n c)|uo:fI Y bj bj|fn (f:Fn):fI Y (.func f #[] #[]) (.func f #[] #[])|uq:fI Y ar ar|uu:fI Y (.chan Ú) (.chan Ú)|uw:fI Y (.map Ú) (.map Ú)|xf (t:Â) {v v':Ã} (h:fI Y v v'):fI Y (.iface t v) (.iface t v')|pG {cs mO:Array Ã} (hs:cs.size=mO.size) (h:∀i (h1:i<cs.size) (h2:i<mO.size),fI Y cs[i] mO[i]):fI Y (.agg cs) (.agg mO)|nG {cs mO:Array Ã} (hs:cs.size=mO.size) (h:∀i (h1:i<cs.size) (h2:i<mO.size),fI Y cs[i] mO[i]):fI Y (ŧ cs) (ŧ mO)
def fI.fG{Y a:fL}(h:Y.r a)(r:fI Y v x):fI a v x:=by
 induction r with|nF b=>exact .nF b|iZ k n=>exact .iZ k n|lb s=>exact .lb s|mN=>exact .mN|kn b=>exact .kn (b.fG h)|oP n c=>exact .oP n c|lh b n c=>exact .lh (b.fG h) n c|uo=>exact .uo|fn f=>exact .fn f|uq=>exact .uq|uu=>exact .uu|uw=>exact .uw|xf t _ b=>exact .xf t b|pG c _ b=>exact .pG c b|nG c _ b=>exact .nG c b
structure gD(Y:fL)(cs mO:Array Ã):Prop where
 r:cs.size=mO.size
 C:∀i (h1:i<cs.size) (h2:i<mO.size),fI Y cs[i] mO[i]
def gD.fG{Y a:fL}(h:Y.r a){cs:Array Ã}(r:gD Y cs d):gD a cs d:=⟨r.r,λi b c=>(r.C i b c).fG h⟩
theorem gD.M{Y:fL}(r:gD Y d q)(i:Nat):(d[i]?=Ú/\q[i]?=Ú)\/∃v b,d[i]?=À v/\q[i]?=À b/\fI Y v b:=by
 by_cases h:i<d.size;have a:i<q.size:=by rwa[<-r.r]
 exact Å ⟨d[i],q[i],fj h,fj a,r.C i h a⟩;have a:¬i<q.size:=by rwa[<-r.r]
 grind
def gD.N(Y:fL):gD Y #[] #[]:=⟨U,λi h=>absurd h fD⟩
theorem gD.G{Y:fL}(r:gD Y d q)(h:fI Y v x):gD Y (d.push v) (q.push x):=by refine⟨by simp[r.r],λi b c=> ?_⟩;simp only[Array.getElem_push];have e:=r.r;by_cases a:i<d.size;rw[dif_pos a,dif_pos Z];exact r.C i a Z;grind
theorem gD.K{Y:fL}(r:gD Y d q)(n:Nat)(h:fI Y v x):gD Y (d.setIfInBounds n v) (q.setIfInBounds n x):=by
 refine⟨by simp[r.r],λi c e=> ?_⟩;have f:i<d.size:=fN c;have g:i<q.size:=fN e;have a:(d.setIfInBounds n v)[i]?=if n=i then À v else d[i]?:=by grind
 have b:(q.setIfInBounds n x)[i]?=if n=i then À x else q[i]?:=by grind
 rw[fj c]at a;rw[fj e]at b;by_cases j:n=i;grind;rw[if_neg j]at a b;rw[fj f]at a;rw[fj g]at b;injection a with a;injection b with b;rw[a,b];exact r.C i f g
def gD.H{Y:fL}{cs b:Array Ã}(r:gD Y cs d)(t:gD Y q b):gD Y (cs++q) (d++b):=by refine⟨by simp[r.r,t.r],λi c g=> ?_⟩;have e:=r.r;have f:=t.r;simp only[Array.getElem_append];by_cases a:i<cs.size;rw[dif_pos a,dif_pos Z];exact r.C i a Z;rw[dif_neg a,dif_neg Z];have:=t.C (i-cs.size) (by simp at c;omega) (by simp at c;omega);simpa[e]using this
def gD.Gy{Y:fL}(r:gD Y d q)(a b:Nat):gD Y (d.extract a b) (q.extract a b):=by refine⟨by simp[r.r],λi c e=> ?_⟩;rw[ſ ..,ſ ..];exact r.C _ _ _
def gD.I{Y:fL}(h:fI Y v x):gD Y #[v] #[x]:=⟨U,λi a b=>by have:i=0:=(fN a);subst this;exact h⟩
def fI.iH{Y:fL}(h:fI Y v x):gD Y v.cells x.cells:=by
 cases h with|pG a h=>exact⟨a,h⟩|nF b=>exact gD.I<|.nF b|iZ k n=>exact gD.I<|.iZ k n|lb s=>exact gD.I<|.lb s|mN=>exact gD.I .mN|kn b=>exact gD.I<|.kn b|oP n c=>exact gD.I<|.oP n c|lh b n c=>exact gD.I<|.lh b n c|uo=>exact gD.I .uo|fn f=>exact gD.I<|.fn f|uq=>exact gD.I .uq|uu=>exact gD.I .uu|uw=>exact gD.I .uw|xf t b=>exact gD.I<|.xf t b|nG a h=>exact gD.I<|.nG a h
def Ah:Ã->Bool|.agg _|ŧ _=>Ä|_=>È
def Gz(e:Â)(n:Nat):Prop:=(e=298\/e=299)/\n<=16
class B7 (P:Ó):Prop where
 lt:∀e n,Gz e n->n<P.cellsOf e
def El(e:Â)(n a:Nat):Prop:=n=a\/(n<=a/\Gz e n)
structure qV(Y:fL)(s:Prop)(e:Â)(c c':Array Ã):Prop where
 C:∀i (_:i<c.size) (_:i<c'.size),fI Y c[i] c'[i]
 M:c.size<=c'.size
 I:c.size=c'.size\/(s/\Gz e c.size)
section
variable{Y d:fL}{s:Prop}{c c':Array Ã}
def qV.N(h:gD Y c c'):qV Y s e c c':=⟨h.C,by rw[h.r];exact eE _,Á h.r⟩
def qV.r(h:qV Y s e c c')(a:¬s):gD Y c c':=⟨h.I.resolve_right λq=>a q.1,h.C⟩
def qV.fG(h:qV Y s e c c')(l:Y.r d):qV d s e c c':=⟨λi a b=>(h.C i a b).fG l,h.M,h.I⟩
theorem qV.GA(h:qV Y s e c c')(i:Nat):(c[i]?=Ú/\True)\/∃v a,c[i]?=À v/\c'[i]?=À a/\fI Y v a:=by by_cases q:i<c.size;have b:=ff q h.M;exact Å ⟨c[i],c'[i],fj q,fj b,h.C i q b⟩;grind
def qV.ady(h:qV Y s e c c'):El e c.size c'.size:=h.I.imp id λq=>⟨h.M,q.2⟩
end
inductive gh(P:Ó){α:Type}(V:fL->α->α->Prop):fL->ă α->ă α->Prop|fY {Y:fL} {a a':α} (h:V Y a a'):gh P V Y (υ a) (υ a')|ij {Y:fL} {a a':Õ} {k k':Ã->ă α} (ha:iN Y a a') (hk:∀v v',fI Y v v'->gh P V Y (k v) (k' v')):gh P V Y (.load ő a k) (.load ő a' k')|jN {Y:fL} {a a':Õ} {v v':Ã} {k k':ă α} (ha:iN Y a a') (hv:fI Y v v') (hk:gh P V Y k k'):gh P V Y (Zn5 ő a v k) (Zn5 ő a' v' k')|xg {Y:fL} {c c':Array Ã} {e:Â} {k k':Nat->ă α} (hc:gD Y c c') (hk:∀r r',(∀j,¬Y r j)->(∀i,¬Y i r')->Y.gA<=r->Y.gA<=r'->gh P V (Y.M r r') (k r) (k' r')):gh P V Y (.new (Ā c e) k) (.new (Ā c' e) k')|xh {Y:fL} {r r':Nat} {k k':Option (TypeId×Nat)->ă α} (hr:Y r r') (hk:∀e n n',El e n n'->gh P V Y (k<|À (e,n)) (k'<|À (e,n'))):gh P V Y (.shape r k) (.shape r' k')|Ot {Y:fL} {a a':Õ} {k k':Bool->ă α} (ha:iN Y a a') (hk:∀b b',(b'=È->b=È)->gh P V Y (k b) (k' b')):gh P V Y (.frozen a k) (.frozen a' k')|B8 {Y:fL} {q:bk} {k k':Nat->ă α} (hk:∀n,gh P V Y (k n)<|k' n):gh P V Y (.choose q k) (.choose q k')|Ku {Y:fL} {k k':Ó->ă α} (hk:gh P V Y (k P) (k' P)):gh P V Y (.program k) (.program k')|Em {Y:fL} {m:Mark} {k k':ă α} (hm:m=Zn6\/∃f,m=.extern f) (hk:gh P V Y k k'):gh P V Y (.mark m k) (.mark m k')|gB {Y:fL} {h:Halt} {m:ă α}:gh P V Y (ZoD h) m|qt {Y:fL} {m m':ă α} (h:∀u x u',m.run P u≠Ē x u'):gh P V Y m m'
def yu{m:ă gX}{f:gX->ă gQ}(h:∀u x b,m.run P u≠Ē x b):∀u x b,(m.bind f).run P u≠Ē x b:=by
 intro u x b e;have c:(m>>=f).run P u=Ē x b:=e;rw[Æ]at c;cases d:m.run P u with|ok a w=>exact h _ _ _ d|halt z w=>rw[d]at c;cases c
def gh.nH{V:fL->gX->gX->Prop}{l:fL->gQ->gQ->Prop}{Y:fL}{m o:ă gX}{f p:gX->ă gQ}(h:gh P V Y m o)(g:∀i a k,Y.r i->V i a k->gh P l i (f a) (p k)):gh P l Y (m.bind f) (o.bind p):=by
 induction h with|fY h=>exact g _ _ _ (fL.I _) h|ij j _ d=>exact .ij j λv c b=>d v c b g|jN j b _ d=>exact .jN j b (d g)|xg q _ d=>exact .xg q λr s c e n v=>d r s c e n v λi a k t b=>g i a k (fL.C (fL.N c e n v) t) b|xh b _ d=>exact .xh b λe n v c=>d e n v c g|Ot j _ d=>exact .Ot j λb c v=>d b c v g|B8 _ d=>exact .B8 λn=>d n g|Ku _ d=>exact .Ku (d g)|Em c _ d=>exact .Em c (d g)|gB=>exact .gB|qt h=>exact .qt (yu h)
def Ai:Ã->Bool|ù .u8 _=>È|_=>Ä
def En(c:Array Ã):Prop:=∀(k:Nat)(v:Ã),c[k]?=À v->Ai v=Ä
structure jI(Y:fL)(Sh:Nat->Prop)(u w:Ç):Prop where
 S:u.tape=w.tape
 N:u.drawn=w.drawn
 C:Bi Y
 I:Y.gA<=u.heap.size
 M:Y.gA<=w.heap.size
 r:∀i j,Y i j->∃c c' e fr yv,u.heap[i]?=À (Ā c e fr)/\w.heap[j]?=À (Ā c' e yv)/\qV Y (Sh j) e c c'/\(Sh j->fr.1=0/\c.size<=fr.2/\yv.2<=fr.2/\0<c.size/\(En c\/Gz e c.size))/\(¬Sh j->fr=yv)/\fr.2<=c.size
structure pH(Y:fL)(Sh:Nat->Prop)(w w':Ç):Prop where
 r:w.heap.size<=w'.heap.size
 I:w'.os=w.os
 M:w'.output=w.output
 S:w'.tape=w.tape
 C:∀j,j<w.heap.size->(∀i,¬Y i j)->w'.heap[j]?=w.heap[j]?
 N:∀j,Sh j->j<w.heap.size->w'.heap[j]?=w.heap[j]?
def B9(Y:fL)(b:Nat->Prop)(e:ê):Prop:=
 (∃(a:Õ)(i:Nat),e.loc=é a/\Y i a.block/\e.sync=Ä/\(e.write=È->¬b a.block))\/e.loc=Ŋ Zn6\/∃f,e.loc=Ŋ (.extern f)
def yw{m:Mode}{k:ă gX}(h:Ah v=È): Ù P (Zn5 m a v k) w=(match w.cell? a with
 |some _=>if w.frozen? a then bl (İ<|Œ "a write to bytes that a string shares") w else k.run P (w.setCell a v)
 |none=>match w.farStore P a v (m==þ)with|.ok (w,_)=>k.run P w|aQ h=>bl h w):=by
 cases v<;>first|rfl|cases h
def adz{m:Mode}{k:ă gX}(h:Ah v=È): ß P (Zn5 m a v k) w V=(match w.cell? a with
 |some _=>
  if w.frozen? a then(bl (İ<|Œ "a write to bytes that a string shares") w,V)
  else k.runT P (w.setCell a v) (V.push ⟨é a,È,m==þ⟩)
 |none=>match w.farStore P a v (m==þ)with|.ok (w,touched)=>k.runT P w (V++touched.toArray.map (⟨.cell ·,È,m==.atomic⟩))|aQ h=>(bl h w,V)):=by
 cases v<;>first|rfl|cases h
def adA{m:Mode}{k:ă gX}(h:Ah v=Ä){x:gX}:Ù P (Zn5 m a v k) w≠Ē x u:=by cases v<;>first|exact Bool.noConfusion h|(intro e;simp[Ù]at e)
def adB{Y:fL}(h:fI Y v x):Ah x=Ah v:=by cases h<;>rfl
section
variable{Y:fL}
def Ca(h:u.heap[a.block]?=À (Ā d e xJ)):u.cell? a=if a.spot.isSome then Ú else d[a.off]?:=by simp[Ď,h]
def adC(h:u.heap[a.block]?=À (Ā d e xJ))(b:Bool):∃x,u.farLoad P a b=aQ x:=by simp[ĺ,h]
def adD(h:u.heap[a.block]?=À (Ā d e xJ))(b:Bool):∃x,u.farStore P a v b=aQ x:=by simp[œ,h]
def jI.K(h:jI Y X u w){a':Õ}(i:iN Y a a')(b:u.cell? a=À v):∃f,w.cell? a'=À f/\fI Y v f:=by
 let⟨j,k,l⟩:=i;let⟨c,s,e,t,y,m,n,o,_⟩:=h.r _ _ j;rw[Ca m]at b;rw[Ca n,<-k,<-l];cases g:a.spot with
 |some x=>rw[g]at b;cases b
 |none=>
  rw[g]at b;obtain⟨d,_⟩|⟨x,p,d,q,r⟩:=o.GA a.off;simp[d]at b;simp[d]at b;subst b;exact⟨p,by simp[q],r⟩
theorem jI.adE(h:jI Y X u w)(g:iN Y a p)(i:u.cell? a=À v)(j:u.frozen? a=Ä):¬X p.block/\w.frozen? p=Ä:=by
 let⟨k,l,q⟩:=g;let⟨c,r,e,b,s,d,m,t,x,n,y⟩:=h.r _ _ k;rw[Ca d]at i;have z:a.off<c.size:=by grind
 have o:(decide (b.1<=a.off)&&decide (a.off<b.2))=Ä:=by simpa[û,d]using j
 have f:¬X p.block:=by grind
 refine⟨f,?_⟩;have:=n f;subst this;simp only[û,m,<-l];exact o
def VS{w:Ç}(h:w.heap[a.block]?=À (Ā d e xJ))(b:a.spot=Ú): (w.setCell a v).heap[a.block]?=À (Ā (d.setIfInBounds a.off v) e xJ):=by simp[ü,fh,h,b]
def ml{w:Ç}:(w.setCell a v).heap.size=w.heap.size:=by simp[ü]
def Kv{w:Ç}(h:a.block≠j):(w.setCell a v).heap[j]?=w.heap[j]?:=by simp[ü,fh,h]
def jI.jN(h:jI Y X u w)(B:iN Y a p)(C:fI Y v z)(D:u.cell? a=À x)(m:¬X p.block):jI Y X (u.setCell a v) (w.setCell p z):=by
 let⟨d,E,F⟩:=B;have n:a.spot=Ú:=by let⟨c,o,e,f,g,b,_⟩:=h.r _ _ d;rw[Ca b]at D;simp_all
 refine⟨h.S,h.N,h.C,by rw[ml];exact h.I,by rw[ml];exact h.M,λi j k=> ?_⟩;let⟨c,o,e,f,g,b,q,r,G,t,y⟩:=h.r i j k;by_cases l:a.block=i;subst l;have:j=p.block:=h.C.1 _ _ _ k d;subst this;exact⟨_,_,e,f,g,VS b n,VS q (by rw[<-F,n]),by rw[<-E];exact qV.N<|(r.r m).K _ C,λs=>absurd s m,t,fN y⟩;exact⟨c,o,e,f,g,by rwa[Kv l],by rwa[Kv λe=>l<|h.C.2.1 _ _ _ d<|e▸k],r,G,t,y⟩
theorem jI.xg(h:jI Y X u w)(m:∀j,X j->j<w.heap.size)(n:gD Y d q): jI (Y.M u.heap.size w.heap.size) X {u with heap:=u.heap.push (Ā d e)} {w with heap:=w.heap.push (Ā q e)}:=by
 have a:∀i j,Y i j->i<u.heap.size/\j<w.heap.size:=by intro i j s;let⟨_,_,_,_,_,f,g,_⟩:=h.r i j s;grind
 have b:=fL.N (Y:=Y) (λj x=>absurd (a _ _ x).1 Z) (λi x=>absurd (a _ _ x).2 Z) h.I h.M;refine⟨h.S,h.N,b.2.1 h.C,by have:=h.I;simp[fL.M];omega,by have:=h.M;simp[fL.M];omega,?_⟩;rintro i j (x|⟨rfl,rfl⟩);let⟨s,o,p,r,t,f,g,v,y,z,B⟩:=h.r i j x;let⟨k,l⟩:=a i j x;exact⟨s,o,p,r,t,by simp only[Đ k];rw[<-f,fj k],by simp only[Đ l];rw[<-g,fj l],v.fG b,y,z,B⟩;exact⟨d,q,e,(0,0),(0,0),fD,fD,qV.N<|n.fG b,λs=>absurd (m _ s) Z,λ_=>U,eD _⟩
theorem pH.gy(Y:fL)(X:Nat->Prop)(w:Ç):pH Y X w w:=⟨eE _,U,U,U,λ_ _ _=>U,λ_ _ _=>U⟩
def pH.fA{b:fL}{w₁:Ç}(h:pH Y X w w₁)(k:pH b X w₁ u)(d:∀i j,b i j->Y i j\/w.heap.size<=j):pH Y X w u:=⟨â h.r k.r,k.I.trans h.I,k.M.trans h.M,k.S.trans h.S,λj a c=>(k.C j (ff a h.r) λi y=>(d i j y).elim (c i) λz=>by omega).trans<|h.C j a c,λj s a=>(k.N j s<|ff a h.r).trans<|h.N j s a⟩
def Kw{w:Ç}:(w.freeze a n).heap.size=w.heap.size:=by unfold Ć;split<;>simp
def adF{w:Ç}:(w.freeze a n).os=w.os:=by unfold Ć;split<;>rfl
def adG{w:Ç}:(w.freeze a n).output=w.output:=by unfold Ć;split<;>rfl
def Ou{w:Ç}:(w.freeze a n).tape=w.tape:=by unfold Ć;split<;>rfl
def VT{w:Ç}:(w.freeze a n).drawn=w.drawn:=by unfold Ć;split<;>rfl
theorem Kx{w:Ç}(h:a.block≠j):(w.freeze a n).heap[j]?=w.heap[j]?:=by unfold Ć;split;all_goals grind
def uy(a:Õ)(n:Nat)(b:Nat×Nat):Nat×Nat:=if n=0 then b else if b.1==b.2 then(a.off,a.off+n)else(min b.1 a.off,max b.2<|a.off+n)
theorem VU{w:Ç}(h:w.heap[a.block]?=À (Ā d e xJ)):(w.freeze a n).heap[a.block]?=À (Ā d e<|uy a n xJ):=by unfold Ć uy;grind
def VW(h:a.off=p.off)(n:Nat)(b:Nat×Nat):uy a n b=uy p n b:=by unfold uy;rw[h]
theorem adH(h:a.off+n<=i)(b:xJ.2<=i):(uy a n xJ).2<=i:=by unfold uy;grind
theorem adI{b:Nat×Nat}(c:0<i)(d:xJ.1=0)(e:i<=xJ.2)(f:b.2<=xJ.2):(uy a n xJ).1=0/\i<=(uy a n xJ).2/\(uy a n b).2<=(uy a n xJ).2:=by unfold uy;grind
def jI.adJ(h:jI Y X u w)(y:iN Y a p)(n:Nat)(z:∀c e b,u.heap[a.block]?=À (Ā c e b)->a.off+n<=c.size):jI Y X (u.freeze a n) (w.freeze p n):=by obtain⟨k,l,I⟩:=y;refine⟨Ou.trans<|h.S.trans Ou.symm,VT.trans<|h.N.trans VT.symm,h.C,by rw[Kw];exact h.I,by rw[Kw];exact h.M,λi j d=> ?_⟩;obtain⟨c,m,e,b,B,f,o,q,r,t,v⟩:=h.r i j d;by_cases g:a.block=i;subst g;have:j=p.block:=h.C.1 _ _ _ d k;subst this;refine⟨c,m,e,_,_,VU f,VU o,q,λs=> ?_,λs=> ?_,adH (z _ _ _ f) v⟩;obtain⟨C,D,E,x⟩:=r s;rw[<-VW l];obtain⟨F,G,H⟩:=adI x.1 C D E;exact⟨F,G,H,x⟩;rw[t s,VW l];exact⟨c,m,e,b,B,by rwa[Kx g],by rwa[Kx λe=>g<|h.C.2.1 _ _ _ k<|e▸d],q,r,t,v⟩
theorem jI.H(h:jI Y X u w)(b:iN Y a p):w.frozen? p=È->u.frozen? a=È:=by let⟨d,f,j⟩:=b;let⟨c,k,e,l,m,g,i,n,o,q,r⟩:=h.r _ _ d;simp only[û,g,i,<-f,eC,decide_eq_true_eq];rintro⟨x,y⟩;by_cases s:X p.block;all_goals grind
theorem gh.gS{V:fL->gX->gX->Prop}{Y:fL}{m m':ă gX}(h:gh P V Y m m'):∀{u w:Ç},jI Y X u w->(∀j,X j->j<w.heap.size)->∀{x:gX} {D:Ç},m.run P u=Ē x D->∀n:Array ê,∃(l:fL)(p:gX)(w':Ç)(t:Array ê),Y.r l/\(∀i j,l i j->Y i j\/(u.heap.size<=i/\w.heap.size<=j))/\m'.runT P w n=(Ē p w',n++t)/\V l x p/\jI l X D w'/\pH Y X w w'/\(∀e∈t,B9 l X e)/\u.heap.size<=D.heap.size:=by
 induction h with
 |fY h=>
  intro u w d _ x D b n;simp only[Ù]at b;cases b;exact⟨_,_,w,#[],fL.I _,λ_ _ h=>Á h,by simp[ß],h,d,pH.gy _ _ _,λe o=>by simp at o,eE _⟩
 |@ij Y a a' k k' ha hk C=>
  intro u w d B x D b n;simp only[Ù]at b;cases f:u.cell? a with
  |none=>
   let⟨c,O,e,fr,yv,N,_⟩:=d.r _ _ ha.1;let⟨z,s⟩:=adC (P:=P) N<|ő==þ;rw[f]at b;simp only[s]at b;cases b
  |some v=>
   rw[f]at b;let⟨T,Q,W⟩:=d.K ha f;let⟨l,p,w',t,E,F,H,I,J,g,K,G⟩:=C v T W d B b<|n.push ⟨é a',Ä,Ä⟩;refine⟨l,p,w',#[⟨é a',Ä,Ä⟩]++t,E,F,?_,I,J,g,λe o=> ?_,G⟩;simp only[ß,Q];rw[show((ő==þ)=Ä)from U,H];rw[<-Ī,ı];obtain o|o:=dq.1 o;simp at o;subst o;exact Á ⟨a',_,U,E.1 _ _ ha.1,U,λe=>by cases e⟩;exact K e o
 |@jN Y a a' v T k k' ha hv _ C=>
  intro u w d B x D b n;cases W:Ah v with
  |false=>exact absurd b<|adA W|true=>
   rw[yw W]at b;cases f:u.cell? a with
   |none=>
    let⟨c,O,e,fr,yv,N,_⟩:=d.r _ _ ha.1;let⟨z,s⟩:=adD (P:=P) (v:=v) N<|ő==þ;rw[f]at b;simp only[s]at b;cases b
   |some y=>
    rw[f]at b;cases L:u.frozen? a with
    |true=>rw[L]at b;simp at b|false=>
     simp only[L,Î,if_false]at b;let⟨ns,hf'⟩:=d.adE ha f L;let⟨y',Cb,_⟩:=d.K ha f;let⟨l,p,w',t,E,F,H,I,J,g,K,G⟩:=C (d.jN ha hv f ns) (by rwa[ml]) b<|n.push ⟨é a',È,Ä⟩;have Q:(w.setCell a' T).heap.size=w.heap.size:=ml;have VX:(u.setCell a v).heap.size=u.heap.size:=ml;refine⟨l,p,w',#[⟨é a',È,Ä⟩]++t,E,by rwa[Q,VX]at F,?_,I,J,?_,λe o=> ?_,by rwa[VX]at G⟩;rw[adz<|(adB hv).trans W,Cb];simp only[hf',Î,if_false];rw[show((ő==þ)=Ä)from U,H];rw[<-Ī,ı];refine⟨by rw[<-Q];exact g.r,g.I,g.M,g.S,λj M S=> ?_,λj s M=>(g.N j s<|by rwa[Q]).trans<|Kv λe=>ns<|e▸s⟩;rw[g.C j (by rwa[Q]) S];exact Kv λe=>S a.block<|e▸ha.1;obtain o|o:=dq.1 o;simp at o;subst o;exact Á ⟨a',_,U,E.1 _ _ ha.1,U,λ_=>ns⟩;exact K e o
 |@xg Y c O e k k' f _ C=>
  intro u w d B x D b n;simp only[Ù]at b;have T:∀i j,Y i j->i<u.heap.size/\j<w.heap.size:=by intro i j Q;let⟨_,_,_,_,_,N,W,_⟩:=d.r i j Q;grind
  have n1:∀j,¬Y u.heap.size j:=λj y=>absurd (T _ _ y).1 Z;have n2:∀i,¬Y i w.heap.size:=λi y=>absurd (T _ _ y).2 Z;let⟨l,p,w',t,E,F,H,I,J,g,K,G⟩:=C u.heap.size w.heap.size n1 n2 d.I d.M (d.xg B f) (λj s=>by have:=B j s;simp;omega) b n;refine⟨l,p,w',t,fL.C (fL.N n1 n2 d.I d.M) E,λi j Q=> ?_,by simp only[ß];exact H,I,J,?_,K,by simp at G;omega⟩;obtain(y|⟨rfl,rfl⟩)|y:=F i j Q;exact Á y;exact Å ⟨eE _,eE _⟩;simp at y;exact Å ⟨Z,Z⟩;have hs:=g.r;simp at hs;refine⟨Z,g.I,g.M,g.S,λj M S=> ?_,λj s M=>(g.N j s<|by simp;omega).trans ?_⟩;rw[g.C j (by simp;omega) (λi z=>z.elim (S i) λz=>by omega)];simp[Đ M];simp[Đ M]|@xh Y r r' k k' qW _ C=>
  intro u w d B x D b n;simp only[Ù]at b;let⟨c,O,e,fr,yv,N,W,Q,_⟩:=d.r _ _ qW;have f:u.shape? r=À (e,c.size):=by simp[Ű,N]
  have s:w.shape? r'=À (e,O.size):=by simp[Ű,W]
  rw[f]at b;let⟨l,p,w',t,h⟩:=C e c.size O.size Q.ady d B b n;exact⟨l,p,w',t,by simp only[ß,s];exact h⟩|@Ot Y a a' k k' ha _ C=>
  intro u w d B x D b n;simp only[Ù]at b;let⟨l,p,w',t,h⟩:=C (u.frozen? a) (w.frozen? a') (d.H ha) d B b n;exact⟨l,p,w',t,by simpa only[ß]using h⟩|@B8 Y q k k' _ C=>
  intro u w d B x D b n;simp only[Ù]at b;cases L:q.forced with
  |true=>
   rw[L]at b;simp only[if_true]at b;let⟨l,p,w',t,h⟩:=C 0 d B b n;exact⟨l,p,w',t,by simpa only[ß,L,if_true]using h⟩|false=>
   rw[L]at b;simp only[Î,if_false]at b;have Q:jI Y X {u with drawn:=u.drawn+1} {w with drawn:=w.drawn+1}:=⟨d.S,by simp[d.N],d.C,d.I,d.M,d.r⟩;rw[d.S,d.N]at b;obtain⟨l,p,w',t,E,F,H,I,J,g,K,G⟩:=C (q.cut<|w.tape w.drawn q) Q B (by rwa[d.S,d.N]) n;exact⟨l,p,w',t,E,F,by simp only[ß,L,Î,if_false];exact H,I,J,⟨g.r,g.I,g.M,g.S,g.C,g.N⟩,K,G⟩
 |Ku _ C=>
  intro u w d B x D b n;simp only[Ù]at b;let⟨l,p,w',t,h⟩:=C d B b n;exact⟨l,p,w',t,by simpa only[ß]using h⟩|@Em Y mk k k' hm _ C=>
  intro u w d B x D b n;simp only[Ù]at b;let⟨l,p,w',t,E,F,H,I,J,g,K,G⟩:=C d B b<|n.push ⟨Ŋ mk,Ä,È⟩;refine⟨l,p,w',#[⟨Ŋ mk,Ä,È⟩]++t,E,F,?_,I,J,g,λe o=> ?_,G⟩;simp only[ß];rw[H];rw[<-Ī,ı];obtain o|o:=dq.1 o;simp at o;subst o;obtain rfl|⟨f,rfl⟩:=hm;exact Å<|Á U;exact Å<|Å ⟨f,U⟩;exact K e o|gB=>
  intro u w _ _ x D b n;simp only[Ù]at b;cases b
 |qt h=>
  intro u w _ _ x D b n;exact absurd b<|h _ _ _
end
inductive kT:Ã->Prop|nF (b:Bool):kT (Ĭ b)|iZ (k:ñ) (n:Int):kT (ù k n)|lb (s:ByteArray):kT (Ĕ s)|mN:kT (Ö Ú)|oP (n c:Nat):kT (bh Ú n c)|uo:kT bj|uq:kT ar|uu:kT (.chan Ú)|uw:kT (.map Ú)|pG {cs:Array Ã} (h:∀i (h:i<cs.size),kT cs[i]):kT (.agg cs)|nG {cs:Array Ã} (h:∀i (h:i<cs.size),kT cs[i]):kT (ŧ cs)
def kT.kv(h:kT v)(Y:fL):fI Y v v:=by
 induction h with|nF b=>exact .nF b|iZ k n=>exact .iZ k n|lb s=>exact .lb s|mN=>exact .mN|oP n c=>exact .oP n c|uo=>exact .uo|uq=>exact .uq|uu=>exact .uu|uw=>exact .uw|pG _ b=>exact .pG U λi c _=>b i c|nG _ b=>exact .nG U λi c _=>b i c
def pI(P:Ó):Prop:=∀t i z,P.info? t=À i->i.zero=À z->kT z
def kj:fL->gX->gX->Prop:=λ_ a b=>a=b
section
variable{Y:fL}
def ga{V:fL->gX->gX->Prop}{V':fL->gQ->gQ->Prop}{m c:ă gX}{f d:gX->ă gQ}(h:gh P V Y m c)(g:∀b a e,Y.r b->V b a e->gh P V' b (f a) (d e)):gh P V' Y (m>>=f) (c>>=d):=gh.nH h g
def uz{c:fL->gQ->gQ->Prop}{m:ă gX}{f d:gX->ă gQ}(h:gh P kj Y m m)(g:∀b a,Y.r b->gh P c b (f a) (d a)):gh P c Y (m>>=f) (m>>=d):=gh.nH h λb a i j (e:a=i)=>by subst e;exact g b a j
def tx:gh P (λ_ a b=>a=P/\b=P) Y Zn7 Zn7:=.Ku (.fY ⟨U,U⟩)
theorem Ov{V:fL->gX->gX->Prop}{e:ű}(h:(∃x y s c,e=.bounds x y s c)\/(∃m,e=.error m)\/(∃m,e=.plain m)\/e=.nilDeref):gh P V Y (runtimePanic e) (runtimePanic e):=by unfold runtimePanic;apply ga tx;rintro f a g _ ⟨b,d⟩;rw[b,d];obtain⟨x,y,s,c,rfl⟩|⟨m,rfl⟩|⟨m,rfl⟩|rfl:=h<;>exact .gB
theorem Eo{V:fL->gX->gX->Prop}{k:ñ}{y:Int}{c:η}:gh P V Y (boundsPanic k h y c) (boundsPanic k h y c):=by simp only[boundsPanic,];split;apply uz (.B8 λn=> .fY U);grind [Ov];grind [Ov]
def Aj(t:Â):gh P (λ_ a b=>a=b/\P.info? t=À a) Y (Ŭ t) (Ŭ t):=by
 unfold Ŭ;apply ga tx;rintro e a b _ ⟨c,d⟩;rw[c,d];cases h:P.info? t with|some i=>exact .fY ⟨U,U⟩|none=>exact .gB
def jK(t:Â):gh P (λ_ a b=>a=b/\P.underlying t=À a) Y (ð t) (ð t):=by
 unfold ð;apply ga tx;rintro e a b _ ⟨c,d⟩;rw[c,d];cases h:P.underlying t with|some i=>exact .fY ⟨U,U⟩|none=>exact .gB
def GB(b:pI P)(t:Â):gh P fI Y (Ν t) (Ν t):=by
 unfold Ν;apply ga (Aj t);rintro d a e _ ⟨rfl,h⟩;cases c:a.zero with|some z=>exact .fY ((b t a z h c).kv _)|none=>exact .gB
def oR(t:Â):gh P (λ_ a b=>a=b/\∃i,P.info? t=À i/\i.size=a) Y (θ t) (θ t):=by unfold θ;apply ga (Aj t);rintro i a b _ ⟨rfl,h⟩;exact .fY ⟨U,_,h,U⟩
def VY(t:Â):gh P kj Y (isAgg t) (isAgg t):=by unfold isAgg;apply ga (jK t);rintro b a c _ ⟨rfl,_⟩;split<;>exact .fY U
def Ky(h:iN Y a p):gh P fI Y (au a) (au p):=.ij h λ_ _ b=> .fY b
def adK(h:iN Y a p)(b:fI Y v x):gh P kj Y (δ a v) (δ p x):=.jN h b (.fY U)
def adL:∀{Y:fL} {a b:Õ} {i:Nat} {c d:Array Ã},iN Y a b->gD Y c d->gh P gD Y (Ļ a i n c) (Ļ b i n d):=by
 induction n with
 |zero=>intro Y a b i c d _ e;exact .fY e|succ n h=>
  intro Y a b i c d f e;unfold Ļ;apply ga (Ky<|f.r i);exact λk v l g j=>h (f.fG g)<|(e.fG g).G j
def Ow(h:iN Y a p)(n:Nat):gh P gD Y (Zn2 a n) (Zn2 p n):=adL h<|gD.N Y
def Ox:∀{d c:List Ã} {Y:fL} {a e:Õ} {i:Nat},iN Y a e->gD Y d.toArray c.toArray->gh P kj Y (Ų a d i) (Ų e c i):=by
 intro d
 induction d with
 |nil=>
  intro c Y a e i _ b;have:c=[]:=by have:=b.r;simp at this;exact ó this.symm
  subst this;exact .fY U|cons v d h=>
  intro c Y a e i f b;match c,b with
  |[],b=>have:=b.r;simp at this|v'::c,b=>
   unfold Ų;refine ga (adK (f.r i) (by have:=b.C 0 fD fD;simpa using this)) ?_;intro m _ _ g _;apply h (f.fG g);refine⟨by have:=b.r;simpa using this,λj k l=> ?_⟩;have:=b.C (j+1) (by simp at k|-;omega) (by simp at l|-;omega);exact(by simpa using this:fI Y _ _).fG g
theorem VZ(h:iN Y a p)(t:Â):gh P fI Y (Ξ t a) (Ξ t p):=by unfold Ξ;apply uz (VY t);intro g b d;split;apply ga (oR t);rintro i n _ f ⟨rfl,_⟩;apply ga (Ow ((h.fG d).fG f) n);exact λj c k _ e=> .fY (.pG e.r e.C);exact Ky<|h.fG d
def adM(h:iN Y a p)(t:Â)(d:fI Y v x):gh P kj Y (φ t a v) (φ t p x):=by unfold φ;apply ga (oR t);rintro f n _ b ⟨rfl,_⟩;have c:=(d.fG b).iH;by_cases e:v.cells.size≠n;rw[if_pos e];exact .gB;rw[if_neg e,if_neg (by rwa[<-c.r])];exact Ox (h.fG b) c
def Cc(e:Â)(h:gD Y d q):gh P iN Y (newRow e d) (newRow e q):= .xg h λ_ _ _ _ _ _=> .fY ⟨Å ⟨U,U⟩,U,U⟩
def V3(t:Â)(h:fI Y v x):gh P iN Y (newVar t v) (newVar t x):=Cc t h.iH
def V4(t:Â)(h:gD Y d q)(a:Nat):gh P fI Y (part t d a) (part t q a):=by unfold part;apply uz (VY t);intro i b e;split;apply ga (oR t);rintro g n _ f ⟨rfl,_⟩;have:=((h.fG e).fG f).Gy a<|a+n;exact .fY (.pG this.r this.C);rcases(h.fG e).M a with⟨n,f⟩|⟨v,j,n,f,g⟩;rw[n];exact .gB;rw[n,f];exact .fY g
def GF(h:fI Y v x):gh P iN Y (Ŕ v) (Ŕ x):=by cases h<;>first|exact .gB|(rename_i a;exact .fY a)
def Kz(h:fI Y v x):gh P kj Y (Zn8 v) (Zn8 x):=by cases h<;>first|exact .fY U|exact .gB
def Oy(h:fI Y v x):gh P kj Y (Zoj v) (Zoj x):=by unfold Zoj;apply ga (Kz h);rintro b a _ _ rfl;exact .fY U
def V5(h:fI Y v x):gh P kj Y (bq v) (bq x):=by cases h<;>first|exact .fY U|exact .gB
def adN(h:fI Y v x):gh P gD Y (asAgg v) (asAgg x):=by cases h<;>first|exact .gB|(rename_i a y;exact .fY ⟨a,y⟩)
def V6(h:fI Y v x):gh P iN Y (br v) (br x):=by cases h<;>first|exact Ov (Å<|Å<|Å U)|(rename_i a;exact .fY a)|exact .gB
def adO(b:pI P)(t:Â)(v:Ã):gh P fI Y (ř t È v) (ř t È v):=by unfold ř;apply ga (GB b t);intro d z e _ h;apply ga (V3 t h);exact λf a g _ c=> .fY (.kn c)
def adP(t:Â)(h:fI Y v x):gh P fI Y (Ο t v) (Ο t x):=by unfold Ο;apply ga (V3 t h);exact λc a d _ b=> .fY (.kn b)
theorem adQ(t:Â)(h:fI Y v x):gh P fI Y (Ō t v) (Ō t x):=by unfold Ō;apply ga (GF h);grind [VZ]
def adR(t:Â)(b:fI Y x z)(h:fI Y v jQ):gh P kj Y (ġ t x v) (ġ t z jQ):=by unfold ġ;apply ga (GF b);exact λd x z c b=>adM b t<|h.fG c
def adS(h:fI Y v x)(n:Nat):gh P fI Y (ļ v n) (ļ x n):=by
 cases h<;>first|exact .gB|skip
 rename_i e f c h;simp only[ļ];rcases(gD.mk c h).M n with⟨a,b⟩|⟨v,x,a,b,d⟩;rw[a];exact .gB;rw[a,b];exact .fY d
def adT(t:Â)(h:fI Y v x)(n:Nat):gh P fI Y (Ś t v n) (Ś t x n):=by
 unfold Ś;apply ga (jK t);rintro g d _ a ⟨rfl,_⟩;split;rename_i b _;cases i:b[n]? with
 |none=>exact .gB|some f=>
  apply ga (adN<|h.fG a);exact λj c k _ e=>V4 f.type e f.offset
 .exact .gB
end
section
variable{Y:fL}
def tA{V:fL->gQ->gQ->Prop}{a b:gX}{f c:gX->ă gQ}(h:gh P V Y (f a) (c b)):gh P V Y (pure a>>=f) (pure b>>=c):=h
def adU(s:Â)(h:fI Y v x)(n:Nat)(e:∀c f i,P.underlying s=À (Zn9 c)->c[n]?=À f->P.info? f.type=À i->i.size≠0): gh P fI Y (Ľ s v n) (Ľ s x n):=by
 unfold Ľ;apply ga (jK s);rintro r d _ g ⟨rfl,j⟩;cases d<;>try exact .gB
 rename_i c;simp only[];cases k:c[n]? with
 |none=>exact .gB|some f=>
  apply ga (GF<|h.fG g);intro t a u _ l;unfold bu;refine ga (ga (V':=iN) (oR f.type) ?_) ?_;rintro w z _ m ⟨rfl,i,o,p⟩;have:¬z=0:=by rw[<-p];exact e c f i j k o
  rw[if_neg this,if_neg this];exact .fY ((l.fG m).r _);exact λy b B _ q=> .fY (.kn q)
def adV(t:Â)(h:fI Y x v)(j:fI Y z jQ):gh P fI Y (ľ t x z) (ľ t v jQ):=by
 unfold ľ;apply ga (Kz j);rintro r ⟨k,n⟩ _ l rfl;apply ga (jK t);rintro f d _ m ⟨rfl,s⟩;have g:=(h.fG l).fG m;cases d<;>try exact .gB
 .cases g<;>first|exact .gB|skip
  refine tA<|ga (jK t) ?_;exact λ_ _ _ _ _=>Eo;refine tA<|ga (jK t) ?_;rintro o d _ c ⟨rfl,_⟩;simp only[];split;apply ga (oR _);rintro p b _ e ⟨rfl,_⟩;exact .fY (.kn (((‹iN f _ _›.fG c).fG e).r _));repeat' (first|exact .gB|exact Eo|split)
 apply ga (GF g);intro f a u _ q;refine tA<|ga (jK t) ?_;rintro o d _ c ⟨rfl,_⟩;simp only[];split;apply ga (oR _);rintro p b _ e ⟨rfl,_⟩;exact .fY (.kn (((q.fG c).fG e).r _));repeat' (first|exact .gB|exact Eo|split)
def Ep(h:fI Y x v)(y:Nat)(c:η):gh P kj Y (ę x y c) (ę v y c):=by unfold ę;apply ga (Kz h);rintro a ⟨k,n⟩ _ b rfl;simp only[];split;exact .fY U;exact Eo
def tB(Y:fL)(x a:Option Ã):Prop:=(x=Ú/\a=Ú)\/∃v b,x=À v/\a=À b/\fI Y v b
def tB.fG{Y a:fL}(h:Y.r a){x:Option Ã}(r:tB Y x pQ):tB a x pQ:=r.imp id λ⟨v,b,c,d,e⟩=>⟨v,b,c,d,e.fG h⟩
def GG(f:Bool)(g i:Nat){j h k m n:Option Ã}(c:tB Y pQ j)(o:tB Y h k)(t:tB Y m n):gh P kj Y (ĕ f g i pQ h m) (ĕ f g i j k n):=by unfold ĕ;obtain⟨rfl,rfl⟩|⟨mv,B,rfl,rfl,u⟩:=t;apply tA;obtain⟨rfl,rfl⟩|⟨w,x,rfl,rfl,d⟩:=o;apply tA;obtain⟨rfl,rfl⟩|⟨v,p,rfl,rfl,b⟩:=c;exact .fY U;apply ga (Ep b _ _);rintro r q _ _ rfl;exact .fY U;apply ga (Ep d _ _);rintro y a _ e rfl;rcases(c.fG e)with⟨rfl,rfl⟩|⟨v,p,rfl,rfl,b⟩;exact .fY U;apply ga (Ep b _ _);rintro r q _ _ rfl;exact .fY U;apply ga (Ep u _ _);rintro C a _ s rfl;obtain⟨rfl,rfl⟩|⟨w,x,rfl,rfl,d⟩:=o;exact .gB;apply ga (Ep (d.fG s) _ _);rintro y z _ e rfl;rcases(((c.fG s).fG e))with⟨rfl,rfl⟩|⟨v,p,rfl,rfl,b⟩;exact .fY U;apply ga (Ep b _ _);rintro r q _ _ rfl;exact .fY U
def adW(t:Â)(k:fI Y x v){C h D m u:Option Ã}(g:tB Y pQ C)(i:tB Y h D)(j:tB Y m u):gh P fI Y (ś t x pQ h m) (ś t v C D u):=by
 unfold ś;apply ga (jK t);rintro I d _ o ⟨rfl,J⟩;have k:=k.fG o;have g:=g.fG o;have i:=i.fG o;have j:=j.fG o;cases d<;>try exact .gB
 cases k<;>first|exact .gB|skip
 rename_i s;have e:m.isSome=u.isSome:=by obtain⟨rfl,rfl⟩|⟨_,_,rfl,rfl,_⟩:=j<;>rfl
 simp only[e];split;exact .gB;apply ga (GG Ä s.size s.size g i<|Á ⟨U,U⟩);rintro G ⟨a,b,c⟩ _ _ rfl;exact .fY (.lb _);rename_i H;apply ga (V6 k);intro G a K B f;apply ga (jK H);rintro L d _ p ⟨rfl,_⟩;have f:=f.fG p;cases d<;>try exact .gB
 rename_i n e _;apply ga (GG Ä n n ((g.fG B).fG p) ((i.fG B).fG p)<|(j.fG B).fG p);rintro E ⟨x,y,z⟩ _ q rfl;apply ga (oR e);rintro F w _ r ⟨rfl,_⟩;have f:=(f.fG q).fG r;refine .fY (.lh ?_ _ _);split;exact f;exact f.r _;rename_i e;cases k<;>first|exact .gB|skip
 rename_i n c;apply ga (GG È n c g i j);rintro E ⟨x,y,z⟩ _ q rfl;apply ga (oR e);rintro F w _ r ⟨rfl,_⟩;simp only[Option.map_none,ite_self];exact .fY (.oP _ _);rename_i f n c;apply ga (GG È n c g i j);rintro E ⟨x,y,z⟩ _ q rfl;apply ga (oR e);rintro F w _ r ⟨rfl,_⟩;have f:=(f.fG q).fG r;by_cases e:z=x;simp only[e,if_true];exact .fY (.lh f _ _);simp only[e,if_false,dT];exact .fY (.lh (f.r _) _ _)
def adX(t:Â)(b:fI Y x v){o h p m q:Option Ã}(c:tB Y pQ o)(f:tB Y h p)(g:tB Y m q):gh P fI Y (Ŀ t x pQ h m) (Ŀ t v o p q):=by
 unfold Ŀ;apply ga (jK t);rintro u d _ i ⟨rfl,B⟩;have b:=b.fG i;have c:=c.fG i;have f:=f.fG i;have g:=g.fG i;cases d<;>try exact adW t b c f g
 rename_i n e;apply ga (GF b);intro C a D k j;apply ga (GG Ä n n (c.fG k) (f.fG k)<|g.fG k);rintro E ⟨x,y,z⟩ _ r rfl;apply ga (oR e);rintro F w _ s ⟨rfl,_⟩;have j:=(j.fG r).fG s;refine .fY (.lh ?_ _ _);split;exact j;exact j.r _
def adY(t:Â)(a:fI Y x v)(b:fI Y z jQ):gh P fI Y (Ŝ t x z) (Ŝ t v jQ):=by
 unfold Ŝ;apply ga (Kz b);rintro l ⟨k,n⟩ _ c rfl;apply ga (jK t);rintro m d _ f ⟨rfl,o⟩;have a:=(a.fG c).fG f;cases d<;>try exact .gB
 cases a<;>first|exact .gB|skip
 simp only[];split;exact .fY (.iZ _ _);exact Eo;rename_i p e;cases a<;>first|exact .gB|skip
 rename_i g h;simp only[];split;apply ga (oR e);rintro q w _ j ⟨rfl,_⟩;exact V4 e ((gD.mk g h).fG j) _;exact Eo
def adZ(a:UnOp)(b:fI Y x v):gh P fI Y (bx a x) (bx a v):=by cases b<;>cases a<;>first|exact .gB|exact .fY (.iZ _ _)|exact .fY (.nF _)
end
section
variable{Y:fL}
def ad1{g:gX->ă gQ}(d:∀{Y:fL} (a:gX),gh P kj Y (g a)<|g a):∀{Y:fL} (l:List gX),gh P kj Y (l.mapM g) (l.mapM g):=by
 intro Y l
 induction l generalizing Y with
 |nil=>exact .fY U|cons a l e=>
  rw[Β];apply uz (d a);intro f b _;apply uz e;exact λh c _=> .fY U
def ad2{g:gX->ă gQ}(b:∀{Y:fL} (a:gX),gh P kj Y (g a)<|g a)(l:Array gX):gh P kj Y (l.mapM g) (l.mapM g):=by rw[Ą];have:=ad1 b (Y:=Y) l.toList;apply gh.nH this;intro d a c _ (e:a=c);subst e;exact .fY U
def ad3(Y:fL)(p a:Nat×Value):Prop:=p.1=a.1/\fI Y p.2 a.2
inductive xi(Y:fL):List (Nat×Value)->List (Nat×Value)->Prop|qY:xi Y [] []|yx {p p':Nat×Value} {l l':List (Nat×Value)} (h:ad3 Y p p') (t:xi Y l l'):xi Y (p::l) (p'::l')
def xi.fG{Y a:fL}(h:Y.r a){l b:List (Nat×Value)}(r:xi Y l b):xi a l b:=by
 induction r with|qY=>exact .qY|yx x _ c=>exact .yx ⟨x.1,x.2.fG h⟩ c
def ad4(f:Nat):∀(c a:List Ã)(k:Nat)(b d:Array Ã),gD Y c.toArray a.toArray->gD Y b d-> gD Y ((c.zipIdx k).foldl (λb (p:Value×Nat)=>b.setIfInBounds (f+p.2) p.1) b) ((a.zipIdx k).foldl (λb (p:Value×Nat)=>b.setIfInBounds (f+p.2) p.1) d):=by
 intro c
 induction c with
 |nil=>
  intro a k b d p e;have:a=[]:=by have:=p.r;simp at this;exact ó this.symm
  subst this;exact e|cons x c g=>
  intro a k b d p e;match a,p with
  |[],p=>have:=p.r;simp at this|x'::a,p=>
   simp only[bZ,dS];refine g a (k+1) _ _ ⟨by have:=p.r;simpa using this,λj h i=> ?_⟩ (e.K _ (by have:=p.C 0 fD fD;simpa using this));have:=p.C (j+1) (by simp at h|-;omega) (by simp at i|-;omega);simpa using this
theorem ad5(b:Nat){a c:Array Ã}(e:gD Y d q)(f:gD Y a c): gD Y (d.zipIdx.foldl (λa (p:Value×Nat)=>a.setIfInBounds (b+p.2) p.1) a) (q.zipIdx.foldl (λa (p:Value×Nat)=>a.setIfInBounds (b+p.2) p.1) c):=by have:=ad4 b d.toList q.toList 0 a c (fN e) f;grind [Array.toList_zipIdx]
def KA(d:Nat->Option (Nat×Nat)):∀{l e:List (Nat×Value)} {a b:Array Ã},xi Y l e->gD Y a b-> (ι d a l=Ú)\/∃c h,ι d a l=À c/\ι d b e=À h/\gD Y c h:=by
 intro l e a b h
 induction h generalizing a b with
 |qY=>intro c;exact Å ⟨a,b,U,U,c⟩|@yx p p' l e hp _ ih=>
  intro c;let⟨i,v⟩:=p;let⟨k,m⟩:=p';obtain⟨rfl,g⟩:=hp;unfold ι;cases d i with
  |none=>exact Á U|some q=>
   let⟨j,n⟩:=q;have f:=g.iH;simp only[<-f.r,<-c.r];split;exact Á U;exact ih<|ad5 j f c
def ad6(q:pI P)(t:Â){l m:Array (Nat×Value)}(h:xi Y l.toList m.toList):gh P fI Y (ŝ t l) (ŝ t m):=by
 unfold ŝ;apply ga (GB q t);intro C z D r s;apply ga (jK t);rintro E d _ o ⟨rfl,F⟩;have p:=(s.fG o).iH;have h:=(h.fG r).fG o;cases d<;>try exact .gB
 rename_i n e;apply ga (oR e);rintro u w _ b ⟨rfl,_⟩;obtain e|⟨c,v,j,k,g⟩:=KA (λi=>À (i*w,w)) (h.fG b)<|p.fG b;simp only[e];exact .gB;simp only[j,k];exact .fY (.pG g.r g.C);rename_i x;refine uz (ad2 (λ{Y} (f:Field)=>ga (oR f.type) λG a H _ y=> ?_) x) ?_;obtain⟨rfl,_⟩:=y;exact .fY U;intro u B b;obtain e|⟨c,v,j,k,g⟩:=KA (B[·]?) (h.fG b)<|p.fG b;simp only[e];exact .gB;simp only[j,k];exact .fY (.pG g.r g.C)
end
section
variable{Y:fL}
theorem ad7(Y:fL):fI Y (default:Ã) default:=.nF _
theorem gD.ad8{Y:fL}(r:gD Y d q)(i:Nat):fI Y d[i]! q[i]!:=by
 by_cases h:i<d.size;have a:i<q.size:=by rwa[<-r.r]
 rw[getElem!_pos d i h,getElem!_pos q i a];exact r.C i h a;have a:¬i<q.size:=by rwa[<-r.r]
 grind [getElem,ad7]
def gD.S{Y:fL}(r:gD Y d q)(n:Nat):gD Y ((Zok n).map (d[· %d.size]!)) ((Zok n).map (q[· %q.size]!)):=by refine⟨fD,λi a b=> ?_⟩;simp only[Ş,<-r.r];exact r.ad8 _
def gD.xj{Y:fL}(r:gD Y d q)(n:Nat):gD Y (ş d n) (ş q n):=by
 unfold ş;have e:n*d.size=n*q.size:=by rw[r.r]
 rw[<-e];exact r.S _
def ad9(f:pI P)(t:Â)(b:Nat){m n:Array (Nat×Value)}(h:xi Y m.toList n.toList):gh P fI Y (Ě t b m) (Ě t b n):=by
 unfold Ě;apply ga (jK t);rintro v d _ p ⟨rfl,x⟩;have h:=h.fG p;cases d<;>try exact .gB
 rename_i e;apply ga (oR e);rintro y w _ o ⟨rfl,_⟩;simp only[];split;exact .gB;split;apply tA;obtain e0|⟨c,q,g,j,k⟩:=KA (λi=>À (i*w,w)) (h.fG o)<|(gD.N _).S<|b*w;rw[e0];exact .gB;rw[g,j];exact ga (Cc e k) λr a s _ l=> .fY (.lh l _ _);refine ga (GB f e) λB z C u f=>tA ?_;obtain e0|⟨c,q,g,j,k⟩:=KA (λi=>À (i*w,w)) ((h.fG o).fG u)<|f.iH.S<|b*w;rw[e0];exact .gB;rw[g,j];exact ga (Cc e k) λr a s _ l=> .fY (.lh l _ _)
def Oz(h:fI Y x v):gh P kj Y (Ũ x) (Ũ v):=by cases h<;>first|exact .gB|exact .fY U
def gD.aea(Y:fL)(b:Array UInt8):gD Y (b.map λb=>ù .u8 b.toNat) (b.map λb=>ù .u8 b.toNat):=⟨U,λi a _=>by simp only[Ş];exact .iZ _ _⟩
def GH(a n:Nat)(h:fI Y x v):gh P gD Y (ī a n x) (ī a n v):=by
 cases h<;>first|exact .gB|exact .fY (gD.N _)|exact .fY (gD.aea _ _)|skip
 rename_i b _ _;exact Ow b _
def OA(n:Nat):gh P kj Y (aY n) (aY n):=by unfold aY;split;exact .Em (Á U) (.fY U);exact .fY U
def aeb(a:Array Â)(t:Â)(h:fI Y x v):gh P fI Y (ō a t #[x]) (ō a t #[v]):=by
 unfold ō;cases a[0]? with
 |none=>exact .gB|some b=>
  apply ga (jK b);rintro f d _ c ⟨rfl,g⟩;have h:=h.fG c;cases d<;>try exact .gB
  cases h<;>first|exact .gB|exact .fY (.iZ _ _)
  rename_i e;apply ga (jK e);rintro i d _ j ⟨rfl,_⟩;cases d<;>first|exact .gB|exact .fY (.iZ _ _)
  cases h<;>first|exact .gB|exact .fY (.iZ _ _)
  exact .fY (.iZ _ _);all_goals cases h<;>first|exact .gB|exact .fY (.iZ _ _)
def aec(a:Array Â)(t:Â)(h:fI Y x v):gh P fI Y (Ŏ a t #[x]) (Ŏ a t #[v]):=by
 unfold Ŏ;cases a[0]? with
 |none=>exact .gB|some b=>
  apply ga (jK b);rintro f d _ c ⟨rfl,g⟩;have h:=h.fG c;cases d<;>try exact .gB
  rename_i e;apply ga (jK e);rintro i d _ j ⟨rfl,_⟩;cases d<;>first|exact .gB|exact .fY (.iZ _ _)
  cases h<;>first|exact .gB|exact .fY (.iZ _ _)
  exact .fY (.iZ _ _);all_goals cases h<;>first|exact .gB|exact .fY (.iZ _ _)
def aed(g:Array Â)(t:Â)(h:fI Y x v)(a:fI Y z jQ):gh P fI Y (ŀ g t #[x,z]) (ŀ g t #[v,jQ]):=by
 unfold ŀ;cases g[0]? with
 |none=>exact .gB|some l=>
  apply ga (jK l);rintro u d _ i ⟨rfl,B⟩;have h:=h.fG i;have a:=a.fG i;cases d<;>try exact .gB
  rename_i e;cases h<;>first|exact .gB|skip
  rename_i n c;apply ga (Oz a);rintro o m _ b rfl;apply ga (oR e);rintro p w _ f ⟨rfl,_⟩;apply ga (GH w _<|(a.fG b).fG f);exact λq c r j k=> .fY (.iZ _ _);rename_i s n c;apply ga (Oz a);rintro o m _ b rfl;apply ga (oR e);rintro p w _ f ⟨rfl,_⟩;apply ga (GH w _<|(a.fG b).fG f);intro q c r j k;apply ga (Ox (((s.fG b).fG f).fG j)<|fN k);exact λC _ _ _ _=> .fY (.iZ _ _)
end
section
variable{Y:fL}
def OB{h:Halt}:∀u x a,(ZoD h:ă gX).run P u≠Ē x a:=by intro u x a e;cases e
theorem GI{m:ă gX}{f:gX->ă gQ}(h:∀a u x b,(f a).run P u≠Ē x b):∀u x b,(m>>=f).run P u≠Ē x b:=by
 intro u x b e;rw[Æ]at e;cases c:m.run P u with|ok a w=>rw[c]at e;exact h a _ _ _ e|halt z w=>rw[c]at e;cases e
theorem V7:∀u x a,(goPanic v:ă gX).run P u≠Ē x a:=OB
def aee{v:aH}:∀u x a,(unsupported v:ă gX).run P u≠Ē x a:=OB
theorem tC(e:ű):∀u x a,(runtimePanic e:ă gX).run P u≠Ē x a:=by unfold runtimePanic;grind [GI,V7]
def KB{V:fL->gX->gX->Prop}{e:ű}{m:ă gX}:gh P V Y (runtimePanic e) m:=.qt (tC e)
def aef(H:pI P)(p g t:Â)(i:(∃e,P.underlying g=À (Zoa e))\/P.underlying g=À ċ){B:Ã}(j:fI Y v jQ)(c:fI Y x B): gh P fI Y (ĥ #[p,g] t #[v,x]) (ĥ #[p,g] t #[jQ,B]):=by
 unfold ĥ;apply ga (jK p);rintro C d _ D ⟨rfl,W⟩;have j:=j.fG D;have c:=c.fG D;cases d<;>try exact .gB
 rename_i e;have r:=j;cases j<;>first|exact .gB|skip
 all_goals
  apply ga (oR e);rintro X w _ E ⟨rfl,_⟩;apply ga (jK g);rintro ρ3 d1 _ F ⟨rfl,k⟩;obtain⟨e1,i⟩|i:=i;all_goals
   rw[i]at k;injection k with k;subst k;refine tA<|ga (Oz<|c.fG<|fL.C E F) ?_;rintro ρ4 m _ I rfl;have f:=fL.C (fL.C E F) I;have c:=c.fG f;have r:=r.fG f;simp only[];split;apply ga (GH w m c);intro J q K l u;first|exact .fY (.oP _ _)|exact ga (Ox (((‹iN C _ _›.fG f).fG l).r _)<|fN u) λL _ _ h _=> .fY (.lh (((‹iN C _ _›.fG f).fG l).fG h) _ _)
   .apply ga (Aj e);rintro J G _ l ⟨rfl,_⟩;split;exact .qt (yu<|tC _);apply ga (Aj e);rintro L G _ h ⟨rfl,_⟩;split;refine .qt (yu ?_);simp only[Î,if_false];refine GI λb=> ?_;simp_all;apply uz (.B8 λ_=> .fY U);intro M nc y;apply ga (Aj e);rintro N G _ n ⟨rfl,_⟩;apply uz (OA _);intro O _ Q;have f:=fL.C (fL.C (fL.C l h)<|fL.C y n) Q;apply ga (GH w _<|r.fG f);intro ρa o o' h S;apply ga (GH w m<|c.fG<|fL.C f h);intro M q K y u;apply ga (GB H e);intro N z z' n T;exact ga (Cc e<|(((S.fG y).fG n).H<|u.fG n).H<|T.iH.xj _) λO a a' _ V=> .fY (.lh V _ _)
end
section
variable{Y:fL}
def aeg(g:pI P)(t:Â)(i:fI Y v x)(j:fI Y z jQ):gh P fI Y (Ħ t v z) (Ħ t x jQ):=by
 unfold Ħ;apply ga (jK t);rintro o d _ f ⟨rfl,p⟩;cases d<;>try exact .gB
 rename_i e;apply ga (Oy<|i.fG f);rintro q r _ k rfl;apply ga (Oy<|(j.fG f).fG k);rintro s u _ y rfl;apply ga (Aj e);rintro B C _ D ⟨rfl,_⟩;simp only[];split;split;exact .qt (yu<|tC _);split;exact .qt (yu<|tC _);exact .qt (GI λ_=>yu<|tC _);apply uz (OA _);intro E _ F;apply ga (oR e);rintro G w _ H ⟨rfl,_⟩;split;exact tA (ga (Cc e<|(gD.N _).S _) λm a n _ b=> .fY (.lh b _ _));exact ga (GB g e) λ_ _ _ _ h=>tA<|ga (Cc e<|h.iH.S _) λm a n _ b=> .fY (.lh b _ _)
def vx(P:Ó)(t:Â):Prop:=P.underlying t=À .bool\/(∃k,P.underlying t=À (ũ k))\/P.underlying t=À ċ
def oS:Ã->Prop|Ö (À _)=>False|_=>True
def V8(t:Â)(i:vx P t\/∃e,P.underlying t=À (æ e))(b:fI Y x v)(c:fI Y z jQ)(j:oS x\/oS z):gh P kj Y (ë t x z) (ë t v jQ):=by
 unfold ë ô ų;apply ga (jK t);rintro o d _ g ⟨rfl,a⟩;have b:=b.fG g;have c:=c.fG g;obtain(h|⟨k,h⟩|h)|⟨e,h⟩:=i;all_goals
  rw[h]at a;injection a with a;subst a;cases b<;>cases c<;>first|exact .gB|exact .fY U|(simp[oS]at j;done)|skip
 simp only[];split<;>first|exact .fY U|exact .gB
 rename_i l n _ _ _;by_cases f:n=0;subst f;exact .fY U;refine .qt λu x m e=> ?_;simp_all;rename_i l n;by_cases f:n=0;subst f;exact .fY U;refine .qt λu x m e=> ?_;simp_all
end
section
variable{Y:fL}
def KC{r:Nat}(h:Y r i):gh P (λ_ a b=>a=Ú/\b=Ú) Y (Zob r) (Zob i):=.xh h λ_ _ _ _=> .fY ⟨U,U⟩
def V9{r:Nat}(h:Y r i):gh P (λ_ a b=>a=Ú/\b=Ú) Y (bz r) (bz i):=.xh h λ_ _ _ _=> .fY ⟨U,U⟩
def Cd(h:iN Y a p):gh P (λc x b=>iN c x.1 b.1/\x.2=b.2/\x=(a,Ä)/\b=(p,Ä)) Y (ě a) (ě p):=by unfold ě;apply ga (V9 h.1);rintro c x d b ⟨rfl,rfl⟩;exact .fY ⟨h.fG b,U,U,U⟩
def aeh(h:iN Y a p):gh P kj Y (ax a) (ax p):=by unfold ax;apply ga (KC h.1);rintro b x c d ⟨rfl,rfl⟩;exact .fY U
def GJ(h:iN Y a p):gh P kj Y (Zoc a) (Zoc p):=by
 have f:=h;let⟨g,i,b⟩:=f;unfold Zoc;cases c:a.spot with
 |some s=>
  rw[c]at b;rw[<-b];exact .fY U|none=>
  rw[c]at b;rw[<-b];apply ga tx;rintro k s l d ⟨rfl,e⟩;subst e;apply ga (aeh<|h.fG d);intro m _ _ j _;refine .xh (j.1 _ _<|d.1 _ _ g) λe n o q=> ?_;simp only[<-i,Þ];split;exact .fY U;split;exact .fY U;exact .gB
def KD(c:Bi Y){b d:Õ}(f:iN Y a p)(g:iN Y b d):(a.block==b.block)=(p.block==d.block):=by rw[dA,beq_iff_eq,beq_iff_eq];constructor;intro e;exact c.1 _ _ _ f.1<|e▸g.1;intro e;exact c.2.1 _ _ _ f.1<|e▸g.1
theorem Wa(g:Bi Y){b c:Õ}(d:iN Y a p)(f:iN Y b c):(a==b)=(p==c):=by have e:=KD g d f;rw[dA,beq_iff_eq,beq_iff_eq]at e;rw[dA,beq_iff_eq,beq_iff_eq];let⟨h,i,j⟩:=a;let⟨k,l,m⟩:=p;let⟨n,o,q⟩:=b;let⟨r,s,t⟩:=c;let⟨_,u,v⟩:=d;let⟨_,w,x⟩:=f;grind
theorem Wb(f:Bi Y)(n:Y.gA=P.globals.size){b d:Õ}(e:iN Y a p)(g:iN Y b d):gh P kj Y (ŏ a b) (ŏ p d):=by
 unfold ŏ;apply ga tx;rintro o c q h ⟨i,j⟩;rw[i,j];have k:(a.block !=b.block)=(p.block !=d.block):=by simp only[bne];rw[KD f e g]
 have l:(decide<|a.block≥P.globals.size)=(decide<|p.block≥P.globals.size):=by have:=f.2.2 _ _ e.1;grind
 rw[k,l];split;exact .gB;apply ga (GJ<|e.fG h);rintro r x _ m rfl;apply ga (GJ<|(g.fG h).fG m);rintro s y _ t rfl;exact .fY U
def aei(d:Bi Y)(e:Y.gA=P.globals.size)(k:ñ){b c:Õ}(f:iN Y a p)(g:iN Y b c):gh P fI Y (Ŵ k a b) (Ŵ k p c):=by unfold Ŵ;apply ga (Wb d e f g);rintro h ⟨x,y⟩ _ _ rfl;exact .fY (.iZ _ _)
def aej(e:Bi Y)(f:Y.gA=P.globals.size)(c:ď){b d:Õ}(g:iN Y a p)(h:iN Y b d):gh P fI Y (ŵ c a b) (ŵ c p d):=by unfold ŵ;apply ga (Wb e f g h);rintro i ⟨x,y⟩ _ _ rfl;cases c<;>first|exact .fY (.nF _)|exact .gB
def Wc(k:ñ)(b:iN Y a p)(n:Int):gh P fI Y (Ŷ k a n) (Ŷ k p n):=by unfold Ŷ;refine .xh b.1 λe m d f=> ?_;apply tA;apply ga (Aj e);rintro g h _ c ⟨rfl,_⟩;simp only[];split;exact .gB;apply ga (GJ<|b.fG c);rintro i x _ _ rfl;exact .fY (.iZ _ _)
def aek{n:Int}(h:j<=b)(a:Γ P i e j k n=À m):Γ P i e b k n=À m:=by unfold Γ at a|-;simp only[bind,Option.bind]at a|-;split at a;cases a;rename_i f;rw[if_neg f];split at a;cases a;rename_i g;simp only[g];dsimp only at a;split at a;cases a;rename_i l;rwa[if_neg];intro o;apply l;have:=(λw=>eB w h)<|P.bytesOf e;simp at o|-;omega
def ael{i:Â->Bool}:∀{d:Nat} {e:Â} {c a b n:Nat},c<=a->Zn3 P i d e c b n=È->Zn3 P i d e a b n=È|0,_,_,_,_,_,_,h=>by simp[Zn3]at h|d+1,e,c,a,b,n,hc,h=>by unfold Zn3 at h|-;simp only at h|-;split at h;cases h;rename_i j;rw[if_neg j];rw[eg,eC,eC,eC]at h|-;obtain⟨⟨f,g⟩,k⟩|⟨f,g⟩:=h;exact Á ⟨⟨f,by simp at g|-;omega⟩,k⟩;exact Å ⟨by simp at f|-;omega,g⟩
def Wg:∀{d:Nat} {e:Â} {c a b:Nat} {u:Â} {n:Nat},c<=a->ay P d e c b u n=È->ay P d e a b u n=È
 |0,_,_,_,_,_,_,_,h=>by simp[ay]at h
 |d+1,e,c,a,b,u,n,hc,h=>by
  unfold ay at h|-;rw[eg]at h|-;obtain h|h:=h;exact Á<|ael hc h;right;split at h;rename_i f;first|rw[f]|skip
  exact Wg hc h;cases h
def aem{a:Â->Bool}:Zn3 P a i e 0 j (n+1)=Ä:=by
 cases i with
 |zero=>simp[Zn3]|succ i=>
  unfold Zn3;simp
def aen{k:ñ}(a:P.underlying t=À (ũ k)):ay P i e 0 j t (n+1)=Ä:=by
 cases i with
 |zero=>simp[ay]|succ i=>
  rw[ay,aem];simp[a]
def Wh(t:Â)(d:iN Y a p)(k:ñ)(n:Int):gh P fI Y (ç #[] t #[Ö<|À a,ù k n]) (ç #[] t #[Ö<|À p,ù k n]):=by
 have f:=d;let⟨c,g,h⟩:=f;unfold ç;apply tA;simp only[];split;apply ga (KC c);rintro i x e b ⟨rfl,rfl⟩;exact .fY (.kn (d.fG b));split;exact .gB;refine .xh c λe m u j=> ?_;apply tA;apply ga tx;rintro i b v l ⟨o,r⟩;rw[o,r,<-g];cases s:Γ P P.depth e (m/P.cellsOf e) a.off n with
 |none=>exact .gB|some x=>
  rw[aek (Δ<|j.elim (λq=>by omega) λq=>q.1) s];exact .fY (.kn ⟨l.1 _ _ c,U,h⟩)
end
def Ak:Obj->Prop|Ā .. =>False|_=>True
inductive lW(P:Ó){α:Type}(V:fL->α->α->Prop):fL->ă α->ă α->Prop|gA {Y:fL} {m m':ă α} (h:gh P V Y m m'):lW P V Y m m'|nH {Y:fL} {β:Type} {V0:fL->β->β->Prop} {m m':ă β} {f f':β->ă α} (h:gh P V0 Y m m') (hf:∀Y' a a',Y.r Y'->V0 Y' a a'->lW P V Y' (f a) (f' a')):lW P V Y (m.bind f) (m'.bind f')|Er {Y:fL} {o:Obj} {g:Nat->α} {m':ă α} (ho:Ak o):lW P V Y (.new o λr=>υ<|g r) m'|Es {Y:fL} {m m':ă α} (h:∀u x u',m.run P u=Ē x u'->∃i o,u.heap.size<=i/\u'.heap[i]?=À o/\Ak o):lW P V Y m m'
section
variable{Y:fL}
def lW.aeo{V:fL->gX->gX->Prop}{i:fL->gQ->gQ->Prop}{m e:ă gX}{f j:gX->gQ}(h:lW P V Y m e)(k:∀c a d,Y.r c->V c a d->i c (f a) (j d)): lW P i Y (m.bind λa=>υ<|f a) (e.bind λa=>υ<|j a):=by
 induction h with
 |gA h=>exact .gA (h.nH λc a d u w=> .fY (k c a d u w))|nH h _ g=>
  rw[ņ,ņ];exact .nH h λc a d u w=>g c a d u w λx b z l n=>k x b z (fL.C u l) n|Er b=>exact .Er b|@Es Y m e h=>
  refine .Es λu x l b=> ?_;rw[Ģ]at b;cases g:m.run P u with
  |halt z w=>rw[g]at b;cases b
  |ok a w=>
   rw[g]at b;simp only[Ù]at b;cases b;exact h u a _ g
def Et(u a:Ç):Prop:=∀i o,u.heap.size<=i->a.heap[i]?=À o->¬Ak o
def lW.gS{V:fL->gX->gX->Prop}{Y:fL}{m r:ă gX}(h:lW P V Y m r):∀{u w:Ç},jI Y X u w->(∀j,X j->j<w.heap.size)->∀{x:gX} {c:Ç},m.run P u=Ē x c->Et u c->∀d:Array ê,∃(a:fL)(n:gX)(w':Ç)(s:Array ê),Y.r a/\(∀i j,a i j->Y i j\/(u.heap.size<=i/\w.heap.size<=j))/\r.runT P w d=(Ē n w',d++s)/\V a x n/\jI a X c w'/\pH Y X w w'/\(∀e∈s,B9 a X e)/\u.heap.size<=c.heap.size:=by
 induction h with
 |gA h=>intro u w k g x c b _ d;exact h.gS k g b d|@nH Y β V0 m r f f' h _ ih=>
  intro u w k g x c b l d;rw[Ģ]at b;cases t:m.run P u with
  |halt z w=>rw[t]at b;cases b
  |ok a u1=>
   rw[t]at b;let⟨G,H,w1,E,p,q,v,I,J,B,K,C⟩:=h.gS k g t d;let⟨L,n,M,N,F,O,Q,S,T,W,k7,k8⟩:=ih G a H p I J (λj s=>ff (g j s) B.r) b (λi o s=>l i o<|â C s)<|d++E;refine⟨L,n,M,E++N,fL.C p F,λi j D=> ?_,?_,S,T,B.fA W λi j D=>(q i j D).imp id λy=>y.2,λe s=> ?_,â C k8⟩;obtain y|⟨y1,y2⟩:=O i j D;exact q i j y;exact Å ⟨â C y1,â B.r y2⟩;rw[Ð,v];simp only[];rw[Q,Ī];obtain s|s:=dq.1 s;obtain⟨a,i,y,z2,z3,z4⟩|z:=K e s;exact Á ⟨a,i,y,F.1 _ _ z2,z3,z4⟩;exact Å z;exact k7 e s
 |Er s=>
  intro u w k g x c b l d;simp only[Ù]at b;cases b;exact absurd s<|l u.heap.size _ (eE _) fD
 |Es h=>
  intro u w k g x c b l d;let⟨i,o,p,q,v⟩:=h u x c b;exact absurd v<|l i o p q
end
section
variable{Y:fL}
theorem aep(i:Bi Y)(F:Y.gA=P.globals.size)(t:Â)(s:vx P t){j b m:Õ}(e:iN Y a j)(f:iN Y b m):gh P kj Y (ë t (Ö<|À a)<|Ö<|À b) (ë t (Ö<|À j)<|Ö<|À m):=by
 unfold ë ô ų;apply ga (jK t);rintro G d _ g ⟨rfl,c⟩;obtain h|⟨k,h⟩|h:=s;rw[h]at c;injection c with c;subst c;exact .gB;rw[h]at c;injection c with c;subst c;apply ga (Cd<|e.fG g);rintro H p u l ⟨_,_,rfl,rfl⟩;apply ga (Cd<|(f.fG g).fG l);rintro I q J n ⟨_,_,rfl,rfl⟩;apply ga tx;rintro K p u o ⟨v,w⟩;rw[v,w];have z:=(((e.fG g).fG l).fG n).fG o;have B:=(((f.fG g).fG l).fG n).fG o;have C:=KD i e f;have D:(decide<|a.block<P.globals.size)=(decide<|j.block<P.globals.size):=by have:=i.2.2 _ _ e.1;grind
 simp only[C,D];split;apply ga (GJ z);rintro E x _ r rfl;apply ga (GJ<|B.fG r);rintro L y _ M rfl;exact .fY U;apply ga (Aj t);rintro E x _ r ⟨rfl,_⟩;split;rw[Wa i e f];split;exact .fY U;exact .gB;exact .gB;rw[h]at c;injection c with c;subst c;exact .gB
def aer(e:Bi Y)(f:Y.gA=P.globals.size)(t:Â)(b:vx P t)(c:fI Y x v)(d:fI Y z jQ):gh P kj Y (ë t x z) (ë t v jQ):=by
 by_cases a:oS x\/oS z;exact V8 t (Á b) c d a;have g:=λh=>a<|Á h;have i:=λh=>a<|Å h;cases c<;>first|exact absurd trivial g|skip
 cases d<;>first|exact absurd trivial i|skip
 rename_i j _ _ k;exact aep e f t b j k
def aes(a:ď)(k:ñ)(x y:Int):gh P fI Y (Ρ a k x y) (Ρ a k x y):=by unfold Ρ;split;exact KB;cases a<;>first|exact .gB|exact .fY (.iZ _ _)
def aeu(a:ď)(k b:ñ)(x y:Int):gh P fI Y (χ a k x b y) (χ a k x b y):=by unfold χ;split;exact KB;cases a<;>first|exact .gB|exact .fY (.iZ _ _)
def aev(a:ď)(t:Â)(k b:ñ)(x y:Int):gh P fI Y (ŕ a t (ù k x)<|ù b y) (ŕ a t (ù k x)<|ù b y):=by
 cases a<;>simp only[ŕ]<;>first|exact aeu _ _ _ _ _|skip
 all_goals
  split;exact .gB;first|exact .fY (.iZ _ _)|exact .fY (.nF _)|exact aes _ _ _ _
def aew(a:ď)(t:Â)(x y:ByteArray):gh P fI Y (ŕ a t (Ĕ x)<|Ĕ y) (ŕ a t (Ĕ x)<|Ĕ y):=by
 cases a<;>simp only[ŕ,aI]<;>first|exact .gB|exact .fY (.nF _)|skip
 split;exact .gB;exact .fY (.lb _)
end
section
variable{Y:fL}
def mE{V0:fL->gQ->gQ->Prop}{V:fL->gX->gX->Prop}{m c:ă gQ}{f d:gQ->ă gX}(h:gh P V0 Y m c)(g:∀b a e,Y.r b->V0 b a e->lW P V b (f a) (d e)):lW P V Y (m>>=f) (c>>=d):=.nH h g
def aex{V:fL->gX->gX->Prop}{c:fL->gQ->gQ->Prop}{m d:ă gX}{f e:gX->gQ}(h:lW P V Y m d)(i:∀b a g,Y.r b->V b a g->c b (f a) (e g)): lW P c Y (m>>=λa=>pure<|f a) (d>>=λa=>pure<|e a):=lW.aeo h i
def Wi(t:Â)(y:Ã):∀u x a,(ç #[] t #[Ö Ú,y]).run P u≠Ē x a:=by unfold ç;refine GI λn=> ?_;simp only[];split;exact aee;split;all_goals simp_all
def Eu(t:Â)(i:fI Y x v)(j:∃p,x=Ö p)(k:ñ)(n:Int):lW P fI Y (ł t x<|ù k n) (ł t v<|ù k n):=by
 obtain⟨p,rfl⟩:=j;cases i with
 |mN=>
  unfold ł;apply mE (jK t);rintro e d _ h ⟨rfl,_⟩;cases d<;>simp only[Î,if_false,if_true]<;>first|exact .gA .gB|exact .gA (.qt (Wi t _))
 |kn f=>
  unfold ł;apply mE (jK t);rintro e d _ h ⟨rfl,_⟩;have l:∀{a g:Õ},iN e a g->lW P fI e (ě a>>=λp=>ç #[] t #[Ö<|À p.1,ù k n]>>=λc=>match c with|Ö (À b)=>bA b p.2|c=>pure c) (ě g>>=λp=>ç #[] t #[Ö<|À p.1,ù k n]>>=λc=>match c with|Ö (À b)=>bA b p.2|c=>pure c):=by intro a g f;apply mE (Cd f);rintro q p r s ⟨m,u,rfl,rfl⟩;apply mE (Wh t m k n);intro w c y z o;cases o<;>first|exact .Er trivial|exact .gA (.fY (by constructor<;>assumption))
  cases d<;>simp only[Î,if_false,if_true]<;>first|exact .gA .gB|exact l<|f.fG h
def Wj(t:Â)(b:fI Y x v)(c:∃p,x=Ö p)(k:ñ)(n:Int):lW P fI Y (Ő t x<|ù k n) (Ő t v<|ù k n):=by
 unfold Ő;obtain⟨p,rfl⟩:=c;cases b with
 |mN=>exact .gA (.qt (Wi t _))|kn a=>
  apply mE (V9 a.1);rintro e p f d ⟨rfl,rfl⟩;exact .gA (Wh t (a.fG d) k n)
def aey(P:Ó)(a:ď)(t:Â)(x y:Ã):Prop:=a=κ\/a=ψ->(vx P t\/((∃e,P.underlying t=À (æ e))/\(oS x\/oS y)))
def Wk(c:Bi Y)(d:Y.gA=P.globals.size)(t:Â)(f:vx P t\/((∃e,P.underlying t=À (æ e))/\(oS x\/oS z)))(a:fI Y x v)(b:fI Y z jQ):gh P kj Y (ë t x z) (ë t v jQ):=by obtain h|⟨g,i⟩:=f;exact aer c d t h a b;exact V8 t (Å g) a b i
def aez(m:Bi Y)(n:Y.gA=P.globals.size)(c:ď)(t:Â)(r:aey P c t x z)(o:fI Y x v)(h:fI Y z jQ):lW P fI Y (ŕ c t x z) (ŕ c t v jQ):=by
 have f:c=κ->gh P fI Y (ë t x z>>=λb=>pure<|Ĭ b) (ë t v jQ>>=λb=>pure<|Ĭ b):=by intro e;apply ga (Wk m n t (r<|Á e) o h);rintro i b _ _ rfl;exact .fY (.nF _)
 have g:c=ψ->gh P fI Y (ë t x z>>=λb=>pure<|Ĭ !b) (ë t v jQ>>=λb=>pure<|Ĭ !b):=by intro e;apply ga (Wk m n t (r<|Å e) o h);rintro i b _ _ rfl;exact .fY (.nF _)
 cases o with
 |iZ k a=>
  cases h with
  |iZ d b=>exact .gA (aev c t k d a b)|kn l=>
   cases c<;>first|exact .gA .gB|exact .gA (f U)|exact .gA (g U)|exact Eu t (.kn l) ⟨_,U⟩ _ _|skip
   apply mE (Cd l);rintro i p s e ⟨j,_,_,_⟩;exact .gA (Wc _ j _)
  |mN=>cases c<;>first|exact .gA .gB|exact .gA (f U)|exact .gA (g U)|exact Eu t .mN ⟨_,U⟩ _ _
  |_=>cases c<;>first|exact .gA .gB|exact .gA (f U)|exact .gA (g U)
 |lb a=>
  cases h with|lb b=>exact .gA (aew c t a b)|_=>cases c<;>first|exact .gA .gB|exact .gA (f U)|exact .gA (g U)
 |mN=>
  cases h with
  |iZ k b=>
   cases c<;>first|exact .gA .gB|exact .gA (f U)|exact .gA (g U)|exact Eu t .mN ⟨_,U⟩ _ _|skip
   apply mE (jK t);rintro i d _ e ⟨rfl,_⟩;cases d<;>simp only[Î,if_false,if_true]<;>first|exact Wj t .mN ⟨_,U⟩ _ _|exact Eu t .mN ⟨_,U⟩ _ _
  |_=>cases c<;>first|exact .gA .gB|exact .gA (f U)|exact .gA (g U)
 |kn a=>
  cases h with
  |iZ k b=>
   cases c<;>first|exact .gA .gB|exact .gA (f U)|exact .gA (g U)|exact Eu t (.kn a) ⟨_,U⟩ _ _|skip
   apply mE (jK t);rintro i d _ e ⟨rfl,_⟩;have a:=a.fG e;cases d<;>simp only[Î,if_false,if_true]<;>first|exact Wj t (.kn a) ⟨_,U⟩ _ _|exact Eu t (.kn a) ⟨_,U⟩ _ _
   all_goals
    apply mE (Cd a);rintro i p s e ⟨j,_,_,_⟩;exact .gA (Wc _ j _)
  |kn l=>
   cases c<;>first|exact .gA .gB|exact .gA (f U)|exact .gA (g U)|skip
   all_goals
    apply mE (Cd a);rintro i p s e ⟨j,_,rfl,rfl⟩;apply mE (Cd<|l.fG e);rintro w q B b ⟨d,_,rfl,rfl⟩;have k:=b.2.1<|e.2.1 m;have u:=b.2.2.trans<|e.2.2.trans n;first|exact .gA (aei k u _ (j.fG b) d)|exact .gA (aej k u _ (j.fG b) d)
  |_=>cases c<;>first|exact .gA .gB|exact .gA (f U)|exact .gA (g U)
 |_=>
  cases h<;>cases c<;>first|exact .gA .gB|exact .gA (f U)|exact .gA (g U)
end
section
variable{Y:fL}
def aeA(a b:Â)(h:(∃k g,P.underlying a=À (ũ k)/\P.underlying b=À (ũ g))\/(P.underlying a=À ċ/\P.underlying b=À ċ))(f:fI Y x v):gh P fI Y (Ł a b x) (Ł a b v):=by
 unfold Ł;apply ga (jK a);rintro n d _ l ⟨rfl,c⟩;apply ga (jK b);rintro o p _ m ⟨rfl,e⟩;have f:=(f.fG l).fG m;obtain⟨k,g,i,j⟩|⟨i,j⟩:=h;all_goals
  rw[i]at c;rw[j]at e;injection c with c;injection e with e;subst c e;cases f<;>first|exact .gB|exact .fY (.iZ _ _)|exact .fY (.lb _)
inductive rM(Y:fL):ŷ->ŷ->Prop|qc {v v':Ã} (h:fI Y v v'):rM Y (ä v) (ä v')|vy:rM Y ς ς|uA (f:Û) {c c':Array Ã} (h:gD Y c c'):rM Y (Ŗ f c) (Ŗ f c')
def GK(P:Ó)(t:Â):Prop:=vx P t\/∃e,P.underlying t=À (æ e)
def aeB(t:Â)(f:GK P t)(a g b i:Ã):gh P kj Y (Ĝ ô t a b) (Ĝ ô t g i):=by
 unfold ô Ĝ;apply ga (jK t);rintro j d _ l ⟨rfl,c⟩;obtain(h|⟨k,h⟩|h)|⟨e,h⟩:=f;all_goals
  rw[h]at c;injection c with c;subst c;exact .fY U
def aeC(e:ď)(t:Â)(c:e=κ\/e=ψ->GK P t)(x y:Ô){d:Ã}(h:fI Y v z)(i:fI Y jQ d):gh P kj Y (Š e t x y v jQ) (Š e t x y z d):=by
 have g:GK P t->∀{f:fL} (s:aH) (v z jQ d:Ã),gh P kj f (Ĝ ô t v jQ>>=λr=>if r=È then unsupported s else pure ()) (Ĝ ô t z d>>=λr=>if r=È then unsupported s else pure ()):=by intro c f s v z jQ d;apply ga (aeB t c v z jQ d);rintro j r _ _ rfl;split;exact .gB;exact .fY U
 unfold Š;cases e<;>first|exact .fY U|skip
 all_goals
  have c:=c (by first|exact Á U|exact Å U);cases h<;>cases i<;>first|exact .fY U|skip
 all_goals first
  |(cases x<;>cases y<;>first|exact .fY U|exact g c _ _ _ _ _)
  |(
   simp only[bN,Î,if_false];apply ga tx;rintro f p m n ⟨r,s⟩;rw[r,s];apply ga tx;rintro j q o u ⟨k,l⟩;rw[k,l];split;exact .fY U;exact g c _ _ _ _ _)
def oB{m a:ă Ã}(h:gh P fI Y m a):gh P rM Y (m>>=λv=>pure<|ä v) (a>>=λv=>pure<|ä v):=h.nH λ_ _ _ _ v=> .fY (.qc v)
def Wl{m a:ă Ã}(h:lW P fI Y m a):lW P rM Y (m>>=λv=>pure<|ä v) (a>>=λv=>pure<|ä v):=aex h λ_ _ _ _ v=> .qc v
def aeD{m a:ă Unit}(h:gh P kj Y m a):gh P rM Y (m>>=λ_=>pure ς) (a>>=λ_=>pure ς):=h.nH λ_ _ _ _ _=> .fY .vy
def aeE(f:Û)(b:∃a,P.funcs[f]?=À a/\(a.name== "runtime.NumGoroutine")=Ä/\a.body.isNone=Ä)(e:gD Y d q):gh P rM Y (ģ f d) (ģ f q):=by let⟨a,g,h,i⟩:=b;unfold ģ;apply ga tx;rintro m p n j ⟨k,l⟩;rw[k,l,g];simp only[h,i,Î,if_false];exact .fY (.uA f (e.fG j))
end
inductive lz(P:Ó)(ev:Ô->Ã):Op->Prop|Al (x:Ô):lz P ev (.move x)|GM (x:Ô):lz P ev (.assign x)|yy (c a b:Ô):lz P ev (.pick c a b)|gP (t:Â):lz P ev (.alloc t)|KE (t:Â) (x:Ô):lz P ev (.box t x)|OC (t:Â) (ps:Array (Nat×Operand)):lz P ev (.build t ps)|OD (t:Â) (n:Nat) (ps:Array (Nat×Operand)):lz P ev (.buildSlice t n ps)|ij (t:Â) (a:Ô):lz P ev (.load t a)|jN (t:Â) (a x:Ô):lz P ev (.store t a x)|GN (x:Ô):lz P ev (.nilCheck x)|Ev (op:ď) (t:Â) (x y:Ô) (r:Â) (h:op=κ\/op=ψ->(vx P t\/((∃e,P.underlying t=À (æ e))/\(oS (ev x)\/oS (ev y))))):lz P ev (Zow op t x y r)|OE (op:UnOp) (t:Â) (x:Ô):lz P ev (.unOp op t x)|OG (s d:Â) (x:Ô) (h:(∃k k',P.underlying s=À (ũ k)/\P.underlying d=À (ũ k'))\/(P.underlying s=À ċ/\P.underlying d=À ċ)):lz P ev (ω s d x)|OH (t:Â) (l c:Ô):lz P ev (.makeSlice t l c)|lh (t:Â) (x:Ô) (lo hi mx:Option Ô):lz P ev (.slice t x lo hi mx)|OI (s:Â) (x:Ô) (n:Nat) (h:∀fields f i,P.underlying s=À (Zn9 fields)->fields[n]?=À f->P.info? f.type=À i->i.size≠0):lz P ev (.fieldAddr s x n)|OJ (t:Â) (x:Ô) (n:Nat):lz P ev (.field t x n)|OL (t:Â) (x i:Ô):lz P ev (.indexAddr t x i)|OM (t:Â) (x i:Ô):lz P ev (.index t x i)|Gy (x:Ô) (n:Nat):lz P ev (.extract x n)|GO (x:Ô) (ts:Array Â):lz P ev (ź {callee:=Č .len,args:=#[x],argTypes:=ts})|GQ (x:Ô) (ts:Array Â):lz P ev (ź {callee:=Č .cap,args:=#[x],argTypes:=ts})|GR (x y:Ô) (ts:Array Â):lz P ev (ź {callee:=Č .copy,args:=#[x,y],argTypes:=ts})|GU (x y:Ô) (t0 t1:Â) (h:(∃e,P.underlying t1=À (Zoa e))\/P.underlying t1=À ċ):lz P ev (ź {callee:=Č .append,args:=#[x,y],argTypes:=#[t0,t1]})|iA (f:Û) (args:Array Ô) (ts:Array Â) (qZ:ev (.func f)=.func (.func f) #[] #[]) (h:∃fn,P.funcs[f]?=À fn/\(fn.name== "runtime.NumGoroutine")=Ä/\fn.body.isNone=Ä):lz P ev (ź {callee:=bB<|.func f,args:=args,argTypes:=ts})
open Conc
section
variable{Y:fL}
def Wm(Y:fL):Ô->Prop|.const v=>fI Y v v|.global g=>Y g g|_=>True
theorem GV(Y:fL):fI Y ĭ ĭ:=.nG U λi h=>absurd h fD
def aeF{a a':aP}(h:gD Y a.tmps a'.tmps)(b:Wm Y qQ):fI Y (a.eval qQ) (a'.eval qQ):=by
 cases qQ with
 |tmp t=>
  simp only[Ü,fq];obtain⟨f,g⟩|⟨v,d,f,g,c⟩:=h.M t;rw[f,g];exact GV Y;rwa[f,g]|const v=>exact b|global g=>exact .kn ⟨b,U,U⟩|func f=>exact .fn _
def aeG(b:Array Α)(h:gD Y d q)(j:Nat):Ĳ b d j=Ĳ b q j:=by
 unfold Ĳ;cases(b[j]?).bind (·.dst)with
 |none=>rfl|some a=>
  simp only[ef];obtain⟨c,e⟩|⟨v,g,c,e,f⟩:=h.M a;rw[c,e];rw[c,e];cases f<;>rfl
def KF(a:Array Α)(o:Α)(h:gD Y d q):ē o (Ĳ a d)=ē o (Ĳ a q):=by have:Ĳ a d=Ĳ a q:=funext<|aeG a h;rw[this]
def aeH{a a':aP}(h:gD Y a.tmps a'.tmps)(d:Option Tmp)(b:fI Y v x):gD Y (a.put d v).tmps (a'.put d x).tmps:=by
 cases d with|none=>exact h|some d=>exact h.K d b
end
section
variable{Y:fL}
def Wn{b:Ô->Ã}(a:Array Ô)(h:∀x∈a,fI Y (xX x)<|b x):gD Y (a.map xX) (a.map b):=⟨fD,λi c d=>by simp only[Ş];exact h _<|Array.getElem_mem _⟩
def Wo{c:Ô->Ã}(a:Array (Nat×Operand))(h:∀x∈(a.toList.map (·.2)).toArray,fI Y (xX x)<|c x):xi Y (a.map λp=>(p.1,xX p.2)).toList (a.map λp=>(p.1,c p.2)).toList:=by
 simp only[Array.toList_map];have d:∀x∈a.toList.map (·.2),fI Y (xX x) (c x):=λx b=>h x<|fN b;generalize a.toList=l at d
 induction l with|nil=>exact .qY|cons p l e=>exact .yx ⟨U,d _ fD⟩ (e λx b=>d x<|by simp at b|-;exact Å b)
def OO{a:Ô->Ã}(x:Option Ô)(h:∀y,x=À y->fI Y (xX y) (a y)):tB Y (x.map xX) (x.map a):=by
 cases x with|none=>exact Á ⟨U,U⟩|some x=>exact Å ⟨_,_,U,U,h x U⟩
def Wp(p:pI P)(D:Bi Y)(E:Y.gA=P.globals.size){w:Ô->Ã}(F:∀f,w (.func f)=.func (.func f) #[] #[])(B:lz P xX o.op)(g:∀x∈o.op.operands,fI Y (xX x)<|w x):lW P rM Y (ã xX o) (ã w o):=by
 let⟨O,u,Q,S,T,guard⟩:=o;simp only at B g;simp only[ã,];cases B with
 |Al x|GM x=>exact .gA (.fY (rM.qc<|g x<|by simp[Ë]))|yy c a b=>
  apply mE (V5<|g c<|by simp[Ë]);rintro G r _ k rfl;refine .gA (.fY (rM.qc ?_));split;exact(g a<|by simp[Ë]).fG k;exact(g b<|by simp[Ë]).fG k|gP t=>exact .gA (oB<|adO p t _)|KE t x=>exact .gA (oB<|adP t<|g x<|by simp[Ë])|OC t z=>exact .gA (oB<|ad6 p t<|Wo z g)|OD t n z=>exact .gA (oB<|ad9 p t n<|Wo z g)|ij t a=>exact .gA (oB<|adQ t<|g a<|by simp[Ë])|jN t a x=>exact .gA (aeD<|adR t (g a<|by simp[Ë])<|g x<|by simp[Ë])|GN x=>
  simp only[];have j:=g x (by simp[Ë]);generalize xX x=v at j;generalize w x=v' at j;cases j<;>first|exact .gA KB|exact .gA (.fY (rM.qc<|by constructor<;>assumption))|skip
  rename_i f;cases f<;>exact .gA (.fY (rM.qc<|.fn _))
 |Ev u t x y r h=>
  have j:=g x (by simp[Ë]);have C:=g y (by simp[Ë]);apply Wl;apply mE (aeC u t (λe=>(h e).imp id λq=>q.1) x y j C);exact λG _ _ k _=>aez (k.2.1 D) (k.2.2.trans E) u t h (j.fG k)<|C.fG k|OE u t x=>exact .gA (oB<|adZ u<|g x<|by simp[Ë])|OG s d x h=>exact .gA (oB<|aeA s d h<|g x<|by simp[Ë])|OH t l c=>exact .gA (oB<|aeg p t (g l<|by simp[Ë])<|g c<|by simp[Ë])|lh t x H I J=>exact .gA (oB<|adX t (g x<|by simp[Ë]) (OO H λy e=>g y<|by simp[Ë,e]) (OO I λy e=>g y<|by simp[Ë,e])<|OO J λy e=>g y<|by simp[Ë,e])|OI s x n h=>exact .gA (oB<|adU s (g x<|by simp[Ë]) n h)|OJ t x n=>exact .gA (oB<|adT t (g x<|by simp[Ë]) n)|OL t x i=>exact .gA (oB<|adV t (g x<|by simp[Ë])<|g i<|by simp[Ë])|OM t x i=>exact .gA (oB<|adY t (g x<|by simp[Ë])<|g i<|by simp[Ë])|Gy x n=>exact .gA (oB<|adS (g x<|by simp[Ë]) n)|GO x m=>
  simp only[ć,Ę,ħ,pure_bind,eJ,dR,dG];exact .gA (oB<|aeb m _<|g x<|by simp[Ë,ì])|GQ x m=>
  simp only[ć,Ę,ħ,pure_bind,eJ,dR,dG];exact .gA (oB<|aec m _<|g x<|by simp[Ë,ì])|GR x y m=>
  simp only[ć,Ę,ħ,pure_bind,eJ,dR,dG];exact .gA (oB<|aed m _ (g x<|by simp[Ë,ì])<|g y<|by simp[Ë,ì])|GU x y K L h=>
  simp only[ć,Ę,ħ,pure_bind,eJ,dR,dG];exact .gA (oB<|aef p K L _ h (g x<|by simp[Ë,ì])<|g y<|by simp[Ë,ì])|iA f M m N h=>
  simp only[ć,N,F f,ĝ,Ę,pure_bind,cA,dK];exact .gA (aeE f h<|Wn M λx j=>g x<|by simp[Ë,ì,j])
end
def World.tp(u:Ç)(T:Μ)(D:Nat):Ç:={u with tape:=T,drawn:=D}
def xk(T:Μ)(D:Nat)(a:Μ)(b n:Nat):Prop:=∀i,i<n->a (b+i)=T (D+i)
def xk.nI{T:Μ}(h:xk T i xQ j (n+1)):xQ j=T i:=h 0 Z
def xk.kl{T:Μ}(h:xk T i xQ j (n+m)):xk T i xQ j n:=λa b=>h a Z
def xk.aeI{b:Μ}(h:xk xQ i b j (n+m)):xk xQ (i+n) b (j+n) m:=λa c=>by have:=h (n+a) Z;rw[show j+n+a=j+(n+a) by omega,show i+n+a=i+(n+a) by omega];exact this
def tD(P:Ó)(m:ă gX):Prop:=∀(u:Ç)(T:Μ)(D:Nat),∃(n:Nat)(v:Ç),
 ∀x c,m.run P ((World.tp u T D))=Ē x c->c=(World.tp v T<|D+n)/\∀a b,xk T D a b n->m.run P ((World.tp u a b))=Ē x ((World.tp v a<|b+n))
def Ce{m:ă gX}(h:∀u x a,m.run P u=Ē x a->a=u/\∀b c,m.run P ((World.tp u b c))=Ē x ((World.tp u b c))):tD P m:=λu T D=>⟨0,u,λx a e=>by let⟨d,f⟩:=h _ x a e;exact⟨d,λb c _=>f b c⟩⟩
def OP{m:ă gX}(h:∀u x a,m.run P u≠Ē x a):tD P m:=λu T D=>⟨0,u,λx a e=>absurd e<|h _ _ _⟩
def aeJ{m:ă gX}{f:gX->ă gQ}(h:tD P m)(i:∀a,tD P<|f a):tD P (m.bind f):=by
 intro u T D;let⟨n,v,j⟩:=h u T D;cases b:m.run P ((World.tp u T D))with
 |halt z w=>exact⟨0,u,λx c e=>by rw[Ģ,b]at e;cases e⟩|ok a k=>
  obtain⟨rfl,l⟩:=j a k b;let⟨o,w,p⟩:=i a v T<|D+n;refine⟨n+o,w,λx c e=> ?_⟩;rw[Ģ,b]at e;let⟨q,r⟩:=p x c e;refine⟨by rw[q,c8],λz d g=> ?_⟩;rw[Ģ,l z d g.kl,<-c8];exact r z (d+n) g.aeI
theorem aeK{m a:ă gX}(h:∀u,m.run P u=a.run P u)(b:tD P a):tD P m:=by intro u T D;let⟨n,v,c⟩:=b u T D;exact⟨n,v,λx d e=>by grind⟩
def aeL(q:bk):tD P (Ε q):=by
 intro u T D;cases a:q.forced with
 |true=>exact⟨0,u,λx d e=>by simp only[Ε,Ù,a,if_true]at e;cases e;exact⟨U,λb c _=>by simp only[Ε,Ù,a,if_true];rfl⟩⟩|false=>
  refine⟨1,u,λx d e=> ?_⟩;simp only[Ε,Ù,a,Î,if_false]at e;cases e;refine⟨U,λb c f=> ?_⟩;simp only[Ε,Ù,a,Î,if_false];have g:(World.tp u b c).tape (World.tp u b c).drawn q=T D q:=congrFun f.nI q;rw[g];rfl
def KG(s:String):(MonadExcept.throw s:Except String gX)=aQ s:=rfl
def aeM(a:Õ)(md:Mode):tD P (au a md):=by
 refine Ce λu x f e=> ?_;simp only[au,Ù]at e|-;cases b:u.cell? a with
 |some v=>
  rw[b]at e;cases e;exact⟨U,λc d=>by simp only[show((World.tp u c d)).cell? a=À x from b]⟩
 |none=>
  rw[b]at e;cases v:u.farLoad P a (md==þ)with
  |error z=>simp only[v]at e;cases e
  |ok p=>
   simp only[v]at e;cases e;exact⟨U,λc d=>by simp only[show((World.tp u c d)).cell? a=Ú from b,show((World.tp u c d)).farLoad P a (md==þ)=.ok p from v]⟩
def OQ(u:Ç)(a:Õ)(v:Ã)(md:Mode):∀T D,((World.tp u T D)).farStore P a v (md==þ)=(u.farStore P a v<|md==þ).map λp=>((World.tp p.1 T D),p.2):=by
 intro T D;have c:∀b t,((World.tp u T D)).viewStore P b t a v (md==þ)=(u.viewStore P b t a v<|md==þ).map λp=>((World.tp p.1 T D),p.2):=by
  intro b t;unfold aR;have o:((World.tp u T D)).seen P b t a (md==þ)=u.seen P b t a (md==þ):=U;rw[o];simp only[bind,Ζ,pure,Η,KG];cases u.seen P b t a (md==þ)with
  |error e=>simp only[];split<;>rfl|ok r=>
   simp only[];repeat' (first|rfl|split)
 unfold œ;have e:((World.tp u T D)).heap=u.heap:=U;cases r:u.heap[a.block]? with
 |none=>simp only[af,e,r];rfl|some o=>
  cases o<;>first|(simp only[af,e,r];rfl)|skip
  simp only[e,r,c];cases u.viewStore P _ _ a v (md==þ)<;>rfl
def aeN(a:Õ)(v:Ã)(md:Mode):tD P (δ a v md):=by
 by_cases b:Ah v=È;intro u T D;cases d:u.cell? a with
 |some y=>
  cases c:u.frozen? a with
  |true=>exact⟨0,u,λx h e=>by simp only[δ]at e;rw[yw b,show((World.tp u T D)).cell? a=À y from d]at e;simp only[show((World.tp u T D)).frozen? a=È from c,if_true]at e;cases e⟩|false=>
   refine⟨0,u.setCell a v,λx h e=> ?_⟩;simp only[δ]at e|-;rw[yw b,show((World.tp u T D)).cell? a=À y from d]at e;simp only[show((World.tp u T D)).frozen? a=Ä from c,Î,if_false]at e;cases e;refine⟨U,λf g i=> ?_⟩;rw[yw b,show((World.tp u f g)).cell? a=À y from d];simp only[show((World.tp u f g)).frozen? a=Ä from c,Î,if_false];rfl
 |none=>
  cases c:u.farStore P a v (md==þ)with
  |error z=>exact⟨0,u,λx h e=>by simp only[δ]at e;rw[yw b,show((World.tp u T D)).cell? a=Ú from d]at e;simp only[OQ u a v md T D,c,bC]at e;cases e⟩|ok p=>
   refine⟨0,p.1,λx h e=> ?_⟩;simp only[δ]at e|-;rw[yw b,show((World.tp u T D)).cell? a=Ú from d]at e;simp only[OQ u a v md T D,c,bC]at e;cases e;refine⟨U,λf g i=> ?_⟩;rw[yw b,show((World.tp u f g)).cell? a=Ú from d];simp only[OQ u a v md f g,c,bC];rfl
 .exact OP λu x h e=>by cases v<;>first|exact absurd U b|cases e
def aeO(o:Obj):tD P (newObj o):=λu T D=>⟨0,{u with heap:=u.heap.push o},λx a e=>by cases e;exact⟨U,λb c _=>U⟩⟩
def aeP(r:Nat):tD P (bD r):=by
 refine Ce λu x d e=> ?_;simp only[bD,Ù]at e|-;cases a:u.heap[r]? with
 |none=>rw[a]at e;cases e
 |some o=>
  rw[a]at e;cases o<;>first|(cases e;done)|(cases e;exact⟨U,λb c=>by simp only[show((World.tp u b c)).heap[r]?=_ from a]⟩)
def sH(u:Ç):Prop:=∀(i:Nat)(c:Array Ã)(e:Â),u.heap[i]?≠À (š c e)
structure Kd(u u':Ç):Prop where
 r:sH u->sH u'
 C:∀(i:Nat)(o:Obj),u.heap[i]?=À o->Ak o->∃o',u'.heap[i]?=À o'/\Ak o'
theorem Kd.gy(u:Ç):Kd u u:=⟨id,λ_ o h k=>⟨o,h,k⟩⟩
def Kd.fA{a c:Ç}(h:Kd a w)(k:Kd w c):Kd a c:=⟨λx=>k.r<|h.r x,λi o x y=>by let⟨d,e,f⟩:=h.C i o x y;exact k.C i d e f⟩
def GX:Halt->Bool|.panic _|.stuck _=>È|İ (.initOrder _)=>Ä|İ _=>È|_=>Ä
def qu(P:Ó)(m:ă gX):Prop:=∀u,sH u->(∀x a,m.run P u=Ē x a->Kd u a)/\(∀z a,m.run P u=bl z a->GX z=È)
def Wq(a:gX):qu P (υ a):=λu _=>⟨λx b h=>by cases h;exact Kd.gy u,λz b h=>by cases h⟩
def GY{z:Halt}(h:GX z=È):qu P (ZoD z:ă gX):=λu _=>⟨λx a e=>(by cases e),λb a e=>(by cases e;exact h)⟩
def KH{m:ă gX}{f:gX->ă gQ}(h:qu P m)(j:∀a,qu P<|f a):qu P (m.bind f):=by
 intro u d;let⟨g,k⟩:=h u d;refine⟨λx i e=> ?_,λz i e=> ?_⟩<;>rw[Ģ]at e;cases b:m.run P u with
 |ok a c=>
  rw[b]at e;exact(g a c b).fA<|(j a c<|(g a c b).r d).1 x i e|halt z w=>rw[b]at e;cases e
 cases b:m.run P u with
 |ok a c=>
  rw[b]at e;exact(j a c<|(g a c b).r d).2 z i e|halt c w=>rw[b]at e;cases e;exact k _ _ b
def Wr:qu P Zn7:=λu _=>⟨λx a h=>by cases h;exact Kd.gy u,λz a h=>by cases h⟩
theorem aeQ(q:bk):qu P (Ε q):=by intro u b;constructor;intro x a e;simp only[Ε,Ù]at e;split at e<;>cases e;exact Kd.gy u;exact⟨id,λi o h k=>⟨o,h,k⟩⟩;intro z a e;simp only[Ε,Ù]at e;grind
def aeR(m:Mark):qu P (mark m):=λu _=>⟨λx a h=>by cases h;exact Kd.gy u,λz a h=>by cases h⟩
def aeS(r:Nat):qu P (bE r):=λu _=>⟨λx a h=>by cases h;exact Kd.gy u,λz a h=>by cases h⟩
def aeT(a:Õ):qu P (frozen a):=λu _=>⟨λx b h=>by cases h;exact Kd.gy u,λz b h=>by cases h⟩
theorem aeU(o:Obj)(h:∀c e,o≠š c e):qu P (newObj o):=by intro u b;refine⟨λx d e=> ?_,λz d e=>by cases e⟩;cases e;refine⟨λ_ i c e a=> ?_,λi f a g=>⟨f,?_,g⟩⟩;simp only[cF]at a;split at a;grind;exact b i c e a;grind
theorem Ws{f:Obj->Obj}(n:∀o,Ak o->Ak (f o))(j:∀o c e,f o=š c e->∃d g,o=š d g):Kd u {u with heap:=u.heap.modify b f}:=by refine⟨λh i c e a=> ?_,λi o a p=> ?_⟩;simp only[fh]at a;split at a;let⟨o,k,l⟩:=è.1 a;let⟨d,g,m⟩:=j o c e l;exact h i d g<|m▸k;exact h i c e a;grind
theorem aeV(a:Õ)(v:Ã):Kd u (u.setCell a v):=by
 unfold ü;refine Ws (λo b=> ?_) λo c e h=> ?_;cases o<;>first|exact b.elim|trivial
 grind
theorem Wt(b:sH u)(a:Õ)(s:String):GX (u.noCell a s)=È:=by unfold af;split;rename_i h;exact absurd h<|b _ _ _;rfl;rfl
theorem aeW(a:Õ)(m:Mode):qu P (au a m):=by intro u d;constructor;intro x c e;simp only[au,Ù]at e;grind [Kd.gy];intro z c e;simp only[au,Ù]at e;split at e;cases e;split at e;cases e;rename_i b;cases e;unfold ĺ at b;split at b;split at b<;>cases b;rfl;grind [Wt]
theorem aeX{k:Õ}{r:Array Value×TypeId×(Nat×Nat)×Nat×Value×List (Nat×Nat×List UInt8)}(h:w.seen P a t k yQ=.ok r):∃c e d,w.heap[a.block]?=À (Ā c e d):=by unfold World.seen at h;simp only[bind,Ζ,pure,Η,KG]at h;grind
theorem aeY{k:Õ}{l:List Õ}(h:w.viewStore P a t k v yQ=.ok (u,l)):Kd w u:=by
 have q:∃c e n d f g,w.heap[a.block]?=À (Ā d f g)/\u={w with heap:=w.heap.setIfInBounds a.block (Ā c e n)}:=by
  unfold aR at h;cases i:w.seen P a t k yQ with
  |error e=>
   rw[i]at h;simp only[bind,Ζ,pure,Η,KG]at h;repeat' (first|contradiction|split at h)|ok r=>
   let⟨d,f,g,j⟩:=aeX i;rw[i]at h;simp only[bind,Ζ,pure,Η,KG]at h;repeat' (first|contradiction|split at h)
   all_goals(simp only[Except.ok.injEq,dJ]at h;obtain⟨rfl,_⟩:=h;exact⟨_,_,_,d,f,g,j,U⟩)
 obtain⟨c,e,n,d,f,g,j,rfl⟩:=q;refine⟨λs i x m r=> ?_,λi o r y=> ?_⟩;rw[Ň]at r;split at r;grind;exact s i x m r;by_cases m:a.block=i;subst m;rw[j]at r;cases r;exact y.elim;grind
theorem aeZ(a:Õ)(v:Ã)(m:Mode):qu P (δ a v m):=by intro u d;by_cases c:Ah v=È;constructor;intro x f e;simp only[δ]at e;rw[yw c]at e;split at e;split at e;cases e;cases e;exact aeV a v;split at e;rename_i b;cases e;unfold œ at b;grind [aeY];cases e;intro z f e;simp only[δ]at e;rw[yw c]at e;split at e;split at e;cases e;rfl;cases e;split at e;cases e;rename_i b;cases e;unfold œ at b;split at b;split at b<;>cases b;rfl;grind [Wt];cases v<;>first|exact absurd U c|exact GY (P:=P) U u d
def fZ(P:Ó)(m:ă gX):Prop:=qu P m/\tD P m
theorem jL(a:gX):fZ P (pure a):=⟨Wq a,Ce λu x b e=>by cases e;exact⟨U,λ_ _=>U⟩⟩
def OS{z:Halt}(h:GX z=È):fZ P (ZoD z:ă gX):=⟨GY h,OP λu x a e=>by cases e⟩
theorem jC{m:ă gX}{f:gX->ă gQ}(h:fZ P m)(b:∀a,fZ P<|f a):fZ P (m>>=f):=⟨KH h.1 λa=>(b a).1,aeJ h.2 λa=>(b a).2⟩
def Wu{m:ă gX}{f:gX->gQ}(h:fZ P m):fZ P (Functor.map f m):=jC h λ_=>jL _
theorem qd(s:String):fZ P (stuck s:ă gX):=OS U
def ae0(v:Ã):fZ P (goPanic v:ă gX):=OS U
theorem Wv:fZ P Zn7:=⟨Wr,Ce λu x a e=>by cases e;exact⟨U,λ_ _=>U⟩⟩
theorem OT(q:bk):fZ P (Ε q):=⟨aeQ q,aeL q⟩
def OU(m:Mark):fZ P (mark m):=⟨aeR m,Ce λu x a e=>by cases e;exact⟨U,λ_ _=>U⟩⟩
theorem GZ(r:Nat):fZ P (bE r):=⟨aeS r,Ce λu x a e=>by cases e;exact⟨U,λ_ _=>U⟩⟩
theorem Ww(a:Õ):fZ P (frozen a):=⟨aeT a,Ce λu x b e=>by cases e;exact⟨U,λ_ _=>U⟩⟩
def KI(o:Obj)(h:∀c e,o≠š c e):fZ P (newObj o):=⟨aeU o h,aeO o⟩
def KJ(a:Õ)(m:Mode):fZ P (au a m):=⟨aeW a m,aeM a m⟩
def Wx(a:Õ)(v:Ã)(m:Mode):fZ P (δ a v m):=⟨aeZ a v m,aeN a v m⟩
theorem KL{m m':ă gX}(h:∀u,m.run P u=m'.run P u)(a:fZ P m'):fZ P m:=⟨λu b=>by have:=a.1 u b;rwa[<-h u]at this,aeK h a.2⟩
section
def ae1(u:aH)(h:GX (İ u)=È):fZ P (unsupported u:ă gX):=OS h
attribute [simp] jL qd ae0 Wv OT OU GZ Ww KJ Wx
def nz{p:Prop}(h:p:=by repeat' (first|(with_reducible first|refine jC ?_ (λ_=> ?_)|refine Wu ?_|refine ae1 _ ?_)|contradiction|split|rfl|(simp;done)|(intro _ _ h;cases h;done)|simp only[]|(rename_i b;cases b<;>simp only[Bool.false_eq_true,if_false,if_true,Bool.not_true,Bool.not_false]))):p:=h
@[simp]def ae2 (e:Â) (c:Array Ã):fZ P (newRow e c):=by
 unfold newRow
 exact jC (KI _<|by intro _ _ h;cases h) λ_=>jL _
@[simp]def auP (t:Â) (v:Ã):fZ P (newVar t v):=ae2 _ _
@[simp]def auQ (t:Â):fZ P (Ŭ t):=by
 unfold Ŭ
 exact nz
@[simp] theorem Wy (t:Â):fZ P (ð t):=by
 unfold ð
 exact nz
@[simp]def auR (t:Â):fZ P (ŗ t):=by
 unfold ŗ
 exact nz
@[simp]def ae3 (e:ű):fZ P (runtimePanic e:ă gX):=by
 unfold runtimePanic
 exact nz
@[simp]def auS (k:ñ) (x y:Int) (c:η):fZ P (boundsPanic k x y c:ă gX):=by
 unfold boundsPanic
 simp only[]
 exact nz
def ae4(r:Nat):qu P (bD r):=by
 intro u b;constructor;intro x a e;simp only[bD,Ù]at e;split at e<;>first|(cases e;done)|(cases e;exact Kd.gy u)
 intro z a e;simp only[bD,Ù]at e;split at e<;>first|(cases e;done)|(cases e;rfl)
@[simp] theorem ae5 (r:Nat):fZ P (bD r):=⟨ae4 r,aeP r⟩
@[simp]def auT (t:Â):fZ P (Ν t):=by
 unfold Ν
 exact nz
@[simp]def ae6 (t:Â):fZ P (θ t):=by
 unfold θ
 exact nz
@[simp]def auU (t:Â):fZ P (isAgg t):=by
 unfold isAgg
 exact nz
@[simp]def Wz (a:Õ):∀(n i:Nat)(b:Array Ã),fZ P<|Ļ a i n b
 |0,i,b=>jL _
 |n+1,i,b=>by
  unfold Ļ
  exact jC (KJ _ _) λ_=>Wz a n _ _
@[simp]def ae7 (a:Õ) (n:Nat):fZ P (Zn2 a n):=Wz a n _ _
@[simp]def ae8 (a:Õ):∀(b:List Ã)(i:Nat),fZ P<|Ų a b i
 |[],i=>jL _
 |v::b,i=>by
  unfold Ų
  exact jC (Wx _ _ _) λ_=>ae8 a b _
@[simp] theorem ae9 (t:Â) (a:Õ):fZ P (Ξ t a):=by
 unfold Ξ
 exact nz
@[simp]def auV (t:Â) (a:Õ) (v:Ã):fZ P (φ t a v):=by
 unfold φ
 exact nz
@[simp]def auW (t:Â) (c:Array Ã) (o:Nat):fZ P (part t c o):=by
 unfold part
 exact nz
@[simp]def auX (v:Ã):fZ P (Ŕ v):=by
 unfold Ŕ
 exact nz
@[simp]def auY (v:Ã):fZ P (Zn8 v):=by
 unfold Zn8
 exact nz
@[simp]def WA (v:Ã):fZ P (Zoj v):=by
 unfold Zoj
 exact nz
@[simp]def afa (v:Ã):fZ P (bq v):=by
 unfold bq
 exact nz
@[simp]def auZ (v:Ã):fZ P (asAgg v):=by
 unfold asAgg
 exact nz
@[simp] theorem afb (v:Ã):fZ P (br v):=by
 unfold br
 exact nz
@[simp]def afc (t:Â) (b:Bool) (v:Ã):fZ P (ř t b v):=by
 unfold ř
 exact nz
@[simp]def afd (t:Â) (v:Ã):fZ P (Ο t v):=by
 unfold Ο
 exact nz
@[simp]def afe (t:Â) (v:Ã):fZ P (Ō t v):=by
 unfold Ō
 exact nz
@[simp]def aff (t:Â) (a v:Ã):fZ P (ġ t a v):=by
 unfold ġ
 exact nz
@[simp]def afg (v:Ã) (n:Nat):fZ P (ļ v n):=by
 unfold ļ
 exact nz
@[simp]def afh (t:Â) (v:Ã) (n:Nat):fZ P (Ś t v n):=by
 unfold Ś
 exact nz
def WB(f:gX->ă gQ)(a:∀x,fZ P<|f x):∀l:List gX,fZ P<|l.mapM f|[]=>by rw[ZnV];exact jL _|x::l=>by rw[Β];exact jC (a x) λ_=>jC (WB f a l) λ_=>jL _
theorem WC(f:gX->ă gQ)(a:∀x,fZ P<|f x)(l:Array gX):fZ P (l.mapM f):=by rw[Ą];exact Wu<|WB f a _
@[simp]def afi (l:Array Field):fZ P (l.mapM λf=>do pure (f.offset,<-θ f.type)):=WC _ (λ_=>jC (ae6 _) λ_=>jL _) l
@[simp]def au0 (r:Nat):fZ P (Zob r):=by
 unfold Zob
 exact nz
@[simp]def au1 (r:Nat):fZ P (bz r):=by
 unfold bz
 exact nz
@[simp]def au2 (a:Õ):fZ P (ax a):=by
 unfold ax
 exact nz
@[simp]def au3 (a:Õ):fZ P (Zoc a):=by
 unfold Zoc
 exact nz
@[simp]def au4 (a:Õ):fZ P (ě a):=by
 unfold ě
 exact nz
@[simp]def au5 (a:Õ) (x y:Nat):fZ P (partAt a x y):=by
 unfold partAt
 exact nz
@[simp]def au6 (a:Õ) (f:Field):fZ P (bu a f):=by
 unfold bu
 exact nz
@[simp]def afj (s:Â) (v:Ã) (n:Nat):fZ P (Ľ s v n):=by
 unfold Ľ
 exact nz
@[simp]def afk (t:Â) (x i:Ã):fZ P (ľ t x i):=by
 unfold ľ
 exact nz
@[simp]def au7 (x:Ã) (y:Nat) (c:η):fZ P (ę x y c):=by
 unfold ę
 exact nz
@[simp]def au8 (b:Bool) (l c:Nat) (x y z:Option Ã):fZ P (ĕ b l c x y z):=by
 unfold ĕ
 exact nz
@[simp]def au9 (t:Â) (v:Ã) (x y z:Option Ã):fZ P (ś t v x y z):=by
 unfold ś
 exact nz
@[simp]def afl (t:Â) (v:Ã) (x y z:Option Ã):fZ P (Ŀ t v x y z):=by
 unfold Ŀ
 exact nz
@[simp]def afm (t:Â) (x i:Ã):fZ P (Ŝ t x i):=by
 unfold Ŝ
 exact nz
@[simp]def ava (o:ď) (k:ñ) (x y:Int):fZ P (Zol o k x y):=by
 unfold Zol
 exact nz
@[simp]def avb (o:ď) (k:ñ) (x y:Int):fZ P (Zoy o k x y):=by
 unfold Zoy
 exact nz
@[simp]def afn (o:UnOp) (v:Ã):fZ P (bx o v):=by
 unfold bx
 exact nz
@[simp]def afo (t:Â) (a:Array (Nat×Value)):fZ P (ŝ t a):=by
 unfold ŝ
 repeat' (first|(with_reducible first|exact afi _|refine jC ?_ λ_=> ?_)|split|exact nz)
@[simp]def afp (t:Â) (n:Nat) (a:Array (Nat×Value)):fZ P (Ě t n a):=by
 unfold Ě
 exact nz
@[simp]def avc (n:Nat):fZ P (aY n):=by
 unfold aY
 exact nz
@[simp]def afq (t:Â) (x y:Ã):fZ P (Ħ t x y):=by
 unfold Ħ
 exact nz
@[simp]def avd (v:Ã):fZ P (Ũ v):=by
 unfold Ũ
 exact nz
@[simp]def ave (s n:Nat) (v:Ã):fZ P (ī s n v):=by
 unfold ī
 exact nz
@[simp]def avf (a:Õ) (n:Nat):fZ P (ν a n):=by
 unfold ν
 exact nz
@[simp]def avg (s l n:Nat) (b:Option Õ) (v:Ã):fZ P (az s l n b v):=by
 unfold az
 exact nz
@[simp]def afr (a:Array Â) (t:Â) (x:Array Ã):fZ P (ō a t x):=by
 unfold ō
 exact nz
@[simp]def afs (a:Array Â) (t:Â) (x:Array Ã):fZ P (Ŏ a t x):=by
 unfold Ŏ
 exact nz
@[simp]def aft (a:Array Â) (t:Â) (x:Array Ã):fZ P (ŀ a t x):=by
 unfold ŀ
 exact nz
@[simp]def afu (a:Array Â) (t:Â) (x:Array Ã):fZ P (ĥ a t x):=by
 unfold ĥ
 exact nz
end
@[simp] theorem afv (o:ď) (k:Ğ) (x y:Nat):fZ P (ZnW o k x y):=by
 unfold ZnW
 exact nz
@[simp] theorem avh (o:ď) (k:Ğ) (x y:Nat):fZ P (Zom o k x y):=by
 unfold Zom
 grind [jL,qd]
@[simp] theorem avi (s:Ğ) (b:Nat) (d:Ğ):fZ P (ag s b d):=by
 unfold ag
 grind [jL,OT,jC]
@[simp] theorem avj (s:Ğ) (b:Nat) (d:ñ):fZ P (aS s b d):=by
 unfold aS
 grind [jL,OT,jC]
@[simp] theorem avk (o:ď) (k:Ğ) (x y:Nat):fZ P (aA o k x y):=by
 unfold aA
 grind [jL,qd,afv,jC]
@[simp]def avl (o:ď) (k:Ğ) (x y:Nat):fZ P (bF o k x y):=by
 unfold bF
 exact nz
@[simp]def avm (s:Ğ) (b:Nat) (d:Ğ):fZ P (aT s b d):=by
 unfold aT
 exact nz
@[simp]def avn (x y:Nat):fZ P (bG x y):=by
 unfold bG
 exact nz
@[simp]def avo (x y:Nat):fZ P (bH x y):=by
 unfold bH
 exact nz
@[simp]def avp (x y:Nat):fZ P (bI x y):=by
 unfold bI
 exact nz
@[simp]def avq (x y:Nat):fZ P (bK x y):=by
 unfold bK
 exact nz
@[simp]def avr (a b c d:Nat):fZ P (ξ a b c d):=by
 unfold ξ
 exact nz
@[simp]def avs (s a b c d:Nat):fZ P (Θ s a b c d):=by
 unfold Θ
 exact nz
@[simp]def avt (a b c d:Nat):fZ P (Υ a b c d):=by
 unfold Υ
 exact nz
@[simp]def avu (o:ď) (k:Ğ) (a b c d:Nat):fZ P (Zod o k a b c d):=by
 unfold Zod
 exact nz
@[simp]def avv (o:ď) (k:ñ) (x y:Int):fZ P (Ρ o k x y):=by
 unfold Ρ
 exact nz
@[simp]def avw (o:ď) (x y:Int):fZ P (Op.intCmp o x y):=by
 unfold Op.intCmp
 exact nz
@[simp]def avx (o:ď) (k:ñ) (x:Int) (a:ñ) (y:Int):fZ P (χ o k x a y):=by
 unfold χ
 exact nz
@[simp]def avy (o:ď) (x y:ByteArray):fZ P (aI o x y):=by
 unfold aI
 exact nz
@[simp]def avz (a b:Õ):fZ P (ŏ a b):=by
 unfold ŏ
 exact nz
@[simp]def avA (k:ñ) (a b:Õ):fZ P (Ŵ k a b):=by
 unfold Ŵ
 exact nz
@[simp]def avB (o:ď) (a b:Õ):fZ P (ŵ o a b):=by
 unfold ŵ
 exact nz
@[simp]def avC (k:ñ) (a:Õ) (n:Int):fZ P (Ŷ k a n):=by
 unfold Ŷ
 exact nz
@[simp]def avD (a:Array Â) (t:Â) (x y:Ã):fZ P (ç a t #[x,y]):=by
 unfold ç
 cases x<;>first|exact qd _|skip
 refine jC (WA y) λn=> ?_
 exact nz
@[simp]def avE (a:Õ) (b:Bool):fZ P (bA a b):=by
 unfold bA
 repeat' (first|(with_reducible first|refine KI _ ?_|refine jC ?_ λ_=> ?_)|split|exact nz)
@[simp]def avF (t:Â) (x y:Ã):fZ P (ł t x y):=by
 unfold ł
 exact nz
@[simp]def avG (t:Â) (x y:Ã):fZ P (Ő t x y):=by
 unfold Ő
 exact nz
theorem yz{d:Zon}(h:P.underlying t=À d){f:Zon->ă gX}(a:fZ P (f d)):fZ P (ð t>>=f):=by
 have e:∀u,(ð t).run P u=Ē d u:=by intro u;unfold ð;simp_all
 grind [KL,Æ,É]
def WE(t:Â)(x y:Ã)(a:vx P t\/((∃e,P.underlying t=À (æ e))/\(oS x\/oS y))):fZ P (ë t x y):=by unfold ë ô ų;obtain(h|⟨k,h⟩|h)|⟨⟨e,h⟩,k⟩:=a<;>apply yz h;exact nz;exact nz;exact nz;repeat' (first|(with_reducible first|refine jC ?_ λ_=> ?_)|exact(Or.elim k id id:False).elim|split|exact nz)
def afw(t:Â)(a:GK P t)(x y:Ã):fZ P (Ĝ ô t x y):=by unfold ô Ĝ;obtain(h|⟨k,h⟩|h)|⟨e,h⟩:=a<;>refine yz h ?_<;>(cases x<;>cases y<;>exact jL _)
theorem WG(c:ď)(t:Â)(d:c=κ\/c=ψ->GK P t)(x y:Ô)(a b:Ã):fZ P (Š c t x y a b):=by
 unfold Š;by_cases e:c=κ\/c=ψ
 .have f:=d e;obtain rfl|rfl:=e;all_goals
   repeat' (first|(with_reducible first|exact afw _ f _ _|refine jC ?_ λ_=> ?_)|split|exact nz)
 grind [jL]
@[simp] theorem avH (k:ñ) (n:Int):fZ P (ZnX k n):=by
 unfold ZnX
 grind [jL]
@[simp] theorem afx (n:Int):fZ P (aB n):=by
 unfold aB
 grind [jL]
def afy(a:ď)(t:Â)(x y:Ã)(h:a=κ\/a=ψ->(vx P t\/((∃e,P.underlying t=À (æ e))/\(oS x\/oS y)))):fZ P (ŕ a t x y):=by unfold ŕ;repeat' (first|(with_reducible first|exact WE _ _ _ (h<|Á U)|exact WE _ _ _ (h<|Å U)|refine jC ?_ λ_=> ?_)|split|exact nz)
def afz(s d:Â)(x:Ã)(h:(∃k a,P.underlying s=À (ũ k)/\P.underlying d=À (ũ a))\/(P.underlying s=À ċ/\P.underlying d=À ċ)):fZ P (Ł s d x):=by unfold Ł;obtain⟨k,a,b,c⟩|⟨b,c⟩:=h<;>refine yz b<|yz c ?_;exact nz;exact nz
@[simp]def afA:∀(l:List FieldStep)(t:Â)(x:Option Ã),fZ P<|aJ l t x
 |[],t,x=>by unfold aJ;exact jL _
 |s::l,t,x=>by
  unfold aJ
  repeat' (first|(with_reducible first|exact afA l _ _|refine jC ?_ λ_=> ?_)|split|exact nz)
@[simp]def afB:∀(n:Nat)(t:Â)(v:Ã)(s:String),fZ P<|ah n t v s
 |0,t,v,s=>by unfold ah;exact jL _
 |n+1,t,v,s=>by
  unfold ah
  repeat' (first|(with_reducible first|exact afB n _ _ _|refine jC ?_ λ_=> ?_)|split|exact nz)
def nJ{m:ă Ã}(h:fZ P m):fZ P (m>>=λv=>pure<|ä v):=jC h λ_=>jL _
theorem afC(f:Û)(b:∃a,P.funcs[f]?=À a/\(a.name== "runtime.NumGoroutine")=Ä/\a.body.isNone=Ä)(c:Array Ã):fZ P (ģ f c):=by let⟨a,d,e,g⟩:=b;refine KL (m':=pure<|Ŗ f c) (λu=> ?_)<|jL _;rw[ģ,Æ,õ];grind [É,Î]
def afD(j:lz P xX o.op):fZ P (ã xX o):=by
 let⟨k,g,m,p,u,guard⟩:=o;simp only at j;simp only[ã,];cases j with
 |Al x|GM x=>exact jL _|yy c a b=>exact jC (afa _) λ_=>jL _|gP t=>exact nJ<|afc _ _ _|KE t x=>exact nJ<|afd _ _|OC t b=>exact nJ<|afo _ _|OD t n b=>exact nJ<|afp _ _ _|ij t a=>exact nJ<|afe _ _|jN t a x=>exact jC (aff _ _ _) λ_=>jL _|GN x=>
  simp only[];exact nz|Ev g t x y r h=>exact nJ<|jC (WG g t (λe=>(h e).imp id λq=>q.1) x y _ _) λ_=>afy g t _ _ h|OE g t x=>exact nJ<|afn _ _|OG s d x h=>exact nJ<|afz s d _ h|OH t l c=>exact nJ<|afq _ _ _|lh t x b a c=>exact nJ<|afl _ _ _ _ _|OI s x n h=>exact nJ<|afj _ _ _|OJ t x n=>exact nJ<|afh _ _ _|OL t x i=>exact nJ<|afk _ _ _|OM t x i=>exact nJ<|afm _ _ _|Gy x n=>exact nJ<|afg _ _|GO x a=>
  simp only[ć,Ę,ħ,pure_bind,eJ,dR,dG];exact nJ<|afr _ _ _|GQ x a=>
  simp only[ć,Ę,ħ,pure_bind,eJ,dR,dG];exact nJ<|afs _ _ _|GR x y a=>
  simp only[ć,Ę,ħ,pure_bind,eJ,dR,dG];exact nJ<|aft _ _ _|GU x y b c h=>
  simp only[ć,Ę,ħ,pure_bind,eJ,dR,dG];exact nJ<|afu _ _ _|iA f c a b h=>
  simp only[ć,b,ĝ,Ę,pure_bind,cA,dK];exact afC f h _
def fm(f:Û)(t:Array Ã)(k:List ŉ):Ċ:=(base f).at ⟨t,[]⟩ k
structure St where
 f:Û
 t:Array Ã
 k:List ŉ
 r:Bool
 L:List (FuncId×Array Value×List ŉ)
def St.nZ(s:St)(cs:List Ċ):Ì:=G (if s.r then{fm s.f s.t s.k with mode:=.returning}else fm s.f s.t s.k)<|s.L.map (λx=>fm x.1 x.2.1 x.2.2)++cs
def re(t:Array Ã)(d:Option Tmp)(v:Ã):Array Ã:=(Act.put ⟨t,[]⟩ d v).tmps
def uB(t:Array Ã)(d:Option Tmp)(v:Ã):Act.put ⟨t,[]⟩ d v=⟨re t d v,[]⟩:=by cases d<;>rfl
inductive LS(P:Ó):St->Ç->St->Ç->Prop|qY {f t L u:_}:LS P ⟨f,t,[],Ä,L⟩ u ⟨f,t,[],È,L⟩ u|qe {f t k L u:_}:LS P ⟨f,t,ā .ret::k,Ä,L⟩ u ⟨f,t,ā .ret::k,È,L⟩ u|vy {f t k L u:_}:LS P ⟨f,t,ā .skip::k,Ä,L⟩ u ⟨f,t,k,Ä,L⟩ u|Am {f t k L u l:_}:LS P ⟨f,t,ā (Zoz l)::k,Ä,L⟩ u ⟨f,t,k,Ä,L⟩ u|Cf {f t k L u id:_}:LS P ⟨f,t,Zoo id::k,Ä,L⟩ u ⟨f,t,k,Ä,L⟩ u|yA {f t k L u c:_}:LS P ⟨f,t,Zop c::k,Ä,L⟩ u ⟨f,t,k,Ä,L⟩ u|uC {f t k L u x y:_}:LS P ⟨f,t,ā (.seq x y)::k,Ä,L⟩ u ⟨f,t,ā x::ā y::k,Ä,L⟩ u|vA {f t k L u c x y b:_} (h:Ü ⟨t,[]⟩ c=Ĭ b):LS P ⟨f,t,ā (aK c x y)::k,Ä,L⟩ u ⟨f,t,ā (if b then x else y)::k,Ä,L⟩ u|uD {f t k L u id c:_}:LS P ⟨f,t,ā (ZoA id c)::k,Ä,L⟩ u ⟨f,t,ā c::Zoo id::k,Ä,L⟩ u|An {f t k L u c:_}:LS P ⟨f,t,ā (.loop c)::k,Ä,L⟩ u ⟨f,t,ā c::Zoe c::k,Ä,L⟩ u|Ao {f t k L u c:_}:LS P ⟨f,t,Zoe c::k,Ä,L⟩ u ⟨f,t,ā c::Zoe c::k,Ä,L⟩ u|Ap {f t k L u c:_}:LS P ⟨f,t,ā (ZoB c)::k,Ä,L⟩ u ⟨f,t,ā c::Zop c::k,Ä,L⟩ u|yB {f t k L u id k':_} (h:ZnJ id k=À k'):LS P ⟨f,t,ā (.exit id)::k,Ä,L⟩ u ⟨f,t,k',Ä,L⟩ u|yC {f t k L u l k':_} (h:ZnK l k=À k'):LS P ⟨f,t,ā (.goto l)::k,Ä,L⟩ u ⟨f,t,k',Ä,L⟩ u|vB {f t k L u id ops:_}:LS P ⟨f,t,ā (aZ id ops Ä)::k,Ä,L⟩ u ⟨f,t,Ø ops (List.range ops.size)::k,Ä,L⟩ u|Cg {f t k L u id ops:_}:LS P ⟨f,t,ā (aZ id ops È)::k,Ä,L⟩ u ⟨f,t,Ø ops (aU (P.follows .mixedOrders) ops<|u.tape u.drawn<|.order f id)::k,Ä,L⟩ {u with drawn:=u.drawn+1}|G0 {f t k L u ops:_}:LS P ⟨f,t,Ø ops []::k,Ä,L⟩ u ⟨f,t,k,Ä,L⟩ u|Ew {f t k L u ops i rest o:_} (ho:ops[i]?=À o) (hw:ē o (Ĳ ops t)=Ä):LS P ⟨f,t,Ø ops (i::rest)::k,Ä,L⟩ u ⟨f,re t o.dst ĭ,Ø ops rest::k,Ä,L⟩ u|qc {f t k L u ops i rest o v u':_} (ho:ops[i]?=À o) (hw:ē o (Ĳ ops t)=È) (hr:(ã (Ü ⟨t,[]⟩) o).run P u=Ē (ä v) u'):LS P ⟨f,t,Ø ops (i::rest)::k,Ä,L⟩ u ⟨f,re t o.dst v,Ø ops rest::k,Ä,L⟩ u'|Ch {f t k L u ops i rest o u':_} (ho:ops[i]?=À o) (hw:ē o (Ĳ ops t)=È) (hr:(ã (Ü ⟨t,[]⟩) o).run P u=Ē ς u'):LS P ⟨f,t,Ø ops (i::rest)::k,Ä,L⟩ u ⟨f,re t o.dst ĭ,Ø ops rest::k,Ä,L⟩ u'|uA {f t k L u ops i rest o g args fn c u':_} (ho:ops[i]?=À o) (hw:ē o (Ĳ ops t)=È) (hr:(ã (Ü ⟨t,[]⟩) o).run P u=Ē (Ŗ g args) u') (hf:P.funcs[g]?=À fn) (hb:fn.body=À c):LS P ⟨f,t,Ø ops (i::rest)::k,Ä,L⟩ u ⟨g,args++Ĩ (fn.ntmps-args.size) ĭ,[ā c],Ä,(f,t,Ø ops (i::rest)::k)::L⟩ u'|Ex {f t k L u ops i rest:_} (ho:(ops:Array Α)[(i:Nat)]?=Ú):LS P ⟨f,t,Ø ops (i::rest)::k,Ä,L⟩ u ⟨f,t,Ø ops rest::k,Ä,L⟩ u|yD {f t k L u g t' ops i rest k' v fn u':_} (hf:P.funcs[f]?=À fn) (hr:(Ė fn t).run P u=Ē v u'):LS P ⟨f,t,k,È,(g,t',Ø ops (i::rest)::k')::L⟩ u ⟨g,re t' ((ops[i]?).bind (·.dst)) v,Ø ops rest::k',Ä,L⟩ u'
inductive n5(GL:Nat->Prop):Ô->Prop|WH (t:Tmp):n5 GL (.tmp t)|WI {v:Ã} (h:kT v):n5 GL (.const v)|WJ {g:Nat} (h:GL g):n5 GL (.global g)|WK (f:Û):n5 GL (.func f)
structure oC(P:Ó)(GL:Nat->Prop)(fu:Û->Prop)(o:Α):Prop where
 oD:∀{Y:fL} {Sh:Nat->Prop} {t t':Array Ã} {u w:Ç},pI P->Y.gA=P.globals.size->(∀g,GL g->Y g g)->gD Y t t'->jI Y Sh u w->(∀j,Sh j->j<w.heap.size)->∀{x:ŷ} {u':Ç},(ã (Ü ⟨t,[]⟩) o).run P u=Ē x u'->Et u u'->
  ∃(Y':fL)(x':ŷ)(w':Ç)(WL:Array ê),Y.r Y'/\(∀i j,Y' i j->Y i j\/(u.heap.size<=i/\w.heap.size<=j))/\(ã (Ü ⟨t',[]⟩) o).runT P w #[]=(Ē x' w',#[]++WL)/\rM Y' x x'/\jI Y' Sh u' w'/\pH Y Sh w w'/\(∀e∈WL,B9 Y' Sh e)/\u.heap.size<=u'.heap.size
 r:∀a:aP,fZ P<|ã a.eval o
 I:∀(a:aP)(u:Ç)(n:ŷ)(u':Ç),(ã a.eval o).run P u=Ē n u'->(∃v,n=ä v)\/n=ς\/∃f c,n=Ŗ f c
 C:∀(a:aP)(u:Ç)(f:Û)(c:Array Ã)(u':Ç),(ã a.eval o).run P u=Ē (Ŗ f c) u'->fu f
inductive lX(P:Ó)(GL:Nat->Prop)(fu:Û->Prop):Ω->Prop|qe:lX P GL fu .ret|vy:lX P GL fu .skip|Am (l:Nat):lX P GL fu (Zoz l)|yB (id:Nat):lX P GL fu (.exit id)|yC (l:Nat):lX P GL fu (.goto l)|uC {x y:Ω} (hx:lX P GL fu x) (hy:lX P GL fu y):lX P GL fu (.seq x y)|vA {c:Ô} {x y:Ω} (hc:n5 GL c) (hx:lX P GL fu x) (hy:lX P GL fu y):lX P GL fu (aK c x y)|uD (id:Nat) {c:Ω} (h:lX P GL fu c):lX P GL fu (ZoA id c)|An {c:Ω} (h:lX P GL fu c):lX P GL fu (.loop c)|Ap {c:Ω} (h:lX P GL fu c):lX P GL fu (ZoB c)|vB (id:Nat) {ops:Array Α} (draw:Bool) (h:∀o∈ops,oC P GL fu o):lX P GL fu (aZ id ops draw)|pK (WM:String):lX P GL fu (Zog WM)
inductive Ci(P:Ó)(GL:Nat->Prop)(fu:Û->Prop):ŉ->Prop|tE {c:Ω} (h:lX P GL fu c):Ci P GL fu (ā c)|Cf (id:Nat):Ci P GL fu (Zoo id)|yA {c:Ω} (h:lX P GL fu c):Ci P GL fu (Zop c)|Ao {c:Ω} (h:lX P GL fu c):Ci P GL fu (Zoe c)|Cj {ops:Array Α} (is:List Nat) (h:∀o∈ops,oC P GL fu o):Ci P GL fu (Ø ops is)
def uE(P:Ó)(a:Nat->Prop)(b:Û->Prop)(k:List ŉ):Prop:=∀i∈k,Ci P a b i
structure lA(P:Ó)(GL:Nat->Prop)(fu:Û->Prop)(s:St):Prop where
 fV:uE P GL fu s.k
 fM:∀x∈s.L,uE P GL fu x.2.2
def rf(P:Ó)(d:Nat->Prop)(a:Û->Prop):Prop:=∀f,a f->∀b c,P.funcs[f]?=À b->b.body=À c->lX P d a c
section
variable{GL:Nat->Prop}{fu:Û->Prop}
def afE{a:Ω}(h:lX P GL fu wX):aC wX i=À a->lX P GL fu a:=by
 induction h generalizing a with
 |uC j b d f=>
  intro e;simp only[aC]at e;split at e;rename_i r g;cases e;exact .uC (d g) b;exact f e
 |Am k=>
  intro e;simp only[aC]at e;split at e<;>cases e;exact .vy
 |_=>intro e;simp only[aC]at e;cases e
def afF{id:Nat}:∀{k a:List ŉ},uE P GL fu k->ZnJ id k=À a->uE P GL fu a:=by
 intro k
 induction k with
 |nil=>intro a _ e;simp[ZnJ]at e|cons i k c=>
  intro a h e;have b:=λj d=>h j<|fi _ d;cases i with
  |inBlock f=>
   simp only[ZnJ]at e;split at e;cases e;exact b;exact c b e
  |_=>simp only[ZnJ]at e;exact c b e
def afG:∀{k c:List ŉ},uE P GL fu k->ZnK i k=À c->uE P GL fu c:=by
 intro k
 induction k with
 |nil=>intro c _ e;simp[ZnK]at e|cons a k f=>
  intro c h e;have d:=λj b=>h j<|fi _ b;cases a with
  |inScope m=>
   simp only[ZnK]at e;have g:lX P GL fu m:=by cases h _ (eZ ..)with|yA h=>exact h
   split at e;rename_i r n;cases e;intro j b;obtain rfl|b:=eK.1 b;exact .tE (afE g n);obtain rfl|b:=eK.1 b;exact .yA g;exact d j b;exact f d e
  |_=>simp only[ZnK]at e;exact f d e
def sI{i:ŉ}(h:uE P GL fu (i::L)):uE P GL fu L:=λj a=>h j<|fi _ a
def rN{i:ŉ}(b:Ci P GL fu i)(h:uE P GL fu L):uE P GL fu (i::L):=λj a=>by obtain rfl|a:=eK.1 a;exact b;exact h j a
def Aq{c:Ω}{k:List ŉ}(h:uE P GL fu (ā c::k)):lX P GL fu c:=by cases h _ (eZ ..)with|tE h=>exact h
def uF{ops:Array Α}{k:List ŉ}(h:uE P GL fu (Ø ops jJ::k)):∀o∈ops,oC P GL fu o:=by cases h _ (eZ ..)with|Cj _ h=>exact h
def LS.ok(i:rf P GL fu)(k:∀o a u f l w,oC P GL fu o->(ã (Ü a) o).run P u=Ē (Ŗ f l) w->fu f){s g:St}(h:LS P s u g w)(ok:lA P GL fu s):lA P GL fu g:=by
 let⟨c,d⟩:=ok;cases h with
 |qY|qe=>exact⟨c,d⟩|vy|Am|Cf|yA=>exact⟨sI c,d⟩|uC=>
  cases Aq c with|uC e j=>exact⟨rN (.tE e)<|rN (.tE j)<|sI c,d⟩
 |@vA _ _ _ _ _ _ _ _ b _=>
  cases Aq c with|vA _ e j=>exact⟨rN (.tE (by cases b<;>simp[e,j]))<|sI c,d⟩
 |uD=>
  cases Aq c with|uD _ h=>exact⟨rN (.tE h)<|rN (.Cf _)<|sI c,d⟩
 |An=>
  cases Aq c with|An h=>exact⟨rN (.tE h)<|rN (.Ao h)<|sI c,d⟩
 |Ao=>
  cases c _ (eZ ..)with|Ao h=>exact⟨rN (.tE h) c,d⟩
 |Ap=>
  cases Aq c with|Ap h=>exact⟨rN (.tE h)<|rN (.yA h)<|sI c,d⟩
 |yB h=>exact⟨afF (sI c) h,d⟩|yC h=>exact⟨afG (sI c) h,d⟩|vB=>
  cases Aq c with|vB _ _ h=>exact⟨rN (.Cj _ h)<|sI c,d⟩
 |Cg=>
  cases Aq c with|vB _ _ h=>exact⟨rN (.Cj _ h)<|sI c,d⟩
 |G0=>exact⟨sI c,d⟩|Ew|qc|Ch=>exact⟨rN (.Cj _ (uF c))<|sI c,d⟩|uA m _ n p q=>
  refine⟨λj r=> ?_,λx e=> ?_⟩;have:=eY.1 r;rw[this];exact .tE (i _ (k _ _ _ _ _ _ (uF c _<|fg m) n) _ _ p q);obtain rfl|e:=eK.1 e;exact c;exact d x e|Ex=>exact⟨rN (.Cj _ (uF c))<|sI c,d⟩|yD=>
  have j:=d _<|eZ ..;exact⟨rN (.Cj _ (uF j))<|sI j,λx e=>d x<|fi _ e⟩
end
structure KM(Y:fL)(x y:FuncId×Array Value×List ŉ):Prop where
 f:x.1=y.1
 t:gD Y x.2.1 y.2.1
 k:x.2.2=y.2.2
inductive Ey(Y:fL):List (FuncId×Array Value×List ŉ)->List (FuncId×Array Value×List ŉ)->Prop|qY:Ey Y [] []|yx {x y:FuncId×Array Value×List ŉ} {L L':List (FuncId×Array Value×List ŉ)} (h:KM Y x y) (hs:Ey Y L L'):Ey Y (x::L) (y::L')
structure KN(Y:fL)(s s':St):Prop where
 f:s.f=s'.f
 t:gD Y s.t s'.t
 k:s.k=s'.k
 qe:s.r=s'.r
 L:Ey Y s.L s'.L
def KM.fG{Y a:fL}(h:Y.r a){x y:FuncId×Array Value×List ŉ}(r:KM Y x y):KM a x y:=⟨r.f,r.t.fG h,r.k⟩
def KO{Y b:fL}(h:Y.r b){L c:List (FuncId×Array Value×List ŉ)}(r:Ey Y L c):Ey b L c:=by
 induction r with|qY=>exact .qY|yx a _ d=>exact .yx (a.fG h) d
section
variable{Y:fL}{j:Nat->Prop}
def afH(a:∀g,X g->Y g g)(h:n5 X qQ):Wm Y qQ:=by
 cases h with|WH t=>trivial|WI h=>exact h.kv Y|WJ h=>exact a _ h|WK f=>trivial
def yE(b:∀g,X g->Y g g)(h:gD Y d q)(c:n5 X qQ):fI Y (Ü ⟨d,[]⟩ qQ) (Ü ⟨q,[]⟩ qQ):=aeF (a:=⟨d,[]⟩) (a':=⟨q,[]⟩) h<|afH b c
def re.r{b:Array Ã}(h:gD Y q b)(d:Option Tmp)(c:fI Y v x):gD Y (re q d v) (re b d x):=aeH (a:=⟨q,[]⟩) (a':=⟨b,[]⟩) h d c
def WN(n:Nat):gD Y (Ĩ n ĭ) (Ĩ n ĭ):=⟨U,λi a b=>by simp only[Array.getElem_replicate];exact GV Y⟩
def afI(B:lz P xX o.op)(i:(ã xX o).run P u=Ē (Ŗ F d) W):∃q l,o.op=ź {callee:=bB<|.func F,args:=q,argTypes:=l}:=by
 have n:∀{m:ă Ã} {x:ŷ} {k p:Ç},(m>>=λv=>pure (ä v):ă ŷ).run P k=Ē x p->∃v,x=ä v:=by
  intro m x k p e;rw[Æ]at e;cases j:m.run P k with
  |ok a w=>rw[j]at e;cases e;exact⟨a,U⟩
  |halt z w=>rw[j]at e;cases e
 have C:∀{m:ă Unit} {x:ŷ} {k p:Ç},(m>>=λ_=>pure ς:ă ŷ).run P k=Ē x p->x=ς:=by
  intro m x k p e;rw[Æ]at e;cases j:m.run P k with
  |ok a w=>rw[j]at e;cases e;rfl
  |halt z w=>rw[j]at e;cases e
 let⟨E,s,G,H,I,guard⟩:=o;simp only at B|-;unfold ã at i;simp only[]at i;cases B with
 |Al x|GM x=>cases i
 |yy c a b=>
  rw[Æ]at i;cases j:(bq<|xX c).run P u with|ok a w|halt z w=>rw[j]at i;cases i
 |jN t a x=>exact absurd (C i) fD|GN x=>
  simp only[]at i;split at i;all_goals first
   |(cases i;done)|exact absurd i<|tC _ _ _ _
   |(
    split at i;all_goals first
     |(cases i;done)|exact absurd i<|tC _ _ _ _
     |(
      rw[Æ,õ]at i;simp only[É]at i;rw[Æ]at i;revert i;generalize Ù P (ah _ _ _ _) u=z;intro i;cases z with
      |halt z w=>cases i
      |ok a w=>
       simp only[É]at i;split at i;rw[Æ]at i;cases i;cases i))
 |GO x l|GQ x l|GR x y l|GU x y b c h=>simp only[ć,Ę,ħ,pure_bind,eJ,dR,dG]at i;let⟨v,e⟩:=n i;cases e
 |iA g q l b h=>
  let⟨J,c,r,D⟩:=h;simp only[ć,b,ĝ,Ę,pure_bind,cA,dK,ģ]at i;rw[Æ,õ]at i;simp only[É,c,r,D,Î,if_false]at i;cases i;exact⟨q,l,U⟩
 |Ev s t x y r h=>
  rw[Æ]at i;cases j:Ù P (Š s t x y (xX x) (xX y)>>=λ_=>ŕ s t (xX x)<|xX y) u with|ok a w|halt z w=>rw[j]at i;cases i
 |_=>let⟨v,e⟩:=n i;cases e
theorem WO(j:Func)(h:gD Y d q):gh P fI Y (Ė j d) (Ė j q):=by
 have k:∀(f:fL),Y.r f->∀n,fI f (d.getD n ĭ) (q.getD n ĭ):=by intro f a n;simp only[fq];rcases(h.fG a).M n with⟨b,e⟩|⟨v,u,b,e,m⟩;all_goals grind [GV]
 unfold Ė;refine ga (V:=gD) ?_ ?_
 .rw[Ą,Ą];have w:∀(l:List ResultVar)(c:fL),Y.r c->gh P (λf (a o:List Ã)=>gD f a.toArray o.toArray) c (l.mapM fun|ResultVar.tmp n=>pure (d.getD n ĭ)|ResultVar.cell a e=>do Ξ e (<-br (d.getD a ĭ))) (l.mapM fun|ResultVar.tmp n=>pure (q.getD n ĭ)|ResultVar.cell a e=>do Ξ e (<-br (q.getD a ĭ))):=by
   intro l
   induction l with
   |nil=>intro c _;simp only[ZnV];exact .fY (gD.N _)|cons r l x=>
    intro c g;simp only[Β];refine ga (V:=fI) ?_ ?_;cases r with
    |tmp n=>exact .fY (k c g n)|cell a e=>
     apply ga (V6<|k c g a);exact λp b s _ i=>VZ i e
    .intro p v u e m;apply ga (x p<|fL.C g e);intro z s i y b;refine .fY ?_;have:=(gD.I<|m.fG y).H b;simpa using this
  exact gh.nH (w _ Y<|fL.I _) λf a o _ e=> .fY e
 intro c s i _ b;refine .fY ?_;by_cases e:s.size=1;have a:i.size=1:=by rwa[<-b.r]
 rw[dif_pos e,dif_pos a];exact b.C 0 _ _;have a:¬i.size=1:=by rwa[<-b.r]
 rw[dif_neg e,dif_neg a];exact .nG b.r b.C
end
def Ar{p:Prop}(h:p:=by simp[St.nZ,fm,base,G,stepG,stepG.exec,Frame.at];try rfl):p:=h
section
variable{Y:fL}{d:Nat->Prop}
def jF(P:Ó)(Y:fL)(d:Nat->Prop)(main:Bool)(cs:List Ċ)(h:St)(u w:Ç)(k:St)(c:Ç):Prop:=
 ∃(a:fL)(f:St)(b:Ç)(g:Array ê),à P main (h.nZ cs) w=σ (f.nZ cs) b g/\KN a k f/\Y.r a/\(∀i j,a i j->Y i j\/(u.heap.size<=i/\w.heap.size<=j))/\jI a d c b/\pH Y d w b/\(∀e∈g,B9 a d e)/\u.heap.size<=c.heap.size
def jF.r{main:Bool}{cs:List Ċ}{a b s1':St}(c:jI Y d u w)(h:à P main (a.nZ cs) w=σ (s1'.nZ cs) w #[])(f:KN Y b s1'):jF P Y d main cs a u w b u:=⟨Y,s1',w,#[],h,f,fL.I _,λ_ _ h=>Á h,c,pH.gy _ _ w,λe g=>absurd g fD,eE _⟩
def KP{m:ă gX}{x:gX}(h:m.runT P w #[]=(Ē x u,#[]++V)):m.run P w=Ē x u/\m.events P w #[]=V:=by simp_all
def G1{main:Bool}{k:List ŉ}{c:Ċ}{cs:List Ċ}{es:Array ê}(a:P.funcs[F]?=À s)(b:(Ė s q).runT P w #[]=(Ē v u,es)): à P main (G {fm F q k with mode:=.returning}<|c::cs) w=σ (G (c.finish v) cs) u (seen P F es):=by simp[G,à,Zoh,doReturn,fm,Frame.at,base,a,b,Ţ,-ţ]
def LS.oD(hz:pI P)(hb:Y.gA=P.globals.size)(hG:∀g,X g->Y g g){s s1 s':St}(h:LS P s u s1 W)(hs:KN Y s s')(ok:lA P X pJ s)(m:jI Y d u w)(hl:∀j,d j->j<w.heap.size)(O:Et u W)(main:Bool)(cs:List Ċ): jF P Y d main cs s' u w s1 W:=by
 let⟨f',r,k',ret',n⟩:=s';let⟨Q,l,S,e3,p⟩:=hs;simp only at Q S e3 l p;subst Q S e3;cases h with
 |qY|qe=>exact .r (s1':=⟨_,r,_,È,n⟩) m Ar ⟨U,l,U,U,p⟩|vy|Am|Cf|yA|uC|uD|An|Ao|Ap|vB|G0=>exact .r (s1':=⟨_,r,_,Ä,n⟩) m Ar ⟨U,l,U,U,p⟩|@vA _ _ _ _ _ c _ _ b Ck=>
  have T:=yE hG l (by cases Aq ok.fV with|vA O _ _=>exact O);rw[Ck]at T;have e:Ü ⟨r,[]⟩ c=Ĭ b:=by generalize Ü ⟨r,[]⟩ c=V at T;cases T;rfl
  exact .r (s1':=⟨_,r,_,Ä,n⟩) m (ZnL e) ⟨U,l,U,U,p⟩
 |yB z|yC z=>exact .r (s1':=⟨_,r,_,Ä,n⟩) m (by simp[St.nZ,fm,base,G,à,ø,Frame.at,z]) ⟨U,l,U,U,p⟩|@Cg f t k L _ id ops=>
  refine⟨Y,⟨f,r,Ø ops (aU (P.follows .mixedOrders) ops<|w.tape w.drawn<|.order f id)::k,Ä,n⟩,{w with drawn:=w.drawn+1},#[],Ť,⟨U,l,?_,U,p⟩,fL.I _,λ_ _ h=>Á h,⟨m.S,by simp[m.N],m.C,m.I,m.M,m.r⟩,⟨eE _,U,U,U,λ_ _ _=>U,λ_ _ _=>U⟩,λe z=>absurd z fD,eE _⟩;simp only[m.S,m.N]|@Ew f t k L _ ops i rest o ho hw=>
  rw[KF _ _ l]at hw;have:=Ι (P:=P) (main:=main) (b:=base f) (a:=⟨r,[]⟩) (k:=k) (cs:=n.map (λx=>fm x.1 x.2.1 x.2.2)++cs) (w:=w) (rest:=rest) ho hw;rw[uB]at this;exact .r (s1':=⟨f,re r o.dst ĭ,Ø ops rest::k,Ä,n⟩) m this ⟨U,re.r l _<|GV Y,U,U,p⟩|@qc f t k L _ ops i rest o v _ ho hw hr=>
  rw[KF _ _ l]at hw;let⟨B,x',D,es,q,E,C,F,H,I,J,K⟩:=(uF ok.fV _<|fg ho).oD hz hb hG l m hl hr O;let⟨M,N⟩:=KP C;cases F with
  |qc T=>
   have:=aL (main:=main) (b:=base f) (k:=k) (cs:=n.map (λx=>fm x.1 x.2.1 x.2.2)++cs) (rest:=rest) ho hw (by simp[base]) M;rw[uB]at this;rename_i V;exact⟨B,⟨f,re r o.dst V,Ø ops rest::k,Ä,n⟩,D,_,this,⟨U,re.r (l.fG q) _ T,U,U,KO q p⟩,q,E,H,I,λe z=>J e (by have:=ZnM z;rwa[N]at this),K⟩
 |@Ch f t k L _ ops i rest o _ ho hw hr=>
  rw[KF _ _ l]at hw;let⟨B,x',D,es,q,E,C,F,H,I,J,K⟩:=(uF ok.fV _<|fg ho).oD hz hb hG l m hl hr O;let⟨M,N⟩:=KP C;cases F with
  |vy=>
   have:=ZnN (main:=main) (b:=base f) (k:=k) (cs:=n.map (λx=>fm x.1 x.2.1 x.2.2)++cs) (rest:=rest) ho hw (by simp[base]) M;rw[uB]at this;exact⟨B,⟨f,re r o.dst ĭ,Ø ops rest::k,Ä,n⟩,D,_,this,⟨U,re.r (l.fG q) _<|GV B,U,U,KO q p⟩,q,E,H,I,λe z=>J e (by have:=ZnM z;rwa[N]at this),K⟩
 |@uA f t k L _ ops i rest o g args fn c _ ho hw hr hf hbd=>
  rw[KF _ _ l]at hw;let⟨B,x',D,es,q,E,C,F,H,I,J,K⟩:=(uF ok.fV _<|fg ho).oD hz hb hG l m hl hr O;let⟨M,N⟩:=KP C;cases F with
  |uA _ vC=>
   have:=aN (main:=main) (b:=base f) (k:=k) (cs:=n.map (λx=>fm x.1 x.2.1 x.2.2)++cs) (rest:=rest) ho hw (by simp[base]) M;rw[ZnO _ hf hbd]at this;rename_i WQ;refine⟨B,⟨g,WQ++Ĩ (fn.ntmps-WQ.size) ĭ,[ā c],Ä,(f,r,Ø ops (i::rest)::k)::n⟩,D,_,this,⟨U,?_,U,U,.yx ⟨U,l.fG q,U⟩ (KO q p)⟩,q,E,H,I,λe z=>J e (by have:=ZnM z;rwa[N]at this),K⟩;rw[vC.r];exact vC.H<|WN _
 |@Ex f t k L _ ops i rest ho=>exact .r (s1':=⟨f,r,Ø ops rest::k,Ä,n⟩) m (by simp[St.nZ,fm,base,G,à,ø,Frame.at,ho,ai]) ⟨U,l,U,U,p⟩|@yD f t k L _ g t2' ops i rest k3 v fn _ hf hr=>
  cases p with
  |yx hx p=>
   rename_i y WR;let⟨g',t2,k2⟩:=y;let⟨Q,vD,S⟩:=hx;simp only at Q S vD;subst Q S;let⟨B,V,D,es,q,E,C,F,H,I,J,K⟩:=(WO fn l).gS m hl hr #[];let⟨M,N⟩:=KP C;refine⟨B,⟨g,re t2 ((ops[i]?).bind (·.dst)) V,Ø ops rest::k3,Ä,WR⟩,D,seen P f es,?_,⟨U,re.r (vD.fG q) _ F,U,U,KO q p⟩,q,E,H,I,λe z=>J e<|mem_seen z,K⟩;have xl:=Ż (base g) ⟨t2,[]⟩ ops i rest k3 V;rw[uB]at xl;have qw:=G1 (main:=main) (k:=k) (c:=fm g t2<|Ø ops (i::rest)::k3) (cs:=WR.map (λx=>fm x.1 x.2.1 x.2.2)++cs) hf C;unfold fm at qw;rwa[xl,cA]at qw
end
inductive rO(P:Ó)(Post:Ã->Ç->Prop):St->Ç->Prop|jq {f:Û} {t:Array Ã} {k:List ŉ} {u:Ç} {fn:Func} {v:Ã} (hf:P.funcs[f]?=À fn) (hr:∀tp d,(Ė fn t).run P {u with tape:=tp,drawn:=d}=Ē v {u with tape:=tp,drawn:=d}) (hp:Post v u):rO P Post ⟨f,t,k,È,[]⟩ u|kx {s:St} {u:Ç} (S:Μ->Nat->St) (U:Μ->Nat->Ç) (h:∀tp d,LS P s {u with tape:=tp,drawn:=d} (S tp d)<|U tp d) (hc:∀tp d,Et u<|U tp d) (ih:∀tp d,rO P Post (S tp d)<|U tp d):rO P Post s u
structure As(M:Nat->Prop)(w w₁:Ç):Prop where
 r:w.heap.size<=w₁.heap.size
 C:∀j,M j->w₁.heap[j]?=w.heap[j]?
def KQ(O b:Nat->Prop)(e:ê):Prop:=
 (∃a:Õ,e.loc=é a/\e.sync=Ä/\(O a.block\/(b a.block/\e.write=Ä)))\/e.loc=Ŋ Zn6\/∃f,e.loc=Ŋ (.extern f)
structure KR(Rd O O':Nat->Prop)(w w':Ç)(es:Array ê):Prop where
 r:w.heap.size<=w'.heap.size
 M:∀j,O j->O' j
 I:∀j,O' j->O j\/w.heap.size<=j
 fM:∀j,O' j->j<w'.heap.size
 lB:∀j,j<w.heap.size->¬O j->w'.heap[j]?=w.heap[j]?
 N:w'.os=w.os
 S:w'.output=w.output
 Y:w'.tape=w.tape
 C:∀e∈es,KQ O' Rd e
inductive xm(P:Ó)(main:Bool)(Rd:Nat->Prop)(Stop:(Nat->Prop)->Ì->Ç->Prop):(Nat->Prop)->Ì->Ç->Prop
 |fS {O:Nat->Prop} {g:Ì} {w:Ç} (h:∀w₁,As (λj=>O j\/Rd j) w w₁->Stop O g w₁):xm P main Rd Stop O g w
 |kx {O:Nat->Prop} {g:Ì} {w:Ç} (G':Ç->Ì) (W':Ç->Ç) (E':Ç->Array ê) (O':Ç->Nat->Prop) (jh:g.status=Í)
  (h:∀w₁,As (λj=>O j\/Rd j) w w₁->à P main g w₁=σ (G' w₁) (W' w₁) (E' w₁))
  (hd:∀w₁,As (λj=>O j\/Rd j) w w₁->KR Rd O (O' w₁) w₁ (W' w₁) (E' w₁))
  (ih:∀w₁,As (λj=>O j\/Rd j) w w₁->xm P main Rd Stop (O' w₁) (G' w₁) (W' w₁)):xm P main Rd Stop O g w
instance:Nonempty fL:=⟨⟨λ_ _=>False,0⟩⟩
instance:Nonempty St:=⟨⟨0,#[],[],Ä,[]⟩⟩
instance:Nonempty (Goroutine×World×Array Event×(Nat->Prop)):=⟨(default,default,#[],λ_=>False)⟩
section
variable{Y:fL}{b Rd:Nat->Prop}{main:Bool}{Stop:(Nat->Prop)->Ì->Ç->Prop}
def xm.mk(i:g.status=Í)(h:∀a,As (λj=>X j\/Rd j) w a->∃c b d e,à P main g a=σ c b d/\KR Rd X e a b d/\xm P main Rd Stop e c b):xm P main Rd Stop X g w:=by
 let p:=λ(a:Ç) (x:Goroutine×World×Array Event×(Nat->Prop))=>à P main g a=σ x.1 x.2.1 x.2.2.1/\KR Rd X x.2.2.2 a x.2.1 x.2.2.1/\xm P main Rd Stop x.2.2.2 x.1 x.2.1
 have f:∀a,As (λj=>X j\/Rd j) w a->p a (Classical.epsilon<|p a):=λa r=>Classical.epsilon_spec (let⟨c,b,d,e,h⟩:=h a r;⟨(c,b,d,e),h⟩);exact .kx (λa=>(Classical.epsilon<|p a).1) (λa=>(Classical.epsilon<|p a).2.1) (λa=>(Classical.epsilon<|p a).2.2.1) (λa=>(Classical.epsilon<|p a).2.2.2) i (λa r=>(f a r).1) (λa r=>(f a r).2.1) λa r=>(f a r).2.2
def rP(Y:fL)(b:Nat->Prop)(u w:Ç):Prop:=jI Y b {u with tape:=w.tape,drawn:=w.drawn} w
def fE(Y:fL)(b:Nat->Prop)(j:Nat):Prop:=(∃i,Y i j)/\¬b j
theorem rP.G(h:rP Y b u w)(p:∀i j,Y i j->b j->Rd j)(r:As (λj=>fE Y b j\/Rd j) w W):rP Y b u W:=by refine⟨U,U,h.C,h.I,â h.M r.r,λi j a=> ?_⟩;let⟨c,d,e,f,g,k,l,m,n,o⟩:=h.r i j a;refine⟨c,d,e,f,g,k,?_,m,n,o⟩;rwa[r.C j ?_];by_cases s:b j;grind;exact Á ⟨⟨i,a⟩,s⟩
def jI.to0(h:jI Y b u w):rP Y b u w:=⟨U,U,h.C,h.I,h.M,h.r⟩
def jI.xn(h:jI Y b u w)(tp:Μ)(d:Nat):rP Y b {u with tape:=tp,drawn:=d} w:=⟨U,U,h.C,h.I,h.M,h.r⟩
theorem afJ{c:fL}(k:∀i j,c i j->b j->Rd j){e:ê}(h:B9 c b e):KQ (fE c b) Rd e:=by obtain⟨a,i,d,f,g,l⟩|h|h:=h;by_cases s:b a.block;refine Á ⟨a,d,g,Å ⟨k _ _ f s,?_⟩⟩;grind;exact Á ⟨a,d,g,Á ⟨⟨i,f⟩,s⟩⟩;exact Å<|Á h;exact Å<|Å h
def WS{c:fL}(f:Y.r c)(g:∀i j,c i j->Y i j\/(u.heap.size<=i/\w.heap.size<=j))(k:jI c b W jX)(d:pH Y b w jX)(l:∀e∈V,B9 c b e)(m:∀i j,c i j->b j->Rd j): KR Rd (fE Y b) (fE c b) w jX V where
 r:=d.r;M j h:=⟨let⟨i,a⟩:=h.1;⟨i,f.1 _ _ a⟩,h.2⟩;I j h:=by let⟨⟨i,a⟩,s⟩:=h;obtain x|x:=g i j a;exact Á ⟨⟨i,x⟩,s⟩;exact Å x.2
 fM j h:=by let⟨⟨i,a⟩,_⟩:=h;let⟨_,_,_,_,_,_,x,_⟩:=k.r i j a;exact(fp.1 x).1
 lB j hj hn:=by by_cases x:∃i,Y i j;by_cases s:b j;exact d.N j s hj;exact absurd ⟨x,s⟩ hn;exact d.C j hj λi a=>x ⟨i,a⟩
 N:=d.I;S:=d.M;Y:=d.S;C e he:=afJ m<|l e he
def G2(Y:fL)(b:Nat->Prop)(f:Ã->Ç->Prop)(c:Ċ)(h:List Ċ)(O:Nat->Prop)(g:Ì)(w:Ç):Prop:=
 ∃(a:fL)(d:Ç)(v e:Ã),Y.r a/\O=fE a b/\rP a b d w/\fI a v e/\f v d/\g=G (c.finish e) h
def rO.OV(hz:pI P)(hP:rf P X pJ){s:St}(h:rO P vQ s u):∀{Y G3:fL} {s':St} {w:Ç},G3.r Y->Y.gA=P.globals.size->(∀g,X g->Y g g)->KN Y s s'->lA P X pJ s->rP Y b u w->(∀j,b j->j<w.heap.size)->(∀i j,Y i j->b j->Rd j)->∀(c:Ċ)(cs:List Ċ),xm P main Rd (G2 G3 b vQ c cs) (fE Y b) (s'.nZ<|c::cs) w:=by
 have hE:∀o a u f E F,oC P X pJ o->(ã (Ü a) o).run P u=Ē (Ŗ f E) F->pJ f:=by exact λo a u f E F d G=>d.C a u f E F G
 induction h with
 |@jq f t k u fn v hf G hp=>
  intro Y G3 s' w H I J K L M N m c cs;let⟨f',t',k',ret',L'⟩:=s';let⟨T,V,W,e3,hL⟩:=K;simp only at T W e3 V hL;subst T W e3;cases hL;refine .mk rfl λn r=> ?_;have d:=λj s=>ff (N j s) r.r;let⟨y,v',w',es,z,B,l,C,p,D,O,h8⟩:=(WO fn V).gS (M.G m r) d (G _ _) #[];have q:=λi j Q s=>(B i j Q).elim (λx=>m i j x s) λx=>absurd (d j s) Z;refine⟨_,w',_,fE y b,G1 hf l,WS z B p D (λe he=>O e (by have:=mem_seen he;simpa using this)) q,.fS λG4 e=>⟨y,u,v,v',fL.C H z,rfl,rP.G (p.xn _ _) q e,C,hp,rfl⟩⟩
 |@kx s u S U h hc _ ih=>
  intro Y G3 s' w H I J K L M N m c cs;refine .mk rfl λn r=> ?_;have d:=λj s=>ff (N j s) r.r;let⟨y,G,e,es,z,B,l,C,p,D,O,h8⟩:=(h n.tape n.drawn).oD hz I J K L (M.G m r) d (hc n.tape n.drawn) main<|c::cs;have q:=λi j Q s=>(C i j Q).elim (λx=>m i j x s) λx=>absurd (d j s) Z;refine⟨_,e,es,fE y b,z,WS l C p D O q,ih _ _ (fL.C H l) (l.2.2.trans I) (λg x=>l.1 _ _<|J g x) B ((h _ _).ok hP hE L) p.to0 (λj s=>ff (d j s) D.r) q c cs⟩
end
def rQ:Ċ:={(default:Ċ)with fn:=0,todo:=[ā<|Zog ""],defers:=[{target:=.nil,args:=#[]}],mode:=.run,kind:=.normal}
def St.C(s:St):Ċ:=if s.r then{fm s.f s.t s.k with mode:=.returning}else fm s.f s.t s.k
def fM(L:List (FuncId×Array Value×List ŉ)):List Ċ:=L.map (λx=>fm x.1 x.2.1 x.2.2)++[rQ]
def LM(s:St)(u:Ç):a8:=aj s.C (fM s.L) u
section
variable{GL:Nat->Prop}{fu:Û->Prop}{Q:Ã->Ç->Prop}
def Ez{cs:List Ċ}{a:Ċ}{es:Array ê}(h:à P È (G f cs) w=σ (G a qX) u es):step P (aj f cs w)=Į (aj a qX u):=step_lone_go<|by show(à P È (G f cs) w).bare=_;rw[h];rfl
def KS{fr:Ċ}{cs:List Ċ}{o:Outcome}{es:Array ê}(h:à P È (G fr cs) w=.ended o u es):step P (aj fr cs w)=.ended o u:=step_lone_ended<|by show(à P È (G fr cs) w).bare=_;rw[h];rfl
def oE(P:Ó)(Q:Ã->Ç->Prop)(n:Nat)(m:a8):Prop:=∃b v a,runN P n m=Į (aj b [rQ] a)/\b.leaving P a (.returned v)/\Q v a
def oE.r{m a:a8}(h:oE P Q (n+1) m)(b:step P m=Į a):oE P Q n a:=by let⟨c,v,d,e,f⟩:=h;exact⟨c,v,d,by simpa only[runN,b]using e,f⟩
def oE.M{m:a8}{o:Outcome}(h:oE P Q (n+1) m)(b:step P m=.ended o w):False:=by let⟨c,v,d,a,e⟩:=h;simp only[runN,b]at a;cases a
theorem WT{fr:Ċ}{cs:List Ċ}(h:aj fr cs w=aj f qX u):fr=f/\cs=qX/\w=u:=by simp only[aj,Machine.mk.injEq,Array.mk.injEq,List.cons.injEq,Goroutine.mk.injEq]at h;grind
theorem oE.C{cs:List Ċ}(h:oE P Q 0 (aj f cs w)):cs=[rQ]/\∃v,f.leaving P w (.returned v)/\Q v w:=by let⟨b,v,c,a,d,e⟩:=h;simp only[runN,Stepped.next.injEq]at a;grind [WT]
def afK(h:oE P Q n (aj rQ [] u)):False:=by
 cases n with
 |zero=>let⟨a,_⟩:=h.C;cases a
 |succ n=>exact h.M<|KS (es:=#[])<|by simp[G,à,ø,rQ];exact⟨U,U⟩
def afL{a:List PanicEntry}(h:oE P Q n (aj (rQ.raise a) [] u)):False:=by
 cases n with
 |zero=>let⟨b,_⟩:=h.C;cases b
 |succ n=>exact h.M<|KS (es:=#[])<|by simp[G,à,rQ,Ń,Zoh,callDeferred];exact⟨U,U⟩
def afM(b:List PanicEntry):∀(L:List (FuncId×Array Value×List ŉ))(f:Û)(t:Array Ã)(k:List ŉ)(u:Ç)(n:Nat),(∃a,P.funcs[f]?=À a)->(∀x∈L,∃a,P.funcs[x.1]?=À a)->¬oE P Q n (aj ((fm f t k).raise b) (fM L) u):=by
 intro L
 induction L with
 |nil=>
  intro f t k u n ⟨a,c⟩ _ h;cases n with
  |zero=>let⟨_,v,y,_⟩:=h.C;exact absurd y.1<|by simp[Ń,fm,Frame.at]|succ n=>
   have d:step P (aj ((fm f t k).raise b) (fM []) u)=Į (aj (rQ.raise b) [] u):=Ez (es:=#[]) (by simp[G,à,fm,base,Frame.at,Ń,Zoh,ZnY,c,fM]);exact afL<|h.r d
 |cons x L e=>
  intro f t k u n ⟨a,c⟩ d h;cases n with
  |zero=>let⟨_,v,y,_⟩:=h.C;exact absurd y.1<|by simp[Ń,fm,Frame.at]|succ n=>
   exact e x.1 x.2.1 x.2.2 u n (d x<|eZ ..) (λy v=>d y<|fi _ v)<|h.r<|Ez (es:=#[])<|by simp[G,à,fm,base,Frame.at,Ń,Zoh,ZnY,c,fM]
structure Ok(P:Ó)(GL:Nat->Prop)(fu:Û->Prop)(s:St):Prop where
 r:lA P GL fu s
 I:fu s.f
 C:∀x∈s.L,fu x.1/\∃ops i rest k,x.2.2=Ø ops (i::rest)::k
def vE(P:Ó)(fu:Û->Prop):Prop:=∀f,fu f->∃a c,P.funcs[f]?=À a/\a.body=À c
theorem OW{t:Array Ã}:fZ P (Ė s t):=by unfold Ė;grind [jC,WC,jL,afb,ae9]
def afN(k:lz P xX o.op){n:ŷ}(d:(ã xX o).run P u=Ē n W):(∃v,n=ä v)\/n=ς\/∃f c,n=Ŗ f c:=by
 have i:∀{m:ă Ã} {x:ŷ} {j l:Ç},(m>>=λv=>pure (ä v):ă ŷ).run P j=Ē x l->∃v,x=ä v:=by
  intro m x j l e;rw[Æ]at e;cases g:m.run P j with
  |ok a w=>rw[g]at e;cases e;exact⟨a,U⟩
  |halt z w=>rw[g]at e;cases e
 let⟨p,e,q,s,B,guard⟩:=o;simp only at k;unfold ã at d;simp only[]at d;cases k with
 |Al x|GM x=>cases d;exact Á ⟨_,U⟩
 |yy c a b=>
  rw[Æ]at d;cases g:(bq<|xX c).run P u with
  |ok a w=>rw[g]at d;cases d;exact Á ⟨_,U⟩
  |halt z w=>rw[g]at d;cases d
 |jN t a x=>
  rw[Æ]at d;cases g:(ġ t (xX a)<|xX x).run P u with
  |ok a w=>rw[g]at d;cases d;exact Å<|Á U
  |halt z w=>rw[g]at d;cases d
 |GN x=>
  simp only[]at d;split at d;all_goals first
   |(cases d;exact Á ⟨_,U⟩)|exact absurd d<|tC _ _ _ _
   |(
    split at d;all_goals first
     |(cases d;exact Á ⟨_,U⟩)|exact absurd d<|tC _ _ _ _
     |(
      rw[Æ,õ]at d;simp only[É]at d;rw[Æ]at d;revert d;generalize Ù P (ah _ _ _ _) u=z;intro d;cases z with
      |halt z w=>cases d
      |ok a w=>
       simp only[É]at d;split at d;rw[Æ]at d;cases d;cases d;exact Á ⟨_,U⟩))
 |GO x a|GQ x a|GR x y a|GU x y b g h=>simp only[ć,Ę,ħ,pure_bind,eJ,dR,dG]at d;exact Á<|i d|iA g C a b h=>
  let⟨D,r,w,z⟩:=h;simp only[ć,b,ĝ,Ę,pure_bind,cA,dK,ģ]at d;rw[Æ,õ]at d;simp only[É,r,w,z,Î,if_false]at d;cases d;exact Å<|Å ⟨_,_,U⟩
 |Ev e t x y r h|_=>exact Á<|i d
def oE.I(_hP:rf P GL fu)(hF:vE P fu){n:Nat}{s:St}{u:Ç}(ok:Ok P GL fu s)(hu:sH u)(h:oE P Q n (LM s u)): (n=0/\s.r=È/\s.L=[]/\∃fn v,P.funcs[s.f]?=À fn/\(Ė fn s.t).run P u=Ē v u/\Q v u)\/∃m s' u',n=m+1/\LS P s u s' u'/\oE P Q m (LM s' u'):=by
 let⟨f,t,k,ret,L⟩:=s;let⟨⟨top,lw⟩,fs,ls⟩:=ok;simp only at top lw fs ls;let⟨fn,c,hfn,hbody⟩:=hF f fs;cases n with
 |zero=>
  let⟨h1,v,h2,h3⟩:=h.C;have hL:L=[]:=by simp only[fM]at h1;simp_all
  subst hL;let⟨m1,_,_,fn',m4,m5⟩:=h2;have afO:ret=È:=by
   cases ret with|true=>rfl|false=>simp[St.C,fm,Frame.at]at m1
  subst afO;exact Á ⟨U,U,U,fn',v,m4,m5,h3⟩
 |succ n=>
  have go:∀{s':St} {u':Ç},LS P ⟨f,t,k,ret,L⟩ u s' u'->(∃es,à P È ((⟨f,t,k,ret,L⟩:St).nZ [rQ]) u=σ (s'.nZ [rQ]) u' es)->(n+1=0/\ret=È/\L=[]/\∃fn v,P.funcs[f]?=À fn/\(Ė fn t).run P u=Ē v u/\Q v u)\/∃m s' u',n+1=m+1/\LS P ⟨f,t,k,ret,L⟩ u s' u'/\oE P Q m (LM s' u'):=by intro s' u' hl ⟨es,he⟩;exact Å ⟨n,s',u',U,hl,h.r<|Ez he⟩
  have bad:(∃o w es,à P È ((⟨f,t,k,ret,L⟩:St).nZ [rQ]) u=.ended o w es)->False:=λ⟨_,_,_,he⟩=>h.M<|KS he;cases ret with
  |true=>
   cases hr:(Ė fn t).runT P u #[]with
   |mk r es=>
    cases r with
    |halt z w=>
     refine absurd ?_ id;cases z<;>exact bad ⟨_,_,_,by simp[St.nZ,fm,base,G,à,Zoh,Frame.at,hfn,hr,Ţ,-ţ];exact⟨U,U,U⟩⟩
    |ok v u'=>
     cases L with
     |nil=>
      exact absurd (h.r<|Ez<|G1 hfn hr) afK|cons x L=>
      let⟨g,t',k'⟩:=x;let⟨_,ops,i,rest,k2,e⟩:=ls _<|eZ ..;simp only at e;subst e;refine go (.yD hfn (by rw[<-Ÿ P (Ė fn t) u #[],hr])) ⟨seen P f es,?_⟩;have qw:=G1 (main:=È) (k:=k) (c:=fm g t'<|Ø ops (i::rest)::k2) (cs:=fM L) hfn hr;have xl:=Ż (base g) ⟨t',[]⟩ ops i rest k2 v;rw[uB]at xl;unfold fm at qw;rwa[xl]at qw
  |false=>
   cases k with
   |nil=>exact go .qY ⟨_,Ar⟩|cons it k=>
    have ti:=top it<|eZ ..;cases ti with
    |Cf _|yA _|Ao _=>exact go (by constructor) ⟨_,Ar⟩|tE hc=>
     cases hc with
     |qe|vy|Am _|uC _ _|uD _ _|An _|Ap _=>exact go (by constructor) ⟨_,Ar⟩|pK WM=>exact(bad ⟨_,_,_,by simp[St.nZ,fm,base,G,à,ø,Frame.at];exact⟨U,U,U⟩⟩).elim|yB id=>
      cases he:ZnJ id k with|none=>exact(bad ⟨_,_,_,by simp[St.nZ,fm,base,G,à,ø,Frame.at,he];exact⟨U,U,U⟩⟩).elim|some k'=>exact go (.yB he) ⟨_,by simp[St.nZ,fm,base,G,à,ø,Frame.at,he];rfl⟩
     |yC l=>
      cases he:ZnK l k with|none=>exact(bad ⟨_,_,_,by simp[St.nZ,fm,base,G,à,ø,Frame.at,he];exact⟨U,U,U⟩⟩).elim|some k'=>exact go (.yC he) ⟨_,by simp[St.nZ,fm,base,G,à,ø,Frame.at,he];rfl⟩
     |@vA c x y _ _ _=>
      by_cases hb:∃b,Ü ⟨t,[]⟩ c=Ĭ b;let⟨b,hb⟩:=hb;exact go (.vA hb) ⟨_,ZnL hb⟩;refine(bad ⟨.stuck "cond: bool expected" ((fm f t<|ā (aK c x y)::k).pos P),u,#[],?_⟩).elim;have qZ:(fm f t<|ā (aK c x y)::k).eval c=Ü ⟨t,[]⟩ c:=Frame.eval_at _ _ _ _;have hx:à P È (G (fm f t<|ā (aK c x y)::k)<|fM L) u=(match(fm f t<|ā (aK c x y)::k).eval c with|Ĭ b=>σ (G (fm f t<|ā (if b then x else y)::k)<|fM L) u|_=>.ended (.stuck "cond: bool expected" ((fm f t (ā (aK c x y)::k)).pos P)) u):=by
       simp only[G,à,ø,fm,Frame.at];rfl
      apply hx.trans;rw[qZ];generalize Ü ⟨t,[]⟩ c=v at hb;cases v<;>first|exact absurd ⟨_,U⟩ hb|rfl
     |vB id draw _=>
      cases draw with|false=>exact go .vB ⟨_,Ar⟩|true=>exact go .Cg ⟨_,Ť⟩
    |Cj is hO=>
     rename_i ops;cases is with
     |nil=>exact go .G0 ⟨_,Ar⟩|cons i rest=>
      cases ho:ops[i]? with
      |none=>exact go (.Ex ho) ⟨_,by simp[St.nZ,fm,base,G,à,ø,Frame.at,ho,ai];rfl⟩|some o=>
       cases hw:ē o (Ĳ ops t)with
       |false=>
        have:=Ι (P:=P) (main:=È) (b:=base f) (a:=⟨t,[]⟩) (k:=k) (cs:=fM L) (w:=u) (rest:=rest) ho hw;rw[uB]at this;exact go (.Ew ho hw) ⟨_,this⟩|true=>
        have oo:=hO o<|fg ho;have oF:=stepG_oper (P:=P) (main:=È) (b:=base f) (a:=⟨t,[]⟩) (k:=k) (cs:=fM L) (w:=u) (rest:=rest) ho hw;cases hr:(ã (Ü ⟨t,[]⟩) o).runT P u #[]with
        |mk r es=>
         have qW:(ã (Ü ⟨t,[]⟩) o).run P u=r:=by rw[<-Ÿ P _ u #[],hr]
         cases r with
         |halt z w=>
          have hz:=((oo.r ⟨t,[]⟩).1 u hu).2 z w qW;cases z with
          |panic v=>
           have hs:step P (LM ⟨f,t,Ø ops (i::rest)::k,Ä,L⟩ u)=Į (aj ((fm f t<|Ø ops (i::rest)::k).raise [{v,recovered:=Ä}]) (fM L) w):=Ez (es:=seen P f es) (oF.trans<|by simp[aO,hr,G,Frame.at,fm,base,Ţ,Ń,-ţ]);exact absurd (h.r hs) (afM _ L f t _ w n ⟨fn,hfn⟩ λx hx=>let⟨fn',_,h1,_⟩:=hF x.1 (ls x hx).1;⟨fn',h1⟩)|stuck s=>exact(bad ⟨_,_,_,oF.trans<|by simp[aO,hr,Frame.at,base,Ţ,-ţ];exact⟨U,U,U⟩⟩).elim|unsupported un=>
           cases un<;>first|(cases hz;done)|exact(bad ⟨_,_,_,oF.trans<|by simp[aO,hr,Frame.at,base,Ţ,-ţ];exact⟨U,U,U⟩⟩).elim
          |_=>cases hz
         |ok nx u'=>
          obtain⟨v,rfl⟩|rfl|⟨g,args,rfl⟩:=oo.I ⟨t,[]⟩ u nx u' qW;have:=aL (main:=È) (b:=base f) (k:=k) (cs:=fM L) (rest:=rest) ho hw (by simp[base]) qW;rw[uB]at this;exact go (.qc ho hw qW) ⟨_,this⟩;have:=ZnN (main:=È) (b:=base f) (k:=k) (cs:=fM L) (rest:=rest) ho hw (by simp[base]) qW;rw[uB]at this;exact go (.Ch ho hw qW) ⟨_,this⟩;let⟨fn',c',h1,h2⟩:=hF g<|oo.C ⟨t,[]⟩ u g args u' qW;have:=aN (main:=È) (b:=base f) (k:=k) (cs:=fM L) (rest:=rest) ho hw (by simp[base]) qW;rw[ZnO _ h1 h2]at this;exact go (.uA ho hw qW h1 h2) ⟨_,this⟩
end
def kU(u:Ç):Prop:=∀(i:Nat)(o:Obj),u.heap[i]?=À o->¬Ak o
def kU.sH(h:kU u):sH u:=λi _ _ a=>h i _ a trivial
def xo(a:Ã->Ç->Prop):Prop:=∀v u T D,a v u->a v ((World.tp u T D))
section
variable{GL:Nat->Prop}{fu:Û->Prop}{Post:Ã->Ç->Prop}
def LS.OV{s s':St}(h:LS P s u s' W)(cs:List Ċ):∃j,à P È (s.nZ cs) u=σ (s'.nZ cs) W j:=by
 cases h with
 |@vA f t k L _ c x y b hc=>exact⟨_,ZnL hc⟩|yB e|yC e=>exact⟨_,by simp[St.nZ,fm,base,G,à,ø,Frame.at,e];rfl⟩|@Cg f t k L _ id ops=>exact⟨_,Ť⟩|@Ex f t k L _ ops i rest ho=>exact⟨_,by simp[St.nZ,fm,base,G,à,ø,Frame.at,ho,ai];rfl⟩|@Ew f t k L _ ops i rest o ho hw=>
  have:=Ι (P:=P) (main:=È) (b:=base f) (a:=⟨t,[]⟩) (k:=k) (cs:=L.map (λx=>fm x.1 x.2.1 x.2.2)++cs) (w:=u) (rest:=rest) ho hw;rw[uB]at this;exact⟨_,this⟩|@qc f t k L _ ops i rest o v _ ho hw hr=>
  have:=aL (main:=È) (b:=base f) (k:=k) (cs:=L.map (λx=>fm x.1 x.2.1 x.2.2)++cs) (rest:=rest) ho hw (by simp[base]) hr;rw[uB]at this;exact⟨_,this⟩|@Ch f t k L _ ops i rest o _ ho hw hr=>
  have:=ZnN (main:=È) (b:=base f) (k:=k) (cs:=L.map (λx=>fm x.1 x.2.1 x.2.2)++cs) (rest:=rest) ho hw (by simp[base]) hr;rw[uB]at this;exact⟨_,this⟩|@uA f t k L _ ops i rest o g args fn c _ ho hw hr hf hb=>
  have:=aN (main:=È) (b:=base f) (k:=k) (cs:=L.map (λx=>fm x.1 x.2.1 x.2.2)++cs) (rest:=rest) ho hw (by simp[base]) hr;rw[ZnO _ hf hb]at this;exact⟨_,this⟩|@yD f t k L _ g t' ops i rest k' v fn _ hf hr=>
  cases l:(Ė fn t).runT P u #[]with
  |mk r j=>
   have e:r=Ē v W:=by rw[<-hr,<-Ÿ P (Ė fn t) u #[],l]
   subst e;have d:=G1 (main:=È) (k:=k) (c:=fm g t'<|Ø ops (i::rest)::k') (cs:=L.map (λx=>fm x.1 x.2.1 x.2.2)++cs) hf l;have x:=Ż (base g) ⟨t',[]⟩ ops i rest k' v;rw[uB]at x;unfold fm at d;rw[x]at d;exact⟨_,d⟩
 |_=>exact⟨_,Ar⟩
def LS.xp{s a:St}(h:LS P s u a w):Go.step P (LM s u)=Į (LM a w):=let⟨_,b⟩:=h.OV [rQ];Ez b
def LS.OX(j:rf P GL fu){s g:St}(h:LS P s u g w)(ok:Ok P GL fu s):Ok P GL fu g:=by
 have i:∀o a u f e w,oC P GL fu o->(ã (Ü a) o).run P u=Ē (Ŗ f e) w->fu f:=by exact λo a u f e w c d=>c.C a u f e w d
 refine⟨h.ok j i ok.r,?_,?_⟩;cases h with|uA c _ d _ _=>exact i _ _ _ _ _ _ (uF ok.r.fV _<|fg c) d|yD=>exact(ok.C _<|eZ ..).1|_=>exact ok.I
 cases h with
 |uA c _ d _ _=>
  intro x b;obtain rfl|b:=eK.1 b;exact⟨ok.I,_,_,_,_,U⟩;exact ok.C x b|yD=>exact λx b=>ok.C x<|fi _ b|_=>exact ok.C
def LS.kd{s c:St}{u b:Ç}(h:LS P s u c b)(ok:lA P GL fu s)(a:sH u):Kd u b:=by
 cases h with|qc k _ i|Ch k _ i|uA k _ i _ _=>exact(((uF ok.fV _<|fg k).r _).1 u a).1 _ _ i|yD _ i=>exact(OW.1 u a).1 _ _ i|Cg=>exact⟨id,λi o h k=>⟨o,h,k⟩⟩|_=>exact Kd.gy u
def LS.afP{s o:St}{u p:Ç}{T:Μ}{D:Nat}(h:LS P s ((World.tp u T D)) o p)(ok:lA P GL fu s):∃n v,p=(World.tp v T<|D+n)/\∀a b,xk T D a b n->LS P s ((World.tp u a b)) o ((World.tp v a<|b+n)):=by
 cases h with
 |qc c e g=>
  obtain⟨n,v,i⟩:=((uF ok.fV _<|fg c).r ⟨_,[]⟩).2 u T D;obtain⟨j,l⟩:=i _ _ g;exact⟨n,v,j,λa b d=> .qc c e (l a b d)⟩|Ch c e g=>
  obtain⟨n,v,i⟩:=((uF ok.fV _<|fg c).r ⟨_,[]⟩).2 u T D;obtain⟨j,l⟩:=i _ _ g;exact⟨n,v,j,λa b d=> .Ch c e (l a b d)⟩|uA c e g m q=>
  obtain⟨n,v,i⟩:=((uF ok.fV _<|fg c).r ⟨_,[]⟩).2 u T D;obtain⟨j,l⟩:=i _ _ g;exact⟨n,v,j,λa b d=> .uA c e (l a b d) m q⟩|yD m g=>
  obtain⟨n,v,i⟩:=(OW).2 u T D;obtain⟨j,l⟩:=i _ _ g;exact⟨n,v,j,λa b d=> .yD m (l a b d)⟩|@Cg f t k L _ id ops=>
  refine⟨1,u,U,λa b d=> ?_⟩;have g:=LS.Cg (P:=P) (f:=f) (t:=t) (k:=k) (L:=L) (u:=(World.tp u a b)) (id:=id) (ops:=ops);have i:((World.tp u a b)).tape ((World.tp u a b)).drawn=((World.tp u T D)).tape ((World.tp u T D)).drawn:=d.nI;rwa[i]at g|qY=>exact⟨0,u,U,λ_ _ _=> .qY⟩|qe=>exact⟨0,u,U,λ_ _ _=> .qe⟩|vy=>exact⟨0,u,U,λ_ _ _=> .vy⟩|Am=>exact⟨0,u,U,λ_ _ _=> .Am⟩|Cf=>exact⟨0,u,U,λ_ _ _=> .Cf⟩|yA=>exact⟨0,u,U,λ_ _ _=> .yA⟩|uC=>exact⟨0,u,U,λ_ _ _=> .uC⟩|vA h=>exact⟨0,u,U,λ_ _ _=> .vA h⟩|uD=>exact⟨0,u,U,λ_ _ _=> .uD⟩|An=>exact⟨0,u,U,λ_ _ _=> .An⟩|Ao=>exact⟨0,u,U,λ_ _ _=> .Ao⟩|Ap=>exact⟨0,u,U,λ_ _ _=> .Ap⟩|yB h=>exact⟨0,u,U,λ_ _ _=> .yB h⟩|yC h=>exact⟨0,u,U,λ_ _ _=> .yC h⟩|vB=>exact⟨0,u,U,λ_ _ _=> .vB⟩|G0=>exact⟨0,u,U,λ_ _ _=> .G0⟩|Ew c e=>exact⟨0,u,U,λ_ _ _=> .Ew c e⟩|Ex c=>exact⟨0,u,U,λ_ _ _=> .Ex c⟩
def oE.iH(c:rf P GL fu)(hF:vE P fu)(g:∀v u,vQ v u->kU u):∀(n:Nat) {s:St} {u:Ç},Ok P GL fu s->sH u->oE P vQ n (LM s u)->kU u:=by
 intro n
 induction n with
 |zero=>
  intro s u a b h;obtain⟨_,_,_,_,v,_,_,d⟩|⟨m,_,_,e,_⟩:=h.I c hF a b;exact g v u d;cases e
 |succ n j=>
  intro s u a b h;obtain⟨e,_⟩|⟨m,w,x,e,d,k⟩:=h.I c hF a b;cases e;cases e;have f:=d.kd a.r b;intro i o l p;let⟨q,r,t⟩:=f.C i o l p;exact j (d.OX c a) (f.r b) k i q r t
def rO.afQ(b:xo Post){s:St}(h:rO P Post s u)(T:Μ)(D:Nat):rO P Post s ((World.tp u T D)):=by
 cases h with|jq a S c=>exact .jq a S (b _ _ T D c)|kx S a h c d=>exact .kx S a h c d
def WU(m:xo Post)(o:∀v u,vQ v u->Post v u){s:St}(c:s.r=È)(b:s.L=[])(e:∃g v,P.funcs[s.f]?=À g/\(Ė g s.t).run P ((World.tp u xQ i))=Ē v ((World.tp u xQ i))/\vQ v ((World.tp u xQ i))):rO P Post s u:=by
 obtain⟨f,t,k,z,L⟩:=s;simp only at c b;subst c b;obtain⟨g,v,p,q,r⟩:=e;refine .jq (v:=v) p (λh d=> ?_) ?_;obtain⟨n,w,c⟩:=(OW).2 u xQ i;obtain⟨b,e⟩:=c _ _ q;have x:n=0:=by
  have:((World.tp u xQ i)).drawn=((World.tp w xQ<|i+n)).drawn:=by rw[<-b]
  simp only[World.tp]at this;omega
 subst x;have y:(World.tp w h d)=(World.tp u h d):=by
  have a:((World.tp u xQ i)).heap=((World.tp w xQ<|i+0)).heap:=by rw[<-b]
  have j:((World.tp u xQ i)).os=((World.tp w xQ<|i+0)).os:=by rw[<-b]
  have l:((World.tp u xQ i)).output=((World.tp w xQ<|i+0)).output:=by rw[<-b]
  simp only[World.tp]at a j l|-;rw[a,j,l]
 have:=e h d (λa j=>by omega);rwa[show d+0=d from rfl,y]at this;have:=m v _ u.tape u.drawn<|o v _ r;exact this
structure KT where
 s:St
 u:Ç
 D:Nat
 T:Μ
 n:Nat
structure KU(P:Ó)(GL:Nat->Prop)(fu:Û->Prop)(Post:Ã->Ç->Prop)(s0:St)(u0:Ç)(x:KT):Prop where
 ok:Ok P GL fu x.s
 afR:sH x.u
 OY:¬rO P Post x.s x.u
 qx:∀T',(∀i,i<x.D->T' i=x.T i)->runN P x.n (LM s0<|(World.tp u0 T' 0))=Į (LM x.s<|(World.tp x.u T' x.D))
def WV{m:a8}{s:St}{N:Nat}(a:runN P n m=Į (LM s u))(e:oE P vQ N m):∃k,N=n+k/\oE P vQ k (LM s u):=by
 by_cases f:n<=N;obtain⟨k,rfl⟩:=ŭ f;refine⟨k,U,?_⟩;let⟨g,v,c,b,d⟩:=e;rw[Zoq,a]at b;exact⟨g,v,c,b,d⟩;obtain⟨k,rfl⟩:=Nat.exists_eq_add_of_lt<|b8 f;let⟨g,v,c,b,d,_⟩:=e;rw[show N+k+1=N+(k+1) by omega,Zoq,b]at a;simp only[runN,step_leave_returned d]at a;cases k with
 |zero=>
  simp only[runN,Stepped.next.injEq]at a;have:=(WT a).2.1;simp[fM]at this|succ k=>
  simp only[runN,(KS (P:=P) (fr:=rQ) (cs:=[]) (w:=c) (es:=#[])<|by simp[G,à,ø,rQ];exact⟨U,U⟩)]at a;cases a
theorem OZ(f:rf P GL fu)(hF:vE P fu)(t:xo Post)(C:∀v u,vQ v u->kU u)(E:∀v u,vQ v u->Post v u){j:St}(F:∀T,∃n,oE P vQ n<|LM j<|(World.tp w T 0)){x:KT}(G:KU P GL fu Post j w x): ∃y:KT,KU P GL fu Post j w y/\y.n=x.n+1/\x.D<=y.D/\∀i,i<x.D->y.T i=x.T i:=by
 let⟨s,u,D,T,n⟩:=x;let⟨ok,pend,l,q⟩:=G;simp only at ok pend l q;have H:∃y d,∀a g,LS P s ((World.tp u y d)) a g->Et u g->¬rO P Post a g:=by
  refine Classical.byContradiction λo=>l ?_;have c:∀y d,∃p:St×World,LS P s ((World.tp u y d)) p.1 p.2/\Et u p.2/\rO P Post p.1 p.2:=by simp_all
  exact .kx (λy d=>(Classical.choose<|c y d).1) (λy d=>(Classical.choose<|c y d).2) (λy d=>(Classical.choose_spec<|c y d).1) (λy d=>(Classical.choose_spec<|c y d).2.1) λy d=>(Classical.choose_spec<|c y d).2.2
 let⟨y,d,I⟩:=H;let p:Μ:=λi=>if i<D then T i else y (d+(i-D))
 have r:∀i,i<D->p i=T i:=λi h=>if_pos h;have J:=λi=>by show(if D+i<D then T (D+i)else y (d+(D+i-D)))=y (d+i);grind
 let⟨N,K⟩:=F p;let⟨k,_,L⟩:=WV (q p r) K;have b:sH ((World.tp u p D)):=pend;obtain⟨_,M,O,S⟩|⟨m,a,g,_,e,V⟩:=L.I f hF ok b;exact absurd (WU t E M O S) l;obtain⟨c,v,rfl,z⟩:=e.afP ok.r;have W:¬rO P Post a v:=λX=>I a _ (z y d λi _=>(J i).symm) (λi o _ B=>(oE.iH f hF C m (e.OX f ok) ((e.kd ok.r b).r b) V) i o B)<|X.afQ t y<|d+c;refine⟨⟨a,v,D+c,p,n+1⟩,⟨e.OX f ok,(e.kd ok.r b).r b,W,λo B=> ?_⟩,U,fD,r⟩;rw[Zoq,(q o λi h=>(B i<|by simp only;omega).trans<|r i h)];simp only[runN,(z o D λi h=>B (D+i)<|by simp only;omega).xp]
theorem afS(b:rf P GL fu)(hF:vE P fu)(c:xo Post){Q:Ã->Ç->Prop}(g:∀v u,Q v u->kU u)(d:∀v u,Q v u->Post v u){a:St}(ok:Ok P GL fu a)(q:sH w)(f:∀T,∃n,oE P Q n<|LM a<|(World.tp w T 0)):rO P Post a w:=by
 refine Classical.byContradiction λr=> ?_;have s:KU P GL fu Post a w ⟨a,w,0,λ_ _=>0,0⟩:=⟨ok,q,r,λI _=>U⟩;let F:Nat->{x:KT//KU P GL fu Post a w x}:=λk=>Nat.rec ⟨_,s⟩ (λ_ x=>⟨Classical.choose<|OZ b hF c g d f x.2,(Classical.choose_spec<|OZ b hF c g d f x.2).1⟩) k
 have l:=λk=>(Classical.choose_spec<|OZ b hF c g d f (F k).2).2;have t:∀k,(F k).1.n=k:=by
  intro k
  induction k with|zero=>rfl|succ k e=>rw[(l k).1,e]
 have J:∀j k,(F j).1.D<=(F<|j+k).1.D/\∀i,i<(F j).1.D->(F<|j+k).1.T i=(F j).1.T i:=by
  intro j k
  induction k with
  |zero=>exact⟨eE _,λ_ _=>U⟩|succ k e=>
   have:=(l<|j+k).2;exact⟨â e.1 this.1,λi m=>(this.2 i<|ff m e.1).trans<|e.2 i m⟩
 have K:∀j k i,i<(F j).1.D->i<(F k).1.D->(F j).1.T i=(F k).1.T i:=by intro j k i e o;obtain h|h:=Nat.le_total j k;all_goals grind [ŭ]
 let T:Μ:=λi=>open Classical in if h:∃k,i<(F k).1.D then(F<|Classical.choose h).1.T i else λ_=>0
 have y:∀k i,i<(F k).1.D->T i=(F k).1.T i:=by intro k i m;have e:∃k,i<(F k).1.D:=⟨k,m⟩;show(open Classical in if h:∃k,i<(F k).1.D then(F<|Classical.choose h).1.T i else λ_=>0)=_;rw[dif_pos e];grind
 let⟨N,z⟩:=f T;have p:=(F N).2.qx T<|y N;rw[t N]at p;let⟨k,e,o⟩:=WV p z;have B:k=0:=Z
 subst B;have C:sH ((World.tp (F N).1.u T<|(F N).1.D)):=(F N).2.afR;obtain⟨_,E,G,H⟩|⟨m,_,_,e,_⟩:=o.I b hF (F N).2.ok C;exact(F N).2.OY<|WU c d E G H;cases e
end
def O0(f:Û)(b:Func)(c:Ω)(a:Array Ã):St:=⟨f,a++Ĩ (b.ntmps-a.size) ĭ,[ā c],Ä,[]⟩
def WW(a:Array Ã)(b:P.funcs[F]?=À s)(d:s.body=À wX):Zor P F a .normal=(O0 F s wX a).C:=ZnO a b d
def afT(b:rf P X pJ)(hF:vE P pJ)(l:xo vQ)(g:pJ F)(j:P.funcs[F]?=À s)(k:s.body=À wX)(m:kU u)(o:∀T,Calls P F d ((World.tp u T 0)) fun|.returned v,u'=>vQ v u'/\kU u'|_,_=>False):rO P vQ (O0 F s wX d) u:=by
 refine afS b hF l (Q:=λv u=>vQ v u/\kU u) (λv u h=>h.2) (λv u h=>h.1) ⟨⟨λi p=> ?_,λx h=>by cases h⟩,g,λx h=>by cases h⟩ m.sH λT=> ?_;rw[eY.1 p];exact .tE (b F g s wX j k);let⟨e,q,r,a,t,_,w⟩:=o T [rQ];cases e with
 |returned v=>
  let⟨n,y⟩:=t;refine⟨n,r,v,q,?_,w,a⟩;rw[<-y,WW d j k];rfl|panicked n|outgrown=>exact a.elim
def afU(p:pI P)(b:rf P X pJ)(hF:vE P pJ)(r:xo vQ)(m:pJ F)(e:P.funcs[F]?=À s)(h:s.body=À wX)(t:kU u)(y:∀T,Calls P F d ((World.tp u T 0)) fun|.returned v,u'=>vQ v u'/\kU u'|_,_=>False){Y:fL}{a n:Nat->Prop}(z:Y.gA=P.globals.size)(B:∀g,X g->Y g g)(o:gD Y d q)(C:rP Y a u w)(D:∀j,a j->j<w.heap.size)(E:∀i j,Y i j->a j->n j)(main:Bool)(k:Ċ)(l:List Ċ): xm P main n (G2 Y a vQ k l) (fE Y a) (G (Zor P F q .normal)<|k::l) w:=by have:=(afT b hF r m e h t y).OV (main:=main) p b (Y:=Y) (G3:=Y) (s':=O0 F s wX q) (fL.I _) z B ⟨U,?_,U,U,.qY⟩ ⟨λi H=> ?_,λx I=>by cases I⟩ C D E k l;rw[WW q e h];exact this;show gD Y (d++_) (q++_);rw[o.r];exact o.H<|WN _;rw[eY.1 H];exact .tE (b F m s wX e h)
def EA:Ã->Bool|Ĭ _|ù _ _|Ĕ _|Ö Ú|bh Ú _ _|bj|ar|.chan Ú|.map Ú=>È|_=>Ä
def O1:Ã->Bool|.agg a|ŧ a=>a.all EA|v=>EA v
def G5(h:EA v=È):kT v:=by
 cases v with
 |bool b=>exact .nF b|int k n=>exact .iZ k n|string s=>exact .lb s
 |pointer p=>cases p with|none=>exact .mN|some a=>cases h
 |slice p n c=>cases p with|none=>exact .oP n c|some a=>cases h
 |nilFunc=>exact .uo|nilIface=>exact .uq
 |chan p=>cases p with|none=>exact .uu|some a=>cases h
 |map p=>cases p with|none=>exact .uw|some a=>cases h
 |_=>cases h
def afV(h:O1 v=È):kT v:=by
 cases v with|agg b=>exact .pG λi a=>G5<|(ĳ.1 h) i a|tuple b=>exact .nG λi a=>G5<|(ĳ.1 h) i a|_=>exact G5 h
def yF(X:Nat->Bool):Ô->Bool|.tmp _=>È|.const v=>O1 v|.global g=>X g|.func _=>È
theorem KV{g:Nat->Bool}(h:yF g qQ=È):n5 (λj=>g j=È) qQ:=by
 cases qQ with|tmp t=>exact .WH t|const v=>exact .WI (afV h)|global j=>exact .WJ h|func f=>exact .WK f
def O2(P:Ó)(t:Â):Bool:=match P.underlying t with|some .bool|some (ũ _)|some ċ=>È|_=>Ä
def afW(h:O2 P t=È):vx P t:=by unfold O2 at h;split at h;rename_i e;exact Á e;rename_i k e;exact Å<|Á ⟨k,e⟩;rename_i e;exact Å<|Å e;cases h
def KW:Ô->Bool|.const (Ö Ú)=>È|_=>Ä
def WX(h:KW qQ=È):oS (y.eval qQ):=by unfold KW at h;split at h;trivial;cases h
def O3(P:Ó)(t:Â)(x y:Ô):Bool:=O2 P t||((match P.underlying t with|some (æ _)=>È|_=>Ä)&&(KW x||KW y))
theorem afX{a:aP}{y:Ô}(h:O3 P t qQ y=È):vx P t\/((∃e,P.underlying t=À (æ e))/\(oS (a.eval qQ)\/oS (a.eval y))):=by unfold O3 at h;obtain h|h:=cW.1 h;exact Á<|afW h;let⟨b,e⟩:=cV.1 h;refine Å ⟨?_,(cW.1 e).imp WX WX⟩;grind
def O4(P:Ó)(s d:Â):Bool:=match P.underlying s,P.underlying d with|some (ũ _),À (ũ _)|some ċ,À ċ=>È|_,_=>Ä
theorem afY(h:O4 P e t=È):(∃k a,P.underlying e=À (ũ k)/\P.underlying t=À (ũ a))\/(P.underlying e=À ċ/\P.underlying t=À ċ):=by unfold O4 at h;grind
def O5(P:Ó)(s:Â)(n:Nat):Bool:=match P.underlying s with
 |some (Zn9 fields)=>match fields[n]? with
  |some f=>match P.info? f.type with|some i=>i.size !=0|none=>Ä
  |none=>Ä
 |_=>Ä
def afZ(h:O5 P e n=È):∀a f i,P.underlying e=À (Zn9 a)->a[n]?=À f->P.info? f.type=À i->i.size≠0:=by intro a f i b c d;simp only[O5,b,c,d]at h;simpa using h
def O6(P:Ó)(pJ:Û->Bool)(f:Û):Bool:=pJ f&&(match P.funcs[f]? with|some a=> !(a.name== "runtime.NumGoroutine")&&!a.body.isNone|none=>Ä)
theorem WY{g:Û->Bool}(h:O6 P g F=È):g F=È/\∃a,P.funcs[F]?=À a/\(a.name== "runtime.NumGoroutine")=Ä/\a.body.isNone=Ä:=by let⟨b,c⟩:=cV.1 h;grind
def WZ(P:Ó):List Â->Bool|[_,t1]=>(match P.underlying t1 with|some (Zoa _)=>È|some ċ=>È|_=>Ä)|_=>Ä
def W0(P:Ó)(pJ:Û->Bool)(b:Callee)(a:List Ô)(c:List Â):Bool:=match b with|Č .len|Č .cap=>a.length==1|Č .copy=>a.length==2|Č .append=>a.length==2&&WZ P c|bB (.func f)=>O6 P pJ f|_=>Ä
def EB(P:Ó)(pJ:Û->Bool):Op->Bool|.move _|.assign _|.pick _ _ _|.alloc _|.box _ _|.build _ _|.buildSlice _ _ _|.load _ _|.store _ _ _|.nilCheck _|.unOp _ _ _|.makeSlice _ _ _|.slice _ _ _ _ _|.field _ _ _|.indexAddr _ _ _|.index _ _ _|.extract _ _=>È|Zow c t x y _=>if c==κ||c==ψ then O3 P t x y else È|ω s d _=>O4 P s d|.fieldAddr s _ n=>O5 P s n|ź c=>W0 P pJ c.callee c.args.toList c.argTypes.toList|_=>Ä
def KX{a:Array Ô}(h:(a.toList.length==1)=È):∃x,a=#[x]:=by
 let⟨l⟩:=a;match l,h with|[x],_=>exact⟨x,U⟩
def O7{a:Array Ô}(h:(a.toList.length==2)=È):∃x y,a=#[x,y]:=by
 let⟨l⟩:=a;match l,h with|[x,y],_=>exact⟨x,y,U⟩
def af0{g:Û->Bool}{k:Op}(h:EB P g k=È)(a:aP):lz P a.eval k:=by
 cases k with
 |binOp o t x y r=>
  refine .Ev o t x y r λe=> ?_;have:(o==κ||o==ψ)=È:=by obtain rfl|rfl:=e<;>rfl
  simp only[EB,if_pos this]at h;exact afX h|convert s d x=>exact .OG _ _ _ (afY h)|fieldAddr s x n=>exact .OI _ _ _ (afZ h)|call c=>
  let⟨z,B,j⟩:=c;simp only[EB]at h;unfold W0 at h;split at h;obtain⟨x,rfl⟩:=KX h;exact .GO x j;obtain⟨x,rfl⟩:=KX h;exact .GQ x j;obtain⟨x,y,rfl⟩:=O7 h;exact .GR x y j;let⟨q,f⟩:=cV.1 h;obtain⟨x,y,rfl⟩:=O7 q;let⟨l⟩:=j;match l,f with
  |[t0,t1],f=>
   refine .GU x y t0 t1 ?_;simp only[WZ]at f;split at f;rename_i e m;exact Á ⟨e,m⟩;rename_i m;exact Å m;cases f
  .exact .iA _ _ _ U (WY h).2
  cases h
 |move x=>exact .Al x|assign x=>exact .GM x|pick c a b=>exact .yy c a b|alloc t=>exact .gP t|box t x=>exact .KE t x|build t p=>exact .OC t p|buildSlice t n p=>exact .OD t n p|load t a=>exact .ij t a|store t a x=>exact .jN t a x|nilCheck x=>exact .GN x|unOp o t x=>exact .OE o t x|makeSlice t l c=>exact .OH t l c|slice t x u v w=>exact .lh t x u v w|field t x n=>exact .OJ t x n|indexAddr t x i=>exact .OL t x i|index t x i=>exact .OM t x i|extract x n=>exact .Gy x n|_=>simp[EB]at h
def O8(P:Ó)(X:Nat->Bool)(pJ:Û->Bool)(o:Α):Bool:=EB P pJ o.op&&o.op.operands.all (yF X)
def af2{X:Nat->Prop}{pJ:Û->Prop}{o:Α}(op:∀a:aP,lz P a.eval o.op)(opd:∀x∈o.op.operands,n5 X x)(calls:∀f args ts,o.op=ź {callee:=bB<|.func f,args:=args,argTypes:=ts}->pJ f):oC P X pJ o where
 oD hz hb hG ht hW hl x u' hr hc:=(Wp hz hW.C hb (λf=>U) (op _) λx hx=>yE hG ht<|opd x hx).gS hW hl hr hc #[];r a:=afD<|op a;I a u n u' hr:=afN (op a) hr;C a u f c u' hr:=let⟨zs,ts,e⟩:=afI (op a) hr;calls f zs ts e
theorem af3{g:Nat->Bool}{k:Û->Bool}(h:O8 P g k o=È):oC P (λj=>g j=È) (λf=>k f=È) o:=by let⟨j,b⟩:=cV.1 h;refine af2 (λa=>af0 j a) (λx a=>KV ?_) λf a x e=> ?_;grind [ķ];rw[e]at j;exact(WY<|show O6 P k f=È from j).1
section
variable{Y:fL}
def EC(m:(Ô->Ã)->ă Ã)(e:∀b,ã b o=m b>>=λv=>pure<|ä v)(hrel:∀(Y:fL)(b g:Ô->Ã),pI P->Bi Y->Y.gA=P.globals.size->(∀x∈o.op.operands,fI Y (b x)<|g x)->lW P fI Y (m b) (m g))(h:∀b,fZ P<|m b)(i:∀x∈o.op.operands,n5 X x):oC P X pJ o where
 oD hz hb hG ht hW hl x u' hr hc:=by rw[e]at hr|-;exact(Wl<|hrel _ _ _ hz hW.C hb λx d=>yE hG ht<|i x d).gS hW hl hr hc #[]
 r a:=by rw[e];exact nJ<|h _
 I a u n u' hr:=by
  rw[e,Æ]at hr;cases d:(m a.eval).run P u with
  |ok v w=>rw[d]at hr;cases hr;exact Á ⟨v,U⟩
  |halt z w=>rw[d]at hr;cases hr
 C a u f c u' hr:=by
  rw[e,Æ]at hr;cases d:(m a.eval).run P u with|ok v w|halt z w=>rw[d]at hr;cases hr
theorem af4(a:o.op=ZnP t qQ)(b:∀y∈o.op.operands,n5 X y):oC P X pJ o:=by refine EC (λd=>ŋ t<|d qQ) (λd=> ?_) (λY d c _ _ _ h=> .gA ?_) (λd=> ?_) b;rw[ã,a];unfold ŋ;apply ga (jK t);rintro e d _ c ⟨rfl,_⟩;split;exact .gB;exact .fY (.xf t ((h qQ<|by rw[a];simp[Ë]).fG c));unfold ŋ;grind [jL,qd,Wy,jC]
theorem af5(c:Sys):qu P (sys c):=by
 intro u hu;refine⟨λx u' e=> ?_,λz u' e=>by cases e⟩;have:u'.heap=u.heap:=by
  simp only[sys,Ù]at e;cases e;unfold World.sys;have ask:∀{γ:Type} (b:Ask γ) (w:Ç),(w.ask b).2.heap=w.heap:=by
   intro γ b
   induction b with
   |done a=>intro w;rfl|ask what range k ih=>
    intro w;simp only[World.ask];split;exact ih 0 w;exact ih _ _
  grind
 exact⟨λh i c e he=>h i c e (by rwa[<-this]),λi o he ho=>⟨o,by rwa[this],ho⟩⟩
theorem W3(x:Ã):∀u y a,(ť x).run P u≠Ē y a:=by
 unfold ť;cases x<;>simp only[]<;>first|exact OB|skip
 grind [GI,V7,tC]
@[simp]def af6 (x:Ã):fZ P (ť x):=by
 refine⟨?_,OP<|W3 x⟩
 unfold ť
 cases x<;>simp only[]<;>first|exact GY U|skip
 refine KH ?_ λa=> ?_
 .unfold Instr.panicnil
  refine KH (af5 _) λr=> ?_
  cases r<;>first|exact GY U|skip
  exact KH Wr λ_=>Wq _
 .split
  .exact GY U
  .exact(ae3 _).1
def af7(b:o.op=.panic qQ)(c:∀y∈o.op.operands,n5 X y):oC P X pJ o:=by refine EC (λa=>ť<|a qQ) (λa=> ?_) (λY a d _ _ _ h=> .gA (.qt (W3 _))) (λa=>af6 _) c;rw[ã,b]
def af8(c:fI Y x v)(d:fI Y z jQ):gh P fI Y (ğ x z) (ğ v jQ):=by
 cases c<;>cases d<;>first|exact .gB|exact .fY (.iZ _ _)|skip
 refine ga (V:=fI) (.fY (.nF _)) λf a g _ e=> ?_;apply ga (V5 e);rintro h b _ _ rfl;exact .fY (.lb _)
@[simp]def af9 (x y:Ã):fZ P (ğ x y):=by
 unfold ğ
 exact nz
def aga:∀{l b:List Ã} {Y:fL} {x c:Ã},fI Y x c->gD Y l.toArray b.toArray->gh P fI Y (l.foldlM ğ x) (b.foldlM ğ c):=by
 intro l
 induction l with
 |nil=>
  intro b Y x c d a;have:b=[]:=by have:=a.r;simp at this;exact ó this.symm
  subst this;rw[ż,ż];exact .fY d|cons v l e=>
  intro b Y x c d a;match b,a with
  |[],a=>have:=a.r;simp at this|v'::b,a=>
   rw[Ů,Ů];refine ga (af8 d (by have:=a.C 0 fD fD;simpa using this)) ?_;intro k y m f g;refine e g ⟨by have:=a.r;simpa using this,λj h i=> ?_⟩;have:=a.C (j+1) (by simp at h|-;omega) (by simp at i|-;omega);exact(by simpa using this:fI Y _ _).fG f
@[simp] theorem W4:∀(l:List Ã)(x:Ã),fZ P<|l.foldlM ğ x|[],x=>by rw[ż];exact jL _|v::l,x=>by rw[Ů];exact jC (af9 _ _) λy=>W4 l y
def agb(a:Array Â)(t:Â)(h:gD Y d q):gh P fI Y (Ĵ a t d) (Ĵ a t q):=by
 let⟨l⟩:=d;let⟨b⟩:=q;unfold Ĵ;match l,b,h with
 |[],_,_=>exact .gB|v::l,[],h=>have:=h.r;simp at this|v::l,v'::b,h=>
  refine aga (by have:=h.C 0 fD fD;simpa using this) ⟨by have:=h.r;simpa using this,λj e f=> ?_⟩;have:=h.C (j+1) (by simp at e|-;omega) (by simp at f|-;omega);exact(by simpa using this:fI Y _ _)
@[simp] theorem agc (a:Array Â) (t:Â) (c:Array Ã):fZ P (Ĵ a t c):=by
 let⟨l⟩:=c
 unfold Ĵ
 grind [qd,W4]
def agd{b:Array Ô}(c:o.op=ź {callee:=Č .min,args:=b,argTypes:=bX})(d:∀y∈o.op.operands,n5 X y):oC P X pJ o:=by refine EC (λa=>Ĵ bX o.type<|b.map a) (λa=> ?_) (λY a f _ _ _ h=> .gA (agb _ _<|Wn b λz e=>h z<|by rw[c];simp[Ë,ì,e])) (λa=>agc _ _ _) d;rw[ã,c];simp only[ć,Ę,ħ,pure_bind]
def agf{f g:Ã->gX->ă (ForInStep gX)}(k:∀a v e b,Y.r a->fI a v e->gh P kj a (f v b) (g e b)):∀{l d:List Ã} {a:fL} (b:gX),Y.r a->gD a l.toArray d.toArray->gh P kj a (forIn l b f) (forIn d b g):=by
 intro l
 induction l with
 |nil=>
  intro d a b _ c;have:d=[]:=by have:=c.r;simp at this;exact ó this.symm
  subst this;rw[Κ,Κ];exact .fY U|cons v l m=>
  intro d a b h c;match d,c with
  |[],c=>have:=c.r;simp at this|e::d,c=>
   rw[bV,bV];refine ga (k a v e b h (by have:=c.C 0 fD fD;simpa using this)) ?_;rintro p r _ i rfl;cases r with
   |done b=>exact .fY U|yield b=>
    apply m b (fL.C h i);refine⟨by have:=c.r;simpa using this,λj n o=> ?_⟩;have:=c.C (j+1) (by simp at n|-;omega) (by simp at o|-;omega);exact(by simpa using this:fI a _ _).fG i
theorem W5{f:Ã->gX->ă (ForInStep gX)}(a:∀v b,fZ P<|f v b):∀(l:List Ã)(b:gX),fZ P<|forIn l b f
 |[],b=>by rw[Κ];exact jL _
 |v::l,b=>by
  rw[bV];refine jC (a v b) λr=> ?_;cases r with|done b=>exact jL _|yield b=>exact W5 a l b
def agh(d:fI Y x v):gh P fI Y (ò x) (ò v):=by
 cases d<;>first|exact .gB|exact .fY (.lb _)|skip
 rename_i h n c;unfold ò;apply ga (Ow h n);intro e j l m f;simp only[<-cz];refine ga (agf (Y:=e) ?_ _ (fL.I _) f) ?_;intro g a o b _ i;cases i<;>first|exact .gB|skip
 rename_i k n;cases k<;>first|exact .gB|exact .fY U
 rintro g s _ _ rfl;exact .fY (.lb _)
@[simp] theorem agi (x:Ã):fZ P (ò x):=by
 unfold ò
 split
 .exact jL _
 .refine jC (ae7 _ _) λa=> ?_
  simp only[<-cz]
  grind [jC,W5,jL,qd]
 .exact qd _
theorem agj(g:o.op=ω t T qQ)(j:P.underlying t=À (Zoa e))(k:P.underlying T=À ċ)(l:P.underlying e=À (ũ .u8))(m:∀y∈o.op.operands,n5 X y):oC P X pJ o:=by
 refine EC (λa=>Ł t T<|a qQ) (λa=> ?_) (λY a f _ _ _ h=> .gA ?_) (λa=> ?_) m;rw[ã,g];unfold Ł;apply ga (jK t);rintro w z _ n ⟨rfl,b⟩;rw[j]at b;injection b with b;subst b;apply ga (jK T);rintro p B _ q ⟨rfl,c⟩;rw[k]at c;injection c with c;subst c;have i:=((h qQ<|by rw[g];simp[Ë]).fG n).fG q;have r:gh P fI p (ð e>>=λy=>match y with|ũ .u8=>ò (a qQ)|ũ .i32=>π (a qQ)|_=>stuck "Convert: a slice of what to string?") (ð e>>=λy=>match y with|ũ .u8=>ò (f qQ)|ũ .i32=>π (f qQ)|_=>stuck "Convert: a slice of what to string?"):=by refine ga (jK e) ?_;rintro C D _ u ⟨rfl,h⟩;rw[l]at h;injection h with h;subst h;exact agh<|i.fG u
 generalize a qQ=v at*;generalize f qQ=v' at*;cases i<;>first|exact r|exact .gB|exact .fY (.lb _)|skip
 unfold Ł;grind [yz,agi,afx,jL]
end
section
variable{Y:fL}
def W6(hrel:∀(Y:fL)(a d:aP),pI P->Bi Y->Y.gA=P.globals.size->(∀x∈o.op.operands,fI Y (a.eval x)<|d.eval x)->lW P rM Y (ã a.eval o) (ã d.eval o))(h:∀a:aP,fZ P<|ã a.eval o)(g:∀(a:aP)(u:Ç)(n:ŷ)(b:Ç),(ã a.eval o).run P u=Ē n b->∃v,n=ä v)(i:∀x∈o.op.operands,n5 X x):oC P X pJ o where
 oD hz hb hG ht hW hl x b hr hc:=(hrel _ ⟨_,[]⟩ ⟨_,[]⟩ hz hW.C hb λx e=>yE hG ht<|i x e).gS hW hl hr hc #[];r a:=h a;I a u n b hr:=Á<|g a u n b hr;C a u f c b hr:=by let⟨v,e⟩:=g a u _ b hr;cases e
def agk{e:Array Ã->ă Ã}(d:o.op=ź {callee:=bB<|.func F,args:=#[qQ],argTypes:=bX})(j:P.funcs[F]?=À s)(k:(s.name== "runtime.NumGoroutine")=Ä)(l:s.body.isNone=È)(m:Extern.findNext s=Ú)(q:Extern.find s=À e)(hrel:∀(Y:fL)(v g:Ã),fI Y v g->gh P fI Y (e #[v]) (e #[g]))(r:∀v,fZ P<|e #[v])(t:∀y∈o.op.operands,n5 X y):oC P X pJ o:=by
 have b:∀a:aP,ã a.eval o=ģ F #[a.eval qQ]:=by intro a;rw[ã,d];simp only[ć,Ü,ĝ,Ę,pure_bind,cA,dK,eJ,dR,dG]
 have i:∀(v:Ã)(u:Ç),(ģ F #[v]).run P u=(mark (.extern F)>>=λ_=>e #[v]>>=λy=>pure (ä y):ă ŷ).run P u:=by intro v u;unfold ģ;simp_all
 refine W6 (λY a w _ _ _ h=> ?_) (λa=> ?_) (λa u n B c=> ?_) t;rw[b,b];unfold ģ;refine .gA (ga tx ?_);rintro E p G w ⟨z,C⟩;rw[z,C];simp only[j,k,l,m,q,Î,if_false,if_true];apply ga (V:=kj) (.Em (Å ⟨F,U⟩) (.fY U));exact λH _ _ D _=>oB (hrel _ _ _<|((h qQ<|by rw[d];simp[Ë,ì]).fG w).fG D);rw[b];exact KL (i _) (jC (OU _) λ_=>nJ<|r _);rw[b,i,Æ]at c;simp only[mark,Ù,É]at c;have:Ù P (e #[a.eval qQ]>>=λy=>pure (ä y):ă ŷ) u=Ē n B:=c;rw[Æ]at this;cases h:(e #[a.eval qQ]).run P u with
 |ok v w=>rw[h]at this;cases this;exact⟨v,U⟩
 |halt z w=>rw[h]at this;cases this
def agl(x a:Ã)(h:fI Y x a):gh P fI Y (į #[x]) (į #[a]):=.fY h
@[simp]def agm (x:Ã):fZ P (į #[x]):=jL _
def W7:∀(n t:Nat) {c a:Array Ã},gD Y c a->gD Y (Ķ n t c) (Ķ n t a)|0,_,_,_,h=>h|n+1,t,_,_,h=>W7 n (t/256)<|h.G<|.iZ _ _
def agn(b:Array Â)(t:Â)(v c:Ã)(h:fI Y v c):gh P fI Y (ý b #[t] #[v]) (ý b #[t] #[c]):=by
 cases h<;>first|exact .gB|skip
 rename_i k n;cases k<;>first|exact .gB|skip
 apply ga (jK t);rintro j d _ l ⟨rfl,_⟩;cases d<;>first|exact .gB|skip
 rename_i e _;simp only[];split;exact .qt (yu<|tC _);apply uz (.B8 λn=> .fY U);intro m f _;apply uz (OA _);intro o _ _;apply uz (.B8 λn=> .fY U);intro p g _;apply ga (Cc e<|W7 f g<|gD.N _);exact λq a r _ i=> .fY (.lh i _ _)
@[simp]def agp (a:Array Â) (t:Â) (v:Ã):fZ P (ý a #[t] #[v]):=by
 cases v<;>first|exact qd _|skip
 rename_i k n
 cases k<;>first|exact qd _|skip
 refine jC (Wy t) λd=> ?_
 cases d<;>first|exact qd _|skip
 exact nz
def agq(f:Array Â)(t:Â)(j:fI Y x v):lW P fI Y (ĉ f t #[x]) (ĉ f t #[v]):=by
 cases j<;>first|exact .gA .gB|exact .gA (.fY .mN)|skip
 rename_i a g h n c;change lW P fI Y (ite _ _ _) (ite _ _ _);by_cases i:c≠0;simp only[if_pos i];exact .gA (.fY (.kn h));simp only[if_neg i];apply mE (KC h.1);rintro l b m o ⟨rfl,rfl⟩;simp only[eW,Î,if_false];refine mE (V0:=λ_ a g=>a=g) ?_ ?_;unfold ŗ;apply ga (jK t);rintro k d _ p ⟨rfl,_⟩;cases d<;>first|exact .gB|exact .fY U
 rintro k e _ _ rfl;exact .Er trivial
@[simp]def agr (b:Array Â) (t:Â) (x:Ã):fZ P (ĉ b t #[x]):=by
 cases x<;>first|exact qd _|skip
 rename_i p n c
 cases p with
 |none=>exact jL _|some a=>
  change fZ P (ite _ _ _)
  repeat' (first|(with_reducible first|refine KI _ ?_|refine jC ?_ λ_=> ?_)|split|exact nz)
def agt(b:o.op=ź {callee:=Č aE,args:=#[qQ],argTypes:=bX})(c:∀y∈o.op.operands,n5 X y):oC P X pJ o:=by refine EC (λa=>ĉ bX o.type #[a qQ]) (λa=> ?_) (λY a d _ _ _ h=>agq _ _<|h qQ<|by rw[b];simp[Ë,ì]) (λa=>agr _ _ _) c;rw[ã,b];simp only[ć,Ę,ħ,pure_bind,eJ,dR,dG]
end
section
variable{Y:fL}{f:Nat->Prop}
def W8(h:iN Y a p):gh P iN Y (Ŧ a) (Ŧ p):=by unfold Ŧ;apply ga (KC h.1);rintro c x d b ⟨rfl,rfl⟩;exact .fY (h.fG b)
def agu{r:Nat}(h:Y r i):gh P (λ_ c q=>∃n a,c=À n/\q=À a/\n<=a) Y (Zoi r) (Zoi i):=.xh h λ_ n a c=> .fY ⟨n,a,U,U,c.elim (λq=>by omega) λq=>q.1⟩
def W9(h:iN Y a p)(t:Â)(n:Nat):gh P (λ_ b e=>b=È->e=È) Y (ö a t n) (ö p t n):=by unfold ö;apply ga tx;rintro i b j c ⟨d,f⟩;rw[d,f];refine .xh (c.1 _ _ h.1) λe m k g=> ?_;rw[h.2.1];exact .fY λq=>Wg (Δ<|g.elim (λq=>by omega) λq=>q.1) q
@[simp]def avI (a:Õ):fZ P (Ŧ a):=by
 unfold Ŧ
 exact nz
@[simp] theorem avJ (r:Nat):fZ P (Zoi r):=by
 unfold Zoi
 grind [jL,GZ,ae5,jC]
@[simp] theorem avK (a:Õ) (t:Â) (n:Nat):fZ P (ö a t n):=by
 unfold ö
 grind [jL,Wv,GZ,jC]
theorem agv(l:P.underlying e=À (æ t))(m:P.underlying T=À Ă)(o:fI Y x v):lW P fI Y (î e T x) (î e T v):=by
 unfold î;apply mE (jK e);rintro z B _ p ⟨rfl,f⟩;rw[l]at f;injection f with f;subst f;apply mE (jK T);rintro C D _ q ⟨rfl,g⟩;rw[m]at g;injection g with g;subst g;have r:=(o.fG p).fG q;cases r<;>first|exact .gA .gB|exact .gA (.fY .mN)|skip
 rename_i a E h;apply mE (W8 h);intro F b j G i;apply mE (agu i.1);rintro H c I u ⟨w,J,rfl,rfl,K⟩;apply mE (oR t);rintro L n _ y ⟨rfl,_⟩;rw[i.2.1,i.2.2];simp only[];by_cases k:(decide (n=0)||(decide (j.off≥w)&&j.spot.isNone))=È;rw[if_pos k];exact .Er trivial;rw[if_neg k,if_neg];exact .gA (.fY (.kn ((i.fG u).fG y)));grind
theorem agw{d:Â}(l:P.underlying T=À Ă)(o:P.underlying d=À (æ t))(q:fI Y x z):lW P fI Y (î T d x) (î T d z):=by
 unfold î;apply mE (jK T);rintro F G _ r ⟨rfl,f⟩;rw[l]at f;injection f with f;subst f;apply mE (jK d);rintro H I _ w ⟨rfl,g⟩;rw[o]at g;injection g with g;subst g;have y:=(q.fG r).fG w;cases y<;>first|exact .gA .gB|exact .gA (.fY .mN)|skip
 rename_i a J h;apply mE (W8 h);intro K b B L i;apply mE (oR t);rintro M n _ j ⟨rfl,_⟩;apply mE (W9 (i.fG j) t 1);rintro C v N D O;have Q:lW P fI C (pure<|Ö<|À b) (pure<|Ö<|À B):=.gA (.fY (.kn ((i.fG j).fG D)));by_cases E:(decide (n=0)||v)=È;grind;rw[if_neg E];refine .Es λu x S c=> ?_;rw[Æ]at c;simp only[bE,Ù,É]at c;cases k:u.shape? b.block with
 |none=>rw[k]at c;cases c
 |some p=>
  let⟨e,m⟩:=p;rw[k]at c;simp only[Æ,õ,É]at c;split at c;cases c;cases c;exact⟨u.heap.size,.view b t,eE _,fD,trivial⟩
theorem agx(h:(P.underlying e=À (æ t)/\P.underlying T=À Ă)\/(P.underlying e=À Ă/\P.underlying T=À (æ t)))(x:Ã):fZ P (î e T x):=by
 unfold î;obtain⟨b,c⟩|⟨b,c⟩:=h<;>refine yz b<|yz c ?_;all_goals
  cases x<;>first|exact qd _|skip
  rename_i p;cases p with
  |none=>exact jL _|some a=>
   repeat' (first|(with_reducible first|refine KI _ ?_|refine jC ?_ λ_=> ?_)|split|exact nz)
theorem Xa(b:o.op=ω e T qQ)(h:(P.underlying e=À (æ t)/\P.underlying T=À Ă)\/(P.underlying e=À Ă/\P.underlying T=À (æ t)))(c:∀y∈o.op.operands,n5 X y):oC P X pJ o:=by refine EC (λa=>Ł e T<|a qQ) (λa=> ?_) (λY a g _ _ _ f=> ?_) (λa=> ?_) c;rw[ã,b];unfold Ł;apply mE (jK e);rintro i j _ a ⟨rfl,k⟩;apply mE (jK T);rintro l m _ g ⟨rfl,n⟩;have p:=((f qQ<|by rw[b];simp[Ë]).fG a).fG g;grind [agv,agw];unfold Ł;grind [agx,yz]
theorem agy(a:Õ)(n:Nat):qu P (freeze a n):=by
 intro u f;refine⟨λx b e=> ?_,λz b e=>by cases e⟩;cases e;unfold Ć;split;exact Kd.gy u;refine Ws (λo d=> ?_) λo c e h=> ?_;cases o<;>first|exact d.elim|trivial
 grind
@[simp]def avL (a:Õ) (n:Nat):fZ P (freeze a n):=by
 refine⟨agy a n,λu T D=>⟨0,u.freeze a n,λx b e=> ?_⟩⟩
 have c:∀T D,(World.tp u T D).freeze a n=World.tp (u.freeze a n) T D:=by
  intro T D
  unfold Ć
  split<;>rfl
 simp_all
def Xb:∀(n:Nat) {Y:fL} {a c:Õ} (d:ByteArray),iN Y a c->gh P kj Y (ą a d n) (ą c d n)
 |0,_,_,_,_,_=> .fY U
 |n+1,Y,a,c,d,h=>by
  unfold ą;apply ga (Ky h);intro g v i e f;cases f<;>first|exact .gB|skip
  rename_i k b;cases k<;>first|exact .gB|exact Xb n _<|(h.fG e).r 1
@[simp]def agz:∀(n:Nat)(a:Õ)(b:ByteArray),fZ P<|ą a b n
 |0,_,_=>jL _
 |n+1,a,b=>by
  unfold ą
  refine jC (KJ _ _) λv=> ?_
  split
  .exact agz n _ _
  .exact qd _
def ky(pt:Â)(a:Õ)(n:Nat):ă ByteArray:=do
 if<-ö a (<-ŗ pt) n then ą a .empty n else unsupported (Œ "String: not so many bytes at ptr")
def agA(pt:Â)(h:iN Y a p)(n:Nat):gh P kj Y (ky pt a n) (ky pt p n):=by
 unfold ky;refine ga (V:=kj) ?_ ?_;unfold ŗ;apply ga (jK pt);rintro f d _ c ⟨rfl,_⟩;cases d<;>first|exact .gB|exact .fY U
 rintro i e _ d rfl;apply ga (W9 (h.fG d) e n);rintro f b j c g;cases b with|true=>rw[g U];exact Xb n _<|(h.fG d).fG c|false=>exact .gB
def agB[B7 P](F:jI Y f u w)(h:iN Y a p){pt:Â}(G:∀u l j,(ŗ pt).run P u=Ē l j->∃k,P.underlying l=À (ũ k))(g:(ky pt a<|n+1).run P u=Ē B W):¬f p.block:=by
 intro H;let⟨c,L,e,M,N,r,O,Q,t,_⟩:=F.r _ _ h.1;let⟨_,_,_,_,o⟩:=t H;rw[ky,Æ]at g;cases i:(ŗ pt).run P u with
 |halt z x=>rw[i]at g;cases g
 |ok l j=>
  have I:j=u:=by
   rw[ŗ,Æ]at i;rw[ð,Æ,õ]at i;simp only[É]at i;cases D:P.underlying pt with
   |none=>rw[D]at i;cases i
   |some d=>
    rw[D]at i;cases d<;>cases i<;>rfl
  subst I;rw[i]at g;simp only[É]at g;rw[Æ]at g;have y:∃b,(ö a l<|n+1).run P j=Ē b j:=by rw[ö,Æ,õ];simp only[É];rw[Æ];simp only[bE,Ù,É];split<;>exact⟨_,U⟩
  obtain o|o:=o;rotate_left;let⟨k,J⟩:=G _ _ _ i;have K:(ö a l<|n+1).run P j=Ē Ä j:=by
   rw[ö,Æ,õ];simp only[É];rw[Æ];simp only[bE,Ù,É];have t:j.shape? a.block=À (e,c.size):=by simp[Ű,r]
   rw[t];simp only[Nat.div_eq_of_lt<|B7.lt e c.size o,aen J];rfl
  rw[K]at g;cases g;let⟨b,y⟩:=y;rw[y]at g;simp only[É]at g;split at g;rw[ą,Æ]at g;simp only[au,Ù]at g;cases C:j.cell? a with
  |none=>
   rw[C]at g;simp only[ĺ,r]at g;cases g
  |some v=>
   rw[C]at g;simp only[É]at g;have q:=C;rw[Ca r]at q;cases E:a.spot with
   |some x=>rw[E]at q;cases q
   |none=>
    rw[E]at q;have:=o _ _ (by simpa using q);cases v<;>first|(cases g;done)|skip
    rename_i k m;cases k<;>first|(cases g;done)|cases this
  .cases g
end
section
variable{Y:fL}{d:Nat->Prop}
def At(a:Â)(p:Option Õ)(n:Int):ă Ã:=á #[a] a #[Ö p,ù Ĺ n]
def Au(pt a t:Â)(p:Option Õ)(k:ñ)(n:Int):á #[pt,a] t #[Ö p,ù k n]=At pt p n:=by cases p<;>rfl
section
variable{pt:Â}{p:Option Õ}
def Xc(a:h<0):∃c,∃k:PUnit->ă Ã,At pt p h=(runtimePanic c>>=k):=⟨_,_,if_pos a⟩
def Xd(a:¬h<0)(b:h>Ĺ.max):∃c,At pt p h=unsupported (Œ c):=⟨_,(if_neg a).trans<|if_pos b⟩
def O9(a:¬h<0)(b:¬h>Ĺ.max)(c:h=0):At pt p h=pure (Ĕ .empty):=by cases p<;>exact(if_neg a).trans<|(if_neg b).trans<|if_pos c
def agC(a:¬h<0)(b:¬h>Ĺ.max)(d:¬h=0):∃c,At pt Ú h=runtimePanic c:=⟨_,(if_neg a).trans<|(if_neg b).trans<|if_neg d⟩
end
def Xe(pt:Â)(a:Õ)(c:¬h<0)(d:¬h>Ĺ.max)(e:¬h=0): At pt (À a) h=(ky pt a h.toNat>>=λs=>freeze a h.toNat>>=λ_=>pure<|Ĕ s):=by refine((if_neg c).trans<|(if_neg d).trans<|if_neg e).trans ?_;unfold ky;show _=Þ (Þ _ _) _;rw[ņ];congr 1;funext et;show Þ _ _=Þ (Þ _ _) _;rw[ņ];congr 1;funext b;cases b<;>rfl
@[simp]def agD (pt:Â) (p:Option Õ) (n:Int):fZ P (At pt p n):=by
 cases p<;>show fZ P (if n<0 then _ else _)<;>exact nz
theorem agE(_hW:jI Y d u w):∀(n:Nat) {a i:Õ} {j s:ByteArray},iN Y a i->a.spot=Ú->(ą a j n).run P u=Ē s W->∀c e f,u.heap[a.block]?=À (Ā c e f)->a.off<=c.size->a.off+n<=c.size:=by
 intro n
 induction n with
 |zero=>intro a i j s _ _ _ c e f _ r;exact r|succ n t=>
  intro a i j s h p b c e f l _;rw[ą,Æ]at b;simp only[au,Ù]at b;cases o:u.cell? a with
  |none=>
   rw[o]at b;simp only[ĺ,l]at b;cases b
  |some v=>
   rw[o]at b;simp only[É]at b;have q:=o;rw[Ca l,p]at q;have y:=(fp.1<|by simpa using q).1;cases v<;>first|(cases b;done)|skip
   rename_i k m;cases k<;>first|(cases b;done)|skip
   have g:a.add 1={a with off:=a.off+1}:=by unfold Addr.add;grind
   have x:=h.r 1;have:=t x (by rwa[g]) b c e f (by rwa[g]) (by rw[g];simp only;omega);rw[g]at this;simp only at this;omega
end
section
variable{Y:fL}{g:Nat->Prop}
def Pa(pt a t:Â)(p:Option Õ)(y:Ã):á #[pt,a] t #[Ö p,y]=(Zoj y>>=λn=>At pt p n):=by cases p<;>rfl
def Xf:∀(n:Nat) {a:Õ} {f s:ByteArray} {u c:Ç},(ą a f n).run P u=Ē s c->c=u
 |0,_,_,_,_,_,h=>by cases h;rfl
 |n+1,a,f,s,u,c,h=>by
  rw[ą,Æ]at h;have g:∀v b,(au a).run P u=Ē v b->b=u:=by intro v b e;simp only[au,Ù]at e;split at e;cases e;rfl;split at e<;>cases e;rfl
  cases d:(au a).run P u with
  |halt z w=>rw[d]at h;cases h
  |ok v b=>
   have:=g v b d;subst this;rw[d]at h;simp only[É]at h;cases v<;>first|(cases h;done)|skip
   rename_i k m;cases k<;>first|(cases h;done)|exact Xf n h
def agF{pt:Â}(c:(ky pt a n).run P u=Ē B w):w=u/\(ą a .empty n).run P u=Ē B u:=by
 rw[ky,Æ]at c;cases e:(ŗ pt).run P u with
 |halt z x=>rw[e]at c;cases c
 |ok z x=>
  have f:x=u:=by
   rw[ŗ,Æ]at e;rw[ð,Æ,õ]at e;simp only[É]at e;cases b:P.underlying pt with
   |none=>rw[b]at e;cases e
   |some d=>
    rw[b]at e;cases d<;>cases e<;>rfl
  subst f;rw[e]at c;simp only[É]at c;rw[Æ]at c;have d:∃b,(ö a z n).run P x=Ē b x:=by rw[ö,Æ,õ];simp only[É];rw[Æ];simp only[bE,Ù,É];split<;>exact⟨_,U⟩
  let⟨b,d⟩:=d;rw[d]at c;simp only[É]at c;split at c;have:=Xf n c;subst this;exact⟨U,c⟩;cases c
def KY(P:Ó)(t:Â):Bool:=match P.underlying t with|some (æ e)=>(match P.underlying e with|some (ũ _)=>È|_=>Ä)|_=>Ä
theorem agG{P:Ó}{pt:Â}(h:KY P pt=È):∀u b c,(ŗ pt).run P u=Ē b c->∃k,P.underlying b=À (ũ k):=by intro u b c a;unfold ŗ ð at a;rw[Æ,Æ,õ]at a;simp only[É]at a;unfold KY at h;split at h;rename_i e d;rw[d]at a;cases a;grind;cases h
def agH[B7 P]{y:Ô}{pt:Â}(V:o.op=ź {callee:=Č ZnZ,args:=#[qQ,y],argTypes:=#[pt,T]})(hpt:KY P pt=È)(Xg:∀z∈o.op.operands,n5 X z):oC P X pJ o:=by
 have W:∀L:Ô->Ã,ã L o=(á #[pt,T] o.type #[L qQ,L y]>>=λv=>pure<|ä v):=by intro L;rw[ã,V];simp only[ć,Ę,ħ,pure_bind,eJ,dR,dG]
 have M:∀v w:Ã,fZ P (á #[pt,T] o.type #[v,w]):=by
  intro v w;cases v<;>first|exact qd _|skip
  rw[Pa];exact jC (WA _) λn=>agD _ _ _
 have hk:∀(a:aP)(u:Ç)(n:ŷ)(B:Ç),(ã a.eval o).run P u=Ē n B->∃v,n=ä v:=by
  intro a u n B b;rw[W,Æ]at b;cases N:(á #[pt,T] o.type #[a.eval qQ,a.eval y]).run P u with
  |ok v w=>rw[N]at b;cases b;exact⟨v,U⟩
  |halt z w=>rw[N]at b;cases b
 refine⟨?_,λa=>by rw[W];exact nJ<|M _ _,λa u n B b=>Á<|hk a u n B b,λa u f c B b=>by let⟨v,e⟩:=hk a u _ B b;cases e⟩;intro Y g t t' u w hz hb hG ht I hl z B b hc;have hx:=yE hG ht (Xg qQ<|by rw[V];simp[Ë,ì]);have O:=yE hG ht (Xg y<|by rw[V];simp[Ë,ì]);rw[W]at b|-;generalize Ü ⟨t,[]⟩ qQ=v at hx b;generalize Ü ⟨t',[]⟩ qQ=v' at hx|-;generalize Ü ⟨t,[]⟩ y=l at O b;generalize Ü ⟨t',[]⟩ y=l' at O|-;have D:gh P fI Y (á #[pt,T] o.type #[v,l]) (á #[pt,T] o.type #[v',l'])->∃(J:fL)(x':ŷ)(w':Ç)(Q:Array ê),Y.r J/\(∀i j,J i j->Y i j\/(u.heap.size<=i/\w.heap.size<=j))/\(á #[pt,T] o.type #[v',l']>>=λv=>pure (ä v):ă ŷ).runT P w #[]=(Ē x' w',#[]++Q)/\rM J z x'/\jI J g B w'/\pH Y g w w'/\(∀e∈Q,B9 J g e)/\u.heap.size<=B.heap.size:=λh=>(oB h).gS I hl b #[];cases hx with
 |mN=>
  apply D;rw[Pa,Pa];apply ga (Oy O);rintro Xh n _ _ rfl;by_cases r:n<0;let⟨c,k,q⟩:=Xc (pt:=pt) (p:=Ú) r;rw[q];exact .qt (yu<|tC _);by_cases d:n>Ĺ.max;let⟨c,q⟩:=Xd (pt:=pt) (p:=Ú) r d;rw[q];exact .gB;by_cases C:n=0;rw[O9 r d C];exact .fY (.lb _);let⟨c,q⟩:=agC (pt:=pt) r d C;rw[q];apply KB|kn E=>
  rename_i a a';cases O with
  |iZ k n=>
   by_cases r:n<0;apply D;let⟨c,k,q⟩:=Xc (pt:=pt) (p:=À a) r;rw[Au,Au,q];exact .qt (yu<|tC _);by_cases d:n>Ĺ.max;apply D;let⟨c,q⟩:=Xd (pt:=pt) (p:=À a) r d;rw[Au,Au,q];exact .gB;by_cases C:n=0;apply D;rw[Au,Au,O9 r d C,O9 r d C];exact .fY (.lb _);rw[Au,Xe pt a r d C]at b;rw[Au,Xe pt a' r d C];obtain⟨m,N⟩:∃m,n.toNat=m+1:=⟨n.toNat-1,Z⟩;rw[N]at b|-;cases K:(ky pt a<|m+1).run P u with
   |halt z w=>
    rw[Æ,Æ,K]at b;cases b
   |ok s u1=>
    obtain⟨rfl,Xi⟩:=agF K;rw[Æ,Æ,K]at b;have Cl:=b;cases Cl;let⟨Xh,s',w1,es,k1,k2,k3,k4,k5,F,k7,k8⟩:=(agA pt E<|m+1).gS I hl K #[];have Q:=k4;subst Q;let⟨c,c',e,fr,yv,S,hw,vC,_⟩:=I.r _ _ E.1;have Xj:a.spot=Ú/\a.off<c.size:=by
     have G:=Xi;rw[ą,Æ]at G;simp only[au,Ù]at G;cases H:u1.cell? a with
     |none=>
      rw[H]at G;simp only[ĺ,S]at G;cases G
     |some v=>
      rw[Ca S]at H;cases qy:a.spot with
      |some qQ=>rw[qy]at H;cases H
      |none=>rw[qy]at H;exact⟨U,(fp.1<|by simpa using H).1⟩
    have fits:∀c e fr,u1.heap[a.block]?=À (Ā c e fr)->a.off+(m+1)<=c.size:=by intro c2 e2 Xk d;rw[S]at d;injection d with d;injection d with q1 q2 q3;subst q1;exact agE I (m+1) E Xj.1 Xi c e fr S<|dp Xj.2
    refine⟨Xh,ä<|Ĕ s,w1.freeze a'<|m+1,es,k1,k2,?_,.qc (.lb s),k5.adJ (E.fG k1) (m+1) fits,?_,k7,by rw[Kw];exact eE _⟩;show ß P (Þ (Þ _ _) _) w #[]=_;rw[Ð,Ð,k3];rfl;refine⟨by rw[Kw];exact F.r,adF.trans F.I,adG.trans F.M,Ou.trans F.S,λj hj M=> ?_,λj hs hj=> ?_⟩;rw[Kx (λe=>M a.block<|by rw[<-e];exact E.1)];exact F.C j hj M;rw[Kx (λe=>(agB I E (agG hpt) K)<|by rwa[e])];exact F.N j hs hj
  |_=>exact D .gB
 |_=>exact D .gB
end
section
variable{Y:fL}{g:Nat->Prop}
@[simp] theorem agI (a:Õ):fZ P (aF a):=by
 unfold aF
 grind [jL,GZ,Ww,jC]
@[simp] theorem avM (a b:Õ):fZ P (ZnQ a b):=by
 unfold ZnQ
 grind [agI,jL,GZ,jC]
@[simp]def avN (a b:Õ):fZ P (Ř a b):=by
 unfold Ř
 exact nz
def Xl(h:P.underlying t=À (æ e))(x y:Ã):fZ P (ë t x y):=by unfold ë ô ų;apply yz h;exact nz
def agJ{a:ď}(b:a=κ\/a=ψ)(h:P.underlying t=À (æ e))(x y:Ã):fZ P (ŕ a t x y):=by
 have c:=Xl h x y;obtain rfl|rfl:=b;all_goals
  unfold ŕ;repeat' (first|(with_reducible first|exact Xl h _ _|refine jC ?_ λ_=> ?_)|split|exact nz)
def Av(u:Ç)(r:Nat):Prop:=∃c e a,u.heap[r]?=À (Ā c e a)/\a.2<=c.size
def KZ(a:Õ)(u:Ç)(b:Array ê):(frozen a).runT P u b=(Ē (u.frozen? a) u,b):=rfl
def K0{r:Nat}(h:u.heap[r]?=À (Ā d e xJ))(a:Array ê):(bE r).runT P u a=(Ē (À (e,d.size)) u,a):=by simp only[bE,ß,Ű,h]
def Xm(h:Av u a.block)(b:Array ê):(aF a).runT P u b=(Ē (u.frozen? a) u,b):=by
 let⟨c,e,f,d,g⟩:=h;unfold aF;show ß P (Þ _ _) u b=_;rw[Ð,KZ];cases i:u.frozen? a with
 |true=>rfl|false=>
  simp only[Î,if_false];show ß P (Þ _ _) u b=_;rw[Ð,K0 d];simp only[];rw[KZ];have:u.frozen? {block:=a.block,off:=c.size}=Ä:=by simp only[û,d];simp;omega
  rw[this]
def Xn(f:u.heap[a.block]?=À (Ā d e xJ))(g:xJ.2<=d.size)(b:u.frozen? a=È):d.size≠0:=by simp only[û,f]at b;simp at b;omega
def agK(i:Av u a.block)(j:Av u p.block)(k:(u.frozen? a&&u.frozen? p)=Ä)(g:Array ê):(ZnQ a p).runT P u g=(Ē Ä u,g):=by
 have q:=i;have r:=j;let⟨c,e,w,l,s⟩:=q;let⟨d,f,x,m,t⟩:=r;unfold ZnQ;show ß P (Þ _ _) u g=_;rw[Ð,Xm i];simp only[];show ß P (Þ _ _) u g=_;rw[Ð,Xm j];simp only[];show ß P (Þ (Þ _ _) _) u g=_;rw[Ð,Ð,K0 l];simp only[];show ß P (Þ (Þ _ _) _) u g=_;rw[Ð,Ð,K0 m];simp only[];congr 2;cases o:u.frozen? a with
 |true=>
  rw[o]at k;have h:u.frozen? p=Ä:=fN k;have:=Xn l s o;simp only[h];cases v:c.size with|zero=>exact absurd v this|succ n=>rfl
 |false=>
  cases h:u.frozen? p with
  |true=>
   have:=Xn m t h;cases v:d.size with|zero=>exact absurd v this|succ n=>rfl
  |false=>rfl
def Xo(h:Av u a.block)(b:Array ê):(ax a).runT P u b=(Ē () u,b):=by let⟨c,e,f,d,g⟩:=h;unfold ax Zob;show ß P (Þ (Þ _ _) _) u b=_;rw[Ð,Ð,K0 d];rfl
def Xp(e:Av u a.block)(f:Av u p.block)(c:Array ê):(Ř a p).runT P u c= if(a.block==p.block)=È then(Ē (a==p) u,c)else if(u.frozen? a&&u.frozen? p)=È then(bl (İ .addressObserved) u,c)else(Ē Ä u,c):=by unfold Ř;by_cases h:(a.block==p.block)=È;simp_all;rw[if_neg h,if_neg h];show ß P (Þ _ _) u c=_;rw[Ð,KZ];simp only[];show ß P (Þ _ _) u c=_;rw[Ð,KZ];simp only[];by_cases d:(u.frozen? a&&u.frozen? p)=È;simp_all;rw[if_neg d,if_neg d];show ß P (Þ _ _) u c=_;rw[Ð,Xo e];simp only[];show ß P (Þ _ _) u c=_;rw[Ð,Xo f];simp only[];show ß P (Þ _ _) u c=_;rw[Ð,agK e f<|fN d];rfl
end
section
variable{Y:fL}{g:Nat->Prop}
def agL{d:Zon}(h:P.underlying t=À d)(u:Ç)(a:Array ê):(ð t).runT P u a=(Ē d u,a):=by unfold ð;simp_all
theorem agM(h:P.info? t=À zJ)(u:Ç)(a:Array ê):(θ t).runT P u a=(Ē zJ.size u,a):=by
 unfold θ;show ß P (Þ _ _) u a=_;rw[Ð];have:(Ŭ t).runT P u a=(Ē zJ u,a):=by unfold Ŭ;simp_all
 rw[this];rfl
theorem Xq(h:P.underlying t=À (æ e))(d:P.info? e=À zJ)(f:zJ.size≠0)(a b:Õ)(u:Ç)(c:Array ê):(ë t (Ö<|À a)<|Ö<|À b).runT P u c=(Ř a b).runT P u c:=by unfold ë ô ų;show ß P (Þ _ _) u c=_;rw[Ð,agL h];simp only[];show ß P (Þ _ _) u c=_;grind [Ð,agM]
def rR(a:ď)(r:Bool):Bool:=if a=κ then r else !r
def Xr{d:ď}(k:d=κ\/d=ψ)(h:P.underlying t=À (æ e))(g:P.info? e=À zJ)(j:zJ.size≠0)(x y:Ô)(a b:Õ)(u:Ç)(c:Array ê): ((Š d t x y (Ö<|À a) (Ö<|À b)>>=λ_=>ŕ d t (Ö<|À a)<|Ö<|À b)>>=λv=>pure (ä v):ă ŷ).runT P u c= match(Ř a b).runT P u c with|(Ē r u',f)=>(Ē (ä<|Ĭ<|rR d r) u',f)|(bl z u',f)=>(bl z u',f):=by
 obtain rfl|rfl:=k;show ß P (Þ (Þ (ë t (Ö<|À a)<|Ö<|À b) λr=>υ<|Ĭ r) λv=>υ<|ä v) u c=_;rw[Ð,Ð,Xq h g j];cases(Ř a b).runT P u c with|mk r f=>cases r<;>rfl
 show ß P (Þ (Þ (ë t (Ö<|À a)<|Ö<|À b) λr=>υ<|Ĭ !r) λv=>υ<|ä v) u c=_;rw[Ð,Ð,Xq h g j];cases(Ř a b).runT P u c with|mk r f=>cases r<;>rfl
theorem agN{k:ď}{r:Â}{y:Ô}(D:o.op=Zow k t qQ y r)(G:k=κ\/k=ψ)(h:P.underlying t=À (æ e))(S:P.info? e=À zJ)(T:zJ.size≠0)(H:∀z∈o.op.operands,n5 X z):oC P X pJ o:=by
 have I:∀s:Ô->Ã,ã s o=((Š k t qQ y (s qQ) (s y)>>=λ_=>ŕ k t (s qQ)<|s y)>>=λv=>pure<|ä v):=by intro s;rw[ã,D]
 have V:∀(a:aP)(u:Ç)(n:ŷ)(p:Ç),(ã a.eval o).run P u=Ē n p->∃v,n=ä v:=by
  intro a u n p j;rw[I,Æ]at j;cases B:(Š k t qQ y (a.eval qQ) (a.eval y)>>=λ_=>ŕ k t (a.eval qQ)<|a.eval y).run P u with
  |ok v w=>rw[B]at j;cases j;exact⟨v,U⟩
  |halt z w=>rw[B]at j;cases j
 refine⟨?_,λa=> ?_,λa u n p j=>Á<|V a u n p j,λa u f c p j=>by let⟨v,e⟩:=V a u _ p j;cases e⟩;intro Y g C W u w J hb K L m hl z p j hc;have M:=yE K L (H qQ<|by rw[D];simp[Ë]);have N:=yE K L (H y<|by rw[D];simp[Ë]);by_cases O:oS (Ü ⟨C,[]⟩ qQ)\/oS (Ü ⟨C,[]⟩ y);have hOk:lz P (Ü ⟨C,[]⟩) o.op:=by rw[D];exact .Ev k t qQ y r λ_=>Å ⟨⟨e,h⟩,O⟩
 exact(Wp J m.C hb (λf=>U) hOk λz J=>yE K L<|H z J).gS m hl j hc #[];have n1:=λq=>O<|Á q;have n2:=λq=>O<|Å q;rw[I]at j|-;generalize Ü ⟨C,[]⟩ qQ=v at M j n1;generalize Ü ⟨W,[]⟩ qQ=v' at M|-;generalize Ü ⟨C,[]⟩ y=l at N j n2;generalize Ü ⟨W,[]⟩ y=l' at N|-;cases M<;>first|exact absurd trivial n1|skip
 cases N<;>first|exact absurd trivial n2|skip
 rename_i a a' E b b' F;have fit:∀{c Q:Õ},iN Y c Q->Av u c.block/\Av w Q.block:=by intro c Q Pb;let⟨d,d',e2,fr,yv,hu,hw,vC,rS,vF,hfr⟩:=m.r _ _ Pb.1;refine⟨⟨d,e2,fr,hu,hfr⟩,d',e2,yv,hw,?_⟩;refine â ?_ vC.M;grind
 let⟨fa,fa'⟩:=fit E;let⟨fb,fb'⟩:=fit F;rw[<-Ÿ P _ u #[],Xr G h S T,Xp fa fb]at j;rw[Xr G h S T,Xp fa' fb'];rw[<-(KD m.C E F),<-(Wa m.C E F)];by_cases q:(a.block==b.block)=È;rw[if_pos q]at j|-;cases j;exact⟨Y,_,w,#[],fL.I _,λ_ _ q=>Á q,U,.qc (.nF _),m,pH.gy _ _ _,λ_ B=>absurd B fD,eE _⟩;rw[if_neg q]at j|-;by_cases q2:(u.frozen? a&&u.frozen? b)=È;grind;rw[if_neg q2]at j;have q3:¬(w.frozen? a'&&w.frozen? b')=È:=by intro q4;let⟨z1,z2⟩:=cV.1 q4;exact q2<|cV.2 ⟨m.H E z1,m.H F z2⟩
 rw[if_neg q3];cases j;exact⟨Y,_,w,#[],fL.I _,λ_ _ q=>Á q,U,.qc (.nF _),m,pH.gy _ _ _,λ_ B=>absurd B fD,eE _⟩;rw[I];exact nJ<|jC (WG k t (λ_=>Å ⟨e,h⟩) qQ y _ _) λ_=>agJ G h _ _
end
def Pd(P:Ó)(s d:Â):Bool:=match P.underlying s,P.underlying d with|some (Zoa e),À ċ=>(match P.underlying e with|some (ũ .u8)=>È|_=>Ä)|some (æ _),À Ă|some Ă,À (æ _)=>È|_,_=>Ä
def Pe(P:Ó)(t:Â):Bool:=match P.underlying t with|some (æ e)=>(match P.info? e with|some i=>i.size !=0|none=>Ä)|_=>Ä
def Pf(P:Ó)(b:Û->Bool)(c:Callee)(a:List Ô)(d:List Â):Bool:=match c with|Č .min=>a.length !=0|Č aE=>a.length==1|Č ZnZ=>a.length==2&&(match d with|[t,_]=>KY P t|_=>Ä)|bB (.func f)=>b f&&a.length==1|_=>Ä
def Pg(P:Ó)(a:Û->Bool):Op->Bool|ZnP _ _|.panic _=>È|Zow c t _ _ _=>(c==κ||c==ψ)&&Pe P t|ω s d _=>Pd P s d|ź c=>Pf P a c.callee c.args.toList c.argTypes.toList|_=>Ä
def ED(P:Ó)(a:Nat->Bool)(b c:Û->Bool)(o:Α):Bool:=O8 P a b o||(Pg P c o.op&&o.op.operands.all (yF a))
def G6(P:Ó)(c:Û->Bool):Prop:=∀f,c f=È->∃a e,P.funcs[f]?=À a/\(a.name== "runtime.NumGoroutine")=Ä/\a.body.isNone=È/\Extern.findNext a=Ú/\Extern.find a=À e/\
 (∀(Y:fL)(v b:Ã),fI Y v b->gh P fI Y (e #[v]) (e #[b]))/\∀v,fZ P<|e #[v]
theorem K1[B7 P]{g:Nat->Bool}{k x:Û->Bool}(C:G6 P x)(h:ED P g k x o=È):oC P (λj=>g j=È) (λf=>k f=È) o:=by
 obtain h|h:=cW.1 h;exact af3 h;let⟨v,S⟩:=cV.1 h;have q:∀z∈o.op.operands,n5 (λj=>g j=È) z:=by grind [ķ,KV,ĳ]
 cases n:o.op with
 |makeInterface t y=>exact af4 n q|panic y=>exact af7 n q|binOp w t a b r=>
  rw[n]at v;let⟨T,m⟩:=cV.1 (show((w==κ||w==ψ)&&Pe P t)=È from v);have D:w=κ\/w=ψ:=by grind
  unfold Pe at m;split at m;rename_i e E;split at m;rename_i i F;exact agN n D E F (fN m) q;cases m;cases m
 |convert s d y=>
  rw[n]at v;have m:Pd P s d=È:=v;unfold Pd at m;split at m;rename_i e u p;split at m;rename_i G;exact agj n u p G q;cases m;rename_i t u p;exact Xa n (Á ⟨u,p⟩) q;rename_i t u p;exact Xa n (Å ⟨u,p⟩) q;cases m
 |call c=>
  rw[n]at v;let⟨H,I,B⟩:=c;have m:Pf P x H I.toList B.toList=È:=v;unfold Pf at m;split at m;exact agd n q;obtain⟨y,rfl⟩:=KX m;exact agt n q;let⟨u,p⟩:=cV.1 m;obtain⟨y,z,rfl⟩:=O7 u;let⟨l⟩:=B;match l,p with|[t1,t2],p=>exact agH n p q
  rename_i f;let⟨u,p⟩:=cV.1 m;obtain⟨y,rfl⟩:=KX p;let⟨V,e,J,K,L,M,N,O,Q⟩:=C f u;exact agk n J K L M N O Q q;cases m
 |_=>rw[n]at v;simp[Pg]at v
def pL(P:Ó)(a:Nat->Bool)(b d:Û->Bool):Ω->Bool|.ret|.skip|Zoz _|.exit _|.goto _=>È|.seq x y=>pL P a b d x&&pL P a b d y|aK c x y=>yF a c&&pL P a b d x&&pL P a b d y|ZoA _ c|.loop c|ZoB c=>pL P a b d c|aZ _ c _=>c.all<|ED P a b d|Zog _=>È|_=>Ä
def xq[B7 P]{g:Nat->Bool}{k x:Û->Bool}(a:G6 P x):∀{c:Ω},pL P g k x c=È->lX P (λj=>g j=È) (λf=>k f=È) c|.ret,_=> .qe|.skip,_=> .vy|Zoz l,_=> .Am l|.exit l,_=> .yB l|.goto l,_=> .yC l|.seq y z,h=>by let⟨f,i⟩:=cV.1 (show(pL P g k x y&&pL P g k x z)=È from h);exact .uC (xq a f) (xq a i)|aK c y z,h=>by let⟨f,i⟩:=cV.1 (show(yF g c&&pL P g k x y&&pL P g k x z)=È from h);let⟨j,f⟩:=cV.1 f;exact .vA (KV j) (xq a f) (xq a i)|ZoA id c,h=> .uD id (xq a<|show pL P g k x c=È from h)|.loop c,h=> .An (xq a<|show pL P g k x c=È from h)|ZoB c,h=> .Ap (xq a<|show pL P g k x c=È from h)|aZ id ops d,h=> .vB id d λo f=>by obtain⟨i,j,rfl⟩:=ķ.1 f;exact K1 a<|ĳ.1 (show ops.all (ED P g k x)=È from h) i j|.rangeFunc _ _ _ _,h=>by simp[pL]at h|Zog w,_=> .pK w
end Lift
namespace fO
open Conc Lift
def sJ(t:ÿ)(g:Nat)(l:Loc):Prop:=∀p a,Ĉ t p=À a->a.loc=l->ε t g p
def rh(t:ÿ)(g:Nat)(l:Loc):Prop:=∀p a,Ĉ t p=À a->a.loc=l->a.write=È->ε t g p
def sJ.r{t:ÿ}{g:Nat}{l:Loc}(h:sJ t g l):rh t g l:=λp a b c _=>h p a b c
section
variable{t u:ÿ}{g:Nat}{l:Loc}
theorem oG{a:Zn4}(h:Ĉ (t++u) i=À a):(i<t.size/\Ĉ t i=À a)\/(t.size<=i/\∃x∈u,x.act.touch?=À a/\(t++u)[i]?=À x):=by let⟨x,c,d⟩:=Zot h;obtain⟨b,e⟩|⟨b,f⟩:=getElem?_append_cases c;exact Á ⟨b,by rwa[touchAt_of e]⟩;grind
theorem sJ.C(h:sJ t g l)(j:∀c∈u,∀b,c.act.touch?=À b->b.loc=l->c.g=g):sJ (t++u) g l:=by intro p a e f;obtain⟨_,d⟩|⟨_,c,d,k,i⟩:=oG e;exact(h p a d f).app u;have:=Τ i;grind
theorem rh.r(h:rh t g l)(k:∀c∈u,∀b,c.act.touch?=À b->b.loc=l->b.write=È->c.g=g):rh (t++u) g l:=by intro p a e f i;obtain⟨_,d⟩|⟨_,c,d,m,j⟩:=oG e;exact(h p a d f i).app u;have:=Τ j;grind
def sJ.xg(h:∀p a,Ĉ t p=À a->a.loc≠l):sJ t g l:=λp a b c=>absurd c<|h p a b
theorem Pj(h:∀c,¬Race c t)(l:∀d∈u,d.g=g)(m:∀d∈u,∀b,d.act.touch?=À b->(b.write=Ä/\rh t g b.loc)\/sJ t g b.loc\/(b.kind=ĩ/\∀p a,Ĉ t p=À a->a.loc=b.loc->a.kind=.plain->ε t g p)):∀c,¬Race c (t++u):=by intro c;refine noRace_append (h c) l λi a f d n b o r=> ?_;let⟨j,v,e,w⟩:=r;obtain⟨s,k⟩|q|⟨s,k⟩:=m d n b o;obtain e|e:=e;exact k i a f j e;grind;exact q i a f j;grind
theorem Cm(f:∀c,¬Race c t)(r:∀d∈u,d.act.touch?=Ú):∀c,¬Race c (t++u):=by intro c;rintro⟨i,j,g,⟨a,b,h,k,l⟩,m,n⟩;obtain⟨s,e⟩|⟨_,d,e,v,_⟩:=oG k;obtain⟨o,p⟩|⟨o,_⟩:=oG h;exact f c ⟨i,j,g,⟨a,b,p,e,l⟩,λq=>m<|hb_app u q,λq=>n<|hb_app u q⟩;omega;grind
end
structure fx where
 O:Nat->Prop
 I:Nat->Prop
 r:Õ->Prop
 N:Õ->Prop
 K:Õ->Prop
 d:Nat
 q:Prop
 w:Ç
def fx.M(l:fx):Nat->Prop:=λj=>l.O j\/l.I j
def fx.C(l:fx):Õ->Prop:=λa=>l.r a\/l.N a
structure gd(l:fx)(w w₁:Ç):Prop where
 r:w.heap.size<=w₁.heap.size
 I:∀j,l.M j->w₁.heap[j]?=w.heap[j]?
 N:∀a,l.C a->w₁.cell? a=w.cell? a
 Y:∀a,l.C a->w₁.frozen? a=w.frozen? a
 S:∀a,l.K a->(w.cell? a).isSome=È->(w₁.cell? a).isSome=È
theorem gd.gy(l:fx)(w:Ç):gd l w w:=⟨eE _,λ_ _=>U,λ_ _=>U,λ_ _=>U,λ_ _ h=>h⟩
def gd.fA{l:fx}{a c:Ç}(h:gd l a w)(k:gd l w c):gd l a c:=⟨â h.r k.r,λj d=>(k.I j d).trans<|h.I j d,λj d=>(k.N j d).trans<|h.N j d,λj d=>(k.Y j d).trans<|h.Y j d,λa e q=>k.S a e<|h.S a e q⟩
def mo(w:Ç)(b:Nat):Option (Nat×Nat):=match w.heap[b]? with|some (Ā _ _ fr)=>À fr|_=>Ú
def yH{w':Ç}(h:w'.heap[b]?=w.heap[b]?):mo w' b=mo w b:=by unfold mo;rw[h]
theorem Xs(w:Ç)(a:Õ):w.frozen? a=match mo w a.block with|some (lo,hi)=>decide (lo<=a.off)&&decide (a.off<hi)|none=>Ä:=by
 unfold û mo;grind
def K2(h:mo u a.block=mo w a.block):u.frozen? a=w.frozen? a:=by rw[Xs,Xs,h]
def xr(l:fx)(e:ê):Prop:=
 (∃a:Õ,e.loc=é a/\(l.O a.block\/l.r a\/((l.I a.block\/l.N a)/\e.write=Ä/\e.sync=Ä)))\/e.loc=Ŋ Zn6\/(∃f,e.loc=Ŋ (.extern f))\/e.loc=Ŋ ak\/e.loc=Ŋ bg\/
 ∃a:Õ,l.O a.block/\(e.loc=Ŋ (.read a)\/e.loc=Ŋ (.write a)\/e.loc=Ŋ (Ĥ a)\/e.loc=Ŋ (ZnR a))
structure n7(l l':fx)(w w':Ç)(es:Array ê):Prop where
 C:w.heap.size<=w'.heap.size
 M:∀j,l'.O j->l.O j\/w.heap.size<=j
 fM:∀j,l'.O j->j<w'.heap.size
 rd:l'.I=l.I
 r:l'.r=l.r
 I:l'.N=l.N
 k:l'.K=l.K
 lB:∀j,j<w.heap.size->¬l.O j->(∀a:Õ,a.block=j->¬l.r a)->w'.heap[j]?=w.heap[j]?
 S:∀a:Õ,a.block<w.heap.size->¬l.O a.block->¬l.r a->w'.cell? a=w.cell? a
 Y:∀a:Õ,a.block<w.heap.size->¬l.O a.block->mo w' a.block=mo w a.block
 c:w'.os=w.os
 f:w'.output=w.output
 i:w'.tape=w.tape
 b:∀e∈es,xr l' e
 g:l'.d=å l.d es
 q:l'.q=l.q
 h:l.q->w'=w/\(∀e∈es,e.mute=È)/\l'.O=l.O
 N:l'.w=w'
structure Pk(t:ÿ)(g:Nat)(l:fx):Prop where
 fE:∀a:Õ,l.O a.block->sJ t g (é a)
 rd:∀a:Õ,l.I a.block->rh t g (é a)
 C:∀a:Õ,l.r a->sJ t g (é a)
 r:∀a:Õ,l.N a->rh t g (é a)
theorem Xt{l:fx}{e:ê}(h:xr l e){b:Zn4}(c:(Ï e).touch?=À b):∃a:Õ,b.loc=é a/\(l.O a.block\/l.r a\/((l.I a.block\/l.N a)/\b.write=Ä)):=by let⟨j,wr,i⟩:=e;obtain⟨a,g,d⟩|h|⟨f,h⟩|h|h|⟨a,g,d⟩:=h;simp only at g d;subst g;have:(Ï ⟨é a,wr,i⟩).touch?=À ⟨é a,wr,if i then ĩ else .plain⟩:=rfl;grind;simp only at h;subst h;simp[Ï,í]at c;simp only at h;subst h;simp[Ï,í]at c;simp only at h;subst h;simp[Ï,í]at c;simp only at h;subst h;simp[Ï,í]at c;simp only at d;obtain rfl|rfl|rfl|rfl:=d<;>simp[Ï,í]at c<;>subst c;all_goals grind
def agO{l:fx}(d:∀j,l.O j->j<i)(k:∀j,l.I j->j<i)(g:∀a:Õ,l.C a->a.block<i){e:ê}(h:xr l e):(Ï e).low i:=by let⟨m,wr,n⟩:=e;obtain⟨a,c,b⟩|h|⟨f,h⟩|h|h|⟨a,c,b⟩:=h;simp only at c b;subst c;obtain h|h|⟨h|h,_⟩:=b;exact d _ h;exact g _<|Á h;exact k _ h;exact g _<|Å h;simp only at h;subst h;trivial;simp only at h;subst h;trivial;simp only at h;subst h;trivial;simp only at h;subst h;trivial;simp only at b;obtain rfl|rfl|rfl|rfl:=b<;>exact d _ c
def Xu(B:Nat)(t:ÿ):Prop:=∀a∈t,a.act.low B
def Xv(h:Xu i qJ){a:Zn4}(g:Ĉ qJ n=À a){x:Õ}(d:a.loc=é x):x.block<i:=by
 let⟨f,j,b⟩:=Zot g;have c:=h f<|fg j;revert b c;cases f.act with
 |access e=>
  intro b c;simp only[í,dI]at b;subst b;simp only at d;simp only[MemAct.low,d,Loc.low]at c;exact c|mark m=>
  intro b c;cases m<;>simp[í]at b;all_goals
   subst b;simp only[Loc.cell.injEq]at d;subst d;exact c
 |_=>intro b _;simp[í]at b
theorem qf{a:String}:∀op∈Ê i F a V,op.g=i:=λop b=>by obtain⟨e,_,rfl⟩:=Ò (op:=op) b;rfl
structure jD(B0:Nat)(Live:Nat->Prop)(Y:Nat->Prop)(lot:Nat->fx)(w:Ç)(t:ÿ):Prop where
 o:∀i j,Live i->Live j->i≠j->∀b,(lot i).O b->¬(lot j).M b
 h:∀i j,Live i->Live j->i≠j->∀a,(lot i).r a->¬(lot j).C a
 m:∀i,Live i->∀b,(lot i).O b->¬(lot i).I b
 g:∀i,Live i->∀a,(lot i).r a->¬(lot i).N a
 I:∀i,Live i->∀b,(lot i).M b->¬Y b
 e:∀i,Live i->∀a,(lot i).C a->Y a.block
 fM:∀i,Live i->∀b,(lot i).M b->b<w.heap.size
 N:∀b,Y b->b<w.heap.size
 r:∀i,Live i->gd (lot i) (lot i).w w
 S:∀i,Live i->Pk t i (lot i)
 f:∀i,Live i->Ū t i=(lot i).d
 l:∀said,¬Race said t
 q:Xu w.heap.size t
 s:∀p a c,Ĉ t p=À a->a.loc=.obj c->a.kind=.plain->c<B0
 n:∀i,Live i->∀a,(lot i).K a->Y a.block/\∀k,Live k->¬(lot k).r a
def gV(lot:Nat->fx)(i:Nat)(l:fx):Nat->fx:=λk=>if k=i then l else lot k
theorem iI(a:Nat->fx)(i:Nat)(l:fx):gV a i l i=l:=if_pos U
theorem iq(a:Nat->fx)(l:fx)(h:k≠i):gV a i l k=a k:=if_neg h
section
variable{B0:Nat}{Live Y:Nat->Prop}{lot:Nat->fx}{w':Ç}{t u:ÿ}
def Pm{g:Nat}(a:k≠g)(t:ÿ){u:ÿ}(b:∀c∈u,c.g=g):Ū (t++u) k=Ū t k:=Deaf_other t (g:=k) (g':=g) (cR a) _ b
def jD.at(h:jD B0 Live Y lot w t)(d:Nat):jD B0 Live Y lot (w.at d) t:=⟨h.o,h.h,h.m,h.g,h.I,h.e,h.fM,h.N,λi a=>⟨(h.r i a).r,(h.r i a).I,(h.r i a).N,(h.r i a).Y,(h.r i a).S⟩,h.S,h.f,h.l,h.q,h.s,h.n⟩
def jD.agP(h:jD B0 Live Y lot w t)(r:Live i){s:fx}(l:n7 (lot i) s w w' V)(E:Û)(F:String): jD B0 Live Y (gV lot i s) w' (t++Ê i E F V):=by
 have G:=l.M;have Q:∀b,s.M b->(lot i).M b\/w.heap.size<=b:=λb g=>g.elim (λq=>(G b q).imp Á id) (λq=>Á<|Å<|by rwa[<-l.rd]);have J:∀a,s.C a↔(lot i).C a:=λa=>by unfold fx.C;rw[l.r,l.I]
 have I:=λk f a d=>h.N _<|h.e k f a d;have L:∀k,Live k->k≠i->∀b,(lot k).M b->¬s.O b:=by intro k f y b g c;obtain q|q:=G b c;exact h.o i k r f (cR y) b q g;have:=h.fM k f b g;omega
 have H:∀m∈Ê i E F V,∀b,m.act.touch?=À b->∃a:Õ,b.loc=é a/\(s.O a.block\/s.r a\/((s.I a.block\/s.N a)/\b.write=Ä)):=by intro m o b g;obtain⟨e,N,rfl⟩:=Ò o;exact Xt (l.b e N) g
 have T:∀a:Õ,s.O a.block->sJ t i (é a):=by intro a d;obtain q|q:=G _ d;exact(h.S i r).fE a q;exact .xg λp x P n=>by have:=Xv h.q P n;omega
 have D:Pk t i s:=⟨T,λa d=>(h.S i r).rd a (by rwa[<-l.rd]),λa d=>(h.S i r).C a (by rwa[<-l.r]),λa d=>(h.S i r).r a<|by rwa[<-l.I]⟩;refine⟨?_,?_,?_,?_,?_,?_,?_,λb g=>ff (h.N b g) l.C,?_,?_,?_,?_,?_,?_,?_⟩;intro k j f u y b g;by_cases c:k=i;subst c;rw[iI]at g;rw[iq lot _<|cR y];exact λq=>L j u (cR y) b q g;rw[iq lot _ c]at g;by_cases v:j=i;subst v;rw[iI];intro q;obtain z|z:=Q b q;exact h.o k j f u y b g z;have:=h.fM k f b<|Á g;omega;rw[iq lot _ v];exact h.o k j f u y b g;intro k j f u y a d;by_cases c:k=i;subst c;rw[iI,l.r]at d;rw[iq lot _<|cR y];exact h.h k j f u y a d;rw[iq lot _ c]at d;by_cases v:j=i;subst v;rw[iI,J];exact h.h k j f u y a d;rw[iq lot _ v];exact h.h k j f u y a d;intro k f b g;by_cases c:k=i;subst c;rw[iI]at g|-;rw[l.rd];obtain z|z:=G b g;exact h.m k f b z;intro q;have:=h.fM k f b<|Å q;omega;rw[iq lot _ c]at g|-;exact h.m k f b g;intro k f a d;by_cases c:k=i;subst c;rw[iI]at d|-;rw[l.I];rw[l.r]at d;exact h.g k f a d;rw[iq lot _ c]at d|-;exact h.g k f a d;intro k f b g;by_cases c:k=i;subst c;rw[iI]at g;obtain z|z:=Q b g;exact h.I k f b z;intro y;have:=h.N b y;omega;rw[iq lot _ c]at g;exact h.I k f b g;intro k f a d;by_cases c:k=i;subst c;rw[iI,J]at d;exact h.e k f a d;rw[iq lot _ c]at d;exact h.e k f a d;intro k f b g;by_cases c:k=i;subst c;rw[iI]at g;exact g.elim (l.fM b) (λq=>ff (h.fM k f b<|Å<|by rwa[<-l.rd]) l.C);rw[iq lot _ c]at g;exact ff (h.fM k f b g) l.C;intro k f;by_cases c:k=i;subst c;rw[iI,l.N];exact gd.gy _ _;rw[iq lot _ c];refine(h.r k f).fA ⟨l.C,λb g=>l.lB b (h.fM k f b g) (λq=>h.o i k r f (cR c) b q g) (λa d q=>h.I k f b g<|by rw[<-d];exact h.e i r a<|Á q),λa d=>l.S a (I k f a d) (λq=>h.I i r _ (Á q)<|h.e k f a d) λq=>h.h i k r f (cR c) a q d,λa d=>K2 (l.Y a (I k f a d) λq=>h.I i r _ (Á q)<|h.e k f a d),λa d q=> ?_⟩;let⟨y,v⟩:=h.n k f a d;rwa[l.S a (h.N _ y) (λq=>h.I i r _ (Á q) y)<|v i r];intro k f;by_cases c:k=i;subst c;rw[iI];exact⟨λa d=>(D.fE a d).C λm o _ _ _=>qf m o,λa d=>(D.rd a d).r λm o _ _ _ _=>qf m o,λa d=>(D.C a d).C λm o _ _ _=>qf m o,λa d=>(D.r a d).r λm o _ _ _ _=>qf m o⟩;rw[iq lot _ c];have W:∀a:Õ,(lot k).O a.block->∀m∈Ê i E F V,∀b,m.act.touch?=À b->b.loc=é a->False:=by intro a d m o b g n;let⟨x,y,v⟩:=H m o b g;rw[y]at n;injection n with n;subst n;obtain q|q|⟨q|q,_⟩:=v;exact L k f c _ (Á d) q;exact h.I k f _ (Á d) (h.e i r x<|Á<|by rwa[<-l.r]);exact h.o k i f r c _ d (Å<|by rwa[<-l.rd]);exact h.I k f _ (Á d)<|h.e i r x<|Å<|by rwa[<-l.I]
 have X:∀a:Õ,(lot k).I a.block->∀m∈Ê i E F V,∀b,m.act.touch?=À b->b.loc=é a->b.write=È->False:=by intro a d m o b g n B;let⟨x,y,v⟩:=H m o b g;rw[y]at n;injection n with n;subst n;obtain q|q|⟨_,q⟩:=v;exact L k f c _ (Å d) q;exact h.I k f _ (Å d) (h.e i r x<|Á<|by rwa[<-l.r]);rw[q]at B;cases B
 have S:∀a:Õ,(lot k).C a->∀m∈Ê i E F V,∀b,m.act.touch?=À b->b.loc=é a->(s.I a.block\/s.N a)/\b.write=Ä:=by intro a d m o b g n;let⟨x,y,v⟩:=H m o b g;rw[y]at n;injection n with n;subst n;obtain q|q|q:=v;exfalso;obtain z|z:=G _ q;exact h.I i r _ (Á z)<|h.e k f x d;have:=I k f x d;omega;exact absurd d (h.h i k r f (cR c) x<|by rwa[<-l.r]);exact q
 refine⟨λa d=>((h.S k f).fE a d).C λm o b g n=>(W a d m o b g n).elim,λa d=>((h.S k f).rd a d).r λm o b g n B=>(X a d m o b g n B).elim,λa d=>((h.S k f).C a d).C λm o b g n=> ?_,λa d=>((h.S k f).r a d).r λm o b g n B=> ?_⟩;exfalso;obtain⟨q|q,_⟩:=S a (Á d) m o b g n;exact h.I i r _ (Å<|by rwa[<-l.rd])<|h.e k f a<|Á d;exact h.h k i f r c a d (Å<|by rwa[<-l.I]);have:=(S a (Å d) m o b g n).2;rw[this]at B;cases B;intro k f;by_cases c:k=i;subst c;rw[iI,l.g,Deaf_own,h.f k f];rw[iq lot _ c,Pm c t qf];exact h.f k f;refine Pj h.l qf λm o b g=> ?_;let⟨a,y,v⟩:=H m o b g;rw[y];obtain q|q|⟨q,B⟩:=v;exact Å<|Á<|D.fE a q;exact Å<|Á<|D.C a q;exact Á ⟨B,q.elim (D.rd a)<|D.r a⟩;intro m o;obtain q|q:=dq.1 o;exact MemAct.low_mono l.C<|h.q m q;obtain⟨e,N,rfl⟩:=Ò q;refine agO l.fM (λj u=>ff (h.fM i r j<|Å<|by rwa[<-l.rd]) l.C) (λa d=> ?_)<|l.b e N;rw[J]at d;exact ff (I i r a d) l.C;intro p a c d n f;obtain⟨_,y⟩|⟨_,m,y,v,_⟩:=oG d;exact h.s p a c y n f;let⟨x,P,_⟩:=H m y a v;rw[P]at n;cases n;intro k f a d;have y:∀j,(gV lot i s j).r=(lot j).r:=λj=>by by_cases e:j=i;subst e;rw[iI,l.r];rw[iq lot _ e]
 have c:(gV lot i s k).K=(lot k).K:=by by_cases e:k=i;subst e;rw[iI,l.k];rw[iq lot _ e]
 rw[c]at d;exact⟨(h.n k f a d).1,λj u=>by rw[y];exact(h.n k f a d).2 j u⟩
end
def G7(Live Y:Nat->Prop)(d:Nat->fx)(b:Zn4):Prop:=(∃a:Õ,b.loc=é a/\Y a.block/\∀k,Live k->¬(d k).C a)\/∃c,b.loc=.obj c/\Y c/\b.kind=ĩ
structure rT(Live Y:Nat->Prop)(lot:Nat->fx)(w w':Ç):Prop where
 r:w'.heap.size=w.heap.size
 lB:∀j,¬Y j->w'.heap[j]?=w.heap[j]?
 M:∀k,Live k->∀a,(lot k).C a->w'.cell? a=w.cell? a
 N:∀k,Live k->∀a,(lot k).C a->w'.frozen? a=w.frozen? a
 I:∀a,(w.cell? a).isSome=È->(w'.cell? a).isSome=È
theorem rT.gy(Live Y:Nat->Prop)(a:Nat->fx)(w:Ç):rT Live Y a w w:=⟨U,λ_ _=>U,λ_ _ _ _=>U,λ_ _ _ _=>U,λ_ h=>h⟩
structure xt(w':Ç)(l l':fx):Prop where
 O:l'.O=l.O
 N:l'.I=l.I
 r:l'.r=l.r
 I:l'.N=l.N
 K:l'.K=l.K
 w:l'.w=l.w\/l'.w=w'
theorem xt.gy(w':Ç)(l:fx):xt w' l l:=⟨U,U,U,U,U,Á U⟩
def xt.M{w':Ç}{l a:fx}(h:xt w' l a):a.M=l.M:=by unfold fx.M;rw[h.O,h.N]
def xt.C{w':Ç}{l a:fx}(h:xt w' l a):a.C=l.C:=by unfold fx.C;rw[h.r,h.I]
def gd.agQ{l c:fx}(h:xt w l c)(r:gd l u W):gd c u W:=⟨r.r,by rw[h.M];exact r.I,by rw[h.C];exact r.N,by rw[h.C];exact r.Y,by rw[h.K];exact r.S⟩
section
variable{Live Y:Nat->Prop}{lot o:Nat->fx}{w':Ç}{t u:ÿ}
def jD.H(h:jD n Live Y lot w t)(m:∀k,xt w' (lot k)<|o k)(s:rT Live Y lot w w')(B:∀l∈u,∀b,l.act.touch?=À b->G7 Live Y lot b)(g:∀l∈u,l.act.low w.heap.size)(E:∀F,¬Race F (t++u))(G:∀k,Live k->Ū (t++u) k=(o k).d):jD n Live Y o w' (t++u) where
 o i j hi v mP b q:=by rw[(m j).M];exact h.o i j hi v mP b<|by rwa[<-(m i).O]
 h i j hi v mP a f:=by rw[(m j).C];exact h.h i j hi v mP a<|by rwa[<-(m i).r]
 m i hi b q:=by rw[(m i).N];exact h.m i hi b<|by rwa[<-(m i).O]
 g i hi a f:=by rw[(m i).I];exact h.g i hi a<|by rwa[<-(m i).r]
 I i hi b q:=h.I i hi b (by rwa[<-(m i).M]);e i hi a f:=h.e i hi a (by rwa[<-(m i).C]);fM i hi b q:=by rw[s.r];exact h.fM i hi b<|by rwa[<-(m i).M]
 N b q:=by rw[s.r];exact h.N b q
 r i hi:=by rcases(m i).w with e|e;rw[e];refine((h.r i hi).fA ⟨cZ s.r.symm,λj v=>s.lB j<|h.I i hi j v,λa f=>s.M i hi a f,λa f=>s.N i hi a f,λa _=>s.I a⟩).agQ<|m i;rw[e];exact gd.gy _ _
 S i hi:=by
  have z:∀a:Õ,(lot i).M a.block->∀l∈u,∀b,l.act.touch?=À b->b.loc=é a->False:=by intro a f l e b q g;obtain⟨x,r,y,_⟩|⟨c,r,_⟩:=B l e b q;rw[r]at g;injection g with g;subst g;exact h.I i hi _ f y;rw[r]at g;cases g
  have D:∀a:Õ,(lot i).C a->∀l∈u,∀b,l.act.touch?=À b->b.loc=é a->False:=by intro a f l e b q g;obtain⟨x,r,_,y⟩|⟨c,r,_⟩:=B l e b q;rw[r]at g;injection g with g;subst g;exact y i hi f;rw[r]at g;cases g
  exact⟨λa f=>((h.S i hi).fE a<|by rwa[<-(m i).O]).C λl e b q g=>(z a (Á<|by rwa[<-(m i).O]) l e b q g).elim,λa f=>((h.S i hi).rd a<|by rwa[<-(m i).N]).r λl e b q g _=>(z a (Å<|by rwa[<-(m i).N]) l e b q g).elim,λa f=>((h.S i hi).C a<|by rwa[<-(m i).r]).C λl e b q g=>(D a (Á<|by rwa[<-(m i).r]) l e b q g).elim,λa f=>((h.S i hi).r a<|by rwa[<-(m i).I]).r λl e b q g _=>(D a (Å<|by rwa[<-(m i).I]) l e b q g).elim⟩
 f:=G;l:=E;q l e:=by rw[s.r];exact(dq.1 e).elim (h.q l)<|g l
 s p a c f g z:=by obtain⟨_,r⟩|⟨_,l,r,y,_⟩:=oG f;exact h.s p a c r g z;obtain⟨x,D,_⟩|⟨x,_,_,D⟩:=B l r a y;rw[D]at g;cases g;rw[D]at z;cases z
 n i hi a f:=by rw[(m i).K]at f;exact⟨(h.n i hi a f).1,λk z=>by rw[(m k).r];exact(h.n i hi a f).2 k z⟩
end
structure gT(l:fx):Prop where
 c:∀b,l.O b->¬l.I b
 Y:∀a,l.r a->¬l.N a
 S:∀a,l.C a->¬l.M a.block
 fM:∀b,l.M b->b<l.w.heap.size
 I:∀a,l.C a->a.block<l.w.heap.size
 N:∀a,l.K a->¬l.M a.block/\a.block<l.w.heap.size/\¬l.r a
def jD.M{Live Y:Nat->Prop}{c:Nat->fx}(h:jD n Live Y c w qJ)(b:Live i):gT {c i with w:=w} where
 c:=h.m i b;Y:=h.g i b;S a ha hb:=h.I i b _ hb<|h.e i b a ha;fM:=h.fM i b;I a ha:=h.N _<|h.e i b a ha;N a ha:=⟨λq=>h.I i b _ q (h.n i b a ha).1,h.N _ (h.n i b a ha).1,(h.n i b a ha).2 i b⟩
abbrev Jd:=fx->Ì->Prop
inductive fF(P:Ó)(main:Bool)(Stop:Jd):Jd
 |fS {l:fx} {g:Ì} (h:∀w₁,gd l l.w w₁->Stop {l with w:=w₁} g):fF P main Stop l g
 |kx {l:fx} {g:Ì} (G':Ç->Ì) (W':Ç->Ç) (E':Ç->Array ê) (L':Ç->fx) (jh:g.status=Í)
  (h:∀w₁,gd l l.w w₁->à P main g w₁=σ (G' w₁) (W' w₁) (E' w₁)) (hd:∀w₁,gd l l.w w₁->n7 l (L' w₁) w₁ (W' w₁) (E' w₁))
  (ih:∀w₁,gd l l.w w₁->fF P main Stop (L' w₁) (G' w₁)):fF P main Stop l g
instance:Nonempty fx:=⟨⟨λ_=>False,λ_=>False,λ_=>False,λ_=>False,λ_=>False,0,False,default⟩⟩
instance:Nonempty (Goroutine×World×Array Event×fx):=⟨(default,default,#[],Classical.choice inferInstance)⟩
section
variable{main:Bool}{Stop m:Jd}
def fF.mk{l:fx}(i:g.status=Í)(h:∀a,gd l l.w a->∃b c d e,à P main g a=σ b c d/\n7 l e a c d/\fF P main Stop e b):fF P main Stop l g:=by
 let p:=λ(a:Ç) (x:Goroutine×World×Array Event×fx)=>à P main g a=σ x.1 x.2.1 x.2.2.1/\n7 l x.2.2.2 a x.2.1 x.2.2.1/\fF P main Stop x.2.2.2 x.1
 have f:∀a,gd l l.w a->p a (Classical.epsilon<|p a):=λa r=>Classical.epsilon_spec (let⟨b,c,d,e,h⟩:=h a r;⟨(b,c,d,e),h⟩);exact .kx (λa=>(Classical.epsilon<|p a).1) (λa=>(Classical.epsilon<|p a).2.1) (λa=>(Classical.epsilon<|p a).2.2.1) (λa=>(Classical.epsilon<|p a).2.2.2) i (λa r=>(f a r).1) (λa r=>(f a r).2.1) λa r=>(f a r).2.2
def fF.mF{l:fx}{w₁:Ç}(h:fF P main Stop l g)(r:gd l l.w w₁):fF P main Stop {l with w:=w₁} g:=by
 have e:∀{a b:Ç},gd {l with w:=w₁} a b->gd l a b:=λq=>⟨q.r,q.I,q.N,q.Y,q.S⟩;cases h with
 |fS h=>exact .fS λc d=>h c<|r.fA<|e d|kx f i j m n h o p=>
  exact .kx f i j m n (λc d=>h c<|r.fA<|e d) (λc d=>let q:=o c<|r.fA<|e d;⟨q.C,q.M,q.fM,q.rd,q.r,q.I,q.k,q.lB,q.S,q.Y,q.c,q.f,q.i,q.b,q.g,q.q,q.h,q.N⟩) λc d=>p c<|r.fA<|e d
def fF.fG(a:∀l g,Stop l g->m l g){l:fx}(h:fF P main Stop l g):fF P main m l g:=by
 induction h with|fS h=>exact .fS λb r=>a _ _<|h b r|kx b r c d e h f _ i=>exact .kx b r c d e h f i
def fF.fA{l:fx}(h:fF P main (fF P main Stop) l g):fF P main Stop l g:=by
 induction h with|fS h=>exact h _<|gd.gy _ _|kx a b c d e h f _ i=>exact .kx a b c d e h f i
def fF.nH(a:∀l g,Stop l g->fF P main m l g){l:fx}(h:fF P main Stop l g):fF P main m l g:=(h.fG a).fA
end
inductive gW where|fS:gW|kx (k:Ç->gW):gW
def Xw(x:gW):gW->Prop|.fS=>False|.kx k=>∃w,x=k w
def Xx:WellFounded Xw:=⟨λa=>by
 induction a with|fS=>exact⟨_,λy h=>h.elim⟩|kx k b=>exact⟨_,λy ⟨w,h⟩=>h▸b w⟩⟩
def mG(P:Ó)(b:Bool)(c:Jd):gW->Jd|.fS,l,g=>∀a,gd l l.w a->c {l with w:=a} g|.kx k,l,g=>g.status=Í/\∀a,gd l l.w a->∃d e f h,à P b g a=σ d e f/\n7 l h a e f/\mG P b c (k a) h d
section
variable{main:Bool}{Stop:Jd}
theorem j1{l:fx}(h:fF P main Stop l g):∃tr,mG P main Stop tr l g:=by
 induction h with
 |fS h=>exact⟨.fS,h⟩|@kx l g G' W' E' L' jh h hd _ ih=>
  have b:∀a,∃tr,gd l l.w a->mG P main Stop tr (L' a) (G' a):=by intro a;by_cases r:gd l l.w a;grind;exact⟨.fS,λq=>absurd q r⟩
  refine⟨.kx λa=>Classical.choose<|b a,jh,λa r=>⟨G' a,W' a,E' a,L' a,h a r,hd a r,Classical.choose_spec (b a) r⟩⟩
end
theorem agR{l:fx}{b:Nat->Prop}(d:∀j,X j->l.O j)(f:∀j,b j->l.I j){e:ê}(h:KQ X b e):xr l e:=by obtain⟨a,c,g,i⟩|h|h:=h;refine Á ⟨a,c,?_⟩;grind;exact Å<|Á h;exact Å<|Å<|Á h
theorem agS{b:Nat->Prop}(h:∀e∈V,KQ X b e)(d:Nat):å d V=d:=by refine aG (λe c=> ?_) d;obtain⟨a,g,_⟩|h|⟨f,h⟩:=h e c;all_goals grind
theorem iE{w':Ç}(h:w'.heap[a.block]?=w.heap[a.block]?):w'.cell? a=w.cell? a:=by unfold Ď;rw[h]
def yI(h:u.heap[a.block]?=w.heap[a.block]?):u.frozen? a=w.frozen? a:=by unfold û;rw[h]
def agT{t:(Nat->Prop)->Ì->Ç->Prop}{O:Nat->Prop}(h:xm P yQ X t O g w):∀l:fx,l.w=w->(∀j,O j->l.O j)->(∀j,X j->l.I j)->(∀j,l.O j->j<w.heap.size)->¬l.q-> fF P yQ (λa b=>∃f,t f b a.w/\(∀j,O j->f j)/\(∀j,f j->a.O j)/\(∀j,l.O j->a.O j)/\(∀j,a.O j->l.O j\/f j)/\(∀j,a.O j->l.O j\/w.heap.size<=j)/\a.I=l.I/\a.r=l.r/\a.N=l.N/\a.d=l.d/\a.q=l.q/\a.K=l.K) l g:=by
 induction h with
 |@fS O g w h=>
  intro l e i m _ _;refine .fS λb r=>⟨O,h b ⟨by rw[<-e];exact r.r,λj c=>by rw[r.I j (c.elim (λq=>Á<|i j q) λq=>Å<|m j q),e]⟩,λ_ q=>q,i,λ_ q=>q,λ_ q=>Á q,λ_ q=>Á q,U,U,U,U,U,U⟩|@kx O g w G' W' E' f jh h hd _ ih=>
  intro l e i m C u;refine .mk jh λb r=> ?_;have n:As (λj=>O j\/X j) w b:=⟨by rw[<-e];exact r.r,λj c=>by rw[r.I j (c.elim (λq=>Á<|i j q) λq=>Å<|m j q),e]⟩;have D:=hd b n;have o:=n.r;have v:∀j,(l.O j\/f b j)->j<(W' b).heap.size:=λj c=>c.elim (λq=>ff (C j q)<|â o D.r)<|D.fM j;have p:∀j,j<b.heap.size->¬l.O j->(W' b).heap[j]?=b.heap[j]?:=λj c k=>D.lB j c λq=>k<|i j q;refine⟨G' b,W' b,E' b,{l with O:=λj=>l.O j\/f b j,w:=W' b},h b n,⟨D.r,λj c=>c.elim Á λq=>(D.I j q).imp (i j) id,v,U,U,U,U,λj c k _=>p j c k,λa s k _=>iE<|p _ s k,λa s k=>yH<|p _ s k,D.N,D.S,D.Y,λx E=>agR (l:={l with O:=λj=>l.O j\/f b j,w:=W' b}) (λj q=>Å q) m<|D.C x E,(agS D.C _).symm,U,λq=>absurd q u,U⟩,?_⟩;have:=ih b n {l with O:=λj=>l.O j\/f b j,w:=W' b} U (λj q=>Å q) m v u;apply this.fG;rintro N Q ⟨F,G,B,H,I,J,L,M⟩;refine⟨F,G,λj q=>B j<|D.M j q,H,λj q=>I j<|Á q,λj q=> ?_,λj q=> ?_,M⟩;obtain(z|z)|z:=J j q;exact Á z;exact Å<|B j z;exact Å z;obtain(z|z)|z:=L j q;exact Á z;obtain y|y:=D.I j z;exact Á<|i j y;exact Å<|â o y;exact Å<|â (â o D.r) z
def lP(a:Õ):ê:=⟨é a,Ä,È⟩
def oH(a:Õ):ê:=⟨é a,È,È⟩
def kV(m:Mark):ê:=⟨Ŋ m,Ä,È⟩
def gK:Int:=4294967296
def EE(c:Nat):Array ê:=#[⟨.obj c,Ä,È⟩,⟨.obj c,È,È⟩]
section
variable(P:Ó)(main:Bool)
def G8(m:Mark)(N:Jd):Jd:=λl g=>g.status=Í/\∃a,(∀b,à P main g b=σ a b #[kV m])/\fF P main N l a
def Xy(a:Õ)(N:Int->Jd):Jd:=λl g=>g.status=Í/\∀v,∃c,(∀b:Ç,b.cell? a=À (ù Ý v)->à P main g b=σ c b #[lP a])/\fF P main (N v) l c
def Pn(a:Õ)(d:Int)(N:Int->Jd):Jd:=λl g=>g.status=Í/\∀v,∃c,(∀b:Ç,b.cell? a=À (ù Ý v)->b.frozen? a=Ä->à P main g b=σ c (b.setCell a<|ù Ý<|Ý.wrap<|v+d) #[lP a,oH a])/\N (Ý.wrap<|v+d) l c
def agU(a:Õ)(v:Int)(N:Jd):Jd:=λl g=>g.status=Í/\∃c,(∀(b:Ç)(x:Int),b.cell? a=À (ù Ý x)->b.frozen? a=Ä->à P main g b=σ c (b.setCell a<|ù Ý v) #[oH a])/\fF P main N l c
def agV(a:Õ)(N:Jd):Jd:=λl g=>g.status=Í/\g.offers=Ú/\(∀b:Ç,b.cell? a=À (ù ń 0)->à P main g b=σ {g with status:=č} b #[])/\
 ∃c,(∀(b:Ç)(n:Int),n≠0->b.cell? a=À (ù ń n)->b.frozen? a=Ä->à P main g b=σ c (b.setCell a<|ù ń<|n-1) (Ġ a))/\fF P main N l c
def agW(a:Õ)(N:Jd):Jd:=λl g=>g.status=Í/\mayWake P g=È/\∃c,c.status=Í/\(∀(b:Ç)(n:Int),b.cell? a=À (ù ń n)->b.frozen? a=Ä->à P main g b=σ c (b.setCell a<|ù ń<|ń.wrap<|n+1) (Ġ a))/\N l c
def yJ(c:Nat)(z:Ã)(N:Option Ã->Jd):Jd:=λl g=>g.status=Í/\g.offers=Ú/\(∀x,à P main g x=.comm g #[Ž c z] È (.recv È) x #[])/\
 ∀x:Option Ã,fF P main (N x) l {g with frame:=g.frame.finish (ŧ #[x.getD z,Ĭ x.isSome])}
def G9(c:Nat)(v:Ã)(N:Jd):Jd:=λl g=>g.status=Í/\g.offers=Ú/\(∀a,∃b,à P main g a=.comm g #[scase c v b] È .send a #[])/\fF P main N l {g with frame:=g.frame.finish ĭ}
def K3(c:Nat)(N:Jd):Jd:=λl g=>g.status=Í/\mayWake P g=È/\∃a,a.status=Í/\(∀(b:Ç) cap buf s r tm,b.heap[c]?=À (Λ cap buf Ä s r tm)->à P main g b=σ a (b.setChan c cap buf È s r tm) (EE c))/\fF P main N l a
def ri(n:Nat):Jd:=λl g=>QuitsD P n l.d g
inductive SP where|fV (n:Nat)|ld (v:Int) (m:Nat)
def EF(a:Õ)(B:Nat)(d e:Int->Jd)(p:SP):Jd:=λl g=>∃T:SP->Ì->Prop,T p g/\∀p g,T p g->g.status=Í/\match p with
 |.fV (n+1)=>n+1<=B/\(T (.fV 0) g\/∀b,∃c,à P main g b=σ c b #[]/\T (.fV n) c)|.fV 0=>∀v,∃c,(∀b:Ç,b.cell? a=À (ù Ý v)->à P main g b=σ c b #[lP a])/\(if 0<=v/\v<gK then v<1000000->fF P main (d v) l c else(gK<=v/\v<gK*2147483648/\v%gK<1000000)->∃m,m<=B/\T (.ld v m) c)|.ld v (m+1)=>gK<=v/\m+1<=B/\(T (.ld v 0) g\/∀b,∃c,à P main g b=σ c b #[]/\T (.ld v m) c)
 |.ld v 0=>gK<=v/\(∃c,(∀b:Ç,b.cell? a=À (ù Ý v)->b.frozen? a=Ä->à P main g b=σ c (b.setCell a<|ù Ý<|Ý.wrap<|v+1) #[lP a,oH a])/\fF P main (e v) l c)/\
  ∃c,(∀(b:Ç)(x:Int),x≠v->b.cell? a=À (ù Ý x)->b.frozen? a=Ä->à P main g b=σ c b #[lP a])/\∃n,n<=B/\T (.fV n) c
end
section
variable{P:Ó}{main:Bool}
def K4{e f:Int->Jd}{p:SP}{l:fx}{w₁:Ç}(h:EF P main a i e f p l g)(r:gd l l.w w₁):EF P main a i e f p {l with w:=w₁} g:=by
 let⟨T,o,h⟩:=h;refine⟨T,o,λp g j=>⟨(h p g j).1,?_⟩⟩;have:=(h p g j).2;match p,this with
 |.fV (n+1),q=>exact q|.fV 0,q=>
  intro v;let⟨c,d,b⟩:=q v;refine⟨c,d,?_⟩;by_cases k:0<=v/\v<gK;rw[if_pos k]at b|-;exact λq=>(b q).mF r;rw[if_neg k]at b|-;exact b|.ld v (m+1),q=>exact q|.ld v 0,⟨q0,⟨c,d,b⟩,q⟩=>exact⟨q0,⟨c,d,b.mF r⟩,q⟩
end
inductive jc where|no|jd|uG (c:Nat) (z:Ã)
inductive yK(g0:Ì):jc->Ì->Prop|gS {k:jc}:yK g0 k g0|qz (h:g0.status=Í) (ho:g0.offers=Ú):yK g0 .jd {g0 with status:=č}|vG (c:Nat) (z:Ã) (h:g0.status=Í):yK g0 (.uG c z) (ū g0 #[Ž c z]<|.recv È)|oT (c:Nat) (z:Ã) (h:g0.status=Í):yK g0 (.uG c z) {ū g0 #[Ž c z] (.recv È)with status:=Í}
section
variable{P:Ó}
theorem agX(h:g.status=Í\/g.status=ï)(w:Ç):g.again w=g:=by unfold ň;grind
theorem Po{a o:Ì}(h:o.status=Í\/o.status=ï):ė P g a w o=o:=by unfold ė;grind [agX]
def yK.Ha{g0 a b:Ì}{k:jc}(h:yK g0 k g)(d:g0.status=Í\/g0.status=ï):yK g0 k (ė P a b w g):=by
 cases h with
 |gS=>rw[Po d];exact .gS|qz h c=>
  unfold ė;split;have:ň w {g0 with status:=č}=g0:=by let⟨z,e,st,f,i⟩:=g0;simp only at h c;subst h c;rfl
  rw[this];exact .gS;exact .qz h c|vG c z h=>
  unfold ė;split;unfold ň ū;simp only[];split;exact .oT c z h;exact .vG c z h;exact .vG c z h|oT c z h=>
  rw[Po<|Á U];exact .oT c z h
end
structure iB(P:Ó)(B0:Nat)(Y:Nat->Prop)(S:Nat->Jd)(tr:Nat->gW)(kp:Nat->jc)(lot:Nat->fx)(gs:Array Ì)(w:Ç)(t:ÿ):Prop where
 r:jD B0 (λi=>i<gs.size) Y lot w t
 C:∀i g,gs[i]?=À g->∃g0,mG P (i==0) (S i) (tr i) (lot i) g0/\yK g0 (kp i) g/\(g0.status=Í\/g0.status=ï)/\(g=g0\/tr i=.fS)
 I:∀j,gs.size<=j->Ū t j=0
def fP(f:Nat->gX)(i:Nat)(x:gX):Nat->gX:=λk=>if k=i then x else f k
theorem ig(f:Nat->gX)(i:Nat)(x:gX):fP f i x i=x:=if_pos U
theorem gi(f:Nat->gX)(x:gX)(h:k≠i):fP f i x k=f k:=if_neg h
section
variable{P:Ó}{B0:Nat}{Y:Nat->Prop}{S:Nat->Jd}{tr:Nat->gW}{kp:Nat->jc}{lot:Nat->fx}{gs:Array Ì}{w':Ç}{t:ÿ}{sl:Option (Nat×Nat)}
theorem Pp{a:Ì}(b:gs[i]?=À g)(h:à P (i==0) g w=σ a w' V): ∃gs',aW P (đ gs w sl) i=(Į<|đ gs' w' sl,Ê i g.frame.fn g.frame.place V)/\gs'.size=gs.size/\gs'[i]?=À a/\∀k,k≠i->gs'[k]?=gs[k]?.map (ė P g a w'):=by refine⟨_,runT_crowd_go b h,fD,by simp[(fp.1 b).1],λk c=> ?_⟩;grind
def iB.at(a:iB P B0 Y S tr kp lot gs w t)(d:Nat):iB P B0 Y S tr kp lot gs (w.at d) t:=⟨a.r.at d,a.C,a.I⟩
theorem iB.Xz(f:iB P B0 Y S tr kp lot gs w t){a:Ì}{J:Jd}{T:gW}{K:jc}{d:fx}(h:gs[i]?=À g)(o:à P (i==0) g w=σ a w' V)(B:jD B0 (λi=>i<gs.size) Y (gV lot i d) w' (t++Ê i g.frame.fn g.frame.place V))(hF:mG P (i==0) J T d a)(p:a.status=Í\/a.status=ï): ∃b,aW P (đ gs w sl) i=(Į<|đ b w' sl,Ê i g.frame.fn g.frame.place V)/\b.size=gs.size/\b[i]?=À a/\(∀k,k≠i->b[k]?=gs[k]?.map (ė P g a w'))/\ iB P B0 Y (fP S i J) (fP tr i T) (fP kp i K) (gV lot i d) b w' (t++Ê i g.frame.fn g.frame.place V):=by obtain⟨b,q,r,l,m⟩:=Pp h o;have C:=(fp.1 h).1;refine⟨b,q,r,l,m,?_,λk x c=> ?_,λj D=> ?_⟩;grind;by_cases e:k=i;subst e;rw[l]at c;obtain rfl:=dh c;rw[ig,ig,ig,iI];exact⟨a,hF,.gS,p,Á U⟩;rw[m k e]at c;obtain⟨y,s,rfl⟩:=è.1 c;rw[gi S _ e,gi tr _ e,gi kp _ e,iq lot _ e];let⟨g0,u,v,n,z⟩:=f.C k y s;refine⟨g0,u,v.Ha n,n,z.imp (λe=> ?_) id⟩;grind [Po];rw[Pm Z t qf];exact f.I j Z
theorem agY{J:Jd}{k:Ç->gW}{l:fx}(h:mG P yQ J (.kx k) l g):g.status=Í:=h.1
def iB.fE(f:iB P B0 Y S tr kp lot gs w t){k:Ç->gW}(m:gs[i]?=À g)(n:tr i=.kx k)(s:∀l g,S i l g->g.status=Í\/g.status=ï): ∃c w' d h,aW P (đ gs w sl) i=(Į<|đ c w' sl,Ê i g.frame.fn g.frame.place d)/\c.size=gs.size/\(∃b,c[i]?=À b/\(b.status=Í\/b.status=ï))/\(∀k,k≠i->∃a j:Ì,c[k]?=gs[k]?.map (ė P a j w'))/\n7 (lot i) h w w' d/\ iB P B0 Y S (fP tr i<|k w) kp (gV lot i h) c w' (t++Ê i g.frame.fn g.frame.place d):=by
 have o:=(fp.1 m).1;let⟨g0,hF,F,_,u⟩:=f.C i g m;obtain rfl:g=g0:=u.resolve_right (by rw[n];simp);rw[n]at hF;let⟨G,hF⟩:=hF;let⟨b,w',d,h,v,p,e⟩:=hF w<|f.r.r i o;have q:b.status=Í\/b.status=ï:=by
  cases j:k w with|fS=>rw[j]at e;exact s _ _<|e _<|gd.gy _ _|kx r=>rw[j]at e;exact Á e.1
 obtain⟨c,x,y,z,B,r⟩:=f.Xz m v (f.r.agP o p _ _) e q;refine⟨c,w',d,h,x,y,⟨b,z,q⟩,λj C=>⟨g,b,B j C⟩,p,?_⟩;have D:fP S i (S i)=S:=by funext j;unfold fP;split<;>simp[*]
 have E:fP kp i (kp i)=kp:=by funext j;unfold fP;split<;>simp[*]
 rwa[D,E]at r
theorem iB.K(f:iB P B0 Y S tr kp lot gs w t){a:Ì}{J:Jd}{K:jc}{T:gW}(l:gs[i]?=À g)(m:à P (i==0) g w=σ a w' V)(n:rT (λi=>i<gs.size) Y lot w w')(hF:mG P (i==0) J T {lot i with d:=å (lot i).d V,w:=w'} a)(o:a.status=Í\/a.status=ï)(p:∀e∈V,(∀b,(Ï e).touch?=À b->G7 (λi=>i<gs.size) Y lot b)/\(Ï e).low w.heap.size)(q:∀r,¬Race r (t++Ê i g.frame.fn g.frame.place V)): ∃c,aW P (đ gs w sl) i=(Į<|đ c w' sl,Ê i g.frame.fn g.frame.place V)/\c.size=gs.size/\c[i]?=À a/\(∀k,k≠i->c[k]?=gs[k]?.map (ė P g a w'))/\ iB P B0 Y (fP S i J) (fP tr i T) (fP kp i K) (gV lot i {lot i with d:=å (lot i).d V,w:=w'}) c w' (t++Ê i g.frame.fn g.frame.place V):=by refine f.Xz l m (f.r.H (λk=> ?_) n (λh c b j=> ?_) (λh c=> ?_) q λk h=> ?_) hF o;by_cases e:k=i;subst e;rw[iI];exact⟨U,U,U,U,U,Å U⟩;grind [iq,xt.gy];obtain⟨e,j,rfl⟩:=Ò c;grind;obtain⟨e,j,rfl⟩:=Ò c;exact(p e j).2;by_cases e:k=i;subst e;rw[iI,Deaf_own,f.r.f k h];rw[iq lot _ e,Pm e t qf];exact f.r.f k h
def iB.Pq(h:iB P B0 Y S tr kp lot gs w t)(p:gs[i]?=À g)(x:i≠0)(l:g.status=Í)(q:kp i=.no)(y:tr i=.fS)(z:S i=ri P n): ∃c f b,n=b+1/\aW P (đ gs w sl) i=(Į<|đ c w sl,Ê i g.frame.fn g.frame.place f)/\c.size=gs.size/\(∀k,k≠i->∃a e:Ì,c[k]?=gs[k]?.map (ė P a e w))/\(∀e∈f,e.mute=È)/\ iB P B0 Y (fP S i<|ri P b) tr kp (gV lot i {lot i with d:=å (lot i).d f,w:=w}) c w (t++Ê i g.frame.fn g.frame.place f):=by
 let⟨g0,hF,r,L,_⟩:=h.C i g p;have B:g=g0:=by
  rw[q]at r;cases r with|gS=>rfl
 subst B;rw[y,z]at hF;have s:=hF w<|h.r.r i<|(fp.1 p).1;cases n with
 |zero=>rw[s.1]at l;cases l
 |succ n=>
  obtain⟨C,_⟩|⟨_,D,f,a,E,u⟩:=s;rw[C]at l;cases l;have m:(i==0)=Ä:=fN x;have F:fP kp i .no=kp:=by funext j;unfold fP;split<;>simp[*]
  have G:fP tr i .fS=tr:=by funext j;unfold fP;split<;>simp[*]
  obtain⟨c,H,I,_,K,v⟩:=h.K (J:=ri P n) (T:=.fS) p (by rw[m];exact E w) (rT.gy _ _ _ _) (λ_ _=>u) u.status (λe o=>⟨λb m=>(by rw[touch_mute<|a e o]at m;cases m),low_mute (a e o) _⟩) (Cm h.r.l λM b=>by obtain⟨e,o,rfl⟩:=Ò b;exact touch_mute<|a e o);rw[F,G]at v;exact⟨c,f,n,U,H,I,λk q=>⟨g,D,K k q⟩,a,v⟩
end
def yL(u:ÿ):Prop:=∀a∈u,a.act.touch?=Ú/\∀m,a.act≠Ņ m
theorem agZ(t:ÿ)(a:Zn1)(b:a.act≠Ņ ak)(c:a.act≠Ņ bg)(j:Nat):Ū (t.push a) j=Ū t j:=by
 have d:t.push a=t++#[a]:=fD;rw[Ū,d,show(t++#[a]).size=t.size+1 by simp];show(match(t++#[a])[t.size]? with|some {g:=h,act:=Ņ ak, .. }=>if h=j then(t++#[a]).deaf j t.size+1 else(t++#[a]).deaf j t.size|some {g:=h,act:=Ņ bg, .. }=>if h=j then(t++#[a]).deaf j t.size-1 else(t++#[a]).deaf j t.size|_=>(t++#[a]).deaf j t.size)=_
 have e:(t++#[a])[t.size]?=À a:=fD;rw[e];let⟨g,f,i,k⟩:=a;simp only at b c;split;grind;grind;exact ZnT<|eE _
def XA(t:ÿ):∀(u:List Zn1),(∀a∈u,a.act≠Ņ ak/\a.act≠Ņ bg)->∀j,Ū (t++u.toArray) j=Ū t j
 |[],_,j=>by simp
 |a::u,h,j=>by
  have e:t++(a::u).toArray=(t.push a)++u.toArray:=by apply Array.ext';simp
  rw[e,XA (t.push a) u (λx b=>h x<|by simp[b]) j];exact agZ t a (h a fD).1 (h a fD).2 j
def K5{u:ÿ}(h:yL u)(j:Nat):Ū (qJ++u) j=Ū qJ j:=by have:=XA qJ u.toList (λa b=>⟨(h a<|fN b).2 _,(h a<|fN b).2 _⟩) j;simpa using this
section
variable{S:Nat->Jd}{C:Nat->gW}{B:Nat->jc}{lot:Nat->fx}{u:ÿ}{sl:Option (Nat×Nat)}
def jD.ag0{Live:Nat->Prop}(h:jD i Live X lot w qJ)(f:rT Live X lot w W)(c:yL u)(g:∀a∈u,a.act.low w.heap.size):jD i Live X lot W (qJ++u):=h.H (λk=>xt.gy _ _) f (λa d b e=>by rw[(c a d).1]at e;cases e) g (Cm h.l λa d=>(c a d).1) λk b=>by rw[K5 c];exact h.f k b
def K6{Live:Nat->Prop}{r:Nat}{x:Bool}(y:X i)(p:w.heap[i]?=À (Λ n d yQ j r x))(f g h:Nat)(l:Array Ã)(m o:Bool):rT Live X lot w (w.setChan i f l m g h o):=by
 have q:∀b,b≠i->(w.setChan i f l m g h o).heap[b]?=w.heap[b]?:=λb u=>by unfold ζ;simp only;exact eA<|cR u
 have v:(w.setChan i f l m g h o).heap[i]?=À (Λ f l m g h o):=by unfold ζ;simp[(fp.1 p).1]
 refine⟨by unfold ζ;simp,λb u=>q b λe=>u<|e▸y,λk _ a _=> ?_,λk _ a _=> ?_,λa t=> ?_⟩;by_cases e:a.block=i;unfold Ď;rw[e,v,p];unfold Ď;rw[q _ e];by_cases e:a.block=i;unfold û;rw[e,v,p];unfold û;rw[q _ e];by_cases e:a.block=i;unfold Ď at t;rw[e,p]at t;cases t;have:(w.setChan i f l m g h o).cell? a=w.cell? a:=by unfold Ď;rw[q _ e]
 rwa[this]
def iB.H(b:iB P i X S C B lot E w qJ){J:Jd}{T:gW}{K:jc}(d:n<E.size)(f:rT (λn=>n<E.size) X lot w W)(c:yL u)(h:∀l∈u,l.act.low w.heap.size)(hF:mG P (n==0) J T (lot n) g)(m:g.status=Í\/g.status=ï): iB P i X (fP S n J) (fP C n T) (fP B n K) lot (E.setIfInBounds n g) W (qJ++u):=by refine⟨?_,λk x a=> ?_,λj o=> ?_⟩;rw[show(λj=>j<(E.setIfInBounds n g).size)=(λj=>j<E.size) by simp];exact b.r.ag0 f c h;by_cases e:k=n;subst e;rw[Ñ d]at a;obtain rfl:=dh a;rw[ig,ig,ig];exact⟨_,hF,.gS,m,Á U⟩;rw[eA<|cR e]at a;rw[gi S _ e,gi C _ e,gi B _ e];exact b.C k x a;rw[K5 c];exact b.I j<|fN o
def Pt{f:gX->List gQ}:∀{l:List gX},(∀x∈l,f x=[])->l.flatMap f=[]|[],_=>rfl|x::l,h=>by rw[eL,h x fD,Pt λy a=>h y (by simp[a])];rfl
def Aw(r:Nat)(b:Bool)(g:Ì):Prop:=g.status=č/\∃a d,g.offers=À (a,d)/\∃c∈a,(c.send.isSome==b)=È/\(match c.chan with|.chan (À r')=>r'==r|_=>Ä)=È
theorem XB{r:Nat}{E:Array Ì}(h:∀(i:Nat)(g:Ì),E[i]?=À g->¬Aw r yQ g):ů E r yQ=[]:=by
 unfold ů;refine Pt λx m=> ?_;let⟨g,i⟩:=x;have d:E[i]?=À g:=by grind
 simp only[];split;rename_i b e f j;rw[Χ,Ź];intro y n a;let⟨c,k⟩:=y;have l:c∈b:=by grind
 simp only[eC]at a;exact h i g d ⟨f,b,e,j,c,l,a.1,by have:=a.2;revert this;cases c.chan<;>first|exact id|(rename_i q;cases q<;>exact id)⟩;rfl
def XC(f:gX×Nat->List gQ):∀(L:List gX)(n h:Nat)(x:gX),(∀y k,k≠h->(y,k)∈L.zipIdx n->f (y,k)=[])->n<=h->L[h-n]?=À x->(L.zipIdx n).flatMap f=f (x,h)
 |[],n,h,x,_,_,hx=>by simp at hx
 |a::L,n,h,x,hf,hn,hx=>by
  rw[bZ,eL];by_cases e:h=n;subst e;have:a=x:=fN hx;subst this;rw[Pt ?_,ep];intro y b;let⟨y,k⟩:=y;refine hf y k ?_ (by rw[bZ];exact fi _ b);have:=List.le_snd_of_mem_zipIdx b;simp only at this;omega;rw[hf a n Z (by rw[bZ];exact eZ ..),ec];refine XC f L (n+1) h x (λy k c b=>hf y k c<|by rw[bZ];exact fi _ b) Z ?_;have b:h-n=(h-(n+1))+1:=Z
  rw[b]at hx;simpa using hx
theorem ag5{E:Array Ì}(l:E[n]?=À g)(m:g.status=č)(o:g.offers=À (#[Ž i z],.recv È))(p:∀(a:Nat)(b:Ì),a≠n->E[a]?=À b->¬Aw i Ä b):ů E i Ä=[(n,0)]:=by
 unfold ů;have e:E.zipIdx.toList=E.toList.zipIdx:=fD;rw[e];rw[XC _ E.toList 0 n g (λy k r B=> ?_) (eD _)<|fN l];simp[m,o,Ž];have s:E[k]?=À y:=by grind
 simp only[];split;rename_i j t u v;rw[Χ,Ź];intro x C d;let⟨f,D⟩:=x;have w:f∈j:=by grind
 simp only[eC]at d;exact p k y r s ⟨u,j,t,v,f,w,d.1,by have:=d.2;revert this;cases f.chan<;>first|exact id|(rename_i q;cases q<;>exact id)⟩;rfl
theorem Pu(h:(E.setIfInBounds i ph)[k]?=À g):g.status=ï\/(k≠i/\E[k]?=À g):=by by_cases e:k=i;subst e;rw[Ň]at h;simp only[if_true]at h;split at h;left;obtain rfl:=dh h;rfl;cases h;grind
theorem iB.Pv(l:iB P i X S C B lot E w qJ)(c a:Nat):ů (E.setIfInBounds a ph) c È=[]:=by
 refine XB λk x m=> ?_;rintro⟨d,p,r,b,n,f,o,_⟩;obtain q|⟨_,q⟩:=Pu m;grind;let⟨g0,_,g,j,_⟩:=l.C k x q;generalize B k=K at g;cases g with
 |gS=>rw[d]at j;obtain e|e:=j<;>cases e
 |qz h e=>simp only[e]at b;cases b
 |vG e z h=>
  simp only[ū,dI,dJ]at b;rw[<-b.1]at f;have:n=Ž e z:=fN f;subst this;cases o
 |oT e z h=>cases d
def iB.G(e:iB P i X S C B lot E w qJ){N:Option Ã->Jd}(f:E[n]?=À g)(k:g.status=Í)(l:B n=.uG j z)(m:C n=.fS)(o:S n=yJ P (n==0) j z N): ∃a,mG P (n==0) (S n) (C n) (lot n) a/\a.status=Í/\a.offers=Ú/\à P (n==0) g w=.comm a #[Ž j z] È (.recv È) w #[]/\∀x:Option Ã,fF P (n==0) (N x) (lot n) {a with frame:=a.frame.finish (ŧ #[x.getD z,Ĭ x.isSome])}:=by
 let⟨a,hF,b,_,_⟩:=e.C n g f;have p:=hF;rw[o,m]at hF;let⟨x,q,d,r⟩:=hF _<|gd.gy _ _;rw[l]at b;refine⟨a,p,x,q,?_,r⟩;cases b with
 |gS=>exact d w|vG j z h=>cases k
 |oT j z h=>rw[stepG_tries];rw[show({a with status:=Í}:Ì)=a by cases a;simp only at x;subst x;rfl];exact d w
def Ax{g0:Ì}{a:Array CommCase}{b:CommShape}{ok:Bool}(c:g0.status=Í)(d:g0.offers=Ú):g0.finishComm P a b h v ok={g0 with frame:=g0.frame.finish (commResult a b h v ok)}:=by let⟨f,a,st,e,o⟩:=g0;simp only at c d;subst c d;rfl
def iB.oU(e:iB P i X S C B lot E w qJ){N:Option Ã->Jd}(h:E[n]?=À g)(G:g.status=Í)(l:B n=.uG j z)(H:C n=.fS)(I:S n=yJ P (n==0) j z N)(p:X j){r:Nat}{o:Bool}(q:w.heap[j]?=À (Λ b d yQ m r o))(t:d[0]?=À v)(K:jc): ∃a u T f,aW P (đ E w sl) n=(Į<|đ a (w.setChan j b (d.extract 1 d.size) yQ m (r+1) o) sl,u)/\a.size=E.size/\a[n]?=À f/\f.status=Í/\(∀k,k≠n->a[k]?=E[k]?)/\yL u/\ iB P i X (fP S n<|N<|À v) (fP C n T) (fP B n K) lot a (w.setChan j b (d.extract 1 d.size) yQ m (r+1) o) (qJ++u):=by
 have x:=(fp.1 h).1;let⟨g0,_,f,y,J,L⟩:=e.G h G l H I;have D:d.getD 0 ĭ=v:=by simp[fq,t]
 have M:=crowd_recv_buf (sl:=sl) h J q ((fp.1 t).1)<|e.Pv j n;let⟨T,O⟩:=j1<|L<|À v;refine⟨_,_,T,{g0 with frame:=g0.frame.finish (ŧ #[v,Ĭ È])},M,fD,?_,f,λk l=>eA<|cR l,?_,?_⟩;rw[Ax f y,D,Ñ x];rfl;intro F a;simp[Ê]at a;obtain rfl|rfl:=a<;>exact⟨U,fD⟩;rw[Ax f y,D];refine e.H x (K6 p q _ _ _ _ _ _) ?_ ?_ O<|Á f;intro F a;simp[Ê]at a;obtain rfl|rfl:=a<;>exact⟨U,fD⟩;intro F a;simp[Ê]at a;obtain rfl|rfl:=a<;>exact e.r.N j p
def iB.jR(e:iB P i X S C B lot E w qJ){N:Option Ã->Jd}(h:E[n]?=À g)(q:g.status=Í)(l:B n=.uG j z)(t:C n=.fS)(v:S n=yJ P (n==0) j z N)(x:X j){r:Nat}(y:w.heap[j]?=À (Λ b #[] È k r yQ))(K:jc): ∃d u T f,aW P (đ E w sl) n=(Į<|đ d w sl,u)/\d.size=E.size/\d[n]?=À f/\f.status=Í/\(∀a,a≠n->d[a]?=E[a]?)/\yL u/\ iB P i X (fP S n<|N Ú) (fP C n T) (fP B n K) lot d w (qJ++u):=by have m:=(fp.1 h).1;let⟨g0,_,f,o,D,F⟩:=e.G h q l t v;let⟨T,G⟩:=j1<|F Ú;refine⟨_,_,T,{g0 with frame:=g0.frame.finish (ŧ #[z,Ĭ Ä])},crowd_recv_closed (sl:=sl) h D y<|e.Pv j n,fD,?_,f,λa l=>eA<|cR l,?_,?_⟩;rw[Ax f o,Ñ m];rfl;intro p d;simp[Ê]at d;subst d;exact⟨U,fD⟩;rw[Ax f o];refine e.H m (rT.gy _ _ _ _) ?_ ?_ G<|Á f;intro p d;simp[Ê]at d;subst d;exact⟨U,fD⟩;intro p d;simp[Ê]at d;subst d;exact e.r.N j x
def iB.ag6(f:iB P i X S C B lot E w qJ){N:Option Ã->Jd}(m:E[n]?=À g)(u:g.status=Í)(h:B n=.uG j z)(o:C n=.fS)(v:S n=yJ P (n==0) j z N){r:Nat}(p:w.heap[j]?=À (Λ b #[] Ä k r yQ)): ∃d e,aW P (đ E w sl) n=(Į<|đ d w sl,#[])/\d.size=E.size/\d[n]?=À e/\e.status=č/\(∀a,a≠n->d[a]?=E[a]?)/\iB P i X S C B lot d w qJ:=by
 have q:=(fp.1 m).1;let⟨g0,hF,t,G,y,H⟩:=f.G m u h o v;have D:=crowd_waits (sl:=sl) m y (λd e=>by have:d=Ž j z:=fN e;subst this;exact⟨by simp[illMade,Ž,p],by simp[ways,Ž,p,f.Pv j n]⟩)
 refine⟨_,ū g0 #[Ž j z]<|.recv È,?_,fD,Ñ q,U,λa h=>eA<|cR h,?_,λa x l=> ?_,λd F=>f.I d<|fN F⟩;rw[D];rfl;rw[show(λd=>d<(E.setIfInBounds n<|ū g0 #[Ž j z]<|.recv È).size)=(λd=>d<E.size) by simp];exact f.r;by_cases e:a=n;subst e;rw[Ñ q]at l;obtain rfl:=dh l;refine⟨g0,hF,?_,Á t,Å o⟩;rw[h];exact .vG j z t;rw[eA<|cR e]at l;exact f.C a x l
def iB.jr(f:iB P i X S C B lot E w qJ){N:Jd}(h:E[n]?=À g)(l:B n=.no)(F:C n=.fS)(G:S n=G9 P (n==0) b v N)(p:X b){r:Nat}(t:w.heap[b]?=À (Λ m d Ä J r yQ))(H:d.size<m)(I:∀(k:Nat)(x:Ì),E[k]?=À x->¬Aw b Ä x): ∃e u T a,aW P (đ E w sl) n=(Į<|đ e (w.setChan b m (d.push v) Ä (J+1) r yQ) sl,u)/\e.size=E.size/\e[n]?=À a/\a.status=Í/\(∀k,k≠n->e[k]?=E[k]?)/\yL u/\ iB P i X (fP S n N) (fP C n T) B lot e (w.setChan b m (d.push v) Ä (J+1) r yQ) (qJ++u):=by
 have y:=(fp.1 h).1;let⟨g0,hF,z,_,_⟩:=f.C n g h;rw[l]at z;cases z with
 |gS=>
  rw[G,F]at hF;let⟨a,D,o,K⟩:=hF _<|gd.gy _ _;let⟨V,o⟩:=o w;have L:ů (E.setIfInBounds n ph) b Ä=[]:=XB λk x M=>by obtain q|⟨_,q⟩:=Pu M;rintro⟨e,_⟩;rw[q]at e;cases e;exact I k x q
  let⟨T,O⟩:=j1 K;have Q:fP B n .no=B:=by funext j;unfold fP;split<;>simp[*]
  refine⟨_,_,T,{g with frame:=g.frame.finish ĭ},crowd_send_room (sl:=sl) h o t H L,fD,?_,a,λk l=>eA<|cR l,?_,?_⟩;rw[Ax a D,Ñ y];rfl;intro q e;simp[Ê]at e;obtain rfl|rfl:=e<;>exact⟨U,fD⟩;rw[Ax a D,<-Q];refine f.H y (K6 p t _ _ _ _ _ _) ?_ ?_ O<|Á a;intro q e;simp[Ê]at e;obtain rfl|rfl:=e<;>exact⟨U,fD⟩;intro q e;simp[Ê]at e;obtain rfl|rfl:=e<;>exact f.r.N b p
def iB.ag7(o:iB P i X S C B lot E w qJ){p:Ì}{N:Jd}{D:Option Ã->Jd}(F:E[n]?=À g)(f:B n=.no)(ht:C n=.fS)(hs:S n=G9 P (n==0) b v N)(L:X b){r:Nat}(M:w.heap[b]?=À (Λ J d Ä j9 r yQ))(G:j≠n)(t:E[j]?=À p)(O:p.status=č)(K7:B j=.uG b z)(Px:C j=.fS)(K8:S j=yJ P (j==0) b z D)(K:jc)(hp:∀(k:Nat)(x:Ì),k≠j->E[k]?=À x->¬Aw b Ä x): ∃e u T y h q,aW P (đ E w sl) n=(Į<|đ e (w.setChan b J d Ä (j9+1) (r+1) yQ) sl,u)/\e.size=E.size/\e[n]?=À h/\h.status=Í/\e[j]?=À q/\q.status=Í/\(∀k,k≠n->k≠j->e[k]?=E[k]?)/\yL u/\ iB P i X (fP (fP S j<|D<|À v) n N) (fP (fP C j y) n T) (fP (fP B j K) n .no) lot e (w.setChan b J d Ä (j9+1) (r+1) yQ) (qJ++u):=by
 have Q:=(fp.1 F).1;have V:=(fp.1 t).1;let⟨g0,hF,W,_,_⟩:=o.C n g F;let⟨a,Y,XD,avO,_⟩:=o.C j p t;rw[f]at W;rw[K7]at XD;cases W with
 |gS=>
  rw[hs,ht]at hF;let⟨H,h2,I,h4⟩:=hF _<|gd.gy _ _;let⟨z',I⟩:=I w;rw[K8,Px]at Y;let⟨l,k2,k3,k4⟩:=Y _<|gd.gy _ _;have EG:p=ū a #[Ž b z] (.recv È):=by
   cases XD with
   |gS=>rw[O]at l;cases l
   |vG _ _ h=>rfl|oT _ _ h=>cases O
  subst EG;have hpn:ů (E.setIfInBounds n ph) b Ä=[(j,0)]:=ag5 (by rwa[eA<|cR G]) U U λk x f hx=>by obtain q|⟨_,q⟩:=Pu hx;rintro⟨e,_⟩;rw[q]at e;cases e;exact hp k x f q
  have Py:=crowd_send_meets (sl:=sl) F I M G t hpn;let⟨T,hT⟩:=j1 h4;let⟨y,hTj⟩:=j1<|k4<|À v;rw[Ax H h2,Ax l k2]at Py;have q:∀{h:Zn1},h∈Ê n g.frame.fn g.frame.place #[]++#[{g:=n,fn:=g.frame.fn,pos:=g.frame.place,act:=.send b j9},{g:=j,fn:=a.frame.fn,pos:=a.frame.place,act:=.recv b r J},{g:=n,fn:=g.frame.fn,pos:=g.frame.place,act:=.sendDone b j9},{g:=j,fn:=a.frame.fn,pos:=a.frame.place,act:=.recvDone b r}]->(h.act.touch?=Ú/\∀m,h.act≠Ņ m)/\h.act.low w.heap.size:=by intro h e;simp[Ê]at e;obtain rfl|rfl|rfl|rfl:=e<;>exact⟨⟨U,fD⟩,o.r.N b L⟩
  refine⟨_,_,T,y,{g with frame:=g.frame.finish ĭ},{a with frame:=a.frame.finish (ŧ #[v,Ĭ È])},Py,fD,?_,H,?_,l,λk f rU=> ?_,λh e=>(q e).1,?_⟩;rw[Ñ<|fN Q];rfl;rw[eA<|cR G,Ñ V];rfl;rw[eA<|cR f,eA<|cR rU];have m:iB P i X (fP S j<|D<|À v) (fP C j y) (fP B j K) lot (E.setIfInBounds j {a with frame:=a.frame.finish (ŧ #[v,Ĭ È])}) w (qJ++#[]):=o.H V (rT.gy _ _ _ _) (λh e=>by simp at e) (λh e=>by simp at e) hTj<|Á l;rw[dK]at m;refine m.H (fN Q) (K6 L M _ _ _ _ _ _) (λh e=>(q e).1) (λh e=>(q e).2) hT<|Á H
theorem iB.mq(o:iB P i X S C B lot E w qJ){N:Jd}(I:E[n]?=À g)(K:B n=.no)(ht:C n=.fS)(hs:S n=K3 P (n==0) J N)(L:X J)(hB:i<=J){r:Nat}(O:w.heap[J]?=À (Λ j9 q Ä j7 r yQ)): ∃t u T G,aW P (đ E w sl) n=(Į<|đ t (w.setChan J j9 q È j7 r yQ) sl,u)/\t.size=E.size/\t[n]?=À G/\G.status=Í/\(∀k x,k≠n->E[k]?=À x->t[k]?=À (x.again<|w.setChan J j9 q È j7 r yQ))/\(∀l∈u,l.g=n)/\(∀l∈u,∀b,l.act.touch?=À b->b.loc=.obj J/\b.kind=ĩ)/\(∀l∈u,∀m,l.act≠Ņ m)/\ iB P i X (fP S n N) (fP C n T) B (gV lot n {lot n with w:=w.setChan J j9 q È j7 r yQ}) t (w.setChan J j9 q È j7 r yQ) (qJ++u):=by
 have H:=(fp.1 I).1;have Q:=o.r.N J L;let⟨g0,hF,V,_,_⟩:=o.C n g I;rw[K]at V;cases V with
 |gS=>
  rw[hs,ht]at hF;let⟨h1,h2,G,M,h4,h5⟩:=hF w<|o.r.r n H;have v:=K6 (lot:=lot) (Live:=λn=>n<E.size) L O j9 j7 r q È yQ;have y:gd (lot n) w (w.setChan J j9 q È j7 r yQ):=⟨cZ v.r.symm,λj hj=>v.lB j<|o.r.I n H j hj,λa z=>v.M n H a z,λa z=>v.N n H a z,λa _=>v.I a⟩;let⟨T,hT⟩:=j1<|h5.mF ⟨y.r,y.I,y.N,y.Y,y.S⟩;have W:å (lot n).d (EE J)=(lot n).d:=aG (λe f=>by simp[EE]at f;grind) _;have D:∀e∈EE J,(∀b,(Ï e).touch?=À b->b.loc=.obj J/\b.kind=ĩ)/\(Ï e).low w.heap.size:=by intro e f;simp[EE]at f;obtain rfl|rfl:=f;exact⟨λb h=>by simp[Ï,í]at h;subst h;exact⟨U,U⟩,Q⟩;exact⟨λb h=>by simp[Ï,í]at h,Q⟩
  have e2:fP B n .no=B:=by funext j;unfold fP;split<;>simp[*]
  obtain⟨t,q1,q2,q3,q4,Y⟩:=o.K I (h4 w j9 q j7 r yQ O) v (by rwa[W]) (Á M) (λe f=>⟨λb h=>Å ⟨J,((D e f).1 b h).1,L,((D e f).1 b h).2⟩,(D e f).2⟩) (Pj o.r.l qf λl F b h=>by obtain⟨e,f,rfl⟩:=Ò F;let⟨z1,z2⟩:=(D e f).1 b h;refine Å (Å ⟨z2,λp a z hl xu=> ?_⟩);have:=o.r.s p a J z (by rw[hl,z1]) xu;omega);rw[W,e2]at Y;refine⟨t,_,T,G,q1,q2,q3,M,λk x K p=> ?_,qf,λl F b h=> ?_,λl F=> ?_,Y⟩;rw[q4 k K,p];simp only[dT,dI];rw[ė,if_pos (by simp[h2,M])];obtain⟨e,f,rfl⟩:=Ò F;exact(D e f).1 b h;obtain⟨e,f,rfl⟩:=Ò F;simp[EE]at f;intro m;obtain rfl|rfl:=f<;>simp[Ï]
end
def gu(b:Nat):Õ:=⟨b,0,Ú⟩
def iJ(b:Nat):Õ:=⟨b,1,Ú⟩
inductive GS where|cl (c reg:Nat)|ky (reg:Nat)|iK (r s:Nat)
def GS.st:GS->Int|.cl c a=>c*gK+a|.ky a=>a|.iK _ _=>0
def GS.sm:GS->Int|.iK _ s=>s|_=>0
def GS.ok:GS->Prop|.cl c r=>c<1000000/\r<1000000/\(c=0->r=0)|.ky r=>0<r/\r<1000000|.iK r s=>r+s<1000000
structure iR(w:Ç)(b:Nat)(G:GS):Prop where
 C:w.cell? (gu b)=À (ù Ý G.st)
 I:w.cell? (iJ b)=À (ù ń G.sm)
 M:w.frozen? (gu b)=Ä
 N:w.frozen? (iJ b)=Ä
 r:G.ok
theorem K9(h:w.cell? a=À x):(w.setCell a v).cell? a=À v:=by unfold Ď at h|-;unfold ü;grind
theorem Cn(h:a.block≠p.block\/a.off≠p.off):(w.setCell a v).cell? p=w.cell? p:=by unfold Ď ü;grind
theorem Pz:mo (w.setCell a v) b=mo w b:=by unfold mo ü;grind
def vH:(w.setCell a v).frozen? p=w.frozen? p:=by simp_all
theorem oV(h:j≠a.block):(w.setCell a v).heap[j]?=w.heap[j]?:=by unfold ü;grind
def ml:(w.setCell a v).heap.size=w.heap.size:=by simp_all
theorem Co(h:(w.cell? p).isSome=È):((w.setCell a v).cell? p).isSome=È:=by unfold Ď ü at*;grind
theorem ag8{Live Y:Nat->Prop}{c:Nat->fx}(f:Y a.block)(l:a.spot=Ú)(m:∀k,Live k->¬(c k).C a)(g:∀k,Live k->∀b,(c k).C b->b.spot=Ú):rT Live Y c w (w.setCell a v):=by refine⟨ml,λj h=>oV λe=>h<|e▸f,λk i b d=>Cn ?_,λ_ _ _ _=>vH,λb d=>Co d⟩;by_cases e:a.block=b.block;right;intro n;have:=g k i b d;let⟨o,p,q⟩:=b;let⟨r,s,t⟩:=a;grind;exact Á e
section
variable{b:Nat}{G:GS}
def iR.K(h:iR w b G)(a:u.cell? (gu b)=w.cell? (gu b))(c:u.cell? (iJ b)=w.cell? (iJ b))(d:u.frozen? (gu b)=w.frozen? (gu b))(e:u.frozen? (iJ b)=w.frozen? (iJ b)):iR u b G:=⟨a.trans h.C,c.trans h.I,d.trans h.M,e.trans h.N,h.r⟩
def iR.PE(h:iR w b G)(c:a.block≠b):iR (w.setCell a v) b G:=h.K (Cn<|Á c) (Cn<|Á c) vH vH
def iR.H{G':GS}(h:iR w b G)(a:G'.sm=G.sm)(d:G'.ok)(e:c=G'.st):iR (w.setCell (gu b)<|ù Ý c) b G':=⟨by rw[K9 h.C,e],by rw[Cn (Å<|by simp[gu,iJ]),h.I,a],by rw[vH,h.M],by rw[vH,h.N],d⟩
def iR.XE{G':GS}(h:iR w b G)(a:G'.st=G.st)(d:G'.ok)(e:c=G'.sm):iR (w.setCell (iJ b)<|ù ń c) b G':=⟨by rw[Cn (Å<|by simp[gu,iJ]),h.C,a],by rw[K9 h.I,e],by rw[vH,h.M],by rw[vH,h.N],d⟩
end
theorem La(a:0<=h)(b:h<18446744073709551616):Ý.wrap h=h:=by have:Ý.wrap h=h%18446744073709551616:=rfl;rw[this];omega
def ag9(a:4294967296<=h)(b:h<18446744073709551616):Ý.wrap (h+18446744069414584320)=h-4294967296:=by have:Ý.wrap (h+18446744069414584320)=(h+18446744069414584320)%18446744073709551616:=rfl;rw[this];omega
theorem aha(a:0<=h)(b:h<4294967296):ń.wrap h=h:=by have:ń.wrap h=h%4294967296:=rfl;rw[this];omega
def sK:Int:=18446744069414584320
def GS.jq:GS->GS|.cl (c+1) reg=>if c=0/\0<reg then .ky reg else .cl c reg|G=>G
section
variable{b:Nat}
theorem iR.ahb(h:iR w b (.cl i 0))(a:i+1<1000000):Ý.wrap ((GS.cl i 0).st+gK)=(GS.cl (i+1) 0).st/\iR (w.setCell (gu b)<|ù Ý<|Ý.wrap<|(GS.cl i 0).st+gK) b (.cl (i+1) 0):=by
 have e:Ý.wrap ((GS.cl i 0).st+gK)=(GS.cl (i+1) 0).st:=by simp only[GS.st,gK];grind [La]
 exact⟨e,h.H (G':=.cl (i+1) 0) U ⟨a,Z,Z⟩ e⟩
def iR.jq(h:iR w b (.cl (i+1) n)):Ý.wrap ((GS.cl (i+1) n).st+sK)=(GS.jq<|.cl (i+1) n).st/\iR (w.setCell (gu b)<|ù Ý<|Ý.wrap<|(GS.cl (i+1) n).st+sK) b (GS.jq<|.cl (i+1) n):=by
 let⟨f,a,g⟩:=h.r;have d:Ý.wrap ((GS.cl (i+1) n).st+sK)=(i:Int)*gK+n:=by simp only[GS.st,gK,sK];rw[ag9 Z Z];omega
 have e:Ý.wrap ((GS.cl (i+1) n).st+sK)=(GS.jq<|.cl (i+1) n).st:=by rw[d];simp only[GS.jq];by_cases q:i=0/\0<n;rw[if_pos q];obtain⟨rfl,_⟩:=q;simp[GS.st];rw[if_neg q];rfl
 refine⟨e,h.H ?_ ?_ e⟩;simp only[GS.jq];split<;>rfl;simp only[GS.jq];by_cases q:i=0/\0<n;rw[if_pos q];exact⟨q.2,a⟩;rw[if_neg q];exact⟨Z,a,λe=>by omega⟩
theorem iR.XF(h:iR w b (.cl i n))(f:0<i)(a:n+1<1000000):Ý.wrap ((GS.cl i n).st+1)=(GS.cl i<|n+1).st/\iR (w.setCell (gu b)<|ù Ý<|Ý.wrap<|(GS.cl i n).st+1) b (.cl i (n+1)):=by
 let⟨d,g,j⟩:=h.r;have e:Ý.wrap ((GS.cl i n).st+1)=(GS.cl i<|n+1).st:=by simp only[GS.st,gK];grind [La]
 exact⟨e,h.H (G':=.cl i (n+1)) U ⟨d,a,λe=>by omega⟩ e⟩
def iR.XG(h:iR w b (.ky i)):iR (w.setCell (gu b)<|ù Ý 0) b (.iK i 0):=h.H (G':=.iK i 0) U (by have:=h.r;simp only[GS.ok]at this|-;omega) U
theorem iR.kv{r:Nat}(h:iR w b (.iK (r+1) i)):iR (w.setCell (iJ b)<|ù ń<|ń.wrap<|(GS.iK (r+1) i).sm+1) b (.iK r (i+1)):=by have:=h.r;simp only[GS.ok]at this;refine h.XE (G':=.iK r (i+1)) U (by simp only[GS.ok];omega) ?_;simp only[GS.sm];grind [aha]
def iR.lQ{r:Nat}(h:iR w b (.iK r (i+1))):iR (w.setCell (iJ b)<|ù ń<|(GS.iK r<|i+1).sm-1) b (.iK r i):=by have:=h.r;simp only[GS.ok]at this;refine h.XE (G':=.iK r i) U (by simp only[GS.ok];omega) ?_;simp only[GS.sm];omega
def iR.ahc{G:GS}(h:iR w b G):(0<=G.st/\G.st<gK)↔∀c a,G=.cl c a->c=0:=by
 have d:=h.r;cases G with
 |cl c a=>
  let⟨r,s,f⟩:=d;simp only[GS.st,gK];constructor;intro q g i e;cases e;omega;intro q;have:=q c a U;subst this;omega
 |ky a=>simp only[GS.ok]at d;simp only[GS.st,gK];exact⟨λ_ _ _ e=>(by cases e),λ_=>by omega⟩|iK r s=>simp only[GS.st,gK];exact⟨λ_ _ _ e=>(by cases e),λ_=>by omega⟩
end
inductive kI where|kv|jl|ij (W:Nat)|jN (W:Nat)|jd (r:Nat)
inductive km where|jG|nO (p:SP)|wr|lQ|ij|na
section
variable(P:Ó)(main:Bool)(B:Nat)(b:Nat)(J:Jd)
def Hb:Nat->Jd|0=>J|r+1=>λl g=>l.d=1/\agW P main (iJ b) (match r with|0=>J|_=>fF P main<|Hb r) l g
def Lb(W:Nat):Jd:=λl g=>l.d=1/\agU P main (gu b) 0 (Hb P main b J W) l g
def Lc(W:Nat):Jd:=λl g=>l.d=1/\Xy P main (gu b) (λv=>if v=(W:Int)then Lb P main b J W else λ_ _=>True) l g
def PF:Jd:=λl g=>l.d=1/\Pn P main (gu b) sK (λs=>if s=0\/(gK<=s/\s<1000000*gK/\s%gK<1000000)then J else if 0<s/\s<1000000 then fF P main (Lc P main b J s.toNat)else λ_ _=>True) l g
def Ay:Jd:=λl g=>l.d=0/\G8 P main (Ĥ<|gu b) (PF P main b J) l g
def EH:kI->Jd|.kv=>Ay P main b J|.jl=>PF P main b J|.ij W=>Lc P main b J W|.jN W=>Lb P main b J W|.jd r=>Hb P main b J r
def Hc:Jd:=λl g=>l.d=0/\G8 P main (ZnR<|gu b) J l g
def XH:Jd:=λl g=>l.d=1/\Xy P main (gu b) (λv=>if v=0 then Hc P main b J else λ_ _=>True) l g
def Ld:Jd:=λl g=>l.d=1/\agV P main (iJ b) (XH P main b J) l g
def PG:Jd:=λl g=>l.d=1/\G8 P main (.write<|iJ b) (Ld P main b J) l g
def PH(p:SP):Jd:=λl g=>l.d=1/\EF P main (gu b) B (λ_=>Hc P main b J) (λv=>if v%gK=0 then PG P main b J else Ld P main b J) p l g
def sL:km->Jd|.jG=>λl g=>∃k,k<=B/\PH P main B b J (.fV k) l g|.nO p=>PH P main B b J p|.wr=>PG P main b J|.lQ=>Ld P main b J|.ij=>XH P main b J|.na=>Hc P main b J
end
section
variable{P:Ó}{Y:Nat->Prop}{S:Nat->Jd}{tr:Nat->gW}{f:Nat->jc}{lot:Nat->fx}{gs:Array Ì}{t:ÿ}
theorem jD.C{Live:Nat->Prop}(h:jD n Live Y lot w t)(E:Live i){l:fx}(s:∀b,l.O b->(lot i).O b)(x:∀b,l.I b->(lot i).M b\/(b<w.heap.size/\¬Y b/\(∀k,Live k->¬(lot k).O b)/\∀a:Õ,a.block=b->rh t i (é a)))(u:∀a,l.r a->(lot i).r a)(y:∀a,l.N a->(lot i).C a\/(Y a.block/\(∀k,Live k->¬(lot k).r a)/\rh t i (é a)))(F:l.K=(lot i).K)(D:l.d=(lot i).d)(G:l.w=w)(H:∀b,l.O b->¬l.I b)(I:∀a,l.r a->¬l.N a):jD n Live Y (gV lot i l) w t:=by
 have v:∀b,l.M b->(lot i).M b\/(b<w.heap.size/\¬Y b/\(∀k,Live k->¬(lot k).O b)/\∀a:Õ,a.block=b->rh t i (é a)):=λb g=>g.elim (λq=>Á<|Á<|s b q)<|x b;have B:∀a,l.C a->(lot i).C a\/(Y a.block/\(∀k,Live k->¬(lot k).r a)/\rh t i (é a)):=λa f=>f.elim (λq=>Á<|Á<|u a q)<|y a;refine⟨λk j c o m b g=> ?_,λk j c o m a f=> ?_,λk c b g=> ?_,λk c a f=> ?_,λk c b g=> ?_,λk c a f=> ?_,λk c b g=> ?_,h.N,λk c=> ?_,λk c=> ?_,λk c=> ?_,h.l,h.q,h.s,λk c a f=> ?_⟩;by_cases e:k=i;subst e;rw[iI]at g;rw[iq lot _<|cR m];exact h.o k j c o m b<|s b g;rw[iq lot _ e]at g;by_cases p:j=i;subst p;rw[iI];intro q;obtain z|⟨_,_,z,_⟩:=v b q;exact h.o k j c o m b g z;exact z k c g;rw[iq lot _ p];exact h.o k j c o m b g;by_cases e:k=i;subst e;rw[iI]at f;rw[iq lot _<|cR m];exact h.h k j c o m a<|u a f;rw[iq lot _ e]at f;by_cases p:j=i;subst p;rw[iI];intro q;obtain z|⟨_,z,_⟩:=B a q;exact h.h k j c o m a f z;exact z k c f;rw[iq lot _ p];exact h.h k j c o m a f;by_cases e:k=i;grind [iI];rw[iq lot _ e]at g|-;exact h.m k c b g;by_cases e:k=i;grind [iI];rw[iq lot _ e]at f|-;exact h.g k c a f;by_cases e:k=i;subst e;rw[iI]at g;exact(v b g).elim (h.I k c b) λz=>z.2.1;rw[iq lot _ e]at g;exact h.I k c b g;by_cases e:k=i;subst e;rw[iI]at f;exact(B a f).elim (h.e k c a) λz=>z.1;rw[iq lot _ e]at f;exact h.e k c a f;by_cases e:k=i;subst e;rw[iI]at g;exact(v b g).elim (h.fM k c b) λz=>z.1;rw[iq lot _ e]at g;exact h.fM k c b g;by_cases e:k=i;grind [iI,gd.gy];rw[iq lot _ e];exact h.r k c;by_cases e:k=i;subst e;rw[iI];refine⟨λa f=>(h.S k c).fE a<|s _ f,λa f=> ?_,λa f=>(h.S k c).C a<|u a f,λa f=> ?_⟩;obtain(z|z)|⟨_,_,_,z⟩:=x _ f;exact((h.S k c).fE a z).r;exact(h.S k c).rd a z;exact z a U;obtain(z|z)|⟨_,_,z⟩:=y _ f;exact((h.S k c).C a z).r;exact(h.S k c).r a z;exact z;rw[iq lot _ e];exact h.S k c;by_cases e:k=i;subst e;rw[iI,D];exact h.f k c;rw[iq lot _ e];exact h.f k c;have e:(lot k).K a:=by grind [iI,iq]
 let⟨p,q⟩:=h.n k c a e;grind [iI,iq]
def iB.M(b:iB P n Y S tr f lot gs w t){J:Jd}{T:gW}{K:jc}{l:fx}(c:gs[i]?=À g)(d:g.status=Í\/g.status=ï)(h:jD n (λi=>i<gs.size) Y (gV lot i l) w t)(hF:mG P (i==0) J T l g): iB P n Y (fP S i J) (fP tr i T) (fP f i K) (gV lot i l) gs w t:=by refine⟨h,λk x a=> ?_,b.I⟩;by_cases e:k=i;subst e;rw[c]at a;obtain rfl:=dh a;rw[ig,ig,ig,iI];exact⟨g,hF,.gS,d,Á U⟩;rw[gi S _ e,gi tr _ e,gi f _ e,iq lot _ e];exact b.C k x a
end
open Go.ConcN (RelBy fork_knows)
def Cp(t:ÿ)(p:Nat)(l:Loc):Prop:=∀q a,Ĉ t q=À a->a.loc=l->a.write=È->Before t q p
theorem Cp.Cq{u:ÿ}{l:Loc}(h:Cp qJ i l)(j:∀c∈u,∀b,c.act.touch?=À b->b.loc=l->b.write=È->False):Cp (qJ++u) i l:=by intro q a e f g;obtain⟨_,d⟩|⟨_,c,d,k,_⟩:=oG e;exact(h q a d f g).app u;grind
def Cp.ahd{l:Loc}(h:Cp qJ i l)(b:ε qJ n i):rh qJ n l:=λq a c d e=>Knows.of_before (h q a c d e) b
theorem ahe{l:Loc}(h:rh qJ i l)(c:wQ.g=i)(j:wQ.act.touch?=Ú):Cp (qJ++#[wQ]) qJ.size l:=by intro q a d e f;obtain⟨_,b⟩|⟨_,k,b,m,_⟩:=oG d;exact Å ((h q a b e f).hb_new (eE _) (by rw[ú<|eE _];simp) c);grind
structure Fx where
 L:Nat
 m:Nat
 C:Nat
 I:Nat->Nat
def Fx.M(F:Fx)(b:Nat):Prop:=b=F.C\/∃k,k<=F.m/\b=F.I k
def Fx.H(F:Fx)(x:Õ):Prop:=∃b,F.M b/\(x=gu b\/x=iJ b)
def jS(F:Fx)(k:Nat):Õ:=⟨F.I k,2,Ú⟩
def Fx.K(F:Fx)(a:Nat->Option Nat)(x:Õ)(g:Option Nat):Prop:=(x=iJ F.C/\g=À 0)\/∃k j,k<=F.m/\x=iJ (F.I k)/\a k=À j/\g=À (F.L+1+j)
structure TI(F:Fx)(t0:Nat)(j2:Loc->Prop)(sp rl:Nat)(V:Nat->Nat->Prop)(pk:Nat->Nat)(fs:Nat->Option Nat)(rx:Nat->Prop)(ql:Nat->Nat)(t:ÿ):Prop where
 M:t0<=t.size
 I:∀p a x,Ĉ t p=À a->a.loc=é x->F.H x->(p<t0/\t.g? p=À 0)\/a.kind=ĩ\/(a.kind=.said/\F.K fs x (t.g? p))
 Cr:∀x,x<sp->∀p,p<t0->t.g? p=À 0->ε t (F.L+x) p
 S:∀k,1<=k->k<=rl->t.act? (pk k)=À (Ņ<|Ĥ<|gu<|F.I k)/\t.g? (pk k)=À F.L/\t.heard (pk k)
 C:∀k,1<=k->k<=rl->∀a:Õ,(V k a.block\/a=jS F k)->Cp t (pk k) (é a)
 c:∀b,F.M b->NoRelease (gu b) t
 jq:∀x,x<sp->rx x->RelBy (gu F.C) t (F.L+x) (ql x)/\∀p a,Ĉ t p=À a->t.g? p=À (F.L+x)->p<=ql x\/((∃y:Õ,a.loc=é y/\y.block=F.C)/\a.kind=ĩ)
 N:∀p a,t0<=p->Ĉ t p=À a->t.g? p=À 0\/∃x,x<sp/\t.g? p=À (F.L+x)
 e:∀p a,p<t0->Ĉ t p=À a->a.loc.isMemory=È->ε t 0 p\/(j2 a.loc/\a.kind=ĩ)
 d:∀p g,p<t0->t.g? p=À g->g≠0->t.counts p->∃j,t.g? j=À 0/\HappensBefore t p j
section
variable{F:Fx}{t0:Nat}{j2:Loc->Prop}{sp rl:Nat}{V:Nat->Nat->Prop}{pk:Nat->Nat}{fs:Nat->Option Nat}{rx:Nat->Prop}{ql:Nat->Nat}{t u:ÿ}
theorem Le(h:t.g? i=À n):i<t.size:=by unfold ĵ at h;grind
def He(h:t.g? i=À n):(t++u).g? i=À n:=by rwa[ρ<|Le h]
theorem PK{a:Zn4}(h:Ĉ t i=À a):i<t.size:=by let⟨b,c,_⟩:=Zot h;grind
structure Lf(F:Fx)(sp rl:Nat)(V:Nat->Nat->Prop)(fs:Nat->Option Nat)(rx:Nat->Prop)(t u:ÿ)(i:Nat):Prop where
 C:∀op∈u,∀a,op.act.touch?=À a->op.g=i
 N:i=0\/(∃x,x<sp/\i=F.L+x)\/∀op∈u,op.act.touch?=Ú
 I:∀op∈u,∀a x,op.act.touch?=À a->a.loc=é x->F.H x->a.kind=ĩ\/(a.kind=.said/\F.K fs x (À i))
 fH:∀op∈u,∀(a:Zn4)(y:Õ),op.act.touch?=À a->a.write=È->a.loc=é y->∀k,1<=k->k<=rl->¬V k y.block/\y≠jS F k
 M:∀op∈u,∀b,F.M b->op.act≠Ņ (Zou<|gu b)
 jq:∀x,x<sp->rx x->(∀r,RelBy (gu F.C) t (F.L+x) r->RelBy (gu F.C) (t++u) (F.L+x) r)/\(F.L+x=i->∀op∈u,∀a,op.act.touch?=À a->(∃y:Õ,a.loc=é y/\y.block=F.C)/\a.kind=ĩ)
def TI.r(h:TI F t0 j2 sp rl V pk fs rx ql t)(f:Lf F sp rl V fs rx t u i):TI F t0 j2 sp rl V pk fs rx ql (t++u) where
 M:=by rw[b7];have:=h.M;omega
 I p a x n y hc:=by
  obtain⟨d,c⟩|⟨d,m,c,l,j⟩:=oG n;rw[ρ d];exact h.I p a x c y hc;refine Å ((f.I m c a x l y hc).imp id λq=>⟨q.1,?_⟩);have:(t++u).g? p=À i:=by rw[ĵ,j];simp[f.C m c a l]
  rw[this];exact q.2
 Cr x r p d o:=(h.Cr x r p d<|by rwa[ρ<|ff d h.M]at o).app u;S k c l:=by let⟨v,s,b⟩:=h.S k c l;have w:=Le s;exact⟨by rwa[Zov w],He s,(heard_old w).2 b⟩
 C k c l a n:=(h.C k c l a n).Cq λm B b z y C=>by have:=f.fH m B b a z C y k c l;exact n.elim this.1 this.2
 c b z:=(h.c b z).app λm B=>f.M m B b z;jq x r hr:=by
  let⟨v,s⟩:=h.jq x r hr;let⟨D,E⟩:=f.jq x r hr;refine⟨D _ v,λp a n o=> ?_⟩;obtain⟨d,c⟩|⟨d,m,c,l,j⟩:=oG n;exact s p a c (by rwa[ρ d]at o);have e:(t++u).g? p=À i:=by rw[ĵ,j];simp[f.C m c a l]
  rw[e]at o;exact Å<|E (dh o).symm m c a l
 N p a d n:=by
  obtain⟨D,c⟩|⟨_,m,c,l,j⟩:=oG n;rw[ρ D];exact h.N p a d c;have e:(t++u).g? p=À i:=by rw[ĵ,j];simp[f.C m c a l]
  rw[e];obtain q|⟨x,r,q⟩|q:=f.N;exact Á (by rw[q]);exact Å ⟨x,r,by rw[q]⟩;rw[q m c]at l;cases l
 e p a d n hm:=by rw[touchAt_old<|ff d h.M]at n;exact(h.e p a d n hm).imp (·.app u) id
 d p g d o mP hc:=by have w:=ff d h.M;rw[ρ w]at o;rw[counts_old w]at hc;let⟨j,v,s⟩:=h.d p g d o mP hc;exact⟨j,He v,hb_app u s⟩
theorem Az(f:∀c∈u,c.act.touch?=Ú)(h:∀c∈u,∀b,F.M b->c.act≠Ņ (Zou<|gu b)):Lf F sp rl V fs rx t u 0 where
 C c e a d:=by rw[f c e]at d;cases d
 N:=Á U;I c e a x d:=by rw[f c e]at d;cases d
 fH c e a y d:=by rw[f c e]at d;cases d
 M:=h;jq x hx g:=by refine⟨λr g=>g.app λj l m i=> ?_,λ_ c e a d=>by rw[f c e]at d;cases d⟩;let⟨z,k,_⟩:=i;obtain⟨q,_⟩|⟨_,c,n,o,_⟩:=oG k;all_goals grind
def TI.ahf(h:TI F t0 j2 sp rl V pk fs rx ql t){b:Nat->Option Nat}(c:∀k y,fs k=À y->b k=À y):TI F t0 j2 sp rl V pk b rx ql t:= {h with I:=λp a x d e f=>(h.I p a x d e f).imp id (Or.imp id λq=>⟨q.1,q.2.imp id λ⟨k,j,g,i,l,m⟩=>⟨k,j,g,i,c k j l,m⟩⟩)}
theorem TI.Hf(h:TI F t0 j2 sp rl V pk fs rx ql t){y:Zn1}(j:wQ.g=0/\wQ.act=.go (F.L+sp))(k:y.g=F.L+sp/\y.act=.start)(m:Ū t 0=0)(n:Ū t (F.L+sp)=0)(B:¬rx sp)(o:∀wQ,rx wQ->wQ<sp):TI F t0 j2 (sp+1) rl V pk fs rx ql (t++#[wQ,y]):=by
 have q:∀c∈#[wQ,y],c.act.touch?=Ú:=by intro c a;simp at a;obtain rfl|rfl:=a;rw[j.2];rfl;rw[k.2];rfl
 have r:∀c∈#[wQ,y],∀b,F.M b->c.act≠Ņ (Zou<|gu b):=by grind
 have d:=h.r<|Az q r;refine{d with Cr:=λz s p f i=> ?_,jq:=λz s l=>d.jq z (o z l) l,N:=λp a f u=>((d.N p a f u).imp id λ⟨z,v,e⟩=>⟨z,Z,e⟩)};by_cases e:z<sp;exact d.Cr z e p f i;obtain rfl:z=sp:=Z;rw[ρ<|ff f h.M]at i;let⟨c,v,w⟩:=è.1 i;have:=Τ v;rw[w]at this;exact ZnU j k m n this
theorem ahg{y:Zn1}(d:wQ.g=0/\wQ.act=.go k)(e:y.g=k/\y.act=.start)(j:Ū t 0=0)(m:Ū t k=0){l:Loc}:(sJ t 0 l->sJ (t++#[wQ,y]) k l)/\(rh t 0 l->rh (t++#[wQ,y]) k l):=by
 have q:∀c∈#[wQ,y],c.act.touch?=Ú:=by intro c a;simp at a;obtain rfl|rfl:=a;rw[d.2];rfl;rw[e.2];rfl
 refine⟨λh p a f i=> ?_,λh p a f i n=> ?_⟩;obtain⟨_,b⟩|⟨_,c,b,o,_⟩:=oG f;exact ZnU d e j m<|h p a b i;grind;obtain⟨_,b⟩|⟨_,c,b,o,_⟩:=oG f;exact ZnU d e j m<|h p a b i n;grind
theorem TI.ahh(h:TI F t0 j2 sp rl V pk fs rx ql t)(f:wQ.g=F.L)(i:wQ.act=Ņ (Ĥ<|gu<|F.I<|rl+1))(l:Ū t F.L=0)(q:∀a:Õ,(V (rl+1) a.block\/a=jS F (rl+1))->rh t F.L (é a)): TI F t0 j2 sp (rl+1) V (fP pk (rl+1) t.size) fs rx ql (t++#[wQ]):=by
 have m:∀c∈#[wQ],c.act.touch?=Ú:=by intro c e;have:c=wQ:=fN e;rw[this,i];rfl
 have d:=h.r (Az m λc e b _=>by grind);have n:(t++#[wQ])[t.size]?=À wQ:=by rw[ú<|eE _];simp
 have j:∀k,k<=rl->fP pk (rl+1) t.size k=pk k:=λk r=>gi pk _ Z;refine{d with S:=λk b o=> ?_,C:=λk b o a p=> ?_};by_cases e:k=rl+1;subst e;rw[ig];exact⟨by rw[act?_of n,i],by simp[ĵ,f],⟨F.L,by simp[ĵ,f],by rwa[ZnT<|eE _]⟩⟩;rw[j k Z];exact d.S k b Z;by_cases e:k=rl+1;grind [ig,ahe];rw[j k Z];exact d.C k b Z a p
theorem TI.ahi(h:TI F t0 j2 sp rl V pk fs rx ql t){x:Nat}(r:x<sp)(d:wQ.g=F.L+x)(f:wQ.act=Ņ (Ĥ<|gu F.C))(k:Ū t (F.L+x)=0)(s:¬rx x): TI F t0 j2 sp rl V pk fs (λz=>rx z\/z=x) (fP ql x t.size) (t++#[wQ]):=by
 have l:∀c∈#[wQ],c.act.touch?=Ú:=by intro c a;have:c=wQ:=fN a;rw[this,f];rfl
 have j:=h.r (Az l λc a b _=>by grind);have b:(t++#[wQ])[t.size]?=À wQ:=by rw[ú<|eE _];simp
 refine{j with jq:=λz m n=> ?_};by_cases e:z=x;subst e;rw[ig];refine⟨⟨by rw[act?_of b,f],by simp[ĵ,d],⟨F.L+z,by simp[ĵ,d],by rwa[ZnT<|eE _]⟩,λi u o=> ?_⟩,λp a q _=>Á ?_⟩;have:=Le o;simp at this;omega;have:=PK q;simp at this;omega;rw[gi ql _ e];exact j.jq z m<|n.resolve_right e
def XI(e:t.act? i=À (Ņ<|Ĥ a))(f:t.g? i=À k)(h:t.heard i)(l:NoRelease a t)(c:wQ.g=n)(m:wQ.act=Ņ (ZnR a))(o:Ū t n=0):ε (t++#[wQ]) n i:=by
 have b:=Le f;have d:(t++#[wQ])[t.size]?=À wQ:=by rw[ú<|eE _];simp
 refine⟨t.size,wQ,d,c,Å<|.single<|Å ⟨.marked b (Å<|by rwa[Zov b]) (by rw[act?_of d,m]) λj _ q=> ?_,(heard_old b).2 h,⟨n,by simp[ĵ,c],by rwa[ZnT<|eE _]⟩⟩⟩;rw[Zov q];exact l j
theorem TI.mq(h:TI F t0 j2 sp rl V pk fs rx ql t)(G:wQ.g=0)(o:wQ.act=Ņ (ZnR<|gu F.C))(H:Ū t 0=0)(k:∀x,x<sp->rx x): (∀p a,Ĉ (t++#[wQ]) p=À a->a.loc.isMemory=È->ε (t++#[wQ]) 0 p\/((j2 a.loc\/∃x:Õ,a.loc=é x/\x.block=F.C)/\a.kind=ĩ))/\(t++#[wQ]).HandedOver:=by
 have Q:wQ.act.touch?=Ú:=by rw[o];rfl
 have s:=λx c=>by let⟨b,_⟩:=h.jq x c<|k x c;exact XI b.act b.g b.heard (h.c _<|Á U) G o H
 have u:∀p a,Ĉ (t++#[wQ]) p=À a->p<t.size/\Ĉ t p=À a:=λp a l=>by obtain q|⟨_,v,d,w,_⟩:=oG l;all_goals grind
 have B:∀p q x,t.g? p=À (F.L+x)->t.g? q=À (F.L+x)->p<=q->Before (t++#[wQ]) p q:=λp q x d w S=>by obtain f|i:=ey p q;exact Å<|.single<|Á ⟨f,_,He d,He w⟩;exact Á Z
 refine⟨λp a l I=> ?_,λp g C J K=> ?_⟩;let⟨f,d⟩:=u p a l;by_cases e:p<t0;obtain q|⟨b,i⟩:=h.e p a e d I;exact Á<|q.app _;grind;obtain q|⟨x,c,q⟩:=h.N p a Z d;let⟨v,m,n⟩:=è.1 q;have:=Τ m;rw[n]at this;exact Á<|this.app _;let⟨b,i⟩:=h.jq x c<|k x c;obtain z|⟨j,P⟩:=i p a d q;exact Á<|Knows.of_before (B p (ql x) x q b.g z)<|s x c;grind
 .let⟨z,D,M,N⟩:=K;let⟨f,d⟩:=u p z D;have O:t.g? p=À g:=by rwa[ρ f]at C
  have E:=(counts_old f).1 ⟨z,D,M,N⟩;by_cases e:p<t0;let⟨j,b,i⟩:=h.d p g e O J E;exact⟨j,He b,hb_app _ i⟩;obtain q|⟨x,c,q⟩:=h.N p z Z d;grind;let⟨b,_⟩:=h.jq x c<|k x c;let⟨r,v,m,n,i⟩:=s x c;have j:(t++#[wQ]).g? r=À 0:=by rw[ĵ,m];simp[n]
  refine⟨r,j,?_⟩;rcases(B p (ql x) x q b.g<|dz λP=>b.after p P q E).trans i with P|P;all_goals grind
end
open Go.ConcN (sumTo)
structure Ph extends Fx where
 P:Ó
 S:Nat
 n:Nat
 q:Nat
 Y:Nat
 f:Nat
 r:Nat->Nat
 a:Nat->Nat
 b:Nat->Nat
 c:Nat->Ã
 z:Ã
 B:Nat
 γ:Type
 l:γ
 i:Nat->Prop
 p:Nat->γ->γ->Prop
 d:Nat->γ->(Nat->Prop)->Ç->Prop
 o:Nat->ByteArray
 k:Nat->ByteArray
 g:Nat->(Nat->Nat)->Jd
 h:Nat->Jd
 e:Nat->Nat->Jd
 j:(Nat->Nat)->Jd
inductive oW(F:Ph):Nat->F.γ->Prop|xn:oW F 0 F.l|EI {k:Nat} {s s':F.γ} (h:oW F k s) (hn:F.p k s s'):oW F (k+1) s'
def j4(F:Ph)(p:Nat):Õ:=⟨F.Y,p,Ú⟩
inductive gH where|go (j:Nat)|ng (j:Nat)|rd (j:Nat)|jl (j:Nat)|jr (r:Nat)|mq (r:Nat)|fT (p:km)|gN
inductive ko where|lY (k:Nat)|mk (k:Nat)|dn (k:Nat) (p:kI)
inductive iD where|oU (r:Nat)|fT (r:Nat) (p:km)|iA (r:Nat)|qx (r:Nat)
inductive iW where|qA|gN (p:kI)|kl (N:Nat)
section
variable(F:Ph)
def Hg:Jd:=λl g=>∃N,QuitsD F.P N l.d g
def lR(l:fx):fx:={l with O:=λ_=>False,I:=λ_=>False,r:=λ_=>False,N:=λ_=>False,q:=True}
def Cs:Jd:=λl g=>EH F.P Ä F.C (Hg F) .kv (lR l) g
def EJ(c j r:Nat):Jd:=yJ F.P Ä c F.z λx=>match x with|some v=>λl g=>v=F.c (j+r*F.n)->sL F.P Ä F.B (F.I<|F.r<|j+r*F.n) (F.e c<|j+r*F.n) .jG l g|none=>Cs F
def xv(l:fx)(i:Nat):fx:={l with r:=λa=>l.r a/\a≠j4 F (F.a i),N:=λa=>l.N a\/a=j4 F (F.a i)}
def rV(l:fx)(k:Nat):fx:={l with O:=λ_=>False,I:=l.M,r:=λa=>l.r a/\a≠j4 F (F.b k)/\a≠jS F.toFx k,N:=λa=>l.N a\/a=j4 F (F.b k)\/a=jS F.toFx k}
def JW(c j:Nat):iD->Jd|.oU r=>EJ F c j r|.fT r p=>sL F.P Ä F.B (F.I<|F.r<|j+r*F.n) (F.e c<|j+r*F.n) p|.iA r=>F.e c<|j+r*F.n|.qx r=>λl g=>l.w.cell? (j4 F<|F.a<|j+r*F.n)=À (Ĕ<|F.k<|j+r*F.n)/\EJ F c j (r+1) (xv F l<|j+r*F.n) g
def JI(sg:Nat->F.γ):ko->Jd|.lY k=>F.h k|.mk k=>λl g=>∃p V,F.p (k-1) (sg<|k-1) p/\F.d k p V l.w/\(∀b,V b->l.M b)/\l.w.cell? (j4 F<|F.b k)=À (Ĕ<|F.o k)/\EH F.P Ä (F.I k) (fF F.P Ä<|F.h k) .kv (rV F l k) g|.dn k p=>EH F.P Ä (F.I k) (fF F.P Ä<|F.h k) p
def JE:iW->Jd|.qA=>Cs F|.gN p=>EH F.P Ä F.C (Hg F) p|.kl N=>ri F.P N
def Lh(j:Nat)(a:Nat->Nat):Jd:=λl g=>∃c,F.g j (fP a (j-1) c) l g
def XJ(j:Nat)(a:Nat->Nat):Jd:=λl g=>l.d=1/\G8 F.P È (.read<|iJ F.C) (Lh F j a) l g
def PL(j:Nat)(a:Nat->Nat):Jd:=λl g=>l.d=1/\Pn F.P È (gu F.C) gK (λs=>if s=gK then fF F.P È (XJ F j a)else if gK<s/\s<1000000*gK/\s%gK=0 then fF F.P È (Lh F j a)else λ_ _=>True) l g
def Ct(a:Nat->Nat):Nat->Jd|0=>sL F.P È F.B F.C (F.j a) .jG|r+1=>K3 F.P È (a<|F.n-(r+1))<|Ct a r
def Hh(a:Nat->Nat):Nat->Jd|0=>Ct F a F.n|r+1=>G9 F.P È (a<|(F.q-(r+1))%F.n) (F.c<|F.q-(r+1))<|Hh a r
def JM(dk:Nat->Nat):gH->Jd|.go j=>F.g j dk|.ng j=>Lh F j dk|.rd j=>XJ F j dk|.jl j=>PL F j dk|.jr r=>Hh F dk r|.mq r=>Ct F dk r|.fT p=>sL F.P È F.B F.C (F.j dk) p|.gN=>F.j dk
def nK(x:Nat)(a:Õ):Prop:=if x=0 then(∃k,1<=k/\k<=F.m/\(a=jS F.toFx k\/a=j4 F (F.b k)))else∃i,i<F.q/\i%F.n=x-1/\a=j4 F (F.a i)
end
def gH.sp(n:Nat):gH->Nat|.go j|.ng j|.rd j|.jl j=>j|_=>n+1
def gH.ad(n:Nat):gH->Nat|.jl j=>j|.go j|.ng j|.rd j=>j+1|_=>n+1
def gH.n8(q:Nat):gH->Nat|.go _|.ng _|.rd _|.jl _=>0|.jr r=>q-r|_=>q
def gH.jR(n:Nat):gH->Nat|.mq r=>n-r|.fT _|.gN=>n|_=>0
def km.uH:km->Nat|.wr|.lQ=>1|_=>0
def gH.ik:gH->Nat|.fT p=>p.uH|_=>0
def kI.mH:kI->Nat|.kv|.jl=>1|_=>0
def iW.mH:iW->Nat|.qA=>1|.gN p=>p.mH|_=>0
def iW.qg:iW->Prop|.qA=>False|_=>True
def nP:Option iW->Nat|none=>1|some e=>e.mH
def kI.rR:kI->Prop|.kv=>False|_=>True
def iW.rR:iW->Prop|.qA=>False|.gN p=>p.rR|_=>True
def ko.md:ko->Nat|.lY k=>k|.mk k=>k-1|.dn k _=>k
def ko.rl:ko->Nat|.lY k=>k|.mk k|.dn k .kv=>k-1|.dn k _=>k
def ko.od:ko->Nat|.lY k=>k|.mk k|.dn k .kv|.dn k .jl=>k-1|.dn k _=>k
def iD.jz:iD->Nat|.oU r=>r|.fT r _|.iA r|.qx r=>r+1
def iD.lS:iD->Nat|.oU r|.fT r _|.iA r|.qx r=>r
def iD.ik(F:Ph)(j:Nat)(k:Nat):iD->Nat|.fT r p=>if F.r (j+r*F.n)=k then p.uH else 0|_=>0
structure gE(F:Ph) where
 N:gH
 S:ko
 C:Nat->iD
 M:Nat->Option iW
 I:Nat->Nat
 c:Nat->F.γ
 V:Nat->Nat->Prop
 e:Nat->Nat
 d:Nat->Option Nat
 f:Nat->Nat
 b:GS
 a:Nat->GS
 g:Option Nat
 h:Nat->Nat
section
variable{F:Ph}
def gE.r(E:gE F):Nat:=E.N.sp F.n
def gE.H(E:gE F)(x:Nat):Nat:=if x<E.N.ad F.n then nP (E.M x)else 0
def gE.K(E:gE F)(x:Nat):Prop:=∃e,E.M x=À e/\e.rR
def gE.qg(E:gE F)(x:Nat):Prop:=∃e,E.M x=À e/\e.qg
def gE.Y(E:gE F)(b:Nat):Prop:=F.M b\/b=F.Y\/∃j,j+2<=E.r/\b=E.I j
def vI(n j Q s:Nat):Prop:=∀i,i<s↔j+i*n<Q
def kM:gH->jc|.fT .lQ=> .jd|_=> .no
def kW(F:Ph)(c:Nat):iD->jc|.oU _=> .uG c F.z|.fT _ .lQ=> .jd|_=> .no
end
structure Ph.Ok(F:Ph):Prop where
 N:1<=F.n
 r:1<=F.L
 gL:F.n+F.q+F.m<1000
 I:∀i,i<F.q->F.r i<=F.m
 M:∀k,k<=F.m->F.I k≠F.C
 S:∀k k',k<=F.m->k'<=F.m->F.I k=F.I k'->k=k'
 C:¬F.M F.Y
 a:∀i i',i<F.q->i'<F.q->F.a i=F.a i'->i=i'
 pi:∀k k',1<=k->k<=F.m->1<=k'->k'<=F.m->F.b k=F.b k'->k=k'
 PN:∀i k,i<F.q->1<=k->k<=F.m->F.a i≠F.b k
 gA:∀b,F.M b\/b=F.Y->F.S<=b
 Y:(∀k,1<=k->k<=F.m->F.b k≠F.f)/\∀i,i<F.q->F.a i≠F.f
structure jm(F:Ph)(E:gE F)(lot:Nat->fx)(sz:Nat)(w:Ç):Prop where
 iH:∀i,i<sz->∀a,(lot i).C a->(∃k,k<=F.m/\a=jS F.toFx k)\/∃p,p≠F.f/\a=j4 F p
 o:∀x,E.r<=x->x<=F.n->∀a,nK F x a->(lot 0).r a
 nI:E.r<=F.n->(lot 0).N (jS F.toFx 0)/\∀b,F.i b->(lot 0).I b
 e:0<E.r->∀k,E.S.md<k->k<=F.m->(lot F.L).r (jS F.toFx k)/\(lot F.L).r (j4 F<|F.b k)
 f:0<E.r->E.M 0=Ú->(lot F.L).N (jS F.toFx E.S.md)/\∀b,E.V E.S.md b->(lot F.L).I b
 h:∀j,j+2<=E.r->E.M (j+1)=Ú->∀r,j+r*F.n<F.q->(E.C j).lS<=r->(lot<|F.L+1+j).r (j4 F<|F.a<|j+r*F.n)
 l:∀j,j+2<=E.r->E.M (j+1)=Ú->(lot<|F.L+1+j).N (jS F.toFx 0)/\∀b,F.i b->(lot<|F.L+1+j).I b
 S:∀x,E.qg x->lot (F.L+x)=lR (lot<|F.L+x)
 M:∀i,(i=0\/∃x,x<E.r/\i=F.L+x/\¬E.qg x)->¬(lot i).q
 c:∀i,0<i->i<F.L->lot i=lR (lot i)
 I:∀k,k<=E.S.md->∀b,E.V k b->b<w.heap.size/\¬E.Y b/\∀i,i<sz->¬(lot i).O b
 N:∀k,k<=E.S.md->∀i,i<sz->¬(lot i).r (jS F.toFx k)
 g:∀k,1<=k->k<=E.S.md->∀i,i<sz->¬(lot i).r (j4 F<|F.b k)
 d:∀j,j+2<=E.r->∀r,j+r*F.n<F.q->r<(E.C j).lS->∀i,i<sz->¬(lot i).r (j4 F<|F.a<|j+r*F.n)
structure Wd(F:Ph)(E:gE F)(w:Ç):Prop where
 C:iR w F.C E.b
 I:∀k,k<=F.m->iR w (F.I k) (E.a k)
 kz:∀j,j+2<=E.r->∃buf s,w.heap[E.I j]?=À (Λ F.q buf (decide<|j<E.N.jR F.n) s (E.C j).jz Ä)/\vI F.n j (E.N.n8 F.q) s/\(E.C j).jz<=s/\buf.size=s-(E.C j).jz/\∀i,i<s-(E.C j).jz->buf[i]?=À (F.c<|j+((E.C j).jz+i)*F.n)
 M:∀k,k<=E.S.md->oW F k (E.c k)/\F.d k (E.c k) (E.V k) w
 S:∀k,1<=k->k<=E.S.md->w.cell? (j4 F<|F.b k)=À (Ĕ<|F.o k)
 N:∀j,j+2<=E.r->∀r,j+r*F.n<F.q->r<(E.C j).lS->w.cell? (j4 F<|F.a<|j+r*F.n)=À (Ĕ<|F.k<|j+r*F.n)
structure Ps(F:Ph)(E:gE F):Prop where
 v:E.V 0=F.i
 C:∀j,E.N=.go j\/E.N=.ng j\/E.N=.rd j\/E.N=.jl j->j<=F.n
 K:∀j,E.N=.ng j\/E.N=.rd j\/E.N=.jl j->1<=j
 L:∀r,(E.N=.jr r->r<=F.q)/\(E.N=.mq r->r<=F.n)
 J:E.r=0->E.S=.lY 0
 I:∀k,(E.S=.lY k->k<=F.m)/\(E.S=.mk k->1<=k/\k<=F.m)/\(∀p,E.S=.dn k p->1<=k/\k<=F.m)
 z:∀j,E.r<j+2->E.C j=.oU 0
 d:∀j r,j+2<=E.r->((∃p,E.C j=.fT r p)\/E.C j=.iA r\/E.C j=.qx r)->j+r*F.n<F.q
 l:∀j,j+2<=E.r->E.M (j+1)≠Ú->j<E.N.jR F.n/\∃r,E.C j=.oU r/\∀i,j+i*F.n<F.q->i<r
 f:E.M 0≠Ú->E.S=.lY F.m
 h:∀x,E.r<=x->E.M x=Ú
 M:∀j j',j+2<=E.r->j'+2<=E.r->E.I j=E.I j'->j=j'
 o:∀j,j+2<=E.r->¬F.M (E.I j)/\E.I j≠F.Y/\F.S<=E.I j
 t:∀c reg,E.b=.cl c reg->c=ĸ (F.n+1) E.H/\reg=E.N.ik
 g:∀reg,E.b=.ky reg->ĸ (F.n+1) E.H=0/\reg=E.N.ik/\∃x,x<E.r/\E.g=À x/\(E.M x=À (.gN (.ij reg))\/E.M x=À (.gN (.jN reg)))
 u:∀r s,E.b=.iK r s->ĸ (F.n+1) E.H=0/\r+s=E.N.ik/\(0<r->∃x,x<E.r/\E.g=À x/\E.M x=À (.gN (.jd r)))
 N:∀x p,E.M x=À (.gN p)->(∀W,p=.ij W\/p=.jN W->E.g=À x/\E.b=.ky W)/\(∀r,p=.jd r->0<r/\E.g=À x/\∃s,E.b=.iK r s)
 B:E.N=.fT .ij\/E.N=.fT .na\/E.N=.gN->ĸ (F.n+1) E.H=0
 e:∀k,1<=k->k<=F.m->E.S.od<k->E.a k=.cl 1 (ĸ F.n λj=>(E.C j).ik F j k)
 Y:∀k,k<=F.m->k<=E.S.od->(∃W,(E.S=.dn k (.ij W)\/E.S=.dn k (.jN W))/\E.a k=.ky W/\W=ĸ F.n λj=>(E.C j).ik F j k)\/(∃r s,E.S=.dn k (.jd r)/\0<r/\E.a k=.iK r s/\r+s=ĸ F.n λj=>(E.C j).ik F j k)\/((∀p,E.S≠ .dn k p)/\((E.a k=.cl 0 0/\(ĸ F.n λj=>(E.C j).ik F j k)=0)\/∃s,E.a k=.iK 0 s/\s=ĸ F.n λj=>(E.C j).ik F j k))
 w:∀j r,j+2<=E.r->(E.C j=.fT r .ij\/E.C j=.fT r .na\/E.C j=.iA r)->F.r (j+r*F.n)<=E.S.od
 H:∀j r,j+2<=E.r->E.C j=.fT r .ij->∃a b,E.a (F.r<|j+r*F.n)=.iK a b
 O:E.N=.fT .ij->∃a b,E.b=.iK a b
 S:(∀p,E.N≠ .fT p)->E.N≠ .gN->∃c,E.b=.cl c 0
 y:∀k,k<=F.m->E.a k=.cl 1 0->E.d k=Ú
 D:∀j r,j+2<=E.r->E.C j=.fT r .wr->E.d (F.r<|j+r*F.n)=À j
def fy(F:Ph)(E:gE F)(a:Array Ì)(w:Ç):Prop:=∀i g,a[i]?=À g->g.status=č->
 (i=0/\E.N=.fT .lQ/\E.b.sm=0)\/(∃j,j+2<=E.r/\E.M (j+1)=Ú/\i=F.L+1+j/\((∃r,E.C j=.fT r .lQ/\(E.a<|F.r<|j+r*F.n).sm=0)\/∃r b s c,E.C j=.oU r/\w.heap[E.I j]?=À (Λ b #[] Ä s c Ä)))
structure PI(F:Ph)(t0:Nat)(j2:Loc->Prop)(E:gE F)(S:Nat->Jd)(tr:Nat->gW)(kp:Nat->jc)(lot:Nat->fx)(gs:Array Ì)(w:Ç)(t:ÿ):Prop where
 b:gs.size=F.L+E.r
 I:iB F.P F.S E.Y S tr kp lot gs w t
 h:S 0=JM F E.I E.N/\kp 0=kM E.N
 m:0<E.r->E.M 0=Ú->S F.L=JI F E.c E.S/\kp F.L=.no
 g:∀j,j+2<=E.r->E.M (j+1)=Ú->S (F.L+1+j)=JW F (E.I j) j (E.C j)/\kp (F.L+1+j)=kW F (E.I j) (E.C j)
 k:∀x e,x<E.r->E.M x=À e->S (F.L+x)=JE F e/\kp (F.L+x)=.no/\((∃N,e=.kl N)->tr (F.L+x)=.fS)
 l:∀i,0<i->i<F.L->S i=ri F.P (E.h i)/\tr i=.fS/\kp i=.no
 a:jm F E lot gs.size w
 M:Wd F E w
 C:Ps F E
 d:TI F.toFx t0 j2 E.r (E.S.rl) E.V E.e E.d E.K E.f t
 c:fy F E gs w
 f:∀j r,j+2<=E.r->E.C j=.iA r->1<=F.r (j+r*F.n)->ε t (F.L+1+j) (E.e<|F.r<|j+r*F.n)
structure iL(F:Ph):Prop where
 C:F.Ok
 S:∀k s V w w',F.d k s V w->(∀b,V b->w'.heap[b]?=w.heap[b]?)->w'.cell? (jS F.toFx k)=w.cell? (jS F.toFx k)->w'.cell? (j4 F F.f)=w.cell? (j4 F F.f)->mo w' F.Y=mo w F.Y->(w'.os=w.os/\w'.output=w.output)->F.d k s V w'
 Hi:∀j dk l g w₁,F.g j dk l g->gd l l.w w₁->F.g j dk {l with w:=w₁} g
 I:∀j dk l g,F.g j dk l g->g.status=Í
 N:∀k l g,F.h k l g->g.status=Í
 Y:∀c i l g,F.e c i l g->g.status=Í
 M:∀dk l g,F.j dk l g->g.status=Í
 go:∀j dk l g,j<=F.n->F.g j dk l g->gT l->l.d=0/\∃(g' child:Ì)(X:Nat->Prop),g'.status=Í/\child.status=Í/\(∀w₁,à F.P È g w₁=.spawn g' child w₁ #[])/\(∀b,X b->l.O b)/\
  (1<=j->l.O (dk<|j-1)/\¬X (dk<|j-1)/\l.w.heap[dk<|j-1]?=À (Λ F.q #[] Ä 0 0 Ä)/\F.S<=dk (j-1))/\
  (∀l':fx,gT l'->(∀b,X b\/l.I b->l'.I b)->l'.w=l.w->l'.d=0->¬l'.q->(∀b,¬l'.O b)->l'.K=l.K->l'.N=l.N->(∀a,l'.r a->l.r a)->fF F.P Ä (if j=0 then F.h 0 else EJ F (dk<|j-1) (j-1) 0) l' child)/\
  (∀l':fx,gT l'->l'.O=(λb=>l.O b/\¬X b/\(1<=j->b≠dk (j-1)))->(∀b,X b\/l.I b->l'.I b)->l'.w=l.w->l'.d=0->l'.q=l.q->l'.K=l.K->l'.N=l.N->(∀a,l'.r a->l.r a)->fF F.P È (JM F dk<|if j<F.n then .jl (j+1)else .jr F.q) l' g')
 e:∀k s V l g,k<F.m->F.h k l g->gT l->oW F k s->F.d k s V l.w->(∀b,V b->l.I b)->l.N (jS F.toFx k)->l.r (jS F.toFx<|k+1)->l.r (j4 F<|F.b<|k+1)->∀sg:Nat->F.γ,sg k=s->fF F.P Ä (JI F sg<|.mk (k+1)) l g
 f:∀l g,F.h F.m l g->gT l->fF F.P Ä (Cs F) l g
 iA:∀c j r s V l g,j+r*F.n<F.q->F.e c (j+r*F.n) l g->∀l':fx,gT l'->l'.O=l.O->(∀b,l.I b\/V b->l'.I b)->l'.w=l.w->l'.d=l.d->l'.q=l.q->l'.r=l.r->l'.K=l.K->oW F (F.r<|j+r*F.n) s->F.d (F.r<|j+r*F.n) s V l.w->l'.N (jS F.toFx<|F.r<|j+r*F.n)->l'.r (j4 F<|F.a<|j+r*F.n)->fF F.P Ä (JW F c j<|.qx r) l' g
section
variable{F:Ph}{E:gE F}{S:Nat->Jd}{tr:Nat->gW}{c:Nat->jc}{lot:Nat->fx}{gs:Array Ì}{w':Ç}{t u:ÿ}{sz:Nat}
def yM(h:F.M b):F.H (gu b)/\F.H (iJ b):=⟨⟨b,h,Á U⟩,⟨b,h,Å U⟩⟩
def yN(h:F.H a):E.Y a.block:=by obtain⟨b,c,rfl|rfl⟩:=h<;>exact Á c
def jm.Y(L:jm F E lot sz w)(ok:F.Ok)(f:F.H a):∀i,i<sz->¬(lot i).C a:=by intro i g h;let⟨b,c,d⟩:=f;obtain⟨k,_,e⟩|⟨p,_,e⟩:=L.iH i g a h;obtain rfl|rfl:=d<;>simp[gu,iJ,jS]at e;obtain rfl|rfl:=d;simp only[gu,j4]at e;injection e with e1 _ _;exact ok.C<|e1▸c;simp only[iJ,j4]at e;injection e with e1 _ _;exact ok.C<|e1▸c
def jm.uG(L:jm F E lot sz w)(c:Ps F E)(d:j+2<=E.r):∀i,i<sz->∀a:Õ,a.block=E.I j->¬(lot i).C a:=by intro i f a b g;let⟨h,l,_⟩:=c.o j d;obtain⟨k,m,e⟩|⟨p,_,e⟩:=L.iH i f a g;exact h (by rw[<-b,e];exact Å ⟨k,m,U⟩);exact l<|by rw[<-b,e];rfl
def jm.ahj(L:jm F E lot sz w):∀i,i<sz->∀a,(lot i).C a->a.spot=Ú:=by intro i b a c;obtain⟨k,_,rfl⟩|⟨p,_,rfl⟩:=L.iH i b a c<;>rfl
def jm.PO(L:jm F E lot sz w)(ok:F.Ok):∀i,i<sz->¬(lot i).r (j4 F F.f):=by
 intro i a h;obtain⟨k,b,e⟩|⟨p,c,e⟩:=L.iH i a _<|Á h;have:F.Y=F.I k:=by injection e
 exact ok.C (by rw[this];exact Å ⟨k,b,U⟩);have:F.f=p:=by injection e
 exact c this.symm
structure Hj(F:Ph)(E:gE F)(lot:Nat->fx)(sz:Nat)(w w':Ç):Prop where
 AA:w.heap.size<=w'.heap.size
 C:∀b,b<w.heap.size->¬E.Y b->(∀i,i<sz->¬(lot i).O b)->w'.heap[b]?=w.heap[b]?
 r:∀a:Õ,((∃k,k<=F.m/\a=jS F.toFx k)\/∃p,a=j4 F p)->(∀i,i<sz->¬(lot i).r a)->w'.cell? a=w.cell? a
 I:mo w' F.Y=mo w F.Y
 M:w'.os=w.os/\w'.output=w.output
def Wd.G(W:Wd F E w)(H:iL F)(L:jm F E lot sz w)(a:Hj F E lot sz w w')(f:E.S.md<=F.m){d:GS}{e:Nat->GS}(g:iR w' F.C d)(h:∀k,k<=F.m->iR w' (F.I k) (e k))(i:∀j,j+2<=E.r->w'.heap[E.I j]?=w.heap[E.I j]?):Wd F {E with b:=d,a:=e} w' where
 C:=g;I:=h;kz j hj:=by have:=W.kz j hj;rwa[<-i j hj]at this
 M k hk:=⟨(W.M k hk).1,H.S _ _ _ _ _ (W.M k hk).2 (λb c=>a.C b (L.I k hk b c).1 (L.I k hk b c).2.1 (L.I k hk b c).2.2) (a.r _ (Á ⟨k,â hk f,U⟩)<|L.N k hk) (a.r _ (Å ⟨_,U⟩)<|L.PO H.C) a.I a.M⟩;S k h1 h2:=(a.r _ (Å ⟨_,U⟩)<|L.g k h1 h2).trans<|W.S k h1 h2;N j hj r hr hd:=(a.r _ (Å ⟨_,U⟩)<|L.d j hj r hr hd).trans<|W.N j hj r hr hd
def Li(a:Ps F E):E.S.md<=F.m:=by
 cases h:E.S with|lY k=>exact(a.I k).1 h|mk k=>have:=((a.I k).2.1 h).2;simp only[ko.md];omega|dn k p=>exact((a.I k).2.2 p h).2
def Lj(a:Ps F E):E.S.rl<=E.S.md:=by
 cases h:E.S with
 |dn k p=>cases p<;>simp only[ko.rl,ko.md]<;>omega
 |_=>exact eE _
def PQ(a:ko):a.od<=a.rl:=by
 cases a with
 |dn k p=>cases p<;>simp only[ko.rl,ko.od]<;>omega
 |_=>exact eE _
def XK{x:Nat}(h:E.K x):E.qg x:=by let⟨e,a,b⟩:=h;exact⟨e,a,by cases e<;>first|exact b|trivial⟩
def Ll{l a:fx}(h:l=lR l)(b:n7 l a w w' V):a=lR a:=by
 have j:l.q:=by rw[h];trivial
 have c:a.O=λ_=>False:=by rw[(b.h j).2.2,h];rfl
 have e:a.I=λ_=>False:=by rw[b.rd,h];rfl
 have f:a.r=λ_=>False:=by rw[b.r,h];rfl
 have g:a.N=λ_=>False:=by rw[b.I,h];rfl
 have i:a.q=True:=by rw[b.q,h];rfl
 obtain⟨O,k,m,n,d,q,o⟩:=a;simp only at c e f g i;subst c e f g i;rfl
theorem jm.fE(L:jm F E lot gs.size w)(C:jD F.S (λi=>i<gs.size) E.Y lot w t){m:fx}(J:i<gs.size)(d:n7 (lot i) m w w' V):jm F E (gV lot i m) gs.size w':=by
 have K:∀x,E.qg x->i=F.L+x->m=lR m:=λx p e=>Ll (e▸L.S x p) d;have M:=λc l=>Ll (L.c i c l) d;have B:∀k a,(gV lot i m k).C a↔(lot k).C a:=λk a=>by by_cases e:k=i;subst e;rw[iI];unfold fx.C;rw[d.r,d.I];rw[iq lot _ e]
 have n:∀k,(gV lot i m k).r=(lot k).r:=λk=>by by_cases e:k=i;subst e;rw[iI,d.r];rw[iq lot _ e]
 have s:∀k,(gV lot i m k).N=(lot k).N:=λk=>by by_cases e:k=i;subst e;rw[iI,d.I];rw[iq lot _ e]
 have u:∀k,(gV lot i m k).I=(lot k).I:=λk=>by by_cases e:k=i;subst e;rw[iI,d.rd];rw[iq lot _ e]
 refine⟨λk f a v=>L.iH k f a<|(B k a).1 v,λx c l a v=>by rw[n];exact L.o x c l a v,λh=>by rw[s,u];exact L.nI h,λh k c l=>by rw[n];exact L.e h k c l,λh o=>by rw[s,u];exact L.f h o,λj g o r y c=>by rw[n];exact L.h j g o r y c,λj g o=>by rw[s,u];exact L.l j g o,λx p=> ?_,λk f=> ?_,λk c l=> ?_,λk f b D=> ?_,λk f j g=>by rw[n];exact L.N k f j g,λk c l j g=>by rw[n];exact L.g k c l j g,λj g r y G k f=>by rw[n];exact L.d j g r y G k f⟩;by_cases e:F.L+x=i;grind [iI];rw[iq lot _ e];exact L.S x p;by_cases e:k=i;subst e;rw[iI,d.q];exact L.M k f;rw[iq lot _ e];exact L.M k f;by_cases e:k=i;grind [iI];rw[iq lot _ e];exact L.c k c l;let⟨H,I,N⟩:=L.I k f b D;refine⟨ff H d.C,I,λj g=> ?_⟩;by_cases e:j=i
 .subst e;rw[iI];intro q;obtain z|z:=d.M b q;all_goals grind
 grind [iq]
def ahk(C:jD F.S (λi=>i<gs.size) E.Y lot w t){h:fx}(d:i<gs.size)(c:n7 (lot i) h w w' V):Hj F E lot gs.size w w':=⟨c.C,λb j e f=>c.lB b j (f i d) λa g q=>e<|g▸C.e i d a (Á q),λa g f=>by
   have e:E.Y a.block:=by obtain⟨k,l,rfl⟩|⟨p,rfl⟩:=g;exact Á<|Å ⟨k,l,U⟩;exact Å<|Á U
   exact c.S a (C.N _ e) (λq=>C.I i d _ (Á q) e)<|f i d,
  c.Y (j4 F 0) (C.N _ (Å (Á U))) λq=>C.I i d _ (Á q) (Å (Á U)),c.c,c.f⟩
def XL(L:jm F E lot gs.size w)(ok:F.Ok)(C:jD F.S (λi=>i<gs.size) E.Y lot w t){g:fx}(e:i<gs.size)(c:n7 (lot i) g w w' V)(f:F.M b){G:GS}(h:iR w b G):iR w' b G:=by have a:E.Y b:=Á f;have d:=λq=>C.I i e _ (Á q) a;exact h.K (c.S (gu b) (C.N _ a) d λq=>(L.Y ok (yM f).1 i e)<|Á q) (c.S (iJ b) (C.N _ a) d λq=>(L.Y ok (yM f).2 i e)<|Á q) (K2<|c.Y (gu b) (C.N _ a) d)<|K2<|c.Y (iJ b) (C.N _ a) d
def ahl(L:jm F E lot gs.size w)(e:Ps F E)(C:jD F.S (λi=>i<gs.size) E.Y lot w t){f:fx}(b:i<gs.size)(g:n7 (lot i) f w w' V)(c:j+2<=E.r):w'.heap[E.I j]?=w.heap[E.I j]?:=by have d:E.Y (E.I j):=Å<|Å ⟨j,c,U⟩;exact g.lB _ (C.N _ d) (λq=>C.I i b _ (Á q) d) λa h q=>L.uG e c i b a h<|Á q
theorem ahm(L:jm F E lot gs.size w)(H:Ps F E)(ok:F.Ok)(C:jD F.S (λi=>i<gs.size) E.Y lot w t)(P:gs.size=F.L+E.r){m:fx}{p:Array ê}{u:Û}{B:String}(o:i<gs.size)(g:n7 (lot i) m w w' p): Lf F.toFx E.r (E.S.rl) E.V E.d E.K t (Ê i u B p) i:=by
 have J:∀x,E.K x->i=F.L+x->m=lR m:=λx l e=>Ll (e▸L.S x (XK l)) g;have D:∀c∈Ê i u B p,∀a,c.act.touch?=À a->∃y:Õ,a.loc=é y/\(m.O y.block\/m.r y\/((m.I y.block\/m.N y)/\a.write=Ä)):=λc d a n=>by obtain⟨e,r,rfl⟩:=Ò d;exact Xt (g.b e r) n
 have I:m=lR m->∀c∈Ê i u B p,c.act.touch?=Ú:=λe c d=>by
  cases h:c.act.touch? with
  |none=>rfl|some a=>
   let⟨y,_,q⟩:=D c d a h;rw[e]at q;obtain q|q|⟨q|q,_⟩:=q<;>exact q.elim
 refine⟨λc d _ _=>qf c d,?_,λc d a x n G l=> ?_,λc d a y n Q G k h s=> ?_,λc d b _ e=> ?_,λx l K=> ?_⟩;by_cases j:i=0;exact Á j;by_cases f:i<F.L;exact Å (Å<|I<|(λh s=>Ll (L.c i h s) g) Z f);exact Å<|Á ⟨i-F.L,Z,Z⟩;exfalso;let⟨y,j,q⟩:=D c d a n;rw[G]at j;injection j with j;subst j;have f:=yN (E:=E) l;have v:=L.Y ok l i o;obtain q|q|⟨q|q,_⟩:=q;obtain z|z:=g.M _ q;exact C.I i o _ (Á z) f;have:=C.N _ f;omega;exact v (Á<|by rwa[<-g.r]);exact C.I i o _ (Å<|by rwa[<-g.rd]) f;exact v<|Å<|by rwa[<-g.I]
 .have j:=â s<|Lj H;let⟨x,l,q⟩:=D c d a n;rw[G]at l;injection l with l;subst l;obtain q|q|⟨_,q⟩:=q
  .refine⟨λv=> ?_,λe=> ?_⟩
   .let⟨M,_,N⟩:=L.I k j _ v;obtain z|z:=g.M _ q;all_goals grind
   have f:E.Y y.block:=by rw[e];exact Á<|Å ⟨k,â j<|Li H,U⟩
   obtain z|z:=g.M _ q;exact C.I i o _ (Á z) f;have:=C.N _ f;omega
  refine⟨λv=>((L.I k j _ v).2.1<|C.e i o y<|Á<|by rwa[<-g.r]),λe=>(L.N k j i o<|by rwa[<-g.r,<-e])⟩;grind
 obtain⟨j,r,rfl⟩:=Ò d;have v:=g.b j r;let⟨M,wr,N⟩:=j;simp only[Ï]at e;obtain⟨a,h,_⟩|h|⟨f,h⟩|h|h|⟨a,_,h|h|h|h⟩:=v<;>(simp only at h;subst h;simp at e)
 .by_cases e:F.L+x=i
  .have v:=I<|J x K e.symm;refine⟨λr f=>f.app λj S T M=> ?_,λ_ c d a n=>by rw[v c d]at n;cases n⟩;let⟨z,N,_⟩:=M;obtain⟨q,_⟩|⟨_,c,h,s,_⟩:=oG (show Ĉ (t++_) j=À z from N);all_goals grind
  exact⟨λr f=>f.appOther qf<|cR e,λj=>absurd j e⟩
end
abbrev vK:=Nat×Nat×gW
def AB(x y:vK):Prop:=x.1<y.1\/(x.1=y.1/\(x.2.1<y.2.1\/(x.2.1=y.2.1/\Xw x.2.2 y.2.2)))
def XM:WellFounded AB:=by
 refine⟨λx=> ?_⟩;let⟨a,b,c⟩:=x
 induction a using ž generalizing b c with
 |_ a j=>
  induction b using ž generalizing c with
  |_ b k=>
   induction Xx.apply c with
   |intro c _ l=>
    refine⟨_,λy h=> ?_⟩;let⟨m,f,e⟩:=y;obtain h|⟨d,h|⟨g,i⟩⟩:=h;exact j m h f e;simp only at d h;subst d;exact k f h e;simp only at d g i;subst d g;exact l e i
def ahn(x:vK):¬AB x x:=by
 intro h
 induction XM.apply x with|intro x _ a=>exact a x h h
def El(n:Nat)(f g:Nat->vK):Prop:=∃i,i<n/\AB (f i) (g i)/\∀j,j<n->j≠i->f j=g j\/AB (f j) (g j)
def XO:∀(n:Nat)(g:Nat->vK),Acc (El n) g
 |0,g=>⟨_,λf ⟨i,h,_⟩=>absurd h Z⟩
 |n+1,g=>by
  have k:∀(x:vK)(h:Nat->vK),∀g:Nat->vK,g n=x->(∀j,j<n->g j=h j)->Acc (El<|n+1) g:=by
   intro x
   induction XM.apply x with
   |intro x _ l=>
    intro h
    induction XO n h with
    |intro h _ m=>
     intro g b c;refine⟨_,λf ⟨i,r,a,d⟩=> ?_⟩;by_cases e:f n=g n;have s:i≠n:=by intro q;subst q;rw[e]at a;exact ahn _ a
     refine m f ⟨i,Z,by rwa[<-c i Z],λj o p=> ?_⟩ f (e.trans b) λ_ _=>U;rw[<-c j o];exact d j Z p;have:AB (f n) x:=by rw[<-b];by_cases q:n=i;rwa[q];exact(d n Z q).resolve_left e
     exact l _ this f f U λ_ _=>U
  exact k (g n) g g U λ_ _=>U
abbrev Mu:=(Nat->vK)×Nat
def rj(n:Nat)(x y:Mu):Prop:=El n x.1 y.1\/((∀j,j<n->x.1 j=y.1 j)/\x.2<y.2)
def aho(n:Nat):WellFounded (rj n):=by
 have e:∀h:Nat->vK,∀k:Nat,∀g:Nat->vK,(∀j,j<n->g j=h j)->Acc (rj n) (g,k):=by
  intro h
  induction XO n h with
  |intro h _ l=>
   intro k
   induction k using ž with
   |_ k m=>
    intro g a;refine⟨_,λy q=> ?_⟩;let⟨f,b⟩:=y;obtain⟨i,c,o,x⟩|⟨p,r⟩:=q;exact l f ⟨i,c,by rwa[<-a i c],λj d s=>by rw[<-a j d];exact x j d s⟩ b f λ_ _=>U;exact m b r f λj x=>(p j x).trans<|a j x
 exact⟨λx=>e x.1 x.2 x.1 λ_ _=>U⟩
section
variable(F:Ph)
def kI.rk(n:Nat):kI->Nat|.kv=>n+1011|.jl=>n+1010|.ij W=>min W (n+1000)+4|.jN W=>min W (n+1000)+3|.jd r=>min r (n+1000)+2
def km.rk:km->Nat|.jG=>7|.nO _=>6|.wr=>5|.lQ=>4|.ij=>3|.na=>2
def gH.rk(F:Ph):gH->Nat|.jl j=>F.q+F.n+20+4*(F.n-j)+7|.rd j=>F.q+F.n+20+4*(F.n-j)+6|.ng j=>F.q+F.n+20+4*(F.n-j)+5|.go j=>F.q+F.n+20+4*(F.n-j)+4|.jr r=>r+F.n+11|.mq r=>r+10|.fT p=>p.rk+2|.gN=>0
def ko.rk(F:Ph):ko->Nat|.lY k=>(F.n+3000)*(F.m+2-k)+2900|.mk k=>(F.n+3000)*(F.m+3-k)+2800|.dn k p=>(F.n+3000)*(F.m+2-k)+2901+p.rk F.n
def iD.rk(F:Ph):iD->Nat|.oU r=>(F.n+3000)*(F.q+3-r)|.fT r p=>(F.n+3000)*(F.q+3-r)-20+p.rk|.iA r=>(F.n+3000)*(F.q+3-r)-30|.qx r=>(F.n+3000)*(F.q+3-r)-40
def iW.rk(F:Ph):iW->Nat×Nat|.qA=>(F.n+2900,0)|.gN p=>(p.rk F.n,0)|.kl N=>(0,N)
end
def SP.rk(B:Nat)(st:Int):SP->Nat|.fV k=>B+2+k|.ld v k=>if st=v then k+1 else 2*B+3+k
def km.mQ(B:Nat)(st:Int):km->Nat|.nO p=>p.rk B st|_=>0
section
variable{F:Ph}
def gE.G(E:gE F)(tr:Nat->gW)(i:Nat):vK:=
 if i=0 then(E.N.rk F,0,tr 0)
 else if i<F.L then(0,E.h i,.fS)
 else match E.M (i-F.L)with|some e=>((e.rk F).1,(e.rk F).2,tr i)|none=>if i=F.L then(E.S.rk F,0,tr i)else((E.C<|i-F.L-1).rk F,0,tr i)
def gE.mQ(E:gE F)(i:Nat):Nat:=
 if i=0 then(match E.N with|.fT p=>p.mQ F.B E.b.st|_=>0)
 else if i<=F.L then 0
 else match E.C (i-F.L-1)with|.fT r p=>p.mQ F.B (E.a<|F.r<|i-F.L-1+r*F.n).st|_=>0
def gS(gs:Array Ì)(i:Nat):Nat:=if(gs[i]?).any (·.status==.running)then 1 else 0
def Ph.N(F:Ph):Nat:=F.L+F.n+1
def gE.mu(E:gE F)(a:Nat->gW)(b:Array Ì):Mu:=(E.G a,ĸ F.N λi=>(F.N+1)*E.mQ i+gS b i)
end
theorem Hk{b x:Ì}(h:(ė P g b w x).status=č):ė P g b w x=x/\x.status=č:=by unfold ė at h|-;split at h;rename_i c;rw[if_pos c];unfold ň at h|-;grind;grind
section
variable{F:Ph}{E:gE F}{S:Nat->Jd}{tr:Nat->gW}{d:Nat->jc}{lot:Nat->fx}{gs gs':Array Ì}{w':Ç}{t u:ÿ}{sl:Option (Nat×Nat)}
def fy.Ha(h:fy F E gs w)(o:gs'[i]?=À g)(p:g.status≠č)(t:∀k,k≠i->∃a f:Ì,gs'[k]?=gs[k]?.map (ė F.P a f w'))(u:∀j,j+2<=E.r->w'.heap[E.I j]?=w.heap[E.I j]?):fy F E gs' w':=by intro k x b l;by_cases e:k=i;subst e;rw[o]at b;obtain rfl:=dh b;exact absurd l p;let⟨a,f,q⟩:=t k e;rw[q]at b;obtain⟨y,v,rfl⟩:=è.1 b;let⟨_,z⟩:=Hk l;obtain h1|⟨j,c,m,n,d|⟨r,B,s,C,d,D⟩⟩:=h k y v z;exact Á h1;exact Å ⟨j,c,m,n,Á d⟩;exact Å ⟨j,c,m,n,Å ⟨r,B,s,C,d,by rwa[u j c]⟩⟩
def nh{J:Jd}(a:∀l g,J l g->g.status=Í\/g.status=ï){l:fx}(h:fF P yQ J l g):g.status=Í\/g.status=ï:=by
 cases h with|fS h=>exact a _ _<|h _<|gd.gy _ _|kx _ _ _ _ b=>exact Á b
def ahp(H:iL F)(p:PI F m zX E S tr d lot gs w t){i:Nat}(hi:i<gs.size):∀l g,S i l g->g.status=Í\/g.status=ï:=by
 have dn:∀(main:Bool)(b:Nat)(J:Jd),(∀l g,J l g->g.status=Í\/g.status=ï)->∀(p:kI) l g,EH F.P main b J p l g->g.status=Í\/g.status=ï:=by
  intro main b J hJ p l g h;cases p with
  |kv|jl|ij W|jN W=>exact Á h.2.1
  |jd r=>cases r with|zero=>exact hJ l g h|succ r=>exact Á h.2.1
 have wt:∀(main:Bool)(b:Nat)(J:Jd)(p:km) l g,sL F.P main F.B b J p l g->g.status=Í:=by
  intro main b J p l g h;cases p with|jG=>let⟨k,_,_,T,h1,h2⟩:=h;exact(h2 _ _ h1).1|nO p=>let⟨_,T,h1,h2⟩:=h;exact(h2 _ _ h1).1|wr|lQ|ij|na=>exact h.2.1
 intro l g h;by_cases e0:i=0;subst e0;rw[p.h.1]at h;cases hm:E.N with
 |go j=>rw[hm]at h;exact Á<|H.I _ _ _ _ h|ng j=>rw[hm]at h;let⟨c,h⟩:=h;exact Á<|H.I _ _ _ _ h|rd j|jl j=>rw[hm]at h;exact Á h.2.1|jr r=>
  rw[hm]at h;have cl:∀r l g,Ct F E.I r l g->g.status=Í:=λr l g h=>by
   cases r with|zero=>exact wt _ _ _ .jG _ _ h|succ r=>exact h.1
  cases r with|zero=>exact Á<|cl _ _ _ h|succ r=>exact Á h.1
 |mq r=>
  rw[hm]at h;cases r with|zero=>exact Á<|wt _ _ _ .jG _ _ h|succ r=>exact Á h.1
 |fT p=>rw[hm]at h;exact Á<|wt _ _ _ _ _ _ h|gN=>rw[hm]at h;exact Á<|H.M _ _ _ h
 by_cases e1:i<F.L;rw[(p.l i Z e1).1]at h;exact QuitsD.status h;have jV:=p.b;obtain⟨x,rfl⟩:∃x,i=F.L+x:=⟨i-F.L,Z⟩;cases he:E.M x with
 |some e=>
  rw[(p.k x e Z he).1]at h;cases e with|qA=>exact Á h.2.1|gN p=>exact dn _ _ _ (λl g ⟨N,h⟩=>h.status) _ _ _ h|kl N=>exact QuitsD.status h
 |none=>
  cases x with
  |zero=>
   rw[dm,(p.m Z he).1]at h;cases hm:E.S with|lY k=>rw[hm]at h;exact Á<|H.N _ _ _ h|mk k=>rw[hm]at h;let⟨s',V,_,_,_,_,h⟩:=h;exact Á h.2.1|dn k p=>rw[hm]at h;exact dn _ _ _ (λl g h=>nh (λl g h=>Á<|H.N _ _ _ h) h) _ _ _ h
  |succ j=>
   rw[show F.L+(j+1)=F.L+1+j by omega,(p.g j Z he).1]at h;cases hm:E.C j with|oU r=>rw[hm]at h;exact Á h.1|fT r p=>rw[hm]at h;exact Á<|wt _ _ _ _ _ _ h|iA r=>rw[hm]at h;exact Á<|H.Y _ _ _ _ h|qx r=>rw[hm]at h;exact Á h.2.1
theorem ahq{T:gW}(h:k≠i):E.G (fP tr i T) k=E.G tr k:=by unfold gE.G;grind [gi]
theorem ahr{k:Ç->gW}(a:tr i=.kx k)(b:¬(0<i/\i<F.L)):AB (E.G (fP tr i<|k w) i) (E.G tr i):=by unfold gE.G;split;rename_i e;subst e;rw[ig,a];exact Å ⟨U,Å ⟨U,w,U⟩⟩;split;grind;rw[ig,a];split;exact Å ⟨U,Å ⟨U,w,U⟩⟩;split<;>exact Å ⟨U,Å ⟨U,w,U⟩⟩
theorem PI.fE(H:iL F)(p:PI F m zX E S tr d lot gs w t){k:Ç->gW}(y:gs[i]?=À g)(o:tr i=.kx k): ∃gs' w' u e q,aW F.P (đ gs w sl) i=(Į<|đ gs' w' sl,u)/\gs'.size=gs.size/\PI F m zX E S e d q gs' w' (t++u)/\rj F.N (E.mu e gs') (E.mu tr gs):=by
 have c:=(fp.1 y).1;let⟨gs',w',W,X,D,z,⟨Y,G,I⟩,J,f,K⟩:=p.I.fE (sl:=sl) y o<|ahp H p c;have M:¬(0<i/\i<F.L):=λ⟨a,b⟩=>by rw[(p.l i a b).2.1]at o;cases o
 have C:=p.I.r;have B:∀j,j+2<=E.r->w'.heap[E.I j]?=w.heap[E.I j]?:=λj v=>ahl p.a p.C C c f v;have O:i<F.N:=by
  have:=p.b;have:E.r<=F.n+1:=by
   unfold gE.r;cases e:E.N with|go j=>have:=p.C.C j<|Á e;simp only[gH.sp];omega|ng j=>have:=p.C.C j<|Å<|Á e;simp only[gH.sp];omega|rd j=>have:=p.C.C j<|Å<|Å<|Á e;simp only[gH.sp];omega|jl j=>have:=p.C.C j<|Å<|Å<|Å e;simp only[gH.sp];omega|_=>simp only[gH.sp];omega
  unfold Ph.N;omega
 refine⟨gs',w',_,_,_,D,z,⟨z.trans p.b,K,p.h,p.m,p.g,λx e h l=> ?_,λs h l=> ?_,?_,p.M.G H p.a (ahk (E:=E) C c f) (Li p.C) (XL p.a H.C C c f (Á U) p.M.C) (λs q=>XL p.a H.C C c f (Å ⟨s,q,U⟩)<|p.M.I s q) B,p.C,p.d.r<|ahm p.a p.C H.C C p.b c f,p.c.Ha G (by obtain q|q:=I<;>rw[q]<;>simp) J B,λj r h l q=>(p.f j r h l q).app _⟩,Á ⟨i,O,ahr o M,λj _ v=>Á<|ahq v⟩⟩;let⟨Q,T,V⟩:=p.k x e h l;grind [gi];let⟨Q,T,V⟩:=p.l s h l;grind [gi];have:=p.a.fE C c f;grind
end
open Go.ConcN (sumTo sumTo_congr)
def ahs{J b:Jd}(c:∀l g,J l g->b l g):∀{T:gW} {l:fx} {g:Ì},mG P yQ J T l g->mG P yQ b T l g:=by
 intro T
 induction T with
 |fS=>exact λh a r=>c _ _<|h a r|kx k d=>
  intro l g h;refine⟨h.1,λa r=> ?_⟩;let⟨e,f,i,j,m,n,o⟩:=h.2 a r;exact⟨e,f,i,j,m,n,d a o⟩
section
variable{F:Ph}{E E':gE F}{S:Nat->Jd}{tr d:Nat->gW}{kp:Nat->jc}{c:Nat->fx}{gs gs':Array Ì}{u:ÿ}{sl:Option (Nat×Nat)}
theorem iB.lY{Y:Nat->Prop}(a:iB P n Y S tr kp c gs w qJ){J:Jd}(h:∀l g,S i l g->J l g):iB P n Y (fP S i J) tr kp c gs w qJ:=by refine⟨a.r,λk x b=> ?_,a.I⟩;let⟨g0,d,f⟩:=a.C k x b;by_cases e:k=i;subst e;rw[ig];exact⟨g0,ahs h d,f⟩;grind [gi]
def EK:E.G tr 0=(E.N.rk F,0,tr 0):=by simp[gE.G]
theorem Lm(ok:F.Ok){x:Nat}{e:iW}(a:E.M x=À e):E.G tr (F.L+x)=((e.rk F).1,(e.rk F).2,tr<|F.L+x):=by have:=ok.r;unfold gE.G;grind
theorem XP(ok:F.Ok)(a:E.M 0=Ú):E.G tr F.L=(E.S.rk F,0,tr F.L):=by have:=ok.r;unfold gE.G;grind
theorem vL(ok:F.Ok)(a:E.M (j+1)=Ú):E.G tr (F.L+1+j)=((E.C j).rk F,0,tr<|F.L+1+j):=by have:=ok.r;unfold gE.G;grind
theorem AE(a:k=0->E'.N.rk F=E.N.rk F)(b:0<k->k<F.L->E'.h k=E.h k)(c:F.L<=k->E'.M (k-F.L)=E.M (k-F.L))(e:k=F.L->E.M 0=Ú->E'.S.rk F=E.S.rk F)(f:F.L<k->E.M (k-F.L)=Ú->(E'.C<|k-F.L-1).rk F=(E.C<|k-F.L-1).rk F)(g:d k=tr k):E'.G d k=E.G tr k:=by unfold gE.G;grind
def Hl(a:i<F.N)(h:AB (E'.G d i) (E.G tr i))(b:∀k,k≠i->E'.G d k=E.G tr k):rj F.N (E'.mu d gs') (E.mu tr gs):=Á ⟨i,a,h,λj _ c=>Á<|b j c⟩
def EL(a:Ps F E):E.r<=F.n+1:=by
 unfold gE.r;cases b:E.N with|go j=>have:=a.C j<|Á b;simp only[gH.sp];omega|ng j=>have:=a.C j<|Å<|Á b;simp only[gH.sp];omega|rd j=>have:=a.C j<|Å<|Å<|Á b;simp only[gH.sp];omega|jl j=>have:=a.C j<|Å<|Å<|Å b;simp only[gH.sp];omega|_=>simp only[gH.sp];omega
def PI.H(p:PI F b zX E S tr kp c gs w qJ)(h:i<gs.size):i<F.N:=by have:=p.b;have:=EL p.C;unfold Ph.N;omega
def iy(E:gE F)(j:Nat)(x:iD):gE F:={E with C:=fP E.C j x}
theorem kK(j:Nat)(x:iD):(iy E j x).C j=x:=ig _ _ _
theorem jA(x:iD)(h:i≠j):(iy E j x).C i=E.C i:=gi _ _ h
theorem XQ{x:iD}(h:∀k,x.ik F j k=(E.C j).ik F j k)(k:Nat):(ĸ F.n λi=>((iy E j x).C i).ik F i k)=ĸ F.n λi=>(E.C i).ik F i k:=by grind [kK,jA]
def EM(ok:F.Ok){x:iD}{T:gW}(b:F.L+1+j<F.N)(a:E.M (j+1)=Ú)(h:x.rk F<(E.C j).rk F):rj F.N ((iy E j x).mu (fP tr (F.L+1+j) T) gs') (E.mu tr gs):=by refine Hl b (Á ?_) λk c=>AE (λ_=>U) (λ_ _=>U) (λ_=>U) (λ_ _=>U) (λd _=> ?_)<|gi tr _ c;rwa[vL ok (E:=iy E j x) (show(iy E j x).M (j+1)=Ú from a),vL ok a,kK];rw[jA x Z]
def Ps.G(h:Ps F E){x:iD}(m:j+2<=E.r)(d:E.M (j+1)=Ú)(c:∀k,x.ik F j k=(E.C j).ik F j k)(f:∀r,((∃p,x=.fT r p)\/x=.iA r\/x=.qx r)->j+r*F.n<F.q)(g:∀r,(x=.fT r .ij\/x=.fT r .na\/x=.iA r)->F.r (j+r*F.n)<=E.S.od)(i:∀r,x=.fT r .ij->∃a b,E.a (F.r<|j+r*F.n)=.iK a b)(l:∀r,x=.fT r .wr->E.d (F.r<|j+r*F.n)=À j):Ps F (iy E j x) where
 v:=h.v;C:=h.C;K:=h.K;L:=h.L;J:=h.J;I:=h.I;z j' qB:=by have:E.r<j'+2:=qB;rw[jA x Z];exact h.z j' qB
 d j' r qB hx:=by by_cases e:j'=j;subst e;rw[kK]at hx;exact f r hx;rw[jA x e]at hx;exact h.d j' r qB hx
 l j' qB hx:=by
  have e:j'≠j:=λe=>by subst e;exact hx d
  rw[jA x e];exact h.l j' qB hx
 f:=h.f;h:=h.h;M:=h.M;o:=h.o;t:=h.t;g:=h.g;u:=h.u;N:=h.N;B:=h.B;e k h1 h2 h3:=by rw[XQ c];exact h.e k h1 h2 h3
 Y k h1 h2:=by rw[XQ c];exact h.Y k h1 h2
 w j' r qB hx:=by by_cases e:j'=j;subst e;rw[kK]at hx;exact g r hx;rw[jA x e]at hx;exact h.w j' r qB hx
 H j' r qB hx:=by by_cases e:j'=j;subst e;rw[kK]at hx;exact i r hx;rw[jA x e]at hx;exact h.H j' r qB hx
 O:=h.O;S:=h.S;y:=h.y;D j' r qB hx:=by by_cases e:j'=j;subst e;rw[kK]at hx;exact l r hx;rw[jA x e]at hx;exact h.D j' r qB hx
def uI(E:gE F)(j:Nat)(x:iD)(k:Nat)(G:GS)(a:Nat->Option Nat):gE F:={iy E j x with a:=fP E.a k G,d:=a}
theorem Ps.XR(h:Ps F E){x:iD}{G:GS}{l:Nat->Option Nat}(Q:j+2<=E.r)(C:E.M (j+1)=Ú)(D:∀c,c≠k->x.ik F j c=(E.C j).ik F j c)(H:1<=k->E.S.od<k->G=.cl 1 (ĸ F.n λi=>((fO.iy E j x).C i).ik F i k))(I:k<=E.S.od->(∃W,(E.S=.dn k (.ij W)\/E.S=.dn k (.jN W))/\G=.ky W/\W=ĸ F.n λi=>((fO.iy E j x).C i).ik F i k)\/(∃r s,E.S=.dn k (.jd r)/\0<r/\G=.iK r s/\r+s=ĸ F.n λi=>((fO.iy E j x).C i).ik F i k)\/((∀p,E.S≠ .dn k p)/\((G=.cl 0 0/\(ĸ F.n λi=>((fO.iy E j x).C i).ik F i k)=0)\/∃s,G=.iK 0 s/\s=ĸ F.n λi=>((fO.iy E j x).C i).ik F i k)))(J:(∃a b,E.a k=.iK a b)->∃a b,G=.iK a b)(K:G=.cl 1 0->l k=Ú)(L:∀c,c≠k->l c=E.d c)(S:∀y,E.d k=À y->l k=À y)(T:∀r,((∃p,x=.fT r p)\/x=.iA r\/x=.qx r)->j+r*F.n<F.q)(M:∀r,(x=.fT r .ij\/x=.fT r .na\/x=.iA r)->F.r (j+r*F.n)<=E.S.od)(N:∀r,x=.fT r .ij->∃a b,fP E.a k G (F.r<|j+r*F.n)=.iK a b)(O:∀r,x=.fT r .wr->l (F.r<|j+r*F.n)=À j):Ps F (uI E j x k G l):=by
 have z:∀c,c≠k->(ĸ F.n λi=>((uI E j x k G l).C i).ik F i c)=ĸ F.n λi=>(E.C i).ik F i c:=λc u=>by refine sumTo_congr λi _=> ?_;by_cases e:i=j;subst e;show((fO.iy E i x).C i).ik F i c=_;rw[kK,D c u];show((fO.iy E j x).C i).ik F i c=_;rw[jA x e]
 have v:∀c,c≠k->(uI E j x k G l).a c=E.a c:=λc u=>gi _ _ u;have gs:(uI E j x k G l).a k=G:=ig _ _ _;have w:(uI E j x k G l).C j=x:=kK _ _;have o:∀d,d≠j->(uI E j x k G l).C d=E.C d:=λd g=>jA x g;refine⟨h.v,h.C,h.K,h.L,h.J,h.I,λd g=> ?_,λd r g f=> ?_,λd g f=> ?_,h.f,h.h,h.M,h.o,h.t,h.g,h.u,h.N,h.B,λc t m B=> ?_,λc t m=> ?_,λd r g f=> ?_,λd r g f=> ?_,h.O,h.S,λc t m=> ?_,λd r g f=> ?_⟩;have:E.r<d+2:=g;rw[o d Z];exact h.z d g;by_cases e:d=j;simp_all;rw[o d e]at f;exact h.d d r g f;rw[o d (λe=>by subst e;exact f C)];exact h.l d g f;by_cases e:c=k;subst e;rw[gs];exact H t B;rw[v c e,z c e];exact h.e c t m B;by_cases e:c=k;subst e;rw[gs];exact I m;rw[v c e,z c e];exact h.Y c t m;by_cases e:d=j;subst e;rw[w]at f;exact M r f;rw[o d e]at f;exact h.w d r g f;by_cases e:d=j;subst e;rw[w]at f;exact N r f;rw[o d e]at f;have:=h.H d r g f;by_cases P:F.r (d+r*F.n)=k;rw[P]at this|-;rw[gs];exact J this;grind;by_cases e:c=k;subst e;rw[gs]at m;exact K m;rw[v c e]at m;show l c=Ú;rw[L c e];exact h.y c t m;by_cases e:d=j;subst e;rw[w]at f;exact O r f;rw[o d e]at f;have:=h.D d r g f;show l _=À d;grind
theorem jm.r(h:jm F E c n w){x:iD}(i:x.lS=(E.C j).lS):jm F (iy E j x) c n w:=by
 have f:∀a,((fO.iy E j x).C a).lS=(E.C a).lS:=λa=>by grind [kK,jA]
 exact⟨h.iH,h.o,h.nI,h.e,h.f,λa b d r e g=>h.h a b d r e (by rwa[<-f]),h.l,h.S,h.M,h.c,h.I,h.N,h.g,λa b r d e=>h.d a b r d<|by rwa[<-f]⟩
theorem Wd.Y(h:Wd F E w){x:iD}(g:x.lS=(E.C j).lS)(i:x.jz=(E.C j).jz):Wd F (iy E j x) w:=by
 have c:∀a,((fO.iy E j x).C a).lS=(E.C a).lS:=λa=>by grind [kK,jA]
 have d:∀a,((fO.iy E j x).C a).jz=(E.C a).jz:=λa=>by grind [kK,jA]
 exact⟨h.C,h.I,λa b=>by rw[d];exact h.kz a b,h.M,h.S,λa b r e f=>h.N a b r e<|by rwa[<-c]⟩
structure sM(F:Ph)(E:gE F)(S:Nat->Jd)(tr:Nat->gW)(kp:Nat->jc):Prop where
 M:S 0=JM F E.I E.N/\kp 0=kM E.N
 Y:0<E.r->E.M 0=Ú->S F.L=JI F E.c E.S/\kp F.L=.no
 I:∀j,j+2<=E.r->E.M (j+1)=Ú->S (F.L+1+j)=JW F (E.I j) j (E.C j)/\kp (F.L+1+j)=kW F (E.I j) (E.C j)
 C:∀x e,x<E.r->E.M x=À e->S (F.L+x)=JE F e/\kp (F.L+x)=.no/\((∃N,e=.kl N)->tr (F.L+x)=.fS)
 r:∀i,0<i->i<F.L->S i=ri F.P (E.h i)/\tr i=.fS/\kp i=.no
def PI.N(p:PI F b zX E S tr kp c gs w qJ):sM F E S tr kp:=⟨p.h,p.m,p.g,p.k,p.l⟩
def PI.r(a:sM F E S tr kp)(d:gs.size=F.L+E.r)(e:iB F.P F.S E.Y S tr kp c gs w qJ)(f:jm F E c gs.size w)(g:Wd F E w)(h:Ps F E)(i:TI F.toFx b zX E.r E.S.rl E.V E.e E.d E.K E.f qJ)(k:fy F E gs w)(l:∀j r,j+2<=E.r->E.C j=.iA r->1<=F.r (j+r*F.n)->ε qJ (F.L+1+j) (E.e<|F.r<|j+r*F.n)):PI F b zX E S tr kp c gs w qJ:=⟨d,e,a.M,a.Y,a.I,a.C,a.r,f,g,h,i,k,l⟩
def sM.N(h:sM F E S tr kp)(ok:F.Ok){x:iD}{T:gW}(k:j+2<=E.r)(f:E.M (j+1)=Ú):sM F (iy E j x) (fP S (F.L+1+j)<|JW F (E.I j) j x) (fP tr (F.L+1+j) T) (fP kp (F.L+1+j)<|kW F (E.I j) x):=by
 have:=ok.r;refine⟨by rw[gi S _ Z,gi kp _ Z];exact h.M,λb a=>by rw[gi S _ Z,gi kp _ Z];exact h.Y b a,λd b a=> ?_,λy e b a=> ?_,λi b a=>by rw[gi S _ Z,gi kp _ Z,gi tr _ Z];exact h.r i b a⟩;by_cases e:d=j;subst e;rw[ig,ig,kK];exact⟨U,U⟩;rw[gi S _ Z,gi kp _ Z,jA x e];exact h.I d b a;have c:F.L+y≠F.L+1+j:=λe=>by have g:y=j+1:=Z;subst g;have:E.M (j+1)=À _:=a;rw[f]at this;cases this
 rw[gi S _ c,gi kp _ c,gi tr _ c];exact h.C y e b a
end
def vM(F:Fx)(e:ê):Prop:=(∃(x:Õ)(wr:Bool),F.H x/\e=⟨é x,wr,È⟩)\/e.loc=Ŋ ak\/e.loc=Ŋ bg
theorem Hm{F:Fx}{e:ê}(h:vM F e){b:Zn4}(a:(Ï e).touch?=À b):∃x,F.H x/\b.loc=é x/\b.kind=ĩ:=by
 let⟨d,wr,f⟩:=e;obtain⟨x,g,i,c⟩|h|h:=h;injection c with e1 e2 e3;subst e1 e2 e3;have:(Ï ⟨é x,wr,È⟩).touch?=À ⟨é x,wr,ĩ⟩:=by cases wr<;>rfl
 grind;simp only at h;subst h;simp[Ï,í]at a;simp only at h;subst h;simp[Ï,í]at a
section
variable{F:Ph}{E E':gE F}{S:Nat->Jd}{tr l:Nat->gW}{f:Nat->jc}{c:Nat->fx}{gs gs':Array Ì}{u:ÿ}
def AF(E:gE F)(i:Nat):Prop:=i=0\/∃x,x<E.r/\i=F.L+x
theorem iB.N{Y:Nat->Prop}(e:iB P n Y S tr f c gs w qJ)(h:gs[i]?=À g)(k:g.status=Í)(j:tr i=.fS)(a:f i=.no\/f i=.jd):∀b,gd (c i) (c i).w b->S i {c i with w:=b} g:=by
 let⟨g0,hF,d,_,_⟩:=e.C i g h;rw[j]at hF;have:g=g0:=by obtain a|a:=a<;>rw[a]at d<;>cases d;all_goals grind
 subst this;exact hF
theorem XS(b:TI F.toFx j zX E.r E.S.rl E.V E.e E.d E.K E.f qJ)(c:AF E i)(d:n<j)(a:qJ.g? n=À 0):ε qJ i n:=by obtain rfl|⟨x,e,rfl⟩:=c;let⟨g,f,h⟩:=è.1 a;have:=Τ f;grind;exact b.Cr x e n d a
theorem aht(f:∀c,¬Race c qJ)(g:TI F.toFx j zX E.r E.S.rl E.V E.e E.d E.K E.f qJ)(v:AF E i){d:Array ê}{h:Û}{k:String}(l:∀e∈d,vM F.toFx e):∀c,¬Race c (qJ++Ê i h k d):=by refine Pj f qf λw m b n=> ?_;obtain⟨e,o,rfl⟩:=Ò m;let⟨x,r,s,t⟩:=Hm (l e o) n;refine Å (Å ⟨t,λp a u q y=> ?_⟩);obtain⟨y,z⟩|q|⟨q,_⟩:=g.I p a x u (q.trans s) r;all_goals grind [XS]
def ahu(L:jm F E c gs.size w)(ok:F.Ok)(C:jD F.S (λi=>i<gs.size) E.Y c w qJ)(f:∀e∈V,vM F.toFx e):∀e∈V,(∀b,(Ï e).touch?=À b->G7 (λi=>i<gs.size) E.Y c b)/\(Ï e).low w.heap.size:=by intro e g;refine⟨λb j=> ?_,?_⟩;let⟨x,a,d,_⟩:=Hm (f e g) j;exact Á ⟨x,d,yN a,λk h=>L.Y ok a k h⟩;obtain⟨x,wr,a,d⟩|h|h:=f e g;subst d;have:=C.N _<|yN (E:=E) a;cases wr<;>exact this;let⟨k,wr,l⟩:=e;simp only at h;subst h;trivial;let⟨k,wr,l⟩:=e;simp only at h;subst h;trivial
def Cu(d:Nat)(a:Array ê):Prop:=∀(j:Nat)(e:ê),a[j]?=À e->(Ï e).touch?=Ú\/((∃b wr,e=⟨é b,wr,È⟩)/\0<å d (a.extract 0 j))
theorem ahv(L:jm F E c gs.size w)(s:Ps F E)(C:jD F.S (λi=>i<gs.size) E.Y c w qJ)(t:AF E i){f:Array ê}{n:Û}{o:String}(p:∀e∈f,vM F.toFx e)(u:∀x,E.K x->i=F.L+x->(∀e∈f,∀b,(Ï e).touch?=À b->∃y:Õ,b.loc=é y/\y.block=F.C)/\Cu (Ū qJ i) f):Lf F.toFx E.r E.S.rl E.V E.d E.K qJ (Ê i n o f) i:=by refine⟨λg d _ _=>qf g d,t.imp id Á,λg d a x l _ _=> ?_,λg d a y l _ z k B m=> ?_,λg d b _ e=> ?_,λx G D=> ?_⟩;obtain⟨e,j,rfl⟩:=Ò d;grind [Hm];obtain⟨e,j,rfl⟩:=Ò d;let⟨x,r,h,_⟩:=Hm (p e j) l;rw[z]at h;injection h with h;subst h;refine⟨λv=>(L.I k (â m<|Lj s) _ v).2.1<|yN r,λe=> ?_⟩;obtain⟨b,_,q|q⟩:=r<;>(rw[q]at e;simp[gu,iJ,jS]at e);obtain⟨r,j,rfl⟩:=Ò d;simp only at e;obtain⟨x,wr,_,rfl⟩|h|h:=p r j;cases wr<;>simp[Ï]at e;let⟨q,wr,v⟩:=r;simp only at h;subst h;simp[Ï]at e;let⟨q,wr,v⟩:=r;simp only at h;subst h;simp[Ï]at e;by_cases e:F.L+x=i;let⟨B,m⟩:=u x D e.symm;subst e;refine⟨λr h=>h.appOwn n o f m,λ_ g d a l=> ?_⟩;obtain⟨e,j,rfl⟩:=Ò d;grind [Hm];exact⟨λr h=>h.appOther qf<|cR e,λq=>absurd q e⟩
theorem AG(a:F.M b):∀e∈#[lP<|gu b],vM F.toFx e:=by intro e c;have:e=lP (gu b):=fN c;subst this;exact Á ⟨_,Ä,(yM a).1,U⟩
def XT(a:F.M b):∀e∈#[oH<|gu b],vM F.toFx e:=by intro e c;have:e=oH (gu b):=fN c;subst this;exact Á ⟨_,È,(yM a).1,U⟩
def Cv(a:F.M b):∀e∈#[lP<|gu b,oH<|gu b],vM F.toFx e:=by intro e c;simp at c;obtain rfl|rfl:=c;exact Á ⟨_,Ä,(yM a).1,U⟩;exact Á ⟨_,È,(yM a).1,U⟩
def Hn(a:F.M b):∀e∈Ġ (iJ b),vM F.toFx e:=by intro e c;simp[Ġ]at c;obtain rfl|rfl|rfl|rfl:=c;exact Å<|Á U;exact Á ⟨_,Ä,(yM a).2,U⟩;exact Á ⟨_,È,(yM a).2,U⟩;exact Å<|Å U
def Ho(d:Nat):å d #[lP a,oH a]=d/\å d #[lP a]=d/\å d #[oH a]=d/\å d (Ġ a)=d:=by refine⟨U,U,U,?_⟩;simp[å,Ġ]
def Ln:Cu 1 #[lP a,oH a]/\Cu 1 #[lP a]/\Cu 1 #[oH a]/\Cu 1 (Ġ a):=by
 refine⟨λj e b=> ?_,λj e b=> ?_,λj e b=> ?_,λj e b=> ?_⟩;match j,b with|0,b=>obtain rfl:=dh b;exact Å ⟨⟨a,Ä,U⟩,by simp[å]⟩|1,b=>obtain rfl:=dh b;exact Å ⟨⟨a,È,U⟩,by simp[å,lP]⟩|j+2,b=>simp at b
 match j,b with|0,b=>obtain rfl:=dh b;exact Å ⟨⟨a,Ä,U⟩,by simp[å]⟩|j+1,b=>simp at b
 match j,b with|0,b=>obtain rfl:=dh b;exact Å ⟨⟨a,È,U⟩,by simp[å]⟩|j+1,b=>simp at b
 match j,b with|0,b=>obtain rfl:=dh b;exact Á U|1,b=>obtain rfl:=dh b;exact Å ⟨⟨a,Ä,U⟩,by simp[å,Ġ]⟩|2,b=>obtain rfl:=dh b;exact Å ⟨⟨a,È,U⟩,by simp[å,Ġ]⟩|3,b=>obtain rfl:=dh b;exact Á U|j+4,b=>simp[Ġ]at b
def ahw(ok:F.Ok)(g:F.H a)(v:Ã):Hj F E c gs.size w (w.setCell a v):=by refine⟨cZ ml.symm,λb _ f _=>oV λe=>f<|e▸(yN (E:=E) g),λd i _=>Cn ?_,Pz,U,U⟩;let⟨b,f,h⟩:=g;obtain⟨k,_,rfl⟩|⟨p,rfl⟩:=i;right;obtain rfl|rfl:=h<;>simp[gu,iJ,jS];left;obtain rfl|rfl:=h<;>exact λe=>ok.C (by have j:b=F.Y:=e;rwa[<-j])
def ahx(L:jm F E c gs.size w)(ok:F.Ok)(d:F.H a)(v:Ã):rT (λi=>i<gs.size) E.Y c w (w.setCell a v):=ag8 (yN d) (by obtain⟨b,_,rfl|rfl⟩:=d<;>rfl) (λk i=>L.Y ok d k i) λk i b e=>L.ahj k i b e
def ahy(c:Ps F E)(d:F.H a)(v:Ã)(f:j+2<=E.r):(w.setCell a v).heap[E.I j]?=w.heap[E.I j]?:=oV λe=>(c.o j f).1 (by obtain⟨b,g,rfl|rfl⟩:=d<;>(rwa[e]))
def ahz(h:a=gu b\/a=iJ b):a.block=b:=by obtain rfl|rfl:=h<;>rfl
theorem jm.C(L:jm F E c n w){d:Nat}{w0:Ç}(y:w.heap.size<=W.heap.size):jm F E (gV c i {c i with d:=d,w:=w0}) n W:=by
 have e:∀k,(gV c i {c i with d:=d,w:=w0} k).O=(c k).O/\(gV c i {c i with d:=d,w:=w0} k).I=(c k).I/\(gV c i {c i with d:=d,w:=w0} k).r=(c k).r/\(gV c i {c i with d:=d,w:=w0} k).N=(c k).N/\(gV c i {c i with d:=d,w:=w0} k).q=(c k).q:=λk=>by grind [iI,iq]
 have t:∀k,c k=lR (c k)->gV c i {c i with d:=d,w:=w0} k=lR (gV c i {c i with d:=d,w:=w0} k):=λk f=>by
  by_cases h:k=i;subst h;rw[iI];have a:(c k).O=λ_=>False:=by rw[f];rfl
  have b:(c k).I=λ_=>False:=by rw[f];rfl
  have g:(c k).r=λ_=>False:=by rw[f];rfl
  have j:(c k).N=λ_=>False:=by rw[f];rfl
  have l:(c k).q=True:=by rw[f];rfl
  simp only[lR,a,b,g,j,l];grind [iq]
 refine⟨λk f a o=>L.iH k f a (by unfold fx.C at o|-;rwa[(e k).2.2.1,(e k).2.2.2.1]at o),λx g m a o=>by rw[(e 0).2.2.1];exact L.o x g m a o,λh=>by rw[(e 0).2.2.2.1,(e 0).2.1];exact L.nI h,λh k g m=>by rw[(e _).2.2.1];exact L.e h k g m,λh p=>by rw[(e _).2.2.2.1,(e _).2.1];exact L.f h p,λj l p r s g=>by rw[(e _).2.2.1];exact L.h j l p r s g,λj l p=>by rw[(e _).2.2.2.1,(e _).2.1];exact L.l j l p,λx u=>t _<|L.S x u,λk f=>by rw[(e k).2.2.2.2];exact L.M k f,λk g m=>t _<|L.c k g m,λk f b v=> ?_,λk f j l=>by rw[(e j).2.2.1];exact L.N k f j l,λk g m j l=>by rw[(e j).2.2.1];exact L.g k g m j l,λj l r s g k f=>by rw[(e k).2.2.1];exact L.d j l r s g k f⟩;let⟨z,B,D⟩:=L.I k f b v;grind
end
section
variable{F:Ph}{E E':gE F}{S:Nat->Jd}{tr f:Nat->gW}{c:Nat->jc}{a:Nat->fx}{gs gs':Array Ì}{t:ÿ}{sl:Option (Nat×Nat)}
def lZ(b:Nat)(w W:Ç):Prop:=W=w\/∃x v,(x=gu b\/x=iJ b)/\W=w.setCell x v
def lZ.AA(h:lZ b w W):W.heap.size=w.heap.size:=by obtain rfl|⟨x,v,_,rfl⟩:=h;all_goals simp_all
def lZ.ahA(h:lZ b w W)(ok:F.Ok)(c:F.M b):Hj F E a gs.size w W:=by obtain rfl|⟨x,v,d,rfl⟩:=h;exact⟨eE _,λ_ _ _ _=>U,λ_ _ _=>U,U,U,U⟩;exact ahw ok ⟨b,c,d⟩ v
def lZ.r(h:lZ b w W)(L:jm F E a gs.size w)(ok:F.Ok)(c:F.M b):rT (λi=>i<gs.size) E.Y a w W:=by obtain rfl|⟨x,v,i,rfl⟩:=h;exact rT.gy _ _ _ _;exact ahx L ok ⟨b,c,i⟩ v
def lZ.C(h:lZ b w W)(a:Ps F E)(c:F.M b)(d:j+2<=E.r):W.heap[E.I j]?=w.heap[E.I j]?:=by obtain rfl|⟨x,v,e,rfl⟩:=h;rfl;exact ahy a ⟨b,c,e⟩ v d
def lZ.M(h:lZ b w W)(c:i≠b){G:GS}(a:iR w i G):iR W i G:=by obtain rfl|⟨x,v,d,rfl⟩:=h;exact a;exact a.PE<|by rw[ahz d];exact cR c
def lZ.I(h:lZ b w W)(H:iL F)(L:jm F E a gs.size w)(f:Ps F E)(c:Wd F E w)(g:F.M b){Ga:GS}{Gg:Nat->GS}(i:(b=F.C->iR W F.C Ga)/\(b≠F.C->Ga=E.b))(l:∀k,k<=F.m->(b=F.I k->iR W (F.I k) (Gg k))/\(b≠F.I k->Gg k=E.a k)):Wd F {E with b:=Ga,a:=Gg} W:=by refine c.G H L (h.ahA H.C g) (Li f) ?_ (λk d=> ?_) λj e=>h.C f g e;by_cases e:b=F.C;exact i.1 e;rw[i.2 e];exact h.M (cR e) c.C;by_cases e:b=F.I k;exact(l k d).1 e;rw[(l k d).2 e];exact h.M (cR e)<|c.I k d
def PI.Y(H:iL F)(p:PI F b zX E S tr c a gs w t){f:Ì}{h:Array ê}{J:Jd}{T:gW}(K:jc)(r:gs[i]?=À g)(l:AF E i)(s:F.M n)(u:à F.P (i==0) g w=σ f W h)(m:lZ n w W)(j:∀e∈h,vM F.toFx e)(o:å (a i).d h=(a i).d)(v:∀x,E.K x->i=F.L+x->(∀e∈h,∀n,(Ï e).touch?=À n->∃y:Õ,n.loc=é y/\y.block=F.C)/\Cu (Ū t i) h)(hF:mG F.P (i==0) J T {a i with w:=W} f)(z:f.status=Í\/f.status=ï): ∃gs' qJ,aW F.P (đ gs w sl) i=(Į<|đ gs' W sl,qJ)/\gs'.size=gs.size/\gs'[i]?=À f/\(∀k,k≠i->gs'[k]?=gs[k]?.map (ė F.P g f W))/\ iB F.P F.S E.Y (fP S i J) (fP tr i T) (fP c i K) (gV a i {a i with w:=W}) gs' W (t++qJ)/\TI F.toFx b zX E.r E.S.rl E.V E.e E.d E.K E.f (t++qJ)/\jm F E (gV a i {a i with w:=W}) gs'.size W:=by have C:=p.I.r;obtain⟨gs',B,k,D,G,q⟩:=p.I.K r u (m.r p.a H.C s) (by rwa[o]) z (ahu p.a H.C C j)<|aht C.l p.d l j;rw[o]at q;refine⟨gs',_,B,k,D,G,q,p.d.r<|ahv p.a p.C C l j v,?_⟩;rw[k];exact p.a.C<|cZ m.AA.symm
theorem fy.yO(B:fy F E gs w){a:Ì}(p:gs'[i]?=À a)(q:a.status≠č)(d:∀k,k≠i->gs'[k]?=gs[k]?.map (ė F.P g a W))(t:∀j,j+2<=E.r->W.heap[E.I j]?=w.heap[E.I j]?)(u:E'.r=E.r)(v:E'.I=E.I)(z:∀x,F.L+x≠i->E'.M x=E.M x)(C:i≠0->E'.N=E.N)(D:∀j,F.L+1+j≠i->E'.C j=E.C j)(G:i≠0->E.N=.fT .lQ->E.b.sm=0->E'.b.sm=0\/∀x,gs'[0]?=À x->x.status≠č)(H:∀j r,F.L+1+j≠i->E.C j=.fT r .lQ->(E.a<|F.r<|j+r*F.n).sm=0->(E'.a<|F.r<|j+r*F.n).sm=0\/∀x,gs'[F.L+1+j]?=À x->x.status≠č):fy F E' gs' W:=by
 intro k x b f;by_cases e:k=i;grind
 .have I:=b;rw[d k e]at b;obtain⟨y,h,rfl⟩:=è.1 b;let⟨_,l⟩:=Hk f;obtain⟨J,m,c⟩|⟨j,K,M,m,⟨r,c,o⟩|⟨r,N,s,O,c,o⟩⟩:=B k y h l;all_goals grind
def EN(a:j+2<=E.r):AF E (F.L+1+j):=Å ⟨j+1,Z,Z⟩
def Lp(b:E.M (j+1)=Ú):∀x,E.K x->F.L+1+j=F.L+x->False:=λx ⟨e,a,_⟩ h2=>by have:x=j+1:=Z;subst this;rw[b]at a;cases a
def Hp(ok:F.Ok)(h:i<F.q):F.M (F.I<|F.r i):=Å ⟨F.r i,ok.I i h,U⟩
def jE(a:gs[i]?=À g):i<gs.size:=(fp.1 a).1
end
end fO
end Go.Proofs.Y
