/- Asks: the texts of the proof, packed by program out of some 275: remarks struck, names and blanks shortened, for the limit of a claim's size. -/
import Derived.KernelRfl
import Derived.Conc.Own
import Derived.Conc.Events
import Derived.Laws.Sem
import Derived.Conc.Own5
import Derived.Conc.CompanyDraw
import Derived.Conc.Know
import Derived.Conc.Beside
import Derived.Conc.MarkLaws
import Derived.Conc.CrowdComm
import Derived.Conc.CrowdTrace
import Derived.Conc.CrowdBase
set_option linter.all false
set_option maxRecDepth 1000000
set_option maxHeartbeats 8000000
open Option renaming some->À,none->Ú,map_eq_some_iff->è
open Or renaming inl->Á,inr->Å
open Go renaming TypeId->Â,Value->Ã,World->Ç,Goroutine->Ì,Program->Ó,Operand->Ô,Addr->Õ,FuncId->Û,stepG->à,execOp->ã,deafBehind->å,Event->ê,underlying->ð,IntKind->ñ,run_program->õ,variablesAt->ö,Trace->ÿ,Sem->ă,loadBytes->ą,resolve->ć,Frame->Ċ,BinOp->ď,results->Ė,invoke->Ę,behindNumber->ě,FloatKind->Ğ,callFunc->ģ,builtin->ħ,undef->ĭ,yielded->Ĳ,loadCellsFrom->Ļ,convert->Ł,movedNumber->ł,Item->ŉ,movedPointer->Ő,binOp->ŕ,elemOf->ŗ,sameAddr->Ř,eqGuard->Š,typeInfo->Ŭ,partners->ů,RuntimeError->ű,storeCells->Ų,Next->ŷ,Oper->Α,cellAtBytes->Γ,choose->Ε,Tape->Μ,zeroValue->Ν,loadVar->Ξ,Code->Ω,store->δ,BoundsCode->η,sizeOf->θ,storeVar->φ,nilAhead->ah,lone->aj,load->au,noView->ax,liesAt->ay,findLabel->aC,stringish->aF,Unsupported->aH,followBlind->aJ,Act->aP,runT->aW,askRoom->aY,Machine->a8,Question->bk,asBool->bq,asAddr->br,fieldPlace->bu,numberAt->bz,asNumber->bA,getObj->bD,shape->bE,exitTo->ZnJ,gotoIn->ZnK,mayBeOne->ZnQ,MemOp->Zn1,loadCells->Zn2,rowAt->Zn3,Touch->Zn4,program->Zn7,asIntOf->Zn8,viewAt->Zob,byteOf->Zoc,unwind->Zoh,cellsIn->Zoi,asInt->Zoj,TypeDesc->Zon,runN_add->Zoq
open Bool renaming false->Ä,true->È,false_eq_true->Î
open Go.Sem renaming run_bind->Æ,runT_bind'->Ð,run->Ù,bind->Þ,runT->ß,run_bind'->Ģ,bind_assoc'->ņ,runT_eq->ţ,runT_fst->Ÿ,pure->υ,store->Zn5,halt->ZoD
open Go.Result renaming andThen_ok->É,ok->Ē,halt->bl
open Go.MemOp renaming ofEvents->Ê
open Go.Op renaming operands->Ë,equal->ë,maxDepth->ô,eqGuardIn->Ĝ,twoPlaces->ŏ,equalIn->ų,addrSub->Ŵ,addrCmp->ŵ,addrMod->Ŷ,call->ź,intDiv->Ρ,shift->χ,convert->ω,stringOp->aI,unary->bx,makeInterface->ZnP,floatArith->ZnW,complexOp->Zod,intArith->Zol,floatCmp->Zom,binOp->Zow,intBits->Zoy
open Go.GoStatus renaming running->Í,finished->ï,blocked->č
open Go.MemAct renaming ofEvent->Ï,touch?->í,mark->Ņ
open Array renaming getElem?_setIfInBounds_self_of_lt->Ñ,getElem?_append_right->ú,mapM_eq_mapM_toList->Ą,getElem?_push_lt->Đ,replicate->Ĩ,append_assoc->Ī,append_singleton->ı,all_eq_true->ĳ,mem_iff_getElem->ķ,getElem?_setIfInBounds->Ň,getElem_map->Ş,getElem_extract->ſ,range->Zok
open Go.Conc renaming mem_ofEvents->Ò,touchAt->Ĉ,crowd->đ,woken->ė,semEvents->Ġ,stepG_region_draw->Ť,Deaf->Ū,parked->ū,rcase->Ž,stepG_unwanted->Ι,knows_own->Τ,Knows->ε,g?_old->ρ,deafBehind_still->aG,stepG_value->aL,stepG_enter->aN,stepG_cond->ZnL,mem_listed->ZnM,stepG_none->ZnN,enter_at->ZnO,deaf_old->ZnT,touch_of->Zot,act?_old->Zov
open Go.Value renaming pointer->Ö,int->ù,string->Ĕ,bool->Ĭ,tuple->ŧ,nilIface->ar,slice->bh,nilFunc->bj
open Go.Item renaming inRegion->Ø,code->ā,inLoop->Zoe,inBlock->Zoo,inScope->Zop
open Go.Act renaming eval->Ü
open Go.IntKind renaming u64->Ý,i64->Ĺ,u32->ń
open Go.Builtin renaming unsafeString_->á,unsafeAdd_->ç,unsafeSliceData_->ĉ,min2->ğ,append_->ĥ,firstCells->ī,min_->Ĵ,copy_->ŀ,len_->ō,cap_->Ŏ,zeroCells->ş,lenOf->Ũ,holdsCells->ν,mayShare->az,unsafeSliceData->aE,unsafeString->ZnZ
open Nat renaming le_trans->â,exists_eq_add_of_le->ŭ,strongRecOn->ž,div_le_div_right->Δ
open Go.Next renaming value->ä,enter->Ŗ,skip->ς
open Go.TypeDesc renaming pointer->æ,unsafePointer->Ă,string->ċ,int->ũ,struct->Zn9,slice->Zoa
open Go.Loc renaming cell->é,mark->Ŋ
open Go.Call renaming operands->ì
open Go.Conv renaming unsafePointer->î,bytesToString->ò,seenAt->Ŧ,runesToString->π,floatToFloat->ag,intToString->aB,floatToInt->aS,intToInt->ZnX
open List renaming eq_nil_of_length_eq_zero->ó,foldlM_cons->Ů,filter_eq_nil_iff->Ź,foldlM_nil->ż,mapM_cons->Β,forIn_nil->Κ,map_eq_nil_iff->Χ,mapM_nil->ZnV
open Go.stepG renaming exec->ø,apply->aO
open Go.World renaming frozen?->û,setCell->ü,freeze->Ć,cell?->Ď,farLoad->ĺ,farStore->œ,shape?->Ű,setChan->ζ,noCell->af,viewStore->aR
open Go.Extern.BytealgMakeNoZero renaming makeNoZero->ý,digits->Ķ
open Go.Mode renaming atomic->þ,plain->ő
open Go.Obj renaming cells->Ā,pending->š,chan->Λ
open Go.Callee renaming builtin->Č,value->bB
open Go.Region renaming wanted->ē,schedule->aU,Mode->ZoI
open Go.Instr renaming sliceBounds->ĕ,sliceBound->ę,buildSlice->Ě,storeAt->ġ,makeSlice->Ħ,extract->ļ,fieldAt->Ľ,indexAt->ľ,sliceAt->Ŀ,makeInterface->ŋ,loadAt->Ō,sureAddr->Ŕ,alloc->ř,field->Ś,slice->ś,index->Ŝ,build->ŝ,panic->ť,box->Ο,fill->ι
open Go.Deferred renaming ofValue->ĝ
open Go.Mark renaming releaseMerge->Ĥ,disable->ak,enable->bg,acquire->ZnR,noRoom->Zn6,release->Zou
open Go.Touch.Kind renaming atomic->ĩ
open Go.Stepped renaming next->Į
open Go.Extern.AbiNoEscape renaming same->į
open Go.Halt renaming unsupported->İ
open Go.Trace renaming g?->ĵ
open Go.ConcN renaming sumTo->ĸ,fork_knows->ZnU
open Go.Frame renaming raise->Ń,finish_at->Ż,finish->ai,catches->ZnY,enter->Zor
open Go.Goroutine renaming again->ň
open Go.Unsupported renaming unsafePointer->Œ
open Go.GStep renaming after->Ţ,go->σ
open Except renaming bind->Ζ,pure->Η,error->aQ,map->bC
open Go.Op.Complex renaming corrected->Θ,quotient->Υ,product->ξ,arith->aA,conv->aT,cmp->bF,mul->bG,add->bH,sub->bI,quo->bK
open Go.BinOp renaming eql->κ,neq->ψ
open Go.Code renaming cond->aK,region->aZ,refuse->Zog,label->Zoz,block->ZoA,scope->ZoB
variable{i n j b k m J j9 j7 j6:Nat}{w u W jX:Ç}{v x z jQ:Ã}{g:Ì}{a p:Õ}{h c:Int}{e t T:Â}{d q:Array Ã}{P:Ó}{y:aP}{B:ByteArray}{X:Nat->Prop}{O:Option Õ}{l:List Ã}{yQ:Bool}{cX cQ:aP->Ç->Prop}{o:Α}{D:Nat->Nat}{E:Array Ì}{L:List ŉ}{jJ:List Nat}{qX:List Ċ}{qQ:Ô}{qJ:ÿ}{zX:Go.Loc->Prop}{zQ:List Int}{zJ:Go.TypeInfo}{xX:Ô->Ã}{xQ:Μ}{xJ:Nat×Nat}{wX:Ω}{wQ:Zn1}{wJ:Array Bool}{vX:List ByteArray}{vQ:Ã->Ç->Prop}{vJ:Go.Exit->aP->Ç->Prop}{yX:ZoI}{Q:Array Α}{f:Ċ}{V:Array ê}{F:Û}{s:Go.Func}{gX gQ:Type}{gJ kX:List (Nat×Int)}{bJ:List (Int×Bool)}{kJ:Option (Nat×Nat)}{pX:Ç->Prop}{pQ:Option Ã}{pJ:Û->Prop}{fX:List Α}{fQ:Nat->Int}{fJ:Nat->ByteArray}{bX:Array Â}{bQ:Prop}
namespace Go.Proofs
theorem U{A:Sort _}{a:A}:a=a:=rfl
theorem Z{p:Prop}(h:p:=by omega):p:=h
theorem A{p:Prop}(h:p:=by decide):p:=h
theorem fN{p q:Prop}(h:p)(e:p=q:=by simp):q:=e▸h
theorem fD{p:Prop}(h:p:=by simp):p:=h
theorem fK{p:Prop}(h:p:=by kernel_rfl):p:=h
theorem gq{p:Prop}(h:p:=by rfl):p:=h
def dK:=@Array.append_empty
def cA:=@Array.empty_append
def dY:=@Array.eq_empty_of_size_eq_zero
def cx:=@Array.ext_getElem?
def cz:=@Array.forIn_toList
def fq:=@Array.getD_eq_getD_getElem?
def fj:=@Array.getElem?_eq_getElem
def dj:=@Array.getElem?_eq_none
def fp:=@Array.getElem?_eq_some_iff
def de:=@Array.getElem?_extract
def fh:=@Array.getElem?_modify
def cF:=@Array.getElem?_push
def fc:=@Array.getElem?_replicate
def eA:=@Array.getElem?_setIfInBounds_ne
def eV:=@Array.getElem?_toList
def cH:=@Array.getElem_toList
def dU:=@Array.length_toList
def dq:=@Array.mem_append
def fg:=@Array.mem_of_getElem?
def eS:=@Array.mem_toList_iff
def b7:=@Array.size_append
def dy:=@Array.size_setIfInBounds
def cL:=@Array.toList_append
def cP:=@Array.toList_extract
def dF:=@Array.toList_setIfInBounds
def eC:=@Bool.and_eq_true
def cV:=@Bool.and_eq_true_iff
def dA:=@Bool.eq_iff_iff
def cG:=@Bool.false_or
def bN:=@Bool.not_true
def cU:=@Bool.or_eq_false_iff
def eg:=@Bool.or_eq_true
def cW:=@Bool.or_eq_true_iff
def bO:=@Bool.or_false
def cj:=@ByteArray.data_append
def cC:=@ByteArray.data_extract
def bM:=@ByteArray.ext
def dX:=@ByteArray.getElem_eq_getElem_data
def cK:=@Int.le_refl
def cu:=@Int.natCast_nonneg
def dM:=@Int.tdiv_eq_ediv_of_nonneg
def eX:=@Int.tmod_eq_emod_of_nonneg
def dO:=@Int.toNat_natCast
def dc:=@Int.toNat_of_nonneg
def eI:=@List.all_eq_true
def du:=@List.any_eq_true
def dL:=@List.append_assoc
def ep:=@List.append_nil
def ck:=@List.cons_append
def di:=@List.drop_eq_nil_of_le
def ea:=@List.eq_nil_iff_forall_not_mem
def dP:=@List.ext_getElem?
def dE:=@List.extract_eq_take_drop
def cM:=@List.flatMap_append
def eL:=@List.flatMap_cons
def b9:=@List.foldl_append
def dS:=@List.foldl_cons
def bV:=@List.forIn_cons
def eR:=@List.getElem?_append_left
def eT:=@List.getElem?_append_right
def dt:=@List.getElem?_cons_succ
def dC:=@List.getElem?_cons_zero
def cB:=@List.getElem?_drop
def fe:=@List.getElem?_eq_getElem
def da:=@List.getElem?_eq_none
def eP:=@List.getElem?_eq_some_iff
def dN:=@List.getElem?_map
def ek:=@List.getElem?_of_mem
def dW:=@List.getElem?_range
def eM:=@List.getElem?_take_of_lt
def eu:=@List.getElem?_toArray
def cJ:=@List.getElem_of_mem
def eH:=@List.length_cons
def dw:=@List.length_map
def bY:=@List.length_range
def dB:=@List.length_take
def bW:=@List.map_append
def dR:=@List.map_cons
def dG:=@List.map_nil
def eJ:=@List.map_toArray
def dx:=@List.mem_append
def eK:=@List.mem_cons
def fi:=@List.mem_cons_of_mem
def eZ:=@List.mem_cons_self
def cw:=@List.mem_flatMap
def cI:=@List.mem_map
def eU:=@List.mem_of_getElem?
def cT:=@List.mem_of_mem_take
def eO:=@List.mem_or_eq_of_mem_set
def dZ:=@List.mem_range
def eY:=@List.mem_singleton
def ec:=@List.nil_append
def dr:=@List.not_mem_nil
def ez:=@List.reverse_singleton
def dH:=@List.setIfInBounds_toArray
def ei:=@List.set_append_left
def eF:=@List.set_append_right
def cO:=@List.set_cons_succ
def cN:=@List.set_cons_zero
def eh:=@List.singleton_append
def eN:=@List.size_toArray
def cD:=@List.take_add_one
def eG:=@List.take_of_length_le
def bZ:=@List.zipIdx_cons
def c8:=@Nat.add_assoc
def dD:=@Nat.add_sub_cancel_left
def dm:=@Nat.add_zero
def ew:=@Nat.and_two_pow_sub_one_eq_mod
def dV:=@Nat.eq_zero_or_pos
def bS:=@Nat.le_antisymm
def cZ:=@Nat.le_of_eq
def dp:=@Nat.le_of_lt
def dz:=@Nat.le_of_not_lt
def eE:=@Nat.le_refl
def ff:=@Nat.lt_of_lt_of_le
def b8:=@Nat.lt_of_not_le
def ey:=@Nat.lt_or_ge
def bT:=@Nat.mod_add_div
def eB:=@Nat.mul_le_mul_right
def bL:=@Nat.pow_succ
def dQ:=@Nat.zero_add
def eD:=@Nat.zero_le
def bR:=@Nat.zero_mul
def cR:=@Ne.symm
def ef:=@Option.bind_some
def bU:=@Option.getD_some
def eW:=@Option.isSome_none
def dT:=@Option.map_some
def dh:=@Option.some.inj
def dI:=@Option.some.injEq
def cg:=@Option.toList_some
def dJ:=@Prod.mk.injEq
def bP:=@UInt8.toNat_inj
end Go.Proofs
namespace Go.Proofs.Y
namespace Lift
abbrev fB:gX->Prop:=λ_=>False
structure fL where
 kv:Nat->Nat->Prop
 gA:Nat
instance:CoeFun fL λ_=>Nat->Nat->Prop:=⟨fL.kv⟩
def Bi(Y:fL):Prop:=(∀i j a,Y i j->Y i a->j=a)/\(∀i a j,Y i j->Y a j->i=a)/\(∀i j,Y i j->(i<Y.gA↔j<Y.gA))
def fL.r(Y a:fL):Prop:=(∀i j,Y i j->a i j)/\(Bi Y->Bi a)/\a.gA=Y.gA
def fL.M(Y:fL)(r a:Nat):fL:=⟨λi j=>Y i j\/(i=r/\j=a),Y.gA⟩
def fL.I(Y:fL):Y.r Y:=⟨λ_ _ h=>h,id,U⟩
theorem fL.C{a b c:fL}(h:a.r b)(k:b.r c):a.r c:=⟨λi j x=>k.1 i j<|h.1 i j x,λx=>k.2.1<|h.2.1 x,k.2.2.trans h.2.2⟩
theorem fL.N{Y:fL}{r:Nat}(c:∀j,¬Y r j)(d:∀a,¬Y a i)(f:Y.gA<=r)(g:Y.gA<=i):Y.r (Y.M r i):=by refine⟨λ_ _ h=>Á h,λb=>⟨?_,?_,?_⟩,U⟩;rintro a j k (x|⟨rfl,rfl⟩) (y|⟨e,rfl⟩);exact b.1 _ _ _ x y;grind;grind;rfl;rintro a k j (x|⟨rfl,rfl⟩) (y|⟨rfl,e⟩);exact b.2.1 _ _ _ x y;grind;grind;rfl;rintro a j (x|⟨rfl,rfl⟩);exact b.2.2 _ _ x;show(a<Y.gA↔j<Y.gA);omega
def iM(Y:fL)(a b:Õ):Prop:=Y a.block b.block/\a.off=b.off/\a.spot=b.spot
def iM.fG{Y b:fL}(h:Y.r b)(r:iM Y a p):iM b a p:=⟨h.1 _ _ r.1,r.2⟩
def iM.r{Y:fL}(r:iM Y a p)(n:Nat):iM Y (a.add n) (p.add n):=by let⟨b,c,d⟩:=r;unfold Addr.add;by_cases e:n=0;rw[if_pos e,if_pos e];exact⟨b,c,d⟩;rw[if_neg e,if_neg e];exact⟨b,by simp[c],U⟩
inductive fI(Y:fL):Ã->Ã->Prop|nA (b:Bool):fI Y (Ĭ b) (Ĭ b)|iZ (k:ñ) (n:Int):fI Y (ù k n) (ù k n)|ly (s:ByteArray):fI Y (Ĕ s) (Ĕ s)|mN:fI Y (Ö Ú) (Ö Ú)|kn {a a':Õ} (h:iM Y a a'):fI Y (Ö<|À a) (Ö<|À a')|oP (n c:Nat):fI Y (bh Ú n c) (bh Ú n c)|kZ {a a':Õ} (h:iM Y a a') (n c:Nat):fI Y (bh (À a) n c) (bh (À a') n c)|uq:fI Y bj bj|fn (f:Fn):fI Y (.func f #[] #[]) (.func f #[] #[])|uu:fI Y ar ar|uw:fI Y (.chan Ú) (.chan Ú)|uy:fI Y (.map Ú) (.map Ú)|xc (t:Â) {v v':Ã} (h:fI Y v v'):fI Y (.iface t v) (.iface t v')|pF {cs mO:Array Ã} (hs:cs.size=mO.size) (h:∀i (h1:i<cs.size) (h2:i<mO.size),fI Y cs[i] mO[i]):fI Y (.agg cs) (.agg mO)|nD {cs mO:Array Ã} (hs:cs.size=mO.size) (h:∀i (h1:i<cs.size) (h2:i<mO.size),fI Y cs[i] mO[i]):fI Y (ŧ cs) (ŧ mO)
def fI.fG{Y a:fL}(h:Y.r a)(r:fI Y v x):fI a v x:=by
 induction r with|nA b=>exact .nA b|iZ k n=>exact .iZ k n|ly s=>exact .ly s|mN=>exact .mN|kn b=>exact .kn (b.fG h)|oP n c=>exact .oP n c|kZ b n c=>exact .kZ (b.fG h) n c|uq=>exact .uq|fn f=>exact .fn f|uu=>exact .uu|uw=>exact .uw|uy=>exact .uy|xc t _ b=>exact .xc t b|pF c _ b=>exact .pF c b|nD c _ b=>exact .nD c b
structure gD(Y:fL)(cs mO:Array Ã):Prop where
 r:cs.size=mO.size
 C:∀i (h1:i<cs.size) (h2:i<mO.size),fI Y cs[i] mO[i]
def gD.fG{Y a:fL}(h:Y.r a){cs:Array Ã}(r:gD Y cs d):gD a cs d:=⟨r.r,λi b c=>(r.C i b c).fG h⟩
theorem gD.M{Y:fL}(r:gD Y d q)(i:Nat):(d[i]?=Ú/\q[i]?=Ú)\/∃v b,d[i]?=À v/\q[i]?=À b/\fI Y v b:=by
 by_cases h:i<d.size;have a:i<q.size:=by rwa[<-r.r]
 exact Å ⟨d[i],q[i],fj h,fj a,r.C i h a⟩;have a:¬i<q.size:=by rwa[<-r.r]
 grind
def gD.N(Y:fL):gD Y #[] #[]:=⟨U,λi h=>absurd h fD⟩
theorem gD.G{Y:fL}(r:gD Y d q)(h:fI Y v x):gD Y (d.push v) (q.push x):=by refine⟨by simp[r.r],λi b c=> ?_⟩;simp only[Array.getElem_push];have e:=r.r;by_cases a:i<d.size;rw[dif_pos a,dif_pos Z];exact r.C i a Z;grind
theorem gD.K{Y:fL}(r:gD Y d q)(n:Nat)(h:fI Y v x):gD Y (d.setIfInBounds n v) (q.setIfInBounds n x):=by
 refine⟨by simp[r.r],λi c e=> ?_⟩;have f:i<d.size:=fN c;have g:i<q.size:=fN e;have a:(d.setIfInBounds n v)[i]?=if n=i then À v else d[i]?:=by grind
 have b:(q.setIfInBounds n x)[i]?=if n=i then À x else q[i]?:=by grind
 rw[fj c]at a;rw[fj e]at b;by_cases j:n=i;grind;rw[if_neg j]at a b;rw[fj f]at a;rw[fj g]at b;injection a with a;injection b with b;rw[a,b];exact r.C i f g
def gD.H{Y:fL}{cs b:Array Ã}(r:gD Y cs d)(t:gD Y q b):gD Y (cs++q) (d++b):=by refine⟨by simp[r.r,t.r],λi c g=> ?_⟩;have e:=r.r;have f:=t.r;simp only[Array.getElem_append];by_cases a:i<cs.size;rw[dif_pos a,dif_pos Z];exact r.C i a Z;rw[dif_neg a,dif_neg Z];have:=t.C (i-cs.size) (by simp at c;omega) (by simp at c;omega);simpa[e]using this
def gD.Gu{Y:fL}(r:gD Y d q)(a b:Nat):gD Y (d.extract a b) (q.extract a b):=by refine⟨by simp[r.r],λi c e=> ?_⟩;rw[ſ ..,ſ ..];exact r.C _ _ _
def gD.I{Y:fL}(h:fI Y v x):gD Y #[v] #[x]:=⟨U,λi a b=>by have:i=0:=(fN a);subst this;exact h⟩
def fI.iG{Y:fL}(h:fI Y v x):gD Y v.cells x.cells:=by
 cases h with|pF a h=>exact⟨a,h⟩|nA b=>exact gD.I<|.nA b|iZ k n=>exact gD.I<|.iZ k n|ly s=>exact gD.I<|.ly s|mN=>exact gD.I .mN|kn b=>exact gD.I<|.kn b|oP n c=>exact gD.I<|.oP n c|kZ b n c=>exact gD.I<|.kZ b n c|uq=>exact gD.I .uq|fn f=>exact gD.I<|.fn f|uu=>exact gD.I .uu|uw=>exact gD.I .uw|uy=>exact gD.I .uy|xc t b=>exact gD.I<|.xc t b|nD a h=>exact gD.I<|.nD a h
def Af:Ã->Bool|.agg _|ŧ _=>Ä|_=>È
def Gv(e:Â)(n:Nat):Prop:=(e=304\/e=305)/\n<=16
class B2 (P:Ó):Prop where
 lt:∀e n,Gv e n->n<P.cellsOf e
def Eh(e:Â)(n a:Nat):Prop:=n=a\/(n<=a/\Gv e n)
structure qV(Y:fL)(s:Prop)(e:Â)(c c':Array Ã):Prop where
 C:∀i (_:i<c.size) (_:i<c'.size),fI Y c[i] c'[i]
 M:c.size<=c'.size
 I:c.size=c'.size\/(s/\Gv e c.size)
section
variable{Y d:fL}{s:Prop}{c c':Array Ã}
def qV.N(h:gD Y c c'):qV Y s e c c':=⟨h.C,by rw[h.r];exact eE _,Á h.r⟩
def qV.r(h:qV Y s e c c')(a:¬s):gD Y c c':=⟨h.I.resolve_right λq=>a q.1,h.C⟩
def qV.fG(h:qV Y s e c c')(l:Y.r d):qV d s e c c':=⟨λi a b=>(h.C i a b).fG l,h.M,h.I⟩
theorem qV.Gw(h:qV Y s e c c')(i:Nat):(c[i]?=Ú/\True)\/∃v a,c[i]?=À v/\c'[i]?=À a/\fI Y v a:=by by_cases q:i<c.size;have b:=ff q h.M;exact Å ⟨c[i],c'[i],fj q,fj b,h.C i q b⟩;grind
def qV.adt(h:qV Y s e c c'):Eh e c.size c'.size:=h.I.imp id λq=>⟨h.M,q.2⟩
end
inductive gh(P:Ó){α:Type}(V:fL->α->α->Prop):fL->ă α->ă α->Prop|fY {Y:fL} {a a':α} (h:V Y a a'):gh P V Y (υ a) (υ a')|ij {Y:fL} {a a':Õ} {k k':Ã->ă α} (ha:iM Y a a') (hk:∀v v',fI Y v v'->gh P V Y (k v) (k' v')):gh P V Y (.load ő a k) (.load ő a' k')|jN {Y:fL} {a a':Õ} {v v':Ã} {k k':ă α} (ha:iM Y a a') (hv:fI Y v v') (hk:gh P V Y k k'):gh P V Y (Zn5 ő a v k) (Zn5 ő a' v' k')|xd {Y:fL} {c c':Array Ã} {e:Â} {k k':Nat->ă α} (hc:gD Y c c') (hk:∀r r',(∀j,¬Y r j)->(∀i,¬Y i r')->Y.gA<=r->Y.gA<=r'->gh P V (Y.M r r') (k r) (k' r')):gh P V Y (.new (Ā c e) k) (.new (Ā c' e) k')|xe {Y:fL} {r r':Nat} {k k':Option (TypeId×Nat)->ă α} (hr:Y r r') (hk:∀e n n',Eh e n n'->gh P V Y (k<|À (e,n)) (k'<|À (e,n'))):gh P V Y (.shape r k) (.shape r' k')|On {Y:fL} {a a':Õ} {k k':Bool->ă α} (ha:iM Y a a') (hk:∀b b',(b'=È->b=È)->gh P V Y (k b) (k' b')):gh P V Y (.frozen a k) (.frozen a' k')|B3 {Y:fL} {q:bk} {k k':Nat->ă α} (hk:∀n,gh P V Y (k n)<|k' n):gh P V Y (.choose q k) (.choose q k')|Kr {Y:fL} {k k':Ó->ă α} (hk:gh P V Y (k P) (k' P)):gh P V Y (.program k) (.program k')|Ei {Y:fL} {m:Mark} {k k':ă α} (hm:m=Zn6\/∃f,m=.extern f) (hk:gh P V Y k k'):gh P V Y (.mark m k) (.mark m k')|gB {Y:fL} {h:Halt} {m:ă α}:gh P V Y (ZoD h) m|qp {Y:fL} {m m':ă α} (h:∀u x u',m.run P u≠Ē x u'):gh P V Y m m'
def yr{m:ă gX}{f:gX->ă gQ}(h:∀u x b,m.run P u≠Ē x b):∀u x b,(m.bind f).run P u≠Ē x b:=by
 intro u x b e;have c:(m>>=f).run P u=Ē x b:=e;rw[Æ]at c;cases d:m.run P u with|ok a w=>exact h _ _ _ d|halt z w=>rw[d]at c;cases c
def gh.nF{V:fL->gX->gX->Prop}{l:fL->gQ->gQ->Prop}{Y:fL}{m o:ă gX}{f p:gX->ă gQ}(h:gh P V Y m o)(g:∀i a k,Y.r i->V i a k->gh P l i (f a) (p k)):gh P l Y (m.bind f) (o.bind p):=by
 induction h with|fY h=>exact g _ _ _ (fL.I _) h|ij j _ d=>exact .ij j λv c b=>d v c b g|jN j b _ d=>exact .jN j b (d g)|xd q _ d=>exact .xd q λr s c e n v=>d r s c e n v λi a k t b=>g i a k (fL.C (fL.N c e n v) t) b|xe b _ d=>exact .xe b λe n v c=>d e n v c g|On j _ d=>exact .On j λb c v=>d b c v g|B3 _ d=>exact .B3 λn=>d n g|Kr _ d=>exact .Kr (d g)|Ei c _ d=>exact .Ei c (d g)|gB=>exact .gB|qp h=>exact .qp (yr h)
def Ag:Ã->Bool|ù .u8 _=>È|_=>Ä
def Ej(c:Array Ã):Prop:=∀(k:Nat)(v:Ã),c[k]?=À v->Ag v=Ä
structure jI(Y:fL)(Sh:Nat->Prop)(u w:Ç):Prop where
 S:u.tape=w.tape
 N:u.drawn=w.drawn
 C:Bi Y
 I:Y.gA<=u.heap.size
 M:Y.gA<=w.heap.size
 r:∀i j,Y i j->∃c c' e fr yt,u.heap[i]?=À (Ā c e fr)/\w.heap[j]?=À (Ā c' e yt)/\qV Y (Sh j) e c c'/\(Sh j->fr.1=0/\c.size<=fr.2/\yt.2<=fr.2/\0<c.size/\(Ej c\/Gv e c.size))/\(¬Sh j->fr=yt)/\fr.2<=c.size
structure pG(Y:fL)(Sh:Nat->Prop)(w w':Ç):Prop where
 r:w.heap.size<=w'.heap.size
 I:w'.os=w.os
 M:w'.output=w.output
 S:w'.tape=w.tape
 C:∀j,j<w.heap.size->(∀i,¬Y i j)->w'.heap[j]?=w.heap[j]?
 N:∀j,Sh j->j<w.heap.size->w'.heap[j]?=w.heap[j]?
def B4(Y:fL)(b:Nat->Prop)(e:ê):Prop:=
 (∃(a:Õ)(i:Nat),e.loc=é a/\Y i a.block/\e.sync=Ä/\(e.write=È->¬b a.block))\/e.loc=Ŋ Zn6\/∃f,e.loc=Ŋ (.extern f)
def yu{m:Mode}{k:ă gX}(h:Af v=È): Ù P (Zn5 m a v k) w=(match w.cell? a with
 |some _=>if w.frozen? a then bl (İ<|Œ "a write to bytes that a string shares") w else k.run P (w.setCell a v)
 |none=>match w.farStore P a v (m==þ)with|.ok (w,_)=>k.run P w|aQ h=>bl h w):=by
 cases v<;>first|rfl|cases h
def adu{m:Mode}{k:ă gX}(h:Af v=È): ß P (Zn5 m a v k) w V=(match w.cell? a with
 |some _=>
  if w.frozen? a then(bl (İ<|Œ "a write to bytes that a string shares") w,V)
  else k.runT P (w.setCell a v) (V.push ⟨é a,È,m==þ⟩)
 |none=>match w.farStore P a v (m==þ)with|.ok (w,touched)=>k.runT P w (V++touched.toArray.map (⟨.cell ·,È,m==.atomic⟩))|aQ h=>(bl h w,V)):=by
 cases v<;>first|rfl|cases h
def adv{m:Mode}{k:ă gX}(h:Af v=Ä){x:gX}:Ù P (Zn5 m a v k) w≠Ē x u:=by cases v<;>first|exact Bool.noConfusion h|(intro e;simp[Ù]at e)
def adw{Y:fL}(h:fI Y v x):Af x=Af v:=by cases h<;>rfl
section
variable{Y:fL}
def B5(h:u.heap[a.block]?=À (Ā d e xJ)):u.cell? a=if a.spot.isSome then Ú else d[a.off]?:=by simp[Ď,h]
def adx(h:u.heap[a.block]?=À (Ā d e xJ))(b:Bool):∃x,u.farLoad P a b=aQ x:=by simp[ĺ,h]
def ady(h:u.heap[a.block]?=À (Ā d e xJ))(b:Bool):∃x,u.farStore P a v b=aQ x:=by simp[œ,h]
def jI.K(h:jI Y X u w){a':Õ}(i:iM Y a a')(b:u.cell? a=À v):∃f,w.cell? a'=À f/\fI Y v f:=by
 let⟨j,k,l⟩:=i;let⟨c,s,e,t,y,m,n,o,_⟩:=h.r _ _ j;rw[B5 m]at b;rw[B5 n,<-k,<-l];cases g:a.spot with
 |some x=>rw[g]at b;cases b
 |none=>
  rw[g]at b;obtain⟨d,_⟩|⟨x,p,d,q,r⟩:=o.Gw a.off;simp[d]at b;simp[d]at b;subst b;exact⟨p,by simp[q],r⟩
theorem jI.adz(h:jI Y X u w)(g:iM Y a p)(i:u.cell? a=À v)(j:u.frozen? a=Ä):¬X p.block/\w.frozen? p=Ä:=by
 let⟨k,l,q⟩:=g;let⟨c,r,e,b,s,d,m,t,x,n,y⟩:=h.r _ _ k;rw[B5 d]at i;have z:a.off<c.size:=by grind
 have o:(decide (b.1<=a.off)&&decide (a.off<b.2))=Ä:=by simpa[û,d]using j
 have f:¬X p.block:=by grind
 refine⟨f,?_⟩;have:=n f;subst this;simp only[û,m,<-l];exact o
def VN{w:Ç}(h:w.heap[a.block]?=À (Ā d e xJ))(b:a.spot=Ú): (w.setCell a v).heap[a.block]?=À (Ā (d.setIfInBounds a.off v) e xJ):=by simp[ü,fh,h,b]
def mh{w:Ç}:(w.setCell a v).heap.size=w.heap.size:=by simp[ü]
def Ks{w:Ç}(h:a.block≠j):(w.setCell a v).heap[j]?=w.heap[j]?:=by simp[ü,fh,h]
def jI.jN(h:jI Y X u w)(B:iM Y a p)(C:fI Y v z)(D:u.cell? a=À x)(m:¬X p.block):jI Y X (u.setCell a v) (w.setCell p z):=by
 let⟨d,E,F⟩:=B;have n:a.spot=Ú:=by let⟨c,o,e,f,g,b,_⟩:=h.r _ _ d;rw[B5 b]at D;simp_all
 refine⟨h.S,h.N,h.C,by rw[mh];exact h.I,by rw[mh];exact h.M,λi j k=> ?_⟩;let⟨c,o,e,f,g,b,q,r,G,t,y⟩:=h.r i j k;by_cases l:a.block=i;subst l;have:j=p.block:=h.C.1 _ _ _ k d;subst this;exact⟨_,_,e,f,g,VN b n,VN q (by rw[<-F,n]),by rw[<-E];exact qV.N<|(r.r m).K _ C,λs=>absurd s m,t,fN y⟩;exact⟨c,o,e,f,g,by rwa[Ks l],by rwa[Ks λe=>l<|h.C.2.1 _ _ _ d<|e▸k],r,G,t,y⟩
theorem jI.xd(h:jI Y X u w)(m:∀j,X j->j<w.heap.size)(n:gD Y d q): jI (Y.M u.heap.size w.heap.size) X {u with heap:=u.heap.push (Ā d e)} {w with heap:=w.heap.push (Ā q e)}:=by
 have a:∀i j,Y i j->i<u.heap.size/\j<w.heap.size:=by intro i j s;let⟨_,_,_,_,_,f,g,_⟩:=h.r i j s;grind
 have b:=fL.N (Y:=Y) (λj x=>absurd (a _ _ x).1 Z) (λi x=>absurd (a _ _ x).2 Z) h.I h.M;refine⟨h.S,h.N,b.2.1 h.C,by have:=h.I;simp[fL.M];omega,by have:=h.M;simp[fL.M];omega,?_⟩;rintro i j (x|⟨rfl,rfl⟩);let⟨s,o,p,r,t,f,g,v,y,z,B⟩:=h.r i j x;let⟨k,l⟩:=a i j x;exact⟨s,o,p,r,t,by simp only[Đ k];rw[<-f,fj k],by simp only[Đ l];rw[<-g,fj l],v.fG b,y,z,B⟩;exact⟨d,q,e,(0,0),(0,0),fD,fD,qV.N<|n.fG b,λs=>absurd (m _ s) Z,λ_=>U,eD _⟩
theorem pG.gy(Y:fL)(X:Nat->Prop)(w:Ç):pG Y X w w:=⟨eE _,U,U,U,λ_ _ _=>U,λ_ _ _=>U⟩
def pG.fA{b:fL}{w₁:Ç}(h:pG Y X w w₁)(k:pG b X w₁ u)(d:∀i j,b i j->Y i j\/w.heap.size<=j):pG Y X w u:=⟨â h.r k.r,k.I.trans h.I,k.M.trans h.M,k.S.trans h.S,λj a c=>(k.C j (ff a h.r) λi y=>(d i j y).elim (c i) λz=>by omega).trans<|h.C j a c,λj s a=>(k.N j s<|ff a h.r).trans<|h.N j s a⟩
def Kt{w:Ç}:(w.freeze a n).heap.size=w.heap.size:=by unfold Ć;split<;>simp
def adA{w:Ç}:(w.freeze a n).os=w.os:=by unfold Ć;split<;>rfl
def adB{w:Ç}:(w.freeze a n).output=w.output:=by unfold Ć;split<;>rfl
def Oo{w:Ç}:(w.freeze a n).tape=w.tape:=by unfold Ć;split<;>rfl
def VO{w:Ç}:(w.freeze a n).drawn=w.drawn:=by unfold Ć;split<;>rfl
theorem Ku{w:Ç}(h:a.block≠j):(w.freeze a n).heap[j]?=w.heap[j]?:=by unfold Ć;split;all_goals grind
def uz(a:Õ)(n:Nat)(b:Nat×Nat):Nat×Nat:=if n=0 then b else if b.1==b.2 then(a.off,a.off+n)else(min b.1 a.off,max b.2<|a.off+n)
theorem VP{w:Ç}(h:w.heap[a.block]?=À (Ā d e xJ)):(w.freeze a n).heap[a.block]?=À (Ā d e<|uz a n xJ):=by unfold Ć uz;grind
def VQ(h:a.off=p.off)(n:Nat)(b:Nat×Nat):uz a n b=uz p n b:=by unfold uz;rw[h]
theorem adC(h:a.off+n<=i)(b:xJ.2<=i):(uz a n xJ).2<=i:=by unfold uz;grind
theorem adD{b:Nat×Nat}(c:0<i)(d:xJ.1=0)(e:i<=xJ.2)(f:b.2<=xJ.2):(uz a n xJ).1=0/\i<=(uz a n xJ).2/\(uz a n b).2<=(uz a n xJ).2:=by unfold uz;grind
def jI.adE(h:jI Y X u w)(y:iM Y a p)(n:Nat)(z:∀c e b,u.heap[a.block]?=À (Ā c e b)->a.off+n<=c.size):jI Y X (u.freeze a n) (w.freeze p n):=by obtain⟨k,l,I⟩:=y;refine⟨Oo.trans<|h.S.trans Oo.symm,VO.trans<|h.N.trans VO.symm,h.C,by rw[Kt];exact h.I,by rw[Kt];exact h.M,λi j d=> ?_⟩;obtain⟨c,m,e,b,B,f,o,q,r,t,v⟩:=h.r i j d;by_cases g:a.block=i;subst g;have:j=p.block:=h.C.1 _ _ _ d k;subst this;refine⟨c,m,e,_,_,VP f,VP o,q,λs=> ?_,λs=> ?_,adC (z _ _ _ f) v⟩;obtain⟨C,D,E,x⟩:=r s;rw[<-VQ l];obtain⟨F,G,H⟩:=adD x.1 C D E;exact⟨F,G,H,x⟩;rw[t s,VQ l];exact⟨c,m,e,b,B,by rwa[Ku g],by rwa[Ku λe=>g<|h.C.2.1 _ _ _ k<|e▸d],q,r,t,v⟩
theorem jI.H(h:jI Y X u w)(b:iM Y a p):w.frozen? p=È->u.frozen? a=È:=by let⟨d,f,j⟩:=b;let⟨c,k,e,l,m,g,i,n,o,q,r⟩:=h.r _ _ d;simp only[û,g,i,<-f,eC,decide_eq_true_eq];rintro⟨x,y⟩;by_cases s:X p.block;all_goals grind
theorem gh.gR{V:fL->gX->gX->Prop}{Y:fL}{m m':ă gX}(h:gh P V Y m m'):∀{u w:Ç},jI Y X u w->(∀j,X j->j<w.heap.size)->∀{x:gX} {D:Ç},m.run P u=Ē x D->∀n:Array ê,∃(l:fL)(p:gX)(w':Ç)(t:Array ê),Y.r l/\(∀i j,l i j->Y i j\/(u.heap.size<=i/\w.heap.size<=j))/\m'.runT P w n=(Ē p w',n++t)/\V l x p/\jI l X D w'/\pG Y X w w'/\(∀e∈t,B4 l X e)/\u.heap.size<=D.heap.size:=by
 induction h with
 |fY h=>
  intro u w d _ x D b n;simp only[Ù]at b;cases b;exact⟨_,_,w,#[],fL.I _,λ_ _ h=>Á h,by simp[ß],h,d,pG.gy _ _ _,λe o=>by simp at o,eE _⟩
 |@ij Y a a' k k' ha hk C=>
  intro u w d B x D b n;simp only[Ù]at b;cases f:u.cell? a with
  |none=>
   let⟨c,O,e,fr,yt,N,_⟩:=d.r _ _ ha.1;let⟨z,s⟩:=adx (P:=P) N<|ő==þ;rw[f]at b;simp only[s]at b;cases b
  |some v=>
   rw[f]at b;let⟨T,Q,W⟩:=d.K ha f;let⟨l,p,w',t,E,F,H,I,J,g,K,G⟩:=C v T W d B b<|n.push ⟨é a',Ä,Ä⟩;refine⟨l,p,w',#[⟨é a',Ä,Ä⟩]++t,E,F,?_,I,J,g,λe o=> ?_,G⟩;simp only[ß,Q];rw[show((ő==þ)=Ä)from U,H];rw[<-Ī,ı];obtain o|o:=dq.1 o;simp at o;subst o;exact Á ⟨a',_,U,E.1 _ _ ha.1,U,λe=>by cases e⟩;exact K e o
 |@jN Y a a' v T k k' ha hv _ C=>
  intro u w d B x D b n;cases W:Af v with
  |false=>exact absurd b<|adv W|true=>
   rw[yu W]at b;cases f:u.cell? a with
   |none=>
    let⟨c,O,e,fr,yt,N,_⟩:=d.r _ _ ha.1;let⟨z,s⟩:=ady (P:=P) (v:=v) N<|ő==þ;rw[f]at b;simp only[s]at b;cases b
   |some y=>
    rw[f]at b;cases L:u.frozen? a with
    |true=>rw[L]at b;simp at b|false=>
     simp only[L,Î,if_false]at b;let⟨ns,hf'⟩:=d.adz ha f L;let⟨y',B6,_⟩:=d.K ha f;let⟨l,p,w',t,E,F,H,I,J,g,K,G⟩:=C (d.jN ha hv f ns) (by rwa[mh]) b<|n.push ⟨é a',È,Ä⟩;have Q:(w.setCell a' T).heap.size=w.heap.size:=mh;have VS:(u.setCell a v).heap.size=u.heap.size:=mh;refine⟨l,p,w',#[⟨é a',È,Ä⟩]++t,E,by rwa[Q,VS]at F,?_,I,J,?_,λe o=> ?_,by rwa[VS]at G⟩;rw[adu<|(adw hv).trans W,B6];simp only[hf',Î,if_false];rw[show((ő==þ)=Ä)from U,H];rw[<-Ī,ı];refine⟨by rw[<-Q];exact g.r,g.I,g.M,g.S,λj M S=> ?_,λj s M=>(g.N j s<|by rwa[Q]).trans<|Ks λe=>ns<|e▸s⟩;rw[g.C j (by rwa[Q]) S];exact Ks λe=>S a.block<|e▸ha.1;obtain o|o:=dq.1 o;simp at o;subst o;exact Á ⟨a',_,U,E.1 _ _ ha.1,U,λ_=>ns⟩;exact K e o
 |@xd Y c O e k k' f _ C=>
  intro u w d B x D b n;simp only[Ù]at b;have T:∀i j,Y i j->i<u.heap.size/\j<w.heap.size:=by intro i j Q;let⟨_,_,_,_,_,N,W,_⟩:=d.r i j Q;grind
  have n1:∀j,¬Y u.heap.size j:=λj y=>absurd (T _ _ y).1 Z;have n2:∀i,¬Y i w.heap.size:=λi y=>absurd (T _ _ y).2 Z;let⟨l,p,w',t,E,F,H,I,J,g,K,G⟩:=C u.heap.size w.heap.size n1 n2 d.I d.M (d.xd B f) (λj s=>by have:=B j s;simp;omega) b n;refine⟨l,p,w',t,fL.C (fL.N n1 n2 d.I d.M) E,λi j Q=> ?_,by simp only[ß];exact H,I,J,?_,K,by simp at G;omega⟩;obtain(y|⟨rfl,rfl⟩)|y:=F i j Q;exact Á y;exact Å ⟨eE _,eE _⟩;simp at y;exact Å ⟨Z,Z⟩;have hs:=g.r;simp at hs;refine⟨Z,g.I,g.M,g.S,λj M S=> ?_,λj s M=>(g.N j s<|by simp;omega).trans ?_⟩;rw[g.C j (by simp;omega) (λi z=>z.elim (S i) λz=>by omega)];simp[Đ M];simp[Đ M]|@xe Y r r' k k' qW _ C=>
  intro u w d B x D b n;simp only[Ù]at b;let⟨c,O,e,fr,yt,N,W,Q,_⟩:=d.r _ _ qW;have f:u.shape? r=À (e,c.size):=by simp[Ű,N]
  have s:w.shape? r'=À (e,O.size):=by simp[Ű,W]
  rw[f]at b;let⟨l,p,w',t,h⟩:=C e c.size O.size Q.adt d B b n;exact⟨l,p,w',t,by simp only[ß,s];exact h⟩|@On Y a a' k k' ha _ C=>
  intro u w d B x D b n;simp only[Ù]at b;let⟨l,p,w',t,h⟩:=C (u.frozen? a) (w.frozen? a') (d.H ha) d B b n;exact⟨l,p,w',t,by simpa only[ß]using h⟩|@B3 Y q k k' _ C=>
  intro u w d B x D b n;simp only[Ù]at b;cases L:q.forced with
  |true=>
   rw[L]at b;simp only[if_true]at b;let⟨l,p,w',t,h⟩:=C 0 d B b n;exact⟨l,p,w',t,by simpa only[ß,L,if_true]using h⟩|false=>
   rw[L]at b;simp only[Î,if_false]at b;have Q:jI Y X {u with drawn:=u.drawn+1} {w with drawn:=w.drawn+1}:=⟨d.S,by simp[d.N],d.C,d.I,d.M,d.r⟩;rw[d.S,d.N]at b;obtain⟨l,p,w',t,E,F,H,I,J,g,K,G⟩:=C (q.cut<|w.tape w.drawn q) Q B (by rwa[d.S,d.N]) n;exact⟨l,p,w',t,E,F,by simp only[ß,L,Î,if_false];exact H,I,J,⟨g.r,g.I,g.M,g.S,g.C,g.N⟩,K,G⟩
 |Kr _ C=>
  intro u w d B x D b n;simp only[Ù]at b;let⟨l,p,w',t,h⟩:=C d B b n;exact⟨l,p,w',t,by simpa only[ß]using h⟩|@Ei Y mk k k' hm _ C=>
  intro u w d B x D b n;simp only[Ù]at b;let⟨l,p,w',t,E,F,H,I,J,g,K,G⟩:=C d B b<|n.push ⟨Ŋ mk,Ä,È⟩;refine⟨l,p,w',#[⟨Ŋ mk,Ä,È⟩]++t,E,F,?_,I,J,g,λe o=> ?_,G⟩;simp only[ß];rw[H];rw[<-Ī,ı];obtain o|o:=dq.1 o;simp at o;subst o;obtain rfl|⟨f,rfl⟩:=hm;exact Å<|Á U;exact Å<|Å ⟨f,U⟩;exact K e o|gB=>
  intro u w _ _ x D b n;simp only[Ù]at b;cases b
 |qp h=>
  intro u w _ _ x D b n;exact absurd b<|h _ _ _
end
inductive kS:Ã->Prop|nA (b:Bool):kS (Ĭ b)|iZ (k:ñ) (n:Int):kS (ù k n)|ly (s:ByteArray):kS (Ĕ s)|mN:kS (Ö Ú)|oP (n c:Nat):kS (bh Ú n c)|uq:kS bj|uu:kS ar|uw:kS (.chan Ú)|uy:kS (.map Ú)|pF {cs:Array Ã} (h:∀i (h:i<cs.size),kS cs[i]):kS (.agg cs)|nD {cs:Array Ã} (h:∀i (h:i<cs.size),kS cs[i]):kS (ŧ cs)
def kS.kv(h:kS v)(Y:fL):fI Y v v:=by
 induction h with|nA b=>exact .nA b|iZ k n=>exact .iZ k n|ly s=>exact .ly s|mN=>exact .mN|oP n c=>exact .oP n c|uq=>exact .uq|uu=>exact .uu|uw=>exact .uw|uy=>exact .uy|pF _ b=>exact .pF U λi c _=>b i c|nD _ b=>exact .nD U λi c _=>b i c
def pH(P:Ó):Prop:=∀t i z,P.info? t=À i->i.zero=À z->kS z
def kj:fL->gX->gX->Prop:=λ_ a b=>a=b
section
variable{Y:fL}
def ga{V:fL->gX->gX->Prop}{V':fL->gQ->gQ->Prop}{m c:ă gX}{f d:gX->ă gQ}(h:gh P V Y m c)(g:∀b a e,Y.r b->V b a e->gh P V' b (f a) (d e)):gh P V' Y (m>>=f) (c>>=d):=gh.nF h g
def uA{c:fL->gQ->gQ->Prop}{m:ă gX}{f d:gX->ă gQ}(h:gh P kj Y m m)(g:∀b a,Y.r b->gh P c b (f a) (d a)):gh P c Y (m>>=f) (m>>=d):=gh.nF h λb a i j (e:a=i)=>by subst e;exact g b a j
def tA:gh P (λ_ a b=>a=P/\b=P) Y Zn7 Zn7:=.Kr (.fY ⟨U,U⟩)
theorem Oq{V:fL->gX->gX->Prop}{e:ű}(h:(∃x y s c,e=.bounds x y s c)\/(∃m,e=.error m)\/(∃m,e=.plain m)\/e=.nilDeref):gh P V Y (runtimePanic e) (runtimePanic e):=by unfold runtimePanic;apply ga tA;rintro f a g _ ⟨b,d⟩;rw[b,d];obtain⟨x,y,s,c,rfl⟩|⟨m,rfl⟩|⟨m,rfl⟩|rfl:=h<;>exact .gB
theorem Ek{V:fL->gX->gX->Prop}{k:ñ}{y:Int}{c:η}:gh P V Y (boundsPanic k h y c) (boundsPanic k h y c):=by simp only[boundsPanic,];split;apply uA (.B3 λn=> .fY U);grind [Oq];grind [Oq]
def Ah(t:Â):gh P (λ_ a b=>a=b/\P.info? t=À a) Y (Ŭ t) (Ŭ t):=by
 unfold Ŭ;apply ga tA;rintro e a b _ ⟨c,d⟩;rw[c,d];cases h:P.info? t with|some i=>exact .fY ⟨U,U⟩|none=>exact .gB
def jK(t:Â):gh P (λ_ a b=>a=b/\P.underlying t=À a) Y (ð t) (ð t):=by
 unfold ð;apply ga tA;rintro e a b _ ⟨c,d⟩;rw[c,d];cases h:P.underlying t with|some i=>exact .fY ⟨U,U⟩|none=>exact .gB
def Gx(b:pH P)(t:Â):gh P fI Y (Ν t) (Ν t):=by
 unfold Ν;apply ga (Ah t);rintro d a e _ ⟨rfl,h⟩;cases c:a.zero with|some z=>exact .fY ((b t a z h c).kv _)|none=>exact .gB
def oR(t:Â):gh P (λ_ a b=>a=b/\∃i,P.info? t=À i/\i.size=a) Y (θ t) (θ t):=by unfold θ;apply ga (Ah t);rintro i a b _ ⟨rfl,h⟩;exact .fY ⟨U,_,h,U⟩
def VT(t:Â):gh P kj Y (isAgg t) (isAgg t):=by unfold isAgg;apply ga (jK t);rintro b a c _ ⟨rfl,_⟩;split<;>exact .fY U
def Kv(h:iM Y a p):gh P fI Y (au a) (au p):=.ij h λ_ _ b=> .fY b
def adF(h:iM Y a p)(b:fI Y v x):gh P kj Y (δ a v) (δ p x):=.jN h b (.fY U)
def adG:∀{Y:fL} {a b:Õ} {i:Nat} {c d:Array Ã},iM Y a b->gD Y c d->gh P gD Y (Ļ a i n c) (Ļ b i n d):=by
 induction n with
 |zero=>intro Y a b i c d _ e;exact .fY e|succ n h=>
  intro Y a b i c d f e;unfold Ļ;apply ga (Kv<|f.r i);exact λk v l g j=>h (f.fG g)<|(e.fG g).G j
def Ot(h:iM Y a p)(n:Nat):gh P gD Y (Zn2 a n) (Zn2 p n):=adG h<|gD.N Y
def Ou:∀{d c:List Ã} {Y:fL} {a e:Õ} {i:Nat},iM Y a e->gD Y d.toArray c.toArray->gh P kj Y (Ų a d i) (Ų e c i):=by
 intro d
 induction d with
 |nil=>
  intro c Y a e i _ b;have:c=[]:=by have:=b.r;simp at this;exact ó this.symm
  subst this;exact .fY U|cons v d h=>
  intro c Y a e i f b;match c,b with
  |[],b=>have:=b.r;simp at this|v'::c,b=>
   unfold Ų;refine ga (adF (f.r i) (by have:=b.C 0 fD fD;simpa using this)) ?_;intro m _ _ g _;apply h (f.fG g);refine⟨by have:=b.r;simpa using this,λj k l=> ?_⟩;have:=b.C (j+1) (by simp at k|-;omega) (by simp at l|-;omega);exact(by simpa using this:fI Y _ _).fG g
theorem VU(h:iM Y a p)(t:Â):gh P fI Y (Ξ t a) (Ξ t p):=by unfold Ξ;apply uA (VT t);intro g b d;split;apply ga (oR t);rintro i n _ f ⟨rfl,_⟩;apply ga (Ot ((h.fG d).fG f) n);exact λj c k _ e=> .fY (.pF e.r e.C);exact Kv<|h.fG d
def adH(h:iM Y a p)(t:Â)(d:fI Y v x):gh P kj Y (φ t a v) (φ t p x):=by unfold φ;apply ga (oR t);rintro f n _ b ⟨rfl,_⟩;have c:=(d.fG b).iG;by_cases e:v.cells.size≠n;rw[if_pos e];exact .gB;rw[if_neg e,if_neg (by rwa[<-c.r])];exact Ou (h.fG b) c
def B7(e:Â)(h:gD Y d q):gh P iM Y (newRow e d) (newRow e q):= .xd h λ_ _ _ _ _ _=> .fY ⟨Å ⟨U,U⟩,U,U⟩
def VW(t:Â)(h:fI Y v x):gh P iM Y (newVar t v) (newVar t x):=B7 t h.iG
def VX(t:Â)(h:gD Y d q)(a:Nat):gh P fI Y (part t d a) (part t q a):=by unfold part;apply uA (VT t);intro i b e;split;apply ga (oR t);rintro g n _ f ⟨rfl,_⟩;have:=((h.fG e).fG f).Gu a<|a+n;exact .fY (.pF this.r this.C);rcases(h.fG e).M a with⟨n,f⟩|⟨v,j,n,f,g⟩;rw[n];exact .gB;rw[n,f];exact .fY g
def Gy(h:fI Y v x):gh P iM Y (Ŕ v) (Ŕ x):=by cases h<;>first|exact .gB|(rename_i a;exact .fY a)
def Kw(h:fI Y v x):gh P kj Y (Zn8 v) (Zn8 x):=by cases h<;>first|exact .fY U|exact .gB
def Ov(h:fI Y v x):gh P kj Y (Zoj v) (Zoj x):=by unfold Zoj;apply ga (Kw h);rintro b a _ _ rfl;exact .fY U
def VY(h:fI Y v x):gh P kj Y (bq v) (bq x):=by cases h<;>first|exact .fY U|exact .gB
def adI(h:fI Y v x):gh P gD Y (asAgg v) (asAgg x):=by cases h<;>first|exact .gB|(rename_i a y;exact .fY ⟨a,y⟩)
def VZ(h:fI Y v x):gh P iM Y (br v) (br x):=by cases h<;>first|exact Oq (Å<|Å<|Å U)|(rename_i a;exact .fY a)|exact .gB
def adJ(b:pH P)(t:Â)(v:Ã):gh P fI Y (ř t È v) (ř t È v):=by unfold ř;apply ga (Gx b t);intro d z e _ h;apply ga (VW t h);exact λf a g _ c=> .fY (.kn c)
def adK(t:Â)(h:fI Y v x):gh P fI Y (Ο t v) (Ο t x):=by unfold Ο;apply ga (VW t h);exact λc a d _ b=> .fY (.kn b)
theorem adL(t:Â)(h:fI Y v x):gh P fI Y (Ō t v) (Ō t x):=by unfold Ō;apply ga (Gy h);grind [VU]
def adM(t:Â)(b:fI Y x z)(h:fI Y v jQ):gh P kj Y (ġ t x v) (ġ t z jQ):=by unfold ġ;apply ga (Gy b);exact λd x z c b=>adH b t<|h.fG c
def adN(h:fI Y v x)(n:Nat):gh P fI Y (ļ v n) (ļ x n):=by
 cases h<;>first|exact .gB|skip
 rename_i e f c h;simp only[ļ];rcases(gD.mk c h).M n with⟨a,b⟩|⟨v,x,a,b,d⟩;rw[a];exact .gB;rw[a,b];exact .fY d
def adO(t:Â)(h:fI Y v x)(n:Nat):gh P fI Y (Ś t v n) (Ś t x n):=by
 unfold Ś;apply ga (jK t);rintro g d _ a ⟨rfl,_⟩;split;rename_i b _;cases i:b[n]? with
 |none=>exact .gB|some f=>
  apply ga (adI<|h.fG a);exact λj c k _ e=>VX f.type e f.offset
 .exact .gB
end
section
variable{Y:fL}
def tB{V:fL->gQ->gQ->Prop}{a b:gX}{f c:gX->ă gQ}(h:gh P V Y (f a) (c b)):gh P V Y (pure a>>=f) (pure b>>=c):=h
def adP(s:Â)(h:fI Y v x)(n:Nat)(e:∀c f i,P.underlying s=À (Zn9 c)->c[n]?=À f->P.info? f.type=À i->i.size≠0): gh P fI Y (Ľ s v n) (Ľ s x n):=by
 unfold Ľ;apply ga (jK s);rintro r d _ g ⟨rfl,j⟩;cases d<;>try exact .gB
 rename_i c;simp only[];cases k:c[n]? with
 |none=>exact .gB|some f=>
  apply ga (Gy<|h.fG g);intro t a u _ l;unfold bu;refine ga (ga (V':=iM) (oR f.type) ?_) ?_;rintro w z _ m ⟨rfl,i,o,p⟩;have:¬z=0:=by rw[<-p];exact e c f i j k o
  rw[if_neg this,if_neg this];exact .fY ((l.fG m).r _);exact λy b B _ q=> .fY (.kn q)
def adQ(t:Â)(h:fI Y x v)(j:fI Y z jQ):gh P fI Y (ľ t x z) (ľ t v jQ):=by
 unfold ľ;apply ga (Kw j);rintro r ⟨k,n⟩ _ l rfl;apply ga (jK t);rintro f d _ m ⟨rfl,s⟩;have g:=(h.fG l).fG m;cases d<;>try exact .gB
 .cases g<;>first|exact .gB|skip
  refine tB<|ga (jK t) ?_;exact λ_ _ _ _ _=>Ek;refine tB<|ga (jK t) ?_;rintro o d _ c ⟨rfl,_⟩;simp only[];split;apply ga (oR _);rintro p b _ e ⟨rfl,_⟩;exact .fY (.kn (((‹iM f _ _›.fG c).fG e).r _));repeat' (first|exact .gB|exact Ek|split)
 apply ga (Gy g);intro f a u _ q;refine tB<|ga (jK t) ?_;rintro o d _ c ⟨rfl,_⟩;simp only[];split;apply ga (oR _);rintro p b _ e ⟨rfl,_⟩;exact .fY (.kn (((q.fG c).fG e).r _));repeat' (first|exact .gB|exact Ek|split)
def El(h:fI Y x v)(y:Nat)(c:η):gh P kj Y (ę x y c) (ę v y c):=by unfold ę;apply ga (Kw h);rintro a ⟨k,n⟩ _ b rfl;simp only[];split;exact .fY U;exact Ek
def tC(Y:fL)(x a:Option Ã):Prop:=(x=Ú/\a=Ú)\/∃v b,x=À v/\a=À b/\fI Y v b
def tC.fG{Y a:fL}(h:Y.r a){x:Option Ã}(r:tC Y x pQ):tC a x pQ:=r.imp id λ⟨v,b,c,d,e⟩=>⟨v,b,c,d,e.fG h⟩
def Gz(f:Bool)(g i:Nat){j h k m n:Option Ã}(c:tC Y pQ j)(o:tC Y h k)(t:tC Y m n):gh P kj Y (ĕ f g i pQ h m) (ĕ f g i j k n):=by unfold ĕ;obtain⟨rfl,rfl⟩|⟨mv,B,rfl,rfl,u⟩:=t;apply tB;obtain⟨rfl,rfl⟩|⟨w,x,rfl,rfl,d⟩:=o;apply tB;obtain⟨rfl,rfl⟩|⟨v,p,rfl,rfl,b⟩:=c;exact .fY U;apply ga (El b _ _);rintro r q _ _ rfl;exact .fY U;apply ga (El d _ _);rintro y a _ e rfl;rcases(c.fG e)with⟨rfl,rfl⟩|⟨v,p,rfl,rfl,b⟩;exact .fY U;apply ga (El b _ _);rintro r q _ _ rfl;exact .fY U;apply ga (El u _ _);rintro C a _ s rfl;obtain⟨rfl,rfl⟩|⟨w,x,rfl,rfl,d⟩:=o;exact .gB;apply ga (El (d.fG s) _ _);rintro y z _ e rfl;rcases(((c.fG s).fG e))with⟨rfl,rfl⟩|⟨v,p,rfl,rfl,b⟩;exact .fY U;apply ga (El b _ _);rintro r q _ _ rfl;exact .fY U
def adR(t:Â)(k:fI Y x v){C h D m u:Option Ã}(g:tC Y pQ C)(i:tC Y h D)(j:tC Y m u):gh P fI Y (ś t x pQ h m) (ś t v C D u):=by
 unfold ś;apply ga (jK t);rintro I d _ o ⟨rfl,J⟩;have k:=k.fG o;have g:=g.fG o;have i:=i.fG o;have j:=j.fG o;cases d<;>try exact .gB
 cases k<;>first|exact .gB|skip
 rename_i s;have e:m.isSome=u.isSome:=by obtain⟨rfl,rfl⟩|⟨_,_,rfl,rfl,_⟩:=j<;>rfl
 simp only[e];split;exact .gB;apply ga (Gz Ä s.size s.size g i<|Á ⟨U,U⟩);rintro G ⟨a,b,c⟩ _ _ rfl;exact .fY (.ly _);rename_i H;apply ga (VZ k);intro G a K B f;apply ga (jK H);rintro L d _ p ⟨rfl,_⟩;have f:=f.fG p;cases d<;>try exact .gB
 rename_i n e _;apply ga (Gz Ä n n ((g.fG B).fG p) ((i.fG B).fG p)<|(j.fG B).fG p);rintro E ⟨x,y,z⟩ _ q rfl;apply ga (oR e);rintro F w _ r ⟨rfl,_⟩;have f:=(f.fG q).fG r;refine .fY (.kZ ?_ _ _);split;exact f;exact f.r _;rename_i e;cases k<;>first|exact .gB|skip
 rename_i n c;apply ga (Gz È n c g i j);rintro E ⟨x,y,z⟩ _ q rfl;apply ga (oR e);rintro F w _ r ⟨rfl,_⟩;simp only[Option.map_none,ite_self];exact .fY (.oP _ _);rename_i f n c;apply ga (Gz È n c g i j);rintro E ⟨x,y,z⟩ _ q rfl;apply ga (oR e);rintro F w _ r ⟨rfl,_⟩;have f:=(f.fG q).fG r;by_cases e:z=x;simp only[e,if_true];exact .fY (.kZ f _ _);simp only[e,if_false,dT];exact .fY (.kZ (f.r _) _ _)
def adS(t:Â)(b:fI Y x v){o h p m q:Option Ã}(c:tC Y pQ o)(f:tC Y h p)(g:tC Y m q):gh P fI Y (Ŀ t x pQ h m) (Ŀ t v o p q):=by
 unfold Ŀ;apply ga (jK t);rintro u d _ i ⟨rfl,B⟩;have b:=b.fG i;have c:=c.fG i;have f:=f.fG i;have g:=g.fG i;cases d<;>try exact adR t b c f g
 rename_i n e;apply ga (Gy b);intro C a D k j;apply ga (Gz Ä n n (c.fG k) (f.fG k)<|g.fG k);rintro E ⟨x,y,z⟩ _ r rfl;apply ga (oR e);rintro F w _ s ⟨rfl,_⟩;have j:=(j.fG r).fG s;refine .fY (.kZ ?_ _ _);split;exact j;exact j.r _
def adT(t:Â)(a:fI Y x v)(b:fI Y z jQ):gh P fI Y (Ŝ t x z) (Ŝ t v jQ):=by
 unfold Ŝ;apply ga (Kw b);rintro l ⟨k,n⟩ _ c rfl;apply ga (jK t);rintro m d _ f ⟨rfl,o⟩;have a:=(a.fG c).fG f;cases d<;>try exact .gB
 cases a<;>first|exact .gB|skip
 simp only[];split;exact .fY (.iZ _ _);exact Ek;rename_i p e;cases a<;>first|exact .gB|skip
 rename_i g h;simp only[];split;apply ga (oR e);rintro q w _ j ⟨rfl,_⟩;exact VX e ((gD.mk g h).fG j) _;exact Ek
def adU(a:UnOp)(b:fI Y x v):gh P fI Y (bx a x) (bx a v):=by cases b<;>cases a<;>first|exact .gB|exact .fY (.iZ _ _)|exact .fY (.nA _)
end
section
variable{Y:fL}
def adV{g:gX->ă gQ}(d:∀{Y:fL} (a:gX),gh P kj Y (g a)<|g a):∀{Y:fL} (l:List gX),gh P kj Y (l.mapM g) (l.mapM g):=by
 intro Y l
 induction l generalizing Y with
 |nil=>exact .fY U|cons a l e=>
  rw[Β];apply uA (d a);intro f b _;apply uA e;exact λh c _=> .fY U
def adW{g:gX->ă gQ}(b:∀{Y:fL} (a:gX),gh P kj Y (g a)<|g a)(l:Array gX):gh P kj Y (l.mapM g) (l.mapM g):=by rw[Ą];have:=adV b (Y:=Y) l.toList;apply gh.nF this;intro d a c _ (e:a=c);subst e;exact .fY U
def adX(Y:fL)(p a:Nat×Value):Prop:=p.1=a.1/\fI Y p.2 a.2
inductive xf(Y:fL):List (Nat×Value)->List (Nat×Value)->Prop|qY:xf Y [] []|yv {p p':Nat×Value} {l l':List (Nat×Value)} (h:adX Y p p') (t:xf Y l l'):xf Y (p::l) (p'::l')
def xf.fG{Y a:fL}(h:Y.r a){l b:List (Nat×Value)}(r:xf Y l b):xf a l b:=by
 induction r with|qY=>exact .qY|yv x _ c=>exact .yv ⟨x.1,x.2.fG h⟩ c
def adY(f:Nat):∀(c a:List Ã)(k:Nat)(b d:Array Ã),gD Y c.toArray a.toArray->gD Y b d-> gD Y ((c.zipIdx k).foldl (λb (p:Value×Nat)=>b.setIfInBounds (f+p.2) p.1) b) ((a.zipIdx k).foldl (λb (p:Value×Nat)=>b.setIfInBounds (f+p.2) p.1) d):=by
 intro c
 induction c with
 |nil=>
  intro a k b d p e;have:a=[]:=by have:=p.r;simp at this;exact ó this.symm
  subst this;exact e|cons x c g=>
  intro a k b d p e;match a,p with
  |[],p=>have:=p.r;simp at this|x'::a,p=>
   simp only[bZ,dS];refine g a (k+1) _ _ ⟨by have:=p.r;simpa using this,λj h i=> ?_⟩ (e.K _ (by have:=p.C 0 fD fD;simpa using this));have:=p.C (j+1) (by simp at h|-;omega) (by simp at i|-;omega);simpa using this
theorem adZ(b:Nat){a c:Array Ã}(e:gD Y d q)(f:gD Y a c): gD Y (d.zipIdx.foldl (λa (p:Value×Nat)=>a.setIfInBounds (b+p.2) p.1) a) (q.zipIdx.foldl (λa (p:Value×Nat)=>a.setIfInBounds (b+p.2) p.1) c):=by have:=adY b d.toList q.toList 0 a c (fN e) f;grind [Array.toList_zipIdx]
def Kx(d:Nat->Option (Nat×Nat)):∀{l e:List (Nat×Value)} {a b:Array Ã},xf Y l e->gD Y a b-> (ι d a l=Ú)\/∃c h,ι d a l=À c/\ι d b e=À h/\gD Y c h:=by
 intro l e a b h
 induction h generalizing a b with
 |qY=>intro c;exact Å ⟨a,b,U,U,c⟩|@yv p p' l e hp _ ih=>
  intro c;let⟨i,v⟩:=p;let⟨k,m⟩:=p';obtain⟨rfl,g⟩:=hp;unfold ι;cases d i with
  |none=>exact Á U|some q=>
   let⟨j,n⟩:=q;have f:=g.iG;simp only[<-f.r,<-c.r];split;exact Á U;exact ih<|adZ j f c
def ad1(q:pH P)(t:Â){l m:Array (Nat×Value)}(h:xf Y l.toList m.toList):gh P fI Y (ŝ t l) (ŝ t m):=by
 unfold ŝ;apply ga (Gx q t);intro C z D r s;apply ga (jK t);rintro E d _ o ⟨rfl,F⟩;have p:=(s.fG o).iG;have h:=(h.fG r).fG o;cases d<;>try exact .gB
 rename_i n e;apply ga (oR e);rintro u w _ b ⟨rfl,_⟩;obtain e|⟨c,v,j,k,g⟩:=Kx (λi=>À (i*w,w)) (h.fG b)<|p.fG b;simp only[e];exact .gB;simp only[j,k];exact .fY (.pF g.r g.C);rename_i x;refine uA (adW (λ{Y} (f:Field)=>ga (oR f.type) λG a H _ y=> ?_) x) ?_;obtain⟨rfl,_⟩:=y;exact .fY U;intro u B b;obtain e|⟨c,v,j,k,g⟩:=Kx (B[·]?) (h.fG b)<|p.fG b;simp only[e];exact .gB;simp only[j,k];exact .fY (.pF g.r g.C)
end
section
variable{Y:fL}
theorem ad2(Y:fL):fI Y (default:Ã) default:=.nA _
theorem gD.ad3{Y:fL}(r:gD Y d q)(i:Nat):fI Y d[i]! q[i]!:=by
 by_cases h:i<d.size;have a:i<q.size:=by rwa[<-r.r]
 rw[getElem!_pos d i h,getElem!_pos q i a];exact r.C i h a;have a:¬i<q.size:=by rwa[<-r.r]
 grind [getElem,ad2]
def gD.S{Y:fL}(r:gD Y d q)(n:Nat):gD Y ((Zok n).map (d[· %d.size]!)) ((Zok n).map (q[· %q.size]!)):=by refine⟨fD,λi a b=> ?_⟩;simp only[Ş,<-r.r];exact r.ad3 _
def gD.yw{Y:fL}(r:gD Y d q)(n:Nat):gD Y (ş d n) (ş q n):=by
 unfold ş;have e:n*d.size=n*q.size:=by rw[r.r]
 rw[<-e];exact r.S _
def ad4(f:pH P)(t:Â)(b:Nat){m n:Array (Nat×Value)}(h:xf Y m.toList n.toList):gh P fI Y (Ě t b m) (Ě t b n):=by
 unfold Ě;apply ga (jK t);rintro v d _ p ⟨rfl,x⟩;have h:=h.fG p;cases d<;>try exact .gB
 rename_i e;apply ga (oR e);rintro y w _ o ⟨rfl,_⟩;simp only[];split;exact .gB;split;apply tB;obtain e0|⟨c,q,g,j,k⟩:=Kx (λi=>À (i*w,w)) (h.fG o)<|(gD.N _).S<|b*w;rw[e0];exact .gB;rw[g,j];exact ga (B7 e k) λr a s _ l=> .fY (.kZ l _ _);refine ga (Gx f e) λB z C u f=>tB ?_;obtain e0|⟨c,q,g,j,k⟩:=Kx (λi=>À (i*w,w)) ((h.fG o).fG u)<|f.iG.S<|b*w;rw[e0];exact .gB;rw[g,j];exact ga (B7 e k) λr a s _ l=> .fY (.kZ l _ _)
def Ow(h:fI Y x v):gh P kj Y (Ũ x) (Ũ v):=by cases h<;>first|exact .gB|exact .fY U
def gD.ad5(Y:fL)(b:Array UInt8):gD Y (b.map λb=>ù .u8 b.toNat) (b.map λb=>ù .u8 b.toNat):=⟨U,λi a _=>by simp only[Ş];exact .iZ _ _⟩
def GA(a n:Nat)(h:fI Y x v):gh P gD Y (ī a n x) (ī a n v):=by
 cases h<;>first|exact .gB|exact .fY (gD.N _)|exact .fY (gD.ad5 _ _)|skip
 rename_i b _ _;exact Ot b _
def Ox(n:Nat):gh P kj Y (aY n) (aY n):=by unfold aY;split;exact .Ei (Á U) (.fY U);exact .fY U
def ad6(a:Array Â)(t:Â)(h:fI Y x v):gh P fI Y (ō a t #[x]) (ō a t #[v]):=by
 unfold ō;cases a[0]? with
 |none=>exact .gB|some b=>
  apply ga (jK b);rintro f d _ c ⟨rfl,g⟩;have h:=h.fG c;cases d<;>try exact .gB
  cases h<;>first|exact .gB|exact .fY (.iZ _ _)
  rename_i e;apply ga (jK e);rintro i d _ j ⟨rfl,_⟩;cases d<;>first|exact .gB|exact .fY (.iZ _ _)
  cases h<;>first|exact .gB|exact .fY (.iZ _ _)
  exact .fY (.iZ _ _);all_goals cases h<;>first|exact .gB|exact .fY (.iZ _ _)
def ad7(a:Array Â)(t:Â)(h:fI Y x v):gh P fI Y (Ŏ a t #[x]) (Ŏ a t #[v]):=by
 unfold Ŏ;cases a[0]? with
 |none=>exact .gB|some b=>
  apply ga (jK b);rintro f d _ c ⟨rfl,g⟩;have h:=h.fG c;cases d<;>try exact .gB
  rename_i e;apply ga (jK e);rintro i d _ j ⟨rfl,_⟩;cases d<;>first|exact .gB|exact .fY (.iZ _ _)
  cases h<;>first|exact .gB|exact .fY (.iZ _ _)
  exact .fY (.iZ _ _);all_goals cases h<;>first|exact .gB|exact .fY (.iZ _ _)
def ad8(g:Array Â)(t:Â)(h:fI Y x v)(a:fI Y z jQ):gh P fI Y (ŀ g t #[x,z]) (ŀ g t #[v,jQ]):=by
 unfold ŀ;cases g[0]? with
 |none=>exact .gB|some l=>
  apply ga (jK l);rintro u d _ i ⟨rfl,B⟩;have h:=h.fG i;have a:=a.fG i;cases d<;>try exact .gB
  rename_i e;cases h<;>first|exact .gB|skip
  rename_i n c;apply ga (Ow a);rintro o m _ b rfl;apply ga (oR e);rintro p w _ f ⟨rfl,_⟩;apply ga (GA w _<|(a.fG b).fG f);exact λq c r j k=> .fY (.iZ _ _);rename_i s n c;apply ga (Ow a);rintro o m _ b rfl;apply ga (oR e);rintro p w _ f ⟨rfl,_⟩;apply ga (GA w _<|(a.fG b).fG f);intro q c r j k;apply ga (Ou (((s.fG b).fG f).fG j)<|fN k);exact λC _ _ _ _=> .fY (.iZ _ _)
end
section
variable{Y:fL}
def Oy{h:Halt}:∀u x a,(ZoD h:ă gX).run P u≠Ē x a:=by intro u x a e;cases e
theorem GB{m:ă gX}{f:gX->ă gQ}(h:∀a u x b,(f a).run P u≠Ē x b):∀u x b,(m>>=f).run P u≠Ē x b:=by
 intro u x b e;rw[Æ]at e;cases c:m.run P u with|ok a w=>rw[c]at e;exact h a _ _ _ e|halt z w=>rw[c]at e;cases e
theorem V3:∀u x a,(goPanic v:ă gX).run P u≠Ē x a:=Oy
def ad9{v:aH}:∀u x a,(unsupported v:ă gX).run P u≠Ē x a:=Oy
theorem tD(e:ű):∀u x a,(runtimePanic e:ă gX).run P u≠Ē x a:=by unfold runtimePanic;grind [GB,V3]
def Ky{V:fL->gX->gX->Prop}{e:ű}{m:ă gX}:gh P V Y (runtimePanic e) m:=.qp (tD e)
def aea(H:pH P)(p g t:Â)(i:(∃e,P.underlying g=À (Zoa e))\/P.underlying g=À ċ){B:Ã}(j:fI Y v jQ)(c:fI Y x B): gh P fI Y (ĥ #[p,g] t #[v,x]) (ĥ #[p,g] t #[jQ,B]):=by
 unfold ĥ;apply ga (jK p);rintro C d _ D ⟨rfl,W⟩;have j:=j.fG D;have c:=c.fG D;cases d<;>try exact .gB
 rename_i e;have r:=j;cases j<;>first|exact .gB|skip
 all_goals
  apply ga (oR e);rintro X w _ E ⟨rfl,_⟩;apply ga (jK g);rintro ρ3 d1 _ F ⟨rfl,k⟩;obtain⟨e1,i⟩|i:=i;all_goals
   rw[i]at k;injection k with k;subst k;refine tB<|ga (Ow<|c.fG<|fL.C E F) ?_;rintro ρ4 m _ I rfl;have f:=fL.C (fL.C E F) I;have c:=c.fG f;have r:=r.fG f;simp only[];split;apply ga (GA w m c);intro J q K l u;first|exact .fY (.oP _ _)|exact ga (Ou (((‹iM C _ _›.fG f).fG l).r _)<|fN u) λL _ _ h _=> .fY (.kZ (((‹iM C _ _›.fG f).fG l).fG h) _ _)
   .apply ga (Ah e);rintro J G _ l ⟨rfl,_⟩;split;exact .qp (yr<|tD _);apply ga (Ah e);rintro L G _ h ⟨rfl,_⟩;split;refine .qp (yr ?_);simp only[Î,if_false];refine GB λb=> ?_;simp_all;apply uA (.B3 λ_=> .fY U);intro M nc y;apply ga (Ah e);rintro N G _ n ⟨rfl,_⟩;apply uA (Ox _);intro O _ Q;have f:=fL.C (fL.C (fL.C l h)<|fL.C y n) Q;apply ga (GA w _<|r.fG f);intro ρa o o' h S;apply ga (GA w m<|c.fG<|fL.C f h);intro M q K y u;apply ga (Gx H e);intro N z z' n T;exact ga (B7 e<|(((S.fG y).fG n).H<|u.fG n).H<|T.iG.yw _) λO a a' _ V=> .fY (.kZ V _ _)
end
section
variable{Y:fL}
def aeb(g:pH P)(t:Â)(i:fI Y v x)(j:fI Y z jQ):gh P fI Y (Ħ t v z) (Ħ t x jQ):=by
 unfold Ħ;apply ga (jK t);rintro o d _ f ⟨rfl,p⟩;cases d<;>try exact .gB
 rename_i e;apply ga (Ov<|i.fG f);rintro q r _ k rfl;apply ga (Ov<|(j.fG f).fG k);rintro s u _ y rfl;apply ga (Ah e);rintro B C _ D ⟨rfl,_⟩;simp only[];split;split;exact .qp (yr<|tD _);split;exact .qp (yr<|tD _);exact .qp (GB λ_=>yr<|tD _);apply uA (Ox _);intro E _ F;apply ga (oR e);rintro G w _ H ⟨rfl,_⟩;split;exact tB (ga (B7 e<|(gD.N _).S _) λm a n _ b=> .fY (.kZ b _ _));exact ga (Gx g e) λ_ _ _ _ h=>tB<|ga (B7 e<|h.iG.S _) λm a n _ b=> .fY (.kZ b _ _)
def vv(P:Ó)(t:Â):Prop:=P.underlying t=À .bool\/(∃k,P.underlying t=À (ũ k))\/P.underlying t=À ċ
def oS:Ã->Prop|Ö (À _)=>False|_=>True
def V4(t:Â)(i:vv P t\/∃e,P.underlying t=À (æ e))(b:fI Y x v)(c:fI Y z jQ)(j:oS x\/oS z):gh P kj Y (ë t x z) (ë t v jQ):=by
 unfold ë ô ų;apply ga (jK t);rintro o d _ g ⟨rfl,a⟩;have b:=b.fG g;have c:=c.fG g;obtain(h|⟨k,h⟩|h)|⟨e,h⟩:=i;all_goals
  rw[h]at a;injection a with a;subst a;cases b<;>cases c<;>first|exact .gB|exact .fY U|(simp[oS]at j;done)|skip
 simp only[];split<;>first|exact .fY U|exact .gB
 rename_i l n _ _ _;by_cases f:n=0;subst f;exact .fY U;refine .qp λu x m e=> ?_;simp_all;rename_i l n;by_cases f:n=0;subst f;exact .fY U;refine .qp λu x m e=> ?_;simp_all
end
section
variable{Y:fL}
def Kz{r:Nat}(h:Y r i):gh P (λ_ a b=>a=Ú/\b=Ú) Y (Zob r) (Zob i):=.xe h λ_ _ _ _=> .fY ⟨U,U⟩
def V5{r:Nat}(h:Y r i):gh P (λ_ a b=>a=Ú/\b=Ú) Y (bz r) (bz i):=.xe h λ_ _ _ _=> .fY ⟨U,U⟩
def B8(h:iM Y a p):gh P (λc x b=>iM c x.1 b.1/\x.2=b.2/\x=(a,Ä)/\b=(p,Ä)) Y (ě a) (ě p):=by unfold ě;apply ga (V5 h.1);rintro c x d b ⟨rfl,rfl⟩;exact .fY ⟨h.fG b,U,U,U⟩
def aec(h:iM Y a p):gh P kj Y (ax a) (ax p):=by unfold ax;apply ga (Kz h.1);rintro b x c d ⟨rfl,rfl⟩;exact .fY U
def GF(h:iM Y a p):gh P kj Y (Zoc a) (Zoc p):=by
 have f:=h;let⟨g,i,b⟩:=f;unfold Zoc;cases c:a.spot with
 |some s=>
  rw[c]at b;rw[<-b];exact .fY U|none=>
  rw[c]at b;rw[<-b];apply ga tA;rintro k s l d ⟨rfl,e⟩;subst e;apply ga (aec<|h.fG d);intro m _ _ j _;refine .xe (j.1 _ _<|d.1 _ _ g) λe n o q=> ?_;simp only[<-i,Þ];split;exact .fY U;split;exact .fY U;exact .gB
def KA(c:Bi Y){b d:Õ}(f:iM Y a p)(g:iM Y b d):(a.block==b.block)=(p.block==d.block):=by rw[dA,beq_iff_eq,beq_iff_eq];constructor;intro e;exact c.1 _ _ _ f.1<|e▸g.1;intro e;exact c.2.1 _ _ _ f.1<|e▸g.1
theorem V6(g:Bi Y){b c:Õ}(d:iM Y a p)(f:iM Y b c):(a==b)=(p==c):=by have e:=KA g d f;rw[dA,beq_iff_eq,beq_iff_eq]at e;rw[dA,beq_iff_eq,beq_iff_eq];let⟨h,i,j⟩:=a;let⟨k,l,m⟩:=p;let⟨n,o,q⟩:=b;let⟨r,s,t⟩:=c;let⟨_,u,v⟩:=d;let⟨_,w,x⟩:=f;grind
theorem V7(f:Bi Y)(n:Y.gA=P.globals.size){b d:Õ}(e:iM Y a p)(g:iM Y b d):gh P kj Y (ŏ a b) (ŏ p d):=by
 unfold ŏ;apply ga tA;rintro o c q h ⟨i,j⟩;rw[i,j];have k:(a.block !=b.block)=(p.block !=d.block):=by simp only[bne];rw[KA f e g]
 have l:(decide<|a.block≥P.globals.size)=(decide<|p.block≥P.globals.size):=by have:=f.2.2 _ _ e.1;grind
 rw[k,l];split;exact .gB;apply ga (GF<|e.fG h);rintro r x _ m rfl;apply ga (GF<|(g.fG h).fG m);rintro s y _ t rfl;exact .fY U
def aed(d:Bi Y)(e:Y.gA=P.globals.size)(k:ñ){b c:Õ}(f:iM Y a p)(g:iM Y b c):gh P fI Y (Ŵ k a b) (Ŵ k p c):=by unfold Ŵ;apply ga (V7 d e f g);rintro h ⟨x,y⟩ _ _ rfl;exact .fY (.iZ _ _)
def aee(e:Bi Y)(f:Y.gA=P.globals.size)(c:ď){b d:Õ}(g:iM Y a p)(h:iM Y b d):gh P fI Y (ŵ c a b) (ŵ c p d):=by unfold ŵ;apply ga (V7 e f g h);rintro i ⟨x,y⟩ _ _ rfl;cases c<;>first|exact .fY (.nA _)|exact .gB
def V8(k:ñ)(b:iM Y a p)(n:Int):gh P fI Y (Ŷ k a n) (Ŷ k p n):=by unfold Ŷ;refine .xe b.1 λe m d f=> ?_;apply tB;apply ga (Ah e);rintro g h _ c ⟨rfl,_⟩;simp only[];split;exact .gB;apply ga (GF<|b.fG c);rintro i x _ _ rfl;exact .fY (.iZ _ _)
def aef{n:Int}(h:j<=b)(a:Γ P i e j k n=À m):Γ P i e b k n=À m:=by unfold Γ at a|-;simp only[bind,Option.bind]at a|-;split at a;cases a;rename_i f;rw[if_neg f];split at a;cases a;rename_i g;simp only[g];dsimp only at a;split at a;cases a;rename_i l;rwa[if_neg];intro o;apply l;have:=(λw=>eB w h)<|P.bytesOf e;simp at o|-;omega
def aeg{i:Â->Bool}:∀{d:Nat} {e:Â} {c a b n:Nat},c<=a->Zn3 P i d e c b n=È->Zn3 P i d e a b n=È|0,_,_,_,_,_,_,h=>by simp[Zn3]at h|d+1,e,c,a,b,n,hc,h=>by unfold Zn3 at h|-;simp only at h|-;split at h;cases h;rename_i j;rw[if_neg j];rw[eg,eC,eC,eC]at h|-;obtain⟨⟨f,g⟩,k⟩|⟨f,g⟩:=h;exact Á ⟨⟨f,by simp at g|-;omega⟩,k⟩;exact Å ⟨by simp at f|-;omega,g⟩
def V9:∀{d:Nat} {e:Â} {c a b:Nat} {u:Â} {n:Nat},c<=a->ay P d e c b u n=È->ay P d e a b u n=È
 |0,_,_,_,_,_,_,_,h=>by simp[ay]at h
 |d+1,e,c,a,b,u,n,hc,h=>by
  unfold ay at h|-;rw[eg]at h|-;obtain h|h:=h;exact Á<|aeg hc h;right;split at h;rename_i f;first|rw[f]|skip
  exact V9 hc h;cases h
def aeh{a:Â->Bool}:Zn3 P a i e 0 j (n+1)=Ä:=by
 cases i with
 |zero=>simp[Zn3]|succ i=>
  unfold Zn3;simp
def aei{k:ñ}(a:P.underlying t=À (ũ k)):ay P i e 0 j t (n+1)=Ä:=by
 cases i with
 |zero=>simp[ay]|succ i=>
  rw[ay,aeh];simp[a]
def Wa(t:Â)(d:iM Y a p)(k:ñ)(n:Int):gh P fI Y (ç #[] t #[Ö<|À a,ù k n]) (ç #[] t #[Ö<|À p,ù k n]):=by
 have f:=d;let⟨c,g,h⟩:=f;unfold ç;apply tB;simp only[];split;apply ga (Kz c);rintro i x e b ⟨rfl,rfl⟩;exact .fY (.kn (d.fG b));split;exact .gB;refine .xe c λe m u j=> ?_;apply tB;apply ga tA;rintro i b v l ⟨o,r⟩;rw[o,r,<-g];cases s:Γ P P.depth e (m/P.cellsOf e) a.off n with
 |none=>exact .gB|some x=>
  rw[aef (Δ<|j.elim (λq=>by omega) λq=>q.1) s];exact .fY (.kn ⟨l.1 _ _ c,U,h⟩)
end
def Ai:Obj->Prop|Ā .. =>False|_=>True
inductive lV(P:Ó){α:Type}(V:fL->α->α->Prop):fL->ă α->ă α->Prop|gA {Y:fL} {m m':ă α} (h:gh P V Y m m'):lV P V Y m m'|nF {Y:fL} {β:Type} {V0:fL->β->β->Prop} {m m':ă β} {f f':β->ă α} (h:gh P V0 Y m m') (hf:∀Y' a a',Y.r Y'->V0 Y' a a'->lV P V Y' (f a) (f' a')):lV P V Y (m.bind f) (m'.bind f')|Em {Y:fL} {o:Obj} {g:Nat->α} {m':ă α} (ho:Ai o):lV P V Y (.new o λr=>υ<|g r) m'|En {Y:fL} {m m':ă α} (h:∀u x u',m.run P u=Ē x u'->∃i o,u.heap.size<=i/\u'.heap[i]?=À o/\Ai o):lV P V Y m m'
section
variable{Y:fL}
def lV.aej{V:fL->gX->gX->Prop}{i:fL->gQ->gQ->Prop}{m e:ă gX}{f j:gX->gQ}(h:lV P V Y m e)(k:∀c a d,Y.r c->V c a d->i c (f a) (j d)): lV P i Y (m.bind λa=>υ<|f a) (e.bind λa=>υ<|j a):=by
 induction h with
 |gA h=>exact .gA (h.nF λc a d u w=> .fY (k c a d u w))|nF h _ g=>
  rw[ņ,ņ];exact .nF h λc a d u w=>g c a d u w λx b z l n=>k x b z (fL.C u l) n|Em b=>exact .Em b|@En Y m e h=>
  refine .En λu x l b=> ?_;rw[Ģ]at b;cases g:m.run P u with
  |halt z w=>rw[g]at b;cases b
  |ok a w=>
   rw[g]at b;simp only[Ù]at b;cases b;exact h u a _ g
def Eo(u a:Ç):Prop:=∀i o,u.heap.size<=i->a.heap[i]?=À o->¬Ai o
def lV.gR{V:fL->gX->gX->Prop}{Y:fL}{m r:ă gX}(h:lV P V Y m r):∀{u w:Ç},jI Y X u w->(∀j,X j->j<w.heap.size)->∀{x:gX} {c:Ç},m.run P u=Ē x c->Eo u c->∀d:Array ê,∃(a:fL)(n:gX)(w':Ç)(s:Array ê),Y.r a/\(∀i j,a i j->Y i j\/(u.heap.size<=i/\w.heap.size<=j))/\r.runT P w d=(Ē n w',d++s)/\V a x n/\jI a X c w'/\pG Y X w w'/\(∀e∈s,B4 a X e)/\u.heap.size<=c.heap.size:=by
 induction h with
 |gA h=>intro u w k g x c b _ d;exact h.gR k g b d|@nF Y β V0 m r f f' h _ ih=>
  intro u w k g x c b l d;rw[Ģ]at b;cases t:m.run P u with
  |halt z w=>rw[t]at b;cases b
  |ok a u1=>
   rw[t]at b;let⟨G,H,w1,E,p,q,v,I,J,B,K,C⟩:=h.gR k g t d;let⟨L,n,M,N,F,O,Q,S,T,W,k7,k8⟩:=ih G a H p I J (λj s=>ff (g j s) B.r) b (λi o s=>l i o<|â C s)<|d++E;refine⟨L,n,M,E++N,fL.C p F,λi j D=> ?_,?_,S,T,B.fA W λi j D=>(q i j D).imp id λy=>y.2,λe s=> ?_,â C k8⟩;obtain y|⟨y1,y2⟩:=O i j D;exact q i j y;exact Å ⟨â C y1,â B.r y2⟩;rw[Ð,v];simp only[];rw[Q,Ī];obtain s|s:=dq.1 s;obtain⟨a,i,y,z2,z3,z4⟩|z:=K e s;exact Á ⟨a,i,y,F.1 _ _ z2,z3,z4⟩;exact Å z;exact k7 e s
 |Em s=>
  intro u w k g x c b l d;simp only[Ù]at b;cases b;exact absurd s<|l u.heap.size _ (eE _) fD
 |En h=>
  intro u w k g x c b l d;let⟨i,o,p,q,v⟩:=h u x c b;exact absurd v<|l i o p q
end
section
variable{Y:fL}
theorem aek(i:Bi Y)(F:Y.gA=P.globals.size)(t:Â)(s:vv P t){j b m:Õ}(e:iM Y a j)(f:iM Y b m):gh P kj Y (ë t (Ö<|À a)<|Ö<|À b) (ë t (Ö<|À j)<|Ö<|À m):=by
 unfold ë ô ų;apply ga (jK t);rintro G d _ g ⟨rfl,c⟩;obtain h|⟨k,h⟩|h:=s;rw[h]at c;injection c with c;subst c;exact .gB;rw[h]at c;injection c with c;subst c;apply ga (B8<|e.fG g);rintro H p u l ⟨_,_,rfl,rfl⟩;apply ga (B8<|(f.fG g).fG l);rintro I q J n ⟨_,_,rfl,rfl⟩;apply ga tA;rintro K p u o ⟨v,w⟩;rw[v,w];have z:=(((e.fG g).fG l).fG n).fG o;have B:=(((f.fG g).fG l).fG n).fG o;have C:=KA i e f;have D:(decide<|a.block<P.globals.size)=(decide<|j.block<P.globals.size):=by have:=i.2.2 _ _ e.1;grind
 simp only[C,D];split;apply ga (GF z);rintro E x _ r rfl;apply ga (GF<|B.fG r);rintro L y _ M rfl;exact .fY U;apply ga (Ah t);rintro E x _ r ⟨rfl,_⟩;split;rw[V6 i e f];split;exact .fY U;exact .gB;exact .gB;rw[h]at c;injection c with c;subst c;exact .gB
def ael(e:Bi Y)(f:Y.gA=P.globals.size)(t:Â)(b:vv P t)(c:fI Y x v)(d:fI Y z jQ):gh P kj Y (ë t x z) (ë t v jQ):=by
 by_cases a:oS x\/oS z;exact V4 t (Á b) c d a;have g:=λh=>a<|Á h;have i:=λh=>a<|Å h;cases c<;>first|exact absurd trivial g|skip
 cases d<;>first|exact absurd trivial i|skip
 rename_i j _ _ k;exact aek e f t b j k
def aem(a:ď)(k:ñ)(x y:Int):gh P fI Y (Ρ a k x y) (Ρ a k x y):=by unfold Ρ;split;exact Ky;cases a<;>first|exact .gB|exact .fY (.iZ _ _)
def aen(a:ď)(k b:ñ)(x y:Int):gh P fI Y (χ a k x b y) (χ a k x b y):=by unfold χ;split;exact Ky;cases a<;>first|exact .gB|exact .fY (.iZ _ _)
def aeo(a:ď)(t:Â)(k b:ñ)(x y:Int):gh P fI Y (ŕ a t (ù k x)<|ù b y) (ŕ a t (ù k x)<|ù b y):=by
 cases a<;>simp only[ŕ]<;>first|exact aen _ _ _ _ _|skip
 all_goals
  split;exact .gB;first|exact .fY (.iZ _ _)|exact .fY (.nA _)|exact aem _ _ _ _
def aep(a:ď)(t:Â)(x y:ByteArray):gh P fI Y (ŕ a t (Ĕ x)<|Ĕ y) (ŕ a t (Ĕ x)<|Ĕ y):=by
 cases a<;>simp only[ŕ,aI]<;>first|exact .gB|exact .fY (.nA _)|skip
 split;exact .gB;exact .fY (.ly _)
end
section
variable{Y:fL}
def mC{V0:fL->gQ->gQ->Prop}{V:fL->gX->gX->Prop}{m c:ă gQ}{f d:gQ->ă gX}(h:gh P V0 Y m c)(g:∀b a e,Y.r b->V0 b a e->lV P V b (f a) (d e)):lV P V Y (m>>=f) (c>>=d):=.nF h g
def aer{V:fL->gX->gX->Prop}{c:fL->gQ->gQ->Prop}{m d:ă gX}{f e:gX->gQ}(h:lV P V Y m d)(i:∀b a g,Y.r b->V b a g->c b (f a) (e g)): lV P c Y (m>>=λa=>pure<|f a) (d>>=λa=>pure<|e a):=lV.aej h i
def Wb(t:Â)(y:Ã):∀u x a,(ç #[] t #[Ö Ú,y]).run P u≠Ē x a:=by unfold ç;refine GB λn=> ?_;simp only[];split;exact ad9;split;all_goals simp_all
def Ep(t:Â)(i:fI Y x v)(j:∃p,x=Ö p)(k:ñ)(n:Int):lV P fI Y (ł t x<|ù k n) (ł t v<|ù k n):=by
 obtain⟨p,rfl⟩:=j;cases i with
 |mN=>
  unfold ł;apply mC (jK t);rintro e d _ h ⟨rfl,_⟩;cases d<;>simp only[Î,if_false,if_true]<;>first|exact .gA .gB|exact .gA (.qp (Wb t _))
 |kn f=>
  unfold ł;apply mC (jK t);rintro e d _ h ⟨rfl,_⟩;have l:∀{a g:Õ},iM e a g->lV P fI e (ě a>>=λp=>ç #[] t #[Ö<|À p.1,ù k n]>>=λc=>match c with|Ö (À b)=>bA b p.2|c=>pure c) (ě g>>=λp=>ç #[] t #[Ö<|À p.1,ù k n]>>=λc=>match c with|Ö (À b)=>bA b p.2|c=>pure c):=by intro a g f;apply mC (B8 f);rintro q p r s ⟨m,u,rfl,rfl⟩;apply mC (Wa t m k n);intro w c y z o;cases o<;>first|exact .Em trivial|exact .gA (.fY (by constructor<;>assumption))
  cases d<;>simp only[Î,if_false,if_true]<;>first|exact .gA .gB|exact l<|f.fG h
def Wc(t:Â)(b:fI Y x v)(c:∃p,x=Ö p)(k:ñ)(n:Int):lV P fI Y (Ő t x<|ù k n) (Ő t v<|ù k n):=by
 unfold Ő;obtain⟨p,rfl⟩:=c;cases b with
 |mN=>exact .gA (.qp (Wb t _))|kn a=>
  apply mC (V5 a.1);rintro e p f d ⟨rfl,rfl⟩;exact .gA (Wa t (a.fG d) k n)
def aes(P:Ó)(a:ď)(t:Â)(x y:Ã):Prop:=a=κ\/a=ψ->(vv P t\/((∃e,P.underlying t=À (æ e))/\(oS x\/oS y)))
def Wg(c:Bi Y)(d:Y.gA=P.globals.size)(t:Â)(f:vv P t\/((∃e,P.underlying t=À (æ e))/\(oS x\/oS z)))(a:fI Y x v)(b:fI Y z jQ):gh P kj Y (ë t x z) (ë t v jQ):=by obtain h|⟨g,i⟩:=f;exact ael c d t h a b;exact V4 t (Å g) a b i
def aeu(m:Bi Y)(n:Y.gA=P.globals.size)(c:ď)(t:Â)(r:aes P c t x z)(o:fI Y x v)(h:fI Y z jQ):lV P fI Y (ŕ c t x z) (ŕ c t v jQ):=by
 have f:c=κ->gh P fI Y (ë t x z>>=λb=>pure<|Ĭ b) (ë t v jQ>>=λb=>pure<|Ĭ b):=by intro e;apply ga (Wg m n t (r<|Á e) o h);rintro i b _ _ rfl;exact .fY (.nA _)
 have g:c=ψ->gh P fI Y (ë t x z>>=λb=>pure<|Ĭ !b) (ë t v jQ>>=λb=>pure<|Ĭ !b):=by intro e;apply ga (Wg m n t (r<|Å e) o h);rintro i b _ _ rfl;exact .fY (.nA _)
 cases o with
 |iZ k a=>
  cases h with
  |iZ d b=>exact .gA (aeo c t k d a b)|kn l=>
   cases c<;>first|exact .gA .gB|exact .gA (f U)|exact .gA (g U)|exact Ep t (.kn l) ⟨_,U⟩ _ _|skip
   apply mC (B8 l);rintro i p s e ⟨j,_,_,_⟩;exact .gA (V8 _ j _)
  |mN=>cases c<;>first|exact .gA .gB|exact .gA (f U)|exact .gA (g U)|exact Ep t .mN ⟨_,U⟩ _ _
  |_=>cases c<;>first|exact .gA .gB|exact .gA (f U)|exact .gA (g U)
 |ly a=>
  cases h with|ly b=>exact .gA (aep c t a b)|_=>cases c<;>first|exact .gA .gB|exact .gA (f U)|exact .gA (g U)
 |mN=>
  cases h with
  |iZ k b=>
   cases c<;>first|exact .gA .gB|exact .gA (f U)|exact .gA (g U)|exact Ep t .mN ⟨_,U⟩ _ _|skip
   apply mC (jK t);rintro i d _ e ⟨rfl,_⟩;cases d<;>simp only[Î,if_false,if_true]<;>first|exact Wc t .mN ⟨_,U⟩ _ _|exact Ep t .mN ⟨_,U⟩ _ _
  |_=>cases c<;>first|exact .gA .gB|exact .gA (f U)|exact .gA (g U)
 |kn a=>
  cases h with
  |iZ k b=>
   cases c<;>first|exact .gA .gB|exact .gA (f U)|exact .gA (g U)|exact Ep t (.kn a) ⟨_,U⟩ _ _|skip
   apply mC (jK t);rintro i d _ e ⟨rfl,_⟩;have a:=a.fG e;cases d<;>simp only[Î,if_false,if_true]<;>first|exact Wc t (.kn a) ⟨_,U⟩ _ _|exact Ep t (.kn a) ⟨_,U⟩ _ _
   all_goals
    apply mC (B8 a);rintro i p s e ⟨j,_,_,_⟩;exact .gA (V8 _ j _)
  |kn l=>
   cases c<;>first|exact .gA .gB|exact .gA (f U)|exact .gA (g U)|skip
   all_goals
    apply mC (B8 a);rintro i p s e ⟨j,_,rfl,rfl⟩;apply mC (B8<|l.fG e);rintro w q B b ⟨d,_,rfl,rfl⟩;have k:=b.2.1<|e.2.1 m;have u:=b.2.2.trans<|e.2.2.trans n;first|exact .gA (aed k u _ (j.fG b) d)|exact .gA (aee k u _ (j.fG b) d)
  |_=>cases c<;>first|exact .gA .gB|exact .gA (f U)|exact .gA (g U)
 |_=>
  cases h<;>cases c<;>first|exact .gA .gB|exact .gA (f U)|exact .gA (g U)
end
section
variable{Y:fL}
def aev(a b:Â)(h:(∃k g,P.underlying a=À (ũ k)/\P.underlying b=À (ũ g))\/(P.underlying a=À ċ/\P.underlying b=À ċ))(f:fI Y x v):gh P fI Y (Ł a b x) (Ł a b v):=by
 unfold Ł;apply ga (jK a);rintro n d _ l ⟨rfl,c⟩;apply ga (jK b);rintro o p _ m ⟨rfl,e⟩;have f:=(f.fG l).fG m;obtain⟨k,g,i,j⟩|⟨i,j⟩:=h;all_goals
  rw[i]at c;rw[j]at e;injection c with c;injection e with e;subst c e;cases f<;>first|exact .gB|exact .fY (.iZ _ _)|exact .fY (.ly _)
inductive rK(Y:fL):ŷ->ŷ->Prop|qc {v v':Ã} (h:fI Y v v'):rK Y (ä v) (ä v')|vw:rK Y ς ς|uB (f:Û) {c c':Array Ã} (h:gD Y c c'):rK Y (Ŗ f c) (Ŗ f c')
def GG(P:Ó)(t:Â):Prop:=vv P t\/∃e,P.underlying t=À (æ e)
def aew(t:Â)(f:GG P t)(a g b i:Ã):gh P kj Y (Ĝ ô t a b) (Ĝ ô t g i):=by
 unfold ô Ĝ;apply ga (jK t);rintro j d _ l ⟨rfl,c⟩;obtain(h|⟨k,h⟩|h)|⟨e,h⟩:=f;all_goals
  rw[h]at c;injection c with c;subst c;exact .fY U
def aex(e:ď)(t:Â)(c:e=κ\/e=ψ->GG P t)(x y:Ô){d:Ã}(h:fI Y v z)(i:fI Y jQ d):gh P kj Y (Š e t x y v jQ) (Š e t x y z d):=by
 have g:GG P t->∀{f:fL} (s:aH) (v z jQ d:Ã),gh P kj f (Ĝ ô t v jQ>>=λr=>if r=È then unsupported s else pure ()) (Ĝ ô t z d>>=λr=>if r=È then unsupported s else pure ()):=by intro c f s v z jQ d;apply ga (aew t c v z jQ d);rintro j r _ _ rfl;split;exact .gB;exact .fY U
 unfold Š;cases e<;>first|exact .fY U|skip
 all_goals
  have c:=c (by first|exact Á U|exact Å U);cases h<;>cases i<;>first|exact .fY U|skip
 all_goals first
  |(cases x<;>cases y<;>first|exact .fY U|exact g c _ _ _ _ _)
  |(
   simp only[bN,Î,if_false];apply ga tA;rintro f p m n ⟨r,s⟩;rw[r,s];apply ga tA;rintro j q o u ⟨k,l⟩;rw[k,l];split;exact .fY U;exact g c _ _ _ _ _)
def oA{m a:ă Ã}(h:gh P fI Y m a):gh P rK Y (m>>=λv=>pure<|ä v) (a>>=λv=>pure<|ä v):=h.nF λ_ _ _ _ v=> .fY (.qc v)
def Wh{m a:ă Ã}(h:lV P fI Y m a):lV P rK Y (m>>=λv=>pure<|ä v) (a>>=λv=>pure<|ä v):=aer h λ_ _ _ _ v=> .qc v
def aey{m a:ă Unit}(h:gh P kj Y m a):gh P rK Y (m>>=λ_=>pure ς) (a>>=λ_=>pure ς):=h.nF λ_ _ _ _ _=> .fY .vw
def aez(f:Û)(b:∃a,P.funcs[f]?=À a/\(a.name== "runtime.NumGoroutine")=Ä/\a.body.isNone=Ä)(e:gD Y d q):gh P rK Y (ģ f d) (ģ f q):=by let⟨a,g,h,i⟩:=b;unfold ģ;apply ga tA;rintro m p n j ⟨k,l⟩;rw[k,l,g];simp only[h,i,Î,if_false];exact .fY (.uB f (e.fG j))
end
inductive lz(P:Ó)(ev:Ô->Ã):Op->Prop|Aj (x:Ô):lz P ev (.move x)|GH (x:Ô):lz P ev (.assign x)|yx (c a b:Ô):lz P ev (.pick c a b)|gO (t:Â):lz P ev (.alloc t)|KB (t:Â) (x:Ô):lz P ev (.box t x)|Oz (t:Â) (ps:Array (Nat×Operand)):lz P ev (.build t ps)|OA (t:Â) (n:Nat) (ps:Array (Nat×Operand)):lz P ev (.buildSlice t n ps)|ij (t:Â) (a:Ô):lz P ev (.load t a)|jN (t:Â) (a x:Ô):lz P ev (.store t a x)|GI (x:Ô):lz P ev (.nilCheck x)|Er (op:ď) (t:Â) (x y:Ô) (r:Â) (h:op=κ\/op=ψ->(vv P t\/((∃e,P.underlying t=À (æ e))/\(oS (ev x)\/oS (ev y))))):lz P ev (Zow op t x y r)|OB (op:UnOp) (t:Â) (x:Ô):lz P ev (.unOp op t x)|OC (s d:Â) (x:Ô) (h:(∃k k',P.underlying s=À (ũ k)/\P.underlying d=À (ũ k'))\/(P.underlying s=À ċ/\P.underlying d=À ċ)):lz P ev (ω s d x)|OD (t:Â) (l c:Ô):lz P ev (.makeSlice t l c)|kZ (t:Â) (x:Ô) (lo hi mx:Option Ô):lz P ev (.slice t x lo hi mx)|OE (s:Â) (x:Ô) (n:Nat) (h:∀fields f i,P.underlying s=À (Zn9 fields)->fields[n]?=À f->P.info? f.type=À i->i.size≠0):lz P ev (.fieldAddr s x n)|OG (t:Â) (x:Ô) (n:Nat):lz P ev (.field t x n)|OH (t:Â) (x i:Ô):lz P ev (.indexAddr t x i)|OI (t:Â) (x i:Ô):lz P ev (.index t x i)|Gu (x:Ô) (n:Nat):lz P ev (.extract x n)|GJ (x:Ô) (ts:Array Â):lz P ev (ź {callee:=Č .len,args:=#[x],argTypes:=ts})|GK (x:Ô) (ts:Array Â):lz P ev (ź {callee:=Č .cap,args:=#[x],argTypes:=ts})|GM (x y:Ô) (ts:Array Â):lz P ev (ź {callee:=Č .copy,args:=#[x,y],argTypes:=ts})|GN (x y:Ô) (t0 t1:Â) (h:(∃e,P.underlying t1=À (Zoa e))\/P.underlying t1=À ċ):lz P ev (ź {callee:=Č .append,args:=#[x,y],argTypes:=#[t0,t1]})|iA (f:Û) (args:Array Ô) (ts:Array Â) (rL:ev (.func f)=.func (.func f) #[] #[]) (h:∃fn,P.funcs[f]?=À fn/\(fn.name== "runtime.NumGoroutine")=Ä/\fn.body.isNone=Ä):lz P ev (ź {callee:=bB<|.func f,args:=args,argTypes:=ts})
open Conc
section
variable{Y:fL}
def Wi(Y:fL):Ô->Prop|.const v=>fI Y v v|.global g=>Y g g|_=>True
theorem GO(Y:fL):fI Y ĭ ĭ:=.nD U λi h=>absurd h fD
def aeA{a a':aP}(h:gD Y a.tmps a'.tmps)(b:Wi Y qQ):fI Y (a.eval qQ) (a'.eval qQ):=by
 cases qQ with
 |tmp t=>
  simp only[Ü,fq];obtain⟨f,g⟩|⟨v,d,f,g,c⟩:=h.M t;rw[f,g];exact GO Y;rwa[f,g]|const v=>exact b|global g=>exact .kn ⟨b,U,U⟩|func f=>exact .fn _
def aeB(b:Array Α)(h:gD Y d q)(j:Nat):Ĳ b d j=Ĳ b q j:=by
 unfold Ĳ;cases(b[j]?).bind (·.dst)with
 |none=>rfl|some a=>
  simp only[ef];obtain⟨c,e⟩|⟨v,g,c,e,f⟩:=h.M a;rw[c,e];rw[c,e];cases f<;>rfl
def KC(a:Array Α)(o:Α)(h:gD Y d q):ē o (Ĳ a d)=ē o (Ĳ a q):=by have:Ĳ a d=Ĳ a q:=funext<|aeB a h;rw[this]
def aeC{a a':aP}(h:gD Y a.tmps a'.tmps)(d:Option Tmp)(b:fI Y v x):gD Y (a.put d v).tmps (a'.put d x).tmps:=by
 cases d with|none=>exact h|some d=>exact h.K d b
end
section
variable{Y:fL}
def Wj{b:Ô->Ã}(a:Array Ô)(h:∀x∈a,fI Y (xX x)<|b x):gD Y (a.map xX) (a.map b):=⟨fD,λi c d=>by simp only[Ş];exact h _<|Array.getElem_mem _⟩
def Wk{c:Ô->Ã}(a:Array (Nat×Operand))(h:∀x∈(a.toList.map (·.2)).toArray,fI Y (xX x)<|c x):xf Y (a.map λp=>(p.1,xX p.2)).toList (a.map λp=>(p.1,c p.2)).toList:=by
 simp only[Array.toList_map];have d:∀x∈a.toList.map (·.2),fI Y (xX x) (c x):=λx b=>h x<|fN b;generalize a.toList=l at d
 induction l with|nil=>exact .qY|cons p l e=>exact .yv ⟨U,d _ fD⟩ (e λx b=>d x<|by simp at b|-;exact Å b)
def OJ{a:Ô->Ã}(x:Option Ô)(h:∀y,x=À y->fI Y (xX y) (a y)):tC Y (x.map xX) (x.map a):=by
 cases x with|none=>exact Á ⟨U,U⟩|some x=>exact Å ⟨_,_,U,U,h x U⟩
def Wl(p:pH P)(D:Bi Y)(E:Y.gA=P.globals.size){w:Ô->Ã}(F:∀f,w (.func f)=.func (.func f) #[] #[])(B:lz P xX o.op)(g:∀x∈o.op.operands,fI Y (xX x)<|w x):lV P rK Y (ã xX o) (ã w o):=by
 let⟨O,u,Q,S,T,guard⟩:=o;simp only at B g;simp only[ã,];cases B with
 |Aj x|GH x=>exact .gA (.fY (rK.qc<|g x<|by simp[Ë]))|yx c a b=>
  apply mC (VY<|g c<|by simp[Ë]);rintro G r _ k rfl;refine .gA (.fY (rK.qc ?_));split;exact(g a<|by simp[Ë]).fG k;exact(g b<|by simp[Ë]).fG k|gO t=>exact .gA (oA<|adJ p t _)|KB t x=>exact .gA (oA<|adK t<|g x<|by simp[Ë])|Oz t z=>exact .gA (oA<|ad1 p t<|Wk z g)|OA t n z=>exact .gA (oA<|ad4 p t n<|Wk z g)|ij t a=>exact .gA (oA<|adL t<|g a<|by simp[Ë])|jN t a x=>exact .gA (aey<|adM t (g a<|by simp[Ë])<|g x<|by simp[Ë])|GI x=>
  simp only[];have j:=g x (by simp[Ë]);generalize xX x=v at j;generalize w x=v' at j;cases j<;>first|exact .gA Ky|exact .gA (.fY (rK.qc<|by constructor<;>assumption))|skip
  rename_i f;cases f<;>exact .gA (.fY (rK.qc<|.fn _))
 |Er u t x y r h=>
  have j:=g x (by simp[Ë]);have C:=g y (by simp[Ë]);apply Wh;apply mC (aex u t (λe=>(h e).imp id λq=>q.1) x y j C);exact λG _ _ k _=>aeu (k.2.1 D) (k.2.2.trans E) u t h (j.fG k)<|C.fG k|OB u t x=>exact .gA (oA<|adU u<|g x<|by simp[Ë])|OC s d x h=>exact .gA (oA<|aev s d h<|g x<|by simp[Ë])|OD t l c=>exact .gA (oA<|aeb p t (g l<|by simp[Ë])<|g c<|by simp[Ë])|kZ t x H I J=>exact .gA (oA<|adS t (g x<|by simp[Ë]) (OJ H λy e=>g y<|by simp[Ë,e]) (OJ I λy e=>g y<|by simp[Ë,e])<|OJ J λy e=>g y<|by simp[Ë,e])|OE s x n h=>exact .gA (oA<|adP s (g x<|by simp[Ë]) n h)|OG t x n=>exact .gA (oA<|adO t (g x<|by simp[Ë]) n)|OH t x i=>exact .gA (oA<|adQ t (g x<|by simp[Ë])<|g i<|by simp[Ë])|OI t x i=>exact .gA (oA<|adT t (g x<|by simp[Ë])<|g i<|by simp[Ë])|Gu x n=>exact .gA (oA<|adN (g x<|by simp[Ë]) n)|GJ x m=>
  simp only[ć,Ę,ħ,pure_bind,eJ,dR,dG];exact .gA (oA<|ad6 m _<|g x<|by simp[Ë,ì])|GK x m=>
  simp only[ć,Ę,ħ,pure_bind,eJ,dR,dG];exact .gA (oA<|ad7 m _<|g x<|by simp[Ë,ì])|GM x y m=>
  simp only[ć,Ę,ħ,pure_bind,eJ,dR,dG];exact .gA (oA<|ad8 m _ (g x<|by simp[Ë,ì])<|g y<|by simp[Ë,ì])|GN x y K L h=>
  simp only[ć,Ę,ħ,pure_bind,eJ,dR,dG];exact .gA (oA<|aea p K L _ h (g x<|by simp[Ë,ì])<|g y<|by simp[Ë,ì])|iA f M m N h=>
  simp only[ć,N,F f,ĝ,Ę,pure_bind,cA,dK];exact .gA (aez f h<|Wj M λx j=>g x<|by simp[Ë,ì,j])
end
def World.tp(u:Ç)(T:Μ)(D:Nat):Ç:={u with tape:=T,drawn:=D}
def xg(T:Μ)(D:Nat)(a:Μ)(b n:Nat):Prop:=∀i,i<n->a (b+i)=T (D+i)
def xg.nG{T:Μ}(h:xg T i xQ j (n+1)):xQ j=T i:=h 0 Z
def xg.kl{T:Μ}(h:xg T i xQ j (n+m)):xg T i xQ j n:=λa b=>h a Z
def xg.aeD{b:Μ}(h:xg xQ i b j (n+m)):xg xQ (i+n) b (j+n) m:=λa c=>by have:=h (n+a) Z;rw[show j+n+a=j+(n+a) by omega,show i+n+a=i+(n+a) by omega];exact this
def tE(P:Ó)(m:ă gX):Prop:=∀(u:Ç)(T:Μ)(D:Nat),∃(n:Nat)(v:Ç),
 ∀x c,m.run P ((World.tp u T D))=Ē x c->c=(World.tp v T<|D+n)/\∀a b,xg T D a b n->m.run P ((World.tp u a b))=Ē x ((World.tp v a<|b+n))
def B9{m:ă gX}(h:∀u x a,m.run P u=Ē x a->a=u/\∀b c,m.run P ((World.tp u b c))=Ē x ((World.tp u b c))):tE P m:=λu T D=>⟨0,u,λx a e=>by let⟨d,f⟩:=h _ x a e;exact⟨d,λb c _=>f b c⟩⟩
def OL{m:ă gX}(h:∀u x a,m.run P u≠Ē x a):tE P m:=λu T D=>⟨0,u,λx a e=>absurd e<|h _ _ _⟩
def aeE{m:ă gX}{f:gX->ă gQ}(h:tE P m)(i:∀a,tE P<|f a):tE P (m.bind f):=by
 intro u T D;let⟨n,v,j⟩:=h u T D;cases b:m.run P ((World.tp u T D))with
 |halt z w=>exact⟨0,u,λx c e=>by rw[Ģ,b]at e;cases e⟩|ok a k=>
  obtain⟨rfl,l⟩:=j a k b;let⟨o,w,p⟩:=i a v T<|D+n;refine⟨n+o,w,λx c e=> ?_⟩;rw[Ģ,b]at e;let⟨q,r⟩:=p x c e;refine⟨by rw[q,c8],λz d g=> ?_⟩;rw[Ģ,l z d g.kl,<-c8];exact r z (d+n) g.aeD
theorem aeF{m a:ă gX}(h:∀u,m.run P u=a.run P u)(b:tE P a):tE P m:=by intro u T D;let⟨n,v,c⟩:=b u T D;exact⟨n,v,λx d e=>by grind⟩
def aeG(q:bk):tE P (Ε q):=by
 intro u T D;cases a:q.forced with
 |true=>exact⟨0,u,λx d e=>by simp only[Ε,Ù,a,if_true]at e;cases e;exact⟨U,λb c _=>by simp only[Ε,Ù,a,if_true];rfl⟩⟩|false=>
  refine⟨1,u,λx d e=> ?_⟩;simp only[Ε,Ù,a,Î,if_false]at e;cases e;refine⟨U,λb c f=> ?_⟩;simp only[Ε,Ù,a,Î,if_false];have g:(World.tp u b c).tape (World.tp u b c).drawn q=T D q:=congrFun f.nG q;rw[g];rfl
def KD(s:String):(MonadExcept.throw s:Except String gX)=aQ s:=rfl
def aeH(a:Õ)(md:Mode):tE P (au a md):=by
 refine B9 λu x f e=> ?_;simp only[au,Ù]at e|-;cases b:u.cell? a with
 |some v=>
  rw[b]at e;cases e;exact⟨U,λc d=>by simp only[show((World.tp u c d)).cell? a=À x from b]⟩
 |none=>
  rw[b]at e;cases v:u.farLoad P a (md==þ)with
  |error z=>simp only[v]at e;cases e
  |ok p=>
   simp only[v]at e;cases e;exact⟨U,λc d=>by simp only[show((World.tp u c d)).cell? a=Ú from b,show((World.tp u c d)).farLoad P a (md==þ)=.ok p from v]⟩
def OM(u:Ç)(a:Õ)(v:Ã)(md:Mode):∀T D,((World.tp u T D)).farStore P a v (md==þ)=(u.farStore P a v<|md==þ).map λp=>((World.tp p.1 T D),p.2):=by
 intro T D;have c:∀b t,((World.tp u T D)).viewStore P b t a v (md==þ)=(u.viewStore P b t a v<|md==þ).map λp=>((World.tp p.1 T D),p.2):=by
  intro b t;unfold aR;have o:((World.tp u T D)).seen P b t a (md==þ)=u.seen P b t a (md==þ):=U;rw[o];simp only[bind,Ζ,pure,Η,KD];cases u.seen P b t a (md==þ)with
  |error e=>simp only[];split<;>rfl|ok r=>
   simp only[];repeat' (first|rfl|split)
 unfold œ;have e:((World.tp u T D)).heap=u.heap:=U;cases r:u.heap[a.block]? with
 |none=>simp only[af,e,r];rfl|some o=>
  cases o<;>first|(simp only[af,e,r];rfl)|skip
  simp only[e,r,c];cases u.viewStore P _ _ a v (md==þ)<;>rfl
def aeI(a:Õ)(v:Ã)(md:Mode):tE P (δ a v md):=by
 by_cases b:Af v=È;intro u T D;cases d:u.cell? a with
 |some y=>
  cases c:u.frozen? a with
  |true=>exact⟨0,u,λx h e=>by simp only[δ]at e;rw[yu b,show((World.tp u T D)).cell? a=À y from d]at e;simp only[show((World.tp u T D)).frozen? a=È from c,if_true]at e;cases e⟩|false=>
   refine⟨0,u.setCell a v,λx h e=> ?_⟩;simp only[δ]at e|-;rw[yu b,show((World.tp u T D)).cell? a=À y from d]at e;simp only[show((World.tp u T D)).frozen? a=Ä from c,Î,if_false]at e;cases e;refine⟨U,λf g i=> ?_⟩;rw[yu b,show((World.tp u f g)).cell? a=À y from d];simp only[show((World.tp u f g)).frozen? a=Ä from c,Î,if_false];rfl
 |none=>
  cases c:u.farStore P a v (md==þ)with
  |error z=>exact⟨0,u,λx h e=>by simp only[δ]at e;rw[yu b,show((World.tp u T D)).cell? a=Ú from d]at e;simp only[OM u a v md T D,c,bC]at e;cases e⟩|ok p=>
   refine⟨0,p.1,λx h e=> ?_⟩;simp only[δ]at e|-;rw[yu b,show((World.tp u T D)).cell? a=Ú from d]at e;simp only[OM u a v md T D,c,bC]at e;cases e;refine⟨U,λf g i=> ?_⟩;rw[yu b,show((World.tp u f g)).cell? a=Ú from d];simp only[OM u a v md f g,c,bC];rfl
 .exact OL λu x h e=>by cases v<;>first|exact absurd U b|cases e
def aeJ(o:Obj):tE P (newObj o):=λu T D=>⟨0,{u with heap:=u.heap.push o},λx a e=>by cases e;exact⟨U,λb c _=>U⟩⟩
def aeK(r:Nat):tE P (bD r):=by
 refine B9 λu x d e=> ?_;simp only[bD,Ù]at e|-;cases a:u.heap[r]? with
 |none=>rw[a]at e;cases e
 |some o=>
  rw[a]at e;cases o<;>first|(cases e;done)|(cases e;exact⟨U,λb c=>by simp only[show((World.tp u b c)).heap[r]?=_ from a]⟩)
def sH(u:Ç):Prop:=∀(i:Nat)(c:Array Ã)(e:Â),u.heap[i]?≠À (š c e)
structure Kd(u u':Ç):Prop where
 r:sH u->sH u'
 C:∀(i:Nat)(o:Obj),u.heap[i]?=À o->Ai o->∃o',u'.heap[i]?=À o'/\Ai o'
theorem Kd.gy(u:Ç):Kd u u:=⟨id,λ_ o h k=>⟨o,h,k⟩⟩
def Kd.fA{a c:Ç}(h:Kd a w)(k:Kd w c):Kd a c:=⟨λx=>k.r<|h.r x,λi o x y=>by let⟨d,e,f⟩:=h.C i o x y;exact k.C i d e f⟩
def GQ:Halt->Bool|.panic _|.stuck _=>È|İ (.initOrder _)=>Ä|İ _=>È|_=>Ä
def qt(P:Ó)(m:ă gX):Prop:=∀u,sH u->(∀x a,m.run P u=Ē x a->Kd u a)/\(∀z a,m.run P u=bl z a->GQ z=È)
def Wm(a:gX):qt P (υ a):=λu _=>⟨λx b h=>by cases h;exact Kd.gy u,λz b h=>by cases h⟩
def GR{z:Halt}(h:GQ z=È):qt P (ZoD z:ă gX):=λu _=>⟨λx a e=>(by cases e),λb a e=>(by cases e;exact h)⟩
def KE{m:ă gX}{f:gX->ă gQ}(h:qt P m)(j:∀a,qt P<|f a):qt P (m.bind f):=by
 intro u d;let⟨g,k⟩:=h u d;refine⟨λx i e=> ?_,λz i e=> ?_⟩<;>rw[Ģ]at e;cases b:m.run P u with
 |ok a c=>
  rw[b]at e;exact(g a c b).fA<|(j a c<|(g a c b).r d).1 x i e|halt z w=>rw[b]at e;cases e
 cases b:m.run P u with
 |ok a c=>
  rw[b]at e;exact(j a c<|(g a c b).r d).2 z i e|halt c w=>rw[b]at e;cases e;exact k _ _ b
def Wn:qt P Zn7:=λu _=>⟨λx a h=>by cases h;exact Kd.gy u,λz a h=>by cases h⟩
theorem aeL(q:bk):qt P (Ε q):=by intro u b;constructor;intro x a e;simp only[Ε,Ù]at e;split at e<;>cases e;exact Kd.gy u;exact⟨id,λi o h k=>⟨o,h,k⟩⟩;intro z a e;simp only[Ε,Ù]at e;grind
def aeM(m:Mark):qt P (mark m):=λu _=>⟨λx a h=>by cases h;exact Kd.gy u,λz a h=>by cases h⟩
def aeN(r:Nat):qt P (bE r):=λu _=>⟨λx a h=>by cases h;exact Kd.gy u,λz a h=>by cases h⟩
def aeO(a:Õ):qt P (frozen a):=λu _=>⟨λx b h=>by cases h;exact Kd.gy u,λz b h=>by cases h⟩
theorem aeP(o:Obj)(h:∀c e,o≠š c e):qt P (newObj o):=by intro u b;refine⟨λx d e=> ?_,λz d e=>by cases e⟩;cases e;refine⟨λ_ i c e a=> ?_,λi f a g=>⟨f,?_,g⟩⟩;simp only[cF]at a;split at a;grind;exact b i c e a;grind
theorem Wo{f:Obj->Obj}(n:∀o,Ai o->Ai (f o))(j:∀o c e,f o=š c e->∃d g,o=š d g):Kd u {u with heap:=u.heap.modify b f}:=by refine⟨λh i c e a=> ?_,λi o a p=> ?_⟩;simp only[fh]at a;split at a;let⟨o,k,l⟩:=è.1 a;let⟨d,g,m⟩:=j o c e l;exact h i d g<|m▸k;exact h i c e a;grind
theorem aeQ(a:Õ)(v:Ã):Kd u (u.setCell a v):=by
 unfold ü;refine Wo (λo b=> ?_) λo c e h=> ?_;cases o<;>first|exact b.elim|trivial
 grind
theorem Wp(b:sH u)(a:Õ)(s:String):GQ (u.noCell a s)=È:=by unfold af;split;rename_i h;exact absurd h<|b _ _ _;rfl;rfl
theorem aeR(a:Õ)(m:Mode):qt P (au a m):=by intro u d;constructor;intro x c e;simp only[au,Ù]at e;grind [Kd.gy];intro z c e;simp only[au,Ù]at e;split at e;cases e;split at e;cases e;rename_i b;cases e;unfold ĺ at b;split at b;split at b<;>cases b;rfl;grind [Wp]
theorem aeS{k:Õ}{r:Array Value×TypeId×(Nat×Nat)×Nat×Value×List (Nat×Nat×List UInt8)}(h:w.seen P a t k yQ=.ok r):∃c e d,w.heap[a.block]?=À (Ā c e d):=by unfold World.seen at h;simp only[bind,Ζ,pure,Η,KD]at h;grind
theorem aeT{k:Õ}{l:List Õ}(h:w.viewStore P a t k v yQ=.ok (u,l)):Kd w u:=by
 have q:∃c e n d f g,w.heap[a.block]?=À (Ā d f g)/\u={w with heap:=w.heap.setIfInBounds a.block (Ā c e n)}:=by
  unfold aR at h;cases i:w.seen P a t k yQ with
  |error e=>
   rw[i]at h;simp only[bind,Ζ,pure,Η,KD]at h;repeat' (first|contradiction|split at h)|ok r=>
   let⟨d,f,g,j⟩:=aeS i;rw[i]at h;simp only[bind,Ζ,pure,Η,KD]at h;repeat' (first|contradiction|split at h)
   all_goals(simp only[Except.ok.injEq,dJ]at h;obtain⟨rfl,_⟩:=h;exact⟨_,_,_,d,f,g,j,U⟩)
 obtain⟨c,e,n,d,f,g,j,rfl⟩:=q;refine⟨λs i x m r=> ?_,λi o r y=> ?_⟩;rw[Ň]at r;split at r;grind;exact s i x m r;by_cases m:a.block=i;subst m;rw[j]at r;cases r;exact y.elim;grind
theorem aeU(a:Õ)(v:Ã)(m:Mode):qt P (δ a v m):=by intro u d;by_cases c:Af v=È;constructor;intro x f e;simp only[δ]at e;rw[yu c]at e;split at e;split at e;cases e;cases e;exact aeQ a v;split at e;rename_i b;cases e;unfold œ at b;grind [aeT];cases e;intro z f e;simp only[δ]at e;rw[yu c]at e;split at e;split at e;cases e;rfl;cases e;split at e;cases e;rename_i b;cases e;unfold œ at b;split at b;split at b<;>cases b;rfl;grind [Wp];cases v<;>first|exact absurd U c|exact GR (P:=P) U u d
def fZ(P:Ó)(m:ă gX):Prop:=qt P m/\tE P m
theorem jL(a:gX):fZ P (pure a):=⟨Wm a,B9 λu x b e=>by cases e;exact⟨U,λ_ _=>U⟩⟩
def OO{z:Halt}(h:GQ z=È):fZ P (ZoD z:ă gX):=⟨GR h,OL λu x a e=>by cases e⟩
theorem jC{m:ă gX}{f:gX->ă gQ}(h:fZ P m)(b:∀a,fZ P<|f a):fZ P (m>>=f):=⟨KE h.1 λa=>(b a).1,aeE h.2 λa=>(b a).2⟩
def Wq{m:ă gX}{f:gX->gQ}(h:fZ P m):fZ P (Functor.map f m):=jC h λ_=>jL _
theorem qd(s:String):fZ P (stuck s:ă gX):=OO U
def aeV(v:Ã):fZ P (goPanic v:ă gX):=OO U
theorem Wr:fZ P Zn7:=⟨Wn,B9 λu x a e=>by cases e;exact⟨U,λ_ _=>U⟩⟩
theorem OP(q:bk):fZ P (Ε q):=⟨aeL q,aeG q⟩
def OQ(m:Mark):fZ P (mark m):=⟨aeM m,B9 λu x a e=>by cases e;exact⟨U,λ_ _=>U⟩⟩
theorem GU(r:Nat):fZ P (bE r):=⟨aeN r,B9 λu x a e=>by cases e;exact⟨U,λ_ _=>U⟩⟩
theorem Ws(a:Õ):fZ P (frozen a):=⟨aeO a,B9 λu x b e=>by cases e;exact⟨U,λ_ _=>U⟩⟩
def KF(o:Obj)(h:∀c e,o≠š c e):fZ P (newObj o):=⟨aeP o h,aeJ o⟩
def KG(a:Õ)(m:Mode):fZ P (au a m):=⟨aeR a m,aeH a m⟩
def Wt(a:Õ)(v:Ã)(m:Mode):fZ P (δ a v m):=⟨aeU a v m,aeI a v m⟩
theorem KH{m m':ă gX}(h:∀u,m.run P u=m'.run P u)(a:fZ P m'):fZ P m:=⟨λu b=>by have:=a.1 u b;rwa[<-h u]at this,aeF h a.2⟩
section
def aeW(u:aH)(h:GQ (İ u)=È):fZ P (unsupported u:ă gX):=OO h
attribute [simp] jL qd aeV Wr OP OQ GU Ws KG Wt
def nz{p:Prop}(h:p:=by repeat' (first|(with_reducible first|refine jC ?_ (λ_=> ?_)|refine Wq ?_|refine aeW _ ?_)|contradiction|split|rfl|(simp;done)|(intro _ _ h;cases h;done)|simp only[]|(rename_i b;cases b<;>simp only[Bool.false_eq_true,if_false,if_true,Bool.not_true,Bool.not_false]))):p:=h
@[simp]def aeX (e:Â) (c:Array Ã):fZ P (newRow e c):=by
 unfold newRow
 exact jC (KF _<|by intro _ _ h;cases h) λ_=>jL _
@[simp]def auN (t:Â) (v:Ã):fZ P (newVar t v):=aeX _ _
@[simp]def auO (t:Â):fZ P (Ŭ t):=by
 unfold Ŭ
 exact nz
@[simp] theorem Wu (t:Â):fZ P (ð t):=by
 unfold ð
 exact nz
@[simp]def auP (t:Â):fZ P (ŗ t):=by
 unfold ŗ
 exact nz
@[simp]def aeY (e:ű):fZ P (runtimePanic e:ă gX):=by
 unfold runtimePanic
 exact nz
@[simp]def auQ (k:ñ) (x y:Int) (c:η):fZ P (boundsPanic k x y c:ă gX):=by
 unfold boundsPanic
 simp only[]
 exact nz
def aeZ(r:Nat):qt P (bD r):=by
 intro u b;constructor;intro x a e;simp only[bD,Ù]at e;split at e<;>first|(cases e;done)|(cases e;exact Kd.gy u)
 intro z a e;simp only[bD,Ù]at e;split at e<;>first|(cases e;done)|(cases e;rfl)
@[simp] theorem ae0 (r:Nat):fZ P (bD r):=⟨aeZ r,aeK r⟩
@[simp]def auR (t:Â):fZ P (Ν t):=by
 unfold Ν
 exact nz
@[simp]def ae1 (t:Â):fZ P (θ t):=by
 unfold θ
 exact nz
@[simp]def auS (t:Â):fZ P (isAgg t):=by
 unfold isAgg
 exact nz
@[simp]def Wv (a:Õ):∀(n i:Nat)(b:Array Ã),fZ P<|Ļ a i n b
 |0,i,b=>jL _
 |n+1,i,b=>by
  unfold Ļ
  exact jC (KG _ _) λ_=>Wv a n _ _
@[simp]def ae2 (a:Õ) (n:Nat):fZ P (Zn2 a n):=Wv a n _ _
@[simp]def ae3 (a:Õ):∀(b:List Ã)(i:Nat),fZ P<|Ų a b i
 |[],i=>jL _
 |v::b,i=>by
  unfold Ų
  exact jC (Wt _ _ _) λ_=>ae3 a b _
@[simp] theorem ae4 (t:Â) (a:Õ):fZ P (Ξ t a):=by
 unfold Ξ
 exact nz
@[simp]def auT (t:Â) (a:Õ) (v:Ã):fZ P (φ t a v):=by
 unfold φ
 exact nz
@[simp]def auU (t:Â) (c:Array Ã) (o:Nat):fZ P (part t c o):=by
 unfold part
 exact nz
@[simp]def auV (v:Ã):fZ P (Ŕ v):=by
 unfold Ŕ
 exact nz
@[simp]def auW (v:Ã):fZ P (Zn8 v):=by
 unfold Zn8
 exact nz
@[simp]def Ww (v:Ã):fZ P (Zoj v):=by
 unfold Zoj
 exact nz
@[simp]def ae5 (v:Ã):fZ P (bq v):=by
 unfold bq
 exact nz
@[simp]def auX (v:Ã):fZ P (asAgg v):=by
 unfold asAgg
 exact nz
@[simp] theorem ae6 (v:Ã):fZ P (br v):=by
 unfold br
 exact nz
@[simp]def ae7 (t:Â) (b:Bool) (v:Ã):fZ P (ř t b v):=by
 unfold ř
 exact nz
@[simp]def ae8 (t:Â) (v:Ã):fZ P (Ο t v):=by
 unfold Ο
 exact nz
@[simp]def ae9 (t:Â) (v:Ã):fZ P (Ō t v):=by
 unfold Ō
 exact nz
@[simp]def afa (t:Â) (a v:Ã):fZ P (ġ t a v):=by
 unfold ġ
 exact nz
@[simp]def afb (v:Ã) (n:Nat):fZ P (ļ v n):=by
 unfold ļ
 exact nz
@[simp]def afc (t:Â) (v:Ã) (n:Nat):fZ P (Ś t v n):=by
 unfold Ś
 exact nz
def Wx(f:gX->ă gQ)(a:∀x,fZ P<|f x):∀l:List gX,fZ P<|l.mapM f|[]=>by rw[ZnV];exact jL _|x::l=>by rw[Β];exact jC (a x) λ_=>jC (Wx f a l) λ_=>jL _
theorem Wy(f:gX->ă gQ)(a:∀x,fZ P<|f x)(l:Array gX):fZ P (l.mapM f):=by rw[Ą];exact Wq<|Wx f a _
@[simp]def afd (l:Array Field):fZ P (l.mapM λf=>do pure (f.offset,<-θ f.type)):=Wy _ (λ_=>jC (ae1 _) λ_=>jL _) l
@[simp]def auY (r:Nat):fZ P (Zob r):=by
 unfold Zob
 exact nz
@[simp]def auZ (r:Nat):fZ P (bz r):=by
 unfold bz
 exact nz
@[simp]def au0 (a:Õ):fZ P (ax a):=by
 unfold ax
 exact nz
@[simp]def au1 (a:Õ):fZ P (Zoc a):=by
 unfold Zoc
 exact nz
@[simp]def au2 (a:Õ):fZ P (ě a):=by
 unfold ě
 exact nz
@[simp]def au3 (a:Õ) (x y:Nat):fZ P (partAt a x y):=by
 unfold partAt
 exact nz
@[simp]def au4 (a:Õ) (f:Field):fZ P (bu a f):=by
 unfold bu
 exact nz
@[simp]def afe (s:Â) (v:Ã) (n:Nat):fZ P (Ľ s v n):=by
 unfold Ľ
 exact nz
@[simp]def aff (t:Â) (x i:Ã):fZ P (ľ t x i):=by
 unfold ľ
 exact nz
@[simp]def au5 (x:Ã) (y:Nat) (c:η):fZ P (ę x y c):=by
 unfold ę
 exact nz
@[simp]def au6 (b:Bool) (l c:Nat) (x y z:Option Ã):fZ P (ĕ b l c x y z):=by
 unfold ĕ
 exact nz
@[simp]def au7 (t:Â) (v:Ã) (x y z:Option Ã):fZ P (ś t v x y z):=by
 unfold ś
 exact nz
@[simp]def afg (t:Â) (v:Ã) (x y z:Option Ã):fZ P (Ŀ t v x y z):=by
 unfold Ŀ
 exact nz
@[simp]def afh (t:Â) (x i:Ã):fZ P (Ŝ t x i):=by
 unfold Ŝ
 exact nz
@[simp]def au8 (o:ď) (k:ñ) (x y:Int):fZ P (Zol o k x y):=by
 unfold Zol
 exact nz
@[simp]def au9 (o:ď) (k:ñ) (x y:Int):fZ P (Zoy o k x y):=by
 unfold Zoy
 exact nz
@[simp]def afi (o:UnOp) (v:Ã):fZ P (bx o v):=by
 unfold bx
 exact nz
@[simp]def afj (t:Â) (a:Array (Nat×Value)):fZ P (ŝ t a):=by
 unfold ŝ
 repeat' (first|(with_reducible first|exact afd _|refine jC ?_ λ_=> ?_)|split|exact nz)
@[simp]def afk (t:Â) (n:Nat) (a:Array (Nat×Value)):fZ P (Ě t n a):=by
 unfold Ě
 exact nz
@[simp]def ava (n:Nat):fZ P (aY n):=by
 unfold aY
 exact nz
@[simp]def afl (t:Â) (x y:Ã):fZ P (Ħ t x y):=by
 unfold Ħ
 exact nz
@[simp]def avb (v:Ã):fZ P (Ũ v):=by
 unfold Ũ
 exact nz
@[simp]def avc (s n:Nat) (v:Ã):fZ P (ī s n v):=by
 unfold ī
 exact nz
@[simp]def avd (a:Õ) (n:Nat):fZ P (ν a n):=by
 unfold ν
 exact nz
@[simp]def ave (s l n:Nat) (b:Option Õ) (v:Ã):fZ P (az s l n b v):=by
 unfold az
 exact nz
@[simp]def afm (a:Array Â) (t:Â) (x:Array Ã):fZ P (ō a t x):=by
 unfold ō
 exact nz
@[simp]def afn (a:Array Â) (t:Â) (x:Array Ã):fZ P (Ŏ a t x):=by
 unfold Ŏ
 exact nz
@[simp]def afo (a:Array Â) (t:Â) (x:Array Ã):fZ P (ŀ a t x):=by
 unfold ŀ
 exact nz
@[simp]def afp (a:Array Â) (t:Â) (x:Array Ã):fZ P (ĥ a t x):=by
 unfold ĥ
 exact nz
end
@[simp] theorem afq (o:ď) (k:Ğ) (x y:Nat):fZ P (ZnW o k x y):=by
 unfold ZnW
 exact nz
@[simp] theorem avf (o:ď) (k:Ğ) (x y:Nat):fZ P (Zom o k x y):=by
 unfold Zom
 grind [jL,qd]
@[simp] theorem avg (s:Ğ) (b:Nat) (d:Ğ):fZ P (ag s b d):=by
 unfold ag
 grind [jL,OP,jC]
@[simp] theorem avh (s:Ğ) (b:Nat) (d:ñ):fZ P (aS s b d):=by
 unfold aS
 grind [jL,OP,jC]
@[simp] theorem avi (o:ď) (k:Ğ) (x y:Nat):fZ P (aA o k x y):=by
 unfold aA
 grind [jL,qd,afq,jC]
@[simp]def avj (o:ď) (k:Ğ) (x y:Nat):fZ P (bF o k x y):=by
 unfold bF
 exact nz
@[simp]def avk (s:Ğ) (b:Nat) (d:Ğ):fZ P (aT s b d):=by
 unfold aT
 exact nz
@[simp]def avl (x y:Nat):fZ P (bG x y):=by
 unfold bG
 exact nz
@[simp]def avm (x y:Nat):fZ P (bH x y):=by
 unfold bH
 exact nz
@[simp]def avn (x y:Nat):fZ P (bI x y):=by
 unfold bI
 exact nz
@[simp]def avo (x y:Nat):fZ P (bK x y):=by
 unfold bK
 exact nz
@[simp]def avp (a b c d:Nat):fZ P (ξ a b c d):=by
 unfold ξ
 exact nz
@[simp]def avq (s a b c d:Nat):fZ P (Θ s a b c d):=by
 unfold Θ
 exact nz
@[simp]def avr (a b c d:Nat):fZ P (Υ a b c d):=by
 unfold Υ
 exact nz
@[simp]def avs (o:ď) (k:Ğ) (a b c d:Nat):fZ P (Zod o k a b c d):=by
 unfold Zod
 exact nz
@[simp]def avt (o:ď) (k:ñ) (x y:Int):fZ P (Ρ o k x y):=by
 unfold Ρ
 exact nz
@[simp]def avu (o:ď) (x y:Int):fZ P (Op.intCmp o x y):=by
 unfold Op.intCmp
 exact nz
@[simp]def avv (o:ď) (k:ñ) (x:Int) (a:ñ) (y:Int):fZ P (χ o k x a y):=by
 unfold χ
 exact nz
@[simp]def avw (o:ď) (x y:ByteArray):fZ P (aI o x y):=by
 unfold aI
 exact nz
@[simp]def avx (a b:Õ):fZ P (ŏ a b):=by
 unfold ŏ
 exact nz
@[simp]def avy (k:ñ) (a b:Õ):fZ P (Ŵ k a b):=by
 unfold Ŵ
 exact nz
@[simp]def avz (o:ď) (a b:Õ):fZ P (ŵ o a b):=by
 unfold ŵ
 exact nz
@[simp]def avA (k:ñ) (a:Õ) (n:Int):fZ P (Ŷ k a n):=by
 unfold Ŷ
 exact nz
@[simp]def avB (a:Array Â) (t:Â) (x y:Ã):fZ P (ç a t #[x,y]):=by
 unfold ç
 cases x<;>first|exact qd _|skip
 refine jC (Ww y) λn=> ?_
 exact nz
@[simp]def avC (a:Õ) (b:Bool):fZ P (bA a b):=by
 unfold bA
 repeat' (first|(with_reducible first|refine KF _ ?_|refine jC ?_ λ_=> ?_)|split|exact nz)
@[simp]def avD (t:Â) (x y:Ã):fZ P (ł t x y):=by
 unfold ł
 exact nz
@[simp]def avE (t:Â) (x y:Ã):fZ P (Ő t x y):=by
 unfold Ő
 exact nz
theorem yy{d:Zon}(h:P.underlying t=À d){f:Zon->ă gX}(a:fZ P (f d)):fZ P (ð t>>=f):=by
 have e:∀u,(ð t).run P u=Ē d u:=by intro u;unfold ð;simp_all
 grind [KH,Æ,É]
def Wz(t:Â)(x y:Ã)(a:vv P t\/((∃e,P.underlying t=À (æ e))/\(oS x\/oS y))):fZ P (ë t x y):=by unfold ë ô ų;obtain(h|⟨k,h⟩|h)|⟨⟨e,h⟩,k⟩:=a<;>apply yy h;exact nz;exact nz;exact nz;repeat' (first|(with_reducible first|refine jC ?_ λ_=> ?_)|exact(Or.elim k id id:False).elim|split|exact nz)
def afr(t:Â)(a:GG P t)(x y:Ã):fZ P (Ĝ ô t x y):=by unfold ô Ĝ;obtain(h|⟨k,h⟩|h)|⟨e,h⟩:=a<;>refine yy h ?_<;>(cases x<;>cases y<;>exact jL _)
theorem WA(c:ď)(t:Â)(d:c=κ\/c=ψ->GG P t)(x y:Ô)(a b:Ã):fZ P (Š c t x y a b):=by
 unfold Š;by_cases e:c=κ\/c=ψ
 .have f:=d e;obtain rfl|rfl:=e;all_goals
   repeat' (first|(with_reducible first|exact afr _ f _ _|refine jC ?_ λ_=> ?_)|split|exact nz)
 grind [jL]
@[simp] theorem avF (k:ñ) (n:Int):fZ P (ZnX k n):=by
 unfold ZnX
 grind [jL]
@[simp] theorem afs (n:Int):fZ P (aB n):=by
 unfold aB
 grind [jL]
def aft(a:ď)(t:Â)(x y:Ã)(h:a=κ\/a=ψ->(vv P t\/((∃e,P.underlying t=À (æ e))/\(oS x\/oS y)))):fZ P (ŕ a t x y):=by unfold ŕ;repeat' (first|(with_reducible first|exact Wz _ _ _ (h<|Á U)|exact Wz _ _ _ (h<|Å U)|refine jC ?_ λ_=> ?_)|split|exact nz)
def afu(s d:Â)(x:Ã)(h:(∃k a,P.underlying s=À (ũ k)/\P.underlying d=À (ũ a))\/(P.underlying s=À ċ/\P.underlying d=À ċ)):fZ P (Ł s d x):=by unfold Ł;obtain⟨k,a,b,c⟩|⟨b,c⟩:=h<;>refine yy b<|yy c ?_;exact nz;exact nz
@[simp]def afv:∀(l:List FieldStep)(t:Â)(x:Option Ã),fZ P<|aJ l t x
 |[],t,x=>by unfold aJ;exact jL _
 |s::l,t,x=>by
  unfold aJ
  repeat' (first|(with_reducible first|exact afv l _ _|refine jC ?_ λ_=> ?_)|split|exact nz)
@[simp]def afw:∀(n:Nat)(t:Â)(v:Ã)(s:String),fZ P<|ah n t v s
 |0,t,v,s=>by unfold ah;exact jL _
 |n+1,t,v,s=>by
  unfold ah
  repeat' (first|(with_reducible first|exact afw n _ _ _|refine jC ?_ λ_=> ?_)|split|exact nz)
def nH{m:ă Ã}(h:fZ P m):fZ P (m>>=λv=>pure<|ä v):=jC h λ_=>jL _
theorem afx(f:Û)(b:∃a,P.funcs[f]?=À a/\(a.name== "runtime.NumGoroutine")=Ä/\a.body.isNone=Ä)(c:Array Ã):fZ P (ģ f c):=by let⟨a,d,e,g⟩:=b;refine KH (m':=pure<|Ŗ f c) (λu=> ?_)<|jL _;rw[ģ,Æ,õ];grind [É,Î]
def afy(j:lz P xX o.op):fZ P (ã xX o):=by
 let⟨k,g,m,p,u,guard⟩:=o;simp only at j;simp only[ã,];cases j with
 |Aj x|GH x=>exact jL _|yx c a b=>exact jC (ae5 _) λ_=>jL _|gO t=>exact nH<|ae7 _ _ _|KB t x=>exact nH<|ae8 _ _|Oz t b=>exact nH<|afj _ _|OA t n b=>exact nH<|afk _ _ _|ij t a=>exact nH<|ae9 _ _|jN t a x=>exact jC (afa _ _ _) λ_=>jL _|GI x=>
  simp only[];exact nz|Er g t x y r h=>exact nH<|jC (WA g t (λe=>(h e).imp id λq=>q.1) x y _ _) λ_=>aft g t _ _ h|OB g t x=>exact nH<|afi _ _|OC s d x h=>exact nH<|afu s d _ h|OD t l c=>exact nH<|afl _ _ _|kZ t x b a c=>exact nH<|afg _ _ _ _ _|OE s x n h=>exact nH<|afe _ _ _|OG t x n=>exact nH<|afc _ _ _|OH t x i=>exact nH<|aff _ _ _|OI t x i=>exact nH<|afh _ _ _|Gu x n=>exact nH<|afb _ _|GJ x a=>
  simp only[ć,Ę,ħ,pure_bind,eJ,dR,dG];exact nH<|afm _ _ _|GK x a=>
  simp only[ć,Ę,ħ,pure_bind,eJ,dR,dG];exact nH<|afn _ _ _|GM x y a=>
  simp only[ć,Ę,ħ,pure_bind,eJ,dR,dG];exact nH<|afo _ _ _|GN x y b c h=>
  simp only[ć,Ę,ħ,pure_bind,eJ,dR,dG];exact nH<|afp _ _ _|iA f c a b h=>
  simp only[ć,b,ĝ,Ę,pure_bind,cA,dK];exact afx f h _
def fm(f:Û)(t:Array Ã)(k:List ŉ):Ċ:=(base f).at ⟨t,[]⟩ k
structure St where
 f:Û
 t:Array Ã
 k:List ŉ
 r:Bool
 L:List (FuncId×Array Value×List ŉ)
def St.nY(s:St)(cs:List Ċ):Ì:=G (if s.r then{fm s.f s.t s.k with mode:=.returning}else fm s.f s.t s.k)<|s.L.map (λx=>fm x.1 x.2.1 x.2.2)++cs
def qZ(t:Array Ã)(d:Option Tmp)(v:Ã):Array Ã:=(Act.put ⟨t,[]⟩ d v).tmps
def uC(t:Array Ã)(d:Option Tmp)(v:Ã):Act.put ⟨t,[]⟩ d v=⟨qZ t d v,[]⟩:=by cases d<;>rfl
inductive LS(P:Ó):St->Ç->St->Ç->Prop|qY {f t L u:_}:LS P ⟨f,t,[],Ä,L⟩ u ⟨f,t,[],È,L⟩ u|qe {f t k L u:_}:LS P ⟨f,t,ā .ret::k,Ä,L⟩ u ⟨f,t,ā .ret::k,È,L⟩ u|vw {f t k L u:_}:LS P ⟨f,t,ā .skip::k,Ä,L⟩ u ⟨f,t,k,Ä,L⟩ u|Ak {f t k L u l:_}:LS P ⟨f,t,ā (Zoz l)::k,Ä,L⟩ u ⟨f,t,k,Ä,L⟩ u|Ca {f t k L u id:_}:LS P ⟨f,t,Zoo id::k,Ä,L⟩ u ⟨f,t,k,Ä,L⟩ u|yz {f t k L u c:_}:LS P ⟨f,t,Zop c::k,Ä,L⟩ u ⟨f,t,k,Ä,L⟩ u|uD {f t k L u x y:_}:LS P ⟨f,t,ā (.seq x y)::k,Ä,L⟩ u ⟨f,t,ā x::ā y::k,Ä,L⟩ u|vx {f t k L u c x y b:_} (h:Ü ⟨t,[]⟩ c=Ĭ b):LS P ⟨f,t,ā (aK c x y)::k,Ä,L⟩ u ⟨f,t,ā (if b then x else y)::k,Ä,L⟩ u|uE {f t k L u id c:_}:LS P ⟨f,t,ā (ZoA id c)::k,Ä,L⟩ u ⟨f,t,ā c::Zoo id::k,Ä,L⟩ u|Al {f t k L u c:_}:LS P ⟨f,t,ā (.loop c)::k,Ä,L⟩ u ⟨f,t,ā c::Zoe c::k,Ä,L⟩ u|Am {f t k L u c:_}:LS P ⟨f,t,Zoe c::k,Ä,L⟩ u ⟨f,t,ā c::Zoe c::k,Ä,L⟩ u|An {f t k L u c:_}:LS P ⟨f,t,ā (ZoB c)::k,Ä,L⟩ u ⟨f,t,ā c::Zop c::k,Ä,L⟩ u|yA {f t k L u id k':_} (h:ZnJ id k=À k'):LS P ⟨f,t,ā (.exit id)::k,Ä,L⟩ u ⟨f,t,k',Ä,L⟩ u|yB {f t k L u l k':_} (h:ZnK l k=À k'):LS P ⟨f,t,ā (.goto l)::k,Ä,L⟩ u ⟨f,t,k',Ä,L⟩ u|vy {f t k L u id ops:_}:LS P ⟨f,t,ā (aZ id ops Ä)::k,Ä,L⟩ u ⟨f,t,Ø ops (List.range ops.size)::k,Ä,L⟩ u|Cb {f t k L u id ops:_}:LS P ⟨f,t,ā (aZ id ops È)::k,Ä,L⟩ u ⟨f,t,Ø ops (aU (P.follows .mixedOrders) ops<|u.tape u.drawn<|.order f id)::k,Ä,L⟩ {u with drawn:=u.drawn+1}|GV {f t k L u ops:_}:LS P ⟨f,t,Ø ops []::k,Ä,L⟩ u ⟨f,t,k,Ä,L⟩ u|Es {f t k L u ops i rest o:_} (ho:ops[i]?=À o) (hw:ē o (Ĳ ops t)=Ä):LS P ⟨f,t,Ø ops (i::rest)::k,Ä,L⟩ u ⟨f,qZ t o.dst ĭ,Ø ops rest::k,Ä,L⟩ u|qc {f t k L u ops i rest o v u':_} (ho:ops[i]?=À o) (hw:ē o (Ĳ ops t)=È) (hr:(ã (Ü ⟨t,[]⟩) o).run P u=Ē (ä v) u'):LS P ⟨f,t,Ø ops (i::rest)::k,Ä,L⟩ u ⟨f,qZ t o.dst v,Ø ops rest::k,Ä,L⟩ u'|Cc {f t k L u ops i rest o u':_} (ho:ops[i]?=À o) (hw:ē o (Ĳ ops t)=È) (hr:(ã (Ü ⟨t,[]⟩) o).run P u=Ē ς u'):LS P ⟨f,t,Ø ops (i::rest)::k,Ä,L⟩ u ⟨f,qZ t o.dst ĭ,Ø ops rest::k,Ä,L⟩ u'|uB {f t k L u ops i rest o g args fn c u':_} (ho:ops[i]?=À o) (hw:ē o (Ĳ ops t)=È) (hr:(ã (Ü ⟨t,[]⟩) o).run P u=Ē (Ŗ g args) u') (hf:P.funcs[g]?=À fn) (hb:fn.body=À c):LS P ⟨f,t,Ø ops (i::rest)::k,Ä,L⟩ u ⟨g,args++Ĩ (fn.ntmps-args.size) ĭ,[ā c],Ä,(f,t,Ø ops (i::rest)::k)::L⟩ u'|Et {f t k L u ops i rest:_} (ho:(ops:Array Α)[(i:Nat)]?=Ú):LS P ⟨f,t,Ø ops (i::rest)::k,Ä,L⟩ u ⟨f,t,Ø ops rest::k,Ä,L⟩ u|yC {f t k L u g t' ops i rest k' v fn u':_} (hf:P.funcs[f]?=À fn) (hr:(Ė fn t).run P u=Ē v u'):LS P ⟨f,t,k,È,(g,t',Ø ops (i::rest)::k')::L⟩ u ⟨g,qZ t' ((ops[i]?).bind (·.dst)) v,Ø ops rest::k',Ä,L⟩ u'
inductive nZ(GL:Nat->Prop):Ô->Prop|WB (t:Tmp):nZ GL (.tmp t)|WC {v:Ã} (h:kS v):nZ GL (.const v)|WE {g:Nat} (h:GL g):nZ GL (.global g)|WG (f:Û):nZ GL (.func f)
structure oB(P:Ó)(GL:Nat->Prop)(fu:Û->Prop)(o:Α):Prop where
 oC:∀{Y:fL} {Sh:Nat->Prop} {t t':Array Ã} {u w:Ç},pH P->Y.gA=P.globals.size->(∀g,GL g->Y g g)->gD Y t t'->jI Y Sh u w->(∀j,Sh j->j<w.heap.size)->∀{x:ŷ} {u':Ç},(ã (Ü ⟨t,[]⟩) o).run P u=Ē x u'->Eo u u'->
  ∃(Y':fL)(x':ŷ)(w':Ç)(WH:Array ê),Y.r Y'/\(∀i j,Y' i j->Y i j\/(u.heap.size<=i/\w.heap.size<=j))/\(ã (Ü ⟨t',[]⟩) o).runT P w #[]=(Ē x' w',#[]++WH)/\rK Y' x x'/\jI Y' Sh u' w'/\pG Y Sh w w'/\(∀e∈WH,B4 Y' Sh e)/\u.heap.size<=u'.heap.size
 r:∀a:aP,fZ P<|ã a.eval o
 I:∀(a:aP)(u:Ç)(n:ŷ)(u':Ç),(ã a.eval o).run P u=Ē n u'->(∃v,n=ä v)\/n=ς\/∃f c,n=Ŗ f c
 C:∀(a:aP)(u:Ç)(f:Û)(c:Array Ã)(u':Ç),(ã a.eval o).run P u=Ē (Ŗ f c) u'->fu f
inductive lW(P:Ó)(GL:Nat->Prop)(fu:Û->Prop):Ω->Prop|qe:lW P GL fu .ret|vw:lW P GL fu .skip|Ak (l:Nat):lW P GL fu (Zoz l)|yA (id:Nat):lW P GL fu (.exit id)|yB (l:Nat):lW P GL fu (.goto l)|uD {x y:Ω} (hx:lW P GL fu x) (hy:lW P GL fu y):lW P GL fu (.seq x y)|vx {c:Ô} {x y:Ω} (hc:nZ GL c) (hx:lW P GL fu x) (hy:lW P GL fu y):lW P GL fu (aK c x y)|uE (id:Nat) {c:Ω} (h:lW P GL fu c):lW P GL fu (ZoA id c)|Al {c:Ω} (h:lW P GL fu c):lW P GL fu (.loop c)|An {c:Ω} (h:lW P GL fu c):lW P GL fu (ZoB c)|vy (id:Nat) {ops:Array Α} (draw:Bool) (h:∀o∈ops,oB P GL fu o):lW P GL fu (aZ id ops draw)|pI (WI:String):lW P GL fu (Zog WI)
inductive Cd(P:Ó)(GL:Nat->Prop)(fu:Û->Prop):ŉ->Prop|tF {c:Ω} (h:lW P GL fu c):Cd P GL fu (ā c)|Ca (id:Nat):Cd P GL fu (Zoo id)|yz {c:Ω} (h:lW P GL fu c):Cd P GL fu (Zop c)|Am {c:Ω} (h:lW P GL fu c):Cd P GL fu (Zoe c)|Ce {ops:Array Α} (is:List Nat) (h:∀o∈ops,oB P GL fu o):Cd P GL fu (Ø ops is)
def uF(P:Ó)(a:Nat->Prop)(b:Û->Prop)(k:List ŉ):Prop:=∀i∈k,Cd P a b i
structure lA(P:Ó)(GL:Nat->Prop)(fu:Û->Prop)(s:St):Prop where
 fV:uF P GL fu s.k
 fM:∀x∈s.L,uF P GL fu x.2.2
def re(P:Ó)(d:Nat->Prop)(a:Û->Prop):Prop:=∀f,a f->∀b c,P.funcs[f]?=À b->b.body=À c->lW P d a c
section
variable{GL:Nat->Prop}{fu:Û->Prop}
def afz{a:Ω}(h:lW P GL fu wX):aC wX i=À a->lW P GL fu a:=by
 induction h generalizing a with
 |uD j b d f=>
  intro e;simp only[aC]at e;split at e;rename_i r g;cases e;exact .uD (d g) b;exact f e
 |Ak k=>
  intro e;simp only[aC]at e;split at e<;>cases e;exact .vw
 |_=>intro e;simp only[aC]at e;cases e
def afA{id:Nat}:∀{k a:List ŉ},uF P GL fu k->ZnJ id k=À a->uF P GL fu a:=by
 intro k
 induction k with
 |nil=>intro a _ e;simp[ZnJ]at e|cons i k c=>
  intro a h e;have b:=λj d=>h j<|fi _ d;cases i with
  |inBlock f=>
   simp only[ZnJ]at e;split at e;cases e;exact b;exact c b e
  |_=>simp only[ZnJ]at e;exact c b e
def afB:∀{k c:List ŉ},uF P GL fu k->ZnK i k=À c->uF P GL fu c:=by
 intro k
 induction k with
 |nil=>intro c _ e;simp[ZnK]at e|cons a k f=>
  intro c h e;have d:=λj b=>h j<|fi _ b;cases a with
  |inScope m=>
   simp only[ZnK]at e;have g:lW P GL fu m:=by cases h _ (eZ ..)with|yz h=>exact h
   split at e;rename_i r n;cases e;intro j b;obtain rfl|b:=eK.1 b;exact .tF (afz g n);obtain rfl|b:=eK.1 b;exact .yz g;exact d j b;exact f d e
  |_=>simp only[ZnK]at e;exact f d e
def sI{i:ŉ}(h:uF P GL fu (i::L)):uF P GL fu L:=λj a=>h j<|fi _ a
def rM{i:ŉ}(b:Cd P GL fu i)(h:uF P GL fu L):uF P GL fu (i::L):=λj a=>by obtain rfl|a:=eK.1 a;exact b;exact h j a
def Ao{c:Ω}{k:List ŉ}(h:uF P GL fu (ā c::k)):lW P GL fu c:=by cases h _ (eZ ..)with|tF h=>exact h
def uG{ops:Array Α}{k:List ŉ}(h:uF P GL fu (Ø ops jJ::k)):∀o∈ops,oB P GL fu o:=by cases h _ (eZ ..)with|Ce _ h=>exact h
def LS.ok(i:re P GL fu)(k:∀o a u f l w,oB P GL fu o->(ã (Ü a) o).run P u=Ē (Ŗ f l) w->fu f){s g:St}(h:LS P s u g w)(ok:lA P GL fu s):lA P GL fu g:=by
 let⟨c,d⟩:=ok;cases h with
 |qY|qe=>exact⟨c,d⟩|vw|Ak|Ca|yz=>exact⟨sI c,d⟩|uD=>
  cases Ao c with|uD e j=>exact⟨rM (.tF e)<|rM (.tF j)<|sI c,d⟩
 |@vx _ _ _ _ _ _ _ _ b _=>
  cases Ao c with|vx _ e j=>exact⟨rM (.tF (by cases b<;>simp[e,j]))<|sI c,d⟩
 |uE=>
  cases Ao c with|uE _ h=>exact⟨rM (.tF h)<|rM (.Ca _)<|sI c,d⟩
 |Al=>
  cases Ao c with|Al h=>exact⟨rM (.tF h)<|rM (.Am h)<|sI c,d⟩
 |Am=>
  cases c _ (eZ ..)with|Am h=>exact⟨rM (.tF h) c,d⟩
 |An=>
  cases Ao c with|An h=>exact⟨rM (.tF h)<|rM (.yz h)<|sI c,d⟩
 |yA h=>exact⟨afA (sI c) h,d⟩|yB h=>exact⟨afB (sI c) h,d⟩|vy=>
  cases Ao c with|vy _ _ h=>exact⟨rM (.Ce _ h)<|sI c,d⟩
 |Cb=>
  cases Ao c with|vy _ _ h=>exact⟨rM (.Ce _ h)<|sI c,d⟩
 |GV=>exact⟨sI c,d⟩|Es|qc|Cc=>exact⟨rM (.Ce _ (uG c))<|sI c,d⟩|uB m _ n p q=>
  refine⟨λj r=> ?_,λx e=> ?_⟩;have:=eY.1 r;rw[this];exact .tF (i _ (k _ _ _ _ _ _ (uG c _<|fg m) n) _ _ p q);obtain rfl|e:=eK.1 e;exact c;exact d x e|Et=>exact⟨rM (.Ce _ (uG c))<|sI c,d⟩|yC=>
  have j:=d _<|eZ ..;exact⟨rM (.Ce _ (uG j))<|sI j,λx e=>d x<|fi _ e⟩
end
structure KI(Y:fL)(x y:FuncId×Array Value×List ŉ):Prop where
 f:x.1=y.1
 t:gD Y x.2.1 y.2.1
 k:x.2.2=y.2.2
inductive Eu(Y:fL):List (FuncId×Array Value×List ŉ)->List (FuncId×Array Value×List ŉ)->Prop|qY:Eu Y [] []|yv {x y:FuncId×Array Value×List ŉ} {L L':List (FuncId×Array Value×List ŉ)} (h:KI Y x y) (hs:Eu Y L L'):Eu Y (x::L) (y::L')
structure KJ(Y:fL)(s s':St):Prop where
 f:s.f=s'.f
 t:gD Y s.t s'.t
 k:s.k=s'.k
 qe:s.r=s'.r
 L:Eu Y s.L s'.L
def KI.fG{Y a:fL}(h:Y.r a){x y:FuncId×Array Value×List ŉ}(r:KI Y x y):KI a x y:=⟨r.f,r.t.fG h,r.k⟩
def KL{Y b:fL}(h:Y.r b){L c:List (FuncId×Array Value×List ŉ)}(r:Eu Y L c):Eu b L c:=by
 induction r with|qY=>exact .qY|yv a _ d=>exact .yv (a.fG h) d
section
variable{Y:fL}{j:Nat->Prop}
def afC(a:∀g,X g->Y g g)(h:nZ X qQ):Wi Y qQ:=by
 cases h with|WB t=>trivial|WC h=>exact h.kv Y|WE h=>exact a _ h|WG f=>trivial
def yD(b:∀g,X g->Y g g)(h:gD Y d q)(c:nZ X qQ):fI Y (Ü ⟨d,[]⟩ qQ) (Ü ⟨q,[]⟩ qQ):=aeA (a:=⟨d,[]⟩) (a':=⟨q,[]⟩) h<|afC b c
def qZ.r{b:Array Ã}(h:gD Y q b)(d:Option Tmp)(c:fI Y v x):gD Y (qZ q d v) (qZ b d x):=aeC (a:=⟨q,[]⟩) (a':=⟨b,[]⟩) h d c
def WJ(n:Nat):gD Y (Ĩ n ĭ) (Ĩ n ĭ):=⟨U,λi a b=>by simp only[Array.getElem_replicate];exact GO Y⟩
def afD(B:lz P xX o.op)(i:(ã xX o).run P u=Ē (Ŗ F d) W):∃q l,o.op=ź {callee:=bB<|.func F,args:=q,argTypes:=l}:=by
 have n:∀{m:ă Ã} {x:ŷ} {k p:Ç},(m>>=λv=>pure (ä v):ă ŷ).run P k=Ē x p->∃v,x=ä v:=by
  intro m x k p e;rw[Æ]at e;cases j:m.run P k with
  |ok a w=>rw[j]at e;cases e;exact⟨a,U⟩
  |halt z w=>rw[j]at e;cases e
 have C:∀{m:ă Unit} {x:ŷ} {k p:Ç},(m>>=λ_=>pure ς:ă ŷ).run P k=Ē x p->x=ς:=by
  intro m x k p e;rw[Æ]at e;cases j:m.run P k with
  |ok a w=>rw[j]at e;cases e;rfl
  |halt z w=>rw[j]at e;cases e
 let⟨E,s,G,H,I,guard⟩:=o;simp only at B|-;unfold ã at i;simp only[]at i;cases B with
 |Aj x|GH x=>cases i
 |yx c a b=>
  rw[Æ]at i;cases j:(bq<|xX c).run P u with|ok a w|halt z w=>rw[j]at i;cases i
 |jN t a x=>exact absurd (C i) fD|GI x=>
  simp only[]at i;split at i;all_goals first
   |(cases i;done)|exact absurd i<|tD _ _ _ _
   |(
    split at i;all_goals first
     |(cases i;done)|exact absurd i<|tD _ _ _ _
     |(
      rw[Æ,õ]at i;simp only[É]at i;rw[Æ]at i;revert i;generalize Ù P (ah _ _ _ _) u=z;intro i;cases z with
      |halt z w=>cases i
      |ok a w=>
       simp only[É]at i;split at i;rw[Æ]at i;cases i;cases i))
 |GJ x l|GK x l|GM x y l|GN x y b c h=>simp only[ć,Ę,ħ,pure_bind,eJ,dR,dG]at i;let⟨v,e⟩:=n i;cases e
 |iA g q l b h=>
  let⟨J,c,r,D⟩:=h;simp only[ć,b,ĝ,Ę,pure_bind,cA,dK,ģ]at i;rw[Æ,õ]at i;simp only[É,c,r,D,Î,if_false]at i;cases i;exact⟨q,l,U⟩
 |Er s t x y r h=>
  rw[Æ]at i;cases j:Ù P (Š s t x y (xX x) (xX y)>>=λ_=>ŕ s t (xX x)<|xX y) u with|ok a w|halt z w=>rw[j]at i;cases i
 |_=>let⟨v,e⟩:=n i;cases e
theorem WK(j:Func)(h:gD Y d q):gh P fI Y (Ė j d) (Ė j q):=by
 have k:∀(f:fL),Y.r f->∀n,fI f (d.getD n ĭ) (q.getD n ĭ):=by intro f a n;simp only[fq];rcases(h.fG a).M n with⟨b,e⟩|⟨v,u,b,e,m⟩;all_goals grind [GO]
 unfold Ė;refine ga (V:=gD) ?_ ?_
 .rw[Ą,Ą];have w:∀(l:List ResultVar)(c:fL),Y.r c->gh P (λf (a o:List Ã)=>gD f a.toArray o.toArray) c (l.mapM fun|ResultVar.tmp n=>pure (d.getD n ĭ)|ResultVar.cell a e=>do Ξ e (<-br (d.getD a ĭ))) (l.mapM fun|ResultVar.tmp n=>pure (q.getD n ĭ)|ResultVar.cell a e=>do Ξ e (<-br (q.getD a ĭ))):=by
   intro l
   induction l with
   |nil=>intro c _;simp only[ZnV];exact .fY (gD.N _)|cons r l x=>
    intro c g;simp only[Β];refine ga (V:=fI) ?_ ?_;cases r with
    |tmp n=>exact .fY (k c g n)|cell a e=>
     apply ga (VZ<|k c g a);exact λp b s _ i=>VU i e
    .intro p v u e m;apply ga (x p<|fL.C g e);intro z s i y b;refine .fY ?_;have:=(gD.I<|m.fG y).H b;simpa using this
  exact gh.nF (w _ Y<|fL.I _) λf a o _ e=> .fY e
 intro c s i _ b;refine .fY ?_;by_cases e:s.size=1;have a:i.size=1:=by rwa[<-b.r]
 rw[dif_pos e,dif_pos a];exact b.C 0 _ _;have a:¬i.size=1:=by rwa[<-b.r]
 rw[dif_neg e,dif_neg a];exact .nD b.r b.C
end
def Ap{p:Prop}(h:p:=by simp[St.nY,fm,base,G,stepG,stepG.exec,Frame.at];try rfl):p:=h
section
variable{Y:fL}{d:Nat->Prop}
def jF(P:Ó)(Y:fL)(d:Nat->Prop)(main:Bool)(cs:List Ċ)(h:St)(u w:Ç)(k:St)(c:Ç):Prop:=
 ∃(a:fL)(f:St)(b:Ç)(g:Array ê),à P main (h.nY cs) w=σ (f.nY cs) b g/\KJ a k f/\Y.r a/\(∀i j,a i j->Y i j\/(u.heap.size<=i/\w.heap.size<=j))/\jI a d c b/\pG Y d w b/\(∀e∈g,B4 a d e)/\u.heap.size<=c.heap.size
def jF.r{main:Bool}{cs:List Ċ}{a b s1':St}(c:jI Y d u w)(h:à P main (a.nY cs) w=σ (s1'.nY cs) w #[])(f:KJ Y b s1'):jF P Y d main cs a u w b u:=⟨Y,s1',w,#[],h,f,fL.I _,λ_ _ h=>Á h,c,pG.gy _ _ w,λe g=>absurd g fD,eE _⟩
def KM{m:ă gX}{x:gX}(h:m.runT P w #[]=(Ē x u,#[]++V)):m.run P w=Ē x u/\m.events P w #[]=V:=by simp_all
def GX{main:Bool}{k:List ŉ}{c:Ċ}{cs:List Ċ}{es:Array ê}(a:P.funcs[F]?=À s)(b:(Ė s q).runT P w #[]=(Ē v u,es)): à P main (G {fm F q k with mode:=.returning}<|c::cs) w=σ (G (c.finish v) cs) u (seen P F es):=by simp[G,à,Zoh,doReturn,fm,Frame.at,base,a,b,Ţ,-ţ]
def LS.oC(hz:pH P)(hb:Y.gA=P.globals.size)(hG:∀g,X g->Y g g){s s1 s':St}(h:LS P s u s1 W)(hs:KJ Y s s')(ok:lA P X pJ s)(m:jI Y d u w)(hl:∀j,d j->j<w.heap.size)(O:Eo u W)(main:Bool)(cs:List Ċ): jF P Y d main cs s' u w s1 W:=by
 let⟨f',r,k',ret',n⟩:=s';let⟨Q,l,S,e3,p⟩:=hs;simp only at Q S e3 l p;subst Q S e3;cases h with
 |qY|qe=>exact .r (s1':=⟨_,r,_,È,n⟩) m Ap ⟨U,l,U,U,p⟩|vw|Ak|Ca|yz|uD|uE|Al|Am|An|vy|GV=>exact .r (s1':=⟨_,r,_,Ä,n⟩) m Ap ⟨U,l,U,U,p⟩|@vx _ _ _ _ _ c _ _ b Cf=>
  have T:=yD hG l (by cases Ao ok.fV with|vx O _ _=>exact O);rw[Cf]at T;have e:Ü ⟨r,[]⟩ c=Ĭ b:=by generalize Ü ⟨r,[]⟩ c=V at T;cases T;rfl
  exact .r (s1':=⟨_,r,_,Ä,n⟩) m (ZnL e) ⟨U,l,U,U,p⟩
 |yA z|yB z=>exact .r (s1':=⟨_,r,_,Ä,n⟩) m (by simp[St.nY,fm,base,G,à,ø,Frame.at,z]) ⟨U,l,U,U,p⟩|@Cb f t k L _ id ops=>
  refine⟨Y,⟨f,r,Ø ops (aU (P.follows .mixedOrders) ops<|w.tape w.drawn<|.order f id)::k,Ä,n⟩,{w with drawn:=w.drawn+1},#[],Ť,⟨U,l,?_,U,p⟩,fL.I _,λ_ _ h=>Á h,⟨m.S,by simp[m.N],m.C,m.I,m.M,m.r⟩,⟨eE _,U,U,U,λ_ _ _=>U,λ_ _ _=>U⟩,λe z=>absurd z fD,eE _⟩;simp only[m.S,m.N]|@Es f t k L _ ops i rest o ho hw=>
  rw[KC _ _ l]at hw;have:=Ι (P:=P) (main:=main) (b:=base f) (a:=⟨r,[]⟩) (k:=k) (cs:=n.map (λx=>fm x.1 x.2.1 x.2.2)++cs) (w:=w) (rest:=rest) ho hw;rw[uC]at this;exact .r (s1':=⟨f,qZ r o.dst ĭ,Ø ops rest::k,Ä,n⟩) m this ⟨U,qZ.r l _<|GO Y,U,U,p⟩|@qc f t k L _ ops i rest o v _ ho hw hr=>
  rw[KC _ _ l]at hw;let⟨B,x',D,es,q,E,C,F,H,I,J,K⟩:=(uG ok.fV _<|fg ho).oC hz hb hG l m hl hr O;let⟨M,N⟩:=KM C;cases F with
  |qc T=>
   have:=aL (main:=main) (b:=base f) (k:=k) (cs:=n.map (λx=>fm x.1 x.2.1 x.2.2)++cs) (rest:=rest) ho hw (by simp[base]) M;rw[uC]at this;rename_i V;exact⟨B,⟨f,qZ r o.dst V,Ø ops rest::k,Ä,n⟩,D,_,this,⟨U,qZ.r (l.fG q) _ T,U,U,KL q p⟩,q,E,H,I,λe z=>J e (by have:=ZnM z;rwa[N]at this),K⟩
 |@Cc f t k L _ ops i rest o _ ho hw hr=>
  rw[KC _ _ l]at hw;let⟨B,x',D,es,q,E,C,F,H,I,J,K⟩:=(uG ok.fV _<|fg ho).oC hz hb hG l m hl hr O;let⟨M,N⟩:=KM C;cases F with
  |vw=>
   have:=ZnN (main:=main) (b:=base f) (k:=k) (cs:=n.map (λx=>fm x.1 x.2.1 x.2.2)++cs) (rest:=rest) ho hw (by simp[base]) M;rw[uC]at this;exact⟨B,⟨f,qZ r o.dst ĭ,Ø ops rest::k,Ä,n⟩,D,_,this,⟨U,qZ.r (l.fG q) _<|GO B,U,U,KL q p⟩,q,E,H,I,λe z=>J e (by have:=ZnM z;rwa[N]at this),K⟩
 |@uB f t k L _ ops i rest o g args fn c _ ho hw hr hf hbd=>
  rw[KC _ _ l]at hw;let⟨B,x',D,es,q,E,C,F,H,I,J,K⟩:=(uG ok.fV _<|fg ho).oC hz hb hG l m hl hr O;let⟨M,N⟩:=KM C;cases F with
  |uB _ vA=>
   have:=aN (main:=main) (b:=base f) (k:=k) (cs:=n.map (λx=>fm x.1 x.2.1 x.2.2)++cs) (rest:=rest) ho hw (by simp[base]) M;rw[ZnO _ hf hbd]at this;rename_i WL;refine⟨B,⟨g,WL++Ĩ (fn.ntmps-WL.size) ĭ,[ā c],Ä,(f,r,Ø ops (i::rest)::k)::n⟩,D,_,this,⟨U,?_,U,U,.yv ⟨U,l.fG q,U⟩ (KL q p)⟩,q,E,H,I,λe z=>J e (by have:=ZnM z;rwa[N]at this),K⟩;rw[vA.r];exact vA.H<|WJ _
 |@Et f t k L _ ops i rest ho=>exact .r (s1':=⟨f,r,Ø ops rest::k,Ä,n⟩) m (by simp[St.nY,fm,base,G,à,ø,Frame.at,ho,ai]) ⟨U,l,U,U,p⟩|@yC f t k L _ g t2' ops i rest k3 v fn _ hf hr=>
  cases p with
  |yv hx p=>
   rename_i y WM;let⟨g',t2,k2⟩:=y;let⟨Q,vB,S⟩:=hx;simp only at Q S vB;subst Q S;let⟨B,V,D,es,q,E,C,F,H,I,J,K⟩:=(WK fn l).gR m hl hr #[];let⟨M,N⟩:=KM C;refine⟨B,⟨g,qZ t2 ((ops[i]?).bind (·.dst)) V,Ø ops rest::k3,Ä,WM⟩,D,seen P f es,?_,⟨U,qZ.r (vB.fG q) _ F,U,U,KL q p⟩,q,E,H,I,λe z=>J e<|mem_seen z,K⟩;have xh:=Ż (base g) ⟨t2,[]⟩ ops i rest k3 V;rw[uC]at xh;have qu:=GX (main:=main) (k:=k) (c:=fm g t2<|Ø ops (i::rest)::k3) (cs:=WM.map (λx=>fm x.1 x.2.1 x.2.2)++cs) hf C;unfold fm at qu;rwa[xh,cA]at qu
end
inductive rN(P:Ó)(Post:Ã->Ç->Prop):St->Ç->Prop|jm {f:Û} {t:Array Ã} {k:List ŉ} {u:Ç} {fn:Func} {v:Ã} (hf:P.funcs[f]?=À fn) (hr:∀tp d,(Ė fn t).run P {u with tape:=tp,drawn:=d}=Ē v {u with tape:=tp,drawn:=d}) (hp:Post v u):rN P Post ⟨f,t,k,È,[]⟩ u|kx {s:St} {u:Ç} (S:Μ->Nat->St) (U:Μ->Nat->Ç) (h:∀tp d,LS P s {u with tape:=tp,drawn:=d} (S tp d)<|U tp d) (hc:∀tp d,Eo u<|U tp d) (ih:∀tp d,rN P Post (S tp d)<|U tp d):rN P Post s u
structure Aq(M:Nat->Prop)(w w₁:Ç):Prop where
 r:w.heap.size<=w₁.heap.size
 C:∀j,M j->w₁.heap[j]?=w.heap[j]?
def KN(O b:Nat->Prop)(e:ê):Prop:=
 (∃a:Õ,e.loc=é a/\e.sync=Ä/\(O a.block\/(b a.block/\e.write=Ä)))\/e.loc=Ŋ Zn6\/∃f,e.loc=Ŋ (.extern f)
structure KO(Rd O O':Nat->Prop)(w w':Ç)(es:Array ê):Prop where
 r:w.heap.size<=w'.heap.size
 M:∀j,O j->O' j
 I:∀j,O' j->O j\/w.heap.size<=j
 fM:∀j,O' j->j<w'.heap.size
 lB:∀j,j<w.heap.size->¬O j->w'.heap[j]?=w.heap[j]?
 N:w'.os=w.os
 S:w'.output=w.output
 Y:w'.tape=w.tape
 C:∀e∈es,KN O' Rd e
inductive xi(P:Ó)(main:Bool)(Rd:Nat->Prop)(Stop:(Nat->Prop)->Ì->Ç->Prop):(Nat->Prop)->Ì->Ç->Prop
 |fT {O:Nat->Prop} {g:Ì} {w:Ç} (h:∀w₁,Aq (λj=>O j\/Rd j) w w₁->Stop O g w₁):xi P main Rd Stop O g w
 |kx {O:Nat->Prop} {g:Ì} {w:Ç} (G':Ç->Ì) (W':Ç->Ç) (E':Ç->Array ê) (O':Ç->Nat->Prop) (jh:g.status=Í)
  (h:∀w₁,Aq (λj=>O j\/Rd j) w w₁->à P main g w₁=σ (G' w₁) (W' w₁) (E' w₁))
  (hd:∀w₁,Aq (λj=>O j\/Rd j) w w₁->KO Rd O (O' w₁) w₁ (W' w₁) (E' w₁))
  (ih:∀w₁,Aq (λj=>O j\/Rd j) w w₁->xi P main Rd Stop (O' w₁) (G' w₁) (W' w₁)):xi P main Rd Stop O g w
instance:Nonempty fL:=⟨⟨λ_ _=>False,0⟩⟩
instance:Nonempty St:=⟨⟨0,#[],[],Ä,[]⟩⟩
instance:Nonempty (Goroutine×World×Array Event×(Nat->Prop)):=⟨(default,default,#[],λ_=>False)⟩
section
variable{Y:fL}{b Rd:Nat->Prop}{main:Bool}{Stop:(Nat->Prop)->Ì->Ç->Prop}
def xi.mk(i:g.status=Í)(h:∀a,Aq (λj=>X j\/Rd j) w a->∃c b d e,à P main g a=σ c b d/\KO Rd X e a b d/\xi P main Rd Stop e c b):xi P main Rd Stop X g w:=by
 let p:=λ(a:Ç) (x:Goroutine×World×Array Event×(Nat->Prop))=>à P main g a=σ x.1 x.2.1 x.2.2.1/\KO Rd X x.2.2.2 a x.2.1 x.2.2.1/\xi P main Rd Stop x.2.2.2 x.1 x.2.1
 have f:∀a,Aq (λj=>X j\/Rd j) w a->p a (Classical.epsilon<|p a):=λa r=>Classical.epsilon_spec (let⟨c,b,d,e,h⟩:=h a r;⟨(c,b,d,e),h⟩);exact .kx (λa=>(Classical.epsilon<|p a).1) (λa=>(Classical.epsilon<|p a).2.1) (λa=>(Classical.epsilon<|p a).2.2.1) (λa=>(Classical.epsilon<|p a).2.2.2) i (λa r=>(f a r).1) (λa r=>(f a r).2.1) λa r=>(f a r).2.2
def rO(Y:fL)(b:Nat->Prop)(u w:Ç):Prop:=jI Y b {u with tape:=w.tape,drawn:=w.drawn} w
def fE(Y:fL)(b:Nat->Prop)(j:Nat):Prop:=(∃i,Y i j)/\¬b j
theorem rO.G(h:rO Y b u w)(p:∀i j,Y i j->b j->Rd j)(r:Aq (λj=>fE Y b j\/Rd j) w W):rO Y b u W:=by refine⟨U,U,h.C,h.I,â h.M r.r,λi j a=> ?_⟩;let⟨c,d,e,f,g,k,l,m,n,o⟩:=h.r i j a;refine⟨c,d,e,f,g,k,?_,m,n,o⟩;rwa[r.C j ?_];by_cases s:b j;grind;exact Á ⟨⟨i,a⟩,s⟩
def jI.to0(h:jI Y b u w):rO Y b u w:=⟨U,U,h.C,h.I,h.M,h.r⟩
def jI.xj(h:jI Y b u w)(tp:Μ)(d:Nat):rO Y b {u with tape:=tp,drawn:=d} w:=⟨U,U,h.C,h.I,h.M,h.r⟩
theorem afE{c:fL}(k:∀i j,c i j->b j->Rd j){e:ê}(h:B4 c b e):KN (fE c b) Rd e:=by obtain⟨a,i,d,f,g,l⟩|h|h:=h;by_cases s:b a.block;refine Á ⟨a,d,g,Å ⟨k _ _ f s,?_⟩⟩;grind;exact Á ⟨a,d,g,Á ⟨⟨i,f⟩,s⟩⟩;exact Å<|Á h;exact Å<|Å h
def WN{c:fL}(f:Y.r c)(g:∀i j,c i j->Y i j\/(u.heap.size<=i/\w.heap.size<=j))(k:jI c b W jX)(d:pG Y b w jX)(l:∀e∈V,B4 c b e)(m:∀i j,c i j->b j->Rd j): KO Rd (fE Y b) (fE c b) w jX V where
 r:=d.r;M j h:=⟨let⟨i,a⟩:=h.1;⟨i,f.1 _ _ a⟩,h.2⟩;I j h:=by let⟨⟨i,a⟩,s⟩:=h;obtain x|x:=g i j a;exact Á ⟨⟨i,x⟩,s⟩;exact Å x.2
 fM j h:=by let⟨⟨i,a⟩,_⟩:=h;let⟨_,_,_,_,_,_,x,_⟩:=k.r i j a;exact(fp.1 x).1
 lB j hj hn:=by by_cases x:∃i,Y i j;by_cases s:b j;exact d.N j s hj;exact absurd ⟨x,s⟩ hn;exact d.C j hj λi a=>x ⟨i,a⟩
 N:=d.I;S:=d.M;Y:=d.S;C e he:=afE m<|l e he
def GY(Y:fL)(b:Nat->Prop)(f:Ã->Ç->Prop)(c:Ċ)(h:List Ċ)(O:Nat->Prop)(g:Ì)(w:Ç):Prop:=
 ∃(a:fL)(d:Ç)(v e:Ã),Y.r a/\O=fE a b/\rO a b d w/\fI a v e/\f v d/\g=G (c.finish e) h
def rN.OS(hz:pH P)(hP:re P X pJ){s:St}(h:rN P vQ s u):∀{Y GZ:fL} {s':St} {w:Ç},GZ.r Y->Y.gA=P.globals.size->(∀g,X g->Y g g)->KJ Y s s'->lA P X pJ s->rO Y b u w->(∀j,b j->j<w.heap.size)->(∀i j,Y i j->b j->Rd j)->∀(c:Ċ)(cs:List Ċ),xi P main Rd (GY GZ b vQ c cs) (fE Y b) (s'.nY<|c::cs) w:=by
 have hE:∀o a u f E F,oB P X pJ o->(ã (Ü a) o).run P u=Ē (Ŗ f E) F->pJ f:=by exact λo a u f E F d G=>d.C a u f E F G
 induction h with
 |@jm f t k u fn v hf G hp=>
  intro Y GZ s' w H I J K L M N m c cs;let⟨f',t',k',ret',L'⟩:=s';let⟨T,V,W,e3,hL⟩:=K;simp only at T W e3 V hL;subst T W e3;cases hL;refine .mk rfl λn r=> ?_;have d:=λj s=>ff (N j s) r.r;let⟨y,v',w',es,z,B,l,C,p,D,O,h8⟩:=(WK fn V).gR (M.G m r) d (G _ _) #[];have q:=λi j Q s=>(B i j Q).elim (λx=>m i j x s) λx=>absurd (d j s) Z;refine⟨_,w',_,fE y b,GX hf l,WN z B p D (λe he=>O e (by have:=mem_seen he;simpa using this)) q,.fT λG0 e=>⟨y,u,v,v',fL.C H z,rfl,rO.G (p.xj _ _) q e,C,hp,rfl⟩⟩
 |@kx s u S U h hc _ ih=>
  intro Y GZ s' w H I J K L M N m c cs;refine .mk rfl λn r=> ?_;have d:=λj s=>ff (N j s) r.r;let⟨y,G,e,es,z,B,l,C,p,D,O,h8⟩:=(h n.tape n.drawn).oC hz I J K L (M.G m r) d (hc n.tape n.drawn) main<|c::cs;have q:=λi j Q s=>(C i j Q).elim (λx=>m i j x s) λx=>absurd (d j s) Z;refine⟨_,e,es,fE y b,z,WN l C p D O q,ih _ _ (fL.C H l) (l.2.2.trans I) (λg x=>l.1 _ _<|J g x) B ((h _ _).ok hP hE L) p.to0 (λj s=>ff (d j s) D.r) q c cs⟩
end
def rP:Ċ:={(default:Ċ)with fn:=0,todo:=[ā<|Zog ""],defers:=[{target:=.nil,args:=#[]}],mode:=.run,kind:=.normal}
def St.C(s:St):Ċ:=if s.r then{fm s.f s.t s.k with mode:=.returning}else fm s.f s.t s.k
def fM(L:List (FuncId×Array Value×List ŉ)):List Ċ:=L.map (λx=>fm x.1 x.2.1 x.2.2)++[rP]
def LM(s:St)(u:Ç):a8:=aj s.C (fM s.L) u
section
variable{GL:Nat->Prop}{fu:Û->Prop}{Q:Ã->Ç->Prop}
def Ev{cs:List Ċ}{a:Ċ}{es:Array ê}(h:à P È (G f cs) w=σ (G a qX) u es):step P (aj f cs w)=Į (aj a qX u):=step_lone_go<|by show(à P È (G f cs) w).bare=_;rw[h];rfl
def KP{fr:Ċ}{cs:List Ċ}{o:Outcome}{es:Array ê}(h:à P È (G fr cs) w=.ended o u es):step P (aj fr cs w)=.ended o u:=step_lone_ended<|by show(à P È (G fr cs) w).bare=_;rw[h];rfl
def oD(P:Ó)(Q:Ã->Ç->Prop)(n:Nat)(m:a8):Prop:=∃b v a,runN P n m=Į (aj b [rP] a)/\b.leaving P a (.returned v)/\Q v a
def oD.r{m a:a8}(h:oD P Q (n+1) m)(b:step P m=Į a):oD P Q n a:=by let⟨c,v,d,e,f⟩:=h;exact⟨c,v,d,by simpa only[runN,b]using e,f⟩
def oD.M{m:a8}{o:Outcome}(h:oD P Q (n+1) m)(b:step P m=.ended o w):False:=by let⟨c,v,d,a,e⟩:=h;simp only[runN,b]at a;cases a
theorem WO{fr:Ċ}{cs:List Ċ}(h:aj fr cs w=aj f qX u):fr=f/\cs=qX/\w=u:=by simp only[aj,Machine.mk.injEq,Array.mk.injEq,List.cons.injEq,Goroutine.mk.injEq]at h;grind
theorem oD.C{cs:List Ċ}(h:oD P Q 0 (aj f cs w)):cs=[rP]/\∃v,f.leaving P w (.returned v)/\Q v w:=by let⟨b,v,c,a,d,e⟩:=h;simp only[runN,Stepped.next.injEq]at a;grind [WO]
def afF(h:oD P Q n (aj rP [] u)):False:=by
 cases n with
 |zero=>let⟨a,_⟩:=h.C;cases a
 |succ n=>exact h.M<|KP (es:=#[])<|by simp[G,à,ø,rP];exact⟨U,U⟩
def afG{a:List PanicEntry}(h:oD P Q n (aj (rP.raise a) [] u)):False:=by
 cases n with
 |zero=>let⟨b,_⟩:=h.C;cases b
 |succ n=>exact h.M<|KP (es:=#[])<|by simp[G,à,rP,Ń,Zoh,callDeferred];exact⟨U,U⟩
def afH(b:List PanicEntry):∀(L:List (FuncId×Array Value×List ŉ))(f:Û)(t:Array Ã)(k:List ŉ)(u:Ç)(n:Nat),(∃a,P.funcs[f]?=À a)->(∀x∈L,∃a,P.funcs[x.1]?=À a)->¬oD P Q n (aj ((fm f t k).raise b) (fM L) u):=by
 intro L
 induction L with
 |nil=>
  intro f t k u n ⟨a,c⟩ _ h;cases n with
  |zero=>let⟨_,v,y,_⟩:=h.C;exact absurd y.1<|by simp[Ń,fm,Frame.at]|succ n=>
   have d:step P (aj ((fm f t k).raise b) (fM []) u)=Į (aj (rP.raise b) [] u):=Ev (es:=#[]) (by simp[G,à,fm,base,Frame.at,Ń,Zoh,ZnY,c,fM]);exact afG<|h.r d
 |cons x L e=>
  intro f t k u n ⟨a,c⟩ d h;cases n with
  |zero=>let⟨_,v,y,_⟩:=h.C;exact absurd y.1<|by simp[Ń,fm,Frame.at]|succ n=>
   exact e x.1 x.2.1 x.2.2 u n (d x<|eZ ..) (λy v=>d y<|fi _ v)<|h.r<|Ev (es:=#[])<|by simp[G,à,fm,base,Frame.at,Ń,Zoh,ZnY,c,fM]
structure Ok(P:Ó)(GL:Nat->Prop)(fu:Û->Prop)(s:St):Prop where
 r:lA P GL fu s
 I:fu s.f
 C:∀x∈s.L,fu x.1/\∃ops i rest k,x.2.2=Ø ops (i::rest)::k
def vC(P:Ó)(fu:Û->Prop):Prop:=∀f,fu f->∃a c,P.funcs[f]?=À a/\a.body=À c
theorem OT{t:Array Ã}:fZ P (Ė s t):=by unfold Ė;grind [jC,Wy,jL,ae6,ae4]
def afI(k:lz P xX o.op){n:ŷ}(d:(ã xX o).run P u=Ē n W):(∃v,n=ä v)\/n=ς\/∃f c,n=Ŗ f c:=by
 have i:∀{m:ă Ã} {x:ŷ} {j l:Ç},(m>>=λv=>pure (ä v):ă ŷ).run P j=Ē x l->∃v,x=ä v:=by
  intro m x j l e;rw[Æ]at e;cases g:m.run P j with
  |ok a w=>rw[g]at e;cases e;exact⟨a,U⟩
  |halt z w=>rw[g]at e;cases e
 let⟨p,e,q,s,B,guard⟩:=o;simp only at k;unfold ã at d;simp only[]at d;cases k with
 |Aj x|GH x=>cases d;exact Á ⟨_,U⟩
 |yx c a b=>
  rw[Æ]at d;cases g:(bq<|xX c).run P u with
  |ok a w=>rw[g]at d;cases d;exact Á ⟨_,U⟩
  |halt z w=>rw[g]at d;cases d
 |jN t a x=>
  rw[Æ]at d;cases g:(ġ t (xX a)<|xX x).run P u with
  |ok a w=>rw[g]at d;cases d;exact Å<|Á U
  |halt z w=>rw[g]at d;cases d
 |GI x=>
  simp only[]at d;split at d;all_goals first
   |(cases d;exact Á ⟨_,U⟩)|exact absurd d<|tD _ _ _ _
   |(
    split at d;all_goals first
     |(cases d;exact Á ⟨_,U⟩)|exact absurd d<|tD _ _ _ _
     |(
      rw[Æ,õ]at d;simp only[É]at d;rw[Æ]at d;revert d;generalize Ù P (ah _ _ _ _) u=z;intro d;cases z with
      |halt z w=>cases d
      |ok a w=>
       simp only[É]at d;split at d;rw[Æ]at d;cases d;cases d;exact Á ⟨_,U⟩))
 |GJ x a|GK x a|GM x y a|GN x y b g h=>simp only[ć,Ę,ħ,pure_bind,eJ,dR,dG]at d;exact Á<|i d|iA g C a b h=>
  let⟨D,r,w,z⟩:=h;simp only[ć,b,ĝ,Ę,pure_bind,cA,dK,ģ]at d;rw[Æ,õ]at d;simp only[É,r,w,z,Î,if_false]at d;cases d;exact Å<|Å ⟨_,_,U⟩
 |Er e t x y r h|_=>exact Á<|i d
def oD.I(_hP:re P GL fu)(hF:vC P fu){n:Nat}{s:St}{u:Ç}(ok:Ok P GL fu s)(hu:sH u)(h:oD P Q n (LM s u)): (n=0/\s.r=È/\s.L=[]/\∃fn v,P.funcs[s.f]?=À fn/\(Ė fn s.t).run P u=Ē v u/\Q v u)\/∃m s' u',n=m+1/\LS P s u s' u'/\oD P Q m (LM s' u'):=by
 let⟨f,t,k,ret,L⟩:=s;let⟨⟨top,lw⟩,fs,ls⟩:=ok;simp only at top lw fs ls;let⟨fn,c,hfn,hbody⟩:=hF f fs;cases n with
 |zero=>
  let⟨h1,v,h2,h3⟩:=h.C;have hL:L=[]:=by simp only[fM]at h1;simp_all
  subst hL;let⟨m1,_,_,fn',m4,m5⟩:=h2;have afJ:ret=È:=by
   cases ret with|true=>rfl|false=>simp[St.C,fm,Frame.at]at m1
  subst afJ;exact Á ⟨U,U,U,fn',v,m4,m5,h3⟩
 |succ n=>
  have go:∀{s':St} {u':Ç},LS P ⟨f,t,k,ret,L⟩ u s' u'->(∃es,à P È ((⟨f,t,k,ret,L⟩:St).nY [rP]) u=σ (s'.nY [rP]) u' es)->(n+1=0/\ret=È/\L=[]/\∃fn v,P.funcs[f]?=À fn/\(Ė fn t).run P u=Ē v u/\Q v u)\/∃m s' u',n+1=m+1/\LS P ⟨f,t,k,ret,L⟩ u s' u'/\oD P Q m (LM s' u'):=by intro s' u' hl ⟨es,he⟩;exact Å ⟨n,s',u',U,hl,h.r<|Ev he⟩
  have bad:(∃o w es,à P È ((⟨f,t,k,ret,L⟩:St).nY [rP]) u=.ended o w es)->False:=λ⟨_,_,_,he⟩=>h.M<|KP he;cases ret with
  |true=>
   cases hr:(Ė fn t).runT P u #[]with
   |mk r es=>
    cases r with
    |halt z w=>
     refine absurd ?_ id;cases z<;>exact bad ⟨_,_,_,by simp[St.nY,fm,base,G,à,Zoh,Frame.at,hfn,hr,Ţ,-ţ];exact⟨U,U,U⟩⟩
    |ok v u'=>
     cases L with
     |nil=>
      exact absurd (h.r<|Ev<|GX hfn hr) afF|cons x L=>
      let⟨g,t',k'⟩:=x;let⟨_,ops,i,rest,k2,e⟩:=ls _<|eZ ..;simp only at e;subst e;refine go (.yC hfn (by rw[<-Ÿ P (Ė fn t) u #[],hr])) ⟨seen P f es,?_⟩;have qu:=GX (main:=È) (k:=k) (c:=fm g t'<|Ø ops (i::rest)::k2) (cs:=fM L) hfn hr;have xh:=Ż (base g) ⟨t',[]⟩ ops i rest k2 v;rw[uC]at xh;unfold fm at qu;rwa[xh]at qu
  |false=>
   cases k with
   |nil=>exact go .qY ⟨_,Ap⟩|cons it k=>
    have ti:=top it<|eZ ..;cases ti with
    |Ca _|yz _|Am _=>exact go (by constructor) ⟨_,Ap⟩|tF hc=>
     cases hc with
     |qe|vw|Ak _|uD _ _|uE _ _|Al _|An _=>exact go (by constructor) ⟨_,Ap⟩|pI WI=>exact(bad ⟨_,_,_,by simp[St.nY,fm,base,G,à,ø,Frame.at];exact⟨U,U,U⟩⟩).elim|yA id=>
      cases he:ZnJ id k with|none=>exact(bad ⟨_,_,_,by simp[St.nY,fm,base,G,à,ø,Frame.at,he];exact⟨U,U,U⟩⟩).elim|some k'=>exact go (.yA he) ⟨_,by simp[St.nY,fm,base,G,à,ø,Frame.at,he];rfl⟩
     |yB l=>
      cases he:ZnK l k with|none=>exact(bad ⟨_,_,_,by simp[St.nY,fm,base,G,à,ø,Frame.at,he];exact⟨U,U,U⟩⟩).elim|some k'=>exact go (.yB he) ⟨_,by simp[St.nY,fm,base,G,à,ø,Frame.at,he];rfl⟩
     |@vx c x y _ _ _=>
      by_cases hb:∃b,Ü ⟨t,[]⟩ c=Ĭ b;let⟨b,hb⟩:=hb;exact go (.vx hb) ⟨_,ZnL hb⟩;refine(bad ⟨.stuck "cond: bool expected" ((fm f t<|ā (aK c x y)::k).pos P),u,#[],?_⟩).elim;have rL:(fm f t<|ā (aK c x y)::k).eval c=Ü ⟨t,[]⟩ c:=Frame.eval_at _ _ _ _;have hx:à P È (G (fm f t<|ā (aK c x y)::k)<|fM L) u=(match(fm f t<|ā (aK c x y)::k).eval c with|Ĭ b=>σ (G (fm f t<|ā (if b then x else y)::k)<|fM L) u|_=>.ended (.stuck "cond: bool expected" ((fm f t (ā (aK c x y)::k)).pos P)) u):=by
       simp only[G,à,ø,fm,Frame.at];rfl
      apply hx.trans;rw[rL];generalize Ü ⟨t,[]⟩ c=v at hb;cases v<;>first|exact absurd ⟨_,U⟩ hb|rfl
     |vy id draw _=>
      cases draw with|false=>exact go .vy ⟨_,Ap⟩|true=>exact go .Cb ⟨_,Ť⟩
    |Ce is hO=>
     rename_i ops;cases is with
     |nil=>exact go .GV ⟨_,Ap⟩|cons i rest=>
      cases ho:ops[i]? with
      |none=>exact go (.Et ho) ⟨_,by simp[St.nY,fm,base,G,à,ø,Frame.at,ho,ai];rfl⟩|some o=>
       cases hw:ē o (Ĳ ops t)with
       |false=>
        have:=Ι (P:=P) (main:=È) (b:=base f) (a:=⟨t,[]⟩) (k:=k) (cs:=fM L) (w:=u) (rest:=rest) ho hw;rw[uC]at this;exact go (.Es ho hw) ⟨_,this⟩|true=>
        have oo:=hO o<|fg ho;have oE:=stepG_oper (P:=P) (main:=È) (b:=base f) (a:=⟨t,[]⟩) (k:=k) (cs:=fM L) (w:=u) (rest:=rest) ho hw;cases hr:(ã (Ü ⟨t,[]⟩) o).runT P u #[]with
        |mk r es=>
         have qW:(ã (Ü ⟨t,[]⟩) o).run P u=r:=by rw[<-Ÿ P _ u #[],hr]
         cases r with
         |halt z w=>
          have hz:=((oo.r ⟨t,[]⟩).1 u hu).2 z w qW;cases z with
          |panic v=>
           have hs:step P (LM ⟨f,t,Ø ops (i::rest)::k,Ä,L⟩ u)=Į (aj ((fm f t<|Ø ops (i::rest)::k).raise [{v,recovered:=Ä}]) (fM L) w):=Ev (es:=seen P f es) (oE.trans<|by simp[aO,hr,G,Frame.at,fm,base,Ţ,Ń,-ţ]);exact absurd (h.r hs) (afH _ L f t _ w n ⟨fn,hfn⟩ λx hx=>let⟨fn',_,h1,_⟩:=hF x.1 (ls x hx).1;⟨fn',h1⟩)|stuck s=>exact(bad ⟨_,_,_,oE.trans<|by simp[aO,hr,Frame.at,base,Ţ,-ţ];exact⟨U,U,U⟩⟩).elim|unsupported un=>
           cases un<;>first|(cases hz;done)|exact(bad ⟨_,_,_,oE.trans<|by simp[aO,hr,Frame.at,base,Ţ,-ţ];exact⟨U,U,U⟩⟩).elim
          |_=>cases hz
         |ok nx u'=>
          obtain⟨v,rfl⟩|rfl|⟨g,args,rfl⟩:=oo.I ⟨t,[]⟩ u nx u' qW;have:=aL (main:=È) (b:=base f) (k:=k) (cs:=fM L) (rest:=rest) ho hw (by simp[base]) qW;rw[uC]at this;exact go (.qc ho hw qW) ⟨_,this⟩;have:=ZnN (main:=È) (b:=base f) (k:=k) (cs:=fM L) (rest:=rest) ho hw (by simp[base]) qW;rw[uC]at this;exact go (.Cc ho hw qW) ⟨_,this⟩;let⟨fn',c',h1,h2⟩:=hF g<|oo.C ⟨t,[]⟩ u g args u' qW;have:=aN (main:=È) (b:=base f) (k:=k) (cs:=fM L) (rest:=rest) ho hw (by simp[base]) qW;rw[ZnO _ h1 h2]at this;exact go (.uB ho hw qW h1 h2) ⟨_,this⟩
end
def lb(u:Ç):Prop:=∀(i:Nat)(o:Obj),u.heap[i]?=À o->¬Ai o
def lb.sH(h:lb u):sH u:=λi _ _ a=>h i _ a trivial
def xk(a:Ã->Ç->Prop):Prop:=∀v u T D,a v u->a v ((World.tp u T D))
section
variable{GL:Nat->Prop}{fu:Û->Prop}{Post:Ã->Ç->Prop}
def LS.OS{s s':St}(h:LS P s u s' W)(cs:List Ċ):∃j,à P È (s.nY cs) u=σ (s'.nY cs) W j:=by
 cases h with
 |@vx f t k L _ c x y b hc=>exact⟨_,ZnL hc⟩|yA e|yB e=>exact⟨_,by simp[St.nY,fm,base,G,à,ø,Frame.at,e];rfl⟩|@Cb f t k L _ id ops=>exact⟨_,Ť⟩|@Et f t k L _ ops i rest ho=>exact⟨_,by simp[St.nY,fm,base,G,à,ø,Frame.at,ho,ai];rfl⟩|@Es f t k L _ ops i rest o ho hw=>
  have:=Ι (P:=P) (main:=È) (b:=base f) (a:=⟨t,[]⟩) (k:=k) (cs:=L.map (λx=>fm x.1 x.2.1 x.2.2)++cs) (w:=u) (rest:=rest) ho hw;rw[uC]at this;exact⟨_,this⟩|@qc f t k L _ ops i rest o v _ ho hw hr=>
  have:=aL (main:=È) (b:=base f) (k:=k) (cs:=L.map (λx=>fm x.1 x.2.1 x.2.2)++cs) (rest:=rest) ho hw (by simp[base]) hr;rw[uC]at this;exact⟨_,this⟩|@Cc f t k L _ ops i rest o _ ho hw hr=>
  have:=ZnN (main:=È) (b:=base f) (k:=k) (cs:=L.map (λx=>fm x.1 x.2.1 x.2.2)++cs) (rest:=rest) ho hw (by simp[base]) hr;rw[uC]at this;exact⟨_,this⟩|@uB f t k L _ ops i rest o g args fn c _ ho hw hr hf hb=>
  have:=aN (main:=È) (b:=base f) (k:=k) (cs:=L.map (λx=>fm x.1 x.2.1 x.2.2)++cs) (rest:=rest) ho hw (by simp[base]) hr;rw[ZnO _ hf hb]at this;exact⟨_,this⟩|@yC f t k L _ g t' ops i rest k' v fn _ hf hr=>
  cases l:(Ė fn t).runT P u #[]with
  |mk r j=>
   have e:r=Ē v W:=by rw[<-hr,<-Ÿ P (Ė fn t) u #[],l]
   subst e;have d:=GX (main:=È) (k:=k) (c:=fm g t'<|Ø ops (i::rest)::k') (cs:=L.map (λx=>fm x.1 x.2.1 x.2.2)++cs) hf l;have x:=Ż (base g) ⟨t',[]⟩ ops i rest k' v;rw[uC]at x;unfold fm at d;rw[x]at d;exact⟨_,d⟩
 |_=>exact⟨_,Ap⟩
def LS.xl{s a:St}(h:LS P s u a w):Go.step P (LM s u)=Į (LM a w):=let⟨_,b⟩:=h.OS [rP];Ev b
def LS.OU(j:re P GL fu){s g:St}(h:LS P s u g w)(ok:Ok P GL fu s):Ok P GL fu g:=by
 have i:∀o a u f e w,oB P GL fu o->(ã (Ü a) o).run P u=Ē (Ŗ f e) w->fu f:=by exact λo a u f e w c d=>c.C a u f e w d
 refine⟨h.ok j i ok.r,?_,?_⟩;cases h with|uB c _ d _ _=>exact i _ _ _ _ _ _ (uG ok.r.fV _<|fg c) d|yC=>exact(ok.C _<|eZ ..).1|_=>exact ok.I
 cases h with
 |uB c _ d _ _=>
  intro x b;obtain rfl|b:=eK.1 b;exact⟨ok.I,_,_,_,_,U⟩;exact ok.C x b|yC=>exact λx b=>ok.C x<|fi _ b|_=>exact ok.C
def LS.kd{s c:St}{u b:Ç}(h:LS P s u c b)(ok:lA P GL fu s)(a:sH u):Kd u b:=by
 cases h with|qc k _ i|Cc k _ i|uB k _ i _ _=>exact(((uG ok.fV _<|fg k).r _).1 u a).1 _ _ i|yC _ i=>exact(OT.1 u a).1 _ _ i|Cb=>exact⟨id,λi o h k=>⟨o,h,k⟩⟩|_=>exact Kd.gy u
def LS.afK{s o:St}{u p:Ç}{T:Μ}{D:Nat}(h:LS P s ((World.tp u T D)) o p)(ok:lA P GL fu s):∃n v,p=(World.tp v T<|D+n)/\∀a b,xg T D a b n->LS P s ((World.tp u a b)) o ((World.tp v a<|b+n)):=by
 cases h with
 |qc c e g=>
  obtain⟨n,v,i⟩:=((uG ok.fV _<|fg c).r ⟨_,[]⟩).2 u T D;obtain⟨j,l⟩:=i _ _ g;exact⟨n,v,j,λa b d=> .qc c e (l a b d)⟩|Cc c e g=>
  obtain⟨n,v,i⟩:=((uG ok.fV _<|fg c).r ⟨_,[]⟩).2 u T D;obtain⟨j,l⟩:=i _ _ g;exact⟨n,v,j,λa b d=> .Cc c e (l a b d)⟩|uB c e g m q=>
  obtain⟨n,v,i⟩:=((uG ok.fV _<|fg c).r ⟨_,[]⟩).2 u T D;obtain⟨j,l⟩:=i _ _ g;exact⟨n,v,j,λa b d=> .uB c e (l a b d) m q⟩|yC m g=>
  obtain⟨n,v,i⟩:=(OT).2 u T D;obtain⟨j,l⟩:=i _ _ g;exact⟨n,v,j,λa b d=> .yC m (l a b d)⟩|@Cb f t k L _ id ops=>
  refine⟨1,u,U,λa b d=> ?_⟩;have g:=LS.Cb (P:=P) (f:=f) (t:=t) (k:=k) (L:=L) (u:=(World.tp u a b)) (id:=id) (ops:=ops);have i:((World.tp u a b)).tape ((World.tp u a b)).drawn=((World.tp u T D)).tape ((World.tp u T D)).drawn:=d.nG;rwa[i]at g|qY=>exact⟨0,u,U,λ_ _ _=> .qY⟩|qe=>exact⟨0,u,U,λ_ _ _=> .qe⟩|vw=>exact⟨0,u,U,λ_ _ _=> .vw⟩|Ak=>exact⟨0,u,U,λ_ _ _=> .Ak⟩|Ca=>exact⟨0,u,U,λ_ _ _=> .Ca⟩|yz=>exact⟨0,u,U,λ_ _ _=> .yz⟩|uD=>exact⟨0,u,U,λ_ _ _=> .uD⟩|vx h=>exact⟨0,u,U,λ_ _ _=> .vx h⟩|uE=>exact⟨0,u,U,λ_ _ _=> .uE⟩|Al=>exact⟨0,u,U,λ_ _ _=> .Al⟩|Am=>exact⟨0,u,U,λ_ _ _=> .Am⟩|An=>exact⟨0,u,U,λ_ _ _=> .An⟩|yA h=>exact⟨0,u,U,λ_ _ _=> .yA h⟩|yB h=>exact⟨0,u,U,λ_ _ _=> .yB h⟩|vy=>exact⟨0,u,U,λ_ _ _=> .vy⟩|GV=>exact⟨0,u,U,λ_ _ _=> .GV⟩|Es c e=>exact⟨0,u,U,λ_ _ _=> .Es c e⟩|Et c=>exact⟨0,u,U,λ_ _ _=> .Et c⟩
def oD.iG(c:re P GL fu)(hF:vC P fu)(g:∀v u,vQ v u->lb u):∀(n:Nat) {s:St} {u:Ç},Ok P GL fu s->sH u->oD P vQ n (LM s u)->lb u:=by
 intro n
 induction n with
 |zero=>
  intro s u a b h;obtain⟨_,_,_,_,v,_,_,d⟩|⟨m,_,_,e,_⟩:=h.I c hF a b;exact g v u d;cases e
 |succ n j=>
  intro s u a b h;obtain⟨e,_⟩|⟨m,w,x,e,d,k⟩:=h.I c hF a b;cases e;cases e;have f:=d.kd a.r b;intro i o l p;let⟨q,r,t⟩:=f.C i o l p;exact j (d.OU c a) (f.r b) k i q r t
def rN.afL(b:xk Post){s:St}(h:rN P Post s u)(T:Μ)(D:Nat):rN P Post s ((World.tp u T D)):=by
 cases h with|jm a S c=>exact .jm a S (b _ _ T D c)|kx S a h c d=>exact .kx S a h c d
def WQ(m:xk Post)(o:∀v u,vQ v u->Post v u){s:St}(c:s.r=È)(b:s.L=[])(e:∃g v,P.funcs[s.f]?=À g/\(Ė g s.t).run P ((World.tp u xQ i))=Ē v ((World.tp u xQ i))/\vQ v ((World.tp u xQ i))):rN P Post s u:=by
 obtain⟨f,t,k,z,L⟩:=s;simp only at c b;subst c b;obtain⟨g,v,p,q,r⟩:=e;refine .jm (v:=v) p (λh d=> ?_) ?_;obtain⟨n,w,c⟩:=(OT).2 u xQ i;obtain⟨b,e⟩:=c _ _ q;have x:n=0:=by
  have:((World.tp u xQ i)).drawn=((World.tp w xQ<|i+n)).drawn:=by rw[<-b]
  simp only[World.tp]at this;omega
 subst x;have y:(World.tp w h d)=(World.tp u h d):=by
  have a:((World.tp u xQ i)).heap=((World.tp w xQ<|i+0)).heap:=by rw[<-b]
  have j:((World.tp u xQ i)).os=((World.tp w xQ<|i+0)).os:=by rw[<-b]
  have l:((World.tp u xQ i)).output=((World.tp w xQ<|i+0)).output:=by rw[<-b]
  simp only[World.tp]at a j l|-;rw[a,j,l]
 have:=e h d (λa j=>by omega);rwa[show d+0=d from rfl,y]at this;have:=m v _ u.tape u.drawn<|o v _ r;exact this
structure KQ where
 s:St
 u:Ç
 D:Nat
 T:Μ
 n:Nat
structure KR(P:Ó)(GL:Nat->Prop)(fu:Û->Prop)(Post:Ã->Ç->Prop)(s0:St)(u0:Ç)(x:KQ):Prop where
 ok:Ok P GL fu x.s
 afM:sH x.u
 OV:¬rN P Post x.s x.u
 qw:∀T',(∀i,i<x.D->T' i=x.T i)->runN P x.n (LM s0<|(World.tp u0 T' 0))=Į (LM x.s<|(World.tp x.u T' x.D))
def WR{m:a8}{s:St}{N:Nat}(a:runN P n m=Į (LM s u))(e:oD P vQ N m):∃k,N=n+k/\oD P vQ k (LM s u):=by
 by_cases f:n<=N;obtain⟨k,rfl⟩:=ŭ f;refine⟨k,U,?_⟩;let⟨g,v,c,b,d⟩:=e;rw[Zoq,a]at b;exact⟨g,v,c,b,d⟩;obtain⟨k,rfl⟩:=Nat.exists_eq_add_of_lt<|b8 f;let⟨g,v,c,b,d,_⟩:=e;rw[show N+k+1=N+(k+1) by omega,Zoq,b]at a;simp only[runN,step_leave_returned d]at a;cases k with
 |zero=>
  simp only[runN,Stepped.next.injEq]at a;have:=(WO a).2.1;simp[fM]at this|succ k=>
  simp only[runN,(KP (P:=P) (fr:=rP) (cs:=[]) (w:=c) (es:=#[])<|by simp[G,à,ø,rP];exact⟨U,U⟩)]at a;cases a
theorem OW(f:re P GL fu)(hF:vC P fu)(t:xk Post)(C:∀v u,vQ v u->lb u)(E:∀v u,vQ v u->Post v u){j:St}(F:∀T,∃n,oD P vQ n<|LM j<|(World.tp w T 0)){x:KQ}(G:KR P GL fu Post j w x): ∃y:KQ,KR P GL fu Post j w y/\y.n=x.n+1/\x.D<=y.D/\∀i,i<x.D->y.T i=x.T i:=by
 let⟨s,u,D,T,n⟩:=x;let⟨ok,pend,l,q⟩:=G;simp only at ok pend l q;have H:∃y d,∀a g,LS P s ((World.tp u y d)) a g->Eo u g->¬rN P Post a g:=by
  refine Classical.byContradiction λo=>l ?_;have c:∀y d,∃p:St×World,LS P s ((World.tp u y d)) p.1 p.2/\Eo u p.2/\rN P Post p.1 p.2:=by simp_all
  exact .kx (λy d=>(Classical.choose<|c y d).1) (λy d=>(Classical.choose<|c y d).2) (λy d=>(Classical.choose_spec<|c y d).1) (λy d=>(Classical.choose_spec<|c y d).2.1) λy d=>(Classical.choose_spec<|c y d).2.2
 let⟨y,d,I⟩:=H;let p:Μ:=λi=>if i<D then T i else y (d+(i-D))
 have r:∀i,i<D->p i=T i:=λi h=>if_pos h;have J:=λi=>by show(if D+i<D then T (D+i)else y (d+(D+i-D)))=y (d+i);grind
 let⟨N,K⟩:=F p;let⟨k,_,L⟩:=WR (q p r) K;have b:sH ((World.tp u p D)):=pend;obtain⟨_,M,O,S⟩|⟨m,a,g,_,e,V⟩:=L.I f hF ok b;exact absurd (WQ t E M O S) l;obtain⟨c,v,rfl,z⟩:=e.afK ok.r;have W:¬rN P Post a v:=λX=>I a _ (z y d λi _=>(J i).symm) (λi o _ B=>(oD.iG f hF C m (e.OU f ok) ((e.kd ok.r b).r b) V) i o B)<|X.afL t y<|d+c;refine⟨⟨a,v,D+c,p,n+1⟩,⟨e.OU f ok,(e.kd ok.r b).r b,W,λo B=> ?_⟩,U,fD,r⟩;rw[Zoq,(q o λi h=>(B i<|by simp only;omega).trans<|r i h)];simp only[runN,(z o D λi h=>B (D+i)<|by simp only;omega).xl]
theorem afN(b:re P GL fu)(hF:vC P fu)(c:xk Post){Q:Ã->Ç->Prop}(g:∀v u,Q v u->lb u)(d:∀v u,Q v u->Post v u){a:St}(ok:Ok P GL fu a)(q:sH w)(f:∀T,∃n,oD P Q n<|LM a<|(World.tp w T 0)):rN P Post a w:=by
 refine Classical.byContradiction λr=> ?_;have s:KR P GL fu Post a w ⟨a,w,0,λ_ _=>0,0⟩:=⟨ok,q,r,λI _=>U⟩;let F:Nat->{x:KQ//KR P GL fu Post a w x}:=λk=>Nat.rec ⟨_,s⟩ (λ_ x=>⟨Classical.choose<|OW b hF c g d f x.2,(Classical.choose_spec<|OW b hF c g d f x.2).1⟩) k
 have l:=λk=>(Classical.choose_spec<|OW b hF c g d f (F k).2).2;have t:∀k,(F k).1.n=k:=by
  intro k
  induction k with|zero=>rfl|succ k e=>rw[(l k).1,e]
 have J:∀j k,(F j).1.D<=(F<|j+k).1.D/\∀i,i<(F j).1.D->(F<|j+k).1.T i=(F j).1.T i:=by
  intro j k
  induction k with
  |zero=>exact⟨eE _,λ_ _=>U⟩|succ k e=>
   have:=(l<|j+k).2;exact⟨â e.1 this.1,λi m=>(this.2 i<|ff m e.1).trans<|e.2 i m⟩
 have K:∀j k i,i<(F j).1.D->i<(F k).1.D->(F j).1.T i=(F k).1.T i:=by intro j k i e o;obtain h|h:=Nat.le_total j k;all_goals grind [ŭ]
 let T:Μ:=λi=>open Classical in if h:∃k,i<(F k).1.D then(F<|Classical.choose h).1.T i else λ_=>0
 have y:∀k i,i<(F k).1.D->T i=(F k).1.T i:=by intro k i m;have e:∃k,i<(F k).1.D:=⟨k,m⟩;show(open Classical in if h:∃k,i<(F k).1.D then(F<|Classical.choose h).1.T i else λ_=>0)=_;rw[dif_pos e];grind
 let⟨N,z⟩:=f T;have p:=(F N).2.qw T<|y N;rw[t N]at p;let⟨k,e,o⟩:=WR p z;have B:k=0:=Z
 subst B;have C:sH ((World.tp (F N).1.u T<|(F N).1.D)):=(F N).2.afM;obtain⟨_,E,G,H⟩|⟨m,_,_,e,_⟩:=o.I b hF (F N).2.ok C;exact(F N).2.OV<|WQ c d E G H;cases e
end
def OX(f:Û)(b:Func)(c:Ω)(a:Array Ã):St:=⟨f,a++Ĩ (b.ntmps-a.size) ĭ,[ā c],Ä,[]⟩
def WS(a:Array Ã)(b:P.funcs[F]?=À s)(d:s.body=À wX):Zor P F a .normal=(OX F s wX a).C:=ZnO a b d
def afO(b:re P X pJ)(hF:vC P pJ)(l:xk vQ)(g:pJ F)(j:P.funcs[F]?=À s)(k:s.body=À wX)(m:lb u)(o:∀T,Calls P F d ((World.tp u T 0)) fun|.returned v,u'=>vQ v u'/\lb u'|_,_=>False):rN P vQ (OX F s wX d) u:=by
 refine afN b hF l (Q:=λv u=>vQ v u/\lb u) (λv u h=>h.2) (λv u h=>h.1) ⟨⟨λi p=> ?_,λx h=>by cases h⟩,g,λx h=>by cases h⟩ m.sH λT=> ?_;rw[eY.1 p];exact .tF (b F g s wX j k);let⟨e,q,r,a,t,_,w⟩:=o T [rP];cases e with
 |returned v=>
  let⟨n,y⟩:=t;refine⟨n,r,v,q,?_,w,a⟩;rw[<-y,WS d j k];rfl|panicked n|outgrown=>exact a.elim
def afP(p:pH P)(b:re P X pJ)(hF:vC P pJ)(r:xk vQ)(m:pJ F)(e:P.funcs[F]?=À s)(h:s.body=À wX)(t:lb u)(y:∀T,Calls P F d ((World.tp u T 0)) fun|.returned v,u'=>vQ v u'/\lb u'|_,_=>False){Y:fL}{a n:Nat->Prop}(z:Y.gA=P.globals.size)(B:∀g,X g->Y g g)(o:gD Y d q)(C:rO Y a u w)(D:∀j,a j->j<w.heap.size)(E:∀i j,Y i j->a j->n j)(main:Bool)(k:Ċ)(l:List Ċ): xi P main n (GY Y a vQ k l) (fE Y a) (G (Zor P F q .normal)<|k::l) w:=by have:=(afO b hF r m e h t y).OS (main:=main) p b (Y:=Y) (GZ:=Y) (s':=OX F s wX q) (fL.I _) z B ⟨U,?_,U,U,.qY⟩ ⟨λi H=> ?_,λx I=>by cases I⟩ C D E k l;rw[WS q e h];exact this;show gD Y (d++_) (q++_);rw[o.r];exact o.H<|WJ _;rw[eY.1 H];exact .tF (b F m s wX e h)
def Ew:Ã->Bool|Ĭ _|ù _ _|Ĕ _|Ö Ú|bh Ú _ _|bj|ar|.chan Ú|.map Ú=>È|_=>Ä
def OY:Ã->Bool|.agg a|ŧ a=>a.all Ew|v=>Ew v
def G1(h:Ew v=È):kS v:=by
 cases v with
 |bool b=>exact .nA b|int k n=>exact .iZ k n|string s=>exact .ly s
 |pointer p=>cases p with|none=>exact .mN|some a=>cases h
 |slice p n c=>cases p with|none=>exact .oP n c|some a=>cases h
 |nilFunc=>exact .uq|nilIface=>exact .uu
 |chan p=>cases p with|none=>exact .uw|some a=>cases h
 |map p=>cases p with|none=>exact .uy|some a=>cases h
 |_=>cases h
def afQ(h:OY v=È):kS v:=by
 cases v with|agg b=>exact .pF λi a=>G1<|(ĳ.1 h) i a|tuple b=>exact .nD λi a=>G1<|(ĳ.1 h) i a|_=>exact G1 h
def yE(X:Nat->Bool):Ô->Bool|.tmp _=>È|.const v=>OY v|.global g=>X g|.func _=>È
theorem KS{g:Nat->Bool}(h:yE g qQ=È):nZ (λj=>g j=È) qQ:=by
 cases qQ with|tmp t=>exact .WB t|const v=>exact .WC (afQ h)|global j=>exact .WE h|func f=>exact .WG f
def OZ(P:Ó)(t:Â):Bool:=match P.underlying t with|some .bool|some (ũ _)|some ċ=>È|_=>Ä
def afR(h:OZ P t=È):vv P t:=by unfold OZ at h;split at h;rename_i e;exact Á e;rename_i k e;exact Å<|Á ⟨k,e⟩;rename_i e;exact Å<|Å e;cases h
def KT:Ô->Bool|.const (Ö Ú)=>È|_=>Ä
def WT(h:KT qQ=È):oS (y.eval qQ):=by unfold KT at h;split at h;trivial;cases h
def O0(P:Ó)(t:Â)(x y:Ô):Bool:=OZ P t||((match P.underlying t with|some (æ _)=>È|_=>Ä)&&(KT x||KT y))
theorem afS{a:aP}{y:Ô}(h:O0 P t qQ y=È):vv P t\/((∃e,P.underlying t=À (æ e))/\(oS (a.eval qQ)\/oS (a.eval y))):=by unfold O0 at h;obtain h|h:=cW.1 h;exact Á<|afR h;let⟨b,e⟩:=cV.1 h;refine Å ⟨?_,(cW.1 e).imp WT WT⟩;grind
def O1(P:Ó)(s d:Â):Bool:=match P.underlying s,P.underlying d with|some (ũ _),À (ũ _)|some ċ,À ċ=>È|_,_=>Ä
theorem afT(h:O1 P e t=È):(∃k a,P.underlying e=À (ũ k)/\P.underlying t=À (ũ a))\/(P.underlying e=À ċ/\P.underlying t=À ċ):=by unfold O1 at h;grind
def O2(P:Ó)(s:Â)(n:Nat):Bool:=match P.underlying s with
 |some (Zn9 fields)=>match fields[n]? with
  |some f=>match P.info? f.type with|some i=>i.size !=0|none=>Ä
  |none=>Ä
 |_=>Ä
def afU(h:O2 P e n=È):∀a f i,P.underlying e=À (Zn9 a)->a[n]?=À f->P.info? f.type=À i->i.size≠0:=by intro a f i b c d;simp only[O2,b,c,d]at h;simpa using h
def O3(P:Ó)(pJ:Û->Bool)(f:Û):Bool:=pJ f&&(match P.funcs[f]? with|some a=> !(a.name== "runtime.NumGoroutine")&&!a.body.isNone|none=>Ä)
theorem WU{g:Û->Bool}(h:O3 P g F=È):g F=È/\∃a,P.funcs[F]?=À a/\(a.name== "runtime.NumGoroutine")=Ä/\a.body.isNone=Ä:=by let⟨b,c⟩:=cV.1 h;grind
def WV(P:Ó):List Â->Bool|[_,t1]=>(match P.underlying t1 with|some (Zoa _)=>È|some ċ=>È|_=>Ä)|_=>Ä
def WW(P:Ó)(pJ:Û->Bool)(b:Callee)(a:List Ô)(c:List Â):Bool:=match b with|Č .len|Č .cap=>a.length==1|Č .copy=>a.length==2|Č .append=>a.length==2&&WV P c|bB (.func f)=>O3 P pJ f|_=>Ä
def Ex(P:Ó)(pJ:Û->Bool):Op->Bool|.move _|.assign _|.pick _ _ _|.alloc _|.box _ _|.build _ _|.buildSlice _ _ _|.load _ _|.store _ _ _|.nilCheck _|.unOp _ _ _|.makeSlice _ _ _|.slice _ _ _ _ _|.field _ _ _|.indexAddr _ _ _|.index _ _ _|.extract _ _=>È|Zow c t x y _=>if c==κ||c==ψ then O0 P t x y else È|ω s d _=>O1 P s d|.fieldAddr s _ n=>O2 P s n|ź c=>WW P pJ c.callee c.args.toList c.argTypes.toList|_=>Ä
def KU{a:Array Ô}(h:(a.toList.length==1)=È):∃x,a=#[x]:=by
 let⟨l⟩:=a;match l,h with|[x],_=>exact⟨x,U⟩
def O4{a:Array Ô}(h:(a.toList.length==2)=È):∃x y,a=#[x,y]:=by
 let⟨l⟩:=a;match l,h with|[x,y],_=>exact⟨x,y,U⟩
def afV{g:Û->Bool}{k:Op}(h:Ex P g k=È)(a:aP):lz P a.eval k:=by
 cases k with
 |binOp o t x y r=>
  refine .Er o t x y r λe=> ?_;have:(o==κ||o==ψ)=È:=by obtain rfl|rfl:=e<;>rfl
  simp only[Ex,if_pos this]at h;exact afS h|convert s d x=>exact .OC _ _ _ (afT h)|fieldAddr s x n=>exact .OE _ _ _ (afU h)|call c=>
  let⟨z,B,j⟩:=c;simp only[Ex]at h;unfold WW at h;split at h;obtain⟨x,rfl⟩:=KU h;exact .GJ x j;obtain⟨x,rfl⟩:=KU h;exact .GK x j;obtain⟨x,y,rfl⟩:=O4 h;exact .GM x y j;let⟨q,f⟩:=cV.1 h;obtain⟨x,y,rfl⟩:=O4 q;let⟨l⟩:=j;match l,f with
  |[t0,t1],f=>
   refine .GN x y t0 t1 ?_;simp only[WV]at f;split at f;rename_i e m;exact Á ⟨e,m⟩;rename_i m;exact Å m;cases f
  .exact .iA _ _ _ U (WU h).2
  cases h
 |move x=>exact .Aj x|assign x=>exact .GH x|pick c a b=>exact .yx c a b|alloc t=>exact .gO t|box t x=>exact .KB t x|build t p=>exact .Oz t p|buildSlice t n p=>exact .OA t n p|load t a=>exact .ij t a|store t a x=>exact .jN t a x|nilCheck x=>exact .GI x|unOp o t x=>exact .OB o t x|makeSlice t l c=>exact .OD t l c|slice t x u v w=>exact .kZ t x u v w|field t x n=>exact .OG t x n|indexAddr t x i=>exact .OH t x i|index t x i=>exact .OI t x i|extract x n=>exact .Gu x n|_=>simp[Ex]at h
def O5(P:Ó)(X:Nat->Bool)(pJ:Û->Bool)(o:Α):Bool:=Ex P pJ o.op&&o.op.operands.all (yE X)
def afW{X:Nat->Prop}{pJ:Û->Prop}{o:Α}(op:∀a:aP,lz P a.eval o.op)(opd:∀x∈o.op.operands,nZ X x)(calls:∀f args ts,o.op=ź {callee:=bB<|.func f,args:=args,argTypes:=ts}->pJ f):oB P X pJ o where
 oC hz hb hG ht hW hl x u' hr hc:=(Wl hz hW.C hb (λf=>U) (op _) λx hx=>yD hG ht<|opd x hx).gR hW hl hr hc #[];r a:=afy<|op a;I a u n u' hr:=afI (op a) hr;C a u f c u' hr:=let⟨zs,ts,e⟩:=afD (op a) hr;calls f zs ts e
theorem afX{g:Nat->Bool}{k:Û->Bool}(h:O5 P g k o=È):oB P (λj=>g j=È) (λf=>k f=È) o:=by let⟨j,b⟩:=cV.1 h;refine afW (λa=>afV j a) (λx a=>KS ?_) λf a x e=> ?_;grind [ķ];rw[e]at j;exact(WU<|show O3 P k f=È from j).1
section
variable{Y:fL}
def Ey(m:(Ô->Ã)->ă Ã)(e:∀b,ã b o=m b>>=λv=>pure<|ä v)(hrel:∀(Y:fL)(b g:Ô->Ã),pH P->Bi Y->Y.gA=P.globals.size->(∀x∈o.op.operands,fI Y (b x)<|g x)->lV P fI Y (m b) (m g))(h:∀b,fZ P<|m b)(i:∀x∈o.op.operands,nZ X x):oB P X pJ o where
 oC hz hb hG ht hW hl x u' hr hc:=by rw[e]at hr|-;exact(Wh<|hrel _ _ _ hz hW.C hb λx d=>yD hG ht<|i x d).gR hW hl hr hc #[]
 r a:=by rw[e];exact nH<|h _
 I a u n u' hr:=by
  rw[e,Æ]at hr;cases d:(m a.eval).run P u with
  |ok v w=>rw[d]at hr;cases hr;exact Á ⟨v,U⟩
  |halt z w=>rw[d]at hr;cases hr
 C a u f c u' hr:=by
  rw[e,Æ]at hr;cases d:(m a.eval).run P u with|ok v w|halt z w=>rw[d]at hr;cases hr
theorem afY(a:o.op=ZnP t qQ)(b:∀y∈o.op.operands,nZ X y):oB P X pJ o:=by refine Ey (λd=>ŋ t<|d qQ) (λd=> ?_) (λY d c _ _ _ h=> .gA ?_) (λd=> ?_) b;rw[ã,a];unfold ŋ;apply ga (jK t);rintro e d _ c ⟨rfl,_⟩;split;exact .gB;exact .fY (.xc t ((h qQ<|by rw[a];simp[Ë]).fG c));unfold ŋ;grind [jL,qd,Wu,jC]
theorem afZ(c:Sys):qt P (sys c):=by
 intro u hu;refine⟨λx u' e=> ?_,λz u' e=>by cases e⟩;have:u'.heap=u.heap:=by
  simp only[sys,Ù]at e;cases e;unfold World.sys;have ask:∀{γ:Type} (b:Ask γ) (w:Ç),(w.ask b).2.heap=w.heap:=by
   intro γ b
   induction b with
   |done a=>intro w;rfl|ask what range k ih=>
    intro w;simp only[World.ask];split;exact ih 0 w;exact ih _ _
  grind
 exact⟨λh i c e he=>h i c e (by rwa[<-this]),λi o he ho=>⟨o,by rwa[this],ho⟩⟩
theorem WX(x:Ã):∀u y a,(ť x).run P u≠Ē y a:=by
 unfold ť;cases x<;>simp only[]<;>first|exact Oy|skip
 grind [GB,V3,tD]
@[simp]def af0 (x:Ã):fZ P (ť x):=by
 refine⟨?_,OL<|WX x⟩
 unfold ť
 cases x<;>simp only[]<;>first|exact GR U|skip
 refine KE ?_ λa=> ?_
 .unfold Instr.panicnil
  refine KE (afZ _) λr=> ?_
  cases r<;>first|exact GR U|skip
  exact KE Wn λ_=>Wm _
 .split
  .exact GR U
  .exact(aeY _).1
def af2(b:o.op=.panic qQ)(c:∀y∈o.op.operands,nZ X y):oB P X pJ o:=by refine Ey (λa=>ť<|a qQ) (λa=> ?_) (λY a d _ _ _ h=> .gA (.qp (WX _))) (λa=>af0 _) c;rw[ã,b]
def af3(c:fI Y x v)(d:fI Y z jQ):gh P fI Y (ğ x z) (ğ v jQ):=by
 cases c<;>cases d<;>first|exact .gB|exact .fY (.iZ _ _)|skip
 refine ga (V:=fI) (.fY (.nA _)) λf a g _ e=> ?_;apply ga (VY e);rintro h b _ _ rfl;exact .fY (.ly _)
@[simp]def af4 (x y:Ã):fZ P (ğ x y):=by
 unfold ğ
 exact nz
def af5:∀{l b:List Ã} {Y:fL} {x c:Ã},fI Y x c->gD Y l.toArray b.toArray->gh P fI Y (l.foldlM ğ x) (b.foldlM ğ c):=by
 intro l
 induction l with
 |nil=>
  intro b Y x c d a;have:b=[]:=by have:=a.r;simp at this;exact ó this.symm
  subst this;rw[ż,ż];exact .fY d|cons v l e=>
  intro b Y x c d a;match b,a with
  |[],a=>have:=a.r;simp at this|v'::b,a=>
   rw[Ů,Ů];refine ga (af3 d (by have:=a.C 0 fD fD;simpa using this)) ?_;intro k y m f g;refine e g ⟨by have:=a.r;simpa using this,λj h i=> ?_⟩;have:=a.C (j+1) (by simp at h|-;omega) (by simp at i|-;omega);exact(by simpa using this:fI Y _ _).fG f
@[simp] theorem WY:∀(l:List Ã)(x:Ã),fZ P<|l.foldlM ğ x|[],x=>by rw[ż];exact jL _|v::l,x=>by rw[Ů];exact jC (af4 _ _) λy=>WY l y
def af6(a:Array Â)(t:Â)(h:gD Y d q):gh P fI Y (Ĵ a t d) (Ĵ a t q):=by
 let⟨l⟩:=d;let⟨b⟩:=q;unfold Ĵ;match l,b,h with
 |[],_,_=>exact .gB|v::l,[],h=>have:=h.r;simp at this|v::l,v'::b,h=>
  refine af5 (by have:=h.C 0 fD fD;simpa using this) ⟨by have:=h.r;simpa using this,λj e f=> ?_⟩;have:=h.C (j+1) (by simp at e|-;omega) (by simp at f|-;omega);exact(by simpa using this:fI Y _ _)
@[simp] theorem af7 (a:Array Â) (t:Â) (c:Array Ã):fZ P (Ĵ a t c):=by
 let⟨l⟩:=c
 unfold Ĵ
 grind [qd,WY]
def af8{b:Array Ô}(c:o.op=ź {callee:=Č .min,args:=b,argTypes:=bX})(d:∀y∈o.op.operands,nZ X y):oB P X pJ o:=by refine Ey (λa=>Ĵ bX o.type<|b.map a) (λa=> ?_) (λY a f _ _ _ h=> .gA (af6 _ _<|Wj b λz e=>h z<|by rw[c];simp[Ë,ì,e])) (λa=>af7 _ _ _) d;rw[ã,c];simp only[ć,Ę,ħ,pure_bind]
def af9{f g:Ã->gX->ă (ForInStep gX)}(k:∀a v e b,Y.r a->fI a v e->gh P kj a (f v b) (g e b)):∀{l d:List Ã} {a:fL} (b:gX),Y.r a->gD a l.toArray d.toArray->gh P kj a (forIn l b f) (forIn d b g):=by
 intro l
 induction l with
 |nil=>
  intro d a b _ c;have:d=[]:=by have:=c.r;simp at this;exact ó this.symm
  subst this;rw[Κ,Κ];exact .fY U|cons v l m=>
  intro d a b h c;match d,c with
  |[],c=>have:=c.r;simp at this|e::d,c=>
   rw[bV,bV];refine ga (k a v e b h (by have:=c.C 0 fD fD;simpa using this)) ?_;rintro p r _ i rfl;cases r with
   |done b=>exact .fY U|yield b=>
    apply m b (fL.C h i);refine⟨by have:=c.r;simpa using this,λj n o=> ?_⟩;have:=c.C (j+1) (by simp at n|-;omega) (by simp at o|-;omega);exact(by simpa using this:fI a _ _).fG i
theorem WZ{f:Ã->gX->ă (ForInStep gX)}(a:∀v b,fZ P<|f v b):∀(l:List Ã)(b:gX),fZ P<|forIn l b f
 |[],b=>by rw[Κ];exact jL _
 |v::l,b=>by
  rw[bV];refine jC (a v b) λr=> ?_;cases r with|done b=>exact jL _|yield b=>exact WZ a l b
def aga(d:fI Y x v):gh P fI Y (ò x) (ò v):=by
 cases d<;>first|exact .gB|exact .fY (.ly _)|skip
 rename_i h n c;unfold ò;apply ga (Ot h n);intro e j l m f;simp only[<-cz];refine ga (af9 (Y:=e) ?_ _ (fL.I _) f) ?_;intro g a o b _ i;cases i<;>first|exact .gB|skip
 rename_i k n;cases k<;>first|exact .gB|exact .fY U
 rintro g s _ _ rfl;exact .fY (.ly _)
@[simp] theorem agb (x:Ã):fZ P (ò x):=by
 unfold ò
 split
 .exact jL _
 .refine jC (ae2 _ _) λa=> ?_
  simp only[<-cz]
  grind [jC,WZ,jL,qd]
 .exact qd _
theorem agc(g:o.op=ω t T qQ)(j:P.underlying t=À (Zoa e))(k:P.underlying T=À ċ)(l:P.underlying e=À (ũ .u8))(m:∀y∈o.op.operands,nZ X y):oB P X pJ o:=by
 refine Ey (λa=>Ł t T<|a qQ) (λa=> ?_) (λY a f _ _ _ h=> .gA ?_) (λa=> ?_) m;rw[ã,g];unfold Ł;apply ga (jK t);rintro w z _ n ⟨rfl,b⟩;rw[j]at b;injection b with b;subst b;apply ga (jK T);rintro p B _ q ⟨rfl,c⟩;rw[k]at c;injection c with c;subst c;have i:=((h qQ<|by rw[g];simp[Ë]).fG n).fG q;have r:gh P fI p (ð e>>=λy=>match y with|ũ .u8=>ò (a qQ)|ũ .i32=>π (a qQ)|_=>stuck "Convert: a slice of what to string?") (ð e>>=λy=>match y with|ũ .u8=>ò (f qQ)|ũ .i32=>π (f qQ)|_=>stuck "Convert: a slice of what to string?"):=by refine ga (jK e) ?_;rintro C D _ u ⟨rfl,h⟩;rw[l]at h;injection h with h;subst h;exact aga<|i.fG u
 generalize a qQ=v at*;generalize f qQ=v' at*;cases i<;>first|exact r|exact .gB|exact .fY (.ly _)|skip
 unfold Ł;grind [yy,agb,afs,jL]
end
section
variable{Y:fL}
def W0(hrel:∀(Y:fL)(a d:aP),pH P->Bi Y->Y.gA=P.globals.size->(∀x∈o.op.operands,fI Y (a.eval x)<|d.eval x)->lV P rK Y (ã a.eval o) (ã d.eval o))(h:∀a:aP,fZ P<|ã a.eval o)(g:∀(a:aP)(u:Ç)(n:ŷ)(b:Ç),(ã a.eval o).run P u=Ē n b->∃v,n=ä v)(i:∀x∈o.op.operands,nZ X x):oB P X pJ o where
 oC hz hb hG ht hW hl x b hr hc:=(hrel _ ⟨_,[]⟩ ⟨_,[]⟩ hz hW.C hb λx e=>yD hG ht<|i x e).gR hW hl hr hc #[];r a:=h a;I a u n b hr:=Á<|g a u n b hr;C a u f c b hr:=by let⟨v,e⟩:=g a u _ b hr;cases e
def agd{e:Array Ã->ă Ã}(d:o.op=ź {callee:=bB<|.func F,args:=#[qQ],argTypes:=bX})(j:P.funcs[F]?=À s)(k:(s.name== "runtime.NumGoroutine")=Ä)(l:s.body.isNone=È)(m:Extern.findNext s=Ú)(q:Extern.find s=À e)(hrel:∀(Y:fL)(v g:Ã),fI Y v g->gh P fI Y (e #[v]) (e #[g]))(r:∀v,fZ P<|e #[v])(t:∀y∈o.op.operands,nZ X y):oB P X pJ o:=by
 have b:∀a:aP,ã a.eval o=ģ F #[a.eval qQ]:=by intro a;rw[ã,d];simp only[ć,Ü,ĝ,Ę,pure_bind,cA,dK,eJ,dR,dG]
 have i:∀(v:Ã)(u:Ç),(ģ F #[v]).run P u=(mark (.extern F)>>=λ_=>e #[v]>>=λy=>pure (ä y):ă ŷ).run P u:=by intro v u;unfold ģ;simp_all
 refine W0 (λY a w _ _ _ h=> ?_) (λa=> ?_) (λa u n B c=> ?_) t;rw[b,b];unfold ģ;refine .gA (ga tA ?_);rintro E p G w ⟨z,C⟩;rw[z,C];simp only[j,k,l,m,q,Î,if_false,if_true];apply ga (V:=kj) (.Ei (Å ⟨F,U⟩) (.fY U));exact λH _ _ D _=>oA (hrel _ _ _<|((h qQ<|by rw[d];simp[Ë,ì]).fG w).fG D);rw[b];exact KH (i _) (jC (OQ _) λ_=>nH<|r _);rw[b,i,Æ]at c;simp only[mark,Ù,É]at c;have:Ù P (e #[a.eval qQ]>>=λy=>pure (ä y):ă ŷ) u=Ē n B:=c;rw[Æ]at this;cases h:(e #[a.eval qQ]).run P u with
 |ok v w=>rw[h]at this;cases this;exact⟨v,U⟩
 |halt z w=>rw[h]at this;cases this
def agf(x a:Ã)(h:fI Y x a):gh P fI Y (į #[x]) (į #[a]):=.fY h
@[simp]def agh (x:Ã):fZ P (į #[x]):=jL _
def W3:∀(n t:Nat) {c a:Array Ã},gD Y c a->gD Y (Ķ n t c) (Ķ n t a)|0,_,_,_,h=>h|n+1,t,_,_,h=>W3 n (t/256)<|h.G<|.iZ _ _
def agi(b:Array Â)(t:Â)(v c:Ã)(h:fI Y v c):gh P fI Y (ý b #[t] #[v]) (ý b #[t] #[c]):=by
 cases h<;>first|exact .gB|skip
 rename_i k n;cases k<;>first|exact .gB|skip
 apply ga (jK t);rintro j d _ l ⟨rfl,_⟩;cases d<;>first|exact .gB|skip
 rename_i e _;simp only[];split;exact .qp (yr<|tD _);apply uA (.B3 λn=> .fY U);intro m f _;apply uA (Ox _);intro o _ _;apply uA (.B3 λn=> .fY U);intro p g _;apply ga (B7 e<|W3 f g<|gD.N _);exact λq a r _ i=> .fY (.kZ i _ _)
@[simp]def agj (a:Array Â) (t:Â) (v:Ã):fZ P (ý a #[t] #[v]):=by
 cases v<;>first|exact qd _|skip
 rename_i k n
 cases k<;>first|exact qd _|skip
 refine jC (Wu t) λd=> ?_
 cases d<;>first|exact qd _|skip
 exact nz
def agk(f:Array Â)(t:Â)(j:fI Y x v):lV P fI Y (ĉ f t #[x]) (ĉ f t #[v]):=by
 cases j<;>first|exact .gA .gB|exact .gA (.fY .mN)|skip
 rename_i a g h n c;change lV P fI Y (ite _ _ _) (ite _ _ _);by_cases i:c≠0;simp only[if_pos i];exact .gA (.fY (.kn h));simp only[if_neg i];apply mC (Kz h.1);rintro l b m o ⟨rfl,rfl⟩;simp only[eW,Î,if_false];refine mC (V0:=λ_ a g=>a=g) ?_ ?_;unfold ŗ;apply ga (jK t);rintro k d _ p ⟨rfl,_⟩;cases d<;>first|exact .gB|exact .fY U
 rintro k e _ _ rfl;exact .Em trivial
@[simp]def agl (b:Array Â) (t:Â) (x:Ã):fZ P (ĉ b t #[x]):=by
 cases x<;>first|exact qd _|skip
 rename_i p n c
 cases p with
 |none=>exact jL _|some a=>
  change fZ P (ite _ _ _)
  repeat' (first|(with_reducible first|refine KF _ ?_|refine jC ?_ λ_=> ?_)|split|exact nz)
def agm(b:o.op=ź {callee:=Č aE,args:=#[qQ],argTypes:=bX})(c:∀y∈o.op.operands,nZ X y):oB P X pJ o:=by refine Ey (λa=>ĉ bX o.type #[a qQ]) (λa=> ?_) (λY a d _ _ _ h=>agk _ _<|h qQ<|by rw[b];simp[Ë,ì]) (λa=>agl _ _ _) c;rw[ã,b];simp only[ć,Ę,ħ,pure_bind,eJ,dR,dG]
end
section
variable{Y:fL}{f:Nat->Prop}
def W4(h:iM Y a p):gh P iM Y (Ŧ a) (Ŧ p):=by unfold Ŧ;apply ga (Kz h.1);rintro c x d b ⟨rfl,rfl⟩;exact .fY (h.fG b)
def agn{r:Nat}(h:Y r i):gh P (λ_ c q=>∃n a,c=À n/\q=À a/\n<=a) Y (Zoi r) (Zoi i):=.xe h λ_ n a c=> .fY ⟨n,a,U,U,c.elim (λq=>by omega) λq=>q.1⟩
def W5(h:iM Y a p)(t:Â)(n:Nat):gh P (λ_ b e=>b=È->e=È) Y (ö a t n) (ö p t n):=by unfold ö;apply ga tA;rintro i b j c ⟨d,f⟩;rw[d,f];refine .xe (c.1 _ _ h.1) λe m k g=> ?_;rw[h.2.1];exact .fY λq=>V9 (Δ<|g.elim (λq=>by omega) λq=>q.1) q
@[simp]def avG (a:Õ):fZ P (Ŧ a):=by
 unfold Ŧ
 exact nz
@[simp] theorem avH (r:Nat):fZ P (Zoi r):=by
 unfold Zoi
 grind [jL,GU,ae0,jC]
@[simp] theorem avI (a:Õ) (t:Â) (n:Nat):fZ P (ö a t n):=by
 unfold ö
 grind [jL,Wr,GU,jC]
theorem agp(l:P.underlying e=À (æ t))(m:P.underlying T=À Ă)(o:fI Y x v):lV P fI Y (î e T x) (î e T v):=by
 unfold î;apply mC (jK e);rintro z B _ p ⟨rfl,f⟩;rw[l]at f;injection f with f;subst f;apply mC (jK T);rintro C D _ q ⟨rfl,g⟩;rw[m]at g;injection g with g;subst g;have r:=(o.fG p).fG q;cases r<;>first|exact .gA .gB|exact .gA (.fY .mN)|skip
 rename_i a E h;apply mC (W4 h);intro F b j G i;apply mC (agn i.1);rintro H c I u ⟨w,J,rfl,rfl,K⟩;apply mC (oR t);rintro L n _ y ⟨rfl,_⟩;rw[i.2.1,i.2.2];simp only[];by_cases k:(decide (n=0)||(decide (j.off≥w)&&j.spot.isNone))=È;rw[if_pos k];exact .Em trivial;rw[if_neg k,if_neg];exact .gA (.fY (.kn ((i.fG u).fG y)));grind
theorem agq{d:Â}(l:P.underlying T=À Ă)(o:P.underlying d=À (æ t))(q:fI Y x z):lV P fI Y (î T d x) (î T d z):=by
 unfold î;apply mC (jK T);rintro F G _ r ⟨rfl,f⟩;rw[l]at f;injection f with f;subst f;apply mC (jK d);rintro H I _ w ⟨rfl,g⟩;rw[o]at g;injection g with g;subst g;have y:=(q.fG r).fG w;cases y<;>first|exact .gA .gB|exact .gA (.fY .mN)|skip
 rename_i a J h;apply mC (W4 h);intro K b B L i;apply mC (oR t);rintro M n _ j ⟨rfl,_⟩;apply mC (W5 (i.fG j) t 1);rintro C v N D O;have Q:lV P fI C (pure<|Ö<|À b) (pure<|Ö<|À B):=.gA (.fY (.kn ((i.fG j).fG D)));by_cases E:(decide (n=0)||v)=È;grind;rw[if_neg E];refine .En λu x S c=> ?_;rw[Æ]at c;simp only[bE,Ù,É]at c;cases k:u.shape? b.block with
 |none=>rw[k]at c;cases c
 |some p=>
  let⟨e,m⟩:=p;rw[k]at c;simp only[Æ,õ,É]at c;split at c;cases c;cases c;exact⟨u.heap.size,.view b t,eE _,fD,trivial⟩
theorem agr(h:(P.underlying e=À (æ t)/\P.underlying T=À Ă)\/(P.underlying e=À Ă/\P.underlying T=À (æ t)))(x:Ã):fZ P (î e T x):=by
 unfold î;obtain⟨b,c⟩|⟨b,c⟩:=h<;>refine yy b<|yy c ?_;all_goals
  cases x<;>first|exact qd _|skip
  rename_i p;cases p with
  |none=>exact jL _|some a=>
   repeat' (first|(with_reducible first|refine KF _ ?_|refine jC ?_ λ_=> ?_)|split|exact nz)
theorem W6(b:o.op=ω e T qQ)(h:(P.underlying e=À (æ t)/\P.underlying T=À Ă)\/(P.underlying e=À Ă/\P.underlying T=À (æ t)))(c:∀y∈o.op.operands,nZ X y):oB P X pJ o:=by refine Ey (λa=>Ł e T<|a qQ) (λa=> ?_) (λY a g _ _ _ f=> ?_) (λa=> ?_) c;rw[ã,b];unfold Ł;apply mC (jK e);rintro i j _ a ⟨rfl,k⟩;apply mC (jK T);rintro l m _ g ⟨rfl,n⟩;have p:=((f qQ<|by rw[b];simp[Ë]).fG a).fG g;grind [agp,agq];unfold Ł;grind [agr,yy]
theorem agt(a:Õ)(n:Nat):qt P (freeze a n):=by
 intro u f;refine⟨λx b e=> ?_,λz b e=>by cases e⟩;cases e;unfold Ć;split;exact Kd.gy u;refine Wo (λo d=> ?_) λo c e h=> ?_;cases o<;>first|exact d.elim|trivial
 grind
@[simp]def avJ (a:Õ) (n:Nat):fZ P (freeze a n):=by
 refine⟨agt a n,λu T D=>⟨0,u.freeze a n,λx b e=> ?_⟩⟩
 have c:∀T D,(World.tp u T D).freeze a n=World.tp (u.freeze a n) T D:=by
  intro T D
  unfold Ć
  split<;>rfl
 simp_all
def W7:∀(n:Nat) {Y:fL} {a c:Õ} (d:ByteArray),iM Y a c->gh P kj Y (ą a d n) (ą c d n)
 |0,_,_,_,_,_=> .fY U
 |n+1,Y,a,c,d,h=>by
  unfold ą;apply ga (Kv h);intro g v i e f;cases f<;>first|exact .gB|skip
  rename_i k b;cases k<;>first|exact .gB|exact W7 n _<|(h.fG e).r 1
@[simp]def agu:∀(n:Nat)(a:Õ)(b:ByteArray),fZ P<|ą a b n
 |0,_,_=>jL _
 |n+1,a,b=>by
  unfold ą
  refine jC (KG _ _) λv=> ?_
  split
  .exact agu n _ _
  .exact qd _
def ky(pt:Â)(a:Õ)(n:Nat):ă ByteArray:=do
 if<-ö a (<-ŗ pt) n then ą a .empty n else unsupported (Œ "String: not so many bytes at ptr")
def agv(pt:Â)(h:iM Y a p)(n:Nat):gh P kj Y (ky pt a n) (ky pt p n):=by
 unfold ky;refine ga (V:=kj) ?_ ?_;unfold ŗ;apply ga (jK pt);rintro f d _ c ⟨rfl,_⟩;cases d<;>first|exact .gB|exact .fY U
 rintro i e _ d rfl;apply ga (W5 (h.fG d) e n);rintro f b j c g;cases b with|true=>rw[g U];exact W7 n _<|(h.fG d).fG c|false=>exact .gB
def agw[B2 P](F:jI Y f u w)(h:iM Y a p){pt:Â}(G:∀u l j,(ŗ pt).run P u=Ē l j->∃k,P.underlying l=À (ũ k))(g:(ky pt a<|n+1).run P u=Ē B W):¬f p.block:=by
 intro H;let⟨c,L,e,M,N,r,O,Q,t,_⟩:=F.r _ _ h.1;let⟨_,_,_,_,o⟩:=t H;rw[ky,Æ]at g;cases i:(ŗ pt).run P u with
 |halt z x=>rw[i]at g;cases g
 |ok l j=>
  have I:j=u:=by
   rw[ŗ,Æ]at i;rw[ð,Æ,õ]at i;simp only[É]at i;cases D:P.underlying pt with
   |none=>rw[D]at i;cases i
   |some d=>
    rw[D]at i;cases d<;>cases i<;>rfl
  subst I;rw[i]at g;simp only[É]at g;rw[Æ]at g;have y:∃b,(ö a l<|n+1).run P j=Ē b j:=by rw[ö,Æ,õ];simp only[É];rw[Æ];simp only[bE,Ù,É];split<;>exact⟨_,U⟩
  obtain o|o:=o;rotate_left;let⟨k,J⟩:=G _ _ _ i;have K:(ö a l<|n+1).run P j=Ē Ä j:=by
   rw[ö,Æ,õ];simp only[É];rw[Æ];simp only[bE,Ù,É];have t:j.shape? a.block=À (e,c.size):=by simp[Ű,r]
   rw[t];simp only[Nat.div_eq_of_lt<|B2.lt e c.size o,aei J];rfl
  rw[K]at g;cases g;let⟨b,y⟩:=y;rw[y]at g;simp only[É]at g;split at g;rw[ą,Æ]at g;simp only[au,Ù]at g;cases C:j.cell? a with
  |none=>
   rw[C]at g;simp only[ĺ,r]at g;cases g
  |some v=>
   rw[C]at g;simp only[É]at g;have q:=C;rw[B5 r]at q;cases E:a.spot with
   |some x=>rw[E]at q;cases q
   |none=>
    rw[E]at q;have:=o _ _ (by simpa using q);cases v<;>first|(cases g;done)|skip
    rename_i k m;cases k<;>first|(cases g;done)|cases this
  .cases g
end
section
variable{Y:fL}{d:Nat->Prop}
def Ar(a:Â)(p:Option Õ)(n:Int):ă Ã:=á #[a] a #[Ö p,ù Ĺ n]
def As(pt a t:Â)(p:Option Õ)(k:ñ)(n:Int):á #[pt,a] t #[Ö p,ù k n]=Ar pt p n:=by cases p<;>rfl
section
variable{pt:Â}{p:Option Õ}
def W8(a:h<0):∃c,∃k:PUnit->ă Ã,Ar pt p h=(runtimePanic c>>=k):=⟨_,_,if_pos a⟩
def W9(a:¬h<0)(b:h>Ĺ.max):∃c,Ar pt p h=unsupported (Œ c):=⟨_,(if_neg a).trans<|if_pos b⟩
def O6(a:¬h<0)(b:¬h>Ĺ.max)(c:h=0):Ar pt p h=pure (Ĕ .empty):=by cases p<;>exact(if_neg a).trans<|(if_neg b).trans<|if_pos c
def agx(a:¬h<0)(b:¬h>Ĺ.max)(d:¬h=0):∃c,Ar pt Ú h=runtimePanic c:=⟨_,(if_neg a).trans<|(if_neg b).trans<|if_neg d⟩
end
def Xa(pt:Â)(a:Õ)(c:¬h<0)(d:¬h>Ĺ.max)(e:¬h=0): Ar pt (À a) h=(ky pt a h.toNat>>=λs=>freeze a h.toNat>>=λ_=>pure<|Ĕ s):=by refine((if_neg c).trans<|(if_neg d).trans<|if_neg e).trans ?_;unfold ky;show _=Þ (Þ _ _) _;rw[ņ];congr 1;funext et;show Þ _ _=Þ (Þ _ _) _;rw[ņ];congr 1;funext b;cases b<;>rfl
@[simp]def agy (pt:Â) (p:Option Õ) (n:Int):fZ P (Ar pt p n):=by
 cases p<;>show fZ P (if n<0 then _ else _)<;>exact nz
theorem agz(_hW:jI Y d u w):∀(n:Nat) {a i:Õ} {j s:ByteArray},iM Y a i->a.spot=Ú->(ą a j n).run P u=Ē s W->∀c e f,u.heap[a.block]?=À (Ā c e f)->a.off<=c.size->a.off+n<=c.size:=by
 intro n
 induction n with
 |zero=>intro a i j s _ _ _ c e f _ r;exact r|succ n t=>
  intro a i j s h p b c e f l _;rw[ą,Æ]at b;simp only[au,Ù]at b;cases o:u.cell? a with
  |none=>
   rw[o]at b;simp only[ĺ,l]at b;cases b
  |some v=>
   rw[o]at b;simp only[É]at b;have q:=o;rw[B5 l,p]at q;have y:=(fp.1<|by simpa using q).1;cases v<;>first|(cases b;done)|skip
   rename_i k m;cases k<;>first|(cases b;done)|skip
   have g:a.add 1={a with off:=a.off+1}:=by unfold Addr.add;grind
   have x:=h.r 1;have:=t x (by rwa[g]) b c e f (by rwa[g]) (by rw[g];simp only;omega);rw[g]at this;simp only at this;omega
end
section
variable{Y:fL}{g:Nat->Prop}
def O7(pt a t:Â)(p:Option Õ)(y:Ã):á #[pt,a] t #[Ö p,y]=(Zoj y>>=λn=>Ar pt p n):=by cases p<;>rfl
def Xb:∀(n:Nat) {a:Õ} {f s:ByteArray} {u c:Ç},(ą a f n).run P u=Ē s c->c=u
 |0,_,_,_,_,_,h=>by cases h;rfl
 |n+1,a,f,s,u,c,h=>by
  rw[ą,Æ]at h;have g:∀v b,(au a).run P u=Ē v b->b=u:=by intro v b e;simp only[au,Ù]at e;split at e;cases e;rfl;split at e<;>cases e;rfl
  cases d:(au a).run P u with
  |halt z w=>rw[d]at h;cases h
  |ok v b=>
   have:=g v b d;subst this;rw[d]at h;simp only[É]at h;cases v<;>first|(cases h;done)|skip
   rename_i k m;cases k<;>first|(cases h;done)|exact Xb n h
def agA{pt:Â}(c:(ky pt a n).run P u=Ē B w):w=u/\(ą a .empty n).run P u=Ē B u:=by
 rw[ky,Æ]at c;cases e:(ŗ pt).run P u with
 |halt z x=>rw[e]at c;cases c
 |ok z x=>
  have f:x=u:=by
   rw[ŗ,Æ]at e;rw[ð,Æ,õ]at e;simp only[É]at e;cases b:P.underlying pt with
   |none=>rw[b]at e;cases e
   |some d=>
    rw[b]at e;cases d<;>cases e<;>rfl
  subst f;rw[e]at c;simp only[É]at c;rw[Æ]at c;have d:∃b,(ö a z n).run P x=Ē b x:=by rw[ö,Æ,õ];simp only[É];rw[Æ];simp only[bE,Ù,É];split<;>exact⟨_,U⟩
  let⟨b,d⟩:=d;rw[d]at c;simp only[É]at c;split at c;have:=Xb n c;subst this;exact⟨U,c⟩;cases c
def KV(P:Ó)(t:Â):Bool:=match P.underlying t with|some (æ e)=>(match P.underlying e with|some (ũ _)=>È|_=>Ä)|_=>Ä
theorem agB{P:Ó}{pt:Â}(h:KV P pt=È):∀u b c,(ŗ pt).run P u=Ē b c->∃k,P.underlying b=À (ũ k):=by intro u b c a;unfold ŗ ð at a;rw[Æ,Æ,õ]at a;simp only[É]at a;unfold KV at h;split at h;rename_i e d;rw[d]at a;cases a;grind;cases h
def agC[B2 P]{y:Ô}{pt:Â}(V:o.op=ź {callee:=Č ZnZ,args:=#[qQ,y],argTypes:=#[pt,T]})(hpt:KV P pt=È)(Xc:∀z∈o.op.operands,nZ X z):oB P X pJ o:=by
 have W:∀L:Ô->Ã,ã L o=(á #[pt,T] o.type #[L qQ,L y]>>=λv=>pure<|ä v):=by intro L;rw[ã,V];simp only[ć,Ę,ħ,pure_bind,eJ,dR,dG]
 have M:∀v w:Ã,fZ P (á #[pt,T] o.type #[v,w]):=by
  intro v w;cases v<;>first|exact qd _|skip
  rw[O7];exact jC (Ww _) λn=>agy _ _ _
 have hk:∀(a:aP)(u:Ç)(n:ŷ)(B:Ç),(ã a.eval o).run P u=Ē n B->∃v,n=ä v:=by
  intro a u n B b;rw[W,Æ]at b;cases N:(á #[pt,T] o.type #[a.eval qQ,a.eval y]).run P u with
  |ok v w=>rw[N]at b;cases b;exact⟨v,U⟩
  |halt z w=>rw[N]at b;cases b
 refine⟨?_,λa=>by rw[W];exact nH<|M _ _,λa u n B b=>Á<|hk a u n B b,λa u f c B b=>by let⟨v,e⟩:=hk a u _ B b;cases e⟩;intro Y g t t' u w hz hb hG ht I hl z B b hc;have hx:=yD hG ht (Xc qQ<|by rw[V];simp[Ë,ì]);have O:=yD hG ht (Xc y<|by rw[V];simp[Ë,ì]);rw[W]at b|-;generalize Ü ⟨t,[]⟩ qQ=v at hx b;generalize Ü ⟨t',[]⟩ qQ=v' at hx|-;generalize Ü ⟨t,[]⟩ y=l at O b;generalize Ü ⟨t',[]⟩ y=l' at O|-;have D:gh P fI Y (á #[pt,T] o.type #[v,l]) (á #[pt,T] o.type #[v',l'])->∃(J:fL)(x':ŷ)(w':Ç)(Q:Array ê),Y.r J/\(∀i j,J i j->Y i j\/(u.heap.size<=i/\w.heap.size<=j))/\(á #[pt,T] o.type #[v',l']>>=λv=>pure (ä v):ă ŷ).runT P w #[]=(Ē x' w',#[]++Q)/\rK J z x'/\jI J g B w'/\pG Y g w w'/\(∀e∈Q,B4 J g e)/\u.heap.size<=B.heap.size:=λh=>(oA h).gR I hl b #[];cases hx with
 |mN=>
  apply D;rw[O7,O7];apply ga (Ov O);rintro Xd n _ _ rfl;by_cases r:n<0;let⟨c,k,q⟩:=W8 (pt:=pt) (p:=Ú) r;rw[q];exact .qp (yr<|tD _);by_cases d:n>Ĺ.max;let⟨c,q⟩:=W9 (pt:=pt) (p:=Ú) r d;rw[q];exact .gB;by_cases C:n=0;rw[O6 r d C];exact .fY (.ly _);let⟨c,q⟩:=agx (pt:=pt) r d C;rw[q];apply Ky|kn E=>
  rename_i a a';cases O with
  |iZ k n=>
   by_cases r:n<0;apply D;let⟨c,k,q⟩:=W8 (pt:=pt) (p:=À a) r;rw[As,As,q];exact .qp (yr<|tD _);by_cases d:n>Ĺ.max;apply D;let⟨c,q⟩:=W9 (pt:=pt) (p:=À a) r d;rw[As,As,q];exact .gB;by_cases C:n=0;apply D;rw[As,As,O6 r d C,O6 r d C];exact .fY (.ly _);rw[As,Xa pt a r d C]at b;rw[As,Xa pt a' r d C];obtain⟨m,N⟩:∃m,n.toNat=m+1:=⟨n.toNat-1,Z⟩;rw[N]at b|-;cases K:(ky pt a<|m+1).run P u with
   |halt z w=>
    rw[Æ,Æ,K]at b;cases b
   |ok s u1=>
    obtain⟨rfl,Xe⟩:=agA K;rw[Æ,Æ,K]at b;have Cg:=b;cases Cg;let⟨Xd,s',w1,es,k1,k2,k3,k4,k5,F,k7,k8⟩:=(agv pt E<|m+1).gR I hl K #[];have Q:=k4;subst Q;let⟨c,c',e,fr,yt,S,hw,vA,_⟩:=I.r _ _ E.1;have Xf:a.spot=Ú/\a.off<c.size:=by
     have G:=Xe;rw[ą,Æ]at G;simp only[au,Ù]at G;cases H:u1.cell? a with
     |none=>
      rw[H]at G;simp only[ĺ,S]at G;cases G
     |some v=>
      rw[B5 S]at H;cases qx:a.spot with
      |some qQ=>rw[qx]at H;cases H
      |none=>rw[qx]at H;exact⟨U,(fp.1<|by simpa using H).1⟩
    have fits:∀c e fr,u1.heap[a.block]?=À (Ā c e fr)->a.off+(m+1)<=c.size:=by intro c2 e2 Xg d;rw[S]at d;injection d with d;injection d with q1 q2 q3;subst q1;exact agz I (m+1) E Xf.1 Xe c e fr S<|dp Xf.2
    refine⟨Xd,ä<|Ĕ s,w1.freeze a'<|m+1,es,k1,k2,?_,.qc (.ly s),k5.adE (E.fG k1) (m+1) fits,?_,k7,by rw[Kt];exact eE _⟩;show ß P (Þ (Þ _ _) _) w #[]=_;rw[Ð,Ð,k3];rfl;refine⟨by rw[Kt];exact F.r,adA.trans F.I,adB.trans F.M,Oo.trans F.S,λj hj M=> ?_,λj hs hj=> ?_⟩;rw[Ku (λe=>M a.block<|by rw[<-e];exact E.1)];exact F.C j hj M;rw[Ku (λe=>(agw I E (agB hpt) K)<|by rwa[e])];exact F.N j hs hj
  |_=>exact D .gB
 |_=>exact D .gB
end
section
variable{Y:fL}{g:Nat->Prop}
@[simp] theorem agD (a:Õ):fZ P (aF a):=by
 unfold aF
 grind [jL,GU,Ws,jC]
@[simp] theorem avK (a b:Õ):fZ P (ZnQ a b):=by
 unfold ZnQ
 grind [agD,jL,GU,jC]
@[simp]def avL (a b:Õ):fZ P (Ř a b):=by
 unfold Ř
 exact nz
def Xh(h:P.underlying t=À (æ e))(x y:Ã):fZ P (ë t x y):=by unfold ë ô ų;apply yy h;exact nz
def agE{a:ď}(b:a=κ\/a=ψ)(h:P.underlying t=À (æ e))(x y:Ã):fZ P (ŕ a t x y):=by
 have c:=Xh h x y;obtain rfl|rfl:=b;all_goals
  unfold ŕ;repeat' (first|(with_reducible first|exact Xh h _ _|refine jC ?_ λ_=> ?_)|split|exact nz)
def At(u:Ç)(r:Nat):Prop:=∃c e a,u.heap[r]?=À (Ā c e a)/\a.2<=c.size
def KW(a:Õ)(u:Ç)(b:Array ê):(frozen a).runT P u b=(Ē (u.frozen? a) u,b):=rfl
def KX{r:Nat}(h:u.heap[r]?=À (Ā d e xJ))(a:Array ê):(bE r).runT P u a=(Ē (À (e,d.size)) u,a):=by simp only[bE,ß,Ű,h]
def Xi(h:At u a.block)(b:Array ê):(aF a).runT P u b=(Ē (u.frozen? a) u,b):=by
 let⟨c,e,f,d,g⟩:=h;unfold aF;show ß P (Þ _ _) u b=_;rw[Ð,KW];cases i:u.frozen? a with
 |true=>rfl|false=>
  simp only[Î,if_false];show ß P (Þ _ _) u b=_;rw[Ð,KX d];simp only[];rw[KW];have:u.frozen? {block:=a.block,off:=c.size}=Ä:=by simp only[û,d];simp;omega
  rw[this]
def Xj(f:u.heap[a.block]?=À (Ā d e xJ))(g:xJ.2<=d.size)(b:u.frozen? a=È):d.size≠0:=by simp only[û,f]at b;simp at b;omega
def agF(i:At u a.block)(j:At u p.block)(k:(u.frozen? a&&u.frozen? p)=Ä)(g:Array ê):(ZnQ a p).runT P u g=(Ē Ä u,g):=by
 have q:=i;have r:=j;let⟨c,e,w,l,s⟩:=q;let⟨d,f,x,m,t⟩:=r;unfold ZnQ;show ß P (Þ _ _) u g=_;rw[Ð,Xi i];simp only[];show ß P (Þ _ _) u g=_;rw[Ð,Xi j];simp only[];show ß P (Þ (Þ _ _) _) u g=_;rw[Ð,Ð,KX l];simp only[];show ß P (Þ (Þ _ _) _) u g=_;rw[Ð,Ð,KX m];simp only[];congr 2;cases o:u.frozen? a with
 |true=>
  rw[o]at k;have h:u.frozen? p=Ä:=fN k;have:=Xj l s o;simp only[h];cases v:c.size with|zero=>exact absurd v this|succ n=>rfl
 |false=>
  cases h:u.frozen? p with
  |true=>
   have:=Xj m t h;cases v:d.size with|zero=>exact absurd v this|succ n=>rfl
  |false=>rfl
def Xk(h:At u a.block)(b:Array ê):(ax a).runT P u b=(Ē () u,b):=by let⟨c,e,f,d,g⟩:=h;unfold ax Zob;show ß P (Þ (Þ _ _) _) u b=_;rw[Ð,Ð,KX d];rfl
def Xl(e:At u a.block)(f:At u p.block)(c:Array ê):(Ř a p).runT P u c= if(a.block==p.block)=È then(Ē (a==p) u,c)else if(u.frozen? a&&u.frozen? p)=È then(bl (İ .addressObserved) u,c)else(Ē Ä u,c):=by unfold Ř;by_cases h:(a.block==p.block)=È;simp_all;rw[if_neg h,if_neg h];show ß P (Þ _ _) u c=_;rw[Ð,KW];simp only[];show ß P (Þ _ _) u c=_;rw[Ð,KW];simp only[];by_cases d:(u.frozen? a&&u.frozen? p)=È;simp_all;rw[if_neg d,if_neg d];show ß P (Þ _ _) u c=_;rw[Ð,Xk e];simp only[];show ß P (Þ _ _) u c=_;rw[Ð,Xk f];simp only[];show ß P (Þ _ _) u c=_;rw[Ð,agF e f<|fN d];rfl
end
section
variable{Y:fL}{g:Nat->Prop}
def agG{d:Zon}(h:P.underlying t=À d)(u:Ç)(a:Array ê):(ð t).runT P u a=(Ē d u,a):=by unfold ð;simp_all
theorem agH(h:P.info? t=À zJ)(u:Ç)(a:Array ê):(θ t).runT P u a=(Ē zJ.size u,a):=by
 unfold θ;show ß P (Þ _ _) u a=_;rw[Ð];have:(Ŭ t).runT P u a=(Ē zJ u,a):=by unfold Ŭ;simp_all
 rw[this];rfl
theorem Xm(h:P.underlying t=À (æ e))(d:P.info? e=À zJ)(f:zJ.size≠0)(a b:Õ)(u:Ç)(c:Array ê):(ë t (Ö<|À a)<|Ö<|À b).runT P u c=(Ř a b).runT P u c:=by unfold ë ô ų;show ß P (Þ _ _) u c=_;rw[Ð,agG h];simp only[];show ß P (Þ _ _) u c=_;grind [Ð,agH]
def rQ(a:ď)(r:Bool):Bool:=if a=κ then r else !r
def Xn{d:ď}(k:d=κ\/d=ψ)(h:P.underlying t=À (æ e))(g:P.info? e=À zJ)(j:zJ.size≠0)(x y:Ô)(a b:Õ)(u:Ç)(c:Array ê): ((Š d t x y (Ö<|À a) (Ö<|À b)>>=λ_=>ŕ d t (Ö<|À a)<|Ö<|À b)>>=λv=>pure (ä v):ă ŷ).runT P u c= match(Ř a b).runT P u c with|(Ē r u',f)=>(Ē (ä<|Ĭ<|rQ d r) u',f)|(bl z u',f)=>(bl z u',f):=by
 obtain rfl|rfl:=k;show ß P (Þ (Þ (ë t (Ö<|À a)<|Ö<|À b) λr=>υ<|Ĭ r) λv=>υ<|ä v) u c=_;rw[Ð,Ð,Xm h g j];cases(Ř a b).runT P u c with|mk r f=>cases r<;>rfl
 show ß P (Þ (Þ (ë t (Ö<|À a)<|Ö<|À b) λr=>υ<|Ĭ !r) λv=>υ<|ä v) u c=_;rw[Ð,Ð,Xm h g j];cases(Ř a b).runT P u c with|mk r f=>cases r<;>rfl
theorem agI{k:ď}{r:Â}{y:Ô}(D:o.op=Zow k t qQ y r)(G:k=κ\/k=ψ)(h:P.underlying t=À (æ e))(S:P.info? e=À zJ)(T:zJ.size≠0)(H:∀z∈o.op.operands,nZ X z):oB P X pJ o:=by
 have I:∀s:Ô->Ã,ã s o=((Š k t qQ y (s qQ) (s y)>>=λ_=>ŕ k t (s qQ)<|s y)>>=λv=>pure<|ä v):=by intro s;rw[ã,D]
 have V:∀(a:aP)(u:Ç)(n:ŷ)(p:Ç),(ã a.eval o).run P u=Ē n p->∃v,n=ä v:=by
  intro a u n p j;rw[I,Æ]at j;cases B:(Š k t qQ y (a.eval qQ) (a.eval y)>>=λ_=>ŕ k t (a.eval qQ)<|a.eval y).run P u with
  |ok v w=>rw[B]at j;cases j;exact⟨v,U⟩
  |halt z w=>rw[B]at j;cases j
 refine⟨?_,λa=> ?_,λa u n p j=>Á<|V a u n p j,λa u f c p j=>by let⟨v,e⟩:=V a u _ p j;cases e⟩;intro Y g C W u w J hb K L m hl z p j hc;have M:=yD K L (H qQ<|by rw[D];simp[Ë]);have N:=yD K L (H y<|by rw[D];simp[Ë]);by_cases O:oS (Ü ⟨C,[]⟩ qQ)\/oS (Ü ⟨C,[]⟩ y);have hOk:lz P (Ü ⟨C,[]⟩) o.op:=by rw[D];exact .Er k t qQ y r λ_=>Å ⟨⟨e,h⟩,O⟩
 exact(Wl J m.C hb (λf=>U) hOk λz J=>yD K L<|H z J).gR m hl j hc #[];have n1:=λq=>O<|Á q;have n2:=λq=>O<|Å q;rw[I]at j|-;generalize Ü ⟨C,[]⟩ qQ=v at M j n1;generalize Ü ⟨W,[]⟩ qQ=v' at M|-;generalize Ü ⟨C,[]⟩ y=l at N j n2;generalize Ü ⟨W,[]⟩ y=l' at N|-;cases M<;>first|exact absurd trivial n1|skip
 cases N<;>first|exact absurd trivial n2|skip
 rename_i a a' E b b' F;have fit:∀{c Q:Õ},iM Y c Q->At u c.block/\At w Q.block:=by intro c Q O8;let⟨d,d',e2,fr,yt,hu,hw,vA,rR,vD,hfr⟩:=m.r _ _ O8.1;refine⟨⟨d,e2,fr,hu,hfr⟩,d',e2,yt,hw,?_⟩;refine â ?_ vA.M;grind
 let⟨fa,fa'⟩:=fit E;let⟨fb,fb'⟩:=fit F;rw[<-Ÿ P _ u #[],Xn G h S T,Xl fa fb]at j;rw[Xn G h S T,Xl fa' fb'];rw[<-(KA m.C E F),<-(V6 m.C E F)];by_cases q:(a.block==b.block)=È;rw[if_pos q]at j|-;cases j;exact⟨Y,_,w,#[],fL.I _,λ_ _ q=>Á q,U,.qc (.nA _),m,pG.gy _ _ _,λ_ B=>absurd B fD,eE _⟩;rw[if_neg q]at j|-;by_cases q2:(u.frozen? a&&u.frozen? b)=È;grind;rw[if_neg q2]at j;have q3:¬(w.frozen? a'&&w.frozen? b')=È:=by intro q4;let⟨z1,z2⟩:=cV.1 q4;exact q2<|cV.2 ⟨m.H E z1,m.H F z2⟩
 rw[if_neg q3];cases j;exact⟨Y,_,w,#[],fL.I _,λ_ _ q=>Á q,U,.qc (.nA _),m,pG.gy _ _ _,λ_ B=>absurd B fD,eE _⟩;rw[I];exact nH<|jC (WA k t (λ_=>Å ⟨e,h⟩) qQ y _ _) λ_=>agE G h _ _
end
def O9(P:Ó)(s d:Â):Bool:=match P.underlying s,P.underlying d with|some (Zoa e),À ċ=>(match P.underlying e with|some (ũ .u8)=>È|_=>Ä)|some (æ _),À Ă|some Ă,À (æ _)=>È|_,_=>Ä
def Pa(P:Ó)(t:Â):Bool:=match P.underlying t with|some (æ e)=>(match P.info? e with|some i=>i.size !=0|none=>Ä)|_=>Ä
def Pb(P:Ó)(b:Û->Bool)(c:Callee)(a:List Ô)(d:List Â):Bool:=match c with|Č .min=>a.length !=0|Č aE=>a.length==1|Č ZnZ=>a.length==2&&(match d with|[t,_]=>KV P t|_=>Ä)|bB (.func f)=>b f&&a.length==1|_=>Ä
def Pd(P:Ó)(a:Û->Bool):Op->Bool|ZnP _ _|.panic _=>È|Zow c t _ _ _=>(c==κ||c==ψ)&&Pa P t|ω s d _=>O9 P s d|ź c=>Pb P a c.callee c.args.toList c.argTypes.toList|_=>Ä
def Ez(P:Ó)(a:Nat->Bool)(b c:Û->Bool)(o:Α):Bool:=O5 P a b o||(Pd P c o.op&&o.op.operands.all (yE a))
def G2(P:Ó)(c:Û->Bool):Prop:=∀f,c f=È->∃a e,P.funcs[f]?=À a/\(a.name== "runtime.NumGoroutine")=Ä/\a.body.isNone=È/\Extern.findNext a=Ú/\Extern.find a=À e/\
 (∀(Y:fL)(v b:Ã),fI Y v b->gh P fI Y (e #[v]) (e #[b]))/\∀v,fZ P<|e #[v]
theorem KY[B2 P]{g:Nat->Bool}{k x:Û->Bool}(C:G2 P x)(h:Ez P g k x o=È):oB P (λj=>g j=È) (λf=>k f=È) o:=by
 obtain h|h:=cW.1 h;exact afX h;let⟨v,S⟩:=cV.1 h;have q:∀z∈o.op.operands,nZ (λj=>g j=È) z:=by grind [ķ,KS,ĳ]
 cases n:o.op with
 |makeInterface t y=>exact afY n q|panic y=>exact af2 n q|binOp w t a b r=>
  rw[n]at v;let⟨T,m⟩:=cV.1 (show((w==κ||w==ψ)&&Pa P t)=È from v);have D:w=κ\/w=ψ:=by grind
  unfold Pa at m;split at m;rename_i e E;split at m;rename_i i F;exact agI n D E F (fN m) q;cases m;cases m
 |convert s d y=>
  rw[n]at v;have m:O9 P s d=È:=v;unfold O9 at m;split at m;rename_i e u p;split at m;rename_i G;exact agc n u p G q;cases m;rename_i t u p;exact W6 n (Á ⟨u,p⟩) q;rename_i t u p;exact W6 n (Å ⟨u,p⟩) q;cases m
 |call c=>
  rw[n]at v;let⟨H,I,B⟩:=c;have m:Pb P x H I.toList B.toList=È:=v;unfold Pb at m;split at m;exact af8 n q;obtain⟨y,rfl⟩:=KU m;exact agm n q;let⟨u,p⟩:=cV.1 m;obtain⟨y,z,rfl⟩:=O4 u;let⟨l⟩:=B;match l,p with|[t1,t2],p=>exact agC n p q
  rename_i f;let⟨u,p⟩:=cV.1 m;obtain⟨y,rfl⟩:=KU p;let⟨V,e,J,K,L,M,N,O,Q⟩:=C f u;exact agd n J K L M N O Q q;cases m
 |_=>rw[n]at v;simp[Pd]at v
def pK(P:Ó)(a:Nat->Bool)(b d:Û->Bool):Ω->Bool|.ret|.skip|Zoz _|.exit _|.goto _=>È|.seq x y=>pK P a b d x&&pK P a b d y|aK c x y=>yE a c&&pK P a b d x&&pK P a b d y|ZoA _ c|.loop c|ZoB c=>pK P a b d c|aZ _ c _=>c.all<|Ez P a b d|Zog _=>È|_=>Ä
def xm[B2 P]{g:Nat->Bool}{k x:Û->Bool}(a:G2 P x):∀{c:Ω},pK P g k x c=È->lW P (λj=>g j=È) (λf=>k f=È) c|.ret,_=> .qe|.skip,_=> .vw|Zoz l,_=> .Ak l|.exit l,_=> .yA l|.goto l,_=> .yB l|.seq y z,h=>by let⟨f,i⟩:=cV.1 (show(pK P g k x y&&pK P g k x z)=È from h);exact .uD (xm a f) (xm a i)|aK c y z,h=>by let⟨f,i⟩:=cV.1 (show(yE g c&&pK P g k x y&&pK P g k x z)=È from h);let⟨j,f⟩:=cV.1 f;exact .vx (KS j) (xm a f) (xm a i)|ZoA id c,h=> .uE id (xm a<|show pK P g k x c=È from h)|.loop c,h=> .Al (xm a<|show pK P g k x c=È from h)|ZoB c,h=> .An (xm a<|show pK P g k x c=È from h)|aZ id ops d,h=> .vy id d λo f=>by obtain⟨i,j,rfl⟩:=ķ.1 f;exact KY a<|ĳ.1 (show ops.all (Ez P g k x)=È from h) i j|.rangeFunc _ _ _ _,h=>by simp[pK]at h|Zog w,_=> .pI w
end Lift
namespace fO
open Conc Lift
def sJ(t:ÿ)(g:Nat)(l:Loc):Prop:=∀p a,Ĉ t p=À a->a.loc=l->ε t g p
def rf(t:ÿ)(g:Nat)(l:Loc):Prop:=∀p a,Ĉ t p=À a->a.loc=l->a.write=È->ε t g p
def sJ.r{t:ÿ}{g:Nat}{l:Loc}(h:sJ t g l):rf t g l:=λp a b c _=>h p a b c
section
variable{t u:ÿ}{g:Nat}{l:Loc}
theorem oF{a:Zn4}(h:Ĉ (t++u) i=À a):(i<t.size/\Ĉ t i=À a)\/(t.size<=i/\∃x∈u,x.act.touch?=À a/\(t++u)[i]?=À x):=by let⟨x,c,d⟩:=Zot h;obtain⟨b,e⟩|⟨b,f⟩:=getElem?_append_cases c;exact Á ⟨b,by rwa[touchAt_of e]⟩;grind
theorem sJ.C(h:sJ t g l)(j:∀c∈u,∀b,c.act.touch?=À b->b.loc=l->c.g=g):sJ (t++u) g l:=by intro p a e f;obtain⟨_,d⟩|⟨_,c,d,k,i⟩:=oF e;exact(h p a d f).app u;have:=Τ i;grind
theorem rf.r(h:rf t g l)(k:∀c∈u,∀b,c.act.touch?=À b->b.loc=l->b.write=È->c.g=g):rf (t++u) g l:=by intro p a e f i;obtain⟨_,d⟩|⟨_,c,d,m,j⟩:=oF e;exact(h p a d f i).app u;have:=Τ j;grind
def sJ.xd(h:∀p a,Ĉ t p=À a->a.loc≠l):sJ t g l:=λp a b c=>absurd c<|h p a b
theorem Pe(h:∀c,¬Race c t)(l:∀d∈u,d.g=g)(m:∀d∈u,∀b,d.act.touch?=À b->(b.write=Ä/\rf t g b.loc)\/sJ t g b.loc\/(b.kind=ĩ/\∀p a,Ĉ t p=À a->a.loc=b.loc->a.kind=.plain->ε t g p)):∀c,¬Race c (t++u):=by intro c;refine noRace_append (h c) l λi a f d n b o r=> ?_;let⟨j,v,e,w⟩:=r;obtain⟨s,k⟩|q|⟨s,k⟩:=m d n b o;obtain e|e:=e;exact k i a f j e;grind;exact q i a f j;grind
theorem Ch(f:∀c,¬Race c t)(r:∀d∈u,d.act.touch?=Ú):∀c,¬Race c (t++u):=by intro c;rintro⟨i,j,g,⟨a,b,h,k,l⟩,m,n⟩;obtain⟨s,e⟩|⟨_,d,e,v,_⟩:=oF k;obtain⟨o,p⟩|⟨o,_⟩:=oF h;exact f c ⟨i,j,g,⟨a,b,p,e,l⟩,λq=>m<|hb_app u q,λq=>n<|hb_app u q⟩;omega;grind
end
structure fx where
 O:Nat->Prop
 I:Nat->Prop
 r:Õ->Prop
 N:Õ->Prop
 K:Õ->Prop
 d:Nat
 q:Prop
 w:Ç
def fx.M(l:fx):Nat->Prop:=λj=>l.O j\/l.I j
def fx.C(l:fx):Õ->Prop:=λa=>l.r a\/l.N a
structure gd(l:fx)(w w₁:Ç):Prop where
 r:w.heap.size<=w₁.heap.size
 I:∀j,l.M j->w₁.heap[j]?=w.heap[j]?
 N:∀a,l.C a->w₁.cell? a=w.cell? a
 Y:∀a,l.C a->w₁.frozen? a=w.frozen? a
 S:∀a,l.K a->(w.cell? a).isSome=È->(w₁.cell? a).isSome=È
theorem gd.gy(l:fx)(w:Ç):gd l w w:=⟨eE _,λ_ _=>U,λ_ _=>U,λ_ _=>U,λ_ _ h=>h⟩
def gd.fA{l:fx}{a c:Ç}(h:gd l a w)(k:gd l w c):gd l a c:=⟨â h.r k.r,λj d=>(k.I j d).trans<|h.I j d,λj d=>(k.N j d).trans<|h.N j d,λj d=>(k.Y j d).trans<|h.Y j d,λa e q=>k.S a e<|h.S a e q⟩
def mj(w:Ç)(b:Nat):Option (Nat×Nat):=match w.heap[b]? with|some (Ā _ _ fr)=>À fr|_=>Ú
def yF{w':Ç}(h:w'.heap[b]?=w.heap[b]?):mj w' b=mj w b:=by unfold mj;rw[h]
theorem Xo(w:Ç)(a:Õ):w.frozen? a=match mj w a.block with|some (lo,hi)=>decide (lo<=a.off)&&decide (a.off<hi)|none=>Ä:=by
 unfold û mj;grind
def KZ(h:mj u a.block=mj w a.block):u.frozen? a=w.frozen? a:=by rw[Xo,Xo,h]
def xn(l:fx)(e:ê):Prop:=
 (∃a:Õ,e.loc=é a/\(l.O a.block\/l.r a\/((l.I a.block\/l.N a)/\e.write=Ä/\e.sync=Ä)))\/e.loc=Ŋ Zn6\/(∃f,e.loc=Ŋ (.extern f))\/e.loc=Ŋ ak\/e.loc=Ŋ bg\/
 ∃a:Õ,l.O a.block/\(e.loc=Ŋ (.read a)\/e.loc=Ŋ (.write a)\/e.loc=Ŋ (Ĥ a)\/e.loc=Ŋ (ZnR a))
structure n5(l l':fx)(w w':Ç)(es:Array ê):Prop where
 C:w.heap.size<=w'.heap.size
 M:∀j,l'.O j->l.O j\/w.heap.size<=j
 fM:∀j,l'.O j->j<w'.heap.size
 rd:l'.I=l.I
 r:l'.r=l.r
 I:l'.N=l.N
 k:l'.K=l.K
 lB:∀j,j<w.heap.size->¬l.O j->(∀a:Õ,a.block=j->¬l.r a)->w'.heap[j]?=w.heap[j]?
 S:∀a:Õ,a.block<w.heap.size->¬l.O a.block->¬l.r a->w'.cell? a=w.cell? a
 Y:∀a:Õ,a.block<w.heap.size->¬l.O a.block->mj w' a.block=mj w a.block
 c:w'.os=w.os
 f:w'.output=w.output
 i:w'.tape=w.tape
 b:∀e∈es,xn l' e
 g:l'.d=å l.d es
 q:l'.q=l.q
 h:l.q->w'=w/\(∀e∈es,e.mute=È)/\l'.O=l.O
 N:l'.w=w'
structure Pf(t:ÿ)(g:Nat)(l:fx):Prop where
 fE:∀a:Õ,l.O a.block->sJ t g (é a)
 rd:∀a:Õ,l.I a.block->rf t g (é a)
 C:∀a:Õ,l.r a->sJ t g (é a)
 r:∀a:Õ,l.N a->rf t g (é a)
theorem Xp{l:fx}{e:ê}(h:xn l e){b:Zn4}(c:(Ï e).touch?=À b):∃a:Õ,b.loc=é a/\(l.O a.block\/l.r a\/((l.I a.block\/l.N a)/\b.write=Ä)):=by let⟨j,wr,i⟩:=e;obtain⟨a,g,d⟩|h|⟨f,h⟩|h|h|⟨a,g,d⟩:=h;simp only at g d;subst g;have:(Ï ⟨é a,wr,i⟩).touch?=À ⟨é a,wr,if i then ĩ else .plain⟩:=rfl;grind;simp only at h;subst h;simp[Ï,í]at c;simp only at h;subst h;simp[Ï,í]at c;simp only at h;subst h;simp[Ï,í]at c;simp only at h;subst h;simp[Ï,í]at c;simp only at d;obtain rfl|rfl|rfl|rfl:=d<;>simp[Ï,í]at c<;>subst c;all_goals grind
def agJ{l:fx}(d:∀j,l.O j->j<i)(k:∀j,l.I j->j<i)(g:∀a:Õ,l.C a->a.block<i){e:ê}(h:xn l e):(Ï e).low i:=by let⟨m,wr,n⟩:=e;obtain⟨a,c,b⟩|h|⟨f,h⟩|h|h|⟨a,c,b⟩:=h;simp only at c b;subst c;obtain h|h|⟨h|h,_⟩:=b;exact d _ h;exact g _<|Á h;exact k _ h;exact g _<|Å h;simp only at h;subst h;trivial;simp only at h;subst h;trivial;simp only at h;subst h;trivial;simp only at h;subst h;trivial;simp only at b;obtain rfl|rfl|rfl|rfl:=b<;>exact d _ c
def Xq(B:Nat)(t:ÿ):Prop:=∀a∈t,a.act.low B
def Xr(h:Xq i qJ){a:Zn4}(g:Ĉ qJ n=À a){x:Õ}(d:a.loc=é x):x.block<i:=by
 let⟨f,j,b⟩:=Zot g;have c:=h f<|fg j;revert b c;cases f.act with
 |access e=>
  intro b c;simp only[í,dI]at b;subst b;simp only at d;simp only[MemAct.low,d,Loc.low]at c;exact c|mark m=>
  intro b c;cases m<;>simp[í]at b;all_goals
   subst b;simp only[Loc.cell.injEq]at d;subst d;exact c
 |_=>intro b _;simp[í]at b
theorem qf{a:String}:∀op∈Ê i F a V,op.g=i:=λop b=>by obtain⟨e,_,rfl⟩:=Ò (op:=op) b;rfl
structure jD(B0:Nat)(Live:Nat->Prop)(Y:Nat->Prop)(lot:Nat->fx)(w:Ç)(t:ÿ):Prop where
 o:∀i j,Live i->Live j->i≠j->∀b,(lot i).O b->¬(lot j).M b
 h:∀i j,Live i->Live j->i≠j->∀a,(lot i).r a->¬(lot j).C a
 m:∀i,Live i->∀b,(lot i).O b->¬(lot i).I b
 g:∀i,Live i->∀a,(lot i).r a->¬(lot i).N a
 I:∀i,Live i->∀b,(lot i).M b->¬Y b
 e:∀i,Live i->∀a,(lot i).C a->Y a.block
 fM:∀i,Live i->∀b,(lot i).M b->b<w.heap.size
 N:∀b,Y b->b<w.heap.size
 r:∀i,Live i->gd (lot i) (lot i).w w
 S:∀i,Live i->Pf t i (lot i)
 f:∀i,Live i->Ū t i=(lot i).d
 l:∀said,¬Race said t
 q:Xq w.heap.size t
 s:∀p a c,Ĉ t p=À a->a.loc=.obj c->a.kind=.plain->c<B0
 n:∀i,Live i->∀a,(lot i).K a->Y a.block/\∀k,Live k->¬(lot k).r a
def gV(lot:Nat->fx)(i:Nat)(l:fx):Nat->fx:=λk=>if k=i then l else lot k
theorem iH(a:Nat->fx)(i:Nat)(l:fx):gV a i l i=l:=if_pos U
theorem iq(a:Nat->fx)(l:fx)(h:k≠i):gV a i l k=a k:=if_neg h
section
variable{B0:Nat}{Live Y:Nat->Prop}{lot:Nat->fx}{w':Ç}{t u:ÿ}
def Pg{g:Nat}(a:k≠g)(t:ÿ){u:ÿ}(b:∀c∈u,c.g=g):Ū (t++u) k=Ū t k:=Deaf_other t (g:=k) (g':=g) (cR a) _ b
def jD.at(h:jD B0 Live Y lot w t)(d:Nat):jD B0 Live Y lot (w.at d) t:=⟨h.o,h.h,h.m,h.g,h.I,h.e,h.fM,h.N,λi a=>⟨(h.r i a).r,(h.r i a).I,(h.r i a).N,(h.r i a).Y,(h.r i a).S⟩,h.S,h.f,h.l,h.q,h.s,h.n⟩
def jD.agK(h:jD B0 Live Y lot w t)(r:Live i){s:fx}(l:n5 (lot i) s w w' V)(E:Û)(F:String): jD B0 Live Y (gV lot i s) w' (t++Ê i E F V):=by
 have G:=l.M;have Q:∀b,s.M b->(lot i).M b\/w.heap.size<=b:=λb g=>g.elim (λq=>(G b q).imp Á id) (λq=>Á<|Å<|by rwa[<-l.rd]);have J:∀a,s.C a↔(lot i).C a:=λa=>by unfold fx.C;rw[l.r,l.I]
 have I:=λk f a d=>h.N _<|h.e k f a d;have L:∀k,Live k->k≠i->∀b,(lot k).M b->¬s.O b:=by intro k f y b g c;obtain q|q:=G b c;exact h.o i k r f (cR y) b q g;have:=h.fM k f b g;omega
 have H:∀m∈Ê i E F V,∀b,m.act.touch?=À b->∃a:Õ,b.loc=é a/\(s.O a.block\/s.r a\/((s.I a.block\/s.N a)/\b.write=Ä)):=by intro m o b g;obtain⟨e,N,rfl⟩:=Ò o;exact Xp (l.b e N) g
 have T:∀a:Õ,s.O a.block->sJ t i (é a):=by intro a d;obtain q|q:=G _ d;exact(h.S i r).fE a q;exact .xd λp x P n=>by have:=Xr h.q P n;omega
 have D:Pf t i s:=⟨T,λa d=>(h.S i r).rd a (by rwa[<-l.rd]),λa d=>(h.S i r).C a (by rwa[<-l.r]),λa d=>(h.S i r).r a<|by rwa[<-l.I]⟩;refine⟨?_,?_,?_,?_,?_,?_,?_,λb g=>ff (h.N b g) l.C,?_,?_,?_,?_,?_,?_,?_⟩;intro k j f u y b g;by_cases c:k=i;subst c;rw[iH]at g;rw[iq lot _<|cR y];exact λq=>L j u (cR y) b q g;rw[iq lot _ c]at g;by_cases v:j=i;subst v;rw[iH];intro q;obtain z|z:=Q b q;exact h.o k j f u y b g z;have:=h.fM k f b<|Á g;omega;rw[iq lot _ v];exact h.o k j f u y b g;intro k j f u y a d;by_cases c:k=i;subst c;rw[iH,l.r]at d;rw[iq lot _<|cR y];exact h.h k j f u y a d;rw[iq lot _ c]at d;by_cases v:j=i;subst v;rw[iH,J];exact h.h k j f u y a d;rw[iq lot _ v];exact h.h k j f u y a d;intro k f b g;by_cases c:k=i;subst c;rw[iH]at g|-;rw[l.rd];obtain z|z:=G b g;exact h.m k f b z;intro q;have:=h.fM k f b<|Å q;omega;rw[iq lot _ c]at g|-;exact h.m k f b g;intro k f a d;by_cases c:k=i;subst c;rw[iH]at d|-;rw[l.I];rw[l.r]at d;exact h.g k f a d;rw[iq lot _ c]at d|-;exact h.g k f a d;intro k f b g;by_cases c:k=i;subst c;rw[iH]at g;obtain z|z:=Q b g;exact h.I k f b z;intro y;have:=h.N b y;omega;rw[iq lot _ c]at g;exact h.I k f b g;intro k f a d;by_cases c:k=i;subst c;rw[iH,J]at d;exact h.e k f a d;rw[iq lot _ c]at d;exact h.e k f a d;intro k f b g;by_cases c:k=i;subst c;rw[iH]at g;exact g.elim (l.fM b) (λq=>ff (h.fM k f b<|Å<|by rwa[<-l.rd]) l.C);rw[iq lot _ c]at g;exact ff (h.fM k f b g) l.C;intro k f;by_cases c:k=i;subst c;rw[iH,l.N];exact gd.gy _ _;rw[iq lot _ c];refine(h.r k f).fA ⟨l.C,λb g=>l.lB b (h.fM k f b g) (λq=>h.o i k r f (cR c) b q g) (λa d q=>h.I k f b g<|by rw[<-d];exact h.e i r a<|Á q),λa d=>l.S a (I k f a d) (λq=>h.I i r _ (Á q)<|h.e k f a d) λq=>h.h i k r f (cR c) a q d,λa d=>KZ (l.Y a (I k f a d) λq=>h.I i r _ (Á q)<|h.e k f a d),λa d q=> ?_⟩;let⟨y,v⟩:=h.n k f a d;rwa[l.S a (h.N _ y) (λq=>h.I i r _ (Á q) y)<|v i r];intro k f;by_cases c:k=i;subst c;rw[iH];exact⟨λa d=>(D.fE a d).C λm o _ _ _=>qf m o,λa d=>(D.rd a d).r λm o _ _ _ _=>qf m o,λa d=>(D.C a d).C λm o _ _ _=>qf m o,λa d=>(D.r a d).r λm o _ _ _ _=>qf m o⟩;rw[iq lot _ c];have W:∀a:Õ,(lot k).O a.block->∀m∈Ê i E F V,∀b,m.act.touch?=À b->b.loc=é a->False:=by intro a d m o b g n;let⟨x,y,v⟩:=H m o b g;rw[y]at n;injection n with n;subst n;obtain q|q|⟨q|q,_⟩:=v;exact L k f c _ (Á d) q;exact h.I k f _ (Á d) (h.e i r x<|Á<|by rwa[<-l.r]);exact h.o k i f r c _ d (Å<|by rwa[<-l.rd]);exact h.I k f _ (Á d)<|h.e i r x<|Å<|by rwa[<-l.I]
 have X:∀a:Õ,(lot k).I a.block->∀m∈Ê i E F V,∀b,m.act.touch?=À b->b.loc=é a->b.write=È->False:=by intro a d m o b g n B;let⟨x,y,v⟩:=H m o b g;rw[y]at n;injection n with n;subst n;obtain q|q|⟨_,q⟩:=v;exact L k f c _ (Å d) q;exact h.I k f _ (Å d) (h.e i r x<|Á<|by rwa[<-l.r]);rw[q]at B;cases B
 have S:∀a:Õ,(lot k).C a->∀m∈Ê i E F V,∀b,m.act.touch?=À b->b.loc=é a->(s.I a.block\/s.N a)/\b.write=Ä:=by intro a d m o b g n;let⟨x,y,v⟩:=H m o b g;rw[y]at n;injection n with n;subst n;obtain q|q|q:=v;exfalso;obtain z|z:=G _ q;exact h.I i r _ (Á z)<|h.e k f x d;have:=I k f x d;omega;exact absurd d (h.h i k r f (cR c) x<|by rwa[<-l.r]);exact q
 refine⟨λa d=>((h.S k f).fE a d).C λm o b g n=>(W a d m o b g n).elim,λa d=>((h.S k f).rd a d).r λm o b g n B=>(X a d m o b g n B).elim,λa d=>((h.S k f).C a d).C λm o b g n=> ?_,λa d=>((h.S k f).r a d).r λm o b g n B=> ?_⟩;exfalso;obtain⟨q|q,_⟩:=S a (Á d) m o b g n;exact h.I i r _ (Å<|by rwa[<-l.rd])<|h.e k f a<|Á d;exact h.h k i f r c a d (Å<|by rwa[<-l.I]);have:=(S a (Å d) m o b g n).2;rw[this]at B;cases B;intro k f;by_cases c:k=i;subst c;rw[iH,l.g,Deaf_own,h.f k f];rw[iq lot _ c,Pg c t qf];exact h.f k f;refine Pe h.l qf λm o b g=> ?_;let⟨a,y,v⟩:=H m o b g;rw[y];obtain q|q|⟨q,B⟩:=v;exact Å<|Á<|D.fE a q;exact Å<|Á<|D.C a q;exact Á ⟨B,q.elim (D.rd a)<|D.r a⟩;intro m o;obtain q|q:=dq.1 o;exact MemAct.low_mono l.C<|h.q m q;obtain⟨e,N,rfl⟩:=Ò q;refine agJ l.fM (λj u=>ff (h.fM i r j<|Å<|by rwa[<-l.rd]) l.C) (λa d=> ?_)<|l.b e N;rw[J]at d;exact ff (I i r a d) l.C;intro p a c d n f;obtain⟨_,y⟩|⟨_,m,y,v,_⟩:=oF d;exact h.s p a c y n f;let⟨x,P,_⟩:=H m y a v;rw[P]at n;cases n;intro k f a d;have y:∀j,(gV lot i s j).r=(lot j).r:=λj=>by by_cases e:j=i;subst e;rw[iH,l.r];rw[iq lot _ e]
 have c:(gV lot i s k).K=(lot k).K:=by by_cases e:k=i;subst e;rw[iH,l.k];rw[iq lot _ e]
 rw[c]at d;exact⟨(h.n k f a d).1,λj u=>by rw[y];exact(h.n k f a d).2 j u⟩
end
def G3(Live Y:Nat->Prop)(d:Nat->fx)(b:Zn4):Prop:=(∃a:Õ,b.loc=é a/\Y a.block/\∀k,Live k->¬(d k).C a)\/∃c,b.loc=.obj c/\Y c/\b.kind=ĩ
structure rS(Live Y:Nat->Prop)(lot:Nat->fx)(w w':Ç):Prop where
 r:w'.heap.size=w.heap.size
 lB:∀j,¬Y j->w'.heap[j]?=w.heap[j]?
 M:∀k,Live k->∀a,(lot k).C a->w'.cell? a=w.cell? a
 N:∀k,Live k->∀a,(lot k).C a->w'.frozen? a=w.frozen? a
 I:∀a,(w.cell? a).isSome=È->(w'.cell? a).isSome=È
theorem rS.gy(Live Y:Nat->Prop)(a:Nat->fx)(w:Ç):rS Live Y a w w:=⟨U,λ_ _=>U,λ_ _ _ _=>U,λ_ _ _ _=>U,λ_ h=>h⟩
structure xo(w':Ç)(l l':fx):Prop where
 O:l'.O=l.O
 N:l'.I=l.I
 r:l'.r=l.r
 I:l'.N=l.N
 K:l'.K=l.K
 w:l'.w=l.w\/l'.w=w'
theorem xo.gy(w':Ç)(l:fx):xo w' l l:=⟨U,U,U,U,U,Á U⟩
def xo.M{w':Ç}{l a:fx}(h:xo w' l a):a.M=l.M:=by unfold fx.M;rw[h.O,h.N]
def xo.C{w':Ç}{l a:fx}(h:xo w' l a):a.C=l.C:=by unfold fx.C;rw[h.r,h.I]
def gd.agL{l c:fx}(h:xo w l c)(r:gd l u W):gd c u W:=⟨r.r,by rw[h.M];exact r.I,by rw[h.C];exact r.N,by rw[h.C];exact r.Y,by rw[h.K];exact r.S⟩
section
variable{Live Y:Nat->Prop}{lot o:Nat->fx}{w':Ç}{t u:ÿ}
def jD.H(h:jD n Live Y lot w t)(m:∀k,xo w' (lot k)<|o k)(s:rS Live Y lot w w')(B:∀l∈u,∀b,l.act.touch?=À b->G3 Live Y lot b)(g:∀l∈u,l.act.low w.heap.size)(E:∀F,¬Race F (t++u))(G:∀k,Live k->Ū (t++u) k=(o k).d):jD n Live Y o w' (t++u) where
 o i j hi v mP b q:=by rw[(m j).M];exact h.o i j hi v mP b<|by rwa[<-(m i).O]
 h i j hi v mP a f:=by rw[(m j).C];exact h.h i j hi v mP a<|by rwa[<-(m i).r]
 m i hi b q:=by rw[(m i).N];exact h.m i hi b<|by rwa[<-(m i).O]
 g i hi a f:=by rw[(m i).I];exact h.g i hi a<|by rwa[<-(m i).r]
 I i hi b q:=h.I i hi b (by rwa[<-(m i).M]);e i hi a f:=h.e i hi a (by rwa[<-(m i).C]);fM i hi b q:=by rw[s.r];exact h.fM i hi b<|by rwa[<-(m i).M]
 N b q:=by rw[s.r];exact h.N b q
 r i hi:=by rcases(m i).w with e|e;rw[e];refine((h.r i hi).fA ⟨cZ s.r.symm,λj v=>s.lB j<|h.I i hi j v,λa f=>s.M i hi a f,λa f=>s.N i hi a f,λa _=>s.I a⟩).agL<|m i;rw[e];exact gd.gy _ _
 S i hi:=by
  have z:∀a:Õ,(lot i).M a.block->∀l∈u,∀b,l.act.touch?=À b->b.loc=é a->False:=by intro a f l e b q g;obtain⟨x,r,y,_⟩|⟨c,r,_⟩:=B l e b q;rw[r]at g;injection g with g;subst g;exact h.I i hi _ f y;rw[r]at g;cases g
  have D:∀a:Õ,(lot i).C a->∀l∈u,∀b,l.act.touch?=À b->b.loc=é a->False:=by intro a f l e b q g;obtain⟨x,r,_,y⟩|⟨c,r,_⟩:=B l e b q;rw[r]at g;injection g with g;subst g;exact y i hi f;rw[r]at g;cases g
  exact⟨λa f=>((h.S i hi).fE a<|by rwa[<-(m i).O]).C λl e b q g=>(z a (Á<|by rwa[<-(m i).O]) l e b q g).elim,λa f=>((h.S i hi).rd a<|by rwa[<-(m i).N]).r λl e b q g _=>(z a (Å<|by rwa[<-(m i).N]) l e b q g).elim,λa f=>((h.S i hi).C a<|by rwa[<-(m i).r]).C λl e b q g=>(D a (Á<|by rwa[<-(m i).r]) l e b q g).elim,λa f=>((h.S i hi).r a<|by rwa[<-(m i).I]).r λl e b q g _=>(D a (Å<|by rwa[<-(m i).I]) l e b q g).elim⟩
 f:=G;l:=E;q l e:=by rw[s.r];exact(dq.1 e).elim (h.q l)<|g l
 s p a c f g z:=by obtain⟨_,r⟩|⟨_,l,r,y,_⟩:=oF f;exact h.s p a c r g z;obtain⟨x,D,_⟩|⟨x,_,_,D⟩:=B l r a y;rw[D]at g;cases g;rw[D]at z;cases z
 n i hi a f:=by rw[(m i).K]at f;exact⟨(h.n i hi a f).1,λk z=>by rw[(m k).r];exact(h.n i hi a f).2 k z⟩
end
structure gS(l:fx):Prop where
 c:∀b,l.O b->¬l.I b
 Y:∀a,l.r a->¬l.N a
 S:∀a,l.C a->¬l.M a.block
 fM:∀b,l.M b->b<l.w.heap.size
 I:∀a,l.C a->a.block<l.w.heap.size
 N:∀a,l.K a->¬l.M a.block/\a.block<l.w.heap.size/\¬l.r a
def jD.M{Live Y:Nat->Prop}{c:Nat->fx}(h:jD n Live Y c w qJ)(b:Live i):gS {c i with w:=w} where
 c:=h.m i b;Y:=h.g i b;S a ha hb:=h.I i b _ hb<|h.e i b a ha;fM:=h.fM i b;I a ha:=h.N _<|h.e i b a ha;N a ha:=⟨λq=>h.I i b _ q (h.n i b a ha).1,h.N _ (h.n i b a ha).1,(h.n i b a ha).2 i b⟩
abbrev Jd:=fx->Ì->Prop
inductive fF(P:Ó)(main:Bool)(Stop:Jd):Jd
 |fT {l:fx} {g:Ì} (h:∀w₁,gd l l.w w₁->Stop {l with w:=w₁} g):fF P main Stop l g
 |kx {l:fx} {g:Ì} (G':Ç->Ì) (W':Ç->Ç) (E':Ç->Array ê) (L':Ç->fx) (jh:g.status=Í)
  (h:∀w₁,gd l l.w w₁->à P main g w₁=σ (G' w₁) (W' w₁) (E' w₁)) (hd:∀w₁,gd l l.w w₁->n5 l (L' w₁) w₁ (W' w₁) (E' w₁))
  (ih:∀w₁,gd l l.w w₁->fF P main Stop (L' w₁) (G' w₁)):fF P main Stop l g
instance:Nonempty fx:=⟨⟨λ_=>False,λ_=>False,λ_=>False,λ_=>False,λ_=>False,0,False,default⟩⟩
instance:Nonempty (Goroutine×World×Array Event×fx):=⟨(default,default,#[],Classical.choice inferInstance)⟩
section
variable{main:Bool}{Stop m:Jd}
def fF.mk{l:fx}(i:g.status=Í)(h:∀a,gd l l.w a->∃b c d e,à P main g a=σ b c d/\n5 l e a c d/\fF P main Stop e b):fF P main Stop l g:=by
 let p:=λ(a:Ç) (x:Goroutine×World×Array Event×fx)=>à P main g a=σ x.1 x.2.1 x.2.2.1/\n5 l x.2.2.2 a x.2.1 x.2.2.1/\fF P main Stop x.2.2.2 x.1
 have f:∀a,gd l l.w a->p a (Classical.epsilon<|p a):=λa r=>Classical.epsilon_spec (let⟨b,c,d,e,h⟩:=h a r;⟨(b,c,d,e),h⟩);exact .kx (λa=>(Classical.epsilon<|p a).1) (λa=>(Classical.epsilon<|p a).2.1) (λa=>(Classical.epsilon<|p a).2.2.1) (λa=>(Classical.epsilon<|p a).2.2.2) i (λa r=>(f a r).1) (λa r=>(f a r).2.1) λa r=>(f a r).2.2
def fF.mD{l:fx}{w₁:Ç}(h:fF P main Stop l g)(r:gd l l.w w₁):fF P main Stop {l with w:=w₁} g:=by
 have e:∀{a b:Ç},gd {l with w:=w₁} a b->gd l a b:=λq=>⟨q.r,q.I,q.N,q.Y,q.S⟩;cases h with
 |fT h=>exact .fT λc d=>h c<|r.fA<|e d|kx f i j m n h o p=>
  exact .kx f i j m n (λc d=>h c<|r.fA<|e d) (λc d=>let q:=o c<|r.fA<|e d;⟨q.C,q.M,q.fM,q.rd,q.r,q.I,q.k,q.lB,q.S,q.Y,q.c,q.f,q.i,q.b,q.g,q.q,q.h,q.N⟩) λc d=>p c<|r.fA<|e d
def fF.fG(a:∀l g,Stop l g->m l g){l:fx}(h:fF P main Stop l g):fF P main m l g:=by
 induction h with|fT h=>exact .fT λb r=>a _ _<|h b r|kx b r c d e h f _ i=>exact .kx b r c d e h f i
def fF.fA{l:fx}(h:fF P main (fF P main Stop) l g):fF P main Stop l g:=by
 induction h with|fT h=>exact h _<|gd.gy _ _|kx a b c d e h f _ i=>exact .kx a b c d e h f i
def fF.nF(a:∀l g,Stop l g->fF P main m l g){l:fx}(h:fF P main Stop l g):fF P main m l g:=(h.fG a).fA
end
inductive gW where|fT:gW|kx (k:Ç->gW):gW
def Xs(x:gW):gW->Prop|.fT=>False|.kx k=>∃w,x=k w
def Xt:WellFounded Xs:=⟨λa=>by
 induction a with|fT=>exact⟨_,λy h=>h.elim⟩|kx k b=>exact⟨_,λy ⟨w,h⟩=>h▸b w⟩⟩
def mE(P:Ó)(b:Bool)(c:Jd):gW->Jd|.fT,l,g=>∀a,gd l l.w a->c {l with w:=a} g|.kx k,l,g=>g.status=Í/\∀a,gd l l.w a->∃d e f h,à P b g a=σ d e f/\n5 l h a e f/\mE P b c (k a) h d
section
variable{main:Bool}{Stop:Jd}
theorem j1{l:fx}(h:fF P main Stop l g):∃tr,mE P main Stop tr l g:=by
 induction h with
 |fT h=>exact⟨.fT,h⟩|@kx l g G' W' E' L' jh h hd _ ih=>
  have b:∀a,∃tr,gd l l.w a->mE P main Stop tr (L' a) (G' a):=by intro a;by_cases r:gd l l.w a;grind;exact⟨.fT,λq=>absurd q r⟩
  refine⟨.kx λa=>Classical.choose<|b a,jh,λa r=>⟨G' a,W' a,E' a,L' a,h a r,hd a r,Classical.choose_spec (b a) r⟩⟩
end
theorem agM{l:fx}{b:Nat->Prop}(d:∀j,X j->l.O j)(f:∀j,b j->l.I j){e:ê}(h:KN X b e):xn l e:=by obtain⟨a,c,g,i⟩|h|h:=h;refine Á ⟨a,c,?_⟩;grind;exact Å<|Á h;exact Å<|Å<|Á h
theorem agN{b:Nat->Prop}(h:∀e∈V,KN X b e)(d:Nat):å d V=d:=by refine aG (λe c=> ?_) d;obtain⟨a,g,_⟩|h|⟨f,h⟩:=h e c;all_goals grind
theorem iD{w':Ç}(h:w'.heap[a.block]?=w.heap[a.block]?):w'.cell? a=w.cell? a:=by unfold Ď;rw[h]
def yH(h:u.heap[a.block]?=w.heap[a.block]?):u.frozen? a=w.frozen? a:=by unfold û;rw[h]
def agO{t:(Nat->Prop)->Ì->Ç->Prop}{O:Nat->Prop}(h:xi P yQ X t O g w):∀l:fx,l.w=w->(∀j,O j->l.O j)->(∀j,X j->l.I j)->(∀j,l.O j->j<w.heap.size)->¬l.q-> fF P yQ (λa b=>∃f,t f b a.w/\(∀j,O j->f j)/\(∀j,f j->a.O j)/\(∀j,l.O j->a.O j)/\(∀j,a.O j->l.O j\/f j)/\(∀j,a.O j->l.O j\/w.heap.size<=j)/\a.I=l.I/\a.r=l.r/\a.N=l.N/\a.d=l.d/\a.q=l.q/\a.K=l.K) l g:=by
 induction h with
 |@fT O g w h=>
  intro l e i m _ _;refine .fT λb r=>⟨O,h b ⟨by rw[<-e];exact r.r,λj c=>by rw[r.I j (c.elim (λq=>Á<|i j q) λq=>Å<|m j q),e]⟩,λ_ q=>q,i,λ_ q=>q,λ_ q=>Á q,λ_ q=>Á q,U,U,U,U,U,U⟩|@kx O g w G' W' E' f jh h hd _ ih=>
  intro l e i m C u;refine .mk jh λb r=> ?_;have n:Aq (λj=>O j\/X j) w b:=⟨by rw[<-e];exact r.r,λj c=>by rw[r.I j (c.elim (λq=>Á<|i j q) λq=>Å<|m j q),e]⟩;have D:=hd b n;have o:=n.r;have v:∀j,(l.O j\/f b j)->j<(W' b).heap.size:=λj c=>c.elim (λq=>ff (C j q)<|â o D.r)<|D.fM j;have p:∀j,j<b.heap.size->¬l.O j->(W' b).heap[j]?=b.heap[j]?:=λj c k=>D.lB j c λq=>k<|i j q;refine⟨G' b,W' b,E' b,{l with O:=λj=>l.O j\/f b j,w:=W' b},h b n,⟨D.r,λj c=>c.elim Á λq=>(D.I j q).imp (i j) id,v,U,U,U,U,λj c k _=>p j c k,λa s k _=>iD<|p _ s k,λa s k=>yF<|p _ s k,D.N,D.S,D.Y,λx E=>agM (l:={l with O:=λj=>l.O j\/f b j,w:=W' b}) (λj q=>Å q) m<|D.C x E,(agN D.C _).symm,U,λq=>absurd q u,U⟩,?_⟩;have:=ih b n {l with O:=λj=>l.O j\/f b j,w:=W' b} U (λj q=>Å q) m v u;apply this.fG;rintro N Q ⟨F,G,B,H,I,J,L,M⟩;refine⟨F,G,λj q=>B j<|D.M j q,H,λj q=>I j<|Á q,λj q=> ?_,λj q=> ?_,M⟩;obtain(z|z)|z:=J j q;exact Á z;exact Å<|B j z;exact Å z;obtain(z|z)|z:=L j q;exact Á z;obtain y|y:=D.I j z;exact Á<|i j y;exact Å<|â o y;exact Å<|â (â o D.r) z
def lO(a:Õ):ê:=⟨é a,Ä,È⟩
def oG(a:Õ):ê:=⟨é a,È,È⟩
def kT(m:Mark):ê:=⟨Ŋ m,Ä,È⟩
def gK:Int:=4294967296
def EA(c:Nat):Array ê:=#[⟨.obj c,Ä,È⟩,⟨.obj c,È,È⟩]
section
variable(P:Ó)(main:Bool)
def G4(m:Mark)(N:Jd):Jd:=λl g=>g.status=Í/\∃a,(∀b,à P main g b=σ a b #[kT m])/\fF P main N l a
def Xu(a:Õ)(N:Int->Jd):Jd:=λl g=>g.status=Í/\∀v,∃c,(∀b:Ç,b.cell? a=À (ù Ý v)->à P main g b=σ c b #[lO a])/\fF P main (N v) l c
def Pj(a:Õ)(d:Int)(N:Int->Jd):Jd:=λl g=>g.status=Í/\∀v,∃c,(∀b:Ç,b.cell? a=À (ù Ý v)->b.frozen? a=Ä->à P main g b=σ c (b.setCell a<|ù Ý<|Ý.wrap<|v+d) #[lO a,oG a])/\N (Ý.wrap<|v+d) l c
def agP(a:Õ)(v:Int)(N:Jd):Jd:=λl g=>g.status=Í/\∃c,(∀(b:Ç)(x:Int),b.cell? a=À (ù Ý x)->b.frozen? a=Ä->à P main g b=σ c (b.setCell a<|ù Ý v) #[oG a])/\fF P main N l c
def agQ(a:Õ)(N:Jd):Jd:=λl g=>g.status=Í/\g.offers=Ú/\(∀b:Ç,b.cell? a=À (ù ń 0)->à P main g b=σ {g with status:=č} b #[])/\
 ∃c,(∀(b:Ç)(n:Int),n≠0->b.cell? a=À (ù ń n)->b.frozen? a=Ä->à P main g b=σ c (b.setCell a<|ù ń<|n-1) (Ġ a))/\fF P main N l c
def agR(a:Õ)(N:Jd):Jd:=λl g=>g.status=Í/\mayWake P g=È/\∃c,c.status=Í/\(∀(b:Ç)(n:Int),b.cell? a=À (ù ń n)->b.frozen? a=Ä->à P main g b=σ c (b.setCell a<|ù ń<|ń.wrap<|n+1) (Ġ a))/\N l c
def yI(c:Nat)(z:Ã)(N:Option Ã->Jd):Jd:=λl g=>g.status=Í/\g.offers=Ú/\(∀x,à P main g x=.comm g #[Ž c z] È (.recv È) x #[])/\
 ∀x:Option Ã,fF P main (N x) l {g with frame:=g.frame.finish (ŧ #[x.getD z,Ĭ x.isSome])}
def G5(c:Nat)(v:Ã)(N:Jd):Jd:=λl g=>g.status=Í/\g.offers=Ú/\(∀a,∃b,à P main g a=.comm g #[scase c v b] È .send a #[])/\fF P main N l {g with frame:=g.frame.finish ĭ}
def K0(c:Nat)(N:Jd):Jd:=λl g=>g.status=Í/\mayWake P g=È/\∃a,a.status=Í/\(∀(b:Ç) cap buf s r tm,b.heap[c]?=À (Λ cap buf Ä s r tm)->à P main g b=σ a (b.setChan c cap buf È s r tm) (EA c))/\fF P main N l a
def rh(n:Nat):Jd:=λl g=>QuitsD P n l.d g
inductive SP where|fV (n:Nat)|ld (v:Int) (m:Nat)
def EB(a:Õ)(B:Nat)(d e:Int->Jd)(p:SP):Jd:=λl g=>∃T:SP->Ì->Prop,T p g/\∀p g,T p g->g.status=Í/\match p with
 |.fV (n+1)=>n+1<=B/\(T (.fV 0) g\/∀b,∃c,à P main g b=σ c b #[]/\T (.fV n) c)|.fV 0=>∀v,∃c,(∀b:Ç,b.cell? a=À (ù Ý v)->à P main g b=σ c b #[lO a])/\(if 0<=v/\v<gK then v<1000000->fF P main (d v) l c else(gK<=v/\v<gK*2147483648/\v%gK<1000000)->∃m,m<=B/\T (.ld v m) c)|.ld v (m+1)=>gK<=v/\m+1<=B/\(T (.ld v 0) g\/∀b,∃c,à P main g b=σ c b #[]/\T (.ld v m) c)
 |.ld v 0=>gK<=v/\(∃c,(∀b:Ç,b.cell? a=À (ù Ý v)->b.frozen? a=Ä->à P main g b=σ c (b.setCell a<|ù Ý<|Ý.wrap<|v+1) #[lO a,oG a])/\fF P main (e v) l c)/\
  ∃c,(∀(b:Ç)(x:Int),x≠v->b.cell? a=À (ù Ý x)->b.frozen? a=Ä->à P main g b=σ c b #[lO a])/\∃n,n<=B/\T (.fV n) c
end
section
variable{P:Ó}{main:Bool}
def K1{e f:Int->Jd}{p:SP}{l:fx}{w₁:Ç}(h:EB P main a i e f p l g)(r:gd l l.w w₁):EB P main a i e f p {l with w:=w₁} g:=by
 let⟨T,o,h⟩:=h;refine⟨T,o,λp g j=>⟨(h p g j).1,?_⟩⟩;have:=(h p g j).2;match p,this with
 |.fV (n+1),q=>exact q|.fV 0,q=>
  intro v;let⟨c,d,b⟩:=q v;refine⟨c,d,?_⟩;by_cases k:0<=v/\v<gK;rw[if_pos k]at b|-;exact λq=>(b q).mD r;rw[if_neg k]at b|-;exact b|.ld v (m+1),q=>exact q|.ld v 0,⟨q0,⟨c,d,b⟩,q⟩=>exact⟨q0,⟨c,d,b.mD r⟩,q⟩
end
inductive jc where|no|jd|uH (c:Nat) (z:Ã)
inductive yJ(g0:Ì):jc->Ì->Prop|gR {k:jc}:yJ g0 k g0|qy (h:g0.status=Í) (ho:g0.offers=Ú):yJ g0 .jd {g0 with status:=č}|vE (c:Nat) (z:Ã) (h:g0.status=Í):yJ g0 (.uH c z) (ū g0 #[Ž c z]<|.recv È)|oT (c:Nat) (z:Ã) (h:g0.status=Í):yJ g0 (.uH c z) {ū g0 #[Ž c z] (.recv È)with status:=Í}
section
variable{P:Ó}
theorem agS(h:g.status=Í\/g.status=ï)(w:Ç):g.again w=g:=by unfold ň;grind
theorem Pk{a o:Ì}(h:o.status=Í\/o.status=ï):ė P g a w o=o:=by unfold ė;grind [agS]
def yJ.G6{g0 a b:Ì}{k:jc}(h:yJ g0 k g)(d:g0.status=Í\/g0.status=ï):yJ g0 k (ė P a b w g):=by
 cases h with
 |gR=>rw[Pk d];exact .gR|qy h c=>
  unfold ė;split;have:ň w {g0 with status:=č}=g0:=by let⟨z,e,st,f,i⟩:=g0;simp only at h c;subst h c;rfl
  rw[this];exact .gR;exact .qy h c|vE c z h=>
  unfold ė;split;unfold ň ū;simp only[];split;exact .oT c z h;exact .vE c z h;exact .vE c z h|oT c z h=>
  rw[Pk<|Á U];exact .oT c z h
end
structure iB(P:Ó)(B0:Nat)(Y:Nat->Prop)(S:Nat->Jd)(tr:Nat->gW)(kp:Nat->jc)(lot:Nat->fx)(gs:Array Ì)(w:Ç)(t:ÿ):Prop where
 r:jD B0 (λi=>i<gs.size) Y lot w t
 C:∀i g,gs[i]?=À g->∃g0,mE P (i==0) (S i) (tr i) (lot i) g0/\yJ g0 (kp i) g/\(g0.status=Í\/g0.status=ï)/\(g=g0\/tr i=.fT)
 I:∀j,gs.size<=j->Ū t j=0
def fP(f:Nat->gX)(i:Nat)(x:gX):Nat->gX:=λk=>if k=i then x else f k
theorem ig(f:Nat->gX)(i:Nat)(x:gX):fP f i x i=x:=if_pos U
theorem gi(f:Nat->gX)(x:gX)(h:k≠i):fP f i x k=f k:=if_neg h
section
variable{P:Ó}{B0:Nat}{Y:Nat->Prop}{S:Nat->Jd}{tr:Nat->gW}{kp:Nat->jc}{lot:Nat->fx}{gs:Array Ì}{w':Ç}{t:ÿ}{sl:Option (Nat×Nat)}
theorem Pm{a:Ì}(b:gs[i]?=À g)(h:à P (i==0) g w=σ a w' V): ∃gs',aW P (đ gs w sl) i=(Į<|đ gs' w' sl,Ê i g.frame.fn g.frame.place V)/\gs'.size=gs.size/\gs'[i]?=À a/\∀k,k≠i->gs'[k]?=gs[k]?.map (ė P g a w'):=by refine⟨_,runT_crowd_go b h,fD,by simp[(fp.1 b).1],λk c=> ?_⟩;grind
def iB.at(a:iB P B0 Y S tr kp lot gs w t)(d:Nat):iB P B0 Y S tr kp lot gs (w.at d) t:=⟨a.r.at d,a.C,a.I⟩
theorem iB.Xv(f:iB P B0 Y S tr kp lot gs w t){a:Ì}{J:Jd}{T:gW}{K:jc}{d:fx}(h:gs[i]?=À g)(o:à P (i==0) g w=σ a w' V)(B:jD B0 (λi=>i<gs.size) Y (gV lot i d) w' (t++Ê i g.frame.fn g.frame.place V))(hF:mE P (i==0) J T d a)(p:a.status=Í\/a.status=ï): ∃b,aW P (đ gs w sl) i=(Į<|đ b w' sl,Ê i g.frame.fn g.frame.place V)/\b.size=gs.size/\b[i]?=À a/\(∀k,k≠i->b[k]?=gs[k]?.map (ė P g a w'))/\ iB P B0 Y (fP S i J) (fP tr i T) (fP kp i K) (gV lot i d) b w' (t++Ê i g.frame.fn g.frame.place V):=by obtain⟨b,q,r,l,m⟩:=Pm h o;have C:=(fp.1 h).1;refine⟨b,q,r,l,m,?_,λk x c=> ?_,λj D=> ?_⟩;grind;by_cases e:k=i;subst e;rw[l]at c;obtain rfl:=dh c;rw[ig,ig,ig,iH];exact⟨a,hF,.gR,p,Á U⟩;rw[m k e]at c;obtain⟨y,s,rfl⟩:=è.1 c;rw[gi S _ e,gi tr _ e,gi kp _ e,iq lot _ e];let⟨g0,u,v,n,z⟩:=f.C k y s;refine⟨g0,u,v.G6 n,n,z.imp (λe=> ?_) id⟩;grind [Pk];rw[Pg Z t qf];exact f.I j Z
theorem agT{J:Jd}{k:Ç->gW}{l:fx}(h:mE P yQ J (.kx k) l g):g.status=Í:=h.1
def iB.fE(f:iB P B0 Y S tr kp lot gs w t){k:Ç->gW}(m:gs[i]?=À g)(n:tr i=.kx k)(s:∀l g,S i l g->g.status=Í\/g.status=ï): ∃c w' d h,aW P (đ gs w sl) i=(Į<|đ c w' sl,Ê i g.frame.fn g.frame.place d)/\c.size=gs.size/\(∃b,c[i]?=À b/\(b.status=Í\/b.status=ï))/\(∀k,k≠i->∃a j:Ì,c[k]?=gs[k]?.map (ė P a j w'))/\n5 (lot i) h w w' d/\ iB P B0 Y S (fP tr i<|k w) kp (gV lot i h) c w' (t++Ê i g.frame.fn g.frame.place d):=by
 have o:=(fp.1 m).1;let⟨g0,hF,F,_,u⟩:=f.C i g m;obtain rfl:g=g0:=u.resolve_right (by rw[n];simp);rw[n]at hF;let⟨G,hF⟩:=hF;let⟨b,w',d,h,v,p,e⟩:=hF w<|f.r.r i o;have q:b.status=Í\/b.status=ï:=by
  cases j:k w with|fT=>rw[j]at e;exact s _ _<|e _<|gd.gy _ _|kx r=>rw[j]at e;exact Á e.1
 obtain⟨c,x,y,z,B,r⟩:=f.Xv m v (f.r.agK o p _ _) e q;refine⟨c,w',d,h,x,y,⟨b,z,q⟩,λj C=>⟨g,b,B j C⟩,p,?_⟩;have D:fP S i (S i)=S:=by funext j;unfold fP;split<;>simp[*]
 have E:fP kp i (kp i)=kp:=by funext j;unfold fP;split<;>simp[*]
 rwa[D,E]at r
theorem iB.K(f:iB P B0 Y S tr kp lot gs w t){a:Ì}{J:Jd}{K:jc}{T:gW}(l:gs[i]?=À g)(m:à P (i==0) g w=σ a w' V)(n:rS (λi=>i<gs.size) Y lot w w')(hF:mE P (i==0) J T {lot i with d:=å (lot i).d V,w:=w'} a)(o:a.status=Í\/a.status=ï)(p:∀e∈V,(∀b,(Ï e).touch?=À b->G3 (λi=>i<gs.size) Y lot b)/\(Ï e).low w.heap.size)(q:∀r,¬Race r (t++Ê i g.frame.fn g.frame.place V)): ∃c,aW P (đ gs w sl) i=(Į<|đ c w' sl,Ê i g.frame.fn g.frame.place V)/\c.size=gs.size/\c[i]?=À a/\(∀k,k≠i->c[k]?=gs[k]?.map (ė P g a w'))/\ iB P B0 Y (fP S i J) (fP tr i T) (fP kp i K) (gV lot i {lot i with d:=å (lot i).d V,w:=w'}) c w' (t++Ê i g.frame.fn g.frame.place V):=by refine f.Xv l m (f.r.H (λk=> ?_) n (λh c b j=> ?_) (λh c=> ?_) q λk h=> ?_) hF o;by_cases e:k=i;subst e;rw[iH];exact⟨U,U,U,U,U,Å U⟩;grind [iq,xo.gy];obtain⟨e,j,rfl⟩:=Ò c;grind;obtain⟨e,j,rfl⟩:=Ò c;exact(p e j).2;by_cases e:k=i;subst e;rw[iH,Deaf_own,f.r.f k h];rw[iq lot _ e,Pg e t qf];exact f.r.f k h
def iB.Pn(h:iB P B0 Y S tr kp lot gs w t)(p:gs[i]?=À g)(x:i≠0)(l:g.status=Í)(q:kp i=.no)(y:tr i=.fT)(z:S i=rh P n): ∃c f b,n=b+1/\aW P (đ gs w sl) i=(Į<|đ c w sl,Ê i g.frame.fn g.frame.place f)/\c.size=gs.size/\(∀k,k≠i->∃a e:Ì,c[k]?=gs[k]?.map (ė P a e w))/\(∀e∈f,e.mute=È)/\ iB P B0 Y (fP S i<|rh P b) tr kp (gV lot i {lot i with d:=å (lot i).d f,w:=w}) c w (t++Ê i g.frame.fn g.frame.place f):=by
 let⟨g0,hF,r,L,_⟩:=h.C i g p;have B:g=g0:=by
  rw[q]at r;cases r with|gR=>rfl
 subst B;rw[y,z]at hF;have s:=hF w<|h.r.r i<|(fp.1 p).1;cases n with
 |zero=>rw[s.1]at l;cases l
 |succ n=>
  obtain⟨C,_⟩|⟨_,D,f,a,E,u⟩:=s;rw[C]at l;cases l;have m:(i==0)=Ä:=fN x;have F:fP kp i .no=kp:=by funext j;unfold fP;split<;>simp[*]
  have G:fP tr i .fT=tr:=by funext j;unfold fP;split<;>simp[*]
  obtain⟨c,H,I,_,K,v⟩:=h.K (J:=rh P n) (T:=.fT) p (by rw[m];exact E w) (rS.gy _ _ _ _) (λ_ _=>u) u.status (λe o=>⟨λb m=>(by rw[touch_mute<|a e o]at m;cases m),low_mute (a e o) _⟩) (Ch h.r.l λM b=>by obtain⟨e,o,rfl⟩:=Ò b;exact touch_mute<|a e o);rw[F,G]at v;exact⟨c,f,n,U,H,I,λk q=>⟨g,D,K k q⟩,a,v⟩
end
def yK(u:ÿ):Prop:=∀a∈u,a.act.touch?=Ú/\∀m,a.act≠Ņ m
theorem agU(t:ÿ)(a:Zn1)(b:a.act≠Ņ ak)(c:a.act≠Ņ bg)(j:Nat):Ū (t.push a) j=Ū t j:=by
 have d:t.push a=t++#[a]:=fD;rw[Ū,d,show(t++#[a]).size=t.size+1 by simp];show(match(t++#[a])[t.size]? with|some {g:=h,act:=Ņ ak, .. }=>if h=j then(t++#[a]).deaf j t.size+1 else(t++#[a]).deaf j t.size|some {g:=h,act:=Ņ bg, .. }=>if h=j then(t++#[a]).deaf j t.size-1 else(t++#[a]).deaf j t.size|_=>(t++#[a]).deaf j t.size)=_
 have e:(t++#[a])[t.size]?=À a:=fD;rw[e];let⟨g,f,i,k⟩:=a;simp only at b c;split;grind;grind;exact ZnT<|eE _
def Xw(t:ÿ):∀(u:List Zn1),(∀a∈u,a.act≠Ņ ak/\a.act≠Ņ bg)->∀j,Ū (t++u.toArray) j=Ū t j
 |[],_,j=>by simp
 |a::u,h,j=>by
  have e:t++(a::u).toArray=(t.push a)++u.toArray:=by apply Array.ext';simp
  rw[e,Xw (t.push a) u (λx b=>h x<|by simp[b]) j];exact agU t a (h a fD).1 (h a fD).2 j
def K2{u:ÿ}(h:yK u)(j:Nat):Ū (qJ++u) j=Ū qJ j:=by have:=Xw qJ u.toList (λa b=>⟨(h a<|fN b).2 _,(h a<|fN b).2 _⟩) j;simpa using this
section
variable{S:Nat->Jd}{C:Nat->gW}{B:Nat->jc}{lot:Nat->fx}{u:ÿ}{sl:Option (Nat×Nat)}
def jD.agV{Live:Nat->Prop}(h:jD i Live X lot w qJ)(f:rS Live X lot w W)(c:yK u)(g:∀a∈u,a.act.low w.heap.size):jD i Live X lot W (qJ++u):=h.H (λk=>xo.gy _ _) f (λa d b e=>by rw[(c a d).1]at e;cases e) g (Ch h.l λa d=>(c a d).1) λk b=>by rw[K2 c];exact h.f k b
def K3{Live:Nat->Prop}{r:Nat}{x:Bool}(y:X i)(p:w.heap[i]?=À (Λ n d yQ j r x))(f g h:Nat)(l:Array Ã)(m o:Bool):rS Live X lot w (w.setChan i f l m g h o):=by
 have q:∀b,b≠i->(w.setChan i f l m g h o).heap[b]?=w.heap[b]?:=λb u=>by unfold ζ;simp only;exact eA<|cR u
 have v:(w.setChan i f l m g h o).heap[i]?=À (Λ f l m g h o):=by unfold ζ;simp[(fp.1 p).1]
 refine⟨by unfold ζ;simp,λb u=>q b λe=>u<|e▸y,λk _ a _=> ?_,λk _ a _=> ?_,λa t=> ?_⟩;by_cases e:a.block=i;unfold Ď;rw[e,v,p];unfold Ď;rw[q _ e];by_cases e:a.block=i;unfold û;rw[e,v,p];unfold û;rw[q _ e];by_cases e:a.block=i;unfold Ď at t;rw[e,p]at t;cases t;have:(w.setChan i f l m g h o).cell? a=w.cell? a:=by unfold Ď;rw[q _ e]
 rwa[this]
def iB.H(b:iB P i X S C B lot E w qJ){J:Jd}{T:gW}{K:jc}(d:n<E.size)(f:rS (λn=>n<E.size) X lot w W)(c:yK u)(h:∀l∈u,l.act.low w.heap.size)(hF:mE P (n==0) J T (lot n) g)(m:g.status=Í\/g.status=ï): iB P i X (fP S n J) (fP C n T) (fP B n K) lot (E.setIfInBounds n g) W (qJ++u):=by refine⟨?_,λk x a=> ?_,λj o=> ?_⟩;rw[show(λj=>j<(E.setIfInBounds n g).size)=(λj=>j<E.size) by simp];exact b.r.agV f c h;by_cases e:k=n;subst e;rw[Ñ d]at a;obtain rfl:=dh a;rw[ig,ig,ig];exact⟨_,hF,.gR,m,Á U⟩;rw[eA<|cR e]at a;rw[gi S _ e,gi C _ e,gi B _ e];exact b.C k x a;rw[K2 c];exact b.I j<|fN o
def Po{f:gX->List gQ}:∀{l:List gX},(∀x∈l,f x=[])->l.flatMap f=[]|[],_=>rfl|x::l,h=>by rw[eL,h x fD,Po λy a=>h y (by simp[a])];rfl
def Au(r:Nat)(b:Bool)(g:Ì):Prop:=g.status=č/\∃a d,g.offers=À (a,d)/\∃c∈a,(c.send.isSome==b)=È/\(match c.chan with|.chan (À r')=>r'==r|_=>Ä)=È
theorem Xx{r:Nat}{E:Array Ì}(h:∀(i:Nat)(g:Ì),E[i]?=À g->¬Au r yQ g):ů E r yQ=[]:=by
 unfold ů;refine Po λx m=> ?_;let⟨g,i⟩:=x;have d:E[i]?=À g:=by grind
 simp only[];split;rename_i b e f j;rw[Χ,Ź];intro y n a;let⟨c,k⟩:=y;have l:c∈b:=by grind
 simp only[eC]at a;exact h i g d ⟨f,b,e,j,c,l,a.1,by have:=a.2;revert this;cases c.chan<;>first|exact id|(rename_i q;cases q<;>exact id)⟩;rfl
def Xy(f:gX×Nat->List gQ):∀(L:List gX)(n h:Nat)(x:gX),(∀y k,k≠h->(y,k)∈L.zipIdx n->f (y,k)=[])->n<=h->L[h-n]?=À x->(L.zipIdx n).flatMap f=f (x,h)
 |[],n,h,x,_,_,hx=>by simp at hx
 |a::L,n,h,x,hf,hn,hx=>by
  rw[bZ,eL];by_cases e:h=n;subst e;have:a=x:=fN hx;subst this;rw[Po ?_,ep];intro y b;let⟨y,k⟩:=y;refine hf y k ?_ (by rw[bZ];exact fi _ b);have:=List.le_snd_of_mem_zipIdx b;simp only at this;omega;rw[hf a n Z (by rw[bZ];exact eZ ..),ec];refine Xy f L (n+1) h x (λy k c b=>hf y k c<|by rw[bZ];exact fi _ b) Z ?_;have b:h-n=(h-(n+1))+1:=Z
  rw[b]at hx;simpa using hx
theorem agW{E:Array Ì}(l:E[n]?=À g)(m:g.status=č)(o:g.offers=À (#[Ž i z],.recv È))(p:∀(a:Nat)(b:Ì),a≠n->E[a]?=À b->¬Au i Ä b):ů E i Ä=[(n,0)]:=by
 unfold ů;have e:E.zipIdx.toList=E.toList.zipIdx:=fD;rw[e];rw[Xy _ E.toList 0 n g (λy k r B=> ?_) (eD _)<|fN l];simp[m,o,Ž];have s:E[k]?=À y:=by grind
 simp only[];split;rename_i j t u v;rw[Χ,Ź];intro x C d;let⟨f,D⟩:=x;have w:f∈j:=by grind
 simp only[eC]at d;exact p k y r s ⟨u,j,t,v,f,w,d.1,by have:=d.2;revert this;cases f.chan<;>first|exact id|(rename_i q;cases q<;>exact id)⟩;rfl
theorem Pp(h:(E.setIfInBounds i ph)[k]?=À g):g.status=ï\/(k≠i/\E[k]?=À g):=by by_cases e:k=i;subst e;rw[Ň]at h;simp only[if_true]at h;split at h;left;obtain rfl:=dh h;rfl;cases h;grind
theorem iB.Pq(l:iB P i X S C B lot E w qJ)(c a:Nat):ů (E.setIfInBounds a ph) c È=[]:=by
 refine Xx λk x m=> ?_;rintro⟨d,p,r,b,n,f,o,_⟩;obtain q|⟨_,q⟩:=Pp m;grind;let⟨g0,_,g,j,_⟩:=l.C k x q;generalize B k=K at g;cases g with
 |gR=>rw[d]at j;obtain e|e:=j<;>cases e
 |qy h e=>simp only[e]at b;cases b
 |vE e z h=>
  simp only[ū,dI,dJ]at b;rw[<-b.1]at f;have:n=Ž e z:=fN f;subst this;cases o
 |oT e z h=>cases d
def iB.G(e:iB P i X S C B lot E w qJ){N:Option Ã->Jd}(f:E[n]?=À g)(k:g.status=Í)(l:B n=.uH j z)(m:C n=.fT)(o:S n=yI P (n==0) j z N): ∃a,mE P (n==0) (S n) (C n) (lot n) a/\a.status=Í/\a.offers=Ú/\à P (n==0) g w=.comm a #[Ž j z] È (.recv È) w #[]/\∀x:Option Ã,fF P (n==0) (N x) (lot n) {a with frame:=a.frame.finish (ŧ #[x.getD z,Ĭ x.isSome])}:=by
 let⟨a,hF,b,_,_⟩:=e.C n g f;have p:=hF;rw[o,m]at hF;let⟨x,q,d,r⟩:=hF _<|gd.gy _ _;rw[l]at b;refine⟨a,p,x,q,?_,r⟩;cases b with
 |gR=>exact d w|vE j z h=>cases k
 |oT j z h=>rw[stepG_tries];rw[show({a with status:=Í}:Ì)=a by cases a;simp only at x;subst x;rfl];exact d w
def Av{g0:Ì}{a:Array CommCase}{b:CommShape}{ok:Bool}(c:g0.status=Í)(d:g0.offers=Ú):g0.finishComm P a b h v ok={g0 with frame:=g0.frame.finish (commResult a b h v ok)}:=by let⟨f,a,st,e,o⟩:=g0;simp only at c d;subst c d;rfl
def iB.oU(e:iB P i X S C B lot E w qJ){N:Option Ã->Jd}(h:E[n]?=À g)(G:g.status=Í)(l:B n=.uH j z)(H:C n=.fT)(I:S n=yI P (n==0) j z N)(p:X j){r:Nat}{o:Bool}(q:w.heap[j]?=À (Λ b d yQ m r o))(t:d[0]?=À v)(K:jc): ∃a u T f,aW P (đ E w sl) n=(Į<|đ a (w.setChan j b (d.extract 1 d.size) yQ m (r+1) o) sl,u)/\a.size=E.size/\a[n]?=À f/\f.status=Í/\(∀k,k≠n->a[k]?=E[k]?)/\yK u/\ iB P i X (fP S n<|N<|À v) (fP C n T) (fP B n K) lot a (w.setChan j b (d.extract 1 d.size) yQ m (r+1) o) (qJ++u):=by
 have x:=(fp.1 h).1;let⟨g0,_,f,y,J,L⟩:=e.G h G l H I;have D:d.getD 0 ĭ=v:=by simp[fq,t]
 have M:=crowd_recv_buf (sl:=sl) h J q ((fp.1 t).1)<|e.Pq j n;let⟨T,O⟩:=j1<|L<|À v;refine⟨_,_,T,{g0 with frame:=g0.frame.finish (ŧ #[v,Ĭ È])},M,fD,?_,f,λk l=>eA<|cR l,?_,?_⟩;rw[Av f y,D,Ñ x];rfl;intro F a;simp[Ê]at a;obtain rfl|rfl:=a<;>exact⟨U,fD⟩;rw[Av f y,D];refine e.H x (K3 p q _ _ _ _ _ _) ?_ ?_ O<|Á f;intro F a;simp[Ê]at a;obtain rfl|rfl:=a<;>exact⟨U,fD⟩;intro F a;simp[Ê]at a;obtain rfl|rfl:=a<;>exact e.r.N j p
def iB.jR(e:iB P i X S C B lot E w qJ){N:Option Ã->Jd}(h:E[n]?=À g)(q:g.status=Í)(l:B n=.uH j z)(t:C n=.fT)(v:S n=yI P (n==0) j z N)(x:X j){r:Nat}(y:w.heap[j]?=À (Λ b #[] È k r yQ))(K:jc): ∃d u T f,aW P (đ E w sl) n=(Į<|đ d w sl,u)/\d.size=E.size/\d[n]?=À f/\f.status=Í/\(∀a,a≠n->d[a]?=E[a]?)/\yK u/\ iB P i X (fP S n<|N Ú) (fP C n T) (fP B n K) lot d w (qJ++u):=by have m:=(fp.1 h).1;let⟨g0,_,f,o,D,F⟩:=e.G h q l t v;let⟨T,G⟩:=j1<|F Ú;refine⟨_,_,T,{g0 with frame:=g0.frame.finish (ŧ #[z,Ĭ Ä])},crowd_recv_closed (sl:=sl) h D y<|e.Pq j n,fD,?_,f,λa l=>eA<|cR l,?_,?_⟩;rw[Av f o,Ñ m];rfl;intro p d;simp[Ê]at d;subst d;exact⟨U,fD⟩;rw[Av f o];refine e.H m (rS.gy _ _ _ _) ?_ ?_ G<|Á f;intro p d;simp[Ê]at d;subst d;exact⟨U,fD⟩;intro p d;simp[Ê]at d;subst d;exact e.r.N j x
def iB.agX(f:iB P i X S C B lot E w qJ){N:Option Ã->Jd}(m:E[n]?=À g)(u:g.status=Í)(h:B n=.uH j z)(o:C n=.fT)(v:S n=yI P (n==0) j z N){r:Nat}(p:w.heap[j]?=À (Λ b #[] Ä k r yQ)): ∃d e,aW P (đ E w sl) n=(Į<|đ d w sl,#[])/\d.size=E.size/\d[n]?=À e/\e.status=č/\(∀a,a≠n->d[a]?=E[a]?)/\iB P i X S C B lot d w qJ:=by
 have q:=(fp.1 m).1;let⟨g0,hF,t,G,y,H⟩:=f.G m u h o v;have D:=crowd_waits (sl:=sl) m y (λd e=>by have:d=Ž j z:=fN e;subst this;exact⟨by simp[illMade,Ž,p],by simp[ways,Ž,p,f.Pq j n]⟩)
 refine⟨_,ū g0 #[Ž j z]<|.recv È,?_,fD,Ñ q,U,λa h=>eA<|cR h,?_,λa x l=> ?_,λd F=>f.I d<|fN F⟩;rw[D];rfl;rw[show(λd=>d<(E.setIfInBounds n<|ū g0 #[Ž j z]<|.recv È).size)=(λd=>d<E.size) by simp];exact f.r;by_cases e:a=n;subst e;rw[Ñ q]at l;obtain rfl:=dh l;refine⟨g0,hF,?_,Á t,Å o⟩;rw[h];exact .vE j z t;rw[eA<|cR e]at l;exact f.C a x l
def iB.jq(f:iB P i X S C B lot E w qJ){N:Jd}(h:E[n]?=À g)(l:B n=.no)(F:C n=.fT)(G:S n=G5 P (n==0) b v N)(p:X b){r:Nat}(t:w.heap[b]?=À (Λ m d Ä J r yQ))(H:d.size<m)(I:∀(k:Nat)(x:Ì),E[k]?=À x->¬Au b Ä x): ∃e u T a,aW P (đ E w sl) n=(Į<|đ e (w.setChan b m (d.push v) Ä (J+1) r yQ) sl,u)/\e.size=E.size/\e[n]?=À a/\a.status=Í/\(∀k,k≠n->e[k]?=E[k]?)/\yK u/\ iB P i X (fP S n N) (fP C n T) B lot e (w.setChan b m (d.push v) Ä (J+1) r yQ) (qJ++u):=by
 have y:=(fp.1 h).1;let⟨g0,hF,z,_,_⟩:=f.C n g h;rw[l]at z;cases z with
 |gR=>
  rw[G,F]at hF;let⟨a,D,o,K⟩:=hF _<|gd.gy _ _;let⟨V,o⟩:=o w;have L:ů (E.setIfInBounds n ph) b Ä=[]:=Xx λk x M=>by obtain q|⟨_,q⟩:=Pp M;rintro⟨e,_⟩;rw[q]at e;cases e;exact I k x q
  let⟨T,O⟩:=j1 K;have Q:fP B n .no=B:=by funext j;unfold fP;split<;>simp[*]
  refine⟨_,_,T,{g with frame:=g.frame.finish ĭ},crowd_send_room (sl:=sl) h o t H L,fD,?_,a,λk l=>eA<|cR l,?_,?_⟩;rw[Av a D,Ñ y];rfl;intro q e;simp[Ê]at e;obtain rfl|rfl:=e<;>exact⟨U,fD⟩;rw[Av a D,<-Q];refine f.H y (K3 p t _ _ _ _ _ _) ?_ ?_ O<|Á a;intro q e;simp[Ê]at e;obtain rfl|rfl:=e<;>exact⟨U,fD⟩;intro q e;simp[Ê]at e;obtain rfl|rfl:=e<;>exact f.r.N b p
def iB.agY(o:iB P i X S C B lot E w qJ){p:Ì}{N:Jd}{D:Option Ã->Jd}(F:E[n]?=À g)(f:B n=.no)(ht:C n=.fT)(hs:S n=G5 P (n==0) b v N)(L:X b){r:Nat}(M:w.heap[b]?=À (Λ J d Ä j9 r yQ))(G:j≠n)(t:E[j]?=À p)(O:p.status=č)(K4:B j=.uH b z)(Pt:C j=.fT)(K5:S j=yI P (j==0) b z D)(K:jc)(hp:∀(k:Nat)(x:Ì),k≠j->E[k]?=À x->¬Au b Ä x): ∃e u T y h q,aW P (đ E w sl) n=(Į<|đ e (w.setChan b J d Ä (j9+1) (r+1) yQ) sl,u)/\e.size=E.size/\e[n]?=À h/\h.status=Í/\e[j]?=À q/\q.status=Í/\(∀k,k≠n->k≠j->e[k]?=E[k]?)/\yK u/\ iB P i X (fP (fP S j<|D<|À v) n N) (fP (fP C j y) n T) (fP (fP B j K) n .no) lot e (w.setChan b J d Ä (j9+1) (r+1) yQ) (qJ++u):=by
 have Q:=(fp.1 F).1;have V:=(fp.1 t).1;let⟨g0,hF,W,_,_⟩:=o.C n g F;let⟨a,Y,Xz,avM,_⟩:=o.C j p t;rw[f]at W;rw[K4]at Xz;cases W with
 |gR=>
  rw[hs,ht]at hF;let⟨H,h2,I,h4⟩:=hF _<|gd.gy _ _;let⟨z',I⟩:=I w;rw[K5,Pt]at Y;let⟨l,k2,k3,k4⟩:=Y _<|gd.gy _ _;have EC:p=ū a #[Ž b z] (.recv È):=by
   cases Xz with
   |gR=>rw[O]at l;cases l
   |vE _ _ h=>rfl|oT _ _ h=>cases O
  subst EC;have hpn:ů (E.setIfInBounds n ph) b Ä=[(j,0)]:=agW (by rwa[eA<|cR G]) U U λk x f hx=>by obtain q|⟨_,q⟩:=Pp hx;rintro⟨e,_⟩;rw[q]at e;cases e;exact hp k x f q
  have Pu:=crowd_send_meets (sl:=sl) F I M G t hpn;let⟨T,hT⟩:=j1 h4;let⟨y,hTj⟩:=j1<|k4<|À v;rw[Av H h2,Av l k2]at Pu;have q:∀{h:Zn1},h∈Ê n g.frame.fn g.frame.place #[]++#[{g:=n,fn:=g.frame.fn,pos:=g.frame.place,act:=.send b j9},{g:=j,fn:=a.frame.fn,pos:=a.frame.place,act:=.recv b r J},{g:=n,fn:=g.frame.fn,pos:=g.frame.place,act:=.sendDone b j9},{g:=j,fn:=a.frame.fn,pos:=a.frame.place,act:=.recvDone b r}]->(h.act.touch?=Ú/\∀m,h.act≠Ņ m)/\h.act.low w.heap.size:=by intro h e;simp[Ê]at e;obtain rfl|rfl|rfl|rfl:=e<;>exact⟨⟨U,fD⟩,o.r.N b L⟩
  refine⟨_,_,T,y,{g with frame:=g.frame.finish ĭ},{a with frame:=a.frame.finish (ŧ #[v,Ĭ È])},Pu,fD,?_,H,?_,l,λk f rT=> ?_,λh e=>(q e).1,?_⟩;rw[Ñ<|fN Q];rfl;rw[eA<|cR G,Ñ V];rfl;rw[eA<|cR f,eA<|cR rT];have m:iB P i X (fP S j<|D<|À v) (fP C j y) (fP B j K) lot (E.setIfInBounds j {a with frame:=a.frame.finish (ŧ #[v,Ĭ È])}) w (qJ++#[]):=o.H V (rS.gy _ _ _ _) (λh e=>by simp at e) (λh e=>by simp at e) hTj<|Á l;rw[dK]at m;refine m.H (fN Q) (K3 L M _ _ _ _ _ _) (λh e=>(q e).1) (λh e=>(q e).2) hT<|Á H
theorem iB.ml(o:iB P i X S C B lot E w qJ){N:Jd}(I:E[n]?=À g)(K:B n=.no)(ht:C n=.fT)(hs:S n=K0 P (n==0) J N)(L:X J)(hB:i<=J){r:Nat}(O:w.heap[J]?=À (Λ j9 q Ä j7 r yQ)): ∃t u T G,aW P (đ E w sl) n=(Į<|đ t (w.setChan J j9 q È j7 r yQ) sl,u)/\t.size=E.size/\t[n]?=À G/\G.status=Í/\(∀k x,k≠n->E[k]?=À x->t[k]?=À (x.again<|w.setChan J j9 q È j7 r yQ))/\(∀l∈u,l.g=n)/\(∀l∈u,∀b,l.act.touch?=À b->b.loc=.obj J/\b.kind=ĩ)/\(∀l∈u,∀m,l.act≠Ņ m)/\ iB P i X (fP S n N) (fP C n T) B (gV lot n {lot n with w:=w.setChan J j9 q È j7 r yQ}) t (w.setChan J j9 q È j7 r yQ) (qJ++u):=by
 have H:=(fp.1 I).1;have Q:=o.r.N J L;let⟨g0,hF,V,_,_⟩:=o.C n g I;rw[K]at V;cases V with
 |gR=>
  rw[hs,ht]at hF;let⟨h1,h2,G,M,h4,h5⟩:=hF w<|o.r.r n H;have v:=K3 (lot:=lot) (Live:=λn=>n<E.size) L O j9 j7 r q È yQ;have y:gd (lot n) w (w.setChan J j9 q È j7 r yQ):=⟨cZ v.r.symm,λj hj=>v.lB j<|o.r.I n H j hj,λa z=>v.M n H a z,λa z=>v.N n H a z,λa _=>v.I a⟩;let⟨T,hT⟩:=j1<|h5.mD ⟨y.r,y.I,y.N,y.Y,y.S⟩;have W:å (lot n).d (EA J)=(lot n).d:=aG (λe f=>by simp[EA]at f;grind) _;have D:∀e∈EA J,(∀b,(Ï e).touch?=À b->b.loc=.obj J/\b.kind=ĩ)/\(Ï e).low w.heap.size:=by intro e f;simp[EA]at f;obtain rfl|rfl:=f;exact⟨λb h=>by simp[Ï,í]at h;subst h;exact⟨U,U⟩,Q⟩;exact⟨λb h=>by simp[Ï,í]at h,Q⟩
  have e2:fP B n .no=B:=by funext j;unfold fP;split<;>simp[*]
  obtain⟨t,q1,q2,q3,q4,Y⟩:=o.K I (h4 w j9 q j7 r yQ O) v (by rwa[W]) (Á M) (λe f=>⟨λb h=>Å ⟨J,((D e f).1 b h).1,L,((D e f).1 b h).2⟩,(D e f).2⟩) (Pe o.r.l qf λl F b h=>by obtain⟨e,f,rfl⟩:=Ò F;let⟨z1,z2⟩:=(D e f).1 b h;refine Å (Å ⟨z2,λp a z hl xp=> ?_⟩);have:=o.r.s p a J z (by rw[hl,z1]) xp;omega);rw[W,e2]at Y;refine⟨t,_,T,G,q1,q2,q3,M,λk x K p=> ?_,qf,λl F b h=> ?_,λl F=> ?_,Y⟩;rw[q4 k K,p];simp only[dT,dI];rw[ė,if_pos (by simp[h2,M])];obtain⟨e,f,rfl⟩:=Ò F;exact(D e f).1 b h;obtain⟨e,f,rfl⟩:=Ò F;simp[EA]at f;intro m;obtain rfl|rfl:=f<;>simp[Ï]
end
def gu(b:Nat):Õ:=⟨b,0,Ú⟩
def iI(b:Nat):Õ:=⟨b,1,Ú⟩
inductive GS where|cl (c reg:Nat)|ky (reg:Nat)|iJ (r s:Nat)
def GS.st:GS->Int|.cl c a=>c*gK+a|.ky a=>a|.iJ _ _=>0
def GS.sm:GS->Int|.iJ _ s=>s|_=>0
def GS.ok:GS->Prop|.cl c r=>c<1000000/\r<1000000/\(c=0->r=0)|.ky r=>0<r/\r<1000000|.iJ r s=>r+s<1000000
structure iQ(w:Ç)(b:Nat)(G:GS):Prop where
 C:w.cell? (gu b)=À (ù Ý G.st)
 I:w.cell? (iI b)=À (ù ń G.sm)
 M:w.frozen? (gu b)=Ä
 N:w.frozen? (iI b)=Ä
 r:G.ok
theorem K6(h:w.cell? a=À x):(w.setCell a v).cell? a=À v:=by unfold Ď at h|-;unfold ü;grind
theorem Ci(h:a.block≠p.block\/a.off≠p.off):(w.setCell a v).cell? p=w.cell? p:=by unfold Ď ü;grind
theorem Pv:mj (w.setCell a v) b=mj w b:=by unfold mj ü;grind
def vF:(w.setCell a v).frozen? p=w.frozen? p:=by simp_all
theorem oV(h:j≠a.block):(w.setCell a v).heap[j]?=w.heap[j]?:=by unfold ü;grind
def mh:(w.setCell a v).heap.size=w.heap.size:=by simp_all
theorem Cj(h:(w.cell? p).isSome=È):((w.setCell a v).cell? p).isSome=È:=by unfold Ď ü at*;grind
theorem agZ{Live Y:Nat->Prop}{c:Nat->fx}(f:Y a.block)(l:a.spot=Ú)(m:∀k,Live k->¬(c k).C a)(g:∀k,Live k->∀b,(c k).C b->b.spot=Ú):rS Live Y c w (w.setCell a v):=by refine⟨mh,λj h=>oV λe=>h<|e▸f,λk i b d=>Ci ?_,λ_ _ _ _=>vF,λb d=>Cj d⟩;by_cases e:a.block=b.block;right;intro n;have:=g k i b d;let⟨o,p,q⟩:=b;let⟨r,s,t⟩:=a;grind;exact Á e
section
variable{b:Nat}{G:GS}
def iQ.K(h:iQ w b G)(a:u.cell? (gu b)=w.cell? (gu b))(c:u.cell? (iI b)=w.cell? (iI b))(d:u.frozen? (gu b)=w.frozen? (gu b))(e:u.frozen? (iI b)=w.frozen? (iI b)):iQ u b G:=⟨a.trans h.C,c.trans h.I,d.trans h.M,e.trans h.N,h.r⟩
def iQ.Px(h:iQ w b G)(c:a.block≠b):iQ (w.setCell a v) b G:=h.K (Ci<|Á c) (Ci<|Á c) vF vF
def iQ.H{G':GS}(h:iQ w b G)(a:G'.sm=G.sm)(d:G'.ok)(e:c=G'.st):iQ (w.setCell (gu b)<|ù Ý c) b G':=⟨by rw[K6 h.C,e],by rw[Ci (Å<|by simp[gu,iI]),h.I,a],by rw[vF,h.M],by rw[vF,h.N],d⟩
def iQ.XA{G':GS}(h:iQ w b G)(a:G'.st=G.st)(d:G'.ok)(e:c=G'.sm):iQ (w.setCell (iI b)<|ù ń c) b G':=⟨by rw[Ci (Å<|by simp[gu,iI]),h.C,a],by rw[K6 h.I,e],by rw[vF,h.M],by rw[vF,h.N],d⟩
end
theorem K7(a:0<=h)(b:h<18446744073709551616):Ý.wrap h=h:=by have:Ý.wrap h=h%18446744073709551616:=rfl;rw[this];omega
def ag0(a:4294967296<=h)(b:h<18446744073709551616):Ý.wrap (h+18446744069414584320)=h-4294967296:=by have:Ý.wrap (h+18446744069414584320)=(h+18446744069414584320)%18446744073709551616:=rfl;rw[this];omega
theorem ag5(a:0<=h)(b:h<4294967296):ń.wrap h=h:=by have:ń.wrap h=h%4294967296:=rfl;rw[this];omega
def sK:Int:=18446744069414584320
def GS.jm:GS->GS|.cl (c+1) reg=>if c=0/\0<reg then .ky reg else .cl c reg|G=>G
section
variable{b:Nat}
theorem iQ.ag6(h:iQ w b (.cl i 0))(a:i+1<1000000):Ý.wrap ((GS.cl i 0).st+gK)=(GS.cl (i+1) 0).st/\iQ (w.setCell (gu b)<|ù Ý<|Ý.wrap<|(GS.cl i 0).st+gK) b (.cl (i+1) 0):=by
 have e:Ý.wrap ((GS.cl i 0).st+gK)=(GS.cl (i+1) 0).st:=by simp only[GS.st,gK];grind [K7]
 exact⟨e,h.H (G':=.cl (i+1) 0) U ⟨a,Z,Z⟩ e⟩
def iQ.jm(h:iQ w b (.cl (i+1) n)):Ý.wrap ((GS.cl (i+1) n).st+sK)=(GS.jm<|.cl (i+1) n).st/\iQ (w.setCell (gu b)<|ù Ý<|Ý.wrap<|(GS.cl (i+1) n).st+sK) b (GS.jm<|.cl (i+1) n):=by
 let⟨f,a,g⟩:=h.r;have d:Ý.wrap ((GS.cl (i+1) n).st+sK)=(i:Int)*gK+n:=by simp only[GS.st,gK,sK];rw[ag0 Z Z];omega
 have e:Ý.wrap ((GS.cl (i+1) n).st+sK)=(GS.jm<|.cl (i+1) n).st:=by rw[d];simp only[GS.jm];by_cases q:i=0/\0<n;rw[if_pos q];obtain⟨rfl,_⟩:=q;simp[GS.st];rw[if_neg q];rfl
 refine⟨e,h.H ?_ ?_ e⟩;simp only[GS.jm];split<;>rfl;simp only[GS.jm];by_cases q:i=0/\0<n;rw[if_pos q];exact⟨q.2,a⟩;rw[if_neg q];exact⟨Z,a,λe=>by omega⟩
theorem iQ.XB(h:iQ w b (.cl i n))(f:0<i)(a:n+1<1000000):Ý.wrap ((GS.cl i n).st+1)=(GS.cl i<|n+1).st/\iQ (w.setCell (gu b)<|ù Ý<|Ý.wrap<|(GS.cl i n).st+1) b (.cl i (n+1)):=by
 let⟨d,g,j⟩:=h.r;have e:Ý.wrap ((GS.cl i n).st+1)=(GS.cl i<|n+1).st:=by simp only[GS.st,gK];grind [K7]
 exact⟨e,h.H (G':=.cl i (n+1)) U ⟨d,a,λe=>by omega⟩ e⟩
def iQ.XC(h:iQ w b (.ky i)):iQ (w.setCell (gu b)<|ù Ý 0) b (.iJ i 0):=h.H (G':=.iJ i 0) U (by have:=h.r;simp only[GS.ok]at this|-;omega) U
theorem iQ.kv{r:Nat}(h:iQ w b (.iJ (r+1) i)):iQ (w.setCell (iI b)<|ù ń<|ń.wrap<|(GS.iJ (r+1) i).sm+1) b (.iJ r (i+1)):=by have:=h.r;simp only[GS.ok]at this;refine h.XA (G':=.iJ r (i+1)) U (by simp only[GS.ok];omega) ?_;simp only[GS.sm];grind [ag5]
def iQ.lP{r:Nat}(h:iQ w b (.iJ r (i+1))):iQ (w.setCell (iI b)<|ù ń<|(GS.iJ r<|i+1).sm-1) b (.iJ r i):=by have:=h.r;simp only[GS.ok]at this;refine h.XA (G':=.iJ r i) U (by simp only[GS.ok];omega) ?_;simp only[GS.sm];omega
def iQ.ag7{G:GS}(h:iQ w b G):(0<=G.st/\G.st<gK)↔∀c a,G=.cl c a->c=0:=by
 have d:=h.r;cases G with
 |cl c a=>
  let⟨r,s,f⟩:=d;simp only[GS.st,gK];constructor;intro q g i e;cases e;omega;intro q;have:=q c a U;subst this;omega
 |ky a=>simp only[GS.ok]at d;simp only[GS.st,gK];exact⟨λ_ _ _ e=>(by cases e),λ_=>by omega⟩|iJ r s=>simp only[GS.st,gK];exact⟨λ_ _ _ e=>(by cases e),λ_=>by omega⟩
end
inductive kH where|kv|jk|ij (W:Nat)|jN (W:Nat)|jd (r:Nat)
inductive km where|jG|nO (p:SP)|wr|lP|ij|ng
section
variable(P:Ó)(main:Bool)(B:Nat)(b:Nat)(J:Jd)
def G7:Nat->Jd|0=>J|r+1=>λl g=>l.d=1/\agR P main (iI b) (match r with|0=>J|_=>fF P main<|G7 r) l g
def K8(W:Nat):Jd:=λl g=>l.d=1/\agP P main (gu b) 0 (G7 P main b J W) l g
def K9(W:Nat):Jd:=λl g=>l.d=1/\Xu P main (gu b) (λv=>if v=(W:Int)then K8 P main b J W else λ_ _=>True) l g
def Py:Jd:=λl g=>l.d=1/\Pj P main (gu b) sK (λs=>if s=0\/(gK<=s/\s<1000000*gK/\s%gK<1000000)then J else if 0<s/\s<1000000 then fF P main (K9 P main b J s.toNat)else λ_ _=>True) l g
def Aw:Jd:=λl g=>l.d=0/\G4 P main (Ĥ<|gu b) (Py P main b J) l g
def ED:kH->Jd|.kv=>Aw P main b J|.jk=>Py P main b J|.ij W=>K9 P main b J W|.jN W=>K8 P main b J W|.jd r=>G7 P main b J r
def G8:Jd:=λl g=>l.d=0/\G4 P main (ZnR<|gu b) J l g
def XD:Jd:=λl g=>l.d=1/\Xu P main (gu b) (λv=>if v=0 then G8 P main b J else λ_ _=>True) l g
def La:Jd:=λl g=>l.d=1/\agQ P main (iI b) (XD P main b J) l g
def Pz:Jd:=λl g=>l.d=1/\G4 P main (.write<|iI b) (La P main b J) l g
def PE(p:SP):Jd:=λl g=>l.d=1/\EB P main (gu b) B (λ_=>G8 P main b J) (λv=>if v%gK=0 then Pz P main b J else La P main b J) p l g
def sL:km->Jd|.jG=>λl g=>∃k,k<=B/\PE P main B b J (.fV k) l g|.nO p=>PE P main B b J p|.wr=>Pz P main b J|.lP=>La P main b J|.ij=>XD P main b J|.ng=>G8 P main b J
end
section
variable{P:Ó}{Y:Nat->Prop}{S:Nat->Jd}{tr:Nat->gW}{f:Nat->jc}{lot:Nat->fx}{gs:Array Ì}{t:ÿ}
theorem jD.C{Live:Nat->Prop}(h:jD n Live Y lot w t)(E:Live i){l:fx}(s:∀b,l.O b->(lot i).O b)(x:∀b,l.I b->(lot i).M b\/(b<w.heap.size/\¬Y b/\(∀k,Live k->¬(lot k).O b)/\∀a:Õ,a.block=b->rf t i (é a)))(u:∀a,l.r a->(lot i).r a)(y:∀a,l.N a->(lot i).C a\/(Y a.block/\(∀k,Live k->¬(lot k).r a)/\rf t i (é a)))(F:l.K=(lot i).K)(D:l.d=(lot i).d)(G:l.w=w)(H:∀b,l.O b->¬l.I b)(I:∀a,l.r a->¬l.N a):jD n Live Y (gV lot i l) w t:=by
 have v:∀b,l.M b->(lot i).M b\/(b<w.heap.size/\¬Y b/\(∀k,Live k->¬(lot k).O b)/\∀a:Õ,a.block=b->rf t i (é a)):=λb g=>g.elim (λq=>Á<|Á<|s b q)<|x b;have B:∀a,l.C a->(lot i).C a\/(Y a.block/\(∀k,Live k->¬(lot k).r a)/\rf t i (é a)):=λa f=>f.elim (λq=>Á<|Á<|u a q)<|y a;refine⟨λk j c o m b g=> ?_,λk j c o m a f=> ?_,λk c b g=> ?_,λk c a f=> ?_,λk c b g=> ?_,λk c a f=> ?_,λk c b g=> ?_,h.N,λk c=> ?_,λk c=> ?_,λk c=> ?_,h.l,h.q,h.s,λk c a f=> ?_⟩;by_cases e:k=i;subst e;rw[iH]at g;rw[iq lot _<|cR m];exact h.o k j c o m b<|s b g;rw[iq lot _ e]at g;by_cases p:j=i;subst p;rw[iH];intro q;obtain z|⟨_,_,z,_⟩:=v b q;exact h.o k j c o m b g z;exact z k c g;rw[iq lot _ p];exact h.o k j c o m b g;by_cases e:k=i;subst e;rw[iH]at f;rw[iq lot _<|cR m];exact h.h k j c o m a<|u a f;rw[iq lot _ e]at f;by_cases p:j=i;subst p;rw[iH];intro q;obtain z|⟨_,z,_⟩:=B a q;exact h.h k j c o m a f z;exact z k c f;rw[iq lot _ p];exact h.h k j c o m a f;by_cases e:k=i;grind [iH];rw[iq lot _ e]at g|-;exact h.m k c b g;by_cases e:k=i;grind [iH];rw[iq lot _ e]at f|-;exact h.g k c a f;by_cases e:k=i;subst e;rw[iH]at g;exact(v b g).elim (h.I k c b) λz=>z.2.1;rw[iq lot _ e]at g;exact h.I k c b g;by_cases e:k=i;subst e;rw[iH]at f;exact(B a f).elim (h.e k c a) λz=>z.1;rw[iq lot _ e]at f;exact h.e k c a f;by_cases e:k=i;subst e;rw[iH]at g;exact(v b g).elim (h.fM k c b) λz=>z.1;rw[iq lot _ e]at g;exact h.fM k c b g;by_cases e:k=i;grind [iH,gd.gy];rw[iq lot _ e];exact h.r k c;by_cases e:k=i;subst e;rw[iH];refine⟨λa f=>(h.S k c).fE a<|s _ f,λa f=> ?_,λa f=>(h.S k c).C a<|u a f,λa f=> ?_⟩;obtain(z|z)|⟨_,_,_,z⟩:=x _ f;exact((h.S k c).fE a z).r;exact(h.S k c).rd a z;exact z a U;obtain(z|z)|⟨_,_,z⟩:=y _ f;exact((h.S k c).C a z).r;exact(h.S k c).r a z;exact z;rw[iq lot _ e];exact h.S k c;by_cases e:k=i;subst e;rw[iH,D];exact h.f k c;rw[iq lot _ e];exact h.f k c;have e:(lot k).K a:=by grind [iH,iq]
 let⟨p,q⟩:=h.n k c a e;grind [iH,iq]
def iB.M(b:iB P n Y S tr f lot gs w t){J:Jd}{T:gW}{K:jc}{l:fx}(c:gs[i]?=À g)(d:g.status=Í\/g.status=ï)(h:jD n (λi=>i<gs.size) Y (gV lot i l) w t)(hF:mE P (i==0) J T l g): iB P n Y (fP S i J) (fP tr i T) (fP f i K) (gV lot i l) gs w t:=by refine⟨h,λk x a=> ?_,b.I⟩;by_cases e:k=i;subst e;rw[c]at a;obtain rfl:=dh a;rw[ig,ig,ig,iH];exact⟨g,hF,.gR,d,Á U⟩;rw[gi S _ e,gi tr _ e,gi f _ e,iq lot _ e];exact b.C k x a
end
open Go.ConcN (RelBy fork_knows)
def Ck(t:ÿ)(p:Nat)(l:Loc):Prop:=∀q a,Ĉ t q=À a->a.loc=l->a.write=È->Before t q p
theorem Ck.Cl{u:ÿ}{l:Loc}(h:Ck qJ i l)(j:∀c∈u,∀b,c.act.touch?=À b->b.loc=l->b.write=È->False):Ck (qJ++u) i l:=by intro q a e f g;obtain⟨_,d⟩|⟨_,c,d,k,_⟩:=oF e;exact(h q a d f g).app u;grind
def Ck.ag8{l:Loc}(h:Ck qJ i l)(b:ε qJ n i):rf qJ n l:=λq a c d e=>Knows.of_before (h q a c d e) b
theorem ag9{l:Loc}(h:rf qJ i l)(c:wQ.g=i)(j:wQ.act.touch?=Ú):Ck (qJ++#[wQ]) qJ.size l:=by intro q a d e f;obtain⟨_,b⟩|⟨_,k,b,m,_⟩:=oF d;exact Å ((h q a b e f).hb_new (eE _) (by rw[ú<|eE _];simp) c);grind
structure Fx where
 L:Nat
 m:Nat
 C:Nat
 I:Nat->Nat
def Fx.M(F:Fx)(b:Nat):Prop:=b=F.C\/∃k,k<=F.m/\b=F.I k
def Fx.H(F:Fx)(x:Õ):Prop:=∃b,F.M b/\(x=gu b\/x=iI b)
def jS(F:Fx)(k:Nat):Õ:=⟨F.I k,2,Ú⟩
def Fx.K(F:Fx)(a:Nat->Option Nat)(x:Õ)(g:Option Nat):Prop:=(x=iI F.C/\g=À 0)\/∃k j,k<=F.m/\x=iI (F.I k)/\a k=À j/\g=À (F.L+1+j)
structure TI(F:Fx)(t0:Nat)(j2:Loc->Prop)(sp rl:Nat)(V:Nat->Nat->Prop)(pk:Nat->Nat)(fs:Nat->Option Nat)(rx:Nat->Prop)(ql:Nat->Nat)(t:ÿ):Prop where
 M:t0<=t.size
 I:∀p a x,Ĉ t p=À a->a.loc=é x->F.H x->(p<t0/\t.g? p=À 0)\/a.kind=ĩ\/(a.kind=.said/\F.K fs x (t.g? p))
 Cm:∀x,x<sp->∀p,p<t0->t.g? p=À 0->ε t (F.L+x) p
 S:∀k,1<=k->k<=rl->t.act? (pk k)=À (Ņ<|Ĥ<|gu<|F.I k)/\t.g? (pk k)=À F.L/\t.heard (pk k)
 C:∀k,1<=k->k<=rl->∀a:Õ,(V k a.block\/a=jS F k)->Ck t (pk k) (é a)
 c:∀b,F.M b->NoRelease (gu b) t
 jm:∀x,x<sp->rx x->RelBy (gu F.C) t (F.L+x) (ql x)/\∀p a,Ĉ t p=À a->t.g? p=À (F.L+x)->p<=ql x\/((∃y:Õ,a.loc=é y/\y.block=F.C)/\a.kind=ĩ)
 N:∀p a,t0<=p->Ĉ t p=À a->t.g? p=À 0\/∃x,x<sp/\t.g? p=À (F.L+x)
 e:∀p a,p<t0->Ĉ t p=À a->a.loc.isMemory=È->ε t 0 p\/(j2 a.loc/\a.kind=ĩ)
 d:∀p g,p<t0->t.g? p=À g->g≠0->t.counts p->∃j,t.g? j=À 0/\HappensBefore t p j
section
variable{F:Fx}{t0:Nat}{j2:Loc->Prop}{sp rl:Nat}{V:Nat->Nat->Prop}{pk:Nat->Nat}{fs:Nat->Option Nat}{rx:Nat->Prop}{ql:Nat->Nat}{t u:ÿ}
theorem Lb(h:t.g? i=À n):i<t.size:=by unfold ĵ at h;grind
def G9(h:t.g? i=À n):(t++u).g? i=À n:=by rwa[ρ<|Lb h]
theorem PF{a:Zn4}(h:Ĉ t i=À a):i<t.size:=by let⟨b,c,_⟩:=Zot h;grind
structure Lc(F:Fx)(sp rl:Nat)(V:Nat->Nat->Prop)(fs:Nat->Option Nat)(rx:Nat->Prop)(t u:ÿ)(i:Nat):Prop where
 C:∀op∈u,∀a,op.act.touch?=À a->op.g=i
 N:i=0\/(∃x,x<sp/\i=F.L+x)\/∀op∈u,op.act.touch?=Ú
 I:∀op∈u,∀a x,op.act.touch?=À a->a.loc=é x->F.H x->a.kind=ĩ\/(a.kind=.said/\F.K fs x (À i))
 fH:∀op∈u,∀(a:Zn4)(y:Õ),op.act.touch?=À a->a.write=È->a.loc=é y->∀k,1<=k->k<=rl->¬V k y.block/\y≠jS F k
 M:∀op∈u,∀b,F.M b->op.act≠Ņ (Zou<|gu b)
 jm:∀x,x<sp->rx x->(∀r,RelBy (gu F.C) t (F.L+x) r->RelBy (gu F.C) (t++u) (F.L+x) r)/\(F.L+x=i->∀op∈u,∀a,op.act.touch?=À a->(∃y:Õ,a.loc=é y/\y.block=F.C)/\a.kind=ĩ)
def TI.r(h:TI F t0 j2 sp rl V pk fs rx ql t)(f:Lc F sp rl V fs rx t u i):TI F t0 j2 sp rl V pk fs rx ql (t++u) where
 M:=by rw[b7];have:=h.M;omega
 I p a x n y hc:=by
  obtain⟨d,c⟩|⟨d,m,c,l,j⟩:=oF n;rw[ρ d];exact h.I p a x c y hc;refine Å ((f.I m c a x l y hc).imp id λq=>⟨q.1,?_⟩);have:(t++u).g? p=À i:=by rw[ĵ,j];simp[f.C m c a l]
  rw[this];exact q.2
 Cm x r p d o:=(h.Cm x r p d<|by rwa[ρ<|ff d h.M]at o).app u;S k c l:=by let⟨v,s,b⟩:=h.S k c l;have w:=Lb s;exact⟨by rwa[Zov w],G9 s,(heard_old w).2 b⟩
 C k c l a n:=(h.C k c l a n).Cl λm B b z y C=>by have:=f.fH m B b a z C y k c l;exact n.elim this.1 this.2
 c b z:=(h.c b z).app λm B=>f.M m B b z;jm x r hr:=by
  let⟨v,s⟩:=h.jm x r hr;let⟨D,E⟩:=f.jm x r hr;refine⟨D _ v,λp a n o=> ?_⟩;obtain⟨d,c⟩|⟨d,m,c,l,j⟩:=oF n;exact s p a c (by rwa[ρ d]at o);have e:(t++u).g? p=À i:=by rw[ĵ,j];simp[f.C m c a l]
  rw[e]at o;exact Å<|E (dh o).symm m c a l
 N p a d n:=by
  obtain⟨D,c⟩|⟨_,m,c,l,j⟩:=oF n;rw[ρ D];exact h.N p a d c;have e:(t++u).g? p=À i:=by rw[ĵ,j];simp[f.C m c a l]
  rw[e];obtain q|⟨x,r,q⟩|q:=f.N;exact Á (by rw[q]);exact Å ⟨x,r,by rw[q]⟩;rw[q m c]at l;cases l
 e p a d n hm:=by rw[touchAt_old<|ff d h.M]at n;exact(h.e p a d n hm).imp (·.app u) id
 d p g d o mP hc:=by have w:=ff d h.M;rw[ρ w]at o;rw[counts_old w]at hc;let⟨j,v,s⟩:=h.d p g d o mP hc;exact⟨j,G9 v,hb_app u s⟩
theorem Ax(f:∀c∈u,c.act.touch?=Ú)(h:∀c∈u,∀b,F.M b->c.act≠Ņ (Zou<|gu b)):Lc F sp rl V fs rx t u 0 where
 C c e a d:=by rw[f c e]at d;cases d
 N:=Á U;I c e a x d:=by rw[f c e]at d;cases d
 fH c e a y d:=by rw[f c e]at d;cases d
 M:=h;jm x hx g:=by refine⟨λr g=>g.app λj l m i=> ?_,λ_ c e a d=>by rw[f c e]at d;cases d⟩;let⟨z,k,_⟩:=i;obtain⟨q,_⟩|⟨_,c,n,o,_⟩:=oF k;all_goals grind
def TI.aha(h:TI F t0 j2 sp rl V pk fs rx ql t){b:Nat->Option Nat}(c:∀k y,fs k=À y->b k=À y):TI F t0 j2 sp rl V pk b rx ql t:= {h with I:=λp a x d e f=>(h.I p a x d e f).imp id (Or.imp id λq=>⟨q.1,q.2.imp id λ⟨k,j,g,i,l,m⟩=>⟨k,j,g,i,c k j l,m⟩⟩)}
theorem TI.Ha(h:TI F t0 j2 sp rl V pk fs rx ql t){y:Zn1}(j:wQ.g=0/\wQ.act=.go (F.L+sp))(k:y.g=F.L+sp/\y.act=.start)(m:Ū t 0=0)(n:Ū t (F.L+sp)=0)(B:¬rx sp)(o:∀wQ,rx wQ->wQ<sp):TI F t0 j2 (sp+1) rl V pk fs rx ql (t++#[wQ,y]):=by
 have q:∀c∈#[wQ,y],c.act.touch?=Ú:=by intro c a;simp at a;obtain rfl|rfl:=a;rw[j.2];rfl;rw[k.2];rfl
 have r:∀c∈#[wQ,y],∀b,F.M b->c.act≠Ņ (Zou<|gu b):=by grind
 have d:=h.r<|Ax q r;refine{d with Cm:=λz s p f i=> ?_,jm:=λz s l=>d.jm z (o z l) l,N:=λp a f u=>((d.N p a f u).imp id λ⟨z,v,e⟩=>⟨z,Z,e⟩)};by_cases e:z<sp;exact d.Cm z e p f i;obtain rfl:z=sp:=Z;rw[ρ<|ff f h.M]at i;let⟨c,v,w⟩:=è.1 i;have:=Τ v;rw[w]at this;exact ZnU j k m n this
theorem ahb{y:Zn1}(d:wQ.g=0/\wQ.act=.go k)(e:y.g=k/\y.act=.start)(j:Ū t 0=0)(m:Ū t k=0){l:Loc}:(sJ t 0 l->sJ (t++#[wQ,y]) k l)/\(rf t 0 l->rf (t++#[wQ,y]) k l):=by
 have q:∀c∈#[wQ,y],c.act.touch?=Ú:=by intro c a;simp at a;obtain rfl|rfl:=a;rw[d.2];rfl;rw[e.2];rfl
 refine⟨λh p a f i=> ?_,λh p a f i n=> ?_⟩;obtain⟨_,b⟩|⟨_,c,b,o,_⟩:=oF f;exact ZnU d e j m<|h p a b i;grind;obtain⟨_,b⟩|⟨_,c,b,o,_⟩:=oF f;exact ZnU d e j m<|h p a b i n;grind
theorem TI.ahc(h:TI F t0 j2 sp rl V pk fs rx ql t)(f:wQ.g=F.L)(i:wQ.act=Ņ (Ĥ<|gu<|F.I<|rl+1))(l:Ū t F.L=0)(q:∀a:Õ,(V (rl+1) a.block\/a=jS F (rl+1))->rf t F.L (é a)): TI F t0 j2 sp (rl+1) V (fP pk (rl+1) t.size) fs rx ql (t++#[wQ]):=by
 have m:∀c∈#[wQ],c.act.touch?=Ú:=by intro c e;have:c=wQ:=fN e;rw[this,i];rfl
 have d:=h.r (Ax m λc e b _=>by grind);have n:(t++#[wQ])[t.size]?=À wQ:=by rw[ú<|eE _];simp
 have j:∀k,k<=rl->fP pk (rl+1) t.size k=pk k:=λk r=>gi pk _ Z;refine{d with S:=λk b o=> ?_,C:=λk b o a p=> ?_};by_cases e:k=rl+1;subst e;rw[ig];exact⟨by rw[act?_of n,i],by simp[ĵ,f],⟨F.L,by simp[ĵ,f],by rwa[ZnT<|eE _]⟩⟩;rw[j k Z];exact d.S k b Z;by_cases e:k=rl+1;grind [ig,ag9];rw[j k Z];exact d.C k b Z a p
theorem TI.ahd(h:TI F t0 j2 sp rl V pk fs rx ql t){x:Nat}(r:x<sp)(d:wQ.g=F.L+x)(f:wQ.act=Ņ (Ĥ<|gu F.C))(k:Ū t (F.L+x)=0)(s:¬rx x): TI F t0 j2 sp rl V pk fs (λz=>rx z\/z=x) (fP ql x t.size) (t++#[wQ]):=by
 have l:∀c∈#[wQ],c.act.touch?=Ú:=by intro c a;have:c=wQ:=fN a;rw[this,f];rfl
 have j:=h.r (Ax l λc a b _=>by grind);have b:(t++#[wQ])[t.size]?=À wQ:=by rw[ú<|eE _];simp
 refine{j with jm:=λz m n=> ?_};by_cases e:z=x;subst e;rw[ig];refine⟨⟨by rw[act?_of b,f],by simp[ĵ,d],⟨F.L+z,by simp[ĵ,d],by rwa[ZnT<|eE _]⟩,λi u o=> ?_⟩,λp a q _=>Á ?_⟩;have:=Lb o;simp at this;omega;have:=PF q;simp at this;omega;rw[gi ql _ e];exact j.jm z m<|n.resolve_right e
def XE(e:t.act? i=À (Ņ<|Ĥ a))(f:t.g? i=À k)(h:t.heard i)(l:NoRelease a t)(c:wQ.g=n)(m:wQ.act=Ņ (ZnR a))(o:Ū t n=0):ε (t++#[wQ]) n i:=by
 have b:=Lb f;have d:(t++#[wQ])[t.size]?=À wQ:=by rw[ú<|eE _];simp
 refine⟨t.size,wQ,d,c,Å<|.single<|Å ⟨.marked b (Å<|by rwa[Zov b]) (by rw[act?_of d,m]) λj _ q=> ?_,(heard_old b).2 h,⟨n,by simp[ĵ,c],by rwa[ZnT<|eE _]⟩⟩⟩;rw[Zov q];exact l j
theorem TI.ml(h:TI F t0 j2 sp rl V pk fs rx ql t)(G:wQ.g=0)(o:wQ.act=Ņ (ZnR<|gu F.C))(H:Ū t 0=0)(k:∀x,x<sp->rx x): (∀p a,Ĉ (t++#[wQ]) p=À a->a.loc.isMemory=È->ε (t++#[wQ]) 0 p\/((j2 a.loc\/∃x:Õ,a.loc=é x/\x.block=F.C)/\a.kind=ĩ))/\(t++#[wQ]).HandedOver:=by
 have Q:wQ.act.touch?=Ú:=by rw[o];rfl
 have s:=λx c=>by let⟨b,_⟩:=h.jm x c<|k x c;exact XE b.act b.g b.heard (h.c _<|Á U) G o H
 have u:∀p a,Ĉ (t++#[wQ]) p=À a->p<t.size/\Ĉ t p=À a:=λp a l=>by obtain q|⟨_,v,d,w,_⟩:=oF l;all_goals grind
 have B:∀p q x,t.g? p=À (F.L+x)->t.g? q=À (F.L+x)->p<=q->Before (t++#[wQ]) p q:=λp q x d w S=>by obtain f|i:=ey p q;exact Å<|.single<|Á ⟨f,_,G9 d,G9 w⟩;exact Á Z
 refine⟨λp a l I=> ?_,λp g C J K=> ?_⟩;let⟨f,d⟩:=u p a l;by_cases e:p<t0;obtain q|⟨b,i⟩:=h.e p a e d I;exact Á<|q.app _;grind;obtain q|⟨x,c,q⟩:=h.N p a Z d;let⟨v,m,n⟩:=è.1 q;have:=Τ m;rw[n]at this;exact Á<|this.app _;let⟨b,i⟩:=h.jm x c<|k x c;obtain z|⟨j,P⟩:=i p a d q;exact Á<|Knows.of_before (B p (ql x) x q b.g z)<|s x c;grind
 .let⟨z,D,M,N⟩:=K;let⟨f,d⟩:=u p z D;have O:t.g? p=À g:=by rwa[ρ f]at C
  have E:=(counts_old f).1 ⟨z,D,M,N⟩;by_cases e:p<t0;let⟨j,b,i⟩:=h.d p g e O J E;exact⟨j,G9 b,hb_app _ i⟩;obtain q|⟨x,c,q⟩:=h.N p z Z d;grind;let⟨b,_⟩:=h.jm x c<|k x c;let⟨r,v,m,n,i⟩:=s x c;have j:(t++#[wQ]).g? r=À 0:=by rw[ĵ,m];simp[n]
  refine⟨r,j,?_⟩;rcases(B p (ql x) x q b.g<|dz λP=>b.after p P q E).trans i with P|P;all_goals grind
end
open Go.ConcN (sumTo)
structure Ph extends Fx where
 P:Ó
 S:Nat
 n:Nat
 q:Nat
 Y:Nat
 f:Nat
 r:Nat->Nat
 a:Nat->Nat
 b:Nat->Nat
 c:Nat->Ã
 z:Ã
 B:Nat
 γ:Type
 l:γ
 i:Nat->Prop
 p:Nat->γ->γ->Prop
 d:Nat->γ->(Nat->Prop)->Ç->Prop
 o:Nat->ByteArray
 k:Nat->ByteArray
 g:Nat->(Nat->Nat)->Jd
 h:Nat->Jd
 e:Nat->Nat->Jd
 j:(Nat->Nat)->Jd
inductive oW(F:Ph):Nat->F.γ->Prop|xj:oW F 0 F.l|EE {k:Nat} {s s':F.γ} (h:oW F k s) (hn:F.p k s s'):oW F (k+1) s'
def j4(F:Ph)(p:Nat):Õ:=⟨F.Y,p,Ú⟩
inductive gH where|go (j:Nat)|nh (j:Nat)|rd (j:Nat)|jk (j:Nat)|jq (r:Nat)|ml (r:Nat)|fS (p:km)|gN
inductive ko where|lX (k:Nat)|mk (k:Nat)|dn (k:Nat) (p:kH)
inductive iC where|oU (r:Nat)|fS (r:Nat) (p:km)|iA (r:Nat)|qw (r:Nat)
inductive iW where|qz|gN (p:kH)|kl (N:Nat)
section
variable(F:Ph)
def Hb:Jd:=λl g=>∃N,QuitsD F.P N l.d g
def lQ(l:fx):fx:={l with O:=λ_=>False,I:=λ_=>False,r:=λ_=>False,N:=λ_=>False,q:=True}
def Cn:Jd:=λl g=>ED F.P Ä F.C (Hb F) .kv (lQ l) g
def EF(c j r:Nat):Jd:=yI F.P Ä c F.z λx=>match x with|some v=>λl g=>v=F.c (j+r*F.n)->sL F.P Ä F.B (F.I<|F.r<|j+r*F.n) (F.e c<|j+r*F.n) .jG l g|none=>Cn F
def xq(l:fx)(i:Nat):fx:={l with r:=λa=>l.r a/\a≠j4 F (F.a i),N:=λa=>l.N a\/a=j4 F (F.a i)}
def rU(l:fx)(k:Nat):fx:={l with O:=λ_=>False,I:=l.M,r:=λa=>l.r a/\a≠j4 F (F.b k)/\a≠jS F.toFx k,N:=λa=>l.N a\/a=j4 F (F.b k)\/a=jS F.toFx k}
def JW(c j:Nat):iC->Jd|.oU r=>EF F c j r|.fS r p=>sL F.P Ä F.B (F.I<|F.r<|j+r*F.n) (F.e c<|j+r*F.n) p|.iA r=>F.e c<|j+r*F.n|.qw r=>λl g=>l.w.cell? (j4 F<|F.a<|j+r*F.n)=À (Ĕ<|F.k<|j+r*F.n)/\EF F c j (r+1) (xq F l<|j+r*F.n) g
def JI(sg:Nat->F.γ):ko->Jd|.lX k=>F.h k|.mk k=>λl g=>∃p V,F.p (k-1) (sg<|k-1) p/\F.d k p V l.w/\(∀b,V b->l.M b)/\l.w.cell? (j4 F<|F.b k)=À (Ĕ<|F.o k)/\ED F.P Ä (F.I k) (fF F.P Ä<|F.h k) .kv (rU F l k) g|.dn k p=>ED F.P Ä (F.I k) (fF F.P Ä<|F.h k) p
def JE:iW->Jd|.qz=>Cn F|.gN p=>ED F.P Ä F.C (Hb F) p|.kl N=>rh F.P N
def Ld(j:Nat)(a:Nat->Nat):Jd:=λl g=>∃c,F.g j (fP a (j-1) c) l g
def XF(j:Nat)(a:Nat->Nat):Jd:=λl g=>l.d=1/\G4 F.P È (.read<|iI F.C) (Ld F j a) l g
def PG(j:Nat)(a:Nat->Nat):Jd:=λl g=>l.d=1/\Pj F.P È (gu F.C) gK (λs=>if s=gK then fF F.P È (XF F j a)else if gK<s/\s<1000000*gK/\s%gK=0 then fF F.P È (Ld F j a)else λ_ _=>True) l g
def Co(a:Nat->Nat):Nat->Jd|0=>sL F.P È F.B F.C (F.j a) .jG|r+1=>K0 F.P È (a<|F.n-(r+1))<|Co a r
def Hc(a:Nat->Nat):Nat->Jd|0=>Co F a F.n|r+1=>G5 F.P È (a<|(F.q-(r+1))%F.n) (F.c<|F.q-(r+1))<|Hc a r
def JM(dk:Nat->Nat):gH->Jd|.go j=>F.g j dk|.nh j=>Ld F j dk|.rd j=>XF F j dk|.jk j=>PG F j dk|.jq r=>Hc F dk r|.ml r=>Co F dk r|.fS p=>sL F.P È F.B F.C (F.j dk) p|.gN=>F.j dk
def nI(x:Nat)(a:Õ):Prop:=if x=0 then(∃k,1<=k/\k<=F.m/\(a=jS F.toFx k\/a=j4 F (F.b k)))else∃i,i<F.q/\i%F.n=x-1/\a=j4 F (F.a i)
end
def gH.sp(n:Nat):gH->Nat|.go j|.nh j|.rd j|.jk j=>j|_=>n+1
def gH.ad(n:Nat):gH->Nat|.jk j=>j|.go j|.nh j|.rd j=>j+1|_=>n+1
def gH.n7(q:Nat):gH->Nat|.go _|.nh _|.rd _|.jk _=>0|.jq r=>q-r|_=>q
def gH.jR(n:Nat):gH->Nat|.ml r=>n-r|.fS _|.gN=>n|_=>0
def km.uI:km->Nat|.wr|.lP=>1|_=>0
def gH.ik:gH->Nat|.fS p=>p.uI|_=>0
def kH.mF:kH->Nat|.kv|.jk=>1|_=>0
def iW.mF:iW->Nat|.qz=>1|.gN p=>p.mF|_=>0
def iW.qg:iW->Prop|.qz=>False|_=>True
def nP:Option iW->Nat|none=>1|some e=>e.mF
def kH.rQ:kH->Prop|.kv=>False|_=>True
def iW.rQ:iW->Prop|.qz=>False|.gN p=>p.rQ|_=>True
def ko.md:ko->Nat|.lX k=>k|.mk k=>k-1|.dn k _=>k
def ko.rl:ko->Nat|.lX k=>k|.mk k|.dn k .kv=>k-1|.dn k _=>k
def ko.od:ko->Nat|.lX k=>k|.mk k|.dn k .kv|.dn k .jk=>k-1|.dn k _=>k
def iC.jz:iC->Nat|.oU r=>r|.fS r _|.iA r|.qw r=>r+1
def iC.lR:iC->Nat|.oU r|.fS r _|.iA r|.qw r=>r
def iC.ik(F:Ph)(j:Nat)(k:Nat):iC->Nat|.fS r p=>if F.r (j+r*F.n)=k then p.uI else 0|_=>0
structure gE(F:Ph) where
 N:gH
 S:ko
 C:Nat->iC
 M:Nat->Option iW
 I:Nat->Nat
 c:Nat->F.γ
 V:Nat->Nat->Prop
 e:Nat->Nat
 d:Nat->Option Nat
 f:Nat->Nat
 b:GS
 a:Nat->GS
 g:Option Nat
 h:Nat->Nat
section
variable{F:Ph}
def gE.r(E:gE F):Nat:=E.N.sp F.n
def gE.H(E:gE F)(x:Nat):Nat:=if x<E.N.ad F.n then nP (E.M x)else 0
def gE.K(E:gE F)(x:Nat):Prop:=∃e,E.M x=À e/\e.rQ
def gE.qg(E:gE F)(x:Nat):Prop:=∃e,E.M x=À e/\e.qg
def gE.Y(E:gE F)(b:Nat):Prop:=F.M b\/b=F.Y\/∃j,j+2<=E.r/\b=E.I j
def vG(n j Q s:Nat):Prop:=∀i,i<s↔j+i*n<Q
def kM:gH->jc|.fS .lP=> .jd|_=> .no
def kW(F:Ph)(c:Nat):iC->jc|.oU _=> .uH c F.z|.fS _ .lP=> .jd|_=> .no
end
structure Ph.Ok(F:Ph):Prop where
 N:1<=F.n
 r:1<=F.L
 gL:F.n+F.q+F.m<1000
 I:∀i,i<F.q->F.r i<=F.m
 M:∀k,k<=F.m->F.I k≠F.C
 S:∀k k',k<=F.m->k'<=F.m->F.I k=F.I k'->k=k'
 C:¬F.M F.Y
 a:∀i i',i<F.q->i'<F.q->F.a i=F.a i'->i=i'
 pi:∀k k',1<=k->k<=F.m->1<=k'->k'<=F.m->F.b k=F.b k'->k=k'
 PH:∀i k,i<F.q->1<=k->k<=F.m->F.a i≠F.b k
 gA:∀b,F.M b\/b=F.Y->F.S<=b
 Y:(∀k,1<=k->k<=F.m->F.b k≠F.f)/\∀i,i<F.q->F.a i≠F.f
structure jl(F:Ph)(E:gE F)(lot:Nat->fx)(sz:Nat)(w:Ç):Prop where
 iG:∀i,i<sz->∀a,(lot i).C a->(∃k,k<=F.m/\a=jS F.toFx k)\/∃p,p≠F.f/\a=j4 F p
 o:∀x,E.r<=x->x<=F.n->∀a,nI F x a->(lot 0).r a
 nG:E.r<=F.n->(lot 0).N (jS F.toFx 0)/\∀b,F.i b->(lot 0).I b
 e:0<E.r->∀k,E.S.md<k->k<=F.m->(lot F.L).r (jS F.toFx k)/\(lot F.L).r (j4 F<|F.b k)
 f:0<E.r->E.M 0=Ú->(lot F.L).N (jS F.toFx E.S.md)/\∀b,E.V E.S.md b->(lot F.L).I b
 h:∀j,j+2<=E.r->E.M (j+1)=Ú->∀r,j+r*F.n<F.q->(E.C j).lR<=r->(lot<|F.L+1+j).r (j4 F<|F.a<|j+r*F.n)
 l:∀j,j+2<=E.r->E.M (j+1)=Ú->(lot<|F.L+1+j).N (jS F.toFx 0)/\∀b,F.i b->(lot<|F.L+1+j).I b
 S:∀x,E.qg x->lot (F.L+x)=lQ (lot<|F.L+x)
 M:∀i,(i=0\/∃x,x<E.r/\i=F.L+x/\¬E.qg x)->¬(lot i).q
 c:∀i,0<i->i<F.L->lot i=lQ (lot i)
 I:∀k,k<=E.S.md->∀b,E.V k b->b<w.heap.size/\¬E.Y b/\∀i,i<sz->¬(lot i).O b
 N:∀k,k<=E.S.md->∀i,i<sz->¬(lot i).r (jS F.toFx k)
 g:∀k,1<=k->k<=E.S.md->∀i,i<sz->¬(lot i).r (j4 F<|F.b k)
 d:∀j,j+2<=E.r->∀r,j+r*F.n<F.q->r<(E.C j).lR->∀i,i<sz->¬(lot i).r (j4 F<|F.a<|j+r*F.n)
structure Wd(F:Ph)(E:gE F)(w:Ç):Prop where
 C:iQ w F.C E.b
 I:∀k,k<=F.m->iQ w (F.I k) (E.a k)
 kz:∀j,j+2<=E.r->∃buf s,w.heap[E.I j]?=À (Λ F.q buf (decide<|j<E.N.jR F.n) s (E.C j).jz Ä)/\vG F.n j (E.N.n7 F.q) s/\(E.C j).jz<=s/\buf.size=s-(E.C j).jz/\∀i,i<s-(E.C j).jz->buf[i]?=À (F.c<|j+((E.C j).jz+i)*F.n)
 M:∀k,k<=E.S.md->oW F k (E.c k)/\F.d k (E.c k) (E.V k) w
 S:∀k,1<=k->k<=E.S.md->w.cell? (j4 F<|F.b k)=À (Ĕ<|F.o k)
 N:∀j,j+2<=E.r->∀r,j+r*F.n<F.q->r<(E.C j).lR->w.cell? (j4 F<|F.a<|j+r*F.n)=À (Ĕ<|F.k<|j+r*F.n)
structure Ps(F:Ph)(E:gE F):Prop where
 v:E.V 0=F.i
 C:∀j,E.N=.go j\/E.N=.nh j\/E.N=.rd j\/E.N=.jk j->j<=F.n
 K:∀j,E.N=.nh j\/E.N=.rd j\/E.N=.jk j->1<=j
 L:∀r,(E.N=.jq r->r<=F.q)/\(E.N=.ml r->r<=F.n)
 J:E.r=0->E.S=.lX 0
 I:∀k,(E.S=.lX k->k<=F.m)/\(E.S=.mk k->1<=k/\k<=F.m)/\(∀p,E.S=.dn k p->1<=k/\k<=F.m)
 z:∀j,E.r<j+2->E.C j=.oU 0
 d:∀j r,j+2<=E.r->((∃p,E.C j=.fS r p)\/E.C j=.iA r\/E.C j=.qw r)->j+r*F.n<F.q
 l:∀j,j+2<=E.r->E.M (j+1)≠Ú->j<E.N.jR F.n/\∃r,E.C j=.oU r/\∀i,j+i*F.n<F.q->i<r
 f:E.M 0≠Ú->E.S=.lX F.m
 h:∀x,E.r<=x->E.M x=Ú
 M:∀j j',j+2<=E.r->j'+2<=E.r->E.I j=E.I j'->j=j'
 o:∀j,j+2<=E.r->¬F.M (E.I j)/\E.I j≠F.Y/\F.S<=E.I j
 t:∀c reg,E.b=.cl c reg->c=ĸ (F.n+1) E.H/\reg=E.N.ik
 g:∀reg,E.b=.ky reg->ĸ (F.n+1) E.H=0/\reg=E.N.ik/\∃x,x<E.r/\E.g=À x/\(E.M x=À (.gN (.ij reg))\/E.M x=À (.gN (.jN reg)))
 u:∀r s,E.b=.iJ r s->ĸ (F.n+1) E.H=0/\r+s=E.N.ik/\(0<r->∃x,x<E.r/\E.g=À x/\E.M x=À (.gN (.jd r)))
 N:∀x p,E.M x=À (.gN p)->(∀W,p=.ij W\/p=.jN W->E.g=À x/\E.b=.ky W)/\(∀r,p=.jd r->0<r/\E.g=À x/\∃s,E.b=.iJ r s)
 B:E.N=.fS .ij\/E.N=.fS .ng\/E.N=.gN->ĸ (F.n+1) E.H=0
 e:∀k,1<=k->k<=F.m->E.S.od<k->E.a k=.cl 1 (ĸ F.n λj=>(E.C j).ik F j k)
 Y:∀k,k<=F.m->k<=E.S.od->(∃W,(E.S=.dn k (.ij W)\/E.S=.dn k (.jN W))/\E.a k=.ky W/\W=ĸ F.n λj=>(E.C j).ik F j k)\/(∃r s,E.S=.dn k (.jd r)/\0<r/\E.a k=.iJ r s/\r+s=ĸ F.n λj=>(E.C j).ik F j k)\/((∀p,E.S≠ .dn k p)/\((E.a k=.cl 0 0/\(ĸ F.n λj=>(E.C j).ik F j k)=0)\/∃s,E.a k=.iJ 0 s/\s=ĸ F.n λj=>(E.C j).ik F j k))
 w:∀j r,j+2<=E.r->(E.C j=.fS r .ij\/E.C j=.fS r .ng\/E.C j=.iA r)->F.r (j+r*F.n)<=E.S.od
 H:∀j r,j+2<=E.r->E.C j=.fS r .ij->∃a b,E.a (F.r<|j+r*F.n)=.iJ a b
 O:E.N=.fS .ij->∃a b,E.b=.iJ a b
 S:(∀p,E.N≠ .fS p)->E.N≠ .gN->∃c,E.b=.cl c 0
 y:∀k,k<=F.m->E.a k=.cl 1 0->E.d k=Ú
 D:∀j r,j+2<=E.r->E.C j=.fS r .wr->E.d (F.r<|j+r*F.n)=À j
def fy(F:Ph)(E:gE F)(a:Array Ì)(w:Ç):Prop:=∀i g,a[i]?=À g->g.status=č->
 (i=0/\E.N=.fS .lP/\E.b.sm=0)\/(∃j,j+2<=E.r/\E.M (j+1)=Ú/\i=F.L+1+j/\((∃r,E.C j=.fS r .lP/\(E.a<|F.r<|j+r*F.n).sm=0)\/∃r b s c,E.C j=.oU r/\w.heap[E.I j]?=À (Λ b #[] Ä s c Ä)))
structure PI(F:Ph)(t0:Nat)(j2:Loc->Prop)(E:gE F)(S:Nat->Jd)(tr:Nat->gW)(kp:Nat->jc)(lot:Nat->fx)(gs:Array Ì)(w:Ç)(t:ÿ):Prop where
 b:gs.size=F.L+E.r
 I:iB F.P F.S E.Y S tr kp lot gs w t
 h:S 0=JM F E.I E.N/\kp 0=kM E.N
 m:0<E.r->E.M 0=Ú->S F.L=JI F E.c E.S/\kp F.L=.no
 g:∀j,j+2<=E.r->E.M (j+1)=Ú->S (F.L+1+j)=JW F (E.I j) j (E.C j)/\kp (F.L+1+j)=kW F (E.I j) (E.C j)
 k:∀x e,x<E.r->E.M x=À e->S (F.L+x)=JE F e/\kp (F.L+x)=.no/\((∃N,e=.kl N)->tr (F.L+x)=.fT)
 l:∀i,0<i->i<F.L->S i=rh F.P (E.h i)/\tr i=.fT/\kp i=.no
 a:jl F E lot gs.size w
 M:Wd F E w
 C:Ps F E
 d:TI F.toFx t0 j2 E.r (E.S.rl) E.V E.e E.d E.K E.f t
 c:fy F E gs w
 f:∀j r,j+2<=E.r->E.C j=.iA r->1<=F.r (j+r*F.n)->ε t (F.L+1+j) (E.e<|F.r<|j+r*F.n)
structure iK(F:Ph):Prop where
 C:F.Ok
 S:∀k s V w w',F.d k s V w->(∀b,V b->w'.heap[b]?=w.heap[b]?)->w'.cell? (jS F.toFx k)=w.cell? (jS F.toFx k)->w'.cell? (j4 F F.f)=w.cell? (j4 F F.f)->mj w' F.Y=mj w F.Y->(w'.os=w.os/\w'.output=w.output)->F.d k s V w'
 He:∀j dk l g w₁,F.g j dk l g->gd l l.w w₁->F.g j dk {l with w:=w₁} g
 I:∀j dk l g,F.g j dk l g->g.status=Í
 N:∀k l g,F.h k l g->g.status=Í
 Y:∀c i l g,F.e c i l g->g.status=Í
 M:∀dk l g,F.j dk l g->g.status=Í
 go:∀j dk l g,j<=F.n->F.g j dk l g->gS l->l.d=0/\∃(g' child:Ì)(X:Nat->Prop),g'.status=Í/\child.status=Í/\(∀w₁,à F.P È g w₁=.spawn g' child w₁ #[])/\(∀b,X b->l.O b)/\
  (1<=j->l.O (dk<|j-1)/\¬X (dk<|j-1)/\l.w.heap[dk<|j-1]?=À (Λ F.q #[] Ä 0 0 Ä)/\F.S<=dk (j-1))/\
  (∀l':fx,gS l'->(∀b,X b\/l.I b->l'.I b)->l'.w=l.w->l'.d=0->¬l'.q->(∀b,¬l'.O b)->l'.K=l.K->l'.N=l.N->(∀a,l'.r a->l.r a)->fF F.P Ä (if j=0 then F.h 0 else EF F (dk<|j-1) (j-1) 0) l' child)/\
  (∀l':fx,gS l'->l'.O=(λb=>l.O b/\¬X b/\(1<=j->b≠dk (j-1)))->(∀b,X b\/l.I b->l'.I b)->l'.w=l.w->l'.d=0->l'.q=l.q->l'.K=l.K->l'.N=l.N->(∀a,l'.r a->l.r a)->fF F.P È (JM F dk<|if j<F.n then .jk (j+1)else .jq F.q) l' g')
 e:∀k s V l g,k<F.m->F.h k l g->gS l->oW F k s->F.d k s V l.w->(∀b,V b->l.I b)->l.N (jS F.toFx k)->l.r (jS F.toFx<|k+1)->l.r (j4 F<|F.b<|k+1)->∀sg:Nat->F.γ,sg k=s->fF F.P Ä (JI F sg<|.mk (k+1)) l g
 f:∀l g,F.h F.m l g->gS l->fF F.P Ä (Cn F) l g
 iA:∀c j r s V l g,j+r*F.n<F.q->F.e c (j+r*F.n) l g->∀l':fx,gS l'->l'.O=l.O->(∀b,l.I b\/V b->l'.I b)->l'.w=l.w->l'.d=l.d->l'.q=l.q->l'.r=l.r->l'.K=l.K->oW F (F.r<|j+r*F.n) s->F.d (F.r<|j+r*F.n) s V l.w->l'.N (jS F.toFx<|F.r<|j+r*F.n)->l'.r (j4 F<|F.a<|j+r*F.n)->fF F.P Ä (JW F c j<|.qw r) l' g
section
variable{F:Ph}{E:gE F}{S:Nat->Jd}{tr:Nat->gW}{c:Nat->jc}{lot:Nat->fx}{gs:Array Ì}{w':Ç}{t u:ÿ}{sz:Nat}
def yL(h:F.M b):F.H (gu b)/\F.H (iI b):=⟨⟨b,h,Á U⟩,⟨b,h,Å U⟩⟩
def yM(h:F.H a):E.Y a.block:=by obtain⟨b,c,rfl|rfl⟩:=h<;>exact Á c
def jl.Y(L:jl F E lot sz w)(ok:F.Ok)(f:F.H a):∀i,i<sz->¬(lot i).C a:=by intro i g h;let⟨b,c,d⟩:=f;obtain⟨k,_,e⟩|⟨p,_,e⟩:=L.iG i g a h;obtain rfl|rfl:=d<;>simp[gu,iI,jS]at e;obtain rfl|rfl:=d;simp only[gu,j4]at e;injection e with e1 _ _;exact ok.C<|e1▸c;simp only[iI,j4]at e;injection e with e1 _ _;exact ok.C<|e1▸c
def jl.uH(L:jl F E lot sz w)(c:Ps F E)(d:j+2<=E.r):∀i,i<sz->∀a:Õ,a.block=E.I j->¬(lot i).C a:=by intro i f a b g;let⟨h,l,_⟩:=c.o j d;obtain⟨k,m,e⟩|⟨p,_,e⟩:=L.iG i f a g;exact h (by rw[<-b,e];exact Å ⟨k,m,U⟩);exact l<|by rw[<-b,e];rfl
def jl.ahe(L:jl F E lot sz w):∀i,i<sz->∀a,(lot i).C a->a.spot=Ú:=by intro i b a c;obtain⟨k,_,rfl⟩|⟨p,_,rfl⟩:=L.iG i b a c<;>rfl
def jl.PK(L:jl F E lot sz w)(ok:F.Ok):∀i,i<sz->¬(lot i).r (j4 F F.f):=by
 intro i a h;obtain⟨k,b,e⟩|⟨p,c,e⟩:=L.iG i a _<|Á h;have:F.Y=F.I k:=by injection e
 exact ok.C (by rw[this];exact Å ⟨k,b,U⟩);have:F.f=p:=by injection e
 exact c this.symm
structure Hf(F:Ph)(E:gE F)(lot:Nat->fx)(sz:Nat)(w w':Ç):Prop where
 Ay:w.heap.size<=w'.heap.size
 C:∀b,b<w.heap.size->¬E.Y b->(∀i,i<sz->¬(lot i).O b)->w'.heap[b]?=w.heap[b]?
 r:∀a:Õ,((∃k,k<=F.m/\a=jS F.toFx k)\/∃p,a=j4 F p)->(∀i,i<sz->¬(lot i).r a)->w'.cell? a=w.cell? a
 I:mj w' F.Y=mj w F.Y
 M:w'.os=w.os/\w'.output=w.output
def Wd.G(W:Wd F E w)(H:iK F)(L:jl F E lot sz w)(a:Hf F E lot sz w w')(f:E.S.md<=F.m){d:GS}{e:Nat->GS}(g:iQ w' F.C d)(h:∀k,k<=F.m->iQ w' (F.I k) (e k))(i:∀j,j+2<=E.r->w'.heap[E.I j]?=w.heap[E.I j]?):Wd F {E with b:=d,a:=e} w' where
 C:=g;I:=h;kz j hj:=by have:=W.kz j hj;rwa[<-i j hj]at this
 M k hk:=⟨(W.M k hk).1,H.S _ _ _ _ _ (W.M k hk).2 (λb c=>a.C b (L.I k hk b c).1 (L.I k hk b c).2.1 (L.I k hk b c).2.2) (a.r _ (Á ⟨k,â hk f,U⟩)<|L.N k hk) (a.r _ (Å ⟨_,U⟩)<|L.PK H.C) a.I a.M⟩;S k h1 h2:=(a.r _ (Å ⟨_,U⟩)<|L.g k h1 h2).trans<|W.S k h1 h2;N j hj r hr hd:=(a.r _ (Å ⟨_,U⟩)<|L.d j hj r hr hd).trans<|W.N j hj r hr hd
def Le(a:Ps F E):E.S.md<=F.m:=by
 cases h:E.S with|lX k=>exact(a.I k).1 h|mk k=>have:=((a.I k).2.1 h).2;simp only[ko.md];omega|dn k p=>exact((a.I k).2.2 p h).2
def Lf(a:Ps F E):E.S.rl<=E.S.md:=by
 cases h:E.S with
 |dn k p=>cases p<;>simp only[ko.rl,ko.md]<;>omega
 |_=>exact eE _
def PL(a:ko):a.od<=a.rl:=by
 cases a with
 |dn k p=>cases p<;>simp only[ko.rl,ko.od]<;>omega
 |_=>exact eE _
def XG{x:Nat}(h:E.K x):E.qg x:=by let⟨e,a,b⟩:=h;exact⟨e,a,by cases e<;>first|exact b|trivial⟩
def Lh{l a:fx}(h:l=lQ l)(b:n5 l a w w' V):a=lQ a:=by
 have j:l.q:=by rw[h];trivial
 have c:a.O=λ_=>False:=by rw[(b.h j).2.2,h];rfl
 have e:a.I=λ_=>False:=by rw[b.rd,h];rfl
 have f:a.r=λ_=>False:=by rw[b.r,h];rfl
 have g:a.N=λ_=>False:=by rw[b.I,h];rfl
 have i:a.q=True:=by rw[b.q,h];rfl
 obtain⟨O,k,m,n,d,q,o⟩:=a;simp only at c e f g i;subst c e f g i;rfl
theorem jl.fE(L:jl F E lot gs.size w)(C:jD F.S (λi=>i<gs.size) E.Y lot w t){m:fx}(J:i<gs.size)(d:n5 (lot i) m w w' V):jl F E (gV lot i m) gs.size w':=by
 have K:∀x,E.qg x->i=F.L+x->m=lQ m:=λx p e=>Lh (e▸L.S x p) d;have M:=λc l=>Lh (L.c i c l) d;have B:∀k a,(gV lot i m k).C a↔(lot k).C a:=λk a=>by by_cases e:k=i;subst e;rw[iH];unfold fx.C;rw[d.r,d.I];rw[iq lot _ e]
 have n:∀k,(gV lot i m k).r=(lot k).r:=λk=>by by_cases e:k=i;subst e;rw[iH,d.r];rw[iq lot _ e]
 have s:∀k,(gV lot i m k).N=(lot k).N:=λk=>by by_cases e:k=i;subst e;rw[iH,d.I];rw[iq lot _ e]
 have u:∀k,(gV lot i m k).I=(lot k).I:=λk=>by by_cases e:k=i;subst e;rw[iH,d.rd];rw[iq lot _ e]
 refine⟨λk f a v=>L.iG k f a<|(B k a).1 v,λx c l a v=>by rw[n];exact L.o x c l a v,λh=>by rw[s,u];exact L.nG h,λh k c l=>by rw[n];exact L.e h k c l,λh o=>by rw[s,u];exact L.f h o,λj g o r y c=>by rw[n];exact L.h j g o r y c,λj g o=>by rw[s,u];exact L.l j g o,λx p=> ?_,λk f=> ?_,λk c l=> ?_,λk f b D=> ?_,λk f j g=>by rw[n];exact L.N k f j g,λk c l j g=>by rw[n];exact L.g k c l j g,λj g r y G k f=>by rw[n];exact L.d j g r y G k f⟩;by_cases e:F.L+x=i;grind [iH];rw[iq lot _ e];exact L.S x p;by_cases e:k=i;subst e;rw[iH,d.q];exact L.M k f;rw[iq lot _ e];exact L.M k f;by_cases e:k=i;grind [iH];rw[iq lot _ e];exact L.c k c l;let⟨H,I,N⟩:=L.I k f b D;refine⟨ff H d.C,I,λj g=> ?_⟩;by_cases e:j=i
 .subst e;rw[iH];intro q;obtain z|z:=d.M b q;all_goals grind
 grind [iq]
def ahf(C:jD F.S (λi=>i<gs.size) E.Y lot w t){h:fx}(d:i<gs.size)(c:n5 (lot i) h w w' V):Hf F E lot gs.size w w':=⟨c.C,λb j e f=>c.lB b j (f i d) λa g q=>e<|g▸C.e i d a (Á q),λa g f=>by
   have e:E.Y a.block:=by obtain⟨k,l,rfl⟩|⟨p,rfl⟩:=g;exact Á<|Å ⟨k,l,U⟩;exact Å<|Á U
   exact c.S a (C.N _ e) (λq=>C.I i d _ (Á q) e)<|f i d,
  c.Y (j4 F 0) (C.N _ (Å (Á U))) λq=>C.I i d _ (Á q) (Å (Á U)),c.c,c.f⟩
def XH(L:jl F E lot gs.size w)(ok:F.Ok)(C:jD F.S (λi=>i<gs.size) E.Y lot w t){g:fx}(e:i<gs.size)(c:n5 (lot i) g w w' V)(f:F.M b){G:GS}(h:iQ w b G):iQ w' b G:=by have a:E.Y b:=Á f;have d:=λq=>C.I i e _ (Á q) a;exact h.K (c.S (gu b) (C.N _ a) d λq=>(L.Y ok (yL f).1 i e)<|Á q) (c.S (iI b) (C.N _ a) d λq=>(L.Y ok (yL f).2 i e)<|Á q) (KZ<|c.Y (gu b) (C.N _ a) d)<|KZ<|c.Y (iI b) (C.N _ a) d
def ahg(L:jl F E lot gs.size w)(e:Ps F E)(C:jD F.S (λi=>i<gs.size) E.Y lot w t){f:fx}(b:i<gs.size)(g:n5 (lot i) f w w' V)(c:j+2<=E.r):w'.heap[E.I j]?=w.heap[E.I j]?:=by have d:E.Y (E.I j):=Å<|Å ⟨j,c,U⟩;exact g.lB _ (C.N _ d) (λq=>C.I i b _ (Á q) d) λa h q=>L.uH e c i b a h<|Á q
theorem ahh(L:jl F E lot gs.size w)(H:Ps F E)(ok:F.Ok)(C:jD F.S (λi=>i<gs.size) E.Y lot w t)(P:gs.size=F.L+E.r){m:fx}{p:Array ê}{u:Û}{B:String}(o:i<gs.size)(g:n5 (lot i) m w w' p): Lc F.toFx E.r (E.S.rl) E.V E.d E.K t (Ê i u B p) i:=by
 have J:∀x,E.K x->i=F.L+x->m=lQ m:=λx l e=>Lh (e▸L.S x (XG l)) g;have D:∀c∈Ê i u B p,∀a,c.act.touch?=À a->∃y:Õ,a.loc=é y/\(m.O y.block\/m.r y\/((m.I y.block\/m.N y)/\a.write=Ä)):=λc d a n=>by obtain⟨e,r,rfl⟩:=Ò d;exact Xp (g.b e r) n
 have I:m=lQ m->∀c∈Ê i u B p,c.act.touch?=Ú:=λe c d=>by
  cases h:c.act.touch? with
  |none=>rfl|some a=>
   let⟨y,_,q⟩:=D c d a h;rw[e]at q;obtain q|q|⟨q|q,_⟩:=q<;>exact q.elim
 refine⟨λc d _ _=>qf c d,?_,λc d a x n G l=> ?_,λc d a y n Q G k h s=> ?_,λc d b _ e=> ?_,λx l K=> ?_⟩;by_cases j:i=0;exact Á j;by_cases f:i<F.L;exact Å (Å<|I<|(λh s=>Lh (L.c i h s) g) Z f);exact Å<|Á ⟨i-F.L,Z,Z⟩;exfalso;let⟨y,j,q⟩:=D c d a n;rw[G]at j;injection j with j;subst j;have f:=yM (E:=E) l;have v:=L.Y ok l i o;obtain q|q|⟨q|q,_⟩:=q;obtain z|z:=g.M _ q;exact C.I i o _ (Á z) f;have:=C.N _ f;omega;exact v (Á<|by rwa[<-g.r]);exact C.I i o _ (Å<|by rwa[<-g.rd]) f;exact v<|Å<|by rwa[<-g.I]
 .have j:=â s<|Lf H;let⟨x,l,q⟩:=D c d a n;rw[G]at l;injection l with l;subst l;obtain q|q|⟨_,q⟩:=q
  .refine⟨λv=> ?_,λe=> ?_⟩
   .let⟨M,_,N⟩:=L.I k j _ v;obtain z|z:=g.M _ q;all_goals grind
   have f:E.Y y.block:=by rw[e];exact Á<|Å ⟨k,â j<|Le H,U⟩
   obtain z|z:=g.M _ q;exact C.I i o _ (Á z) f;have:=C.N _ f;omega
  refine⟨λv=>((L.I k j _ v).2.1<|C.e i o y<|Á<|by rwa[<-g.r]),λe=>(L.N k j i o<|by rwa[<-g.r,<-e])⟩;grind
 obtain⟨j,r,rfl⟩:=Ò d;have v:=g.b j r;let⟨M,wr,N⟩:=j;simp only[Ï]at e;obtain⟨a,h,_⟩|h|⟨f,h⟩|h|h|⟨a,_,h|h|h|h⟩:=v<;>(simp only at h;subst h;simp at e)
 .by_cases e:F.L+x=i
  .have v:=I<|J x K e.symm;refine⟨λr f=>f.app λj S T M=> ?_,λ_ c d a n=>by rw[v c d]at n;cases n⟩;let⟨z,N,_⟩:=M;obtain⟨q,_⟩|⟨_,c,h,s,_⟩:=oF (show Ĉ (t++_) j=À z from N);all_goals grind
  exact⟨λr f=>f.appOther qf<|cR e,λj=>absurd j e⟩
end
abbrev vH:=Nat×Nat×gW
def Az(x y:vH):Prop:=x.1<y.1\/(x.1=y.1/\(x.2.1<y.2.1\/(x.2.1=y.2.1/\Xs x.2.2 y.2.2)))
def XI:WellFounded Az:=by
 refine⟨λx=> ?_⟩;let⟨a,b,c⟩:=x
 induction a using ž generalizing b c with
 |_ a j=>
  induction b using ž generalizing c with
  |_ b k=>
   induction Xt.apply c with
   |intro c _ l=>
    refine⟨_,λy h=> ?_⟩;let⟨m,f,e⟩:=y;obtain h|⟨d,h|⟨g,i⟩⟩:=h;exact j m h f e;simp only at d h;subst d;exact k f h e;simp only at d g i;subst d g;exact l e i
def ahi(x:vH):¬Az x x:=by
 intro h
 induction XI.apply x with|intro x _ a=>exact a x h h
def Eh(n:Nat)(f g:Nat->vH):Prop:=∃i,i<n/\Az (f i) (g i)/\∀j,j<n->j≠i->f j=g j\/Az (f j) (g j)
def XJ:∀(n:Nat)(g:Nat->vH),Acc (Eh n) g
 |0,g=>⟨_,λf ⟨i,h,_⟩=>absurd h Z⟩
 |n+1,g=>by
  have k:∀(x:vH)(h:Nat->vH),∀g:Nat->vH,g n=x->(∀j,j<n->g j=h j)->Acc (Eh<|n+1) g:=by
   intro x
   induction XI.apply x with
   |intro x _ l=>
    intro h
    induction XJ n h with
    |intro h _ m=>
     intro g b c;refine⟨_,λf ⟨i,r,a,d⟩=> ?_⟩;by_cases e:f n=g n;have s:i≠n:=by intro q;subst q;rw[e]at a;exact ahi _ a
     refine m f ⟨i,Z,by rwa[<-c i Z],λj o p=> ?_⟩ f (e.trans b) λ_ _=>U;rw[<-c j o];exact d j Z p;have:Az (f n) x:=by rw[<-b];by_cases q:n=i;rwa[q];exact(d n Z q).resolve_left e
     exact l _ this f f U λ_ _=>U
  exact k (g n) g g U λ_ _=>U
abbrev Mu:=(Nat->vH)×Nat
def ri(n:Nat)(x y:Mu):Prop:=Eh n x.1 y.1\/((∀j,j<n->x.1 j=y.1 j)/\x.2<y.2)
def ahj(n:Nat):WellFounded (ri n):=by
 have e:∀h:Nat->vH,∀k:Nat,∀g:Nat->vH,(∀j,j<n->g j=h j)->Acc (ri n) (g,k):=by
  intro h
  induction XJ n h with
  |intro h _ l=>
   intro k
   induction k using ž with
   |_ k m=>
    intro g a;refine⟨_,λy q=> ?_⟩;let⟨f,b⟩:=y;obtain⟨i,c,o,x⟩|⟨p,r⟩:=q;exact l f ⟨i,c,by rwa[<-a i c],λj d s=>by rw[<-a j d];exact x j d s⟩ b f λ_ _=>U;exact m b r f λj x=>(p j x).trans<|a j x
 exact⟨λx=>e x.1 x.2 x.1 λ_ _=>U⟩
section
variable(F:Ph)
def kH.rk(n:Nat):kH->Nat|.kv=>n+1011|.jk=>n+1010|.ij W=>min W (n+1000)+4|.jN W=>min W (n+1000)+3|.jd r=>min r (n+1000)+2
def km.rk:km->Nat|.jG=>7|.nO _=>6|.wr=>5|.lP=>4|.ij=>3|.ng=>2
def gH.rk(F:Ph):gH->Nat|.jk j=>F.q+F.n+20+4*(F.n-j)+7|.rd j=>F.q+F.n+20+4*(F.n-j)+6|.nh j=>F.q+F.n+20+4*(F.n-j)+5|.go j=>F.q+F.n+20+4*(F.n-j)+4|.jq r=>r+F.n+11|.ml r=>r+10|.fS p=>p.rk+2|.gN=>0
def ko.rk(F:Ph):ko->Nat|.lX k=>(F.n+3000)*(F.m+2-k)+2900|.mk k=>(F.n+3000)*(F.m+3-k)+2800|.dn k p=>(F.n+3000)*(F.m+2-k)+2901+p.rk F.n
def iC.rk(F:Ph):iC->Nat|.oU r=>(F.n+3000)*(F.q+3-r)|.fS r p=>(F.n+3000)*(F.q+3-r)-20+p.rk|.iA r=>(F.n+3000)*(F.q+3-r)-30|.qw r=>(F.n+3000)*(F.q+3-r)-40
def iW.rk(F:Ph):iW->Nat×Nat|.qz=>(F.n+2900,0)|.gN p=>(p.rk F.n,0)|.kl N=>(0,N)
end
def SP.rk(B:Nat)(st:Int):SP->Nat|.fV k=>B+2+k|.ld v k=>if st=v then k+1 else 2*B+3+k
def km.mQ(B:Nat)(st:Int):km->Nat|.nO p=>p.rk B st|_=>0
section
variable{F:Ph}
def gE.G(E:gE F)(tr:Nat->gW)(i:Nat):vH:=
 if i=0 then(E.N.rk F,0,tr 0)
 else if i<F.L then(0,E.h i,.fT)
 else match E.M (i-F.L)with|some e=>((e.rk F).1,(e.rk F).2,tr i)|none=>if i=F.L then(E.S.rk F,0,tr i)else((E.C<|i-F.L-1).rk F,0,tr i)
def gE.mQ(E:gE F)(i:Nat):Nat:=
 if i=0 then(match E.N with|.fS p=>p.mQ F.B E.b.st|_=>0)
 else if i<=F.L then 0
 else match E.C (i-F.L-1)with|.fS r p=>p.mQ F.B (E.a<|F.r<|i-F.L-1+r*F.n).st|_=>0
def gR(gs:Array Ì)(i:Nat):Nat:=if(gs[i]?).any (·.status==.running)then 1 else 0
def Ph.N(F:Ph):Nat:=F.L+F.n+1
def gE.mu(E:gE F)(a:Nat->gW)(b:Array Ì):Mu:=(E.G a,ĸ F.N λi=>(F.N+1)*E.mQ i+gR b i)
end
theorem Hg{b x:Ì}(h:(ė P g b w x).status=č):ė P g b w x=x/\x.status=č:=by unfold ė at h|-;split at h;rename_i c;rw[if_pos c];unfold ň at h|-;grind;grind
section
variable{F:Ph}{E:gE F}{S:Nat->Jd}{tr:Nat->gW}{d:Nat->jc}{lot:Nat->fx}{gs gs':Array Ì}{w':Ç}{t u:ÿ}{sl:Option (Nat×Nat)}
def fy.G6(h:fy F E gs w)(o:gs'[i]?=À g)(p:g.status≠č)(t:∀k,k≠i->∃a f:Ì,gs'[k]?=gs[k]?.map (ė F.P a f w'))(u:∀j,j+2<=E.r->w'.heap[E.I j]?=w.heap[E.I j]?):fy F E gs' w':=by intro k x b l;by_cases e:k=i;subst e;rw[o]at b;obtain rfl:=dh b;exact absurd l p;let⟨a,f,q⟩:=t k e;rw[q]at b;obtain⟨y,v,rfl⟩:=è.1 b;let⟨_,z⟩:=Hg l;obtain h1|⟨j,c,m,n,d|⟨r,B,s,C,d,D⟩⟩:=h k y v z;exact Á h1;exact Å ⟨j,c,m,n,Á d⟩;exact Å ⟨j,c,m,n,Å ⟨r,B,s,C,d,by rwa[u j c]⟩⟩
def ni{J:Jd}(a:∀l g,J l g->g.status=Í\/g.status=ï){l:fx}(h:fF P yQ J l g):g.status=Í\/g.status=ï:=by
 cases h with|fT h=>exact a _ _<|h _<|gd.gy _ _|kx _ _ _ _ b=>exact Á b
def ahk(H:iK F)(p:PI F m zX E S tr d lot gs w t){i:Nat}(hi:i<gs.size):∀l g,S i l g->g.status=Í\/g.status=ï:=by
 have dn:∀(main:Bool)(b:Nat)(J:Jd),(∀l g,J l g->g.status=Í\/g.status=ï)->∀(p:kH) l g,ED F.P main b J p l g->g.status=Í\/g.status=ï:=by
  intro main b J hJ p l g h;cases p with
  |kv|jk|ij W|jN W=>exact Á h.2.1
  |jd r=>cases r with|zero=>exact hJ l g h|succ r=>exact Á h.2.1
 have wt:∀(main:Bool)(b:Nat)(J:Jd)(p:km) l g,sL F.P main F.B b J p l g->g.status=Í:=by
  intro main b J p l g h;cases p with|jG=>let⟨k,_,_,T,h1,h2⟩:=h;exact(h2 _ _ h1).1|nO p=>let⟨_,T,h1,h2⟩:=h;exact(h2 _ _ h1).1|wr|lP|ij|ng=>exact h.2.1
 intro l g h;by_cases e0:i=0;subst e0;rw[p.h.1]at h;cases hm:E.N with
 |go j=>rw[hm]at h;exact Á<|H.I _ _ _ _ h|nh j=>rw[hm]at h;let⟨c,h⟩:=h;exact Á<|H.I _ _ _ _ h|rd j|jk j=>rw[hm]at h;exact Á h.2.1|jq r=>
  rw[hm]at h;have cl:∀r l g,Co F E.I r l g->g.status=Í:=λr l g h=>by
   cases r with|zero=>exact wt _ _ _ .jG _ _ h|succ r=>exact h.1
  cases r with|zero=>exact Á<|cl _ _ _ h|succ r=>exact Á h.1
 |ml r=>
  rw[hm]at h;cases r with|zero=>exact Á<|wt _ _ _ .jG _ _ h|succ r=>exact Á h.1
 |fS p=>rw[hm]at h;exact Á<|wt _ _ _ _ _ _ h|gN=>rw[hm]at h;exact Á<|H.M _ _ _ h
 by_cases e1:i<F.L;rw[(p.l i Z e1).1]at h;exact QuitsD.status h;have jV:=p.b;obtain⟨x,rfl⟩:∃x,i=F.L+x:=⟨i-F.L,Z⟩;cases he:E.M x with
 |some e=>
  rw[(p.k x e Z he).1]at h;cases e with|qz=>exact Á h.2.1|gN p=>exact dn _ _ _ (λl g ⟨N,h⟩=>h.status) _ _ _ h|kl N=>exact QuitsD.status h
 |none=>
  cases x with
  |zero=>
   rw[dm,(p.m Z he).1]at h;cases hm:E.S with|lX k=>rw[hm]at h;exact Á<|H.N _ _ _ h|mk k=>rw[hm]at h;let⟨s',V,_,_,_,_,h⟩:=h;exact Á h.2.1|dn k p=>rw[hm]at h;exact dn _ _ _ (λl g h=>ni (λl g h=>Á<|H.N _ _ _ h) h) _ _ _ h
  |succ j=>
   rw[show F.L+(j+1)=F.L+1+j by omega,(p.g j Z he).1]at h;cases hm:E.C j with|oU r=>rw[hm]at h;exact Á h.1|fS r p=>rw[hm]at h;exact Á<|wt _ _ _ _ _ _ h|iA r=>rw[hm]at h;exact Á<|H.Y _ _ _ _ h|qw r=>rw[hm]at h;exact Á h.2.1
theorem ahl{T:gW}(h:k≠i):E.G (fP tr i T) k=E.G tr k:=by unfold gE.G;grind [gi]
theorem ahm{k:Ç->gW}(a:tr i=.kx k)(b:¬(0<i/\i<F.L)):Az (E.G (fP tr i<|k w) i) (E.G tr i):=by unfold gE.G;split;rename_i e;subst e;rw[ig,a];exact Å ⟨U,Å ⟨U,w,U⟩⟩;split;grind;rw[ig,a];split;exact Å ⟨U,Å ⟨U,w,U⟩⟩;split<;>exact Å ⟨U,Å ⟨U,w,U⟩⟩
theorem PI.fE(H:iK F)(p:PI F m zX E S tr d lot gs w t){k:Ç->gW}(y:gs[i]?=À g)(o:tr i=.kx k): ∃gs' w' u e q,aW F.P (đ gs w sl) i=(Į<|đ gs' w' sl,u)/\gs'.size=gs.size/\PI F m zX E S e d q gs' w' (t++u)/\ri F.N (E.mu e gs') (E.mu tr gs):=by
 have c:=(fp.1 y).1;let⟨gs',w',W,X,D,z,⟨Y,G,I⟩,J,f,K⟩:=p.I.fE (sl:=sl) y o<|ahk H p c;have M:¬(0<i/\i<F.L):=λ⟨a,b⟩=>by rw[(p.l i a b).2.1]at o;cases o
 have C:=p.I.r;have B:∀j,j+2<=E.r->w'.heap[E.I j]?=w.heap[E.I j]?:=λj v=>ahg p.a p.C C c f v;have O:i<F.N:=by
  have:=p.b;have:E.r<=F.n+1:=by
   unfold gE.r;cases e:E.N with|go j=>have:=p.C.C j<|Á e;simp only[gH.sp];omega|nh j=>have:=p.C.C j<|Å<|Á e;simp only[gH.sp];omega|rd j=>have:=p.C.C j<|Å<|Å<|Á e;simp only[gH.sp];omega|jk j=>have:=p.C.C j<|Å<|Å<|Å e;simp only[gH.sp];omega|_=>simp only[gH.sp];omega
  unfold Ph.N;omega
 refine⟨gs',w',_,_,_,D,z,⟨z.trans p.b,K,p.h,p.m,p.g,λx e h l=> ?_,λs h l=> ?_,?_,p.M.G H p.a (ahf (E:=E) C c f) (Le p.C) (XH p.a H.C C c f (Á U) p.M.C) (λs q=>XH p.a H.C C c f (Å ⟨s,q,U⟩)<|p.M.I s q) B,p.C,p.d.r<|ahh p.a p.C H.C C p.b c f,p.c.G6 G (by obtain q|q:=I<;>rw[q]<;>simp) J B,λj r h l q=>(p.f j r h l q).app _⟩,Á ⟨i,O,ahm o M,λj _ v=>Á<|ahl v⟩⟩;let⟨Q,T,V⟩:=p.k x e h l;grind [gi];let⟨Q,T,V⟩:=p.l s h l;grind [gi];have:=p.a.fE C c f;grind
end
open Go.ConcN (sumTo sumTo_congr)
def ahn{J b:Jd}(c:∀l g,J l g->b l g):∀{T:gW} {l:fx} {g:Ì},mE P yQ J T l g->mE P yQ b T l g:=by
 intro T
 induction T with
 |fT=>exact λh a r=>c _ _<|h a r|kx k d=>
  intro l g h;refine⟨h.1,λa r=> ?_⟩;let⟨e,f,i,j,m,n,o⟩:=h.2 a r;exact⟨e,f,i,j,m,n,d a o⟩
section
variable{F:Ph}{E E':gE F}{S:Nat->Jd}{tr d:Nat->gW}{kp:Nat->jc}{c:Nat->fx}{gs gs':Array Ì}{u:ÿ}{sl:Option (Nat×Nat)}
theorem iB.lX{Y:Nat->Prop}(a:iB P n Y S tr kp c gs w qJ){J:Jd}(h:∀l g,S i l g->J l g):iB P n Y (fP S i J) tr kp c gs w qJ:=by refine⟨a.r,λk x b=> ?_,a.I⟩;let⟨g0,d,f⟩:=a.C k x b;by_cases e:k=i;subst e;rw[ig];exact⟨g0,ahn h d,f⟩;grind [gi]
def EG:E.G tr 0=(E.N.rk F,0,tr 0):=by simp[gE.G]
theorem Li(ok:F.Ok){x:Nat}{e:iW}(a:E.M x=À e):E.G tr (F.L+x)=((e.rk F).1,(e.rk F).2,tr<|F.L+x):=by have:=ok.r;unfold gE.G;grind
theorem XK(ok:F.Ok)(a:E.M 0=Ú):E.G tr F.L=(E.S.rk F,0,tr F.L):=by have:=ok.r;unfold gE.G;grind
theorem vI(ok:F.Ok)(a:E.M (j+1)=Ú):E.G tr (F.L+1+j)=((E.C j).rk F,0,tr<|F.L+1+j):=by have:=ok.r;unfold gE.G;grind
theorem AA(a:k=0->E'.N.rk F=E.N.rk F)(b:0<k->k<F.L->E'.h k=E.h k)(c:F.L<=k->E'.M (k-F.L)=E.M (k-F.L))(e:k=F.L->E.M 0=Ú->E'.S.rk F=E.S.rk F)(f:F.L<k->E.M (k-F.L)=Ú->(E'.C<|k-F.L-1).rk F=(E.C<|k-F.L-1).rk F)(g:d k=tr k):E'.G d k=E.G tr k:=by unfold gE.G;grind
def Hh(a:i<F.N)(h:Az (E'.G d i) (E.G tr i))(b:∀k,k≠i->E'.G d k=E.G tr k):ri F.N (E'.mu d gs') (E.mu tr gs):=Á ⟨i,a,h,λj _ c=>Á<|b j c⟩
def EH(a:Ps F E):E.r<=F.n+1:=by
 unfold gE.r;cases b:E.N with|go j=>have:=a.C j<|Á b;simp only[gH.sp];omega|nh j=>have:=a.C j<|Å<|Á b;simp only[gH.sp];omega|rd j=>have:=a.C j<|Å<|Å<|Á b;simp only[gH.sp];omega|jk j=>have:=a.C j<|Å<|Å<|Å b;simp only[gH.sp];omega|_=>simp only[gH.sp];omega
def PI.H(p:PI F b zX E S tr kp c gs w qJ)(h:i<gs.size):i<F.N:=by have:=p.b;have:=EH p.C;unfold Ph.N;omega
def iw(E:gE F)(j:Nat)(x:iC):gE F:={E with C:=fP E.C j x}
theorem kI(j:Nat)(x:iC):(iw E j x).C j=x:=ig _ _ _
theorem jA(x:iC)(h:i≠j):(iw E j x).C i=E.C i:=gi _ _ h
theorem XL{x:iC}(h:∀k,x.ik F j k=(E.C j).ik F j k)(k:Nat):(ĸ F.n λi=>((iw E j x).C i).ik F i k)=ĸ F.n λi=>(E.C i).ik F i k:=by grind [kI,jA]
def EI(ok:F.Ok){x:iC}{T:gW}(b:F.L+1+j<F.N)(a:E.M (j+1)=Ú)(h:x.rk F<(E.C j).rk F):ri F.N ((iw E j x).mu (fP tr (F.L+1+j) T) gs') (E.mu tr gs):=by refine Hh b (Á ?_) λk c=>AA (λ_=>U) (λ_ _=>U) (λ_=>U) (λ_ _=>U) (λd _=> ?_)<|gi tr _ c;rwa[vI ok (E:=iw E j x) (show(iw E j x).M (j+1)=Ú from a),vI ok a,kI];rw[jA x Z]
def Ps.G(h:Ps F E){x:iC}(m:j+2<=E.r)(d:E.M (j+1)=Ú)(c:∀k,x.ik F j k=(E.C j).ik F j k)(f:∀r,((∃p,x=.fS r p)\/x=.iA r\/x=.qw r)->j+r*F.n<F.q)(g:∀r,(x=.fS r .ij\/x=.fS r .ng\/x=.iA r)->F.r (j+r*F.n)<=E.S.od)(i:∀r,x=.fS r .ij->∃a b,E.a (F.r<|j+r*F.n)=.iJ a b)(l:∀r,x=.fS r .wr->E.d (F.r<|j+r*F.n)=À j):Ps F (iw E j x) where
 v:=h.v;C:=h.C;K:=h.K;L:=h.L;J:=h.J;I:=h.I;z j' qA:=by have:E.r<j'+2:=qA;rw[jA x Z];exact h.z j' qA
 d j' r qA hx:=by by_cases e:j'=j;subst e;rw[kI]at hx;exact f r hx;rw[jA x e]at hx;exact h.d j' r qA hx
 l j' qA hx:=by
  have e:j'≠j:=λe=>by subst e;exact hx d
  rw[jA x e];exact h.l j' qA hx
 f:=h.f;h:=h.h;M:=h.M;o:=h.o;t:=h.t;g:=h.g;u:=h.u;N:=h.N;B:=h.B;e k h1 h2 h3:=by rw[XL c];exact h.e k h1 h2 h3
 Y k h1 h2:=by rw[XL c];exact h.Y k h1 h2
 w j' r qA hx:=by by_cases e:j'=j;subst e;rw[kI]at hx;exact g r hx;rw[jA x e]at hx;exact h.w j' r qA hx
 H j' r qA hx:=by by_cases e:j'=j;subst e;rw[kI]at hx;exact i r hx;rw[jA x e]at hx;exact h.H j' r qA hx
 O:=h.O;S:=h.S;y:=h.y;D j' r qA hx:=by by_cases e:j'=j;subst e;rw[kI]at hx;exact l r hx;rw[jA x e]at hx;exact h.D j' r qA hx
def uJ(E:gE F)(j:Nat)(x:iC)(k:Nat)(G:GS)(a:Nat->Option Nat):gE F:={iw E j x with a:=fP E.a k G,d:=a}
theorem Ps.XM(h:Ps F E){x:iC}{G:GS}{l:Nat->Option Nat}(Q:j+2<=E.r)(C:E.M (j+1)=Ú)(D:∀c,c≠k->x.ik F j c=(E.C j).ik F j c)(H:1<=k->E.S.od<k->G=.cl 1 (ĸ F.n λi=>((fO.iw E j x).C i).ik F i k))(I:k<=E.S.od->(∃W,(E.S=.dn k (.ij W)\/E.S=.dn k (.jN W))/\G=.ky W/\W=ĸ F.n λi=>((fO.iw E j x).C i).ik F i k)\/(∃r s,E.S=.dn k (.jd r)/\0<r/\G=.iJ r s/\r+s=ĸ F.n λi=>((fO.iw E j x).C i).ik F i k)\/((∀p,E.S≠ .dn k p)/\((G=.cl 0 0/\(ĸ F.n λi=>((fO.iw E j x).C i).ik F i k)=0)\/∃s,G=.iJ 0 s/\s=ĸ F.n λi=>((fO.iw E j x).C i).ik F i k)))(J:(∃a b,E.a k=.iJ a b)->∃a b,G=.iJ a b)(K:G=.cl 1 0->l k=Ú)(L:∀c,c≠k->l c=E.d c)(S:∀y,E.d k=À y->l k=À y)(T:∀r,((∃p,x=.fS r p)\/x=.iA r\/x=.qw r)->j+r*F.n<F.q)(M:∀r,(x=.fS r .ij\/x=.fS r .ng\/x=.iA r)->F.r (j+r*F.n)<=E.S.od)(N:∀r,x=.fS r .ij->∃a b,fP E.a k G (F.r<|j+r*F.n)=.iJ a b)(O:∀r,x=.fS r .wr->l (F.r<|j+r*F.n)=À j):Ps F (uJ E j x k G l):=by
 have z:∀c,c≠k->(ĸ F.n λi=>((uJ E j x k G l).C i).ik F i c)=ĸ F.n λi=>(E.C i).ik F i c:=λc u=>by refine sumTo_congr λi _=> ?_;by_cases e:i=j;subst e;show((fO.iw E i x).C i).ik F i c=_;rw[kI,D c u];show((fO.iw E j x).C i).ik F i c=_;rw[jA x e]
 have v:∀c,c≠k->(uJ E j x k G l).a c=E.a c:=λc u=>gi _ _ u;have gs:(uJ E j x k G l).a k=G:=ig _ _ _;have w:(uJ E j x k G l).C j=x:=kI _ _;have o:∀d,d≠j->(uJ E j x k G l).C d=E.C d:=λd g=>jA x g;refine⟨h.v,h.C,h.K,h.L,h.J,h.I,λd g=> ?_,λd r g f=> ?_,λd g f=> ?_,h.f,h.h,h.M,h.o,h.t,h.g,h.u,h.N,h.B,λc t m B=> ?_,λc t m=> ?_,λd r g f=> ?_,λd r g f=> ?_,h.O,h.S,λc t m=> ?_,λd r g f=> ?_⟩;have:E.r<d+2:=g;rw[o d Z];exact h.z d g;by_cases e:d=j;simp_all;rw[o d e]at f;exact h.d d r g f;rw[o d (λe=>by subst e;exact f C)];exact h.l d g f;by_cases e:c=k;subst e;rw[gs];exact H t B;rw[v c e,z c e];exact h.e c t m B;by_cases e:c=k;subst e;rw[gs];exact I m;rw[v c e,z c e];exact h.Y c t m;by_cases e:d=j;subst e;rw[w]at f;exact M r f;rw[o d e]at f;exact h.w d r g f;by_cases e:d=j;subst e;rw[w]at f;exact N r f;rw[o d e]at f;have:=h.H d r g f;by_cases P:F.r (d+r*F.n)=k;rw[P]at this|-;rw[gs];exact J this;grind;by_cases e:c=k;subst e;rw[gs]at m;exact K m;rw[v c e]at m;show l c=Ú;rw[L c e];exact h.y c t m;by_cases e:d=j;subst e;rw[w]at f;exact O r f;rw[o d e]at f;have:=h.D d r g f;show l _=À d;grind
theorem jl.r(h:jl F E c n w){x:iC}(i:x.lR=(E.C j).lR):jl F (iw E j x) c n w:=by
 have f:∀a,((fO.iw E j x).C a).lR=(E.C a).lR:=λa=>by grind [kI,jA]
 exact⟨h.iG,h.o,h.nG,h.e,h.f,λa b d r e g=>h.h a b d r e (by rwa[<-f]),h.l,h.S,h.M,h.c,h.I,h.N,h.g,λa b r d e=>h.d a b r d<|by rwa[<-f]⟩
theorem Wd.Y(h:Wd F E w){x:iC}(g:x.lR=(E.C j).lR)(i:x.jz=(E.C j).jz):Wd F (iw E j x) w:=by
 have c:∀a,((fO.iw E j x).C a).lR=(E.C a).lR:=λa=>by grind [kI,jA]
 have d:∀a,((fO.iw E j x).C a).jz=(E.C a).jz:=λa=>by grind [kI,jA]
 exact⟨h.C,h.I,λa b=>by rw[d];exact h.kz a b,h.M,h.S,λa b r e f=>h.N a b r e<|by rwa[<-c]⟩
structure sM(F:Ph)(E:gE F)(S:Nat->Jd)(tr:Nat->gW)(kp:Nat->jc):Prop where
 M:S 0=JM F E.I E.N/\kp 0=kM E.N
 Y:0<E.r->E.M 0=Ú->S F.L=JI F E.c E.S/\kp F.L=.no
 I:∀j,j+2<=E.r->E.M (j+1)=Ú->S (F.L+1+j)=JW F (E.I j) j (E.C j)/\kp (F.L+1+j)=kW F (E.I j) (E.C j)
 C:∀x e,x<E.r->E.M x=À e->S (F.L+x)=JE F e/\kp (F.L+x)=.no/\((∃N,e=.kl N)->tr (F.L+x)=.fT)
 r:∀i,0<i->i<F.L->S i=rh F.P (E.h i)/\tr i=.fT/\kp i=.no
def PI.N(p:PI F b zX E S tr kp c gs w qJ):sM F E S tr kp:=⟨p.h,p.m,p.g,p.k,p.l⟩
def PI.r(a:sM F E S tr kp)(d:gs.size=F.L+E.r)(e:iB F.P F.S E.Y S tr kp c gs w qJ)(f:jl F E c gs.size w)(g:Wd F E w)(h:Ps F E)(i:TI F.toFx b zX E.r E.S.rl E.V E.e E.d E.K E.f qJ)(k:fy F E gs w)(l:∀j r,j+2<=E.r->E.C j=.iA r->1<=F.r (j+r*F.n)->ε qJ (F.L+1+j) (E.e<|F.r<|j+r*F.n)):PI F b zX E S tr kp c gs w qJ:=⟨d,e,a.M,a.Y,a.I,a.C,a.r,f,g,h,i,k,l⟩
def sM.N(h:sM F E S tr kp)(ok:F.Ok){x:iC}{T:gW}(k:j+2<=E.r)(f:E.M (j+1)=Ú):sM F (iw E j x) (fP S (F.L+1+j)<|JW F (E.I j) j x) (fP tr (F.L+1+j) T) (fP kp (F.L+1+j)<|kW F (E.I j) x):=by
 have:=ok.r;refine⟨by rw[gi S _ Z,gi kp _ Z];exact h.M,λb a=>by rw[gi S _ Z,gi kp _ Z];exact h.Y b a,λd b a=> ?_,λy e b a=> ?_,λi b a=>by rw[gi S _ Z,gi kp _ Z,gi tr _ Z];exact h.r i b a⟩;by_cases e:d=j;subst e;rw[ig,ig,kI];exact⟨U,U⟩;rw[gi S _ Z,gi kp _ Z,jA x e];exact h.I d b a;have c:F.L+y≠F.L+1+j:=λe=>by have g:y=j+1:=Z;subst g;have:E.M (j+1)=À _:=a;rw[f]at this;cases this
 rw[gi S _ c,gi kp _ c,gi tr _ c];exact h.C y e b a
end
def vK(F:Fx)(e:ê):Prop:=(∃(x:Õ)(wr:Bool),F.H x/\e=⟨é x,wr,È⟩)\/e.loc=Ŋ ak\/e.loc=Ŋ bg
theorem Hi{F:Fx}{e:ê}(h:vK F e){b:Zn4}(a:(Ï e).touch?=À b):∃x,F.H x/\b.loc=é x/\b.kind=ĩ:=by
 let⟨d,wr,f⟩:=e;obtain⟨x,g,i,c⟩|h|h:=h;injection c with e1 e2 e3;subst e1 e2 e3;have:(Ï ⟨é x,wr,È⟩).touch?=À ⟨é x,wr,ĩ⟩:=by cases wr<;>rfl
 grind;simp only at h;subst h;simp[Ï,í]at a;simp only at h;subst h;simp[Ï,í]at a
section
variable{F:Ph}{E E':gE F}{S:Nat->Jd}{tr l:Nat->gW}{f:Nat->jc}{c:Nat->fx}{gs gs':Array Ì}{u:ÿ}
def AB(E:gE F)(i:Nat):Prop:=i=0\/∃x,x<E.r/\i=F.L+x
theorem iB.N{Y:Nat->Prop}(e:iB P n Y S tr f c gs w qJ)(h:gs[i]?=À g)(k:g.status=Í)(j:tr i=.fT)(a:f i=.no\/f i=.jd):∀b,gd (c i) (c i).w b->S i {c i with w:=b} g:=by
 let⟨g0,hF,d,_,_⟩:=e.C i g h;rw[j]at hF;have:g=g0:=by obtain a|a:=a<;>rw[a]at d<;>cases d;all_goals grind
 subst this;exact hF
theorem XO(b:TI F.toFx j zX E.r E.S.rl E.V E.e E.d E.K E.f qJ)(c:AB E i)(d:n<j)(a:qJ.g? n=À 0):ε qJ i n:=by obtain rfl|⟨x,e,rfl⟩:=c;let⟨g,f,h⟩:=è.1 a;have:=Τ f;grind;exact b.Cm x e n d a
theorem aho(f:∀c,¬Race c qJ)(g:TI F.toFx j zX E.r E.S.rl E.V E.e E.d E.K E.f qJ)(v:AB E i){d:Array ê}{h:Û}{k:String}(l:∀e∈d,vK F.toFx e):∀c,¬Race c (qJ++Ê i h k d):=by refine Pe f qf λw m b n=> ?_;obtain⟨e,o,rfl⟩:=Ò m;let⟨x,r,s,t⟩:=Hi (l e o) n;refine Å (Å ⟨t,λp a u q y=> ?_⟩);obtain⟨y,z⟩|q|⟨q,_⟩:=g.I p a x u (q.trans s) r;all_goals grind [XO]
def ahp(L:jl F E c gs.size w)(ok:F.Ok)(C:jD F.S (λi=>i<gs.size) E.Y c w qJ)(f:∀e∈V,vK F.toFx e):∀e∈V,(∀b,(Ï e).touch?=À b->G3 (λi=>i<gs.size) E.Y c b)/\(Ï e).low w.heap.size:=by intro e g;refine⟨λb j=> ?_,?_⟩;let⟨x,a,d,_⟩:=Hi (f e g) j;exact Á ⟨x,d,yM a,λk h=>L.Y ok a k h⟩;obtain⟨x,wr,a,d⟩|h|h:=f e g;subst d;have:=C.N _<|yM (E:=E) a;cases wr<;>exact this;let⟨k,wr,l⟩:=e;simp only at h;subst h;trivial;let⟨k,wr,l⟩:=e;simp only at h;subst h;trivial
def Cp(d:Nat)(a:Array ê):Prop:=∀(j:Nat)(e:ê),a[j]?=À e->(Ï e).touch?=Ú\/((∃b wr,e=⟨é b,wr,È⟩)/\0<å d (a.extract 0 j))
theorem ahq(L:jl F E c gs.size w)(s:Ps F E)(C:jD F.S (λi=>i<gs.size) E.Y c w qJ)(t:AB E i){f:Array ê}{n:Û}{o:String}(p:∀e∈f,vK F.toFx e)(u:∀x,E.K x->i=F.L+x->(∀e∈f,∀b,(Ï e).touch?=À b->∃y:Õ,b.loc=é y/\y.block=F.C)/\Cp (Ū qJ i) f):Lc F.toFx E.r E.S.rl E.V E.d E.K qJ (Ê i n o f) i:=by refine⟨λg d _ _=>qf g d,t.imp id Á,λg d a x l _ _=> ?_,λg d a y l _ z k B m=> ?_,λg d b _ e=> ?_,λx G D=> ?_⟩;obtain⟨e,j,rfl⟩:=Ò d;grind [Hi];obtain⟨e,j,rfl⟩:=Ò d;let⟨x,r,h,_⟩:=Hi (p e j) l;rw[z]at h;injection h with h;subst h;refine⟨λv=>(L.I k (â m<|Lf s) _ v).2.1<|yM r,λe=> ?_⟩;obtain⟨b,_,q|q⟩:=r<;>(rw[q]at e;simp[gu,iI,jS]at e);obtain⟨r,j,rfl⟩:=Ò d;simp only at e;obtain⟨x,wr,_,rfl⟩|h|h:=p r j;cases wr<;>simp[Ï]at e;let⟨q,wr,v⟩:=r;simp only at h;subst h;simp[Ï]at e;let⟨q,wr,v⟩:=r;simp only at h;subst h;simp[Ï]at e;by_cases e:F.L+x=i;let⟨B,m⟩:=u x D e.symm;subst e;refine⟨λr h=>h.appOwn n o f m,λ_ g d a l=> ?_⟩;obtain⟨e,j,rfl⟩:=Ò d;grind [Hi];exact⟨λr h=>h.appOther qf<|cR e,λq=>absurd q e⟩
theorem AE(a:F.M b):∀e∈#[lO<|gu b],vK F.toFx e:=by intro e c;have:e=lO (gu b):=fN c;subst this;exact Á ⟨_,Ä,(yL a).1,U⟩
def XP(a:F.M b):∀e∈#[oG<|gu b],vK F.toFx e:=by intro e c;have:e=oG (gu b):=fN c;subst this;exact Á ⟨_,È,(yL a).1,U⟩
def Cq(a:F.M b):∀e∈#[lO<|gu b,oG<|gu b],vK F.toFx e:=by intro e c;simp at c;obtain rfl|rfl:=c;exact Á ⟨_,Ä,(yL a).1,U⟩;exact Á ⟨_,È,(yL a).1,U⟩
def Hj(a:F.M b):∀e∈Ġ (iI b),vK F.toFx e:=by intro e c;simp[Ġ]at c;obtain rfl|rfl|rfl|rfl:=c;exact Å<|Á U;exact Á ⟨_,Ä,(yL a).2,U⟩;exact Á ⟨_,È,(yL a).2,U⟩;exact Å<|Å U
def Hk(d:Nat):å d #[lO a,oG a]=d/\å d #[lO a]=d/\å d #[oG a]=d/\å d (Ġ a)=d:=by refine⟨U,U,U,?_⟩;simp[å,Ġ]
def Lj:Cp 1 #[lO a,oG a]/\Cp 1 #[lO a]/\Cp 1 #[oG a]/\Cp 1 (Ġ a):=by
 refine⟨λj e b=> ?_,λj e b=> ?_,λj e b=> ?_,λj e b=> ?_⟩;match j,b with|0,b=>obtain rfl:=dh b;exact Å ⟨⟨a,Ä,U⟩,by simp[å]⟩|1,b=>obtain rfl:=dh b;exact Å ⟨⟨a,È,U⟩,by simp[å,lO]⟩|j+2,b=>simp at b
 match j,b with|0,b=>obtain rfl:=dh b;exact Å ⟨⟨a,Ä,U⟩,by simp[å]⟩|j+1,b=>simp at b
 match j,b with|0,b=>obtain rfl:=dh b;exact Å ⟨⟨a,È,U⟩,by simp[å]⟩|j+1,b=>simp at b
 match j,b with|0,b=>obtain rfl:=dh b;exact Á U|1,b=>obtain rfl:=dh b;exact Å ⟨⟨a,Ä,U⟩,by simp[å,Ġ]⟩|2,b=>obtain rfl:=dh b;exact Å ⟨⟨a,È,U⟩,by simp[å,Ġ]⟩|3,b=>obtain rfl:=dh b;exact Á U|j+4,b=>simp[Ġ]at b
def ahr(ok:F.Ok)(g:F.H a)(v:Ã):Hf F E c gs.size w (w.setCell a v):=by refine⟨cZ mh.symm,λb _ f _=>oV λe=>f<|e▸(yM (E:=E) g),λd i _=>Ci ?_,Pv,U,U⟩;let⟨b,f,h⟩:=g;obtain⟨k,_,rfl⟩|⟨p,rfl⟩:=i;right;obtain rfl|rfl:=h<;>simp[gu,iI,jS];left;obtain rfl|rfl:=h<;>exact λe=>ok.C (by have j:b=F.Y:=e;rwa[<-j])
def ahs(L:jl F E c gs.size w)(ok:F.Ok)(d:F.H a)(v:Ã):rS (λi=>i<gs.size) E.Y c w (w.setCell a v):=agZ (yM d) (by obtain⟨b,_,rfl|rfl⟩:=d<;>rfl) (λk i=>L.Y ok d k i) λk i b e=>L.ahe k i b e
def aht(c:Ps F E)(d:F.H a)(v:Ã)(f:j+2<=E.r):(w.setCell a v).heap[E.I j]?=w.heap[E.I j]?:=oV λe=>(c.o j f).1 (by obtain⟨b,g,rfl|rfl⟩:=d<;>(rwa[e]))
def ahu(h:a=gu b\/a=iI b):a.block=b:=by obtain rfl|rfl:=h<;>rfl
theorem jl.C(L:jl F E c n w){d:Nat}{w0:Ç}(y:w.heap.size<=W.heap.size):jl F E (gV c i {c i with d:=d,w:=w0}) n W:=by
 have e:∀k,(gV c i {c i with d:=d,w:=w0} k).O=(c k).O/\(gV c i {c i with d:=d,w:=w0} k).I=(c k).I/\(gV c i {c i with d:=d,w:=w0} k).r=(c k).r/\(gV c i {c i with d:=d,w:=w0} k).N=(c k).N/\(gV c i {c i with d:=d,w:=w0} k).q=(c k).q:=λk=>by grind [iH,iq]
 have t:∀k,c k=lQ (c k)->gV c i {c i with d:=d,w:=w0} k=lQ (gV c i {c i with d:=d,w:=w0} k):=λk f=>by
  by_cases h:k=i;subst h;rw[iH];have a:(c k).O=λ_=>False:=by rw[f];rfl
  have b:(c k).I=λ_=>False:=by rw[f];rfl
  have g:(c k).r=λ_=>False:=by rw[f];rfl
  have j:(c k).N=λ_=>False:=by rw[f];rfl
  have l:(c k).q=True:=by rw[f];rfl
  simp only[lQ,a,b,g,j,l];grind [iq]
 refine⟨λk f a o=>L.iG k f a (by unfold fx.C at o|-;rwa[(e k).2.2.1,(e k).2.2.2.1]at o),λx g m a o=>by rw[(e 0).2.2.1];exact L.o x g m a o,λh=>by rw[(e 0).2.2.2.1,(e 0).2.1];exact L.nG h,λh k g m=>by rw[(e _).2.2.1];exact L.e h k g m,λh p=>by rw[(e _).2.2.2.1,(e _).2.1];exact L.f h p,λj l p r s g=>by rw[(e _).2.2.1];exact L.h j l p r s g,λj l p=>by rw[(e _).2.2.2.1,(e _).2.1];exact L.l j l p,λx u=>t _<|L.S x u,λk f=>by rw[(e k).2.2.2.2];exact L.M k f,λk g m=>t _<|L.c k g m,λk f b v=> ?_,λk f j l=>by rw[(e j).2.2.1];exact L.N k f j l,λk g m j l=>by rw[(e j).2.2.1];exact L.g k g m j l,λj l r s g k f=>by rw[(e k).2.2.1];exact L.d j l r s g k f⟩;let⟨z,B,D⟩:=L.I k f b v;grind
end
section
variable{F:Ph}{E E':gE F}{S:Nat->Jd}{tr f:Nat->gW}{c:Nat->jc}{a:Nat->fx}{gs gs':Array Ì}{t:ÿ}{sl:Option (Nat×Nat)}
def lY(b:Nat)(w W:Ç):Prop:=W=w\/∃x v,(x=gu b\/x=iI b)/\W=w.setCell x v
def lY.Ay(h:lY b w W):W.heap.size=w.heap.size:=by obtain rfl|⟨x,v,_,rfl⟩:=h;all_goals simp_all
def lY.ahv(h:lY b w W)(ok:F.Ok)(c:F.M b):Hf F E a gs.size w W:=by obtain rfl|⟨x,v,d,rfl⟩:=h;exact⟨eE _,λ_ _ _ _=>U,λ_ _ _=>U,U,U,U⟩;exact ahr ok ⟨b,c,d⟩ v
def lY.r(h:lY b w W)(L:jl F E a gs.size w)(ok:F.Ok)(c:F.M b):rS (λi=>i<gs.size) E.Y a w W:=by obtain rfl|⟨x,v,i,rfl⟩:=h;exact rS.gy _ _ _ _;exact ahs L ok ⟨b,c,i⟩ v
def lY.C(h:lY b w W)(a:Ps F E)(c:F.M b)(d:j+2<=E.r):W.heap[E.I j]?=w.heap[E.I j]?:=by obtain rfl|⟨x,v,e,rfl⟩:=h;rfl;exact aht a ⟨b,c,e⟩ v d
def lY.M(h:lY b w W)(c:i≠b){G:GS}(a:iQ w i G):iQ W i G:=by obtain rfl|⟨x,v,d,rfl⟩:=h;exact a;exact a.Px<|by rw[ahu d];exact cR c
def lY.I(h:lY b w W)(H:iK F)(L:jl F E a gs.size w)(f:Ps F E)(c:Wd F E w)(g:F.M b){Ga:GS}{Gg:Nat->GS}(i:(b=F.C->iQ W F.C Ga)/\(b≠F.C->Ga=E.b))(l:∀k,k<=F.m->(b=F.I k->iQ W (F.I k) (Gg k))/\(b≠F.I k->Gg k=E.a k)):Wd F {E with b:=Ga,a:=Gg} W:=by refine c.G H L (h.ahv H.C g) (Le f) ?_ (λk d=> ?_) λj e=>h.C f g e;by_cases e:b=F.C;exact i.1 e;rw[i.2 e];exact h.M (cR e) c.C;by_cases e:b=F.I k;exact(l k d).1 e;rw[(l k d).2 e];exact h.M (cR e)<|c.I k d
def PI.Y(H:iK F)(p:PI F b zX E S tr c a gs w t){f:Ì}{h:Array ê}{J:Jd}{T:gW}(K:jc)(r:gs[i]?=À g)(l:AB E i)(s:F.M n)(u:à F.P (i==0) g w=σ f W h)(m:lY n w W)(j:∀e∈h,vK F.toFx e)(o:å (a i).d h=(a i).d)(v:∀x,E.K x->i=F.L+x->(∀e∈h,∀n,(Ï e).touch?=À n->∃y:Õ,n.loc=é y/\y.block=F.C)/\Cp (Ū t i) h)(hF:mE F.P (i==0) J T {a i with w:=W} f)(z:f.status=Í\/f.status=ï): ∃gs' qJ,aW F.P (đ gs w sl) i=(Į<|đ gs' W sl,qJ)/\gs'.size=gs.size/\gs'[i]?=À f/\(∀k,k≠i->gs'[k]?=gs[k]?.map (ė F.P g f W))/\ iB F.P F.S E.Y (fP S i J) (fP tr i T) (fP c i K) (gV a i {a i with w:=W}) gs' W (t++qJ)/\TI F.toFx b zX E.r E.S.rl E.V E.e E.d E.K E.f (t++qJ)/\jl F E (gV a i {a i with w:=W}) gs'.size W:=by have C:=p.I.r;obtain⟨gs',B,k,D,G,q⟩:=p.I.K r u (m.r p.a H.C s) (by rwa[o]) z (ahp p.a H.C C j)<|aho C.l p.d l j;rw[o]at q;refine⟨gs',_,B,k,D,G,q,p.d.r<|ahq p.a p.C C l j v,?_⟩;rw[k];exact p.a.C<|cZ m.Ay.symm
theorem fy.yN(B:fy F E gs w){a:Ì}(p:gs'[i]?=À a)(q:a.status≠č)(d:∀k,k≠i->gs'[k]?=gs[k]?.map (ė F.P g a W))(t:∀j,j+2<=E.r->W.heap[E.I j]?=w.heap[E.I j]?)(u:E'.r=E.r)(v:E'.I=E.I)(z:∀x,F.L+x≠i->E'.M x=E.M x)(C:i≠0->E'.N=E.N)(D:∀j,F.L+1+j≠i->E'.C j=E.C j)(G:i≠0->E.N=.fS .lP->E.b.sm=0->E'.b.sm=0\/∀x,gs'[0]?=À x->x.status≠č)(H:∀j r,F.L+1+j≠i->E.C j=.fS r .lP->(E.a<|F.r<|j+r*F.n).sm=0->(E'.a<|F.r<|j+r*F.n).sm=0\/∀x,gs'[F.L+1+j]?=À x->x.status≠č):fy F E' gs' W:=by
 intro k x b f;by_cases e:k=i;grind
 .have I:=b;rw[d k e]at b;obtain⟨y,h,rfl⟩:=è.1 b;let⟨_,l⟩:=Hg f;obtain⟨J,m,c⟩|⟨j,K,M,m,⟨r,c,o⟩|⟨r,N,s,O,c,o⟩⟩:=B k y h l;all_goals grind
def EJ(a:j+2<=E.r):AB E (F.L+1+j):=Å ⟨j+1,Z,Z⟩
def Ll(b:E.M (j+1)=Ú):∀x,E.K x->F.L+1+j=F.L+x->False:=λx ⟨e,a,_⟩ h2=>by have:x=j+1:=Z;subst this;rw[b]at a;cases a
def Hl(ok:F.Ok)(h:i<F.q):F.M (F.I<|F.r i):=Å ⟨F.r i,ok.I i h,U⟩
def jE(a:gs[i]?=À g):i<gs.size:=(fp.1 a).1
end
end fO
end Go.Proofs.Y
