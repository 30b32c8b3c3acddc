/- attickeep.Forever answers true, whatever the batches, the workers, the schedule: what is answered about a version does not change, and versions become no fewer. Conditions: the given row's. -/
import Derived.Test.YtgpphkdoanciiaaGreatDoorWAF
import Derived.SizedLaws
import Derived.Test.YtgpphkdoanciiaaGreatDoorCards
import Derived.Test.YtgpphkdoanciiaaGreatDoorTie
import Derived.SevenTiedAt
set_option linter.all false
set_option maxRecDepth 1000000
set_option maxHeartbeats 8000000
open Go.Proofs.Tryz renaming prog->À,underlying25->Á,f6->Ä,checked->Å,underlying3->È,func6->Ê,params6->Î
open Option.some renaming inj->Ã
open Bool renaming false->Æ,true->É
open Go.IntKind renaming signed->Ë,bits->Ï,min->Ú,max->Û
variable{i n j b k m J j9 j7 j6:Nat}{w u W jX:Go.World}{O:Option Go.Addr}
namespace Go.Proofs.Y.me
open Go Go.Conc Go.Proofs Go.RowKit Go.Proofs.Y.Lift Go.Proofs.Y.iw Go.Proofs.Y.fA Go.Proofs.Y.vq
open Go.Proofs.YtgpphkdoanciiaaGreatDoor (Rows.foreverSpec Rows.foreverRow Rows.ForeverSaid Tryz.pinned)
open Go.ChangeShapes Go.WideShapes Go.ChangeAt
def asy:À.bytesOf 9=16:=fu
def asz{H:Type}{enc:TypeId×Value->H}{d:DataW H}{p:List MemPlace}{g:List TypeId}{k:List (DataW H)} (h:DataW.trod enc À W 0 (λ_=>É) É i 25 [.slice O n b]=some (d,p)) (l:(DataW.weightsEach À (25::g)<|d::k).all (· <=reachBytes)=É):n<10^13:=by
 rcases Deep.open_slice Á h with⟨f,_⟩|⟨a,o,q,m,c,D,r,f,_,_,_,_,e,_⟩
 .cases f;decide
 .cases f;cases e;have:=sized_slice l (j:=0) (t:=25) (e:=9) U U Á;rw[asy]at this;simp only[List.length_map,List.length_range,reachBytes]at this;omega
def asA(os:Os)(K:os.Started)(H:Type)(enc:TypeId×Value->H): ReturnsInLeavingWide {} Å os 6 .any (λw e=>(Rows.foreverSpec.pre enc À Ä [] Æ w e/\laidMetH À Mp w)/\sizedMet enc À Ä (OpenSpec.ofChange Rows.foreverSpec) Æ w e) (Rows.foreverSpec.post enc À Ä Æ É Æ Æ):=by apply returnsInLeavingWide_of_good (C:=Å) fq K (ChangeSpec.witness_shaped (enc:=enc) (C:=Å) (os:=os) (X:=λw _=>laidMetH À Mp w) Æ (World.doorLaid À 400 os) #[.slice none 0 0,.int .i64 0] 8 U (World.shaped_of_RefB fu fu) fu fu fu<|arW os _);intro w g i _ r _ L N _;let⟨_,_,_,O,P,_,_,_,_,j⟩:=L;obtain rfl:O=Ä:=Ã<|P.symm.trans Ê;let⟨⟨_,s⟩,_,Q,gs,before,t,S⟩:=N;have u:=DataW.Whole.of_heap (w':=w.forCall g i) fW t;have T:np (w.forCall g i):=arS r<|laidMetH.of_heap (w:=(w.forCall g i).memory) U s;generalize w.forCall g i=W at*;generalize i.args=e at*;clear t s r;have k:=u;obtain⟨p,q,V,Y,rfl,_,_⟩:=u;have y:DataW.TrodAll enc À W 0 (λ_=>É) É Ä.params.toList e.toList Q p:=V;rw[Î]at y j;obtain⟨v0,v1,z,d1,d,p1,rfl,rfl,rfl,B,h1⟩:=trodAll_two y;obtain⟨rfl,rfl⟩:=trodVars_none Y;obtain⟨D,E,l,rfl⟩:=okWide_slice Á<|j 0 25 v0 U U;obtain⟨kk,rfl,rfl,rfl,m⟩:=open_int È (j 1 3 v1 U U) h1;simp only[List.append_nil]at k;let⟨fuel,F⟩:=id B;let⟨_,f,n⟩:=arD F;let⟨M,last,o,a,t',r1,r2,r3,r4⟩:=asx (c:=l) T n (asz F S) kk (by simp[Lit.wf,Ú,Ë,Ï]at m;omega) (by simp[Lit.wf,Û,Ë,Ï]at m;omega);refine⟨M,last,.done o,a,t',r1,r2,r3,r4.mono λv hF=> ?_⟩;obtain⟨⟨rfl,hk⟩,G,I⟩:=hF;have J:=arV hk G I;have gN:∀x∈d,x.block<W.heap.size:=λx n=>k.lt x (by simp[n]);have ha:DataW.Trod enc À {a with tape:=W.tape} 0 (λb=>decide<|b<W.heap.size) É 25 (.slice D E l) z d:=Below.trod arU fu (of_decide_eq_true fu) B J gN;have ha':DataW.Trod enc À a 0 (λb=>decide<|b<W.heap.size) É 25 (.slice D E l) z d:=DataW.Trod.of_heap (w:={a with tape:=W.tape}) (w':=a) U ha;refine ChangeSpec.post_blind ⟨_,_,_,[],_,[],k,trodAll_mk1<|shut_bool Tryz.underlying4 _,trodAll_mk2 ha'<|shut_int È m,U,⟨G,I,(Below.frame (w':={a with tape:=W.tape}) J λp=>p∈d/\(p∈[]\/p∈d++[]\/p∈[])).2.2⟩,λh=>by cases h⟩
def asB:Rows.ForeverSaid:= OpenClaim.holds_of_wide_leaving 6 Ä U U U U U U U ⟨U,U,U,U,U⟩ U U U U U fu Ê fu (of_decide_eq_true fu) (by unfold Func.isWrapper;first|(rw[if_pos (by decide+kernel)];kernel_rfl)|(rw[if_neg (by decide+kernel)];exact⟨U,U⟩)) λa b H c _=>asA a b H c
end Go.Proofs.Y.me
namespace Go.Proofs.YtgpphkdoanciiaaGreatDoor
open Go
def foreverCard_holds:Rows.ForeverCardSaid:=by
 have a:Claim7.isSixth {stood:={row:=Rows.foreverRow,standIns:=[],harness:=(É, "06146bd03cd3b68f99b6c94596564444c7bc30fda6fc0fb9eb31355abe92b33f"),looks:=Æ},kinds:=[]}=Æ:=by simp[Claim7.isSixth]
 have b:=Claim7.tied_new_at .later [.data,.data,.data,.data] É (Claim7.new_of_sixth Y.me.asB (É, "06146bd03cd3b68f99b6c94596564444c7bc30fda6fc0fb9eb31355abe92b33f") Æ U ⟨U,U⟩ fu a (λf D c d=>by
   obtain rfl:f=6:=Ã ((show À.funcNamed "attic/attickeep.Forever"=some 6 by kernel_rfl).symm.trans c)|>.symm;obtain rfl:D=Ä:=(Ã<|Ê.symm.trans d).symm;exact⟨fu,λj t h=>by
    rw[Î]at h;have e:t∈[25,3]:=by simpa using Array.mem_of_getElem? h
    have g:([25,3].all λu=> !Tryz.prog.wantsStandIn u)=É:=fu
    exact(show À.wantsStandIn t=Æ by simpa using List.all_eq_true.1 g t e)⟩)) fu
 exact⟨b,(λD h=>by cases h),forever_row_tie,(λh=>by cases h),fu⟩
end Go.Proofs.YtgpphkdoanciiaaGreatDoor
