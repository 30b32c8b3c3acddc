/- attickeep.Refused answers true, whatever the batches, the workers, the schedule: Ask refuses just what Check refuses, with its error, and then nothing has changed. Conditions: the given row's. -/
import Derived.Test.YtgpphkdoanciiaaGreatDoorWAF
import Derived.Test.YtgpphkdoanciiaaGreatDoorCards
import Derived.Test.YtgpphkdoanciiaaGreatDoorTie
import Derived.SevenTiedAt
set_option linter.all false
set_option maxRecDepth 1000000
set_option maxHeartbeats 8000000
open Go.Proofs.Tryz renaming prog->À,f9->Ã,checked->Ä,underlying3->Ç,func9->È,params9->Ì
open Option.some renaming inj->Â
open Bool renaming false->Å,true->Ï
open Go.IntKind renaming signed->É,bits->Í,min->Ø,max->Ù

namespace Go.Proofs.Y.lS
open Go Go.Conc Go.Proofs Go.RowKit Go.Proofs.Y.Lift Go.Proofs.Y.iz Go.Proofs.Y.fw Go.Proofs.Y.vg
open Go.Proofs.YtgpphkdoanciiaaGreatDoor (Rows.refusedSpec Rows.refusedRow Rows.RefusedSaid Tryz.pinned)
open Go.ChangeShapes Go.WideShapes Go.ChangeAt
def arR(os:Os)(J:os.Started)(H:Type)(enc:TypeId×Value->H): ReturnsInLeavingWide {} Ä os 9 .any (λw e=>(Rows.refusedSpec.pre enc À Ã [] Å w e/\laidMetH À L0 w)/\sizedMet enc À Ã (OpenSpec.ofChange Rows.refusedSpec) Å w e) (Rows.refusedSpec.post enc À Ã Å Ï Å Å):=by apply returnsInLeavingWide_of_good (C:=Ä) fi J (ChangeSpec.witness_shaped (enc:=enc) (C:=Ä) (os:=os) (X:=λw _=>laidMetH À L0 w) Å (World.doorLaid À 400 os) #[.slice none 0 0,.int .i64 0] 8 U (World.shaped_of_RefB fl fl) fl fl fl<|arF os _);intro w g i _ r _ K L _;let⟨_,_,_,N,O,_,_,_,_,j⟩:=K;obtain rfl:N=Ã:=Â<|O.symm.trans È;let⟨⟨⟨P,gs,before,s,_⟩,t⟩,_⟩:=L;have u:=DataW.Whole.of_heap (w':=w.forCall g i) fP s;have Q:mU (w.forCall g i):=arB r<|laidMetH.of_heap (w:=(w.forCall g i).memory) U t;generalize w.forCall g i=W at*;generalize i.args=e at*;clear s t r;have k:=u;obtain⟨p,q,S,T,rfl,_,_⟩:=u;have y:DataW.TrodAll enc À W 0 (λ_=>Ï) Ï Ã.params.toList e.toList P p:=S;rw[Ì]at y j;obtain⟨V,Y,z,d1,d,p1,rfl,rfl,rfl,B,h1⟩:=trodAll_two y;obtain⟨rfl,rfl⟩:=trodVars_none T;obtain⟨D,E,l,rfl⟩:=okWide_slice Tryz.underlying25<|j 0 25 V U U;obtain⟨kk,rfl,rfl,rfl,m⟩:=open_int Ç (j 1 3 Y U U) h1;simp only[List.append_nil]at k;let⟨fuel,hf⟩:=id B;let⟨hm,f,n⟩:=ari hf;let⟨M,last,o,a,t',r1,r2,r3,r4⟩:=arQ (c:=l) Q n (Nat.le_trans hm A) kk (by simp[Lit.wf,Ø,É,Í]at m;omega) (by simp[Lit.wf,Ù,É,Í]at m;omega);refine⟨M,last,.done o,a,t',r1,r2,r3,r4.mono λv hF=> ?_⟩;obtain⟨⟨rfl,hk⟩,F,G⟩:=hF;have I:=arE hk F G;have gI:∀x∈d,x.block<W.heap.size:=λx n=>k.lt x (by simp[n]);have ha:DataW.Trod enc À {a with tape:=W.tape} 0 (λb=>decide<|b<W.heap.size) Ï 25 (.slice D E l) z d:=Below.trod arD fl (of_decide_eq_true fl) B I gI;have ha':DataW.Trod enc À a 0 (λb=>decide<|b<W.heap.size) Ï 25 (.slice D E l) z d:=DataW.Trod.of_heap (w:={a with tape:=W.tape}) (w':=a) U ha;refine ChangeSpec.post_blind ⟨_,_,_,[],_,[],k,trodAll_mk1<|shut_bool Tryz.underlying4 _,trodAll_mk2 ha'<|shut_int Ç m,U,⟨F,G,(Below.frame (w':={a with tape:=W.tape}) I λp=>p∈d/\(p∈[]\/p∈d++[]\/p∈[])).2.2⟩,λh=>by cases h⟩
def arS:Rows.RefusedSaid:= OpenClaim.holds_of_wide_leaving 9 Ã U U U U U U U ⟨U,U,U,U,U⟩ U U U U U fl È fl (of_decide_eq_true fl) (by unfold Func.isWrapper;first|(rw[if_pos (by decide+kernel)];kernel_rfl)|(rw[if_neg (by decide+kernel)];exact⟨U,U⟩)) λa b H c _=>arR a b H c
end Go.Proofs.Y.lS
namespace Go.Proofs.YtgpphkdoanciiaaGreatDoor
open Go
theorem refusedCard_holds:Rows.RefusedCardSaid:=by
 have a:Claim7.isSixth {stood:={row:=Rows.refusedRow,standIns:=[],harness:=(Ï, "06146bd03cd3b68f99b6c94596564444c7bc30fda6fc0fb9eb31355abe92b33f"),looks:=Å},kinds:=[]}=Å:=by simp[Claim7.isSixth]
 have b:=Claim7.tied_new_at .later [.data,.data,.data,.data] Ï (Claim7.new_of_sixth Y.lS.arS (Ï, "06146bd03cd3b68f99b6c94596564444c7bc30fda6fc0fb9eb31355abe92b33f") Å U ⟨U,U⟩ fl a (λf D c d=>by
   obtain rfl:f=9:=Â ((show À.funcNamed "attic/attickeep.Refused"=some 9 by kernel_rfl).symm.trans c)|>.symm;obtain rfl:D=Ã:=(Â<|È.symm.trans d).symm;exact⟨fl,λj t h=>by
    rw[Ì]at h;have e:t∈[25,3]:=by simpa using Array.mem_of_getElem? h
    have g:([25,3].all λu=> !Tryz.prog.wantsStandIn u)=Ï:=fl
    exact(show À.wantsStandIn t=Å by simpa using List.all_eq_true.1 g t e)⟩)) fl
 exact⟨b,(λD h=>by cases h),refused_row_tie,(λh=>by cases h),fl⟩
end Go.Proofs.YtgpphkdoanciiaaGreatDoor
