/- attickeep.Refused answers true, whatever the batches, the number of workers and the schedule: Ask refuses just what Check refuses, with its error, and then nothing has changed. Conditions: the given row's alone (what it reads is well laid, the package's variables lie as they are laid at the start). -/
import Derived.Test.YtgpphkdoanciiaaGreatDoorWAE
import Derived.Test.YtgpphkdoanciiaaGreatDoorCards
import Derived.Test.YtgpphkdoanciiaaGreatDoorTie
import Derived.SevenTiedAt
set_option linter.all false
set_option maxRecDepth 1000000
set_option maxHeartbeats 8000000
open Go.Proofs.Tryz renaming prog->À,f9->Ã,checked->Ä,underlying3->Ç,func9->È,params9->Ì
open Option.some renaming inj->Â
open Bool renaming false->Å,true->Ï
open Go.IntKind renaming signed->É,bits->Í,min->Ø,max->Ù
namespace Go.Proofs.Y.nz
open Go Go.Conc Go.Proofs Go.RowKit Go.Proofs.Y.Lift Go.Proofs.Y.jr Go.Proofs.Y.fK Go.Proofs.Y.xq
open Go.Proofs.YtgpphkdoanciiaaGreatDoor (Rows.refusedSpec Rows.refusedRow Rows.RefusedSaid Tryz.pinned)
open Go.ChangeShapes Go.WideShapes Go.ChangeAt
def e9(os:Os)(J:os.Started)(H:Type)(enc:TypeId×Value->H): ReturnsInLeavingWide {} Ä os 9 .any (λw e=>(Rows.refusedSpec.pre enc À Ã [] Å w e/\laidMetH À Sm w)/\sizedMet enc À Ã (OpenSpec.ofChange Rows.refusedSpec) Å w e) (Rows.refusedSpec.post enc À Ã Å Ï Å Å):=by apply returnsInLeavingWide_of_good (C:=Ä) fD J (ChangeSpec.witness_shaped (enc:=enc) (C:=Ä) (os:=os) (X:=λw _=>laidMetH À Sm w) Å (World.doorLaid À 400 os) #[.slice none 0 0,.int .i64 0] 8 U (World.shaped_of_RefB fF fF) fF fF fF<|avb os _);intro w g i _ r _ K L _;let⟨_,_,_,N,O,_,_,_,_,j⟩:=K;obtain rfl:N=Ã:=Â<|O.symm.trans È;let⟨⟨⟨P,gs,before,s,_⟩,t⟩,_⟩:=L;have u:=DataW.Whole.of_heap (w':=w.forCall g i) gG s;have Q:p9 (w.forCall g i):=au8 r<|laidMetH.of_heap (w:=(w.forCall g i).memory) U t;generalize w.forCall g i=W at*;generalize i.args=e at*;clear s t r;have k:=u;obtain⟨p,q,T,V,rfl,_,_⟩:=u;have y:DataW.TrodAll enc À W 0 (λ_=>Ï) Ï Ã.params.toList e.toList P p:=T;rw[Ì]at y j;obtain⟨Y,v1,z,d1,d,p1,rfl,rfl,rfl,B,h1⟩:=trodAll_two y;obtain⟨rfl,rfl⟩:=trodVars_none V;obtain⟨D,E,l,rfl⟩:=okWide_slice Tryz.underlying25<|j 0 25 Y U U;obtain⟨kk,rfl,rfl,rfl,m⟩:=open_int Ç (j 1 3 v1 U U) h1;simp only[List.append_nil]at k;let⟨fuel,hf⟩:=id B;let⟨hm,f,n⟩:=auU hf;let⟨M,last,o,a,t',r1,r2,r3,r4⟩:=refused_run (c:=l) Q n (Nat.le_trans hm A) kk (by simp[Lit.wf,Ø,É,Í]at m;omega) (by simp[Lit.wf,Ù,É,Í]at m;omega);refine⟨M,last,.done o,a,t',r1,r2,r3,r4.mono λv hF=> ?_⟩;obtain⟨⟨rfl,hk⟩,F,G⟩:=hF;have I:=ava hk F G;have iy:∀x∈d,x.block<W.heap.size:=λx n=>k.lt x (by simp[n]);have ha:DataW.Trod enc À {a with tape:=W.tape} 0 (λb=>decide<|b<W.heap.size) Ï 25 (.slice D E l) z d:=Below.trod au9 fF (of_decide_eq_true fF) B I iy;have ny:DataW.Trod enc À a 0 (λb=>decide<|b<W.heap.size) Ï 25 (.slice D E l) z d:=DataW.Trod.of_heap (w:={a with tape:=W.tape}) (w':=a) U ha;refine ChangeSpec.post_blind ⟨_,_,_,[],_,[],k,trodAll_mk1<|shut_bool Tryz.underlying4 _,trodAll_mk2 ny<|shut_int Ç m,U,⟨F,G,(Below.frame (w':={a with tape:=W.tape}) I λp=>p∈d/\(p∈[]\/p∈d++[]\/p∈[])).2.2⟩,λh=>by cases h⟩
def uh:Rows.RefusedSaid:= OpenClaim.holds_of_wide_leaving 9 Ã U U U U U U U ⟨U,U,U,U,U⟩ U U U U U fF È fF (of_decide_eq_true fF) (by unfold Func.isWrapper;first|(rw[if_pos (by decide+kernel)];kernel_rfl)|(rw[if_neg (by decide+kernel)];exact⟨U,U⟩)) λa b H c _=>e9 a b H c
end Go.Proofs.Y.nz
namespace Go.Proofs.YtgpphkdoanciiaaGreatDoor
open Go
theorem refusedCard_holds:Rows.RefusedCardSaid:=by
 have a:Claim7.isSixth {stood:={row:=Rows.refusedRow,standIns:=[],harness:=(Ï, "06146bd03cd3b68f99b6c94596564444c7bc30fda6fc0fb9eb31355abe92b33f"),looks:=Å},kinds:=[]}=Å:=by simp[Claim7.isSixth]
 have b:=Claim7.tied_new_at .later [.data,.data,.data,.data] Ï (Claim7.new_of_sixth Y.nz.uh (Ï, "06146bd03cd3b68f99b6c94596564444c7bc30fda6fc0fb9eb31355abe92b33f") Å U ⟨U,U⟩ fF a (λf D c d=>by
   obtain rfl:f=9:=Â ((show À.funcNamed "attic/attickeep.Refused"=some 9 by kernel_rfl).symm.trans c)|>.symm;obtain rfl:D=Ã:=(Â<|È.symm.trans d).symm;exact⟨fF,λj t h=>by
    rw[Ì]at h;have e:t∈[25,3]:=by simpa using Array.mem_of_getElem? h
    have g:([25,3].all λu=> !Tryz.prog.wantsStandIn u)=Ï:=fF
    exact(show À.wantsStandIn t=Å by simpa using List.all_eq_true.1 g t e)⟩)) fF
 exact⟨b,(λD h=>by cases h),refused_row_tie,(λh=>by cases h),fF⟩
end Go.Proofs.YtgpphkdoanciiaaGreatDoor
