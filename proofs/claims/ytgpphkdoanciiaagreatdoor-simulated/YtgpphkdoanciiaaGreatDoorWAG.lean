/- attickeep.Simulated answers true, whatever the program, the gas, the argument, the workers, the schedule: c and m change nothing, and are answered the same again. Conditions: the given row's. -/
import Derived.Test.YtgpphkdoanciiaaGreatDoorWAF
import Derived.ChangeMaps5
import Derived.SizedLaws
import Derived.Test.YtgpphkdoanciiaaGreatDoorCards
import Derived.Test.YtgpphkdoanciiaaGreatDoorTie
import Derived.SevenTiedAt
set_option linter.all false
set_option maxRecDepth 1000000
set_option maxHeartbeats 8000000
open Go.Proofs.Tryz renaming underlying3->À,prog->Â,f12->Å,checked->Ç,underlying9->Ê,func12->Ë,params12->Ñ
open Go.IntKind renaming signed->Á,bits->Ã,min->Ì,max->Í
open Option.some renaming inj->Æ
open Bool renaming false->È,true->Ø

namespace Go.Proofs.Y.kH
open Go Go.Conc Go.Proofs Go.RowKit Go.Proofs.Y.Lift Go.Proofs.Y.gy Go.Proofs.Y.ft Go.Proofs.Y.mZ
open Go.Proofs.YtgpphkdoanciiaaGreatDoor (Rows.simulatedSpec Rows.simulatedRow Rows.SimulatedSaid Tryz.pinned)
open Go.ChangeShapes Go.WideShapes Go.ChangeAt Go.ChangeMaps
def auG(os:Os)(z:os.Started)(H:Type)(enc:TypeId×Value->H): ReturnsInLeavingWide {} Ç os 12 .any (λw b=>(Rows.simulatedSpec.pre enc Â Å [] È w b/\laidMetH Â Nb w)/\sizedMet enc Â Å (OpenSpec.ofChange Rows.simulatedSpec) È w b) (Rows.simulatedSpec.post enc Â Å È Ø È È):=by
 apply returnsInLeavingWide_of_good (C:=Ç) fl z (ChangeSpec.witness_shaped (enc:=enc) (C:=Ç) (os:=os) (X:=λw _=>laidMetH Â Nb w) È (World.doorLaid Â 400 os) #[.string ⟨#[]⟩,.int .i64 0,.int .i64 0,.int .i64 0] 8 U (World.shaped_of_RefB fp fp) fp fp fp<|atg os _);intro w c i _ g _ D E _;let⟨_,_,_,F,G,_,_,_,_,a⟩:=D;obtain rfl:F=Å:=Æ<|G.symm.trans Ë;let⟨⟨_,k⟩,_,I,gs,before,l,J⟩:=E;have m:=DataW.Whole.of_heap (w':=w.forCall c i) fN l;have K:mK (w.forCall c i):=atd g<|laidMetH.of_heap (w:=(w.forCall c i).memory) U k;generalize w.forCall c i=W at*;generalize i.args=b at*;clear l k g;have n:=m;obtain⟨p,q,L,N,rfl,_,_⟩:=m;have r:DataW.TrodAll enc Â W 0 (λ_=>Ø) Ø Å.params.toList b.toList I p:=L;rw[Ñ]at r a;obtain⟨O,P,Q,S,d0,d1,d2,d3,p0,p1,p2,p3,rfl,rfl,rfl,T,V,Y,h3⟩:=trodAll_four r;obtain⟨rfl,rfl⟩:=trodVars_none N;obtain⟨B,rfl,rfl,rfl,mB⟩:=open_string Ê (a 0 9 O U U) T;obtain⟨k1,rfl,rfl,rfl,d⟩:=open_int À (a 1 3 P U U) V;obtain⟨k2,rfl,rfl,rfl,e⟩:=open_int À (a 2 3 Q U U) Y;obtain⟨k3,rfl,rfl,rfl,f⟩:=open_int À (a 3 3 S U U) h3;simp only[List.append_nil]at n;have s:=sized_string J (j:=0) (t:=9) U U;have nB:B.size<=10^14*2:=by rw[Array.length_toList]at s;exact Nat.le_trans s A
 let⟨M,last,o,u,t',r1,r2,r3,r4⟩:=auF K nB k1 k2 k3 (by simp[Lit.wf,Ì,Á,Ã]at d;omega) (by simp[Lit.wf,Í,Á,Ã]at d;omega) (by simp[Lit.wf,Ì,Á,Ã]at e;omega) (by simp[Lit.wf,Í,Á,Ã]at e;omega) (by simp[Lit.wf,Ì,Á,Ã]at f;omega) (by simp[Lit.wf,Í,Á,Ã]at f;omega);refine⟨M,last,.done o,u,t',r1,r2,r3,r4.mono λv hF=> ?_⟩;obtain⟨⟨rfl,hk⟩,x,y⟩:=hF;have hB:=atf hk x y;exact ChangeSpec.post_blind ⟨_,_,_,[],_,[],n,trodAll_mk1<|shut_bool Tryz.underlying4 _,trodAll_mk4 (shut_string Ê mB) (shut_int À d) (shut_int À e)<|shut_int À f,U,⟨x,y,(Below.frame (w':={u with tape:=W.tape}) hB λp=>p∈[]/\(p∈[]\/p∈[]\/p∈[])).2.2⟩,λh=>by cases h⟩
def auH:Rows.SimulatedSaid:= OpenClaim.holds_of_wide_leaving 12 Å U U U U U U U ⟨U,U,U,U,U⟩ U U U U U fp Ë fp (of_decide_eq_true fp) (by unfold Func.isWrapper;first|(rw[if_pos (by decide+kernel)];kernel_rfl)|(rw[if_neg (by decide+kernel)];exact⟨U,U⟩)) λa b H c _=>auG a b H c
end Go.Proofs.Y.kH
namespace Go.Proofs.YtgpphkdoanciiaaGreatDoor
open Go
def simulatedCard_holds:Rows.SimulatedCardSaid:=by
 have a:Claim7.isSixth {stood:={row:=Rows.simulatedRow,standIns:=[],harness:=(Ø, "06146bd03cd3b68f99b6c94596564444c7bc30fda6fc0fb9eb31355abe92b33f"),looks:=È},kinds:=[]}=È:=by simp[Claim7.isSixth]
 have b:=Claim7.tied_new_at .later [.data,.data,.data,.data] Ø (Claim7.new_of_sixth Y.kH.auH (Ø, "06146bd03cd3b68f99b6c94596564444c7bc30fda6fc0fb9eb31355abe92b33f") È U ⟨U,U⟩ fp a (λf D c d=>by
   obtain rfl:f=12:=Æ ((show Â.funcNamed "attic/attickeep.Simulated"=some 12 by kernel_rfl).symm.trans c)|>.symm;obtain rfl:D=Å:=(Æ<|Ë.symm.trans d).symm;exact⟨fp,λj t h=>by
    rw[Ñ]at h;have e:t∈[9,3,3,3]:=by simpa using Array.mem_of_getElem? h
    have g:([9,3,3,3].all λu=> !Tryz.prog.wantsStandIn u)=Ø:=fp
    exact(show Â.wantsStandIn t=È by simpa using List.all_eq_true.1 g t e)⟩)) fp
 exact⟨b,(λD h=>by cases h),simulated_row_tie,(λh=>by cases h),fp⟩
end Go.Proofs.YtgpphkdoanciiaaGreatDoor
