/- attickeep.Least answers true, whatever the program, the argument, the numbers, the workers, the schedule: with the least gas a call ends well, with one less and with any one less it fails; where there is none it fails with any. Conditions: the given row's. -/
import Derived.Test.YtgpphkdoanciiaaGreatDoorWAF
import Derived.ChangeMaps5
import Derived.SizedLaws
import Derived.Test.YtgpphkdoanciiaaGreatDoorCards
import Derived.Test.YtgpphkdoanciiaaGreatDoorTie
import Derived.SevenTiedAt
set_option linter.all false
set_option maxRecDepth 1000000
set_option maxHeartbeats 8000000
open Go.Proofs.Tryz renaming underlying3->À,prog->Â,f11->Ä,checked->Ç,underlying9->Ê,func11->Ë,params11->Ñ
open Go.IntKind renaming signed->Á,bits->Ã,min->Ì,max->Í
open Option.some renaming inj->Å
open Bool renaming false->È,true->Ø

namespace Go.Proofs.Y.k9
open Go Go.Conc Go.Proofs Go.RowKit Go.Proofs.Y.Lift Go.Proofs.Y.fR Go.Proofs.Y.fx Go.Proofs.Y.nQ
open Go.Proofs.YtgpphkdoanciiaaGreatDoor (Rows.leastSpec Rows.leastRow Rows.LeastSaid Tryz.pinned)
open Go.ChangeShapes Go.WideShapes Go.ChangeAt Go.ChangeMaps
def au2(os:Os)(z:os.Started)(H:Type)(enc:TypeId×Value->H): ReturnsInLeavingWide {} Ç os 11 .any (λw b=>(Rows.leastSpec.pre enc Â Ä [] È w b/\laidMetH Â NA w)/\sizedMet enc Â Ä (OpenSpec.ofChange Rows.leastSpec) È w b) (Rows.leastSpec.post enc Â Ä È Ø È È):=by
 apply returnsInLeavingWide_of_good (C:=Ç) ft z (ChangeSpec.witness_shaped (enc:=enc) (C:=Ç) (os:=os) (X:=λw _=>laidMetH Â NA w) È (World.doorLaid Â 400 os) #[.string ⟨#[]⟩,.int .i64 0,.int .i64 0,.int .i64 0] 8 U (World.shaped_of_RefB fw fw) fw fw fw<|atJ os _);intro w c i _ g _ D E _;let⟨_,_,_,F,G,_,_,_,_,a⟩:=D;obtain rfl:F=Ä:=Å<|G.symm.trans Ë;let⟨⟨_,k⟩,_,I,gs,before,l,J⟩:=E;have m:=DataW.Whole.of_heap (w':=w.forCall c i) fS l;have K:mQ (w.forCall c i):=atG g<|laidMetH.of_heap (w:=(w.forCall c i).memory) U k;generalize w.forCall c i=W at*;generalize i.args=b at*;clear l k g;have n:=m;obtain⟨p,q,L,N,rfl,_,_⟩:=m;have r:DataW.TrodAll enc Â W 0 (λ_=>Ø) Ø Ä.params.toList b.toList I p:=L;rw[Ñ]at r a;obtain⟨O,P,Q,S,d0,d1,d2,d3,p0,p1,p2,p3,rfl,rfl,rfl,T,V,Y,h3⟩:=trodAll_four r;obtain⟨rfl,rfl⟩:=trodVars_none N;obtain⟨B,rfl,rfl,rfl,mB⟩:=open_string Ê (a 0 9 O U U) T;obtain⟨k1,rfl,rfl,rfl,d⟩:=open_int À (a 1 3 P U U) V;obtain⟨k2,rfl,rfl,rfl,e⟩:=open_int À (a 2 3 Q U U) Y;obtain⟨k3,rfl,rfl,rfl,f⟩:=open_int À (a 3 3 S U U) h3;simp only[List.append_nil]at n;have s:=sized_string J (j:=0) (t:=9) U U;have nB:B.size<=10^14*2:=by rw[Array.length_toList]at s;exact Nat.le_trans s A
 let⟨M,last,o,u,t',r1,r2,r3,r4⟩:=au1 K nB k2 k1 k3 (by simp[Lit.wf,Ì,Á,Ã]at e;omega) (by simp[Lit.wf,Í,Á,Ã]at e;omega) (by simp[Lit.wf,Ì,Á,Ã]at d;omega) (by simp[Lit.wf,Í,Á,Ã]at d;omega) (by simp[Lit.wf,Ì,Á,Ã]at f;omega) (by simp[Lit.wf,Í,Á,Ã]at f;omega);refine⟨M,last,.done o,u,t',r1,r2,r3,r4.mono λv hF=> ?_⟩;obtain⟨⟨rfl,hk⟩,x,y⟩:=hF;have hB:=atI hk x y;exact ChangeSpec.post_blind ⟨_,_,_,[],_,[],n,trodAll_mk1<|shut_bool Tryz.underlying4 _,trodAll_mk4 (shut_string Ê mB) (shut_int À d) (shut_int À e)<|shut_int À f,U,⟨x,y,(Below.frame (w':={u with tape:=W.tape}) hB λp=>p∈[]/\(p∈[]\/p∈[]\/p∈[])).2.2⟩,λh=>by cases h⟩
def au3:Rows.LeastSaid:= OpenClaim.holds_of_wide_leaving 11 Ä U U U U U U U ⟨U,U,U,U,U⟩ U U U U U fw Ë fw (of_decide_eq_true fw) (by unfold Func.isWrapper;first|(rw[if_pos (by decide+kernel)];kernel_rfl)|(rw[if_neg (by decide+kernel)];exact⟨U,U⟩)) λa b H c _=>au2 a b H c
end Go.Proofs.Y.k9
namespace Go.Proofs.YtgpphkdoanciiaaGreatDoor
open Go
def leastCard_holds:Rows.LeastCardSaid:=by
 have a:Claim7.isSixth {stood:={row:=Rows.leastRow,standIns:=[],harness:=(Ø, "06146bd03cd3b68f99b6c94596564444c7bc30fda6fc0fb9eb31355abe92b33f"),looks:=È},kinds:=[]}=È:=by simp[Claim7.isSixth]
 have b:=Claim7.tied_new_at .later [.data,.data,.data,.data] Ø (Claim7.new_of_sixth Y.k9.au3 (Ø, "06146bd03cd3b68f99b6c94596564444c7bc30fda6fc0fb9eb31355abe92b33f") È U ⟨U,U⟩ fw a (λf D c d=>by
   obtain rfl:f=11:=Å ((show Â.funcNamed "attic/attickeep.Least"=some 11 by kernel_rfl).symm.trans c)|>.symm;obtain rfl:D=Ä:=(Å<|Ë.symm.trans d).symm;exact⟨fw,λj t h=>by
    rw[Ñ]at h;have e:t∈[9,3,3,3]:=by simpa using Array.mem_of_getElem? h
    have g:([9,3,3,3].all λu=> !Tryz.prog.wantsStandIn u)=Ø:=fw
    exact(show Â.wantsStandIn t=È by simpa using List.all_eq_true.1 g t e)⟩)) fw
 exact⟨b,(λD h=>by cases h),least_row_tie,(λh=>by cases h),fw⟩
end Go.Proofs.YtgpphkdoanciiaaGreatDoor
