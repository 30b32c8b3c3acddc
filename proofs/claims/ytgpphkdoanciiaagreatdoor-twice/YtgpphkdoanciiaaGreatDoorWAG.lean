/- attickeep.Twice answers true, whatever the blocks, the workers, the schedule: one block, imported twice on version 0, another between, is refused twice or makes two versions that do not differ. Conditions: the given row's. -/
import Derived.Test.YtgpphkdoanciiaaGreatDoorWAF
import Derived.ChangeMaps5
import Derived.SizedLaws
import Derived.Test.YtgpphkdoanciiaaGreatDoorCards
import Derived.Test.YtgpphkdoanciiaaGreatDoorTie
import Derived.SevenTiedAt
set_option linter.all false
set_option maxRecDepth 1000000
set_option maxHeartbeats 8000000
open Go.Proofs.Tryz renaming prog->À,underlying9->Á,f10->Â,checked->Æ,underlying3->É,func10->Ê,params10->Î
open Option.some renaming inj->Ã
open Bool renaming false->Ç,true->Õ
open Go.IntKind renaming signed->Ë,bits->Ñ,min->Ù,max->Ú

namespace Go.Proofs.Y.kZ
open Go Go.Conc Go.Proofs Go.RowKit Go.Proofs.Y.Lift Go.Proofs.Y.gR Go.Proofs.Y.fv Go.Proofs.Y.py
open Go.Proofs.YtgpphkdoanciiaaGreatDoor (Rows.twiceSpec Rows.twiceRow Rows.TwiceSaid Tryz.pinned)
open Go.ChangeShapes Go.WideShapes Go.ChangeAt Go.ChangeMaps
def atp(os:Os)(z:os.Started)(H:Type)(enc:TypeId×Value->H): ReturnsInLeavingWide {} Æ os 10 .any (λw a=>(Rows.twiceSpec.pre enc À Â [] Ç w a/\laidMetH À MO w)/\sizedMet enc À Â (OpenSpec.ofChange Rows.twiceSpec) Ç w a) (Rows.twiceSpec.post enc À Â Ç Õ Ç Ç):=by
 apply returnsInLeavingWide_of_good (C:=Æ) fq z (ChangeSpec.witness_shaped (enc:=enc) (C:=Æ) (os:=os) (X:=λw _=>laidMetH À MO w) Ç (World.doorLaid À 400 os) #[.string ⟨#[]⟩,.string ⟨#[]⟩,.int .i64 0] 8 U (World.shaped_of_RefB fu fu) fu fu fu<|asF os _);intro w b i _ e _ D E _;let⟨_,_,_,F,G,_,_,_,_,c⟩:=D;obtain rfl:F=Â:=Ã<|G.symm.trans Ê;let⟨⟨_,f⟩,_,I,gs,before,g,k⟩:=E;have l:=DataW.Whole.of_heap (w':=w.forCall b i) fQ g;have J:nz (w.forCall b i):=asC e<|laidMetH.of_heap (w:=(w.forCall b i).memory) U f;generalize w.forCall b i=W at*;generalize i.args=a at*;clear g f e;have m:=l;obtain⟨p,q,K,L,rfl,_,_⟩:=l;have n:DataW.TrodAll enc À W 0 (λ_=>Õ) Õ Â.params.toList a.toList I p:=K;rw[Î]at n c;obtain⟨N,O,P,d0,d1,d2,p0,p1,p2,rfl,rfl,rfl,Q,S,T⟩:=trodAll_three n;obtain⟨rfl,rfl⟩:=trodVars_none L;obtain⟨B,rfl,rfl,rfl,V⟩:=open_string Á (c 0 9 N U U) Q;obtain⟨C,rfl,rfl,rfl,Y⟩:=open_string Á (c 1 9 O U U) S;obtain⟨kk,rfl,rfl,rfl,d⟩:=open_int É (c 2 3 P U U) T;simp only[List.append_nil]at m;have r:=sized_string k (j:=0) (t:=9) U U;have s:=sized_string k (j:=1) (t:=9) U U;have nB:B.size<=10^15-3:=by rw[Array.length_toList]at r;exact Nat.le_trans r A
 have nC:C.size<=10^15-3:=by rw[Array.length_toList]at s;exact Nat.le_trans s A
 let⟨M,last,o,u,t',r1,r2,r3,r4⟩:=ato J nB nC kk (by simp[Lit.wf,Ù,Ë,Ñ]at d;omega) (by simp[Lit.wf,Ú,Ë,Ñ]at d;omega);refine⟨M,last,.done o,u,t',r1,r2,r3,r4.mono λv hF=> ?_⟩;obtain⟨⟨rfl,hk⟩,x,y⟩:=hF;have hB:=asE hk x y;exact ChangeSpec.post_blind ⟨_,_,_,[],_,[],m,trodAll_mk1<|shut_bool Tryz.underlying4 _,trodAll_mk3 (shut_string Á V) (shut_string Á Y)<|shut_int É d,U,⟨x,y,(Below.frame (w':={u with tape:=W.tape}) hB λp=>p∈[]/\(p∈[]\/p∈[]\/p∈[])).2.2⟩,λh=>by cases h⟩
def atq:Rows.TwiceSaid:= OpenClaim.holds_of_wide_leaving 10 Â U U U U U U U ⟨U,U,U,U,U⟩ U U U U U fu Ê fu (of_decide_eq_true fu) (by unfold Func.isWrapper;first|(rw[if_pos (by decide+kernel)];kernel_rfl)|(rw[if_neg (by decide+kernel)];exact⟨U,U⟩)) λa b H c _=>atp a b H c
end Go.Proofs.Y.kZ
namespace Go.Proofs.YtgpphkdoanciiaaGreatDoor
open Go
def twiceCard_holds:Rows.TwiceCardSaid:=by
 have a:Claim7.isSixth {stood:={row:=Rows.twiceRow,standIns:=[],harness:=(Õ, "06146bd03cd3b68f99b6c94596564444c7bc30fda6fc0fb9eb31355abe92b33f"),looks:=Ç},kinds:=[]}=Ç:=by simp[Claim7.isSixth]
 have b:=Claim7.tied_new_at .later [.data,.data,.data,.data] Õ (Claim7.new_of_sixth Y.kZ.atq (Õ, "06146bd03cd3b68f99b6c94596564444c7bc30fda6fc0fb9eb31355abe92b33f") Ç U ⟨U,U⟩ fu a (λf D c d=>by
   obtain rfl:f=10:=Ã ((show À.funcNamed "attic/attickeep.Twice"=some 10 by kernel_rfl).symm.trans c)|>.symm;obtain rfl:D=Â:=(Ã<|Ê.symm.trans d).symm;exact⟨fu,λj t h=>by
    rw[Î]at h;have e:t∈[9,9,3]:=by simpa using Array.mem_of_getElem? h
    have g:([9,9,3].all λu=> !Tryz.prog.wantsStandIn u)=Õ:=fu
    exact(show À.wantsStandIn t=Ç by simpa using List.all_eq_true.1 g t e)⟩)) fu
 exact⟨b,(λD h=>by cases h),twice_row_tie,(λh=>by cases h),fu⟩
end Go.Proofs.YtgpphkdoanciiaaGreatDoor
