/- attickeep.Squared answers true, whatever the argument, the times, the workers, the schedule: squaring up to sixteen times is squaring modulo 2 to the 64th; the gas used and the least gas are the costs of the steps. Conditions: the given row's. -/
import Derived.Test.YtgpphkdoanciiabGreatDoorWAF
import Derived.ChangeMaps5
import Derived.SizedLaws
import Derived.Test.YtgpphkdoanciiabGreatDoorCards
import Derived.Test.YtgpphkdoanciiabGreatDoorTie
import Derived.SevenTiedAt
set_option linter.all false
set_option maxRecDepth 1000000
set_option maxHeartbeats 8000000
open Go.Proofs.Tryz renaming underlying3->À,prog->Â,f3->Æ,checked->Ç,func3->Ì,params3->Ð
open Go.IntKind renaming signed->Á,bits->Ã,min->Ê,max->Ë
open Option.some renaming inj->Å
open Bool renaming false->È,true->Ö

namespace Go.Proofs.Y.kt
open Go Go.Conc Go.Proofs Go.RowKit Go.Proofs.Y.Lift Go.Proofs.Y.gp Go.Proofs.Y.fy Go.Proofs.Y.mO
open Go.Proofs.YtgpphkdoanciiabGreatDoor (Rows.squaredSpec Rows.squaredRow Rows.SquaredSaid Tryz.pinned)
open Go.ChangeShapes Go.WideShapes Go.ChangeAt Go.ChangeMaps
def auf(os:Os)(u:os.Started)(H:Type)(enc:TypeId×Value->H): ReturnsInLeavingWide {} Ç os 3 .any (λw a=>(Rows.squaredSpec.pre enc Â Æ [] È w a/\laidMetH Â MZ w)/\sizedMet enc Â Æ (OpenSpec.ofChange Rows.squaredSpec) È w a) (Rows.squaredSpec.post enc Â Æ È Ö È È):=by apply returnsInLeavingWide_of_good (C:=Ç) ft u (ChangeSpec.witness_shaped (enc:=enc) (C:=Ç) (os:=os) (X:=λw _=>laidMetH Â MZ w) È (World.doorLaid Â 400 os) #[.int .i64 0,.int .i64 0,.int .i64 0] 8 U (World.shaped_of_RefB fv fv) fv fv fv<|as7 os _);intro w b i _ g _ x y _;let⟨_,_,_,z,B,_,_,_,_,c⟩:=x;obtain rfl:z=Æ:=Å<|B.symm.trans Ì;let⟨⟨_,j⟩,_,D,gs,before,k,kg⟩:=y;have l:=DataW.Whole.of_heap (w':=w.forCall b i) fZ k;have E:mB (w.forCall b i):=as4 g<|laidMetH.of_heap (w:=(w.forCall b i).memory) U j;generalize w.forCall b i=W at*;generalize i.args=a at*;clear k j g;have m:=l;obtain⟨p,q,F,G,rfl,_,_⟩:=l;have n:DataW.TrodAll enc Â W 0 (λ_=>Ö) Ö Æ.params.toList a.toList D p:=F;rw[Ð]at n c;obtain⟨I,J,K,d0,d1,d2,p0,p1,p2,rfl,rfl,rfl,L,N,O⟩:=trodAll_three n;obtain⟨rfl,rfl⟩:=trodVars_none G;obtain⟨P,rfl,rfl,rfl,d⟩:=open_int À (c 0 3 I U U) L;obtain⟨Q,rfl,rfl,rfl,e⟩:=open_int À (c 1 3 J U U) N;obtain⟨S,rfl,rfl,rfl,f⟩:=open_int À (c 2 3 K U U) O;simp only[List.append_nil]at m;let⟨M,T,o,r,V,Y,r2,r3,r4⟩:=aue E P Q S (by simp[Lit.wf,Ê,Á,Ã]at d;omega) (by simp[Lit.wf,Ë,Á,Ã]at d;omega) (by simp[Lit.wf,Ê,Á,Ã]at e;omega) (by simp[Lit.wf,Ë,Á,Ã]at e;omega) (by simp[Lit.wf,Ê,Á,Ã]at f;omega) (by simp[Lit.wf,Ë,Á,Ã]at f;omega);refine⟨M,T,.done o,r,V,Y,r2,r3,r4.mono λv hF=> ?_⟩;obtain⟨⟨rfl,hk⟩,s,t⟩:=hF;have hB:=as6 hk s t;exact ChangeSpec.post_blind ⟨_,_,_,[],_,[],m,trodAll_mk1<|shut_bool Tryz.underlying4 _,trodAll_mk3 (shut_int À d) (shut_int À e)<|shut_int À f,U,⟨s,t,(Below.frame (w':={r with tape:=W.tape}) hB λp=>p∈[]/\(p∈[]\/p∈[]\/p∈[])).2.2⟩,λh=>by cases h⟩
def aug:Rows.SquaredSaid:= OpenClaim.holds_of_wide_leaving 3 Æ U U U U U U U ⟨U,U,U,U,U⟩ U U U U U fv Ì fv (of_decide_eq_true fv) (by unfold Func.isWrapper;first|(rw[if_pos (by decide+kernel)];kernel_rfl)|(rw[if_neg (by decide+kernel)];exact⟨U,U⟩)) λa b H c _=>auf a b H c
end Go.Proofs.Y.kt
namespace Go.Proofs.YtgpphkdoanciiabGreatDoor
open Go
def squaredCard_holds:Rows.SquaredCardSaid:=by
 have a:Claim7.isSixth {stood:={row:=Rows.squaredRow,standIns:=[],harness:=(Ö, "7cc1126754d9098b0a4d2949b2dfa9b113db4512289ea3e736df06048d434a57"),looks:=È},kinds:=[]}=È:=by simp[Claim7.isSixth]
 have b:=Claim7.tied_new_at .later [.data,.data,.data,.data] Ö (Claim7.new_of_sixth Y.kt.aug (Ö, "7cc1126754d9098b0a4d2949b2dfa9b113db4512289ea3e736df06048d434a57") È U ⟨U,U⟩ fv a (λf D c d=>by
   obtain rfl:f=3:=Å ((show Â.funcNamed "attic/attickeep.Squared"=some 3 by kernel_rfl).symm.trans c)|>.symm;obtain rfl:D=Æ:=(Å<|Ì.symm.trans d).symm;exact⟨fv,λj t h=>by
    rw[Ð]at h;have e:t∈[3,3,3]:=by simpa using Array.mem_of_getElem? h
    have g:([3,3,3].all λu=> !Tryz.prog.wantsStandIn u)=Ö:=fv
    exact(show Â.wantsStandIn t=È by simpa using List.all_eq_true.1 g t e)⟩)) fv
 exact⟨b,(λD h=>by cases h),squared_row_tie,(λh=>by cases h),fv⟩
end Go.Proofs.YtgpphkdoanciiabGreatDoor
