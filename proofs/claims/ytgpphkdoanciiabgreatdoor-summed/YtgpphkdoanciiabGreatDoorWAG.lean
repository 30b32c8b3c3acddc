/- attickeep.Summed answers true, whatever the numbers, the workers, the schedule: a loop that adds up into a slot, called by up to six accounts in one block, makes the sum, costs each what it costs, leaves no logs, and the version ahead of it is as it was. Conditions: the given row's. -/
import Derived.Test.YtgpphkdoanciiabGreatDoorWAF
import Derived.SizedLaws
import Derived.Test.YtgpphkdoanciiabGreatDoorCards
import Derived.Test.YtgpphkdoanciiabGreatDoorTie
import Derived.SevenTiedAt
set_option linter.all false
set_option maxRecDepth 1000000
set_option maxHeartbeats 8000000
open Go.Proofs.Tryz renaming prog->À,underlying3->Â,f4->Æ,underlying30->Ç,checked->É,func4->Ì,params4->Ð
open Go.Value renaming slice->Á
open Option.some renaming inj->Ä
open Go.IntKind renaming signed->Å,bits->È,min->Ò,max->Ó
open Bool renaming false->Ê,true->Ï
variable{i n j b k m J j9 j7 j6:Nat}{w u W jX:Go.World}{O:Option Go.Addr}
namespace Go.Proofs.Y.jF
open Go Go.Conc Go.Proofs Go.RowKit Go.Proofs.Y.Lift Go.Proofs.Y.fV Go.Proofs.Y.fB Go.Proofs.Y.lL
open Go.Proofs.YtgpphkdoanciiabGreatDoor (Rows.summedSpec Rows.summedRow Rows.SummedSaid Tryz.pinned)
open Go.ChangeShapes Go.WideShapes Go.ChangeAt
def auT:À.cellsOf 3=1:=fv
open Go.ChangeShapes Go.WideShapes Go.ChangeAt Go.Deep in
theorem auU{H:Type}{enc:TypeId×Value->H}{x:DataW H×List MemPlace} (h:DataW.trod enc À W 0 (λ_=>Ï) Ï k 30 [Á O J j9]=some x):J<=maxLen/\∃g,AH (Nh W) O J g:=by
 rcases open_slice Ç h with⟨c,_⟩|⟨a,r,t,m,n,D,B,c,_,C,E,u,_,v⟩
 .have e:Á O J j9=Á none 0 0:=by simpa using c
  cases e;exact⟨Nat.zero_le _,λ_=>0,λj l=>by omega⟩
 have e:Á O J j9=Á (some a) r t:=by simpa using c
 cases e;have F:m=j9:=by rw[u];rfl
 have w:∀i,∃s:Int,i<J->W.cell? (a.add i)=some (.int .i64 s)/\(-9223372036854775808<=s/\s<=9223372036854775807):=by
  intro i;by_cases b:i<J
  .let⟨z,g,d⟩:=v i Z;rw[auT]at g;let⟨_,G,q⟩:=World.cells?_some g;let⟨s,f,_,p⟩:=DataW.trod_int Â d;subst f;have o:=q 0 ft;have I:(a.add i).add 0=a.add i:=rfl;have y:-9223372036854775808<=s/\s<=9223372036854775807:=by
    simp[Lit.wf,Ò,Ó,Å,È]at p;omega
   exact⟨s,λ_=>⟨by grind,y⟩⟩
  .exact⟨0,λq=>absurd q b⟩
 let⟨f,q⟩:=Classical.axiomOfChoice w;refine⟨Z,f,λj l=> ?_⟩;let⟨g,d⟩:=q j l;let⟨o,_⟩:=q 0 Z;let⟨G,y⟩:=as8 o;let⟨b,p,sp⟩:=a;have z:sp=none:=by have:((⟨b,p,sp⟩:Addr).add 0).spot=sp:=rfl;grind
 subst z;rw[as7]at g;exact⟨d,b,p,U,y,g⟩
def auV(os:Os)(J:os.Started)(H:Type)(enc:TypeId×Value->H): ReturnsInLeavingWide {} É os 4 .any (λw e=>(Rows.summedSpec.pre enc À Æ [] Ê w e/\laidMetH À Ni w)/\sizedMet enc À Æ (OpenSpec.ofChange Rows.summedSpec) Ê w e) (Rows.summedSpec.post enc À Æ Ê Ï Ê Ê):=by apply returnsInLeavingWide_of_good (C:=É) fx J (ChangeSpec.witness_shaped (enc:=enc) (C:=É) (os:=os) (X:=λw _=>laidMetH À Ni w) Ê (World.doorLaid À 400 os) #[Á none 0 0,.int .i64 0] 8 U (World.shaped_of_RefB fv fv) fv fv fv<|atu os _);intro w g i _ r _ K L _;let⟨_,_,_,N,O,_,_,_,_,j⟩:=K;obtain rfl:N=Æ:=Ä<|O.symm.trans Ì;let⟨⟨_,s⟩,_,P,gs,before,t,kh⟩:=L;have u:=DataW.Whole.of_heap (w':=w.forCall g i) gh t;have Q:na (w.forCall g i):=ato r<|laidMetH.of_heap (w:=(w.forCall g i).memory) U s;generalize w.forCall g i=W at*;generalize i.args=e at*;clear t s r;have k:=u;obtain⟨p,q,S,T,rfl,_,_⟩:=u;have y:DataW.TrodAll enc À W 0 (λ_=>Ï) Ï Æ.params.toList e.toList P p:=S;rw[Ð]at y j;obtain⟨V,Y,z,d1,d,p1,rfl,rfl,rfl,B,h1⟩:=trodAll_two y;obtain⟨rfl,rfl⟩:=trodVars_none T;obtain⟨D,E,l,rfl⟩:=okWide_slice Ç<|j 0 30 V U U;obtain⟨kk,rfl,rfl,rfl,m⟩:=open_int Â (j 1 3 Y U U) h1;simp only[List.append_nil]at k;let⟨fuel,hf⟩:=id B;let⟨hN,f,n⟩:=auU hf;let⟨M,last,o,a,t',r1,r2,r3,r4⟩:=auS (c:=l) Q n hN kk (by simp[Lit.wf,Ò,Å,È]at m;omega) (by simp[Lit.wf,Ó,Å,È]at m;omega);refine⟨M,last,.done o,a,t',r1,r2,r3,r4.mono λv hF=> ?_⟩;obtain⟨⟨rfl,hk⟩,F,G⟩:=hF;have I:=atr hk F G;have gP:∀x∈d,x.block<W.heap.size:=λx n=>k.lt x (by simp[n]);have ha:DataW.Trod enc À {a with tape:=W.tape} 0 (λb=>decide<|b<W.heap.size) Ï 30 (Á D E l) z d:=Below.trod atq fv (of_decide_eq_true fv) B I gP;have ha':DataW.Trod enc À a 0 (λb=>decide<|b<W.heap.size) Ï 30 (Á D E l) z d:=DataW.Trod.of_heap (w:={a with tape:=W.tape}) (w':=a) U ha;refine ChangeSpec.post_blind ⟨_,_,_,[],_,[],k,trodAll_mk1<|shut_bool Tryz.underlying4 _,trodAll_mk2 ha'<|shut_int Â m,U,⟨F,G,(Below.frame (w':={a with tape:=W.tape}) I λp=>p∈d/\(p∈[]\/p∈d++[]\/p∈[])).2.2⟩,λh=>by cases h⟩
def auW:Rows.SummedSaid:= OpenClaim.holds_of_wide_leaving 4 Æ U U U U U U U ⟨U,U,U,U,U⟩ U U U U U fv Ì fv (of_decide_eq_true fv) (by unfold Func.isWrapper;first|(rw[if_pos (by decide+kernel)];kernel_rfl)|(rw[if_neg (by decide+kernel)];exact⟨U,U⟩)) λa b H c _=>auV a b H c
end Go.Proofs.Y.jF
namespace Go.Proofs.YtgpphkdoanciiabGreatDoor
open Go
def summedCard_holds:Rows.SummedCardSaid:=by
 have a:Claim7.isSixth {stood:={row:=Rows.summedRow,standIns:=[],harness:=(Ï, "7cc1126754d9098b0a4d2949b2dfa9b113db4512289ea3e736df06048d434a57"),looks:=Ê},kinds:=[]}=Ê:=by simp[Claim7.isSixth]
 have b:=Claim7.tied_new_at .later [.data,.data,.data,.data] Ï (Claim7.new_of_sixth Y.jF.auW (Ï, "7cc1126754d9098b0a4d2949b2dfa9b113db4512289ea3e736df06048d434a57") Ê U ⟨U,U⟩ fv a (λf D c d=>by
   obtain rfl:f=4:=Ä ((show À.funcNamed "attic/attickeep.Summed"=some 4 by kernel_rfl).symm.trans c)|>.symm;obtain rfl:D=Æ:=(Ä<|Ì.symm.trans d).symm;exact⟨fv,λj t h=>by
    rw[Ð]at h;have e:t∈[30,3]:=by simpa using Array.mem_of_getElem? h
    have g:([30,3].all λu=> !Tryz.prog.wantsStandIn u)=Ï:=fv
    exact(show À.wantsStandIn t=Ê by simpa using List.all_eq_true.1 g t e)⟩)) fv
 exact⟨b,(λD h=>by cases h),summed_row_tie,(λh=>by cases h),fv⟩
end Go.Proofs.YtgpphkdoanciiabGreatDoor
