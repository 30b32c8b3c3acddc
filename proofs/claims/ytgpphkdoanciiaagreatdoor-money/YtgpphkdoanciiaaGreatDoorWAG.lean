/- attickeep.Money answers true, whatever the blocks, the workers, the schedule: what all accounts have in the head is 8000 and 50 for each block made; a block is made with the next number, or refused. Conditions: the given row's. -/
import Derived.Test.YtgpphkdoanciiaaGreatDoorWAF
import Derived.SizedLaws
import Derived.Test.YtgpphkdoanciiaaGreatDoorCards
import Derived.Test.YtgpphkdoanciiaaGreatDoorTie
import Derived.SevenTiedAt
set_option linter.all false
set_option maxRecDepth 1000000
set_option maxHeartbeats 8000000
open Go.Proofs.Tryz renaming prog->À,underlying25->Á,f5->Å,checked->Æ,underlying3->Ë,func5->Í,params5->Ò
open Option.some renaming inj->Â
open List renaming mem_append_left->Ã,all_eq_true->Ê
open Bool renaming false->Ç,true->Ì
open Go.DataW renaming weightsAll->É,weights->Ñ,Trod->Ù
open Go.IntKind renaming signed->Î,bits->Ó,min->ß,max->à
variable{i n j b k m J j9 j7 j6:Nat}{w u W jX:Go.World}{e t T:Go.TypeId}{P:Go.Program}{O:Option Go.Addr}
namespace Go.Proofs.Y.kS
open Go Go.Conc Go.Proofs Go.RowKit Go.Proofs.Y.Lift Go.Proofs.Y.gP Go.Proofs.Y.fv Go.Proofs.Y.om
open Go.Proofs.YtgpphkdoanciiaaGreatDoor (Rows.moneySpec Rows.moneyRow Rows.MoneySaid Tryz.pinned)
open Go.ChangeShapes Go.WideShapes Go.ChangeAt
def acD{H:Type}{d:DataW H}(a:n∈d.weights P e):∀l:List (DataW H),d∈l->n∈É P e l
 |x::r,h=>by
  unfold É;rcases List.mem_cons.1 h with rfl|q
  .exact Ã _ a
  .exact List.mem_append_right _<|acD a r q
def atT{H:Type}{enc:TypeId×Value->H}{d:DataW H}{p:List MemPlace}{r:List TypeId}{t:List (DataW H)}{f:Nat->ByteArray} (h:DataW.trod enc À W 0 (λ_=>Ì) Ì i 25 [.slice O b k]=some (d,p)) (u:(DataW.weightsEach À (25::r)<|d::t).all (· <=reachBytes)=Ì) (v:xT (Iy W) O b f) (j:Nat) (g:j<b):(f j).size<=reachBytes:=by
 obtain⟨_,I,J,rfl,_,w⟩:=v j g;rcases Deep.open_slice Á h with⟨c,_⟩|⟨a,K,L,m,n,D,M,c,_,N,P,x,e,y⟩
 .cases c
 .cases c;cases e;have Q:m=k:=by rw[x];rfl
  let⟨S,l,z⟩:=y j Z;rw[abW]at l;let⟨_,T,B⟩:=World.cells?_some l;let⟨s,C,E,V⟩:=DataW.trod_string Tryz.underlying9 z;subst C;have o:=B 0 fj;rw[Nat.mul_one,Ur,Ur]at o;have F:f j=s:=by have:=w.symm.trans o;simpa using this
  have q:=Ê.1 u s.data.toList.length (DataW.weights_mem_each (j:=0) U U _ (by
   unfold Ñ;rw[Á];refine List.mem_cons_of_mem _<|Ã _<|acD (d:=D j) ?_ _<|List.mem_map.2 ⟨j,List.mem_range.2 g,U⟩;have G:D j=.lit (.string s.data.toList):=by simpa using congrArg Prod.fst E
   rw[G];unfold Ñ;simp))
  rw[F];rw[Array.length_toList]at q;exact of_decide_eq_true q
def atU(os:Os)(K:os.Started)(H:Type)(enc:TypeId×Value->H): ReturnsInLeavingWide {} Æ os 5 .any (λw e=>(Rows.moneySpec.pre enc À Å [] Ç w e/\laidMetH À ML w)/\sizedMet enc À Å (OpenSpec.ofChange Rows.moneySpec) Ç w e) (Rows.moneySpec.post enc À Å Ç Ì Ç Ç):=by apply returnsInLeavingWide_of_good (C:=Æ) fp K (ChangeSpec.witness_shaped (enc:=enc) (C:=Æ) (os:=os) (X:=λw _=>laidMetH À ML w) Ç (World.doorLaid À 400 os) #[.slice none 0 0,.int .i64 0] 8 U (World.shaped_of_RefB fu fu) fu fu fu<|asQ os _);intro w g i _ s _ L N _;let⟨_,_,_,O,P,_,_,_,_,l⟩:=L;obtain rfl:O=Å:=Â<|P.symm.trans Í;let⟨⟨_,t⟩,_,Q,gs,before,u,S⟩:=N;have y:=DataW.Whole.of_heap (w':=w.forCall g i) fQ u;have T:nz (w.forCall g i):=asM s<|laidMetH.of_heap (w:=(w.forCall g i).memory) U t;generalize w.forCall g i=W at*;generalize i.args=e at*;clear u t s;have m:=y;obtain⟨p,q,V,Y,rfl,_,_⟩:=y;have z:DataW.TrodAll enc À W 0 (λ_=>Ì) Ì Å.params.toList e.toList Q p:=V;rw[Ò]at z l;obtain⟨v0,v1,B,d1,d,p1,rfl,rfl,rfl,D,h1⟩:=trodAll_two z;obtain⟨rfl,rfl⟩:=trodVars_none Y;obtain⟨E,F,n,rfl⟩:=okWide_slice Á<|l 0 25 v0 U U;obtain⟨kk,rfl,rfl,rfl,r⟩:=open_int Ë (l 1 3 v1 U U) h1;simp only[List.append_nil]at m;let⟨fuel,G⟩:=id D;let⟨hN,f,k⟩:=asx G;let⟨M,last,o,a,t',r1,r2,r3,r4⟩:=atS (c:=n) T k (λj b=>Nat.le_trans (atT G S k j b) A) hN kk (by simp[Lit.wf,ß,Î,Ó]at r;omega) (by simp[Lit.wf,à,Î,Ó]at r;omega);refine⟨M,last,.done o,a,t',r1,r2,r3,r4.mono λv hF=> ?_⟩;obtain⟨⟨rfl,hk⟩,j,I⟩:=hF;have J:=asP hk j I;have gN:∀x∈d,x.block<W.heap.size:=λx k=>m.lt x (by simp[k]);have ha:Ù enc À {a with tape:=W.tape} 0 (λb=>decide<|b<W.heap.size) Ì 25 (.slice E F n) B d:=Below.trod asO fu (of_decide_eq_true fu) D J gN;have ha':Ù enc À a 0 (λb=>decide<|b<W.heap.size) Ì 25 (.slice E F n) B d:=DataW.Trod.of_heap (w:={a with tape:=W.tape}) (w':=a) U ha;refine ChangeSpec.post_blind ⟨_,_,_,[],_,[],m,trodAll_mk1<|shut_bool Tryz.underlying4 _,trodAll_mk2 ha'<|shut_int Ë r,U,⟨j,I,(Below.frame (w':={a with tape:=W.tape}) J λp=>p∈d/\(p∈[]\/p∈d++[]\/p∈[])).2.2⟩,λh=>by cases h⟩
def atV:Rows.MoneySaid:= OpenClaim.holds_of_wide_leaving 5 Å U U U U U U U ⟨U,U,U,U,U⟩ U U U U U fu Í fu (of_decide_eq_true fu) (by unfold Func.isWrapper;first|(rw[if_pos (by decide+kernel)];kernel_rfl)|(rw[if_neg (by decide+kernel)];exact⟨U,U⟩)) λa b H c _=>atU a b H c
end Go.Proofs.Y.kS
namespace Go.Proofs.YtgpphkdoanciiaaGreatDoor
open Go
def moneyCard_holds:Rows.MoneyCardSaid:=by
 have a:Claim7.isSixth {stood:={row:=Rows.moneyRow,standIns:=[],harness:=(Ì, "06146bd03cd3b68f99b6c94596564444c7bc30fda6fc0fb9eb31355abe92b33f"),looks:=Ç},kinds:=[]}=Ç:=by simp[Claim7.isSixth]
 have b:=Claim7.tied_new_at .later [.data,.data,.data,.data] Ì (Claim7.new_of_sixth Y.kS.atV (Ì, "06146bd03cd3b68f99b6c94596564444c7bc30fda6fc0fb9eb31355abe92b33f") Ç U ⟨U,U⟩ fu a (λf D c d=>by
   obtain rfl:f=5:=Â ((show À.funcNamed "attic/attickeep.Money"=some 5 by kernel_rfl).symm.trans c)|>.symm;obtain rfl:D=Å:=(Â<|Í.symm.trans d).symm;exact⟨fu,λj t h=>by
    rw[Ò]at h;have e:t∈[25,3]:=by simpa using Array.mem_of_getElem? h
    have g:([25,3].all λu=> !Tryz.prog.wantsStandIn u)=Ì:=fu
    exact(show À.wantsStandIn t=Ç by simpa using Ê.1 g t e)⟩)) fu
 exact⟨b,(λD h=>by cases h),money_row_tie,(λh=>by cases h),fu⟩
end Go.Proofs.YtgpphkdoanciiaaGreatDoor
