/- Asks: every batch, every New and Versions, on any number of attics of any number of workers: the program's answers are the document's. -/
import Derived.Test.YtgpphkdoanciiaaGreatDoorWAE
import Derived.SizedLaws
import Derived.Test.YtgpphkdoanciiaaGreatDoorCards
import Derived.Test.YtgpphkdoanciiaaGreatDoorTie
import Derived.SevenTiedAt
set_option linter.all false
set_option maxRecDepth 1000000
set_option maxHeartbeats 8000000
open Go.Proofs.Tryz renaming prog->À,underlying22->Á,underlying3->Â,f4->Ç,checked->Ê,func4->Ï,params4->Ó
open Go.DataW renaming trod->Ã,trod_int->Æ
open Bool renaming true->Ä,false->Ë
open Go.Value renaming slice->Å
open List renaming range->É,take->Í,drop->Î
variable{i n j b k m J j9 j7 j6:Nat}{w u W jX:Go.World}{O:Option Go.Addr}{gX gQ:Type}
namespace Go.Proofs.Y
namespace ju
open Conc RowKit Lift gT fO mK
open Go.Proofs.YtgpphkdoanciiaaGreatDoor (Rows.asksSpec Rows.asksRow Rows.AsksSaid Tryz.pinned)
open ChangeShapes WideShapes ChangeAt
def Om:À.cellsOf 57=4/\À.cellsOf 3=1/\À.cellsOf 9=1/\À.bytesOf 57=40:=⟨fK,fK,fK,fK⟩
open Deep in
theorem auK{enc:TypeId×Value->gX}{d:DataW gX}{p:List MemPlace}{N:List TypeId}{P:List (DataW gX)}(h:Ã enc À W 0 (λ_=>Ä) Ä J 22 [Å O j9 j7]=some (d,p))(x:(DataW.weightsEach À (22::N)<|d::P).all (· <=reachBytes)=Ä):j9<2^42/\∃g,Ae (ND W) O j9 g:=by
 obtain⟨u,_⟩|⟨a,Q,S,m,n,D,Pl,u,_,hl,hm,T,V,X⟩:=open_slice Á h;have e:Å O j9 j7=Å none 0 0:=fN u;cases e;exact⟨A,λ_=>⟨0,0,0,⟨#[]⟩⟩,λj y=>by omega⟩;have e:Å O j9 j7=Å (some a) Q S:=fN u;cases e;cases V;have hmc:m=j7:=by rw[T];rfl
 have Y:j9<2^42:=by have g:=eI.1 x (((É j9).map D).length+((É<|m-j9).map λj=>D<|j9+j).length)|>λ_=>eI.1 x ((((É j9).map D).length+((É<|m-j9).map λj=>D<|j9+j).length)*À.bytesOf 57) (DataW.weights_mem_each (j:=0) U U _<|by rw[DataW.weights,Á];exact eZ ..);have g:=of_decide_eq_true g;rw[Om.2.2.2]at g;simp only[dw,bY]at g;unfold reachBytes at g;omega
 have each:∀i,∃o:Eg,i<j9->o.Ok/\W.cell? (a.add<|i*4)=some (.int .i64 o.k)/\W.cell? (a.add<|i*4+1)=some (.int .i64 o.n)/\W.cell? (a.add<|i*4+2)=some (.int .i64 o.w)/\W.cell? (a.add<|i*4+3)=some (.string o.s):=by
  intro i;by_cases hi:i<j9;let⟨mO,l,r⟩:=X i Z;rw[Om.1]at l;let⟨_,hlen,b⟩:=World.cells?_some l;let⟨xs,k,_,_,_,hxl,c⟩:=DataW.trod_struct Tryz.underlying57 r;match xs,hxl,mO,hlen with
  |[y0,y1,y2,y3],_,[v0,v1,v2,v3],_=>
   have q:Ã enc À W 0 (λ_=>Ä) Ä k 3 (Í (À.cellsOf 3)<|Î 0 [v0,v1,v2,v3])=some y0:=c 0 _ U;have v:Ã enc À W 0 (λ_=>Ä) Ä k 3 (Í (À.cellsOf 3)<|Î 1 [v0,v1,v2,v3])=some y1:=c 1 _ U;have z:Ã enc À W 0 (λ_=>Ä) Ä k 3 (Í (À.cellsOf 3)<|Î 2 [v0,v1,v2,v3])=some y2:=c 2 _ U;have B:Ã enc À W 0 (λ_=>Ä) Ä k 9 (Í (À.cellsOf 9)<|Î 3 [v0,v1,v2,v3])=some y3:=c 3 _ U;rw[Om.2.1]at q v z;rw[Om.2.2.1]at B;let⟨kd,C,_,_⟩:=Æ Â q;let⟨nn,E,_,_⟩:=Æ Â v;let⟨f,F,_,g⟩:=Æ Â z;let⟨s,G,_,hs⟩:=DataW.trod_string Tryz.underlying9 B;have t:=b 0 Z;have I:=b 1 Z;have K:=b 2 Z;have L:=b 3 Z;rw[add_add]at t I K L;simp at C E F G;subst C E F G;have M:-9223372036854775808<=f/\f<=9223372036854775807:=by simp[Lit.wf,IntKind.min,IntKind.max,IntKind.signed,IntKind.bits]at g;omega
   exact⟨⟨kd,nn,f,s⟩,λ_=>⟨⟨M.1,M.2,hs⟩,fN t,fN I,fN K,fN L⟩⟩
  .exact⟨⟨0,0,0,⟨#[]⟩⟩,λq=>absurd q hi⟩
 let⟨f,c⟩:=Classical.axiomOfChoice each;refine⟨Y,f,λj y=> ?_⟩;let⟨l,r,q,z,B⟩:=c j y;let⟨_,t,_⟩:=c 0 Z;let⟨G,E⟩:=arw t;let⟨b,C,sp⟩:=a;have F:sp=none:=by have:((⟨b,C,sp⟩:Addr).add<|0*4).spot=sp:=rfl;grind
 subst F;rw[arv]at r q z B;refine⟨l,b,C,U,E,λi v g=> ?_⟩;match i,g with
 |0,g=>cases g;exact r
 |1,g|2,g|3,g=>cases g;rwa[c8]
def auL(os:Os)(D:os.Started)(H:Type)(enc:TypeId×Value->H): ReturnsInLeavingWide {} Ê os 4 .any (λw d=>(Rows.asksSpec.pre enc À Ç [] Ë w d/\laidMetH À NG w)/\sizedMet enc À Ç (OpenSpec.ofChange Rows.asksSpec) Ë w d) (Rows.asksSpec.post enc À Ç Ë Ä Ë Ë):=by apply returnsInLeavingWide_of_good (C:=Ê) fE D (ChangeSpec.witness_shaped (enc:=enc) (C:=Ê) (os:=os) (X:=λw _=>laidMetH À NG w) Ë (World.doorLaid À 400 os) #[Å none 0 0] 8 U (World.shaped_of_RefB fK fK) fK fK fK<|arQ os _);intro w e i _ k _ E F _;let⟨_,_,_,G,I,_,_,_,_,l⟩:=E;obtain rfl:G=Ç:=dh<|I.symm.trans Ï;let⟨⟨_,m⟩,_,J,gs,before,n,K⟩:=F;have r:=DataW.Whole.of_heap (w':=w.forCall e i) gq n;have L:ox (w.forCall e i):=arM k<|laidMetH.of_heap (w:=(w.forCall e i).memory) U m;generalize w.forCall e i=W at*;generalize i.args=d at*;clear n m k;have g:=r;obtain⟨p,q,N,O,rfl,_,_⟩:=r;have s:DataW.TrodAll enc À W 0 (λ_=>Ä) Ä Ç.params.toList d.toList J p:=N;rw[Ó]at s l;obtain⟨P,Q,rfl,rfl,t⟩:=trodAll_one s;obtain⟨rfl,rfl⟩:=trodVars_none O;obtain⟨S,T,u,rfl⟩:=okWide_slice Á<|l 0 22 P U U;simp only[ep]at g;let⟨fuel,V⟩:=id t;let⟨Y,f,j⟩:=auK V K;let⟨M,last,o,a,t',r1,r2,r3,r4⟩:=auJ (c:=u) L j Y;refine⟨M,last,.done o,a,t',r1,r2,r3,r4.mono λv hF=> ?_⟩;obtain⟨⟨rfl,hk⟩,y,z⟩:=hF;have B:=arP hk y z;have ha:DataW.Trod enc À {a with tape:=W.tape} 0 (λb=>decide<|b<W.heap.size) Ä 22 (Å S T u) Q p:=Below.trod arO fK (of_decide_eq_true fK) t B (λx j=>g.lt x<|by simp[j]);refine ChangeSpec.post_blind ⟨_,_,_,[],_,[],g,trodAll_mk1<|shut_bool Tryz.underlying4 _,trodAll_mk1<|DataW.Trod.of_heap (w:={a with tape:=W.tape}) (w':=a) U ha,U,⟨y,z,(Below.frame (w':={a with tape:=W.tape}) B λx=>x∈p/\(x∈[]\/x∈p\/x∈[])).2.2⟩,λh=>by cases h⟩
def auM:Rows.AsksSaid:=OpenClaim.holds_of_wide_leaving 4 Ç U U U U U U U ⟨U,U,U,U,U⟩ U U U U U fK Ï fK (of_decide_eq_true fK) (by unfold Func.isWrapper;first|(rw[if_pos (by decide+kernel)];kernel_rfl)|(rw[if_neg (by decide+kernel)];exact⟨U,U⟩)) λa b H c _=>auL a b H c
end ju
end Go.Proofs.Y
namespace Go.Proofs.YtgpphkdoanciiaaGreatDoor
open Go
def asksCard_holds:Rows.AsksCardSaid:=by
 have a:Claim7.isSixth {stood:={row:=Rows.asksRow,standIns:=[],harness:=(Ä, "06146bd03cd3b68f99b6c94596564444c7bc30fda6fc0fb9eb31355abe92b33f"),looks:=Ë},kinds:=[]}=Ë:=by simp[Claim7.isSixth]
 have b:=Claim7.tied_new_at .later [.data,.data,.data,.data] Ä (Claim7.new_of_sixth Y.ju.auM (Ä, "06146bd03cd3b68f99b6c94596564444c7bc30fda6fc0fb9eb31355abe92b33f") Ë U ⟨U,U⟩ fK a (λf D c d=>by
   obtain rfl:f=4:=dh ((show À.funcNamed "attic/atticlaw.Asks"=some 4 by kernel_rfl).symm.trans c)|>.symm;obtain rfl:D=Ç:=(dh<|Ï.symm.trans d).symm;exact⟨fK,λj t h=>by
    rw[Ó]at h;have e:t∈[22]:=by simpa using fg h
    have g:([22].all λu=> !Tryz.prog.wantsStandIn u)=Ä:=fK;exact(show À.wantsStandIn t=Ë by simpa using eI.1 g t e)⟩)) fK
 exact⟨b,(λD h=>by cases h),asks_row_tie,(λh=>by cases h),fK⟩
end Go.Proofs.YtgpphkdoanciiaaGreatDoor
