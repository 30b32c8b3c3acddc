/- P4, P5: the books are kept as the document says: the program answers every batch without a call as package atticref does. -/
import Derived.Test.YtgpphkdoanciiaaGreatDoorWAF
import Derived.SizedLaws
import Derived.Test.YtgpphkdoanciiaaGreatDoorCards
import Derived.Test.YtgpphkdoanciiaaGreatDoorTie
import Derived.SevenTiedAt
set_option linter.all false
set_option maxRecDepth 1000000
set_option maxHeartbeats 8000000
open Go.Proofs.Tryz renaming prog->À,underlying22->Á,underlying3->Ã,f3->Ê,checked->Í,func3->Ò,params3->Ö
open List renaming all_eq_true->Â,range->Ì,take->Ð,drop->Ñ
open Go.DataW renaming trod->Ä,trod_int->È
open Option.some renaming inj->Å
open Bool renaming true->Æ,false->Î
open Go.Value renaming slice->Ç
open Nat renaming add_assoc->Ë
variable{i n j b k m J j9 j7 j6:Nat}{w u W jX:Go.World}{O:Option Go.Addr}
namespace Go.Proofs.Y.iV
open Go Go.Conc Go.Proofs Go.RowKit Go.Proofs.Y.Lift Go.Proofs.Y.gu Go.Proofs.Y.fA Go.Proofs.Y.lB
open Go.Proofs.YtgpphkdoanciiaaGreatDoor (Rows.booksSpec Rows.booksRow Rows.BooksSaid Tryz.pinned)
open Go.ChangeShapes Go.WideShapes Go.ChangeAt
def Oi:À.cellsOf 57=4/\À.cellsOf 3=1/\À.cellsOf 9=1/\À.bytesOf 57=40:=⟨fx,fx,fx,fx⟩
open Go.Deep in
theorem atW{H:Type}{enc:TypeId×Value->H}{d:DataW H}{p:List MemPlace}{N:List TypeId}{P:List (DataW H)} (h:Ä enc À W 0 (λ_=>Æ) Æ J 22 [Ç O j9 j7]=some (d,p)) (x:(DataW.weightsEach À (22::N)<|d::P).all (· <=reachBytes)=Æ):j9<2^42/\∃g,zH (NH W) O j9 g:=by
 rcases open_slice Á h with⟨u,_⟩|⟨a,Q,S,m,n,D,Pl,u,_,hl,hm,T,V,X⟩
 .have e:Ç O j9 j7=Ç none 0 0:=by simpa using u
  cases e;exact⟨A,λ_=>⟨0,0,0,⟨#[]⟩⟩,λj y=>by omega⟩
 have e:Ç O j9 j7=Ç (some a) Q S:=by simpa using u
 cases e;cases V;have hmc:m=j7:=by rw[T];rfl
 have Y:j9<2^42:=by have g:=Â.1 x (((Ì j9).map D).length+((Ì<|m-j9).map λj=>D<|j9+j).length)|>λ_=>Â.1 x ((((Ì j9).map D).length+((Ì<|m-j9).map λj=>D<|j9+j).length)*À.bytesOf 57) (DataW.weights_mem_each (j:=0) U U _<|by unfold DataW.weights;rw[Á];exact List.mem_cons_self ..);have g:=of_decide_eq_true g;rw[Oi.2.2.2]at g;simp only[List.length_map,List.length_range]at g;unfold reachBytes at g;omega
 have each:∀i,∃o:DY,i<j9->o.Ok/\W.cell? (a.add<|i*4)=some (.int .i64 o.k)/\W.cell? (a.add<|i*4+1)=some (.int .i64 o.n)/\W.cell? (a.add<|i*4+2)=some (.int .i64 o.w)/\W.cell? (a.add<|i*4+3)=some (.string o.s):=by
  intro i;by_cases hi:i<j9
  .let⟨ku,l,r⟩:=X i Z;rw[Oi.1]at l;let⟨_,hlen,b⟩:=World.cells?_some l;let⟨xs,k,_,_,_,hxl,c⟩:=DataW.trod_struct Tryz.underlying57 r;match xs,hxl,ku,hlen with
   |[y0,y1,y2,y3],_,[v0,v1,v2,v3],_=>
    have q:Ä enc À W 0 (λ_=>Æ) Æ k 3 (Ð (À.cellsOf 3)<|Ñ 0 [v0,v1,v2,v3])=some y0:=c 0 _ U;have v:Ä enc À W 0 (λ_=>Æ) Æ k 3 (Ð (À.cellsOf 3)<|Ñ 1 [v0,v1,v2,v3])=some y1:=c 1 _ U;have z:Ä enc À W 0 (λ_=>Æ) Æ k 3 (Ð (À.cellsOf 3)<|Ñ 2 [v0,v1,v2,v3])=some y2:=c 2 _ U;have B:Ä enc À W 0 (λ_=>Æ) Æ k 9 (Ð (À.cellsOf 9)<|Ñ 3 [v0,v1,v2,v3])=some y3:=c 3 _ U;rw[Oi.2.1]at q v z;rw[Oi.2.2.1]at B;let⟨kd,C,_,_⟩:=È Ã q;let⟨nn,E,_,_⟩:=È Ã v;let⟨f,F,_,g⟩:=È Ã z;let⟨s,G,_,hs⟩:=DataW.trod_string Tryz.underlying9 B;have t:=b 0 Z;have I:=b 1 Z;have K:=b 2 Z;have L:=b 3 Z;rw[add_add]at t I K L;simp at C E F G;subst C E F G;have M:-9223372036854775808<=f/\f<=9223372036854775807:=by simp[Lit.wf,IntKind.min,IntKind.max,IntKind.signed,IntKind.bits]at g;omega
    exact⟨⟨kd,nn,f,s⟩,λ_=>⟨⟨M.1,M.2,hs⟩,by simpa using t,by simpa using I,by simpa using K,by simpa using L⟩⟩
  .exact⟨⟨0,0,0,⟨#[]⟩⟩,λq=>absurd q hi⟩
 let⟨f,c⟩:=Classical.axiomOfChoice each;refine⟨Y,f,λj y=> ?_⟩;let⟨l,r,q,z,B⟩:=c j y;let⟨_,t,_⟩:=c 0 Z;let⟨G,E⟩:=arb t;let⟨b,C,sp⟩:=a;have F:sp=none:=by have:((⟨b,C,sp⟩:Addr).add<|0*4).spot=sp:=rfl;grind
 subst F;rw[ara]at r q z B;refine⟨l,b,C,U,E,λi v g=> ?_⟩;match i,g with
 |0,g=>cases g;exact r
 |1,g=>cases g;rwa[Ë]
 |2,g=>cases g;rwa[Ë]
 |3,g=>cases g;rwa[Ë]
def atX(os:Os)(D:os.Started)(H:Type)(enc:TypeId×Value->H): ReturnsInLeavingWide {} Í os 3 .any (λw d=>(Rows.booksSpec.pre enc À Ê [] Î w d/\laidMetH À NI w)/\sizedMet enc À Ê (OpenSpec.ofChange Rows.booksSpec) Î w d) (Rows.booksSpec.post enc À Ê Î Æ Î Î):=by apply returnsInLeavingWide_of_good (C:=Í) fg D (ChangeSpec.witness_shaped (enc:=enc) (C:=Í) (os:=os) (X:=λw _=>laidMetH À NI w) Î (World.doorLaid À 400 os) #[Ç none 0 0] 8 U (World.shaped_of_RefB fx fx) fx fx fx<|arB os _);intro w e i _ k _ E F _;let⟨_,_,_,G,I,_,_,_,_,l⟩:=E;obtain rfl:G=Ê:=Å<|I.symm.trans Ò;let⟨⟨_,m⟩,_,J,gs,before,n,K⟩:=F;have r:=DataW.Whole.of_heap (w':=w.forCall e i) fL n;have L:mS (w.forCall e i):=arw k<|laidMetH.of_heap (w:=(w.forCall e i).memory) U m;generalize w.forCall e i=W at*;generalize i.args=d at*;clear n m k;have g:=r;obtain⟨p,q,N,O,rfl,_,_⟩:=r;have s:DataW.TrodAll enc À W 0 (λ_=>Æ) Æ Ê.params.toList d.toList J p:=N;rw[Ö]at s l;obtain⟨P,Q,rfl,rfl,t⟩:=trodAll_one s;obtain⟨rfl,rfl⟩:=trodVars_none O;obtain⟨S,T,u,rfl⟩:=okWide_slice Á<|l 0 22 P U U;simp only[List.append_nil]at g;let⟨fuel,V⟩:=id t;let⟨Y,f,j⟩:=atW V K;let⟨M,last,o,a,t',r1,r2,r3,r4⟩:=atV (c:=u) L j Y;refine⟨M,last,.done o,a,t',r1,r2,r3,r4.mono λv hF=> ?_⟩;obtain⟨⟨rfl,hk⟩,y,z⟩:=hF;have B:=arA hk y z;have ha:DataW.Trod enc À {a with tape:=W.tape} 0 (λb=>decide<|b<W.heap.size) Æ 22 (Ç S T u) Q p:=Below.trod arz fx (of_decide_eq_true fx) t B (λx j=>g.lt x<|by simp[j]);refine ChangeSpec.post_blind ⟨_,_,_,[],_,[],g,trodAll_mk1<|shut_bool Tryz.underlying4 _,trodAll_mk1<|DataW.Trod.of_heap (w:={a with tape:=W.tape}) (w':=a) U ha,U,⟨y,z,(Below.frame (w':={a with tape:=W.tape}) B λx=>x∈p/\(x∈[]\/x∈p\/x∈[])).2.2⟩,λh=>by cases h⟩
def atY:Rows.BooksSaid:= OpenClaim.holds_of_wide_leaving 3 Ê U U U U U U U ⟨U,U,U,U,U⟩ U U U U U fx Ò fx (of_decide_eq_true fx) (by unfold Func.isWrapper;first|(rw[if_pos (by decide+kernel)];kernel_rfl)|(rw[if_neg (by decide+kernel)];exact⟨U,U⟩)) λa b H c _=>atX a b H c
end Go.Proofs.Y.iV
namespace Go.Proofs.YtgpphkdoanciiaaGreatDoor
open Go
def booksCard_holds:Rows.BooksCardSaid:=by
 have a:Claim7.isSixth {stood:={row:=Rows.booksRow,standIns:=[],harness:=(Æ, "06146bd03cd3b68f99b6c94596564444c7bc30fda6fc0fb9eb31355abe92b33f"),looks:=Î},kinds:=[]}=Î:=by simp[Claim7.isSixth]
 have b:=Claim7.tied_new_at .later [.data,.data,.data,.data] Æ (Claim7.new_of_sixth Y.iV.atY (Æ, "06146bd03cd3b68f99b6c94596564444c7bc30fda6fc0fb9eb31355abe92b33f") Î U ⟨U,U⟩ fx a (λf D c d=>by
   obtain rfl:f=3:=Å ((show À.funcNamed "attic/atticlaw.Books"=some 3 by kernel_rfl).symm.trans c)|>.symm;obtain rfl:D=Ê:=(Å<|Ò.symm.trans d).symm;exact⟨fx,λj t h=>by
    rw[Ö]at h;have e:t∈[22]:=by simpa using Array.mem_of_getElem? h
    have g:([22].all λu=> !Tryz.prog.wantsStandIn u)=Æ:=fx
    exact(show À.wantsStandIn t=Î by simpa using Â.1 g t e)⟩)) fx
 exact⟨b,(λD h=>by cases h),books_row_tie,(λh=>by cases h),fx⟩
end Go.Proofs.YtgpphkdoanciiaaGreatDoor
