/- All: every batch, every Check, New and Versions, on any number of attics of any number of workers: the program's answers are the document's. -/
import Derived.Test.YtgpphkdoanciiabGreatDoorWAE
import Derived.SizedLaws
import Derived.Test.YtgpphkdoanciiabGreatDoorCards
import Derived.Test.YtgpphkdoanciiabGreatDoorTie
import Derived.SevenTiedAt
set_option linter.all false
set_option maxRecDepth 1000000
set_option maxHeartbeats 8000000
open Go.Proofs.Tryz renaming prog->À,underlying32->Â,underlying3->Ä,func5->Æ,f5->È,checked->Ê,params5->Ô
open Go.Value renaming slice->Á
open Bool renaming true->Ã,false->Ì
open Go.DataW renaming trod->Å,trod_int->Ç
open List renaming range->É,take->Î,drop->Ï
variable{i n j b k m J j9 j7 j6:Nat}{w u W jX:Go.World}{h c:Int}{y:Go.Act}{O:Option Go.Addr}{yQ:Bool}{L:List Go.Item}{jJ:List Nat}{qX:List Go.Frame}{vQ:Go.Value->Go.World->Prop}{Q:Array Go.Oper}{f:Go.Frame}{gX gQ:Type}
namespace Go.Proofs.Y
namespace jg
open Conc RowKit Lift gO fO me
open YtgpphkdoanciiabGreatDoor
open ChangeShapes WideShapes ChangeAt
def Oq:À.cellsOf 45=4/\À.cellsOf 3=1/\À.cellsOf 9=1/\À.bytesOf 45=40:=⟨fK,fK,fK,fK⟩
open Deep in
theorem auK{enc:TypeId×Value->gX}{d:DataW gX}{p:List MemPlace}{N:List TypeId}{P:List (DataW gX)}(h:Å enc À W 0 (λ_=>Ã) Ã J 32 [Á O j9 j7]=some (d,p))(x:(DataW.weightsEach À (32::N)<|d::P).all (· <=reachBytes)=Ã):j9<2^42/\∃g,Ag (NI W) O j9 g:=by
 obtain⟨u,_⟩|⟨a,Q,S,m,n,D,Pl,u,_,hl,hm,T,V,X⟩:=open_slice Â h;have e:Á O j9 j7=Á none 0 0:=fN u;cases e;exact⟨A,λ_=>⟨0,0,0,⟨#[]⟩⟩,λj y=>by omega⟩;have e:Á O j9 j7=Á (some a) Q S:=fN u;cases e;cases V;have hmc:m=j7:=by rw[T];rfl
 have Y:j9<2^42:=by have g:=eI.1 x (((É j9).map D).length+((É<|m-j9).map λj=>D<|j9+j).length)|>λ_=>eI.1 x ((((É j9).map D).length+((É<|m-j9).map λj=>D<|j9+j).length)*À.bytesOf 45) (DataW.weights_mem_each (j:=0) U U _<|by rw[DataW.weights,Â];exact eZ ..);have g:=of_decide_eq_true g;rw[Oq.2.2.2]at g;simp only[dw,bY]at g;unfold reachBytes at g;omega
 have each:∀i,∃o:B6,i<j9->o.Ok/\W.cell? (a.add<|i*4)=some (.int .i64 o.k)/\W.cell? (a.add<|i*4+1)=some (.int .i64 o.n)/\W.cell? (a.add<|i*4+2)=some (.int .i64 o.w)/\W.cell? (a.add<|i*4+3)=some (.string o.s):=by
  intro i;by_cases hi:i<j9;let⟨mO,l,r⟩:=X i Z;rw[Oq.1]at l;let⟨_,hlen,b⟩:=World.cells?_some l;let⟨xs,k,_,_,_,hxl,c⟩:=DataW.trod_struct Tryz.underlying45 r;match xs,hxl,mO,hlen with
  |[y0,y1,y2,y3],_,[v0,v1,v2,v3],_=>
   have q:Å enc À W 0 (λ_=>Ã) Ã k 3 (Î (À.cellsOf 3)<|Ï 0 [v0,v1,v2,v3])=some y0:=c 0 _ U;have v:Å enc À W 0 (λ_=>Ã) Ã k 3 (Î (À.cellsOf 3)<|Ï 1 [v0,v1,v2,v3])=some y1:=c 1 _ U;have z:Å enc À W 0 (λ_=>Ã) Ã k 3 (Î (À.cellsOf 3)<|Ï 2 [v0,v1,v2,v3])=some y2:=c 2 _ U;have B:Å enc À W 0 (λ_=>Ã) Ã k 9 (Î (À.cellsOf 9)<|Ï 3 [v0,v1,v2,v3])=some y3:=c 3 _ U;rw[Oq.2.1]at q v z;rw[Oq.2.2.1]at B;let⟨kd,C,_,_⟩:=Ç Ä q;let⟨nn,E,_,_⟩:=Ç Ä v;let⟨f,F,_,g⟩:=Ç Ä z;let⟨s,G,_,hs⟩:=DataW.trod_string Tryz.underlying9 B;have t:=b 0 Z;have I:=b 1 Z;have K:=b 2 Z;have L:=b 3 Z;rw[add_add]at t I K L;simp at C E F G;subst C E F G;have M:-9223372036854775808<=f/\f<=9223372036854775807:=by simp[Lit.wf,IntKind.min,IntKind.max,IntKind.signed,IntKind.bits]at g;omega
   exact⟨⟨kd,nn,f,s⟩,λ_=>⟨⟨M.1,M.2,hs⟩,fN t,fN I,fN K,fN L⟩⟩
  .exact⟨⟨0,0,0,⟨#[]⟩⟩,λq=>absurd q hi⟩
 let⟨f,c⟩:=Classical.axiomOfChoice each;refine⟨Y,f,λj y=> ?_⟩;let⟨l,r,q,z,B⟩:=c j y;let⟨_,t,_⟩:=c 0 Z;let⟨G,E⟩:=arw t;let⟨b,C,sp⟩:=a;have F:sp=none:=by have:((⟨b,C,sp⟩:Addr).add<|0*4).spot=sp:=rfl;grind
 subst F;rw[arv]at r q z B;refine⟨l,b,C,U,E,λi v g=> ?_⟩;match i,g with
 |0,g=>cases g;exact r
 |1,g|2,g|3,g=>cases g;rwa[c8]
open Conc.Lib ConcR.Gen
section
variable{l a:fx}{d:Frame}{c:Nat}{f:Nat->B6}{e:Int}
def auL(d:iw l)(j:oy l.w)(k:∀b,b=1\/b=2\/b=3\/b=4->l.O b)(p:Ag l O n f)(r:n<2^42)(s:∀e,iw e->(∀b,l.O b->e.O b/\e.w.heap[b]?=l.w.heap[b]?)->vQ (.bool Ã) e.w): jB vQ l (G (Frame.enter À 5 #[Á O n c] .normal) []):=by
 have hF:True:=trivial;rw[D5 [_] 4 Æ];simp only[List.replicate,ck,ec];conv in mr _ _=>whnf
 apply vn;refine kH d.r.r ?_;refine .fS λv g=>⟨d.C g,U,?_⟩;refine VG Tryz.func11 (d.C g) λu a=> ?_;have h:gd l l.w u:=g.fA ⟨a.r,a.I,a.N,a.Y,a.S⟩;refine auJ ((d.C g).C a) (j.r (Nat.le_trans j.fM h.r) λb q=>h.I b<|Or.inl<|k b q) k (p.r λb q=>⟨q,h.I b<|Or.inl q⟩) r λx m i=> ?_;walk_nrm;apply aqN;apply gY m.r.r;repeat w_nl fW
 apply gZ;exact .fS λy o=>⟨U,.bool Ã,λw=>arq (t:=2) U U Æ U fK,s _ (m.C o) λb q=>⟨(i b q).1,(o.I b<|Or.inl (i b q).1).trans<|(i b q).2.trans<|h.I b<|Or.inl q⟩⟩
end
def auM(a:oy W){N c:Nat}{f:Nat->B6}(d:Ag (NI W) O N f)(e:N<2^42): uh (λv w'=>v=.bool Ã/\pH W w') #[G (Frame.enter À 5 #[Á O N c] .normal) []] W none #[]:=ars (l:=NI W) (auL (abO W) a (aru a) d e λh g v=>⟨U,λb q=>(v b q).2,(by obtain z|z:=dV W.heap.size;rw[z];exact eD _;have:=g.r.fM _ (Or.inl (v (W.heap.size-1)<|show W.heap.size-1<W.heap.size by omega).1);omega)⟩) (abO W) U
open Go.Proofs.YtgpphkdoanciiabGreatDoor (Rows.allSpec Rows.allRow Rows.AllSaid Tryz.pinned)
def auN(os:Os)(D:os.Started)(H:Type)(enc:TypeId×Value->H): ReturnsInLeavingWide {} Ê os 5 .any (λw d=>(Rows.allSpec.pre enc À È [] Ì w d/\laidMetH À NJ w)/\sizedMet enc À È (OpenSpec.ofChange Rows.allSpec) Ì w d) (Rows.allSpec.post enc À È Ì Ã Ì Ì):=by apply returnsInLeavingWide_of_good (C:=Ê) fE D (ChangeSpec.witness_shaped (enc:=enc) (C:=Ê) (os:=os) (X:=λw _=>laidMetH À NJ w) Ì (World.doorLaid À 400 os) #[Á none 0 0] 8 U (World.shaped_of_RefB fK fK) fK fK fK<|arQ os _);intro w e i _ k _ E F _;let⟨_,_,_,G,I,_,_,_,_,l⟩:=E;obtain rfl:G=È:=dh<|I.symm.trans Æ;let⟨⟨_,m⟩,_,J,gs,before,n,K⟩:=F;have r:=DataW.Whole.of_heap (w':=w.forCall e i) gq n;have L:oy (w.forCall e i):=arM k<|laidMetH.of_heap (w:=(w.forCall e i).memory) U m;generalize w.forCall e i=W at*;generalize i.args=d at*;clear n m k;have g:=r;obtain⟨p,q,N,O,rfl,_,_⟩:=r;have s:DataW.TrodAll enc À W 0 (λ_=>Ã) Ã È.params.toList d.toList J p:=N;rw[Ô]at s l;obtain⟨P,Q,rfl,rfl,t⟩:=trodAll_one s;obtain⟨rfl,rfl⟩:=trodVars_none O;obtain⟨S,T,u,rfl⟩:=okWide_slice Â<|l 0 32 P U U;simp only[ep]at g;let⟨fuel,V⟩:=id t;let⟨Y,f,j⟩:=auK V K;let⟨M,last,o,a,t',r1,r2,r3,r4⟩:=auM (c:=u) L j Y;refine⟨M,last,.done o,a,t',r1,r2,r3,r4.mono λv hF=> ?_⟩;obtain⟨⟨rfl,hk⟩,y,z⟩:=hF;have B:=arP hk y z;have ha:DataW.Trod enc À {a with tape:=W.tape} 0 (λb=>decide<|b<W.heap.size) Ã 32 (Á S T u) Q p:=Below.trod arO fK (of_decide_eq_true fK) t B (λx j=>g.lt x<|by simp[j]);refine ChangeSpec.post_blind ⟨_,_,_,[],_,[],g,trodAll_mk1<|shut_bool Tryz.underlying4 _,trodAll_mk1<|DataW.Trod.of_heap (w:={a with tape:=W.tape}) (w':=a) U ha,U,⟨y,z,(Below.frame (w':={a with tape:=W.tape}) B λx=>x∈p/\(x∈[]\/x∈p\/x∈[])).2.2⟩,λh=>by cases h⟩
def auO:Rows.AllSaid:=OpenClaim.holds_of_wide_leaving 5 È U U U U U U U ⟨U,U,U,U,U⟩ U U U U U fK Æ fK (of_decide_eq_true fK) (by unfold Func.isWrapper;first|(rw[if_pos (by decide+kernel)];kernel_rfl)|(rw[if_neg (by decide+kernel)];exact⟨U,U⟩)) λa b H c _=>auN a b H c
end jg
end Go.Proofs.Y
namespace Go.Proofs.YtgpphkdoanciiabGreatDoor
open Go
def allCard_holds:Rows.AllCardSaid:=by
 have a:Claim7.isSixth {stood:={row:=Rows.allRow,standIns:=[],harness:=(Ã, "7cc1126754d9098b0a4d2949b2dfa9b113db4512289ea3e736df06048d434a57"),looks:=Ì},kinds:=[]}=Ì:=by simp[Claim7.isSixth]
 have b:=Claim7.tied_new_at .later [.data,.data,.data,.data] Ã (Claim7.new_of_sixth Y.jg.auO (Ã, "7cc1126754d9098b0a4d2949b2dfa9b113db4512289ea3e736df06048d434a57") Ì U ⟨U,U⟩ fK a (λf D c d=>by
   obtain rfl:f=5:=dh ((show À.funcNamed "attic/atticlaw.All"=some 5 by kernel_rfl).symm.trans c)|>.symm;obtain rfl:D=È:=(dh<|Æ.symm.trans d).symm;exact⟨fK,λj t h=>by
    rw[Ô]at h;have e:t∈[32]:=by simpa using fg h
    have g:([32].all λu=> !Tryz.prog.wantsStandIn u)=Ã:=fK;exact(show À.wantsStandIn t=Ì by simpa using eI.1 g t e)⟩)) fK
 exact⟨b,(λD h=>by cases h),all_row_tie,(λh=>by cases h),fK⟩
end Go.Proofs.YtgpphkdoanciiabGreatDoor
