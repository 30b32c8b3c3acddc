import Derived.Test.YtgpphkdoanciiaaGreatDoorWAE
import Derived.Lib.LaidTab
import Derived.OpenShut
import Derived.Test.YtgpphkdoanciiaaGreatDoorRows
import Derived.Conc.LeavingOf
import Derived.LaidMore
import Derived.Stop.Joined
import Derived.Carry
import Derived.Test.YtgpphkdoanciiaaGreatDoorCards
import Derived.Test.YtgpphkdoanciiaaGreatDoorTie
import Derived.SevenTiedAt
set_option linter.all false
set_option maxRecDepth 1000000
set_option maxHeartbeats 8000000
open Go.Proofs.Tryz renaming prog->À,underlying3->È,f7->Õ,underlying36->Ø,checked->Ù,underlying5->Ý,func7->á,params7->å
open Go.Proofs.YtgpphkdoanciiaaGreatDoor.Rows renaming laid_math_bits_deBruijn32tab->Á,laid_math_bits_deBruijn64tab->Â,laid_attic_attic_stepRules->Ä,laid_internal_strconv_uint64pow10->Å,workersSpec->Ï
open Option.some renaming inj->Ã,injEq->ð
open Option renaming some->Æ,map_eq_some_iff->Ð,bind_some->Û
open Go.DataW renaming trod->Ç,trod_int->Ò,Trod->ì,agg->þ
open Nat renaming zero_le->É
open Array renaming getElem?_eq_some_iff->Ê
open Bool renaming false->Ë,true->ß
open List renaming getElem?_eq_getElem->Ì,take->Í,drop->Î,getElem?_map->Ö
open Go.Lib renaming tabData->Ñ
open Go renaming laidMetH->Ó,Value->è,DataW->é,TypeId->î,IntKind->ï,World->õ
open Go.World renaming cell?->Ô,doorLaid->à,var?->ë
open Go.IntKind renaming signed->â,bits->æ,i64->ý,min->ÿ,max->Ā
variable{i n j b k m J j9 j7 j6:Nat}{w u W jX:õ}{e t T:î}{d q:Array è}{P:Go.Program}{X:Nat->Prop}{l:List è}{zQ:List Int}{xJ:Nat×Nat}
namespace Go.Proofs.Y.nz
open Go Go.Conc Go.Proofs Go.RowKit Go.Proofs.Y.Lift Go.Proofs.Y.jr Go.Proofs.Y.fK Go.Proofs.Y.xq
open Go.Proofs.YtgpphkdoanciiaaGreatDoor (Rows.laid_math_bits_deBruijn32tab Rows.laid_math_bits_deBruijn64tab Rows.laid_internal_strconv_uint64pow10 Rows.laid_attic_attic_stepRules)
def Sm:List (String×DataW Unit):=[("math/bits.deBruijn32tab",Á),("math/bits.deBruijn64tab",Â),("internal/strconv.uint64pow10",Å),("attic/attic.stepRules",Ä)]
def Sn(h:W.ShapedOpen À)(g:Nat)(t:î)(b:g<À.globals.size)(e:(((begin À (λ_ _=>0) default).world.heap[g]?).bind Obj.row?).map (·.2)=Æ t): ∃a,W.heap[g]?=Æ (.cells a t):=by let⟨⟨z,c⟩,d,f⟩:=Ð.1 e;let⟨a,i,_⟩:=h.1 g z c b d;cases f;exact⟨a,i⟩
def aeQ{n:String}(b:À.globalNamed n=Æ i)(h:W.heap[i]?=Æ (.cells q t xJ))(a:W.var? À n=Æ d):q=d:=by unfold ë at a;rw[b]at a;simp only[Û,h]at a;simpa using a
def Yq{n:String}{N:Nat}{k:ï}{p:List MemPlace} (a:À.globalNamed n=Æ i) (f:(À.globals[i]?).map (·.type)=Æ t) (h:À.underlying t=Æ (.array N e)) (l:À.underlying e=Æ (.int k)) (m:À.cellsOf e=1) (o:À.cellsOf t=N) (r:W.heap[i]?=Æ (.cells d t xJ)) (s:À.globalNamed n=Æ b) (u:(À.globals[b]?).map (·.type)=Æ T) (v:W.var? À n=Æ q) (w:Ç (λ_=>()) À W 0 (λ_=>ß) Ë j T q.toList=Æ (Ñ k zQ,p)):d=(zQ.map λz=>Value.int k z).toArray:=by obtain rfl:=Ã<|a.symm.trans s;obtain rfl:=Ã<|f.symm.trans u;rw[aeQ a r v,<-Lib.cells_of_tab h l m o w]
def auV:À.cellsOf 299=3:=fF
def aeR:À.cellsOf 36=1:=fF
def auW:À.cellsOf 3=1:=fF
def auX:À.cellsOf 300=69:=fF
def auY{p:List MemPlace}(v:Ç (λ_=>()) À W 0 (λ_=>ß) Ë n 300 l=Æ (Ä,p)): l.length=69/\∀(i:Nat) (r:Int×Int×Int),jN[i]?=Æ r->l[i*3]?=Æ (.int .u64 r.1)/\l[i*3+1]?=Æ (.int ý r.2.1)/\l[i*3+2]?=Æ (.int ý r.2.2):=by
 obtain⟨f,m,rfl,w,y,I,z⟩:=DataW.trod_array Tryz.underlying300 v;refine⟨y.trans auX,λi r o=> ?_⟩;have B:i<23:=by have:=(List.getElem?_eq_some_iff.1 o).1;exact this
 have g:=z i B;rw[auV]at g;have C:f.map (·.1)=jN.map λr=>(þ [.lit<|.int .u64 r.1,.lit<|.int ý r.2.1,.lit<|.int ý r.2.2]:é Unit):=by have:=congrArg Prod.fst w;simp only[Ä,DataW.agg.injEq]at this;exact this.symm
 obtain⟨x,q⟩:∃x,f[i]?=Æ x:=⟨_,Ì Z⟩;rw[q]at g;have d:(f.map (·.1))[i]?=Æ x.1:=by simp[q]
 rw[C]at d;simp only[Ö,o,Option.map_some,ð]at d;obtain⟨e,h,rfl,j,J,D,k⟩:=DataW.trod_struct Tryz.underlying299 g;have a:=k 0 _ U;have b:=k 1 _ U;have c:=k 2 _ U;have a:Ç _ À W 0 _ Ë h 36 (Í (À.cellsOf 36)<|Î 0<|Í 3<|Î (i*3) l)=e[0]?:=a;have b:Ç _ À W 0 _ Ë h 3 (Í (À.cellsOf 3)<|Î 1<|Í 3<|Î (i*3) l)=e[1]?:=b;have c:Ç _ À W 0 _ Ë h 3 (Í (À.cellsOf 3)<|Î 2<|Í 3<|Î (i*3) l)=e[2]?:=c;rw[aeR]at a;rw[auW]at b c;match e,D,j,a,b,c with
 |[y0,y1,y2],_,j,a,b,c=>
  let⟨K,c0,E,_⟩:=Ò Ø (show Ç _ _ _ _ _ _ _ 36 _=Æ y0 from a);let⟨L,c1,F,_⟩:=Ò È (show Ç _ _ _ _ _ _ _ 3 _=Æ y1 from b);let⟨M,G,H,_⟩:=Ò È (show Ç _ _ _ _ _ _ _ 3 _=Æ y2 from c);subst E;subst F;subst H;rw[j]at d;simp only[List.map_cons,List.map_nil,DataW.agg.injEq,List.cons.injEq,DataW.lit.injEq,Lit.int.injEq,true_and,and_true]at d;obtain⟨rfl,rfl,rfl⟩:=d;have s:=congrArg (·[0]?) c0;have t:=congrArg (·[0]?) c1;have u:=congrArg (·[0]?) G;simp[List.getElem?_take,List.getElem?_drop]at s t u;exact⟨s,t,u⟩
def aeS(h:∀v∈d.toList,∃k n,v=.int k n):gA (nA X i) d d:=sR λv a=>by obtain⟨k,n,rfl⟩:=h v a;exact .iL _ _
def auZ{l:List (String×DataW Unit)}(h:Ó P l W)(a:(l.filter λx=>x.2.handleName?.isSome)=[]):∃b,DataW.LaidVars P W l b:=by unfold Ó at h;rw[a]at h;exact⟨h.choose,h.choose_spec.1⟩
def au0:À.cellsOf 304=32:=fF
def au1:À.cellsOf 305=64:=fF
def au2:À.cellsOf 291=20:=fF
def aeT:À.cellsOf 5=1:=fF
def gn1:À.globalNamed "internal/strconv.uint64pow10"=Æ 1:=fF
def gn2:À.globalNamed "attic/attic.stepRules"=Æ 2:=fF
def gn3:À.globalNamed "math/bits.deBruijn32tab"=Æ 3:=fF
def gn4:À.globalNamed "math/bits.deBruijn64tab"=Æ 4:=fF
def So(g:Nat)(t:î)(h:(g,t)∈[(1,291),(2,300),(3,304),(4,305)]):(À.globals[g]?).map (·.type)=Æ t/\g<À.globals.size/\(((begin À (λ_ _=>0) default).world.heap[g]?).bind Obj.row?).map (·.2)=Æ t:=by
 simp only[List.mem_cons,List.not_mem_nil,or_false,Prod.mk.injEq]at h;rcases h with⟨rfl,rfl⟩|⟨rfl,rfl⟩|⟨rfl,rfl⟩|⟨rfl,rfl⟩
 .exact⟨fF,of_decide_eq_true fF,fF⟩
 .exact⟨fF,of_decide_eq_true fF,fF⟩
 .exact⟨fF,of_decide_eq_true fF,fF⟩
 .exact⟨fF,of_decide_eq_true fF,fF⟩
def au3:é Unit->Int
 |.lit (.int _ z)=>z
 |_=>0
def aeU:é Unit->List Int
 |þ l=>l.map au3
 |_=>[]
def au4:(Á:é Unit)=Ñ .u8 (aeU Á):=rfl
def au5:(Â:é Unit)=Ñ .u8 (aeU Â):=rfl
def au6:(Å:é Unit)=Ñ .u64 Lib.pow10Tab:=rfl
def Yr{k:ï}:∀v∈(zQ.map λz=>Value.int k z).toArray.toList,∃k n,v=.int k n:=λv a=>by simp only[List.mem_map]at a;obtain⟨z,_,rfl⟩:=a;exact⟨_,_,U⟩
def au7(k:Nat)(h:k<69):∃i j,i<23/\j<3/\k=i*3+j:=⟨k/3,k%3,Z,Z,Z⟩
theorem au8{W:õ}(hs:W.ShapedOpen À)(hl:Ó À Sm W):p9 W:=by
 obtain⟨ps,g3,t3,cs3,f3,p3,q3,Yd,ht3,hv3,vT,⟨g4,t4,cs4,f4,p4,q4,hg4,Lt,hv4,WA,⟨g1,t1,cs1,f1,p1,q1,we,FK,hv1,rD,⟨g2,t2,cs2,f2,p2,q2,Qr,N4,RE,pE,_,_⟩,_⟩,_⟩,_⟩:=auZ hl (by kernel_rfl);obtain⟨y1,s1,z1⟩:=So 1 291 (by simp);obtain⟨y2,s2,z2⟩:=So 2 300 (by simp);obtain⟨y3,s3,z3⟩:=So 3 304 (by simp);obtain⟨y4,s4,z4⟩:=So 4 305 (by simp);obtain⟨c1,b1⟩:=Sn hs 1 291 s1 z1;obtain⟨c2,b2⟩:=Sn hs 2 300 s2 z2;obtain⟨c3,b3⟩:=Sn hs 3 304 s3 z3;obtain⟨c4,b4⟩:=Sn hs 4 305 s4 z4;rw[au4]at vT;rw[au5]at WA;rw[au6]at rD;have e3:=Yq gn3 y3 Tryz.underlying304 Ý aeT au0 b3 Yd ht3 hv3 vT;have e4:=Yq gn4 y4 Tryz.underlying305 Ý aeT au1 b4 hg4 Lt hv4 WA;have e1:=Yq gn1 y1 Tryz.underlying291 Ø aeR au2 b1 we FK hv1 rD;obtain rfl:=Ã (gn2.symm.trans Qr);obtain rfl:=Ã (y2.symm.trans N4);obtain⟨hlen,pT⟩:=auY pE;have e2:=aeQ gn2 b2 RE;subst e2;have aeV:=λi r hr=>by have:=pT i r hr;simpa using this
 have aeW:∀(k:Nat) (v:è),c2[k]?=Æ v->∃(kd:ï) (n:Int),v=.int kd n/\kd≠.u8:=λk v hv=>by
  have hk:k<69:=by
   have h0:=(Ê.1 hv).1;have h1:c2.size=69:=by simpa using hlen
   omega
  obtain⟨i,j,hi,hj,rfl⟩:=au7 k hk;obtain⟨r,hr⟩:∃r,jN[i]?=Æ r:=⟨_,Ì (show i<jN.length from hi)⟩;obtain⟨h0,h1,h2⟩:=aeV i r hr;match j,hj with
  |0,_=>rw[Nat.add_zero,h0]at hv;cases hv;exact⟨_,_,rfl,by decide⟩
  |1,_=>rw[h1]at hv;cases hv;exact⟨_,_,rfl,by decide⟩
  |2,_=>rw[h2]at hv;cases hv;exact⟨_,_,rfl,by decide⟩
 have kV:=(Ê.1 b4).1;refine⟨?_,?_,⟨c3,_,b3,É _,É _,?_,?_⟩,⟨c4,_,b4,É _,É _,?_,?_⟩,?_,⟨⟨c2,_,b2⟩,λi r hr=> ?_⟩,?_⟩
 .have h5:nB=5:=by kernel_rfl
  omega
 .rintro b (rfl|rfl)
  .refine⟨c1,291,_,b1,É _,aeS (by rw[e1];exact Yr),by rw[e1];exact of_decide_eq_true (by kernel_rfl),λk v hv=> ?_,by decide,by decide⟩;rw[e1]at hv;simp only[List.getElem?_toArray,Ö,Ð]at hv;obtain⟨z,_,rfl⟩:=hv;rfl
  .refine⟨c2,300,_,b2,É _,aeS λv hv=> ?_,?_,λk v hv=> ?_,by decide,by decide⟩
   .obtain⟨k,hk,e⟩:=List.mem_iff_getElem.1 hv;obtain⟨kd,n,e',_⟩:=aeW k v (by rw[<-e];simp);exact⟨kd,n,e'⟩
   .have h1:c2.size=69:=by simpa using hlen
    omega
   .obtain⟨kd,n,rfl,hn⟩:=aeW k v hv;cases kd<;>first|rfl|exact absurd rfl hn
 .rw[e3];exact of_decide_eq_true (by kernel_rfl)
 .rw[e3];exact Yr
 .rw[e4];exact of_decide_eq_true (by kernel_rfl)
 .rw[e4];exact Yr
 .unfold jr.nW Lib.TabIs ë;rw[gn1];simp only[Û,b1,e1]
 .obtain⟨h0,h1,h2⟩:=aeV i r hr;exact⟨by simp only[Ô,b2];exact h0,by simp only[Ô,b2];exact h1,by simp only[Ô,b2];exact h2⟩
 .unfold tX;simp only[Ô,b4,e4];rfl
end Go.Proofs.Y.nz
namespace Go.Proofs.Y.nz
open Go Go.Conc Go.Proofs Go.RowKit Go.Proofs.Y.Lift Go.Proofs.Y.jr Go.Proofs.Y.fK Go.Proofs.Y.xq
open Go.Proofs.YtgpphkdoanciiaaGreatDoor (Rows.workersSpec Rows.workersRow Rows.WorkersSaid Tryz.pinned)
open Go.ChangeShapes Go.WideShapes Go.ChangeAt
def fD:ownKnob À.godebug=none:=fF
def au9:laidOutB À=ß:=fF
def ava{w':õ}(h:qf W w')(a:w'.os=W.os)(b:w'.output=W.output):Below W.heap.size W {w' with tape:=W.tape}:=⟨a,U,b,h.fh,h.vd⟩
def avb(os:Os)(a:Array è):Ó À Sm ((à À 400 os).forCall (λ_ _=>0) ⟨#[],a,[]⟩).memory:= laidMetH_of_parts3 (fuel:=8) (laidMet_of_run' 8 fF fF) fF fF
def avc(os:Os)(J:os.Started)(H:Type)(enc:TypeId×Value->H): ReturnsInLeavingWide {} Ù os 7 .any (λw e=>(Ï.pre enc À Õ [] Ë w e/\Ó À Sm w)/\sizedMet enc À Õ (OpenSpec.ofChange Ï) Ë w e) (Ï.post enc À Õ Ë ß Ë Ë):=by apply returnsInLeavingWide_of_good (C:=Ù) fD J (ChangeSpec.witness_shaped (enc:=enc) (C:=Ù) (os:=os) (X:=λw _=>Ó À Sm w) Ë (à À 400 os) #[.slice none 0 0,.int ý 0] 8 U (World.shaped_of_RefB fF fF) fF fF fF<|avb os _);intro w g i _ r _ K L _;let⟨_,_,_,N,O,_,_,_,_,j⟩:=K;obtain rfl:N=Õ:=Ã<|O.symm.trans á;let⟨⟨⟨P,gs,before,s,_⟩,t⟩,_⟩:=L;have u:=DataW.Whole.of_heap (w':=w.forCall g i) gG s;have Q:p9 (w.forCall g i):=au8 r<|laidMetH.of_heap (w:=(w.forCall g i).memory) U t;generalize w.forCall g i=W at*;generalize i.args=e at*;clear s t r;have k:=u;obtain⟨p,q,T,V,rfl,_,_⟩:=u;have y:DataW.TrodAll enc À W 0 (λ_=>ß) ß Õ.params.toList e.toList P p:=T;rw[å]at y j;obtain⟨Y,v1,z,d1,d,p1,rfl,rfl,rfl,B,h1⟩:=trodAll_two y;obtain⟨rfl,rfl⟩:=trodVars_none V;obtain⟨D,E,l,rfl⟩:=okWide_slice Tryz.underlying25<|j 0 25 Y U U;obtain⟨kk,rfl,rfl,rfl,m⟩:=open_int È (j 1 3 v1 U U) h1;simp only[List.append_nil]at k;let⟨fuel,hf⟩:=id B;let⟨hm,f,n⟩:=auU hf;let⟨M,last,o,a,t',r1,r2,r3,r4⟩:=auQ (c:=l) Q n (Nat.le_trans hm A) kk (by simp[Lit.wf,ÿ,â,æ]at m;omega) (by simp[Lit.wf,Ā,â,æ]at m;omega);refine⟨M,last,.done o,a,t',r1,r2,r3,r4.mono λv hF=> ?_⟩;obtain⟨⟨rfl,hk⟩,F,G⟩:=hF;have I:=ava hk F G;have iy:∀x∈d,x.block<W.heap.size:=λx n=>k.lt x (by simp[n]);have ha:ì enc À {a with tape:=W.tape} 0 (λb=>decide<|b<W.heap.size) ß 25 (.slice D E l) z d:=Below.trod au9 fF (of_decide_eq_true fF) B I iy;have ha':ì enc À a 0 (λb=>decide<|b<W.heap.size) ß 25 (.slice D E l) z d:=DataW.Trod.of_heap (w:={a with tape:=W.tape}) (w':=a) U ha;refine ChangeSpec.post_blind ⟨_,_,_,[],_,[],k,trodAll_mk1<|shut_bool Tryz.underlying4 _,trodAll_mk2 ha'<|shut_int È m,U,⟨F,G,(Below.frame (w':={a with tape:=W.tape}) I λp=>p∈d/\(p∈[]\/p∈d++[]\/p∈[])).2.2⟩,λh=>by cases h⟩
def avd:Rows.WorkersSaid:= OpenClaim.holds_of_wide_leaving 7 Õ U U U U U U U ⟨U,U,U,U,U⟩ U U U U U fF á fF (of_decide_eq_true fF) (by unfold Func.isWrapper;first|(rw[if_pos (by decide+kernel)];kernel_rfl)|(rw[if_neg (by decide+kernel)];exact⟨U,U⟩)) λa b H c _=>avc a b H c
end Go.Proofs.Y.nz
namespace Go.Proofs.YtgpphkdoanciiaaGreatDoor
open Go
theorem workersCard_holds:Rows.WorkersCardSaid:=by
 have a:Claim7.isSixth {stood:={row:=Rows.workersRow,standIns:=[],harness:=(ß, "06146bd03cd3b68f99b6c94596564444c7bc30fda6fc0fb9eb31355abe92b33f"),looks:=Ë},kinds:=[]}=Ë:=by simp[Claim7.isSixth]
 have b:=Claim7.tied_new_at .later [.data,.data,.data,.data] ß (Claim7.new_of_sixth Y.nz.avd (ß, "06146bd03cd3b68f99b6c94596564444c7bc30fda6fc0fb9eb31355abe92b33f") Ë U ⟨U,U⟩ fF a (λf D c d=>by
   obtain rfl:f=7:=Ã ((show À.funcNamed "attic/attickeep.Workers"=Æ 7 by kernel_rfl).symm.trans c)|>.symm;obtain rfl:D=Õ:=(Ã<|á.symm.trans d).symm;exact⟨fF,λj t h=>by
    rw[å]at h;have e:t∈[25,3]:=by simpa using Array.mem_of_getElem? h
    have g:([25,3].all λu=> !Tryz.prog.wantsStandIn u)=ß:=fF
    exact(show À.wantsStandIn t=Ë by simpa using List.all_eq_true.1 g t e)⟩)) fF
 exact⟨b,(λD h=>by cases h),workers_row_tie,(λh=>by cases h),fF⟩
end Go.Proofs.YtgpphkdoanciiaaGreatDoor
