/- attickeep.Workers answers true, whatever the batches, the workers, the schedule: any number of workers answers as one worker does. Conditions: the given row's. -/
import Derived.Test.YtgpphkdoanciiaaGreatDoorWAE
import Derived.Lib.LaidTab
import Derived.OpenShut
import Derived.Test.YtgpphkdoanciiaaGreatDoorRows
import Derived.Conc.LeavingOf
import Derived.LaidMore
import Derived.Stop.Joined
import Derived.Carry
import Derived.Test.YtgpphkdoanciiaaGreatDoorCards
import Derived.Test.YtgpphkdoanciiaaGreatDoorTie
import Derived.SevenTiedAt
set_option linter.all false
set_option maxRecDepth 1000000
set_option maxHeartbeats 8000000
open Go.Proofs.Tryz renaming prog->À,underlying3->È,f7->Ô,underlying36->Ö,checked->Ø,underlying5->Û,func7->ß,params7->ã
open Go.Proofs.YtgpphkdoanciiaaGreatDoor.Rows renaming laid_math_bits_deBruijn32tab->Á,laid_math_bits_deBruijn64tab->Â,laid_attic_attic_stepRules->Ä,laid_internal_strconv_uint64pow10->Å,workersSpec->Î
open Option.some renaming inj->Ã,injEq->î
open Option renaming some->Æ,map_eq_some_iff->Ï
open Go.DataW renaming trod->Ç,trod_int->Ñ,Trod->ê,agg->ü
open Nat renaming zero_le->É
open Bool renaming false->Ê,true->Ý
open List renaming getElem?_eq_getElem->Ë,take->Ì,drop->Í,getElem?_map->Õ
open Go.Lib renaming tabData->Ð
open Go renaming laidMetH->Ò,Value->æ,DataW->ç,TypeId->ì,IntKind->í,World->ó
open Go.World renaming cell?->Ó,doorLaid->Þ,var?->é
open Go.IntKind renaming signed->à,bits->ä,i64->û,min->ý,max->þ
variable{i n j b k m J j9 j7 j6:Nat}{w u W jX:ó}{e t T:ì}{d q:Array æ}{P:Go.Program}{X:Nat->Prop}{l:List æ}{zQ:List Int}{xJ:Nat×Nat}
namespace Go.Proofs.Y.nA
open Go Go.Conc Go.Proofs Go.RowKit Go.Proofs.Y.Lift Go.Proofs.Y.iy Go.Proofs.Y.fv Go.Proofs.Y.zn
open Go.Proofs.YtgpphkdoanciiaaGreatDoor (Rows.laid_math_bits_deBruijn32tab Rows.laid_math_bits_deBruijn64tab Rows.laid_internal_strconv_uint64pow10 Rows.laid_attic_attic_stepRules)
def Ma:List (String×DataW Unit):=[("math/bits.deBruijn32tab",Á),("math/bits.deBruijn64tab",Â),("internal/strconv.uint64pow10",Å),("attic/attic.stepRules",Ä)]
theorem Mb(h:W.ShapedOpen À)(g:Nat)(t:ì)(b:g<À.globals.size)(e:(((begin À (λ_ _=>0) default).world.heap[g]?).bind Obj.row?).map (·.2)=Æ t): ∃a,W.heap[g]?=Æ (.cells a t):=by let⟨⟨z,c⟩,d,f⟩:=Ï.1 e;let⟨a,i,_⟩:=h.1 g z c b d;grind
theorem aaY{n:String}(b:À.globalNamed n=Æ i)(h:W.heap[i]?=Æ (.cells q t xJ))(a:W.var? À n=Æ d):q=d:=by unfold é at a;grind
def Tt{n:String}{N:Nat}{k:í}{p:List MemPlace} (a:À.globalNamed n=Æ i) (f:(À.globals[i]?).map (·.type)=Æ t) (h:À.underlying t=Æ (.array N e)) (l:À.underlying e=Æ (.int k)) (m:À.cellsOf e=1) (o:À.cellsOf t=N) (r:W.heap[i]?=Æ (.cells d t xJ)) (s:À.globalNamed n=Æ b) (u:(À.globals[b]?).map (·.type)=Æ T) (v:W.var? À n=Æ q) (w:Ç (λ_=>()) À W 0 (λ_=>Ý) Ê j T q.toList=Æ (Ð k zQ,p)):d=(zQ.map λz=>Value.int k z).toArray:=by obtain rfl:=Ã<|a.symm.trans s;obtain rfl:=Ã<|f.symm.trans u;rw[aaY a r v,<-Lib.cells_of_tab h l m o w]
def arb:À.cellsOf 299=3:=fj
def aaZ:À.cellsOf 36=1:=fj
def ard:À.cellsOf 3=1:=fj
def arf:À.cellsOf 300=69:=fj
def arh{p:List MemPlace}(v:Ç (λ_=>()) À W 0 (λ_=>Ý) Ê n 300 l=Æ (Ä,p)): l.length=69/\∀(i:Nat) (r:Int×Int×Int),iQ[i]?=Æ r->l[i*3]?=Æ (.int .u64 r.1)/\l[i*3+1]?=Æ (.int û r.2.1)/\l[i*3+2]?=Æ (.int û r.2.2):=by
 obtain⟨f,m,rfl,w,y,K,z⟩:=DataW.trod_array Tryz.underlying300 v;refine⟨y.trans arf,λi r o=> ?_⟩;have B:i<23:=by have:=(List.getElem?_eq_some_iff.1 o).1;exact this
 have g:=z i B;rw[arb]at g;have C:f.map (·.1)=iQ.map λr=>(ü [.lit<|.int .u64 r.1,.lit<|.int û r.2.1,.lit<|.int û r.2.2]:ç Unit):=by have:=congrArg Prod.fst w;simp only[Ä,DataW.agg.injEq]at this;exact this.symm
 obtain⟨x,q⟩:∃x,f[i]?=Æ x:=⟨_,Ë Z⟩;rw[q]at g;have d:(f.map (·.1))[i]?=Æ x.1:=by simp[q]
 rw[C]at d;simp only[Õ,o,Option.map_some,î]at d;obtain⟨e,h,rfl,j,L,D,k⟩:=DataW.trod_struct Tryz.underlying299 g;have a:=k 0 _ U;have b:=k 1 _ U;have c:=k 2 _ U;have a:Ç _ À W 0 _ Ê h 36 (Ì (À.cellsOf 36)<|Í 0<|Ì 3<|Í (i*3) l)=e[0]?:=a;have b:Ç _ À W 0 _ Ê h 3 (Ì (À.cellsOf 3)<|Í 1<|Ì 3<|Í (i*3) l)=e[1]?:=b;have c:Ç _ À W 0 _ Ê h 3 (Ì (À.cellsOf 3)<|Í 2<|Ì 3<|Í (i*3) l)=e[2]?:=c;rw[aaZ]at a;rw[ard]at b c;match e,D,j,a,b,c with
 |[y0,y1,y2],_,j,a,b,c=>
  let⟨M,E,F,_⟩:=Ñ Ö (show Ç _ _ _ _ _ _ _ 36 _=Æ y0 from a);let⟨N,G,H,_⟩:=Ñ È (show Ç _ _ _ _ _ _ _ 3 _=Æ y1 from b);let⟨O,I,J,_⟩:=Ñ È (show Ç _ _ _ _ _ _ _ 3 _=Æ y2 from c);subst F;subst H;subst J;rw[j]at d;simp only[List.map_cons,List.map_nil,DataW.agg.injEq,List.cons.injEq,DataW.lit.injEq,Lit.int.injEq,true_and,and_true]at d;obtain⟨rfl,rfl,rfl⟩:=d;have s:=congrArg (·[0]?) E;have t:=congrArg (·[0]?) G;have u:=congrArg (·[0]?) I;simp[List.getElem?_take,List.getElem?_drop]at s t u;exact⟨s,t,u⟩
def aa0(h:∀v∈d.toList,∃k n,v=.int k n):fL (kN X i) d d:=oU λv a=>by obtain⟨k,n,rfl⟩:=h v a;exact .iA _ _
def ari{l:List (String×DataW Unit)}(h:Ò P l W)(a:(l.filter λx=>x.2.handleName?.isSome)=[]):∃b,DataW.LaidVars P W l b:=by unfold Ò at h;rw[a]at h;exact⟨h.choose,h.choose_spec.1⟩
def arj:À.cellsOf 304=32:=fj
def ark:À.cellsOf 305=64:=fj
def arl:À.cellsOf 291=20:=fj
def aa1:À.cellsOf 5=1:=fj
def gn1:À.globalNamed "internal/strconv.uint64pow10"=Æ 1:=fj
def gn2:À.globalNamed "attic/attic.stepRules"=Æ 2:=fj
def gn3:À.globalNamed "math/bits.deBruijn32tab"=Æ 3:=fj
def gn4:À.globalNamed "math/bits.deBruijn64tab"=Æ 4:=fj
def Mc(g:Nat)(t:ì)(h:(g,t)∈[(1,291),(2,300),(3,304),(4,305)]):(À.globals[g]?).map (·.type)=Æ t/\g<À.globals.size/\(((begin À (λ_ _=>0) default).world.heap[g]?).bind Obj.row?).map (·.2)=Æ t:=by
 simp only[List.mem_cons,List.not_mem_nil,or_false,Prod.mk.injEq]at h;rcases h with⟨rfl,rfl⟩|⟨rfl,rfl⟩|⟨rfl,rfl⟩|⟨rfl,rfl⟩
 .exact⟨fj,of_decide_eq_true fj,fj⟩
 .exact⟨fj,of_decide_eq_true fj,fj⟩
 .exact⟨fj,of_decide_eq_true fj,fj⟩
 .exact⟨fj,of_decide_eq_true fj,fj⟩
def arn:ç Unit->Int
 |.lit (.int _ z)=>z
 |_=>0
def aa2:ç Unit->List Int
 |ü l=>l.map arn
 |_=>[]
def aro:(Á:ç Unit)=Ð .u8 (aa2 Á):=rfl
def arp:(Â:ç Unit)=Ð .u8 (aa2 Â):=rfl
def arq:(Å:ç Unit)=Ð .u64 Lib.pow10Tab:=rfl
def ars{k:í}:∀v∈(zQ.map λz=>Value.int k z).toArray.toList,∃k n,v=.int k n:=λv a=>by simp only[List.mem_map]at a;obtain⟨z,_,rfl⟩:=a;exact⟨_,_,U⟩
def aru(k:Nat)(h:k<69):∃i j,i<23/\j<3/\k=i*3+j:=⟨k/3,k%3,Z,Z,Z⟩
theorem arv{W:ó}(hs:W.ShapedOpen À)(hl:Ò À Ma W):mU W:=by
 obtain⟨ps,g3,t3,cs3,f3,p3,q3,Tg,ht3,hv3,wC,⟨g4,t4,cs4,f4,p4,q4,hg4,F6,hv4,Rq,⟨g1,t1,cs1,f1,p1,q1,vd,AJ,hv1,A8,⟨g2,t2,cs2,f2,p2,q2,Ks,Is,Lv,ou,_,_⟩,_⟩,_⟩,_⟩:=ari hl (by kernel_rfl);obtain⟨y1,s1,z1⟩:=Mc 1 291 (by simp);obtain⟨y2,s2,z2⟩:=Mc 2 300 (by simp);obtain⟨y3,s3,z3⟩:=Mc 3 304 (by simp);obtain⟨y4,s4,z4⟩:=Mc 4 305 (by simp);obtain⟨c1,b1⟩:=Mb hs 1 291 s1 z1;obtain⟨c2,b2⟩:=Mb hs 2 300 s2 z2;obtain⟨c3,b3⟩:=Mb hs 3 304 s3 z3;obtain⟨c4,b4⟩:=Mb hs 4 305 s4 z4;rw[aro]at wC;rw[arp]at Rq;rw[arq]at A8;have e3:=Tt gn3 y3 Tryz.underlying304 Û aa1 arj b3 Tg ht3 hv3 wC;have e4:=Tt gn4 y4 Tryz.underlying305 Û aa1 ark b4 hg4 F6 hv4 Rq;have e1:=Tt gn1 y1 Tryz.underlying291 Ö aaZ arl b1 vd AJ hv1 A8;obtain rfl:=Ã (gn2.symm.trans Ks);obtain rfl:=Ã (y2.symm.trans Is);obtain⟨hlen,lV⟩:=arh ou;have e2:=aaY gn2 b2 Lv;subst e2;have arw:=λi r hr=>by have:=lV i r hr;simpa using this
 have aa3:∀(k:Nat) (v:æ),c2[k]?=Æ v->∃(kd:í) (n:Int),v=.int kd n/\kd≠.u8:=λk v hv=>by
  have hk:k<69:=by grind
  obtain⟨i,j,hi,hj,rfl⟩:=aru k hk;obtain⟨r,hr⟩:∃r,iQ[i]?=Æ r:=⟨_,Ë (show i<iQ.length from hi)⟩;grind
 have jV:=(Array.getElem?_eq_some_iff.1 b4).1;refine⟨?_,?_,⟨c3,_,b3,É _,É _,?_,?_⟩,⟨c4,_,b4,É _,É _,?_,?_⟩,?_,⟨⟨c2,_,b2⟩,λi r hr=> ?_⟩,?_⟩
 .have h5:nB=5:=by kernel_rfl
  omega
 .rintro b (rfl|rfl)
  .refine⟨c1,291,_,b1,É _,aa0 (by rw[e1];exact ars),by rw[e1];exact of_decide_eq_true (by kernel_rfl),λk v hv=> ?_,by decide,by decide⟩;rw[e1]at hv;simp only[List.getElem?_toArray,Õ,Ï]at hv;obtain⟨z,_,rfl⟩:=hv;rfl
  .refine⟨c2,300,_,b2,É _,aa0 λv hv=> ?_,?_,λk v hv=> ?_,by decide,by decide⟩
   .obtain⟨k,hk,e⟩:=List.mem_iff_getElem.1 hv;obtain⟨kd,n,e',_⟩:=aa3 k v (by rw[<-e];simp);grind
   .grind
   .obtain⟨kd,n,rfl,hn⟩:=aa3 k v hv;cases kd<;>first|rfl|exact absurd rfl hn
 .rw[e3];exact of_decide_eq_true (by kernel_rfl)
 .grind
 .rw[e4];exact of_decide_eq_true (by kernel_rfl)
 .grind
 .unfold iy.lb Lib.TabIs é;rw[gn1];grind
 .obtain⟨h0,h1,h2⟩:=arw i r hr;exact⟨by simp only[Ó,b2];exact h0,by simp only[Ó,b2];exact h1,by simp only[Ó,b2];exact h2⟩
 .unfold pN;simp only[Ó,b4,e4];rfl
end Go.Proofs.Y.nA
namespace Go.Proofs.Y.nA
open Go Go.Conc Go.Proofs Go.RowKit Go.Proofs.Y.Lift Go.Proofs.Y.iy Go.Proofs.Y.fv Go.Proofs.Y.zn
open Go.Proofs.YtgpphkdoanciiaaGreatDoor (Rows.workersSpec Rows.workersRow Rows.WorkersSaid Tryz.pinned)
open Go.ChangeShapes Go.WideShapes Go.ChangeAt
def fh:ownKnob À.godebug=none:=fj
def arx:laidOutB À=Ý:=fj
def arz{w':ó}(h:mY W w')(a:w'.os=W.os)(b:w'.output=W.output):Below W.heap.size W {w' with tape:=W.tape}:=⟨a,U,b,h.Cr,h.qI⟩
def arA(os:Os)(a:Array æ):Ò À Ma ((Þ À 400 os).forCall (λ_ _=>0) ⟨#[],a,[]⟩).memory:= laidMetH_of_parts3 (fuel:=8) (laidMet_of_run' 8 fj fj) fj fj
def arB(os:Os)(J:os.Started)(H:Type)(enc:TypeId×Value->H): ReturnsInLeavingWide {} Ø os 7 .any (λw e=>(Î.pre enc À Ô [] Ê w e/\Ò À Ma w)/\sizedMet enc À Ô (OpenSpec.ofChange Î) Ê w e) (Î.post enc À Ô Ê Ý Ê Ê):=by apply returnsInLeavingWide_of_good (C:=Ø) fh J (ChangeSpec.witness_shaped (enc:=enc) (C:=Ø) (os:=os) (X:=λw _=>Ò À Ma w) Ê (Þ À 400 os) #[.slice none 0 0,.int û 0] 8 U (World.shaped_of_RefB fj fj) fj fj fj<|arA os _);intro w g i _ r _ K L _;let⟨_,_,_,N,O,_,_,_,_,j⟩:=K;obtain rfl:N=Ô:=Ã<|O.symm.trans ß;let⟨⟨⟨P,gs,before,s,_⟩,t⟩,_⟩:=L;have u:=DataW.Whole.of_heap (w':=w.forCall g i) fR s;have Q:mU (w.forCall g i):=arv r<|laidMetH.of_heap (w:=(w.forCall g i).memory) U t;generalize w.forCall g i=W at*;generalize i.args=e at*;clear s t r;have k:=u;obtain⟨p,q,S,T,rfl,_,_⟩:=u;have y:DataW.TrodAll enc À W 0 (λ_=>Ý) Ý Ô.params.toList e.toList P p:=S;rw[ã]at y j;obtain⟨V,Y,z,d1,d,p1,rfl,rfl,rfl,B,h1⟩:=trodAll_two y;obtain⟨rfl,rfl⟩:=trodVars_none T;obtain⟨D,E,l,rfl⟩:=okWide_slice Tryz.underlying25<|j 0 25 V U U;obtain⟨kk,rfl,rfl,rfl,m⟩:=open_int È (j 1 3 Y U U) h1;simp only[List.append_nil]at k;let⟨fuel,hf⟩:=id B;let⟨hm,f,n⟩:=ara hf;let⟨M,last,o,a,t',r1,r2,r3,r4⟩:=aq6 (c:=l) Q n (Nat.le_trans hm A) kk (by simp[Lit.wf,ý,à,ä]at m;omega) (by simp[Lit.wf,þ,à,ä]at m;omega);refine⟨M,last,.done o,a,t',r1,r2,r3,r4.mono λv hF=> ?_⟩;obtain⟨⟨rfl,hk⟩,F,G⟩:=hF;have I:=arz hk F G;have gH:∀x∈d,x.block<W.heap.size:=λx n=>k.lt x (by simp[n]);have ha:ê enc À {a with tape:=W.tape} 0 (λb=>decide<|b<W.heap.size) Ý 25 (.slice D E l) z d:=Below.trod arx fj (of_decide_eq_true fj) B I gH;have ha':ê enc À a 0 (λb=>decide<|b<W.heap.size) Ý 25 (.slice D E l) z d:=DataW.Trod.of_heap (w:={a with tape:=W.tape}) (w':=a) U ha;refine ChangeSpec.post_blind ⟨_,_,_,[],_,[],k,trodAll_mk1<|shut_bool Tryz.underlying4 _,trodAll_mk2 ha'<|shut_int È m,U,⟨F,G,(Below.frame (w':={a with tape:=W.tape}) I λp=>p∈d/\(p∈[]\/p∈d++[]\/p∈[])).2.2⟩,λh=>by cases h⟩
def arC:Rows.WorkersSaid:= OpenClaim.holds_of_wide_leaving 7 Ô U U U U U U U ⟨U,U,U,U,U⟩ U U U U U fj ß fj (of_decide_eq_true fj) (by unfold Func.isWrapper;first|(rw[if_pos (by decide+kernel)];kernel_rfl)|(rw[if_neg (by decide+kernel)];exact⟨U,U⟩)) λa b H c _=>arB a b H c
end Go.Proofs.Y.nA
namespace Go.Proofs.YtgpphkdoanciiaaGreatDoor
open Go
theorem workersCard_holds:Rows.WorkersCardSaid:=by
 have a:Claim7.isSixth {stood:={row:=Rows.workersRow,standIns:=[],harness:=(Ý, "06146bd03cd3b68f99b6c94596564444c7bc30fda6fc0fb9eb31355abe92b33f"),looks:=Ê},kinds:=[]}=Ê:=by simp[Claim7.isSixth]
 have b:=Claim7.tied_new_at .later [.data,.data,.data,.data] Ý (Claim7.new_of_sixth Y.nA.arC (Ý, "06146bd03cd3b68f99b6c94596564444c7bc30fda6fc0fb9eb31355abe92b33f") Ê U ⟨U,U⟩ fj a (λf D c d=>by
   obtain rfl:f=7:=Ã ((show À.funcNamed "attic/attickeep.Workers"=Æ 7 by kernel_rfl).symm.trans c)|>.symm;obtain rfl:D=Ô:=(Ã<|ß.symm.trans d).symm;exact⟨fj,λj t h=>by
    rw[ã]at h;have e:t∈[25,3]:=by simpa using Array.mem_of_getElem? h
    have g:([25,3].all λu=> !Tryz.prog.wantsStandIn u)=Ý:=fj
    exact(show À.wantsStandIn t=Ê by simpa using List.all_eq_true.1 g t e)⟩)) fj
 exact⟨b,(λD h=>by cases h),workers_row_tie,(λh=>by cases h),fj⟩
end Go.Proofs.YtgpphkdoanciiaaGreatDoor
