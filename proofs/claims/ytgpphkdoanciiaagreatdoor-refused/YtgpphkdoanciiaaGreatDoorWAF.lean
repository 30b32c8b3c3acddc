import Derived.Test.YtgpphkdoanciiaaGreatDoorWAE
import Derived.Lib.LaidTab
import Derived.OpenShut
import Derived.Test.YtgpphkdoanciiaaGreatDoorRows
import Derived.Conc.LeavingOf
import Derived.LaidMore
import Derived.Stop.Joined
import Derived.Carry
set_option linter.all false
set_option maxRecDepth 1000000
set_option maxHeartbeats 8000000
open Go.Proofs.Tryz renaming prog->À,func25->Û,underlying36->Þ,underlying3->ß,underlying5->à,func17->ã,f9->ì,func22->ò,func9->õ
open Go.Conc renaming events_call_body->Á
open Go.Conc.Goes renaming stop->Â
open Nat renaming le_trans->Ã,zero_le->Ë
open Go.Proofs.YtgpphkdoanciiaaGreatDoor.Rows renaming laid_math_bits_deBruijn32tab->Ä,laid_math_bits_deBruijn64tab->Å,laid_attic_attic_stepRules->Ç,laid_internal_strconv_uint64pow10->É
open Option renaming some->Æ,map_eq_some_iff->Ö,none->á
open Go.Value renaming string->È,pointer->Í,int->Ò,slice->Ü,bool->ñ
open Go.DataW renaming trod->Ê,trod_int->Ù,agg->ā
open Or renaming inl->Ì
open Option.some renaming inj->Î,injEq->ù
open Go renaming Value->Ï,undef->Ð,laidMetH->è,World->í,Frame->î,DataW->ð,TypeId->ö,IntKind->ø
open Go.Frame renaming enter->Ñ
open List renaming getElem?_eq_getElem->Ó,take->Ô,drop->Õ,getElem?_map->Ý,replicate->ê,range->ô,map->þ
open Go.Lib renaming tabData->Ø
open Go.World renaming cell?->Ú,var?->ó
variable{i n j b k m J j9 j7 j6:Nat}{w u W jX:í}{e t T:ö}{d q:Array Ï}{P:Go.Program}{y:Go.Act}{B:ByteArray}{X:Nat->Prop}{O:Option Go.Addr}{l:List Ï}{L:List Go.Item}{jJ:List Nat}{qX:List î}{zQ:List Int}{xJ:Nat×Nat}{vQ:Ï->í->Prop}{Q:Array Go.Oper}{f:î}
namespace Go.Proofs.Y.lS
open Go Go.Conc Go.Proofs Go.RowKit Go.Proofs.Y.Lift Go.Proofs.Y.iz Go.Proofs.Y.fw Go.Proofs.Y.vg
open Go.Proofs.YtgpphkdoanciiaaGreatDoor (Rows.laid_math_bits_deBruijn32tab Rows.laid_math_bits_deBruijn64tab Rows.laid_internal_strconv_uint64pow10 Rows.laid_attic_attic_stepRules)
def L0:List (String×DataW Unit):=[("math/bits.deBruijn32tab",Ä),("math/bits.deBruijn64tab",Å),("internal/strconv.uint64pow10",É),("attic/attic.stepRules",Ç)]
theorem L3(h:W.ShapedOpen À)(g:Nat)(t:ö)(b:g<À.globals.size)(e:(((begin À (λ_ _=>0) default).world.heap[g]?).bind Obj.row?).map (·.2)=Æ t): ∃a,W.heap[g]?=Æ (.cells a t):=by let⟨⟨z,c⟩,d,f⟩:=Ö.1 e;let⟨a,i,_⟩:=h.1 g z c b d;grind
theorem aa1{n:String}(b:À.globalNamed n=Æ i)(h:W.heap[i]?=Æ (.cells q t xJ))(a:W.var? À n=Æ d):q=d:=by unfold ó at a;grind
def Tz{n:String}{N:Nat}{k:ø}{p:List MemPlace} (a:À.globalNamed n=Æ i) (f:(À.globals[i]?).map (·.type)=Æ t) (h:À.underlying t=Æ (.array N e)) (l:À.underlying e=Æ (.int k)) (m:À.cellsOf e=1) (o:À.cellsOf t=N) (r:W.heap[i]?=Æ (.cells d t xJ)) (s:À.globalNamed n=Æ b) (u:(À.globals[b]?).map (·.type)=Æ T) (v:W.var? À n=Æ q) (w:Ê (λ_=>()) À W 0 (λ_=>true) false j T q.toList=Æ (Ø k zQ,p)):d=(zQ.map λz=>Ò k z).toArray:=by obtain rfl:=Î<|a.symm.trans s;obtain rfl:=Î<|f.symm.trans u;rw[aa1 a r v,<-Lib.cells_of_tab h l m o w]
def arj:À.cellsOf 299=3:=fl
def aa2:À.cellsOf 36=1:=fl
def ark:À.cellsOf 3=1:=fl
def arl:À.cellsOf 300=69:=fl
def arn{p:List MemPlace}(v:Ê (λ_=>()) À W 0 (λ_=>true) false n 300 l=Æ (Ç,p)): l.length=69/\∀(i:Nat) (r:Int×Int×Int),iT[i]?=Æ r->l[i*3]?=Æ (Ò .u64 r.1)/\l[i*3+1]?=Æ (Ò .i64 r.2.1)/\l[i*3+2]?=Æ (Ò .i64 r.2.2):=by
 obtain⟨f,m,rfl,w,y,K,z⟩:=DataW.trod_array Tryz.underlying300 v;refine⟨y.trans arl,λi r o=> ?_⟩;have B:i<23:=by have:=(List.getElem?_eq_some_iff.1 o).1;exact this
 have g:=z i B;rw[arj]at g;have C:f.map (·.1)=iT.map λr=>(ā [.lit<|.int .u64 r.1,.lit<|.int .i64 r.2.1,.lit<|.int .i64 r.2.2]:ð Unit):=by have:=congrArg Prod.fst w;simp only[Ç,DataW.agg.injEq]at this;exact this.symm
 obtain⟨x,q⟩:∃x,f[i]?=Æ x:=⟨_,Ó Z⟩;rw[q]at g;have d:(f.map (·.1))[i]?=Æ x.1:=by simp[q]
 rw[C]at d;simp only[Ý,o,Option.map_some,ù]at d;obtain⟨e,h,rfl,j,L,D,k⟩:=DataW.trod_struct Tryz.underlying299 g;have a:=k 0 _ U;have b:=k 1 _ U;have c:=k 2 _ U;have a:Ê _ À W 0 _ false h 36 (Ô (À.cellsOf 36)<|Õ 0<|Ô 3<|Õ (i*3) l)=e[0]?:=a;have b:Ê _ À W 0 _ false h 3 (Ô (À.cellsOf 3)<|Õ 1<|Ô 3<|Õ (i*3) l)=e[1]?:=b;have c:Ê _ À W 0 _ false h 3 (Ô (À.cellsOf 3)<|Õ 2<|Ô 3<|Õ (i*3) l)=e[2]?:=c;rw[aa2]at a;rw[ark]at b c;match e,D,j,a,b,c with
 |[y0,y1,y2],_,j,a,b,c=>
  let⟨M,E,F,_⟩:=Ù Þ (show Ê _ _ _ _ _ _ _ 36 _=Æ y0 from a);let⟨N,G,H,_⟩:=Ù ß (show Ê _ _ _ _ _ _ _ 3 _=Æ y1 from b);let⟨O,I,J,_⟩:=Ù ß (show Ê _ _ _ _ _ _ _ 3 _=Æ y2 from c);subst F;subst H;subst J;rw[j]at d;simp only[List.map_cons,List.map_nil,DataW.agg.injEq,List.cons.injEq,DataW.lit.injEq,Lit.int.injEq,true_and,and_true]at d;obtain⟨rfl,rfl,rfl⟩:=d;have s:=congrArg (·[0]?) E;have t:=congrArg (·[0]?) G;have u:=congrArg (·[0]?) I;simp[List.getElem?_take,List.getElem?_drop]at s t u;exact⟨s,t,u⟩
def aa3(h:∀v∈d.toList,∃k n,v=Ò k n):fM (kO X i) d d:=oS λv a=>by obtain⟨k,n,rfl⟩:=h v a;exact .iC _ _
def aro{l:List (String×DataW Unit)}(h:è P l W)(a:(l.filter λx=>x.2.handleName?.isSome)=[]):∃b,DataW.LaidVars P W l b:=by unfold è at h;rw[a]at h;exact⟨h.choose,h.choose_spec.1⟩
def arp:À.cellsOf 304=32:=fl
def arq:À.cellsOf 305=64:=fl
def ars:À.cellsOf 291=20:=fl
def aa4:À.cellsOf 5=1:=fl
def gn1:À.globalNamed "internal/strconv.uint64pow10"=Æ 1:=fl
def gn2:À.globalNamed "attic/attic.stepRules"=Æ 2:=fl
def gn3:À.globalNamed "math/bits.deBruijn32tab"=Æ 3:=fl
def gn4:À.globalNamed "math/bits.deBruijn64tab"=Æ 4:=fl
def L4(g:Nat)(t:ö)(h:(g,t)∈[(1,291),(2,300),(3,304),(4,305)]):(À.globals[g]?).map (·.type)=Æ t/\g<À.globals.size/\(((begin À (λ_ _=>0) default).world.heap[g]?).bind Obj.row?).map (·.2)=Æ t:=by
 simp only[List.mem_cons,List.not_mem_nil,or_false,Prod.mk.injEq]at h;rcases h with⟨rfl,rfl⟩|⟨rfl,rfl⟩|⟨rfl,rfl⟩|⟨rfl,rfl⟩
 .exact⟨fl,of_decide_eq_true fl,fl⟩
 .exact⟨fl,of_decide_eq_true fl,fl⟩
 .exact⟨fl,of_decide_eq_true fl,fl⟩
 .exact⟨fl,of_decide_eq_true fl,fl⟩
def aru:ð Unit->Int
 |.lit (.int _ z)=>z
 |_=>0
def aa5:ð Unit->List Int
 |ā l=>l.map aru
 |_=>[]
def arv:(Ä:ð Unit)=Ø .u8 (aa5 Ä):=rfl
def arw:(Å:ð Unit)=Ø .u8 (aa5 Å):=rfl
def arx:(É:ð Unit)=Ø .u64 Lib.pow10Tab:=rfl
def arz{k:ø}:∀v∈(zQ.map λz=>Ò k z).toArray.toList,∃k n,v=Ò k n:=λv a=>by simp only[List.mem_map]at a;obtain⟨z,_,rfl⟩:=a;exact⟨_,_,U⟩
def arA(k:Nat)(h:k<69):∃i j,i<23/\j<3/\k=i*3+j:=⟨k/3,k%3,Z,Z,Z⟩
theorem arB{W:í}(hs:W.ShapedOpen À)(hl:è À L0 W):mU W:=by
 obtain⟨ps,g3,t3,cs3,f3,p3,q3,Tn,ht3,hv3,wq,⟨g4,t4,cs4,f4,p4,q4,hg4,F1,hv4,Ru,⟨g1,t1,cs1,f1,p1,q1,va,AB,hv1,A3,⟨g2,t2,cs2,f2,p2,q2,Kn,Im,Lq,oc,_,_⟩,_⟩,_⟩,_⟩:=aro hl (by kernel_rfl);obtain⟨y1,s1,z1⟩:=L4 1 291 (by simp);obtain⟨y2,s2,z2⟩:=L4 2 300 (by simp);obtain⟨y3,s3,z3⟩:=L4 3 304 (by simp);obtain⟨y4,s4,z4⟩:=L4 4 305 (by simp);obtain⟨c1,b1⟩:=L3 hs 1 291 s1 z1;obtain⟨c2,b2⟩:=L3 hs 2 300 s2 z2;obtain⟨c3,b3⟩:=L3 hs 3 304 s3 z3;obtain⟨c4,b4⟩:=L3 hs 4 305 s4 z4;rw[arv]at wq;rw[arw]at Ru;rw[arx]at A3;have e3:=Tz gn3 y3 Tryz.underlying304 à aa4 arp b3 Tn ht3 hv3 wq;have e4:=Tz gn4 y4 Tryz.underlying305 à aa4 arq b4 hg4 F1 hv4 Ru;have e1:=Tz gn1 y1 Tryz.underlying291 Þ aa2 ars b1 va AB hv1 A3;obtain rfl:=Î (gn2.symm.trans Kn);obtain rfl:=Î (y2.symm.trans Im);obtain⟨hlen,lX⟩:=arn oc;have e2:=aa1 gn2 b2 Lq;subst e2;have arC:=λi r hr=>by have:=lX i r hr;simpa using this
 have aa6:∀(k:Nat) (v:Ï),c2[k]?=Æ v->∃(kd:ø) (n:Int),v=Ò kd n/\kd≠.u8:=λk v hv=>by
  have hk:k<69:=by grind
  obtain⟨i,j,hi,hj,rfl⟩:=arA k hk;obtain⟨r,hr⟩:∃r,iT[i]?=Æ r:=⟨_,Ó (show i<iT.length from hi)⟩;grind
 have jC:=(Array.getElem?_eq_some_iff.1 b4).1;refine⟨?_,?_,⟨c3,_,b3,Ë _,Ë _,?_,?_⟩,⟨c4,_,b4,Ë _,Ë _,?_,?_⟩,?_,⟨⟨c2,_,b2⟩,λi r hr=> ?_⟩,?_⟩
 .have h5:nB=5:=by kernel_rfl
  omega
 .rintro b (rfl|rfl)
  .refine⟨c1,291,_,b1,Ë _,aa3 (by rw[e1];exact arz),by rw[e1];exact of_decide_eq_true (by kernel_rfl),λk v hv=> ?_,by decide,by decide⟩;rw[e1]at hv;simp only[List.getElem?_toArray,Ý,Ö]at hv;obtain⟨z,_,rfl⟩:=hv;rfl
  .refine⟨c2,300,_,b2,Ë _,aa3 λv hv=> ?_,?_,λk v hv=> ?_,by decide,by decide⟩
   .obtain⟨k,hk,e⟩:=List.mem_iff_getElem.1 hv;obtain⟨kd,n,e',_⟩:=aa6 k v (by rw[<-e];simp);grind
   .grind
   .obtain⟨kd,n,rfl,hn⟩:=aa6 k v hv;cases kd<;>first|rfl|exact absurd rfl hn
 .rw[e3];exact of_decide_eq_true (by kernel_rfl)
 .grind
 .rw[e4];exact of_decide_eq_true (by kernel_rfl)
 .grind
 .unfold iz.lh Lib.TabIs ó;rw[gn1];grind
 .obtain⟨h0,h1,h2⟩:=arC i r hr;exact⟨by simp only[Ú,b2];exact h0,by simp only[Ú,b2];exact h1,by simp only[Ú,b2];exact h2⟩
 .unfold pK;simp only[Ú,b4,e4];rfl
end Go.Proofs.Y.lS
namespace Go.Proofs.Y.lS
open Go Go.Conc Go.Proofs Go.RowKit Go.Proofs.Y.Lift Go.Proofs.Y.iz Go.Proofs.Y.fw Go.Proofs.Y.vg
open Go.Proofs.YtgpphkdoanciiaaGreatDoor (Rows.workersSpec Rows.workersRow Rows.WorkersSaid Tryz.pinned)
open Go.ChangeShapes Go.WideShapes Go.ChangeAt
def fi:ownKnob À.godebug=á:=fl
def arD:laidOutB À=true:=fl
def arE{w':í}(h:mY W w')(a:w'.os=W.os)(b:w'.output=W.output):Below W.heap.size W {w' with tape:=W.tape}:=⟨a,U,b,h.Cm,h.qz⟩
def arF(os:Os)(a:Array Ï):è À L0 ((World.doorLaid À 400 os).forCall (λ_ _=>0) ⟨#[],a,[]⟩).memory:= laidMetH_of_parts3 (fuel:=8) (laidMet_of_run' 8 fl fl) fl fl
end Go.Proofs.Y.lS
namespace Go.Proofs.Y.lS
open Go Go.Conc Go.Proofs Go.RowKit Go.Proofs.Y.Lift Go.Proofs.Y.iz Go.Proofs.Y.fw Go.Proofs.Y.vg
open Go.Conc.Lib Go.ConcR.Gen Go.Proofs.YtgpphkdoanciiaaGreatDoor
section
variable{l:e7}
def aa7(h:iW l)(p:nB<=l.w.heap.size)(r:B.size<=maxLen) (s:∀a,iW a->(∀b,l.O b->a.O b/\a.w.heap[b]?=l.w.heap[b]?)->l.w.heap.size<=a.w.heap.size->jf vQ a (G (f.at (y.put ((Q[i]?).bind (·.dst))<|.tuple #[Ò .i64 (iu B).1,Ò .i64 (iu B).2.1])<|.inRegion Q jJ::L) qX)): jf vQ l (G (Ñ À 25 #[È B] .normal)<|f.at y (.inRegion Q (i::jJ)::L)::qX):=by
 have hF:=trivial;rw[enter_at #[È B] Û U];have e:(#[È B]++Array.replicate (Tryz.f25.ntmps-(#[È B]:Array Ï).size) Ð:Array Ï)=#[È B,Ð,Ð,Ð,Ð,Ð,Ð,Ð,Ð,Ð,Ð,Ð,Ð,Ð,Ð]:=fl
 rw[e];clear e;apply ov;apply fZ (n:=20) h.r.r;repeat w_go fA
 refine Â λ_ _=> ?_;refine xl (f:=36) (args:=#[È B]) U fP (by k_ne) h.r.r (λw=>by go_simp) (λw=>Á U Tryz.func36 U U #[]) λx c=> ?_;have j:=h.C c;refine fw.ff.lE ?_<|aaI j.r j.q (Ã p c.r) r true _ _;rintro o z ⟨d,t,v,rfl,_⟩;have k:=kn.Bg j d t;have m:∀b,l.O b->o.O b/\o.w.heap[b]?=l.w.heap[b]?:=λb q=>⟨d.O b q,(d.r.I b<|Ì q).trans<|c.I b<|Ì q⟩;have u:=Ã c.r d.r.r;rw[Frame.finish_at];generalize(iu B).1=er at*;generalize(iu B).2.1=Tt at*;walk_nrm;apply fZ (n:=40) k.r.r;repeat w_go fA
 u_in fA hF
 refine goes_leave2 U U Û U ⟨by u_nil,?_⟩;refine Â λ_ _=> ?_;exact .fv λC g=>⟨k.C g,U,s _ (k.C g) (λb q=>⟨(m b q).1,(g.I b<|Ì (m b q).1).trans (m b q).2⟩)<|Ã u g.r⟩
end
def arG(s:List fJ)(B:ByteArray):(mW s B).2.1=(iu B).1:=by
 unfold mW;split
 .rename_i h;exact h.symm
 .rfl
def arH{s:List fJ}(h:(iu B).1≠0):mW s B=(⟨#[]⟩,(iu B).1,s):=if_neg h
def xn:ByteArray:=⟨#[114,104,59,117,104,59,108,104]⟩
def arI:(iu xn).1=0:=fl
def arJ:fL (mD (iu xn).2.2) (iu xn).2.2.length=0:=fl
def aa8(s:List fJ):(mW s xn).2.2=s:=by unfold mW;rw[if_pos arI];show zp _ _=_;unfold zp;rw[arJ];rfl
def arK:iu ⟨#[98,48,58,105]⟩=(2,3,[]):=fl
structure ow(ig l:e7)(x nx:Nat)(s:List fJ):Prop where
 a:∃sl V,nD l x nx s sl V/\∀b,V b->(b=1\/b=2\/b=3\/b=4)\/ig.w.heap.size<=b
 C:∀b,ig.O b->l.O b/\l.w.heap[b]?=ig.w.heap[b]?
 I:ig.w.heap.size<=x
 M:ig.w.heap.size<=l.w.heap.size
section
variable{ig l c:e7}{x nx:Nat}{s t:List fJ}
def ow.r(h:ow ig l x nx s)(r:fE l l.w u):ow ig {l with w:=u} x nx s:=by let⟨c,V,d,e⟩:=h.a;exact⟨⟨c,V,d.N r,e⟩,λb q=>⟨(h.C b q).1,(r.I b<|Ì (h.C b q).1).trans (h.C b q).2⟩,h.I,Ã h.M r.r⟩
def ow.N(h:ow ig l x nx s)(d:∀b,l.O b->c.O b/\c.w.heap[b]?=l.w.heap[b]?)(e:l.w.heap.size<=c.w.heap.size):ow ig c x nx s:=by let⟨f,V,g,i⟩:=h.a;exact⟨⟨f,V,g.S (λb q=>(d b q).1) (λb q=>(d b q).2) e,i⟩,λb q=>⟨(d b (h.C b q).1).1,(d b (h.C b q).1).2.trans (h.C b q).2⟩,h.I,Ã h.M e⟩
def ow.S(h:ow ig l x nx s):nB<=l.w.heap.size:=by let⟨_,_,a,_⟩:=h.a;exact a.r.fq
def TA(h:ow ig l x nx s)(j:gp ig)(k:iW l)(m:B.size<=maxLen) (n:∀c,iW c->ow ig c x nx (mW s B).2.2->jf vQ c (G (f.at (y.put ((Q[i]?).bind (·.dst))<|.tuple #[È (mW s B).1,Ò .i64 (mW s B).2.1])<|.inRegion Q jJ::L) qX)): jf vQ l (G (Ñ À 17 #[Í<|Æ ⟨x,0,á⟩,È B] .normal)<|f.at y (.inRegion Q (i::jJ)::L)::qX):=by
 let⟨D,V,d,o⟩:=h.a;refine aaS k d m (λ_=>aaW (by let⟨_,_,q,_⟩:=d.I;exact q)) λc e ⟨p,r,t,g,u⟩=>n c e ⟨⟨r,t,g,λb q=> ?_⟩,λb q=> ?_,h.I,?_⟩
 .rcases u b q with z|z|z
  .exact o b z
  .exact Ì z
  .exact Or.inr<|Ã h.M z
 .have E:=j.fq b<|Ì q;have F:=h.I;let⟨z,v⟩:=h.C b q;let⟨w,C⟩:=p b z Z;exact⟨w,C.trans v⟩
 .have:=e.r.fq x<|Ì g.fi;have:=h.I;omega
end
noncomputable def L5:Code:=lu ì [1,1,1,0,1,0,0]
noncomputable def aa9:Code:=lu ì [1,1,1,1]
noncomputable def Ew (a:Array Ï):Goroutine:=G ((base 9).at ⟨a,[]⟩<|.code L5::.inLoop L5::[.inBlock 0,.code aa9]) []
structure RF(bv:Ï)(x j:Nat)(tt:Array Ï):Prop where
 r:tt.size=85
 C:tt[0]?=Æ bv
 I:tt[5]?=Æ (Í<|Æ ⟨x,0,á⟩)
 M:tt[6]?=Æ (Ò .i64 j)
section
variable{a l:e7}{x:Nat}{s t:List fJ}{f:Nat->ByteArray}{tt:Array Ï}
def arL(h:ow a l x b s)(d:iW l)(c:RF (Ü O i n) x i tt)(D:i<=9223372036854775807) (q:∀e,iW e->ow a e x b s->vQ (ñ true) e.w):jf vQ l (Ew tt):=by
 have hF:True:=trivial;obtain⟨u,rfl⟩:=yk tt c.r;have r:u 0=Ü O i n:=by simpa using c.C
 have v:u 5=Í (Æ ⟨x,0,á⟩):=by simpa using c.I
 have y:u 6=Ò .i64 i:=by simpa using c.M
 clear c;apply ov;apply fZ (n:=60) d.r.r;simp only[Ew,ô,List.range.loop,þ,r,v,y];conv in L5=>whnf
 conv in aa9=>whnf
 repeat w_go fA
 refine Â λ_ _=> ?_;refine .fv λE g=>⟨d.C g,U,?_⟩;have j:=d.C g;have z:=h.r g;refine zq (f:=25) (args:=#[È ⟨#[98,48,58,105]⟩]) j U fP (by k_ne) (λw=>by go_simp) (λw=>Á U Û U U #[]) λF k=> ?_;have m:=z.r k;refine aa7 (j.C k) m.S A λG o B C=> ?_;rw[arK];walk_nrm;apply aqt;apply fZ (n:=60) o.r.r;repeat w_go fA
 refine Â λ_ _=> ?_;exact .fv λH p=>⟨U,ñ true,λw=>aq9 (t:=4) U U õ U fl,q _ (o.C p)<|(m.N B C).r p⟩
end
section
variable{g l:e7}{x:Nat}{s t:List fJ}{f:Nat->ByteArray}
def arM(h:ow g l x b s)(H:gp g)(I:iW l)(hx:zt g O i f)(p:RF (Ü O i n) x j d)(hN:i<=9223372036854775807)(hj:j<i) (z:∀c tt',iW c->ow g c x b (mW s<|f j).2.2->RF (Ü O i n) x (j+1) tt'->jf vQ c (Ew tt')):jf vQ l (Ew d):=by
 have hF:True:=trivial;obtain⟨u,rfl⟩:=yk d p.r;have e0:u 0=Ü O i n:=by simpa using p.C
 have e5:u 5=Í (Æ ⟨x,0,á⟩):=by simpa using p.I
 have e6:u 6=Ò .i64 j:=by simpa using p.M
 clear p;obtain⟨jC,C,J,rfl,_,_⟩:=hx j hj;have see:∀{c:e7},(∀e,g.O e->c.O e/\c.w.heap[e]?=g.w.heap[e]?)->c.O C/\c.w.cell? ⟨C,J+j,á⟩=Æ (È<|f j):=λ{c} k=>by let⟨_,r,t,e,m,o⟩:=(hx.r k) j hj;cases e;exact⟨m,o⟩
 apply ov;apply fZ (n:=60) I.r.r;simp only[Ew,ô,List.range.loop,þ,e0,e5,e6];conv in L5=>whnf
 repeat w_go fA
 refine Â λ_ _=> ?_;refine xl (f:=22) (args:=#[Í<|Æ ⟨x,0,á⟩]) U fP (by k_ne) I.r.r (λw=>by go_simp) (λw=>Á U ò U U #[]) λw₁ mM=> ?_;have D:=I.C mM;have K:=h.r mM;let⟨sl,V,p7,_⟩:=K.a;apply Ty D p7;clear p7;walk_nrm;apply fZ (n:=60) D.r.r;repeat w_go fA
 refine Â λ_ _=> ?_;refine .fv λzK L=>⟨D.C L,U,?_⟩;have hb2:=D.C L;have h2:=K.r L;refine zq (f:=17) (args:=#[Í<|Æ ⟨x,0,á⟩,È ⟨#[114,104,59,117,104,59,108,104]⟩]) hb2 U fP (by k_ne) (λw=>by go_simp) (λw=>Á U ã U U #[]) λCJ abb=> ?_;refine TA (B:=xn) (h2.r abb) H (hb2.C abb) A λl4 r F=> ?_;rw[aa8]at F;obtain⟨e,hA⟩:∃e,(mW s xn).1=e:=⟨_,U⟩;rw[hA];generalize(mW s xn).2.1=E0;clear h K h2;walk_nrm;apply ov;apply fZ (n:=60) r.r.r;repeat w_go fA
 refine Â λ_ _=> ?_;let⟨tH,hc4⟩:=see F.C;apply nJ (x:=⟨C,J+j,á⟩) (v:=È<|f j) U fP (by k_ne) r.r.r r.q (Ì<|Ì tH) hc4 (λw h=>by go_simp) (λw h=>by simp[go_sem,h]);walk_nrm;refine .fv λDd M=>⟨r.C M,U,?_⟩;have pZ:=r.C M;have N:=F.r M;refine zq (f:=25) (args:=#[È<|f j]) pZ U fP (by k_ne) (λw=>by go_simp) (λw=>Á U Û U U #[]) λaq8 P=> ?_;refine aa7 (pZ.C P) (N.r P).S jC λl7 t hk7 hs7=> ?_;have Q:=(N.r P).N hk7 hs7;clear hk7 hs7 F N hc4;obtain⟨E,T⟩:∃E,(iu<|f j).1=E:=⟨_,U⟩;generalize(iu<|f j).2.1=Tt;rw[T];walk_nrm;apply ov;apply fZ (n:=60) t.r.r;repeat w_go fA
 refine Â λ_ _=> ?_;let⟨hO7,hc7⟩:=see Q.C;apply nJ (x:=⟨C,J+j,á⟩) (v:=È<|f j) U fP (by k_ne) t.r.r t.q (Ì<|Ì hO7) hc7 (λw h=>by go_simp) (λw h=>by simp[go_sem,h]);walk_nrm;refine .fv λX3 W=>⟨t.C W,U,?_⟩;have hb8:=t.C W;have h8:=Q.r W;refine zq (f:=17) (args:=#[Í<|Æ ⟨x,0,á⟩,È<|f j]) hb8 U fP (by k_ne) (λw=>by go_simp) (λw=>Á U ã U U #[]) λyv rW=> ?_;refine TA (h8.r rW) H (hb8.C rW) jC λl10 o y=> ?_;rw[arG,T];clear Q h8 hc7;by_cases X:E=0
 .subst X;generalize(mW s<|f j).1=S;walk_nrm;apply ov;apply fZ (n:=80) o.r.r;repeat w_nl fA
  w_go fA
  refine Â λ_ _=> ?_;refine .fv λarN m=>⟨o.C m,U,z _ _ (o.C m) (y.r m) ⟨U,U,U,?_⟩⟩;simp;exact IntWalk.i64_in _ ⟨Z,Z⟩
 .have E3:=arH (s:=s) (B:=f j) (by rwa[T]);have kQ:(E !=0)=true:=by rwa[bne_iff_ne]
  rw[E3]at y z|-;dsimp only at y z|-;walk_nrm;apply ov;apply fZ (n:=80) o.r.r;repeat w_nl fA
  refine Â λ_ _=> ?_;refine .fv λasB Y=>⟨o.C Y,U,?_⟩;have abd:=o.C Y;have Re:=y.r Y;refine zq (f:=17) (args:=#[Í<|Æ ⟨x,0,á⟩,È ⟨#[114,104,59,117,104,59,108,104]⟩]) abd U fP (by k_ne) (λw=>by go_simp) (λw=>Á U ã U U #[]) λasC abe=> ?_;refine TA (B:=xn) (Re.r abe) H (abd.C abe) A λl13 TB h13=> ?_;rw[aa8]at h13;rw[hA];generalize(mW s xn).2.1=E1;clear y Re;walk_nrm;apply ov;apply fZ (n:=80) TB.r.r;repeat w_nl fA
  refine Â λ_ _=> ?_;refine xl (f:=22) (args:=#[Í<|Æ ⟨x,0,á⟩]) U fP (by k_ne) TB.r.r (λw=>by go_simp) (λw=>Á U ò U U #[]) λasD abf=> ?_;have G:=TB.C abf;have h14:=h13.r abf;let⟨GI,V2,yt,_⟩:=h14.a;apply Ty G yt;clear yt;walk_nrm;apply fZ (n:=80) G.r.r;repeat w_nl fA
  w_go fA
  refine Â λ_ _=> ?_;refine .fv λarN m=>⟨G.C m,U,z _ _ (G.C m) (h14.r m) ⟨U,U,U,?_⟩⟩;simp;exact IntWalk.i64_in _ ⟨Z,Z⟩
end
noncomputable def TC (x y:Ï) (a:List î):Goroutine:=G ((base 9).at ⟨(x::y::ê 83 Ð).toArray,[]⟩ [.code<|lu ì []]) a
def arO(x y:Ï)(a:List î):G (Ñ À 9 #[x,y] .normal) a=TC x y a:=by unfold TC;rw[enter_at #[x,y] õ (c:=lu ì []) fl];kernel_rfl
section
variable{a l:e7}{c:Nat}{s t:List fJ}{f:Nat->ByteArray}
def abg(q:gp a)(r:zt a O i f)(k:i<=9223372036854775807)(t:∀g s,iW g->ow a g n b s->vQ (ñ true) g.w):∀(m j:Nat) (l:e7) (s:List fJ) (d:Array Ï),i-j=m->j<=i->ow a l n b s->iW l->RF (Ü O i c) n j d->jf vQ l (Ew d)
 |0,j,l,s,d,hm,hj,h,hb,hT=>by
  have e:j=i:=Z
  subst e;exact arL h hb hT k λg o p=>t g s o p
 |m+1,j,l,s,d,hm,hj,h,hb,hT=>arM h q hb r hT k Z λg e o p u=>abg q r k t m (j+1) g _ e Z Z p o u
def arP(o:iW l)(r:mU l.w)(t:∀a,a=1\/a=2\/a=3\/a=4->l.O a)(B:zt l O i f)(C:i<=9223372036854775807)(m:Int)(D:-9223372036854775808<=m)(E:m<=9223372036854775807) (F:∀g,iW g->(∀a,l.O a->g.O a/\g.w.heap[a]?=l.w.heap[a]?)->l.w.heap.size<=g.w.heap.size->vQ (ñ true) g.w): jf vQ l (G (Ñ À 9 #[Ü O i c,Ò .i64 m] .normal) []):=by
 have hF:True:=trivial;rw[arO];simp only[TC,ê];conv in lu _ _=>whnf
 apply ov;apply fZ (n:=40) o.r.r;repeat w_go fA
 refine Â λ_ _=> ?_;refine .fv λL p=>⟨o.C p,U,?_⟩;have u:=o.C p;refine zq (f:=15) (args:=#[Ò .i64 m]) u U fP (by k_ne) (λw=>by go_simp) (λw=>Á U Tryz.func15 U U #[]) λx j=> ?_;have k:fE l l.w x:=p.fc ⟨j.r,j.I,j.N,j.Y,j.S⟩;refine aq3 (u.C j) (r.r (Ã r.fq k.r) λa q=>k.I a<|Ì<|t a q) t m D E λH n b I V h d=> ?_;have M:=h.r.fq n<|Ì d.r.fi;have N:x.heap.size<=n:=d.I;have J:ow l H n b [iz.mA]:=⟨⟨I,V,d.r,λa q=>(d.M a q).imp id λz=>Ã k.r z⟩,λa q=>⟨(d.C a q).1,(d.C a q).2.trans<|k.I a<|Ì q⟩,Ã k.r d.I,Ã k.r Z⟩;clear d;walk_nrm;apply ov;apply fZ (n:=40) h.r.r;repeat w_go fA
 refine Â λ_ _=> ?_;apply uQ (v:=ñ false) U fP (by k_ne) h.r.r h.q (λw _=>by go_simp) (λw _ e y=>by simp[go_sem,aaX]at y);walk_nrm;apply fZ (n:=60) h.r.r;repeat w_bar fA
 w_go fA
 refine Â λ_ _=> ?_;exact .fv λP e=>⟨h.C e,U,abg o.r B C (λg s K y=>F g K y.C y.M) i 0 _ _ _ Z (Ë _) (J.r e) (h.C e) ⟨U,U,U,U⟩⟩
end
def arQ(d:mU W){N c:Nat}{f:Nat->ByteArray}(e:zt (LZ W) O N f)(g:N<=9223372036854775807)(a:Int)(h:-9223372036854775808<=a)(i:a<=9223372036854775807): rv (λv w'=>v=ñ true/\mY W w') #[G (Ñ À 9 #[Ü O N c,Ò .i64 a] .normal) []] W á #[]:= ara (l:=LZ W) (arP (aa0 W) d (arb d) e g a h i λk _ v j=>⟨U,λb q=>(v b q).2,j⟩) (aa0 W) U
end Go.Proofs.Y.lS
