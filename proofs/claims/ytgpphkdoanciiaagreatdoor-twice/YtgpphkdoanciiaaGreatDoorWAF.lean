import Derived.Test.YtgpphkdoanciiaaGreatDoorWAE
import Derived.Lib.LaidTab
import Derived.OpenShut
import Derived.Test.YtgpphkdoanciiaaGreatDoorRows
import Derived.Conc.LeavingOf
import Derived.LaidMore
import Derived.Stop.Joined
import Derived.Carry
import Derived.Orders
set_option linter.all false
set_option maxRecDepth 1000000
set_option maxHeartbeats 8000000
open Go.Proofs.Tryz renaming prog->À,func10->ê,func17->ă,underlying36->ċ,t9->Ď,underlying25->ď,underlying3->Ē,underlying5->Ĕ,func24->Ě,func26->ě,func16->Ĝ,f10->Ĳ,type9->ĵ,f24->Ł
open Go.Value renaming string->Á,pointer->Æ,int->È,bool->Ï,slice->æ
open Option renaming some->Â,none->Ù,map_eq_some_iff->ù,bind_some->ė,map_some->Ğ
open Go.Conc.Goes renaming stop->Ã
open Bool renaming true->Ä,false->ã,and_eq_true->ø
open Go.Conc renaming events_call_body->Å
open Go renaming Value->Ç,maxLen->Ò,World->Ý,yielded->Ą,execOp->Ĉ,Oper->Ę,laidMetH->Ģ,Frame->Ħ,Goroutine->Ĩ,DataW->Į,Act->ĳ,TypeId->Ķ,IntKind->ķ,Code->ŀ,undef->ł
open List renaming range->É,getElem?_eq_getElem->ß,nil_append->à,mem_range->ä,drop_eq_getElem_cons->ë,extract_eq_take_drop->ì,getElem?_map->í,mem_cons->ï,take->ñ,drop->ò,getD->ó,flatMap_eq_nil_iff->ô,cons_append->õ,all_eq_true->ö,drop_eq_nil_of_le->û,replicate->Ă,getElem?_drop->Ć,length_append->ĉ,mem_singleton->Ċ,take_add_one->Č,map->č,not_mem_nil->ē,append_nil->ğ,mem_append->Ġ,map_cons->Ĥ,all_cons->ĥ,map_nil->Ī,mem_map->ī
open ByteArray renaming size->Ê,data_extract->Ô,size_append->å,data_append->ý,ext->ą,extract->Ĺ
open Go.Proofs.YtgpphkdoanciiaaGreatDoor.Rows renaming laid_math_bits_deBruijn32tab->Ë,laid_math_bits_deBruijn64tab->Ì,laid_attic_attic_stepRules->Ð,laid_internal_strconv_uint64pow10->Ú
open Go.Item renaming inRegion->Í,code->İ
open Nat renaming le_refl->Î,zero_le->Ó,le_trans->ú,one_pos->ę,zero_add->ĭ
open Array renaming length_toList->Ñ,getElem?_eq_some_iff->Û,toList_extract->Ü,getElem?_eq_getElem->Þ,getElem_toList->è,mem_toList_iff->ā
open Or renaming inl->Õ,inr->ĕ
open Option.some renaming inj->Ö,injEq->ĸ
open Go.IntKind renaming i64->Ø,u8->ľ
open List.range renaming loop->á
open Go.DataW renaming trod->â,trod_int->ÿ,agg->ņ
open Go.Region renaming wanted->ç
open Go.Frame renaming enter->é,finish_at->ġ
open Go.Obj renaming cells->î,row?->Ŀ
open Go.Instr renaming sliceAt->ð,sliceBound->Ė,slice->ı
open UInt8 renaming toNat_inj->ü,ofNat->į
open Go.Lib renaming tabData->þ
open Go.World renaming cell?->Ā,var?->Ĵ
variable{i n j b k m J j9 j7 j6:Nat}{w u W jX:Ý}{v x z jQ:Ç}{h c:Int}{e t T:Ķ}{d q:Array Ç}{P:Go.Program}{y:ĳ}{B:ByteArray}{X:Nat->Prop}{l:List Ç}{yQ:Bool}{K H:ĳ->Ý->Prop}{L:List Go.Item}{jJ:List Nat}{qX:List Ħ}{zQ:List Int}{xJ:Nat×Nat}{wJ:Array Bool}{vX:List ByteArray}{vQ:Ç->Ý->Prop}{Q:Array Ę}{f:Ħ}
namespace Go.Proofs.Y.kZ
open Go Go.Conc Go.Proofs Go.RowKit Go.Proofs.Y.Lift Go.Proofs.Y.gR Go.Proofs.Y.fv Go.Proofs.Y.py
open Go.Proofs.YtgpphkdoanciiaaGreatDoor (Rows.laid_math_bits_deBruijn32tab Rows.laid_math_bits_deBruijn64tab Rows.laid_internal_strconv_uint64pow10 Rows.laid_attic_attic_stepRules)
def MO:List (String×DataW Unit):=[("math/bits.deBruijn32tab",Ë),("math/bits.deBruijn64tab",Ì),("internal/strconv.uint64pow10",Ú),("attic/attic.stepRules",Ð)]
theorem MP(h:W.ShapedOpen À)(g:Nat)(t:Ķ)(b:g<À.globals.size)(e:(((begin À (λ_ _=>0) default).world.heap[g]?).bind Ŀ).map (·.2)=Â t): ∃a,W.heap[g]?=Â (î a t):=by let⟨⟨z,c⟩,d,f⟩:=ù.1 e;let⟨a,i,_⟩:=h.1 g z c b d;grind
theorem ab1{n:String}(b:À.globalNamed n=Â i)(h:W.heap[i]?=Â (î q t xJ))(a:W.var? À n=Â d):q=d:=by unfold Ĵ at a;grind
def Uu{n:String}{N:Nat}{k:ķ}{p:List MemPlace} (a:À.globalNamed n=Â i) (f:(À.globals[i]?).map (·.type)=Â t) (h:À.underlying t=Â (.array N e)) (l:À.underlying e=Â (.int k)) (m:À.cellsOf e=1) (o:À.cellsOf t=N) (r:W.heap[i]?=Â (î d t xJ)) (s:À.globalNamed n=Â b) (u:(À.globals[b]?).map (·.type)=Â T) (v:W.var? À n=Â q) (w:â (λ_=>()) À W 0 (λ_=>Ä) ã j T q.toList=Â (þ k zQ,p)):d=(zQ.map λz=>È k z).toArray:=by obtain rfl:=Ö<|a.symm.trans s;obtain rfl:=Ö<|f.symm.trans u;rw[ab1 a r v,<-Lib.cells_of_tab h l m o w]
def asj:À.cellsOf 299=3:=fu
def ab2:À.cellsOf 36=1:=fu
def asl:À.cellsOf 3=1:=fu
def asn:À.cellsOf 300=69:=fu
def aso{p:List MemPlace}(v:â (λ_=>()) À W 0 (λ_=>Ä) ã n 300 l=Â (Ð,p)): l.length=69/\∀(i:Nat) (r:Int×Int×Int),iY[i]?=Â r->l[i*3]?=Â (È .u64 r.1)/\l[i*3+1]?=Â (È Ø r.2.1)/\l[i*3+2]?=Â (È Ø r.2.2):=by
 obtain⟨f,m,rfl,w,y,K,z⟩:=DataW.trod_array Tryz.underlying300 v;refine⟨y.trans asn,λi r o=> ?_⟩;have B:i<23:=by have:=(List.getElem?_eq_some_iff.1 o).1;exact this
 have g:=z i B;rw[asj]at g;have C:f.map (·.1)=iY.map λr=>(ņ [.lit<|.int .u64 r.1,.lit<|.int Ø r.2.1,.lit<|.int Ø r.2.2]:Į Unit):=by have:=congrArg Prod.fst w;simp only[Ð,DataW.agg.injEq]at this;exact this.symm
 obtain⟨x,q⟩:∃x,f[i]?=Â x:=⟨_,ß Z⟩;rw[q]at g;have d:(f.map (·.1))[i]?=Â x.1:=by simp[q]
 rw[C]at d;simp only[í,o,Ğ,ĸ]at d;obtain⟨e,h,rfl,j,L,D,k⟩:=DataW.trod_struct Tryz.underlying299 g;have a:=k 0 _ U;have b:=k 1 _ U;have c:=k 2 _ U;have a:â _ À W 0 _ ã h 36 (ñ (À.cellsOf 36)<|ò 0<|ñ 3<|ò (i*3) l)=e[0]?:=a;have b:â _ À W 0 _ ã h 3 (ñ (À.cellsOf 3)<|ò 1<|ñ 3<|ò (i*3) l)=e[1]?:=b;have c:â _ À W 0 _ ã h 3 (ñ (À.cellsOf 3)<|ò 2<|ñ 3<|ò (i*3) l)=e[2]?:=c;rw[ab2]at a;rw[asl]at b c;match e,D,j,a,b,c with
 |[y0,y1,y2],_,j,a,b,c=>
  let⟨M,E,F,_⟩:=ÿ ċ (show â _ _ _ _ _ _ _ 36 _=Â y0 from a);let⟨N,G,H,_⟩:=ÿ Ē (show â _ _ _ _ _ _ _ 3 _=Â y1 from b);let⟨O,I,J,_⟩:=ÿ Ē (show â _ _ _ _ _ _ _ 3 _=Â y2 from c);subst F;subst H;subst J;rw[j]at d;simp only[Ĥ,Ī,DataW.agg.injEq,List.cons.injEq,DataW.lit.injEq,Lit.int.injEq,true_and,and_true]at d;obtain⟨rfl,rfl,rfl⟩:=d;have s:=congrArg (·[0]?) E;have t:=congrArg (·[0]?) G;have u:=congrArg (·[0]?) I;simp[List.getElem?_take,Ć]at s t u;exact⟨s,t,u⟩
def ab3(h:∀v∈d.toList,∃k n,v=È k n):fR (k9 X i) d d:=pn λv a=>by obtain⟨k,n,rfl⟩:=h v a;exact .iG _ _
def asq{l:List (String×DataW Unit)}(h:Ģ P l W)(a:(l.filter λx=>x.2.handleName?.isSome)=[]):∃b,DataW.LaidVars P W l b:=by unfold Ģ at h;rw[a]at h;exact⟨h.choose,h.choose_spec.1⟩
def asr:À.cellsOf 304=32:=fu
def asu:À.cellsOf 305=64:=fu
def asv:À.cellsOf 291=20:=fu
def ab4:À.cellsOf 5=1:=fu
def gn1:À.globalNamed "internal/strconv.uint64pow10"=Â 1:=fu
def gn2:À.globalNamed "attic/attic.stepRules"=Â 2:=fu
def gn3:À.globalNamed "math/bits.deBruijn32tab"=Â 3:=fu
def gn4:À.globalNamed "math/bits.deBruijn64tab"=Â 4:=fu
def MQ(g:Nat)(t:Ķ)(h:(g,t)∈[(1,291),(2,300),(3,304),(4,305)]):(À.globals[g]?).map (·.type)=Â t/\g<À.globals.size/\(((begin À (λ_ _=>0) default).world.heap[g]?).bind Ŀ).map (·.2)=Â t:=by
 simp only[ï,ē,or_false,Prod.mk.injEq]at h;rcases h with⟨rfl,rfl⟩|⟨rfl,rfl⟩|⟨rfl,rfl⟩|⟨rfl,rfl⟩
 .exact⟨fu,of_decide_eq_true fu,fu⟩
 .exact⟨fu,of_decide_eq_true fu,fu⟩
 .exact⟨fu,of_decide_eq_true fu,fu⟩
 .exact⟨fu,of_decide_eq_true fu,fu⟩
def asw:Į Unit->Int
 |.lit (.int _ z)=>z
 |_=>0
def ab5:Į Unit->List Int
 |ņ l=>l.map asw
 |_=>[]
def asx:(Ë:Į Unit)=þ ľ (ab5 Ë):=rfl
def asy:(Ì:Į Unit)=þ ľ (ab5 Ì):=rfl
def asz:(Ú:Į Unit)=þ .u64 Lib.pow10Tab:=rfl
def asA{k:ķ}:∀v∈(zQ.map λz=>È k z).toArray.toList,∃k n,v=È k n:=λv a=>by simp only[ī]at a;obtain⟨z,_,rfl⟩:=a;exact⟨_,_,U⟩
def asB(k:Nat)(h:k<69):∃i j,i<23/\j<3/\k=i*3+j:=⟨k/3,k%3,Z,Z,Z⟩
theorem asC{W:Ý}(hs:W.ShapedOpen À)(hl:Ģ À MO W):nz W:=by
 obtain⟨ps,g3,t3,cs3,f3,p3,q3,Um,ht3,hv3,xg,⟨g4,t4,cs4,f4,p4,q4,hg4,GG,hv4,SA,⟨g1,t1,cs1,f1,p1,q1,vG,Bf,hv1,BG,⟨g2,t2,cs2,f2,p2,q2,K9,Jc,Mj,oE,_,_⟩,_⟩,_⟩,_⟩:=asq hl (by kernel_rfl);obtain⟨y1,s1,z1⟩:=MQ 1 291 (by simp);obtain⟨y2,s2,z2⟩:=MQ 2 300 (by simp);obtain⟨y3,s3,z3⟩:=MQ 3 304 (by simp);obtain⟨y4,s4,z4⟩:=MQ 4 305 (by simp);obtain⟨c1,b1⟩:=MP hs 1 291 s1 z1;obtain⟨c2,b2⟩:=MP hs 2 300 s2 z2;obtain⟨c3,b3⟩:=MP hs 3 304 s3 z3;obtain⟨c4,b4⟩:=MP hs 4 305 s4 z4;rw[asx]at xg;rw[asy]at SA;rw[asz]at BG;have e3:=Uu gn3 y3 Tryz.underlying304 Ĕ ab4 asr b3 Um ht3 hv3 xg;have e4:=Uu gn4 y4 Tryz.underlying305 Ĕ ab4 asu b4 hg4 GG hv4 SA;have e1:=Uu gn1 y1 Tryz.underlying291 ċ ab2 asv b1 vG Bf hv1 BG;obtain rfl:=Ö (gn2.symm.trans K9);obtain rfl:=Ö (y2.symm.trans Jc);obtain⟨hlen,my⟩:=aso oE;have e2:=ab1 gn2 b2 Mj;subst e2;have asD:=λi r hr=>by have:=my i r hr;simpa using this
 have ab6:∀(k:Nat) (v:Ç),c2[k]?=Â v->∃(kd:ķ) (n:Int),v=È kd n/\kd≠ľ:=λk v hv=>by
  have hk:k<69:=by grind
  obtain⟨i,j,hi,hj,rfl⟩:=asB k hk;obtain⟨r,hr⟩:∃r,iY[i]?=Â r:=⟨_,ß (show i<iY.length from hi)⟩;grind
 have j5:=(Û.1 b4).1;refine⟨?_,?_,⟨c3,_,b3,Ó _,Ó _,?_,?_⟩,⟨c4,_,b4,Ó _,Ó _,?_,?_⟩,?_,⟨⟨c2,_,b2⟩,λi r hr=> ?_⟩,?_⟩
 .have h5:nB=5:=by kernel_rfl
  omega
 .rintro b (rfl|rfl)
  .refine⟨c1,291,_,b1,Ó _,ab3 (by rw[e1];exact asA),by rw[e1];exact of_decide_eq_true (by kernel_rfl),λk v hv=> ?_,by decide,by decide⟩;rw[e1]at hv;simp only[List.getElem?_toArray,í,ù]at hv;obtain⟨z,_,rfl⟩:=hv;rfl
  .refine⟨c2,300,_,b2,Ó _,ab3 λv hv=> ?_,?_,λk v hv=> ?_,by decide,by decide⟩
   .obtain⟨k,hk,e⟩:=List.mem_iff_getElem.1 hv;obtain⟨kd,n,e',_⟩:=ab6 k v (by rw[<-e];simp);grind
   .grind
   .obtain⟨kd,n,rfl,hn⟩:=ab6 k v hv;cases kd<;>first|rfl|exact absurd rfl hn
 .rw[e3];exact of_decide_eq_true (by kernel_rfl)
 .grind
 .rw[e4];exact of_decide_eq_true (by kernel_rfl)
 .grind
 .unfold gR.lE Lib.TabIs Ĵ;rw[gn1];grind
 .obtain⟨h0,h1,h2⟩:=asD i r hr;exact⟨by simp only[Ā,b2];exact h0,by simp only[Ā,b2];exact h1,by simp only[Ā,b2];exact h2⟩
 .unfold qc;simp only[Ā,b4,e4];rfl
end Go.Proofs.Y.kZ
namespace Go.Proofs.Y.kZ
open Go Go.Conc Go.Proofs Go.RowKit Go.Proofs.Y.Lift Go.Proofs.Y.gR Go.Proofs.Y.fv Go.Proofs.Y.py
open Go.Proofs.YtgpphkdoanciiaaGreatDoor (Rows.workersSpec Rows.workersRow Rows.WorkersSaid Tryz.pinned)
open Go.ChangeShapes Go.WideShapes Go.ChangeAt
def fq:ownKnob À.godebug=Ù:=fu
def asE{w':Ý}(h:nF W w')(a:w'.os=W.os)(b:w'.output=W.output):Below W.heap.size W {w' with tape:=W.tape}:=⟨a,U,b,h.Da,h.qU⟩
def asF(os:Os)(a:Array Ç):Ģ À MO ((World.doorLaid À 400 os).forCall (λ_ _=>0) ⟨#[],a,[]⟩).memory:= laidMetH_of_parts3 (fuel:=8) (laidMet_of_run' 8 fu fu) fu fu
end Go.Proofs.Y.kZ
namespace Go.Proofs.Y.py
open Go Go.Proofs Go.RowKit Go.Proofs.Y.Lift Go.Proofs.Y.gR
def s5(B:ByteArray)(c:UInt8):Nat->Nat->Nat->List ByteArray
 |0,fr,_=>[B.extract fr B.size]
 |f+1,fr,i=>if h:i<B.size then if B[i]=c then B.extract fr i::s5 B c f (i+1) (i+1)else s5 B c f fr (i+1)else[B.extract fr B.size]
def ab7:List Int->List (List Int)
 |[]=>[[]]
 |a::l=>(a::l)::ab7 l
def Cy:List (List Int):=[[86,58,120,47,66],[86,58,120,115],[86,58,120],[86,58,120,62,121,40,110,44,107,41],[86,58,120,62,121,40,107,41],[86,58,87],[86],[121,61,110],[80],[120,84],[82]].flatMap ab7
def asG:∀r∈Cy,r.tail∈Cy:=A
def asH(k:Int):pz k∈Cy/\pz k≠[82]:=by
 unfold pz;repeat' split
 all_goals decide
end Go.Proofs.Y.py
namespace Go.Proofs.Y.kZ
open Go Go.Conc Go.Proofs Go.RowKit Go.Proofs.Y.Lift Go.Proofs.Y.gR Go.Proofs.Y.fv Go.Proofs.Y.py
open Go.Conc.Lib Go.ConcR.Gen Go.Proofs.YtgpphkdoanciiaaGreatDoor
def vZ(r:PR):Int×Nat×List Tx:=(r.c.getD 5 0,(r.c.getD 0 0).toNat,r.r.map toTx)
def Cz(r:PR)(s:List fJ):ByteArray:=if r.c.getD 4 0=1 then(qH (nW s) (vZ r).1 (vZ r).2.1 (vZ r).2.2).2 else qK (nW s) (toQn r)
def E9(s:List fJ)(r:PR):List fJ:=if r.c.getD 4 0=1 then Cl s (vZ r)else s
def rD(s:List fJ)(rs:List PR):List fJ:=rs.foldl E9 s
def ab8{kd:Nat->Int}(h:kd i=1):∀n,i<n->(gY kd n).getD (fL kd i) 0=i
 |0,q=>by omega
 |n+1,q=>by
  have a:i<n->∀x,(gY kd n++x).getD (fL kd i) 0=i:=λz x=>by
   have b:fL kd i<(gY kd n).length:=by
    have e:∀m,i+1<=m->(gY kd<|i+1).length<=(gY kd m).length:=λm=>by
     induction m with
     |zero=>intro z;omega
     |succ m c=>
      intro z;rcases Nat.lt_or_ge i m with y|y
      .apply ú (c y);by_cases q:kd m=1
       .rw[sN q];simp
       .rw[vy q];exact Î _
      .rw[show m=i by omega];exact Î _
    have:=e n z;rw[sN h]at this;unfold fL;simp at this;omega
   have:=ab8 h n z;simp only[ó,List.getElem?_append_left b]at this|-;exact this
  by_cases z:i<n
  .by_cases q:kd n=1
   .rw[sN q];exact a z _
   .rw[vy q];have:=a z [];rwa[ğ]at this
  .obtain rfl:i=n:=Z
   rw[sN h];simp[ó,fL]
section
variable{rs:List PR}{s:List fJ}{P:ByteArray}
def Uv:∀p,p<=rs.length->pw (vV rs) (gY (kK rs) rs.length) s (fL (kK rs) p)=rD s (rs.take p)
 |0,_=>by simp[fL,gY,pw,rD]
 |p+1,h=>by
  have a:=Uv p Z;have b:rs.take (p+1)=rs.take p++[rs.getD p oL]:=by rw[Č];congr 1;simp[ó,show p<rs.length by omega]
  unfold rD at a|-;rw[b,List.foldl_append,<-a];show _=E9 _ _;unfold E9;by_cases q:kK rs p=1
  .rw[if_pos (show(rs.getD p oL).c.getD 4 0=1 from q)];have e:fL (kK rs) (p+1)=fL (kK rs) p+1:=by unfold fL;rw[sN q];simp
   rw[e];show Cl _ _=_;rw[ab8 q _ Z];rfl
  .rw[if_neg (show¬(rs.getD p oL).c.getD 4 0=1 from q)];have e:fL (kK rs) (p+1)=fL (kK rs) p:=by unfold fL;rw[vy q]
   rw[e]
def asI{p:Nat}(h:p<rs.length):(kL rs s)[p]?=Â (Cz (rs.getD p oL)<|rD s<|rs.take p):=by unfold kL;rw[í,List.getElem?_range h,Ğ,Uv p Z];rfl
theorem asJ:vW rs s=rD s rs:=by unfold vW;rw[Uv _<|Î _,List.take_length]
theorem asK{r:PR}(h:iy P=(0,0,[r])):lS s P=(Cz r s,0,E9 s r):=by
 have a:=asI (rs:=[r]) (s:=s) (p:=0) ę;have e:kL [r] s=[Cz r s]:=by
  match hx:kL [r] s,ML with
  |[y],_=>
   rw[hx]at a;simpa[rD]using a
 unfold lS;rw[h];simp only[if_true,e,asJ];rw[show kJ ⟨#[59]⟩ [Cz r s]=Cz r s from ą (by simp[kJ,aax,nV])];rfl
end
theorem ab9(h:(iy B).1=0):iy B=(0,0,(iy B).2.2):=by unfold iy at h|-;grind
def asL{α β:Type}(f:α->β)(d:α)(l:List α):((É l.length).map λi=>f<|l.getD i d)=l.map f:=by
 refine List.ext_getElem fp λi b a=> ?_;have h:i<l.length:=by simpa using a
 simp[ó,h]
def asM{s:List fJ}{a:List PR}(h:iy B=(0,0,a))(f:∀r∈a,r.c.getD 4 0≠1):lS s B=(kJ ⟨#[59]⟩ (a.map λr=>qK (nW s)<|toQn r),0,s):=by
 have d:∀p,p<a.length->kK a p≠1:=λp b=>f _ (by simp[ó,b]);have e:∀p,p<=a.length->gY (kK a) p=[]:=λp b=>by unfold gY;rw[List.filter_eq_nil_iff];intro j g;have:=ä.1 g;simpa using d j Z
 have g:kL a s=a.map λr=>qK (nW s) (toQn r):=by rw[<-asL (λr=>qK (nW s)<|toQn r) oL];unfold kL;refine List.map_congr_left λp b=> ?_;have b:=ä.1 b;unfold fL vN;rw[e p Z,if_neg<|d p b];rfl
 have j:vW a s=s:=by unfold vW fL;rw[e _<|Î _];rfl
 unfold lS;rw[h];simp only[g,j,if_true]
def IC(d:Nat):ByteArray:=Ĺ ⟨#[48,49,50,51,52,53,54,55,56,57]⟩ d<|d+1
def asN:(É 10).map IC=(É 10).map λd=>⟨#[į<|48+d]⟩:=fu
theorem acd(h:i<10):IC i=⟨#[į<|48+i]⟩:=by have:=congrArg (λl=>l[i]?) asN;simpa[h]using this
theorem asO(h:i<10):gH i=IC i:=by unfold gH;grind [Lib.decDigits_one,acd]
theorem asP(h:¬n<10):gH n=gH (n/10)++IC (n%10):=by rw[acd Z];unfold gH;rw[Lib.decDigits,dif_neg h];apply ą;simp_all
abbrev kQ(B:ByteArray):Prop:=(59:UInt8)∉B.data.toList
def kQ.r{a:ByteArray}(h:kQ a)(k:kQ B):kQ (a++B):=by unfold kQ at*;simp_all
theorem kQ.C(h:kQ B)(i j:Nat):kQ (B.extract i j):=by grind [Ô,Ü]
theorem IF(n:Nat):kQ (gH n):=by
 induction n using Nat.strongRecOn with
 |_ n b=>
  have a:∀d,kQ (IC d):=λd=>kQ.C A _ _;by_cases h:n<10
  .rw[asO h];exact a n
  .rw[asP h];exact(b _ Z).r<|a _
theorem asQ(h:∀x∈vX,kQ x):kQ (kJ ⟨#[44]⟩ vX):=by
 cases vX with
 |nil=>exact λq=>by cases q
 |cons x r=>
  show 59∉x.data.toList++nV ⟨#[44]⟩ r;rw[Ġ];rintro(q|q)
  .exact h x fp q
  .let⟨y,a,q⟩:=List.mem_flatMap.1 q;rcases Ġ.1 q with z|z
   .revert z;decide
   .exact h y (by simp[a]) z
theorem MR(h:∀x∈vX,kQ x):kQ (qd vX):=by unfold qd;grind [asQ]
def ace:∀(f n:Nat) (l:List UInt8),59∉l->59∉rL f n l
 |0,n,l,h=>h
 |f+1,n,l,h=>by
  have a:∀k:_root_.Fin 16,59≠oJ k.val:=by decide+kernel
  unfold rL;split
  .rw[ï];exact λq=>q.elim (a ⟨n,‹_›⟩) h
  .apply ace f _ _;rw[ï];exact λq=>q.elim (a ⟨n%16,Nat.mod_lt _ A⟩) h
def acf(n:Nat):kQ (zS n):=kQ.r (kQ.C A _ _)<|ace 16 n [] A
def asR(y:Nat):kQ (iF y):=kQ.C A _ _
theorem acg(e:Nat×Int):kQ (oH e):=(asR _).r<|IF _
theorem MS{α:Type}(f:α->ByteArray)(h:∀x,kQ<|f x)(l:List α):∀x∈l.map f,kQ x:=λx a=>by obtain⟨y,_,rfl⟩:=ī.1 a;exact h y
def oM(c:UInt8):List UInt8->List UInt8->List (List UInt8)
 |cur,[]=>[cur]
 |cur,x::r=>if x=c then cur::oM c [] r else oM c (cur++[x]) r
def Uw(B:ByteArray)(c:UInt8):∀f a i,B.size-i=f->a<=i->i<=B.size->s5 B c f a i=(oM c (B.extract a i).data.toList<|B.data.toList.drop i).map λl=>⟨l.toArray⟩
 |0,a,i,hf,h1,h2=>by
  obtain rfl:i=B.size:=Z
  rw[û (by rw[Ñ];exact Î _)];rfl
 |f+1,a,i,hf,h1,h2=>by
  have b:i<B.size:=Z
  have d:i<B.data.toList.length:=by rwa[Ñ]
  have e:B.data.toList[i]=B[i]:=by rw[è];rfl
  rw[ë d,e];unfold s5 oM;rw[dif_pos b];split
  .have g:(B.extract (i+1)<|i+1).data.toList=[]:=by
    rw[Ô,Ü];simp
   rw[Uw B c f (i+1) (i+1) Z (Î _) Z,g];rfl
  .rw[Uw B c f a (i+1) Z Z Z];congr 2;rw[Ô,Ô,Ü,Ü,ì,ì,show i+1-a=i-a+1 by omega,Č,Ć,show a+(i-a)=i by omega,ß d,e];rfl
def ach{c:UInt8}:∀(x a r:List UInt8),c∉x->oM c a (x++c::r)=(a++x)::oM c [] r
 |[],a,r,_=>by simp[oM]
 |y::x,a,r,h=>by rw[show oM c a (y::x++c::r)=if y=c then a::oM c [] (x++c::r)else oM c (a++[y]) (x++c::r)from U,if_neg λq=>h (by simp[q]),ach x _ r λq=>h (by simp[q])];simp
def aci{c:UInt8}:∀(x a:List UInt8),c∉x->oM c a x=[a++x]
 |[],a,_=>by simp[oM]
 |y::x,a,h=>by unfold oM;rw[if_neg λq=>h (by simp[q]),aci x _ λq=>h (by simp[q])];simp
def acj:∀(r:List ByteArray) (x:ByteArray) (a:List UInt8),kQ x->(∀y∈r,kQ y)->oM 59 a (x.data.toList++nV ⟨#[59]⟩ r)=(a++x.data.toList)::r.map λy=>y.data.toList
 |[],x,a,h,_=>by show oM 59 a (x.data.toList++[])=_;rw[ğ,aci _ _ h];rfl
 |y::r,x,a,h,k=>by show oM 59 a (x.data.toList++59::(y.data.toList++nV ⟨#[59]⟩ r))=_;rw[ach _ _ _ h,acj r y [] (k y fp) λz b=>k z (by simp[b])];rfl
def asS(a:vX≠[])(h:∀x∈vX,kQ x):s5 (kJ ⟨#[59]⟩ vX) 59 (kJ ⟨#[59]⟩ vX).size 0 0=vX:=by
 rw[Uw _ _ _ 0 0 (Nat.sub_zero _) (Î _)<|Ó _];match vX,a with
 |x::r,_=>
  have e:((kJ ⟨#[59]⟩<|x::r).extract 0 0).data.toList=[]:=by simp_all
  rw[e,List.drop_zero];show(oM 59 []<|x.data.toList++nV ⟨#[59]⟩ r).map _=_;rw[acj r x [] (h x fp) λy b=>h y (by simp[b])];simp[Function.comp_def]
end Go.Proofs.Y.kZ
namespace Go.Proofs.Y.py
open Go Go.Proofs Go.RowKit Go.Proofs.Y.Lift Go.Proofs.Y.gR
structure I0(o:Int)(st:PS):Prop where
 M:st.d.S=[]
 I:st.d.r=Ä
 r:st.d.I.c.getD 4 0=1
 C:st.d.I.c.getD 5 0=o
 N:st.C∈Cy
 S:82∉st.C/\86∉st.C
 Y:0<st.r->st.M≠86
section
variable{st a:PS}{o:Int}{d:PD}
def MU(h:i≠j):(zQ.set i c).getD j 0=zQ.getD j 0:=by simp[ó,List.getElem?_set_ne h]
def Ux{n z:Int}(a:n≠86):(d.fZ n z).S=d.S/\(d.fZ n z).r=d.r/\(d.fZ n z).I.c.getD 4 0=d.I.c.getD 4 0/\(d.fZ n z).I.c.getD 5 0=d.I.c.getD 5 0:=by
 have b:∀i,i<4->(d.jK i z).S=d.S/\(d.jK i z).r=d.r/\(d.jK i z).I.c.getD 4 0=d.I.c.getD 4 0/\(d.jK i z).I.c.getD 5 0=d.I.c.getD 5 0:=λi e=>by
  unfold PD.jK;split
  .exact⟨U,U,U,U⟩
  .exact⟨U,U,MU Z,MU Z⟩
 unfold PD.fZ;rw[if_neg a];repeat' split
 all_goals first|exact b _ A|exact⟨U,U,U,U⟩|exact⟨U,U,MU A,MU A⟩
def I0.G(h:I0 o st)(e:st.r=0)(d:c≠59)(b:rR st c=Â a):I0 o a:=by
 unfold rR at b;rw[if_neg λq=>d q.1]at b;split at b
 .cases b;exact⟨h.M,h.I,h.r,h.C,(by decide:[120,84]∈Cy),(by decide:(82:Int)∉[120,84]/\(86:Int)∉[120,84]),λq=>by have:0<st.r:=q;omega⟩
 .cases b
def I0.asT(h:I0 o st)(r:st.r=0)(s:c≠59)(b:ln B k st c=Â a):I0 o a:=by
 have f:0<st.r->st.M≠86:=λq=>by omega
 have g:=asG _ h.N;unfold ln at b;cases i:st.C with
 |nil=>
  rw[i]at b;exact h.G r s b
 |cons w t=>
  have e:=h.S;rw[i]at b g e;have x:w≠82:=λq=>e.1 (by simp[q]);have u:w≠86:=λq=>e.2 (by simp[q]);have v:82∉t/\86∉t:=⟨λq=>e.1 (by simp[q]),λq=>e.2<|by simp[q]⟩;simp only[if_neg x]at b;split at b
  .split at b
   .cases b;let⟨j,l,m,p⟩:=Ux (d:=st.d.rP) (n:=120) (z:=mT 120 c) A;exact⟨j.trans h.M,l.trans h.I,m.trans h.r,p.trans h.C,(by decide:[84]∈Cy),(by decide:(82:Int)∉[84]/\(86:Int)∉[84]),λ_=>(by decide:(120:Int)≠86)⟩
   .exact h.G r s b
  .split at b
   .unfold xV at b;split at b
    .cases b
    .cases b;refine⟨h.M,h.I,h.r,h.C,(asH _).1,?_,f⟩;show 82∉pz _/\86∉pz _;unfold pz;repeat' split
     all_goals decide
   .split at b
    .split at b
     .cases b;exact⟨h.M,h.I,h.r,h.C,g,v,f⟩
     .split at b
      .cases b
      .cases b;exact⟨h.M,h.I,h.r,h.C,i▸h.N,e,f⟩
    .split at b
     .cases b;let⟨j,l,m,p⟩:=Ux (d:=st.d) (n:=w) (z:=mT w c) u;exact⟨j.trans h.M,l.trans h.I,m.trans h.r,p.trans h.C,g,v,λ_=>u⟩
     .cases b
def I0.ju(h:I0 o st)(e:c≠59)(b:qL B k st c=Â a):I0 o a:=by
 unfold qL at b;split at b
 .rename_i q;cases b;let⟨f,g,i,j⟩:=Ux (d:=st.d) (n:=st.M) (z:=rQ (st.d.G st.M) c)<|h.Y q.1;exact⟨f.trans h.M,g.trans h.I,i.trans h.r,j.trans h.C,h.N,h.S,λ_=>h.Y q.1⟩
 .exact I0.asT (st:={st with r:=0}) ⟨h.M,h.I,h.r,h.C,h.N,h.S,λq=>by cases q⟩ rfl e b
def I0.ng(b:59∉B.data.toList):∀(f k:Nat) (st:PS),I0 o st->I0 o (oe B f k st).2
 |0,k,st,h=>h
 |f+1,k,st,h=>by
  unfold oe;split
  .rename_i d;split
   .exact h
   .rename_i a c;refine I0.ng b f (k+1) a (h.ju (λq=>b ?_) c);have e:B[k]=59:=ü.1 (by show B[k].toNat=59;omega);rw[<-e];exact ā.2<|Array.getElem_mem _
  .exact h
def I0.asU(h:I0 o st):∃r,st.d.C=[r]/\r.c.getD 4 0=1/\r.c.getD 5 0=o:=by unfold PD.C;rw[h.I,h.M];exact⟨_,U,h.r,h.C⟩
theorem Uy(b:k<B.size)(c:qL B k st (B[k].toNat:Int)=Â a):oe B (i+1) k st=oe B i (k+1) a:=by rw[oe,dif_pos b,c]
def asV{e:UInt8}(f:e=48/\o=0\/e=104/\o=-1)(l:59∉B.data.toList){g:List PR}(h:iy (⟨#[105,e,58]⟩++B)=(0,0,g)):∃r,g=[r]/\r.c.getD 4 0=1/\r.c.getD 5 0=o:=by
 obtain⟨T,b⟩:∃T,(⟨#[105,e,58]⟩++B:ByteArray)=T:=⟨_,U⟩;have a:T.data.toList=105::e::58::B.data.toList:=by rw[<-b,ý,Array.toList_append];rfl
 have m:T.size=B.size+3:=by rw[<-b,å,Nat.add_comm];rfl
 have d:∀i (j:i<T.size),T[i]=T.data.toList[i]'(by rwa[Ñ]):=λi j=>by rw[è];rfl
 have n:T[0]'Z=105:=by rw[d];simp[a]
 have p:T[1]'Z=e:=by rw[d];simp[a]
 have s:T[2]'Z=58:=by rw[d];simp[a]
 rw[b]at h;have t:I0 o ⟨[120,47,66],0,0,58,⟨[],Ä,⟨[0,0,0,0,1,o,0,0],[]⟩,ã,⟨[],⟨#[]⟩⟩⟩⟩:=⟨U,U,U,U,(by decide:[120,47,66]∈Cy),(by decide:(82:Int)∉[120,47,66]/\(86:Int)∉[120,47,66]),λq=>by cases q⟩;have u:mV T=oe T B.size 3 ⟨[120,47,66],0,0,58,⟨[],Ä,⟨[0,0,0,0,1,o,0,0],[]⟩,ã,⟨[],⟨#[]⟩⟩⟩⟩:=by unfold mV;rcases f with⟨rfl,rfl⟩|⟨rfl,rfl⟩<;>(rw[m,Uy Z (by rw[n];rfl),Uy Z (by rw[p];rfl),Uy Z (by rw[s];rfl)];rfl)
 have k:=t.ng (by rw[a];rcases f with⟨rfl,_⟩|⟨rfl,_⟩<;>simp[l]) B.size 3;rw[<-u]at k;have v:T.size≠0:=Z
 unfold iy mH at h;split at h
 .cases h
 .split at h
  .have:=congrArg (λx=>x.2.2) h;simp only at this;rw[<-this];exact k.asU
  .cases h
end
end Go.Proofs.Y.py
namespace Go.Proofs.Y.kZ
open Go Go.Conc Go.Proofs Go.RowKit Go.Proofs.Y.Lift Go.Proofs.Y.gR Go.Proofs.Y.fv Go.Proofs.Y.py
open Go.Conc.Lib Go.ConcR.Gen Go.Proofs.YtgpphkdoanciiaaGreatDoor
def CB(r:PR)(a:fJ):Option fJ:=(vH (vZ r).2.1 a.s (vZ r).2.2).map λq=>⟨q.1,q.2.1,q.2.2,a.h+1⟩
theorem Uz{s:List fJ}{v:fJ}(h:s[n]?=Â v):mF (nW s) n=Â (0,v):=by unfold mF nW;grind
theorem asW{s:List fJ}{r:PR}(d:r.c.getD 4 0=1){a:fJ}(b:mF (nW s) (r.c.getD 5 0)=Â (0,a))(e:s.length<40): Cz r s=(match CB r a with
  |none=>nI 5
  |some _=>nU s.length)/\E9 s r=match CB r a with
  |none=>s
  |some v=>s++[v]:=by
 have f:(nW s).length=s.length:=by simp[nW]
 have g:qH (nW s) (vZ r).1 (vZ r).2.1 (vZ r).2.2=match CB r a with
  |none=>(Ù,nI 5)
  |some v=>(Â v,nU s.length):=by
  unfold qH CB;rw[show(vZ r).1=r.c.getD 5 0 from rfl,b];grind
 unfold Cz E9 Cl rM;grind [Ig]
theorem asX{s:List fJ}{r:PR}(h:iy B=(0,0,[r]))(b:r.c.getD 4 0=1)(d:r.c.getD 5 0=0){a:fJ}(e:s[0]?=Â a)(f:s.length<40): lS s B=match CB r a with
  |none=>(nI 5,0,s)
  |some v=>(nU s.length,0,s++[v]):=by
 obtain⟨v,g⟩:=asW b (by rw[show r.c.getD 5 0=((0:Nat):Int)from d];exact Uz e) f;grind [asK]
def asY(s:gR.St):pg s s 8=[]:=by unfold pg;rw[ô];intro i _;unfold xP vI qa;rw[if_pos U,if_pos U,à,à,ô];exact λj _=>if_pos U
def we(c:UInt8):ByteArray:=⟨#[114,49,59,114,c,59,108,49,59,108,c,59,117,49,59,117,c,59,100,49,58,c]⟩
def CC(j:Int):List PR:=[⟨[0,0,0,0,6,1,0,0],[]⟩,⟨[0,0,0,0,6,j,0,0],[]⟩,⟨[0,0,0,0,7,1,0,0],[]⟩,⟨[0,0,0,0,7,j,0,0],[]⟩,⟨[0,0,0,0,8,1,0,0],[]⟩,⟨[0,0,0,0,8,j,0,0],[]⟩,⟨[0,0,0,0,9,1,j,0],[]⟩]
def acn:iy (we 50)=(0,0,CC 2):=fu
def asZ:iy (we 51)=(0,0,CC 3):=fu
def CF(v:fJ):List ByteArray:=[zS<|xL v.s,zS<|xL v.s,qd<|v.r.map oH,qd<|v.r.map oH,qd<|v.C.map xO,qd<|v.C.map xO,⟨#[45]⟩]
def as0(v:fJ):∀x∈CF v,kQ x:=λx a=>by
 simp only[CF,ï,ē,or_false]at a;rcases a with rfl|rfl|rfl|rfl|rfl|rfl|rfl
 .exact acf _
 .exact acf _
 .exact MR<|MS _ acg _
 .exact MR<|MS _ acg _
 .exact MR<|MS _ (λe=>((IF _).r A).r<|IF _) _
 .exact MR<|MS _ (λe=>((IF _).r A).r<|IF _) _
 .decide
def as1{s:List fJ}{v:fJ}{c:UInt8}(a:iy (we c)=(0,0,CC j))(b:s[1]?=Â v)(d:s[j]?=Â v):lS s (we c)=(kJ ⟨#[59]⟩<|CF v,0,s):=by rw[asM a (by simp[CC])];have e:mF (nW s) 1=Â (0,v):=Uz (n:=1) b;have f:=Uz d;apply congrArg λl=>(kJ ⟨#[59]⟩ l,(0:Int),s);have l:qd []=⟨#[45]⟩:=if_pos U;simp only[CC,CF,Ĥ,Ī,qK,toQn,List.getD_cons_zero,List.getD_cons_succ,e,f,Ch,asY,l];simp
def aco(b:59∉B.data.toList)(a:fJ):(∃E,E≠0/\∀t,lS t (⟨#[105,48,58]⟩++B)=(⟨#[]⟩,E,t))\/∃o:Option fJ,∀t:List fJ,t[0]?=Â a->t.length<40->lS t (⟨#[105,48,58]⟩++B)=match o with
 |none=>(⟨#[33,53]⟩,0,t)
 |some v=>(nU t.length,0,t++[v]):=by
 by_cases h:(iy<|⟨#[105,48,58]⟩++B).1=0
 .let⟨r,c,d,e⟩:=asV (Õ ⟨U,U⟩) b<|ab9 h;have E:=ab9 h;rw[c]at E;refine ĕ ⟨CB r a,λt f g=> ?_⟩;rw[asX E d e f g];cases CB r a<;>rfl
 .exact Õ ⟨_,h,λt=>if_neg h⟩
section
variable{c l a:fe}{s t:List fJ}{e:Ç}{V:Nat->Prop}{g:List Ç}
def as2(h:gi X l a)(b:ij l):ij a:= ⟨h.N b.r,h.d.trans b.d,by rw[h.q];exact b.q,by rw[h.S];exact b.N,by rw[h.Y];exact b.I,by rw[h.b];exact b.M,by rw[h.K];exact b.k⟩
end
def as3{T:ByteArray}(w:Ý)(h:B.size+T.size<=10^15):Sem.events À (Go.Op.stringOp BinOp.add B T) w #[]=#[]:=by
 have a:¬Ò<B.size+T.size:=by unfold Ò;omega
 simp[go_sem,Op.stringOp,a]
def CG{a b c:Array UInt8}(h:a++b=c):(⟨a⟩++⟨b⟩:ByteArray)=⟨c⟩:=ą<|by rw[ý,h]
def wh{J:Jd}{l:fe}{b:Frame}{a:Act}{ops:Array Oper}{i:Nat}{rest:List Nat}{k:List Item}{cs:List Frame}{o:Oper}{x y:Operand}(S T U:ByteArray)(hb:ij l)(hU:S++T=U)(h:S.size+T.size<=10^15)(hn:fv.fj Tryz.prog true J l (G (b.at (a.put o.dst<|.string U)<|.inRegion ops rest::k) cs)) (ho:ops[i]?=some o:=by rfl) (va:o.op=.binOp .add 9 x y 9:=by rfl) (hx:a.eval x=.string S:=by rfl) (hy:a.eval y=.string T:=by rfl) (hw:Region.wanted o (yielded ops a.tmps)=true:=by rfl) (hk:b.kind≠.early:=by k_ne): fv.fj Tryz.prog true J l (G (b.at a<|.inRegion ops (i::rest)::k) cs):=by
 subst hU;have h2:¬9223372036854775807<S.size+T.size:=Z
 refine oD (v:=Á<|S++T) ho hw hk hb.r.r hb.q (λw _=> ?_) (λw _ e he=> ?_) hn
 .let⟨d,p,t,q,af,g⟩:=o;simp only at va;subst va;simp only[Ĉ,hx,hy];go_simp
 .let⟨d,p,t,q,af,g⟩:=o;simp only at va;subst va;simp only[Ĉ,hx,hy]at he;simp[go_sem,as3 w h]at he
noncomputable def MV:ŀ:=kV Ł [1,1,1,0,1,0,0]
noncomputable def acp:ŀ:=kV Ł [1,1,1,1]
noncomputable def CH (a:Array Ç) (b:List Ħ):Ĩ:=G ((base 24).at ⟨a,[]⟩<|İ MV::.inLoop MV::[.inBlock 0,İ acp]) b
structure IG(B:ByteArray)(c:UInt8)(lv:Ç)(fr i:Nat)(tt:Array Ç):Prop where
 r:tt.size=35
 C:tt[0]?=Â (Á B)
 t1:tt[1]?=Â (È ľ c.toNat)
 I:tt[5]?=Â lv
 M:tt[6]?=Â (È Ø fr)
 N:tt[7]?=Â (È Ø i)
def acr(S:ByteArray)(w:Ý):Sem.events À (Builtin.len_ #[9] 3 #[Á S]) w #[]=#[]:=fu
def as4(B:ByteArray)(w:Ý)(a:i<=j)(b:j<=B.size):Sem.events À (ð 9 (Á B) (Â<|È Ø i) (Â<|È Ø j) Ù) w #[]=#[]:=by simp[ð,ı,go_sem,a,b,Ė]
def as5(B:ByteArray)(w:Ý)(a:i<=B.size):Sem.events À (ð 9 (Á B) (Â<|È Ø i) Ù Ù) w #[]=#[]:=by simp[ð,ı,go_sem,a,Ė]
structure uO(im l:fe)(lv:Ç)(xs:List ByteArray):Prop where
 r:gi fh im l
 C:l.w.ownsRow 0 9 1 lv xs.length (jh xs)
 fq:∀k,lv.ownBlock=Â k->l.O k/\im.w.heap.size<=k
section
variable{J:Jd}{im l:fe}{S:ByteArray}{c:UInt8}{lv:Ç}{fr:Nat}{xs:List ByteArray}{tt:Array Ç}{k:List Item}
def uO.I(h:uO im l lv xs)(f:gy im)(c:ij l){ob:Obj}(g:fG l l.w u)(d:fG (gG l u ob) (gG l u ob).w W)(i:jX.ownsRow 0 9 1 v (xs.length+1) (jh xs++[Á S]))(m:W.grownBy jX lv.ownBlock)(n:∀k,v.ownBlock=Â k->(mS (gG l u ob) W jX).O k)(o:v.ownBlock=lv.ownBlock\/v.ownBlock=Â W.heap.size): ij (mS (gG l u ob) W jX)/\uO im (mS (gG l u ob) W jX) v (xs++[S]):=by
 have a:=mR (X:=λb=>Â b=lv.ownBlock) (ob:=ob) c.r g;have b:=a.fg (Kv (a.N c.r) d m λk e=>⟨a.O k (h.fq k e).1,e.symm⟩);refine⟨as2 b c,h.r.vz b λj q e=> ?_,?_,λk e=>⟨n k e,?_⟩⟩
 .have:=(h.fq j e.symm).2;have:=f.fx j q;omega
 .rwa[ĉ,show jh (xs++[S])=jh xs++[Á S] by simp[jh]]
 .rcases o with z|z
  .exact(h.fq k<|z.symm.trans e).2
  .have e:=Ö<|z.symm.trans e;have:=h.r.I;have:=a.I;have:=d.r;omega
def as6{a b:UInt8}(h:a≠b):((a.toNat:Int)==(b.toNat:Int))=ã:=by rw[beq_eq_false_iff_ne];exact λq=>h<|ü.1 Z
def as7(h:uO im l lv xs)(C:gy im)(a:ij l)(b:IG B c lv fr i tt)(D:i<B.size)(E:fr<=i)(hB:B.size<=10^12)(tK:xs.length<=fr) (o:B[i]≠c->∀d g,ij d->uO im d lv xs->IG B c lv fr (i+1) g->fv.fj À Ä J d (CH g qX)) (r:B[i]=c->∀d g v,ij d->uO im d v (xs++[B.extract fr i])->IG B c v (i+1) (i+1) g->fv.fj À Ä J d (CH g qX)):fv.fj À Ä J l (CH tt qX):=by
 have hF:True:=trivial;let⟨s,t,f⟩:=jf h.C;obtain⟨u,rfl⟩:=ug tt b.r;have F:u 0=Á B:=by simpa using b.C
 have G:u 1=È ľ c.toNat:=by simpa using b.t1
 have I:u 5=æ s xs.length t:=by rw[<-f];simpa using b.I
 have K:u 6=È Ø fr:=by simpa using b.M
 have L:u 7=È Ø i:=by simpa using b.N
 clear b;have k1:(i:Int)<(B.size:Int):=Z
 have k2:(0:Int)<=(i:Int):=Z
 have k3:(0:Int)<=(fr:Int):=Z
 have k4:(fr:Int)<=(i:Int):=Z
 have k5:(i:Int)<=(B.size:Int):=Z
 have M:i<=B.size:=Z
 have m:Ø.wrap ((i:Int)+1)=((i+1:Nat):Int):=IntWalk.i64_in _ ⟨Z,Z⟩;have H:=ff<|And.intro o r;clear o r;apply fX (n:=60) a.r.r;simp only[CH,É,á,č,F,G,I,K,L];conv in MV=>whnf
 repeat w_go fB
 refine Ã λ_ _=> ?_;apply oD (v:=È Ø B.size) U fQ (by k_ne) a.r.r a.q (λw _=>by go_simp) (λw _ e p=>by simp[go_sem,acr]at p);walk_nrm;apply fX (n:=60) a.r.r;repeat w_nl fB
 refine Ã λ_ _=> ?_;apply oD (v:=È ľ B[i].toNat) U fQ (by k_ne) a.r.r a.q (λw _=>by go_simp) (λw _ e p=>by simp[go_sem,Instr.index,D]at p);walk_nrm;by_cases j:B[i]=c
 .rw[j];apply fX (n:=60) a.r.r;repeat w_nl fB
  refine Ã λ_ _=> ?_;apply oD (v:=Á<|B.extract fr i) U fQ (by k_ne) a.r.r a.q (λw _=>by go_simp) (λw _ e p=>by simp[go_sem,as4 B w E M]at p);walk_nrm;refine pb (V:=λp=>æ (Â ⟨p,0,Ù⟩) 1 1) (ob:=î #[Á<|B.extract fr i] 9) U U (by k_ne) a.r.r a.q (λw=>by go_simp) (λw=>by simp[go_sem]) λw x=> ?_;walk_nrm;have p:=mR (X:=fh) (ob:=î #[Á<|B.extract fr i] 9) a.r x;have y:hD (gG l w<|î #[Á<|B.extract fr i] 9) w.heap.size (î #[Á<|B.extract fr i] 9):=⟨ĕ U,fv.mQ⟩;have N:À.info? 9=Â Ď:=ĵ;refine GK (v:=æ s xs.length t) (us:=[Á<|B.extract fr i]) (px:=w.heap.size) (c:=1) (n:=xs.length) (xs:=jh xs) (inf:=Ď) (z:=Á ⟨#[]⟩) U U (by k_ne) (p.N a.r) (by rw[p.q];exact a.q) U U U ď N U U ę U U (by simp[Ď];omega) (by simp only[Ò];omega) (f▸nP h.C λk e=>p.r k (Õ (h.fq k e).1) id) (f▸λk e=>p.O k (h.fq k e).1) y.fq (Rj<|y.C U) (λ_ e=>Ċ.1 e▸rfl) λas8 v BF P Q S T W=> ?_;let⟨e,Y⟩:=h.I C a x P Q (f▸S) T<|f▸W;walk_nrm;apply fX (n:=80) e.r.r;repeat w_nl fB
  w_go fB
  refine Ã λ_ _=> ?_;refine H.out.2 j _ _ _ e Y ⟨U,U,U,U,?_,?_⟩
  .simp[m]
  .simp[m]
 .have e:=as6 j;apply fX (n:=60) a.r.r;repeat w_nl fB
  w_go fB
  refine Ã λ_ _=> ?_;refine H.out.1 j _ _ a h ⟨U,U,U,by rw[f];rfl,U,?_⟩;simp[m]
def as9(h:uO im l lv xs)(s:gy im)(a:ij l)(b:IG B c lv fr B.size tt)(x:fr<=B.size)(T:B.size<=10^12)(W:xs.length<=fr) (C:∀g v,ij g->uO im g v (xs++[B.extract fr B.size])->fv.fj À Ä J g (G (f.at (y.put ((Q[j]?).bind (·.dst)) v)<|Í Q jJ::k) qX)):fv.fj À Ä J l (CH tt<|f.at y (Í Q (j::jJ)::k)::qX):=by
 have hF:True:=trivial;let⟨i,m,d⟩:=jf h.C;obtain⟨u,rfl⟩:=ug tt b.r;have D:u 0=Á B:=by simpa using b.C
 have E:u 5=æ i xs.length m:=by rw[<-d];simpa using b.I
 have F:u 6=È Ø fr:=by simpa using b.M
 have H:u 7=È Ø B.size:=by simpa using b.N
 clear b;have Y:(0:Int)<=(fr:Int):=Z
 have k4:(fr:Int)<=(B.size:Int):=Z
 apply fX (n:=60) a.r.r;simp only[CH,É,á,č,D,E,F,H];conv in MV=>whnf
 conv in acp=>whnf
 repeat w_go fB
 refine Ã λ_ _=> ?_;apply oD (v:=È Ø B.size) U fQ (by k_ne) a.r.r a.q (λw _=>by go_simp) (λw _ e p=>by simp[go_sem,acr]at p);walk_nrm;apply fX (n:=60) a.r.r;repeat w_nl fB
 refine Ã λ_ _=> ?_;apply oD (v:=Á<|B.extract fr B.size) U fQ (by k_ne) a.r.r a.q (λw _=>by go_simp) (λw _ e p=>by simp[go_sem,as5 B w x]at p);walk_nrm;refine pb (V:=λp=>æ (Â ⟨p,0,Ù⟩) 1 1) (ob:=î #[Á<|B.extract fr B.size] 9) U U (by k_ne) a.r.r a.q (λw=>by go_simp) (λw=>by simp[go_sem]) λw o=> ?_;walk_nrm;have p:=mR (X:=fh) (ob:=î #[Á<|B.extract fr B.size] 9) a.r o;have r:hD (gG l w<|î #[Á<|B.extract fr B.size] 9) w.heap.size (î #[Á<|B.extract fr B.size] 9):=⟨ĕ U,fv.mQ⟩;have I:À.info? 9=Â Ď:=ĵ;refine GK (v:=æ i xs.length m) (us:=[Á<|B.extract fr B.size]) (px:=w.heap.size) (c:=1) (n:=xs.length) (xs:=jh xs) (inf:=Ď) (z:=Á ⟨#[]⟩) U U (by k_ne) (p.N a.r) (by rw[p.q];exact a.q) U U U ď I U U ę U U (by simp[Ď];omega) (by simp only[Ò];omega) (d▸nP h.C λk e=>p.r k (Õ (h.fq k e).1) id) (d▸λk e=>p.O k (h.fq k e).1) r.fq (Rj<|r.C U) (λ_ e=>Ċ.1 e▸rfl) λas8 v BF K L M N P=> ?_;let⟨e,S⟩:=h.I s a o K L (d▸M) N<|d▸P;walk_nrm;apply fX (n:=80) e.r.r;repeat w_nl fB
 u_in fB hF
 refine goes_leave1 (t:=4) U U Ě U ⟨by u_nil,?_⟩;refine Ã λ_ _=> ?_;exact C _ _ e S
def UA(e:gy im)(g:B.size<=10^12) (n:∀a v,ij a->uO im a v (s5 B c B.size 0 0)->fv.fj À Ä J a (G (f.at (y.put ((Q[j]?).bind (·.dst)) v)<|Í Q jJ::k) qX)): ∀(m fr i:Nat) (l:fe) (lv:Ç) (xs:List ByteArray) (tt:Array Ç),B.size-i=m->fr<=i->i<=B.size->xs.length<=fr->xs++s5 B c m fr i=s5 B c B.size 0 0->uO im l lv xs->ij l->IG B c lv fr i tt->fv.fj À Ä J l (CH tt<|f.at y (Í Q (j::jJ)::k)::qX)
 |0,fr,i,l,lv,xs,tt,hm,hfr,hi,tK,he,h,hb,hT=>by
  obtain rfl:i=B.size:=Z
  exact as9 h e hb hT hfr g tK λa v b d=>n a v b<|he▸d
 |m+1,fr,i,l,lv,xs,tt,hm,hfr,hi,tK,he,h,hb,hT=>by
  have r:i<B.size:=Z
  rw[show s5 B c (m+1) fr i=if B[i]=c then B.extract fr i::s5 B c m (i+1) (i+1)else s5 B c m fr (i+1)from dif_pos r]at he;refine as7 h e hb hT r hfr g tK (λq a o b d p=> ?_) λq a o v b d p=> ?_
  .rw[if_neg q]at he;exact UA e g n m fr (i+1) a lv xs o Z Z Z tK he d b p
  .rw[if_pos q]at he;exact UA e g n m (i+1) (i+1) a v _ o Z Z Z (by rw[ĉ,List.length_singleton];omega) (by rwa[List.append_assoc]) d b p
def ata(a:ij l)(d:B.size<=10^12) (g:∀b v,ij b->uO l b v (s5 B c B.size 0 0)->fv.fj À Ä J b (G (f.at (y.put ((Q[j]?).bind (·.dst)) v)<|Í Q jJ::k) qX)):fv.fj À Ä J l (G (é À 24 #[Á B,È ľ c.toNat] .normal)<|f.at y (Í Q (j::jJ)::k)::qX):=by
 have hF:True:=trivial;rw[Ct [_,_] 33 Ě];simp only[Ă,õ,à];conv in kV _ _=>whnf
 apply fX (n:=60) a.r.r;repeat w_bar fB
 w_go fB
 refine Ã λ_ _=> ?_;exact UA a.r d g B.size 0 0 l (æ Ù 0 0) [] _ U (Î _) (Ó _) (Î _) U ⟨gi.fU a.r.r,⟨U,Õ ⟨U,U⟩⟩,λk e=>by cases e⟩ a ⟨rfl,rfl,rfl,rfl,rfl,rfl⟩
end
structure mj(R:Nat->Prop)(W:Ý)(l:fe)(x nx:Nat)(s:List fJ):Prop where
 a:∃sl V,nX l x nx s sl V
 C:∀b,R b->(l.O b/\l.w.heap[b]?=W.heap[b]?)/\b≠x
section
variable{R:Nat->Prop}{l d:fe}{x nx:Nat}{s g:List fJ}
def mj.M(h:mj R W l x nx s)(c:∀b,l.O b->d.O b/\d.w.heap[b]?=l.w.heap[b]?)(e:l.w.heap.size<=d.w.heap.size):mj R W d x nx s:=by let⟨f,V,a⟩:=h.a;exact⟨⟨f,V,a.S (λb q=>(c b q).1) (λb q=>(c b q).2) e⟩,λb q=>⟨⟨(c b (h.C b q).1.1).1,(c b (h.C b q).1.1).2.trans (h.C b q).1.2⟩,(h.C b q).2⟩⟩
def mj.r(h:mj R W l x nx s)(r:fG l l.w u):mj R W {l with w:=u} x nx s:=h.M (λb q=>⟨q,r.I b<|Õ q⟩) r.r
def mj.I(h:mj R W l x nx s):lq s:=by let⟨_,_,a⟩:=h.a;let⟨_,_,q,_⟩:=a.I;exact q
def mj.N(h:mj R W l x nx s):nB<=l.w.heap.size:=by let⟨_,_,a⟩:=h.a;exact a.r.fx
def MW(h:mj R W l x nx s)(j:ij l)(k:B.size<=Ò) (m:∀d,ij d->mj R W d x nx (lS s B).2.2->jl vQ d (G (f.at (y.put ((Q[i]?).bind (·.dst))<|.tuple #[Á (lS s B).1,È Ø (lS s B).2.1])<|Í Q jJ::L) qX)): jl vQ l (G (é À 17 #[Æ<|Â ⟨x,0,Ù⟩,Á B] .normal)<|f.at y (Í Q (i::jJ)::L)::qX):=by let⟨v,V,n⟩:=h.a;refine abP j n k (λ_=>abT h.I) λd o ⟨e,p,r,t,w⟩=>m d o ⟨⟨p,r,t⟩,λb q=> ?_⟩;let⟨⟨g,u⟩,c⟩:=h.C b q;exact⟨⟨(e b g c).1,(e b g c).2.trans u⟩,c⟩
def atb(h:mj R W l x nx s)(o:ij l)(C:B.size<=Ò)(D:lS s B=(kJ ⟨#[59]⟩ vX,0,g))(E:vX≠[])(F:∀a∈vX,kQ a)(M:vX.length=n)(N:(kJ ⟨#[59]⟩ vX).size<=10^12) (P:∀d m,ij d->mj R W d x nx g->d.w.ownsRow 0 9 1 m n (jh vX)->(∀b,m.ownBlock=Â b->d.O b)->jl vQ d (G (f.at (y.put ((Q[i]?).bind (·.dst))<|.tuple #[m,Ï Ä])<|Í Q jJ::L) qX)): jl vQ l (G (é À 26 #[Æ<|Â ⟨x,0,Ù⟩,Á B,È Ø n] .normal)<|f.at y (Í Q (i::jJ)::L)::qX):=by
 have hF:True:=trivial;subst M;rw[Ct [_,_,_] 25 ě];simp only[Ă,õ,à];conv in kV _ _=>whnf
 apply pE;apply fX (n:=60) o.r.r;repeat w_go fB
 refine Ã λ_ _=> ?_;refine .fC λX p=>⟨o.C p,U,?_⟩;have r:=o.C p;have H:=h.r p;refine Ae (f:=17) (args:=#[Æ<|Â ⟨x,0,Ù⟩,Á B]) r U fQ (by k_ne) (λw=>by go_simp) (λw=>Å U ă U U #[]) λT k=> ?_;refine MW (H.r k) (r.C k) C λY t u=> ?_;have I:=asS E F;rw[D]at u|-;dsimp only at u|-;generalize kJ ⟨#[59]⟩ vX=S at*;clear D h H r C;walk_nrm;apply pE;apply fX (n:=60) t.r.r;repeat w_nl fB
 refine Ã λ_ _=> ?_;refine yb (f:=24) (args:=#[Á S,È ľ 59]) U fQ (by k_ne) t.r.r (λw=>by go_simp) (λw=>Å U Ě U U #[]) λabW J=> ?_;refine ata (c:=59) (t.C J) N λl5 m v j=> ?_;have V:=(u.r J).M (λb q=>⟨j.r.O b q,j.r.r b (Õ q) id⟩) j.r.I;rw[I]at j;let⟨pk,ck,K⟩:=jf j.C;have z:=ff (And.intro j.C λb q=>(j.fq b q).1);clear j I F E;rw[K];walk_nrm;apply fX (n:=60) v.r.r;repeat w_nl fB
 u_in fB hF
 refine goes_leave2 U U ě U ⟨by u_nil,?_⟩;refine Ã λ_ _=> ?_;refine .fC λT k=>⟨v.C k,U,?_⟩;have:=P _ m (v.C k) (V.r k) (nP z.out.1 λL e=>k.I L<|Õ<|z.out.2 L e) z.out.2;rwa[K]at this
end
noncomputable def MX:ŀ:=(Tryz.f16.body.bind gR.ko).getD .skip
def CI(B:ByteArray)(c:UInt8)(r:Bool)(i:Int)(u:Nat->Ç):ĳ:=⟨#[Á B,È ľ c.toNat,u 2,u 3,Ï r,È Ø i,u 6,u 7,u 8,u 9,u 10,u 11,u 12,u 13,u 14,u 15,u 16],[]⟩
def Ah(B:ByteArray)(c:UInt8)(r:Bool)(i:Int)(a:ĳ):Prop:=∃u,a=CI B c r i u
section
variable{Y:ĳ->Ý->Prop}{c:UInt8}
def atc(u:Nat->Ç)(b:∀a,Ah B c ã B.size a->H a w):Code.wp À MX (Exit.then K<|QN H Y) (CI B c ã B.size u) w:=by
 unfold CI;conv=>arg 2;whnf
 go_wp2_with fail
 exact b _ (gR.gk _)
theorem atd(u:Nat->Ç)(i:Nat)(j:i<B.size)(e:B.size<=Ò)(f:B[i]≠c->∀a,Ah B c ã ((i+1:Nat):Int) a->K a w)(g:B[i]=c->∀a,Ah B c Ä i a->Y a w):Code.wp À MX (Exit.then K<|QN H Y) (CI B c ã i u) w:=by
 unfold CI;conv=>arg 2;whnf
 have k:Ø.wrap ((i:Int)+1)=((i+1:Nat):Int):=by unfold Ò at e;exact IntWalk.i64_in _ ⟨Z,Z⟩
 have b:=ff<|And.intro f g;clear f g e;by_cases d:B[i]=c
 .have h:((B[i].toNat:Int)==(c.toNat:Int))=Ä:=by rw[d];simp
  go_wp2_with fail
  exact b.out.2 d _ (gR.gk _)
 .have h:((B[i].toNat:Int)==(c.toNat:Int))=ã:=by
   grind [ü]
  go_wp2_with fail
  exact b.out.1 d _ (gR.gk _)
def UB(B:ByteArray)(c:UInt8)(yQ:Bool)(u:Ý)(a:ĳ)(w:Ý):Prop:=∃i:Nat,Ah B c ã i a/\i<=B.size/\decide (c∈B.data.toList.drop i)=yQ/\w=u
def HsE(B:ByteArray)(c:UInt8)(yQ:Bool)(u:Ý)(a:ĳ)(w:Ý):Prop:=Ah B c ã B.size a/\yQ=ã/\w=u
def HsR(B:ByteArray)(c:UInt8)(yQ:Bool)(u:Ý)(a:ĳ)(w:Ý):Prop:=∃i:Nat,Ah B c Ä i a/\yQ=Ä/\w=u
def xK(B:ByteArray)(a:ĳ)(_:Ý):Nat:=match a.tmps.getD 5 ł with
 |È _ i=>B.size-i.toNat
 |_=>0
def HO{r:Bool}(b:Ah B c r i y):xK B y w=B.size-i:=by obtain⟨u,rfl⟩:=b;show B.size-(i:Int).toNat=_;simp
theorem ate(h:B.size<=Ò)(a:ĳ)(w:Ý)(j:UB B c yQ u a w): Code.wp À MX (Exit.then (λb d=>UB B c yQ u b d/\xK B b d<xK B a w)<|QN (HsE B c yQ u)<|HsR B c yQ u) a w:=by
 let⟨i,e,n,f,d⟩:=j;rw[HO e];obtain⟨b,rfl⟩:=e;by_cases l:i=B.size
 .subst l;refine atc b λa q=>⟨q,?_,d⟩;rw[<-f,û (by rw[Ñ];exact Î _)];rfl
 .have g:i<B.size:=Z
  have m:i<B.data.toList.length:=by rwa[Ñ]
  rw[ë m,show B.data.toList[i]=B[i] by rw[è];rfl]at f;refine atd b i g h (λq a k=>⟨⟨i+1,k,Z,?_,d⟩,by rw[HO k];omega⟩) λq a k=>⟨i,k,?_,d⟩;all_goals grind
def atf(B:ByteArray)(c:UInt8)(d:B.size<=Ò)(w:Ý):Calls À 16 #[Á B,È ľ c.toNat] w λe f=>e=.returned (Ï<|decide<|c∈B.data.toList)/\f=w:=by
 have L:∀a,Ah B c ã (0:Nat) a->Code.wp À (Code.loop MX) (QN (HsE B c (decide<|c∈B.data.toList) w)<|HsR B c (decide<|c∈B.data.toList) w) a w:=λa g=>
  wp_loop (UB B c (decide<|c∈B.data.toList) w) (xK B) ⟨0,g,Ó _,U,U⟩<|ate d
 have H:=ff L;generalize decide (c∈B.data.toList)=yQ at*;clear L;go_enter Ĝ,Tryz.ntmps16;go_wp2_with fail;refine Code.wp_mono ?_ (H.out _ (gR.gk _));rintro(_|(_|_)|_|_|_|_) a v hq;all_goals first|exact absurd hq id|skip
 .obtain⟨b,rfl,rfl⟩:=hq;obtain⟨u,rfl⟩:=b;unfold CI;go_wp2_with fail;go_ret;exact⟨U,U⟩
 .obtain⟨i,b,rfl,rfl⟩:=hq;obtain⟨u,rfl⟩:=b;unfold CI;go_ret;exact⟨U,U⟩
end
def acs{l:fe}(e:ij l)(f:nB<=l.w.heap.size)(c:UInt8)(g:B.size<=Ò)(a:Ħ)(b:List Ħ): fv.fj À Ä (λh u=>kg l h/\h.d=l.d/\u=G (a.finish<|Ï<|decide<|c∈B.data.toList) b) l (G (é À 16 #[Á B,È ľ c.toNat] .normal)<|a::b):= abV e f fQ (λu h=>by simp at h;rcases h with rfl|rfl;exact .kC _;exact .iG _ _) (λh=>by cases h;rfl) (atf B c g) Ä a b
end Go.Proofs.Y.kZ
namespace Go.Proofs.Y.fv
open Go Go.Conc Go.Proofs.Y.Lift Go.RowKit Go.Conc.Lib Go.ConcR.Gen
def acu(a:Array Ę):Bool:=(É a.size).all λi=>match a[i]? with
 |none=>Ä
 |some o=>o.dst.isSome&&(match o.op with|.select _ _=>ã|_=>Ä)&&(o.op.operands.toList.all λx=>match x with
  |.tmp d=>(É a.size).all λj=>((a[j]?).bind (·.dst)) !=Â d||o.after.toList.any λe=>e.on==j&&vn e
  |_=>Ä)&&(match o.guard with
  |none=>Ä
  |some (j,_)=>o.after.toList.any λe=>e.on==j&&vn e)
def Fa(a:Array Ę)(t:Array Ç)(i:Nat):Ç:=t.getD (((a[i]?).bind (·.dst)).getD 0) ł
def MY(p:Nat->Ę->Prop):Nat->List Ę->Prop
 |_,[]=>True
 |n,o::r=>p n o/\MY p (n+1) r
def atg{p:Nat->Ę->Prop}:∀(l:List Ę) (n i:Nat) (o:Ę),MY p n l->l[i]?=Â o->p (n+i) o:=by
 intro l
 induction l with
 |nil=>intro n i o _ e;simp at e
 |cons x l a=>
  intro n i o h e;cases i with
  |zero=>
   rw[List.getElem?_cons_zero]at e;obtain rfl:=Ö e;exact h.1
  |succ i=>
   rw[List.getElem?_cons_succ]at e;rw[show n+(i+1)=n+1+i by omega];exact a _ i o h.2 e
section
variable{J:Jd}{l:fe}{c:Array Ç}
def lz.N(h:lz Q q (Fa Q c) wJ y)(g:∀d,Q.toList.all (λo=>o.dst !=Â d)=Ä->c[d]?=q[d]?)(i:c.size=q.size)(k:qu Q q.size=Ä){d:Nat}(l:∀j o,Q[j]?=Â o->o.dst=Â d->wJ.getD j ã=Ä):y.tmps[d]?=c[d]?:=by
 by_cases a:Q.toList.all (λo=>o.dst !=Â d)=Ä
 .rw[h.C a,g d a]
 .obtain⟨j,m,b⟩:∃j,∃h:j<Q.size,Q[j].dst=Â d:=by simpa using a
  have e:=Þ m;have f:d<c.size:=by rw[i];exact Yw k e b
  rw[h.r j _ d e (l j _ e b) b,Fa,e,Þ f];simp[b,f]
theorem ath{id:Nat}(E:jP l)(F:¬l.q)(K:f.kind≠.early)(m:qu Q q.size=Ä)(M:acu Q=Ä)(N:∀n,Kk n Q (É Q.size) []=Ä)(u:c.size=q.size)(z:∀d,Q.toList.all (λo=>o.dst !=Â d)=Ä->c[d]?=q[d]?) (O:MY (λi o=>ç o (Ą Q c)=Ä/\∀a,fG l l.w a->(Ĉ (Act.eval ⟨c,[]⟩) o).run P a=.ok (.value<|Fa Q c i) a/\∀e∈(Ĉ (Act.eval ⟨c,[]⟩) o).events P a #[],tZ l e) 0 Q.toList) (hn:∀a,fG l l.w a->fj P yQ J {l with w:=a} (G (f.at ⟨c,[]⟩<|Í Q []::L) qX)):fj P yQ J l (G (f.at ⟨q,[]⟩<|İ (.region id Q Ä)::L) qX):=by
 refine Kj (λwJ y B=>lz Q q (Fa Q c) wJ y/\∃a,fG l l.w a/\B={l with w:=a}) E F (λa r=>⟨lz.G _ _ _,{a with drawn:=a.drawn+1},⟨r.r,r.I,r.N,r.Y,r.S⟩,U⟩) (λn wJ y B i g C s=> ?_) λn wJ y B C S T=> ?_
 .obtain⟨b,a,r,rfl⟩:=C;obtain⟨o,h⟩:∃o,Q[i]?=Â o:=⟨_,Þ<|yV s⟩;have D:=ö.1 M i<|ä.2<|yV s;rw[h]at D;simp only[ø]at D;let⟨⟨⟨_,H⟩,V⟩,W⟩:=D;have I:Ĉ y.eval o=Ĉ (Act.eval ⟨c,[]⟩) o:=execOp_congr o (λqX f e=>by rw[e]at H;cases H) λx X=>by
   have p:=ö.1 V x<|ā.2 X;cases x with
   |tmp d=>
    show y.tmps.getD d ł=c.getD d ł;have:=b.N z u m (d:=d) λj Y k t=>by have:=ö.1 p j<|ä.2 (Û.1 k).1;simp only[k,ė,t,bne_self_eq_false,Bool.false_or]at this;exact ic s h this
    simp only[Array.getD_eq_getD_getElem?,this]
   |const v=>rfl
   |global g=>rfl
   |func g=>rfl
  have v:ç o (Ą Q y.tmps)=ç o (Ą Q c):=by
   unfold ç;cases g:o.guard with
   |none=>rfl
   |some p=>
    let⟨j,bv⟩:=p;rw[g]at W;have:Ą Q y.tmps j=Ą Q c j:=by
     unfold Ą;cases k:Q[j]? with
     |none=>rfl
     |some oj=>
      cases t:oj.dst with
      |none=>simp[t]
      |some d=>
       have:=b.N z u m (d:=d) λj' Y aub auc=>by grind [ic,Yx]
       simp only[ė,t,this]
    simp only[this]
  have t:=atg _ _ _ _ O (show Q.toList[i]?=Â o by rwa[Array.getElem?_toList]);rw[ĭ]at t;refine oD h (v.trans t.1) K (lV E r) F (λp g=> ?_) (λp g=> ?_)<|.fC λp g=>⟨_,U,b.fZ m h s λ_=>rfl,p,r.fg ⟨g.r,g.I,g.N,g.Y,g.S⟩,U⟩
  .rw[I];exact(t.2 p<|r.fg ⟨g.r,g.I,g.N,g.Y,g.S⟩).1
  .rw[I];exact(t.2 p<|r.fg ⟨g.r,g.I,g.N,g.Y,g.S⟩).2
 .obtain⟨b,a,r,rfl⟩:=C;have e:y=⟨c,[]⟩:=by
   let⟨t,v⟩:=y;have p:=b.M;simp only at p;subst p;congr 1;refine Array.ext_getElem? λd=>b.N z u m λj o k _=>(o5 T S _ [] (N n) λ_ g=>by cases g) j<|ä.2 (Û.1 k).1
  grind
def Fb:List Ę->List Ç->Array Ç->Array Ç
 |o::os,v::vs,t=>Fb os vs (match o.dst with|some d=>t.setIfInBounds d v|none=>t)
 |_,_,t=>t
def Fc:∀(a:List Ę) (b:List Ç) (t:Array Ç),(Fb a b t).size=t.size/\∀d,a.all (λo=>o.dst !=Â d)=Ä->(Fb a b t)[d]?=t[d]?
 |[],_,t=>⟨U,λ_ _=>rfl⟩
 |o::a,[],t=>⟨U,λ_ _=>rfl⟩
 |o::a,v::b,t=>by
  unfold Fb;cases c:o.dst with
  |none=>
   refine⟨(Fc a b t).1,λd h=>(Fc a b t).2 d ?_⟩;simp only[ĥ,ø]at h;exact h.2
  |some e=>
   refine⟨by rw[(Fc a b _).1];simp,λd h=> ?_⟩;simp only[ĥ,ø,c]at h;rw[(Fc a b _).2 d h.2,Array.getElem?_setIfInBounds_ne (by simpa using h.1)]
def ati{id:Nat}(b:List Ç)(d:jP l)(g:¬l.q)(j:f.kind≠.early)(k:qu Q q.size=Ä)(m:acu Q=Ä)(n:∀p,Kk p Q (É Q.size) []=Ä) (h:∀c,c=Fb Q.toList b q->MY (λi o=>ç o (Ą Q c)=Ä/\∀a,fG l l.w a->(Ĉ (Act.eval ⟨c,[]⟩) o).run P a=.ok (.value<|Fa Q c i) a/\∀e∈(Ĉ (Act.eval ⟨c,[]⟩) o).events P a #[],tZ l e) 0 Q.toList/\∀a,fG l l.w a->fj P yQ J {l with w:=a} (G (f.at ⟨c,[]⟩<|Í Q []::L) qX)): fj P yQ J l (G (f.at ⟨q,[]⟩<|İ (.region id Q Ä)::L) qX):= ath d g j k m n (Fc _ b _).1 (Fc _ b _).2 (h _ U).1 (h _ U).2
end
end Go.Proofs.Y.fv
namespace Go.Proofs.Y.kZ
open Go Go.Conc Go.Proofs Go.RowKit Go.Proofs.Y.Lift Go.Proofs.Y.gR Go.Proofs.Y.fv Go.Proofs.Y.py
open Go.Conc.Lib Go.ConcR.Gen Go.Proofs.YtgpphkdoanciiaaGreatDoor
noncomputable def UC:ŀ:=kV Ĳ [1,1,1,1,1,1,1]
noncomputable def MZ (a:Array Ç):Ĩ:=G ((base 10).at ⟨a,[]⟩ [İ UC]) []
structure TF(x:Nat)(S O T:ByteArray)(E F:Int)(tt:Array Ç):Prop where
 r:tt.size=131
 t7:tt[7]?=Â (Æ<|Â ⟨x,0,Ù⟩)
 M:tt[8]?=Â (Á S)
 N:tt[9]?=Â (È Ø E)
 Rm:tt[10]?=Â (Á O)
 Rn:tt[11]?=Â (È Ø F)
 C:tt[12]?=Â (Á T)
 I:tt[13]?=Â (È Ø E)
section
variable{l:fe}{x:Nat}{s:List fJ}{tt:Array Ç}{S O T:ByteArray}{E F:Int}
def acv(h:mj X W l x i s)(c:ij l)(a:TF x S O S E F tt)(f:(E≠0/\S=⟨#[]⟩)\/(E=0/\S=⟨#[33,53]⟩))(e:∀d,ij d->mj X W d x i s->vQ (Ï Ä) d.w):jl vQ l (MZ tt):=by
 have hF:True:=trivial;obtain⟨u,rfl⟩:=ug tt a.r;have g:u 8=Á S:=by simpa using a.M
 have j:u 9=È Ø E:=by simpa using a.N
 have k:u 12=Á S:=by simpa using a.C
 have m:u 13=È Ø E:=by simpa using a.I
 clear a;apply MJ;apply fX (n:=120) c.r.r;simp only[MZ,É,á,č,g,j,k,m];conv in UC=>whnf
 rcases f with⟨o,rfl⟩|⟨rfl,rfl⟩
 .have q:(E !=0)=Ä:=by rwa[bne_iff_ne]
  repeat w_nl fB
  refine Ã λ_ _=> ?_;exact .fC λp b=>⟨U,Ï Ä,λw=>IB (t:=6) U U ê U fu,e _ (c.C b)<|h.r b⟩
 .repeat w_nl fB
  refine Ã λ_ _=> ?_;exact .fC λp b=>⟨U,Ï Ä,λw=>IB (t:=6) U U ê U fu,e _ (c.C b)<|h.r b⟩
end
def atj:ŀ->Array Ę
 |.region _ a _=>a
 |_=>#[]
noncomputable def acw:Array Ę:=atj<|kV Ĳ [1,1,1,1,1,1,1,1,1,1,1,1,0]
noncomputable def acy:ŀ:=kV Ĳ [1,1,1,1,1,1,1,1,1,1,1,1,1]
noncomputable def UD (a:Array Ç):Ĩ:=G ((base 10).at ⟨a,[]⟩ [Í acw [2,3,4,5,6,7,8,9,10,11,12,13,14,15,16,17],İ acy]) []
section
variable{l:fe}{s:List fJ}{S T:ByteArray}{F:Int}{v:fJ}{c:UInt8}
def atl(h:mj X W l i n s)(m:ij l)(N:d.size=131)(O:d[82]?=Â (Æ<|Â ⟨i,0,Ù⟩))(P:d[12]?=Â (Á ⟨#[c]⟩))(Q:d[83]?=Â (Á ⟨#[c]⟩))(S:iy (we c)=(0,0,CC j))(T:s[1]?=Â v)(V:s[j]?=Â v)(hP:∀F,ij F->mj X W F i n s->vQ (Ï Ä) F.w):jl vQ l (UD d):=by
 have hF:True:=trivial;have G:=as1 S T V;have H:=ar5 h.I<|we c;rw[G]at H;obtain⟨u,rfl⟩:=ug d N;have e7:u 82=Æ (Â ⟨i,0,Ù⟩):=by simpa using O
 have e12:u 12=Á ⟨#[c]⟩:=by simpa using P
 have e83:u 83=Á ⟨#[c]⟩:=by simpa using Q
 clear O P Q N;apply pE;simp only[UD,É,á,č,e7,e12,e83];conv in acw=>whnf
 conv in acy=>whnf
 apply wh ⟨#[114,49,59,114]⟩ ⟨#[c]⟩ ⟨#[114,49,59,114,c]⟩ m (CG U) (by simp[Ê]);walk_nrm;apply wh ⟨#[114,49,59,114,c]⟩ ⟨#[59,108,49,59,108]⟩ ⟨#[114,49,59,114,c,59,108,49,59,108]⟩ m (CG U) (by simp[Ê]);walk_nrm;apply fX (n:=60) m.r.r;repeat w_nl fB
 refine Ã λ_ _=> ?_;apply wh ⟨#[114,49,59,114,c,59,108,49,59,108]⟩ ⟨#[c]⟩ ⟨#[114,49,59,114,c,59,108,49,59,108,c]⟩ m (CG U) (by simp[Ê]);walk_nrm;apply wh ⟨#[114,49,59,114,c,59,108,49,59,108,c]⟩ ⟨#[59,117,49,59,117]⟩ ⟨#[114,49,59,114,c,59,108,49,59,108,c,59,117,49,59,117]⟩ m (CG U) (by simp[Ê]);walk_nrm;apply fX (n:=60) m.r.r;repeat w_nl fB
 refine Ã λ_ _=> ?_;apply wh ⟨#[114,49,59,114,c,59,108,49,59,108,c,59,117,49,59,117]⟩ ⟨#[c]⟩ ⟨#[114,49,59,114,c,59,108,49,59,108,c,59,117,49,59,117,c]⟩ m (CG U) (by simp[Ê]);walk_nrm;apply wh ⟨#[114,49,59,114,c,59,108,49,59,108,c,59,117,49,59,117,c]⟩ ⟨#[59,100,49,58]⟩ ⟨#[114,49,59,114,c,59,108,49,59,108,c,59,117,49,59,117,c,59,100,49,58]⟩ m (CG U) (by simp[Ê]);walk_nrm;apply fX (n:=60) m.r.r;repeat w_nl fB
 refine Ã λ_ _=> ?_;apply wh ⟨#[114,49,59,114,c,59,108,49,59,108,c,59,117,49,59,117,c,59,100,49,58]⟩ ⟨#[c]⟩ ⟨#[114,49,59,114,c,59,108,49,59,108,c,59,117,49,59,117,c,59,100,49,58,c]⟩ m (CG U) (by simp[Ê]);walk_nrm;refine .fC λb p=>⟨m.C p,U,?_⟩;have I:=m.C p;have Y:=h.r p;refine Ae (f:=26) (args:=#[Æ<|Â ⟨i,0,Ù⟩,Á<|we c,È Ø 7]) I U fQ (by k_ne) (λw=>by unfold we;go_simp) (λw=>Å U ě U U #[]) λwH o7=> ?_;refine atb (n:=7) (Y.r o7) (I.C o7) (by show _<=Ò;simp[we,Ê,Ò]) G (by simp[CF]) (as0 v) U H λx lv z h3 C hO=> ?_;let⟨pk,o,E⟩:=jf C;obtain⟨a,rfl⟩:∃a,pk=Â ⟨a,0,Ù⟩:=by
  rcases C.2 with⟨e,M⟩|⟨g,_,_,e,_⟩
  .omega
  .rw[E]at e;cases e;exact⟨g,U⟩
 have J:lv.ownBlock=Â a:=by rw[E];rfl
 have K:∀g y,(jh<|CF v)[g]?=Â y->x.w.cell? ⟨a,g,Ù⟩=Â y:=λg y q=>by have q:=C.cells J g y q;rwa[Addr.add_lit,ĭ]at q
 have xj:=hO a J;clear C hO;rw[E];unfold CF jh at K;generalize zS (xL v.s)=A at*;generalize qd (v.r.map oH)=B at*;generalize qd (v.C.map xO)=D at*;clear G H Y I E J;walk_nrm;apply MJ;apply fX (n:=60) z.r.r;repeat w_nl fB
 refine Ã λ_ _=> ?_;refine ati [Ï Ä,Ï Ä,æ (Â ⟨a,0,Ù⟩) 7 o,Æ<|Â ⟨a,0,Ù⟩,Á A,æ (Â ⟨a,0,Ù⟩) 7 o,Æ<|Â ⟨a,1,Ù⟩,Á A,Ï Ä,Ï Ä,Ï Ä,æ (Â ⟨a,0,Ù⟩) 7 o,Æ<|Â ⟨a,2,Ù⟩,Á B,æ (Â ⟨a,0,Ù⟩) 7 o,Æ<|Â ⟨a,3,Ù⟩,Á B,Ï Ä,Ï Ä,Ï Ä,æ (Â ⟨a,0,Ù⟩) 7 o,Æ<|Â ⟨a,4,Ù⟩,Á D,æ (Â ⟨a,0,Ù⟩) 7 o,Æ<|Â ⟨a,5,Ù⟩,Á D,Ï Ä,Ï Ä,Ï Ä,æ (Â ⟨a,0,Ù⟩) 7 o,Æ<|Â ⟨a,6,Ù⟩,Á ⟨#[45]⟩,Ï Ä,Ï Ä,Ï Ä] z.r.r z.q (by k_ne) fu fu (λM=>by cases M<;>kernel_rfl) λt1 L=> ?_;simp only[Fb]at L;simp at L;subst L;have k:∀b,fG x x.w b->∀g y,[Á A,Á A,Á B,Á B,Á D,Á D,Á ⟨#[45]⟩][g]?=Â y->b.cell? ⟨a,g,Ù⟩=Â y:=λb r g y q=>(gK<|r.I a<|Õ xj).trans<|K g y q;have atm:∀g,gX x ⟨a,g,Ù⟩:=λg=>Õ<|Õ xj;clear K T V S;refine⟨?_,λb p=> ?_⟩
 .iterate 35 refine⟨⟨fQ,λb r=>⟨by
   have c0:=k b r 0 _ U;have c1:=k b r 1 _ U;have c2:=k b r 2 _ U;have c3:=k b r 3 _ U;have c4:=k b r 4 _ U;have c5:=k b r 5 _ U;have c6:=k b r 6 _ U;clear k;simp only[Fa];go_simp,λe M=>by
   first
   |(simp[go_sem]at M;done)
   |(simp[go_sem,k b r 0 _ U,k b r 1 _ U,k b r 2 _ U,k b r 3 _ U,k b r 4 _ U,k b r 5 _ U,k b r 6 _ U]at M;subst M;exact(atm _).C)⟩⟩,?_⟩
  trivial
 .have e:=z.C p;have h4:=h3.r p;apply fX (n:=60) e.r.r;repeat w_nl fB
  refine Ã λ_ _=> ?_;exact .fC λDv M=>⟨U,Ï Ä,λw=>IB (t:=6) U U ê U fu,hP _ (e.C M)<|h4.r M⟩
end
section
variable{l:fe}{s:List fJ}{O T:ByteArray}{F:Int}{v:fJ}{c:UInt8}
def UE(h:mj X W l i n s)(f:ij l)(b:TF i ⟨#[49]⟩ O ⟨#[c]⟩ 0 F d)(k:(c=50/\F≠0)\/(c=50/\F=0/\O=⟨#[33,53]⟩)\/(c=51/\F=0/\O=⟨#[50]⟩))(o:iy (we c)=(0,0,CC j))(p:s[1]?=Â v)(q:s[j]?=Â v)(x:∀e,ij e->mj X W e i n s->vQ (Ï Ä) e.w):jl vQ l (MZ d):=by
 have hF:True:=trivial;have r:∀e,ij e->mj X W e i n s->∀g,g.size=131->g[82]?=Â (Æ<|Â ⟨i,0,Ù⟩)->g[12]?=Â (Á ⟨#[c]⟩)->g[83]?=Â (Á ⟨#[c]⟩)->jl vQ e (UD g):=λe y z g B C D E=>atl z y B C D E o p q x;obtain⟨u,rfl⟩:=ug d b.r;have G:u 7=Æ (Â ⟨i,0,Ù⟩):=by simpa using b.t7
 have H:u 8=Á ⟨#[49]⟩:=by simpa using b.M
 have I:u 9=È Ø 0:=by simpa using b.N
 have J:u 10=Á O:=by simpa using b.Rm
 have K:u 11=È Ø F:=by simpa using b.Rn
 have L:u 12=Á ⟨#[c]⟩:=by simpa using b.C
 have M:u 13=È Ø 0:=by simpa using b.I
 clear b o p q;have m:=ff r;clear r;apply pE;apply fX (n:=160) f.r.r;simp only[MZ,É,á,č,G,H,I,J,K,L,M];conv in UC=>whnf
 rcases k with⟨rfl,k⟩|⟨rfl,rfl,rfl⟩|⟨rfl,rfl,rfl⟩
 .have N:(F==0)=ã:=by rwa[beq_eq_false_iff_ne]
  repeat w_nl fB
  refine Ã λ_ _=> ?_;exact .fC λt a=>⟨f.C a,U,m.out _ (f.C a) (h.r a) _ U U U U⟩
 .repeat w_nl fB
  refine Ã λ_ _=> ?_;exact .fC λt a=>⟨f.C a,U,m.out _ (f.C a) (h.r a) _ U U U U⟩
 .repeat w_nl fB
  refine Ã λ_ _=> ?_;exact .fC λt a=>⟨f.C a,U,m.out _ (f.C a) (h.r a) _ U U U U⟩
end
section
variable{l:fe}{s:List fJ}{O T:ByteArray}{F:Int}{v:fJ}{c:UInt8}
def atn{c C:ByteArray}(W:ij l)(hg:nz l.w)(h4:∀b,b=1\/b=2\/b=3\/b=4->l.O b)(hB:c.size<=10^15-3)(hC:C.size<=10^15-3)(J:Int)(rE:-9223372036854775808<=J)(re:J<=9223372036854775807) (hP:∀d,ij d->(∀b,l.O b->d.O b/\d.w.heap[b]?=l.w.heap[b]?)->l.w.heap.size<=d.w.heap.size->vQ (Ï Ä) d.w): jl vQ l (G (é À 10 #[Á c,Á C,È Ø J] .normal) []):=by
 have hF:True:=trivial;have mB:c.size<=Ò:=by unfold Ò;omega
 have mC:C.size<=Ò:=by unfold Ò;omega
 rw[Ct [_,_,_] 128 ê];simp only[Ă,õ,à];conv in kV _ _=>whnf
 apply pE;apply fX (n:=40) W.r.r;repeat w_go fB
 refine Ã λ_ _=> ?_;refine .fC λw₁ mO=>⟨W.C mO,U,?_⟩;have lY:=W.C mO;refine Ae (f:=15) (args:=#[È Ø J]) lY U fQ (by k_ne) (λw=>by go_simp) (λw=>Å U Tryz.func15 U U #[]) λwH D=> ?_;have K:fG l l.w wH:=mO.fg ⟨D.r,D.I,D.N,D.Y,D.S⟩;refine asb (lY.C D) (hg.r (ú hg.fx K.r) λb q=>K.I b<|Õ<|h4 b q) h4 J rE re λl3 i n sl V E L=> ?_;have AN:l.w.heap.size<=i:=ú K.r L.I;have uno:mj l.O l.w l3 i n [gR.kY]:=⟨⟨sl,V,L.r⟩,λb q=>⟨⟨(L.C b q).1,(L.C b q).2.trans<|K.I b<|Õ q⟩,by have:=W.r.fx b<|Õ q;omega⟩⟩;have y:∀d s,ij d->mj l.O l.w d i n s->vQ (Ï Ä) d.w:=λd s ky h'=>hP d ky (λb q=>(h'.C b q).1) (by let⟨_,_,q⟩:=h'.a;exact ú AN<|Nat.le_of_lt<|ky.r.fx i<|Õ q.fq);clear L hP AN K;walk_nrm;apply pE;apply fX (n:=40) E.r.r;repeat w_go fB
 refine Ã λ_ _=> ?_;apply oD (v:=Ï ã) U fQ (by k_ne) E.r.r E.q (λw _=>by go_simp) (λw _ e g=>by simp[go_sem,abU]at g);walk_nrm;apply fX (n:=60) E.r.r;repeat w_nl fB
 refine Ã λ_ _=> ?_;refine yb (f:=16) (args:=#[Á c,È ľ 59]) U fQ (by k_ne) E.r.r (λw=>by go_simp) (λw=>Å U Ĝ U U #[]) λabW vv=> ?_;have BH:=E.C vv;have u4:=uno.r vv;refine fv.fj.lI ?_<|acs BH u4.N 59 mB _ _;rintro l5 g5 ⟨m,M,rfl⟩;have H:=kg.zp BH m M;have u5:=u4.M (λb q=>⟨m.O b q,m.r.I b<|Õ q⟩) m.r.r;clear m M u4 BH;rw[ġ];by_cases X:59∈c.data.toList
 .rw[decide_eq_true X];walk_nrm;refine .fC λUt k=>⟨H.C k,U,?_⟩;apply MJ;apply fX (n:=60) (H.C k).r.r;repeat w_nl fB
  refine Ã λ_ _=> ?_;exact .fC λg e=>⟨U,Ï Ä,λw=>IB (t:=6) U U ê U fu,y _ _ ((H.C k).C e)<|(u5.r k).r e⟩
 rw[decide_eq_false X];walk_nrm;apply fX (n:=60) H.r.r;repeat w_nl fB
 refine Ã λ_ _=> ?_;refine yb (f:=16) (args:=#[Á C,È ľ 59]) U fQ (by k_ne) H.r.r (λw=>by go_simp) (λw=>Å U Ĝ U U #[]) λUt k=> ?_;have Ag:=H.C k;have u6:=u5.r k;refine fv.fj.lI ?_<|acs Ag u6.N 59 mC _ _;rintro l7 g7 ⟨m,M,rfl⟩;have u:=kg.zp Ag m M;have u7:=u6.M (λb q=>⟨m.O b q,m.r.I b<|Õ q⟩) m.r.r;clear m M u6 Ag;rw[ġ];by_cases Y:59∈C.data.toList
 .rw[decide_eq_true Y];walk_nrm;refine .fC λUt k=>⟨u.C k,U,?_⟩;apply MJ;apply fX (n:=60) (u.C k).r.r;repeat w_nl fB
  refine Ã λ_ _=> ?_;exact .fC λg e=>⟨U,Ï Ä,λw=>IB (t:=6) U U ê U fu,y _ _ ((u.C k).C e)<|(u7.r k).r e⟩
 rw[decide_eq_false Y];have cB:=aco X gR.kY;have cC:=aco Y gR.kY;clear X Y uno u5;have zB:(⟨#[105,48,58]⟩:ByteArray).size+c.size<=10^15:=by show 3+c.size<=_;omega
 have zC:(⟨#[105,48,58]⟩:ByteArray).size+C.size<=10^15:=by show 3+C.size<=_;omega
 obtain⟨z,M0⟩:∃T,(⟨#[105,48,58]⟩++c:ByteArray)=T:=⟨_,U⟩;obtain⟨TC,UF⟩:∃T,(⟨#[105,48,58]⟩++C:ByteArray)=T:=⟨_,U⟩;have yB:z.size<=Ò:=by rw[<-M0,å];unfold Ò;omega
 have yC:TC.size<=Ò:=by rw[<-UF,å];unfold Ò;omega
 rw[M0]at cB;rw[UF]at cC;walk_nrm;apply fX (n:=60) u.r.r;repeat w_nl fB
 refine Ã λ_ _=> ?_;apply wh ⟨#[105,48,58]⟩ c z u M0 zB;walk_nrm;refine .fC λBF e=>⟨u.C e,U,?_⟩;refine Ae (f:=17) (args:=#[Æ<|Â ⟨i,0,Ù⟩,Á z]) (u.C e) U fQ (by k_ne) (λw=>by go_simp) (λw=>Å U ă U U #[]) λvx x=> ?_;refine MW ((u7.r e).r x) ((u.C e).C x) yB λl10 N M1=> ?_;obtain⟨B,h,s1,I⟩:∃B h s1,lS [gR.kY] z=(B,h,s1):=⟨_,_,_,U⟩;rw[I]at M1|-;dsimp only at M1|-;walk_nrm;apply pE;apply fX (n:=60) N.r.r;repeat w_nl fB
 refine Ã λ_ _=> ?_;apply wh ⟨#[105,48,58]⟩ C TC N UF zC;walk_nrm;refine .fC λBF e=>⟨N.C e,U,?_⟩;refine Ae (f:=17) (args:=#[Æ<|Â ⟨i,0,Ù⟩,Á TC]) (N.C e) U fQ (by k_ne) (λw=>by go_simp) (λw=>Å U ă U U #[]) λvx x=> ?_;refine MW ((M1.r e).r x) ((N.C e).C x) yC λl11 P M3=> ?_;obtain⟨O,F,s2,p⟩:∃B h s9,lS s1 TC=(B,h,s9):=⟨_,_,_,U⟩;rw[p]at M3|-;dsimp only at M3|-;walk_nrm;apply pE;apply fX (n:=60) P.r.r;repeat w_nl fB
 refine Ã λ_ _=> ?_;apply wh ⟨#[105,48,58]⟩ c z P M0 zB;walk_nrm;refine .fC λBF e=>⟨P.C e,U,?_⟩;refine Ae (f:=17) (args:=#[Æ<|Â ⟨i,0,Ù⟩,Á z]) (P.C e) U fQ (by k_ne) (λw=>by go_simp) (λw=>Å U ă U U #[]) λvx x=> ?_;refine MW ((M3.r e).r x) ((P.C e).C x) yB λl12 UG UH=> ?_;obtain⟨T,E',s3,r⟩:∃B h s9,lS s2 z=(B,h,s9):=⟨_,_,_,U⟩;rw[r]at UH|-;dsimp only at UH|-;clear u7 M1 M3;walk_nrm;apply pE;apply fX (n:=60) UG.r.r;iterate 6 w_nl fB
 refine Ã λ_ _=> ?_;refine .fC λBF e=>⟨UG.C e,U,?_⟩;have Q:=UG.C e;have S:=UH.r e;rcases cB with⟨E0,M4,f⟩|⟨o,f⟩
 .rw[f]at I r;cases I;cases r;refine acv (O:=O) (F:=F) S Q ?_ (Õ ⟨M4,U⟩) λd=>y d _;exact⟨U,U,U,U,U,U,U,U⟩
 .have f1:=f [gR.kY] U A;rw[f1]at I;cases o with
  |none=>
   cases I;have h2:s2[0]?=Â gR.kY/\s2.length<40:=by
    rcases cC with⟨E0,M4,g⟩|⟨o,g⟩
    .rw[g]at p;cases p;exact⟨U,A⟩
    .rw[g [gR.kY] U A]at p;cases o with
     |none=>cases p;exact⟨U,A⟩
     |some v=>cases p;exact⟨U,by show 2<40;decide⟩
   rw[f s2 h2.1 h2.2]at r;cases r;refine acv (O:=O) (F:=F) S Q ?_ (ĕ ⟨U,U⟩) λd=>y d _;exact⟨U,U,U,U,U,U,U,U⟩
  |some v=>
   cases I;rcases cC with⟨E0,M4,g⟩|⟨o,g⟩
   .rw[g]at p;cases p;rw[f _ U (by show 2<40;decide)]at r;cases r;refine UE (O:=⟨#[]⟩) (j:=2) S Q ?_ (Õ ⟨U,M4⟩) acn U U λd=>y d _;exact⟨U,U,U,U,U,U,U,U⟩
   .rw[g _ U (by show 2<40;decide)]at p;cases o with
    |none=>
     cases p;rw[f _ U (by show 2<40;decide)]at r;cases r;refine UE (j:=2) S Q ?_ (ĕ<|Õ ⟨U,U,U⟩) acn U U λd=>y d _;exact⟨U,U,U,U,U,U,U,U⟩
    |some v'=>
     cases p;rw[f _ U (by show 3<40;decide)]at r;cases r;refine UE (j:=3) S Q ?_ (ĕ<|ĕ ⟨U,U,U⟩) asZ U U λd=>y d _;exact⟨U,U,U,U,U,U,U,U⟩
end
def ato(c:nz W){C:ByteArray}(d:B.size<=10^15-3)(e:C.size<=10^15-3)(a:Int)(f:-9223372036854775808<=a)(g:a<=9223372036854775807): rW (λv w'=>v=Ï Ä/\nF W w') #[G (é À 10 #[Á B,Á C,È Ø a] .normal) []] W Ù #[]:= ash (l:=abZ W) (atn (ab0 W) c (asi c) d e a f g λi _ v h=>⟨U,λb q=>(v b q).2,h⟩) (ab0 W) U
end Go.Proofs.Y.kZ
