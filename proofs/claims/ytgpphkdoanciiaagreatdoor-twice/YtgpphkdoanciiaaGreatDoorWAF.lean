import Derived.Test.YtgpphkdoanciiaaGreatDoorWAE
import Derived.Lib.LaidTab
import Derived.OpenShut
import Derived.Test.YtgpphkdoanciiaaGreatDoorRows
import Derived.Conc.LeavingOf
import Derived.LaidMore
import Derived.Stop.Joined
import Derived.Carry
import Derived.Orders
set_option linter.all false
set_option maxRecDepth 1000000
set_option maxHeartbeats 8000000
open Go.Proofs.Tryz renaming prog->À,func10->í,func17->ą,underlying36->Ď,t9->Ē,underlying25->ē,underlying3->Ė,underlying5->Ę,func24->ĝ,func26->Ğ,func16->ğ,f10->ĳ,type9->Ķ,f24->ł
open Go.Value renaming string->Á,pointer->Æ,int->È,bool->Ò,slice->é
open Option renaming some->Â,none->Ú,bind_some->è,map_eq_some_iff->û,map_some->ġ
open Go.Conc.Goes renaming stop->Ã
open Bool renaming true->Ä,false->ä,and_eq_true->ú
open Go.Conc renaming events_call_body->Å
open Go renaming Value->Ç,maxLen->Õ,World->Þ,yielded->Ć,execOp->ċ,Oper->ě,laidMetH->Ĥ,Frame->Ĩ,Goroutine->Ī,DataW->į,Act->Ĵ,TypeId->ķ,IntKind->ĸ,Code->Ł,undef->Ń
open ByteArray renaming data_extract->É,size->Ì,data_append->Û,size_append->ç,ext->Ĉ,extract->ĺ
open Array renaming getElem?_eq_some_iff->Ê,toList_extract->Ñ,length_toList->Ô,getElem?_eq_getElem->ß,getElem_toList->ë,mem_toList_iff->ă,toList_append->ć
open List renaming range->Ë,getElem?_eq_getElem->à,nil_append->á,getElem?_map->å,mem_range->æ,drop_eq_getElem_cons->î,extract_eq_take_drop->ï,mem_cons->ñ,take->ó,drop->ô,getD->õ,flatMap_eq_nil_iff->ö,cons_append->ø,all_eq_true->ù,drop_eq_nil_of_le->ý,mem_append->þ,replicate->Ą,getElem?_drop->ĉ,length_append->Č,mem_singleton->č,mem_map->ď,take_add_one->Đ,map->đ,not_mem_nil->ė,append_nil->Ģ,map_cons->Ħ,all_cons->ħ,map_nil->Ĭ
open Go.Proofs.YtgpphkdoanciiaaGreatDoor.Rows renaming laid_math_bits_deBruijn32tab->Í,laid_math_bits_deBruijn64tab->Î,laid_attic_attic_stepRules->Ó,laid_internal_strconv_uint64pow10->Ý
open Go.Item renaming inRegion->Ï,code->ı
open Nat renaming le_refl->Ð,zero_le->Ö,le_trans->ü,one_pos->Ĝ,zero_add->Į
open Option.some renaming inj->Ø,injEq->Ĺ
open Go.IntKind renaming i64->Ù,u8->Ŀ
open Or renaming inl->Ü,inr->ę
open List.range renaming loop->â
open Go.DataW renaming trod->ã,trod_int->ā,agg->Ň
open Go.Region renaming wanted->ê
open Go.Frame renaming enter->ì,finish_at->ģ
open Go.Obj renaming cells->ð,row?->ŀ
open Go.Instr renaming sliceAt->ò,sliceBound->Ě,slice->Ĳ
open UInt8 renaming toNat_inj->ÿ,ofNat->İ
open Go.Lib renaming tabData->Ā
open Go.World renaming cell?->Ă,var?->ĵ
variable{i n j b k m J j9 j7 j6:Nat}{w u W jX:Þ}{v x z jQ:Ç}{h c:Int}{e t T:ķ}{d q:Array Ç}{P:Go.Program}{y:Ĵ}{B:ByteArray}{X:Nat->Prop}{l:List Ç}{yQ:Bool}{K H:Ĵ->Þ->Prop}{L:List Go.Item}{jJ:List Nat}{qX:List Ĩ}{zQ:List Int}{xJ:Nat×Nat}{wJ:Array Bool}{vX:List ByteArray}{vQ:Ç->Þ->Prop}{Q:Array ě}{f:Ĩ}
namespace Go.Proofs.Y.lb
open Go Go.Conc Go.Proofs Go.RowKit Go.Proofs.Y.Lift Go.Proofs.Y.gR Go.Proofs.Y.fv Go.Proofs.Y.pJ
open Go.Proofs.YtgpphkdoanciiaaGreatDoor (Rows.laid_math_bits_deBruijn32tab Rows.laid_math_bits_deBruijn64tab Rows.laid_internal_strconv_uint64pow10 Rows.laid_attic_attic_stepRules)
def Oh:List (String×DataW Unit):=[("math/bits.deBruijn32tab",Í),("math/bits.deBruijn64tab",Î),("internal/strconv.uint64pow10",Ý),("attic/attic.stepRules",Ó)]
def Oi(h:W.ShapedOpen À)(g:Nat)(t:ķ)(b:g<À.globals.size)(e:(((begin À (λ_ _=>0) default).world.heap[g]?).bind ŀ).map (·.2)=Â t): ∃a,W.heap[g]?=Â (ð a t):=by let⟨⟨z,c⟩,d,f⟩:=û.1 e;let⟨a,i,_⟩:=h.1 g z c b d;cases f;exact⟨a,i⟩
def ab1{n:String}(b:À.globalNamed n=Â i)(h:W.heap[i]?=Â (ð q t xJ))(a:W.var? À n=Â d):q=d:=by unfold ĵ at a;rw[b]at a;simp only[è,h]at a;simpa using a
def UQ{n:String}{N:Nat}{k:ĸ}{p:List MemPlace} (a:À.globalNamed n=Â i) (f:(À.globals[i]?).map (·.type)=Â t) (h:À.underlying t=Â (.array N e)) (l:À.underlying e=Â (.int k)) (m:À.cellsOf e=1) (o:À.cellsOf t=N) (r:W.heap[i]?=Â (ð d t xJ)) (s:À.globalNamed n=Â b) (u:(À.globals[b]?).map (·.type)=Â T) (v:W.var? À n=Â q) (w:ã (λ_=>()) À W 0 (λ_=>Ä) ä j T q.toList=Â (Ā k zQ,p)):d=(zQ.map λz=>È k z).toArray:=by obtain rfl:=Ø<|a.symm.trans s;obtain rfl:=Ø<|f.symm.trans u;rw[ab1 a r v,<-Lib.cells_of_tab h l m o w]
def ase:À.cellsOf 299=3:=ft
def ab2:À.cellsOf 36=1:=ft
def asf:À.cellsOf 3=1:=ft
def asg:À.cellsOf 300=69:=ft
def ash{p:List MemPlace}(v:ã (λ_=>()) À W 0 (λ_=>Ä) ä n 300 l=Â (Ó,p)): l.length=69/\∀(i:Nat) (r:Int×Int×Int),iO[i]?=Â r->l[i*3]?=Â (È .u64 r.1)/\l[i*3+1]?=Â (È Ù r.2.1)/\l[i*3+2]?=Â (È Ù r.2.2):=by
 obtain⟨f,m,rfl,w,y,K,z⟩:=DataW.trod_array Tryz.underlying300 v;refine⟨y.trans asg,λi r o=> ?_⟩;have B:i<23:=by have:=(List.getElem?_eq_some_iff.1 o).1;exact this
 have g:=z i B;rw[ase]at g;have C:f.map (·.1)=iO.map λr=>(Ň [.lit<|.int .u64 r.1,.lit<|.int Ù r.2.1,.lit<|.int Ù r.2.2]:į Unit):=by have:=congrArg Prod.fst w;simp only[Ó,DataW.agg.injEq]at this;exact this.symm
 obtain⟨x,q⟩:∃x,f[i]?=Â x:=⟨_,à Z⟩;rw[q]at g;have d:(f.map (·.1))[i]?=Â x.1:=by simp[q]
 rw[C]at d;simp only[å,o,ġ,Ĺ]at d;obtain⟨e,h,rfl,j,L,D,k⟩:=DataW.trod_struct Tryz.underlying299 g;have a:=k 0 _ U;have b:=k 1 _ U;have c:=k 2 _ U;have a:ã _ À W 0 _ ä h 36 (ó (À.cellsOf 36)<|ô 0<|ó 3<|ô (i*3) l)=e[0]?:=a;have b:ã _ À W 0 _ ä h 3 (ó (À.cellsOf 3)<|ô 1<|ó 3<|ô (i*3) l)=e[1]?:=b;have c:ã _ À W 0 _ ä h 3 (ó (À.cellsOf 3)<|ô 2<|ó 3<|ô (i*3) l)=e[2]?:=c;rw[ab2]at a;rw[asf]at b c;match e,D,j,a,b,c with
 |[y0,y1,y2],_,j,a,b,c=>
  let⟨M,E,F,_⟩:=ā Ď (show ã _ _ _ _ _ _ _ 36 _=Â y0 from a);let⟨N,G,H,_⟩:=ā Ė (show ã _ _ _ _ _ _ _ 3 _=Â y1 from b);let⟨O,I,J,_⟩:=ā Ė (show ã _ _ _ _ _ _ _ 3 _=Â y2 from c);subst F;subst H;subst J;rw[j]at d;simp only[Ħ,Ĭ,DataW.agg.injEq,List.cons.injEq,DataW.lit.injEq,Lit.int.injEq,true_and,and_true]at d;obtain⟨rfl,rfl,rfl⟩:=d;have s:=congrArg (·[0]?) E;have t:=congrArg (·[0]?) G;have u:=congrArg (·[0]?) I;simp[List.getElem?_take,ĉ]at s t u;exact⟨s,t,u⟩
def ab3(h:∀v∈d.toList,∃k n,v=È k n):fQ (lh X i) d d:=pF λv a=>by obtain⟨k,n,rfl⟩:=h v a;exact .iF _ _
def asi{l:List (String×DataW Unit)}(h:Ĥ P l W)(a:(l.filter λx=>x.2.handleName?.isSome)=[]):∃b,DataW.LaidVars P W l b:=by unfold Ĥ at h;rw[a]at h;exact⟨h.choose,h.choose_spec.1⟩
def asj:À.cellsOf 304=32:=ft
def asl:À.cellsOf 305=64:=ft
def asn:À.cellsOf 291=20:=ft
def ab4:À.cellsOf 5=1:=ft
def gn1:À.globalNamed "internal/strconv.uint64pow10"=Â 1:=ft
def gn2:À.globalNamed "attic/attic.stepRules"=Â 2:=ft
def gn3:À.globalNamed "math/bits.deBruijn32tab"=Â 3:=ft
def gn4:À.globalNamed "math/bits.deBruijn64tab"=Â 4:=ft
def Oj(g:Nat)(t:ķ)(h:(g,t)∈[(1,291),(2,300),(3,304),(4,305)]):(À.globals[g]?).map (·.type)=Â t/\g<À.globals.size/\(((begin À (λ_ _=>0) default).world.heap[g]?).bind ŀ).map (·.2)=Â t:=by
 simp only[ñ,ė,or_false,Prod.mk.injEq]at h;rcases h with⟨rfl,rfl⟩|⟨rfl,rfl⟩|⟨rfl,rfl⟩|⟨rfl,rfl⟩
 .exact⟨ft,of_decide_eq_true ft,ft⟩
 .exact⟨ft,of_decide_eq_true ft,ft⟩
 .exact⟨ft,of_decide_eq_true ft,ft⟩
 .exact⟨ft,of_decide_eq_true ft,ft⟩
def aso:į Unit->Int
 |.lit (.int _ z)=>z
 |_=>0
def ab5:į Unit->List Int
 |Ň l=>l.map aso
 |_=>[]
def asq:(Í:į Unit)=Ā Ŀ (ab5 Í):=rfl
def asr:(Î:į Unit)=Ā Ŀ (ab5 Î):=rfl
def asu:(Ý:į Unit)=Ā .u64 Lib.pow10Tab:=rfl
def UR{k:ĸ}:∀v∈(zQ.map λz=>È k z).toArray.toList,∃k n,v=È k n:=λv a=>by simp only[ď]at a;obtain⟨z,_,rfl⟩:=a;exact⟨_,_,U⟩
def asv(k:Nat)(h:k<69):∃i j,i<23/\j<3/\k=i*3+j:=⟨k/3,k%3,Z,Z,Z⟩
theorem asw{W:Þ}(hs:W.ShapedOpen À)(hl:Ĥ À Oh W):nI W:=by
 obtain⟨ps,g3,t3,cs3,f3,p3,q3,UG,ht3,hv3,rN,⟨g4,t4,cs4,f4,p4,q4,hg4,Ib,hv4,SV,⟨g1,t1,cs1,f1,p1,q1,uH,Cx,hv1,CZ,⟨g2,t2,cs2,f2,p2,q2,MD,KE,NJ,mV,_,_⟩,_⟩,_⟩,_⟩:=asi hl (by kernel_rfl);obtain⟨y1,s1,z1⟩:=Oj 1 291 (by simp);obtain⟨y2,s2,z2⟩:=Oj 2 300 (by simp);obtain⟨y3,s3,z3⟩:=Oj 3 304 (by simp);obtain⟨y4,s4,z4⟩:=Oj 4 305 (by simp);obtain⟨c1,b1⟩:=Oi hs 1 291 s1 z1;obtain⟨c2,b2⟩:=Oi hs 2 300 s2 z2;obtain⟨c3,b3⟩:=Oi hs 3 304 s3 z3;obtain⟨c4,b4⟩:=Oi hs 4 305 s4 z4;rw[asq]at rN;rw[asr]at SV;rw[asu]at CZ;have e3:=UQ gn3 y3 Tryz.underlying304 Ę ab4 asj b3 UG ht3 hv3 rN;have e4:=UQ gn4 y4 Tryz.underlying305 Ę ab4 asl b4 hg4 Ib hv4 SV;have e1:=UQ gn1 y1 Tryz.underlying291 Ď ab2 asn b1 uH Cx hv1 CZ;obtain rfl:=Ø (gn2.symm.trans MD);obtain rfl:=Ø (y2.symm.trans KE);obtain⟨hlen,mA⟩:=ash mV;have e2:=ab1 gn2 b2 NJ;subst e2;have ab6:=λi r hr=>by have:=mA i r hr;simpa using this
 have ab7:∀(k:Nat) (v:Ç),c2[k]?=Â v->∃(kd:ĸ) (n:Int),v=È kd n/\kd≠Ŀ:=λk v hv=>by
  have hk:k<69:=by
   have h0:=(Ê.1 hv).1;have h1:c2.size=69:=by simpa using hlen
   omega
  obtain⟨i,j,hi,hj,rfl⟩:=asv k hk;obtain⟨r,hr⟩:∃r,iO[i]?=Â r:=⟨_,à (show i<iO.length from hi)⟩;obtain⟨h0,h1,h2⟩:=ab6 i r hr;match j,hj with
  |0,_=>rw[Nat.add_zero,h0]at hv;cases hv;exact⟨_,_,rfl,by decide⟩
  |1,_=>rw[h1]at hv;cases hv;exact⟨_,_,rfl,by decide⟩
  |2,_=>rw[h2]at hv;cases hv;exact⟨_,_,rfl,by decide⟩
 have jH:=(Ê.1 b4).1;refine⟨?_,?_,⟨c3,_,b3,Ö _,Ö _,?_,?_⟩,⟨c4,_,b4,Ö _,Ö _,?_,?_⟩,?_,⟨⟨c2,_,b2⟩,λi r hr=> ?_⟩,?_⟩
 .have h5:nB=5:=by kernel_rfl
  omega
 .rintro b (rfl|rfl)
  .refine⟨c1,291,_,b1,Ö _,ab3 (by rw[e1];exact UR),by rw[e1];exact of_decide_eq_true (by kernel_rfl),λk v hv=> ?_,by decide,by decide⟩;rw[e1]at hv;simp only[List.getElem?_toArray,å,û]at hv;obtain⟨z,_,rfl⟩:=hv;rfl
  .refine⟨c2,300,_,b2,Ö _,ab3 λv hv=> ?_,?_,λk v hv=> ?_,by decide,by decide⟩
   .obtain⟨k,hk,e⟩:=List.mem_iff_getElem.1 hv;obtain⟨kd,n,e',_⟩:=ab7 k v (by rw[<-e];simp);exact⟨kd,n,e'⟩
   .have h1:c2.size=69:=by simpa using hlen
    omega
   .obtain⟨kd,n,rfl,hn⟩:=ab7 k v hv;cases kd<;>first|rfl|exact absurd rfl hn
 .rw[e3];exact of_decide_eq_true (by kernel_rfl)
 .rw[e3];exact UR
 .rw[e4];exact of_decide_eq_true (by kernel_rfl)
 .rw[e4];exact UR
 .unfold gR.lI Lib.TabIs ĵ;rw[gn1];simp only[è,b1,e1]
 .obtain⟨h0,h1,h2⟩:=ab6 i r hr;exact⟨by simp only[Ă,b2];exact h0,by simp only[Ă,b2];exact h1,by simp only[Ă,b2];exact h2⟩
 .unfold qx;simp only[Ă,b4,e4];rfl
end Go.Proofs.Y.lb
namespace Go.Proofs.Y.lb
open Go Go.Conc Go.Proofs Go.RowKit Go.Proofs.Y.Lift Go.Proofs.Y.gR Go.Proofs.Y.fv Go.Proofs.Y.pJ
open Go.Proofs.YtgpphkdoanciiaaGreatDoor (Rows.workersSpec Rows.workersRow Rows.WorkersSaid Tryz.pinned)
open Go.ChangeShapes Go.WideShapes Go.ChangeAt
def fq:ownKnob À.godebug=Ú:=ft
def asx{w':Þ}(h:nN W w')(a:w'.os=W.os)(b:w'.output=W.output):Below W.heap.size W {w' with tape:=W.tape}:=⟨a,U,b,h.EE,h.rz⟩
def asy(os:Os)(a:Array Ç):Ĥ À Oh ((World.doorLaid À 400 os).forCall (λ_ _=>0) ⟨#[],a,[]⟩).memory:= laidMetH_of_parts3 (fuel:=8) (laidMet_of_run' 8 ft ft) ft ft
end Go.Proofs.Y.lb
namespace Go.Proofs.Y.pJ
open Go Go.Proofs Go.RowKit Go.Proofs.Y.Lift Go.Proofs.Y.gR
def tC(B:ByteArray)(c:UInt8):Nat->Nat->Nat->List ByteArray
 |0,fr,_=>[B.extract fr B.size]
 |f+1,fr,i=>if h:i<B.size then if B[i]=c then B.extract fr i::tC B c f (i+1) (i+1)else tC B c f fr (i+1)else[B.extract fr B.size]
def ab8:List Int->List (List Int)
 |[]=>[[]]
 |a::l=>(a::l)::ab8 l
def Ea:List (List Int):=[[86,58,120,47,66],[86,58,120,115],[86,58,120],[86,58,120,62,121,40,110,44,107,41],[86,58,120,62,121,40,107,41],[86,58,87],[86],[121,61,110],[80],[120,84],[82]].flatMap ab8
def asz:∀r∈Ea,r.tail∈Ea:=A
def asA(k:Int):pK k∈Ea/\pK k≠[82]:=by
 unfold pK;repeat' split
 all_goals decide
end Go.Proofs.Y.pJ
namespace Go.Proofs.Y.lb
open Go Go.Conc Go.Proofs Go.RowKit Go.Proofs.Y.Lift Go.Proofs.Y.gR Go.Proofs.Y.fv Go.Proofs.Y.pJ
open Go.Conc.Lib Go.ConcR.Gen Go.Proofs.YtgpphkdoanciiaaGreatDoor
def sD(r:PR):Int×Nat×List Tx:=(r.c.getD 5 0,(r.c.getD 0 0).toNat,r.r.map toTx)
def Gx(r:PR)(s:List fJ):ByteArray:=if r.c.getD 4 0=1 then(rh (mW s) (sD r).1 (sD r).2.1 (sD r).2.2).2 else pE (mW s) (toQn r)
def J9(s:List fJ)(r:PR):List fJ:=if r.c.getD 4 0=1 then DW s (sD r)else s
def qZ(s:List fJ)(rs:List PR):List fJ:=rs.foldl J9 s
def ab9{kd:Nat->Int}(h:kd i=1):∀n,i<n->(gX kd n).getD (fK kd i) 0=i
 |0,q=>by omega
 |n+1,q=>by
  have a:i<n->∀x,(gX kd n++x).getD (fK kd i) 0=i:=λz x=>by
   have b:fK kd i<(gX kd n).length:=by
    have e:∀m,i+1<=m->(gX kd<|i+1).length<=(gX kd m).length:=λm=>by
     induction m with
     |zero=>intro z;omega
     |succ m c=>
      intro z;rcases Nat.lt_or_ge i m with y|y
      .apply ü (c y);by_cases q:kd m=1
       .rw[s8 q];simp
       .rw[vM q];exact Ð _
      .rw[show m=i by omega];exact Ð _
    have:=e n z;rw[s8 h]at this;unfold fK;simp at this;omega
   have:=ab9 h n z;simp only[õ,List.getElem?_append_left b]at this|-;exact this
  by_cases z:i<n
  .by_cases q:kd n=1
   .rw[s8 q];exact a z _
   .rw[vM q];have:=a z [];rwa[Ģ]at this
  .obtain rfl:i=n:=Z
   rw[s8 h];simp[õ,fK]
section
variable{rs:List PR}{s:List fJ}{P:ByteArray}
def US:∀p,p<=rs.length->pI (wv rs) (gX (kL rs) rs.length) s (fK (kL rs) p)=qZ s (rs.take p)
 |0,_=>by simp[fK,gX,pI,qZ]
 |p+1,h=>by
  have a:=US p Z;have b:rs.take (p+1)=rs.take p++[rs.getD p oV]:=by rw[Đ];congr 1;simp[õ,show p<rs.length by omega]
  unfold qZ at a|-;rw[b,List.foldl_append,<-a];show _=J9 _ _;unfold J9;by_cases q:kL rs p=1
  .rw[if_pos (show(rs.getD p oV).c.getD 4 0=1 from q)];have e:fK (kL rs) (p+1)=fK (kL rs) p+1:=by unfold fK;rw[s8 q];simp
   rw[e];show DW _ _=_;rw[ab9 q _ Z];rfl
  .rw[if_neg (show¬(rs.getD p oV).c.getD 4 0=1 from q)];have e:fK (kL rs) (p+1)=fK (kL rs) p:=by unfold fK;rw[vM q]
   rw[e]
def asB{p:Nat}(h:p<rs.length):(kS rs s)[p]?=Â (Gx (rs.getD p oV)<|qZ s<|rs.take p):=by unfold kS;rw[å,List.getElem?_range h,ġ,US p Z];rfl
def asC:wx rs s=qZ s rs:=by unfold wx;rw[US _<|Ð _,List.take_length]
def asD{r:PR}(h:iw P=(0,0,[r])):mj s P=(Gx r s,0,J9 s r):=by
 have a:=asB (rs:=[r]) (s:=s) (p:=0) Ĝ;have e:kS [r] s=[Gx r s]:=by
  match hx:kS [r] s,UJ with
  |[y],_=>
   rw[hx]at a;simpa[qZ]using a
 unfold mj;rw[h];simp only[if_true,e,asC];rw[show kC ⟨#[59]⟩ [Gx r s]=Gx r s from Ĉ (by simp[kC,aaz,n7])];rfl
end
def acd(h:(iw B).1=0):iw B=(0,0,(iw B).2.2):=by
 unfold iw at h|-;repeat' split
 all_goals first|rfl|(simp_all;done)
def asE{α β:Type}(f:α->β)(d:α)(l:List α):((Ë l.length).map λi=>f<|l.getD i d)=l.map f:=by
 refine List.ext_getElem fj λi b a=> ?_;have h:i<l.length:=by simpa using a
 simp[õ,h]
def ace{s:List fJ}{a:List PR}(h:iw B=(0,0,a))(f:∀r∈a,r.c.getD 4 0≠1):mj s B=(kC ⟨#[59]⟩ (a.map λr=>pE (mW s)<|toQn r),0,s):=by
 have d:∀p,p<a.length->kL a p≠1:=λp b=>f _ (by simp[õ,b]);have e:∀p,p<=a.length->gX (kL a) p=[]:=λp b=>by unfold gX;rw[List.filter_eq_nil_iff];intro j g;have:=æ.1 g;simpa using d j Z
 have g:kS a s=a.map λr=>pE (mW s) (toQn r):=by rw[<-asE (λr=>pE (mW s)<|toQn r) oV];unfold kS;refine List.map_congr_left λp b=> ?_;have b:=æ.1 b;unfold fK we;rw[e p Z,if_neg<|d p b];rfl
 have j:wx a s=s:=by unfold wx fK;rw[e _<|Ð _];rfl
 unfold mj;rw[h];simp only[g,j,if_true]
def Ka(d:Nat):ByteArray:=ĺ ⟨#[48,49,50,51,52,53,54,55,56,57]⟩ d<|d+1
def asF:(Ë 10).map Ka=(Ë 10).map λd=>⟨#[İ<|48+d]⟩:=ft
def acf(h:i<10):Ka i=⟨#[İ<|48+i]⟩:=by have:=congrArg (λl=>l[i]?) asF;simpa[h]using this
def asG(h:i<10):gH i=Ka i:=by unfold gH;rw[Lib.decDigits_one h,acf h]
def asH(h:¬n<10):gH n=gH (n/10)++Ka (n%10):=by rw[acf Z];unfold gH;rw[Lib.decDigits,dif_neg h];apply Ĉ;simp[Û]
abbrev kN(B:ByteArray):Prop:=(59:UInt8)∉B.data.toList
def kN.r{a:ByteArray}(h:kN a)(k:kN B):kN (a++B):=by unfold kN at*;rw[Û,ć,þ];exact λq=>q.elim h k
def kN.C(h:kN B)(i j:Nat):kN (B.extract i j):=by unfold kN at*;rw[É,Ñ];exact λq=>h<|List.mem_of_mem_drop<|List.mem_of_mem_take q
def Kb(n:Nat):kN (gH n):=by
 induction n using Nat.strongRecOn with
 |_ n b=>
  have a:∀d,kN (Ka d):=λd=>kN.C A _ _;by_cases h:n<10
  .rw[asG h];exact a n
  .rw[asH h];exact(b _ Z).r<|a _
def asI(h:∀x∈vX,kN x):kN (kC ⟨#[44]⟩ vX):=by
 cases vX with
 |nil=>exact λq=>by cases q
 |cons x r=>
  show 59∉x.data.toList++n7 ⟨#[44]⟩ r;rw[þ];rintro(q|q)
  .exact h x fj q
  .let⟨y,a,q⟩:=List.mem_flatMap.1 q;rcases þ.1 q with z|z
   .revert z;decide
   .exact h y (by simp[a]) z
def Ol(h:∀x∈vX,kN x):kN (qy vX):=by
 unfold qy;split
 .decide
 .exact asI h
def acg:∀(f n:Nat) (l:List UInt8),59∉l->59∉se f n l
 |0,n,l,h=>h
 |f+1,n,l,h=>by
  have a:∀k:_root_.Fin 16,59≠oT k.val:=by decide+kernel
  unfold se;split
  .rw[ñ];exact λq=>q.elim (a ⟨n,‹_›⟩) h
  .apply acg f _ _;rw[ñ];exact λq=>q.elim (a ⟨n%16,Nat.mod_lt _ A⟩) h
def ach(n:Nat):kN (Aa n):=kN.r (kN.C A _ _)<|acg 16 n [] A
def asJ(y:Nat):kN (iE y):=kN.C A _ _
def aci(e:Nat×Int):kN (oR e):=(asJ _).r<|Kb _
def Om{α:Type}(f:α->ByteArray)(h:∀x,kN<|f x)(l:List α):∀x∈l.map f,kN x:=λx a=>by obtain⟨y,_,rfl⟩:=ď.1 a;exact h y
def oW(c:UInt8):List UInt8->List UInt8->List (List UInt8)
 |cur,[]=>[cur]
 |cur,x::r=>if x=c then cur::oW c [] r else oW c (cur++[x]) r
def UT(B:ByteArray)(c:UInt8):∀f a i,B.size-i=f->a<=i->i<=B.size->tC B c f a i=(oW c (B.extract a i).data.toList<|B.data.toList.drop i).map λl=>⟨l.toArray⟩
 |0,a,i,hf,h1,h2=>by
  obtain rfl:i=B.size:=Z
  rw[ý (by rw[Ô];exact Ð _)];rfl
 |f+1,a,i,hf,h1,h2=>by
  have b:i<B.size:=Z
  have d:i<B.data.toList.length:=by rwa[Ô]
  have e:B.data.toList[i]=B[i]:=by rw[ë];rfl
  rw[î d,e];unfold tC oW;rw[dif_pos b];split
  .have g:(B.extract (i+1)<|i+1).data.toList=[]:=by
    rw[É,Ñ];simp
   rw[UT B c f (i+1) (i+1) Z (Ð _) Z,g];rfl
  .rw[UT B c f a (i+1) Z Z Z];congr 2;rw[É,É,Ñ,Ñ,ï,ï,show i+1-a=i-a+1 by omega,Đ,ĉ,show a+(i-a)=i by omega,à d,e];rfl
def acj{c:UInt8}:∀(x a r:List UInt8),c∉x->oW c a (x++c::r)=(a++x)::oW c [] r
 |[],a,r,_=>by simp[oW]
 |y::x,a,r,h=>by rw[show oW c a (y::x++c::r)=if y=c then a::oW c [] (x++c::r)else oW c (a++[y]) (x++c::r)from U,if_neg λq=>h (by simp[q]),acj x _ r λq=>h (by simp[q])];simp
def acn{c:UInt8}:∀(x a:List UInt8),c∉x->oW c a x=[a++x]
 |[],a,_=>by simp[oW]
 |y::x,a,h=>by unfold oW;rw[if_neg λq=>h (by simp[q]),acn x _ λq=>h (by simp[q])];simp
def aco:∀(r:List ByteArray) (x:ByteArray) (a:List UInt8),kN x->(∀y∈r,kN y)->oW 59 a (x.data.toList++n7 ⟨#[59]⟩ r)=(a++x.data.toList)::r.map λy=>y.data.toList
 |[],x,a,h,_=>by show oW 59 a (x.data.toList++[])=_;rw[Ģ,acn _ _ h];rfl
 |y::r,x,a,h,k=>by show oW 59 a (x.data.toList++59::(y.data.toList++n7 ⟨#[59]⟩ r))=_;rw[acj _ _ _ h,aco r y [] (k y fj) λz b=>k z (by simp[b])];rfl
def asK(a:vX≠[])(h:∀x∈vX,kN x):tC (kC ⟨#[59]⟩ vX) 59 (kC ⟨#[59]⟩ vX).size 0 0=vX:=by
 rw[UT _ _ _ 0 0 (Nat.sub_zero _) (Ð _)<|Ö _];match vX,a with
 |x::r,_=>
  have e:((kC ⟨#[59]⟩<|x::r).extract 0 0).data.toList=[]:=by rw[É,Ñ];rfl
  rw[e,List.drop_zero];show(oW 59 []<|x.data.toList++n7 ⟨#[59]⟩ r).map _=_;rw[aco r x [] (h x fj) λy b=>h y (by simp[b])];simp[Function.comp_def]
end Go.Proofs.Y.lb
namespace Go.Proofs.Y.pJ
open Go Go.Proofs Go.RowKit Go.Proofs.Y.Lift Go.Proofs.Y.gR
structure I0(st:PS):Prop where
 M:st.d.S=[]
 I:st.d.r=Ä
 r:st.d.I.c.getD 4 0=1
 C:st.d.I.c.getD 5 0=0
 N:st.C∈Ea
 S:82∉st.C/\86∉st.C
 Y:0<st.r->st.M≠86
section
variable{st a:PS}{d:PD}
def On(h:i≠j):(zQ.set i c).getD j 0=zQ.getD j 0:=by simp[õ,List.getElem?_set_ne h]
def UU{n z:Int}(a:n≠86):(d.fZ n z).S=d.S/\(d.fZ n z).r=d.r/\(d.fZ n z).I.c.getD 4 0=d.I.c.getD 4 0/\(d.fZ n z).I.c.getD 5 0=d.I.c.getD 5 0:=by
 have b:∀i,i<4->(d.jB i z).S=d.S/\(d.jB i z).r=d.r/\(d.jB i z).I.c.getD 4 0=d.I.c.getD 4 0/\(d.jB i z).I.c.getD 5 0=d.I.c.getD 5 0:=λi e=>by
  unfold PD.jB;split
  .exact⟨U,U,U,U⟩
  .exact⟨U,U,On Z,On Z⟩
 unfold PD.fZ;rw[if_neg a];repeat' split
 all_goals first|exact b _ A|exact⟨U,U,U,U⟩|exact⟨U,U,On A,On A⟩
def I0.G(h:I0 st)(e:st.r=0)(d:c≠59)(b:su st c=Â a):I0 a:=by
 unfold su at b;rw[if_neg λq=>d q.1]at b;split at b
 .cases b;exact⟨h.M,h.I,h.r,h.C,(by decide:[120,84]∈Ea),(by decide:(82:Int)∉[120,84]/\(86:Int)∉[120,84]),λq=>by have:0<st.r:=q;omega⟩
 .cases b
def I0.asL(h:I0 st)(p:st.r=0)(r:c≠59)(b:ly B k st c=Â a):I0 a:=by
 have f:0<st.r->st.M≠86:=λq=>by omega
 have g:=asz _ h.N;unfold ly at b;cases i:st.C with
 |nil=>
  rw[i]at b;exact h.G p r b
 |cons w s=>
  have e:=h.S;rw[i]at b g e;have v:w≠82:=λq=>e.1 (by simp[q]);have t:w≠86:=λq=>e.2 (by simp[q]);have u:82∉s/\86∉s:=⟨λq=>e.1 (by simp[q]),λq=>e.2<|by simp[q]⟩;simp only[if_neg v]at b;split at b
  .split at b
   .cases b;let⟨j,l,m,o⟩:=UU (d:=st.d.sk) (n:=120) (z:=mX 120 c) A;exact⟨j.trans h.M,l.trans h.I,m.trans h.r,o.trans h.C,(by decide:[84]∈Ea),(by decide:(82:Int)∉[84]/\(86:Int)∉[84]),λ_=>(by decide:(120:Int)≠86)⟩
   .exact h.G p r b
  .split at b
   .unfold yc at b;split at b
    .cases b
    .cases b;refine⟨h.M,h.I,h.r,h.C,(asA _).1,?_,f⟩;show 82∉pK _/\86∉pK _;unfold pK;repeat' split
     all_goals decide
   .split at b
    .split at b
     .cases b;exact⟨h.M,h.I,h.r,h.C,g,u,f⟩
     .split at b
      .cases b
      .cases b;exact⟨h.M,h.I,h.r,h.C,i▸h.N,e,f⟩
    .split at b
     .cases b;let⟨j,l,m,o⟩:=UU (d:=st.d) (n:=w) (z:=mX w c) t;exact⟨j.trans h.M,l.trans h.I,m.trans h.r,o.trans h.C,g,u,λ_=>t⟩
     .cases b
def I0.jv(h:I0 st)(e:c≠59)(b:rj B k st c=Â a):I0 a:=by
 unfold rj at b;split at b
 .rename_i q;cases b;let⟨f,g,i,j⟩:=UU (d:=st.d) (n:=st.M) (z:=sr (st.d.G st.M) c)<|h.Y q.1;exact⟨f.trans h.M,g.trans h.I,i.trans h.r,j.trans h.C,h.N,h.S,λ_=>h.Y q.1⟩
 .exact I0.asL (st:={st with r:=0}) ⟨h.M,h.I,h.r,h.C,h.N,h.S,λq=>by cases q⟩ rfl e b
def I0.nj(b:59∉B.data.toList):∀(f k:Nat) (st:PS),I0 st->I0 (ov B f k st).2
 |0,k,st,h=>h
 |f+1,k,st,h=>by
  unfold ov;split
  .rename_i d;split
   .exact h
   .rename_i a c;refine I0.nj b f (k+1) a (h.jv (λq=>b ?_) c);have e:B[k]=59:=ÿ.1 (by show B[k].toNat=59;omega);rw[<-e];exact ă.2<|Array.getElem_mem _
  .exact h
def I0.asM(h:I0 st):∃r,st.d.C=[r]/\r.c.getD 4 0=1/\r.c.getD 5 0=0:=by unfold PD.C;rw[h.I,h.M];exact⟨_,U,h.r,h.C⟩
def UW(b:k<B.size)(c:rj B k st (B[k].toNat:Int)=Â a):ov B (i+1) k st=ov B i (k+1) a:=by rw[ov,dif_pos b,c]
def asN(j:59∉B.data.toList){e:List PR}(h:iw (⟨#[105,48,58]⟩++B)=(0,0,e)):∃r,e=[r]/\r.c.getD 4 0=1/\r.c.getD 5 0=0:=by
 obtain⟨T,b⟩:∃T,(⟨#[105,48,58]⟩++B:ByteArray)=T:=⟨_,U⟩;have a:T.data.toList=105::48::58::B.data.toList:=by rw[<-b,Û,ć];rfl
 have k:T.size=B.size+3:=by rw[<-b,ç,Nat.add_comm];rfl
 have d:∀i (f:i<T.size),T[i]=T.data.toList[i]'(by rwa[Ô]):=λi f=>by rw[ë];rfl
 have l:T[0]'Z=105:=by rw[d];simp[a]
 have m:T[1]'Z=48:=by rw[d];simp[a]
 have n:T[2]'Z=58:=by rw[d];simp[a]
 rw[b]at h;have o:I0 ⟨[120,47,66],0,0,58,⟨[],Ä,⟨[0,0,0,0,1,0,0,0],[]⟩,ä,⟨[],⟨#[]⟩⟩⟩⟩:=⟨U,U,U,U,(by decide:[120,47,66]∈Ea),(by decide:(82:Int)∉[120,47,66]/\(86:Int)∉[120,47,66]),λq=>by cases q⟩;have p:mZ T=ov T B.size 3 ⟨[120,47,66],0,0,58,⟨[],Ä,⟨[0,0,0,0,1,0,0,0],[]⟩,ä,⟨[],⟨#[]⟩⟩⟩⟩:=by unfold mZ;rw[k,UW Z (by rw[l];rfl),UW Z (by rw[m];rfl),UW Z (by rw[n];rfl)];rfl
 have g:=o.nj (by rw[a];simp[j]) B.size 3;rw[<-p]at g;have s:T.size≠0:=Z
 unfold iw mI at h;split at h
 .cases h
 .split at h
  .have:=congrArg (λx=>x.2.2) h;simp only at this;rw[<-this];exact g.asM
  .cases h
end
end Go.Proofs.Y.pJ
namespace Go.Proofs.Y.lb
open Go Go.Conc Go.Proofs Go.RowKit Go.Proofs.Y.Lift Go.Proofs.Y.gR Go.Proofs.Y.fv Go.Proofs.Y.pJ
open Go.Conc.Lib Go.ConcR.Gen Go.Proofs.YtgpphkdoanciiaaGreatDoor
def Gy(r:PR)(a:fJ):Option fJ:=(uM (sD r).2.1 a.s (sD r).2.2).map λq=>⟨q.1,q.2.1,q.2.2,a.h+1⟩
def UX{s:List fJ}{v:fJ}(h:s[n]?=Â v):kr (mW s) n=Â (0,v):=by unfold kr mW;rw[if_neg Z,Int.toNat_natCast,å,h];rfl
def asO{s:List fJ}{r:PR}(h:iw B=(0,0,[r]))(b:r.c.getD 4 0=1)(d:r.c.getD 5 0=0){a:fJ}(e:s[0]?=Â a)(j:s.length<40): mj s B=match Gy r a with
  |none=>(n9 5,0,s)
  |some v=>(om s.length,0,s++[v]):=by
 have f:kr (mW s) (sD r).1=Â (0,a):=by rw[show(sD r).1=((0:Nat):Int)from d];exact UX e
 have g:(mW s).length=s.length:=by simp[mW]
 have i:rh (mW s) (sD r).1 (sD r).2.1 (sD r).2.2=match Gy r a with
  |none=>(Ú,n9 5)
  |some v=>(Â v,om s.length):=by
  unfold rh Gy;rw[f];simp only[g,if_neg (show¬s.length=40 by omega)];cases uM (sD r).2.1 a.s (sD r).2.2<;>rfl
 rw[asD h];unfold Gx J9 DW sf;rw[if_pos b,if_pos b,Gf,i];cases Gy r a with
 |none=>simp
 |some v=>rfl
def asP(s:gR.St):pC s s 8=[]:=by unfold pC;rw[ö];intro i _;unfold xW vV qw;rw[if_pos U,if_pos U,á,á,ö];exact λj _=>if_pos U
def yj(c:UInt8):ByteArray:=⟨#[114,49,59,114,c,59,108,49,59,108,c,59,117,49,59,117,c,59,100,49,58,c]⟩
def Ao(j:Int):List PR:=[⟨[0,0,0,0,6,1,0,0],[]⟩,⟨[0,0,0,0,6,j,0,0],[]⟩,⟨[0,0,0,0,7,1,0,0],[]⟩,⟨[0,0,0,0,7,j,0,0],[]⟩,⟨[0,0,0,0,8,1,0,0],[]⟩,⟨[0,0,0,0,8,j,0,0],[]⟩,⟨[0,0,0,0,9,1,j,0],[]⟩]
def acp:iw (yj 50)=(0,0,Ao 2):=ft
def asQ:iw (yj 51)=(0,0,Ao 3):=ft
def Eb(v:fJ):List ByteArray:=[Aa<|xT v.s,Aa<|xT v.s,qy<|v.r.map oR,qy<|v.r.map oR,qy<|v.C.map xV,qy<|v.C.map xV,⟨#[45]⟩]
def asR(v:fJ):∀x∈Eb v,kN x:=λx a=>by
 simp only[Eb,ñ,ė,or_false]at a;rcases a with rfl|rfl|rfl|rfl|rfl|rfl|rfl
 .exact ach _
 .exact ach _
 .exact Ol<|Om _ aci _
 .exact Ol<|Om _ aci _
 .exact Ol<|Om _ (λe=>((Kb _).r A).r<|Kb _) _
 .exact Ol<|Om _ (λe=>((Kb _).r A).r<|Kb _) _
 .decide
def asS{s:List fJ}{v:fJ}{c:UInt8}(a:iw (yj c)=(0,0,Ao j))(b:s[1]?=Â v)(d:s[j]?=Â v):mj s (yj c)=(kC ⟨#[59]⟩<|Eb v,0,s):=by rw[ace a (by simp[Ao])];have e:kr (mW s) 1=Â (0,v):=UX (n:=1) b;have f:=UX d;apply congrArg λl=>(kC ⟨#[59]⟩ l,(0:Int),s);have l:qy []=⟨#[45]⟩:=if_pos U;simp only[Ao,Eb,Ħ,Ĭ,pE,toQn,List.getD_cons_zero,List.getD_cons_succ,e,f,DN,asP,l];simp
def asT{s:List fJ}{a:List PR}(f:lz s)(h:iw B=(0,0,a))(d:∀r∈a,r.c.getD 4 0≠1):(mj s B).1.size<=10^12:=by
 rw[ace h d];show(kC _ _).size<=_;have b:=Od (B:=B);rw[h]at b;have g:=UM ⟨#[59]⟩ U (a.map λr=>pE (mW s)<|toQn r);have i:=DL (M:=100000000) (a.map λr=>pE (mW s)<|toQn r) λz j=>by obtain⟨r,e,rfl⟩:=ď.1 j;exact abR (by rwa[Gf])<|UH (b.1 r e)<|d r e
 have e:a.length<=24:=b.2;rw[List.length_map]at g i;omega
def acr(b:59∉B.data.toList)(a:fJ):(∃E,E≠0/\∀t,mj t (⟨#[105,48,58]⟩++B)=(⟨#[]⟩,E,t))\/∃o:Option fJ,∀t:List fJ,t[0]?=Â a->t.length<40->mj t (⟨#[105,48,58]⟩++B)=match o with
 |none=>(⟨#[33,53]⟩,0,t)
 |some v=>(om t.length,0,t++[v]):=by
 by_cases h:(iw<|⟨#[105,48,58]⟩++B).1=0
 .let⟨r,c,d,e⟩:=asN b<|acd h;have E:=acd h;rw[c]at E;refine ę ⟨Gy r a,λt f g=> ?_⟩;rw[asO E d e f g];cases Gy r a<;>rfl
 .exact Ü ⟨_,h,λt=>if_neg h⟩
section
variable{c l a:fe}{s t:List fJ}{e:Ç}{V:Nat->Prop}{g:List Ç}
def asU(h:gh X l a)(b:ig l):ig a:= ⟨h.N b.r,h.d.trans b.d,by rw[h.q];exact b.q,by rw[h.S];exact b.N,by rw[h.Y];exact b.I,by rw[h.b];exact b.M,by rw[h.K];exact b.k⟩
end
def asV{T:ByteArray}(w:Þ)(h:B.size+T.size<=10^15):Sem.events À (Go.Op.stringOp BinOp.add B T) w #[]=#[]:=by
 have a:¬Õ<B.size+T.size:=by unfold Õ;omega
 simp[go_sem,Op.stringOp,a]
def Ec{a b c:Array UInt8}(h:a++b=c):(⟨a⟩++⟨b⟩:ByteArray)=⟨c⟩:=Ĉ<|by rw[Û,h]
def wz{J:Jd}{l:fe}{b:Frame}{a:Act}{ops:Array Oper}{i:Nat}{rest:List Nat}{k:List Item}{cs:List Frame}{o:Oper}{x y:Operand}(S T U:ByteArray)(hb:ig l)(hU:S++T=U)(h:S.size+T.size<=10^15)(hn:fv.fi Tryz.prog true J l (G (b.at (a.put o.dst<|.string U)<|.inRegion ops rest::k) cs)) (ho:ops[i]?=some o:=by rfl) (vn:o.op=.binOp .add 9 x y 9:=by rfl) (hx:a.eval x=.string S:=by rfl) (hy:a.eval y=.string T:=by rfl) (hw:Region.wanted o (yielded ops a.tmps)=true:=by rfl) (hk:b.kind≠.early:=by k_ne): fv.fi Tryz.prog true J l (G (b.at a<|.inRegion ops (i::rest)::k) cs):=by
 subst hU;have h2:¬9223372036854775807<S.size+T.size:=Z
 refine oM (v:=Á<|S++T) ho hw hk hb.r.r hb.q (λw _=> ?_) (λw _ e he=> ?_) hn
 .let⟨d,p,t,q,af,g⟩:=o;simp only at vn;subst vn;simp only[ċ,hx,hy];go_simp
 .let⟨d,p,t,q,af,g⟩:=o;simp only at vn;subst vn;simp only[ċ,hx,hy]at he;simp[go_sem,asV w h]at he
noncomputable def Oo:Ł:=kY ł [1,1,1,0,1,0,0]
noncomputable def acs:Ł:=kY ł [1,1,1,1]
noncomputable def Ed (a:Array Ç) (b:List Ĩ):Ī:=G ((base 24).at ⟨a,[]⟩<|ı Oo::.inLoop Oo::[.inBlock 0,ı acs]) b
structure Ke(B:ByteArray)(c:UInt8)(lv:Ç)(fr i:Nat)(tt:Array Ç):Prop where
 r:tt.size=35
 C:tt[0]?=Â (Á B)
 t1:tt[1]?=Â (È Ŀ c.toNat)
 I:tt[5]?=Â lv
 M:tt[6]?=Â (È Ù fr)
 N:tt[7]?=Â (È Ù i)
def acu(S:ByteArray)(w:Þ):Sem.events À (Builtin.len_ #[9] 3 #[Á S]) w #[]=#[]:=ft
def asW(B:ByteArray)(w:Þ)(a:i<=j)(b:j<=B.size):Sem.events À (ò 9 (Á B) (Â<|È Ù i) (Â<|È Ù j) Ú) w #[]=#[]:=by simp[ò,Ĳ,go_sem,a,b,Ě]
def asX(B:ByteArray)(w:Þ)(a:i<=B.size):Sem.events À (ò 9 (Á B) (Â<|È Ù i) Ú Ú) w #[]=#[]:=by simp[ò,Ĳ,go_sem,a,Ě]
structure uY(il l:fe)(lv:Ç)(xs:List ByteArray):Prop where
 r:gh (λ_=>False) il l
 C:l.w.ownsRow 0 9 1 lv xs.length (ji xs)
 fq:∀k,lv.ownBlock=Â k->l.O k/\il.w.heap.size<=k
section
variable{J:Jd}{il l:fe}{S:ByteArray}{c:UInt8}{lv:Ç}{fr:Nat}{xs:List ByteArray}{tt:Array Ç}{k:List Item}
def uY.I(h:uY il l lv xs)(f:gw il)(c:ig l){ob:Obj}(g:fH l l.w u)(d:fH (gG l u ob) (gG l u ob).w W)(i:jX.ownsRow 0 9 1 v (xs.length+1) (ji xs++[Á S]))(m:W.grownBy jX lv.ownBlock)(n:∀k,v.ownBlock=Â k->(mU (gG l u ob) W jX).O k)(o:v.ownBlock=lv.ownBlock\/v.ownBlock=Â W.heap.size): ig (mU (gG l u ob) W jX)/\uY il (mU (gG l u ob) W jX) v (xs++[S]):=by
 have a:=mT (X:=λb=>Â b=lv.ownBlock) (ob:=ob) c.r g;have b:=a.fg (LU (a.N c.r) d m λk e=>⟨a.O k (h.fq k e).1,e.symm⟩);refine⟨asU b c,h.r.vN b λj q e=> ?_,?_,λk e=>⟨n k e,?_⟩⟩
 .have:=(h.fq j e.symm).2;have:=f.fx j q;omega
 .rwa[Č,show ji (xs++[S])=ji xs++[Á S] by simp[ji]]
 .rcases o with z|z
  .exact(h.fq k<|z.symm.trans e).2
  .have e:=Ø<|z.symm.trans e;have:=h.r.I;have:=a.I;have:=d.r;omega
def asY{a b:UInt8}(h:a≠b):((a.toNat:Int)==(b.toNat:Int))=ä:=by rw[beq_eq_false_iff_ne];exact λq=>h<|ÿ.1 Z
def asZ(h:uY il l lv xs)(C:gw il)(a:ig l)(b:Ke B c lv fr i tt)(D:i<B.size)(E:fr<=i)(hB:B.size<=10^12)(tY:xs.length<=fr) (o:B[i]≠c->∀d g,ig d->uY il d lv xs->Ke B c lv fr (i+1) g->fv.fi À Ä J d (Ed g qX)) (r:B[i]=c->∀d g v,ig d->uY il d v (xs++[B.extract fr i])->Ke B c v (i+1) (i+1) g->fv.fi À Ä J d (Ed g qX)):fv.fi À Ä J l (Ed tt qX):=by
 have hF:True:=trivial;let⟨s,t,f⟩:=jh h.C;obtain⟨u,rfl⟩:=uo tt b.r;have F:u 0=Á B:=by simpa using b.C
 have G:u 1=È Ŀ c.toNat:=by simpa using b.t1
 have I:u 5=é s xs.length t:=by rw[<-f];simpa using b.I
 have K:u 6=È Ù fr:=by simpa using b.M
 have L:u 7=È Ù i:=by simpa using b.N
 clear b;have k1:(i:Int)<(B.size:Int):=Z
 have k2:(0:Int)<=(i:Int):=Z
 have k3:(0:Int)<=(fr:Int):=Z
 have k4:(fr:Int)<=(i:Int):=Z
 have k5:(i:Int)<=(B.size:Int):=Z
 have M:i<=B.size:=Z
 have m:Ù.wrap ((i:Int)+1)=((i+1:Nat):Int):=IntWalk.i64_in _ ⟨Z,Z⟩;have H:=ff<|And.intro o r;clear o r;apply fW (n:=60) a.r.r;simp only[Ed,Ë,â,đ,F,G,I,K,L];conv in Oo=>whnf
 repeat w_go fA
 refine Ã λ_ _=> ?_;apply oM (v:=È Ù B.size) U fP (by k_ne) a.r.r a.q (λw _=>by go_simp) (λw _ e p=>by simp[go_sem,acu]at p);walk_nrm;apply fW (n:=60) a.r.r;repeat w_nl fA
 refine Ã λ_ _=> ?_;apply oM (v:=È Ŀ B[i].toNat) U fP (by k_ne) a.r.r a.q (λw _=>by go_simp) (λw _ e p=>by simp[go_sem,Instr.index,D]at p);walk_nrm;by_cases j:B[i]=c
 .rw[j];apply fW (n:=60) a.r.r;repeat w_nl fA
  refine Ã λ_ _=> ?_;apply oM (v:=Á<|B.extract fr i) U fP (by k_ne) a.r.r a.q (λw _=>by go_simp) (λw _ e p=>by simp[go_sem,asW B w E M]at p);walk_nrm;refine py (V:=λp=>é (Â ⟨p,0,Ú⟩) 1 1) (ob:=ð #[Á<|B.extract fr i] 9) U U (by k_ne) a.r.r a.q (λw=>by go_simp) (λw=>by simp[go_sem]) λw x=> ?_;walk_nrm;have p:=mT (X:=λ_=>False) (ob:=ð #[Á<|B.extract fr i] 9) a.r x;have y:gZ (gG l w<|ð #[Á<|B.extract fr i] 9) w.heap.size (ð #[Á<|B.extract fr i] 9):=⟨ę U,fv.mS⟩;have N:À.info? 9=Â Ē:=Ķ;refine Ih (v:=é s xs.length t) (us:=[Á<|B.extract fr i]) (px:=w.heap.size) (c:=1) (n:=xs.length) (xs:=ji xs) (inf:=Ē) (z:=Á ⟨#[]⟩) U U (by k_ne) (p.N a.r) (by rw[p.q];exact a.q) U U U ē N U U Ĝ U U (by simp[Ē];omega) (by simp only[Õ];omega) (f▸nX h.C λk e=>p.r k (Ü (h.fq k e).1) id) (f▸λk e=>p.O k (h.fq k e).1) y.fq (Ru<|y.C U) (λ_ e=>č.1 e▸rfl) λas0 v CY P Q S T W=> ?_;let⟨e,Y⟩:=h.I C a x P Q (f▸S) T<|f▸W;walk_nrm;apply fW (n:=80) e.r.r;repeat w_nl fA
  w_go fA
  refine Ã λ_ _=> ?_;refine H.out.2 j _ _ _ e Y ⟨U,U,U,U,?_,?_⟩
  .simp[m]
  .simp[m]
 .have e:=asY j;apply fW (n:=60) a.r.r;repeat w_nl fA
  w_go fA
  refine Ã λ_ _=> ?_;refine H.out.1 j _ _ a h ⟨U,U,U,by rw[f];rfl,U,?_⟩;simp[m]
def as1(h:uY il l lv xs)(s:gw il)(a:ig l)(b:Ke B c lv fr B.size tt)(x:fr<=B.size)(T:B.size<=10^12)(W:xs.length<=fr) (C:∀g v,ig g->uY il g v (xs++[B.extract fr B.size])->fv.fi À Ä J g (G (f.at (y.put ((Q[j]?).bind (·.dst)) v)<|Ï Q jJ::k) qX)):fv.fi À Ä J l (Ed tt<|f.at y (Ï Q (j::jJ)::k)::qX):=by
 have hF:True:=trivial;let⟨i,m,d⟩:=jh h.C;obtain⟨u,rfl⟩:=uo tt b.r;have D:u 0=Á B:=by simpa using b.C
 have E:u 5=é i xs.length m:=by rw[<-d];simpa using b.I
 have F:u 6=È Ù fr:=by simpa using b.M
 have H:u 7=È Ù B.size:=by simpa using b.N
 clear b;have Y:(0:Int)<=(fr:Int):=Z
 have k4:(fr:Int)<=(B.size:Int):=Z
 apply fW (n:=60) a.r.r;simp only[Ed,Ë,â,đ,D,E,F,H];conv in Oo=>whnf
 conv in acs=>whnf
 repeat w_go fA
 refine Ã λ_ _=> ?_;apply oM (v:=È Ù B.size) U fP (by k_ne) a.r.r a.q (λw _=>by go_simp) (λw _ e p=>by simp[go_sem,acu]at p);walk_nrm;apply fW (n:=60) a.r.r;repeat w_nl fA
 refine Ã λ_ _=> ?_;apply oM (v:=Á<|B.extract fr B.size) U fP (by k_ne) a.r.r a.q (λw _=>by go_simp) (λw _ e p=>by simp[go_sem,asX B w x]at p);walk_nrm;refine py (V:=λp=>é (Â ⟨p,0,Ú⟩) 1 1) (ob:=ð #[Á<|B.extract fr B.size] 9) U U (by k_ne) a.r.r a.q (λw=>by go_simp) (λw=>by simp[go_sem]) λw o=> ?_;walk_nrm;have p:=mT (X:=λ_=>False) (ob:=ð #[Á<|B.extract fr B.size] 9) a.r o;have r:gZ (gG l w<|ð #[Á<|B.extract fr B.size] 9) w.heap.size (ð #[Á<|B.extract fr B.size] 9):=⟨ę U,fv.mS⟩;have I:À.info? 9=Â Ē:=Ķ;refine Ih (v:=é i xs.length m) (us:=[Á<|B.extract fr B.size]) (px:=w.heap.size) (c:=1) (n:=xs.length) (xs:=ji xs) (inf:=Ē) (z:=Á ⟨#[]⟩) U U (by k_ne) (p.N a.r) (by rw[p.q];exact a.q) U U U ē I U U Ĝ U U (by simp[Ē];omega) (by simp only[Õ];omega) (d▸nX h.C λk e=>p.r k (Ü (h.fq k e).1) id) (d▸λk e=>p.O k (h.fq k e).1) r.fq (Ru<|r.C U) (λ_ e=>č.1 e▸rfl) λas0 v CY K L M N P=> ?_;let⟨e,S⟩:=h.I s a o K L (d▸M) N<|d▸P;walk_nrm;apply fW (n:=80) e.r.r;repeat w_nl fA
 u_in fA hF
 refine goes_leave1 (t:=4) U U ĝ U ⟨by u_nil,?_⟩;refine Ã λ_ _=> ?_;exact C _ _ e S
def UY(e:gw il)(g:B.size<=10^12) (n:∀a v,ig a->uY il a v (tC B c B.size 0 0)->fv.fi À Ä J a (G (f.at (y.put ((Q[j]?).bind (·.dst)) v)<|Ï Q jJ::k) qX)): ∀(m fr i:Nat) (l:fe) (lv:Ç) (xs:List ByteArray) (tt:Array Ç),B.size-i=m->fr<=i->i<=B.size->xs.length<=fr->xs++tC B c m fr i=tC B c B.size 0 0->uY il l lv xs->ig l->Ke B c lv fr i tt->fv.fi À Ä J l (Ed tt<|f.at y (Ï Q (j::jJ)::k)::qX)
 |0,fr,i,l,lv,xs,tt,hm,hfr,hi,tY,he,h,hb,hT=>by
  obtain rfl:i=B.size:=Z
  exact as1 h e hb hT hfr g tY λa v b d=>n a v b<|he▸d
 |m+1,fr,i,l,lv,xs,tt,hm,hfr,hi,tY,he,h,hb,hT=>by
  have r:i<B.size:=Z
  rw[show tC B c (m+1) fr i=if B[i]=c then B.extract fr i::tC B c m (i+1) (i+1)else tC B c m fr (i+1)from dif_pos r]at he;refine asZ h e hb hT r hfr g tY (λq a o b d p=> ?_) λq a o v b d p=> ?_
  .rw[if_neg q]at he;exact UY e g n m fr (i+1) a lv xs o Z Z Z tY he d b p
  .rw[if_pos q]at he;exact UY e g n m (i+1) (i+1) a v _ o Z Z Z (by rw[Č,List.length_singleton];omega) (by rwa[List.append_assoc]) d b p
def as2(a:ig l)(d:B.size<=10^12) (g:∀b v,ig b->uY l b v (tC B c B.size 0 0)->fv.fi À Ä J b (G (f.at (y.put ((Q[j]?).bind (·.dst)) v)<|Ï Q jJ::k) qX)):fv.fi À Ä J l (G (ì À 24 #[Á B,È Ŀ c.toNat] .normal)<|f.at y (Ï Q (j::jJ)::k)::qX):=by
 have hF:True:=trivial;rw[D5 [_,_] 33 ĝ];simp only[Ą,ø,á];conv in kY _ _=>whnf
 apply fW (n:=60) a.r.r;repeat w_bar fA
 w_go fA
 refine Ã λ_ _=> ?_;exact UY a.r d g B.size 0 0 l (é Ú 0 0) [] _ U (Ð _) (Ö _) (Ð _) U ⟨gh.fT a.r.r,⟨U,Ü ⟨U,U⟩⟩,λk e=>by cases e⟩ a ⟨rfl,rfl,rfl,rfl,rfl,rfl⟩
end
structure ml(R:Nat->Prop)(W:Þ)(l:fe)(x nx:Nat)(s:List fJ):Prop where
 a:∃sl V,n8 l x nx s sl V
 C:∀b,R b->(l.O b/\l.w.heap[b]?=W.heap[b]?)/\b≠x
section
variable{R:Nat->Prop}{l d:fe}{x nx:Nat}{s g:List fJ}
def ml.I(h:ml R W l x nx s)(c:∀b,l.O b->d.O b/\d.w.heap[b]?=l.w.heap[b]?)(e:l.w.heap.size<=d.w.heap.size):ml R W d x nx s:=by let⟨f,V,a⟩:=h.a;exact⟨⟨f,V,a.S (λb q=>(c b q).1) (λb q=>(c b q).2) e⟩,λb q=>⟨⟨(c b (h.C b q).1.1).1,(c b (h.C b q).1.1).2.trans (h.C b q).1.2⟩,(h.C b q).2⟩⟩
def ml.r(h:ml R W l x nx s)(r:fH l l.w u):ml R W {l with w:=u} x nx s:=h.I (λb q=>⟨q,r.I b<|Ü q⟩) r.r
def ml.M(h:ml R W l x nx s):lz s:=by let⟨_,_,a⟩:=h.a;let⟨_,_,q,_⟩:=a.I;exact q
def ml.N(h:ml R W l x nx s):nB<=l.w.heap.size:=by let⟨_,_,a⟩:=h.a;exact a.r.fx
def Oq(h:ml R W l x nx s)(j:ig l)(k:B.size<=Õ) (m:∀d,ig d->ml R W d x nx (mj s B).2.2->jo vQ d (G (f.at (y.put ((Q[i]?).bind (·.dst))<|.tuple #[Á (mj s B).1,È Ù (mj s B).2.1])<|Ï Q jJ::L) qX)): jo vQ l (G (ì À 17 #[Æ<|Â ⟨x,0,Ú⟩,Á B] .normal)<|f.at y (Ï Q (i::jJ)::L)::qX):=by let⟨v,V,n⟩:=h.a;refine abP j n k (λ_=>abT h.M) λd o ⟨e,p,r,t,w⟩=>m d o ⟨⟨p,r,t⟩,λb q=> ?_⟩;let⟨⟨g,u⟩,c⟩:=h.C b q;exact⟨⟨(e b g c).1,(e b g c).2.trans u⟩,c⟩
def as3(h:ml R W l x nx s)(o:ig l)(C:B.size<=Õ)(D:mj s B=(kC ⟨#[59]⟩ vX,0,g))(E:vX≠[])(F:∀a∈vX,kN a)(M:vX.length=n)(N:(kC ⟨#[59]⟩ vX).size<=10^12) (P:∀d m,ig d->ml R W d x nx g->d.w.ownsRow 0 9 1 m n (ji vX)->(∀b,m.ownBlock=Â b->d.O b)->jo vQ d (G (f.at (y.put ((Q[i]?).bind (·.dst))<|.tuple #[m,Ò Ä])<|Ï Q jJ::L) qX)): jo vQ l (G (ì À 26 #[Æ<|Â ⟨x,0,Ú⟩,Á B,È Ù n] .normal)<|f.at y (Ï Q (i::jJ)::L)::qX):=by
 have hF:True:=trivial;subst M;rw[D5 [_,_,_] 25 Ğ];simp only[Ą,ø,á];conv in kY _ _=>whnf
 apply pP;apply fW (n:=60) o.r.r;repeat w_go fA
 refine Ã λ_ _=> ?_;refine .fB λX p=>⟨o.C p,U,?_⟩;have r:=o.C p;have H:=h.r p;refine Al (f:=17) (args:=#[Æ<|Â ⟨x,0,Ú⟩,Á B]) r U fP (by k_ne) (λw=>by go_simp) (λw=>Å U ą U U #[]) λT k=> ?_;refine Oq (H.r k) (r.C k) C λY t u=> ?_;have I:=asK E F;rw[D]at u|-;dsimp only at u|-;generalize kC ⟨#[59]⟩ vX=S at*;clear D h H r C;walk_nrm;apply pP;apply fW (n:=60) t.r.r;repeat w_nl fA
 refine Ã λ_ _=> ?_;refine yh (f:=24) (args:=#[Á S,È Ŀ 59]) U fP (by k_ne) t.r.r (λw=>by go_simp) (λw=>Å U ĝ U U #[]) λabW J=> ?_;refine as2 (c:=59) (t.C J) N λl5 m v j=> ?_;have V:=(u.r J).I (λb q=>⟨j.r.O b q,j.r.r b (Ü q) id⟩) j.r.I;rw[I]at j;let⟨pk,ck,K⟩:=jh j.C;have z:=ff (And.intro j.C λb q=>(j.fq b q).1);clear j I F E;rw[K];walk_nrm;apply fW (n:=60) v.r.r;repeat w_nl fA
 u_in fA hF
 refine goes_leave2 U U Ğ U ⟨by u_nil,?_⟩;refine Ã λ_ _=> ?_;refine .fB λT k=>⟨v.C k,U,?_⟩;have:=P _ m (v.C k) (V.r k) (nX z.out.1 λL e=>k.I L<|Ü<|z.out.2 L e) z.out.2;rwa[K]at this
end
noncomputable def Ot:Ł:=(Tryz.f16.body.bind gR.ko).getD .skip
def Ee(B:ByteArray)(c:UInt8)(r:Bool)(i:Int)(u:Nat->Ç):Ĵ:=⟨#[Á B,È Ŀ c.toNat,u 2,u 3,Ò r,È Ù i,u 6,u 7,u 8,u 9,u 10,u 11,u 12,u 13,u 14,u 15,u 16],[]⟩
def Ap(B:ByteArray)(c:UInt8)(r:Bool)(i:Int)(a:Ĵ):Prop:=∃u,a=Ee B c r i u
section
variable{Y:Ĵ->Þ->Prop}{c:UInt8}
def as4(u:Nat->Ç)(b:∀a,Ap B c ä B.size a->H a w):Code.wp À Ot (Exit.then K<|QN H Y) (Ee B c ä B.size u) w:=by
 unfold Ee;conv=>arg 2;whnf
 go_wp2_with fail
 exact b _ (gR.gi _)
def as5(u:Nat->Ç)(i:Nat)(j:i<B.size)(e:B.size<=Õ)(f:B[i]≠c->∀a,Ap B c ä ((i+1:Nat):Int) a->K a w)(g:B[i]=c->∀a,Ap B c Ä i a->Y a w):Code.wp À Ot (Exit.then K<|QN H Y) (Ee B c ä i u) w:=by
 unfold Ee;conv=>arg 2;whnf
 have k:Ù.wrap ((i:Int)+1)=((i+1:Nat):Int):=by unfold Õ at e;exact IntWalk.i64_in _ ⟨Z,Z⟩
 have b:=ff<|And.intro f g;clear f g e;by_cases d:B[i]=c
 .have h:((B[i].toNat:Int)==(c.toNat:Int))=Ä:=by rw[d];simp
  go_wp2_with fail
  exact b.out.2 d _ (gR.gi _)
 .have h:((B[i].toNat:Int)==(c.toNat:Int))=ä:=by
   rw[beq_eq_false_iff_ne];exact λq=>d<|ÿ.1 Z
  go_wp2_with fail
  exact b.out.1 d _ (gR.gi _)
def UZ(B:ByteArray)(c:UInt8)(yQ:Bool)(u:Þ)(a:Ĵ)(w:Þ):Prop:=∃i:Nat,Ap B c ä i a/\i<=B.size/\decide (c∈B.data.toList.drop i)=yQ/\w=u
def HsE(B:ByteArray)(c:UInt8)(yQ:Bool)(u:Þ)(a:Ĵ)(w:Þ):Prop:=Ap B c ä B.size a/\yQ=ä/\w=u
def HsR(B:ByteArray)(c:UInt8)(yQ:Bool)(u:Þ)(a:Ĵ)(w:Þ):Prop:=∃i:Nat,Ap B c Ä i a/\yQ=Ä/\w=u
def xS(B:ByteArray)(a:Ĵ)(_:Þ):Nat:=match a.tmps.getD 5 Ń with
 |È _ i=>B.size-i.toNat
 |_=>0
def Jp{r:Bool}(b:Ap B c r i y):xS B y w=B.size-i:=by obtain⟨u,rfl⟩:=b;show B.size-(i:Int).toNat=_;simp
def as6(h:B.size<=Õ)(a:Ĵ)(w:Þ)(j:UZ B c yQ u a w): Code.wp À Ot (Exit.then (λb d=>UZ B c yQ u b d/\xS B b d<xS B a w)<|QN (HsE B c yQ u)<|HsR B c yQ u) a w:=by
 let⟨i,f,n,d,e⟩:=j;rw[Jp f];obtain⟨b,rfl⟩:=f;by_cases l:i=B.size
 .subst l;refine as4 b λa q=>⟨q,?_,e⟩;rw[<-d,ý (by rw[Ô];exact Ð _)];rfl
 .have g:i<B.size:=Z
  have m:i<B.data.toList.length:=by rwa[Ô]
  rw[î m,show B.data.toList[i]=B[i] by rw[ë];rfl]at d;refine as5 b i g h (λq a k=>⟨⟨i+1,k,Z,?_,e⟩,by rw[Jp k];omega⟩) λq a k=>⟨i,k,?_,e⟩
  .rw[<-d];simp[Ne.symm q]
  .rw[<-d];simp[q]
def as7(B:ByteArray)(c:UInt8)(d:B.size<=Õ)(w:Þ):Calls À 16 #[Á B,È Ŀ c.toNat] w λe f=>e=.returned (Ò<|decide<|c∈B.data.toList)/\f=w:=by
 have L:∀a,Ap B c ä (0:Nat) a->Code.wp À (Code.loop Ot) (QN (HsE B c (decide<|c∈B.data.toList) w)<|HsR B c (decide<|c∈B.data.toList) w) a w:=λa g=>
  wp_loop (UZ B c (decide<|c∈B.data.toList) w) (xS B) ⟨0,g,Ö _,U,U⟩<|as6 d
 have H:=ff L;generalize decide (c∈B.data.toList)=yQ at*;clear L;go_enter ğ,Tryz.ntmps16;go_wp2_with fail;refine Code.wp_mono ?_ (H.out _ (gR.gi _));rintro(_|(_|_)|_|_|_|_) a v hq;all_goals first|exact absurd hq id|skip
 .obtain⟨b,rfl,rfl⟩:=hq;obtain⟨u,rfl⟩:=b;unfold Ee;go_wp2_with fail;go_ret;exact⟨U,U⟩
 .obtain⟨i,b,rfl,rfl⟩:=hq;obtain⟨u,rfl⟩:=b;unfold Ee;go_ret;exact⟨U,U⟩
end
def acv{l:fe}(e:ig l)(f:nB<=l.w.heap.size)(c:UInt8)(g:B.size<=Õ)(a:Ĩ)(b:List Ĩ): fv.fi À Ä (λh u=>kg l h/\h.d=l.d/\u=G (a.finish<|Ò<|decide<|c∈B.data.toList) b) l (G (ì À 16 #[Á B,È Ŀ c.toNat] .normal)<|a::b):= abV e f fP (λu h=>by simp at h;rcases h with rfl|rfl;exact .kE _;exact .iF _ _) (λh=>by cases h;rfl) (as7 B c g) Ä a b
end Go.Proofs.Y.lb
namespace Go.Proofs.Y.fv
open Go Go.Conc Go.Proofs.Y.Lift Go.RowKit Go.Conc.Lib Go.ConcR.Gen
def acw(a:Array ě):Bool:=(Ë a.size).all λi=>match a[i]? with
 |none=>Ä
 |some o=>o.dst.isSome&&(match o.op with|.select _ _=>ä|_=>Ä)&&(o.op.operands.toList.all λx=>match x with
  |.tmp d=>(Ë a.size).all λj=>((a[j]?).bind (·.dst)) !=Â d||o.after.toList.any λe=>e.on==j&&vz e
  |_=>Ä)&&(match o.guard with
  |none=>Ä
  |some (j,_)=>o.after.toList.any λe=>e.on==j&&vz e)
def Gz(a:Array ě)(t:Array Ç)(i:Nat):Ç:=t.getD (((a[i]?).bind (·.dst)).getD 0) Ń
def Ou(p:Nat->ě->Prop):Nat->List ě->Prop
 |_,[]=>True
 |n,o::r=>p n o/\Ou p (n+1) r
def as8{p:Nat->ě->Prop}:∀(l:List ě) (n i:Nat) (o:ě),Ou p n l->l[i]?=Â o->p (n+i) o:=by
 intro l
 induction l with
 |nil=>intro n i o _ e;simp at e
 |cons x l a=>
  intro n i o h e;cases i with
  |zero=>
   rw[List.getElem?_cons_zero]at e;obtain rfl:=Ø e;exact h.1
  |succ i=>
   rw[List.getElem?_cons_succ]at e;rw[show n+(i+1)=n+1+i by omega];exact a _ i o h.2 e
section
variable{J:Jd}{l:fe}{c:Array Ç}
def lC.G(h:lC Q q (Gz Q c) wJ y)(g:∀d,Q.toList.all (λo=>o.dst !=Â d)=Ä->c[d]?=q[d]?)(i:c.size=q.size)(k:qL Q q.size=Ä){d:Nat}(l:∀j o,Q[j]?=Â o->o.dst=Â d->wJ.getD j ä=Ä):y.tmps[d]?=c[d]?:=by
 by_cases a:Q.toList.all (λo=>o.dst !=Â d)=Ä
 .rw[h.C a,g d a]
 .obtain⟨j,m,b⟩:∃j,∃h:j<Q.size,Q[j].dst=Â d:=by simpa using a
  have e:=ß m;have f:d<c.size:=by rw[i];exact YO k e b
  rw[h.r j _ d e (l j _ e b) b,Gz,e,ß f];simp[b,f]
def as9{id:Nat}(E:jS l)(F:¬l.q)(M:f.kind≠.early)(m:qL Q q.size=Ä)(N:acw Q=Ä)(O:∀t,LD t Q (Ë Q.size) []=Ä)(u:c.size=q.size)(z:∀d,Q.toList.all (λo=>o.dst !=Â d)=Ä->c[d]?=q[d]?) (S:Ou (λi o=>ê o (Ć Q c)=Ä/\∀a,fH l l.w a->(ċ (Act.eval ⟨c,[]⟩) o).run P a=.ok (.value<|Gz Q c i) a/\∀e∈(ċ (Act.eval ⟨c,[]⟩) o).events P a #[],uj l e) 0 Q.toList) (T:∀a,fH l l.w a->fi P yQ J {l with w:=a} (G (f.at ⟨c,[]⟩<|Ï Q []::L) qX)):fi P yQ J l (G (f.at ⟨q,[]⟩<|ı (.region id Q Ä)::L) qX):=by
 refine LC (λwJ y B=>lC Q q (Gz Q c) wJ y/\∃a,fH l l.w a/\B={l with w:=a}) E F (λa r=>⟨lC.Y _ _ _,{a with drawn:=a.drawn+1},⟨r.r,r.I,r.N,r.Y,r.S⟩,U⟩) (λt wJ y B i g C n=> ?_) λt wJ y B C V W=> ?_
 .obtain⟨b,a,r,rfl⟩:=C;obtain⟨o,h⟩:∃o,Q[i]?=Â o:=⟨_,ß<|zg n⟩;have D:=ù.1 N i<|æ.2<|zg n;rw[h]at D;simp only[ú]at D;let⟨⟨⟨_,H⟩,X⟩,I⟩:=D;have K:ċ y.eval o=ċ (Act.eval ⟨c,[]⟩) o:=execOp_congr o (λqX f e=>by rw[e]at H;cases H) λx Y=>by
   have p:=ù.1 X x<|ă.2 Y;cases x with
   |tmp d=>
    show y.tmps.getD d Ń=c.getD d Ń;have:=b.G z u m (d:=d) λj o' k s=>by have:=ù.1 p j<|æ.2 (Ê.1 k).1;simp only[k,è,s,bne_self_eq_false,Bool.false_or]at this;exact ia n h this
    simp only[Array.getD_eq_getD_getElem?,this]
   |const v=>rfl
   |global g=>rfl
   |func g=>rfl
  have v:ê o (Ć Q y.tmps)=ê o (Ć Q c):=by
   unfold ê;cases g:o.guard with
   |none=>rfl
   |some p=>
    let⟨j,bv⟩:=p;rw[g]at I;have:Ć Q y.tmps j=Ć Q c j:=by
     unfold Ć;cases k:Q[j]? with
     |none=>rfl
     |some oj=>
      cases s:oj.dst with
      |none=>simp[s]
      |some d=>
       have:=b.G z u m (d:=d) λj' o' ata atb=>by
        by_cases e:j'=j
        .rw[e];exact ia n h I
        .exact absurd atb<|YP m k ata e s
       simp only[è,s,this]
    simp only[this]
  have s:=as8 _ _ _ _ S (show Q.toList[i]?=Â o by rwa[Array.getElem?_toList]);rw[Į]at s;refine oM h (v.trans s.1) M (lX E r) F (λp g=> ?_) (λp g=> ?_)<|.fB λp g=>⟨_,U,b.fZ m h n λ_=>rfl,p,r.fg ⟨g.r,g.I,g.N,g.Y,g.S⟩,U⟩
  .rw[K];exact(s.2 p<|r.fg ⟨g.r,g.I,g.N,g.Y,g.S⟩).1
  .rw[K];exact(s.2 p<|r.fg ⟨g.r,g.I,g.N,g.Y,g.S⟩).2
 .obtain⟨b,a,r,rfl⟩:=C;have e:y=⟨c,[]⟩:=by
   let⟨s,v⟩:=y;have p:=b.M;simp only at p;subst p;congr 1;refine Array.ext_getElem? λd=>b.G z u m λj o k _=>(po W V _ [] (O t) λ_ g=>by cases g) j<|æ.2 (Ê.1 k).1
  rw[e];exact T a r
def GA:List ě->List Ç->Array Ç->Array Ç
 |o::os,v::vs,t=>GA os vs (match o.dst with|some d=>t.setIfInBounds d v|none=>t)
 |_,_,t=>t
def GB:∀(a:List ě) (b:List Ç) (t:Array Ç),(GA a b t).size=t.size/\∀d,a.all (λo=>o.dst !=Â d)=Ä->(GA a b t)[d]?=t[d]?
 |[],_,t=>⟨U,λ_ _=>rfl⟩
 |o::a,[],t=>⟨U,λ_ _=>rfl⟩
 |o::a,v::b,t=>by
  unfold GA;cases c:o.dst with
  |none=>
   refine⟨(GB a b t).1,λd h=>(GB a b t).2 d ?_⟩;simp only[ħ,ú]at h;exact h.2
  |some e=>
   refine⟨by rw[(GB a b _).1];simp,λd h=> ?_⟩;simp only[ħ,ú,c]at h;rw[(GB a b _).2 d h.2,Array.getElem?_setIfInBounds_ne (by simpa using h.1)]
def atc{id:Nat}(b:List Ç)(d:jS l)(g:¬l.q)(j:f.kind≠.early)(k:qL Q q.size=Ä)(m:acw Q=Ä)(n:∀p,LD p Q (Ë Q.size) []=Ä) (h:∀c,c=GA Q.toList b q->Ou (λi o=>ê o (Ć Q c)=Ä/\∀a,fH l l.w a->(ċ (Act.eval ⟨c,[]⟩) o).run P a=.ok (.value<|Gz Q c i) a/\∀e∈(ċ (Act.eval ⟨c,[]⟩) o).events P a #[],uj l e) 0 Q.toList/\∀a,fH l l.w a->fi P yQ J {l with w:=a} (G (f.at ⟨c,[]⟩<|Ï Q []::L) qX)): fi P yQ J l (G (f.at ⟨q,[]⟩<|ı (.region id Q Ä)::L) qX):= as9 d g j k m n (GB _ b _).1 (GB _ b _).2 (h _ U).1 (h _ U).2
end
end Go.Proofs.Y.fv
namespace Go.Proofs.Y.lb
open Go Go.Conc Go.Proofs Go.RowKit Go.Proofs.Y.Lift Go.Proofs.Y.gR Go.Proofs.Y.fv Go.Proofs.Y.pJ
open Go.Conc.Lib Go.ConcR.Gen Go.Proofs.YtgpphkdoanciiaaGreatDoor
noncomputable def U0:Ł:=kY ĳ [1,1,1,1,1,1,1]
noncomputable def Ov (a:Array Ç):Ī:=G ((base 10).at ⟨a,[]⟩ [ı U0]) []
structure TF(x:Nat)(S O T:ByteArray)(E F:Int)(tt:Array Ç):Prop where
 r:tt.size=131
 t7:tt[7]?=Â (Æ<|Â ⟨x,0,Ú⟩)
 M:tt[8]?=Â (Á S)
 N:tt[9]?=Â (È Ù E)
 Rx:tt[10]?=Â (Á O)
 Ry:tt[11]?=Â (È Ù F)
 C:tt[12]?=Â (Á T)
 I:tt[13]?=Â (È Ù E)
section
variable{l:fe}{x:Nat}{s:List fJ}{tt:Array Ç}{S O T:ByteArray}{E F:Int}
def acy(h:ml X W l x i s)(c:ig l)(a:TF x S O S E F tt)(f:(E≠0/\S=⟨#[]⟩)\/(E=0/\S=⟨#[33,53]⟩))(e:∀d,ig d->ml X W d x i s->vQ (Ò Ä) d.w):jo vQ l (Ov tt):=by
 have hF:True:=trivial;obtain⟨u,rfl⟩:=uo tt a.r;have g:u 8=Á S:=by simpa using a.M
 have j:u 9=È Ù E:=by simpa using a.N
 have k:u 12=Á S:=by simpa using a.C
 have m:u 13=È Ù E:=by simpa using a.I
 clear a;apply Oc;apply fW (n:=120) c.r.r;simp only[Ov,Ë,â,đ,g,j,k,m];conv in U0=>whnf
 rcases f with⟨o,rfl⟩|⟨rfl,rfl⟩
 .have q:(E !=0)=Ä:=by rwa[bne_iff_ne]
  repeat w_nl fA
  refine Ã λ_ _=> ?_;exact .fB λp b=>⟨U,Ò Ä,λw=>J8 (t:=6) U U í U ft,e _ (c.C b)<|h.r b⟩
 .repeat w_nl fA
  refine Ã λ_ _=> ?_;exact .fB λp b=>⟨U,Ò Ä,λw=>J8 (t:=6) U U í U ft,e _ (c.C b)<|h.r b⟩
end
def atd:Ł->Array ě
 |.region _ a _=>a
 |_=>#[]
noncomputable def acz:Array ě:=atd<|kY ĳ [1,1,1,1,1,1,1,1,1,1,1,1,0]
noncomputable def acA:Ł:=kY ĳ [1,1,1,1,1,1,1,1,1,1,1,1,1]
noncomputable def U1 (a:Array Ç):Ī:=G ((base 10).at ⟨a,[]⟩ [Ï acz [2,3,4,5,6,7,8,9,10,11,12,13,14,15,16,17],ı acA]) []
section
variable{l:fe}{s:List fJ}{S T:ByteArray}{F:Int}{v:fJ}{c:UInt8}
def ate(h:ml X W l i n s)(m:ig l)(O:d.size=131)(P:d[82]?=Â (Æ<|Â ⟨i,0,Ú⟩))(Q:d[12]?=Â (Á ⟨#[c]⟩))(S:d[83]?=Â (Á ⟨#[c]⟩))(F:iw (yj c)=(0,0,Ao j))(T:s[1]?=Â v)(V:s[j]?=Â v)(hP:∀G,ig G->ml X W G i n s->vQ (Ò Ä) G.w):jo vQ l (U1 d):=by
 have hF:True:=trivial;have H:=asS F T V;have I:=asT h.M F (by simp[Ao]);rw[H]at I;obtain⟨u,rfl⟩:=uo d O;have e7:u 82=Æ (Â ⟨i,0,Ú⟩):=by simpa using P
 have e12:u 12=Á ⟨#[c]⟩:=by simpa using Q
 have e83:u 83=Á ⟨#[c]⟩:=by simpa using S
 clear P Q S O;apply pP;simp only[U1,Ë,â,đ,e7,e12,e83];conv in acz=>whnf
 conv in acA=>whnf
 apply wz ⟨#[114,49,59,114]⟩ ⟨#[c]⟩ ⟨#[114,49,59,114,c]⟩ m (Ec U) (by simp[Ì]);walk_nrm;apply wz ⟨#[114,49,59,114,c]⟩ ⟨#[59,108,49,59,108]⟩ ⟨#[114,49,59,114,c,59,108,49,59,108]⟩ m (Ec U) (by simp[Ì]);walk_nrm;apply fW (n:=60) m.r.r;repeat w_nl fA
 refine Ã λ_ _=> ?_;apply wz ⟨#[114,49,59,114,c,59,108,49,59,108]⟩ ⟨#[c]⟩ ⟨#[114,49,59,114,c,59,108,49,59,108,c]⟩ m (Ec U) (by simp[Ì]);walk_nrm;apply wz ⟨#[114,49,59,114,c,59,108,49,59,108,c]⟩ ⟨#[59,117,49,59,117]⟩ ⟨#[114,49,59,114,c,59,108,49,59,108,c,59,117,49,59,117]⟩ m (Ec U) (by simp[Ì]);walk_nrm;apply fW (n:=60) m.r.r;repeat w_nl fA
 refine Ã λ_ _=> ?_;apply wz ⟨#[114,49,59,114,c,59,108,49,59,108,c,59,117,49,59,117]⟩ ⟨#[c]⟩ ⟨#[114,49,59,114,c,59,108,49,59,108,c,59,117,49,59,117,c]⟩ m (Ec U) (by simp[Ì]);walk_nrm;apply wz ⟨#[114,49,59,114,c,59,108,49,59,108,c,59,117,49,59,117,c]⟩ ⟨#[59,100,49,58]⟩ ⟨#[114,49,59,114,c,59,108,49,59,108,c,59,117,49,59,117,c,59,100,49,58]⟩ m (Ec U) (by simp[Ì]);walk_nrm;apply fW (n:=60) m.r.r;repeat w_nl fA
 refine Ã λ_ _=> ?_;apply wz ⟨#[114,49,59,114,c,59,108,49,59,108,c,59,117,49,59,117,c,59,100,49,58]⟩ ⟨#[c]⟩ ⟨#[114,49,59,114,c,59,108,49,59,108,c,59,117,49,59,117,c,59,100,49,58,c]⟩ m (Ec U) (by simp[Ì]);walk_nrm;refine .fB λb p=>⟨m.C p,U,?_⟩;have J:=m.C p;have Y:=h.r p;refine Al (f:=26) (args:=#[Æ<|Â ⟨i,0,Ú⟩,Á<|yj c,È Ù 7]) J U fP (by k_ne) (λw=>by unfold yj;go_simp) (λw=>Å U Ğ U U #[]) λpb pw=> ?_;refine as3 (n:=7) (Y.r pw) (J.C pw) (by show _<=Õ;simp[yj,Ì,Õ]) H (by simp[Eb]) (asR v) U I λx lv z h3 C hO=> ?_;let⟨pk,o,E⟩:=jh C;obtain⟨a,rfl⟩:∃a,pk=Â ⟨a,0,Ú⟩:=by
  rcases C.2 with⟨e,N⟩|⟨g,_,_,e,_⟩
  .omega
  .rw[E]at e;cases e;exact⟨g,U⟩
 have K:lv.ownBlock=Â a:=by rw[E];rfl
 have L:∀g y,(ji<|Eb v)[g]?=Â y->x.w.cell? ⟨a,g,Ú⟩=Â y:=λg y q=>by have q:=C.cells K g y q;rwa[Addr.add_lit,Į]at q
 have xp:=hO a K;clear C hO;rw[E];unfold Eb ji at L;generalize Aa (xT v.s)=A at*;generalize qy (v.r.map oR)=B at*;generalize qy (v.C.map xV)=D at*;clear H I Y J E K;walk_nrm;apply Oc;apply fW (n:=60) z.r.r;repeat w_nl fA
 refine Ã λ_ _=> ?_;refine atc [Ò Ä,Ò Ä,é (Â ⟨a,0,Ú⟩) 7 o,Æ<|Â ⟨a,0,Ú⟩,Á A,é (Â ⟨a,0,Ú⟩) 7 o,Æ<|Â ⟨a,1,Ú⟩,Á A,Ò Ä,Ò Ä,Ò Ä,é (Â ⟨a,0,Ú⟩) 7 o,Æ<|Â ⟨a,2,Ú⟩,Á B,é (Â ⟨a,0,Ú⟩) 7 o,Æ<|Â ⟨a,3,Ú⟩,Á B,Ò Ä,Ò Ä,Ò Ä,é (Â ⟨a,0,Ú⟩) 7 o,Æ<|Â ⟨a,4,Ú⟩,Á D,é (Â ⟨a,0,Ú⟩) 7 o,Æ<|Â ⟨a,5,Ú⟩,Á D,Ò Ä,Ò Ä,Ò Ä,é (Â ⟨a,0,Ú⟩) 7 o,Æ<|Â ⟨a,6,Ú⟩,Á ⟨#[45]⟩,Ò Ä,Ò Ä,Ò Ä] z.r.r z.q (by k_ne) ft ft (λN=>by cases N<;>kernel_rfl) λt1 M=> ?_;simp only[GA]at M;simp at M;subst M;have k:∀b,fH x x.w b->∀g y,[Á A,Á A,Á B,Á B,Á D,Á D,Á ⟨#[45]⟩][g]?=Â y->b.cell? ⟨a,g,Ú⟩=Â y:=λb r g y q=>(gK<|r.I a<|Ü xp).trans<|L g y q;have atf:∀g,gW x ⟨a,g,Ú⟩:=λg=>Ü<|Ü xp;clear L T V F;refine⟨?_,λb p=> ?_⟩
 .iterate 35 refine⟨⟨fP,λb r=>⟨by
   have c0:=k b r 0 _ U;have c1:=k b r 1 _ U;have c2:=k b r 2 _ U;have c3:=k b r 3 _ U;have c4:=k b r 4 _ U;have c5:=k b r 5 _ U;have c6:=k b r 6 _ U;clear k;simp only[Gz];go_simp,λe N=>by
   first
   |(simp[go_sem]at N;done)
   |(simp[go_sem,k b r 0 _ U,k b r 1 _ U,k b r 2 _ U,k b r 3 _ U,k b r 4 _ U,k b r 5 _ U,k b r 6 _ U]at N;subst N;exact(atf _).C)⟩⟩,?_⟩
  trivial
 .have e:=z.C p;have h4:=h3.r p;apply fW (n:=60) e.r.r;repeat w_nl fA
  refine Ã λ_ _=> ?_;exact .fB λFf N=>⟨U,Ò Ä,λw=>J8 (t:=6) U U í U ft,hP _ (e.C N)<|h4.r N⟩
end
section
variable{l:fe}{s:List fJ}{O T:ByteArray}{F:Int}{v:fJ}{c:UInt8}
def U2(h:ml X W l i n s)(f:ig l)(b:TF i ⟨#[49]⟩ O ⟨#[c]⟩ 0 F d)(k:(c=50/\F≠0)\/(c=50/\F=0/\O=⟨#[33,53]⟩)\/(c=51/\F=0/\O=⟨#[50]⟩))(o:iw (yj c)=(0,0,Ao j))(p:s[1]?=Â v)(q:s[j]?=Â v)(x:∀e,ig e->ml X W e i n s->vQ (Ò Ä) e.w):jo vQ l (Ov d):=by
 have hF:True:=trivial;have r:∀e,ig e->ml X W e i n s->∀g,g.size=131->g[82]?=Â (Æ<|Â ⟨i,0,Ú⟩)->g[12]?=Â (Á ⟨#[c]⟩)->g[83]?=Â (Á ⟨#[c]⟩)->jo vQ e (U1 g):=λe y z g B C D E=>ate z y B C D E o p q x;obtain⟨u,rfl⟩:=uo d b.r;have G:u 7=Æ (Â ⟨i,0,Ú⟩):=by simpa using b.t7
 have H:u 8=Á ⟨#[49]⟩:=by simpa using b.M
 have I:u 9=È Ù 0:=by simpa using b.N
 have J:u 10=Á O:=by simpa using b.Rx
 have K:u 11=È Ù F:=by simpa using b.Ry
 have L:u 12=Á ⟨#[c]⟩:=by simpa using b.C
 have M:u 13=È Ù 0:=by simpa using b.I
 clear b o p q;have m:=ff r;clear r;apply pP;apply fW (n:=160) f.r.r;simp only[Ov,Ë,â,đ,G,H,I,J,K,L,M];conv in U0=>whnf
 rcases k with⟨rfl,k⟩|⟨rfl,rfl,rfl⟩|⟨rfl,rfl,rfl⟩
 .have N:(F==0)=ä:=by rwa[beq_eq_false_iff_ne]
  repeat w_nl fA
  refine Ã λ_ _=> ?_;exact .fB λt a=>⟨f.C a,U,m.out _ (f.C a) (h.r a) _ U U U U⟩
 .repeat w_nl fA
  refine Ã λ_ _=> ?_;exact .fB λt a=>⟨f.C a,U,m.out _ (f.C a) (h.r a) _ U U U U⟩
 .repeat w_nl fA
  refine Ã λ_ _=> ?_;exact .fB λt a=>⟨f.C a,U,m.out _ (f.C a) (h.r a) _ U U U U⟩
end
section
variable{l:fe}{s:List fJ}{O T:ByteArray}{F:Int}{v:fJ}{c:UInt8}
def atg{c C:ByteArray}(W:ig l)(hg:nI l.w)(h4:∀b,b=1\/b=2\/b=3\/b=4->l.O b)(hB:c.size<=10^15-3)(hC:C.size<=10^15-3)(J:Int)(rU:-9223372036854775808<=J)(rG:J<=9223372036854775807) (hP:∀d,ig d->(∀b,l.O b->d.O b/\d.w.heap[b]?=l.w.heap[b]?)->l.w.heap.size<=d.w.heap.size->vQ (Ò Ä) d.w): jo vQ l (G (ì À 10 #[Á c,Á C,È Ù J] .normal) []):=by
 have hF:True:=trivial;have mB:c.size<=Õ:=by unfold Õ;omega
 have mC:C.size<=Õ:=by unfold Õ;omega
 rw[D5 [_,_,_] 128 í];simp only[Ą,ø,á];conv in kY _ _=>whnf
 apply pP;apply fW (n:=40) W.r.r;repeat w_go fA
 refine Ã λ_ _=> ?_;refine .fB λw₁ mP=>⟨W.C mP,U,?_⟩;have nz:=W.C mP;refine Al (f:=15) (args:=#[È Ù J]) nz U fP (by k_ne) (λw=>by go_simp) (λw=>Å U Tryz.func15 U U #[]) λpb D=> ?_;have K:fH l l.w pb:=mP.fg ⟨D.r,D.I,D.N,D.Y,D.S⟩;refine ar6 (nz.C D) (hg.r (ü hg.fx K.r) λb q=>K.I b<|Ü<|h4 b q) h4 J rU rG λl3 i n sl V E L=> ?_;have AW:l.w.heap.size<=i:=ü K.r L.I;have uno:ml l.O l.w l3 i n [gR.k9]:=⟨⟨sl,V,L.r⟩,λb q=>⟨⟨(L.C b q).1,(L.C b q).2.trans<|K.I b<|Ü q⟩,by have:=W.r.fx b<|Ü q;omega⟩⟩;have y:∀d s,ig d->ml l.O l.w d i n s->vQ (Ò Ä) d.w:=λd s kR h'=>hP d kR (λb q=>(h'.C b q).1) (by let⟨_,_,q⟩:=h'.a;exact ü AW<|Nat.le_of_lt<|kR.r.fx i<|Ü q.fq);clear L hP AW K;walk_nrm;apply pP;apply fW (n:=40) E.r.r;repeat w_go fA
 refine Ã λ_ _=> ?_;apply oM (v:=Ò ä) U fP (by k_ne) E.r.r E.q (λw _=>by go_simp) (λw _ e g=>by simp[go_sem,abU]at g);walk_nrm;apply fW (n:=60) E.r.r;repeat w_nl fA
 refine Ã λ_ _=> ?_;refine yh (f:=16) (args:=#[Á c,È Ŀ 59]) U fP (by k_ne) E.r.r (λw=>by go_simp) (λw=>Å U ğ U U #[]) λabW vI=> ?_;have C0:=E.C vI;have u4:=uno.r vI;refine fv.fi.lN ?_<|acv C0 u4.N 59 mB _ _;rintro l5 g5 ⟨m,M,rfl⟩;have H:=kg.zx C0 m M;have u5:=u4.I (λb q=>⟨m.O b q,m.r.I b<|Ü q⟩) m.r.r;clear m M u4 C0;rw[ģ];by_cases X:59∈c.data.toList
 .rw[decide_eq_true X];walk_nrm;refine .fB λUP k=>⟨H.C k,U,?_⟩;apply Oc;apply fW (n:=60) (H.C k).r.r;repeat w_nl fA
  refine Ã λ_ _=> ?_;exact .fB λg e=>⟨U,Ò Ä,λw=>J8 (t:=6) U U í U ft,y _ _ ((H.C k).C e)<|(u5.r k).r e⟩
 rw[decide_eq_false X];walk_nrm;apply fW (n:=60) H.r.r;repeat w_nl fA
 refine Ã λ_ _=> ?_;refine yh (f:=16) (args:=#[Á C,È Ŀ 59]) U fP (by k_ne) H.r.r (λw=>by go_simp) (λw=>Å U ğ U U #[]) λUP k=> ?_;have An:=H.C k;have u6:=u5.r k;refine fv.fi.lN ?_<|acv An u6.N 59 mC _ _;rintro l7 g7 ⟨m,M,rfl⟩;have u:=kg.zx An m M;have u7:=u6.I (λb q=>⟨m.O b q,m.r.I b<|Ü q⟩) m.r.r;clear m M u6 An;rw[ģ];by_cases Y:59∈C.data.toList
 .rw[decide_eq_true Y];walk_nrm;refine .fB λUP k=>⟨u.C k,U,?_⟩;apply Oc;apply fW (n:=60) (u.C k).r.r;repeat w_nl fA
  refine Ã λ_ _=> ?_;exact .fB λg e=>⟨U,Ò Ä,λw=>J8 (t:=6) U U í U ft,y _ _ ((u.C k).C e)<|(u7.r k).r e⟩
 rw[decide_eq_false Y];have cB:=acr X gR.k9;have cC:=acr Y gR.k9;clear X Y uno u5;have zB:(⟨#[105,48,58]⟩:ByteArray).size+c.size<=10^15:=by show 3+c.size<=_;omega
 have zC:(⟨#[105,48,58]⟩:ByteArray).size+C.size<=10^15:=by show 3+C.size<=_;omega
 obtain⟨z,Ow⟩:∃T,(⟨#[105,48,58]⟩++c:ByteArray)=T:=⟨_,U⟩;obtain⟨TC,U3⟩:∃T,(⟨#[105,48,58]⟩++C:ByteArray)=T:=⟨_,U⟩;have yB:z.size<=Õ:=by rw[<-Ow,ç];unfold Õ;omega
 have yC:TC.size<=Õ:=by rw[<-U3,ç];unfold Õ;omega
 rw[Ow]at cB;rw[U3]at cC;walk_nrm;apply fW (n:=60) u.r.r;repeat w_nl fA
 refine Ã λ_ _=> ?_;apply wz ⟨#[105,48,58]⟩ c z u Ow zB;walk_nrm;refine .fB λCY e=>⟨u.C e,U,?_⟩;refine Al (f:=17) (args:=#[Æ<|Â ⟨i,0,Ú⟩,Á z]) (u.C e) U fP (by k_ne) (λw=>by go_simp) (λw=>Å U ą U U #[]) λvL x=> ?_;refine Oq ((u7.r e).r x) ((u.C e).C x) yB λl10 N Ox=> ?_;obtain⟨B,h,s1,I⟩:∃B h s1,mj [gR.k9] z=(B,h,s1):=⟨_,_,_,U⟩;rw[I]at Ox|-;dsimp only at Ox|-;walk_nrm;apply pP;apply fW (n:=60) N.r.r;repeat w_nl fA
 refine Ã λ_ _=> ?_;apply wz ⟨#[105,48,58]⟩ C TC N U3 zC;walk_nrm;refine .fB λCY e=>⟨N.C e,U,?_⟩;refine Al (f:=17) (args:=#[Æ<|Â ⟨i,0,Ú⟩,Á TC]) (N.C e) U fP (by k_ne) (λw=>by go_simp) (λw=>Å U ą U U #[]) λvL x=> ?_;refine Oq ((Ox.r e).r x) ((N.C e).C x) yC λl11 P Oy=> ?_;obtain⟨O,F,s2,p⟩:∃B h s9,mj s1 TC=(B,h,s9):=⟨_,_,_,U⟩;rw[p]at Oy|-;dsimp only at Oy|-;walk_nrm;apply pP;apply fW (n:=60) P.r.r;repeat w_nl fA
 refine Ã λ_ _=> ?_;apply wz ⟨#[105,48,58]⟩ c z P Ow zB;walk_nrm;refine .fB λCY e=>⟨P.C e,U,?_⟩;refine Al (f:=17) (args:=#[Æ<|Â ⟨i,0,Ú⟩,Á z]) (P.C e) U fP (by k_ne) (λw=>by go_simp) (λw=>Å U ą U U #[]) λvL x=> ?_;refine Oq ((Oy.r e).r x) ((P.C e).C x) yB λl12 U4 U5=> ?_;obtain⟨T,E',s3,r⟩:∃B h s9,mj s2 z=(B,h,s9):=⟨_,_,_,U⟩;rw[r]at U5|-;dsimp only at U5|-;clear u7 Ox Oy;walk_nrm;apply pP;apply fW (n:=60) U4.r.r;iterate 6 w_nl fA
 refine Ã λ_ _=> ?_;refine .fB λCY e=>⟨U4.C e,U,?_⟩;have Q:=U4.C e;have S:=U5.r e;rcases cB with⟨E0,Oz,f⟩|⟨o,f⟩
 .rw[f]at I r;cases I;cases r;refine acy (O:=O) (F:=F) S Q ?_ (Ü ⟨Oz,U⟩) λd=>y d _;exact⟨U,U,U,U,U,U,U,U⟩
 .have f1:=f [gR.k9] U A;rw[f1]at I;cases o with
  |none=>
   cases I;have h2:s2[0]?=Â gR.k9/\s2.length<40:=by
    rcases cC with⟨E0,Oz,g⟩|⟨o,g⟩
    .rw[g]at p;cases p;exact⟨U,A⟩
    .rw[g [gR.k9] U A]at p;cases o with
     |none=>cases p;exact⟨U,A⟩
     |some v=>cases p;exact⟨U,by show 2<40;decide⟩
   rw[f s2 h2.1 h2.2]at r;cases r;refine acy (O:=O) (F:=F) S Q ?_ (ę ⟨U,U⟩) λd=>y d _;exact⟨U,U,U,U,U,U,U,U⟩
  |some v=>
   cases I;rcases cC with⟨E0,Oz,g⟩|⟨o,g⟩
   .rw[g]at p;cases p;rw[f _ U (by show 2<40;decide)]at r;cases r;refine U2 (O:=⟨#[]⟩) (j:=2) S Q ?_ (Ü ⟨U,Oz⟩) acp U U λd=>y d _;exact⟨U,U,U,U,U,U,U,U⟩
   .rw[g _ U (by show 2<40;decide)]at p;cases o with
    |none=>
     cases p;rw[f _ U (by show 2<40;decide)]at r;cases r;refine U2 (j:=2) S Q ?_ (ę<|Ü ⟨U,U,U⟩) acp U U λd=>y d _;exact⟨U,U,U,U,U,U,U,U⟩
    |some v'=>
     cases p;rw[f _ U (by show 3<40;decide)]at r;cases r;refine U2 (j:=3) S Q ?_ (ę<|ę ⟨U,U,U⟩) asQ U U λd=>y d _;exact⟨U,U,U,U,U,U,U,U⟩
end
def ath(c:nI W){C:ByteArray}(d:B.size<=10^15-3)(e:C.size<=10^15-3)(a:Int)(f:-9223372036854775808<=a)(g:a<=9223372036854775807): sC (λv w'=>v=Ò Ä/\nN W w') #[G (ì À 10 #[Á B,Á C,È Ù a] .normal) []] W Ú #[]:= asb (l:=abZ W) (atg (ab0 W) c (asc c) d e a f g λi _ v h=>⟨U,λb q=>(v b q).2,h⟩) (ab0 W) U
end Go.Proofs.Y.lb
