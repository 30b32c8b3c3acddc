import Derived.Test.YtgpphkdoanciiaaGreatDoorWAE
import Derived.Lib.LaidTab
import Derived.OpenShut
import Derived.Test.YtgpphkdoanciiaaGreatDoorRows
import Derived.Conc.LeavingOf
import Derived.LaidMore
import Derived.Stop.Joined
import Derived.Carry
set_option linter.all false
set_option maxRecDepth 1000000
set_option maxHeartbeats 8000000
open Go.Proofs.Tryz renaming prog->À,underlying36->í,underlying3->ð,underlying5->ò,f6->ù,func23->Ď,func17->đ,func6->Ĕ,t9->Ě
open Option renaming some->Á,map_eq_some_iff->á,none->ë,bind_some->ï
open Nat renaming le_trans->Â,zero_le->Ê
open Go.Value renaming string->Ã,slice->Í,int->Ò,pointer->Ü,bool->Đ
open List renaming length_append->Ä,getElem?_eq_getElem->Ë,range->Ñ,getElem?_eq_some_iff->Ô,length_singleton->Ù,getElem?_append_left->Ý,size_toArray->Þ,take->ß,drop->à,append_nil->â,map_congr_left->é,getElem?_map->ì,not_mem_nil->ñ,cons_append->ó,nil_append->ø,mem_range->û,map->ý,map_cons->þ,mem_cons->ÿ,map_nil->Ą,getD->Ĝ
open Go renaming Value->Å,World->Ö,laidMetH->ú,Frame->Ă,DataW->Č,TypeId->ĕ,IntKind->Ė,Act->ě,maxLen->Ģ,Code->Ĥ
open Go.Conc.Goes renaming stop->Æ
open Go.Proofs.YtgpphkdoanciiaaGreatDoor.Rows renaming laid_math_bits_deBruijn32tab->Ç,laid_math_bits_deBruijn64tab->È,laid_attic_attic_stepRules->Ì,laid_internal_strconv_uint64pow10->Ð
open Or renaming inl->É,inr->ē
open Option.some renaming inj->Î,injEq->ė
open Go.IntKind renaming i64->Ï,wrap_i64->ô,u64->Ċ,wrap_u64->ĝ
open Go.Conc renaming events_call_body->Ó
open Go.DataW renaming trod->Õ,trod_int->å,agg->Ĩ
open ByteArray renaming size_append->Ø,data_append->ã,ext->ā,size_extract->ą,append_assoc->ć,append_empty->Ĉ,extract->Ę,size->ģ
open List.range renaming loop->Ú
open Array renaming getElem?_eq_some_iff->Û,length_toList->ê
open Go.Lib renaming tabData->ä,decDigits->Ā
open Go.World renaming cell?->æ,var?->Ē
open Go.Frame renaming enter->ç
open Go.Item renaming inBlock->ü,code->ď,inLoop->ę,inRegion->Ğ
variable{i n j b k m J j9 j7 j6:Nat}{w u W jX:Ö}{v x z jQ:Å}{h c:Int}{e t T:ĕ}{d q:Array Å}{P:Go.Program}{y:ě}{B:ByteArray}{X:Nat->Prop}{O:Option Go.Addr}{l:List Å}{K H:ě->Ö->Prop}{jJ:List Nat}{qX:List Ă}{zQ:List Int}{xJ:Nat×Nat}{vQ:Å->Ö->Prop}{Q:Array Go.Oper}{f:Ă}
namespace Go.Proofs.Y.nz
open Go Go.Conc Go.Proofs Go.RowKit Go.Proofs.Y.Lift Go.Proofs.Y.jr Go.Proofs.Y.fK Go.Proofs.Y.xq
open Go.Proofs.YtgpphkdoanciiaaGreatDoor (Rows.laid_math_bits_deBruijn32tab Rows.laid_math_bits_deBruijn64tab Rows.laid_internal_strconv_uint64pow10 Rows.laid_attic_attic_stepRules)
def Sm:List (String×DataW Unit):=[("math/bits.deBruijn32tab",Ç),("math/bits.deBruijn64tab",È),("internal/strconv.uint64pow10",Ð),("attic/attic.stepRules",Ì)]
def Sn(h:W.ShapedOpen À)(g:Nat)(t:ĕ)(b:g<À.globals.size)(e:(((begin À (λ_ _=>0) default).world.heap[g]?).bind Obj.row?).map (·.2)=Á t): ∃a,W.heap[g]?=Á (.cells a t):=by let⟨⟨z,c⟩,d,f⟩:=á.1 e;let⟨a,i,_⟩:=h.1 g z c b d;cases f;exact⟨a,i⟩
def aeQ{n:String}(b:À.globalNamed n=Á i)(h:W.heap[i]?=Á (.cells q t xJ))(a:W.var? À n=Á d):q=d:=by unfold Ē at a;rw[b]at a;simp only[ï,h]at a;simpa using a
def Yq{n:String}{N:Nat}{k:Ė}{p:List MemPlace} (a:À.globalNamed n=Á i) (f:(À.globals[i]?).map (·.type)=Á t) (h:À.underlying t=Á (.array N e)) (l:À.underlying e=Á (.int k)) (m:À.cellsOf e=1) (o:À.cellsOf t=N) (r:W.heap[i]?=Á (.cells d t xJ)) (s:À.globalNamed n=Á b) (u:(À.globals[b]?).map (·.type)=Á T) (v:W.var? À n=Á q) (w:Õ (λ_=>()) À W 0 (λ_=>true) false j T q.toList=Á (ä k zQ,p)):d=(zQ.map λz=>Ò k z).toArray:=by obtain rfl:=Î<|a.symm.trans s;obtain rfl:=Î<|f.symm.trans u;rw[aeQ a r v,<-Lib.cells_of_tab h l m o w]
def auV:À.cellsOf 299=3:=fF
def aeR:À.cellsOf 36=1:=fF
def auW:À.cellsOf 3=1:=fF
def auX:À.cellsOf 300=69:=fF
def auY{p:List MemPlace}(v:Õ (λ_=>()) À W 0 (λ_=>true) false n 300 l=Á (Ì,p)): l.length=69/\∀(i:Nat) (r:Int×Int×Int),jN[i]?=Á r->l[i*3]?=Á (Ò Ċ r.1)/\l[i*3+1]?=Á (Ò Ï r.2.1)/\l[i*3+2]?=Á (Ò Ï r.2.2):=by
 obtain⟨f,m,rfl,w,y,I,z⟩:=DataW.trod_array Tryz.underlying300 v;refine⟨y.trans auX,λi r o=> ?_⟩;have B:i<23:=by have:=(Ô.1 o).1;exact this
 have g:=z i B;rw[auV]at g;have C:f.map (·.1)=jN.map λr=>(Ĩ [.lit<|.int Ċ r.1,.lit<|.int Ï r.2.1,.lit<|.int Ï r.2.2]:Č Unit):=by have:=congrArg Prod.fst w;simp only[Ì,DataW.agg.injEq]at this;exact this.symm
 obtain⟨x,q⟩:∃x,f[i]?=Á x:=⟨_,Ë Z⟩;rw[q]at g;have d:(f.map (·.1))[i]?=Á x.1:=by simp[q]
 rw[C]at d;simp only[ì,o,Option.map_some,ė]at d;obtain⟨e,h,rfl,j,J,D,k⟩:=DataW.trod_struct Tryz.underlying299 g;have a:=k 0 _ U;have b:=k 1 _ U;have c:=k 2 _ U;have a:Õ _ À W 0 _ false h 36 (ß (À.cellsOf 36)<|à 0<|ß 3<|à (i*3) l)=e[0]?:=a;have b:Õ _ À W 0 _ false h 3 (ß (À.cellsOf 3)<|à 1<|ß 3<|à (i*3) l)=e[1]?:=b;have c:Õ _ À W 0 _ false h 3 (ß (À.cellsOf 3)<|à 2<|ß 3<|à (i*3) l)=e[2]?:=c;rw[aeR]at a;rw[auW]at b c;match e,D,j,a,b,c with
 |[y0,y1,y2],_,j,a,b,c=>
  let⟨K,c0,E,_⟩:=å í (show Õ _ _ _ _ _ _ _ 36 _=Á y0 from a);let⟨L,c1,F,_⟩:=å ð (show Õ _ _ _ _ _ _ _ 3 _=Á y1 from b);let⟨M,G,H,_⟩:=å ð (show Õ _ _ _ _ _ _ _ 3 _=Á y2 from c);subst E;subst F;subst H;rw[j]at d;simp only[þ,Ą,DataW.agg.injEq,List.cons.injEq,DataW.lit.injEq,Lit.int.injEq,true_and,and_true]at d;obtain⟨rfl,rfl,rfl⟩:=d;have s:=congrArg (·[0]?) c0;have t:=congrArg (·[0]?) c1;have u:=congrArg (·[0]?) G;simp[List.getElem?_take,List.getElem?_drop]at s t u;exact⟨s,t,u⟩
def aeS(h:∀v∈d.toList,∃k n,v=Ò k n):gA (nA X i) d d:=sR λv a=>by obtain⟨k,n,rfl⟩:=h v a;exact .iL _ _
def auZ{l:List (String×DataW Unit)}(h:ú P l W)(a:(l.filter λx=>x.2.handleName?.isSome)=[]):∃b,DataW.LaidVars P W l b:=by unfold ú at h;rw[a]at h;exact⟨h.choose,h.choose_spec.1⟩
def au0:À.cellsOf 304=32:=fF
def au1:À.cellsOf 305=64:=fF
def au2:À.cellsOf 291=20:=fF
def aeT:À.cellsOf 5=1:=fF
def gn1:À.globalNamed "internal/strconv.uint64pow10"=Á 1:=fF
def gn2:À.globalNamed "attic/attic.stepRules"=Á 2:=fF
def gn3:À.globalNamed "math/bits.deBruijn32tab"=Á 3:=fF
def gn4:À.globalNamed "math/bits.deBruijn64tab"=Á 4:=fF
def So(g:Nat)(t:ĕ)(h:(g,t)∈[(1,291),(2,300),(3,304),(4,305)]):(À.globals[g]?).map (·.type)=Á t/\g<À.globals.size/\(((begin À (λ_ _=>0) default).world.heap[g]?).bind Obj.row?).map (·.2)=Á t:=by
 simp only[ÿ,ñ,or_false,Prod.mk.injEq]at h;rcases h with⟨rfl,rfl⟩|⟨rfl,rfl⟩|⟨rfl,rfl⟩|⟨rfl,rfl⟩
 .exact⟨fF,of_decide_eq_true fF,fF⟩
 .exact⟨fF,of_decide_eq_true fF,fF⟩
 .exact⟨fF,of_decide_eq_true fF,fF⟩
 .exact⟨fF,of_decide_eq_true fF,fF⟩
def au3:Č Unit->Int
 |.lit (.int _ z)=>z
 |_=>0
def aeU:Č Unit->List Int
 |Ĩ l=>l.map au3
 |_=>[]
def au4:(Ç:Č Unit)=ä .u8 (aeU Ç):=rfl
def au5:(È:Č Unit)=ä .u8 (aeU È):=rfl
def au6:(Ð:Č Unit)=ä Ċ Lib.pow10Tab:=rfl
def Yr{k:Ė}:∀v∈(zQ.map λz=>Ò k z).toArray.toList,∃k n,v=Ò k n:=λv a=>by simp only[List.mem_map]at a;obtain⟨z,_,rfl⟩:=a;exact⟨_,_,U⟩
def au7(k:Nat)(h:k<69):∃i j,i<23/\j<3/\k=i*3+j:=⟨k/3,k%3,Z,Z,Z⟩
theorem au8{W:Ö}(hs:W.ShapedOpen À)(hl:ú À Sm W):p9 W:=by
 obtain⟨ps,g3,t3,cs3,f3,p3,q3,Yd,ht3,hv3,vT,⟨g4,t4,cs4,f4,p4,q4,hg4,Lt,hv4,WA,⟨g1,t1,cs1,f1,p1,q1,we,FK,hv1,rD,⟨g2,t2,cs2,f2,p2,q2,Qr,N4,RE,pE,_,_⟩,_⟩,_⟩,_⟩:=auZ hl (by kernel_rfl);obtain⟨y1,s1,z1⟩:=So 1 291 (by simp);obtain⟨y2,s2,z2⟩:=So 2 300 (by simp);obtain⟨y3,s3,z3⟩:=So 3 304 (by simp);obtain⟨y4,s4,z4⟩:=So 4 305 (by simp);obtain⟨c1,b1⟩:=Sn hs 1 291 s1 z1;obtain⟨c2,b2⟩:=Sn hs 2 300 s2 z2;obtain⟨c3,b3⟩:=Sn hs 3 304 s3 z3;obtain⟨c4,b4⟩:=Sn hs 4 305 s4 z4;rw[au4]at vT;rw[au5]at WA;rw[au6]at rD;have e3:=Yq gn3 y3 Tryz.underlying304 ò aeT au0 b3 Yd ht3 hv3 vT;have e4:=Yq gn4 y4 Tryz.underlying305 ò aeT au1 b4 hg4 Lt hv4 WA;have e1:=Yq gn1 y1 Tryz.underlying291 í aeR au2 b1 we FK hv1 rD;obtain rfl:=Î (gn2.symm.trans Qr);obtain rfl:=Î (y2.symm.trans N4);obtain⟨hlen,pT⟩:=auY pE;have e2:=aeQ gn2 b2 RE;subst e2;have aeV:=λi r hr=>by have:=pT i r hr;simpa using this
 have aeW:∀(k:Nat) (v:Å),c2[k]?=Á v->∃(kd:Ė) (n:Int),v=Ò kd n/\kd≠.u8:=λk v hv=>by
  have hk:k<69:=by
   have h0:=(Û.1 hv).1;have h1:c2.size=69:=by simpa using hlen
   omega
  obtain⟨i,j,hi,hj,rfl⟩:=au7 k hk;obtain⟨r,hr⟩:∃r,jN[i]?=Á r:=⟨_,Ë (show i<jN.length from hi)⟩;obtain⟨h0,h1,h2⟩:=aeV i r hr;match j,hj with
  |0,_=>rw[Nat.add_zero,h0]at hv;cases hv;exact⟨_,_,rfl,by decide⟩
  |1,_=>rw[h1]at hv;cases hv;exact⟨_,_,rfl,by decide⟩
  |2,_=>rw[h2]at hv;cases hv;exact⟨_,_,rfl,by decide⟩
 have kV:=(Û.1 b4).1;refine⟨?_,?_,⟨c3,_,b3,Ê _,Ê _,?_,?_⟩,⟨c4,_,b4,Ê _,Ê _,?_,?_⟩,?_,⟨⟨c2,_,b2⟩,λi r hr=> ?_⟩,?_⟩
 .have h5:nB=5:=by kernel_rfl
  omega
 .rintro b (rfl|rfl)
  .refine⟨c1,291,_,b1,Ê _,aeS (by rw[e1];exact Yr),by rw[e1];exact of_decide_eq_true (by kernel_rfl),λk v hv=> ?_,by decide,by decide⟩;rw[e1]at hv;simp only[List.getElem?_toArray,ì,á]at hv;obtain⟨z,_,rfl⟩:=hv;rfl
  .refine⟨c2,300,_,b2,Ê _,aeS λv hv=> ?_,?_,λk v hv=> ?_,by decide,by decide⟩
   .obtain⟨k,hk,e⟩:=List.mem_iff_getElem.1 hv;obtain⟨kd,n,e',_⟩:=aeW k v (by rw[<-e];simp);exact⟨kd,n,e'⟩
   .have h1:c2.size=69:=by simpa using hlen
    omega
   .obtain⟨kd,n,rfl,hn⟩:=aeW k v hv;cases kd<;>first|rfl|exact absurd rfl hn
 .rw[e3];exact of_decide_eq_true (by kernel_rfl)
 .rw[e3];exact Yr
 .rw[e4];exact of_decide_eq_true (by kernel_rfl)
 .rw[e4];exact Yr
 .unfold jr.nW Lib.TabIs Ē;rw[gn1];simp only[ï,b1,e1]
 .obtain⟨h0,h1,h2⟩:=aeV i r hr;exact⟨by simp only[æ,b2];exact h0,by simp only[æ,b2];exact h1,by simp only[æ,b2];exact h2⟩
 .unfold tX;simp only[æ,b4,e4];rfl
end Go.Proofs.Y.nz
namespace Go.Proofs.Y.nz
open Go Go.Conc Go.Proofs Go.RowKit Go.Proofs.Y.Lift Go.Proofs.Y.jr Go.Proofs.Y.fK Go.Proofs.Y.xq
open Go.Proofs.YtgpphkdoanciiaaGreatDoor (Rows.workersSpec Rows.workersRow Rows.WorkersSaid Tryz.pinned)
open Go.ChangeShapes Go.WideShapes Go.ChangeAt
def fD:ownKnob À.godebug=ë:=fF
def au9:laidOutB À=true:=fF
def ava{w':Ö}(h:qf W w')(a:w'.os=W.os)(b:w'.output=W.output):Below W.heap.size W {w' with tape:=W.tape}:=⟨a,U,b,h.fh,h.vd⟩
def avb(os:Os)(a:Array Å):ú À Sm ((World.doorLaid À 400 os).forCall (λ_ _=>0) ⟨#[],a,[]⟩).memory:= laidMetH_of_parts3 (fuel:=8) (laidMet_of_run' 8 fF fF) fF fF
end Go.Proofs.Y.nz
namespace Go.Proofs.Y.nz
open Go Go.Conc Go.Proofs Go.RowKit Go.Proofs.Y.Lift Go.Proofs.Y.jr Go.Proofs.Y.fK Go.Proofs.Y.xq
open Go.Conc.Lib Go.ConcR.Gen Go.Proofs.YtgpphkdoanciiaaGreatDoor
def auQ{α β:Type}(f:α->β)(d:α)(l:List α):((Ñ l.length).map λi=>f<|l.getD i d)=l.map f:=by
 refine List.ext_getElem fB λi b a=> ?_;have h:i<l.length:=by simpa using a
 simp[Ĝ,h]
def avc{s:List gE}{rs:List PR}(h:kl B=(0,0,rs))(e:∀r∈rs,r.c.getD 4 0≠1):uY s B=(rV ⟨#[59]⟩ (rs.map λr=>BA (G2 s)<|toQn r),0,s):=by
 have b:∀p,p<rs.length->qc rs p≠1:=λp a=>e _ (by simp[Ĝ,a]);have d:∀p,p<=rs.length->jq (qc rs) p=[]:=λp a=>by unfold jq;rw[List.filter_eq_nil_iff];intro j f;have:=û.1 f;simpa using b j Z
 have f:pf rs s=rs.map λr=>BA (G2 s) (toQn r):=by rw[<-auQ (λr=>BA (G2 s)<|toQn r) um];unfold pf;refine é λp a=> ?_;have a:=û.1 a;unfold gD BB;rw[d p Z,if_neg<|b p a];rfl
 have j:J0 rs s=s:=by unfold J0 gD;rw[d _<|Nat.le_refl _];rfl
 unfold uY;rw[h];simp only[f,j,if_true]
def akS(a:z8)(I:List Nat)(s:List gE):∀k,∃t,uW a I s k=s++t
 |0=>⟨[],(â s).symm⟩
 |k+1=>by let⟨t,h⟩:=akS a I s k;have e:uW a I s (k+1)=RO (uW a I s k) (a.im<|I.getD k 0):=U;unfold RO tY at e;rw[RN,h,List.append_assoc]at e;exact⟨_,e⟩
def avd(s:List gE)(B:ByteArray):∃t,(uY s B).2.2=s++t:=by
 unfold uY;split
 .exact akS _ _ _ _
 .exact⟨[],(â s).symm⟩
def at6{s t:List gE}(a:0<=c)(h:c.toNat<s.length):np (G2<|s++t) c=np (G2 s) c:=by unfold np;rw[if_neg Z,if_neg Z];unfold G2;rw[List.map_append,Ý (by simpa using h)]
def avO{s t:List gE}{q:Qn}(a:0<=q.v)(h:q.v.toNat<s.length)(b:0<=q.v2)(k:q.v2.toNat<s.length):BA (G2<|s++t) q=BA (G2 s) q:=by
 unfold BA;rw[at6 a h];cases np (G2 s) q.v with
 |none=>rfl
 |some p=>
  simp only[];unfold JF;rw[at6 b k]
def V2(v:Int):List PR:=[⟨[0,0,0,0,6,v,0,0],[]⟩,⟨[0,0,0,0,7,v,0,0],[]⟩,⟨[0,0,0,0,8,v,0,0],[]⟩,⟨[0,0,0,0,3,v,0,0],[]⟩,⟨[1,0,0,0,3,v,0,0],[]⟩,⟨[1,0,0,0,2,v,0,0],[]⟩,⟨[2,0,0,0,2,v,0,1],[]⟩,⟨[0,1,99,7,4,v,0,0],[]⟩,⟨[7,2,0,3,5,v,0,0],[]⟩,⟨[0,0,0,0,9,v,0,0],[]⟩]
def aub(n:List UInt8):List UInt8:=114::(n++59::108::(n++59::117::(n++59::98::(n++58::97::59::98::(n++58::98::59::103::(n++58::98::48::59::103::(n++58::99::49::59::99::(n++58::97::62::98::40::57::57::44::55::41::59::109::(n++58::104::62::99::40::51::41::59::100::(n++[58,48]))))))))))
def uh(v:Nat):ByteArray:=⟨(aub<|Ā v).toArray⟩
def avP:((Ñ 40).map λv=>kl<|uh v)=(Ñ 40).map λv:Nat=>(0,0,V2 v):=fF
def auw(a:i<40):kl (uh i)=(0,0,V2 i):=by have:=congrArg (λl=>l[i]?) avP;simpa[a]using this
def avQ{v:Nat}(a:v<40):(uh v).size<=Ģ:=by
 have h:=auw a;unfold kl at h;split at h
 .cases h
 .exact Â (Nat.le_of_not_lt ‹_›) A
def aeL(s:List gE){v:Nat}(a:v<40):uY s (uh v)=(rV ⟨#[59]⟩ ((V2 v).map λr=>BA (G2 s)<|toQn r),0,s):= avc (auw a)<|by simp[V2]
def avR{s t:List gE}(b:i<s.length)(h:s.length<=40):(uY (s++t)<|uh i).1=(uY s<|uh i).1:=by
 rw[aeL _ Z,aeL _ Z];show rV _ _=rV _ _;congr 1;refine é λr a=> ?_;have:(toQn r).v=i/\(toQn r).v2=0:=by simp only[V2,ÿ,ñ,or_false]at a;rcases a with rfl|rfl|rfl|rfl|rfl|rfl|rfl|rfl|rfl|rfl<;>exact⟨U,U⟩
 exact avO Z Z Z Z
def avS(a:ByteArray)(c:a.size=1):∀b:List ByteArray,jP b+b.length<=(rV a b).size+1
 |[]=>by simp[jP]
 |x::r=>by
  show _<=(x.data.toList++uV a r).toArray.size+1;have d:=Rt a c r;have e:jP (x::r)=x.size+jP r:=by simp[jP]
  have f:x.data.toList.length=x.size:=by rw[ê];rfl
  simp only[Þ,Ä,d,e,f,List.length_cons];omega
def Yp(n:Nat):1<=(iK n).size:=by unfold iK;rw[ģ,Þ,Lib.decDigits_length];exact Lib.nDigits_pos n
def avT(a:ByteArray)(n:Nat)(r:List ByteArray):1<=(rV a<|iK n::r).size:=by show 1<=((iK n).data.toList++uV a r).toArray.size;have:=Yp n;rw[Þ,Ä,ê];exact Â this<|Nat.le_add_right _ _
def avU(n:Nat):(Rz n).size=16:=by have h:=adq n;unfold Rz De;rw[Ø,ą];show min (16-(p8 n).size) 64-0+_=_;omega
def avV{s:List gE}{v:Nat}(a:v<s.length)(h:s.length<=40):30<=(uY s<|uh v).1.size:=by
 rw[aeL _ Z];show 30<=(rV _ _).size;refine Nat.le_of_succ_le_succ<|Â ?_<|avS ⟨#[59]⟩ U _;have b:np (G2 s) v=Á (0,s[v]):=by unfold np;rw[if_neg Z];simp[G2,a]
 simp only[V2,þ,Ą,BA,toQn,List.getD_cons_zero,List.getD_cons_succ,b,JF];simp[jP,avU];have:=Yp<|(s[v].s 0).fH.toNat;have:=Yp<|(s[v].s 1).fH.toNat;have:=Yp<|((s[v].s 1).kY 0).toNat;have:=Yp<|((s[v].s 2).kY 1).toNat;have:=avT ⟨#[44]⟩ (gR s[v].s [] 0 1 99 7).lk.toNat<|iK (gR s[v].s [] 0 1 99 7).ly.toNat::iK (gR s[v].s [] 0 1 99 7).jO.toNat::(gR s[v].s [] 0 1 99 7).ls.map wv;unfold XB;simp only[ó,ø];omega
def yn(d:Nat):ByteArray:=Ę ⟨#[48,49,50,51,52,53,54,55,56,57]⟩ d<|d+1
def avW:(Ñ 10).map yn=(Ñ 10).map λd=>⟨#[UInt8.ofNat<|48+d]⟩:=fF
def aew(h:i<10):yn i=⟨#[UInt8.ofNat<|48+i]⟩:=by have:=congrArg (λl=>l[i]?) avW;simpa[h]using this
def aeO(h:i<10):iK i=yn i:=by unfold iK;rw[Lib.decDigits_one h,aew h]
def auy(h:¬n<10):iK n=iK (n/10)++yn (n%10):=by rw[aew Z];unfold iK;rw[Ā,dif_neg h];apply ā;simp[ã]
noncomputable def aeM:Ĥ:=(Tryz.f21.body.bind jr.mC).getD .skip
def Yg(n:Int)(s:ByteArray)(u:Nat->Å):ě:=⟨#[Ò Ċ n,u 1,u 2,Ã s,u 4,u 5,u 6,u 7,u 8,u 9,u 10,u 11,u 12,u 13,u 14,u 15,u 16,u 17,u 18,u 19,u 20,u 21,u 22,u 23,u 24,u 25,u 26],[]⟩
def Yl(n:Int)(s:ByteArray)(a:ě):Prop:=∃u,a=Yg n s u
def auB{s:ByteArray}(h:i<10)(a:s.size<=20):Ï.wrap ((i:Int)+1)=(i:Int)+1/\Ï.wrap (i:Int)=i/\(0:Int)<=(i:Int)+1/\(i:Int)+1<=10/\(i:Int)<=(i:Int)+1/\((i:Int)+1).toNat=i+1/\¬9223372036854775807<min (i+1) 10-i+s.size:=by rw[ô,ô];omega
section
variable{s:ByteArray}
def avX(u:Nat->Å)(c:n<10)(b:∀a,Yl n s a->H a w):Code.wp À aeM (Exit.then K<|QE 0 H) (Yg n s u) w:=by
 unfold Yg;conv=>arg 2;whnf
 have d:¬(9:Int)<(n:Int):=Z
 go_wp2_with fail
 exact⟨U,b _ (jr.gL _)⟩
def avY(u:Nat->Å)(f:¬n<10)(g:n<18446744073709551616)(h:s.size<=20)(c:∀a,Yl ((n/10:Nat):Int) (yn (n%10)++s) a->K a w):Code.wp À aeM (Exit.then K<|QE 0 H) (Yg n s u) w:=by
 unfold Yg;conv=>arg 2;whnf
 have i:(9:Int)<(n:Int):=Z
 have j:(n:Int).tmod 10=((n%10:Nat):Int):=by rw[Int.tmod_eq_emod_of_nonneg Z];omega
 have k:(n:Int).tdiv 10=((n/10:Nat):Int):=by rw[Int.tdiv_eq_ediv_of_nonneg Z];omega
 have b:=fp c;clear c;have e:n%10<10:=Z
 have l:n/10<18446744073709551616:=Z
 generalize n%10=d at*;generalize n/10=q at*;let⟨m,o,p,r,t,v,x⟩:=auB e (s:=s) Z;go_wp2_with fail;exact b.out _ (jr.gL _)
def DmI(b:ByteArray)(c:Ö)(a:ě)(w:Ö):Prop:=∃(n:Nat) (s:ByteArray),Yl n s a/\n<18446744073709551616/\iK n++s=b/\w=c
def DmE(b:ByteArray)(c:Ö)(a:ě)(w:Ö):Prop:=∃(n:Nat) (s:ByteArray),Yl n s a/\n<10/\yn n++s=b/\w=c
def Q0(a:ě)(_:Ö):Nat:=match a.tmps.getD 0 undef with
 |Ò _ i=>i.toNat
 |_=>0
def acN(b:Yl n s y):Q0 y w=n:=by obtain⟨u,rfl⟩:=b;show(n:Int).toNat=_;simp
def avZ(i:B.size<=20)(a:ě)(w:Ö)(g:DmI B u a w): Code.wp À aeM (Exit.then (λb c=>DmI B u b c/\Q0 b c<Q0 a w)<|QE 0<|DmE B u) a w:=by
 let⟨n,s,e,h,d,f⟩:=g;rw[acN e];obtain⟨b,rfl⟩:=e;have j:(iK n).size+s.size=B.size:=by rw[<-d,Ø]
 by_cases c:n<10
 .exact avX b c λa q=>⟨n,s,q,c,by rwa[<-aeO c],f⟩
 .refine avY b c h Z λa q=>⟨⟨n/10,_,q,Z,?_,f⟩,by rw[acN q];omega⟩;rwa[<-ć,<-auy c]
def av0(n:Nat)(b:n<18446744073709551616)(w:Ö):Calls À 21 #[Ò Ċ n] w λe f=>e=.returned (Ã<|iK n)/\f=w:=by
 have L:∀a,Yl n ⟨#[]⟩ a->Code.wp À (Code.loop aeM) (QE 0<|DmE (iK n) w) a w:=λa g=>
  wp_loop (DmI (iK n) w) Q0 ⟨n,⟨#[]⟩,g,b,Ĉ,U⟩<|avZ<|uS n b
 have H:=fp<|And.intro L<|uS n b;generalize iK n=res at*;clear L;go_enter Tryz.func21,Tryz.ntmps21;go_wp2_with fail;refine Code.wp_mono (Q:=QE 0<|DmE res w) ?_ (H.out.1 _ (jr.gL _));rintro(_|_|_|_|_|_) a v hq;all_goals first|exact absurd hq id|skip
 obtain⟨rfl,d,s,h,i,c,rfl⟩:=hq;obtain⟨u,rfl⟩:=h;unfold Yg;have j:(yn d).size+s.size=res.size:=by rw[<-c,Ø]
 have l:=H.out.2;let⟨m,o,p,q,r,t,x⟩:=auB i (s:=s) Z;have k:=fp c;clear j c;go_wp2_with fail;go_ret;exact⟨by rw[<-k.out];rfl,U⟩
end
def av1{v:Nat}(h:v<100):(iK v).size=1\/(iK v).size=2:=by
 by_cases q:v<10
 .rw[aeO q,aew q];exact É U
 .rw[auy q,aeO Z,aew Z,aew Z];exact ē U
def av2{v:Nat}(d:v<40)(w:Ö):Calls À 23 #[Ò Ï v] w λe a=>e=.returned (Ã<|uh v)/\a=w:=by
 have f:Ċ.wrap (v:Int)=v:=by rw[ĝ];omega
 have H:=fp<|av0 v Z w;rcases av1 (v:=v) Z with c|c;all_goals
  go_enter Ď,Tryz.ntmps23;go_wp2_with (go_at_call 21;apply H.out.mono;rintro e a ⟨rfl,b⟩;subst a);go_ret;refine⟨congrArg (λb=>Ending.returned<|Ã b)<|ā ?_,U⟩;simp[uh,aub,iK,ã]
def av3{l:fj}(c:kr l)(e:nB<=l.w.heap.size){v:Nat}(f:v<40)(a:Ă)(b:List Ă): fK.fA À true (λh u=>mK l h/\h.d=l.d/\u=G (a.finish<|Ã<|uh v) b) l (G (ç À 23 #[Ò Ï v] .normal)<|a::b):= quiet_way c e gG (λu h=>by simp at h;subst h;exact .iL _ _) (λh=>by cases h;rfl) (av2 f) true a b
section
variable{jm l c:fj}{x nx:Nat}{s t:List gE}{sl kv u:Å}{V:Nat->Prop}{xs:List Å}{cs:List Ă}{rest:List Nat}{k:List Item}
def oK.av4(h:oK l x n s sl V)(a:∀b,l.O b->¬X b->c.O b/\c.w.heap[b]?=l.w.heap[b]?)(d:∀b,X b->¬V b/\b≠x/\¬(b=1\/b=2\/b=3\/b=4))(f:nB<=c.w.heap.size):oK c x n s sl V:=by have g:=λb q=>a b (h.g4 b q) λe=>(d b e).2.2 q;have v:=λb q=>a b (h.vO b q) λe=>(d b e).1 q;have o:=a x h.fD λe=>(d x e).2.1 U;exact⟨h.uX.kZ f λb q=>(g b q).2,λb q=>(g b q).1,h.Hc.kZ o.2,o.1,h.rd.kZ λb q=>(v b q).2,λb q=>(v b q).1,h.nV,h.n1,h.n8,h.ng⟩
def av5(h:gU X l c)(a:kr l):kr c:= ⟨h.gk a.gk,h.d.trans a.d,by rw[h.q];exact a.q,by rw[h.Rd];exact a.rd,by rw[h.Oc];exact a.oc,by rw[h.Rc];exact a.rc,by rw[h.K];exact a.k⟩
structure ny(jm l:fj)(x nx:Nat)(s:List gE)(kv:Å)(xs:List Å):Prop where
 a:∃sl V,oK l x nx s sl V/\(∀b,V b->(b=1\/b=2\/b=3\/b=4)\/jm.w.heap.size<=b)/\∀k,kv.ownBlock=Á k->¬V k
 fi:∀b,jm.O b->l.O b/\l.w.heap[b]?=jm.w.heap[b]?
 aeJ:∀b,b=1\/b=2\/b=3\/b=4->b<jm.w.heap.size
 xn:jm.w.heap.size<=x
 fh:jm.w.heap.size<=l.w.heap.size
 jf:l.w.ownsRow 0 9 1 kv xs.length xs
 rO:∀k,kv.ownBlock=Á k->l.O k/\jm.w.heap.size<=k/\k≠x
def ny.gf(h:ny jm l x nx s kv xs)(d:∀b,l.O b->c.O b/\c.w.heap[b]?=l.w.heap[b]?)(f:l.w.heap.size<=c.w.heap.size):ny jm c x nx s kv xs:=by let⟨sl,V,g,i⟩:=h.a;exact⟨⟨sl,V,g.gf (λb q=>(d b q).1) (λb q=>(d b q).2) f,i⟩,λb q=>⟨(d b (h.fi b q).1).1,(d b (h.fi b q).1).2.trans (h.fi b q).2⟩,h.aeJ,h.xn,Â h.fh f,rP h.jf λk e=>(d k (h.rO k e).1).2,λk e=>⟨(d k (h.rO k e).1).1,(h.rO k e).2⟩⟩
def ny.fZ(h:ny jm l x nx s kv xs){w₁:Ö}(r:fU l l.w w₁):ny jm {l with w:=w₁} x nx s kv xs:= h.gf (λb q=>⟨q,r.fu b<|É q⟩) r.fh
def ny.fG(h:ny jm l x nx s kv xs):nB<=l.w.heap.size:=by let⟨_,_,a,_⟩:=h.a;exact a.uX.fG
def ny.st(h:ny jm l x nx s kv xs):ow s:=by let⟨_,_,a,_⟩:=h.a;let⟨_,_,q,_⟩:=a.rd;exact q
def auH(h:ny jm l x nx s kv xs)(o:ic jm)(g:kr l)(p:B.size<=Ģ) (r:∀c,kr c->ny jm c x nx (uY s B).2.2 kv xs->kR vQ c (G (f.at (y.put ((Q[i]?).bind (·.dst))<|.tuple #[Ã (uY s B).1,Ò Ï (uY s B).2.1])<|Ğ Q rest::k) cs)): kR vQ l (G (ç À 17 #[Ü<|Á ⟨x,0,ë⟩,Ã B] .normal)<|f.at y (Ğ Q (i::rest)::k)::cs):=by
 let⟨sl,V,t,u,v⟩:=h.a;refine aeA g t p (λ_=>aeE h.st) λc j ⟨d,w,C,m,n⟩=>r c j ⟨⟨w,C,m,λb q=> ?_,λk e q=> ?_⟩,λb q=> ?_,h.aeJ,h.xn,?_,rP h.jf λk e=>(d k (h.rO k e).1 (h.rO k e).2.2).2,λk e=>⟨(d k (h.rO k e).1 (h.rO k e).2.2).1,(h.rO k e).2⟩⟩
 .rcases n b q with z|z|z
  .exact u b z
  .exact É z
  .exact ē<|Â h.fh z
 .rcases n k q with z|z|z
  .exact v k e z
  .have:=h.aeJ k z;have:=(h.rO k e).2.1;omega
  .have:=g.gk.fG k<|É (h.rO k e).1;omega
 .have H:=o.fG b<|É q;have I:=h.xn;let⟨z,D⟩:=h.fi b q;let⟨E,F⟩:=d b z Z;exact⟨E,F.trans D⟩
 .have:=j.gk.fG x<|É m.fD;have:=h.xn;omega
def ny.wy(h:ny jm l x nx s kv xs)(p:ic jm)(f:kr l){ob:Obj}{d:Ö}(r:fU l l.w W)(j:fU (iM l W ob) (iM l W ob).w jX)(t:d.ownsRow 0 9 1 v (xs.length+1) (xs++[u]))(y:jX.grownBy d kv.ownBlock)(B:∀k,v.ownBlock=Á k->(o0 (iM l W ob) jX d).O k)(C:v.ownBlock=kv.ownBlock\/v.ownBlock=Á jX.heap.size): kr (o0 (iM l W ob) jX d)/\ny jm (o0 (iM l W ob) jX d) x nx s v (xs++[u]):=by
 have g:=qT (X:=λb=>Á b=kv.ownBlock) (ob:=ob) f.gk r;have c:gU (λb=>Á b=kv.ownBlock) l (o0 (iM l W ob) jX d):=g.fl (Vf (g.gk f.gk) j y λk e=>⟨g.O k (h.rO k e).1,e.symm⟩);let⟨sl,V,i,D,m⟩:=h.a;have F:=f.gk.fG x<|É i.fD;have G:l.w.heap.size<=jX.heap.size:=Â g.fh j.fh;have n:∀k,v.ownBlock=Á k->kv.ownBlock=Á k\/k=jX.heap.size:=λk e=>by
  rcases C with z|z
  .exact É<|z.symm.trans e
  .exact ē<|Î<|e.symm.trans z
 refine⟨av5 c f,⟨sl,V,i.av4 (λb q z=>⟨c.O b q,c.fu b (É q) z⟩) (λb e=>⟨m b e.symm,(h.rO b e.symm).2.2,λq=> ?_⟩)<|Â i.uX.fG c.fh,D,λk e q=> ?_⟩,λb q=> ?_,h.aeJ,h.xn,Â h.fh c.fh,?_,λk e=>⟨B k e,?_⟩⟩
 .have:=h.aeJ b q;have:=(h.rO b e.symm).2.1;omega
 .rcases n k e with z|z
  .exact m k z q
  .have:=f.gk.fG k<|É<|i.vO k q;omega
 .let⟨o,E⟩:=h.fi b q;refine⟨c.O b o,(c.fu b (É o) λe=> ?_).trans E⟩;have:=(h.rO b e.symm).2.1;have:=p.fG b<|É q;omega
 .rwa[Ä]
 .rcases n k e with z|z
  .exact(h.rO k z).2
  .have:=h.fh;exact⟨Z,Z⟩
end
noncomputable def aeK:Ĥ:=rL ù [1,1,1,1,0,1,0,0]
noncomputable def akR:Ĥ:=rL ù [1,1,1,1,1]
noncomputable def auI:Ĥ:=rL ù [1,1,1,1,0,1,0,0,1,1]
noncomputable def aeN:Ĥ:=rL ù [1,1,1,1,0,1,0,0,1,0,0,1,1,0,1,0,0]
noncomputable def auK:Ĥ:=rL ù [1,1,1,1,0,1,0,0,1,0,0,1,1,1]
noncomputable def J5 (a:Array Å):Goroutine:=G ((base 6).at ⟨a,[]⟩<|ď aeK::ę aeK::[ü 0,ď akR]) []
noncomputable def Sk (a:Array Å):Goroutine:=G ((base 6).at ⟨a,[]⟩<|ď aeN::ę aeN::[ü 2,ď auK,ü 1,ď auI,ę aeK,ü 0,ď akR]) []
structure FF(bv kv:Å)(x:Nat)(i:Int)(tt:Array Å):Prop where
 fh:tt.size=85
 t0:tt[0]?=Á bv
 t5:tt[5]?=Á (Ü<|Á ⟨x,0,ë⟩)
 t6:tt[6]?=Á kv
 t7:tt[7]?=Á (Ò Ï i)
structure GF(bv kv:Å)(x:Nat)(i n v:Int)(tt:Array Å):Prop where
 f:FF bv kv x i tt
 t8:tt[8]?=Á (Ò Ï n)
 t9:tt[9]?=Á (Ò Ï v)
section
variable{d l:fj}{x c v:Nat}{s t:List gE}{kv:Å}{xs:List Å}{f:Nat->ByteArray}{tt:Array Å}
def av6(h:ny d l x b s kv xs)(f:kr l)(a:FF (Í O j c) kv x (j+1:Nat) tt) (i:∀e,kr e->ny d e x b s kv xs->vQ (Đ true) e.w):kR vQ l (J5 tt):=by
 have hF:True:=trivial;obtain⟨u,rfl⟩:=arrU tt a.fh;have k:u 0=Í O j c:=by simpa using a.t0
 have m:u 7=Ò Ï ((j:Int)+1):=by simpa using a.t7
 clear a;have o:¬(j:Int)+1<=(j:Int):=Z
 apply atS;apply gZ (n:=60) f.gk.lw;simp only[J5,Ñ,Ú,ý,k,m];conv in aeK=>whnf
 conv in akR=>whnf
 repeat w_go fS
 refine Æ λ_ _=> ?_;exact .fO λp g=>⟨U,Đ true,λw=>auJ (t:=4) U U Ĕ U fF,i _ (f.fZ g)<|h.fZ g⟩
def av7(h:ny d l x b s kv xs)(g:kr l)(e:FF (Í O j c) kv x i tt)(G:i<=j)(H:xs.length<=s.length) (y:∀k p,kr k->ny d k x b s kv xs->GF (Í O j c) kv x i s.length 0 p->kR vQ k (Sk p)):kR vQ l (J5 tt):=by
 have hF:True:=trivial;have m:=h.st;let⟨z,B,q⟩:=kX h.jf;obtain⟨u,rfl⟩:=arrU tt e.fh;have C:u 0=Í O j c:=by simpa using e.t0
 have D:u 5=Ü (Á ⟨x,0,ë⟩):=by simpa using e.t5
 have E:u 6=Í z xs.length B:=by rw[<-q];simpa using e.t6
 have F:u 7=Ò Ï i:=by simpa using e.t7
 clear e;have I:(i:Int)<=(j:Int):=Z
 have J:¬(s.length:Int)<(xs.length:Int):=Z
 have K:¬(40:Int)<(s.length:Int):=by have:=m.le;omega
 have L:¬(s.length:Int)<1:=by have:=m.RF;omega
 clear m;apply wG;apply gZ (n:=60) g.gk.lw;simp only[J5,Ñ,Ú,ý,C,D,E,F];conv in aeK=>whnf
 repeat w_go fS
 refine Æ λ_ _=> ?_;refine Dt (f:=22) (args:=#[Ü<|Á ⟨x,0,ë⟩]) U gG (by k_ne) g.gk.lw (λw=>by go_simp) (λw=>Ó U Tryz.func22 U U #[]) λM r=> ?_;have w:=g.fZ r;have t:=h.fZ r;let⟨N,V,v,_⟩:=t.a;apply Yo w v;clear v;walk_nrm;apply gZ (n:=60) w.gk.lw;repeat w_bar fS
 w_go fS
 refine Æ λ_ _=> ?_;exact .fO λP o=>⟨w.fZ o,U,y _ _ (w.fZ o) (t.fZ o) ⟨⟨U,U,U,by rw[q];rfl,U⟩,U,U⟩⟩
end
def av8(S:ByteArray)(w:Ö):Sem.events À (Builtin.len_ #[9] 3 #[Ã S]) w #[]=#[]:=fF
section
variable{a l:fj}{x c v:Nat}{s t:List gE}{xs:List Å}{f:Nat->ByteArray}
def av9(h:ny a l x j s z xs)(Q:ic a)(D:kr l)(r:GF (Í O n c) z x i s.length v d)(hv:v<s.length)(T:∀(m:Nat) (y:Å),xs[m]?=Á y->y=Ã (uY s<|uh m).1)(hvx:v<=xs.length) (C:∀E W F Y,kr E->ny a E x j s F Y->Y=(if v<xs.length then xs else xs++[Ã (uY s<|uh v).1])->GF (Í O n c) F x i s.length (v+1:Nat) W->kR vQ E (Sk W)):kR vQ l (Sk d):=by
 have hF:True:=trivial;have h40:=h.st.le;have G:=fp (show v<xs.length->xs[v]?=Á (Ã (uY s<|uh v).1)from λq=>by rw[Ë q];exact congrArg Á<|T v _<|Ë q);clear T;let⟨H,ck,t⟩:=kX h.jf;obtain⟨u,rfl⟩:=arrU d r.f.fh;have e0:u 0=Í O n c:=by simpa using r.f.t0
 have e5:u 5=Ü (Á ⟨x,0,ë⟩):=by simpa using r.f.t5
 have e6:u 6=Í H xs.length ck:=by rw[<-t];simpa using r.f.t6
 have e7:u 7=Ò Ï i:=by simpa using r.f.t7
 have e8:u 8=Ò Ï s.length:=by simpa using r.t8
 have e9:u 9=Ò Ï v:=by simpa using r.t9
 clear r;have h1:(v:Int)<(s.length:Int):=Z
 apply wG;apply gZ (n:=60) D.gk.lw;simp only[Sk,Ñ,Ú,ý,e0,e5,e6,e7,e8,e9];conv in aeN=>whnf
 repeat w_go fS
 refine Æ λ_ _=> ?_;refine Dt (f:=23) (args:=#[Ò Ï v]) U gG (by k_ne) D.gk.lw (λw=>by go_simp) (λw=>Ó U Ď U U #[]) λw₁ rC=> ?_;have I:=D.fZ rC;have J:=h.fZ rC;refine fK.fA.oM ?_<|av3 I J.fG (v:=v) Z _ _;rintro l2 g2 ⟨B,hd,rfl⟩;have K:=mK.kq I B hd;have k2:=J.gf (λb q=>⟨B.O b q,B.gy.fu b<|É q⟩) B.gy.fh;clear B hd J I h;rw[Frame.finish_at];walk_nrm;refine .fO λAZ L=>⟨K.fZ L,U,?_⟩;have M:=K.fZ L;have k3:=k2.fZ L;refine J3 (f:=17) (args:=#[Ü<|Á ⟨x,0,ë⟩,Ã<|uh v]) M U gG (by k_ne) (λw=>by go_simp) (λw=>Ó U đ U U #[]) λaeG FZ=> ?_;refine auH (k3.fZ FZ) Q (M.fZ FZ) (avQ Z) λl5 b o=> ?_;obtain⟨S,hS⟩:∃S,uY s (uh v)=(S,0,s):=⟨_,aeL s Z⟩;have h30:=avV hv h40;rw[hS]at C G h30 o|-;dsimp only at C G h30 o|-;have h2:¬(S.size:Int)<30:=Z
 clear k3 k2 M K;walk_nrm;apply wG;apply gZ (n:=80) b.gk.lw;repeat w_nl fS
 refine Æ λ_ _=> ?_;apply ym (v:=Ò Ï S.size) U gG (by k_ne) b.gk.lw b.q (λw _=>by go_simp) (λw _ e k=>by simp[go_sem,av8]at k);walk_nrm;by_cases N:v<xs.length
 .have h3:(v:Int)<(xs.length:Int):=Z
  have h4:¬(xs.length:Int)<=(v:Int):=Z
  have h5:(0:Int)<=(v:Int):=Z
  obtain⟨k,rfl⟩:∃k,H=Á ⟨k,0,ë⟩:=by
   rcases o.jf.2 with⟨e,p⟩|⟨g,_,_,e,_⟩
   .omega
   .rw[t]at e;cases e;exact⟨g,U⟩
  have p:z.ownBlock=Á k:=by rw[t];rfl
  have P:l5.w.cell? ⟨k,v,ë⟩=Á (Ã S):=by have q:=o.jf.cells p v _<|G.out N;rwa[Addr.add_lit,Nat.zero_add]at q
  have hO5:=(o.rO k p).1;apply gZ (n:=80) b.gk.lw;repeat w_nl fS
  refine Æ λ_ _=> ?_;apply qN (x:=⟨k,v,ë⟩) (v:=Ã S) U gG (by k_ne) b.gk.lw b.q (É<|É hO5) P (λw h=>by go_simp) (λw h=>by simp[go_sem,h]);walk_nrm;apply gZ (n:=80) b.gk.lw;repeat w_nl fS
  w_go fS
  refine Æ λ_ _=> ?_;refine .fO λauM g=>⟨b.fZ g,U,C _ _ _ _ (b.fZ g) (o.fZ g) (if_pos N).symm ⟨⟨U,U,U,by rw[t];rfl,U⟩,U,?_⟩⟩;simp;exact IntWalk.i64_in _ ⟨Z,Z⟩
 .have h3:¬(v:Int)<(xs.length:Int):=Z
  have h4:(xs.length:Int)<=(v:Int):=Z
  apply gZ (n:=80) b.gk.lw;repeat w_nl fS
  refine Æ λ_ _=> ?_;refine uI (V:=λp=>Í (Á ⟨p,0,ë⟩) 1 1) (ob:=.cells #[Ã S] 9) U U (by k_ne) b.gk.lw b.q (λw=>by go_simp) (λw=>by simp[go_sem]) λP PN=> ?_;walk_nrm;have p:=qT (X:=λ_=>False) (ob:=.cells #[Ã S] 9) b.gk PN;have p6:jh (iM l5 P<|.cells #[Ã S] 9) P.heap.size (.cells #[Ã S] 9):=⟨ē U,fK.qy⟩;have hi9:À.info? 9=Á Ě:=Tryz.type9;refine abe (v:=Í H xs.length ck) (us:=[Ã S]) (px:=P.heap.size) (c:=1) (n:=xs.length) (xs:=xs) (inf:=Ě) (z:=Ã ⟨#[]⟩) U U (by k_ne) (p.gk b.gk) (by rw[p.q];exact b.q) U U U Tryz.underlying25 hi9 U U Nat.one_pos U U (by simp[Ě];omega) (by simp only[Ģ];omega) (t▸rP o.jf λk e=>p.fu k (É (o.rO k e).1) id) (t▸λk e=>p.O k (o.rO k e).1) p6.fD (one_at<|p6.fg U) (λ_ k=>List.mem_singleton.1 k▸rfl) λauM F akY g wR LN zM uJ=> ?_;let⟨k,k8⟩:=o.wy Q b PN g wR (t▸LN) zM<|t▸uJ;walk_nrm;apply gZ (n:=80) k.gk.lw;repeat w_nl fS
  w_go fS
  refine Æ λ_ _=> ?_;refine .fO λF6 e=>⟨k.fZ e,U,C _ _ _ _ (k.fZ e) (k8.fZ e) (if_neg N).symm ⟨⟨U,U,U,U,U⟩,U,?_⟩⟩;simp;exact IntWalk.i64_in _ ⟨Z,Z⟩
end
section
variable{a l:fj}{x v:Nat}{s t:List gE}{g:List Å}{f:Nat->ByteArray}
def awc(h:ny a l x b s z g)(I:ic a)(k:kr l)(r:Dw a O n f)(c:GF (Í O n j) z x i s.length s.length d)(hi:i<=n)(hN:n<10^13) (y:∀m B C,kr m->ny a m x b C z g->(∃t,C=s++t)->FF (Í O n j) z x (i+1:Nat) B->kR vQ m (J5 B)):kR vQ l (Sk d):=by
 have hF:True:=trivial;obtain⟨u,rfl⟩:=arrU d c.f.fh;have J:u 0=Í O n j:=by simpa using c.f.t0
 have K:u 5=Ü (Á ⟨x,0,ë⟩):=by simpa using c.f.t5
 have L:u 6=z:=by simpa using c.f.t6
 have M:u 7=Ò Ï i:=by simpa using c.f.t7
 have N:u 8=Ò Ï s.length:=by simpa using c.t8
 have P:u 9=Ò Ï s.length:=by simpa using c.t9
 clear c;have D:Ï.wrap ((i:Int)+1)=((i+1:Nat):Int):=IntWalk.i64_in _ ⟨Z,Z⟩;apply wG;apply gZ (n:=60) k.gk.lw;simp only[Sk,Ñ,Ú,ý,J,K,L,M,N,P];conv in aeN=>whnf
 conv in auK=>whnf
 conv in auI=>whnf
 by_cases F:i<n
 .have Q:(i:Int)<(n:Int):=Z
  have h5:(0:Int)<=(i:Int):=Z
  obtain⟨T,V,W,rfl,_,_⟩:=r i F;let⟨_,rb',ro',e,X,Y⟩:=(r.gf h.fi) i F;cases e;repeat w_nl fS
  refine Æ λ_ _=> ?_;apply qN (x:=⟨V,W+i,ë⟩) (v:=Ã<|f i) U gG (by k_ne) k.gk.lw k.q (É<|É X) Y (λw h=>by go_simp) (λw h=>by simp[go_sem,h]);walk_nrm;refine .fO λw₁ o=>⟨k.fZ o,U,?_⟩;have G:=k.fZ o;have k1:=h.fZ o;refine J3 (f:=17) (args:=#[Ü<|Á ⟨x,0,ë⟩,Ã<|f i]) G U gG (by k_ne) (λw=>by go_simp) (λw=>Ó U đ U U #[]) λs5 H=> ?_;refine auH (k1.fZ H) I (G.fZ H) T λl3 p k3=> ?_;have awd:=avd s<|f i;generalize(uY s<|f i).1=A;generalize(uY s<|f i).2.1=E;walk_nrm;apply wG;apply gZ (n:=60) p.gk.lw;repeat w_nl fS
  w_go fS
  refine Æ λ_ _=> ?_;refine .fO λaeG w=>⟨p.fZ w,U,y _ _ _ (p.fZ w) (k3.fZ w) awd ⟨U,U,U,U,?_⟩⟩;simp[D]
 .have Q:¬(i:Int)<(n:Int):=Z
  repeat w_nl fS
  w_go fS
  refine Æ λ_ _=> ?_;refine .fO λaeG w=>⟨k.fZ w,U,y _ _ _ (k.fZ w) (h.fZ w) ⟨[],(â s).symm⟩ ⟨U,U,U,U,?_⟩⟩;simp[D]
end
def Ym(s:List gE)(a:List Å):Prop:=a.length<=s.length/\∀(j:Nat) (y:Å),a[j]?=Á y->y=Ã (uY s<|uh j).1
def Ym.J6{s:List gE}(h:Ym s l)(a:s.length<=40)(t:List gE):Ym (s++t) l:= ⟨by rw[Ä];have:=h.1;omega,λj y e=>by have b:=(Ô.1 e).1;rw[avR (Nat.lt_of_lt_of_le b h.1) a];exact h.2 j y e⟩
section
variable{a l:fj}{c:Nat}{s:List gE}{f:Nat->ByteArray}
def auL(w:ic a)(D:Dw a O n f)(E:i<=n)(F:n<10^13) (G:∀o p r k g,kr o->ny a o j b r k g->(∃t,r=s++t)->Ym s g->FF (Í O n c) k j (i+1:Nat) p->kR vQ o (J5 p)): ∀(m v:Nat) (l:fj) (k:Å) (g:List Å) (u:Array Å),s.length-v=m->v<=s.length->ny a l j b s k g->kr l->Ym s g->v<=g.length->GF (Í O n c) k j i s.length v u->kR vQ l (Sk u)
 |0,v,l,k,g,u,hm,hv,h,hb,ht,hvx,hT=>by
  obtain rfl:v=s.length:=Z
  exact awc h w hb D hT E F λo p r x B q C=>G o p r k g x B q ht C
 |m+1,v,l,k,g,u,hm,hv,h,hb,ht,hvx,hT=>av9 h w hb hT Z ht.2 hvx λo p H I x B e C=>by
  refine auL w D E F G m (v+1) o H I p Z Z B x ?_ ?_ C
  .rw[e];split
   .exact ht
   .refine⟨by rw[Ä,Ù];omega,λd y q=> ?_⟩;rcases Nat.lt_or_ge d g.length with z|z
    .rw[Ý z]at q;exact ht.2 d y q
    .have J:=(Ô.1 q).1;rw[Ä,Ù]at J;obtain rfl:d=v:=Z
     obtain rfl:g.length=d:=Z
     rw[List.getElem?_concat_length]at q;exact(Î q).symm
  .rw[e];split
   .omega
   .rw[Ä,Ù];omega
def auN(v:ic a)(x:Dw a O n f)(y:n<10^13)(z:∀d s e g,kr d->ny a d j b s e g->vQ (Đ true) d.w): ∀(m i:Nat) (l:fj) (s:List gE) (e:Å) (g:List Å) (p:Array Å),n+1-i=m->i<=n+1->ny a l j b s e g->kr l->Ym s g->FF (Í O n c) e j i p->kR vQ l (J5 p)
 |0,i,l,s,e,g,p,hm,hi,h,hb,ht,hT=>by
  obtain rfl:i=n+1:=Z
  exact av6 h hb hT λd k o=>z d s e g k o
 |m+1,i,l,s,e,g,p,hm,hi,h,hb,ht,hT=>av7 h hb hT Z ht.1 λd r k o u=>
  auL v x Z y (λd r E B C k o q D u=>by obtain⟨t,rfl⟩:=q;exact auN v x y z m (i+1) d _ B C r Z Z o k (D.J6 h.st.le t) u) _ 0 d e g r U (Ê _) o k ht (Ê _) u
end
section
variable{l:fj}{c:Nat}{f:Nat->ByteArray}
def awe(m:kr l)(u:p9 l.w)(p:∀b,b=1\/b=2\/b=3\/b=4->l.O b)(D:Dw l O n f)(E:n<10^13)(o:Int)(F:-9223372036854775808<=o)(H:o<=9223372036854775807) (I:∀d,kr d->(∀b,l.O b->d.O b/\d.w.heap[b]?=l.w.heap[b]?)->l.w.heap.size<=d.w.heap.size->vQ (Đ true) d.w): kR vQ l (G (ç À 6 #[Í O n c,Ò Ï o] .normal) []):=by
 have hF:True:=trivial;rw[enter_rep [_,_] 83 Ĕ];simp only[List.replicate,ó,ø];conv in rL _ _=>whnf
 apply wG;apply gZ (n:=40) m.gk.lw;repeat w_go fS
 refine Æ λ_ _=> ?_;refine .fO λN r=>⟨m.fZ r,U,?_⟩;have B:=m.fZ r;refine J3 (f:=15) (args:=#[Ò Ï o]) B U gG (by k_ne) (λw=>by go_simp) (λw=>Ó U Tryz.func15 U U #[]) λC h=> ?_;have i:fU l l.w C:=r.fl ⟨h.fh,h.fu,h.fg,h.fC,h.ia⟩;refine aeF (B.fZ h) (u.kZ (Â u.fG i.fh) λb q=>i.fu b<|É<|p b q) p o F H λJ x K L V g a=> ?_;have P:=g.gk.fG x<|É a.Hd.fD;have Q:C.heap.size<=x:=a.fN;have M:ny l J x K [jr.pd] (Í ë 0 0) []:=⟨⟨L,V,a.Hd,λb q=>(a.Yn b q).imp id λz=>Â i.fh z,λk e=>by cases e⟩,λb q=>⟨(a.fi b q).1,(a.fi b q).2.trans<|i.fu b<|É q⟩,λb q=>m.gk.fG b<|É<|p b q,Â i.fh a.fN,Â i.fh Z,⟨rfl,É ⟨rfl,rfl⟩⟩,λk e=>by cases e⟩;clear a;walk_nrm;apply wG;apply gZ (n:=40) g.gk.lw;repeat w_go fS
 refine Æ λ_ _=> ?_;apply ym (v:=Đ false) U gG (by k_ne) g.gk.lw g.q (λw _=>by go_simp) (λw _ e j=>by simp[go_sem,Yj]at j);walk_nrm;apply gZ (n:=60) g.gk.lw;repeat w_bar fS
 w_go fS
 refine Æ λ_ _=> ?_;exact .fO λT t=>⟨g.fZ t,U,auN m.gk D E (λd s W X y j=>I d y j.fi j.fh) (n+1) 0 _ _ _ _ _ Z (Ê _) (M.fZ t) (g.fZ t) ⟨Ê _,λj y e=>by cases e⟩ ⟨rfl,rfl,rfl,rfl,rfl⟩⟩
end
def awf(d:p9 W){N c:Nat}{f:Nat->ByteArray}(e:Dw (Sl W) O N f)(g:N<10^13)(a:Int)(h:-9223372036854775808<=a)(i:a<=9223372036854775807): wF (λv w'=>v=Đ true/\qf W w') #[G (ç À 6 #[Í O N c,Ò Ï a] .normal) []] W ë #[]:= auO (l:=Sl W) (awe (aeP W) d (auP d) e g a h i λk _ v j=>⟨U,λb q=>(v b q).2,j⟩) (aeP W) U
end Go.Proofs.Y.nz
