import Derived.Test.YtgpphkdoanciiaaGreatDoorWAE
import Derived.Lib.LaidTab
import Derived.OpenShut
import Derived.Test.YtgpphkdoanciiaaGreatDoorRows
import Derived.Conc.LeavingOf
import Derived.LaidMore
import Derived.Stop.Joined
import Derived.Carry
set_option linter.all false
set_option maxRecDepth 1000000
set_option maxHeartbeats 8000000
open Go.Proofs.Tryz renaming prog->À,underlying36->ë,underlying3->í,underlying5->ï,f6->ô,func23->Ċ,func17->č,func6->ď,t9->ĕ
open Option renaming some->Á,map_eq_some_iff->à,none->é
open Nat renaming le_trans->Â,zero_le->É
open Go.Value renaming string->Ã,slice->Í,int->Ñ,pointer->Û,bool->Č
open List renaming length_append->Ä,getElem?_eq_getElem->Ê,range->Ð,getElem?_eq_some_iff->Ó,length_singleton->Ø,getElem?_append_left->Ü,size_toArray->Ý,take->Þ,drop->ß,append_nil->á,map_congr_left->ç,getElem?_map->ê,not_mem_nil->î,cons_append->ð,nil_append->ó,mem_range->ö,map->ù,map_cons->ú,mem_cons->û,map_nil->Ā,getD->ė
open Go renaming Value->Å,World->Ù,laidMetH->õ,Frame->þ,DataW->Ĉ,TypeId->Đ,IntKind->đ,Act->Ė,maxLen->ĝ,Code->ğ
open Go.Conc.Goes renaming stop->Æ
open Go.Proofs.YtgpphkdoanciiaaGreatDoor.Rows renaming laid_math_bits_deBruijn32tab->Ç,laid_math_bits_deBruijn64tab->È,laid_attic_attic_stepRules->Ì,laid_internal_strconv_uint64pow10->Ï
open Or renaming inl->Ë,inr->Ġ
open Go.IntKind renaming i64->Î,wrap_i64->Ę,u64->ģ
open Go.Conc renaming events_call_body->Ò
open Option.some renaming inj->Ô,injEq->Ē
open Go.DataW renaming trod->Õ,trod_int->ã,agg->ĥ
open ByteArray renaming size_append->Ö,ext->ý,size_extract->ā,append_assoc->ă,append_empty->Ą,data_append->Ć,extract->ē,size->Ğ
open List.range renaming loop->Ú
open Go.Lib renaming tabData->â,decDigits->ü
open Go.World renaming cell?->ä,var?->Ď
open Go.Frame renaming enter->å
open Go.Item renaming inBlock->ø,code->ċ,inLoop->Ĕ,inRegion->ę
variable{i n j b k m J j9 j7 j6:Nat}{w u W jX:Ù}{v x z jQ:Å}{h c:Int}{e t T:Đ}{d q:Array Å}{P:Go.Program}{y:Ė}{B:ByteArray}{X:Nat->Prop}{O:Option Go.Addr}{l:List Å}{K H:Ė->Ù->Prop}{jJ:List Nat}{qX:List þ}{zQ:List Int}{xJ:Nat×Nat}{vQ:Å->Ù->Prop}{Q:Array Go.Oper}{f:þ}
namespace Go.Proofs.Y.me
open Go Go.Conc Go.Proofs Go.RowKit Go.Proofs.Y.Lift Go.Proofs.Y.iw Go.Proofs.Y.fA Go.Proofs.Y.vq
open Go.Proofs.YtgpphkdoanciiaaGreatDoor (Rows.laid_math_bits_deBruijn32tab Rows.laid_math_bits_deBruijn64tab Rows.laid_internal_strconv_uint64pow10 Rows.laid_attic_attic_stepRules)
def Mp:List (String×DataW Unit):=[("math/bits.deBruijn32tab",Ç),("math/bits.deBruijn64tab",È),("internal/strconv.uint64pow10",Ï),("attic/attic.stepRules",Ì)]
theorem Mq(h:W.ShapedOpen À)(g:Nat)(t:Đ)(b:g<À.globals.size)(e:(((begin À (λ_ _=>0) default).world.heap[g]?).bind Obj.row?).map (·.2)=Á t): ∃a,W.heap[g]?=Á (.cells a t):=by let⟨⟨z,c⟩,d,f⟩:=à.1 e;let⟨a,i,_⟩:=h.1 g z c b d;grind
theorem abk{n:String}(b:À.globalNamed n=Á i)(h:W.heap[i]?=Á (.cells q t xJ))(a:W.var? À n=Á d):q=d:=by unfold Ď at a;grind
def TS{n:String}{N:Nat}{k:đ}{p:List MemPlace} (a:À.globalNamed n=Á i) (f:(À.globals[i]?).map (·.type)=Á t) (h:À.underlying t=Á (.array N e)) (l:À.underlying e=Á (.int k)) (m:À.cellsOf e=1) (o:À.cellsOf t=N) (r:W.heap[i]?=Á (.cells d t xJ)) (s:À.globalNamed n=Á b) (u:(À.globals[b]?).map (·.type)=Á T) (v:W.var? À n=Á q) (w:Õ (λ_=>()) À W 0 (λ_=>true) false j T q.toList=Á (â k zQ,p)):d=(zQ.map λz=>Ñ k z).toArray:=by obtain rfl:=Ô<|a.symm.trans s;obtain rfl:=Ô<|f.symm.trans u;rw[abk a r v,<-Lib.cells_of_tab h l m o w]
def arE:À.cellsOf 299=3:=fu
def abl:À.cellsOf 36=1:=fu
def arF:À.cellsOf 3=1:=fu
def arG:À.cellsOf 300=69:=fu
def arH{p:List MemPlace}(v:Õ (λ_=>()) À W 0 (λ_=>true) false n 300 l=Á (Ì,p)): l.length=69/\∀(i:Nat) (r:Int×Int×Int),iX[i]?=Á r->l[i*3]?=Á (Ñ ģ r.1)/\l[i*3+1]?=Á (Ñ Î r.2.1)/\l[i*3+2]?=Á (Ñ Î r.2.2):=by
 obtain⟨f,m,rfl,w,y,K,z⟩:=DataW.trod_array Tryz.underlying300 v;refine⟨y.trans arG,λi r o=> ?_⟩;have B:i<23:=by have:=(Ó.1 o).1;exact this
 have g:=z i B;rw[arE]at g;have C:f.map (·.1)=iX.map λr=>(ĥ [.lit<|.int ģ r.1,.lit<|.int Î r.2.1,.lit<|.int Î r.2.2]:Ĉ Unit):=by have:=congrArg Prod.fst w;simp only[Ì,DataW.agg.injEq]at this;exact this.symm
 obtain⟨x,q⟩:∃x,f[i]?=Á x:=⟨_,Ê Z⟩;rw[q]at g;have d:(f.map (·.1))[i]?=Á x.1:=by simp[q]
 rw[C]at d;simp only[ê,o,Option.map_some,Ē]at d;obtain⟨e,h,rfl,j,L,D,k⟩:=DataW.trod_struct Tryz.underlying299 g;have a:=k 0 _ U;have b:=k 1 _ U;have c:=k 2 _ U;have a:Õ _ À W 0 _ false h 36 (Þ (À.cellsOf 36)<|ß 0<|Þ 3<|ß (i*3) l)=e[0]?:=a;have b:Õ _ À W 0 _ false h 3 (Þ (À.cellsOf 3)<|ß 1<|Þ 3<|ß (i*3) l)=e[1]?:=b;have c:Õ _ À W 0 _ false h 3 (Þ (À.cellsOf 3)<|ß 2<|Þ 3<|ß (i*3) l)=e[2]?:=c;rw[abl]at a;rw[arF]at b c;match e,D,j,a,b,c with
 |[y0,y1,y2],_,j,a,b,c=>
  let⟨M,E,F,_⟩:=ã ë (show Õ _ _ _ _ _ _ _ 36 _=Á y0 from a);let⟨N,G,H,_⟩:=ã í (show Õ _ _ _ _ _ _ _ 3 _=Á y1 from b);let⟨O,I,J,_⟩:=ã í (show Õ _ _ _ _ _ _ _ 3 _=Á y2 from c);subst F;subst H;subst J;rw[j]at d;simp only[ú,Ā,DataW.agg.injEq,List.cons.injEq,DataW.lit.injEq,Lit.int.injEq,true_and,and_true]at d;obtain⟨rfl,rfl,rfl⟩:=d;have s:=congrArg (·[0]?) E;have t:=congrArg (·[0]?) G;have u:=congrArg (·[0]?) I;simp[List.getElem?_take,List.getElem?_drop]at s t u;exact⟨s,t,u⟩
def abm(h:∀v∈d.toList,∃k n,v=Ñ k n):fQ (kU X i) d d:=o5 λv a=>by obtain⟨k,n,rfl⟩:=h v a;exact .iF _ _
def arI{l:List (String×DataW Unit)}(h:õ P l W)(a:(l.filter λx=>x.2.handleName?.isSome)=[]):∃b,DataW.LaidVars P W l b:=by unfold õ at h;rw[a]at h;exact⟨h.choose,h.choose_spec.1⟩
def arJ:À.cellsOf 304=32:=fu
def arK:À.cellsOf 305=64:=fu
def arL:À.cellsOf 291=20:=fu
def abn:À.cellsOf 5=1:=fu
def gn1:À.globalNamed "internal/strconv.uint64pow10"=Á 1:=fu
def gn2:À.globalNamed "attic/attic.stepRules"=Á 2:=fu
def gn3:À.globalNamed "math/bits.deBruijn32tab"=Á 3:=fu
def gn4:À.globalNamed "math/bits.deBruijn64tab"=Á 4:=fu
def Mr(g:Nat)(t:Đ)(h:(g,t)∈[(1,291),(2,300),(3,304),(4,305)]):(À.globals[g]?).map (·.type)=Á t/\g<À.globals.size/\(((begin À (λ_ _=>0) default).world.heap[g]?).bind Obj.row?).map (·.2)=Á t:=by
 simp only[û,î,or_false,Prod.mk.injEq]at h;rcases h with⟨rfl,rfl⟩|⟨rfl,rfl⟩|⟨rfl,rfl⟩|⟨rfl,rfl⟩
 .exact⟨fu,of_decide_eq_true fu,fu⟩
 .exact⟨fu,of_decide_eq_true fu,fu⟩
 .exact⟨fu,of_decide_eq_true fu,fu⟩
 .exact⟨fu,of_decide_eq_true fu,fu⟩
def arM:Ĉ Unit->Int
 |.lit (.int _ z)=>z
 |_=>0
def abo:Ĉ Unit->List Int
 |ĥ l=>l.map arM
 |_=>[]
def arN:(Ç:Ĉ Unit)=â .u8 (abo Ç):=rfl
def arO:(È:Ĉ Unit)=â .u8 (abo È):=rfl
def arP:(Ï:Ĉ Unit)=â ģ Lib.pow10Tab:=rfl
def arQ{k:đ}:∀v∈(zQ.map λz=>Ñ k z).toArray.toList,∃k n,v=Ñ k n:=λv a=>by simp only[List.mem_map]at a;obtain⟨z,_,rfl⟩:=a;exact⟨_,_,U⟩
def arR(k:Nat)(h:k<69):∃i j,i<23/\j<3/\k=i*3+j:=⟨k/3,k%3,Z,Z,Z⟩
theorem arS{W:Ù}(hs:W.ShapedOpen À)(hl:õ À Mp W):np W:=by
 obtain⟨ps,g3,t3,cs3,f3,p3,q3,TK,ht3,hv3,wF,⟨g4,t4,cs4,f4,p4,q4,hg4,Gf,hv4,RZ,⟨g1,t1,cs1,f1,p1,q1,vm,AP,hv1,Bc,⟨g2,t2,cs2,f2,p2,q2,KN,IN,LQ,oy,_,_⟩,_⟩,_⟩,_⟩:=arI hl (by kernel_rfl);obtain⟨y1,s1,z1⟩:=Mr 1 291 (by simp);obtain⟨y2,s2,z2⟩:=Mr 2 300 (by simp);obtain⟨y3,s3,z3⟩:=Mr 3 304 (by simp);obtain⟨y4,s4,z4⟩:=Mr 4 305 (by simp);obtain⟨c1,b1⟩:=Mq hs 1 291 s1 z1;obtain⟨c2,b2⟩:=Mq hs 2 300 s2 z2;obtain⟨c3,b3⟩:=Mq hs 3 304 s3 z3;obtain⟨c4,b4⟩:=Mq hs 4 305 s4 z4;rw[arN]at wF;rw[arO]at RZ;rw[arP]at Bc;have e3:=TS gn3 y3 Tryz.underlying304 ï abn arJ b3 TK ht3 hv3 wF;have e4:=TS gn4 y4 Tryz.underlying305 ï abn arK b4 hg4 Gf hv4 RZ;have e1:=TS gn1 y1 Tryz.underlying291 ë abl arL b1 vm AP hv1 Bc;obtain rfl:=Ô (gn2.symm.trans KN);obtain rfl:=Ô (y2.symm.trans IN);obtain⟨hlen,ml⟩:=arH oy;have e2:=abk gn2 b2 LQ;subst e2;have arT:=λi r hr=>by have:=ml i r hr;simpa using this
 have abp:∀(k:Nat) (v:Å),c2[k]?=Á v->∃(kd:đ) (n:Int),v=Ñ kd n/\kd≠.u8:=λk v hv=>by
  have hk:k<69:=by grind
  obtain⟨i,j,hi,hj,rfl⟩:=arR k hk;obtain⟨r,hr⟩:∃r,iX[i]?=Á r:=⟨_,Ê (show i<iX.length from hi)⟩;grind
 have j1:=(Array.getElem?_eq_some_iff.1 b4).1;refine⟨?_,?_,⟨c3,_,b3,É _,É _,?_,?_⟩,⟨c4,_,b4,É _,É _,?_,?_⟩,?_,⟨⟨c2,_,b2⟩,λi r hr=> ?_⟩,?_⟩
 .have h5:nB=5:=by kernel_rfl
  omega
 .rintro b (rfl|rfl)
  .refine⟨c1,291,_,b1,É _,abm (by rw[e1];exact arQ),by rw[e1];exact of_decide_eq_true (by kernel_rfl),λk v hv=> ?_,by decide,by decide⟩;rw[e1]at hv;simp only[List.getElem?_toArray,ê,à]at hv;obtain⟨z,_,rfl⟩:=hv;rfl
  .refine⟨c2,300,_,b2,É _,abm λv hv=> ?_,?_,λk v hv=> ?_,by decide,by decide⟩
   .obtain⟨k,hk,e⟩:=List.mem_iff_getElem.1 hv;obtain⟨kd,n,e',_⟩:=abp k v (by rw[<-e];simp);grind
   .grind
   .obtain⟨kd,n,rfl,hn⟩:=abp k v hv;cases kd<;>first|rfl|exact absurd rfl hn
 .rw[e3];exact of_decide_eq_true (by kernel_rfl)
 .grind
 .rw[e4];exact of_decide_eq_true (by kernel_rfl)
 .grind
 .unfold iw.lu Lib.TabIs Ď;rw[gn1];grind
 .obtain⟨h0,h1,h2⟩:=arT i r hr;exact⟨by simp only[ä,b2];exact h0,by simp only[ä,b2];exact h1,by simp only[ä,b2];exact h2⟩
 .unfold pV;simp only[ä,b4,e4];rfl
end Go.Proofs.Y.me
namespace Go.Proofs.Y.me
open Go Go.Conc Go.Proofs Go.RowKit Go.Proofs.Y.Lift Go.Proofs.Y.iw Go.Proofs.Y.fA Go.Proofs.Y.vq
open Go.Proofs.YtgpphkdoanciiaaGreatDoor (Rows.workersSpec Rows.workersRow Rows.WorkersSaid Tryz.pinned)
open Go.ChangeShapes Go.WideShapes Go.ChangeAt
def fq:ownKnob À.godebug=é:=fu
def arU:laidOutB À=true:=fu
def arV{w':Ù}(h:ny W w')(a:w'.os=W.os)(b:w'.output=W.output):Below W.heap.size W {w' with tape:=W.tape}:=⟨a,U,b,h.Cx,h.qK⟩
def arW(os:Os)(a:Array Å):õ À Mp ((World.doorLaid À 400 os).forCall (λ_ _=>0) ⟨#[],a,[]⟩).memory:= laidMetH_of_parts3 (fuel:=8) (laidMet_of_run' 8 fu fu) fu fu
end Go.Proofs.Y.me
namespace Go.Proofs.Y.me
open Go Go.Conc Go.Proofs Go.RowKit Go.Proofs.Y.Lift Go.Proofs.Y.iw Go.Proofs.Y.fA Go.Proofs.Y.vq
open Go.Conc.Lib Go.ConcR.Gen Go.Proofs.YtgpphkdoanciiaaGreatDoor
def arX{α β:Type}(f:α->β)(d:α)(l:List α):((Ð l.length).map λi=>f<|l.getD i d)=l.map f:=by
 refine List.ext_getElem fp λi b a=> ?_;have h:i<l.length:=by simpa using a
 simp[ė,h]
def arY{s:List fK}{a:List PR}(h:iY B=(0,0,a))(f:∀r∈a,r.c.getD 4 0≠1):lz s B=(lN ⟨#[59]⟩ (a.map λr=>oC (nP s)<|toQn r),0,s):=by
 have d:∀p,p<a.length->mC a p≠1:=λp b=>f _ (by simp[ė,b]);have e:∀p,p<=a.length->il (mC a) p=[]:=λp b=>by unfold il;rw[List.filter_eq_nil_iff];intro j g;have:=ö.1 g;simpa using d j Z
 have g:lP a s=a.map λr=>oC (nP s) (toQn r):=by rw[<-arX (λr=>oC (nP s)<|toQn r) rI];unfold lP;refine ç λp b=> ?_;have b:=ö.1 b;unfold fP vp;rw[e p Z,if_neg<|d p b];rfl
 have j:zC a s=s:=by unfold zC fP;rw[e _<|Nat.le_refl _];rfl
 unfold lz;rw[h];simp only[g,j,if_true]
def abq(a:um)(I:List Nat)(s:List fK):∀k,∃t,oD a I s k=s++t
 |0=>⟨[],(á s).symm⟩
 |k+1=>by let⟨t,h⟩:=abq a I s k;have e:oD a I s (k+1)=Et (oD a I s k) (a.r<|I.getD k 0):=U;unfold Et rB at e;rw[HO,h,List.append_assoc]at e;exact⟨_,e⟩
def arZ(s:List fK)(B:ByteArray):∃t,(lz s B).2.2=s++t:=by
 unfold lz;split
 .exact abq _ _ _ _
 .exact⟨[],(á s).symm⟩
def abr{s t:List fK}(a:0<=c)(h:c.toNat<s.length):lM (nP<|s++t) c=lM (nP s) c:=by unfold lM;rw[if_neg Z,if_neg Z];unfold nP;rw[List.map_append,Ü (by simpa using h)]
def ar0{s t:List fK}{q:Qn}(a:0<=q.v)(h:q.v.toNat<s.length)(b:0<=q.C)(k:q.C.toNat<s.length):oC (nP<|s++t) q=oC (nP s) q:=by
 unfold oC;rw[abr a h];cases lM (nP s) q.v with
 |none=>rfl
 |some p=>
  simp only[];unfold zm;rw[abr b k]
def EI(v:Int):List PR:=[⟨[0,0,0,0,6,v,0,0],[]⟩,⟨[0,0,0,0,7,v,0,0],[]⟩,⟨[0,0,0,0,8,v,0,0],[]⟩,⟨[0,0,0,0,3,v,0,0],[]⟩,⟨[1,0,0,0,3,v,0,0],[]⟩,⟨[1,0,0,0,2,v,0,0],[]⟩,⟨[2,0,0,0,2,v,0,1],[]⟩,⟨[0,1,99,7,4,v,0,0],[]⟩,⟨[7,2,0,3,5,v,0,0],[]⟩,⟨[0,0,0,0,9,v,0,0],[]⟩]
def abt(n:List UInt8):List UInt8:=114::(n++59::108::(n++59::117::(n++59::98::(n++58::97::59::98::(n++58::98::59::103::(n++58::98::48::59::103::(n++58::99::49::59::99::(n++58::97::62::98::40::57::57::44::55::41::59::109::(n++58::104::62::99::40::51::41::59::100::(n++[58,48]))))))))))
def pg(v:Nat):ByteArray:=⟨(abt<|ü v).toArray⟩
def ar1:((Ð 40).map λv=>iY<|pg v)=(Ð 40).map λv:Nat=>(0,0,EI v):=fu
def abu(a:i<40):iY (pg i)=(0,0,EI i):=by have:=congrArg (λl=>l[i]?) ar1;simpa[a]using this
def ar2{v:Nat}(a:v<40):(pg v).size<=ĝ:=by
 have h:=abu a;unfold iY at h;split at h
 .cases h
 .exact Â (Nat.le_of_not_lt ‹_›) A
def Ms(s:List fK){v:Nat}(a:v<40):lz s (pg v)=(lN ⟨#[59]⟩ ((EI v).map λr=>oC (nP s)<|toQn r),0,s):= arY (abu a)<|by simp[EI]
def ar3{s t:List fK}(b:i<s.length)(h:s.length<=40):(lz (s++t)<|pg i).1=(lz s<|pg i).1:=by
 rw[Ms _ Z,Ms _ Z];show lN _ _=lN _ _;congr 1;refine ç λr a=> ?_;have:(toQn r).v=i/\(toQn r).C=0:=by simp only[EI,û,î,or_false]at a;rcases a with rfl|rfl|rfl|rfl|rfl|rfl|rfl|rfl|rfl|rfl<;>exact⟨U,U⟩
 exact ar0 Z Z Z Z
def ar4(a:ByteArray)(c:a.size=1):∀b:List ByteArray,iB b+b.length<=(lN a b).size+1
 |[]=>by simp[iB]
 |x::r=>by
  show _<=(x.data.toList++oY a r).toArray.size+1;have d:iB (x::r)=x.size+iB r:=by simp[iB]
  have e:x.data.toList.length=x.size:=by rw[Array.length_toList];rfl
  simp only[Ý,Ä,HG a c r,d,e,List.length_cons];omega
def Ig(n:Nat):1<=(gA n).size:=by unfold gA;rw[Ğ,Ý,Lib.decDigits_length];exact Lib.nDigits_pos n
def ar5(a:ByteArray)(n:Nat)(r:List ByteArray):1<=(lN a<|gA n::r).size:=by show 1<=((gA n).data.toList++oY a r).toArray.size;have:=Ig n;rw[Ý,Ä,Array.length_toList];exact Â this<|Nat.le_add_right _ _
def ar6(n:Nat):(Eo n).size=16:=by have h:=S4 n;unfold Eo xq;rw[Ö,ā];show min (16-(mN n).size) 64-0+_=_;omega
def ar7{s:List fK}{v:Nat}(a:v<s.length)(h:s.length<=40):30<=(lz s<|pg v).1.size:=by
 rw[Ms _ Z];show 30<=(lN _ _).size;refine Nat.le_of_succ_le_succ<|Â ?_<|ar4 ⟨#[59]⟩ U _;have b:lM (nP s) v=Á (0,s[v]):=by unfold lM;rw[if_neg Z];simp[nP,a]
 simp only[EI,ú,Ā,oC,toQn,List.getD_cons_zero,List.getD_cons_succ,b,zm];simp[iB,ar6];have:=Ig<|(s[v].s 0).fw.toNat;have:=Ig<|(s[v].s 1).fw.toNat;have:=Ig<|((s[v].s 1).C 0).toNat;have:=Ig<|((s[v].s 2).C 1).toNat;have:=ar5 ⟨#[44]⟩ (gi s[v].s [] 0 1 99 7).C.toNat<|gA (gi s[v].s [] 0 1 99 7).M.toNat::gA (gi s[v].s [] 0 1 99 7).r.toNat::(gi s[v].s [] 0 1 99 7).I.map qy;unfold LN;simp only[ð,ó];omega
def B6(d:Nat):ByteArray:=ē ⟨#[48,49,50,51,52,53,54,55,56,57]⟩ d<|d+1
def ar8:(Ð 10).map B6=(Ð 10).map λd=>⟨#[UInt8.ofNat<|48+d]⟩:=fu
theorem Ih(h:i<10):B6 i=⟨#[UInt8.ofNat<|48+i]⟩:=by have:=congrArg (λl=>l[i]?) ar8;simpa[h]using this
theorem TT(h:i<10):gA i=B6 i:=by unfold gA;grind [Lib.decDigits_one,Ih]
theorem abv(h:¬n<10):gA n=gA (n/10)++B6 (n%10):=by rw[Ih Z];unfold gA;rw[ü,dif_neg h];apply ý;simp_all
noncomputable def Mt:ğ:=(Tryz.f21.body.bind iw.km).getD .skip
def EJ(n:Int)(s:ByteArray)(u:Nat->Å):Ė:=⟨#[Ñ ģ n,u 1,u 2,Ã s,u 4,u 5,u 6,u 7,u 8,u 9,u 10,u 11,u 12,u 13,u 14,u 15,u 16,u 17,u 18,u 19,u 20,u 21,u 22,u 23,u 24,u 25,u 26],[]⟩
def EK(n:Int)(s:ByteArray)(a:Ė):Prop:=∃u,a=EJ n s u
theorem abw{s:ByteArray}(h:i<10)(a:s.size<=20):Î.wrap ((i:Int)+1)=(i:Int)+1/\Î.wrap (i:Int)=i/\(0:Int)<=(i:Int)+1/\(i:Int)+1<=10/\(i:Int)<=(i:Int)+1/\((i:Int)+1).toNat=i+1/\¬9223372036854775807<min (i+1) 10-i+s.size:=by grind [Ę]
section
variable{s:ByteArray}
def ar9(u:Nat->Å)(c:n<10)(b:∀a,EK n s a->H a w):Code.wp À Mt (Exit.then K<|QE 0 H) (EJ n s u) w:=by
 unfold EJ;conv=>arg 2;whnf
 go_wp2_with fail
 exact⟨U,b _ (iw.gl _)⟩
def asa(u:Nat->Å)(f:¬n<10)(g:n<18446744073709551616)(h:s.size<=20)(c:∀a,EK ((n/10:Nat):Int) (B6 (n%10)++s) a->K a w):Code.wp À Mt (Exit.then K<|QE 0 H) (EJ n s u) w:=by
 unfold EJ;conv=>arg 2;whnf
 have i:(n:Int).tmod 10=((n%10:Nat):Int):=by rw[Int.tmod_eq_emod_of_nonneg Z];omega
 have j:(n:Int).tdiv 10=((n/10:Nat):Int):=by rw[Int.tdiv_eq_ediv_of_nonneg Z];omega
 have b:=ff c;clear c;have e:n%10<10:=Z
 have k:n/10<18446744073709551616:=Z
 generalize n%10=d at*;generalize n/10=q at*;let⟨l,m,o,p,r,t,v⟩:=abw e (s:=s) Z;go_wp2_with fail;exact b.out _ (iw.gl _)
def TU(b:ByteArray)(c:Ù)(a:Ė)(w:Ù):Prop:=∃(n:Nat) (s:ByteArray),EK n s a/\n<18446744073709551616/\gA n++s=b/\w=c
def TV(b:ByteArray)(c:Ù)(a:Ė)(w:Ù):Prop:=∃(n:Nat) (s:ByteArray),EK n s a/\n<10/\B6 n++s=b/\w=c
def xk(a:Ė)(_:Ù):Nat:=match a.tmps.getD 0 undef with
 |Ñ _ i=>i.toNat
 |_=>0
def Hs(b:EK n s y):xk y w=n:=by obtain⟨u,rfl⟩:=b;show(n:Int).toNat=_;simp
theorem asb(i:B.size<=20)(a:Ė)(w:Ù)(g:TU B u a w): Code.wp À Mt (Exit.then (λb c=>TU B u b c/\xk b c<xk a w)<|QE 0<|TV B u) a w:=by
 let⟨n,s,d,h,e,f⟩:=g;rw[Hs d];obtain⟨b,rfl⟩:=d;have j:(gA n).size+s.size=B.size:=by rw[<-e,Ö]
 by_cases c:n<10
 .exact ar9 b c λa q=>⟨n,s,q,c,by rwa[<-TT c],f⟩
 .refine asa b c h Z λa q=>⟨⟨n/10,_,q,Z,?_,f⟩,by rw[Hs q];omega⟩;grind [ă,abv]
def asc(n:Nat)(b:n<18446744073709551616)(w:Ù):Calls À 21 #[Ñ ģ n] w λe f=>e=.returned (Ã<|gA n)/\f=w:=by
 have L:∀a,EK n ⟨#[]⟩ a->Code.wp À (Code.loop Mt) (QE 0<|TV (gA n) w) a w:=λa g=>
  wp_loop (TU (gA n) w) xk ⟨n,⟨#[]⟩,g,b,Ą,U⟩<|asb<|oX n b
 have H:=ff<|And.intro L<|oX n b;generalize gA n=res at*;clear L;go_enter Tryz.func21,Tryz.ntmps21;go_wp2_with fail;refine Code.wp_mono (Q:=QE 0<|TV res w) ?_ (H.out.1 _ (iw.gl _));rintro(_|_|_|_|_|_) a v hq;all_goals first|exact absurd hq id|skip
 obtain⟨rfl,d,s,h,i,c,rfl⟩:=hq;obtain⟨u,rfl⟩:=h;unfold EJ;have j:(B6 d).size+s.size=res.size:=by rw[<-c,Ö]
 have l:=H.out.2;let⟨m,o,p,q,r,t,x⟩:=abw i (s:=s) Z;have k:=ff c;clear j c;go_wp2_with fail;go_ret;exact⟨by rw[<-k.out];rfl,U⟩
end
def ase{v:Nat}(h:v<100):(gA v).size=1\/(gA v).size=2:=by
 by_cases q:v<10
 .rw[TT q,Ih q];exact Ë U
 .rw[abv q,TT Z,Ih Z,Ih Z];exact Ġ U
def asf{v:Nat}(d:v<40)(w:Ù):Calls À 23 #[Ñ Î v] w λe a=>e=.returned (Ã<|pg v)/\a=w:=by
 rcases ase (v:=v) Z with c|c;all_goals
  go_enter Ċ,Tryz.ntmps23;go_wp2_with (go_at_call 21;refine(ff<|asc v Z w).out.mono ?_;rintro e a ⟨rfl,b⟩;subst a);go_ret;refine⟨congrArg (λb=>Ending.returned<|Ã b)<|ý ?_,U⟩;simp[pg,abt,gA,Ć]
def asg{l:fe}(c:iD l)(e:nB<=l.w.heap.size){v:Nat}(f:v<40)(a:þ)(b:List þ): fA.fj À true (λh u=>kj l h/\h.d=l.d/\u=G (a.finish<|Ã<|pg v) b) l (G (å À 23 #[Ñ Î v] .normal)<|a::b):= abe c e fW (λu h=>by simp at h;subst h;exact .iF _ _) (λh=>by cases h;rfl) (asf f) true a b
section
variable{gY l c:fe}{x nx:Nat}{s t:List fK}{sl kv u:Å}{V:Nat->Prop}{xs:List Å}{cs:List þ}{rest:List Nat}{k:List Item}
def mD.ash(h:mD l x n s sl V)(a:∀b,l.O b->¬X b->c.O b/\c.w.heap[b]?=l.w.heap[b]?)(d:∀b,X b->¬V b/\b≠x/\¬(b=1\/b=2\/b=3\/b=4))(f:nB<=c.w.heap.size):mD c x n s sl V:=by have g:=λb q=>a b (h.C b q) λe=>(d b e).2.2 q;have v:=λb q=>a b (h.Y b q) λe=>(d b e).1 q;have o:=a x h.fq λe=>(d x e).2.1 U;exact⟨h.r.r f λb q=>(g b q).2,λb q=>(g b q).1,h.a.r o.2,o.1,h.I.r λb q=>(v b q).2,λb q=>(v b q).1,h.e,h.c,h.d,h.M⟩
def asi(h:gh X l c)(a:iD l):iD c:= ⟨h.N a.r,h.d.trans a.d,by rw[h.q];exact a.q,by rw[h.S];exact a.N,by rw[h.Y];exact a.I,by rw[h.b];exact a.M,by rw[h.K];exact a.k⟩
structure kN(gY l:fe)(x nx:Nat)(s:List fK)(kv:Å)(xs:List Å):Prop where
 a:∃sl V,mD l x nx s sl V/\(∀b,V b->(b=1\/b=2\/b=3\/b=4)\/gY.w.heap.size<=b)/\∀k,kv.ownBlock=Á k->¬V k
 I:∀b,gY.O b->l.O b/\l.w.heap[b]?=gY.w.heap[b]?
 N:∀b,b=1\/b=2\/b=3\/b=4->b<gY.w.heap.size
 Y:gY.w.heap.size<=x
 S:gY.w.heap.size<=l.w.heap.size
 M:l.w.ownsRow 0 9 1 kv xs.length xs
 r:∀k,kv.ownBlock=Á k->l.O k/\gY.w.heap.size<=k/\k≠x
def kN.CZ(h:kN gY l x nx s kv xs)(d:∀b,l.O b->c.O b/\c.w.heap[b]?=l.w.heap[b]?)(f:l.w.heap.size<=c.w.heap.size):kN gY c x nx s kv xs:=by let⟨sl,V,g,i⟩:=h.a;exact⟨⟨sl,V,g.S (λb q=>(d b q).1) (λb q=>(d b q).2) f,i⟩,λb q=>⟨(d b (h.I b q).1).1,(d b (h.I b q).1).2.trans (h.I b q).2⟩,h.N,h.Y,Â h.S f,nJ h.M λk e=>(d k (h.r k e).1).2,λk e=>⟨(d k (h.r k e).1).1,(h.r k e).2⟩⟩
def kN.C(h:kN gY l x nx s kv xs)(r:fI l l.w W):kN gY {l with w:=W} x nx s kv xs:= h.CZ (λb q=>⟨q,r.I b<|Ë q⟩) r.r
def kN.fv(h:kN gY l x nx s kv xs):nB<=l.w.heap.size:=by let⟨_,_,a,_⟩:=h.a;exact a.r.fv
def kN.G(h:kN gY l x nx s kv xs):lE s:=by let⟨_,_,a,_⟩:=h.a;let⟨_,_,q,_⟩:=a.I;exact q
theorem abx(h:kN gY l x nx s kv xs)(o:gw gY)(d:iD l)(p:B.size<=ĝ) (r:∀c,iD c->kN gY c x nx (lz s B).2.2 kv xs->ja vQ c (G (f.at (y.put ((Q[i]?).bind (·.dst))<|.tuple #[Ã (lz s B).1,Ñ Î (lz s B).2.1])<|ę Q rest::k) cs)): ja vQ l (G (å À 17 #[Û<|Á ⟨x,0,é⟩,Ã B] .normal)<|f.at y (ę Q (i::rest)::k)::cs):=by
 let⟨sl,V,t,u,v⟩:=h.a;refine aa6 d t p (λ_=>abb h.G) λc g ⟨j,w,C,m,n⟩=>r c g ⟨⟨w,C,m,λb q=> ?_,λk e q=> ?_⟩,λb q=> ?_,h.N,h.Y,?_,nJ h.M λk e=>(j k (h.r k e).1 (h.r k e).2.2).2,λk e=>⟨(j k (h.r k e).1 (h.r k e).2.2).1,(h.r k e).2⟩⟩
 .rcases n b q with z|z|z
  .exact u b z
  .exact Ë z
  .exact Ġ<|Â h.S z
 .rcases n k q with z|z|z
  .exact v k e z
  .have:=h.N k z;have:=(h.r k e).2.1;omega
  .have:=d.r.fv k<|Ë (h.r k e).1;omega
 .have z:=o.fv b<|Ë q;have D:=h.Y;let⟨E,F⟩:=h.I b q;grind
 .have:=g.r.fv x<|Ë m.fq;have:=h.Y;omega
theorem kN.pX(h:kN gY l x nx s kv xs)(p:gw gY)(f:iD l){ob:Obj}{d:Ù}(r:fI l l.w W)(j:fI (gH l W ob) (gH l W ob).w jX)(t:d.ownsRow 0 9 1 v (xs.length+1) (xs++[u]))(y:jX.grownBy d kv.ownBlock)(B:∀k,v.ownBlock=Á k->(mr (gH l W ob) jX d).O k)(E:v.ownBlock=kv.ownBlock\/v.ownBlock=Á jX.heap.size): iD (mr (gH l W ob) jX d)/\kN gY (mr (gH l W ob) jX d) x nx s v (xs++[u]):=by
 have g:=nj (X:=λb=>Á b=kv.ownBlock) (ob:=ob) f.r r;have c:gh (λb=>Á b=kv.ownBlock) l (mr (gH l W ob) jX d):=g.fh (J6 (g.N f.r) j y λk e=>⟨g.O k (h.r k e).1,e.symm⟩);let⟨sl,V,i,C,m⟩:=h.a;have F:=f.r.fv x<|Ë i.fq;have G:l.w.heap.size<=jX.heap.size:=Â g.I j.r;have n:∀k,v.ownBlock=Á k->kv.ownBlock=Á k\/k=jX.heap.size:=λk e=>by grind
 refine⟨asi c f,⟨sl,V,i.ash (λb q z=>⟨c.O b q,c.r b (Ë q) z⟩) (λb e=>⟨m b e.symm,(h.r b e.symm).2.2,λq=> ?_⟩)<|Â i.r.fv c.I,C,λk e q=> ?_⟩,λb q=> ?_,h.N,h.Y,Â h.S c.I,?_,λk e=>⟨B k e,?_⟩⟩
 .have:=h.N b q;have:=(h.r b e.symm).2.1;omega
 .rcases n k e with z|z
  .exact m k z q
  .have:=f.r.fv k<|Ë<|i.Y k q;omega
 .let⟨o,D⟩:=h.I b q;refine⟨c.O b o,(c.r b (Ë o) λe=> ?_).trans D⟩;have:=(h.r b e.symm).2.1;have:=p.fv b<|Ë q;omega
 .rwa[Ä]
 .rcases n k e with z|z
  .exact(h.r k z).2
  .have:=h.S;grind
end
noncomputable def Ii:ğ:=lk ô [1,1,1,1,0,1,0,0]
noncomputable def TW:ğ:=lk ô [1,1,1,1,1]
noncomputable def aby:ğ:=lk ô [1,1,1,1,0,1,0,0,1,1]
noncomputable def Mv:ğ:=lk ô [1,1,1,1,0,1,0,0,1,0,0,1,1,0,1,0,0]
noncomputable def abz:ğ:=lk ô [1,1,1,1,0,1,0,0,1,0,0,1,1,1]
noncomputable def B7 (a:Array Å):Goroutine:=G ((base 6).at ⟨a,[]⟩<|ċ Ii::Ĕ Ii::[ø 0,ċ TW]) []
noncomputable def B8 (a:Array Å):Goroutine:=G ((base 6).at ⟨a,[]⟩<|ċ Mv::Ĕ Mv::[ø 2,ċ abz,ø 1,ċ aby,Ĕ Ii,ø 0,ċ TW]) []
structure FF(bv kv:Å)(x:Nat)(i:Int)(tt:Array Å):Prop where
 r:tt.size=85
 C:tt[0]?=Á bv
 M:tt[5]?=Á (Û<|Á ⟨x,0,é⟩)
 N:tt[6]?=Á kv
 I:tt[7]?=Á (Ñ Î i)
structure GF(bv kv:Å)(x:Nat)(i n v:Int)(tt:Array Å):Prop where
 f:FF bv kv x i tt
 r:tt[8]?=Á (Ñ Î n)
 C:tt[9]?=Á (Ñ Î v)
section
variable{d l:fe}{x c v:Nat}{s t:List fK}{kv:Å}{xs:List Å}{f:Nat->ByteArray}{tt:Array Å}
def asj(h:kN d l x b s kv xs)(f:iD l)(a:FF (Í O j c) kv x (j+1:Nat) tt) (i:∀e,iD e->kN d e x b s kv xs->vQ (Č true) e.w):ja vQ l (B7 tt):=by
 have hF:True:=trivial;obtain⟨u,rfl⟩:=u6 tt a.r;have k:u 0=Í O j c:=by simpa using a.C
 have m:u 7=Ñ Î ((j:Int)+1):=by simpa using a.I
 clear a;have o:¬(j:Int)+1<=(j:Int):=Z
 apply aqM;apply gk (n:=60) f.r.r;simp only[B7,Ð,Ú,ù,k,m];conv in Ii=>whnf
 conv in TW=>whnf
 repeat w_go fC
 refine Æ λ_ _=> ?_;exact .fB λp g=>⟨U,Č true,λw=>arw (t:=4) U U ď U fu,i _ (f.C g)<|h.C g⟩
def asl(h:kN d l x b s kv xs)(g:iD l)(e:FF (Í O j c) kv x i tt)(G:i<=j)(H:xs.length<=s.length) (y:∀k p,iD k->kN d k x b s kv xs->GF (Í O j c) kv x i s.length 0 p->ja vQ k (B8 p)):ja vQ l (B7 tt):=by
 have hF:True:=trivial;have m:=h.G;let⟨z,B,q⟩:=jo h.M;obtain⟨u,rfl⟩:=u6 tt e.r;have C:u 0=Í O j c:=by simpa using e.C
 have D:u 5=Û (Á ⟨x,0,é⟩):=by simpa using e.M
 have E:u 6=Í z xs.length B:=by rw[<-q];simpa using e.N
 have F:u 7=Ñ Î i:=by simpa using e.I
 clear e;have I:(i:Int)<=(j:Int):=Z
 have J:¬(s.length:Int)<(xs.length:Int):=Z
 have K:¬(40:Int)<(s.length:Int):=by have:=m.C;omega
 have L:¬(s.length:Int)<1:=by have:=m.I;omega
 clear m;apply qB;apply gk (n:=60) g.r.r;simp only[B7,Ð,Ú,ù,C,D,E,F];conv in Ii=>whnf
 repeat w_go fC
 refine Æ λ_ _=> ?_;refine zD (f:=22) (args:=#[Û<|Á ⟨x,0,é⟩]) U fW (by k_ne) g.r.r (λw=>by go_simp) (λw=>Ò U Tryz.func22 U U #[]) λM r=> ?_;have w:=g.C r;have t:=h.C r;let⟨N,V,v,_⟩:=t.a;apply abf w v;clear v;walk_nrm;apply gk (n:=60) w.r.r;repeat w_bar fC
 w_go fC
 refine Æ λ_ _=> ?_;exact .fB λP o=>⟨w.C o,U,y _ _ (w.C o) (t.C o) ⟨⟨U,U,U,by rw[q];rfl,U⟩,U,U⟩⟩
end
def asn(S:ByteArray)(w:Ù):Sem.events À (Builtin.len_ #[9] 3 #[Ã S]) w #[]=#[]:=fu
section
variable{a l:fe}{x c v:Nat}{s t:List fK}{xs:List Å}{f:Nat->ByteArray}
def aso(h:kN a l x j s z xs)(Q:gw a)(D:iD l)(r:GF (Í O n c) z x i s.length v d)(hv:v<s.length)(T:∀(m:Nat) (y:Å),xs[m]?=Á y->y=Ã (lz s<|pg m).1)(TX:v<=xs.length) (C:∀E W F Y,iD E->kN a E x j s F Y->Y=(if v<xs.length then xs else xs++[Ã (lz s<|pg v).1])->GF (Í O n c) F x i s.length (v+1:Nat) W->ja vQ E (B8 W)):ja vQ l (B8 d):=by
 have hF:True:=trivial;have h40:=h.G.C;have G:=ff (show v<xs.length->xs[v]?=Á (Ã (lz s<|pg v).1)from λq=>by rw[Ê q];exact congrArg Á<|T v _<|Ê q);clear T;let⟨H,ck,t⟩:=jo h.M;obtain⟨u,rfl⟩:=u6 d r.f.r;have e0:u 0=Í O n c:=by simpa using r.f.C
 have e5:u 5=Û (Á ⟨x,0,é⟩):=by simpa using r.f.M
 have e6:u 6=Í H xs.length ck:=by rw[<-t];simpa using r.f.N
 have e7:u 7=Ñ Î i:=by simpa using r.f.I
 have e8:u 8=Ñ Î s.length:=by simpa using r.r
 have e9:u 9=Ñ Î v:=by simpa using r.C
 clear r;have h1:(v:Int)<(s.length:Int):=Z
 apply qB;apply gk (n:=60) D.r.r;simp only[B8,Ð,Ú,ù,e0,e5,e6,e7,e8,e9];conv in Mv=>whnf
 repeat w_go fC
 refine Æ λ_ _=> ?_;refine zD (f:=23) (args:=#[Ñ Î v]) U fW (by k_ne) D.r.r (λw=>by go_simp) (λw=>Ò U Ċ U U #[]) λw₁ mY=> ?_;have I:=D.C mY;have J:=h.C mY;refine fA.fj.lQ ?_<|asg I J.fv (v:=v) Z _ _;rintro l2 g2 ⟨B,hd,rfl⟩;have K:=kj.Br I B hd;have k2:=J.CZ (λb q=>⟨B.O b q,B.r.I b<|Ë q⟩) B.r.r;clear B hd J I h;rw[Frame.finish_at];walk_nrm;refine .fB λCV L=>⟨K.C L,U,?_⟩;have M:=K.C L;have k3:=k2.C L;refine H3 (f:=17) (args:=#[Û<|Á ⟨x,0,é⟩,Ã<|pg v]) M U fW (by k_ne) (λw=>by go_simp) (λw=>Ò U č U U #[]) λTR ve=> ?_;refine abx (k3.C ve) Q (M.C ve) (ar2 Z) λl5 b o=> ?_;obtain⟨S,hS⟩:∃S,lz s (pg v)=(S,0,s):=⟨_,Ms s Z⟩;have h30:=ar7 hv h40;rw[hS]at C G h30 o|-;dsimp only at C G h30 o|-;have h2:¬(S.size:Int)<30:=Z
 clear k3 k2 M K;walk_nrm;apply qB;apply gk (n:=80) b.r.r;repeat w_nl fC
 refine Æ λ_ _=> ?_;apply tH (v:=Ñ Î S.size) U fW (by k_ne) b.r.r b.q (λw _=>by go_simp) (λw _ e k=>by simp[go_sem,asn]at k);walk_nrm;by_cases N:v<xs.length
 .have h3:(v:Int)<(xs.length:Int):=Z
  have h4:¬(xs.length:Int)<=(v:Int):=Z
  have h5:(0:Int)<=(v:Int):=Z
  obtain⟨k,rfl⟩:∃k,H=Á ⟨k,0,é⟩:=by
   rcases o.M.2 with⟨e,p⟩|⟨g,_,_,e,_⟩
   .omega
   .rw[t]at e;cases e;exact⟨g,U⟩
  have p:z.ownBlock=Á k:=by rw[t];rfl
  have P:l5.w.cell? ⟨k,v,é⟩=Á (Ã S):=by have q:=o.M.cells p v _<|G.out N;rwa[Addr.add_lit,Nat.zero_add]at q
  have hO5:=(o.r k p).1;apply gk (n:=80) b.r.r;repeat w_nl fC
  refine Æ λ_ _=> ?_;apply nW (x:=⟨k,v,é⟩) (v:=Ã S) U fW (by k_ne) b.r.r b.q (Ë<|Ë hO5) P (λw h=>by go_simp) (λw h=>by simp[go_sem,h]);walk_nrm;apply gk (n:=80) b.r.r;repeat w_nl fC
  w_go fC
  refine Æ λ_ _=> ?_;refine .fB λasq g=>⟨b.C g,U,C _ _ _ _ (b.C g) (o.C g) (if_pos N).symm ⟨⟨U,U,U,by rw[t];rfl,U⟩,U,?_⟩⟩;simp;exact IntWalk.i64_in _ ⟨Z,Z⟩
 .have h3:¬(v:Int)<(xs.length:Int):=Z
  have h4:(xs.length:Int)<=(v:Int):=Z
  apply gk (n:=80) b.r.r;repeat w_nl fC
  refine Æ λ_ _=> ?_;refine pJ (V:=λp=>Í (Á ⟨p,0,é⟩) 1 1) (ob:=.cells #[Ã S] 9) U U (by k_ne) b.r.r b.q (λw=>by go_simp) (λw=>by simp[go_sem]) λP A7=> ?_;walk_nrm;have p:=nj (X:=fg) (ob:=.cells #[Ã S] 9) b.r A7;have p6:hD (gH l5 P<|.cells #[Ã S] 9) P.heap.size (.cells #[Ã S] 9):=⟨Ġ U,fA.ni⟩;have Kt:À.info? 9=Á ĕ:=Tryz.type9;refine J7 (v:=Í H xs.length ck) (us:=[Ã S]) (px:=P.heap.size) (c:=1) (n:=xs.length) (xs:=xs) (inf:=ĕ) (z:=Ã ⟨#[]⟩) U U (by k_ne) (p.N b.r) (by rw[p.q];exact b.q) U U U Tryz.underlying25 Kt U U Nat.one_pos U U (by simp[ĕ];omega) (by simp only[ĝ];omega) (t▸nJ o.M λk e=>p.r k (Ë (o.r k e).1) id) (t▸λk e=>p.O k (o.r k e).1) p6.fq (X6<|p6.C U) (λ_ k=>List.mem_singleton.1 k▸rfl) λasq F Ym g qa A6 wK rh=> ?_;let⟨k,k8⟩:=o.pX Q b A7 g qa (t▸A6) wK<|t▸rh;walk_nrm;apply gk (n:=80) k.r.r;repeat w_nl fC
  w_go fC
  refine Æ λ_ _=> ?_;refine .fB λyF e=>⟨k.C e,U,C _ _ _ _ (k.C e) (k8.C e) (if_neg N).symm ⟨⟨U,U,U,U,U⟩,U,?_⟩⟩;simp;exact IntWalk.i64_in _ ⟨Z,Z⟩
end
section
variable{a l:fe}{x v:Nat}{s t:List fK}{g:List Å}{f:Nat->ByteArray}
def asr(h:kN a l x b s z g)(I:gw a)(k:iD l)(r:xB a O n f)(c:GF (Í O n j) z x i s.length s.length d)(hi:i<=n)(hN:n<10^13) (y:∀m B C,iD m->kN a m x b C z g->(∃t,C=s++t)->FF (Í O n j) z x (i+1:Nat) B->ja vQ m (B7 B)):ja vQ l (B8 d):=by
 have hF:True:=trivial;obtain⟨u,rfl⟩:=u6 d c.f.r;have J:u 0=Í O n j:=by simpa using c.f.C
 have K:u 5=Û (Á ⟨x,0,é⟩):=by simpa using c.f.M
 have L:u 6=z:=by simpa using c.f.N
 have M:u 7=Ñ Î i:=by simpa using c.f.I
 have N:u 8=Ñ Î s.length:=by simpa using c.r
 have P:u 9=Ñ Î s.length:=by simpa using c.C
 clear c;have D:Î.wrap ((i:Int)+1)=((i+1:Nat):Int):=IntWalk.i64_in _ ⟨Z,Z⟩;apply qB;apply gk (n:=60) k.r.r;simp only[B8,Ð,Ú,ù,J,K,L,M,N,P];conv in Mv=>whnf
 conv in abz=>whnf
 conv in aby=>whnf
 by_cases F:i<n
 .have Q:(i:Int)<(n:Int):=Z
  have h5:(0:Int)<=(i:Int):=Z
  obtain⟨S,T,V,rfl,_,_⟩:=r i F;let⟨_,rb',ro',e,W,X⟩:=(r.r h.I) i F;cases e;repeat w_nl fC
  refine Æ λ_ _=> ?_;apply nW (x:=⟨T,V+i,é⟩) (v:=Ã<|f i) U fW (by k_ne) k.r.r k.q (Ë<|Ë W) X (λw h=>by go_simp) (λw h=>by simp[go_sem,h]);walk_nrm;refine .fB λw₁ o=>⟨k.C o,U,?_⟩;have G:=k.C o;have Y:=h.C o;refine H3 (f:=17) (args:=#[Û<|Á ⟨x,0,é⟩,Ã<|f i]) G U fW (by k_ne) (λw=>by go_simp) (λw=>Ò U č U U #[]) λzV H=> ?_;refine abx (Y.C H) I (G.C H) S λl3 p k3=> ?_;have asu:=arZ s<|f i;generalize(lz s<|f i).1=A;generalize(lz s<|f i).2.1=E;walk_nrm;apply qB;apply gk (n:=60) p.r.r;repeat w_nl fC
  w_go fC
  refine Æ λ_ _=> ?_;refine .fB λTR w=>⟨p.C w,U,y _ _ _ (p.C w) (k3.C w) asu ⟨U,U,U,U,?_⟩⟩;simp[D]
 .have Q:¬(i:Int)<(n:Int):=Z
  repeat w_nl fC
  w_go fC
  refine Æ λ_ _=> ?_;refine .fB λTR w=>⟨k.C w,U,y _ _ _ (k.C w) (h.C w) ⟨[],(á s).symm⟩ ⟨U,U,U,U,?_⟩⟩;simp[D]
end
def EL(s:List fK)(a:List Å):Prop:=a.length<=s.length/\∀(j:Nat) (y:Å),a[j]?=Á y->y=Ã (lz s<|pg j).1
def EL.asv{s:List fK}(h:EL s l)(a:s.length<=40)(t:List fK):EL (s++t) l:= ⟨by rw[Ä];have:=h.1;omega,λj y e=>by have b:=(Ó.1 e).1;rw[ar3 (Nat.lt_of_lt_of_le b h.1) a];exact h.2 j y e⟩
section
variable{a l:fe}{c:Nat}{s:List fK}{f:Nat->ByteArray}
def abA(w:gw a)(D:xB a O n f)(E:i<=n)(F:n<10^13) (G:∀o p r k g,iD o->kN a o j b r k g->(∃t,r=s++t)->EL s g->FF (Í O n c) k j (i+1:Nat) p->ja vQ o (B7 p)): ∀(m v:Nat) (l:fe) (k:Å) (g:List Å) (u:Array Å),s.length-v=m->v<=s.length->kN a l j b s k g->iD l->EL s g->v<=g.length->GF (Í O n c) k j i s.length v u->ja vQ l (B8 u)
 |0,v,l,k,g,u,hm,hv,h,hb,ht,TX,hT=>by
  obtain rfl:v=s.length:=Z
  exact asr h w hb D hT E F λo p r x B q C=>G o p r k g x B q ht C
 |m+1,v,l,k,g,u,hm,hv,h,hb,ht,TX,hT=>aso h w hb hT Z ht.2 TX λo p H I x B e C=>by
  refine abA w D E F G m (v+1) o H I p Z Z B x ?_ ?_ C
  .rw[e];split
   .exact ht
   .refine⟨by rw[Ä,Ø];omega,λd y q=> ?_⟩;rcases Nat.lt_or_ge d g.length with z|z
    .rw[Ü z]at q;exact ht.2 d y q
    .have J:=(Ó.1 q).1;rw[Ä,Ø]at J;obtain rfl:d=v:=Z
     obtain rfl:g.length=d:=Z
     rw[List.getElem?_concat_length]at q;exact(Ô q).symm
  .rw[e];split
   .omega
   .rw[Ä,Ø];omega
def abB(v:gw a)(x:xB a O n f)(y:n<10^13)(z:∀d s e g,iD d->kN a d j b s e g->vQ (Č true) d.w): ∀(m i:Nat) (l:fe) (s:List fK) (e:Å) (g:List Å) (p:Array Å),n+1-i=m->i<=n+1->kN a l j b s e g->iD l->EL s g->FF (Í O n c) e j i p->ja vQ l (B7 p)
 |0,i,l,s,e,g,p,hm,hi,h,hb,ht,hT=>by
  obtain rfl:i=n+1:=Z
  exact asj h hb hT λd k o=>z d s e g k o
 |m+1,i,l,s,e,g,p,hm,hi,h,hb,ht,hT=>asl h hb hT Z ht.1 λd r k o u=>
  abA v x Z y (λd r E B C k o q D u=>by obtain⟨t,rfl⟩:=q;exact abB v x y z m (i+1) d _ B C r Z Z o k (D.asv h.G.C t) u) _ 0 d e g r U (É _) o k ht (É _) u
end
section
variable{l:fe}{c:Nat}{f:Nat->ByteArray}
def asw(m:iD l)(u:np l.w)(p:∀b,b=1\/b=2\/b=3\/b=4->l.O b)(D:xB l O n f)(E:n<10^13)(o:Int)(F:-9223372036854775808<=o)(H:o<=9223372036854775807) (I:∀d,iD d->(∀b,l.O b->d.O b/\d.w.heap[b]?=l.w.heap[b]?)->l.w.heap.size<=d.w.heap.size->vQ (Č true) d.w): ja vQ l (G (å À 6 #[Í O n c,Ñ Î o] .normal) []):=by
 have hF:True:=trivial;rw[H2 [_,_] 83 ď];simp only[List.replicate,ð,ó];conv in lk _ _=>whnf
 apply qB;apply gk (n:=40) m.r.r;repeat w_go fC
 refine Æ λ_ _=> ?_;refine .fB λN r=>⟨m.C r,U,?_⟩;have B:=m.C r;refine H3 (f:=15) (args:=#[Ñ Î o]) B U fW (by k_ne) (λw=>by go_simp) (λw=>Ò U Tryz.func15 U U #[]) λC h=> ?_;have i:fI l l.w C:=r.fh ⟨h.r,h.I,h.N,h.Y,h.S⟩;refine arp (B.C h) (u.r (Â u.fv i.r) λb q=>i.I b<|Ë<|p b q) p o F H λJ x K L V g a=> ?_;have P:=g.r.fv x<|Ë a.r.fq;have Q:C.heap.size<=x:=a.I;have M:kN l J x K [iw.mM] (Í é 0 0) []:=⟨⟨L,V,a.r,λb q=>(a.M b q).imp id λz=>Â i.r z,λk e=>by cases e⟩,λb q=>⟨(a.C b q).1,(a.C b q).2.trans<|i.I b<|Ë q⟩,λb q=>m.r.fv b<|Ë<|p b q,Â i.r a.I,Â i.r Z,⟨rfl,Ë ⟨rfl,rfl⟩⟩,λk e=>by cases e⟩;clear a;walk_nrm;apply qB;apply gk (n:=40) g.r.r;repeat w_go fC
 refine Æ λ_ _=> ?_;apply tH (v:=Č false) U fW (by k_ne) g.r.r g.q (λw _=>by go_simp) (λw _ e j=>by simp[go_sem,abd]at j);walk_nrm;apply gk (n:=60) g.r.r;repeat w_bar fC
 w_go fC
 refine Æ λ_ _=> ?_;exact .fB λS t=>⟨g.C t,U,abB m.r D E (λd s T W y j=>I d y j.I j.S) (n+1) 0 _ _ _ _ _ Z (É _) (M.C t) (g.C t) ⟨É _,λj y e=>by cases e⟩ ⟨rfl,rfl,rfl,rfl,rfl⟩⟩
end
def asx(d:np W){N c:Nat}{f:Nat->ByteArray}(e:xB (Mn W) O N f)(g:N<10^13)(a:Int)(h:-9223372036854775808<=a)(i:a<=9223372036854775807): rH (λv w'=>v=Č true/\ny W w') #[G (å À 6 #[Í O N c,Ñ Î a] .normal) []] W é #[]:= arx (l:=Mn W) (asw (abj W) d (arz d) e g a h i λk _ v j=>⟨U,λb q=>(v b q).2,j⟩) (abj W) U
end Go.Proofs.Y.me
