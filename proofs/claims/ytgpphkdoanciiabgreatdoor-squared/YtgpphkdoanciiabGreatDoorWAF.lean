import Derived.Test.YtgpphkdoanciiabGreatDoorWAE
import Derived.Lib.LaidTab
import Derived.OpenShut
import Derived.Test.YtgpphkdoanciiabGreatDoorRows
import Derived.Conc.LeavingOf
import Derived.LaidMore
import Derived.Stop.Joined
import Derived.Carry
set_option linter.all false
set_option maxRecDepth 1000000
set_option maxHeartbeats 8000000
open Go.Proofs.Tryz renaming prog->À,func10->Ĉ,func6->č,underlying23->ď,underlying3->ē,underlying5->ĕ,func9->ġ,func8->Ĥ,ntmps6->ĳ,func7->Ķ,func3->ķ,f3->Ň
open Array renaming length_toList->Á,toList_extract->Ó,toList_inj->à,getElem_toList->ë
open List renaming getElem?_append_left->Â,getElem?_eq_getElem->È,size_toArray->Ì,getElem?_append_right->Ð,length_append->Ö,map_cons->Ù,extract_eq_take_drop->â,cons_append->é,take->î,getElem?_drop->ï,range->ð,getElem?_eq_some_iff->ò,getElem?_map->ó,drop->õ,getD->ö,getElem?_cons_succ->ø,length_cons->ú,nil_append->ÿ,mem_range->Ą,replicate->ĉ,map_nil->Đ,take_add_one->đ,append_assoc->Ē,not_mem_nil->Ĕ,append_nil->Ę,length_set->Ĝ,length_nil->ĝ,mem_cons->ĩ,map->ń
open Go.Conc.Goes renaming stop->Ã
open Option renaming some->Ä,map_eq_some_iff->ý,map_some->ė,none->Ī
open ByteArray renaming size_append->Å,data_extract->Í,size->Õ,ext->Ú,data_append->Û,size_extract->ç,getElem_extract->ħ,extract_extract->Ĩ,append_assoc->ĭ,append_empty->Į,extract->Ļ
open Nat renaming le_trans->Æ,le_refl->Ç,zero_le->Î,sub_self->í,strongRecOn->ę
open Go.Value renaming string->É,int->Ë,pointer->ć,bool->ģ
open Go.IntKind renaming i64->Ê,u64->è,wrap_u64->ü,wrap_i64->ľ
open Go.Conc renaming events_call_body->Ï,goes_leave1->Ĳ
open Go.Proofs.YtgpphkdoanciiabGreatDoor.Rows renaming laid_math_bits_deBruijn32tab->Ñ,laid_math_bits_deBruijn64tab->Ò,laid_attic_attic_stepRules->Ô,laid_internal_strconv_uint64pow10->Ý
open Option.some renaming inj->Ø,injEq->ĺ
open Bool renaming true->Ü,false->á,and_eq_true->ù,false_eq_true->Č
open Int renaming tmod_eq_emod_of_nonneg->Þ,emod_nonneg->Ā
open Go.Frame renaming enter->ß,finish_at->Ğ
open Or renaming inl->ã,inr->ì
open Go.DataW renaming trod->ä,trod_int->Ă,agg->ň
open Go renaming World->å,Value->æ,Frame->Ď,laidMetH->Ġ,maxLen->Ģ,TypeId->ĥ,Operand->Ħ,DataW->į,Act->Ĵ,Item->ĸ,IntKind->Ĺ,Oper->Ľ
open UInt8 renaming ofNat->ê,toNat_inj->Ě
open Go.IntWalk renaming i64_in->ñ
open Go.Lib renaming nDigits_small->ô,tabData->ā,nDigits->ą,decDigits_length->Ć,nDigits_big->ě
open Go.Item renaming inRegion->û
open Go.CallKind renaming normal->þ
open Go.World renaming cell?->ă,var?->ĵ
open And renaming intro->Ċ
open Prod renaming ext->İ,snd->ı,fst->Ń
variable{i n j b k m J j9 j7 j6:Nat}{w u W jX:å}{v x z jQ:æ}{h c:Int}{e t T:ĥ}{d q:Array æ}{P:Go.Program}{y:Ĵ}{B:ByteArray}{X:Nat->Prop}{l:List æ}{K H:Ĵ->å->Prop}{o:Ľ}{L:List ĸ}{jJ:List Nat}{qX:List Ď}{qQ:Ħ}{zQ:List Int}{xJ:Nat×Nat}{vX:List ByteArray}{vQ:æ->å->Prop}{Q:Array Ľ}{f:Ď}
namespace Go.Proofs.Y.kt
open Go Go.Conc Go.Proofs Go.RowKit Go.Proofs.Y.Lift Go.Proofs.Y.gp Go.Proofs.Y.fy Go.Proofs.Y.mO
open Go.Proofs.YtgpphkdoanciiabGreatDoor (Rows.laid_math_bits_deBruijn32tab Rows.laid_math_bits_deBruijn64tab Rows.laid_internal_strconv_uint64pow10 Rows.laid_attic_attic_stepRules)
def MZ:List (String×DataW Unit):=[("math/bits.deBruijn32tab",Ñ),("math/bits.deBruijn64tab",Ò),("internal/strconv.uint64pow10",Ý),("attic/attic.stepRules",Ô)]
theorem M0(h:W.ShapedOpen À)(g:Nat)(t:ĥ)(b:g<À.globals.size)(e:(((begin À (λ_ _=>0) default).world.heap[g]?).bind Obj.row?).map (·.2)=Ä t): ∃a,W.heap[g]?=Ä (.cells a t):=by let⟨⟨z,c⟩,d,f⟩:=ý.1 e;let⟨a,i,_⟩:=h.1 g z c b d;grind
theorem ab7{n:String}(b:À.globalNamed n=Ä i)(h:W.heap[i]?=Ä (.cells q t xJ))(a:W.var? À n=Ä d):q=d:=by unfold ĵ at a;grind
def UH{n:String}{N:Nat}{k:Ĺ}{p:List MemPlace} (a:À.globalNamed n=Ä i) (f:(À.globals[i]?).map (·.type)=Ä t) (h:À.underlying t=Ä (.array N e)) (l:À.underlying e=Ä (.int k)) (m:À.cellsOf e=1) (o:À.cellsOf t=N) (r:W.heap[i]?=Ä (.cells d t xJ)) (s:À.globalNamed n=Ä b) (u:(À.globals[b]?).map (·.type)=Ä T) (v:W.var? À n=Ä q) (w:ä (λ_=>()) À W 0 (λ_=>Ü) á j T q.toList=Ä (ā k zQ,p)):d=(zQ.map λz=>Ë k z).toArray:=by obtain rfl:=Ø<|a.symm.trans s;obtain rfl:=Ø<|f.symm.trans u;rw[ab7 a r v,<-Lib.cells_of_tab h l m o w]
def asQ:À.cellsOf 293=3:=fv
def ab8:À.cellsOf 23=1:=fv
def asR:À.cellsOf 3=1:=fv
def asS:À.cellsOf 294=69:=fv
def asT{p:List MemPlace}(v:ä (λ_=>()) À W 0 (λ_=>Ü) á n 294 l=Ä (Ô,p)): l.length=69/\∀(i:Nat) (r:Int×Int×Int),ja[i]?=Ä r->l[i*3]?=Ä (Ë è r.1)/\l[i*3+1]?=Ä (Ë Ê r.2.1)/\l[i*3+2]?=Ä (Ë Ê r.2.2):=by
 obtain⟨f,m,rfl,w,y,K,z⟩:=DataW.trod_array Tryz.underlying294 v;refine⟨y.trans asS,λi r o=> ?_⟩;have B:i<23:=by have:=(ò.1 o).1;exact this
 have g:=z i B;rw[asQ]at g;have C:f.map (·.1)=ja.map λr=>(ň [.lit<|.int è r.1,.lit<|.int Ê r.2.1,.lit<|.int Ê r.2.2]:į Unit):=by have:=congrArg Ń w;simp only[Ô,DataW.agg.injEq]at this;exact this.symm
 obtain⟨x,q⟩:∃x,f[i]?=Ä x:=⟨_,È Z⟩;rw[q]at g;have d:(f.map (·.1))[i]?=Ä x.1:=by simp[q]
 rw[C]at d;simp only[ó,o,ė,ĺ]at d;obtain⟨e,h,rfl,j,L,D,k⟩:=DataW.trod_struct Tryz.underlying293 g;have a:=k 0 _ U;have b:=k 1 _ U;have c:=k 2 _ U;have a:ä _ À W 0 _ á h 23 (î (À.cellsOf 23)<|õ 0<|î 3<|õ (i*3) l)=e[0]?:=a;have b:ä _ À W 0 _ á h 3 (î (À.cellsOf 3)<|õ 1<|î 3<|õ (i*3) l)=e[1]?:=b;have c:ä _ À W 0 _ á h 3 (î (À.cellsOf 3)<|õ 2<|î 3<|õ (i*3) l)=e[2]?:=c;rw[ab8]at a;rw[asR]at b c;match e,D,j,a,b,c with
 |[y0,y1,y2],_,j,a,b,c=>
  let⟨M,E,F,_⟩:=Ă ď (show ä _ _ _ _ _ _ _ 23 _=Ä y0 from a);let⟨N,G,H,_⟩:=Ă ē (show ä _ _ _ _ _ _ _ 3 _=Ä y1 from b);let⟨O,I,J,_⟩:=Ă ē (show ä _ _ _ _ _ _ _ 3 _=Ä y2 from c);subst F;subst H;subst J;rw[j]at d;simp only[Ù,Đ,DataW.agg.injEq,List.cons.injEq,DataW.lit.injEq,Lit.int.injEq,true_and,and_true]at d;obtain⟨rfl,rfl,rfl⟩:=d;have s:=congrArg (·[0]?) E;have t:=congrArg (·[0]?) G;have u:=congrArg (·[0]?) I;simp[List.getElem?_take,ï]at s t u;exact⟨s,t,u⟩
def ab9(h:∀v∈d.toList,∃k n,v=Ë k n):fT (lq X i) d d:=pL λv a=>by obtain⟨k,n,rfl⟩:=h v a;exact .iF _ _
def asU{l:List (String×DataW Unit)}(h:Ġ P l W)(a:(l.filter λx=>x.2.handleName?.isSome)=[]):∃b,DataW.LaidVars P W l b:=by unfold Ġ at h;rw[a]at h;exact⟨h.choose,h.choose_spec.1⟩
def asV:À.cellsOf 298=32:=fv
def asW:À.cellsOf 299=64:=fv
def asX:À.cellsOf 285=20:=fv
def acd:À.cellsOf 5=1:=fv
def gn1:À.globalNamed "internal/strconv.uint64pow10"=Ä 1:=fv
def gn2:À.globalNamed "attic/attic.stepRules"=Ä 2:=fv
def gn3:À.globalNamed "math/bits.deBruijn32tab"=Ä 3:=fv
def gn4:À.globalNamed "math/bits.deBruijn64tab"=Ä 4:=fv
def M1(g:Nat)(t:ĥ)(h:(g,t)∈[(1,285),(2,294),(3,298),(4,299)]):(À.globals[g]?).map (·.type)=Ä t/\g<À.globals.size/\(((begin À (λ_ _=>0) default).world.heap[g]?).bind Obj.row?).map (·.2)=Ä t:=by
 simp only[ĩ,Ĕ,or_false,Prod.mk.injEq]at h;rcases h with⟨rfl,rfl⟩|⟨rfl,rfl⟩|⟨rfl,rfl⟩|⟨rfl,rfl⟩
 .exact⟨fv,of_decide_eq_true fv,fv⟩
 .exact⟨fv,of_decide_eq_true fv,fv⟩
 .exact⟨fv,of_decide_eq_true fv,fv⟩
 .exact⟨fv,of_decide_eq_true fv,fv⟩
def asY:į Unit->Int
 |.lit (.int _ z)=>z
 |_=>0
def ace:į Unit->List Int
 |ň l=>l.map asY
 |_=>[]
def asZ:(Ñ:į Unit)=ā .u8 (ace Ñ):=rfl
def as0:(Ò:į Unit)=ā .u8 (ace Ò):=rfl
def as1:(Ý:į Unit)=ā è Lib.pow10Tab:=rfl
def as2{k:Ĺ}:∀v∈(zQ.map λz=>Ë k z).toArray.toList,∃k n,v=Ë k n:=λv a=>by simp only[List.mem_map]at a;obtain⟨z,_,rfl⟩:=a;exact⟨_,_,U⟩
def as3(k:Nat)(h:k<69):∃i j,i<23/\j<3/\k=i*3+j:=⟨k/3,k%3,Z,Z,Z⟩
theorem as4{W:å}(hs:W.ShapedOpen À)(hl:Ġ À MZ W):mB W:=by
 obtain⟨ps,g3,t3,cs3,f3,p3,q3,Uy,ht3,hv3,xr,⟨g4,t4,cs4,f4,p4,q4,hg4,G4,hv4,SS,⟨g1,t1,cs1,f1,p1,q1,vT,Bq,hv1,BQ,⟨g2,t2,cs2,f2,p2,q2,Lj,Jp,Mw,oU,_,_⟩,_⟩,_⟩,_⟩:=asU hl (by kernel_rfl);obtain⟨y1,s1,z1⟩:=M1 1 285 (by simp);obtain⟨y2,s2,z2⟩:=M1 2 294 (by simp);obtain⟨y3,s3,z3⟩:=M1 3 298 (by simp);obtain⟨y4,s4,z4⟩:=M1 4 299 (by simp);obtain⟨c1,b1⟩:=M0 hs 1 285 s1 z1;obtain⟨c2,b2⟩:=M0 hs 2 294 s2 z2;obtain⟨c3,b3⟩:=M0 hs 3 298 s3 z3;obtain⟨c4,b4⟩:=M0 hs 4 299 s4 z4;rw[asZ]at xr;rw[as0]at SS;rw[as1]at BQ;have e3:=UH gn3 y3 Tryz.underlying298 ĕ acd asV b3 Uy ht3 hv3 xr;have e4:=UH gn4 y4 Tryz.underlying299 ĕ acd asW b4 hg4 G4 hv4 SS;have e1:=UH gn1 y1 Tryz.underlying285 ď ab8 asX b1 vT Bq hv1 BQ;obtain rfl:=Ø (gn2.symm.trans Lj);obtain rfl:=Ø (y2.symm.trans Jp);obtain⟨hlen,mG⟩:=asT oU;have e2:=ab7 gn2 b2 Mw;subst e2;have as5:=λi r hr=>by have:=mG i r hr;simpa using this
 have acf:∀(k:Nat) (v:æ),c2[k]?=Ä v->∃(kd:Ĺ) (n:Int),v=Ë kd n/\kd≠.u8:=λk v hv=>by
  have hk:k<69:=by grind
  obtain⟨i,j,hi,hj,rfl⟩:=as3 k hk;obtain⟨r,hr⟩:∃r,ja[i]?=Ä r:=⟨_,È (show i<ja.length from hi)⟩;grind
 have kg:=(Array.getElem?_eq_some_iff.1 b4).1;refine⟨?_,?_,⟨c3,_,b3,Î _,Î _,?_,?_⟩,⟨c4,_,b4,Î _,Î _,?_,?_⟩,?_,⟨⟨c2,_,b2⟩,λi r hr=> ?_⟩,?_⟩
 .have h5:nB=5:=by kernel_rfl
  omega
 .rintro b (rfl|rfl)
  .refine⟨c1,285,_,b1,Î _,ab9 (by rw[e1];exact as2),by rw[e1];exact of_decide_eq_true (by kernel_rfl),λk v hv=> ?_,by decide,by decide⟩;rw[e1]at hv;simp only[List.getElem?_toArray,ó,ý]at hv;obtain⟨z,_,rfl⟩:=hv;rfl
  .refine⟨c2,294,_,b2,Î _,ab9 λv hv=> ?_,?_,λk v hv=> ?_,by decide,by decide⟩
   .obtain⟨k,hk,e⟩:=List.mem_iff_getElem.1 hv;obtain⟨kd,n,e',_⟩:=acf k v (by rw[<-e];simp);grind
   .grind
   .obtain⟨kd,n,rfl,hn⟩:=acf k v hv;cases kd<;>first|rfl|exact absurd rfl hn
 .rw[e3];exact of_decide_eq_true (by kernel_rfl)
 .grind
 .rw[e4];exact of_decide_eq_true (by kernel_rfl)
 .grind
 .unfold gp.lN Lib.TabIs ĵ;rw[gn1];grind
 .obtain⟨h0,h1,h2⟩:=as5 i r hr;exact⟨by simp only[ă,b2];exact h0,by simp only[ă,b2];exact h1,by simp only[ă,b2];exact h2⟩
 .unfold qy;simp only[ă,b4,e4];rfl
end Go.Proofs.Y.kt
namespace Go.Proofs.Y.kt
open Go Go.Conc Go.Proofs Go.RowKit Go.Proofs.Y.Lift Go.Proofs.Y.gp Go.Proofs.Y.fy Go.Proofs.Y.mO
open Go.ChangeShapes Go.WideShapes Go.ChangeAt
def ft:ownKnob À.godebug=Ī:=fv
def as6{w':å}(h:nS W w')(a:w'.os=W.os)(b:w'.output=W.output):Below W.heap.size W {w' with tape:=W.tape}:=⟨a,U,b,h.Dh,h.rC⟩
def as7(os:Os)(a:Array æ):Ġ À MZ ((World.doorLaid À 400 os).forCall (λ_ _=>0) ⟨#[],a,[]⟩).memory:= laidMetH_of_parts3 (fuel:=8) (laidMet_of_run' 8 fv fv) fv fv
end Go.Proofs.Y.kt
namespace Go.Proofs.Y.mO
open Go Go.Proofs Go.RowKit Go.Proofs.Y.Lift Go.Proofs.Y.gp
def ve(B:ByteArray)(c:UInt8):Nat->Nat->Nat->List ByteArray
 |0,fr,_=>[B.extract fr B.size]
 |f+1,fr,i=>if h:i<B.size then if B[i]=c then B.extract fr i::ve B c f (i+1) (i+1)else ve B c f fr (i+1)else[B.extract fr B.size]
def acg:List Int->List (List Int)
 |[]=>[[]]
 |a::l=>(a::l)::acg l
def Al:List (List Int):=[[86,58,120,47,66],[86,58,120,115],[86,58,120],[86,58,120,62,121,40,110,44,107,41],[86,58,120,62,121,40,107,41],[86,58,87],[86],[121,61,110],[80],[120,84],[82]].flatMap acg
def as8:∀r∈Al,r.tail∈Al:=A
def ach:∀r∈Al,59∉r/\(r.headD 0=66->r=[66])/\(82∈r->r=[82])/\(80∈r->r=[80]):=A
def as9(k:Int):rn k∈Al/\rn k≠[82]/\80∉rn k:=by
 unfold rn;repeat' split
 all_goals decide
def aci(k:Int):sB k∈Al/\sB k≠[82]:=by
 unfold sB;repeat' split
 all_goals decide
structure lb(D:List PR)(a b:PD):Prop where
 M:a.r=Ü
 N:b.r=Ü
 C:a.S=D
 S:b.S=[]
 r:a.I=b.I
 I:a.M=b.M
 Y:b.M=Ü->a.N=b.N
structure CL(D:List PR)(k:Nat)(a b:PS):Prop where
 r:a.C=b.C
 C:b.C∈Al
 I:a.r=b.r
 N:0<b.r->a.M=b.M
 M:80∈b.C->a.I=b.I/\b.I.toNat<=k
 d:(b.C=[82]/\b.r=0/\a.d.C=D/\b.d.C=[])\/(b.C≠[82]/\lb D a.d b.d)
section
variable{D:List PR}{a b:PD}
def lb.gL(h:lb D a b):a.Y=b.Y:=by
 unfold PD.Y;rw[h.I,h.r];split
 .rw[h.Y ‹_›]
 .rfl
theorem lb.G(h:lb D a b):∃r,a.C=D++[r]/\b.C=[r]:=by unfold PD.C;rw[h.M,h.N,h.C,h.S,h.r,h.gL];grind
def lb.oh(h:lb D a b)(i:Nat)(z:Int):lb D (a.oh i z) (b.oh i z):= ⟨h.M,h.N,h.C,h.S,by unfold PD.oh;rw[h.r],h.I,h.Y⟩
def lb.oG(h:lb D a b)(i:Nat)(z:Int):lb D (a.oG i z) (b.oG i z):= ⟨h.M,h.N,h.C,h.S,h.r,h.I,λq=>by unfold PD.oG;rw[h.Y q]⟩
def lb.iA(h:lb D a b)(i:Nat)(z:Int):lb D (a.iA i z) (b.iA i z):=by
 unfold PD.iA;rw[h.I];split
 .exact h.oG i z
 .exact h.oh i z
def lb.fS(h:lb D a b)(n z:Int):lb D (a.fS n z) (b.fS n z):=by
 unfold PD.fS;repeat' split
 all_goals first|exact h.oh _ _|exact h.iA _ _|exact h
theorem lb.Aq(h:lb D a b)(n:Int):a.G n=b.G n:=by
 unfold PD.G PD.tD;rw[h.r,h.I];by_cases q:b.M=Ü
 .rw[h.Y q]
 .grind
def lb.oH(h:lb D a b)(p:ByteArray):lb D (a.oH p) (b.oH p):= ⟨h.M,h.N,h.C,h.S,h.r,h.I,λq=>by unfold PD.oH;rw[h.Y q]⟩
def lb.nN(h:lb D a b):lb D a.nN b.nN:= ⟨h.M,h.N,h.C,h.S,by unfold PD.nN;rw[h.r,h.gL],U,λ_=>rfl⟩
end
section
variable{D:List PR}{a b g:PS}{o:Nat}{P:ByteArray}
def IY(D:List PR)(k:Nat):Option PS->Option PS->Prop
 |some a,Ä b=>CL D k a b
 |none,Ī=>True
 |_,_=>False
def acj(e:lb D a.d b.d)(f:c≠59)(g:a.r=0/\b.r=0):IY D (k+1) (pQ a c) (pQ b c):=by
 unfold pQ;rw[if_neg λq=>f q.1,e.gL,if_neg (c:=c=59/\b.d.S.length+1<24) λq=>f q.1];split
 .exact⟨U,(by decide:[120,84]∈Al),g.1.trans g.2.symm,(λq=>by have:0<b.r:=q;omega),(λq=>by simp at q),ì ⟨(by decide:[(120:Int),84]≠[82]),e.nN⟩⟩
 .trivial
def acn(e:lb D a.d b.d)(w:Int)(r:List Int)(f:r∈Al)(g:r≠[82])(h:80∉r):CL D (k+1) {om a w c with C:=r} {om b w c with C:=r}:= ⟨U,f,U,λ_=>rfl,λq=>absurd q h,ì ⟨g,e.fS _ _⟩⟩
theorem ata(h:CL D k a b)(m:a.r=0/\b.r=0)(n:c≠59):IY D (k+1) (jU B o a c) (jU B o b c):=by
 have p:=(ach _ h.C).2.2.1;have t:=(ach _ h.C).2.2.2;have i:=as8 _ h.C;have g:0<b.r->a.M=b.M:=λq=>by omega
 unfold jU;rw[h.r];rcases h.d with⟨e,_,u,v⟩|⟨e,f⟩
 .rw[e];simp only[if_true];unfold yd;split
  .trivial
  .let⟨x,y,z⟩:=as9<|we c;exact⟨U,x,h.I,g,λq=>absurd q z,ì ⟨y,U,U,u,v,U,U,λq=>by cases q⟩⟩
 .cases j:b.C with
  |nil=>exact acj f n m
  |cons w l=>
   rw[j]at p t i e;have C:w≠82:=λq=>by subst q;exact e<|p fq
   have r:l≠[82]:=λq=>by grind
   have s:80∉l:=λq=>by grind
   simp only[if_neg C];split
   .split
    .exact acn (a:={a with C:=[84],d:=a.d.nN}) (b:={b with C:=[84],d:=b.d.nN}) f.nN 120 [84] A A A
    .exact acj f n m
   .split
    .unfold ye;split
     .trivial
     .exact⟨U,(aci _).1,h.I,g,λ_=>⟨U,Î _⟩,ì ⟨(aci _).2,f.oG _ _⟩⟩
    .split
     .rename_i q;subst q;let⟨E,F⟩:=h.M (by rw[j];simp);rw[E];split
      .exact⟨U,i,h.I,g,λq=>absurd q s,ì ⟨r,f.oH _⟩⟩
      .split
       .trivial
       .exact⟨U,j▸h.C,h.I,g,λ_=>⟨U,by show(b.I+1).toNat<=k+1;omega⟩,ì ⟨e,f⟩⟩
     .split
      .exact acn f w l i r s
      .trivial
def atb(a:80∈b.C->B.extract (o-b.I.toNat) o=P.extract (k-b.I.toNat) k):kT P k b c=kT B o b c:=by
 unfold kT jU;cases d:b.C with
 |nil=>rfl
 |cons w e=>
  by_cases q:w=80
  .subst q;simp only;rw[a (by rw[d];simp)]
  .simp only[if_neg q]
def atc(h:CL D k a b)(g:c≠59):IY D (k+1) (kT B o a c) (kT B o b c):=by
 unfold kT;rw[h.I];split
 .rename_i q;rcases h.d with⟨_,e,_⟩|⟨e,f⟩
  .omega
  .refine⟨h.r,h.C,by show a.r-1=b.r-1;rw[h.I],λ_=>h.N q.1,λz=>⟨(h.M z).1,Nat.le_succ_of_le (h.M z).2⟩,ì ⟨e,?_⟩⟩;unfold Cu;rw[h.N q.1,f.Aq];exact f.fS _ _
 .exact ata (a:={a with r:=0}) (b:={b with r:=0}) ⟨h.r,h.C,U,(λq=>by cases q),h.M,h.d.imp (λz=>⟨z.1,rfl,z.2.2⟩) id⟩ ⟨rfl,rfl⟩ g
def Fw(z:PS):Prop:=z.C=[]\/z.C=[66]
end
end Go.Proofs.Y.mO
namespace Go.Proofs.Y.kt
open Go Go.Conc Go.Proofs Go.RowKit Go.Proofs.Y.Lift Go.Proofs.Y.gp Go.Proofs.Y.fy Go.Proofs.Y.mO
open Go.Conc.Lib Go.ConcR.Gen Go.Proofs.YtgpphkdoanciiabGreatDoor
def wx(r:PR):Int×Nat×List Tx:=(r.c.getD 5 0,(r.c.getD 0 0).toNat,r.r.map toTx)
def CM(r:PR)(s:List fM):ByteArray:=if r.c.getD 4 0=1 then(rh (oe s) (wx r).1 (wx r).2.1 (wx r).2.2).2 else rm (oe s) (toQn r)
def Fy(s:List fM)(r:PR):List fM:=if r.c.getD 4 0=1 then Ct s (wx r)else s
def sd(s:List fM)(rs:List PR):List fM:=rs.foldl Fy s
def aco{kd:Nat->Int}(h:kd i=1):∀n,i<n->(gZ kd n).getD (fN kd i) 0=i
 |0,q=>by omega
 |n+1,q=>by
  have a:i<n->∀x,(gZ kd n++x).getD (fN kd i) 0=i:=λz x=>by
   have b:fN kd i<(gZ kd n).length:=by
    have e:∀m,i+1<=m->(gZ kd<|i+1).length<=(gZ kd m).length:=λm=>by
     induction m with
     |zero=>intro z;omega
     |succ m c=>
      intro z;rcases Nat.lt_or_ge i m with y|y
      .apply Æ (c y);by_cases q:kd m=1
       .rw[tq q];simp
       .rw[vL q];exact Ç _
      .rw[show m=i by omega];exact Ç _
    have:=e n z;rw[tq h]at this;unfold fN;simp at this;omega
   have:=aco h n z;simp only[ö,Â b]at this|-;exact this
  by_cases z:i<n
  .by_cases q:kd n=1
   .rw[tq q];exact a z _
   .rw[vL q];have:=a z [];rwa[Ę]at this
  .obtain rfl:i=n:=Z
   rw[tq h];simp[ö,fN]
section
variable{rs:List PR}{s:List fM}{P:ByteArray}
def UI:∀p,p<=rs.length->pO (wo rs) (gZ (kU rs) rs.length) s (fN (kU rs) p)=sd s (rs.take p)
 |0,_=>by simp[fN,gZ,pO,sd]
 |p+1,h=>by
  have a:=UI p Z;have b:rs.take (p+1)=rs.take p++[rs.getD p o5]:=by rw[đ];congr 1;simp[ö,show p<rs.length by omega]
  unfold sd at a|-;rw[b,List.foldl_append,<-a];show _=Fy _ _;unfold Fy;by_cases q:kU rs p=1
  .rw[if_pos (show(rs.getD p o5).c.getD 4 0=1 from q)];have e:fN (kU rs) (p+1)=fN (kU rs) p+1:=by unfold fN;rw[tq q];simp
   rw[e];show Ct _ _=_;rw[aco q _ Z];rfl
  .rw[if_neg (show¬(rs.getD p o5).c.getD 4 0=1 from q)];have e:fN (kU rs) (p+1)=fN (kU rs) p:=by unfold fN;rw[vL q]
   rw[e]
def atd{p:Nat}(h:p<rs.length):(k9 rs s)[p]?=Ä (CM (rs.getD p o5)<|sd s<|rs.take p):=by unfold k9;rw[ó,List.getElem?_range h,ė,UI p Z];rfl
theorem ate:wq rs s=sd s rs:=by unfold wq;rw[UI _<|Ç _,List.take_length]
theorem atf{r:PR}(h:ik P=(0,0,[r])):nQ s P=(CM r s,0,Fy s r):=by
 have a:=atd (rs:=[r]) (s:=s) (p:=0) Nat.one_pos;have e:k9 [r] s=[CM r s]:=by
  match hx:k9 [r] s,UB with
  |[y],_=>
   rw[hx]at a;simpa[sd]using a
 unfold nQ;rw[h];simp only[if_true,e,ate];rw[show jB ⟨#[59]⟩ [CM r s]=CM r s from Ú (by simp[jB,Mm,nK])];rfl
end
def atg{α β:Type}(f:α->β)(d:α)(l:List α):((ð l.length).map λi=>f<|l.getD i d)=l.map f:=by
 refine List.ext_getElem fq λi b a=> ?_;have h:i<l.length:=by simpa using a
 simp[ö,h]
def ath{s:List fM}{a:List PR}(h:ik B=(0,0,a))(f:∀r∈a,r.c.getD 4 0≠1):nQ s B=(jB ⟨#[59]⟩ (a.map λr=>rm (oe s)<|toQn r),0,s):=by
 have d:∀p,p<a.length->kU a p≠1:=λp b=>f _ (by simp[ö,b]);have e:∀p,p<=a.length->gZ (kU a) p=[]:=λp b=>by unfold gZ;rw[List.filter_eq_nil_iff];intro j g;have:=Ą.1 g;simpa using d j Z
 have g:k9 a s=a.map λr=>rm (oe s) (toQn r):=by rw[<-atg (λr=>rm (oe s)<|toQn r) o5];unfold k9;refine List.map_congr_left λp b=> ?_;have b:=Ą.1 b;unfold fN vZ;rw[e p Z,if_neg<|d p b];rfl
 have j:wq a s=s:=by unfold wq fN;rw[e _<|Ç _];rfl
 unfold nQ;rw[h];simp only[g,j,if_true]
def yk(d:Nat):ByteArray:=Ļ ⟨#[48,49,50,51,52,53,54,55,56,57]⟩ d<|d+1
def ati:(ð 10).map yk=(ð 10).map λd=>⟨#[ê<|48+d]⟩:=fv
theorem Fz(h:i<10):yk i=⟨#[ê<|48+i]⟩:=by have:=congrArg (λl=>l[i]?) ati;simpa[h]using this
theorem M3(h:i<10):fH i=yk i:=by unfold fH;grind [Lib.decDigits_one,Fz]
theorem UJ(h:¬n<10):fH n=fH (n/10)++yk (n%10):=by rw[Fz Z];unfold fH;rw[Lib.decDigits,dif_neg h];apply Ú;simp_all
noncomputable def M4:Code:=(Tryz.f9.body.bind gp.kz).getD .skip
def FA(n:Int)(s:ByteArray)(u:Nat->æ):Ĵ:=⟨#[Ë è n,u 1,u 2,É s,u 4,u 5,u 6,u 7,u 8,u 9,u 10,u 11,u 12,u 13,u 14,u 15,u 16,u 17,u 18,u 19,u 20,u 21,u 22,u 23,u 24,u 25,u 26],[]⟩
def FB(n:Int)(s:ByteArray)(a:Ĵ):Prop:=∃u,a=FA n s u
theorem acp{s:ByteArray}(h:i<10)(a:s.size<=20):Ê.wrap ((i:Int)+1)=(i:Int)+1/\Ê.wrap (i:Int)=i/\(0:Int)<=(i:Int)+1/\(i:Int)+1<=10/\(i:Int)<=(i:Int)+1/\((i:Int)+1).toNat=i+1/\¬9223372036854775807<min (i+1) 10-i+s.size:=by grind [ľ]
section
variable{s:ByteArray}
def atj(u:Nat->æ)(c:n<10)(b:∀a,FB n s a->H a w):Code.wp À M4 (Exit.then K<|QE 0 H) (FA n s u) w:=by
 unfold FA;conv=>arg 2;whnf
 go_wp2_with fail
 exact⟨U,b _ (gp.gu _)⟩
def atl(u:Nat->æ)(f:¬n<10)(g:n<18446744073709551616)(i:s.size<=20)(c:∀a,FB ((n/10:Nat):Int) (yk (n%10)++s) a->K a w):Code.wp À M4 (Exit.then K<|QE 0 H) (FA n s u) w:=by
 unfold FA;conv=>arg 2;whnf
 have j:(n:Int).tmod 10=((n%10:Nat):Int):=by rw[Þ Z];omega
 have k:(n:Int).tdiv 10=((n/10:Nat):Int):=by rw[Int.tdiv_eq_ediv_of_nonneg Z];omega
 have b:=fg c;clear c;have e:n%10<10:=Z
 have l:n/10<18446744073709551616:=Z
 generalize n%10=d at*;generalize n/10=q at*;let⟨m,o,p,r,t,v,x⟩:=acp e (s:=s) Z;go_wp2_with fail;exact b.out _ (gp.gu _)
def UK(b:ByteArray)(c:å)(a:Ĵ)(w:å):Prop:=∃(n:Nat) (s:ByteArray),FB n s a/\n<18446744073709551616/\fH n++s=b/\w=c
def UL(b:ByteArray)(c:å)(a:Ĵ)(w:å):Prop:=∃(n:Nat) (s:ByteArray),FB n s a/\n<10/\yk n++s=b/\w=c
def xW(a:Ĵ)(_:å):Nat:=match a.tmps.getD 0 undef with
 |Ë _ i=>i.toNat
 |_=>0
def Ii(b:FB n s y):xW y w=n:=by obtain⟨u,rfl⟩:=b;show(n:Int).toNat=_;simp
theorem atm(i:B.size<=20)(a:Ĵ)(w:å)(g:UK B u a w): Code.wp À M4 (Exit.then (λb c=>UK B u b c/\xW b c<xW a w)<|QE 0<|UL B u) a w:=by
 let⟨n,s,d,h,e,f⟩:=g;rw[Ii d];obtain⟨b,rfl⟩:=d;have j:(fH n).size+s.size=B.size:=by rw[<-e,Å]
 by_cases c:n<10
 .exact atj b c λa q=>⟨n,s,q,c,by rwa[<-M3 c],f⟩
 .refine atl b c h Z λa q=>⟨⟨n/10,_,q,Z,?_,f⟩,by rw[Ii q];omega⟩;grind [ĭ,UJ]
def acr(n:Nat)(b:n<18446744073709551616)(w:å):Calls À 9 #[Ë è n] w λe f=>e=.returned (É<|fH n)/\f=w:=by
 have L:∀a,FB n ⟨#[]⟩ a->Code.wp À (Code.loop M4) (QE 0<|UL (fH n) w) a w:=λa g=>
  wp_loop (UK (fH n) w) xW ⟨n,⟨#[]⟩,g,b,Į,U⟩<|atm<|pI n b
 have H:=fg<|Ċ L<|pI n b;generalize fH n=res at*;clear L;go_enter ġ,Tryz.ntmps9;go_wp2_with fail;refine Code.wp_mono (Q:=QE 0<|UL res w) ?_ (H.out.1 _ (gp.gu _));rintro(_|_|_|_|_|_) a v hq;all_goals first|exact absurd hq id|skip
 obtain⟨rfl,d,s,i,j,c,rfl⟩:=hq;obtain⟨u,rfl⟩:=i;unfold FA;have k:(yk d).size+s.size=res.size:=by rw[<-c,Å]
 have m:=H.out.2;let⟨o,p,q,r,t,x,y⟩:=acp j (s:=s) Z;have l:=fg c;clear k c;go_wp2_with fail;go_ret;exact⟨by rw[<-l.out];rfl,U⟩
end
abbrev ou(B:ByteArray):Prop:=(59:UInt8)∉B.data.toList
def ou.r{a:ByteArray}(h:ou a)(k:ou B):ou (a++B):=by unfold ou at*;simp_all
theorem ou.C(h:ou B)(i j:Nat):ou (B.extract i j):=by grind [Í,Ó]
theorem UM(n:Nat):ou (fH n):=by
 induction n using ę with
 |_ n b=>
  have a:∀d,ou (yk d):=λd=>ou.C A _ _;by_cases h:n<10
  .rw[M3 h];exact a n
  .rw[UJ h];exact(b _ Z).r<|a _
def o6(c:UInt8):List UInt8->List UInt8->List (List UInt8)
 |cur,[]=>[cur]
 |cur,x::r=>if x=c then cur::o6 c [] r else o6 c (cur++[x]) r
def UN(B:ByteArray)(c:UInt8):∀f a i,B.size-i=f->a<=i->i<=B.size->ve B c f a i=(o6 c (B.extract a i).data.toList<|B.data.toList.drop i).map λl=>⟨l.toArray⟩
 |0,a,i,hf,h1,h2=>by
  obtain rfl:i=B.size:=Z
  rw[List.drop_eq_nil_of_le (by rw[Á];exact Ç _)];rfl
 |f+1,a,i,hf,h1,h2=>by
  have b:i<B.size:=Z
  have d:i<B.data.toList.length:=by rwa[Á]
  have e:B.data.toList[i]=B[i]:=by rw[ë];rfl
  rw[List.drop_eq_getElem_cons d,e];unfold ve o6;rw[dif_pos b];split
  .have g:(B.extract (i+1)<|i+1).data.toList=[]:=by
    rw[Í,Ó];simp
   rw[UN B c f (i+1) (i+1) Z (Ç _) Z,g];rfl
  .rw[UN B c f a (i+1) Z Z Z];congr 2;rw[Í,Í,Ó,Ó,â,â,show i+1-a=i-a+1 by omega,đ,ï,show a+(i-a)=i by omega,È d,e];rfl
def acs{c:UInt8}:∀(x a r:List UInt8),c∉x->o6 c a (x++c::r)=(a++x)::o6 c [] r
 |[],a,r,_=>by simp[o6]
 |y::x,a,r,h=>by rw[show o6 c a (y::x++c::r)=if y=c then a::o6 c [] (x++c::r)else o6 c (a++[y]) (x++c::r)from U,if_neg λq=>h (by simp[q]),acs x _ r λq=>h (by simp[q])];simp
def acu{c:UInt8}:∀(x a:List UInt8),c∉x->o6 c a x=[a++x]
 |[],a,_=>by simp[o6]
 |y::x,a,h=>by unfold o6;rw[if_neg λq=>h (by simp[q]),acu x _ λq=>h (by simp[q])];simp
def acv:∀(r:List ByteArray) (x:ByteArray) (a:List UInt8),ou x->(∀y∈r,ou y)->o6 59 a (x.data.toList++nK ⟨#[59]⟩ r)=(a++x.data.toList)::r.map λy=>y.data.toList
 |[],x,a,h,_=>by show o6 59 a (x.data.toList++[])=_;rw[Ę,acu _ _ h];rfl
 |y::r,x,a,h,k=>by show o6 59 a (x.data.toList++59::(y.data.toList++nK ⟨#[59]⟩ r))=_;rw[acs _ _ _ h,acv r y [] (k y fq) λz b=>k z (by simp[b])];rfl
def atn(a:vX≠[])(h:∀x∈vX,ou x):ve (jB ⟨#[59]⟩ vX) 59 (jB ⟨#[59]⟩ vX).size 0 0=vX:=by
 rw[UN _ _ _ 0 0 (Nat.sub_zero _) (Ç _)<|Î _];match vX,a with
 |x::r,_=>
  have e:((jB ⟨#[59]⟩<|x::r).extract 0 0).data.toList=[]:=by simp_all
  rw[e,List.drop_zero];show(o6 59 []<|x.data.toList++nK ⟨#[59]⟩ r).map _=_;rw[acv r x [] (h x fq) λy b=>h y (by simp[b])];simp[Function.comp_def]
end Go.Proofs.Y.kt
namespace Go.Proofs.Y.mO
open Go Go.Proofs Go.RowKit Go.Proofs.Y.Lift Go.Proofs.Y.gp
section
variable{a b:PS}{d:PD}
theorem wy{f:Nat}(c:k<B.size)(d:kT B k a (B[k].toNat:Int)=Ä b):jV B (f+1) k a=jV B f (k+1) b:=by rw[jV,dif_pos c,d]
end
end Go.Proofs.Y.mO
namespace Go.Proofs.Y.kt
open Go Go.Conc Go.Proofs Go.RowKit Go.Proofs.Y.Lift Go.Proofs.Y.gp Go.Proofs.Y.fy Go.Proofs.Y.mO
open Go.Conc.Lib Go.ConcR.Gen Go.Proofs.YtgpphkdoanciiabGreatDoor
def CN(r:PR)(a:fM):Option fM:=(vU (wx r).2.1 a.s (wx r).2.2).map λq=>⟨q.1,q.2.1,q.2.2,a.h+1⟩
theorem acw{s:List fM}{v:fM}(h:s[n]?=Ä v):mN (oe s) n=Ä (0,v):=by unfold mN oe;grind
theorem ato{s:List fM}{r:PR}(d:r.c.getD 4 0=1){a:fM}(b:mN (oe s) (r.c.getD 5 0)=Ä (0,a))(e:s.length<40): CM r s=(match CN r a with
  |none=>nV 5
  |some _=>oD s.length)/\Fy s r=match CN r a with
  |none=>s
  |some v=>s++[v]:=by
 have f:(oe s).length=s.length:=by simp[oe]
 have g:rh (oe s) (wx r).1 (wx r).2.1 (wx r).2.2=match CN r a with
  |none=>(Ī,nV 5)
  |some v=>(Ä v,oD s.length):=by
  unfold rh CN;rw[show(wx r).1=r.c.getD 5 0 from rfl,b];grind
 unfold CM Fy Ct sx;grind [Iy]
theorem atp{s:List fM}{r:PR}(h:ik B=(0,0,[r]))(a:r.c.getD 4 0=1)(b:r.c.getD 5 0=0){v0:fM}(d:s[0]?=Ä v0)(e:s.length<40): nQ s B=match CN r v0 with
  |none=>(nV 5,0,s)
  |some v=>(oD s.length,0,s++[v]):=by
 obtain⟨v,f⟩:=ato a (by rw[show r.c.getD 5 0=((0:Nat):Int)from b];exact acw d) e;grind [atf]
end Go.Proofs.Y.kt
namespace Go.Proofs.Y.mO
open Go Go.Proofs Go.RowKit Go.Proofs.Y.Lift Go.Proofs.Y.gp
section
variable{T p:ByteArray}{a b:PS}
def sH(j:Int):PS:=⟨[80],0,j,120,⟨[],Ü,⟨[0,0,0,0,1,0,0,0],[]⟩,Ü,⟨[1,0,0,0,2],⟨#[]⟩⟩⟩⟩
def rP(p:ByteArray):PR:=⟨[0,0,0,0,1,0,0,0],[⟨[1,0,0,0,2],p⟩]⟩
def iA(p:ByteArray):ByteArray:=⟨#[105,48,58,97,47,98,123]⟩++p++⟨#[125]⟩
theorem UO{l:List UInt8}(h:T.data.toList=l)(i:Nat)(a:i<T.size):∃b:i<l.length,T[i]=l[i]:=by subst h;exact⟨by rwa[Á],by rw[ë];rfl⟩
def acy(a:T.data.toList=105::48::58::97::47::98::123::(p.data.toList++[125]))(h:125∉p.data.toList)(i:T.size=p.size+8):∀(m j:Nat),p.size-j=m->j<=p.size->(jV T (m+1) (7+j)<|sH j).1=T.size->(jV T (m+1) (7+j)<|sH j).2.d.C=[rP p]/\(jV T (m+1) (7+j)<|sH j).2.C=[]
 |0,j,hm,hj,hr=>by
  obtain rfl:j=p.size:=Z
  have b:p.data.toList.length=p.size:=by rw[Á];rfl
  have c:T[7+p.size]'Z=125:=by
   let⟨q,e⟩:=UO a (7+p.size) Z;have:(105::48::58::97::47::98::123::(p.data.toList++[125]))[7+p.size]?=Ä 125:=by rw[show 7+p.size=p.size+1+1+1+1+1+1+1 by omega];simp only[ø];rw[Ð Z,b,í];rfl
   rw[È q]at this;rw[e];exact Ø this
  have g:T.extract (7+p.size-((p.size:Nat):Int).toNat) (7+p.size)=p:=by apply Ú;apply à.1;rw[Í,Ó,a,Int.toNat_natCast,Nat.add_sub_cancel,â];show î (7+p.size-7) (p.data.toList++[125])=_;rw[Nat.add_sub_cancel_left,<-b,List.take_left]
  have e:kT T (7+p.size) (sH p.size) ((T[7+p.size]'Z).toNat:Int)=Ä {sH p.size with C:=[],r:=0,d:=(sH p.size).d.oH p}:=by rw[c];show jU T (7+p.size) {sH p.size with r:=0} 125=_;unfold jU;simp only[sH];rw[g];simp
  rw[wy Z e];exact⟨U,U⟩
 |m+1,j,hm,hj,hr=>by
  have b:p.data.toList.length=p.size:=by rw[Á];rfl
  obtain⟨c,g⟩:∃c,T[7+j]'Z=c:=⟨_,U⟩;have k:c∈p.data.toList:=by
   let⟨q,e⟩:=UO a (7+j) Z;rw[<-g,e];have:(105::48::58::97::47::98::123::(p.data.toList++[125]))[7+j]?=Ä (p.data.toList[j]'Z):=by rw[show 7+j=j+1+1+1+1+1+1+1 by omega];simp only[ø];rw[Â Z,È]
   rw[È q]at this;rw[Ø this];exact List.getElem_mem _
  have l:(c.toNat:Int)≠125:=λq=>h (by have:c=125:=Ě.1 (by show c.toNat=125;omega);rwa[<-this]);have e:kT T (7+j) (sH j) (c.toNat:Int)=if(j:Int)=40\/lB (c.toNat:Int)=0 then Ī else Ä (sH ((j+1:Nat):Int)):=by show jU T (7+j) {sH j with r:=0} (c.toNat:Int)=_;unfold jU;simp only[sH];simp[l];rfl
  by_cases q:(j:Int)=40\/lB (c.toNat:Int)=0
  .rw[if_pos q]at e;exfalso;rw[jV,dif_pos (show 7+j<T.size by omega),g,e]at hr;simp only at hr;omega
  .rw[if_neg q]at e;rw[wy (f:=m+1) (show 7+j<T.size by omega) (by rwa[g])]at hr|-;exact acy a h i m (j+1) Z Z hr
theorem atq(d:125∉p.data.toList)(h:(ik<|iA p).1=0):ik (iA p)=(0,0,[rP p]):=by
 obtain⟨T,a⟩:∃T,iA p=T:=⟨_,U⟩;have f:T.data.toList=105::48::58::97::47::98::123::(p.data.toList++[125]):=by rw[<-a];unfold iA;simp_all
 have b:T.size=p.size+8:=by rw[<-a];unfold iA;rw[Å,Å];show 7+p.size+1=_;omega
 rw[a]at h|-;have g:∀i c (j:i<T.size),(105::48::58::97::47::98::123::(p.data.toList++[125]))[i]?=Ä c->T[i]=c:=λi c j e=>by grind [UO]
 have k:lC T=jV T (p.size+1) (7+0) (sH (0:Nat)):=by unfold lC;rw[b,wy Z (by rw[g 0 105 _ U];rfl),wy Z (by rw[g 1 48 _ U];rfl),wy Z (by rw[g 2 58 _ U];rfl),wy Z (by rw[g 3 97 _ U];rfl),wy Z (by rw[g 4 47 _ U];rfl),wy Z (by rw[g 5 98 _ U];rfl),wy Z (by rw[g 6 123 _ U];rfl)];rfl
 have l:T.size≠0:=Z
 unfold ik lP at h|-;split at h
 .cases h
 .rename_i m;rw[if_neg m];split at h
  .rename_i q;simp only[if_neg l]at q|-;rw[if_pos q];simp only[ù,decide_eq_true_eq]at q;have:=acy f d b p.size 0 U (Î _) (by rw[<-k];exact q.1);grind
  .cases h
end
end Go.Proofs.Y.mO
namespace Go.Proofs.Y.mO
open Go Go.Proofs Go.RowKit Go.Proofs.Y.Lift Go.Proofs.Y.gp Go.Proofs.Y.kt
section
variable{P:ByteArray}{D:List PR}{a b:PS}{r:PR}
def IY.NC{o:Option PS}(h:IY D k o (Ä b)):∃a,o=Ä a/\CL D k a b:=by
 cases o with
 |none=>cases h
 |some a=>exact⟨a,U,h⟩
theorem acz(h:ik P=(0,0,[r])):∃z,jV P P.size 0 nO=(P.size,z)/\Fw z/\z.d.C=[r]:=by
 unfold ik lP lC at h;split at h
 .cases h
 .by_cases a:P.size=0
  .grind
  .rw[if_neg a]at h;split at h
   .rename_i q;simp only[ù,Bool.or_eq_true,decide_eq_true_eq]at q;refine⟨(jV P P.size 0 nO).2,İ q.1 U,q.2,?_⟩;grind
   .cases h
def UP(c:UInt8):∀(f a i:Nat),B.size-i=f->i<=B.size->∃e l,i<=e/\e<=B.size/\ve B c f a i=B.extract a e::l
 |0,a,i,hf,hi=>⟨B.size,[],Z,Ç _,U⟩
 |f+1,a,i,hf,hi=>by
  have b:i<B.size:=Z
  unfold ve;rw[dif_pos b];split
  .exact⟨i,_,Ç _,hi,U⟩
  .let⟨e,l,h,d,g⟩:=UP c f a (i+1) Z Z;exact⟨e,l,Z,d,g⟩
theorem acA(c:CL D k a b)(g:Fw b)(e:b.d.C=[r]):Fw a/\lb D a.d b.d/\a.d.C=D++[r]:=by
 rcases c.d with⟨q,_⟩|⟨_,f⟩
 .grind
 .let⟨j,h,i⟩:=f.G;rw[i]at e;cases e;refine⟨?_,f,h⟩;unfold Fw;rwa[c.r]
def UQ:∀(f h i:Nat) (D:List PR) (a b m:PS) (P:ByteArray) (l:List ByteArray) (r:PR) (j:List PR),B.size-i=f->h<=i->i<=B.size->CL D (i-h) a b->ve B 59 f h i=P::l-> jV P (P.size-(i-h)) (i-h) b=(P.size,m)->Fw m->m.d.C=[r]->(l.map ik=j.map λr=>(0,0,[r]))->D.length+1+l.length<=24->∃z,jV B f i a=(B.size,z)/\Fw z/\z.d.C=D++r::j
 |0,h,i,D,a,b,m,P,l,r,j,hf,h1,h2,hs,hc,hr,hA,nG,hl,hn=>by
  obtain rfl:i=B.size:=Z
  cases hc;have p:(B.extract h B.size).size=B.size-h:=by rw[ç];omega
  rw[p,í]at hr;have e:b=m:=congrArg ı hr;subst e;let⟨s,_,t⟩:=acA hs hA nG;cases j with
  |nil=>exact⟨a,U,s,t⟩
  |cons y j=>cases hl
 |f+1,h,i,D,a,b,m,P,l,r,j,hf,h1,h2,hs,hc,hr,hA,nG,hl,hn=>by
  have u:i<B.size:=Z
  rw[show ve B 59 (f+1) h i=if B[i]=59 then B.extract h i::ve B 59 f (i+1) (i+1)else ve B 59 f h (i+1)from dif_pos u]at hc;by_cases q:B[i]=59
  .rw[if_pos q]at hc;cases hc;have p:(B.extract h i).size=i-h:=by rw[ç];omega
   rw[p,í]at hr;have e:b=m:=congrArg ı hr;subst e;let⟨s,kd,t⟩:=acA hs hA nG;let⟨e,x,C,E,n⟩:=UP (B:=B) 59 f (i+1) (i+1) Z Z;rw[n]at hl hn;simp only[ú]at hn;cases j with
   |nil=>cases hl
   |cons y j=>
    rw[Ù,Ù]at hl;injection hl with ED Te;let⟨F,v,w,G⟩:=acz ED;have H:kT B i a (B[i].toNat:Int)=Ä {a with r:=0,C:=[82]}:=by
     rw[q];have I:¬(0<a.r/\jk ((59:UInt8).toNat:Int)=Ü):=by simp[jk]
     unfold kT;rw[if_neg I];unfold jU;have g:pQ {a with r:=0} ((59:UInt8).toNat:Int)=Ä {a with r:=0,C:=[82]}:=by unfold pQ;rw[if_pos ⟨U,by show a.d.S.length+1<24;rw[kd.C];omega⟩]
     rcases s with k|k
     .simp only[k]at g|-;exact g
     .simp only[k]at g|-;exact g
    rw[jV,dif_pos u,H];let⟨z,g,I,J⟩:=UQ f (i+1) (i+1) (D++[r]) {a with r:=0,C:=[82]} nO F _ x y j Z (Ç _) Z (by rw[í];exact⟨U,A,U,(λq=>by cases q),(λq=>by simp[nO]at q),ã ⟨rfl,rfl,t,rfl⟩⟩) n (by rwa[í]) w G Te (by simp only[Ö,List.length_singleton];omega);exact⟨z,g,I,by rw[J];simp⟩
  .rw[if_neg q]at hc;let⟨e,x,C,E,n⟩:=UP (B:=B) 59 f h (i+1) Z Z;rw[hc]at n;cases n;have p:(B.extract h e).size=e-h:=by rw[ç];omega
   have I:i-h<(B.extract h e).size:=Z
   have t:(B.extract h e)[i-h]=B[i]:=by rw[ħ];congr 1;omega
   rw[show(B.extract h e).size-(i-h)=(B.extract h e).size-(i+1-h)+1 by omega,jV,dif_pos I,t,atb (B:=B) (o:=i) (λz=>by have:=(hs.M z).2;rw[Ĩ];congr 1<;>omega)]at hr;have g:=atc (B:=B) (o:=i) hs (c:=B[i].toNat) λz=>q (by apply Ě.1;show B[i].toNat=59;omega);cases s:kT B i b (B[i].toNat:Int)with
   |none=>
    rw[s]at hr;have:=congrArg Ń hr;simp only at this;omega
   |some y=>
    rw[s]at hr g;let⟨F,v,w⟩:=g.NC;rw[jV,dif_pos u,v];exact UQ f h (i+1) D F y m _ l r j Z Z Z (by rwa[show i+1-h=i-h+1 by omega]) hc (by rw[show i+1-h=i-h+1 by omega];rwa[show i+1-h=i-h+1 by omega]at hr) hA nG hl hn
def atr{Ps:List ByteArray}{b:List PR}(a:Ps.map ik=b.map λr=>(0,0,[r]))(f:∀P∈Ps,ou P)(d:Ps≠[])(g:Ps.length<=24)(p:(jB ⟨#[59]⟩ Ps).size<=1200):ik (jB ⟨#[59]⟩ Ps)=(0,0,b):=by
 have h:=atn d f;generalize jB ⟨#[59]⟩ Ps=B at*;match Ps,b,a,d with
 |P::l,r::ys,a,_=>
  rw[Ù,Ù]at a;injection a with h1 h2;let⟨i,j,k,m⟩:=acz h1;let⟨z,c,e,n⟩:=UQ B.size 0 0 [] nO nO i P l r ys U (Ç _) (Î _) ⟨U,A,U,(λ_=>rfl),(λq=>by simp[nO]at q),ã ⟨U,U,U,U⟩⟩ h j k m h2 (by simp at g|-;omega);have o:B.size≠0:=λq=>by rw[q]at c;have:nO=z:=congrArg ı c;subst this;rcases e with w|w<;>cases w
  unfold ik lP lC;rw[if_neg Z,if_neg o,c,n];rcases e with w|w<;>simp[w]
 |_::_,[],a,_=>cases a
end
def na(T:ByteArray)(k:Nat)(l:List UInt8):Prop:=∃r,T.data.toList.drop k=l++r
section
variable{T:ByteArray}{st b:PS}{d:PD}{l a:List UInt8}{want:Int}{tl:List Int}
def na.I(h:na T k (l++a)):na T k l:=by let⟨r,e⟩:=h;exact⟨a++r,by rw[e,Ē]⟩
theorem na.C(h:na T k (l++a)):na T (k+l.length) a:=by let⟨r,e⟩:=h;refine⟨r,?_⟩;grind [List.drop_drop,Ē,List.drop_left]
def na.atu{c:UInt8}(h:na T k (c::l)):∃a:k<T.size,T[k]=c:=by
 let⟨r,e⟩:=h;have b:=congrArg (λx=>x[0]?) e;simp only[ï,Nat.add_zero,é,List.getElem?_cons_zero]at b;let⟨x,d⟩:=ò.1 b;have a:k<T.size:=by rwa[Á]at x
 refine⟨a,?_⟩;rw[<-d,ë];rfl
def na.r{c:UInt8}(h:na T k (c::l)):na T (k+1) l:=na.C (l:=[c]) h
theorem o7{c:UInt8}(h:na T k (c::l))(a:kT T k st (c.toNat:Int)=Ä b):jV T (i+1) k st=jV T i (k+1) b:=by let⟨d,e⟩:=h.atu;grind [wy]
def Am(d:PD):Prop:=(d.M=Ü->4<=d.N.c.length)/\(d.M=á->4<=d.I.c.length)
def acB(h:i<zQ.length)(z:Int):(zQ.set i z).getD i 0=z:=by simp[ö,h]
theorem atv(c:want=110\/want=107)(z a:Int):(d.fS want z).fS want a=d.fS want a:=by
 have b:∀i,(d.iA i z).iA i a=d.iA i a:=λi=>by unfold PD.iA PD.oG PD.oh;cases d.M<;>simp
 rcases c with rfl|rfl
 .exact b 2
 .exact b 3
theorem atw(h:Am d)(b:want=110\/want=107)(z:Int):(d.fS want z).G want=z:=by
 have a:∀i,i<4->(d.iA i z).tD i=z:=λi c=>by
  unfold PD.iA PD.tD;cases q:d.M with
  |true=>
   have:=h.1 q;simp only[if_true,PD.oG,q];exact acB Z z
  |false=>
   have:=h.2 q;simp only[Č,if_false,PD.oh,q];exact acB Z z
 rcases b with rfl|rfl
 .exact a 2 A
 .exact a 3 A
def tF(st:PS)(want:Int)(tl:List Int)(n:Nat):PS:={st with C:=tl,r:=if n=0 then 0 else 6-(ą n:Int),M:=want,d:=st.d.fS want n}
def acC(h:n<10):(ê<|48+n).toNat=48+n:=by
 have a:∀k:_root_.Fin 10,(ê<|48+k.val).toNat=48+k.val:=A
 exact a ⟨n,h⟩
def M5:∀k n,n<10^(k+1)->ą n<=k+1
 |0,n,h=>by rw[ô (by simpa using h)];exact Ç _
 |k+1,n,h=>by
  by_cases q:n<10
  .rw[ô q];omega
  .have:=M5 k (n/10) (by rw[Nat.pow_succ]at h;omega);rw[ě q];omega
theorem atx(e:want=110\/want=107)(a:st.C=want::tl)(f:st.r=0)(h:n<10):kT T k st ((48+n:Nat):Int)=Ä (tF st want tl n):=by
 have g:jk ((48+n:Nat):Int)=Ü:=abe ⟨Z,Z⟩;have b:oZ want ((48+n:Nat):Int)=Ü:=by unfold oZ;grind
 have c:mY want ((48+n:Nat):Int)=n:=by unfold mY;grind
 have d:qz want ((48+n:Nat):Int)=if n=0 then 0 else 6-(ą n:Int):=by unfold qz;grind [ô]
 unfold kT;rw[if_neg Z];unfold jU;simp only[a];rw[if_neg Z,if_neg Z,if_neg Z,if_neg Z,if_pos b];unfold om tF;rw[c,d]
theorem aty(f:Am st.d)(g:want=110\/want=107)(b:n<1000000)(h:¬n<10):kT T k (tF st want tl<|n/10) ((48+n%10:Nat):Int)=Ä (tF st want tl n):=by
 have c:jk ((48+n%10:Nat):Int)=Ü:=abe ⟨Z,Z⟩;have i:=ě h;have j:=M5 5 n b;have a:(tF st want tl<|n/10).r=6-(ą (n/10):Int):=if_neg Z;have l:pP ((n/10:Nat):Int) ((48+n%10:Nat):Int)=n:=by unfold pP;grind [ñ]
 unfold kT;rw[if_pos ⟨by rw[a];omega,c⟩];unfold Cu;rw[a];have e:(tF st want tl<|n/10).d.fS (tF st want tl<|n/10).M (pP ((tF st want tl<|n/10).d.G (tF st want tl<|n/10).M) ((48+n%10:Nat):Int))=st.d.fS want n:=by show(st.d.fS want ((n/10:Nat):Int)).fS want (pP ((st.d.fS want ((n/10:Nat):Int)).G want) _)=_;grind [atw,atv]
 rw[e];unfold tF;grind
def UR(j:Am st.d)(b:want=110\/want=107)(m:st.C=want::tl)(o:st.r=0):∀n,n<1000000->na T k (fH n).data.toList->∀i,jV T (i+(fH n).size) k st=jV T i (k+(fH n).size) (tF st want tl n):=by
 intro n
 induction n using ę with
 |_ n p=>
  intro q f i;by_cases h:n<10
  .have e:(fH n).data.toList=[ê<|48+n]:=by rw[M3 h,Fz h]
   have a:(fH n).size=1:=by rw[M3 h,Fz h];rfl
   rw[e]at f;rw[a];apply o7 f;rw[acC h];exact atx b m o h
  .have r:=UJ h;have e:na T k ((fH<|n/10).data.toList++(yk<|n%10).data.toList):=by
    simp_all
   have a:(fH n).size=(fH<|n/10).size+1:=by rw[r,Å,Fz Z];rfl
   rw[a,show i+((fH<|n/10).size+1)=i+1+(fH<|n/10).size by omega,p (n/10) Z Z e.I<|i+1];have g:=e.C;rw[Á,Fz Z]at g;rw[<-Nat.add_assoc];apply o7 (c:=ê<|48+n%10) (l:=[]) g;rw[acC Z];exact aty j b q h
end
section
variable{T:ByteArray}{f:Nat}{st a:PS}{d:PD}{l b:List UInt8}{want:Int}{tl:List Int}{N K:Nat}
def atz(h:Am d)(e:want=110\/want=107)(z:Int):Am (d.fS want z):=by
 have b:∀i,Am (d.iA i z):=λi=>by
  unfold PD.iA;split
  .rename_i q;exact⟨λ_=>by show 4<=(d.N.c.set i z).length;rw[Ĝ];exact h.1 q,λa=>absurd q<|by rw[show d.M=á from a];decide⟩
  .rename_i q;exact⟨λa=>absurd a q,λa=>by show 4<=(d.I.c.set i z).length;rw[Ĝ];exact h.2 a⟩
 rcases e with rfl|rfl
 .exact b 2
 .exact b 3
def US{c:UInt8}(h:na T k (c::l))(b:st.C=(c.toNat:Int)::tl)(a:c=44\/c=41):jV T (f+1) k st=jV T f (k+1) {st with C:=tl,r:=0,M:=(c.toNat:Int)}:=by refine o7 h ?_;unfold kT;rw[if_neg (by rcases a with rfl|rfl<;>simp[jk])];unfold jU;simp only[b];rcases a with rfl|rfl<;>rfl
def atA(e:Am st.d)(f:st.C=[110,44,107,41])(g:st.r=0)(i:N<1000000)(j:K<1000000)(h:na T k ((fH N).data.toList++44::((fH K).data.toList++[41])))(n:T.size=k+((fH N).size+1+(fH K).size+1)): ∃z,jV T (T.size-k) k st=(T.size,z)/\z.C=[]/\z.d=(st.d.fS 110 N).fS 107 K:=by
 have l:(fH N).data.toList.length=(fH N).size:=by rw[Á];rfl
 have m:(fH K).data.toList.length=(fH K).size:=by rw[Á];rfl
 have a:=h.C;have b:=a.r;have c:=b.C;rw[l]at a b c;rw[m]at c;rw[show T.size-k=0+1+(fH K).size+1+(fH N).size by omega,UR e (ã U) f g N i h.I,US a (st:=tF st 110 [44,107,41] N) (tl:=[107,41]) U<|ã U,UR (want:=107) (tl:=[41]) (atz e (ã U) _) (ì U) U U K j b.I,US c (tl:=[]) U<|ì U];refine⟨_,İ ?_ U,U,U⟩;show k+(fH N).size+1+(fH K).size+1=T.size;omega
def atB(b:Am st.d)(c:st.C=[107,41])(e:st.r=0)(f:K<1000000)(h:na T k ((fH K).data.toList++[41]))(i:T.size=k+((fH K).size+1)): ∃z,jV T (T.size-k) k st=(T.size,z)/\z.C=[]/\z.d=st.d.fS 107 K:=by
 have g:(fH K).data.toList.length=(fH K).size:=by rw[Á];rfl
 have a:=h.C;rw[g]at a;rw[show T.size-k=0+1+(fH K).size by omega,UR (want:=107) (tl:=[41]) b (ì U) c e K f h.I,US a (tl:=[]) U<|ì U];refine⟨_,İ ?_ U,U,U⟩;show k+(fH K).size+1=T.size;omega
def CO(h:n<1000000):(fH n).size<=6:=by unfold fH;rw[Õ,Ì,Ć];exact M5 5 n h
theorem acD{z:PS}{r:PR}(h:lC T=(T.size,z))(a:z.C=[])(b:z.d.C=[r])(c:T.size<=1200)(e:T.size≠0):ik T=(0,0,[r]):=by unfold ik lP;grind
def acE{l:List UInt8}:na ⟨l.toArray⟩ 0 l:=⟨[],fq⟩
end
end Go.Proofs.Y.mO
namespace Go.Proofs.Y.kt
open Go Go.Conc Go.Proofs Go.RowKit Go.Proofs.Y.Lift Go.Proofs.Y.gp Go.Proofs.Y.fy Go.Proofs.Y.mO
open Go.Conc.Lib Go.ConcR.Gen Go.Proofs.YtgpphkdoanciiabGreatDoor
def qC(p:ByteArray):fM:=(CN (rP p) gp.jM).getD gp.jM
def atC(p:ByteArray):CN (rP p) gp.jM=Ä (qC p):=fv
def atD{p:ByteArray}(h:ik (iA p)=(0,0,[rP p])):nQ [gp.jM] (iA p)=(⟨#[49]⟩,0,[gp.jM,qC p]):=by rw[atp h U U (v0:=gp.jM) U A,atC];rfl
section
variable{s:gp.St}{x y:Nat}{k:Int}
def acG:∀(m i:Nat),(oX s x y k i m=⟨#[45]⟩/\∀j:Nat,i<=j->j<i+m->(gp.gf s [] x y j k).C=á)\/∃g:Nat,i<=g/\g<i+m/\oX s x y k i m=fH g/\(gp.gf s [] x y g k).C=Ü/\∀j:Nat,i<=j->j<g->(gp.gf s [] x y j k).C=á
 |0,i=>ã ⟨U,λj a b=>by omega⟩
 |m+1,i=>by
  unfold oX;cases c:(gp.gf s [] x y i k).C with
  |true=>exact ì ⟨i,Ç _,Z,if_pos U,c,λj a b=>by omega⟩
  |false=>
   simp only[Č,if_false];rcases acG m (i+1)with⟨a,b⟩|⟨g,a,b,f,h,l⟩
   .refine ã ⟨a,λj n d=> ?_⟩;by_cases e:j=i
    .rwa[e]
    .exact b j Z Z
   .refine ì ⟨g,Z,Z,f,h,λj n d=> ?_⟩;by_cases e:j=i
    .rwa[e]
    .exact l j Z d
end
end Go.Proofs.Y.kt
namespace Go.Proofs.Y.kt
open Go Go.Conc Go.Proofs Go.RowKit Go.Proofs.Y.Lift Go.Proofs.Y.gp Go.Proofs.Y.fy Go.Proofs.Y.mO
def lD:Nat->List UInt8
 |0=>[107]
 |n+1=>lD n++[100,42]
def lE(k:Int):Nat->Int
 |0=>k
 |n+1=>wu<|lE k n*lE k n
def me(n:Nat):ByteArray:=⟨(lD n++[114]).toArray⟩
def pV:∀n,(lD n).length=2*n+1
 |0=>rfl
 |n+1=>by rw[lD,Ö,pV n];simp;omega
def M6(n:Nat):(me n).size=2*n+2:=by unfold me;rw[Õ,Ì,Ö,pV];simp
def acH:∀n i,i<n->(lD n)[2*i+1]?=Ä 100/\(lD n)[2*i+2]?=Ä 42
 |0,_,h=>absurd h Z
 |n+1,i,h=>by
  rw[lD];by_cases e:i=n
  .subst e;constructor
   .rw[Ð (by rw[pV];omega),pV];simp
   .rw[Ð (by rw[pV];omega),pV,show 2*i+2-(2*i+1)=1 by omega];rfl
  .have⟨a,b⟩:=acH n i Z;exact⟨by rw[Â (by rw[pV];omega),a],by rw[Â (by rw[pV];omega),b]⟩
def acI:∀n,(lD n)[0]?=Ä 107
 |0=>rfl
 |n+1=>by rw[lD,Â (by rw[pV];omega),acI n]
def M7{l:List UInt8}{b:UInt8}(h:l[i]?=Ä b):zG ⟨l.toArray⟩ i=(b.toNat:Int):=by unfold zG;simp[Array.getD_eq_getD_getElem?,h]
section
variable{F:gp.lZ}{c:gp.RC}{f:Nat}{a:Int}{t:gp.RT}{kd:Nat}{s:gp.St}{ls:List (Nat×Int)}{k:Int}{x:Nat}
def UT(g:a<B.size)(d:jT B a=kd)(e:kR t.g t.r.length (lL kd).1 (lL kd).2.1 (lL kd).2.2=Ü)(b:kd≠1/\kd≠17/\kd≠21/\kd≠22): mM F c B (f+1) a t=mM F c B f (a+1) (mL F c kd {t with g:=t.g-(lL kd).1}):=by rw[mM,if_neg Z,if_neg Z,d,if_neg (by rw[e];simp),if_neg b.1,if_neg b.2.1,if_neg b.2.2.1,if_neg b.2.2.2]
def atE(e:a<B.size)(b:jT B a=21)(d:kR t.g t.r.length 1 1 0=Ü): mM F c B (f+1) a t=(gh t.r,Ü,{t with r:=fW t.r,g:=t.g-1}):=by rw[mM,if_neg Z,if_neg Z,b,if_neg (by show¬kR t.g t.r.length 1 1 0=á;rw[d];simp),if_neg A,if_neg A,if_pos U];rfl
def M8(e:a<B.size)(b:jT B a=kd)(d:kR t.g t.r.length (lL kd).1 (lL kd).2.1 (lL kd).2.2=á):(mM F c B f a t).2.1=á:=by
 cases f with
 |zero=>rfl
 |succ f=>rw[mM,if_neg Z,if_neg Z,b,if_pos d]
def atF(h:i<n):jT (me n) ((2*i+1:Nat):Int)=8/\jT (me n) ((2*i+2:Nat):Int)=4:=by have⟨a,c⟩:=acH n i h;unfold jT me;rw[M7 (l:=lD n++[114]) (i:=2*i+1) (b:=100) (by rw[Â (by rw[pV];omega),a]),M7 (l:=lD n++[114]) (i:=2*i+2) (b:=42) (by rw[Â (by rw[pV];omega),c])];decide
def acJ:jT (me n) ((2*n+1:Nat):Int)=21:=by unfold jT me;rw[M7 (l:=lD n++[114]) (i:=2*n+1) (b:=114) (by rw[Ð (by rw[pV];omega),pV];simp)];decide
def acK:jT (me n) 0=11:=by have:=M7 (l:=lD n++[114]) (i:=0) (b:=107) (by rw[Â (by rw[pV];omega),acI]);unfold jT me;rw[show(0:Int)=((0:Nat):Int)from U,this];decide
def An{b a c:Int}:kR h m b a c=decide (b<=h/\a<=(m:Int)/\(m:Int)-a+c<=32):=by unfold kR;rw[Bool.eq_iff_iff];simp
def acM:∀(m i:Nat) (h:Int) (f:Nat),i+m=n->h<f-> (1+3*(m:Int)<=h->mM F c (me n) f ((2*i+1:Nat):Int) ⟨[lE k i],s,ls,h⟩=(lE k n,Ü,⟨[],s,ls,h-1-3*m⟩))/\ (h<1+3*(m:Int)->(mM F c (me n) f ((2*i+1:Nat):Int) ⟨[lE k i],s,ls,h⟩).2.1=á)
 |0,i,h,f,hi,hf=>by
  have:i=n:=Z
  subst this;have e:=M6 i;constructor
  .intro b;obtain⟨f,rfl⟩:∃a,f=a+1:=⟨f-1,Z⟩;rw[atE Z acJ (by rw[An];simp;omega)];simp[gh,fW]
  .intro b;exact M8 Z acJ<|by rw[An];show decide ((1:Int)<=h/\_)=á;simp;omega
 |m+1,i,h,f,hi,hf=>by
  have e:=M6 n;have⟨b,d⟩:=atF (i:=i) (n:=n) Z;have g:(((2*i+1:Nat):Int)+1)=((2*i+2:Nat):Int):=Z
  have j:(((2*i+2:Nat):Int)+1)=((2*(i+1)+1:Nat):Int):=Z
  by_cases t:h<1
  .exact⟨λq=>absurd q Z,λ_=>M8 Z b<|by rw[An];show decide ((1:Int)<=h/\_)=á;simp;omega⟩
  obtain⟨f,rfl⟩:∃a,f=a+1:=⟨f-1,Z⟩;rw[UT (kd:=8) Z b (by rw[An];show decide ((1:Int)<=h/\(1:Int)<=1/\(1:Int)-1+2<=32)=Ü;simp;omega) A,g];have l:mL F c 8 {(⟨[lE k i],s,ls,h⟩:gp.RT)with g:=h-(lL 8).1}=⟨[lE k i,lE k i],s,ls,h-1⟩:=rfl;rw[l];by_cases u:h<3
  .exact⟨λq=>absurd q Z,λ_=>M8 Z d<|by rw[An];show decide ((2:Int)<=h-1/\_)=á;simp;omega⟩
  obtain⟨f,rfl⟩:∃a,f=a+1:=⟨f-1,Z⟩;rw[UT (kd:=4) Z d (by rw[An];show decide ((2:Int)<=h-1/\(2:Int)<=2/\(2:Int)-2+1<=32)=Ü;simp;omega) A,j];have o:mL F c 4 {(⟨[lE k i,lE k i],s,ls,h-1⟩:gp.RT)with g:=h-1-(lL 4).1}=⟨[lE k<|i+1],s,ls,h-1-2⟩:=rfl;rw[o];have⟨p,r⟩:=acM m (i+1) (h-1-2) f Z Z;refine⟨λq=> ?_,λq=>r Z⟩;rw[p Z];congr 2;congr 1;omega
def M9(b:(s 1).r=me n)(h:Nat): (2+3*n<=h->(gp.gf s [] x 1 h k).C=Ü/\(gp.gf s [] x 1 h k).I=lE k n/\(gp.gf s [] x 1 h k).r=2+3*(n:Int)/\(gp.gf s [] x 1 h k).M=[])/\ (h<2+3*n->(gp.gf s [] x 1 h k).C=á):=by
 have o:=M6 n;have E:∀c:gp.RC,c.y=1->c.k=k->c.g=h->nI (sf 3) c s []=mM (sf 3) c (me n) (h+1) 0 ⟨[],s,[],h⟩:=λc d p f=>by unfold nI;rw[d,b,f];rfl
 have e:=E ⟨x,1,k,4-((3:Nat):Int),h⟩ U U U;have g:gp.gf s [] x 1 h k=qu (sf 3) ⟨x,1,k,4-((3:Nat):Int),h⟩ s []:=U;rw[g];unfold qu;rw[e];by_cases i:h=0
 .subst i;refine⟨λq=>absurd q Z,λ_=>M8 Z acK<|by rw[An];show decide ((1:Int)<=((0:Nat):Int)/\_)=á;simp⟩
 rw[UT (kd:=11) Z acK (by rw[An];show decide ((1:Int)<=(h:Int)/\(0:Int)<=0/\(0:Int)-0+1<=32)=Ü;simp;omega) A];have j:∀c:gp.RC,c.k=k->mL (sf 3) c 11 {(⟨[],s,[],h⟩:gp.RT)with g:=h-(lL 11).1}=⟨[lE k 0],s,[],h-1⟩:=λc a=>by subst a;rfl
 rw[j _ U,show(0:Int)+1=((2*0+1:Nat):Int)from U];have⟨l,m⟩:=acM (F:=sf 3) (c:=⟨x,1,k,4-((3:Nat):Int),h⟩) (n:=n) (k:=k) (s:=s) (ls:=[]) n 0 ((h:Int)-1) h Z Z;refine⟨λq=> ?_,λq=>m Z⟩;rw[l Z];refine⟨U,U,?_,U⟩;show(h:Int)-((h:Int)-1-1-3*(n:Int))=_;omega
end
def ng(N K:Nat):ByteArray:=⟨(99::49::58::101::62::98::40::((fH N).data.toList++44::((fH K).data.toList++[41]))).toArray⟩
def nh(K:Nat):ByteArray:=⟨(109::49::58::97::62::98::40::((fH K).data.toList++[41])).toArray⟩
section
variable{N K:Nat}{p:ByteArray}
def acN(N K:Nat):(ng N K).size=7+((fH N).size+1+(fH K).size+1):=by
 have a:(fH N).data.toList.length=(fH N).size:=by rw[Á];rfl
 have b:(fH K).data.toList.length=(fH K).size:=by rw[Á];rfl
 unfold ng;rw[Õ,Ì];simp only[ú,Ö,a,b,ĝ];omega
def acO(K:Nat):(nh K).size=7+((fH K).size+1):=by
 have a:(fH K).data.toList.length=(fH K).size:=by rw[Á];rfl
 unfold nh;rw[Õ,Ì];simp only[ú,Ö,a,ĝ];omega
def atG(b:N<1000000)(c:K<1000000):ik (ng N K)=(0,0,[⟨[4,1,N,K,4,1,0,0],[]⟩]):=by have d:=acN N K;have a:na (ng N K) 0 _:=acE;have h:=CO b;have i:=CO c;let⟨z,e,f,g⟩:=atA (T:=ng N K) (k:=7) (st:=⟨[110,44,107,41],0,0,40,⟨[],Ü,⟨[4,1,0,0,4,1,0,0],[]⟩,á,⟨[],⟨#[]⟩⟩⟩⟩) ⟨(λq=>by cases q),λ_=>(by show 4<=8;decide)⟩ U U b c a.r.r.r.r.r.r.r d;refine acD (z:=z) ?_ f (by rw[g];rfl) Z Z;unfold lC;rw[<-e,show(ng N K).size=(ng N K).size-7+1+1+1+1+1+1+1 by omega];rw[o7 a U,o7 a.r U,o7 a.r.r U,o7 a.r.r.r U,o7 a.r.r.r.r U,o7 a.r.r.r.r.r U,o7 a.r.r.r.r.r.r U];rfl
def atH(b:K<1000000):ik (nh K)=(0,0,[⟨[0,1,0,K,5,1,0,0],[]⟩]):=by have c:=acO K;have a:na (nh K) 0 _:=acE;have g:=CO b;let⟨z,d,e,f⟩:=atB (T:=nh K) (k:=7) (st:=⟨[107,41],0,0,40,⟨[],Ü,⟨[0,1,0,0,5,1,0,0],[]⟩,á,⟨[],⟨#[]⟩⟩⟩⟩) ⟨(λq=>by cases q),λ_=>(by show 4<=8;decide)⟩ U U b a.r.r.r.r.r.r.r c;refine acD (z:=z) ?_ e (by rw[f];rfl) Z Z;unfold lC;rw[<-d,show(nh K).size=(nh K).size-7+1+1+1+1+1+1+1 by omega];rw[o7 a U,o7 a.r U,o7 a.r.r U,o7 a.r.r.r U,o7 a.r.r.r.r U,o7 a.r.r.r.r.r U,o7 a.r.r.r.r.r.r U];rfl
def atI:ou (ng N K):=by unfold ou at*;simp[ng,UM N,UM K]
def atJ:ou (nh K):=by unfold ou at*;simp[nh,UM K]
def acP(a:N<1000000)(b:K<1000000):(jB ⟨#[59]⟩ [ng N K,nh K]).size<=1200:=by
 have c:=UD ⟨#[59]⟩ U [ng N K,nh K];have d:=acN N K;have e:=acO K;have f:=CO a;have g:=CO b;have h:iN [ng N K,nh K]=(ng N K).size+(nh K).size:=by show(ng N K).size+((nh K).size+0)=_;omega
 have i:[ng N K,nh K].length=2:=U;omega
def atK(b:N<1000000)(a:K<1000000):ik (jB ⟨#[59]⟩ [ng N K,nh K])=(0,0,[⟨[4,1,N,K,4,1,0,0],[]⟩,⟨[0,1,0,K,5,1,0,0],[]⟩]):=by
 refine atr ?_ (λP c=> ?_) fq fq<|acP b a
 .simp only[Ù,Đ,atG b a,atH a]
 .simp only[ĩ,Ĕ,or_false]at c;rcases c with rfl|rfl
  .exact atI
  .exact atJ
def atL(c:N<=400)(a:K<1000000)(p:ByteArray):nQ [gp.jM,qC p] (jB ⟨#[59]⟩ [ng N K,nh K])=(jB ⟨#[59]⟩ [E5<|gp.gf (qC p).s [] 4 1 N K,oX (qC p).s 0 1 K 0 401],0,[gp.jM,qC p]):=by
 rw[ath (atK Z a) fq];have b:mN (oe [gp.jM,qC p]) 1=Ä (0,qC p):=acw (n:=1) U;apply congrArg λl=>(jB ⟨#[59]⟩ l,(0:Int),[gp.jM,qC p]);generalize qC p=v at*;have l:¬400<N:=Z
 simp only[Ù,Đ,rm,toQn,List.getD_cons_zero,List.getD_cons_succ,b,Cp];simp[l]
def atM(p:ByteArray):((qC p).s 1).r=p:=fv
def atN:fH 1=⟨#[49]⟩:=fv
def atO:(fH 400).data.toList=[52,48,48]:=fv
def UU(n K:Nat):ByteArray:=((((⟨#[49,44]⟩++fH (lE K n).toNat)++⟨#[44]⟩)++fH (2+3*n))++⟨#[59]⟩)++fH (2+3*n)
def atP(r:n<17)(b:K<1000000):nQ [gp.jM,qC<|me n] (jB ⟨#[59]⟩ [ng 400 K,nh K])=(UU n K,0,[gp.jM,qC<|me n]):=by
 rw[atL Z b];have a:=atM<|me n;generalize qC (me n)=v at*;have⟨c,_⟩:=M9 (x:=4) (k:=(K:Int)) a 400;let⟨d,f,i,j⟩:=c Z;have m:oX v.s 0 1 K 0 401=fH (2+3*n):=by
  rcases acG (s:=v.s) (x:=0) (y:=1) (k:=(K:Int)) 401 0 with⟨_,h⟩|⟨g,_,t,o,l,p⟩
  .have:=(M9 (x:=0) (k:=(K:Int)) a<|2+3*n).1<|Ç _;rw[h (2+3*n) Z Z]at this;exact absurd this.1 A
  .rw[o];by_cases e:g<2+3*n
   .rw[(M9 (x:=0) (k:=(K:Int)) a g).2 e]at l;cases l
   .by_cases q:2+3*n<g
    .have:=(M9 (x:=0) (k:=(K:Int)) a<|2+3*n).1<|Ç _;rw[p (2+3*n) Z q]at this;exact absurd this.1 A
    .rw[show g=2+3*n by omega]
 have e:E5 (gp.gf v.s [] 4 1 ((400:Nat):Int) K)=jB ⟨#[44]⟩ [⟨#[49]⟩,fH (lE K n).toNat,fH<|2+3*n]:=by unfold E5;rw[d,f,i,j,show(2+3*(n:Int)).toNat=2+3*n by omega,<-atN];rfl
 rw[m,e];apply congrArg λl=>(l,(0:Int),[gp.jM,v]);exact Ú<|à.1<|by simp[UU,jB,Mm,nK,Û]
def atQ:((ð 17).all λn=>decide ((ik<|iA<|me n).1=0)&&!(me n).data.toList.contains 125)=Ü:=fv
def atS(a:n<17):ik (iA<|me n)=(0,0,[rP<|me n]):=by have h:=List.all_eq_true.1 atQ n<|Ą.2 a;simp only[ù,decide_eq_true_eq,Bool.not_eq_true',List.contains_eq_mem,decide_eq_false_iff_not]at h;exact atq h.2 h.1
def atT(K:Nat):(((⟨#[99,49,58,101,62,98,40,52,48,48,44]⟩++fH K)++⟨#[41,59,109,49,58,97,62,98,40]⟩)++fH K)++⟨#[41]⟩=jB ⟨#[59]⟩ [ng 400 K,nh K]:=Ú<|à.1<|by simp[ng,nh,atO,jB,Mm,nK,Û]
def atU(i:Nat):(⟨(lD i).toArray⟩++⟨#[100,42]⟩:ByteArray)=⟨(lD<|i+1).toArray⟩:=Ú<|à.1<|by simp[lD,Û]
def atV(i:Nat):(⟨(lD i).toArray⟩++⟨#[114]⟩:ByteArray)=me i:=Ú<|à.1<|by simp[me,Û]
def atW{k:Int}(h:0<=k/\k<18446744073709551616):∀i,0<=lE k i/\lE k i<18446744073709551616
 |0=>h
 |i+1=>⟨j_ _,k_ _⟩
end
end Go.Proofs.Y.kt
namespace Go.Proofs.Y.kt
open Go Go.Conc Go.Proofs Go.RowKit Go.Proofs.Y.Lift Go.Proofs.Y.gp Go.Proofs.Y.fy Go.Proofs.Y.mO
open Go.Conc.Lib Go.ConcR.Gen Go.Proofs.YtgpphkdoanciiabGreatDoor
structure ni(R:Nat->Prop)(W:å)(l:ff)(x nx:Nat)(s:List fM):Prop where
 a:∃sl V,ot l x nx s sl V
 C:∀b,R b->(l.O b/\l.w.heap[b]?=W.heap[b]?)/\b≠x
section
variable{R:Nat->Prop}{l c:ff}{x nx:Nat}{s d:List fM}{cs:List Ď}{rest:List Nat}{k:List ĸ}{xs:List ByteArray}
def ni.I(h:ni R W l x nx s)(d:∀b,l.O b->c.O b/\c.w.heap[b]?=l.w.heap[b]?)(e:l.w.heap.size<=c.w.heap.size):ni R W c x nx s:=by let⟨f,V,a⟩:=h.a;exact⟨⟨f,V,a.S (λb q=>(d b q).1) (λb q=>(d b q).2) e⟩,λb q=>⟨⟨(d b (h.C b q).1.1).1,(d b (h.C b q).1.1).2.trans (h.C b q).1.2⟩,(h.C b q).2⟩⟩
def ni.r(h:ni R W l x nx s)(r:fJ l l.w u):ni R W {l with w:=u} x nx s:=h.I (λb q=>⟨q,r.I b<|ã q⟩) r.r
def ni.st(h:ni R W l x nx s):lV s:=by let⟨_,_,a⟩:=h.a;let⟨_,_,q,_⟩:=a.I;exact q
def ni.fw(h:ni R W l x nx s):nB<=l.w.heap.size:=by let⟨_,_,a⟩:=h.a;exact a.r.fw
def atX(h:ni R W l x nx s)(j:iy l)(m:B.size<=Ģ) (n:∀c,iy c->ni R W c x nx (nQ s B).2.2->jc vQ c (G (f.at (y.put ((Q[i]?).bind (·.dst))<|.tuple #[É (nQ s B).1,Ë Ê (nQ s B).2.1])<|û Q rest::k) cs)): jc vQ l (G (ß À 13 #[ć<|Ä ⟨x,0,Ī⟩,É B] þ)<|f.at y (û Q (i::rest)::k)::cs):=by let⟨w,V,o⟩:=h.a;refine abZ j o m (λ_=>ab2 h.st) λc p ⟨e,r,t,u,z⟩=>n c p ⟨⟨r,t,u⟩,λb q=> ?_⟩;let⟨⟨g,v⟩,d⟩:=h.C b q;exact⟨⟨(e b g d).1,(e b g d).2.trans v⟩,d⟩
end
def atY{T:ByteArray}(w:å)(h:B.size+T.size<=10^15):Sem.events À (Go.Op.stringOp BinOp.add B T) w #[]=#[]:=by
 have a:¬Ģ<B.size+T.size:=by unfold Ģ;omega
 simp[go_sem,Op.stringOp,a]
def sI{J:Jd}{l:ff}{b:Frame}{a:Act}{ops:Array Oper}{i:Nat}{rest:List Nat}{k:List Item}{cs:List Frame}{o:Oper}{x y:Operand}(S T U:ByteArray)(hb:iy l)(hU:S++T=U)(h:S.size+T.size<=10^15)(hn:fy.fl Tryz.prog true J l (G (b.at (a.put o.dst<|.string U)<|.inRegion ops rest::k) cs)) (ho:ops[i]?=some o:=by rfl) (po:o.op=.binOp .add 9 x y 9:=by rfl) (hx:a.eval x=.string S:=by rfl) (hy:a.eval y=.string T:=by rfl) (hw:Region.wanted o (yielded ops a.tmps)=true:=by rfl) (hk:b.kind≠.early:=by k_ne): fy.fl Tryz.prog true J l (G (b.at a<|.inRegion ops (i::rest)::k) cs):=by
 subst hU;have h2:¬9223372036854775807<S.size+T.size:=Z
 refine rQ (v:=É<|S++T) ho hw hk hb.r.r hb.q (λw _=> ?_) (λw _ e he=> ?_) hn
 .let⟨d,p,t,q,af,g⟩:=o;simp only at po;subst po;simp only[execOp,hx,hy];go_simp
 .let⟨d,p,t,q,af,g⟩:=o;simp only at po;subst po;simp only[execOp,hx,hy]at he;simp[go_sem,atY w h]at he
section
variable{l a:ff}{s c:List fM}{k:List ĸ}{S p:ByteArray}
def acQ(h:ni X W l j b s)(d:iy l)(p:B.size<=Ģ)(q:nQ s B=(S,0,c)) (r:∀a,iy a->ni X W a j b c->jc vQ a (G (f.at (y.put ((Q[i]?).bind (·.dst))<|ģ Ü)<|û Q jJ::k) qX)): jc vQ l (G (ß À 10 #[ć<|Ä ⟨j,0,Ī⟩,É B,É S] þ)<|f.at y (û Q (i::jJ)::k)::qX):=by
 have hF:True:=trivial;rw[CF [_,_,_] 19 Ĉ];simp only[ĉ,é,ÿ];conv in lX _ _=>whnf
 apply pU;apply gl (n:=60) d.r.r;repeat w_go fC
 refine Ã λ_ _=> ?_;refine .fD λv e=>⟨d.C e,U,?_⟩;have o:=d.C e;refine CG (f:=13) (args:=#[ć<|Ä ⟨j,0,Ī⟩,É B]) o U fZ (by k_ne) (λw=>by go_simp) (λw=>Ï U Tryz.func13 U U #[]) λu w=> ?_;refine atX ((h.r e).r w) (o.C w) p λx g m=> ?_;rw[q]at m|-;dsimp only at m|-;walk_nrm;apply pU;apply gl (n:=60) g.r.r;repeat w_nl fC
 u_in fC hF
 refine Ĳ (t:=6) U U Ĉ U ⟨by u_nil,?_⟩;refine Ã λ_ _=> ?_;exact .fD λu w=>⟨g.C w,U,r _ (g.C w)<|m.r w⟩
def atZ(s:iy l)(F:mB l.w)(H:∀d,d=1\/d=2\/d=3\/d=4->l.O d)(hp:p.size<=10^14*2)(m:Int)(M:-9223372036854775808<=m)(N:m<=9223372036854775807)(z:nQ [gp.jM] (iA p)=(⟨#[49]⟩,0,c)) (P:∀a j b,iy a->ni l.O l.w a j b c->l.w.heap.size<=j->jc vQ a (G (f.at (y.put ((Q[i]?).bind (·.dst))<|ć<|Ä ⟨j,0,Ī⟩)<|û Q jJ::k) qX)): jc vQ l (G (ß À 8 #[É p,Ë Ê m] þ)<|f.at y (û Q (i::jJ)::k)::qX):=by
 have hF:True:=trivial;rw[CF [_,_] 17 Ĥ];simp only[ĉ,é,ÿ];conv in lX _ _=>whnf
 apply pU;apply gl (n:=40) s.r.r;repeat w_go fC
 refine Ã λ_ _=> ?_;refine .fD λw₁ B=>⟨s.C B,U,?_⟩;have I:=s.C B;refine CG (f:=12) (args:=#[Ë Ê m]) I U fZ (by k_ne) (λw=>by go_simp) (λw=>Ï U Tryz.func12 U U #[]) λJ g=> ?_;have u:fJ l l.w J:=B.fh ⟨g.r,g.I,g.N,g.Y,g.S⟩;refine asH (I.C g) (F.r (Æ F.fw u.r) λd q=>u.I d<|ã<|H d q) H m M N λS j b W V h o=> ?_;have X:l.w.heap.size<=j:=Æ u.r o.vj;have K:ni l.O l.w S j b [gp.jM]:=⟨⟨W,V,o.asF⟩,λd q=>⟨⟨(o.r d q).1,(o.r d q).2.trans<|u.I d<|ã q⟩,by have:=s.r.fw d<|ã q;omega⟩⟩;clear o;obtain⟨r,C⟩:∃T,(⟨#[105,48,58,97,47,98,123]⟩++p:ByteArray)=T:=⟨_,U⟩;obtain⟨x,D⟩:∃T,(r++⟨#[125]⟩:ByteArray)=T:=⟨_,U⟩;have Y:r.size=7+p.size:=by rw[<-C,Å];rfl
 have z2:x.size=7+p.size+1:=by rw[<-D,Å,Y];rfl
 have e2:iA p=x:=by rw[<-D,<-C];rfl
 rw[e2]at z;walk_nrm;apply pU;apply gl (n:=40) h.r.r;repeat w_go fC
 refine Ã λ_ _=> ?_;apply rQ (v:=ģ á) U fZ (by k_ne) h.r.r h.q (λw _=>by go_simp) (λw _ e E=>by simp[go_sem,UF]at E);walk_nrm;apply gl (n:=60) h.r.r;repeat w_nl fC
 refine Ã λ_ _=> ?_;refine sI ⟨#[105,48,58,97,47,98,123]⟩ p r h C (by show 7+p.size<=_;omega) ?_;walk_nrm;refine sI r ⟨#[125]⟩ x h D (by show r.size+1<=_;omega) ?_;walk_nrm;refine .fD λasL e=>⟨h.C e,U,?_⟩;refine CG (f:=10) (args:=#[ć<|Ä ⟨j,0,Ī⟩,É x,É ⟨#[49]⟩]) (h.C e) U fZ (by k_ne) (λw=>by go_simp) (λw=>Ï U Ĉ U U #[]) λEj L=> ?_;refine acQ ((K.r e).r L) ((h.C e).C L) (by unfold Ģ;omega) z λl6 E u6=> ?_;clear K z;walk_nrm;apply pU;apply gl (n:=60) E.r.r;repeat w_nl fC
 u_in fC hF
 refine Ĳ (t:=4) U U Ĥ U ⟨by u_nil,?_⟩;refine Ã λ_ _=> ?_;exact .fD λJ g=>⟨E.C g,U,P _ _ _ (E.C g) (u6.r g) X⟩
end
def pW(c:Int)(n:Nat):Nat:=((if c<0 then-(c+1)else c)%(n:Int)).toNat
def UW(c:Int)(h:0<n):pW c n<n:=by unfold pW;have a:=Int.emod_lt_of_pos (if c<0 then-(c+1)else c) (show(0:Int)<n by omega);have b:=Ā (if c<0 then-(c+1)else c) (show(n:Int)≠0 by omega);omega
def acR(c:Int)(f:-9223372036854775808<=c)(g:c<=9223372036854775807)(i:0<n)(j:n<=1000000)(w:å):Calls À 6 #[Ë Ê c,Ë Ê n] w λe d=>e=.returned (Ë Ê<|pW c n)/\d=w:=by
 have k:((n:Int)==0)=á:=by simp;omega
 have b:(n:Int)≠0:=Z
 unfold pW;by_cases h:c<0
 .rw[if_pos h];have a:=Ā (-(c+1)) b;have e:-(c+1).tmod n=(-(c+1))%n:=by rw[<-Int.neg_tmod,Þ Z]
  have H:=fg<|Ċ e.symm a;clear e a;go_enter č,ĳ;go_wp2;go_ret;exact⟨by rw[Int.toNat_of_nonneg H.out.2,H.out.1];rfl,U⟩
 .rw[if_neg h];have a:=Ā c b;have e:c.tmod n=c%n:=Þ Z;have H:=fg<|Ċ e.symm a;clear e a;go_enter č,ĳ;go_wp2;go_ret;exact⟨congrArg (λz=>Ending.returned<|Ë Ê z) (Int.max_eq_left H.out.2).symm,U⟩
def at0(c:Int)(b:-9223372036854775808<=c)(d:c<=9223372036854775807)(w:å):Calls À 7 #[Ë Ê c] w λe a=>e=.returned (É<|fH<|pW c 1000000)/\a=w:=by
 have g:=UW c (n:=1000000) A;have i:è.wrap ((pW c 1000000:Nat):Int)=(pW c 1000000:Nat):=by rw[ü];omega
 have H:=fg<|Ċ (acR c b d (n:=1000000) A A w)<|acr (pW c 1000000) Z w;generalize pW c 1000000=m at*;go_enter Ķ,Tryz.ntmps7;go_wp2_with (first|(go_at_call 6;refine H.out.1.mono ?_;rintro e a ⟨rfl,f⟩;subst a)|(go_at_call 9;refine H.out.2.mono ?_;rintro e a ⟨rfl,f⟩;subst a));go_ret;exact⟨U,U⟩
section
variable{l a:ff}{s o:List fM}{k:List ĸ}{p:ByteArray}{g:Ď}
def acS(b:iy l)(e:nB<=l.w.heap.size)(c:Int)(f:-9223372036854775808<=c)(i:c<=9223372036854775807)(j:0<n)(k:n<=1000000): fy.fl À Ü (λa h=>jK l a/\a.d=l.d/\h=G (g.finish<|Ë Ê<|pW c n) qX) l (G (ß À 6 #[Ë Ê c,Ë Ê n] þ)<|g::qX):= MY b e fZ (λu h=>by simp at h;rcases h with rfl|rfl<;>exact .iF _ _) (λh=>by cases h;rfl) (acR c f i j k) Ü g qX
def at5(b:iy l)(e:nB<=l.w.heap.size)(c:Int)(f:-9223372036854775808<=c)(i:c<=9223372036854775807): fy.fl À Ü (λa h=>jK l a/\a.d=l.d/\h=G (g.finish<|É<|fH<|pW c 1000000) qX) l (G (ß À 7 #[Ë Ê c] þ)<|g::qX):= MY b e fZ (λu h=>by simp at h;subst h;exact .iF _ _) (λh=>by cases h;rfl) (at0 c f i) Ü g qX
def acT(b:iy l)(c:nB<=l.w.heap.size)(e:n<18446744073709551616): fy.fl À Ü (λa h=>jK l a/\a.d=l.d/\h=G (g.finish<|É<|fH n) qX) l (G (ß À 9 #[Ë è n] þ)<|g::qX):= MY b c fZ (λu h=>by simp at h;subst h;exact .iF _ _) (λh=>by cases h;rfl) (acr n e) Ü g qX
end
def wz(l a:ff):Prop:=∀b,l.O b->a.O b/\a.w.heap[b]?=l.w.heap[b]?
section
variable{J:Jd}{kB:æ->å->Prop}{R:Nat->Prop}{l l':ff}{x nx:Nat}{s c:List fM}{b e:Ď}{a g:Ĵ}{ops:Array Ľ}{rest:List Nat}{k:List ĸ}{cs:List Ď}{f:FuncId}{args:Array æ}{fn:Func}{Na:Array Ħ}{Nb:Array ĥ}{y:ByteArray}{t:Ħ}
def wz.r{a:ff}(h:wz l l')(k:wz l' a):wz l a:=λb q=>⟨(k b (h b q).1).1,(k b (h b q).1).2.trans (h b q).2⟩
def FC(r:fJ l l.w u):wz l {l with w:=u}:=λb q=>⟨q,r.I b<|ã q⟩
def KE(h:ni R W l x nx s)(hb:iy l)(hf:Tryz.prog.funcs[f]?=some fn) (hc:∀l',iy l'->nB<=l'.w.heap.size->∀(cl:Frame) (cs:List Frame),fy.fl Tryz.prog true (λl'' g'=>jK l' l''/\l''.d=l'.d/\g'=G (cl.finish v) cs) l'<|G (Frame.enter Tryz.prog f args .normal)<|cl::cs) (hn:∀l',iy l'->ni R W l' x nx s->wz l l'->fy.fl Tryz.prog true J l' (G (b.at (a.put o.dst v)<|.inRegion ops rest::k) cs)) (ho:ops[i]?=some o:=by rfl) (po:o.op=.call {callee:=.value<|.func f,args:=Na,argTypes:=Nb}:=by rfl) (hw:Region.wanted o (yielded ops a.tmps)=true:=by rfl) (hk:b.kind≠.early:=by k_ne) (hr:∀w,(execOp a.eval o).run Tryz.prog w=.ok (.enter f args) w:=by intro w;go_simp) (hm:(fn.name== "runtime.NumGoroutine")=false:=by rfl) (hd:fn.body.isNone=false:=by rfl): fy.fl Tryz.prog true J l (G (b.at a<|.inRegion ops (i::rest)::k) cs):=by refine Aj ho hw hk hb.r.r hr (λw=>Ï po hf hm hd #[]) λw₁ jH=> ?_;refine fy.fl.lS ?_<|hc _ (hb.C jH) (h.r jH).fw _ _;rintro l2 g2 ⟨ha,hd,rfl⟩;rw[Ğ,ho];have k2:wz {l with w:=w₁} l2:=λb q=>⟨ha.O b q,ha.r.I b<|ã q⟩;exact hn l2 (jK.zx (hb.C jH) ha hd) ((h.r jH).I k2 ha.r.r)<|(FC jH).r k2
def at6(h:ni R W l x nx s)(hb:iy l)(hf:Tryz.prog.funcs[f]?=some fn) (hn:∀l',iy l'->ni R W l' x nx s->wz l l'->l.w.heap.size<=l'.w.heap.size->jc kB l' (G (Frame.enter Tryz.prog f args .normal)<|b.at a (.inRegion ops (i::rest)::k)::cs)) (ho:ops[i]?=some o:=by rfl) (po:o.op=.call {callee:=.value<|.func f,args:=Na,argTypes:=Nb}:=by rfl) (hw:Region.wanted o (yielded ops a.tmps)=true:=by rfl) (hk:b.kind≠.early:=by k_ne) (hr:∀w,(execOp a.eval o).run Tryz.prog w=.ok (.enter f args) w:=by intro w;go_simp) (hm:(fn.name== "runtime.NumGoroutine")=false:=by rfl) (hd:fn.body.isNone=false:=by rfl): fy.fl Tryz.prog true (IJ kB) l (G (b.at a<|.inRegion ops (i::rest)::k) cs):= .fD λw₁ jH=>⟨hb.C jH,U,CG (hb.C jH) ho hw hk hr (λw=>Ï po hf hm hd #[]) λwS oA=>hn _ ((hb.C jH).C oA) ((h.r jH).r oA) ((FC jH).r<|FC oA)<|Æ jH.r oA.r⟩
end
def tH(l a:ff):Prop:=wz l a/\l.w.heap.size<=a.w.heap.size
noncomputable def Nc:Code:=lX Ň [1,1,1,1,1,0,1,0,0]
noncomputable def acU:Code:=lX Ň [1,1,1,1,1,1]
noncomputable def CP (a:Array æ):Goroutine:=G ((base 3).at ⟨a,[]⟩<|.code Nc::.inLoop Nc::[.inBlock 0,.code acU]) []
structure Nd(kk:Int)(n K i:Nat)(tt:Array æ):Prop where
 r:tt.size=59
 M:tt[2]?=Ä (Ë Ê kk)
 N:tt[7]?=Ä (Ë Ê n)
 S:tt[8]?=Ä (Ë è<|lE K i)
 Y:tt[9]?=Ä (É<|fH K)
 C:tt[10]?=Ä (É ⟨(lD i).toArray⟩)
 I:tt[11]?=Ä (Ë Ê i)
section
variable{J:Jd}{l c l':ff}{b:Ď}{a:Ĵ}{ops:Array Ľ}{rest:List Nat}{k:List ĸ}{cs:List Ď}{f:FuncId}{args:Array æ}{fn:Func}{Na:Array Ħ}{Nb:Array ĥ}{K:Nat}{kk:Int}{tt:Array æ}
def tH.jw{w₁:å}(h:tH l l')(r:fJ l' l'.w w₁):tH l {l' with w:=w₁}:=⟨h.1.r<|FC r,Æ h.2 r.r⟩
def tH.C{a:ff}(h:tH l l')(k:tH l' a):tH l a:=⟨h.1.r k.1,Æ h.2 k.2⟩
def UX(Sy:nB<=l.w.heap.size)(hb:iy l)(hf:Tryz.prog.funcs[f]?=some fn) (hc:∀l',iy l'->nB<=l'.w.heap.size->∀(cl:Frame) (cs:List Frame),fy.fl Tryz.prog true (λl'' g'=>jK l' l''/\l''.d=l'.d/\g'=G (cl.finish v) cs) l'<|G (Frame.enter Tryz.prog f args .normal)<|cl::cs) (hn:∀l',iy l'->tH l l'->fy.fl Tryz.prog true J l' (G (b.at (a.put o.dst v)<|.inRegion ops rest::k) cs)) (ho:ops[i]?=some o:=by rfl) (po:o.op=.call {callee:=.value<|.func f,args:=Na,argTypes:=Nb}:=by rfl) (hw:Region.wanted o (yielded ops a.tmps)=true:=by rfl) (hk:b.kind≠.early:=by k_ne) (hr:∀w,(execOp a.eval o).run Tryz.prog w=.ok (.enter f args) w:=by intro w;go_simp) (hm:(fn.name== "runtime.NumGoroutine")=false:=by rfl) (hd:fn.body.isNone=false:=by rfl): fy.fl Tryz.prog true J l (G (b.at a<|.inRegion ops (i::rest)::k) cs):=by refine Aj ho hw hk hb.r.r hr (λw=>Ï po hf hm hd #[]) λw₁ jH=> ?_;refine fy.fl.lS ?_<|hc _ (hb.C jH) (Æ Sy jH.r) _ _;rintro l2 g2 ⟨ha,hd,rfl⟩;rw[Ğ,ho];have k2:wz {l with w:=w₁} l2:=λb q=>⟨ha.O b q,ha.r.I b<|ã q⟩;exact hn l2 (jK.zx (hb.C jH) ha hd) ⟨(FC jH).r k2,Æ jH.r ha.r.r⟩
def at7(c:iy l)(b:Nd kk n K i tt)(F:i<n)(G:n<17) (f:∀l' a,iy l'->tH l l'->Nd kk n K (i+1) a->jc vQ l' (CP a)):jc vQ l (CP tt):=by
 have hF:True:=trivial;obtain⟨u,rfl⟩:=zg tt b.r;have h:u 2=Ë Ê kk:=by simpa using b.M
 have j:u 7=Ë Ê n:=by simpa using b.N
 have k:u 8=Ë è (lE K i):=by simpa using b.S
 have m:u 9=É (fH K):=by simpa using b.Y
 have o:u 10=É ⟨(lD i).toArray⟩:=by simpa using b.C
 have p:u 11=Ë Ê i:=by simpa using b.I
 clear b;have H:(i:Int)<n:=Z
 have I:Ê.wrap ((i:Int)+1)=((i+1:Nat):Int):=ñ _ ⟨Z,Z⟩;have q:=atU i;have J:(⟨(lD i).toArray⟩:ByteArray).size=2*i+1:=by rw[Õ,Ì,pV]
 obtain⟨d,r⟩:∃d,è.wrap (lE K i*lE K i)=d:=⟨_,U⟩;have g:lE K (i+1)=d:=r;have s:∀l' a,iy l'->tH l l'->a.size=59->a[2]?=Ä (Ë Ê kk)->a[7]?=Ä (Ë Ê n)->a[8]?=Ä (Ë è d)->a[9]?=Ä (É<|fH K)->a[10]?=Ä (É ⟨(lD<|i+1).toArray⟩)->a[11]?=Ä (Ë Ê ((i+1:Nat):Int))->jc vQ l' (CP a):= λl' a e t w x y z B C E=>f l' a e t ⟨w,x,y,by rw[z,g],B,C,E⟩;clear f g;generalize lE K i=v at*;generalize fH K=D at*;generalize(⟨(lD i).toArray⟩:ByteArray)=P at*;generalize(⟨(lD<|i+1).toArray⟩:ByteArray)=P' at*;apply pU;apply gl (n:=60) c.r.r;simp only[CP,ð,List.range.loop,ń,h,j,k,m,o,p];conv in(occs:=1) Nc=>whnf
 repeat w_go fC
 refine Ã λ_ _=> ?_;refine sI P ⟨#[100,42]⟩ P' c q (by show P.size+2<=_;omega) ?_;walk_nrm;apply gl (n:=60) c.r.r;repeat w_nl fC
 w_go fC
 refine Ã λ_ _=> ?_;exact .fD λt e=>⟨c.C e,U,s _ _ (c.C e) ⟨FC e,e.r⟩ U U U U U U U⟩
end
def Ao(S T:ByteArray):∃a,S++T=a/\a.size=S.size+T.size:=⟨_,U,Å⟩
def aua(h:n<18446744073709551616):(fH n).size<=20:=by unfold fH;rw[Õ,Ì,Ć];exact M5 19 n<|Nat.lt_trans h A
section
variable{l g c:ff}{K:Nat}
def aub(z:iy l)(T:mB l.w)(W:∀b,b=1\/b=2\/b=3\/b=4->l.O b)(g:Nd h n K n d)(X:n<17)(M:K<1000000)(se:-9223372036854775808<=h)(rI:h<=9223372036854775807) (hP:∀c,iy c->(∀b,l.O b->c.O b/\c.w.heap[b]?=l.w.heap[b]?)->l.w.heap.size<=c.w.heap.size->vQ (ģ Ü) c.w):jc vQ l (CP d):=by
 have hF:True:=trivial;obtain⟨u,rfl⟩:=zg d g.r;have e2:u 2=Ë Ê h:=by simpa using g.M
 have e7:u 7=Ë Ê n:=by simpa using g.N
 have Y:u 8=Ë è (lE K n):=by simpa using g.S
 have e9:u 9=É (fH K):=by simpa using g.Y
 have Pl:u 10=É ⟨(lD n).toArray⟩:=by simpa using g.C
 have z_:u 11=Ë Ê n:=by simpa using g.I
 clear g;have yM:=atW (k:=(K:Int)) ⟨Z,Z⟩ n;have j:=atP X M;have MH:=atD<|atS X;have auc:=atV n;have heq:=atT K;have Em:=acP (N:=400) (K:=K) A M;have hz:(⟨(lD n).toArray⟩:ByteArray).size=2*n+1:=by rw[Õ,Ì,pV]
 have hps:=M6 n;have dK:=CO M;unfold UU at j;obtain⟨V,hV⟩:∃V:Nat,lE K n=V:=⟨(lE K n).toNat,Z⟩;rw[hV]at Y yM j;rw[show((V:Int)).toNat=V by omega]at j;have acV:V<18446744073709551616:=Z
 have dV:=aua acV;clear hV yM;have c1:¬(n:Int)<n:=Z
 obtain⟨B,hm3⟩:∃B,3*n=B:=⟨_,U⟩;obtain⟨m,hm⟩:∃m,2+B=m:=⟨_,U⟩;have q1:Ê.wrap (3*(n:Int))=(B:Int):=by rw[ñ _ ⟨Z,Z⟩];omega
 have q2:Ê.wrap (2+(B:Int))=(m:Int):=by rw[ñ _ ⟨Z,Z⟩];omega
 have q3:è.wrap (m:Int)=m:=by rw[ü];omega
 rw[hm3,hm]at j;have dm:=CO (n:=m) Z;have hm6:m<1000000:=Z
 generalize jB ⟨#[59]⟩ [ng 400 K,nh K]=J at*;generalize fH K=D at*;generalize(⟨(lD n).toArray⟩:ByteArray)=P at*;generalize me n=PP at*;let⟨o,GJ,z1⟩:=Ao ⟨#[99,49,58,101,62,98,40,52,48,48,44]⟩ D;let⟨H,ua,z2⟩:=Ao o ⟨#[41,59,109,49,58,97,62,98,40]⟩;let⟨Q,hC3,z3⟩:=Ao H D;let⟨r,qR,y1⟩:=Ao ⟨#[49,44]⟩<|fH V;let⟨I,zq,y2⟩:=Ao r ⟨#[44]⟩;let⟨C,zm,y3⟩:=Ao I<|fH m;let⟨L,vK,y4⟩:=Ao C ⟨#[59]⟩;let⟨A5,rV,y5⟩:=Ao L<|fH m;rw[GJ,ua,hC3]at heq;rw[qR,zq,zm,vK,rV]at j;change o.size=11+D.size at z1;change H.size=o.size+9 at z2;change r.size=2+(fH V).size at y1;change I.size=r.size+1 at y2;change L.size=C.size+1 at y4;have HA:=fg<|Ċ j MH;clear j MH;apply pU;apply gl (n:=60) z.r.r;simp only[CP,ð,List.range.loop,ń,e2,e7,Y,e9,Pl,z_];conv in Nc=>whnf
 conv in acU=>whnf
 repeat w_go fC
 refine Ã λ_ _=> ?_;refine sI P ⟨#[114]⟩ PP z auc (by show P.size+1<=_;omega) ?_;walk_nrm;apply gl (n:=60) z.r.r;repeat w_nl fC
 refine Ã λ_ _=> ?_;refine .fD λw₁ S=>⟨z.C S,U,?_⟩;have ml:=z.C S;refine CG (f:=8) (args:=#[É PP,Ë Ê h]) ml U fZ (by k_ne) (λw=>by go_simp) (λw=>Ï U Ĥ U U #[]) λwS s=> ?_;have E:fJ l l.w wS:=S.fh ⟨s.r,s.I,s.N,s.Y,s.S⟩;refine atZ (p:=PP) (ml.C s) (T.r (Æ T.fw E.r) λb q=>E.I b<|ã<|W b q) W Z h se rI HA.out.2 λl3 x nx F G AV=> ?_;have hx:l.w.heap.size<=x:=Æ E.r AV;have u3:ni l.O l.w l3 x nx [gp.jM,qC PP]:=⟨G.a,λb q=>⟨⟨(G.C b q).1.1,(G.C b q).1.2.trans<|E.I b<|ã q⟩,(G.C b q).2⟩⟩;clear G AV E;walk_nrm;apply pU;apply gl (n:=40) F.r.r;repeat w_go fC
 refine Ã λ_ _=> ?_;apply rQ (v:=ģ á) U fZ (by k_ne) F.r.r F.q (λw _=>by go_simp) (λw _ e i=>by simp[go_sem,UF]at i);walk_nrm;apply gl (n:=60) F.r.r;repeat w_nl fC
 refine Ã λ_ _=> ?_;refine KE u3 F ġ (λc y i cl cs=>acT (n:=m) y i Z) λl4 e u4 _=> ?_;clear u3;generalize fH m=DG at*;walk_nrm;apply gl (n:=60) e.r.r;repeat w_nl fC
 refine Ã λ_ _=> ?_;refine sI ⟨#[99,49,58,101,62,98,40,52,48,48,44]⟩ D o e GJ (by show 11+D.size<=_;omega) ?_;walk_nrm;refine sI o ⟨#[41,59,109,49,58,97,62,98,40]⟩ H e ua (by show o.size+9<=_;omega) ?_;walk_nrm;apply gl (n:=60) e.r.r;repeat w_nl fC
 refine Ã λ_ _=> ?_;apply sI H D Q e hC3 Z;walk_nrm;refine sI Q ⟨#[41]⟩ J e heq (by show Q.size+1<=_;omega) ?_;walk_nrm;apply gl (n:=60) e.r.r;repeat w_nl fC
 refine Ã λ_ _=> ?_;refine KE u4 e ġ (λc y i cl cs=>acT (n:=V) y i acV) λl5 i u5 _=> ?_;clear u4;generalize fH V=DV at*;walk_nrm;refine sI ⟨#[49,44]⟩ DV r i qR (by show 2+DV.size<=_;omega) ?_;walk_nrm;refine sI r ⟨#[44]⟩ I i zq (by show r.size+1<=_;omega) ?_;walk_nrm;apply gl (n:=60) i.r.r;repeat w_nl fC
 refine Ã λ_ _=> ?_;apply sI I DG C i zm Z;walk_nrm;refine sI C ⟨#[59]⟩ L i vK (by show C.size+1<=_;omega) ?_;walk_nrm;apply gl (n:=60) i.r.r;repeat w_nl fC
 refine Ã λ_ _=> ?_;apply sI L DG A5 i rV Z;walk_nrm;refine at6 u5 i Ĉ (args:=#[ć<|Ä ⟨x,0,Ī⟩,É J,É A5]) λl6 Ft u6 _ _=> ?_;refine acQ u6 Ft (by unfold Ģ;omega) HA.out.1 λl7 Fu u7=> ?_;clear u5 u6;walk_nrm;apply ar0;apply gl (n:=60) Fu.r.r;repeat w_nl fC
 refine Ã λ_ _=>(.fD λDK acW=>⟨U,ģ Ü,λw=>asN (t:=6) U U ķ U fv,?_⟩);have y:=Fu.C acW;have h':=u7.r acW;exact hP _ y (λb q=>(h'.C b q).1) (by let⟨_,_,q⟩:=h'.a;exact Æ hx<|Nat.le_of_lt<|y.r.fw x<|ã q.ft)
end
section
variable{l c a:ff}
def acX(g:mB c.w)(j:∀b,b=1\/b=2\/b=3\/b=4->c.O b)(k:n<17)(o:i<1000000)(p:-9223372036854775808<=h)(r:h<=9223372036854775807) (s:∀a,iy a->(∀b,c.O b->a.O b/\a.w.heap[b]?=c.w.heap[b]?)->c.w.heap.size<=a.w.heap.size->vQ (ģ Ü) a.w): ∀(m f:Nat) (l:ff) (d:Array æ),n-f=m->f<=n->tH c l->iy l->Nd h n i f d->jc vQ l (CP d)
 |0,f,l,d,hm,hi,hs,hb,hT=>by
  have e:f=n:=Z
  subst e;refine aub hb (g.r (Æ g.fw hs.2) λb q=>(hs.1 b<|j b q).2) (λb q=>(hs.1 b<|j b q).1) hT k o p r λa q u v=> ?_;have t:tH c a:=hs.C ⟨u,v⟩;exact s a q t.1 t.2
 |m+1,f,l,d,hm,hi,hs,hb,hT=>at7 hb hT Z k λa e q t u=>acX g j k o p r s m (f+1) a e Z Z (hs.C t) q u
def aud(o:iy l)(g:mB l.w)(x:∀b,b=1\/b=2\/b=3\/b=4->l.O b)(arg c h:Int)(p:-9223372036854775808<=arg)(r:arg<=9223372036854775807)(y:-9223372036854775808<=c)(z:c<=9223372036854775807)(B:-9223372036854775808<=h)(C:h<=9223372036854775807) (D:∀a,iy a->(∀b,l.O b->a.O b/\a.w.heap[b]?=l.w.heap[b]?)->l.w.heap.size<=a.w.heap.size->vQ (ģ Ü) a.w): jc vQ l (G (ß À 3 #[Ë Ê arg,Ë Ê c,Ë Ê h] þ) []):=by
 have hF:True:=trivial;have E:=UW c (n:=17) A;have F:=UW arg (n:=1000000) A;rw[CF [_,_,_] 56 ķ];simp only[ĉ,é,ÿ];conv in lX _ _=>whnf
 apply pU;apply gl (n:=40) o.r.r;repeat w_go fC
 refine Ã λ_ _=> ?_;refine UX g.fw o č (λa d f s t=>acS (n:=17) d f c y z A A) λI u j=> ?_;generalize pW c 17=n at*;walk_nrm;apply gl (n:=60) u.r.r;repeat w_nl fC
 refine Ã λ_ _=> ?_;refine UX (Æ g.fw j.2) u č (λa d f s t=>acS (n:=1000000) d f arg p r A A) λJ k m=> ?_;have K:è.wrap ((pW arg 1000000:Nat):Int)=(pW arg 1000000:Nat):=by rw[ü];omega
 walk_nrm;apply rQ (v:=Ë è (pW arg 1000000:Nat)) U fZ (by k_ne) k.r.r k.q (λw _=>by go_simp) (λw _ e H=>by simp[go_sem]at H);walk_nrm;apply gl (n:=60) k.r.r;repeat w_nl fC
 refine Ã λ_ _=> ?_;refine UX (Æ g.fw<|Æ j.2 m.2) k Ķ (λa d f s t=>at5 d f arg p r) λt d f=> ?_;generalize pW arg 1000000=i at*;have s:=(j.C m).C f;clear j m f;walk_nrm;apply gl (n:=60) d.r.r;repeat w_bar fC
 w_go fC
 refine Ã λ_ _=> ?_;exact .fD λH e=>⟨d.C e,U,acX g x E F B C D n 0 _ _ Z (Î _) (s.jw e) (d.C e) ⟨U,U,U,U,U,U,U⟩⟩
end
def aue(d:mB W)(arg a c:Int)(e:-9223372036854775808<=arg)(f:arg<=9223372036854775807)(g:-9223372036854775808<=a)(h:a<=9223372036854775807)(i:-9223372036854775808<=c)(j:c<=9223372036854775807): sG (λv w'=>v=ģ Ü/\nS W w') #[G (ß À 3 #[Ë Ê arg,Ë Ê a,Ë Ê c] þ) []] W Ī #[]:= asO (l:=ab5 W) (aud (ab6 W) d (asP d) arg a c e f g h i j λm _ v k=>⟨U,λb q=>(v b q).2,k⟩) (ab6 W) U
end Go.Proofs.Y.kt
