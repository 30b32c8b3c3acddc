import Derived.Test.YtgpphkdoanciiabGreatDoorWAE
import Derived.Lib.LaidTab
import Derived.OpenShut
import Derived.Test.YtgpphkdoanciiabGreatDoorRows
import Derived.Conc.LeavingOf
import Derived.LaidMore
import Derived.Stop.Joined
import Derived.Carry
import Derived.Orders
set_option linter.all false
set_option maxRecDepth 1000000
set_option maxHeartbeats 8000000
open Go.Proofs.Tryz renaming prog->À,func10->Ĕ,func9->Ě,underlying23->ě,f4->ġ,underlying3->Ģ,underlying5->Ĥ,func8->Ķ,func6->ķ,ntmps6->ŋ,func4->ŏ
open ByteArray renaming size_append->Á,data_append->Ê,ext->Ö,append_assoc->Þ,data_extract->ß,size_extract->ì,size->Ē,extract->Ğ,getElem_extract->Ĺ,extract_extract->ĺ,append_empty->ł
open Go.Value renaming string->Â,int->É,pointer->å,slice->í,bool->Ī
open Option renaming some->Ã,none->ý,bind_eq_some_iff->Ą,map_eq_some_iff->Ć,bind_some->Ħ,map_some->Ĭ,map->Ŏ
open Bool renaming true->Ä,false->ï,and_eq_true->ð,false_or->Ľ
open Go.IntKind renaming i64->Å,u64->þ,wrap_u64->ą,wrap_i64->ŕ
open Go.Conc.Goes renaming stop->Æ
open Nat renaming le_refl->Ç,zero_le->Ô,le_trans->Ý,sub_self->Ĉ,mul_le_mul->ē,strongRecOn->Į,zero_add->Ń
open Array renaming length_toList->È,getElem?_eq_some_iff->Ï,getElem?_eq_getElem->Ó,toList_inj->Û,getD_eq_getD_getElem?->á,toList_extract->ä,getElem?_setIfInBounds_ne->î,getElem_toList->Đ
open Go renaming Value->Ë,World->ë,execOp->ĉ,Oper->ė,Goroutine->ħ,Frame->Ĩ,laidMetH->ĳ,maxLen->ĵ,Operand->ĸ,TypeId->ń,DataW->Ņ,undef->ņ,Act->Ő,IntKind->ő,Code->Ŕ,Program->Ŗ,Item->ŝ
open Go.IntWalk renaming i64_in->Ì
open List renaming range->Í,length_append->Ð,map_cons->Õ,length_cons->Ú,getElem?_eq_getElem->æ,cons_append->ñ,all_eq_true->ò,getElem?_drop->ó,mem_range->õ,getElem?_eq_some_iff->ö,extract_eq_take_drop->ø,getElem?_map->ù,size_toArray->û,take->ÿ,drop->Ā,getElem?_cons_zero->ā,getElem?_cons_succ->Ă,nil_append->Ċ,getElem?_eq_none->Č,replicate->ĕ,map->Ė,mem_cons->Ę,map_nil->Ĝ,take_add_one->ĝ,append_assoc->ğ,not_mem_nil->ģ,getD->ĥ,append_nil->ĭ,length_set->İ,length_map->ı,all_cons->ļ,range'->ň,length->ŉ
open Go.Conc renaming events_call_body->Î,goes_leave1->Ŋ,listed->Ŝ
open Go.Proofs.YtgpphkdoanciiabGreatDoor.Rows renaming laid_math_bits_deBruijn32tab->Ñ,laid_math_bits_deBruijn64tab->Ò,laid_attic_attic_stepRules->Ù,laid_internal_strconv_uint64pow10->â
open Or renaming inl->Ø,inr->ć
open Go.Frame renaming enter->Ü,finish_at->Ĳ
open List.range renaming loop->à
open Int renaming tmod_eq_emod_of_nonneg->ã,tdiv_eq_ediv_of_nonneg->ô,emod_nonneg->ċ
open Option.some renaming inj->ç,injEq->Œ
open Go.DataW renaming trod->è,trod_int->Ď,agg->Š
open UInt8 renaming ofNat->é
open Go.Item renaming inRegion->ê,code->Ġ,inBlock->Ō
open Go.Lib renaming nDigits_small->ú,tabData->č,nDigits->đ,nDigits_big->į
open Go.CallKind renaming normal->ü
open Go.Act renaming eval->ă
open Go.World renaming cell?->ď,var?->ō
variable{i n j b k m J j9 j7 j6:Nat}{w u W jX:ë}{v x z jQ:Ë}{h c:Int}{e t T:ń}{d q:Array Ë}{P:Ŗ}{y:Ő}{B:ByteArray}{X:Nat->Prop}{O:Option Go.Addr}{l:List Ë}{yQ:Bool}{K H:Ő->ë->Prop}{o:ė}{D:Nat->Nat}{L:List ŝ}{jJ:List Nat}{qX:List Ĩ}{qQ:ĸ}{zQ:List Int}{xJ:Nat×Nat}{wJ:Array Bool}{vX:List ByteArray}{vQ:Ë->ë->Prop}{Q:Array ė}{f:Ĩ}
namespace Go.Proofs.Y.jF
open Go Go.Conc Go.Proofs Go.RowKit Go.Proofs.Y.Lift Go.Proofs.Y.fV Go.Proofs.Y.fB Go.Proofs.Y.lL
open Go.Proofs.YtgpphkdoanciiabGreatDoor (Rows.laid_math_bits_deBruijn32tab Rows.laid_math_bits_deBruijn64tab Rows.laid_internal_strconv_uint64pow10 Rows.laid_attic_attic_stepRules)
def Ni:List (String×DataW Unit):=[("math/bits.deBruijn32tab",Ñ),("math/bits.deBruijn64tab",Ò),("internal/strconv.uint64pow10",â),("attic/attic.stepRules",Ù)]
theorem Nj(h:W.ShapedOpen À)(g:Nat)(t:ń)(b:g<À.globals.size)(e:(((begin À (λ_ _=>0) default).world.heap[g]?).bind Obj.row?).map (·.2)=Ã t): ∃a,W.heap[g]?=Ã (.cells a t):=by let⟨⟨z,c⟩,d,f⟩:=Ć.1 e;let⟨a,i,_⟩:=h.1 g z c b d;grind
theorem acr{n:String}(b:À.globalNamed n=Ã i)(h:W.heap[i]?=Ã (.cells q t xJ))(a:W.var? À n=Ã d):q=d:=by unfold ō at a;grind
def UW{n:String}{N:Nat}{k:ő}{p:List MemPlace} (a:À.globalNamed n=Ã i) (f:(À.globals[i]?).map (·.type)=Ã t) (h:À.underlying t=Ã (.array N e)) (l:À.underlying e=Ã (.int k)) (m:À.cellsOf e=1) (o:À.cellsOf t=N) (r:W.heap[i]?=Ã (.cells d t xJ)) (s:À.globalNamed n=Ã b) (u:(À.globals[b]?).map (·.type)=Ã T) (v:W.var? À n=Ã q) (w:è (λ_=>()) À W 0 (λ_=>Ä) ï j T q.toList=Ã (č k zQ,p)):d=(zQ.map λz=>É k z).toArray:=by obtain rfl:=ç<|a.symm.trans s;obtain rfl:=ç<|f.symm.trans u;rw[acr a r v,<-Lib.cells_of_tab h l m o w]
def as9:À.cellsOf 293=3:=fv
def acs:À.cellsOf 23=1:=fv
def ata:À.cellsOf 3=1:=fv
def atb:À.cellsOf 294=69:=fv
def atc{p:List MemPlace}(v:è (λ_=>()) À W 0 (λ_=>Ä) ï n 294 l=Ã (Ù,p)): l.length=69/\∀(i:Nat) (r:Int×Int×Int),je[i]?=Ã r->l[i*3]?=Ã (É þ r.1)/\l[i*3+1]?=Ã (É Å r.2.1)/\l[i*3+2]?=Ã (É Å r.2.2):=by
 obtain⟨f,m,rfl,w,y,K,z⟩:=DataW.trod_array Tryz.underlying294 v;refine⟨y.trans atb,λi r o=> ?_⟩;have B:i<23:=by have:=(ö.1 o).1;exact this
 have g:=z i B;rw[as9]at g;have C:f.map (·.1)=je.map λr=>(Š [.lit<|.int þ r.1,.lit<|.int Å r.2.1,.lit<|.int Å r.2.2]:Ņ Unit):=by have:=congrArg Prod.fst w;simp only[Ù,DataW.agg.injEq]at this;exact this.symm
 obtain⟨x,q⟩:∃x,f[i]?=Ã x:=⟨_,æ Z⟩;rw[q]at g;have d:(f.map (·.1))[i]?=Ã x.1:=by simp[q]
 rw[C]at d;simp only[ù,o,Ĭ,Œ]at d;obtain⟨e,h,rfl,j,L,D,k⟩:=DataW.trod_struct Tryz.underlying293 g;have a:=k 0 _ U;have b:=k 1 _ U;have c:=k 2 _ U;have a:è _ À W 0 _ ï h 23 (ÿ (À.cellsOf 23)<|Ā 0<|ÿ 3<|Ā (i*3) l)=e[0]?:=a;have b:è _ À W 0 _ ï h 3 (ÿ (À.cellsOf 3)<|Ā 1<|ÿ 3<|Ā (i*3) l)=e[1]?:=b;have c:è _ À W 0 _ ï h 3 (ÿ (À.cellsOf 3)<|Ā 2<|ÿ 3<|Ā (i*3) l)=e[2]?:=c;rw[acs]at a;rw[ata]at b c;match e,D,j,a,b,c with
 |[y0,y1,y2],_,j,a,b,c=>
  let⟨M,E,F,_⟩:=Ď ě (show è _ _ _ _ _ _ _ 23 _=Ã y0 from a);let⟨N,G,H,_⟩:=Ď Ģ (show è _ _ _ _ _ _ _ 3 _=Ã y1 from b);let⟨O,I,J,_⟩:=Ď Ģ (show è _ _ _ _ _ _ _ 3 _=Ã y2 from c);subst F;subst H;subst J;rw[j]at d;simp only[Õ,Ĝ,DataW.agg.injEq,List.cons.injEq,DataW.lit.injEq,Lit.int.injEq,true_and,and_true]at d;obtain⟨rfl,rfl,rfl⟩:=d;have s:=congrArg (·[0]?) E;have t:=congrArg (·[0]?) G;have u:=congrArg (·[0]?) I;simp[List.getElem?_take,ó]at s t u;exact⟨s,t,u⟩
def acu(h:∀v∈d.toList,∃k n,v=É k n):fX (lA X i) d d:=pP λv a=>by obtain⟨k,n,rfl⟩:=h v a;exact .iH _ _
def atd{l:List (String×DataW Unit)}(h:ĳ P l W)(a:(l.filter λx=>x.2.handleName?.isSome)=[]):∃b,DataW.LaidVars P W l b:=by unfold ĳ at h;rw[a]at h;exact⟨h.choose,h.choose_spec.1⟩
def ate:À.cellsOf 298=32:=fv
def atf:À.cellsOf 299=64:=fv
def atg:À.cellsOf 285=20:=fv
def acv:À.cellsOf 5=1:=fv
def gn1:À.globalNamed "internal/strconv.uint64pow10"=Ã 1:=fv
def gn2:À.globalNamed "attic/attic.stepRules"=Ã 2:=fv
def gn3:À.globalNamed "math/bits.deBruijn32tab"=Ã 3:=fv
def gn4:À.globalNamed "math/bits.deBruijn64tab"=Ã 4:=fv
def Nk(g:Nat)(t:ń)(h:(g,t)∈[(1,285),(2,294),(3,298),(4,299)]):(À.globals[g]?).map (·.type)=Ã t/\g<À.globals.size/\(((begin À (λ_ _=>0) default).world.heap[g]?).bind Obj.row?).map (·.2)=Ã t:=by
 simp only[Ę,ģ,or_false,Prod.mk.injEq]at h;rcases h with⟨rfl,rfl⟩|⟨rfl,rfl⟩|⟨rfl,rfl⟩|⟨rfl,rfl⟩
 .exact⟨fv,of_decide_eq_true fv,fv⟩
 .exact⟨fv,of_decide_eq_true fv,fv⟩
 .exact⟨fv,of_decide_eq_true fv,fv⟩
 .exact⟨fv,of_decide_eq_true fv,fv⟩
def ath:Ņ Unit->Int
 |.lit (.int _ z)=>z
 |_=>0
def acw:Ņ Unit->List Int
 |Š l=>l.map ath
 |_=>[]
def ati:(Ñ:Ņ Unit)=č .u8 (acw Ñ):=rfl
def atj:(Ò:Ņ Unit)=č .u8 (acw Ò):=rfl
def atl:(â:Ņ Unit)=č þ Lib.pow10Tab:=rfl
def atm{k:ő}:∀v∈(zQ.map λz=>É k z).toArray.toList,∃k n,v=É k n:=λv a=>by simp only[List.mem_map]at a;obtain⟨z,_,rfl⟩:=a;exact⟨_,_,U⟩
def atn(k:Nat)(h:k<69):∃i j,i<23/\j<3/\k=i*3+j:=⟨k/3,k%3,Z,Z,Z⟩
theorem ato{W:ë}(hs:W.ShapedOpen À)(hl:ĳ À Ni W):na W:=by
 obtain⟨ps,g3,t3,cs3,f3,p3,q3,UL,ht3,hv3,xC,⟨g4,t4,cs4,f4,p4,q4,hg4,Hc,hv4,S8,⟨g1,t1,cs1,f1,p1,q1,wv,BH,hv1,B7,⟨g2,t2,cs2,f2,p2,q2,LF,JF,MQ,n9,_,_⟩,_⟩,_⟩,_⟩:=atd hl (by kernel_rfl);obtain⟨y1,s1,z1⟩:=Nk 1 285 (by simp);obtain⟨y2,s2,z2⟩:=Nk 2 294 (by simp);obtain⟨y3,s3,z3⟩:=Nk 3 298 (by simp);obtain⟨y4,s4,z4⟩:=Nk 4 299 (by simp);obtain⟨c1,b1⟩:=Nj hs 1 285 s1 z1;obtain⟨c2,b2⟩:=Nj hs 2 294 s2 z2;obtain⟨c3,b3⟩:=Nj hs 3 298 s3 z3;obtain⟨c4,b4⟩:=Nj hs 4 299 s4 z4;rw[ati]at xC;rw[atj]at S8;rw[atl]at B7;have e3:=UW gn3 y3 Tryz.underlying298 Ĥ acv ate b3 UL ht3 hv3 xC;have e4:=UW gn4 y4 Tryz.underlying299 Ĥ acv atf b4 hg4 Hc hv4 S8;have e1:=UW gn1 y1 Tryz.underlying285 ě acs atg b1 wv BH hv1 B7;obtain rfl:=ç (gn2.symm.trans LF);obtain rfl:=ç (y2.symm.trans JF);obtain⟨hlen,mN⟩:=atc n9;have e2:=acr gn2 b2 MQ;subst e2;have atp:=λi r hr=>by have:=mN i r hr;simpa using this
 have acy:∀(k:Nat) (v:Ë),c2[k]?=Ã v->∃(kd:ő) (n:Int),v=É kd n/\kd≠.u8:=λk v hv=>by
  have hk:k<69:=by grind
  obtain⟨i,j,hi,hj,rfl⟩:=atn k hk;obtain⟨r,hr⟩:∃r,je[i]?=Ã r:=⟨_,æ (show i<je.length from hi)⟩;grind
 have kh:=(Ï.1 b4).1;refine⟨?_,?_,⟨c3,_,b3,Ô _,Ô _,?_,?_⟩,⟨c4,_,b4,Ô _,Ô _,?_,?_⟩,?_,⟨⟨c2,_,b2⟩,λi r hr=> ?_⟩,?_⟩
 .have h5:nB=5:=by kernel_rfl
  omega
 .rintro b (rfl|rfl)
  .refine⟨c1,285,_,b1,Ô _,acu (by rw[e1];exact atm),by rw[e1];exact of_decide_eq_true (by kernel_rfl),λk v hv=> ?_,by decide,by decide⟩;rw[e1]at hv;simp only[List.getElem?_toArray,ù,Ć]at hv;obtain⟨z,_,rfl⟩:=hv;rfl
  .refine⟨c2,294,_,b2,Ô _,acu λv hv=> ?_,?_,λk v hv=> ?_,by decide,by decide⟩
   .obtain⟨k,hk,e⟩:=List.mem_iff_getElem.1 hv;obtain⟨kd,n,e',_⟩:=acy k v (by rw[<-e];simp);grind
   .grind
   .obtain⟨kd,n,rfl,hn⟩:=acy k v hv;cases kd<;>first|rfl|exact absurd rfl hn
 .rw[e3];exact of_decide_eq_true (by kernel_rfl)
 .grind
 .rw[e4];exact of_decide_eq_true (by kernel_rfl)
 .grind
 .unfold fV.lU Lib.TabIs ō;rw[gn1];grind
 .obtain⟨h0,h1,h2⟩:=atp i r hr;exact⟨by simp only[ď,b2];exact h0,by simp only[ď,b2];exact h1,by simp only[ď,b2];exact h2⟩
 .unfold qA;simp only[ď,b4,e4];rfl
end Go.Proofs.Y.jF
namespace Go.Proofs.Y.jF
open Go Go.Conc Go.Proofs Go.RowKit Go.Proofs.Y.Lift Go.Proofs.Y.fV Go.Proofs.Y.fB Go.Proofs.Y.lL
open Go.ChangeShapes Go.WideShapes Go.ChangeAt
def fx:ownKnob À.godebug=ý:=fv
def atq:laidOutB À=Ä:=fv
def atr{w':ë}(h:nS W w')(a:w'.os=W.os)(b:w'.output=W.output):Below W.heap.size W {w' with tape:=W.tape}:=⟨a,U,b,h.Dw,h.rF⟩
def atu(os:Os)(a:Array Ë):ĳ À Ni ((World.doorLaid À 400 os).forCall (λ_ _=>0) ⟨#[],a,[]⟩).memory:= laidMetH_of_parts3 (fuel:=8) (laidMet_of_run' 8 fv fv) fv fv
end Go.Proofs.Y.jF
namespace Go.Proofs.Y.lL
open Go Go.Proofs Go.RowKit Go.Proofs.Y.Lift Go.Proofs.Y.fV
def vk(B:ByteArray)(c:UInt8):Nat->Nat->Nat->List ByteArray
 |0,fr,_=>[B.extract fr B.size]
 |f+1,fr,i=>if h:i<B.size then if B[i]=c then B.extract fr i::vk B c f (i+1) (i+1)else vk B c f fr (i+1)else[B.extract fr B.size]
def acz:List Int->List (List Int)
 |[]=>[[]]
 |a::l=>(a::l)::acz l
def Az:List (List Int):=[[86,58,120,47,66],[86,58,120,115],[86,58,120],[86,58,120,62,121,40,110,44,107,41],[86,58,120,62,121,40,107,41],[86,58,87],[86],[121,61,110],[80],[120,84],[82]].flatMap acz
def atv:∀r∈Az,r.tail∈Az:=A
def acA:∀r∈Az,59∉r/\(r.headD 0=66->r=[66])/\(82∈r->r=[82])/\(80∈r->r=[80]):=A
def atw(k:Int):rp k∈Az/\rp k≠[82]/\80∉rp k:=by
 unfold rp;repeat' split
 all_goals decide
def acB(k:Int):sy k∈Az/\sy k≠[82]:=by
 unfold sy;repeat' split
 all_goals decide
structure ll(D:List PR)(a b:PD):Prop where
 M:a.r=Ä
 N:b.r=Ä
 C:a.S=D
 S:b.S=[]
 r:a.I=b.I
 I:a.M=b.M
 Y:b.M=Ä->a.N=b.N
structure C3(D:List PR)(k:Nat)(a b:PS):Prop where
 r:a.C=b.C
 C:b.C∈Az
 I:a.r=b.r
 N:0<b.r->a.M=b.M
 M:80∈b.C->a.I=b.I/\b.I.toNat<=k
 d:(b.C=[82]/\b.r=0/\a.d.C=D/\b.d.C=[])\/(b.C≠[82]/\ll D a.d b.d)
section
variable{D:List PR}{a b:PD}
def ll.gN(h:ll D a b):a.Y=b.Y:=by
 unfold PD.Y;rw[h.I,h.r];split
 .rw[h.Y ‹_›]
 .rfl
theorem ll.G(h:ll D a b):∃r,a.C=D++[r]/\b.C=[r]:=by unfold PD.C;rw[h.M,h.N,h.C,h.S,h.r,h.gN];grind
def ll.oh(h:ll D a b)(i:Nat)(z:Int):ll D (a.oh i z) (b.oh i z):= ⟨h.M,h.N,h.C,h.S,by unfold PD.oh;rw[h.r],h.I,h.Y⟩
def ll.oH(h:ll D a b)(i:Nat)(z:Int):ll D (a.oH i z) (b.oH i z):= ⟨h.M,h.N,h.C,h.S,h.r,h.I,λq=>by unfold PD.oH;rw[h.Y q]⟩
def ll.iL(h:ll D a b)(i:Nat)(z:Int):ll D (a.iL i z) (b.iL i z):=by
 unfold PD.iL;rw[h.I];split
 .exact h.oH i z
 .exact h.oh i z
def ll.fR(h:ll D a b)(n z:Int):ll D (a.fR n z) (b.fR n z):=by
 unfold PD.fR;repeat' split
 all_goals first|exact h.oh _ _|exact h.iL _ _|exact h
theorem ll.AK(h:ll D a b)(n:Int):a.G n=b.G n:=by
 unfold PD.G PD.tF;rw[h.r,h.I];by_cases q:b.M=Ä
 .rw[h.Y q]
 .grind
def ll.o6(h:ll D a b)(p:ByteArray):ll D (a.o6 p) (b.o6 p):= ⟨h.M,h.N,h.C,h.S,h.r,h.I,λq=>by unfold PD.o6;rw[h.Y q]⟩
def ll.nL(h:ll D a b):ll D a.nL b.nL:= ⟨h.M,h.N,h.C,h.S,by unfold PD.nL;rw[h.r,h.gN],U,λ_=>rfl⟩
end
section
variable{D:List PR}{a b g:PS}{o:Nat}{P:ByteArray}
def Ja(D:List PR)(k:Nat):Option PS->Option PS->Prop
 |some a,Ã b=>C3 D k a b
 |none,ý=>True
 |_,_=>False
def acC(e:ll D a.d b.d)(f:c≠59)(g:a.r=0/\b.r=0):Ja D (k+1) (oI a c) (oI b c):=by
 unfold oI;rw[if_neg λq=>f q.1,e.gN,if_neg (c:=c=59/\b.d.S.length+1<24) λq=>f q.1];split
 .exact⟨U,(by decide:[120,84]∈Az),g.1.trans g.2.symm,(λq=>by have:0<b.r:=q;omega),(λq=>by simp at q),ć ⟨(by decide:[(120:Int),84]≠[82]),e.nL⟩⟩
 .trivial
def acD(e:ll D a.d b.d)(w:Int)(r:List Int)(f:r∈Az)(g:r≠[82])(h:80∉r):C3 D (k+1) {om a w c with C:=r} {om b w c with C:=r}:= ⟨U,f,U,λ_=>rfl,λq=>absurd q h,ć ⟨g,e.fR _ _⟩⟩
theorem atx(h:C3 D k a b)(m:a.r=0/\b.r=0)(n:c≠59):Ja D (k+1) (kE B o a c) (kE B o b c):=by
 have p:=(acA _ h.C).2.2.1;have t:=(acA _ h.C).2.2.2;have i:=atv _ h.C;have g:0<b.r->a.M=b.M:=λq=>by omega
 unfold kE;rw[h.r];rcases h.d with⟨e,_,u,v⟩|⟨e,f⟩
 .rw[e];simp only[if_true];unfold yq;split
  .trivial
  .let⟨x,y,z⟩:=atw<|wC c;exact⟨U,x,h.I,g,λq=>absurd q z,ć ⟨y,U,U,u,v,U,U,λq=>by cases q⟩⟩
 .cases j:b.C with
  |nil=>exact acC f n m
  |cons w l=>
   rw[j]at p t i e;have C:w≠82:=λq=>by subst q;exact e<|p ft
   have r:l≠[82]:=λq=>by grind
   have s:80∉l:=λq=>by grind
   simp only[if_neg C];split
   .split
    .exact acD (a:={a with C:=[84],d:=a.d.nL}) (b:={b with C:=[84],d:=b.d.nL}) f.nL 120 [84] A A A
    .exact acC f n m
   .split
    .unfold yr;split
     .trivial
     .exact⟨U,(acB _).1,h.I,g,λ_=>⟨U,Ô _⟩,ć ⟨(acB _).2,f.oH _ _⟩⟩
    .split
     .rename_i q;subst q;let⟨E,F⟩:=h.M (by rw[j];simp);rw[E];split
      .exact⟨U,i,h.I,g,λq=>absurd q s,ć ⟨r,f.o6 _⟩⟩
      .split
       .trivial
       .exact⟨U,j▸h.C,h.I,g,λ_=>⟨U,by show(b.I+1).toNat<=k+1;omega⟩,ć ⟨e,f⟩⟩
     .split
      .exact acD f w l i r s
      .trivial
def aty(a:80∈b.C->B.extract (o-b.I.toNat) o=P.extract (k-b.I.toNat) k):kR P k b c=kR B o b c:=by
 unfold kR kE;cases d:b.C with
 |nil=>rfl
 |cons w e=>
  by_cases q:w=80
  .subst q;simp only;rw[a (by rw[d];simp)]
  .simp only[if_neg q]
def atz(h:C3 D k a b)(g:c≠59):Ja D (k+1) (kR B o a c) (kR B o b c):=by
 unfold kR;rw[h.I];split
 .rename_i q;rcases h.d with⟨_,e,_⟩|⟨e,f⟩
  .omega
  .refine⟨h.r,h.C,by show a.r-1=b.r-1;rw[h.I],λ_=>h.N q.1,λz=>⟨(h.M z).1,Nat.le_succ_of_le (h.M z).2⟩,ć ⟨e,?_⟩⟩;unfold CM;rw[h.N q.1,f.AK];exact f.fR _ _
 .exact atx (a:={a with r:=0}) (b:={b with r:=0}) ⟨h.r,h.C,U,(λq=>by cases q),h.M,h.d.imp (λz=>⟨z.1,rfl,z.2.2⟩) id⟩ ⟨rfl,rfl⟩ g
def FD(z:PS):Prop:=z.C=[]\/z.C=[66]
end
end Go.Proofs.Y.lL
namespace Go.Proofs.Y.jF
open Go Go.Conc Go.Proofs Go.RowKit Go.Proofs.Y.Lift Go.Proofs.Y.fV Go.Proofs.Y.fB Go.Proofs.Y.lL
open Go.Conc.Lib Go.ConcR.Gen Go.Proofs.YtgpphkdoanciiabGreatDoor
def sG(r:PR):Int×Nat×List Tx:=(r.c.getD 5 0,(r.c.getD 0 0).toNat,r.r.map toTx)
def yy(r:PR)(s:List fO):ByteArray:=if r.c.getD 4 0=1 then(rj (oG s) (sG r).1 (sG r).2.1 (sG r).2.2).2 else tE (oG s) (toQn r)
def yz(s:List fO)(r:PR):List fO:=if r.c.getD 4 0=1 then CL s (sG r)else s
def pJ(s:List fO)(rs:List PR):List fO:=rs.foldl yz s
def acE{kd:Nat->Int}(h:kd i=1):∀n,i<n->(ie kd n).getD (fQ kd i) 0=i
 |0,q=>by omega
 |n+1,q=>by
  have a:i<n->∀x,(ie kd n++x).getD (fQ kd i) 0=i:=λz x=>by
   have b:fQ kd i<(ie kd n).length:=by
    have e:∀m,i+1<=m->(ie kd<|i+1).length<=(ie kd m).length:=λm=>by
     induction m with
     |zero=>intro z;omega
     |succ m c=>
      intro z;rcases Nat.lt_or_ge i m with y|y
      .apply Ý (c y);by_cases q:kd m=1
       .rw[tq q];simp
       .rw[we q];exact Ç _
      .rw[show m=i by omega];exact Ç _
    have:=e n z;rw[tq h]at this;unfold fQ;simp at this;omega
   have:=acE h n z;simp only[ĥ,List.getElem?_append_left b]at this|-;exact this
  by_cases z:i<n
  .by_cases q:kd n=1
   .rw[tq q];exact a z _
   .rw[we q];have:=a z [];rwa[ĭ]at this
  .obtain rfl:i=n:=Z
   rw[tq h];simp[ĥ,fQ]
section
variable{rs:List PR}{s:List fO}{P:ByteArray}
def UX:∀p,p<=rs.length->pS (wH rs) (ie (lC rs) rs.length) s (fQ (lC rs) p)=pJ s (rs.take p)
 |0,_=>by simp[fQ,ie,pS,pJ]
 |p+1,h=>by
  have a:=UX p Z;have b:rs.take (p+1)=rs.take p++[rs.getD p pX]:=by rw[ĝ];congr 1;simp[ĥ,show p<rs.length by omega]
  unfold pJ at a|-;rw[b,List.foldl_append,<-a];show _=yz _ _;unfold yz;by_cases q:lC rs p=1
  .rw[if_pos (show(rs.getD p pX).c.getD 4 0=1 from q)];have e:fQ (lC rs) (p+1)=fQ (lC rs) p+1:=by unfold fQ;rw[tq q];simp
   rw[e];show CL _ _=_;rw[acE q _ Z];rfl
  .rw[if_neg (show¬(rs.getD p pX).c.getD 4 0=1 from q)];have e:fQ (lC rs) (p+1)=fQ (lC rs) p:=by unfold fQ;rw[we q]
   rw[e]
def UY{p:Nat}(h:p<rs.length):(ky rs s)[p]?=Ã (yy (rs.getD p pX)<|pJ s<|rs.take p):=by unfold ky;rw[ù,List.getElem?_range h,Ĭ,UX p Z];rfl
theorem acG:Ax rs s=pJ s rs:=by unfold Ax;rw[UX _<|Ç _,List.take_length]
theorem atA{r:PR}(h:ig P=(0,0,[r])):nQ s P=(yy r s,0,yz s r):=by
 have a:=UY (rs:=[r]) (s:=s) (p:=0) Nat.one_pos;have e:ky [r] s=[yy r s]:=by
  match hx:ky [r] s,I8 with
  |[y],_=>
   rw[hx]at a;simpa[pJ]using a
 unfold nQ;rw[h];simp only[if_true,e,acG];rw[show jl ⟨#[59]⟩ [yy r s]=yy r s from Ö (by simp[jl,Fa,mR])];rfl
theorem atB(h:ig B=(0,0,rs)):nQ s B=(jl ⟨#[59]⟩<|ky rs s,0,pJ s rs):=by unfold nQ;grind [acG]
end
def yA(d:Nat):ByteArray:=Ğ ⟨#[48,49,50,51,52,53,54,55,56,57]⟩ d<|d+1
def atC:(Í 10).map yA=(Í 10).map λd=>⟨#[é<|48+d]⟩:=fv
theorem FE(h:i<10):yA i=⟨#[é<|48+i]⟩:=by have:=congrArg (λl=>l[i]?) atC;simpa[h]using this
theorem Nl(h:i<10):fG i=yA i:=by unfold fG;grind [Lib.decDigits_one,FE]
theorem UZ(h:¬n<10):fG n=fG (n/10)++yA (n%10):=by rw[FE Z];unfold fG;rw[Lib.decDigits,dif_neg h];apply Ö;simp_all
noncomputable def Nn:Ŕ:=(Tryz.f9.body.bind fV.kB).getD .skip
def FF(n:Int)(s:ByteArray)(u:Nat->Ë):Ő:=⟨#[É þ n,u 1,u 2,Â s,u 4,u 5,u 6,u 7,u 8,u 9,u 10,u 11,u 12,u 13,u 14,u 15,u 16,u 17,u 18,u 19,u 20,u 21,u 22,u 23,u 24,u 25,u 26],[]⟩
def FG(n:Int)(s:ByteArray)(a:Ő):Prop:=∃u,a=FF n s u
theorem acH{s:ByteArray}(h:i<10)(a:s.size<=20):Å.wrap ((i:Int)+1)=(i:Int)+1/\Å.wrap (i:Int)=i/\(0:Int)<=(i:Int)+1/\(i:Int)+1<=10/\(i:Int)<=(i:Int)+1/\((i:Int)+1).toNat=i+1/\¬9223372036854775807<min (i+1) 10-i+s.size:=by grind [ŕ]
section
variable{s:ByteArray}
def atD(u:Nat->Ë)(c:n<10)(b:∀a,FG n s a->H a w):Code.wp À Nn (Exit.then K<|QE 0 H) (FF n s u) w:=by
 unfold FF;conv=>arg 2;whnf
 go_wp2_with fail
 exact⟨U,b _ (fV.gy _)⟩
def atE(u:Nat->Ë)(f:¬n<10)(g:n<18446744073709551616)(i:s.size<=20)(c:∀a,FG ((n/10:Nat):Int) (yA (n%10)++s) a->K a w):Code.wp À Nn (Exit.then K<|QE 0 H) (FF n s u) w:=by
 unfold FF;conv=>arg 2;whnf
 have j:(n:Int).tmod 10=((n%10:Nat):Int):=by rw[ã Z];omega
 have k:(n:Int).tdiv 10=((n/10:Nat):Int):=by rw[ô Z];omega
 have b:=fi c;clear c;have e:n%10<10:=Z
 have l:n/10<18446744073709551616:=Z
 generalize n%10=d at*;generalize n/10=q at*;let⟨m,o,p,r,t,v,x⟩:=acH e (s:=s) Z;go_wp2_with fail;exact b.out _ (fV.gy _)
def U0(b:ByteArray)(c:ë)(a:Ő)(w:ë):Prop:=∃(n:Nat) (s:ByteArray),FG n s a/\n<18446744073709551616/\fG n++s=b/\w=c
def U3(b:ByteArray)(c:ë)(a:Ő)(w:ë):Prop:=∃(n:Nat) (s:ByteArray),FG n s a/\n<10/\yA n++s=b/\w=c
def yi(a:Ő)(_:ë):Nat:=match a.tmps.getD 0 ņ with
 |É _ i=>i.toNat
 |_=>0
def Iv(b:FG n s y):yi y w=n:=by obtain⟨u,rfl⟩:=b;show(n:Int).toNat=_;simp
theorem atF(i:B.size<=20)(a:Ő)(w:ë)(g:U0 B u a w): Code.wp À Nn (Exit.then (λb c=>U0 B u b c/\yi b c<yi a w)<|QE 0<|U3 B u) a w:=by
 let⟨n,s,d,h,e,f⟩:=g;rw[Iv d];obtain⟨b,rfl⟩:=d;have j:(fG n).size+s.size=B.size:=by rw[<-e,Á]
 by_cases c:n<10
 .exact atD b c λa q=>⟨n,s,q,c,by rwa[<-Nl c],f⟩
 .refine atE b c h Z λa q=>⟨⟨n/10,_,q,Z,?_,f⟩,by rw[Iv q];omega⟩;grind [Þ,UZ]
def atG(n:Nat)(b:n<18446744073709551616)(w:ë):Calls À 9 #[É þ n] w λe f=>e=.returned (Â<|fG n)/\f=w:=by
 have L:∀a,FG n ⟨#[]⟩ a->Code.wp À (Code.loop Nn) (QE 0<|U3 (fG n) w) a w:=λa g=>
  wp_loop (U0 (fG n) w) yi ⟨n,⟨#[]⟩,g,b,ł,U⟩<|atF<|pM n b
 have H:=fi<|And.intro L<|pM n b;generalize fG n=res at*;clear L;go_enter Ě,Tryz.ntmps9;go_wp2_with fail;refine Code.wp_mono (Q:=QE 0<|U3 res w) ?_ (H.out.1 _ (fV.gy _));rintro(_|_|_|_|_|_) a v hq;all_goals first|exact absurd hq id|skip
 obtain⟨rfl,d,s,i,j,c,rfl⟩:=hq;obtain⟨u,rfl⟩:=i;unfold FF;have k:(yA d).size+s.size=res.size:=by rw[<-c,Á]
 have m:=H.out.2;let⟨o,p,q,r,t,x,y⟩:=acH j (s:=s) Z;have l:=fi c;clear k c;go_wp2_with fail;go_ret;exact⟨by rw[<-l.out];rfl,U⟩
end
abbrev pb(B:ByteArray):Prop:=(59:UInt8)∉B.data.toList
def pb.r{a:ByteArray}(h:pb a)(k:pb B):pb (a++B):=by unfold pb at*;simp_all
theorem pb.C(h:pb B)(i j:Nat):pb (B.extract i j):=by grind [ß,ä]
theorem acI(n:Nat):pb (fG n):=by
 induction n using Į with
 |_ n b=>
  have a:∀d,pb (yA d):=λd=>pb.C A _ _;by_cases h:n<10
  .rw[Nl h];exact a n
  .rw[UZ h];exact(b _ Z).r<|a _
def pd(c:UInt8):List UInt8->List UInt8->List (List UInt8)
 |cur,[]=>[cur]
 |cur,x::r=>if x=c then cur::pd c [] r else pd c (cur++[x]) r
def U4(B:ByteArray)(c:UInt8):∀f a i,B.size-i=f->a<=i->i<=B.size->vk B c f a i=(pd c (B.extract a i).data.toList<|B.data.toList.drop i).map λl=>⟨l.toArray⟩
 |0,a,i,hf,h1,h2=>by
  obtain rfl:i=B.size:=Z
  rw[List.drop_eq_nil_of_le (by rw[È];exact Ç _)];rfl
 |f+1,a,i,hf,h1,h2=>by
  have b:i<B.size:=Z
  have d:i<B.data.toList.length:=by rwa[È]
  have e:B.data.toList[i]=B[i]:=by rw[Đ];rfl
  rw[List.drop_eq_getElem_cons d,e];unfold vk pd;rw[dif_pos b];split
  .have g:(B.extract (i+1)<|i+1).data.toList=[]:=by
    rw[ß,ä];simp
   rw[U4 B c f (i+1) (i+1) Z (Ç _) Z,g];rfl
  .rw[U4 B c f a (i+1) Z Z Z];congr 2;rw[ß,ß,ä,ä,ø,ø,show i+1-a=i-a+1 by omega,ĝ,ó,show a+(i-a)=i by omega,æ d,e];rfl
def acJ{c:UInt8}:∀(x a r:List UInt8),c∉x->pd c a (x++c::r)=(a++x)::pd c [] r
 |[],a,r,_=>by simp[pd]
 |y::x,a,r,h=>by rw[show pd c a (y::x++c::r)=if y=c then a::pd c [] (x++c::r)else pd c (a++[y]) (x++c::r)from U,if_neg λq=>h (by simp[q]),acJ x _ r λq=>h (by simp[q])];simp
def acK{c:UInt8}:∀(x a:List UInt8),c∉x->pd c a x=[a++x]
 |[],a,_=>by simp[pd]
 |y::x,a,h=>by unfold pd;rw[if_neg λq=>h (by simp[q]),acK x _ λq=>h (by simp[q])];simp
def acM:∀(r:List ByteArray) (x:ByteArray) (a:List UInt8),pb x->(∀y∈r,pb y)->pd 59 a (x.data.toList++mR ⟨#[59]⟩ r)=(a++x.data.toList)::r.map λy=>y.data.toList
 |[],x,a,h,_=>by show pd 59 a (x.data.toList++[])=_;rw[ĭ,acK _ _ h];rfl
 |y::r,x,a,h,k=>by show pd 59 a (x.data.toList++59::(y.data.toList++mR ⟨#[59]⟩ r))=_;rw[acJ _ _ _ h,acM r y [] (k y ft) λz b=>k z (by simp[b])];rfl
def atH(a:vX≠[])(h:∀x∈vX,pb x):vk (jl ⟨#[59]⟩ vX) 59 (jl ⟨#[59]⟩ vX).size 0 0=vX:=by
 rw[U4 _ _ _ 0 0 (Nat.sub_zero _) (Ç _)<|Ô _];match vX,a with
 |x::r,_=>
  have e:((jl ⟨#[59]⟩<|x::r).extract 0 0).data.toList=[]:=by simp_all
  rw[e,List.drop_zero];show(pd 59 []<|x.data.toList++mR ⟨#[59]⟩ r).map _=_;rw[acM r x [] (h x ft) λy b=>h y (by simp[b])];simp[Function.comp_def]
end Go.Proofs.Y.jF
namespace Go.Proofs.Y.lL
open Go Go.Proofs Go.RowKit Go.Proofs.Y.Lift Go.Proofs.Y.fV
section
variable{a b:PS}{d:PD}
theorem atI(c:k<B.size)(d:kR B k a (B[k].toNat:Int)=Ã b):jr B (i+1) k a=jr B i (k+1) b:=by rw[jr,dif_pos c,d]
end
end Go.Proofs.Y.lL
namespace Go.Proofs.Y.jF
open Go Go.Conc Go.Proofs Go.RowKit Go.Proofs.Y.Lift Go.Proofs.Y.fV Go.Proofs.Y.fB Go.Proofs.Y.lL
open Go.Conc.Lib Go.ConcR.Gen Go.Proofs.YtgpphkdoanciiabGreatDoor
def yB(r:PR)(a:fO):Option fO:=(uY (sG r).2.1 a.s (sG r).2.2).map λq=>⟨q.1,q.2.1,q.2.2,a.h+1⟩
theorem U5{s:List fO}{v:fO}(h:s[n]?=Ã v):mG (oG s) n=Ã (0,v):=by unfold mG oG;grind
theorem acN{s:List fO}{r:PR}(d:r.c.getD 4 0=1){a:fO}(b:mG (oG s) (r.c.getD 5 0)=Ã (0,a))(e:s.length<40): yy r s=(match yB r a with
  |none=>nV 5
  |some _=>oC s.length)/\yz s r=match yB r a with
  |none=>s
  |some v=>s++[v]:=by
 have f:(oG s).length=s.length:=by simp[oG]
 have g:rj (oG s) (sG r).1 (sG r).2.1 (sG r).2.2=match yB r a with
  |none=>(ý,nV 5)
  |some v=>(Ã v,oC s.length):=by
  unfold rj yB;rw[show(sG r).1=r.c.getD 5 0 from rfl,b];grind
 unfold yy yz CL sw;grind [IN]
theorem atJ{s:List fO}{r:PR}(h:ig B=(0,0,[r]))(a:r.c.getD 4 0=1)(b:r.c.getD 5 0=0){v0:fO}(d:s[0]?=Ã v0)(e:s.length<40): nQ s B=match yB r v0 with
  |none=>(nV 5,0,s)
  |some v=>(oC s.length,0,s++[v]):=by
 obtain⟨v,f⟩:=acN a (by rw[show r.c.getD 5 0=((0:Nat):Int)from b];exact U5 d) e;grind [atA]
end Go.Proofs.Y.jF
namespace Go.Proofs.Y.lL
open Go Go.Proofs Go.RowKit Go.Proofs.Y.Lift Go.Proofs.Y.fV
section
variable{T p:ByteArray}{a b:PS}
def rP(p:ByteArray):PR:=⟨[0,0,0,0,1,0,0,0],[⟨[1,0,0,0,2],p⟩]⟩
def iL(p:ByteArray):ByteArray:=⟨#[105,48,58,97,47,98,123]⟩++p++⟨#[125]⟩
end
end Go.Proofs.Y.lL
namespace Go.Proofs.Y.lL
open Go Go.Proofs Go.RowKit Go.Proofs.Y.Lift Go.Proofs.Y.fV Go.Proofs.Y.jF
section
variable{P:ByteArray}{D:List PR}{a b:PS}{r:PR}
def Ja.NU{o:Option PS}(h:Ja D k o (Ã b)):∃a,o=Ã a/\C3 D k a b:=by
 cases o with
 |none=>cases h
 |some a=>exact⟨a,U,h⟩
theorem acO(h:ig P=(0,0,[r])):∃z,jr P P.size 0 nN=(P.size,z)/\FD z/\z.d.C=[r]:=by
 unfold ig mj mH at h;split at h
 .cases h
 .by_cases a:P.size=0
  .grind
  .rw[if_neg a]at h;split at h
   .rename_i q;simp only[ð,Bool.or_eq_true,decide_eq_true_eq]at q;refine⟨(jr P P.size 0 nN).2,Prod.ext q.1 U,q.2,?_⟩;grind
   .cases h
def U6(c:UInt8):∀(f a i:Nat),B.size-i=f->i<=B.size->∃e l,i<=e/\e<=B.size/\vk B c f a i=B.extract a e::l
 |0,a,i,hf,hi=>⟨B.size,[],Z,Ç _,U⟩
 |f+1,a,i,hf,hi=>by
  have b:i<B.size:=Z
  unfold vk;rw[dif_pos b];split
  .exact⟨i,_,Ç _,hi,U⟩
  .let⟨e,l,h,d,g⟩:=U6 c f a (i+1) Z Z;exact⟨e,l,Z,d,g⟩
theorem acP(c:C3 D k a b)(g:FD b)(e:b.d.C=[r]):FD a/\ll D a.d b.d/\a.d.C=D++[r]:=by
 rcases c.d with⟨q,_⟩|⟨_,f⟩
 .grind
 .let⟨j,h,i⟩:=f.G;rw[i]at e;cases e;refine⟨?_,f,h⟩;unfold FD;rwa[c.r]
def U7:∀(f h i:Nat) (D:List PR) (a b m:PS) (P:ByteArray) (l:List ByteArray) (r:PR) (j:List PR),B.size-i=f->h<=i->i<=B.size->C3 D (i-h) a b->vk B 59 f h i=P::l-> jr P (P.size-(i-h)) (i-h) b=(P.size,m)->FD m->m.d.C=[r]->(l.map ig=j.map λr=>(0,0,[r]))->D.length+1+l.length<=24->∃z,jr B f i a=(B.size,z)/\FD z/\z.d.C=D++r::j
 |0,h,i,D,a,b,m,P,l,r,j,hf,h1,h2,hs,hc,hr,hA,oX,hl,hn=>by
  obtain rfl:i=B.size:=Z
  cases hc;have p:(B.extract h B.size).size=B.size-h:=by rw[ì];omega
  rw[p,Ĉ]at hr;have e:b=m:=congrArg Prod.snd hr;subst e;let⟨s,_,t⟩:=acP hs hA oX;cases j with
  |nil=>exact⟨a,U,s,t⟩
  |cons y j=>cases hl
 |f+1,h,i,D,a,b,m,P,l,r,j,hf,h1,h2,hs,hc,hr,hA,oX,hl,hn=>by
  have u:i<B.size:=Z
  rw[show vk B 59 (f+1) h i=if B[i]=59 then B.extract h i::vk B 59 f (i+1) (i+1)else vk B 59 f h (i+1)from dif_pos u]at hc;by_cases q:B[i]=59
  .rw[if_pos q]at hc;cases hc;have p:(B.extract h i).size=i-h:=by rw[ì];omega
   rw[p,Ĉ]at hr;have e:b=m:=congrArg Prod.snd hr;subst e;let⟨s,kd,t⟩:=acP hs hA oX;let⟨e,x,C,E,n⟩:=U6 (B:=B) 59 f (i+1) (i+1) Z Z;rw[n]at hl hn;simp only[Ú]at hn;cases j with
   |nil=>cases hl
   |cons y j=>
    rw[Õ,Õ]at hl;injection hl with EN Tt;let⟨F,v,w,G⟩:=acO EN;have H:kR B i a (B[i].toNat:Int)=Ã {a with r:=0,C:=[82]}:=by
     rw[q];have I:¬(0<a.r/\jq ((59:UInt8).toNat:Int)=Ä):=by simp[jq]
     unfold kR;rw[if_neg I];unfold kE;have g:oI {a with r:=0} ((59:UInt8).toNat:Int)=Ã {a with r:=0,C:=[82]}:=by unfold oI;rw[if_pos ⟨U,by show a.d.S.length+1<24;rw[kd.C];omega⟩]
     rcases s with k|k
     .simp only[k]at g|-;exact g
     .simp only[k]at g|-;exact g
    rw[jr,dif_pos u,H];let⟨z,g,I,J⟩:=U7 f (i+1) (i+1) (D++[r]) {a with r:=0,C:=[82]} nN F _ x y j Z (Ç _) Z (by rw[Ĉ];exact⟨U,A,U,(λq=>by cases q),(λq=>by simp[nN]at q),Ø ⟨rfl,rfl,t,rfl⟩⟩) n (by rwa[Ĉ]) w G Tt (by simp only[Ð,List.length_singleton];omega);exact⟨z,g,I,by rw[J];simp⟩
  .rw[if_neg q]at hc;let⟨e,x,C,E,n⟩:=U6 (B:=B) 59 f h (i+1) Z Z;rw[hc]at n;cases n;have p:(B.extract h e).size=e-h:=by rw[ì];omega
   have I:i-h<(B.extract h e).size:=Z
   have t:(B.extract h e)[i-h]=B[i]:=by rw[Ĺ];congr 1;omega
   rw[show(B.extract h e).size-(i-h)=(B.extract h e).size-(i+1-h)+1 by omega,jr,dif_pos I,t,aty (B:=B) (o:=i) (λz=>by have:=(hs.M z).2;rw[ĺ];congr 1<;>omega)]at hr;have g:=atz (B:=B) (o:=i) hs (c:=B[i].toNat) λz=>q (by apply UInt8.toNat_inj.1;show B[i].toNat=59;omega);cases s:kR B i b (B[i].toNat:Int)with
   |none=>
    rw[s]at hr;have:=congrArg Prod.fst hr;simp only at this;omega
   |some y=>
    rw[s]at hr g;let⟨F,v,w⟩:=g.NU;rw[jr,dif_pos u,v];exact U7 f h (i+1) D F y m _ l r j Z Z Z (by rwa[show i+1-h=i-h+1 by omega]) hc (by rw[show i+1-h=i-h+1 by omega];rwa[show i+1-h=i-h+1 by omega]at hr) hA oX hl hn
def atK{Ps:List ByteArray}{b:List PR}(a:Ps.map ig=b.map λr=>(0,0,[r]))(f:∀P∈Ps,pb P)(d:Ps≠[])(g:Ps.length<=24)(p:(jl ⟨#[59]⟩ Ps).size<=1200):ig (jl ⟨#[59]⟩ Ps)=(0,0,b):=by
 have h:=atH d f;generalize jl ⟨#[59]⟩ Ps=B at*;match Ps,b,a,d with
 |P::l,r::ys,a,_=>
  rw[Õ,Õ]at a;injection a with h1 h2;let⟨i,j,k,m⟩:=acO h1;let⟨z,c,e,n⟩:=U7 B.size 0 0 [] nN nN i P l r ys U (Ç _) (Ô _) ⟨U,A,U,(λ_=>rfl),(λq=>by simp[nN]at q),Ø ⟨U,U,U,U⟩⟩ h j k m h2 (by simp at g|-;omega);have o:B.size≠0:=λq=>by rw[q]at c;have:nN=z:=congrArg Prod.snd c;subst this;rcases e with w|w<;>cases w
  unfold ig mj mH;rw[if_neg Z,if_neg o,c,n];rcases e with w|w<;>simp[w]
 |_::_,[],a,_=>cases a
end
def mI(T:ByteArray)(k:Nat)(l:List UInt8):Prop:=∃r,T.data.toList.drop k=l++r
section
variable{T:ByteArray}{st b:PS}{d:PD}{l a:List UInt8}{want:Int}{tl:List Int}
def mI.I(h:mI T k (l++a)):mI T k l:=by let⟨r,e⟩:=h;exact⟨a++r,by rw[e,ğ]⟩
theorem mI.C(h:mI T k (l++a)):mI T (k+l.length) a:=by let⟨r,e⟩:=h;refine⟨r,?_⟩;grind [List.drop_drop,ğ,List.drop_left]
def mI.atL{c:UInt8}(h:mI T k (c::l)):∃a:k<T.size,T[k]=c:=by
 let⟨r,e⟩:=h;have b:=congrArg (λx=>x[0]?) e;simp only[ó,Nat.add_zero,ñ,ā]at b;let⟨x,d⟩:=ö.1 b;have a:k<T.size:=by rwa[È]at x
 refine⟨a,?_⟩;rw[<-d,Đ];rfl
def mI.r{c:UInt8}(h:mI T k (c::l)):mI T (k+1) l:=mI.C (l:=[c]) h
theorem ru{c:UInt8}(h:mI T k (c::l))(a:kR T k st (c.toNat:Int)=Ã b):jr T (i+1) k st=jr T i (k+1) b:=by let⟨d,e⟩:=h.atL;grind [atI]
def C4(d:PD):Prop:=(d.M=Ä->4<=d.N.c.length)/\(d.M=ï->4<=d.I.c.length)
def acQ(h:i<zQ.length)(z:Int):(zQ.set i z).getD i 0=z:=by simp[ĥ,h]
theorem atM(c:want=110\/want=107)(z a:Int):(d.fR want z).fR want a=d.fR want a:=by
 have b:∀i,(d.iL i z).iL i a=d.iL i a:=λi=>by unfold PD.iL PD.oH PD.oh;cases d.M<;>simp
 rcases c with rfl|rfl
 .exact b 2
 .exact b 3
theorem atN(h:C4 d)(b:want=110\/want=107)(z:Int):(d.fR want z).G want=z:=by
 have a:∀i,i<4->(d.iL i z).tF i=z:=λi c=>by
  unfold PD.iL PD.tF;cases q:d.M with
  |true=>
   have:=h.1 q;simp only[if_true,PD.oH,q];exact acQ Z z
  |false=>
   have:=h.2 q;simp only[Bool.false_eq_true,if_false,PD.oh,q];exact acQ Z z
 rcases b with rfl|rfl
 .exact a 2 A
 .exact a 3 A
def tJ(st:PS)(want:Int)(tl:List Int)(n:Nat):PS:={st with C:=tl,r:=if n=0 then 0 else 6-(đ n:Int),M:=want,d:=st.d.fR want n}
def acR(h:n<10):(é<|48+n).toNat=48+n:=by
 have a:∀k:_root_.Fin 10,(é<|48+k.val).toNat=48+k.val:=A
 exact a ⟨n,h⟩
def U8:∀k n,n<10^(k+1)->đ n<=k+1
 |0,n,h=>by rw[ú (by simpa using h)];exact Ç _
 |k+1,n,h=>by
  by_cases q:n<10
  .rw[ú q];omega
  .have:=U8 k (n/10) (by rw[Nat.pow_succ]at h;omega);rw[į q];omega
theorem atO(e:want=110\/want=107)(a:st.C=want::tl)(f:st.r=0)(h:n<10):kR T k st ((48+n:Nat):Int)=Ã (tJ st want tl n):=by
 have g:jq ((48+n:Nat):Int)=Ä:=abu ⟨Z,Z⟩;have b:o5 want ((48+n:Nat):Int)=Ä:=by unfold o5;grind
 have c:ng want ((48+n:Nat):Int)=n:=by unfold ng;grind
 have d:qB want ((48+n:Nat):Int)=if n=0 then 0 else 6-(đ n:Int):=by unfold qB;grind [ú]
 unfold kR;rw[if_neg Z];unfold kE;simp only[a];rw[if_neg Z,if_neg Z,if_neg Z,if_neg Z,if_pos b];unfold om tJ;rw[c,d]
theorem atP(f:C4 st.d)(g:want=110\/want=107)(b:n<1000000)(h:¬n<10):kR T k (tJ st want tl<|n/10) ((48+n%10:Nat):Int)=Ã (tJ st want tl n):=by
 have c:jq ((48+n%10:Nat):Int)=Ä:=abu ⟨Z,Z⟩;have i:=į h;have j:=U8 5 n b;have a:(tJ st want tl<|n/10).r=6-(đ (n/10):Int):=if_neg Z;have l:pT ((n/10:Nat):Int) ((48+n%10:Nat):Int)=n:=by unfold pT;grind [Ì]
 unfold kR;rw[if_pos ⟨by rw[a];omega,c⟩];unfold CM;rw[a];have e:(tJ st want tl<|n/10).d.fR (tJ st want tl<|n/10).M (pT ((tJ st want tl<|n/10).d.G (tJ st want tl<|n/10).M) ((48+n%10:Nat):Int))=st.d.fR want n:=by show(st.d.fR want ((n/10:Nat):Int)).fR want (pT ((st.d.fR want ((n/10:Nat):Int)).G want) _)=_;grind [atN,atM]
 rw[e];unfold tJ;grind
def acS(j:C4 st.d)(b:want=110\/want=107)(m:st.C=want::tl)(o:st.r=0):∀n,n<1000000->mI T k (fG n).data.toList->∀i,jr T (i+(fG n).size) k st=jr T i (k+(fG n).size) (tJ st want tl n):=by
 intro n
 induction n using Į with
 |_ n p=>
  intro q f i;by_cases h:n<10
  .have e:(fG n).data.toList=[é<|48+n]:=by rw[Nl h,FE h]
   have a:(fG n).size=1:=by rw[Nl h,FE h];rfl
   rw[e]at f;rw[a];apply ru f;rw[acR h];exact atO b m o h
  .have r:=UZ h;have e:mI T k ((fG<|n/10).data.toList++(yA<|n%10).data.toList):=by
    simp_all
   have a:(fG n).size=(fG<|n/10).size+1:=by rw[r,Á,FE Z];rfl
   rw[a,show i+((fG<|n/10).size+1)=i+1+(fG<|n/10).size by omega,p (n/10) Z Z e.I<|i+1];have g:=e.C;rw[È,FE Z]at g;rw[<-Nat.add_assoc];apply ru (c:=é<|48+n%10) (l:=[]) g;rw[acR Z];exact atP j b q h
end
section
variable{T:ByteArray}{st a:PS}{d:PD}{l e:List UInt8}{want:Int}{tl:List Int}
def atQ(h:C4 d)(e:want=110\/want=107)(z:Int):C4 (d.fR want z):=by
 have b:∀i,C4 (d.iL i z):=λi=>by
  unfold PD.iL;split
  .rename_i q;exact⟨λ_=>by show 4<=(d.N.c.set i z).length;rw[İ];exact h.1 q,λa=>absurd q<|by rw[show d.M=ï from a];decide⟩
  .rename_i q;exact⟨λa=>absurd a q,λa=>by show 4<=(d.I.c.set i z).length;rw[İ];exact h.2 a⟩
 rcases e with rfl|rfl
 .exact b 2
 .exact b 3
def acT{c:UInt8}(h:mI T k (c::l))(d:st.C=(c.toNat:Int)::tl)(a:c=44\/c=41):jr T (b+1) k st=jr T b (k+1) {st with C:=tl,r:=0,M:=(c.toNat:Int)}:=by refine ru h ?_;unfold kR;rw[if_neg (by rcases a with rfl|rfl<;>simp[jq])];unfold kE;simp only[d];rcases a with rfl|rfl<;>rfl
def Jb(h:n<1000000):(fG n).size<=6:=by unfold fG;rw[Ē,û,Lib.decDigits_length];exact U8 5 n h
theorem atS{z:PS}{r:PR}(h:mH T=(T.size,z))(a:z.C=[])(b:z.d.C=[r])(c:T.size<=1200)(e:T.size≠0):ig T=(0,0,[r]):=by unfold ig mj;grind
def atT{l:List UInt8}:mI ⟨l.toArray⟩ 0 l:=⟨[],ft⟩
end
end Go.Proofs.Y.lL
namespace Go.Proofs.Y.jF
open Go Go.Conc Go.Proofs Go.RowKit Go.Proofs.Y.Lift Go.Proofs.Y.fV Go.Proofs.Y.fB Go.Proofs.Y.lL
open Go.Conc.Lib Go.ConcR.Gen Go.Proofs.YtgpphkdoanciiabGreatDoor
def C5(p:ByteArray):fO:=(yB (rP p) fV.ku).getD fV.ku
def atU(p:ByteArray):yB (rP p) fV.ku=Ã (C5 p):=fv
def atV{p:ByteArray}(h:ig (iL p)=(0,0,[rP p])):nQ [fV.ku] (iL p)=(⟨#[49]⟩,0,[fV.ku,C5 p]):=by rw[atJ h U U (v0:=fV.ku) U A,atU];rfl
end Go.Proofs.Y.jF
namespace Go.Proofs.Y.jF
open Go Go.Conc Go.Proofs Go.RowKit Go.Proofs.Y.Lift Go.Proofs.Y.fV Go.Proofs.Y.fB Go.Proofs.Y.lL
section
variable{F:fV.lS}{c:fV.RC}{a:Int}{t:fV.RT}{kd:Nat}{s:fV.St}{d:List (Nat×Int)}{k:Int}
def AA(f:a<B.size)(d:kZ B a=kd)(e:kt t.g t.r.length (lI kd).1 (lI kd).2.1 (lI kd).2.2=Ä)(b:kd≠1/\kd≠17/\kd≠21/\kd≠22): kC F c B (j+1) a t=kC F c B j (a+1) (lH F c kd {t with g:=t.g-(lI kd).1}):=by rw[kC,if_neg Z,if_neg Z,d,if_neg (by rw[e];simp),if_neg b.1,if_neg b.2.1,if_neg b.2.2.1,if_neg b.2.2.2]
def atW(e:a<B.size)(b:kZ B a=21)(d:kt t.g t.r.length 1 1 0=Ä): kC F c B (j+1) a t=(gi t.r,Ä,{t with r:=fW t.r,g:=t.g-1}):=by rw[kC,if_neg Z,if_neg Z,b,if_neg (by show¬kt t.g t.r.length 1 1 0=ï;rw[d];simp),if_neg A,if_neg A,if_pos U];rfl
def vl{b a c:Int}:kt h m b a c=decide (b<=h/\a<=(m:Int)/\(m:Int)-a+c<=32):=by unfold kt;rw[Bool.eq_iff_iff];simp
end
def ni:ByteArray:=⟨#[107,100,48,108,43,48,116,49,45,100,49,106,48,108,114]⟩
def ml:Nat->Nat
 |0=>0
 |n+1=>ml n+(n+1)
theorem Np:∀n,2*ml n=n*(n+1)
 |0=>rfl
 |n+1=>by rw[ml,Nat.mul_add,Np n];grind
section
variable{F:fV.lS}{c:fV.RC}{f:Nat}{l:Int}{t:fV.RT}{kd:Nat}{s:fV.St}{ls:List (Nat×Int)}{g:Int}{x:Nat}
def Jc(d:l<B.size)(b:kZ B l=1)(a:1<=t.g/\(t.r.length:Int)<32): kC F c B (f+1) l t=kC F c B f (l+1) {t with r:=t.r++[uV B l-48],g:=t.g-1}:=by
 have a:kt t.g t.r.length 1 0 1=Ä:=by rw[vl];simp;omega
 rw[kC,if_neg Z,if_neg Z,b,if_neg (by show¬kt t.g t.r.length 1 0 1=ï;rw[a];simp),if_pos U];rfl
def atX(d:l<B.size)(b:kZ B l=17)(a:2<=t.g/\2<=(t.r.length:Int)/\(t.r.length:Int)<=32): kC F c B (f+1) l t=if gi (fW t.r)=0 then kC F c B f (l+1) {t with r:=fW<|fW t.r,g:=t.g-2}else kC F c B f (gi t.r) {t with r:=fW<|fW t.r,g:=t.g-2}:=by
 have a:kt t.g t.r.length 2 2 0=Ä:=by rw[vl];simp;omega
 rw[kC,if_neg Z,if_neg Z,b,if_neg (by show¬kt t.g t.r.length 2 2 0=ï;rw[a];simp),if_neg A,if_pos U];rfl
def atY(s:fV.St)(i j:Nat)(a b:Int):(s.r i j a).r i j b=s.r i j b:=by
 funext h;unfold fV.St.r fV.St.fR;by_cases c:h=i
 .subst c;simp;funext q;by_cases e:q=j<;>simp[e]
 .simp[c]
def U9(s:fV.St)(i j:Nat)(a:Int):((s.r i j a) i).C j=a:=by simp[fV.St.r,fV.St.fR]
def atZ(a:c.y=1)(e:5<=g)(h:g<f):kC F c ni f 12 ⟨[0],s,ls,g⟩=((s 1).C 0,Ä,⟨[0],s,ls,g-5⟩):=by
 obtain⟨f,rfl⟩:∃b,f=b+1+1+1:=⟨f-3,Z⟩;rw[Jc A A ⟨by show 1<=g;omega,by show(1:Int)<32;decide⟩];rw[AA (kd:=15) A A (by rw[vl];show decide ((3:Int)<=g-1/\(1:Int)<=2/\(2:Int)-1+1<=32)=Ä;simp;omega) A];have d:∀q,lH F c 15 {(⟨[0,q],s,ls,g-1⟩:fV.RT)with g:=g-1-(lI 15).1}=⟨[0,(s 1).C (q%16).toNat],s,ls,g-1-3⟩:=λq=>by rw[<-a];rfl
 rw[show([0]++[uV ni 12-48]:List Int)=[0,0] by decide];rw[d 0,atW A A (by rw[vl];show decide ((1:Int)<=g-1-3/\(1:Int)<=2/\(2:Int)-1+0<=32)=Ä;simp;omega)];simp[gi,fW];omega
def acU(d:c.y=1)(x:Nat)(a:Int)(h:(s 1).C 0=a)(l:(x:Int)<1000)(m:0<=a/\a<1000000000)(n:19<=g)(o:g<f):∃b:Nat,g-19<(b:Int)/\ kC F c ni f 1 ⟨[(x:Int)+1],s,ls,g⟩=if(x:Int)=0 then kC F c ni b 12 ⟨[(x:Int)],s.r 1 0<|a+(x+1),ls,g-19⟩else kC F c ni b 1 ⟨[(x:Int)],s.r 1 0<|a+(x+1),ls,g-19⟩:=by
 obtain⟨f,rfl⟩:∃b,f=b+1+1+1+1+1+1+1+1+1+1+1:=⟨f-11,Z⟩;refine⟨f,Z,?_⟩;rw[AA (kd:=8) A A (by rw[vl];show decide ((1:Int)<=g/\(1:Int)<=1/\(1:Int)-1+2<=32)=Ä;simp;omega) A];have e:∀(v:Int) (s:fV.St) (g:Int),lH F c 8 {(⟨[v],s,ls,g⟩:fV.RT)with g:=g-(lI 8).1}=⟨[v,v],s,ls,g-1⟩:=λ_ _ _=>rfl;rw[e,Jc A A ⟨by show 1<=g-1;omega,by show(2:Int)<32;decide⟩];rw[AA (kd:=15) A A (by rw[vl];show decide ((3:Int)<=g-1-1/\(1:Int)<=3/\(3:Int)-1+1<=32)=Ä;simp;omega) A];have v:lH F c 15 {(⟨[(x:Int)+1,(x:Int)+1]++[uV ni (1+1)-48],s,ls,g-1-1⟩:fV.RT)with g:=g-1-1-(lI 15).1}=⟨[(x:Int)+1,(x:Int)+1,a],s,ls,g-1-1-3⟩:=by rw[<-h,<-d];rfl
 rw[v,AA (kd:=2) A A (by rw[vl];show decide ((1:Int)<=g-1-1-3/\(2:Int)<=3/\(3:Int)-2+1<=32)=Ä;simp;omega) A];have i:lH F c 2 {(⟨[(x:Int)+1,(x:Int)+1,a],s,ls,g-1-1-3⟩:fV.RT)with g:=g-1-1-3-(lI 2).1}=⟨[(x:Int)+1,a+(x+1)],s,ls,g-1-1-3-1⟩:=by show(⟨[(x:Int)+1,wu<|(x:Int)+1+a],s,ls,g-1-1-3-1⟩:fV.RT)=_;rw[S3 Z Z,show(x:Int)+1+a=a+(x+1) by omega]
 rw[i,Jc A A ⟨by show 1<=g-1-1-3-1;omega,by show(2:Int)<32;decide⟩];rw[AA (kd:=16) A A (by rw[vl];show decide ((6:Int)<=g-1-1-3-1-1/\(2:Int)<=3/\(3:Int)-2+0<=32)=Ä;simp;omega) A];have j:lH F c 16 {(⟨[(x:Int)+1,a+(x+1)]++[uV ni (1+1+1+1+1)-48],s,ls,g-1-1-3-1-1⟩:fV.RT)with g:=g-1-1-3-1-1-(lI 16).1}=⟨[(x:Int)+1],s.r 1 0<|a+(x+1),ls,g-1-1-3-1-1-6⟩:=by rw[<-d];rfl
 rw[j,Jc A A ⟨by show 1<=g-1-1-3-1-1-6;omega,by show(1:Int)<32;decide⟩];rw[AA (kd:=3) A A (by rw[vl];show decide ((1:Int)<=g-1-1-3-1-1-6-1/\(2:Int)<=2/\(2:Int)-2+1<=32)=Ä;simp;omega) A];generalize p:s.r 1 0 (a+(x+1))=s2;have k:lH F c 3 {(⟨[(x:Int)+1]++[uV ni (1+1+1+1+1+1+1)-48],s2,ls,g-1-1-3-1-1-6-1⟩:fV.RT)with g:=g-1-1-3-1-1-6-1-(lI 3).1}=⟨[(x:Int)],s2,ls,g-1-1-3-1-1-6-1-1⟩:=by show(⟨[wu<|(x:Int)+1-1],s2,ls,g-1-1-3-1-1-6-1-1⟩:fV.RT)=_;rw[S3 Z Z,show(x:Int)+1-1=x by omega]
 rw[k,AA (kd:=8) A A (by rw[vl];show decide ((1:Int)<=g-1-1-3-1-1-6-1-1/\(1:Int)<=1/\(1:Int)-1+2<=32)=Ä;simp;omega) A];rw[e,Jc A A ⟨by show 1<=g-1-1-3-1-1-6-1-1-1;omega,by show(2:Int)<32;decide⟩];rw[atX A A ⟨by show 2<=g-1-1-3-1-1-6-1-1-1-1;omega,by show(2:Int)<=3;decide,by show(3:Int)<=32;decide⟩];rw[show g-1-1-3-1-1-6-1-1-1-1-2=g-19 by omega];rfl
def at0(b:c.y=1)(x:Nat):∀(s:fV.St) (a g:Int) (f:Nat),(x:Int)<1000->(s 1).C 0=a->0<=a->a+ml (x+1)<1000000000->19*((x:Int)+1)+5<=g->g<f-> kC F c ni f 1 ⟨[(x:Int)+1],s,ls,g⟩=(a+ml (x+1),Ä,⟨[0],s.r 1 0<|a+ml (x+1),ls,g-19*((x:Int)+1)-5⟩):=by
 induction x with
 |zero=>
  intro s a g f d h i m n j;let⟨k,o,e⟩:=acU (F:=F) (c:=c) (ls:=ls) b 0 a h d ⟨i,by have:ml (0+1)=1:=U;omega⟩ Z j;rw[e,if_pos (show((0:Nat):Int)=0 from rfl)];show kC F c ni k 12 ⟨[0],_,ls,g-19⟩=_;rw[atZ b Z Z,U9];have l:a+(((0:Nat):Int)+1)=a+ml (0+1):=rfl;rw[l];rw[show g-19-5=g-19*(((0:Nat):Int)+1)-5 by omega]
 |succ x p=>
  intro s a g f d h i m n j;have q:((ml (x+1+1):Nat):Int)=ml (x+1)+((x:Int)+1+1):=by rw[ml];omega
  let⟨k,o,e⟩:=acU (F:=F) (c:=c) (ls:=ls) b (x+1) a h d ⟨i,Z⟩ Z j;rw[e,if_neg Z];have l:((x+1:Nat):Int)=(x:Int)+1:=Z
  rw[l,p _ (a+((x:Int)+1+1)) (g-19) k Z (U9 _ _ _ _) Z Z Z Z,atY];rw[q,show a+((x:Int)+1+1)+(ml (x+1):Int)=a+((ml (x+1):Int)+((x:Int)+1+1)) by omega];rw[show g-19-19*((x:Int)+1)-5=g-19*((x:Int)+1+1)-5 by omega]
def at5(b:(s 1).r=ni)(K:Nat)(l:0<K)(d:K<=20)(a:Int)(f:(s 1).C 0=a)(i:0<=a)(m:a<1000000)(n:6+19*(K:Int)<=g)(o:0<=g): fV.gw s ls x 1 g K=⟨6+19*(K:Int),Ä,a+ml K,s.r 1 0<|a+ml K,ls⟩:=by
 obtain⟨y,rfl⟩:∃y,K=y+1:=⟨K-1,Z⟩;have j:fV.gw s ls x 1 g ((y+1:Nat):Int)=qx (se 3) ⟨x,1,((y+1:Nat):Int),4-((3:Nat):Int),g⟩ s ls:=rfl;have e:nI (se 3) ⟨x,1,((y+1:Nat):Int),4-((3:Nat):Int),g⟩ s ls=(a+ml (y+1),Ä,⟨[0],s.r 1 0<|a+ml (y+1),ls,g-1-19*((y:Int)+1)-5⟩):=by
  unfold nI;show kC (se 3) _ (s 1).r (g.toNat+1) 0 ⟨[],s,ls,g⟩=_;rw[b,AA (kd:=11) A A (by rw[vl];show decide ((1:Int)<=g/\(0:Int)<=0/\(0:Int)-0+1<=32)=Ä;simp;omega) A];have k:∀c:fV.RC,c.k=((y+1:Nat):Int)->lH (se 3) c 11 {(⟨[],s,ls,g⟩:fV.RT)with g:=g-(lI 11).1}=⟨[(y:Int)+1],s,ls,g-1⟩:=λc h=>by show(⟨[c.k],s,ls,g-1⟩:fV.RT)=_;rw[h];rfl
  rw[k _ U];have p:=Np<|y+1;have q:(y+1)*(y+1+1)<=20*21:=ē d Z;exact at0 (F:=se 3) U y s a (g-1) g.toNat Z f i Z Z Z
 rw[j];unfold qx;rw[e];show(⟨g-(g-1-19*((y:Int)+1)-5),Ä,a+ml (y+1),s.r 1 0<|a+ml (y+1),ls⟩:fV.zW)=_;rw[show g-(g-1-19*((y:Int)+1)-5)=6+19*((y+1:Nat):Int) by omega]
end
end Go.Proofs.Y.jF
namespace Go.Proofs.Y.jF
open Go Go.Conc Go.Proofs Go.RowKit Go.Proofs.Y.Lift Go.Proofs.Y.fV Go.Proofs.Y.fB Go.Proofs.Y.lL
open Go.Conc.Lib Go.ConcR.Gen Go.Proofs.YtgpphkdoanciiabGreatDoor
def acV(r:PR)(a:List PR)(s:List fO):ky (r::a) s=yy r s::ky a (yz s r):=by
 refine List.ext_getElem? λp=> ?_;by_cases b:p<(r::a).length
 .rw[UY b];cases p with
  |zero=>rfl
  |succ p=>
   rw[Ă,UY (by simpa using b)];rfl
 .rw[Č (by rw[I8];omega),Č (by rw[Ú,I8];simp at b|-;omega)]
def at6:ig ⟨#[117,50]⟩=(0,0,[⟨[0,0,0,0,8,2,0,0],[]⟩])/\ig ⟨#[108,50]⟩=(0,0,[⟨[0,0,0,0,7,2,0,0],[]⟩])/\ig ⟨#[100,49,58,50]⟩=(0,0,[⟨[0,0,0,0,9,1,2,0],[]⟩])/\ig ⟨#[98,50,58,99]⟩=(0,0,[⟨[2,0,0,0,3,2,0,0],[]⟩]):=⟨fv,fv,fv,fv⟩
end Go.Proofs.Y.jF
namespace Go.Proofs.Y.lL
open Go Go.Proofs Go.RowKit Go.Proofs.Y.Lift Go.Proofs.Y.fV Go.Proofs.Y.jF
def yC(i:Nat):UInt8:=é<|99+i
def pe(i K:Nat):List UInt8:=yC i::58::98::40::((fG 400).data.toList++44::((fG K).data.toList++[41]))
def ln(f:Nat->Nat):Nat->List UInt8
 |0=>[]
 |i+1=>ln f i++((if i=0 then[]else[44])++pe i (f i))
def oF(i K:Nat):PT:=⟨[((2+i:Nat):Int),1,400,K,3],⟨#[]⟩⟩
def wK(f:Nat->Nat)(n:Nat):List PT:=(Í n).map λi=>oF i<|f i
def sH(f:Nat->Nat)(n:Nat):ByteArray:=⟨(105::49::58::97::47::ln f n).toArray⟩
def rB(f:Nat->Nat)(n:Nat):PR:=⟨[0,0,0,0,1,1,0,0],wK f n⟩
section
variable{T:ByteArray}{st:PS}{pre:List PT}{t:PT}{K N:Nat}{R:List Int}{x:Int}
def at7(e:C4 st.d)(f:st.C=[110,44,107,41])(g:st.r=0)(i:N<1000000)(l:K<1000000)(h:mI T k ((fG N).data.toList++44::((fG K).data.toList++[41])))(j:Nat): jr T (j+1+(fG K).size+1+(fG N).size) k st=jr T j (k+(fG N).size+1+(fG K).size+1) {st with C:=[],r:=0,M:=41,d:=(st.d.fR 110 N).fR 107 K}:=by
 have m:(fG N).data.toList.length=(fG N).size:=by rw[È];rfl
 have n:(fG K).data.toList.length=(fG K).size:=by rw[È];rfl
 have a:=h.C;have b:=a.r;have c:=b.C;rw[m]at a b c;rw[n]at c;rw[acS e (Ø U) f g N i h.I,acT a (st:=tJ st 110 [44,107,41] N) (tl:=[107,41]) U<|Ø U,acS (want:=107) (tl:=[41]) (atQ e (Ø U) _) (ć U) U U K l b.I,acT c (tl:=[]) U<|ć U];rfl
def Va(i K:Nat):(pe i K).length=4+((fG 400).size+1+(fG K).size+1):=by
 have a:(fG 400).data.toList.length=(fG 400).size:=by rw[È];rfl
 have b:(fG K).data.toList.length=(fG K).size:=by rw[È];rfl
 unfold pe;simp only[Ú,Ð,a,b,List.length_nil];omega
def acW(a:K<1000000)(h:mI T k (58::98::40::((fG 400).data.toList++44::((fG K).data.toList++[41]))))(j:Nat): jr T (j+(3+((fG 400).size+1+(fG K).size+1))) k ⟨[84],0,0,120,⟨[],Ä,⟨R,pre⟩,Ä,⟨[x,0,0,0,0],⟨#[]⟩⟩⟩⟩= jr T j (k+(3+((fG 400).size+1+(fG K).size+1))) ⟨[],0,0,41,⟨[],Ä,⟨R,pre⟩,Ä,⟨[x,1,400,K,3],⟨#[]⟩⟩⟩⟩:=by rw[show j+(3+((fG 400).size+1+(fG K).size+1))=j+1+(fG K).size+1+(fG 400).size+1+1+1 by omega,ru h U,ru h.r U,ru h.r.r U];refine(at7 (N:=400) (K:=K) (st:=⟨[110,44,107,41],0,0,40,⟨[],Ä,⟨R,pre⟩,Ä,⟨[x,1,0,0,3],⟨#[]⟩⟩⟩⟩) ⟨λ_=>(by show 4<=5;decide),(λq=>by cases q)⟩ rfl rfl A a h.r.r.r j).trans ?_;rw[show k+1+1+1+(fG 400).size+1+(fG K).size+1=k+(3+((fG 400).size+1+(fG K).size+1)) by omega];rfl
def aua(a:K<1000000)(h:mI T k (pe 0 K))(j:Nat): jr T (j+(pe 0 K).length) k ⟨[66],0,0,47,⟨[],Ä,⟨R,[]⟩,ï,⟨[],⟨#[]⟩⟩⟩⟩=jr T j (k+(pe 0 K).length) ⟨[],0,0,41,⟨[],Ä,⟨R,[]⟩,Ä,oF 0 K⟩⟩:=by rw[Va,show j+(4+((fG 400).size+1+(fG K).size+1))=j+(3+((fG 400).size+1+(fG K).size+1))+1 by omega,ru (c:=99) h U];refine(acW (R:=R) (pre:=[]) (x:=2) a h.r j).trans ?_;rw[show k+1+(3+((fG 400).size+1+(fG K).size+1))=k+(4+((fG 400).size+1+(fG K).size+1)) by omega];rfl
def aub(c:i<6)(d:0<i)(f:pre.length<7)(a:K<1000000)(h:mI T k (44::pe i K))(j:Nat): jr T (j+(1+(pe i K).length)) k ⟨[],0,0,41,⟨[],Ä,⟨R,pre⟩,Ä,t⟩⟩=jr T j (k+(1+(pe i K).length)) ⟨[],0,0,41,⟨[],Ä,⟨R,pre++[t]⟩,Ä,oF i K⟩⟩:=by
 have e:kR T k ⟨[],0,0,41,⟨[],Ä,⟨R,pre⟩,Ä,t⟩⟩ (((44:UInt8).toNat:Nat):Int)=Ã ⟨[120,84],0,0,41,⟨[],Ä,⟨R,pre++[t]⟩,Ä,PD.Aq⟩⟩:=by unfold kR;rw[if_neg ft];show oI _ _=_;unfold oI;rw[if_neg ft,if_pos ⟨U,by simp[PD.Y],by simp[PD.Y];omega⟩];rfl
 have b:kR T (k+1) ⟨[120,84],0,0,41,⟨[],Ä,⟨R,pre++[t]⟩,Ä,PD.Aq⟩⟩ (((yC i).toNat:Nat):Int)=Ã ⟨[84],0,0,120,⟨[],Ä,⟨R,pre++[t]⟩,Ä,⟨[((2+i:Nat):Int),0,0,0,0],⟨#[]⟩⟩⟩⟩:=by
  obtain rfl|rfl|rfl|rfl|rfl:i=1\/i=2\/i=3\/i=4\/i=5:=Z
  all_goals rfl
 rw[Va,show j+(1+(4+((fG 400).size+1+(fG K).size+1)))=j+(3+((fG 400).size+1+(fG K).size+1))+1+1 by omega,ru h e,ru h.r b];refine(acW (R:=R) (pre:=pre++[t]) (x:=((2+i:Nat):Int)) a h.r.r j).trans ?_;rw[show k+1+1+(3+((fG 400).size+1+(fG K).size+1))=k+(1+(4+((fG 400).size+1+(fG K).size+1))) by omega];rfl
def auc(j:Nat->Nat)(n:Nat):(wK j n).length=n:=by simp[wK]
def acX(j:Nat->Nat)(n:Nat):wK j (n+1)=wK j n++[oF n<|j n]:=by simp[wK,List.range_succ]
def aud(hF:∀i,D i<1000000)(n:Nat)(a:n<6):∀k,mI T k (ln D<|n+1)->∀j,jr T (j+(ln D<|n+1).length) k ⟨[66],0,0,47,⟨[],Ä,⟨R,[]⟩,ï,⟨[],⟨#[]⟩⟩⟩⟩=jr T j (k+(ln D<|n+1).length) ⟨[],0,0,41,⟨[],Ä,⟨R,wK D n⟩,Ä,oF n<|D n⟩⟩:=by
 induction n with
 |zero=>
  intro k h j;exact aua (hF 0) h j
 |succ n b=>
  intro k h j;have e:ln D (n+1+1)=ln D (n+1)++(44::pe (n+1) (D<|n+1)):=U;rw[e]at h|-;rw[Ð,show j+((ln D<|n+1).length+(44::pe (n+1) (D<|n+1)).length)=j+(1+(pe (n+1)<|D<|n+1).length)+(ln D<|n+1).length by rw[Ú];omega];rw[b Z k h.I,aub a Z (by rw[auc];omega) (hF _) h.C,<-acX];rw[show k+(ln D<|n+1).length+(1+(pe (n+1)<|D<|n+1).length)=k+((ln D<|n+1).length+(44::pe (n+1) (D<|n+1)).length) by rw[Ú];omega]
def Nq{F:Nat->Nat}(hF:∀i,F i<1000000):∀n,(ln F n).length<=16*n
 |0=>Ç _
 |n+1=>by
  have h:=Nq hF n;have a:=Va n<|F n;have b:=Jb<|hF n;have c:(fG 400).size=3:=fv
  rw[ln,Ð,Ð];have d:(if n=0 then[]else[44]:List UInt8).length<=1:=by split<;>simp
  omega
def acY(F:Nat->Nat)(n:Nat):(sH F n).size=5+(ln F n).length:=by unfold sH;rw[Ē,û];simp only[Ú];omega
def aue{F:Nat->Nat}(hF:∀i,F i<1000000)(d:n<=6):ig (sH F n)=(0,0,[rB F n]):=by
 cases n with
 |zero=>
  show ig ⟨#[105,49,58,97,47]⟩=(0,0,[⟨[0,0,0,0,1,1,0,0],[]⟩]);kernel_rfl
 |succ n=>
  have b:=acY F<|n+1;have e:=Nq hF<|n+1;have a:mI (sH F<|n+1) 0 (105::49::58::97::47::ln F (n+1)):=atT;have c:=aud (T:=sH F<|n+1) (R:=[0,0,0,0,1,1,0,0]) hF n Z 5 a.r.r.r.r.r 0;refine atS (z:=⟨[],0,0,41,⟨[],Ä,⟨[0,0,0,0,1,1,0,0],wK F n⟩,Ä,oF n<|F n⟩⟩) ?_ U ?_ Z Z
  .unfold mH;rw[show jr (sH F<|n+1) (sH F<|n+1).size=jr (sH F<|n+1) (0+(ln F<|n+1).length+1+1+1+1+1) by rw[b];congr 1;omega];rw[ru a U,ru a.r U,ru a.r.r U,ru a.r.r.r U,ru a.r.r.r.r U];apply c.trans;rw[b];rfl
  .show[(⟨[0,0,0,0,1,1,0,0],wK F n++[oF n<|F n]⟩:PR)]=_;rw[<-acX];rfl
end
end Go.Proofs.Y.lL
namespace Go.Proofs.Y.jF
open Go Go.Conc Go.Proofs Go.RowKit Go.Proofs.Y.Lift Go.Proofs.Y.fV Go.Proofs.Y.fB Go.Proofs.Y.lL
def auf(B:ByteArray):((C5 B).s 1).r=B:=fv
def acZ:(fG 400).data.toList=[52,48,48]:=fv
def wL(F:Nat->Nat):Nat->Nat
 |0=>0
 |n+1=>wL F n+ml (F n)
def sI(F:Nat->Nat):Nat->List (Int×Bool)
 |0=>[]
 |n+1=>sI F n++[(16+19*(F n:Int),Ä)]
structure vm(s:fV.St)(S i:Nat):Prop where
 C:(s 1).r=ni
 r:(s 1).C 0=S
 fw:∀j,2+i<=j->j<8->(s j).fw=1000
section
variable{s:fV.St}{v v0:fO}{F:Nat->Nat}{x S:Nat}{b:Int}
def AB(h:j≠x):(s.fw x b) j=s j:=by simp[fV.St.fw,fV.St.fR,h]
def aug(y q:Nat):((s.r y q b) j).fw=(s j).fw:=by
 unfold fV.St.r fV.St.fR;split
 .rename_i h;rw[h]
 .rfl
def vm.fR(h:vm s S i)(a:x≠1)(d:2+i<=x->b=1000):vm (s.fw x b) S i:=by
 refine⟨by rw[AB a.symm];exact h.C,by rw[AB a.symm];exact h.r,λj c f=> ?_⟩;by_cases e:j=x
 .subst e;rw[<-d c];simp[fV.St.fw,fV.St.fR]
 .rw[AB e];exact h.fw j c f
def auh:∀{n:Nat},n<=20->ml n<=210:=λ{n} h=>by have a:=Np n;have b:n*(n+1)<=20*21:=ē h Z;omega
def aui(h:vm s S i)(m:i<6)(b:0<k/\k<=20)(n:S<1000000):∃c,lJ s [] ⟨2+i,1,400,k,3,⟨#[]⟩⟩=((16+19*(k:Int),Ä),Ä,c,[])/\vm c (S+ml k) (i+1):=by
 have d:=h.fw (2+i) (Ç _) Z;have a:(1:Nat)≠2+i:=Z
 have f:=at5 (s:=s.fw (2+i)<|(s<|2+i).fw-400) (ls:=[]) (x:=2+i) (g:=400-10) (by rw[AB a];exact h.C) k b.1 b.2 S (by rw[AB a];exact h.r) Z Z Z Z;have e:lJ s [] ⟨2+i,1,400,k,3,⟨#[]⟩⟩=wx s [] (2+i) 1 400 k:=by unfold lJ;rw[if_neg (by decide:¬(3:Int)=1),if_neg (by decide:¬(3:Int)=2)]
 rw[e];unfold wx;rw[if_neg (by rw[d];omega),f];refine⟨_,congrArg (λq=>((q,Ä),Ä,_,([]:List (Nat×Int)))) (show 6+19*(k:Int)+10=_ by omega),?_⟩;refine vm.fR ⟨?_,?_,λj o l=> ?_⟩ a.symm λq=>by omega
 .show(((s.fw (2+i) _).r 1 0 _) 1).r=ni;simp only[fV.St.r,fV.St.fR,if_true];rw[AB a];exact h.C
 .show(((s.fw (2+i) _).r 1 0 _) 1).C 0=_;rw[U9];omega
 .show(((s.fw (2+i) _).r 1 0 _) j).fw=1000;rw[aug,AB Z];exact h.fw j Z l
def Nr(hF:∀i,0<F i/\F i<=20):∀n,wL F n<=210*n
 |0=>Ç _
 |n+1=>by have a:=Nr hF n;have b:=auh (hF n).2;rw[wL];omega
def ac0(hF:∀i,0<F i/\F i<=20):∀(r i:Nat) (s:fV.St),i+r<=6->vm s (wL F i) i->∃a,ri 0 s [] (sI F i) ((ň i r).map λj=>(⟨2+j,1,400,F j,3,⟨#[]⟩⟩:Tx))=Ã (a,[],sI F<|i+r)/\vm a (wL F<|i+r) (i+r)
 |0,i,s,h,hs=>⟨s,U,hs⟩
 |r+1,i,s,h,hs=>by have k:=Nr hF i;let⟨a,e,c⟩:=aui hs Z (hF i) Z;have d:=c.fR (x:=0) (b:=wu<|(a 0).fw+(16+19*(F i:Int))) A (λq=>by omega);let⟨q,f,g⟩:=ac0 hF r (i+1) _ Z d;refine⟨q,?_,by rwa[show i+(r+1)=i+1+r by omega]⟩;rwa[List.range'_succ,Õ,ri,e,show i+(r+1)=i+1+r by omega]
def auj(hF:∀i,0<F i/\F i<=20)(f:n<=6)(c:vm v.s 0 0):∃a,yB (rB F n) v=Ã ⟨a,[],sI F n,v.h+1⟩/\(a 1).C 0=wL F n:=by
 let⟨b,e,h⟩:=ac0 hF n 0 v.s Z c;rw[Ń]at e h;refine⟨b.fw 0<|wu<|(b 0).fw+50,?_,by rw[AB A];exact h.r⟩;unfold yB uY;have d:(sG<|rB F n).2.2=(ň 0 n).map λj=>(⟨2+j,1,400,F j,3,⟨#[]⟩⟩:Tx):=by unfold sG rB wK;rw[List.map_map,List.range_eq_range'];rfl
 rw[d,show(sG<|rB F n).2.1=0 from rfl];change(Ŏ _<|Ŏ _<|ri 0 v.s [] (sI F 0) _)=_;rw[e];rfl
def tK(F:Nat->Nat)(n:Nat):List ByteArray:=[sH F n,⟨#[103,50,58,98,48]⟩,⟨#[117,50]⟩,⟨#[108,50]⟩,⟨#[103,49,58,98,48]⟩]
def FH:List PR:=[⟨[1,0,0,0,2,2,0,0],[]⟩,⟨[0,0,0,0,8,2,0,0],[]⟩,⟨[0,0,0,0,7,2,0,0],[]⟩,⟨[1,0,0,0,2,1,0,0],[]⟩]
def auk:ig ⟨#[103,50,58,98,48]⟩=(0,0,[⟨[1,0,0,0,2,2,0,0],[]⟩])/\ig ⟨#[103,49,58,98,48]⟩=(0,0,[⟨[1,0,0,0,2,1,0,0],[]⟩]):=⟨fv,fv⟩
def ac1:∀n,n<=6->(59:UInt8)∉ln F n
 |0,_=>by simp[ln]
 |n+1,h=>by
  have a:=ac1 n Z;have b:(59:UInt8)∉(fG 400).data.toList:=acI 400;have c:(59:UInt8)∉(fG<|F n).data.toList:=acI<|F n;have d:(59:UInt8)≠yC n:=by
   obtain rfl|rfl|rfl|rfl|rfl|rfl:n=0\/n=1\/n=2\/n=3\/n=4\/n=5:=Z
   all_goals decide
  rw[ln];simp only[List.mem_append,pe,Ę,a,b,c,d,false_or,or_false];split<;>simp
def aul(a:n<=6):pb (sH F n):=by have:=ac1 (F:=F) n a;unfold pb;simp[sH,this]
def aum(hF:∀i,0<F i/\F i<=20)(a:n<=6):(jl ⟨#[59]⟩<|tK F n).size<=1200:=by have b:=UQ ⟨#[59]⟩ U<|tK F n;have c:=acY F n;have d:=Nq (F:=F) (λi=>by have:=hF i;omega) n;have e:iQ (tK F n)=(sH F n).size+(5+(2+(2+(5+0)))):=rfl;have f:(tK F n).length=5:=rfl;omega
def aun(hF:∀i,0<F i/\F i<=20)(a:n<=6):ig (jl ⟨#[59]⟩<|tK F n)=(0,0,rB F n::FH):=by
 refine atK ?_ (λP b=> ?_) (by simp[tK]) (by simp[tK])<|aum hF a
 .let⟨P,c,_,_⟩:=at6;let⟨d,e⟩:=auk;simp only[tK,FH,Õ,Ĝ,aue (F:=F) (λi=>by have:=hF i;omega) a,P,c,d,e]
 .simp only[tK,Ę,ģ,or_false]at b;rcases b with rfl|rfl|rfl|rfl|rfl
  .exact aul a
  .decide
  .decide
  .decide
  .decide
def pY(F:Nat->Nat):Nat->ByteArray
 |0=>⟨#[]⟩
 |i+1=>((if i=0 then pY F i else pY F i++⟨#[44]⟩)++⟨#[49,58]⟩)++fG (16+19*F i)
def auo(h:vX≠[])(y:ByteArray):jl ⟨#[44]⟩ (vX++[y])=(jl ⟨#[44]⟩ vX++⟨#[44]⟩)++y:=by
 cases vX with
 |nil=>exact absurd U h
 |cons a vX=>exact Ö<|Û.1<|by simp[jl,Fa,mR,Ê]
def Vb(F:Nat->Nat):∀n,(sI F n).length=n
 |0=>rfl
 |n+1=>by rw[sI,Ð,Vb F n];rfl
def aup(k:Nat):wy (16+19*(k:Int),Ä)=⟨#[49,58]⟩++fG (16+19*k):=by unfold wy;show(fG 1++⟨#[58]⟩)++fG (16+19*(k:Int)).toNat=_;rw[show(16+19*(k:Int)).toNat=16+19*k by omega,show(fG 1++⟨#[58]⟩:ByteArray)=⟨#[49,58]⟩ by kernel_rfl]
def ac2(F:Nat->Nat):∀n,jl ⟨#[44]⟩ ((sI F n).map wy)=pY F n
 |0=>rfl
 |n+1=>by
  rw[sI,List.map_append,Õ,Ĝ,aup,pY];by_cases h:n=0
  .subst h;rw[if_pos U];exact Ö<|Û.1<|by simp[sI,pY,jl,Fa,mR,Ê]
  .rw[if_neg h,auo (by intro e;have:=congrArg ŉ e;rw[ı,Vb]at this;exact h this),ac2 F n,Þ,Þ,Þ]
def auq(F:Nat->Nat)(n:Nat):yo ((sI F n).map wy)=if n=0 then⟨#[45]⟩else pY F n:=by
 unfold yo;rw[ac2];by_cases h:n=0
 .subst h;rfl
 .rw[if_neg h,if_neg (by intro e;have:=congrArg ŉ e;rw[ı,Vb]at this;exact h this)]
def gT(F:Nat->Nat)(n:Nat):List ByteArray:=[⟨#[50]⟩,fG<|wL F n,if n=0 then⟨#[45]⟩else pY F n,⟨#[45]⟩,⟨#[48]⟩]
def aur(hF:∀i,0<F i/\F i<=20)(g:n<=6)(j:vm v.s 0 0):∃z,nQ [v0,v] (jl ⟨#[59]⟩<|tK F n)=(jl ⟨#[59]⟩<|gT F n,0,[v0,v,z]):=by
 let⟨m,o,p⟩:=auj hF g j;have k:∀l,mG (oG<|v0::v::l) 1=Ã (0,v):=λl=>U5 (n:=1) U;have t:∀z,mG (oG [v0,v,z]) 2=Ã (0,z):=λz=>U5 (n:=2) U;let⟨e,a⟩:=acN (s:=[v0,v]) (r:=rB F n) U (k []) ft;rw[o]at e a;have u:=auq F n;have w:yo []=⟨#[45]⟩:=if_pos U;obtain⟨z,b⟩:∃z:fO,(⟨m,[],sI F n,v.h+1⟩:fO)=z:=⟨_,U⟩;have x:(z.s 1).C 0=wL F n:=by rwa[<-b]
 have y:z.r=[]:=by rw[<-b]
 have B:z.C=sI F n:=by rw[<-b]
 rw[b]at e a;refine⟨z,?_⟩;rw[atB<|aun hF g,acV,e];have d:pJ [v0,v] (rB F n::FH)=[v0,v,z]:=by show pJ (yz [v0,v]<|rB F n) FH=_;rw[a];rfl
 rw[d,a];show(jl _<|_::ky FH [v0,v,z],_)=_;apply congrArg λl=>(jl ⟨#[59]⟩ l,(0:Int),[v0,v,z]);have q:∀(r:PR) (f:List PR),r.c.getD 4 0≠1->ky (r::f) [v0,v,z]=tE (oG [v0,v,z]) (toQn r)::ky f [v0,v,z]:=λr f d=>by rw[acV];unfold yy yz;rw[if_neg d,if_neg d]
 unfold FH gT;rw[q _ _ ft,q _ _ ft,q _ _ ft,q _ _ ft];have C:fG 0=⟨#[48]⟩:=fv
 have D:=j.r;simp only[tE,toQn,List.getD_cons_zero,List.getD_cons_succ,k,t,CH];simp[x,y,B,D,u,w,C];exact⟨U,U⟩
def aus:vm (C5 ni).s 0 0:=by
 refine⟨auf ni,fv,λj a b=> ?_⟩;obtain rfl|rfl|rfl|rfl|rfl|rfl:j=2\/j=3\/j=4\/j=5\/j=6\/j=7:=Z
 all_goals kernel_rfl
end
end Go.Proofs.Y.jF
namespace Go.Proofs.Y.fB
open Go Go.Conc Go.Proofs.Y.Lift Go.RowKit Go.Conc.Lib Go.ConcR.Gen
def wM(a:Array ė)(t:Array Ë)(i:Nat):Ë:=t.getD (((a[i]?).bind (·.dst)).getD 0) ņ
def Ns(p:Nat->ė->Prop):Nat->List ė->Prop
 |_,[]=>True
 |n,o::r=>p n o/\Ns p (n+1) r
def aut{p:Nat->ė->Prop}:∀(l:List ė) (n i:Nat) (o:ė),Ns p n l->l[i]?=Ã o->p (n+i) o:=by
 intro l
 induction l with
 |nil=>intro n i o _ e;simp at e
 |cons x l a=>
  intro n i o h e;cases i with
  |zero=>
   rw[ā]at e;obtain rfl:=ç e;exact h.1
  |succ i=>
   rw[Ă]at e;rw[show n+(i+1)=n+1+i by omega];exact a _ i o h.2 e
section
variable{J:Jd}{l:fh}{c:Array Ë}
def lP.N(h:lP Q q (wM Q c) wJ y)(g:∀d,Q.toList.all (λo=>o.dst !=Ã d)=Ä->c[d]?=q[d]?)(i:c.size=q.size)(k:qO Q q.size=Ä){d:Nat}(l:∀j o,Q[j]?=Ã o->o.dst=Ã d->wJ.getD j ï=Ä):y.tmps[d]?=c[d]?:=by
 by_cases a:Q.toList.all (λo=>o.dst !=Ã d)=Ä
 .rw[h.C a,g d a]
 .obtain⟨j,m,b⟩:∃j,∃h:j<Q.size,Q[j].dst=Ã d:=by simpa using a
  have e:=Ó m;have f:d<c.size:=by rw[i];exact Rm k e b
  rw[h.r j _ d e (l j _ e b) b,wM,e,Ó f];simp[b,f]
def C6:List ė->List Ë->Array Ë->Array Ë
 |o::os,v::vs,t=>C6 os vs (match o.dst with|some d=>t.setIfInBounds d v|none=>t)
 |_,_,t=>t
def Je:∀(a:List ė) (b:List Ë) (t:Array Ë),(C6 a b t).size=t.size/\∀d,a.all (λo=>o.dst !=Ã d)=Ä->(C6 a b t)[d]?=t[d]?
 |[],_,t=>⟨U,λ_ _=>rfl⟩
 |o::a,[],t=>⟨U,λ_ _=>rfl⟩
 |o::a,v::b,t=>by
  unfold C6;cases c:o.dst with
  |none=>
   refine⟨(Je a b t).1,λd h=>(Je a b t).2 d ?_⟩;simp only[ļ,ð]at h;exact h.2
  |some e=>
   refine⟨by rw[(Je a b _).1];simp,λd h=> ?_⟩;simp only[ļ,ð,c]at h;rw[(Je a b _).2 d h.2,î (by simpa using h.1)]
end
def ac3(a:Array ė)(L:Nat):Bool:=(Í a.size).all λi=>match a[i]? with
 |none=>Ä
 |some o=>o.dst.isSome&&(match o.op with|.select _ _=>ï|_=>Ä)&&(o.op.operands.toList.all λx=>match x with
  |.tmp d=>(Í a.size).all λj=>((a[j]?).bind (·.dst)) !=Ã d||(if j=L then(a.getD L default).after.toList.any (λe=>e.on==i&&vO e)else o.after.toList.any λe=>e.on==j&&vO e)
  |_=>Ä)&&o.guard.isNone
def Vd(P:Ŗ)(k:Bool)(l:fh)(b:List Ĩ)(c:Array ė)(te g:Array Ë)(i:Nat)(o:ė):Prop:=
 (∀a,iV l a->∀f,fL a a.w f->(ĉ (ă ⟨te,[]⟩) o).run P f=.ok (.value<|wM c g i) f/\∀e∈(ĉ (ă ⟨te,[]⟩) o).events P f #[],vN a e)\/
  ∃f e,(∀w,(ĉ (ă ⟨te,[]⟩) o).run P w=.ok (.enter f e) w)/\(∀w,(ĉ (ă ⟨te,[]⟩) o).events P w #[]=#[])/\
   ∀a,iV l a->a.d=l.d->∀h,fq P k (λj m=>iV a j/\j.d=a.d/\m=G (h.finish<|wM c g i) b) a<|G (Ü P f e ü)<|h::b
section
variable{J:Jd}{l:fh}{k:List ŝ}{te:Array Ë}
theorem auu{id:Nat}(M:j0 l)(N:¬l.q)(O:f.kind≠.early)(B:qO Q d.size=Ä)(hd:ac3 Q i=Ä)(ho:∀D,KP D Q (Í Q.size) []=Ä)(S:q.size=d.size)(T:∀a,Q.toList.all (λo=>o.dst !=Ã a)=Ä->q[a]?=d[a]?) (hL:(Q[i]?).bind (·.dst)=Ã n) (hte:∀a,a≠n->te[a]?=q[a]?) (auv:te[n]?=d[n]?) (py:Ns (Vd P yQ l qX Q te q) 0 Q.toList) (hn:∀c,iV l c->c.d=l.d->fq P yQ J c (G (f.at ⟨q,[]⟩<|ê Q []::k) qX)):fq P yQ J l (G (f.at ⟨d,[]⟩<|Ġ (.region id Q Ä)::k) qX):=by
 refine KO (λwJ y c=>lP Q d (wM Q q) wJ y/\iV l c/\c.d=l.d) M N (λV r=>⟨lP.S _ _ _,(iV.gd M).I (w₁:={V with drawn:=V.drawn+1}) ⟨r.r,r.I,r.N,r.Y,r.S⟩,U⟩) (λD wJ y c r rest H z=> ?_) λD wJ y c H hz I=> ?_
 .let⟨p,h,E⟩:=H;have SB:¬c.q:=by rwa[h.q]
  obtain⟨o,s⟩:∃o,Q[r]?=Ã o:=⟨_,Ó<|zv z⟩;have K:=ò.1 hd r<|õ.2<|zv z;rw[s]at K;simp only[ð]at K;let⟨⟨⟨_,W⟩,JR⟩,H5⟩:=K;let⟨oL,C,L⟩:=Ą.1 hL;have hni:¬wJ.getD r ï=Ä:=vP (mem_ready.1 z).1;have F:ĉ y.eval o=ĉ (ă ⟨te,[]⟩) o:=execOp_congr o (λqX f e=>by rw[e]at W;cases W) λx hx=>by
   have m:=ò.1 JR x<|Array.mem_toList_iff.2 hx;cases x with
   |tmp a=>
    show y.tmps.getD a ņ=te.getD a ņ;have X:y.tmps[a]?=te[a]?:=by
     by_cases e:a=n
     .subst e;rw[auv];have t:=ò.1 m i<|õ.2 (Ï.1 C).1;simp only[C,Ħ,L,bne_self_eq_false,Ľ,if_true,á,Option.getD_some]at t;refine p.c a λj Y u v e=> ?_;have g:i=j:=Decidable.byContradiction λb=>Y5 B u C b e L;subst g;exact hni<|p.I C v t
     .rw[hte a e];refine p.N T S B (d:=a) λj Y u v=> ?_;have t:=ò.1 m j<|õ.2 (Ï.1 u).1;have g:j≠i:=λb=>by
       subst b;rw[C]at u;cases u;rw[L]at v;cases v;exact e U
      simp only[u,Ħ,v,bne_self_eq_false,Ľ,if_neg g]at t;exact ik z s t
    simp only[á,X]
   |const v=>rfl
   |global g=>rfl
   |func g=>rfl
  have X:Region.wanted o (yielded Q y.tmps)=Ä:=by unfold Region.wanted;rw[Option.isNone_iff_eq_none.1 H5]
  have Y:=aut _ _ _ _ py (show Q.toList[r]?=Ã o by rwa[Array.getElem?_toList]);rw[Ń]at Y;rcases Y with vV|⟨g,args,I,he,hW⟩
  .refine rS s X O h.fA SB (λv m=> ?_) (λv m=> ?_)<|.fE λv m=>⟨_,U,p.fR B s z λ_=>rfl,h.I m,E⟩
   .rw[F];exact(vV _ h v m).1
   .rw[F];exact(vV _ h v m).2
  .refine .mk U λv m=>⟨G (Ü P g args ü)<|f.at y (ê Q (r::rest)::k)::qX,v,#[],{c with w:=v},?_,KE v<|my h.fA m,(hW _ (h.I m) E _).fT ?_⟩
   .rw[stepG_enter s X O (by rw[F];exact I v)];unfold Ŝ;rw[F,he v,seen_none]
   .rintro l2 g2 ⟨ha2,n9,rfl⟩;refine⟨_,by rw[Ĳ],?_,(h.I m).fj ha2,n9.trans E⟩;rw[show(Q[r]?).bind (·.dst)=o.dst by rw[s];rfl];exact p.fR B s z λ_=>rfl
 .let⟨p,h,E⟩:=H;have v:=pF I hz _ [] (ho D) λ_ b=>by cases b
  have e:y=⟨q,[]⟩:=by let⟨g,m⟩:=y;have t:=p.M;simp only at t;subst t;congr 1;refine Array.ext_getElem? λa=>p.N T S B λj o u _=>v j<|õ.2 (Ï.1 u).1
  grind
def auw{id:Nat}(b:List Ë)(i n:Nat)(p:j0 l)(r:¬l.q)(s:f.kind≠.early)(j:qO Q d.size=Ä)(t:ac3 Q i=Ä)(u:∀v,KP v Q (Í Q.size) []=Ä)(m:(Q[i]?).bind (·.dst)=Ã n) (h:∀q,q=C6 Q.toList b d->∀te,te=q.setIfInBounds n (d.getD n ņ)->Ns (Vd P yQ l qX Q te q) 0 Q.toList/\∀c,iV l c->c.d=l.d->fq P yQ J c (G (f.at ⟨q,[]⟩<|ê Q []::k) qX)): fq P yQ J l (G (f.at ⟨d,[]⟩<|Ġ (.region id Q Ä)::k) qX):=by
 have g:=Je Q.toList b d;let⟨y,w,x⟩:=Ą.1 m;have o:=Rm j w x;refine auu p r s j t u g.1 g.2 m (te:=(C6 Q.toList b d).setIfInBounds n<|d.getD n ņ) (λa e=> ?_) ?_ (h _ U _ U).1 (h _ U _ U).2
 .rw[î<|Ne.symm e]
 .rw[Array.getElem?_setIfInBounds_self_of_lt (by rwa[g.1]),á,Ó o];rfl
end
end Go.Proofs.Y.fB
namespace Go.Proofs.Y.jF
open Go Go.Conc Go.Proofs Go.RowKit Go.Proofs.Y.Lift Go.Proofs.Y.fV Go.Proofs.Y.fB Go.Proofs.Y.lL
open Go.Conc.Lib Go.ConcR.Gen Go.Proofs.YtgpphkdoanciiabGreatDoor
def auy(B:ByteArray)(w:ë)(a:i<=j)(b:j<=B.size):Sem.events À (Instr.sliceAt 9 (Â B) (Ã<|É Å i) (Ã<|É Å j) ý) w #[]=#[]:=by simp[Instr.sliceAt,Instr.slice,go_sem,a,b,Instr.sliceBound]
structure jU(R:Nat->Prop)(W:ë)(l:fh)(x nx:Nat)(s:List fO):Prop where
 a:∃sl V,ot l x nx s sl V
 C:∀b,R b->(l.O b/\l.w.heap[b]?=W.heap[b]?)/\b≠x
section
variable{R:Nat->Prop}{l c:fh}{x nx:Nat}{s d:List fO}{cs:List Ĩ}{k:List ŝ}
def jU.I(h:jU R W l x nx s)(d:∀b,l.O b->c.O b/\c.w.heap[b]?=l.w.heap[b]?)(e:l.w.heap.size<=c.w.heap.size):jU R W c x nx s:=by let⟨f,V,a⟩:=h.a;exact⟨⟨f,V,a.S (λb q=>(d b q).1) (λb q=>(d b q).2) e⟩,λb q=>⟨⟨(d b (h.C b q).1.1).1,(d b (h.C b q).1.1).2.trans (h.C b q).1.2⟩,(h.C b q).2⟩⟩
def jU.r(h:jU R W l x nx s)(r:fL l l.w u):jU R W {l with w:=u} x nx s:=h.I (λb q=>⟨q,r.I b<|Ø q⟩) r.r
def jU.st(h:jU R W l x nx s):ma s:=by let⟨_,_,a⟩:=h.a;let⟨_,_,q,_⟩:=a.I;exact q
def jU.M(h:jU R W l x nx s):nB<=l.w.heap.size:=by let⟨_,_,a⟩:=h.a;exact a.r.fA
def auz(h:jU R W l x nx s)(j:iu l)(m:B.size<=ĵ) (n:∀c,iu c->jU R W c x nx (nQ s B).2.2->iM vQ c (G (f.at (y.put ((Q[i]?).bind (·.dst))<|.tuple #[Â (nQ s B).1,É Å (nQ s B).2.1])<|ê Q jJ::k) cs)): iM vQ l (G (Ü À 13 #[å<|Ã ⟨x,0,ý⟩,Â B] ü)<|f.at y (ê Q (i::jJ)::k)::cs):=by let⟨w,V,o⟩:=h.a;refine acg j o m (λ_=>acj h.st) λc p ⟨e,r,t,u,z⟩=>n c p ⟨⟨r,t,u⟩,λb q=> ?_⟩;let⟨⟨g,v⟩,d⟩:=h.C b q;exact⟨⟨(e b g d).1,(e b g d).2.trans v⟩,d⟩
end
def ac4{T:ByteArray}(w:ë)(h:B.size+T.size<=10^15):Sem.events À (Go.Op.stringOp BinOp.add B T) w #[]=#[]:=by
 have a:¬ĵ<B.size+T.size:=by unfold ĵ;omega
 simp[go_sem,Op.stringOp,a]
def tL{J:Jd}{l:fh}{b:Frame}{a:Act}{ops:Array Oper}{i:Nat}{rest:List Nat}{k:List Item}{cs:List Frame}{o:Oper}{x y:Operand}(S T U:ByteArray)(hb:iu l)(hU:S++T=U)(h:S.size+T.size<=10^15)(hn:fB.fq Tryz.prog true J l (G (b.at (a.put o.dst<|.string U)<|.inRegion ops rest::k) cs)) (ho:ops[i]?=some o:=by rfl) (py:o.op=.binOp .add 9 x y 9:=by rfl) (hx:a.eval x=.string S:=by rfl) (hy:a.eval y=.string T:=by rfl) (hw:Region.wanted o (yielded ops a.tmps)=true:=by rfl) (hk:b.kind≠.early:=by k_ne): fB.fq Tryz.prog true J l (G (b.at a<|.inRegion ops (i::rest)::k) cs):=by
 subst hU;have h2:¬9223372036854775807<S.size+T.size:=Z
 refine rS (v:=Â<|S++T) ho hw hk hb.r.r hb.q (λw _=> ?_) (λw _ e he=> ?_) hn
 .let⟨d,p,t,q,af,g⟩:=o;simp only at py;subst py;simp only[ĉ,hx,hy];go_simp
 .let⟨d,p,t,q,af,g⟩:=o;simp only at py;subst py;simp only[ĉ,hx,hy]at he;simp[go_sem,ac4 w h]at he
section
variable{l a:fh}{s c:List fO}{S p:ByteArray}
def ac5(h:jU X W l j b s)(d:iu l)(o:B.size<=ĵ)(p:nQ s B=(S,0,c)) (q:∀a,iu a->jU X W a j b c->iM vQ a (G (f.at (y.put ((Q[i]?).bind (·.dst))<|Ī Ä)<|ê Q jJ::L) qX)): iM vQ l (G (Ü À 10 #[å<|Ã ⟨j,0,ý⟩,Â B,Â S] ü)<|f.at y (ê Q (i::jJ)::L)::qX):=by
 have hF:True:=trivial;rw[CU [_,_,_] 19 Ĕ];simp only[ĕ,ñ,Ċ];conv in lj _ _=>whnf
 apply nP;apply gl (n:=60) d.r.r;repeat w_go fF
 refine Æ λ_ _=> ?_;refine .fE λu e=>⟨d.C e,U,?_⟩;have m:=d.C e;refine CW (f:=13) (args:=#[å<|Ã ⟨j,0,ý⟩,Â B]) m U gh (by k_ne) (λw=>by go_simp) (λw=>Î U Tryz.func13 U U #[]) λr w=> ?_;refine auz ((h.r e).r w) (m.C w) o λv g k=> ?_;rw[p]at k|-;dsimp only at k|-;walk_nrm;apply nP;apply gl (n:=60) g.r.r;repeat w_nl fF
 u_in fF hF
 refine Ŋ (t:=6) U U Ĕ U ⟨by u_nil,?_⟩;refine Æ λ_ _=> ?_;exact .fE λr w=>⟨g.C w,U,q _ (g.C w)<|k.r w⟩
def auA(r:iu l)(E:na l.w)(F:∀d,d=1\/d=2\/d=3\/d=4->l.O d)(hp:p.size<=10^14*2)(k:Int)(M:-9223372036854775808<=k)(N:k<=9223372036854775807)(x:nQ [fV.ku] (iL p)=(⟨#[49]⟩,0,c)) (P:∀a j b,iu a->jU l.O l.w a j b c->l.w.heap.size<=j->iM vQ a (G (f.at (y.put ((Q[i]?).bind (·.dst))<|å<|Ã ⟨j,0,ý⟩)<|ê Q jJ::L) qX)): iM vQ l (G (Ü À 8 #[Â p,É Å k] ü)<|f.at y (ê Q (i::jJ)::L)::qX):=by
 have hF:True:=trivial;rw[CU [_,_] 17 Ķ];simp only[ĕ,ñ,Ċ];conv in lj _ _=>whnf
 apply nP;apply gl (n:=40) r.r.r;repeat w_go fF
 refine Æ λ_ _=> ?_;refine .fE λw₁ z=>⟨r.C z,U,?_⟩;have H:=r.C z;refine CW (f:=12) (args:=#[É Å k]) H U gh (by k_ne) (λw=>by go_simp) (λw=>Î U Tryz.func12 U U #[]) λI g=> ?_;have s:fL l l.w I:=z.fj ⟨g.r,g.I,g.N,g.Y,g.S⟩;refine asY (H.C g) (E.r (Ý E.fA s.r) λd q=>s.I d<|Ø<|F d q) F k M N λS j b W V h m=> ?_;have X:l.w.heap.size<=j:=Ý s.r m.vt;have J:jU l.O l.w S j b [fV.ku]:=⟨⟨W,V,m.asW⟩,λd q=>⟨⟨(m.r d q).1,(m.r d q).2.trans<|s.I d<|Ø q⟩,by have:=r.r.fA d<|Ø q;omega⟩⟩;clear m;obtain⟨o,B⟩:∃T,(⟨#[105,48,58,97,47,98,123]⟩++p:ByteArray)=T:=⟨_,U⟩;obtain⟨u,C⟩:∃T,(o++⟨#[125]⟩:ByteArray)=T:=⟨_,U⟩;have Y:o.size=7+p.size:=by rw[<-B,Á];rfl
 have z2:u.size=7+p.size+1:=by rw[<-C,Á,Y];rfl
 have e2:iL p=u:=by rw[<-C,<-B];rfl
 rw[e2]at x;walk_nrm;apply nP;apply gl (n:=40) h.r.r;repeat w_go fF
 refine Æ λ_ _=> ?_;apply rS (v:=Ī ï) U gh (by k_ne) h.r.r h.q (λw _=>by go_simp) (λw _ e D=>by simp[go_sem,US]at D);walk_nrm;apply gl (n:=60) h.r.r;repeat w_nl fF
 refine Æ λ_ _=> ?_;refine tL ⟨#[105,48,58,97,47,98,123]⟩ p o h B (by show 7+p.size<=_;omega) ?_;walk_nrm;refine tL o ⟨#[125]⟩ u h C (by show o.size+1<=_;omega) ?_;walk_nrm;refine .fE λas2 e=>⟨h.C e,U,?_⟩;refine CW (f:=10) (args:=#[å<|Ã ⟨j,0,ý⟩,Â u,Â ⟨#[49]⟩]) (h.C e) U gh (by k_ne) (λw=>by go_simp) (λw=>Î U Ĕ U U #[]) λEv K=> ?_;refine ac5 ((J.r e).r K) ((h.C e).C K) (by unfold ĵ;omega) x λl6 D u6=> ?_;clear J x;walk_nrm;apply nP;apply gl (n:=60) D.r.r;repeat w_nl fF
 u_in fF hF
 refine Ŋ (t:=4) U U Ķ U ⟨by u_nil,?_⟩;refine Æ λ_ _=> ?_;exact .fE λI g=>⟨D.C g,U,P _ _ _ (D.C g) (u6.r g) X⟩
end
def pZ(c:Int)(n:Nat):Nat:=((if c<0 then-(c+1)else c)%(n:Int)).toNat
def ac6(c:Int)(h:0<n):pZ c n<n:=by unfold pZ;have a:=Int.emod_lt_of_pos (if c<0 then-(c+1)else c) (show(0:Int)<n by omega);have b:=ċ (if c<0 then-(c+1)else c) (show(n:Int)≠0 by omega);omega
def auB(c:Int)(f:-9223372036854775808<=c)(g:c<=9223372036854775807)(i:0<n)(j:n<=1000000)(w:ë):Calls À 6 #[É Å c,É Å n] w λe d=>e=.returned (É Å<|pZ c n)/\d=w:=by
 have k:((n:Int)==0)=ï:=by simp;omega
 have b:(n:Int)≠0:=Z
 unfold pZ;by_cases h:c<0
 .rw[if_pos h];have a:=ċ (-(c+1)) b;have e:-(c+1).tmod n=(-(c+1))%n:=by rw[<-Int.neg_tmod,ã Z]
  have H:=fi<|And.intro e.symm a;clear e a;go_enter ķ,ŋ;go_wp2;go_ret;exact⟨by rw[Int.toNat_of_nonneg H.out.2,H.out.1];rfl,U⟩
 .rw[if_neg h];have a:=ċ c b;have e:c.tmod n=c%n:=ã Z;have H:=fi<|And.intro e.symm a;clear e a;go_enter ķ,ŋ;go_wp2;go_ret;exact⟨congrArg (λz=>Ending.returned<|É Å z) (Int.max_eq_left H.out.2).symm,U⟩
section
variable{l a:fh}{x:Nat}{s g:List fO}{b:Ĩ}
def auC(e:iu l)(f:nB<=l.w.heap.size)(c:Int)(g:-9223372036854775808<=c)(i:c<=9223372036854775807)(j:0<n)(k:n<=1000000): fB.fq À Ä (λa h=>iV l a/\a.d=l.d/\h=G (b.finish<|É Å<|pZ c n) qX) l (G (Ü À 6 #[É Å c,É Å n] ü)<|b::qX):= UT e f gh (λu h=>by simp at h;rcases h with rfl|rfl<;>exact .iH _ _) (λh=>by cases h;rfl) (auB c g i j k) Ä b qX
def Ve(c:iu l)(e:nB<=l.w.heap.size)(f:n<18446744073709551616): fB.fq À Ä (λa h=>iV l a/\a.d=l.d/\h=G (b.finish<|Â<|fG n) qX) l (G (Ü À 9 #[É þ n] ü)<|b::qX):= UT c e gh (λu h=>by simp at h;subst h;exact .iH _ _) (λh=>by cases h;rfl) (atG n f) Ä b qX
end
def AF(l a:fh):Prop:=∀b,l.O b->a.O b/\a.w.heap[b]?=l.w.heap[b]?
section
variable{J:Jd}{kF:Ë->ë->Prop}{R:Nat->Prop}{l l':fh}{x nx:Nat}{s c:List fO}{b e:Ĩ}{a g:Ő}{ops:Array ė}{rest:List Nat}{k:List ŝ}{cs:List Ĩ}{f:FuncId}{args:Array Ë}{fn:Func}{ags:Array ĸ}{ats:Array ń}{y:ByteArray}{t:ĸ}
def AF.r{a:fh}(h:AF l l')(k:AF l' a):AF l a:=λb q=>⟨(k b (h b q).1).1,(k b (h b q).1).2.trans (h b q).2⟩
def Vf(r:fL l l.w u):AF l {l with w:=u}:=λb q=>⟨q,r.I b<|Ø q⟩
def Hf(h:jU R W l x nx s)(hb:iu l)(hf:Tryz.prog.funcs[f]?=some fn) (hc:∀l',iu l'->nB<=l'.w.heap.size->∀(cl:Frame) (cs:List Frame),fB.fq Tryz.prog true (λl'' g'=>iV l' l''/\l''.d=l'.d/\g'=G (cl.finish v) cs) l'<|G (Frame.enter Tryz.prog f args .normal)<|cl::cs) (hn:∀l',iu l'->jU R W l' x nx s->AF l l'->fB.fq Tryz.prog true J l' (G (b.at (a.put o.dst v)<|.inRegion ops rest::k) cs)) (ho:ops[i]?=some o:=by rfl) (py:o.op=.call {callee:=.value<|.func f,args:=ags,argTypes:=ats}:=by rfl) (hw:Region.wanted o (yielded ops a.tmps)=true:=by rfl) (hk:b.kind≠.early:=by k_ne) (hr:∀w,(execOp a.eval o).run Tryz.prog w=.ok (.enter f args) w:=by intro w;go_simp) (hm:(fn.name== "runtime.NumGoroutine")=false:=by rfl) (hd:fn.body.isNone=false:=by rfl): fB.fq Tryz.prog true J l (G (b.at a<|.inRegion ops (i::rest)::k) cs):=by refine CV ho hw hk hb.r.r hr (λw=>Î py hf hm hd #[]) λw₁ kL=> ?_;refine fB.fq.mo ?_<|hc _ (hb.C kL) (h.r kL).M _ _;rintro l2 g2 ⟨ha,hd,rfl⟩;rw[Ĳ,ho];have k2:AF {l with w:=w₁} l2:=λb q=>⟨ha.O b q,ha.r.I b<|Ø q⟩;exact hn l2 (iV.xS (hb.C kL) ha hd) ((h.r kL).I k2 ha.r.r)<|(Vf kL).r k2
def auD(h:jU R W l x nx s)(hb:iu l)(hf:Tryz.prog.funcs[f]?=some fn) (hn:∀l',iu l'->jU R W l' x nx s->AF l l'->l.w.heap.size<=l'.w.heap.size->iM kF l' (G (Frame.enter Tryz.prog f args .normal)<|b.at a (.inRegion ops (i::rest)::k)::cs)) (ho:ops[i]?=some o:=by rfl) (py:o.op=.call {callee:=.value<|.func f,args:=ags,argTypes:=ats}:=by rfl) (hw:Region.wanted o (yielded ops a.tmps)=true:=by rfl) (hk:b.kind≠.early:=by k_ne) (hr:∀w,(execOp a.eval o).run Tryz.prog w=.ok (.enter f args) w:=by intro w;go_simp) (hm:(fn.name== "runtime.NumGoroutine")=false:=by rfl) (hd:fn.body.isNone=false:=by rfl): fB.fq Tryz.prog true (IY kF) l (G (b.at a<|.inRegion ops (i::rest)::k) cs):= .fE λw₁ kL=>⟨hb.C kL,U,CW (hb.C kL) ho hw hk hr (λw=>Î py hf hm hd #[]) λAY oz=>hn _ ((hb.C kL).C oz) ((h.r kL).r oz) ((Vf kL).r<|Vf oz)<|Ý kL.r oz.r⟩
end
noncomputable def FI:Ŕ:=lj ġ [1,1,1,1,1,1,0,1,0,0]
noncomputable def Nt:Ŕ:=lj ġ [1,1,1,1,1,1,1]
noncomputable def ac7:Ŕ:=lj ġ [1,1,1,1,1,1,0,1,0,0,1,0,0,1,1,1,0]
noncomputable def ac8:Ŕ:=lj ġ [1,1,1,1,1,1,0,1,0,0,1,0,0,1,1,1,1]
noncomputable def ac9:Ŕ:=lj ġ [1,1,1,1,1,1,0,1,0,0,1,1]
noncomputable def AG (a:Array Ë):ħ:=G ((base 4).at ⟨a,[]⟩<|Ġ FI::.inLoop FI::[Ō 0,Ġ Nt]) []
noncomputable def Vg (a:Array Ë):ħ:=G ((base 4).at ⟨a,[]⟩<|Ġ ac7::Ġ ac8::Ō 1::Ġ ac9::.inLoop FI::[Ō 0,Ġ Nt]) []
structure vn(bv:Ë)(x S i:Nat)(B U:ByteArray)(tt:Array Ë):Prop where
 r:tt.size=80
 C:tt[0]?=Ã bv
 I:tt[5]?=Ã (å<|Ã ⟨x,0,ý⟩)
 M:tt[6]?=Ã (Â B)
 N:tt[7]?=Ã (Â U)
 Y:tt[8]?=Ã (É Å S)
 a:tt[9]?=Ã (É Å i)
def tM(S T:ByteArray):∃a,S++T=a/\a.size=S.size+T.size:=⟨_,U,Á⟩
def auE(a:i<6):Ğ ⟨#[99,100,101,102,103,104]⟩ i (i+1)=⟨#[yC i]⟩:=by
 obtain rfl|rfl|rfl|rfl|rfl|rfl:i=0\/i=1\/i=2\/i=3\/i=4\/i=5:=Z
 all_goals rfl
section
variable{l:fh}{x S:Nat}{s:List fO}{bv:Ë}{a:ByteArray}{tt:Array Ë}{c:Array Ë}{q:ĸ}
def Nu(S T V:ByteArray)(m:S++T=V)(h:S.size+T.size<=10^15)(b:o.op=.binOp .add 9 qQ q 9)(f:(ă ⟨c,[]⟩) qQ=Â S)(i:(ă ⟨c,[]⟩) q=Â T)(n:wM Q d j=Â V):Vd À Ä l qX Q c d j o:=by
 subst m;have u:¬9223372036854775807<S.size+T.size:=Z
 refine Ø λ_ _ w _=>⟨?_,λe k=> ?_⟩
 .rw[n];let⟨a,p,t,r,s,g⟩:=o;simp only at b;subst b;simp only[ĉ,f,i];go_simp
 .let⟨a,p,t,r,s,g⟩:=o;simp only at b;subst b;simp only[ĉ,f,i]at k;simp[go_sem,ac4 w h]at k
def auF(h:jU X W l x m s)(E:iu l)(k:vn bv x S i B a tt)(P:tt[10]?=Ã (É Å n))(hi:i<6)(hK:n<=20)(hB:B.size<=1000)(hU:a.size<=1000) (H:∀y Q,iu y->jU X W y x m s->vn bv x S (i+1) ((((B++⟨#[yC i]⟩)++⟨#[58,98,40,52,48,48,44]⟩)++fG n)++⟨#[41]⟩) ((a++⟨#[49,58]⟩)++fG (16+19*n)) Q->iM vQ y (AG Q)):iM vQ l (Vg tt):=by
 have hF:True:=trivial;obtain⟨u,rfl⟩:=uI tt k.r;have e0:u 0=bv:=by simpa using k.C
 have e5:u 5=å (Ã ⟨x,0,ý⟩):=by simpa using k.I
 have e6:u 6=Â B:=by simpa using k.M
 have e7:u 7=Â a:=by simpa using k.N
 have e8:u 8=É Å S:=by simpa using k.Y
 have e9:u 9=É Å i:=by simpa using k.a
 have PF:u 10=É Å n:=by simpa using P
 clear k P;have q1:Å.wrap ((i:Int)+1)=((i+1:Nat):Int):=Ì _ ⟨Z,Z⟩;have q2:þ.wrap (n:Int)=n:=by rw[ą];omega
 obtain⟨b,hm⟩:∃b,19*n=b:=⟨_,U⟩;obtain⟨g,hm2⟩:∃g,16+b=g:=⟨_,U⟩;have q3:Å.wrap (19*(n:Int))=(b:Int):=by rw[Ì _ ⟨Z,Z⟩];omega
 have q4:Å.wrap (16+(b:Int))=(g:Int):=by rw[Ì _ ⟨Z,Z⟩];omega
 have q5:þ.wrap (g:Int)=g:=by rw[ą];omega
 rw[hm,hm2]at H;have dK:=Jb (n:=n) Z;have dm:=Jb (n:=g) Z;have auG:n<18446744073709551616:=Z
 have auH:g<18446744073709551616:=Z
 have gP:=auE hi;have c0:(0:Int)<=i:=Z
 have c1:(i:Int)<=((i+1:Nat):Int):=Z
 have c2:((i+1:Nat):Int)<=6:=Z
 let⟨o,I,z1⟩:=tM B ⟨#[yC i]⟩;let⟨z,J,z2⟩:=tM o ⟨#[58,98,40,52,48,48,44]⟩;let⟨v,K,z3⟩:=tM z<|fG n;let⟨F,L,z4⟩:=tM v ⟨#[41]⟩;let⟨G,T,y1⟩:=tM a ⟨#[49,58]⟩;let⟨U2,V,y2⟩:=tM G<|fG g;rw[I,J,K,L,T,V]at H;change o.size=B.size+1 at z1;change z.size=o.size+7 at z2;change F.size=v.size+1 at z4;change G.size=a.size+2 at y1;apply nP;simp only[Vg,Í,à,Ė,e0,e5,e6,e7,e8,e9,PF];conv in ac7=>whnf
 refine auw [Â B,É Å i,É Å i,É Å ((i+1:Nat):Int),Â ⟨#[yC i]⟩,Â o,Â z,É Å n,É þ n,Â<|fG n,Â v,Â F,Â F] 12 6 E.r.r E.q (by k_ne) fv fv (λe=>by cases e<;>kernel_rfl) U λd M c Y=> ?_;simp only[C6]at M;simp at M;subst M;simp at Y;subst Y;refine⟨?_,λl2 p N=> ?_⟩
 .iterate 4 refine⟨Ø λ_ _ C r=>⟨by simp only[wM];go_simp,λe t=>by simp[go_sem]at t⟩,?_⟩
  refine⟨Ø λ_ _ C r=>⟨by simp only[wM];go_simp;rw[if_pos ⟨Z,Z⟩,if_pos Z],λe t=>by have w:Sem.events À (Instr.sliceAt 9 (Â ⟨#[99,100,101,102,103,104]⟩) (Ã<|É Å i) (Ã<|É Å<|(i:Int)+1) ý) C #[]=#[]:=auy (j:=i+1) ⟨#[99,100,101,102,103,104]⟩ C Z (by show i+1<=6;omega);simp[go_sem,w]at t⟩,?_⟩;refine⟨Nu B ⟨#[yC i]⟩ o I (by show B.size+1<=_;omega) U U U U,?_⟩;refine⟨Nu o ⟨#[58,98,40,52,48,48,44]⟩ z J (by show o.size+7<=_;omega) U U U U,?_⟩;iterate 2 refine⟨Ø λ_ _ C r=>⟨by simp only[wM];go_simp,λe t=>by simp[go_sem]at t⟩,?_⟩
  refine⟨ć ⟨9,#[É þ n],λw=>by go_simp,λw=>Î U Ě U U #[],λy p N fr=>Ve (iV.xS E p N) (Ý h.M p.r.r) auG⟩,?_⟩;refine⟨Nu z (fG n) v K Z U U U U,?_⟩;refine⟨Nu v ⟨#[41]⟩ F L (by show v.size+1<=_;omega) U U U U,?_⟩;refine⟨Ø λ_ _ C r=>⟨by simp only[wM];go_simp,λe t=>by simp[go_sem]at t⟩,?_⟩;trivial
 .have e:=iV.xS E p N;have w:=h.I (λf q=>⟨p.O f q,p.r.I f<|Ø q⟩) p.r.r;clear h I J K L gP;apply gl (n:=60) e.r.r;conv in ac8=>whnf
  repeat w_nl fF
  refine Æ λ_ _=> ?_;refine tL a ⟨#[49,58]⟩ G e T (by show a.size+2<=_;omega) ?_;walk_nrm;apply gl (n:=60) e.r.r;repeat w_nl fF
  refine Æ λ_ _=> ?_;refine Hf w e Ě (λy r t C qX=>Ve (n:=g) r t auH) λl4 r C _=> ?_;clear w;generalize fG g=D at*;walk_nrm;apply tL G D U2 r V Z;walk_nrm;apply gl (n:=60) r.r.r;repeat w_nl fF
  conv in ac9=>whnf
  repeat w_nl fF
  w_go fF
  refine Æ λ_ _=> ?_;exact .fE λada t=>⟨r.C t,U,H _ _ (r.C t) (C.r t) ⟨U,U,U,U,U,U,U⟩⟩
end
def AH(l:fh)(c:Option Addr)(N:Nat)(g:Nat->Int):Prop:=∀j,j<N->(-9223372036854775808<=g j/\g j<=9223372036854775807)/\∃a b,c=Ã ⟨a,b,ý⟩/\l.O a/\l.w.cell? ⟨a,b+j,ý⟩=Ã (É Å<|g j)
def AH.GX{l a:fh}{d:Option Addr}{N:Nat}{g:Nat->Int}(h:AH l d N g)(k:∀b,l.O b->a.O b/\a.w.heap[b]?=l.w.heap[b]?):AH a d N g:=λj f=>by let⟨i,c,m,n,e,o⟩:=h j f;exact⟨i,c,m,n,(k c e).1,Au (k c e).2 o⟩
section
variable{l f:fh}{x:Nat}{s:List fO}{g:Nat->Int}{a:ByteArray}
def auI(h:jU f.O f.w l x k s)(y:iu l)(E:AH f O n g)(c:vn (í O n b) x j i B a d)(hi:i<6)(I:i<n)(hN:n<=9223372036854775807)(hS:j<=100000)(hB:B.size<=900)(hU:a.size<=900) (m:∀z F,iu z->jU f.O f.w z x k s->vn (í O n b) x (j+ml (1+pZ (g i) 20)) i (if i=0 then B else B++⟨#[44]⟩) (if i=0 then a else a++⟨#[44]⟩) F->F[10]?=Ã (É Å ((1+pZ (g i) 20:Nat):Int))->iM vQ z (Vg F)):iM vQ l (AG d):=by
 have hF:True:=trivial;obtain⟨u,rfl⟩:=uI d c.r;have W:u 0=í O n b:=by simpa using c.C
 have X:u 5=å (Ã ⟨x,0,ý⟩):=by simpa using c.I
 have Y:u 6=Â B:=by simpa using c.M
 have e7:u 7=Â a:=by simpa using c.N
 have e8:u 8=É Å j:=by simpa using c.Y
 have e9:u 9=É Å i:=by simpa using c.a
 clear c;have c1:(i:Int)<n:=Z
 have c2:(i:Int)<6:=Z
 obtain⟨⟨g0,g1⟩,G,J,rfl,_,_⟩:=E i I;have C:l.O G/\l.w.cell? ⟨G,J+i,ý⟩=Ã (É Å<|g i):=by let⟨_,t,D,e,o,r⟩:=(E.GX λp q=>(h.C p q).1) i I;cases e;exact⟨o,r⟩
 let⟨C,L⟩:=C;have hp:=ac6 (g i) (n:=20) A;apply nP;apply gl (n:=60) y.r.r;simp only[AG,Í,à,Ė,W,X,Y,e7,e8,e9];conv in(occs:=1) FI=>whnf
 repeat w_go fF
 refine Æ λ_ _=> ?_;apply oW (x:=⟨G,J+i,ý⟩) (v:=É Å<|g i) U gh (by k_ne) y.r.r y.q (Ø<|Ø C) L (λw h=>by go_simp) (λw h=>by simp[go_sem,h]);walk_nrm;refine Hf h y ķ (λz e o p r=>auC (n:=20) e o (g i) g0 g1 A A) λl2 e M _=> ?_;clear h;generalize pZ (g i) 20=p at*;obtain⟨K,N⟩:∃K,1+p=K:=⟨_,U⟩;obtain⟨r,P⟩:∃r,K+1=r:=⟨_,U⟩;obtain⟨Q,D⟩:∃Q,K*r=Q:=⟨_,U⟩;have H:=Np K;have hQ2:Q<=20*21:=by rw[<-D];exact ē Z Z
 rw[P,D]at H;rw[N]at m;obtain⟨T,c⟩:∃T,ml K=T:=⟨_,U⟩;rw[c]at H m;have r1:Å.wrap (1+(p:Int))=(K:Int):=by rw[Ì _ ⟨Z,Z⟩];omega
 have r2:Å.wrap ((K:Int)+1)=(r:Int):=by rw[Ì _ ⟨Z,Z⟩];omega
 have hQi:(K:Int)*(r:Int)=(Q:Int):=by rw[<-D];exact(Int.natCast_mul K r).symm
 have r3:Å.wrap (Q:Int)=(Q:Int):=by rw[Ì _ ⟨Z,Z⟩]
 have r4:Int.tdiv (Q:Int) 2=(T:Int):=by rw[ô Z];omega
 have r6:Å.wrap (T:Int)=(T:Int):=by rw[Ì _ ⟨Z,Z⟩]
 have r5:Å.wrap ((j:Int)+(T:Int))=((j+T:Nat):Int):=by rw[Ì _ ⟨Z,Z⟩];omega
 clear c H D hQ2 N P E C L;by_cases t:i=0
 .rw[if_pos t,if_pos t]at m;have c3:¬(0:Int)<i:=Z
  have c4:¬0<i:=Z
  clear t;walk_nrm;apply gl (n:=60) e.r.r;repeat w_nl fF
  refine Æ λ_ _=> ?_;exact .fE λada o=>⟨e.C o,U,m _ _ (e.C o) (M.r o) ⟨U,U,U,U,U,U,U⟩ U⟩
 .rw[if_neg t,if_neg t]at m;have c3:(0:Int)<i:=Z
  have c4:0<i:=Z
  clear t;let⟨B1,S,z1⟩:=tM B ⟨#[44]⟩;let⟨U1,V,y1⟩:=tM a ⟨#[44]⟩;rw[S,V]at m;walk_nrm;apply gl (n:=60) e.r.r;repeat w_nl fF
  refine Æ λ_ _=> ?_;refine tL B ⟨#[44]⟩ B1 e S (by show B.size+1<=_;omega) ?_;walk_nrm;apply gl (n:=60) e.r.r;repeat w_nl fF
  refine Æ λ_ _=> ?_;refine tL a ⟨#[44]⟩ U1 e V (by show a.size+1<=_;omega) ?_;walk_nrm;apply gl (n:=60) e.r.r;repeat w_nl fF
  refine Æ λ_ _=> ?_;exact .fE λada o=>⟨e.C o,U,m _ _ (e.C o) (M.r o) ⟨U,U,U,U,U,U,U⟩ U⟩
end
noncomputable def Vh (a:Array Ë):ħ:=G ((base 4).at ⟨a,[]⟩ [Ġ Nt]) []
noncomputable def adb:Ŕ:=lj ġ [1,1,1,1,1,1,1,1]
noncomputable def Vi (a:Array Ë):ħ:=G ((base 4).at ⟨a,[]⟩ [Ġ adb]) []
section
variable{l:fh}{s z:List fO}{a J e:ByteArray}
def auJ(h:jU X W l k m s)(f:iu l)(c:vn (í O n b) k j i B a d)(C:¬(i<n/\i<6))(D:i<=6)(E:n<=9223372036854775807) (o:∀g p,iu g->jU X W g k m s->vn (í O n b) k j i B a p->iM vQ g (Vh p)):iM vQ l (AG d):=by
 have hF:True:=trivial;obtain⟨u,rfl⟩:=uI d c.r;have q:u 0=í O n b:=by simpa using c.C
 have r:u 5=å (Ã ⟨k,0,ý⟩):=by simpa using c.I
 have t:u 6=Â B:=by simpa using c.M
 have v:u 7=Â a:=by simpa using c.N
 have w:u 8=É Å j:=by simpa using c.Y
 have x:u 9=É Å i:=by simpa using c.a
 clear c;by_cases F:i<n
 .have y:(i:Int)<n:=Z
  have G:¬(i:Int)<6:=Z
  apply nP;apply gl (n:=60) f.r.r;simp only[AG,Í,à,Ė,q,r,t,v,w,x];conv in FI=>whnf
  repeat w_nl fF
  refine Æ λ_ _=> ?_;exact .fE λz e=>⟨f.C e,U,o _ _ (f.C e) (h.r e) ⟨U,U,U,U,U,U,U⟩⟩
 .have y:¬(i:Int)<n:=Z
  apply nP;apply gl (n:=60) f.r.r;simp only[AG,Í,à,Ė,q,r,t,v,w,x];conv in FI=>whnf
  repeat w_nl fF
  refine Æ λ_ _=> ?_;exact .fE λz e=>⟨f.C e,U,o _ _ (f.C e) (h.r e) ⟨U,U,U,U,U,U,U⟩⟩
def auK(h:jU X W l k m s)(f:iu l)(c:vn (í O n b) k j i B a d) (g:∀o q,iu o->jU X W o k m s->vn (í O n b) k j i B (if n=0 then⟨#[45]⟩else a) q->iM vQ o (Vi q)):iM vQ l (Vh d):=by
 have hF:True:=trivial;obtain⟨u,rfl⟩:=uI d c.r;have r:u 0=í O n b:=by simpa using c.C
 have t:u 5=å (Ã ⟨k,0,ý⟩):=by simpa using c.I
 have v:u 6=Â B:=by simpa using c.M
 have w:u 7=Â a:=by simpa using c.N
 have x:u 8=É Å j:=by simpa using c.Y
 have y:u 9=É Å i:=by simpa using c.a
 clear c;apply nP;apply gl (n:=60) f.r.r;simp only[Vh,Í,à,Ė,r,t,v,w,x,y];conv in Nt=>whnf
 by_cases p:n=0
 .rw[if_pos p]at g;subst p;iterate 11 w_nl fF
  refine Æ λ_ _=> ?_;exact .fE λz e=>⟨f.C e,U,g _ _ (f.C e) (h.r e) ⟨U,U,U,U,U,U,U⟩⟩
 .rw[if_neg p]at g;have C:¬(n:Int)=0:=Z
  have D:((n:Int)==0)=ï:=by simp;omega
  iterate 9 w_nl fF
  refine Æ λ_ _=> ?_;exact .fE λz e=>⟨f.C e,U,g _ _ (f.C e) (h.r e) ⟨U,U,U,U,U,U,U⟩⟩
def auL(h:jU X W l k m s)(o:iu l)(c:vn (í O n b) k j i B a d)(hS:j<=100000)(hB:B.size<=900)(hU:a.size<=900) (v:(⟨#[105,49,58,97,47]⟩++B)++⟨#[59,103,50,58,98,48,59,117,50,59,108,50,59,103,49,58,98,48]⟩=J) (y:(((⟨#[50,59]⟩++fG j)++⟨#[59]⟩)++a)++⟨#[59,45,59,48]⟩=e) (ask:nQ s J=(e,0,z)) (M:∀q,iu q->jU X W q k m z->vQ (Ī Ä) q.w):iM vQ l (Vi d):=by
 have hF:True:=trivial;obtain⟨u,rfl⟩:=uI d c.r;have N:u 0=í O n b:=by simpa using c.C
 have P:u 5=å (Ã ⟨k,0,ý⟩):=by simpa using c.I
 have Q:u 6=Â B:=by simpa using c.M
 have S:u 7=Â a:=by simpa using c.N
 have T:u 8=É Å j:=by simpa using c.Y
 have V:u 9=É Å i:=by simpa using c.a
 clear c;have q1:þ.wrap (j:Int)=j:=by rw[ą];omega
 have dS:=Jb (n:=j) Z;have Y:j<18446744073709551616:=Z
 let⟨p,C,z1⟩:=tM ⟨#[105,49,58,97,47]⟩ B;let⟨f,E,y1⟩:=tM ⟨#[50,59]⟩<|fG j;let⟨r,F,y2⟩:=tM f ⟨#[59]⟩;let⟨x,G,y3⟩:=tM r a;rw[C]at v;rw[E,F,G]at y;change p.size=5+B.size at z1;change f.size=2+(fG j).size at y1;change r.size=f.size+1 at y2;have hJs:J.size=p.size+18:=by rw[<-v,Á];rfl
 have HA:=fi ask;clear ask;apply nP;apply gl (n:=60) o.r.r;simp only[Vi,Í,à,Ė,N,P,Q,S,T,V];conv in adb=>whnf
 repeat w_nl fF
 refine Æ λ_ _=> ?_;refine tL ⟨#[105,49,58,97,47]⟩ B p o C (by show 5+B.size<=_;omega) ?_;walk_nrm;refine tL p ⟨#[59,103,50,58,98,48,59,117,50,59,108,50,59,103,49,58,98,48]⟩ J o v (by show p.size+18<=_;omega) ?_;walk_nrm;apply gl (n:=60) o.r.r;repeat w_nl fF
 refine Æ λ_ _=> ?_;refine Hf h o Ě (λq g H I K=>Ve (n:=j) g H Y) λl5 g H _=> ?_;clear h;generalize fG j=D at*;walk_nrm;refine tL ⟨#[50,59]⟩ D f g E (by show 2+D.size<=_;omega) ?_;walk_nrm;refine tL f ⟨#[59]⟩ r g F (by show f.size+1<=_;omega) ?_;walk_nrm;apply gl (n:=60) g.r.r;repeat w_nl fF
 refine Æ λ_ _=> ?_;apply tL r a x g G Z;walk_nrm;refine tL x ⟨#[59,45,59,48]⟩ e g y (by show x.size+4<=_;omega) ?_;walk_nrm;refine auD H g Ĕ (args:=#[å<|Ã ⟨k,0,ý⟩,Â J,Â e]) λl6 FB I _ _=> ?_;refine ac5 I FB (by unfold ĵ;omega) HA.out λl7 K u7=> ?_;clear H I;walk_nrm;apply asi;apply gl (n:=60) K.r.r;repeat w_nl fF
 refine Æ λ_ _=>(.fE λD4 L=>⟨U,Ī Ä,λw=>as4 (t:=4) U U ŏ U fv,M _ (K.C L)<|u7.r L⟩)
end
def auM:ig (iL ni)=(0,0,[rP ni]):=fv
def auN(D:Nat->Nat)(i:Nat):((((if i=0 then(⟨(ln D i).toArray⟩:ByteArray)else⟨(ln D i).toArray⟩++⟨#[44]⟩)++⟨#[yC i]⟩)++⟨#[58,98,40,52,48,48,44]⟩)++fG (D i))++⟨#[41]⟩=⟨(ln D<|i+1).toArray⟩:=by
 by_cases h:i=0
 .rw[if_pos h];exact Ö<|Û.1<|by simp[ln,pe,acZ,h,Ê]
 .rw[if_neg h];exact Ö<|Û.1<|by simp[ln,pe,acZ,h,Ê]
def ade(hF:∀i,0<D i/\D i<=20)(n:Nat):(⟨(ln D n).toArray⟩:ByteArray).size<=16*n:=by rw[Ē,û];exact Nq (λi=>by have:=hF i;omega) n
def Vj(hF:∀i,0<D i/\D i<=20):∀n,(pY D n).size<=9*n
 |0=>Ç _
 |n+1=>by
  have a:=Vj hF n;have b:=Jb (n:=16+19*D n) (by have:=hF n;omega);have c:(if n=0 then pY D n else pY D n++⟨#[44]⟩).size<=(pY D n).size+1:=by
   split
   .omega
   .rw[Á];exact Ç _
  rw[pY,Á,Á];show _+2+_<=_;omega
def auO(D:Nat->Nat)(n:Nat):(⟨#[105,49,58,97,47]⟩++⟨(ln D n).toArray⟩)++⟨#[59,103,50,58,98,48,59,117,50,59,108,50,59,103,49,58,98,48]⟩=jl ⟨#[59]⟩ (tK D n):=Ö<|Û.1<|by simp[tK,sH,jl,Fa,mR,Ê]
def auP(a b:ByteArray):(((⟨#[50,59]⟩++a)++⟨#[59]⟩)++b)++⟨#[59,45,59,48]⟩=jl ⟨#[59]⟩ [⟨#[50]⟩,a,b,⟨#[45]⟩,⟨#[48]⟩]:=Ö<|Û.1<|by simp[jl,Fa,mR,Ê]
section
variable{l d:fh}{g:Nat->Int}
def adf(n:j<=9223372036854775807)(o:∀a z,iu a->jU d.O d.w a k m z->vQ (Ī Ä) a.w)(hF:∀i,0<D i/\D i<=20)(i:Nat)(l:fh)(c:Array Ë)(p:¬(i<j/\i<6))(e:i<=6)(C:i<=j)(h:jU d.O d.w l k m [fV.ku,C5 ni])(q:iu l) (r:vn (í O j b) k (wL D i) i ⟨(ln D i).toArray⟩ (pY D i) c):iM vQ l (AG c):=by
 have E:=Nr hF i;have G:=ade hF i;have H:=Vj hF i;let⟨z,ask⟩:=aur (v0:=fV.ku) hF e aus;refine auJ h q r p e n λI J s t u=> ?_;refine auK t s u λK L v x f=> ?_;have y:(if j=0 then⟨#[45]⟩else pY D i)=if i=0 then⟨#[45]⟩else pY D i:=by
  by_cases g:j=0
  .rw[if_pos g,if_pos Z]
  .rw[if_neg g,if_neg Z]
 rw[y]at f;refine auL x v f Z Z ?_ (auO D i) (auP _ _) ask λa g B=>o a _ g B;split
 .decide
 .omega
def auQ(v:AH d O j g)(q:j<=9223372036854775807)(u:∀r z,iu r->jU d.O d.w r k m z->vQ (Ī Ä) r.w):∀(a i:Nat) (l:fh) (c:Array Ë),6-i=a->i<=6->i<=j->jU d.O d.w l k m [fV.ku,C5 ni]->iu l-> vn (í O j b) k (wL (λi=>1+pZ (g i) 20) i) i ⟨(ln (λi=>1+pZ (g i) 20) i).toArray⟩ (pY (λi=>1+pZ (g i) 20) i) c->iM vQ l (AG c):=by
 have hF:∀i,0<(λi=>1+pZ (g i) 20) i/\(λi=>1+pZ (g i) 20) i<=20:=λi=>by have:=ac6 (g i) (n:=20) A;show 0<1+pZ (g i) 20/\1+pZ (g i) 20<=20;omega
 intro a
 induction a with
 |zero=>
  intro i l c x s t h f o;exact adf q u hF i l c Z s t h f o
 |succ a y=>
  intro i l c x s t h f o;by_cases p:i<j/\i<6
  .have K:=Nr hF i;have L:=ade hF i;have M:=Vj hF i;refine auI h f v o p.2 p.1 q Z Z Z λN P B C D E=> ?_;refine auF C B D E p.2 (hF i).2 ?_ ?_ λF G H I J=> ?_
   .split
    .omega
    .rw[Á];show _+1<=_;omega
   .split
    .omega
    .rw[Á];show _+1<=_;omega
   .apply y (i+1) F G Z Z Z I H;have e:=auN (λi=>1+pZ (g i) 20) i;rwa[<-e]
  .exact adf q u hF i l c p s t h f o
end
section
variable{l:fh}{c:Nat}{g:Nat->Int}
def auR(r:iu l)(t:na l.w)(u:∀b,b=1\/b=2\/b=3\/b=4->l.O b)(E:AH l O i g)(F:i<=9223372036854775807)(k:Int)(H:-9223372036854775808<=k)(I:k<=9223372036854775807) (J:∀d,iu d->(∀b,l.O b->d.O b/\d.w.heap[b]?=l.w.heap[b]?)->l.w.heap.size<=d.w.heap.size->vQ (Ī Ä) d.w): iM vQ l (G (Ü À 4 #[í O i c,É Å k] ü) []):=by
 have hF:True:=trivial;rw[CU [_,_] 78 ŏ];simp only[ĕ,ñ,Ċ];conv in lj _ _=>whnf
 apply nP;apply gl (n:=40) r.r.r;repeat w_go fF
 refine Æ λ_ _=> ?_;refine .fE λQ s=>⟨r.C s,U,?_⟩;have y:=r.C s;refine CW (f:=8) (args:=#[Â ⟨#[107,100,48,108,43,48,116,49,45,100,49,106,48,108,114]⟩,É Å k]) y U gh (by k_ne) (λw=>by go_simp) (λw=>Î U Ķ U U #[]) λK h=> ?_;have m:fL l l.w K:=s.fj ⟨h.r,h.I,h.N,h.Y,h.S⟩;refine auA (p:=ni) (y.C h) (t.r (Ý t.fA m.r) λb q=>m.I b<|Ø<|u b q) u A k H I (atV auM) λL x M j o B=> ?_;have N:l.w.heap.size<=x:=Ý m.r B;have P:jU l.O l.w L x M [fV.ku,C5 ni]:=⟨o.a,λb q=>⟨⟨(o.C b q).1.1,(o.C b q).1.2.trans<|m.I b<|Ø q⟩,(o.C b q).2⟩⟩;clear o B m;walk_nrm;apply nP;apply gl (n:=40) j.r.r;repeat w_go fF
 refine Æ λ_ _=> ?_;apply rS (v:=Ī ï) U gh (by k_ne) j.r.r j.q (λw _=>by go_simp) (λw _ e z=>by simp[go_sem,US]at z);walk_nrm;apply gl (n:=60) j.r.r;repeat w_bar fF
 w_go fF
 refine Æ λ_ _=> ?_;exact .fE λS e=>⟨j.C e,U,auQ E F (λd z C D=>J d C (λb q=>(D.C b q).1) (by let⟨_,_,q⟩:=D.a;exact Ý N<|Nat.le_of_lt<|C.r.fA x<|Ø q.fx)) 6 0 _ _ U A (Ô _) (P.r e) (j.C e) ⟨U,U,U,U,U,U,U⟩⟩
end
def auS(d:na W){N c:Nat}{g:Nat->Int}(e:AH (Nh W) O N g)(f:N<=9223372036854775807)(a:Int)(h:-9223372036854775808<=a)(i:a<=9223372036854775807): sF (λv w'=>v=Ī Ä/\nS W w') #[G (Ü À 4 #[í O N c,É Å a] ü) []] W ý #[]:= as5 (l:=Nh W) (auR (acp W) d (as6 d) e f a h i λk _ v j=>⟨U,λb q=>(v b q).2,j⟩) (acp W) U
end Go.Proofs.Y.jF
