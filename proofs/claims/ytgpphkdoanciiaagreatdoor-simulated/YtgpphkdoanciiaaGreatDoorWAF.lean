import Derived.Test.YtgpphkdoanciiaaGreatDoorWAE
import Derived.Lib.LaidTab
import Derived.OpenShut
import Derived.Test.YtgpphkdoanciiaaGreatDoorRows
import Derived.Conc.LeavingOf
import Derived.LaidMore
import Derived.Stop.Joined
import Derived.Carry
import Derived.Orders
set_option linter.all false
set_option maxRecDepth 1000000
set_option maxHeartbeats 8000000
open Go.Proofs.Tryz renaming prog->À,func20->ģ,func27->Ĥ,func28->ĥ,underlying36->ī,t9->ĭ,underlying25->Į,underlying3->ı,underlying5->Ĳ,func24->ķ,func26->ĸ,func25->Ĺ,func30->ĺ,func12->Ļ,ntmps30->ō,func21->Œ,func17->ŕ,func16->ř,func29->Ś,type9->Ŝ,f24->Ŭ
open Go.Value renaming string->Á,int->Ë,pointer->Ï,bool->Ó,slice->ð,tuple->ŝ
open Array renaming length_toList->Â,toList_extract->Ý,getElem?_eq_some_iff->ç,getElem_toList->é,getElem?_eq_getElem->í,toList_inj->ü
open Go.Conc.Goes renaming stop->Ã
open Option renaming some->Ä,none->Ü,map_eq_some_iff->ē,map_some->ė,bind_some->ĵ
open Nat renaming le_trans->Å,le_refl->Ì,zero_le->Ò,sub_self->Ā,one_pos->Ķ,strongRecOn->Ľ,zero_add->Ō,le_of_lt->Ŏ
open ByteArray renaming size_append->Æ,data_extract->Ø,ext->î,size_extract->ø,size->ù,data_append->ú,getElem_extract->ń,extract_extract->Ņ,append_assoc->ŉ,append_empty->Ŋ,extract->Š
open Go.Item renaming inRegion->Ç,code->Ţ
open Bool renaming true->È,and_eq_true->à,false->á
open Go.Conc renaming events_call_body->É,goes_leave1->Ć,goes_leave2->Ŗ,listed->ŭ
open Go.Frame renaming enter->Ê,finish_at->Ě
open List renaming getElem?_eq_getElem->Í,nil_append->Ö,cons_append->Ù,map_cons->Þ,range->â,length_append->ã,size_toArray->å,replicate->ë,extract_eq_take_drop->ì,getElem?_cons_succ->ò,getElem?_cons_zero->ó,getElem?_map->ô,mem_range->õ,mem_cons->ý,take->ā,getElem?_drop->Ă,getElem?_eq_some_iff->ă,drop_eq_getElem_cons->Ą,getElem?_append_left->ą,append_assoc->ć,drop->Č,not_mem_nil->č,getD->Ď,flatMap_eq_nil_iff->ď,length_cons->Đ,all_eq_true->đ,map_nil->Ĕ,drop_eq_nil_of_le->Ė,mem_append->Ę,length_singleton->Ĝ,mem_singleton->ĩ,take_add_one->Ĭ,append_nil->ľ,length_set->ŀ,length_nil->Ł,all_cons->ņ,mem_map->ň,map->Ŕ
open Or renaming inl->Î,inr->û
open Go.IntKind renaming i64->Ð,u64->ħ,wrap_u64->Ĵ,wrap_i64->ţ,u8->Ū
open Go renaming Value->Ñ,World->Ô,maxLen->ê,undef->ö,Frame->ĝ,Oper->Ħ,execOp->Ī,yielded->į,Act->ł,laidMetH->Ń,TypeId->ŏ,Operand->Ő,DataW->ő,IntKind->Ş,Program->ť,Calls->ū,Item->Ů,Code->ű
open Option.some renaming inj->Õ,injEq->ş
open Go.Proofs.YtgpphkdoanciiaaGreatDoor.Rows renaming laid_math_bits_deBruijn32tab->Ú,laid_math_bits_deBruijn64tab->Û,laid_attic_attic_stepRules->ß,laid_internal_strconv_uint64pow10->æ
open Go.CallKind renaming normal->ä
open Int renaming tmod_eq_emod_of_nonneg->è,emod_nonneg->ě
open Go.DataW renaming trod->ï,trod_int->ğ,agg->ų
open And renaming intro->ñ
open UInt8 renaming ofNat->þ,toNat_inj->ÿ
open Go.Lib renaming nDigits_small->Ĉ,tabData->Ğ,nDigits->Ģ,nDigits_big->Ŀ
open Go.Obj renaming cells->ĉ,row?->Ũ
open Go.Instr renaming sliceAt->Ċ,sliceBound->ĳ,slice->œ
open Go.Region renaming wanted->ċ
open Go.Ending renaming returned->Ē
open Go.Code renaming wp->ĕ,wp_mono->ŋ,loop->Ť
open List.range renaming loop->ę
open Go.World renaming cell?->Ġ,var?->ś
open Prod renaming ext->ŗ,snd->Ř,fst->ũ
variable{i n j b k m J j9 j7 j6:Nat}{w u W jX:Ô}{v x z jQ:Ñ}{h c:Int}{e t T:ŏ}{d q:Array Ñ}{P:ť}{y:ł}{B:ByteArray}{X:Nat->Prop}{l:List Ñ}{yQ:Bool}{K H:ł->Ô->Prop}{o:Ħ}{L:List Ů}{jJ:List Nat}{qX:List ĝ}{qQ:Ő}{zQ:List Int}{xJ:Nat×Nat}{wJ:Array Bool}{vX:List ByteArray}{vQ:Ñ->Ô->Prop}{Q:Array Ħ}{f:ĝ}
namespace Go.Proofs.Y.kI
open Go Go.Conc Go.Proofs Go.RowKit Go.Proofs.Y.Lift Go.Proofs.Y.gA Go.Proofs.Y.fq Go.Proofs.Y.ni
open Go.Proofs.YtgpphkdoanciiaaGreatDoor (Rows.laid_math_bits_deBruijn32tab Rows.laid_math_bits_deBruijn64tab Rows.laid_internal_strconv_uint64pow10 Rows.laid_attic_attic_stepRules)
def Oy:List (String×DataW Unit):=[("math/bits.deBruijn32tab",Ú),("math/bits.deBruijn64tab",Û),("internal/strconv.uint64pow10",æ),("attic/attic.stepRules",ß)]
theorem Oz(h:W.ShapedOpen À)(g:Nat)(t:ŏ)(b:g<À.globals.size)(e:(((begin À (λ_ _=>0) default).world.heap[g]?).bind Ũ).map (·.2)=Ä t): ∃a,W.heap[g]?=Ä (ĉ a t):=by let⟨⟨z,c⟩,d,f⟩:=ē.1 e;let⟨a,i,_⟩:=h.1 g z c b d;grind
theorem acs{n:String}(b:À.globalNamed n=Ä i)(h:W.heap[i]?=Ä (ĉ q t xJ))(a:W.var? À n=Ä d):q=d:=by unfold ś at a;grind
def UO{n:String}{N:Nat}{k:Ş}{p:List MemPlace} (a:À.globalNamed n=Ä i) (f:(À.globals[i]?).map (·.type)=Ä t) (h:À.underlying t=Ä (.array N e)) (l:À.underlying e=Ä (.int k)) (m:À.cellsOf e=1) (o:À.cellsOf t=N) (r:W.heap[i]?=Ä (ĉ d t xJ)) (s:À.globalNamed n=Ä b) (u:(À.globals[b]?).map (·.type)=Ä T) (v:W.var? À n=Ä q) (w:ï (λ_=>()) À W 0 (λ_=>È) á j T q.toList=Ä (Ğ k zQ,p)):d=(zQ.map λz=>Ë k z).toArray:=by obtain rfl:=Õ<|a.symm.trans s;obtain rfl:=Õ<|f.symm.trans u;rw[acs a r v,<-Lib.cells_of_tab h l m o w]
def as2:À.cellsOf 299=3:=fp
def acu:À.cellsOf 36=1:=fp
def as3:À.cellsOf 3=1:=fp
def as4:À.cellsOf 300=69:=fp
def as5{p:List MemPlace}(v:ï (λ_=>()) À W 0 (λ_=>È) á n 300 l=Ä (ß,p)): l.length=69/\∀(i:Nat) (r:Int×Int×Int),jb[i]?=Ä r->l[i*3]?=Ä (Ë ħ r.1)/\l[i*3+1]?=Ä (Ë Ð r.2.1)/\l[i*3+2]?=Ä (Ë Ð r.2.2):=by
 obtain⟨f,m,rfl,w,y,K,z⟩:=DataW.trod_array Tryz.underlying300 v;refine⟨y.trans as4,λi r o=> ?_⟩;have B:i<23:=by have:=(ă.1 o).1;exact this
 have g:=z i B;rw[as2]at g;have C:f.map (·.1)=jb.map λr=>(ų [.lit<|.int ħ r.1,.lit<|.int Ð r.2.1,.lit<|.int Ð r.2.2]:ő Unit):=by have:=congrArg ũ w;simp only[ß,DataW.agg.injEq]at this;exact this.symm
 obtain⟨x,q⟩:∃x,f[i]?=Ä x:=⟨_,Í Z⟩;rw[q]at g;have d:(f.map (·.1))[i]?=Ä x.1:=by simp[q]
 rw[C]at d;simp only[ô,o,ė,ş]at d;obtain⟨e,h,rfl,j,L,D,k⟩:=DataW.trod_struct Tryz.underlying299 g;have a:=k 0 _ U;have b:=k 1 _ U;have c:=k 2 _ U;have a:ï _ À W 0 _ á h 36 (ā (À.cellsOf 36)<|Č 0<|ā 3<|Č (i*3) l)=e[0]?:=a;have b:ï _ À W 0 _ á h 3 (ā (À.cellsOf 3)<|Č 1<|ā 3<|Č (i*3) l)=e[1]?:=b;have c:ï _ À W 0 _ á h 3 (ā (À.cellsOf 3)<|Č 2<|ā 3<|Č (i*3) l)=e[2]?:=c;rw[acu]at a;rw[as3]at b c;match e,D,j,a,b,c with
 |[y0,y1,y2],_,j,a,b,c=>
  let⟨M,E,F,_⟩:=ğ ī (show ï _ _ _ _ _ _ _ 36 _=Ä y0 from a);let⟨N,G,H,_⟩:=ğ ı (show ï _ _ _ _ _ _ _ 3 _=Ä y1 from b);let⟨O,I,J,_⟩:=ğ ı (show ï _ _ _ _ _ _ _ 3 _=Ä y2 from c);subst F;subst H;subst J;rw[j]at d;simp only[Þ,Ĕ,DataW.agg.injEq,List.cons.injEq,DataW.lit.injEq,Lit.int.injEq,true_and,and_true]at d;obtain⟨rfl,rfl,rfl⟩:=d;have s:=congrArg (·[0]?) E;have t:=congrArg (·[0]?) G;have u:=congrArg (·[0]?) I;simp[List.getElem?_take,Ă]at s t u;exact⟨s,t,u⟩
def acv(h:∀v∈d.toList,∃k n,v=Ë k n):fT (lq X i) d d:=pR λv a=>by obtain⟨k,n,rfl⟩:=h v a;exact .iE _ _
def as6{l:List (String×DataW Unit)}(h:Ń P l W)(a:(l.filter λx=>x.2.handleName?.isSome)=[]):∃b,DataW.LaidVars P W l b:=by unfold Ń at h;rw[a]at h;exact⟨h.choose,h.choose_spec.1⟩
def as7:À.cellsOf 304=32:=fp
def as8:À.cellsOf 305=64:=fp
def as9:À.cellsOf 291=20:=fp
def acw:À.cellsOf 5=1:=fp
def gn1:À.globalNamed "internal/strconv.uint64pow10"=Ä 1:=fp
def gn2:À.globalNamed "attic/attic.stepRules"=Ä 2:=fp
def gn3:À.globalNamed "math/bits.deBruijn32tab"=Ä 3:=fp
def gn4:À.globalNamed "math/bits.deBruijn64tab"=Ä 4:=fp
def OA(g:Nat)(t:ŏ)(h:(g,t)∈[(1,291),(2,300),(3,304),(4,305)]):(À.globals[g]?).map (·.type)=Ä t/\g<À.globals.size/\(((begin À (λ_ _=>0) default).world.heap[g]?).bind Ũ).map (·.2)=Ä t:=by
 simp only[ý,č,or_false,Prod.mk.injEq]at h;rcases h with⟨rfl,rfl⟩|⟨rfl,rfl⟩|⟨rfl,rfl⟩|⟨rfl,rfl⟩
 .exact⟨fp,of_decide_eq_true fp,fp⟩
 .exact⟨fp,of_decide_eq_true fp,fp⟩
 .exact⟨fp,of_decide_eq_true fp,fp⟩
 .exact⟨fp,of_decide_eq_true fp,fp⟩
def ata:ő Unit->Int
 |.lit (.int _ z)=>z
 |_=>0
def acy:ő Unit->List Int
 |ų l=>l.map ata
 |_=>[]
def atb:(Ú:ő Unit)=Ğ Ū (acy Ú):=rfl
def atc:(Û:ő Unit)=Ğ Ū (acy Û):=rfl
def atd:(æ:ő Unit)=Ğ ħ Lib.pow10Tab:=rfl
def ate{k:Ş}:∀v∈(zQ.map λz=>Ë k z).toArray.toList,∃k n,v=Ë k n:=λv a=>by simp only[ň]at a;obtain⟨z,_,rfl⟩:=a;exact⟨_,_,U⟩
def atf(k:Nat)(h:k<69):∃i j,i<23/\j<3/\k=i*3+j:=⟨k/3,k%3,Z,Z,Z⟩
theorem atg{W:Ô}(hs:W.ShapedOpen À)(hl:Ń À Oy W):mM W:=by
 obtain⟨ps,g3,t3,cs3,f3,p3,q3,UH,ht3,hv3,sd,⟨g4,t4,cs4,f4,p4,q4,hg4,Iq,hv4,S4,⟨g1,t1,cs1,f1,p1,q1,uN,uz,hv1,CY,⟨g2,t2,cs2,f2,p2,q2,MR,KO,NY,ng,_,_⟩,_⟩,_⟩,_⟩:=as6 hl (by kernel_rfl);obtain⟨y1,s1,z1⟩:=OA 1 291 (by simp);obtain⟨y2,s2,z2⟩:=OA 2 300 (by simp);obtain⟨y3,s3,z3⟩:=OA 3 304 (by simp);obtain⟨y4,s4,z4⟩:=OA 4 305 (by simp);obtain⟨c1,b1⟩:=Oz hs 1 291 s1 z1;obtain⟨c2,b2⟩:=Oz hs 2 300 s2 z2;obtain⟨c3,b3⟩:=Oz hs 3 304 s3 z3;obtain⟨c4,b4⟩:=Oz hs 4 305 s4 z4;rw[atb]at sd;rw[atc]at S4;rw[atd]at CY;have e3:=UO gn3 y3 Tryz.underlying304 Ĳ acw as7 b3 UH ht3 hv3 sd;have e4:=UO gn4 y4 Tryz.underlying305 Ĳ acw as8 b4 hg4 Iq hv4 S4;have e1:=UO gn1 y1 Tryz.underlying291 ī acu as9 b1 uN uz hv1 CY;obtain rfl:=Õ (gn2.symm.trans MR);obtain rfl:=Õ (y2.symm.trans KO);obtain⟨hlen,mH⟩:=as5 ng;have e2:=acs gn2 b2 NY;subst e2;have ath:=λi r hr=>by have:=mH i r hr;simpa using this
 have acz:∀(k:Nat) (v:Ñ),c2[k]?=Ä v->∃(kd:Ş) (n:Int),v=Ë kd n/\kd≠Ū:=λk v hv=>by
  have hk:k<69:=by grind
  obtain⟨i,j,hi,hj,rfl⟩:=atf k hk;obtain⟨r,hr⟩:∃r,jb[i]?=Ä r:=⟨_,Í (show i<jb.length from hi)⟩;grind
 have jk:=(ç.1 b4).1;refine⟨?_,?_,⟨c3,_,b3,Ò _,Ò _,?_,?_⟩,⟨c4,_,b4,Ò _,Ò _,?_,?_⟩,?_,⟨⟨c2,_,b2⟩,λi r hr=> ?_⟩,?_⟩
 .have h5:nB=5:=by kernel_rfl
  omega
 .rintro b (rfl|rfl)
  .refine⟨c1,291,_,b1,Ò _,acv (by rw[e1];exact ate),by rw[e1];exact of_decide_eq_true (by kernel_rfl),λk v hv=> ?_,by decide,by decide⟩;rw[e1]at hv;simp only[List.getElem?_toArray,ô,ē]at hv;obtain⟨z,_,rfl⟩:=hv;rfl
  .refine⟨c2,300,_,b2,Ò _,acv λv hv=> ?_,?_,λk v hv=> ?_,by decide,by decide⟩
   .obtain⟨k,hk,e⟩:=List.mem_iff_getElem.1 hv;obtain⟨kd,n,e',_⟩:=acz k v (by rw[<-e];simp);grind
   .grind
   .obtain⟨kd,n,rfl,hn⟩:=acz k v hv;cases kd<;>first|rfl|exact absurd rfl hn
 .rw[e3];exact of_decide_eq_true (by kernel_rfl)
 .grind
 .rw[e4];exact of_decide_eq_true (by kernel_rfl)
 .grind
 .unfold gA.lP Lib.TabIs ś;rw[gn1];grind
 .obtain⟨h0,h1,h2⟩:=ath i r hr;exact⟨by simp only[Ġ,b2];exact h0,by simp only[Ġ,b2];exact h1,by simp only[Ġ,b2];exact h2⟩
 .unfold qK;simp only[Ġ,b4,e4];rfl
end Go.Proofs.Y.kI
namespace Go.Proofs.Y.kI
open Go Go.Conc Go.Proofs Go.RowKit Go.Proofs.Y.Lift Go.Proofs.Y.gA Go.Proofs.Y.fq Go.Proofs.Y.ni
open Go.Proofs.YtgpphkdoanciiaaGreatDoor (Rows.workersSpec Rows.workersRow Rows.WorkersSaid Tryz.pinned)
open Go.ChangeShapes Go.WideShapes Go.ChangeAt
def fj:ownKnob À.godebug=Ü:=fp
def ati{w':Ô}(h:nU W w')(a:w'.os=W.os)(b:w'.output=W.output):Below W.heap.size W {w' with tape:=W.tape}:=⟨a,U,b,h.EG,h.rM⟩
def atj(os:Os)(a:Array Ñ):Ń À Oy ((World.doorLaid À 400 os).forCall (λ_ _=>0) ⟨#[],a,[]⟩).memory:= laidMetH_of_parts3 (fuel:=8) (laidMet_of_run' 8 fp fp) fp fp
end Go.Proofs.Y.kI
namespace Go.Proofs.Y.ni
open Go Go.Proofs Go.RowKit Go.Proofs.Y.Lift Go.Proofs.Y.gA
def oJ(B:ByteArray)(c:UInt8):Nat->Nat->Nat->List ByteArray
 |0,fr,_=>[B.extract fr B.size]
 |f+1,fr,i=>if h:i<B.size then if B[i]=c then B.extract fr i::oJ B c f (i+1) (i+1)else oJ B c f fr (i+1)else[B.extract fr B.size]
def acA:List Int->List (List Int)
 |[]=>[[]]
 |a::l=>(a::l)::acA l
def Am:List (List Int):=[[86,58,120,47,66],[86,58,120,115],[86,58,120],[86,58,120,62,121,40,110,44,107,41],[86,58,120,62,121,40,107,41],[86,58,87],[86],[121,61,110],[80],[120,84],[82]].flatMap acA
def atl:∀r∈Am,r.tail∈Am:=A
def acB:∀r∈Am,59∉r/\(r.headD 0=66->r=[66])/\(82∈r->r=[82])/\(80∈r->r=[80]):=A
def atm(k:Int):rF k∈Am/\rF k≠[82]/\80∉rF k:=by
 unfold rF;repeat' split
 all_goals decide
def acC(k:Int):sG k∈Am/\sG k≠[82]:=by
 unfold sG;repeat' split
 all_goals decide
structure lb(D:List PR)(a b:PD):Prop where
 M:a.r=È
 N:b.r=È
 C:a.S=D
 S:b.S=[]
 r:a.I=b.I
 I:a.M=b.M
 Y:b.M=È->a.N=b.N
structure Ea(D:List PR)(k:Nat)(a b:PS):Prop where
 r:a.C=b.C
 C:b.C∈Am
 I:a.r=b.r
 N:0<b.r->a.M=b.M
 M:80∈b.C->a.I=b.I/\b.I.toNat<=k
 d:(b.C=[82]/\b.r=0/\a.d.C=D/\b.d.C=[])\/(b.C≠[82]/\lb D a.d b.d)
section
variable{D:List PR}{a b:PD}
def lb.gL(h:lb D a b):a.Y=b.Y:=by
 unfold PD.Y;rw[h.I,h.r];split
 .rw[h.Y ‹_›]
 .rfl
theorem lb.G(h:lb D a b):∃r,a.C=D++[r]/\b.C=[r]:=by unfold PD.C;rw[h.M,h.N,h.C,h.S,h.r,h.gL];grind
def lb.ot(h:lb D a b)(i:Nat)(z:Int):lb D (a.ot i z) (b.ot i z):= ⟨h.M,h.N,h.C,h.S,by unfold PD.ot;rw[h.r],h.I,h.Y⟩
def lb.oF(h:lb D a b)(i:Nat)(z:Int):lb D (a.oF i z) (b.oF i z):= ⟨h.M,h.N,h.C,h.S,h.r,h.I,λq=>by unfold PD.oF;rw[h.Y q]⟩
def lb.iw(h:lb D a b)(i:Nat)(z:Int):lb D (a.iw i z) (b.iw i z):=by
 unfold PD.iw;rw[h.I];split
 .exact h.oF i z
 .exact h.ot i z
def lb.fQ(h:lb D a b)(n z:Int):lb D (a.fQ n z) (b.fQ n z):=by
 unfold PD.fQ;repeat' split
 all_goals first|exact h.ot _ _|exact h.iw _ _|exact h
theorem lb.Ar(h:lb D a b)(n:Int):a.G n=b.G n:=by
 unfold PD.G PD.tL;rw[h.r,h.I];by_cases q:b.M=È
 .rw[h.Y q]
 .grind
def lb.oG(h:lb D a b)(p:ByteArray):lb D (a.oG p) (b.oG p):= ⟨h.M,h.N,h.C,h.S,h.r,h.I,λq=>by unfold PD.oG;rw[h.Y q]⟩
def lb.nP(h:lb D a b):lb D a.nP b.nP:= ⟨h.M,h.N,h.C,h.S,by unfold PD.nP;rw[h.r,h.gL],U,λ_=>rfl⟩
end
section
variable{D:List PR}{a b g:PS}{o:Nat}{P:ByteArray}
def Km(D:List PR)(k:Nat):Option PS->Option PS->Prop
 |some a,Ä b=>Ea D k a b
 |none,Ü=>True
 |_,_=>False
def acD(e:lb D a.d b.d)(f:c≠59)(g:a.r=0/\b.r=0):Km D (k+1) (pW a c) (pW b c):=by
 unfold pW;rw[if_neg λq=>f q.1,e.gL,if_neg (c:=c=59/\b.d.S.length+1<24) λq=>f q.1];split
 .exact⟨U,(by decide:[120,84]∈Am),g.1.trans g.2.symm,(λq=>by have:0<b.r:=q;omega),(λq=>by simp at q),û ⟨(by decide:[(120:Int),84]≠[82]),e.nP⟩⟩
 .trivial
def acE(e:lb D a.d b.d)(w:Int)(r:List Int)(f:r∈Am)(g:r≠[82])(h:80∉r):Ea D (k+1) {ou a w c with C:=r} {ou b w c with C:=r}:= ⟨U,f,U,λ_=>rfl,λq=>absurd q h,û ⟨g,e.fQ _ _⟩⟩
theorem atn(h:Ea D k a b)(m:a.r=0/\b.r=0)(n:c≠59):Km D (k+1) (jS B o a c) (jS B o b c):=by
 have p:=(acB _ h.C).2.2.1;have t:=(acB _ h.C).2.2.2;have i:=atl _ h.C;have g:0<b.r->a.M=b.M:=λq=>by omega
 unfold jS;rw[h.r];rcases h.d with⟨e,_,u,v⟩|⟨e,f⟩
 .rw[e];simp only[if_true];unfold yh;split
  .trivial
  .let⟨x,y,z⟩:=atm<|wj c;exact⟨U,x,h.I,g,λq=>absurd q z,û ⟨y,U,U,u,v,U,U,λq=>by cases q⟩⟩
 .cases j:b.C with
  |nil=>exact acD f n m
  |cons w l=>
   rw[j]at p t i e;have C:w≠82:=λq=>by subst q;exact e<|p fi
   have r:l≠[82]:=λq=>by grind
   have s:80∉l:=λq=>by grind
   simp only[if_neg C];split
   .split
    .exact acE (a:={a with C:=[84],d:=a.d.nP}) (b:={b with C:=[84],d:=b.d.nP}) f.nP 120 [84] A A A
    .exact acD f n m
   .split
    .unfold yi;split
     .trivial
     .exact⟨U,(acC _).1,h.I,g,λ_=>⟨U,Ò _⟩,û ⟨(acC _).2,f.oF _ _⟩⟩
    .split
     .rename_i q;subst q;let⟨E,F⟩:=h.M (by rw[j];simp);rw[E];split
      .exact⟨U,i,h.I,g,λq=>absurd q s,û ⟨r,f.oG _⟩⟩
      .split
       .trivial
       .exact⟨U,j▸h.C,h.I,g,λ_=>⟨U,by show(b.I+1).toNat<=k+1;omega⟩,û ⟨e,f⟩⟩
     .split
      .exact acE f w l i r s
      .trivial
def ato(a:80∈b.C->B.extract (o-b.I.toNat) o=P.extract (k-b.I.toNat) k):kS P k b c=kS B o b c:=by
 unfold kS jS;cases d:b.C with
 |nil=>rfl
 |cons w e=>
  by_cases q:w=80
  .subst q;simp only;rw[a (by rw[d];simp)]
  .simp only[if_neg q]
def atp(h:Ea D k a b)(g:c≠59):Km D (k+1) (kS B o a c) (kS B o b c):=by
 unfold kS;rw[h.I];split
 .rename_i q;rcases h.d with⟨_,e,_⟩|⟨e,f⟩
  .omega
  .refine⟨h.r,h.C,by show a.r-1=b.r-1;rw[h.I],λ_=>h.N q.1,λz=>⟨(h.M z).1,Nat.le_succ_of_le (h.M z).2⟩,û ⟨e,?_⟩⟩;unfold DX;rw[h.N q.1,f.Ar];exact f.fQ _ _
 .exact atn (a:={a with r:=0}) (b:={b with r:=0}) ⟨h.r,h.C,U,(λq=>by cases q),h.M,h.d.imp (λz=>⟨z.1,rfl,z.2.2⟩) id⟩ ⟨rfl,rfl⟩ g
def GD(z:PS):Prop:=z.C=[]\/z.C=[66]
end
end Go.Proofs.Y.ni
namespace Go.Proofs.Y.kI
open Go Go.Conc Go.Proofs Go.RowKit Go.Proofs.Y.Lift Go.Proofs.Y.gA Go.Proofs.Y.fq Go.Proofs.Y.ni
open Go.Conc.Lib Go.ConcR.Gen Go.Proofs.YtgpphkdoanciiaaGreatDoor
def atq{α β:Type}(f:α->β)(d:α)(l:List α):((â l.length).map λi=>f<|l.getD i d)=l.map f:=by
 refine List.ext_getElem fi λi b a=> ?_;have h:i<l.length:=by simpa using a
 simp[Ď,h]
def atr{s:List fH}{a:List PR}(h:gM B=(0,0,a))(f:∀r∈a,r.c.getD 4 0≠1):lS s B=(jd ⟨#[59]⟩ (a.map λr=>rE (nh s)<|toQn r),0,s):=by
 have d:∀p,p<a.length->kT a p≠1:=λp b=>f _ (by simp[Ď,b]);have e:∀p,p<=a.length->hD (kT a) p=[]:=λp b=>by unfold hD;rw[List.filter_eq_nil_iff];intro j g;have:=õ.1 g;simpa using d j Z
 have g:kU a s=a.map λr=>rE (nh s) (toQn r):=by rw[<-atq (λr=>rE (nh s)<|toQn r) pe];unfold kU;refine List.map_congr_left λp b=> ?_;have b:=õ.1 b;unfold fJ wi;rw[e p Z,if_neg<|d p b];rfl
 have j:wy a s=s:=by unfold wy fJ;rw[e _<|Ì _];rfl
 unfold lS;rw[h];simp only[g,j,if_true]
def yo(d:Nat):ByteArray:=Š ⟨#[48,49,50,51,52,53,54,55,56,57]⟩ d<|d+1
def atu:(â 10).map yo=(â 10).map λd=>⟨#[þ<|48+d]⟩:=fp
def GF(h:i<10):yo i=⟨#[þ<|48+i]⟩:=by have:=congrArg (λl=>l[i]?) atu;simpa[h]using this
theorem OB(h:i<10):fI i=yo i:=by unfold fI;grind [Lib.decDigits_one,GF]
def UP(h:¬n<10):fI n=fI (n/10)++yo (n%10):=by rw[GF Z];unfold fI;rw[Lib.decDigits,dif_neg h];apply î;simp_all
noncomputable def OC:ű:=(Tryz.f21.body.bind gA.ku).getD .skip
def GG(n:Int)(s:ByteArray)(u:Nat->Ñ):ł:=⟨#[Ë ħ n,u 1,u 2,Á s,u 4,u 5,u 6,u 7,u 8,u 9,u 10,u 11,u 12,u 13,u 14,u 15,u 16,u 17,u 18,u 19,u 20,u 21,u 22,u 23,u 24,u 25,u 26],[]⟩
def GH(n:Int)(s:ByteArray)(a:ł):Prop:=∃u,a=GG n s u
theorem acG{s:ByteArray}(h:i<10)(a:s.size<=20):Ð.wrap ((i:Int)+1)=(i:Int)+1/\Ð.wrap (i:Int)=i/\(0:Int)<=(i:Int)+1/\(i:Int)+1<=10/\(i:Int)<=(i:Int)+1/\((i:Int)+1).toNat=i+1/\¬9223372036854775807<min (i+1) 10-i+s.size:=by grind [ţ]
section
variable{s:ByteArray}
def atv(u:Nat->Ñ)(c:n<10)(b:∀a,GH n s a->H a w):ĕ À OC (Exit.then K<|QE 0 H) (GG n s u) w:=by
 unfold GG;conv=>arg 2;whnf
 go_wp2_with fail
 exact⟨U,b _ (gA.gk _)⟩
def atw(u:Nat->Ñ)(f:¬n<10)(g:n<18446744073709551616)(h:s.size<=20)(c:∀a,GH ((n/10:Nat):Int) (yo (n%10)++s) a->K a w):ĕ À OC (Exit.then K<|QE 0 H) (GG n s u) w:=by
 unfold GG;conv=>arg 2;whnf
 have i:(n:Int).tmod 10=((n%10:Nat):Int):=by rw[è Z];omega
 have j:(n:Int).tdiv 10=((n/10:Nat):Int):=by rw[Int.tdiv_eq_ediv_of_nonneg Z];omega
 have b:=fc c;clear c;have e:n%10<10:=Z
 have k:n/10<18446744073709551616:=Z
 generalize n%10=d at*;generalize n/10=q at*;let⟨l,m,o,p,r,t,v⟩:=acG e (s:=s) Z;go_wp2_with fail;exact b.out _ (gA.gk _)
def UQ(b:ByteArray)(c:Ô)(a:ł)(w:Ô):Prop:=∃(n:Nat) (s:ByteArray),GH n s a/\n<18446744073709551616/\fI n++s=b/\w=c
def UR(b:ByteArray)(c:Ô)(a:ł)(w:Ô):Prop:=∃(n:Nat) (s:ByteArray),GH n s a/\n<10/\yo n++s=b/\w=c
def xZ(a:ł)(_:Ô):Nat:=match a.tmps.getD 0 ö with
 |Ë _ i=>i.toNat
 |_=>0
def JF(b:GH n s y):xZ y w=n:=by obtain⟨u,rfl⟩:=b;show(n:Int).toNat=_;simp
theorem atx(i:B.size<=20)(a:ł)(w:Ô)(g:UQ B u a w): ĕ À OC (Exit.then (λb c=>UQ B u b c/\xZ b c<xZ a w)<|QE 0<|UR B u) a w:=by
 let⟨n,s,d,h,e,f⟩:=g;rw[JF d];obtain⟨b,rfl⟩:=d;have j:(fI n).size+s.size=B.size:=by rw[<-e,Æ]
 by_cases c:n<10
 .exact atv b c λa q=>⟨n,s,q,c,by rwa[<-OB c],f⟩
 .refine atw b c h Z λa q=>⟨⟨n/10,_,q,Z,?_,f⟩,by rw[JF q];omega⟩;grind [ŉ,UP]
def acH(n:Nat)(b:n<18446744073709551616)(w:Ô):ū À 21 #[Ë ħ n] w λe f=>e=Ē (Á<|fI n)/\f=w:=by
 have L:∀a,GH n ⟨#[]⟩ a->ĕ À (Ť OC) (QE 0<|UR (fI n) w) a w:=λa g=>
  wp_loop (UQ (fI n) w) xZ ⟨n,⟨#[]⟩,g,b,Ŋ,U⟩<|atx<|pO n b
 have H:=fc<|ñ L<|pO n b;generalize fI n=res at*;clear L;go_enter Œ,Tryz.ntmps21;go_wp2_with fail;refine ŋ (Q:=QE 0<|UR res w) ?_ (H.out.1 _ (gA.gk _));rintro(_|_|_|_|_|_) a v hq;all_goals first|exact absurd hq id|skip
 obtain⟨rfl,d,s,h,i,c,rfl⟩:=hq;obtain⟨u,rfl⟩:=h;unfold GG;have j:(yo d).size+s.size=res.size:=by rw[<-c,Æ]
 have l:=H.out.2;let⟨m,o,p,q,r,t,x⟩:=acG i (s:=s) Z;have k:=fc c;clear j c;go_wp2_with fail;go_ret;exact⟨by rw[<-k.out];rfl,U⟩
end
abbrev j0(B:ByteArray):Prop:=(59:UInt8)∉B.data.toList
def j0.r{a:ByteArray}(h:j0 a)(k:j0 B):j0 (a++B):=by unfold j0 at*;simp_all
theorem j0.C(h:j0 B)(i j:Nat):j0 (B.extract i j):=by grind [Ø,Ý]
def GI(n:Nat):j0 (fI n):=by
 induction n using Ľ with
 |_ n b=>
  have a:∀d,j0 (yo d):=λd=>j0.C A _ _;by_cases h:n<10
  .rw[OB h];exact a n
  .rw[UP h];exact(b _ Z).r<|a _
def aty(h:∀x∈vX,j0 x):j0 (jd ⟨#[44]⟩ vX):=by
 cases vX with
 |nil=>exact λq=>by cases q
 |cons x r=>
  show 59∉x.data.toList++nN ⟨#[44]⟩ r;rw[Ę];rintro(q|q)
  .exact h x fi q
  .let⟨y,a,q⟩:=List.mem_flatMap.1 q;rcases Ę.1 q with z|z
   .revert z;decide
   .exact h y (by simp[a]) z
def acI:∀(f n:Nat) (l:List UInt8),59∉l->59∉sD f n l
 |0,n,l,h=>h
 |f+1,n,l,h=>by
  have a:∀k:_root_.Fin 16,59≠o7 k.val:=by decide+kernel
  unfold sD;split
  .rw[ý];exact λq=>q.elim (a ⟨n,‹_›⟩) h
  .apply acI f _ _;rw[ý];exact λq=>q.elim (a ⟨n%16,Nat.mod_lt _ A⟩) h
def acJ(n:Nat):j0 (Ab n):=j0.r (j0.C A _ _)<|acI 16 n [] A
def atz(y:Nat):j0 (iH y):=j0.C A _ _
def atA(e:Nat×Int):j0 (rD e):=(atz _).r<|GI _
def atB{α:Type}(f:α->ByteArray)(h:∀x,j0<|f x)(l:List α):∀x∈l.map f,j0 x:=λx a=>by obtain⟨y,_,rfl⟩:=ň.1 a;exact h y
def US(s:gA.St)(x y:Nat)(k:Int):∀(m i:Nat),j0<|oE s x y k i m
 |0,i=>by unfold oE;decide
 |m+1,i=>by
  unfold oE;split
  .exact GI i
  .exact US s x y k m<|i+1
def pf(c:UInt8):List UInt8->List UInt8->List (List UInt8)
 |cur,[]=>[cur]
 |cur,x::r=>if x=c then cur::pf c [] r else pf c (cur++[x]) r
def UT(B:ByteArray)(c:UInt8):∀f a i,B.size-i=f->a<=i->i<=B.size->oJ B c f a i=(pf c (B.extract a i).data.toList<|B.data.toList.drop i).map λl=>⟨l.toArray⟩
 |0,a,i,hf,h1,h2=>by
  obtain rfl:i=B.size:=Z
  rw[Ė (by rw[Â];exact Ì _)];rfl
 |f+1,a,i,hf,h1,h2=>by
  have b:i<B.size:=Z
  have d:i<B.data.toList.length:=by rwa[Â]
  have e:B.data.toList[i]=B[i]:=by rw[é];rfl
  rw[Ą d,e];unfold oJ pf;rw[dif_pos b];split
  .have g:(B.extract (i+1)<|i+1).data.toList=[]:=by
    rw[Ø,Ý];simp
   rw[UT B c f (i+1) (i+1) Z (Ì _) Z,g];rfl
  .rw[UT B c f a (i+1) Z Z Z];congr 2;rw[Ø,Ø,Ý,Ý,ì,ì,show i+1-a=i-a+1 by omega,Ĭ,Ă,show a+(i-a)=i by omega,Í d,e];rfl
def acK{c:UInt8}:∀(x a r:List UInt8),c∉x->pf c a (x++c::r)=(a++x)::pf c [] r
 |[],a,r,_=>by simp[pf]
 |y::x,a,r,h=>by rw[show pf c a (y::x++c::r)=if y=c then a::pf c [] (x++c::r)else pf c (a++[y]) (x++c::r)from U,if_neg λq=>h (by simp[q]),acK x _ r λq=>h (by simp[q])];simp
def acM{c:UInt8}:∀(x a:List UInt8),c∉x->pf c a x=[a++x]
 |[],a,_=>by simp[pf]
 |y::x,a,h=>by unfold pf;rw[if_neg λq=>h (by simp[q]),acM x _ λq=>h (by simp[q])];simp
def acN:∀(r:List ByteArray) (x:ByteArray) (a:List UInt8),j0 x->(∀y∈r,j0 y)->pf 59 a (x.data.toList++nN ⟨#[59]⟩ r)=(a++x.data.toList)::r.map λy=>y.data.toList
 |[],x,a,h,_=>by show pf 59 a (x.data.toList++[])=_;rw[ľ,acM _ _ h];rfl
 |y::r,x,a,h,k=>by show pf 59 a (x.data.toList++59::(y.data.toList++nN ⟨#[59]⟩ r))=_;rw[acK _ _ _ h,acN r y [] (k y fi) λz b=>k z (by simp[b])];rfl
def acO(a:vX≠[])(h:∀x∈vX,j0 x):oJ (jd ⟨#[59]⟩ vX) 59 (jd ⟨#[59]⟩ vX).size 0 0=vX:=by
 rw[UT _ _ _ 0 0 (Nat.sub_zero _) (Ì _)<|Ò _];match vX,a with
 |x::r,_=>
  have e:((jd ⟨#[59]⟩<|x::r).extract 0 0).data.toList=[]:=by simp_all
  rw[e,List.drop_zero];show(pf 59 []<|x.data.toList++nN ⟨#[59]⟩ r).map _=_;rw[acN r x [] (h x fi) λy b=>h y (by simp[b])];simp[Function.comp_def]
section
variable{c l a:e9}{s t:List fH}{e:Ñ}{V:Nat->Prop}{g:List Ñ}
def atC(h:gi X l a)(b:gN l):gN a:= ⟨h.N b.fR,h.d.trans b.d,by rw[h.q];exact b.q,by rw[h.S];exact b.rd,by rw[h.Y];exact b.r,by rw[h.b];exact b.C,by rw[h.K];exact b.k⟩
end
noncomputable def OD:ű:=kZ Ŭ [1,1,1,0,1,0,0]
noncomputable def acP:ű:=kZ Ŭ [1,1,1,1]
noncomputable def Eb (a:Array Ñ) (b:List ĝ):Goroutine:=G ((base 24).at ⟨a,[]⟩<|Ţ OD::.inLoop OD::[.inBlock 0,Ţ acP]) b
structure Kn(B:ByteArray)(c:UInt8)(lv:Ñ)(fr i:Nat)(tt:Array Ñ):Prop where
 r:tt.size=35
 C:tt[0]?=Ä (Á B)
 t1:tt[1]?=Ä (Ë Ū c.toNat)
 I:tt[5]?=Ä lv
 M:tt[6]?=Ä (Ë Ð fr)
 N:tt[7]?=Ä (Ë Ð i)
def acQ(S:ByteArray)(w:Ô):Sem.events À (Builtin.len_ #[9] 3 #[Á S]) w #[]=#[]:=fp
def atD(B:ByteArray)(w:Ô)(a:i<=j)(b:j<=B.size):Sem.events À (Ċ 9 (Á B) (Ä<|Ë Ð i) (Ä<|Ë Ð j) Ü) w #[]=#[]:=by simp[Ċ,œ,go_sem,a,b,ĳ]
def atE(B:ByteArray)(w:Ô)(a:i<=B.size):Sem.events À (Ċ 9 (Á B) (Ä<|Ë Ð i) Ü Ü) w #[]=#[]:=by simp[Ċ,œ,go_sem,a,ĳ]
structure u9(iq l:e9)(lv:Ñ)(xs:List ByteArray):Prop where
 r:gi (λ_=>False) iq l
 C:l.w.ownsRow 0 9 1 lv xs.length (ju xs)
 fj:∀k,lv.ownBlock=Ä k->l.O k/\iq.w.heap.size<=k
section
variable{J:Jd}{iq l:e9}{S:ByteArray}{c:UInt8}{lv:Ñ}{fr:Nat}{xs:List ByteArray}{tt:Array Ñ}{k:List Ů}
def u9.I(h:u9 iq l lv xs)(f:gy iq)(c:gN l){ob:Obj}(g:fF l l.w u)(d:fF (gI l u ob) (gI l u ob).w W)(i:jX.ownsRow 0 9 1 v (xs.length+1) (ju xs++[Á S]))(m:W.grownBy jX lv.ownBlock)(n:∀k,v.ownBlock=Ä k->(na (gI l u ob) W jX).O k)(o:v.ownBlock=lv.ownBlock\/v.ownBlock=Ä W.heap.size): gN (na (gI l u ob) W jX)/\u9 iq (na (gI l u ob) W jX) v (xs++[S]):=by
 have a:=mZ (X:=λb=>Ä b=lv.ownBlock) (ob:=ob) c.fR g;have b:=a.fe (L9 (a.N c.fR) d m λk e=>⟨a.O k (h.fj k e).1,e.symm⟩);refine⟨atC b c,h.r.vP b λj q e=> ?_,?_,λk e=>⟨n k e,?_⟩⟩
 .have:=(h.fj j e.symm).2;have:=f.fv j q;omega
 .rwa[ã,show ju (xs++[S])=ju xs++[Á S] by simp[ju]]
 .rcases o with z|z
  .exact(h.fj k<|z.symm.trans e).2
  .have e:=Õ<|z.symm.trans e;have:=h.r.I;have:=a.I;have:=d.r;omega
def atF{a b:UInt8}(h:a≠b):((a.toNat:Int)==(b.toNat:Int))=á:=by rw[beq_eq_false_iff_ne];exact λq=>h<|ÿ.1 Z
def atG(h:u9 iq l lv xs)(C:gy iq)(a:gN l)(b:Kn B c lv fr i tt)(D:i<B.size)(E:fr<=i)(hB:B.size<=10^12)(uo:xs.length<=fr) (o:B[i]≠c->∀d g,gN d->u9 iq d lv xs->Kn B c lv fr (i+1) g->fq.fg À È J d (Eb g qX)) (r:B[i]=c->∀d g v,gN d->u9 iq d v (xs++[B.extract fr i])->Kn B c v (i+1) (i+1) g->fq.fg À È J d (Eb g qX)):fq.fg À È J l (Eb tt qX):=by
 have hF:True:=trivial;let⟨s,t,f⟩:=jl h.C;obtain⟨u,rfl⟩:=xn tt b.r;have F:u 0=Á B:=by simpa using b.C
 have G:u 1=Ë Ū c.toNat:=by simpa using b.t1
 have I:u 5=ð s xs.length t:=by rw[<-f];simpa using b.I
 have K:u 6=Ë Ð fr:=by simpa using b.M
 have L:u 7=Ë Ð i:=by simpa using b.N
 clear b;have k1:(i:Int)<(B.size:Int):=Z
 have k2:(0:Int)<=(i:Int):=Z
 have k3:(0:Int)<=(fr:Int):=Z
 have k4:(fr:Int)<=(i:Int):=Z
 have k5:(i:Int)<=(B.size:Int):=Z
 have M:i<=B.size:=Z
 have m:Ð.wrap ((i:Int)+1)=((i+1:Nat):Int):=IntWalk.i64_in _ ⟨Z,Z⟩;have H:=fc<|ñ o r;clear o r;apply fP (n:=60) a.fR.lw;simp only[Eb,â,ę,Ŕ,F,G,I,K,L];conv in OD=>whnf
 repeat w_go ft
 refine Ã λ_ _=> ?_;apply nI (v:=Ë Ð B.size) U fN (by k_ne) a.fR.lw a.q (λw _=>by go_simp) (λw _ e p=>by simp[go_sem,acQ]at p);walk_nrm;apply fP (n:=60) a.fR.lw;repeat w_nl ft
 refine Ã λ_ _=> ?_;apply nI (v:=Ë Ū B[i].toNat) U fN (by k_ne) a.fR.lw a.q (λw _=>by go_simp) (λw _ e p=>by simp[go_sem,Instr.index,D]at p);walk_nrm;by_cases j:B[i]=c
 .rw[j];apply fP (n:=60) a.fR.lw;repeat w_nl ft
  refine Ã λ_ _=> ?_;apply nI (v:=Á<|B.extract fr i) U fN (by k_ne) a.fR.lw a.q (λw _=>by go_simp) (λw _ e p=>by simp[go_sem,atD B w E M]at p);walk_nrm;refine pK (V:=λp=>ð (Ä ⟨p,0,Ü⟩) 1 1) (ob:=ĉ #[Á<|B.extract fr i] 9) U U (by k_ne) a.fR.lw a.q (λw=>by go_simp) (λw=>by simp[go_sem]) λw x=> ?_;walk_nrm;have p:=mZ (X:=λ_=>False) (ob:=ĉ #[Á<|B.extract fr i] 9) a.fR x;have y:ic (gI l w<|ĉ #[Á<|B.extract fr i] 9) w.heap.size (ĉ #[Á<|B.extract fr i] 9):=⟨û U,fq.mY⟩;have N:À.info? 9=Ä ĭ:=Ŝ;refine Iv (v:=ð s xs.length t) (us:=[Á<|B.extract fr i]) (px:=w.heap.size) (c:=1) (n:=xs.length) (xs:=ju xs) (inf:=ĭ) (z:=Á ⟨#[]⟩) U U (by k_ne) (p.N a.fR) (by rw[p.q];exact a.q) U U U Į N U U Ķ U U (by simp[ĭ];omega) (by simp only[ê];omega) (f▸oa h.C λk e=>p.r k (Î (h.fj k e).1) id) (f▸λk e=>p.O k (h.fj k e).1) y.fj (RH<|y.C U) (λ_ e=>ĩ.1 e▸rfl) λatH v RV P Q S T W=> ?_;let⟨e,Y⟩:=h.I C a x P Q (f▸S) T<|f▸W;walk_nrm;apply fP (n:=80) e.fR.lw;repeat w_nl ft
  w_go ft
  refine Ã λ_ _=> ?_;refine H.out.2 j _ _ _ e Y ⟨U,U,U,U,?_,?_⟩
  .simp[m]
  .simp[m]
 .have e:=atF j;apply fP (n:=60) a.fR.lw;repeat w_nl ft
  w_go ft
  refine Ã λ_ _=> ?_;refine H.out.1 j _ _ a h ⟨U,U,U,by rw[f];rfl,U,?_⟩;simp[m]
def atI(h:u9 iq l lv xs)(s:gy iq)(a:gN l)(b:Kn B c lv fr B.size tt)(x:fr<=B.size)(T:B.size<=10^12)(W:xs.length<=fr) (C:∀g v,gN g->u9 iq g v (xs++[B.extract fr B.size])->fq.fg À È J g (G (f.at (y.put ((Q[j]?).bind (·.dst)) v)<|Ç Q jJ::k) qX)):fq.fg À È J l (Eb tt<|f.at y (Ç Q (j::jJ)::k)::qX):=by
 have hF:True:=trivial;let⟨i,m,d⟩:=jl h.C;obtain⟨u,rfl⟩:=xn tt b.r;have D:u 0=Á B:=by simpa using b.C
 have E:u 5=ð i xs.length m:=by rw[<-d];simpa using b.I
 have F:u 6=Ë Ð fr:=by simpa using b.M
 have H:u 7=Ë Ð B.size:=by simpa using b.N
 clear b;have Y:(0:Int)<=(fr:Int):=Z
 have k4:(fr:Int)<=(B.size:Int):=Z
 apply fP (n:=60) a.fR.lw;simp only[Eb,â,ę,Ŕ,D,E,F,H];conv in OD=>whnf
 conv in acP=>whnf
 repeat w_go ft
 refine Ã λ_ _=> ?_;apply nI (v:=Ë Ð B.size) U fN (by k_ne) a.fR.lw a.q (λw _=>by go_simp) (λw _ e p=>by simp[go_sem,acQ]at p);walk_nrm;apply fP (n:=60) a.fR.lw;repeat w_nl ft
 refine Ã λ_ _=> ?_;apply nI (v:=Á<|B.extract fr B.size) U fN (by k_ne) a.fR.lw a.q (λw _=>by go_simp) (λw _ e p=>by simp[go_sem,atE B w x]at p);walk_nrm;refine pK (V:=λp=>ð (Ä ⟨p,0,Ü⟩) 1 1) (ob:=ĉ #[Á<|B.extract fr B.size] 9) U U (by k_ne) a.fR.lw a.q (λw=>by go_simp) (λw=>by simp[go_sem]) λw o=> ?_;walk_nrm;have p:=mZ (X:=λ_=>False) (ob:=ĉ #[Á<|B.extract fr B.size] 9) a.fR o;have r:ic (gI l w<|ĉ #[Á<|B.extract fr B.size] 9) w.heap.size (ĉ #[Á<|B.extract fr B.size] 9):=⟨û U,fq.mY⟩;have I:À.info? 9=Ä ĭ:=Ŝ;refine Iv (v:=ð i xs.length m) (us:=[Á<|B.extract fr B.size]) (px:=w.heap.size) (c:=1) (n:=xs.length) (xs:=ju xs) (inf:=ĭ) (z:=Á ⟨#[]⟩) U U (by k_ne) (p.N a.fR) (by rw[p.q];exact a.q) U U U Į I U U Ķ U U (by simp[ĭ];omega) (by simp only[ê];omega) (d▸oa h.C λk e=>p.r k (Î (h.fj k e).1) id) (d▸λk e=>p.O k (h.fj k e).1) r.fj (RH<|r.C U) (λ_ e=>ĩ.1 e▸rfl) λatH v RV K L M N P=> ?_;let⟨e,S⟩:=h.I s a o K L (d▸M) N<|d▸P;walk_nrm;apply fP (n:=80) e.fR.lw;repeat w_nl ft
 u_in ft hF
 refine Ć (t:=4) U U ķ U ⟨by u_nil,?_⟩;refine Ã λ_ _=> ?_;exact C _ _ e S
def UU(e:gy iq)(g:B.size<=10^12) (n:∀a v,gN a->u9 iq a v (oJ B c B.size 0 0)->fq.fg À È J a (G (f.at (y.put ((Q[j]?).bind (·.dst)) v)<|Ç Q jJ::k) qX)): ∀(m fr i:Nat) (l:e9) (lv:Ñ) (xs:List ByteArray) (tt:Array Ñ),B.size-i=m->fr<=i->i<=B.size->xs.length<=fr->xs++oJ B c m fr i=oJ B c B.size 0 0->u9 iq l lv xs->gN l->Kn B c lv fr i tt->fq.fg À È J l (Eb tt<|f.at y (Ç Q (j::jJ)::k)::qX)
 |0,fr,i,l,lv,xs,tt,hm,hfr,hi,uo,he,h,hb,hT=>by
  obtain rfl:i=B.size:=Z
  exact atI h e hb hT hfr g uo λa v b d=>n a v b<|he▸d
 |m+1,fr,i,l,lv,xs,tt,hm,hfr,hi,uo,he,h,hb,hT=>by
  have r:i<B.size:=Z
  rw[show oJ B c (m+1) fr i=if B[i]=c then B.extract fr i::oJ B c m (i+1) (i+1)else oJ B c m fr (i+1)from dif_pos r]at he;refine atG h e hb hT r hfr g uo (λq a o b d p=> ?_) λq a o v b d p=> ?_
  .rw[if_neg q]at he;exact UU e g n m fr (i+1) a lv xs o Z Z Z uo he d b p
  .rw[if_pos q]at he;exact UU e g n m (i+1) (i+1) a v _ o Z Z Z (by rw[ã,Ĝ];omega) (by rwa[ć]) d b p
def atJ(a:gN l)(d:B.size<=10^12) (g:∀b v,gN b->u9 l b v (oJ B c B.size 0 0)->fq.fg À È J b (G (f.at (y.put ((Q[j]?).bind (·.dst)) v)<|Ç Q jJ::k) qX)):fq.fg À È J l (G (Ê À 24 #[Á B,Ë Ū c.toNat] ä)<|f.at y (Ç Q (j::jJ)::k)::qX):=by
 have hF:True:=trivial;rw[wz [_,_] 33 ķ];simp only[ë,Ù,Ö];conv in kZ _ _=>whnf
 apply fP (n:=60) a.fR.lw;repeat w_bar ft
 w_go ft
 refine Ã λ_ _=> ?_;exact UU a.fR d g B.size 0 0 l (ð Ü 0 0) [] _ U (Ì _) (Ò _) (Ì _) U ⟨gi.fW a.fR.lw,⟨U,Î ⟨U,U⟩⟩,λk e=>by cases e⟩ a ⟨rfl,rfl,rfl,rfl,rfl,rfl⟩
end
structure j1(R:Nat->Prop)(W:Ô)(l:e9)(x nx:Nat)(s:List fH):Prop where
 a:∃sl V,ov l x nx s sl V
 r:∀b,R b->(l.O b/\l.w.heap[b]?=W.heap[b]?)/\b≠x
section
variable{R:Nat->Prop}{l d:e9}{x nx:Nat}{s g:List fH}{xs:List ByteArray}
def j1.I(h:j1 R W l x nx s)(c:∀b,l.O b->d.O b/\d.w.heap[b]?=l.w.heap[b]?)(e:l.w.heap.size<=d.w.heap.size):j1 R W d x nx s:=by let⟨f,V,a⟩:=h.a;exact⟨⟨f,V,a.N (λb q=>(c b q).1) (λb q=>(c b q).2) e⟩,λb q=>⟨⟨(c b (h.r b q).1.1).1,(c b (h.r b q).1.1).2.trans (h.r b q).1.2⟩,(h.r b q).2⟩⟩
def j1.fM(h:j1 R W l x nx s){w₁:Ô}(r:fF l l.w w₁):j1 R W {l with w:=w₁} x nx s:=h.I (λb q=>⟨q,r.I b<|Î q⟩) r.r
def j1.C(h:j1 R W l x nx s):lF s:=by let⟨_,_,a⟩:=h.a;let⟨_,_,q,_⟩:=a.rd;exact q
def j1.M(h:j1 R W l x nx s):nB<=l.w.heap.size:=by let⟨_,_,a⟩:=h.a;exact a.r.fv
def acR(h:j1 R W l x nx s)(j:gN l)(k:B.size<=ê) (m:∀d,gN d->j1 R W d x nx (lS s B).2.2->iN vQ d (G (f.at (y.put ((Q[i]?).bind (·.dst))<|ŝ #[Á (lS s B).1,Ë Ð (lS s B).2.1])<|Ç Q jJ::L) qX)): iN vQ l (G (Ê À 17 #[Ï<|Ä ⟨x,0,Ü⟩,Á B] ä)<|f.at y (Ç Q (i::jJ)::L)::qX):=by let⟨v,V,n⟩:=h.a;refine ab9 j n k (λ_=>acg h.C) λd o ⟨e,p,r,t,w⟩=>m d o ⟨⟨p,r,t⟩,λb q=> ?_⟩;let⟨⟨g,u⟩,c⟩:=h.r b q;exact⟨⟨(e b g c).1,(e b g c).2.trans u⟩,c⟩
def atK(h:j1 R W l x nx s)(o:gN l)(C:B.size<=ê)(D:lS s B=(jd ⟨#[59]⟩ xs,0,g))(E:xs≠[])(F:∀a∈xs,j0 a)(M:xs.length=n)(N:(jd ⟨#[59]⟩ xs).size<=10^12) (P:∀d m,gN d->j1 R W d x nx g->d.w.ownsRow 0 9 1 m n (ju xs)->(∀b,m.ownBlock=Ä b->d.O b)->iN vQ d (G (f.at (y.put ((Q[i]?).bind (·.dst))<|ŝ #[m,Ó È])<|Ç Q jJ::L) qX)): iN vQ l (G (Ê À 26 #[Ï<|Ä ⟨x,0,Ü⟩,Á B,Ë Ð n] ä)<|f.at y (Ç Q (i::jJ)::L)::qX):=by
 have hF:True:=trivial;subst M;rw[wz [_,_,_] 25 ĸ];simp only[ë,Ù,Ö];conv in kZ _ _=>whnf
 apply mC;apply fP (n:=60) o.fR.lw;repeat w_go ft
 refine Ã λ_ _=> ?_;refine .fy λX p=>⟨o.fM p,U,?_⟩;have r:=o.fM p;have H:=h.fM p;refine ym (f:=17) (args:=#[Ï<|Ä ⟨x,0,Ü⟩,Á B]) r U fN (by k_ne) (λw=>by go_simp) (λw=>É U ŕ U U #[]) λT k=> ?_;refine acR (H.fM k) (r.fM k) C λY t u=> ?_;have I:=acO E F;rw[D]at u|-;dsimp only at u|-;generalize jd ⟨#[59]⟩ xs=S at*;clear D h H r C;walk_nrm;apply mC;apply fP (n:=60) t.fR.lw;repeat w_nl ft
 refine Ã λ_ _=> ?_;refine wA (f:=24) (args:=#[Á S,Ë Ū 59]) U fN (by k_ne) t.fR.lw (λw=>by go_simp) (λw=>É U ķ U U #[]) λaci J=> ?_;refine atJ (c:=59) (t.fM J) N λl5 m v j=> ?_;have V:=(u.fM J).I (λb q=>⟨j.r.O b q,j.r.r b (Î q) id⟩) j.r.I;rw[I]at j;let⟨pk,ck,K⟩:=jl j.C;have z:=fc (ñ j.C λb q=>(j.fj b q).1);clear j I F E;rw[K];walk_nrm;apply fP (n:=60) v.fR.lw;repeat w_nl ft
 u_in ft hF
 refine Ŗ U U ĸ U ⟨by u_nil,?_⟩;refine Ã λ_ _=> ?_;refine .fy λT k=>⟨v.fM k,U,?_⟩;have:=P _ m (v.fM k) (V.fM k) (oa z.out.1 λL e=>k.I L<|Î<|z.out.2 L e) z.out.2;rwa[K]at this
end
def yp(l a:e9):Prop:=∀b,l.O b->a.O b/\a.w.heap[b]?=l.w.heap[b]?
structure OG(l:e9)(kb:Nat)(xs:List ByteArray):Prop where
 fj:l.O kb
 C:∀i y,xs[i]?=Ä y->l.w.cell? ⟨kb,i,Ü⟩=Ä (Á y)
section
variable{J:Jd}{ko:Ñ->Ô->Prop}{R:Nat->Prop}{l l':e9}{x nx:Nat}{s c:List fH}{b j:ĝ}{a m:ł}{ops:Array Ħ}{rest:List Nat}{k:List Ů}{cs:List ĝ}{f:FuncId}{args:Array Ñ}{fn:Func}{ags:Array Ő}{ats:Array ŏ}{kb:Nat}{xs:List ByteArray}{y:ByteArray}{t:Ő}
def yp.r{a:e9}(h:yp l l')(k:yp l' a):yp l a:=λb q=>⟨(k b (h b q).1).1,(k b (h b q).1).2.trans (h b q).2⟩
def OH{w₁:Ô}(r:fF l l.w w₁):yp l {l with w:=w₁}:=λb q=>⟨q,r.I b<|Î q⟩
def OG.r(h:OG l kb xs)(k:yp l l'):OG l' kb xs:=⟨(k kb h.fj).1,λi y q=>(gO (k kb h.fj).2).trans<|h.C i y q⟩
def It(h:j1 R W l x nx s)(hb:gN l)(hf:Tryz.prog.funcs[f]?=some fn) (hc:∀l',gN l'->nB<=l'.w.heap.size->∀(cl:Frame) (cs:List Frame),fq.fg Tryz.prog true (λl'' g'=>jC l' l''/\l''.d=l'.d/\g'=G (cl.finish v) cs) l'<|G (Frame.enter Tryz.prog f args .normal)<|cl::cs) (hn:∀l',gN l'->j1 R W l' x nx s->yp l l'->fq.fg Tryz.prog true J l' (G (b.at (a.put o.dst v)<|.inRegion ops rest::k) cs)) (ho:ops[i]?=some o:=by rfl) (qS:o.op=.call {callee:=.value<|.func f,args:=ags,argTypes:=ats}:=by rfl) (hw:Region.wanted o (yielded ops a.tmps)=true:=by rfl) (hk:b.kind≠.early:=by k_ne) (hr:∀w,(execOp a.eval o).run Tryz.prog w=.ok (.enter f args) w:=by intro w;go_simp) (hm:(fn.name== "runtime.NumGoroutine")=false:=by rfl) (hd:fn.body.isNone=false:=by rfl): fq.fg Tryz.prog true J l (G (b.at a<|.inRegion ops (i::rest)::k) cs):=by refine wA ho hw hk hb.fR.lw hr (λw=>É qS hf hm hd #[]) λw₁ kh=> ?_;refine fq.fg.lE ?_<|hc _ (hb.fM kh) (h.fM kh).M _ _;rintro l2 g2 ⟨ha,hd,rfl⟩;rw[Ě,ho];have k2:yp {l with w:=w₁} l2:=λb q=>⟨ha.O b q,ha.r.I b<|Î q⟩;exact hn l2 (jC.xG (hb.fM kh) ha hd) ((h.fM kh).I k2 ha.r.r)<|(OH kh).r k2
def OJ(h:j1 R W l x nx s)(hb:gN l)(hf:Tryz.prog.funcs[f]?=some fn) (hn:∀l',gN l'->j1 R W l' x nx s->yp l l'->l.w.heap.size<=l'.w.heap.size->iN ko l' (G (Frame.enter Tryz.prog f args .normal)<|b.at a (.inRegion ops (i::rest)::k)::cs)) (ho:ops[i]?=some o:=by rfl) (qS:o.op=.call {callee:=.value<|.func f,args:=ags,argTypes:=ats}:=by rfl) (hw:Region.wanted o (yielded ops a.tmps)=true:=by rfl) (hk:b.kind≠.early:=by k_ne) (hr:∀w,(execOp a.eval o).run Tryz.prog w=.ok (.enter f args) w:=by intro w;go_simp) (hm:(fn.name== "runtime.NumGoroutine")=false:=by rfl) (hd:fn.body.isNone=false:=by rfl): fq.fg Tryz.prog true (J7 ko) l (G (b.at a<|.inRegion ops (i::rest)::k) cs):= .fy λw₁ kh=>⟨hb.fM kh,U,ym (hb.fM kh) ho hw hk hr (λw=>É qS hf hm hd #[]) λpA oy=>hn _ ((hb.fM kh).fM oy) ((h.fM kh).fM oy) ((OH kh).r<|OH oy)<|Å kh.r oy.r⟩
def atL(h:j1 R W l x nx s)(o:gN l)(p:B.size<=ê)(r:lS s B=(jd ⟨#[59]⟩ xs,0,c))(t:∀y∈xs,j0 y)(a:xs.length=n+1)(u:(jd ⟨#[59]⟩ xs).size<=10^12) (v:∀l' kb b,gN l'->j1 R W l' x nx c->OG l' kb xs->iN ko l' (G (j.at (m.put ((ops[i]?).bind (·.dst))<|ŝ #[ð (Ä ⟨kb,0,Ü⟩) (n+1) b,Ó È])<|Ç ops rest::k) cs)): iN ko l (G (Ê À 26 #[Ï<|Ä ⟨x,0,Ü⟩,Á B,Ë Ð ((n+1:Nat):Int)] ä)<|j.at m (Ç ops (i::rest)::k)::cs):=by
 refine atK (n:=n+1) h o p r (λe=>by rw[e]at a;cases a) t a u λw z C D d E=> ?_;let⟨F,b,f⟩:=jl d;obtain⟨kb,rfl⟩:∃kb,F=Ä ⟨kb,0,Ü⟩:=by
  rcases d.2 with⟨e,q⟩|⟨g,_,_,e,_⟩
  .omega
  .rw[f]at e;cases e;exact⟨g,U⟩
 have e:z.ownBlock=Ä kb:=by rw[f];rfl
 rw[f];refine v w kb b C D ⟨E kb e,λi y q=> ?_⟩;have q:=d.cells e i (Á y) (by unfold ju;rw[ô,q];rfl);rwa[Addr.add_lit,Ō]at q
end
def wC(r:PR):Int×Nat×List Tx:=(r.c.getD 5 0,(r.c.getD 0 0).toNat,r.r.map toTx)
def Ec(r:PR)(s:List fH):ByteArray:=if r.c.getD 4 0=1 then(rC (nh s) (wC r).1 (wC r).2.1 (wC r).2.2).2 else rE (nh s) (toQn r)
def GJ(s:List fH)(r:PR):List fH:=if r.c.getD 4 0=1 then DW s (wC r)else s
def rA(s:List fH)(rs:List PR):List fH:=rs.foldl GJ s
def acS{kd:Nat->Int}(h:kd i=1):∀n,i<n->(hD kd n).getD (fJ kd i) 0=i
 |0,q=>by omega
 |n+1,q=>by
  have a:i<n->∀x,(hD kd n++x).getD (fJ kd i) 0=i:=λz x=>by
   have b:fJ kd i<(hD kd n).length:=by
    have e:∀m,i+1<=m->(hD kd<|i+1).length<=(hD kd m).length:=λm=>by
     induction m with
     |zero=>intro z;omega
     |succ m c=>
      intro z;rcases Nat.lt_or_ge i m with y|y
      .apply Å (c y);by_cases q:kd m=1
       .rw[tA q];simp
       .rw[vO q];exact Ì _
      .rw[show m=i by omega];exact Ì _
    have:=e n z;rw[tA h]at this;unfold fJ;simp at this;omega
   have:=acS h n z;simp only[Ď,ą b]at this|-;exact this
  by_cases z:i<n
  .by_cases q:kd n=1
   .rw[tA q];exact a z _
   .rw[vO q];have:=a z [];rwa[ľ]at this
  .obtain rfl:i=n:=Z
   rw[tA h];simp[Ď,fJ]
section
variable{rs:List PR}{s:List fH}{P:ByteArray}
def UW:∀p,p<=rs.length->pU (wx rs) (hD (kT rs) rs.length) s (fJ (kT rs) p)=rA s (rs.take p)
 |0,_=>by simp[fJ,hD,pU,rA]
 |p+1,h=>by
  have a:=UW p Z;have b:rs.take (p+1)=rs.take p++[rs.getD p pe]:=by rw[Ĭ];congr 1;simp[Ď,show p<rs.length by omega]
  unfold rA at a|-;rw[b,List.foldl_append,<-a];show _=GJ _ _;unfold GJ;by_cases q:kT rs p=1
  .rw[if_pos (show(rs.getD p pe).c.getD 4 0=1 from q)];have e:fJ (kT rs) (p+1)=fJ (kT rs) p+1:=by unfold fJ;rw[tA q];simp
   rw[e];show DW _ _=_;rw[acS q _ Z];rfl
  .rw[if_neg (show¬(rs.getD p pe).c.getD 4 0=1 from q)];have e:fJ (kT rs) (p+1)=fJ (kT rs) p:=by unfold fJ;rw[vO q]
   rw[e]
def atM{p:Nat}(h:p<rs.length):(kU rs s)[p]?=Ä (Ec (rs.getD p pe)<|rA s<|rs.take p):=by unfold kU;rw[ô,List.getElem?_range h,ė,UW p Z];rfl
def atN:wy rs s=rA s rs:=by unfold wy;rw[UW _<|Ì _,List.take_length]
def atO{r:PR}(h:gM P=(0,0,[r])):lS s P=(Ec r s,0,GJ s r):=by
 have a:=atM (rs:=[r]) (s:=s) (p:=0) Ķ;have e:kU [r] s=[Ec r s]:=by
  match hx:kU [r] s,Ou with
  |[y],_=>
   rw[hx]at a;simpa[rA]using a
 unfold lS;rw[h];simp only[if_true,e,atN];rw[show jd ⟨#[59]⟩ [Ec r s]=Ec r s from î (by simp[jd,T5,nN])];rfl
end
end Go.Proofs.Y.kI
namespace Go.Proofs.Y.ni
open Go Go.Proofs Go.RowKit Go.Proofs.Y.Lift Go.Proofs.Y.gA
section
variable{a b:PS}{d:PD}
def wD{f:Nat}(c:k<B.size)(d:kS B k a (B[k].toNat:Int)=Ä b):jT B (f+1) k a=jT B f (k+1) b:=by rw[jT,dif_pos c,d]
end
end Go.Proofs.Y.ni
namespace Go.Proofs.Y.kI
open Go Go.Conc Go.Proofs Go.RowKit Go.Proofs.Y.Lift Go.Proofs.Y.gA Go.Proofs.Y.fq Go.Proofs.Y.ni
open Go.Conc.Lib Go.ConcR.Gen Go.Proofs.YtgpphkdoanciiaaGreatDoor
def Ed(r:PR)(a:fH):Option fH:=(vW (wC r).2.1 a.s (wC r).2.2).map λq=>⟨q.1,q.2.1,q.2.2,a.h+1⟩
theorem acT{s:List fH}{v:fH}(h:s[n]?=Ä v):mb (nh s) n=Ä (0,v):=by unfold mb nh;grind
theorem atP{s:List fH}{r:PR}(d:r.c.getD 4 0=1){a:fH}(b:mb (nh s) (r.c.getD 5 0)=Ä (0,a))(e:s.length<40): Ec r s=(match Ed r a with
  |none=>nX 5
  |some _=>oB s.length)/\GJ s r=match Ed r a with
  |none=>s
  |some v=>s++[v]:=by
 have f:(nh s).length=s.length:=by simp[nh]
 have g:rC (nh s) (wC r).1 (wC r).2.1 (wC r).2.2=match Ed r a with
  |none=>(Ü,nX 5)
  |some v=>(Ä v,oB s.length):=by
  unfold rC Ed;rw[show(wC r).1=r.c.getD 5 0 from rfl,b];grind
 unfold Ec GJ DW sE;grind [JX]
theorem atQ{s:List fH}{r:PR}(h:gM B=(0,0,[r]))(a:r.c.getD 4 0=1)(b:r.c.getD 5 0=0){v0:fH}(d:s[0]?=Ä v0)(e:s.length<40): lS s B=match Ed r v0 with
  |none=>(nX 5,0,s)
  |some v=>(oB s.length,0,s++[v]):=by
 let⟨v,f⟩:=atP a (by rw[show r.c.getD 5 0=((0:Nat):Int)from b];exact acT d) e;grind [atO]
def atS(s:gA.St):pP s s 8=[]:=by unfold pP;rw[ď];intro i _;unfold ye vY qI;rw[if_pos U,if_pos U,Ö,Ö,ď];exact λj _=>if_pos U
end Go.Proofs.Y.kI
namespace Go.Proofs.Y.ni
open Go Go.Proofs Go.RowKit Go.Proofs.Y.Lift Go.Proofs.Y.gA
section
variable{T p:ByteArray}{a b:PS}
def sM(j:Int):PS:=⟨[80],0,j,120,⟨[],È,⟨[0,0,0,0,1,0,0,0],[]⟩,È,⟨[1,0,0,0,2],⟨#[]⟩⟩⟩⟩
def rP(p:ByteArray):PR:=⟨[0,0,0,0,1,0,0,0],[⟨[1,0,0,0,2],p⟩]⟩
def iw(p:ByteArray):ByteArray:=⟨#[105,48,58,97,47,98,123]⟩++p++⟨#[125]⟩
def UX{l:List UInt8}(h:T.data.toList=l)(i:Nat)(a:i<T.size):∃b:i<l.length,T[i]=l[i]:=by subst h;exact⟨by rwa[Â],by rw[é];rfl⟩
def acU(a:T.data.toList=105::48::58::97::47::98::123::(p.data.toList++[125]))(h:125∉p.data.toList)(i:T.size=p.size+8):∀(m j:Nat),p.size-j=m->j<=p.size->(jT T (m+1) (7+j)<|sM j).1=T.size->(jT T (m+1) (7+j)<|sM j).2.d.C=[rP p]/\(jT T (m+1) (7+j)<|sM j).2.C=[]
 |0,j,hm,hj,hr=>by
  obtain rfl:j=p.size:=Z
  have b:p.data.toList.length=p.size:=by rw[Â];rfl
  have c:T[7+p.size]'Z=125:=by
   let⟨q,e⟩:=UX a (7+p.size) Z;have:(105::48::58::97::47::98::123::(p.data.toList++[125]))[7+p.size]?=Ä 125:=by rw[show 7+p.size=p.size+1+1+1+1+1+1+1 by omega];simp only[ò];rw[List.getElem?_append_right Z,b,Ā];rfl
   rw[Í q]at this;rw[e];exact Õ this
  have g:T.extract (7+p.size-((p.size:Nat):Int).toNat) (7+p.size)=p:=by apply î;apply ü.1;rw[Ø,Ý,a,Int.toNat_natCast,Nat.add_sub_cancel,ì];show ā (7+p.size-7) (p.data.toList++[125])=_;rw[Nat.add_sub_cancel_left,<-b,List.take_left]
  have e:kS T (7+p.size) (sM p.size) ((T[7+p.size]'Z).toNat:Int)=Ä {sM p.size with C:=[],r:=0,d:=(sM p.size).d.oG p}:=by rw[c];show jS T (7+p.size) {sM p.size with r:=0} 125=_;unfold jS;simp only[sM];rw[g];simp
  rw[wD Z e];exact⟨U,U⟩
 |m+1,j,hm,hj,hr=>by
  have b:p.data.toList.length=p.size:=by rw[Â];rfl
  obtain⟨c,g⟩:∃c,T[7+j]'Z=c:=⟨_,U⟩;have k:c∈p.data.toList:=by
   let⟨q,e⟩:=UX a (7+j) Z;rw[<-g,e];have:(105::48::58::97::47::98::123::(p.data.toList++[125]))[7+j]?=Ä (p.data.toList[j]'Z):=by rw[show 7+j=j+1+1+1+1+1+1+1 by omega];simp only[ò];rw[ą Z,Í]
   rw[Í q]at this;rw[Õ this];exact List.getElem_mem _
  have l:(c.toNat:Int)≠125:=λq=>h (by have:c=125:=ÿ.1 (by show c.toNat=125;omega);rwa[<-this]);have e:kS T (7+j) (sM j) (c.toNat:Int)=if(j:Int)=40\/lC (c.toNat:Int)=0 then Ü else Ä (sM ((j+1:Nat):Int)):=by show jS T (7+j) {sM j with r:=0} (c.toNat:Int)=_;unfold jS;simp only[sM];simp[l];rfl
  by_cases q:(j:Int)=40\/lC (c.toNat:Int)=0
  .rw[if_pos q]at e;exfalso;rw[jT,dif_pos (show 7+j<T.size by omega),g,e]at hr;simp only at hr;omega
  .rw[if_neg q]at e;rw[wD (f:=m+1) (show 7+j<T.size by omega) (by rwa[g])]at hr|-;exact acU a h i m (j+1) Z Z hr
theorem atT(d:125∉p.data.toList)(h:(gM<|iw p).1=0):gM (iw p)=(0,0,[rP p]):=by
 obtain⟨T,a⟩:∃T,iw p=T:=⟨_,U⟩;have f:T.data.toList=105::48::58::97::47::98::123::(p.data.toList++[125]):=by rw[<-a];unfold iw;simp_all
 have b:T.size=p.size+8:=by rw[<-a];unfold iw;rw[Æ,Æ];show 7+p.size+1=_;omega
 rw[a]at h|-;have g:∀i c (j:i<T.size),(105::48::58::97::47::98::123::(p.data.toList++[125]))[i]?=Ä c->T[i]=c:=λi c j e=>by grind [UX]
 have k:lD T=jT T (p.size+1) (7+0) (sM (0:Nat)):=by unfold lD;rw[b,wD Z (by rw[g 0 105 _ U];rfl),wD Z (by rw[g 1 48 _ U];rfl),wD Z (by rw[g 2 58 _ U];rfl),wD Z (by rw[g 3 97 _ U];rfl),wD Z (by rw[g 4 47 _ U];rfl),wD Z (by rw[g 5 98 _ U];rfl),wD Z (by rw[g 6 123 _ U];rfl)];rfl
 have l:T.size≠0:=Z
 unfold gM lR at h|-;split at h
 .cases h
 .rename_i m;rw[if_neg m];split at h
  .rename_i q;simp only[if_neg l]at q|-;rw[if_pos q];simp only[à,decide_eq_true_eq]at q;have:=acU f d b p.size 0 U (Ò _) (by rw[<-k];exact q.1);grind
  .cases h
end
end Go.Proofs.Y.ni
namespace Go.Proofs.Y.ni
open Go Go.Proofs Go.RowKit Go.Proofs.Y.Lift Go.Proofs.Y.gA Go.Proofs.Y.kI
section
variable{P:ByteArray}{D:List PR}{a b:PS}{r:PR}
def Km.Pe{o:Option PS}(h:Km D k o (Ä b)):∃a,o=Ä a/\Ea D k a b:=by
 cases o with
 |none=>cases h
 |some a=>exact⟨a,U,h⟩
theorem acV(h:gM P=(0,0,[r])):∃z,jT P P.size 0 nQ=(P.size,z)/\GD z/\z.d.C=[r]:=by
 unfold gM lR lD at h;split at h
 .cases h
 .by_cases a:P.size=0
  .grind
  .rw[if_neg a]at h;split at h
   .rename_i q;simp only[à,Bool.or_eq_true,decide_eq_true_eq]at q;refine⟨(jT P P.size 0 nQ).2,ŗ q.1 U,q.2,?_⟩;grind
   .cases h
def UY(c:UInt8):∀(f a i:Nat),B.size-i=f->i<=B.size->∃e l,i<=e/\e<=B.size/\oJ B c f a i=B.extract a e::l
 |0,a,i,hf,hi=>⟨B.size,[],Z,Ì _,U⟩
 |f+1,a,i,hf,hi=>by
  have b:i<B.size:=Z
  unfold oJ;rw[dif_pos b];split
  .exact⟨i,_,Ì _,hi,U⟩
  .let⟨e,l,h,d,g⟩:=UY c f a (i+1) Z Z;exact⟨e,l,Z,d,g⟩
theorem acW(c:Ea D k a b)(g:GD b)(e:b.d.C=[r]):GD a/\lb D a.d b.d/\a.d.C=D++[r]:=by
 rcases c.d with⟨q,_⟩|⟨_,f⟩
 .grind
 .let⟨j,h,i⟩:=f.G;rw[i]at e;cases e;refine⟨?_,f,h⟩;unfold GD;rwa[c.r]
def UZ:∀(f h i:Nat) (D:List PR) (a b m:PS) (P:ByteArray) (l:List ByteArray) (r:PR) (j:List PR),B.size-i=f->h<=i->i<=B.size->Ea D (i-h) a b->oJ B 59 f h i=P::l-> jT P (P.size-(i-h)) (i-h) b=(P.size,m)->GD m->m.d.C=[r]->(l.map gM=j.map λr=>(0,0,[r]))->D.length+1+l.length<=24->∃z,jT B f i a=(B.size,z)/\GD z/\z.d.C=D++r::j
 |0,h,i,D,a,b,m,P,l,r,j,hf,h1,h2,hs,hc,hr,hA,nJ,hl,hn=>by
  obtain rfl:i=B.size:=Z
  cases hc;have p:(B.extract h B.size).size=B.size-h:=by rw[ø];omega
  rw[p,Ā]at hr;have e:b=m:=congrArg Ř hr;subst e;let⟨s,_,t⟩:=acW hs hA nJ;cases j with
  |nil=>exact⟨a,U,s,t⟩
  |cons y j=>cases hl
 |f+1,h,i,D,a,b,m,P,l,r,j,hf,h1,h2,hs,hc,hr,hA,nJ,hl,hn=>by
  have u:i<B.size:=Z
  rw[show oJ B 59 (f+1) h i=if B[i]=59 then B.extract h i::oJ B 59 f (i+1) (i+1)else oJ B 59 f h (i+1)from dif_pos u]at hc;by_cases q:B[i]=59
  .rw[if_pos q]at hc;cases hc;have p:(B.extract h i).size=i-h:=by rw[ø];omega
   rw[p,Ā]at hr;have e:b=m:=congrArg Ř hr;subst e;let⟨s,kd,t⟩:=acW hs hA nJ;let⟨e,x,C,E,n⟩:=UY (B:=B) 59 f (i+1) (i+1) Z Z;rw[n]at hl hn;simp only[Đ]at hn;cases j with
   |nil=>cases hl
   |cons y j=>
    rw[Þ,Þ]at hl;injection hl with FQ To;let⟨F,v,w,G⟩:=acV FQ;have H:kS B i a (B[i].toNat:Int)=Ä {a with r:=0,C:=[82]}:=by
     rw[q];have I:¬(0<a.r/\jm ((59:UInt8).toNat:Int)=È):=by simp[jm]
     unfold kS;rw[if_neg I];unfold jS;have g:pW {a with r:=0} ((59:UInt8).toNat:Int)=Ä {a with r:=0,C:=[82]}:=by unfold pW;rw[if_pos ⟨U,by show a.d.S.length+1<24;rw[kd.C];omega⟩]
     rcases s with k|k
     .simp only[k]at g|-;exact g
     .simp only[k]at g|-;exact g
    rw[jT,dif_pos u,H];let⟨z,g,I,J⟩:=UZ f (i+1) (i+1) (D++[r]) {a with r:=0,C:=[82]} nQ F _ x y j Z (Ì _) Z (by rw[Ā];exact⟨U,A,U,(λq=>by cases q),(λq=>by simp[nQ]at q),Î ⟨rfl,rfl,t,rfl⟩⟩) n (by rwa[Ā]) w G To (by simp only[ã,Ĝ];omega);exact⟨z,g,I,by rw[J];simp⟩
  .rw[if_neg q]at hc;let⟨e,x,C,E,n⟩:=UY (B:=B) 59 f h (i+1) Z Z;rw[hc]at n;cases n;have p:(B.extract h e).size=e-h:=by rw[ø];omega
   have I:i-h<(B.extract h e).size:=Z
   have t:(B.extract h e)[i-h]=B[i]:=by rw[ń];congr 1;omega
   rw[show(B.extract h e).size-(i-h)=(B.extract h e).size-(i+1-h)+1 by omega,jT,dif_pos I,t,ato (B:=B) (o:=i) (λz=>by have:=(hs.M z).2;rw[Ņ];congr 1<;>omega)]at hr;have g:=atp (B:=B) (o:=i) hs (c:=B[i].toNat) λz=>q (by apply ÿ.1;show B[i].toNat=59;omega);cases s:kS B i b (B[i].toNat:Int)with
   |none=>
    rw[s]at hr;have:=congrArg ũ hr;simp only at this;omega
   |some y=>
    rw[s]at hr g;let⟨F,v,w⟩:=g.Pe;rw[jT,dif_pos u,v];exact UZ f h (i+1) D F y m _ l r j Z Z Z (by rwa[show i+1-h=i-h+1 by omega]) hc (by rw[show i+1-h=i-h+1 by omega];rwa[show i+1-h=i-h+1 by omega]at hr) hA nJ hl hn
def atU{Ps:List ByteArray}{b:List PR}(a:Ps.map gM=b.map λr=>(0,0,[r]))(f:∀P∈Ps,j0 P)(d:Ps≠[])(g:Ps.length<=24)(p:(jd ⟨#[59]⟩ Ps).size<=1200):gM (jd ⟨#[59]⟩ Ps)=(0,0,b):=by
 have h:=acO d f;generalize jd ⟨#[59]⟩ Ps=B at*;match Ps,b,a,d with
 |P::l,r::ys,a,_=>
  rw[Þ,Þ]at a;injection a with h1 h2;let⟨i,j,k,m⟩:=acV h1;let⟨z,c,e,n⟩:=UZ B.size 0 0 [] nQ nQ i P l r ys U (Ì _) (Ò _) ⟨U,A,U,(λ_=>rfl),(λq=>by simp[nQ]at q),Î ⟨U,U,U,U⟩⟩ h j k m h2 (by simp at g|-;omega);have o:B.size≠0:=λq=>by rw[q]at c;have:nQ=z:=congrArg Ř c;subst this;rcases e with w|w<;>cases w
  unfold gM lR lD;rw[if_neg Z,if_neg o,c,n];rcases e with w|w<;>simp[w]
 |_::_,[],a,_=>cases a
end
def nn(T:ByteArray)(k:Nat)(l:List UInt8):Prop:=∃r,T.data.toList.drop k=l++r
section
variable{T:ByteArray}{st b:PS}{d:PD}{l a:List UInt8}{want:Int}{tl:List Int}
def nn.I(h:nn T k (l++a)):nn T k l:=by let⟨r,e⟩:=h;exact⟨a++r,by rw[e,ć]⟩
theorem nn.C(h:nn T k (l++a)):nn T (k+l.length) a:=by let⟨r,e⟩:=h;refine⟨r,?_⟩;grind [List.drop_drop,ć,List.drop_left]
def nn.atV{c:UInt8}(h:nn T k (c::l)):∃a:k<T.size,T[k]=c:=by
 let⟨r,e⟩:=h;have b:=congrArg (λx=>x[0]?) e;simp only[Ă,Nat.add_zero,Ù,ó]at b;let⟨x,d⟩:=ă.1 b;have a:k<T.size:=by rwa[Â]at x
 refine⟨a,?_⟩;rw[<-d,é];rfl
def nn.r{c:UInt8}(h:nn T k (c::l)):nn T (k+1) l:=nn.C (l:=[c]) h
theorem pg{c:UInt8}(h:nn T k (c::l))(a:kS T k st (c.toNat:Int)=Ä b):jT T (i+1) k st=jT T i (k+1) b:=by let⟨d,e⟩:=h.atV;grind [wD]
def An(d:PD):Prop:=(d.M=È->4<=d.N.c.length)/\(d.M=á->4<=d.I.c.length)
def acX(h:i<zQ.length)(z:Int):(zQ.set i z).getD i 0=z:=by simp[Ď,h]
def atW(c:want=110\/want=107)(z a:Int):(d.fQ want z).fQ want a=d.fQ want a:=by
 have b:∀i,(d.iw i z).iw i a=d.iw i a:=λi=>by unfold PD.iw PD.oF PD.ot;cases d.M<;>simp
 rcases c with rfl|rfl
 .exact b 2
 .exact b 3
def atX(h:An d)(b:want=110\/want=107)(z:Int):(d.fQ want z).G want=z:=by
 have a:∀i,i<4->(d.iw i z).tL i=z:=λi c=>by
  unfold PD.iw PD.tL;cases q:d.M with
  |true=>
   have:=h.1 q;simp only[if_true,PD.oF,q];exact acX Z z
  |false=>
   have:=h.2 q;simp only[Bool.false_eq_true,if_false,PD.ot,q];exact acX Z z
 rcases b with rfl|rfl
 .exact a 2 A
 .exact a 3 A
def tO(st:PS)(want:Int)(tl:List Int)(n:Nat):PS:={st with C:=tl,r:=if n=0 then 0 else 6-(Ģ n:Int),M:=want,d:=st.d.fQ want n}
def acY(h:n<10):(þ<|48+n).toNat=48+n:=by
 have a:∀k:_root_.Fin 10,(þ<|48+k.val).toNat=48+k.val:=A
 exact a ⟨n,h⟩
def U0:∀k n,n<10^(k+1)->Ģ n<=k+1
 |0,n,h=>by rw[Ĉ (by simpa using h)];exact Ì _
 |k+1,n,h=>by
  by_cases q:n<10
  .rw[Ĉ q];omega
  .have:=U0 k (n/10) (by rw[Nat.pow_succ]at h;omega);rw[Ŀ q];omega
theorem atY(e:want=110\/want=107)(a:st.C=want::tl)(f:st.r=0)(h:n<10):kS T k st ((48+n:Nat):Int)=Ä (tO st want tl n):=by
 have g:jm ((48+n:Nat):Int)=È:=abo ⟨Z,Z⟩;have b:pb want ((48+n:Nat):Int)=È:=by unfold pb;grind
 have c:nj want ((48+n:Nat):Int)=n:=by unfold nj;grind
 have d:qL want ((48+n:Nat):Int)=if n=0 then 0 else 6-(Ģ n:Int):=by unfold qL;grind [Ĉ]
 unfold kS;rw[if_neg Z];unfold jS;simp only[a];rw[if_neg Z,if_neg Z,if_neg Z,if_neg Z,if_pos b];unfold ou tO;rw[c,d]
theorem atZ(f:An st.d)(g:want=110\/want=107)(b:n<1000000)(h:¬n<10):kS T k (tO st want tl<|n/10) ((48+n%10:Nat):Int)=Ä (tO st want tl n):=by
 have c:jm ((48+n%10:Nat):Int)=È:=abo ⟨Z,Z⟩;have i:=Ŀ h;have j:=U0 5 n b;have a:(tO st want tl<|n/10).r=6-(Ģ (n/10):Int):=if_neg Z;have l:pV ((n/10:Nat):Int) ((48+n%10:Nat):Int)=n:=by unfold pV;grind [IntWalk.i64_in]
 unfold kS;rw[if_pos ⟨by rw[a];omega,c⟩];unfold DX;rw[a];have e:(tO st want tl<|n/10).d.fQ (tO st want tl<|n/10).M (pV ((tO st want tl<|n/10).d.G (tO st want tl<|n/10).M) ((48+n%10:Nat):Int))=st.d.fQ want n:=by show(st.d.fQ want ((n/10:Nat):Int)).fQ want (pV ((st.d.fQ want ((n/10:Nat):Int)).G want) _)=_;grind [atX,atW]
 rw[e];unfold tO;grind
def U1(j:An st.d)(b:want=110\/want=107)(m:st.C=want::tl)(o:st.r=0):∀n,n<1000000->nn T k (fI n).data.toList->∀i,jT T (i+(fI n).size) k st=jT T i (k+(fI n).size) (tO st want tl n):=by
 intro n
 induction n using Ľ with
 |_ n p=>
  intro q f i;by_cases h:n<10
  .have e:(fI n).data.toList=[þ<|48+n]:=by rw[OB h,GF h]
   have a:(fI n).size=1:=by rw[OB h,GF h];rfl
   rw[e]at f;rw[a];apply pg f;rw[acY h];exact atY b m o h
  .have r:=UP h;have e:nn T k ((fI<|n/10).data.toList++(yo<|n%10).data.toList):=by
    simp_all
   have a:(fI n).size=(fI<|n/10).size+1:=by rw[r,Æ,GF Z];rfl
   rw[a,show i+((fI<|n/10).size+1)=i+1+(fI<|n/10).size by omega,p (n/10) Z Z e.I<|i+1];have g:=e.C;rw[Â,GF Z]at g;rw[<-Nat.add_assoc];apply pg (c:=þ<|48+n%10) (l:=[]) g;rw[acY Z];exact atZ j b q h
end
section
variable{T:ByteArray}{st a:PS}{d:PD}{l b:List UInt8}{want:Int}{tl:List Int}{N K:Nat}
def at0(h:An d)(e:want=110\/want=107)(z:Int):An (d.fQ want z):=by
 have b:∀i,An (d.iw i z):=λi=>by
  unfold PD.iw;split
  .rename_i q;exact⟨λ_=>by show 4<=(d.N.c.set i z).length;rw[ŀ];exact h.1 q,λa=>absurd q<|by rw[show d.M=á from a];decide⟩
  .rename_i q;exact⟨λa=>absurd a q,λa=>by show 4<=(d.I.c.set i z).length;rw[ŀ];exact h.2 a⟩
 rcases e with rfl|rfl
 .exact b 2
 .exact b 3
def U2{c:UInt8}(h:nn T k (c::l))(b:st.C=(c.toNat:Int)::tl)(a:c=44\/c=41):jT T (i+1) k st=jT T i (k+1) {st with C:=tl,r:=0,M:=(c.toNat:Int)}:=by refine pg h ?_;unfold kS;rw[if_neg (by rcases a with rfl|rfl<;>simp[jm])];unfold jS;simp only[b];rcases a with rfl|rfl<;>rfl
def at5(e:An st.d)(f:st.C=[110,44,107,41])(g:st.r=0)(i:N<1000000)(j:K<1000000)(h:nn T k ((fI N).data.toList++44::((fI K).data.toList++[41])))(n:T.size=k+((fI N).size+1+(fI K).size+1)): ∃z,jT T (T.size-k) k st=(T.size,z)/\z.C=[]/\z.d=(st.d.fQ 110 N).fQ 107 K:=by
 have l:(fI N).data.toList.length=(fI N).size:=by rw[Â];rfl
 have m:(fI K).data.toList.length=(fI K).size:=by rw[Â];rfl
 have a:=h.C;have b:=a.r;have c:=b.C;rw[l]at a b c;rw[m]at c;rw[show T.size-k=0+1+(fI K).size+1+(fI N).size by omega,U1 e (Î U) f g N i h.I,U2 a (st:=tO st 110 [44,107,41] N) (tl:=[107,41]) U<|Î U,U1 (want:=107) (tl:=[41]) (at0 e (Î U) _) (û U) U U K j b.I,U2 c (tl:=[]) U<|û U];refine⟨_,ŗ ?_ U,U,U⟩;show k+(fI N).size+1+(fI K).size+1=T.size;omega
def at6(b:An st.d)(c:st.C=[107,41])(e:st.r=0)(f:K<1000000)(h:nn T k ((fI K).data.toList++[41]))(i:T.size=k+((fI K).size+1)): ∃z,jT T (T.size-k) k st=(T.size,z)/\z.C=[]/\z.d=st.d.fQ 107 K:=by
 have g:(fI K).data.toList.length=(fI K).size:=by rw[Â];rfl
 have a:=h.C;rw[g]at a;rw[show T.size-k=0+1+(fI K).size by omega,U1 (want:=107) (tl:=[41]) b (û U) c e K f h.I,U2 a (tl:=[]) U<|û U];refine⟨_,ŗ ?_ U,U,U⟩;show k+(fI K).size+1=T.size;omega
def Ao(h:n<1000000):(fI n).size<=6:=by unfold fI;rw[ù,å,Lib.decDigits_length];exact U0 5 n h
theorem acZ{z:PS}{r:PR}(h:lD T=(T.size,z))(a:z.C=[])(b:z.d.C=[r])(c:T.size<=1200)(e:T.size≠0):gM T=(0,0,[r]):=by unfold gM lR;grind
def cT(N K:Nat):ByteArray:=⟨(99::49::58::99::62::98::40::((fI N).data.toList++44::((fI K).data.toList++[41]))).toArray⟩
def mT(K:Nat):ByteArray:=⟨(109::49::58::99::62::98::40::((fI K).data.toList++[41])).toArray⟩
def ac0{l:List UInt8}:nn ⟨l.toArray⟩ 0 l:=⟨[],fi⟩
theorem at7(b:N<1000000)(c:K<1000000):gM (cT N K)=(0,0,[⟨[2,1,N,K,4,1,0,0],[]⟩]):=by
 have h:(fI N).data.toList.length=(fI N).size:=by rw[Â];rfl
 have i:(fI K).data.toList.length=(fI K).size:=by rw[Â];rfl
 have d:(cT N K).size=7+((fI N).size+1+(fI K).size+1):=by unfold cT;rw[ù,å];grind
 have a:nn (cT N K) 0 _:=ac0;have j:=Ao b;have l:=Ao c;let⟨z,e,f,g⟩:=at5 (T:=cT N K) (k:=7) (st:=⟨[110,44,107,41],0,0,40,⟨[],È,⟨[2,1,0,0,4,1,0,0],[]⟩,á,⟨[],⟨#[]⟩⟩⟩⟩) ⟨(λq=>by cases q),λ_=>(by show 4<=8;decide)⟩ U U b c a.r.r.r.r.r.r.r d;refine acZ (z:=z) ?_ f (by rw[g];rfl) Z Z;unfold lD;rw[<-e,show(cT N K).size=(cT N K).size-7+1+1+1+1+1+1+1 by omega];rw[pg a U,pg a.r U,pg a.r.r U,pg a.r.r.r U,pg a.r.r.r.r U,pg a.r.r.r.r.r U,pg a.r.r.r.r.r.r U];rfl
theorem aua(b:K<1000000):gM (mT K)=(0,0,[⟨[2,1,0,K,5,1,0,0],[]⟩]):=by
 have g:(fI K).data.toList.length=(fI K).size:=by rw[Â];rfl
 have c:(mT K).size=7+((fI K).size+1):=by unfold mT;rw[ù,å];grind [Đ,ã,Ł]
 have a:nn (mT K) 0 _:=ac0;have h:=Ao b;let⟨z,d,e,f⟩:=at6 (T:=mT K) (k:=7) (st:=⟨[107,41],0,0,40,⟨[],È,⟨[2,1,0,0,5,1,0,0],[]⟩,á,⟨[],⟨#[]⟩⟩⟩⟩) ⟨(λq=>by cases q),λ_=>(by show 4<=8;decide)⟩ U U b a.r.r.r.r.r.r.r c;refine acZ (z:=z) ?_ e (by rw[f];rfl) Z Z;unfold lD;rw[<-d,show(mT K).size=(mT K).size-7+1+1+1+1+1+1+1 by omega];rw[pg a U,pg a.r U,pg a.r.r U,pg a.r.r.r U,pg a.r.r.r.r U,pg a.r.r.r.r.r U,pg a.r.r.r.r.r.r U];rfl
end
end Go.Proofs.Y.ni
namespace Go.Proofs.Y.kI
open Go Go.Conc Go.Proofs Go.RowKit Go.Proofs.Y.Lift Go.Proofs.Y.gA Go.Proofs.Y.fq Go.Proofs.Y.ni
open Go.Conc.Lib Go.ConcR.Gen Go.Proofs.YtgpphkdoanciiaaGreatDoor
def mO(p:ByteArray):fH:=(Ed (rP p) gA.jy).getD gA.jy
def aub(p:ByteArray):Ed (rP p) gA.jy=Ä (mO p):=fp
def auc(p:ByteArray):((mO p).s 2).fu=1000:=fp
def aud(p:ByteArray):(mO p).h=1:=fp
def ac1{p:ByteArray}(h:gM (iw p)=(0,0,[rP p])):lS [gA.jy] (iw p)=(⟨#[49]⟩,0,[gA.jy,mO p]):=by rw[atQ h U U (v0:=gA.jy) U A,aub];rfl
section
variable{N K:Nat}{p:ByteArray}
def va(N K:Nat):List ByteArray:=[⟨#[114,49]⟩,cT N K,mT K,⟨#[114,49]⟩,cT N K,mT K,⟨#[100,49,58,104]⟩,⟨#[98,49,58,99]⟩]
def OL(N K:Nat):List PR:=[⟨[0,0,0,0,6,1,0,0],[]⟩,⟨[2,1,N,K,4,1,0,0],[]⟩,⟨[2,1,0,K,5,1,0,0],[]⟩,⟨[0,0,0,0,6,1,0,0],[]⟩,⟨[2,1,N,K,4,1,0,0],[]⟩,⟨[2,1,0,K,5,1,0,0],[]⟩,⟨[0,0,0,0,9,1,-1,0],[]⟩,⟨[2,0,0,0,3,1,0,0],[]⟩]
def aue:gM ⟨#[114,49]⟩=(0,0,[⟨[0,0,0,0,6,1,0,0],[]⟩]):=fp
def auf:gM ⟨#[100,49,58,104]⟩=(0,0,[⟨[0,0,0,0,9,1,-1,0],[]⟩]):=fp
def aug:gM ⟨#[98,49,58,99]⟩=(0,0,[⟨[2,0,0,0,3,1,0,0],[]⟩]):=fp
def ac2:j0 (cT N K):=by unfold j0 at*;simp[cT,GI N,GI K]
def ac3:j0 (mT K):=by unfold j0 at*;simp[mT,GI K]
theorem ac4(a:N<1000000)(b:K<1000000):(cT N K).size<=21:=by
 have c:=Ao a;have d:=Ao b;have e:(fI N).data.toList.length=(fI N).size:=by rw[Â];rfl
 have f:(fI K).data.toList.length=(fI K).size:=by rw[Â];rfl
 unfold cT;rw[ù,å];grind
def ac5(a:K<1000000):(mT K).size<=21:=by
 have c:=Ao a;have b:(fI K).data.toList.length=(fI K).size:=by rw[Â];rfl
 unfold mT;rw[ù,å];simp only[Đ,ã,b,Ł];omega
def ac6(b:N<1000000)(a:K<1000000):(jd ⟨#[59]⟩<|va N K).size<=1200:=by
 have c:=Ow ⟨#[59]⟩ U<|va N K;have d:=ac4 b a;have e:=ac5 a;have f:iM (va N K)=2+(cT N K).size+(mT K).size+2+(cT N K).size+(mT K).size+4+4:=by show 2+((cT N K).size+((mT K).size+(2+((cT N K).size+((mT K).size+(4+(4+0)))))))=_;omega
 have g:(va N K).length=8:=U;omega
def auh(b:N<1000000)(a:K<1000000):gM (jd ⟨#[59]⟩<|va N K)=(0,0,OL N K):=by
 refine atU ?_ (λP c=> ?_) (by simp[va]) (by simp[va])<|ac6 b a
 .simp only[va,OL,Þ,Ĕ,aue,auf,aug,at7 b a,aua a]
 .simp only[va,ý,č,or_false]at c;rcases c with rfl|rfl|rfl|rfl|rfl|rfl|rfl|rfl
  .decide
  .exact ac2
  .exact ac3
  .decide
  .exact ac2
  .exact ac3
  .decide
  .decide
def Ko(v:fH)(N K:Nat):List ByteArray:=[Ab<|ya v.s,DF<|gl v.s [] 2 1 N K,oE v.s 2 1 K 0 401,Ab<|ya v.s,DF<|gl v.s [] 2 1 N K,oE v.s 2 1 K 0 401,⟨#[45]⟩,⟨#[49,48,48,48]⟩]
def aui:fI 1000=⟨#[49,48,48,48]⟩:=fp
def auj(f:N<=400)(a:K<1000000)(p:ByteArray):lS [gA.jy,mO p] (jd ⟨#[59]⟩<|va N K)=(jd ⟨#[59]⟩<|Ko (mO p) N K,0,[gA.jy,mO p]):=by
 rw[atr (auh Z a) (by simp[OL])];have b:mb (nh [gA.jy,mO p]) 1=Ä (0,mO p):=acT (n:=1) U;have c:mb (nh [gA.jy,mO p]) (-1)=Ä (0,mO p):=by unfold mb nh;rw[if_pos U];simp only[Þ,Ĕ,ó,ė,tH,List.foldl,yb,aud];rfl
 apply congrArg λl=>(jd ⟨#[59]⟩ l,(0:Int),[gA.jy,mO p]);have l:DG []=⟨#[45]⟩:=if_pos U;have d:=auc p;generalize mO p=v at*;have e:¬400<N:=Z
 simp only[OL,Ko,Þ,Ĕ,rE,toQn,List.getD_cons_zero,List.getD_cons_succ,b,c,DL,atS,l];simp[d,e,aui]
end
section
variable{l:e9}
def auk(h:gN l)(p:nB<=l.w.heap.size)(r:B.size<=ê) (s:∀a,gN a->(∀b,l.O b->a.O b/\a.w.heap[b]?=l.w.heap[b]?)->l.w.heap.size<=a.w.heap.size->iN vQ a (G (f.at (y.put ((Q[i]?).bind (·.dst))<|ŝ #[Ë Ð (gM B).1,Ë Ð (gM B).2.1])<|Ç Q jJ::L) qX)): iN vQ l (G (Ê À 25 #[Á B] ä)<|f.at y (Ç Q (i::jJ)::L)::qX):=by
 have hF:=trivial;rw[enter_at #[Á B] Ĺ U];have e:(#[Á B]++Array.replicate (Tryz.f25.ntmps-(#[Á B]:Array Ñ).size) ö:Array Ñ)=#[Á B,ö,ö,ö,ö,ö,ö,ö,ö,ö,ö,ö,ö,ö,ö]:=fp
 rw[e];clear e;apply mC;apply fP (n:=20) h.fR.lw;repeat w_go ft
 refine Ã λ_ _=> ?_;refine wA (f:=36) (args:=#[Á B]) U fN (by k_ne) h.fR.lw (λw=>by go_simp) (λw=>É U Tryz.func36 U U #[]) λx c=> ?_;have j:=h.fM c;refine fq.fg.lE ?_<|abZ j.fR j.q (Å p c.r) r È _ _;rintro o z ⟨d,t,v,rfl,_⟩;have k:=jC.xG j d t;have m:∀b,l.O b->o.O b/\o.w.heap[b]?=l.w.heap[b]?:=λb q=>⟨d.O b q,(d.r.I b<|Î q).trans<|c.I b<|Î q⟩;have u:=Å c.r d.r.r;rw[Ě];generalize(gM B).1=er at*;generalize(gM B).2.1=UL at*;walk_nrm;apply fP (n:=40) k.fR.lw;repeat w_go ft
 u_in ft hF
 refine Ŗ U U Ĺ U ⟨by u_nil,?_⟩;refine Ã λ_ _=> ?_;exact .fy λC g=>⟨k.fM g,U,s _ (k.fM g) (λb q=>⟨(m b q).1,(g.I b<|Î (m b q).1).trans (m b q).2⟩)<|Å u g.r⟩
end
noncomputable def OM:ű:=(Tryz.f16.body.bind gA.ku).getD .skip
def Ee(B:ByteArray)(c:UInt8)(r:Bool)(i:Int)(u:Nat->Ñ):ł:=⟨#[Á B,Ë Ū c.toNat,u 2,u 3,Ó r,Ë Ð i,u 6,u 7,u 8,u 9,u 10,u 11,u 12,u 13,u 14,u 15,u 16],[]⟩
def Ap(B:ByteArray)(c:UInt8)(r:Bool)(i:Int)(a:ł):Prop:=∃u,a=Ee B c r i u
section
variable{Y:ł->Ô->Prop}{c:UInt8}
def aul(u:Nat->Ñ)(b:∀a,Ap B c á B.size a->H a w):ĕ À OM (Exit.then K<|QN H Y) (Ee B c á B.size u) w:=by
 unfold Ee;conv=>arg 2;whnf
 go_wp2_with fail
 exact b _ (gA.gk _)
theorem aum(u:Nat->Ñ)(i:Nat)(j:i<B.size)(e:B.size<=ê)(f:B[i]≠c->∀a,Ap B c á ((i+1:Nat):Int) a->K a w)(g:B[i]=c->∀a,Ap B c È i a->Y a w):ĕ À OM (Exit.then K<|QN H Y) (Ee B c á i u) w:=by
 unfold Ee;conv=>arg 2;whnf
 have k:Ð.wrap ((i:Int)+1)=((i+1:Nat):Int):=by unfold ê at e;exact IntWalk.i64_in _ ⟨Z,Z⟩
 have b:=fc<|ñ f g;clear f g e;by_cases d:B[i]=c
 .have h:((B[i].toNat:Int)==(c.toNat:Int))=È:=by rw[d];simp
  go_wp2_with fail
  exact b.out.2 d _ (gA.gk _)
 .have h:((B[i].toNat:Int)==(c.toNat:Int))=á:=by
   grind [ÿ]
  go_wp2_with fail
  exact b.out.1 d _ (gA.gk _)
def U3(B:ByteArray)(c:UInt8)(yQ:Bool)(u:Ô)(a:ł)(w:Ô):Prop:=∃i:Nat,Ap B c á i a/\i<=B.size/\decide (c∈B.data.toList.drop i)=yQ/\w=u
def HsE(B:ByteArray)(c:UInt8)(yQ:Bool)(u:Ô)(a:ł)(w:Ô):Prop:=Ap B c á B.size a/\yQ=á/\w=u
def HsR(B:ByteArray)(c:UInt8)(yQ:Bool)(u:Ô)(a:ł)(w:Ô):Prop:=∃i:Nat,Ap B c È i a/\yQ=È/\w=u
def xY(B:ByteArray)(a:ł)(_:Ô):Nat:=match a.tmps.getD 5 ö with
 |Ë _ i=>B.size-i.toNat
 |_=>0
def Jx{r:Bool}(b:Ap B c r i y):xY B y w=B.size-i:=by obtain⟨u,rfl⟩:=b;show B.size-(i:Int).toNat=_;simp
theorem aun(h:B.size<=ê)(a:ł)(w:Ô)(j:U3 B c yQ u a w): ĕ À OM (Exit.then (λb d=>U3 B c yQ u b d/\xY B b d<xY B a w)<|QN (HsE B c yQ u)<|HsR B c yQ u) a w:=by
 let⟨i,e,n,f,d⟩:=j;rw[Jx e];obtain⟨b,rfl⟩:=e;by_cases l:i=B.size
 .subst l;refine aul b λa q=>⟨q,?_,d⟩;rw[<-f,Ė (by rw[Â];exact Ì _)];rfl
 .have g:i<B.size:=Z
  have m:i<B.data.toList.length:=by rwa[Â]
  rw[Ą m,show B.data.toList[i]=B[i] by rw[é];rfl]at f;refine aum b i g h (λq a k=>⟨⟨i+1,k,Z,?_,d⟩,by rw[Jx k];omega⟩) λq a k=>⟨i,k,?_,d⟩;all_goals grind
def auo(B:ByteArray)(c:UInt8)(d:B.size<=ê)(w:Ô):ū À 16 #[Á B,Ë Ū c.toNat] w λe f=>e=Ē (Ó<|decide<|c∈B.data.toList)/\f=w:=by
 have L:∀a,Ap B c á (0:Nat) a->ĕ À (Ť OM) (QN (HsE B c (decide<|c∈B.data.toList) w)<|HsR B c (decide<|c∈B.data.toList) w) a w:=λa g=>
  wp_loop (U3 B c (decide<|c∈B.data.toList) w) (xY B) ⟨0,g,Ò _,U,U⟩<|aun d
 have H:=fc L;generalize decide (c∈B.data.toList)=yQ at*;clear L;go_enter ř,Tryz.ntmps16;go_wp2_with fail;refine ŋ ?_ (H.out _ (gA.gk _));rintro(_|(_|_)|_|_|_|_) a v hq;all_goals first|exact absurd hq id|skip
 .obtain⟨b,rfl,rfl⟩:=hq;obtain⟨u,rfl⟩:=b;unfold Ee;go_wp2_with fail;go_ret;exact⟨U,U⟩
 .obtain⟨i,b,rfl,rfl⟩:=hq;obtain⟨u,rfl⟩:=b;unfold Ee;go_ret;exact⟨U,U⟩
end
def aup{l:e9}(e:gN l)(f:nB<=l.w.heap.size)(c:UInt8)(g:B.size<=ê)(a:ĝ)(b:List ĝ): fq.fg À È (λh u=>jC l h/\h.d=l.d/\u=G (a.finish<|Ó<|decide<|c∈B.data.toList) b) l (G (Ê À 16 #[Á B,Ë Ū c.toNat] ä)<|a::b):= Kl e f fN (λu h=>by simp at h;rcases h with rfl|rfl;exact .kK _;exact .iE _ _) (λh=>by cases h;rfl) (auo B c g) È a b
def auq{T:ByteArray}(w:Ô)(h:B.size+T.size<=10^15):Sem.events À (Go.Op.stringOp BinOp.add B T) w #[]=#[]:=by
 have a:¬ê<B.size+T.size:=by unfold ê;omega
 simp[go_sem,Op.stringOp,a]
def oK{J:Jd}{l:e9}{b:Frame}{a:Act}{ops:Array Oper}{i:Nat}{rest:List Nat}{k:List Item}{cs:List Frame}{o:Oper}{x y:Operand}(S T U:ByteArray)(hb:gN l)(hU:S++T=U)(h:S.size+T.size<=10^15)(hn:fq.fg Tryz.prog true J l (G (b.at (a.put o.dst<|.string U)<|.inRegion ops rest::k) cs)) (ho:ops[i]?=some o:=by rfl) (qS:o.op=.binOp .add 9 x y 9:=by rfl) (hx:a.eval x=.string S:=by rfl) (hy:a.eval y=.string T:=by rfl) (hw:Region.wanted o (yielded ops a.tmps)=true:=by rfl) (hk:b.kind≠.early:=by k_ne): fq.fg Tryz.prog true J l (G (b.at a<|.inRegion ops (i::rest)::k) cs):=by
 subst hU;have h2:¬9223372036854775807<S.size+T.size:=Z
 refine nI (v:=Á<|S++T) ho hw hk hb.fR.lw hb.q (λw _=> ?_) (λw _ e he=> ?_) hn
 .let⟨d,p,t,q,af,g⟩:=o;simp only at qS;subst qS;simp only[Ī,hx,hy];go_simp
 .let⟨d,p,t,q,af,g⟩:=o;simp only at qS;subst qS;simp only[Ī,hx,hy]at he;simp[go_sem,auq w h]at he
section
variable{l a:e9}{s c:List fH}{S p:ByteArray}
def ac7(h:j1 X W l j b s)(d:gN l)(o:B.size<=ê)(p:lS s B=(S,0,c)) (q:∀a,gN a->j1 X W a j b c->iN vQ a (G (f.at (y.put ((Q[i]?).bind (·.dst))<|Ó È)<|Ç Q jJ::L) qX)): iN vQ l (G (Ê À 20 #[Ï<|Ä ⟨j,0,Ü⟩,Á B,Á S] ä)<|f.at y (Ç Q (i::jJ)::L)::qX):=by
 have hF:True:=trivial;rw[wz [_,_,_] 19 ģ];simp only[ë,Ù,Ö];conv in kZ _ _=>whnf
 apply mC;apply fP (n:=60) d.fR.lw;repeat w_go ft
 refine Ã λ_ _=> ?_;refine .fy λu e=>⟨d.fM e,U,?_⟩;have m:=d.fM e;refine ym (f:=17) (args:=#[Ï<|Ä ⟨j,0,Ü⟩,Á B]) m U fN (by k_ne) (λw=>by go_simp) (λw=>É U ŕ U U #[]) λr w=> ?_;refine acR ((h.fM e).fM w) (m.fM w) o λv g k=> ?_;rw[p]at k|-;dsimp only at k|-;walk_nrm;apply mC;apply fP (n:=60) g.fR.lw;repeat w_nl ft
 u_in ft hF
 refine Ć (t:=6) U U ģ U ⟨by u_nil,?_⟩;refine Ã λ_ _=> ?_;exact .fy λr w=>⟨g.fM w,U,q _ (g.fM w)<|k.fM w⟩
def ac8(r:gN l)(E:mM l.w)(F:∀d,d=1\/d=2\/d=3\/d=4->l.O d)(hp:p.size<=10^14*2)(k:Int)(M:-9223372036854775808<=k)(N:k<=9223372036854775807)(x:lS [gA.jy] (iw p)=(⟨#[49]⟩,0,c)) (P:∀a j b,gN a->j1 l.O l.w a j b c->l.w.heap.size<=j->iN vQ a (G (f.at (y.put ((Q[i]?).bind (·.dst))<|Ï<|Ä ⟨j,0,Ü⟩)<|Ç Q jJ::L) qX)): iN vQ l (G (Ê À 27 #[Á p,Ë Ð k] ä)<|f.at y (Ç Q (i::jJ)::L)::qX):=by
 have hF:True:=trivial;rw[wz [_,_] 17 Ĥ];simp only[ë,Ù,Ö];conv in kZ _ _=>whnf
 apply mC;apply fP (n:=40) r.fR.lw;repeat w_go ft
 refine Ã λ_ _=> ?_;refine .fy λw₁ z=>⟨r.fM z,U,?_⟩;have H:=r.fM z;refine ym (f:=15) (args:=#[Ë Ð k]) H U fN (by k_ne) (λw=>by go_simp) (λw=>É U Tryz.func15 U U #[]) λI g=> ?_;have s:fF l l.w I:=z.fe ⟨g.r,g.I,g.N,g.Y,g.S⟩;refine asV (H.fM g) (E.r (Å E.fv s.r) λd q=>s.I d<|Î<|F d q) F k M N λS j b W V h m=> ?_;have X:l.w.heap.size<=j:=Å s.r m.I;have J:j1 l.O l.w S j b [gA.jy]:=⟨⟨W,V,m.r⟩,λd q=>⟨⟨(m.C d q).1,(m.C d q).2.trans<|s.I d<|Î q⟩,by have:=r.fR.fv d<|Î q;omega⟩⟩;clear m;obtain⟨o,B⟩:∃T,(⟨#[105,48,58,97,47,98,123]⟩++p:ByteArray)=T:=⟨_,U⟩;obtain⟨u,C⟩:∃T,(o++⟨#[125]⟩:ByteArray)=T:=⟨_,U⟩;have Y:o.size=7+p.size:=by rw[<-B,Æ];rfl
 have z2:u.size=7+p.size+1:=by rw[<-C,Æ,Y];rfl
 have e2:iw p=u:=by rw[<-C,<-B];rfl
 rw[e2]at x;walk_nrm;apply mC;apply fP (n:=40) h.fR.lw;repeat w_go ft
 refine Ã λ_ _=> ?_;apply nI (v:=Ó á) U fN (by k_ne) h.fR.lw h.q (λw _=>by go_simp) (λw _ e D=>by simp[go_sem,Ox]at D);walk_nrm;apply fP (n:=60) h.fR.lw;repeat w_nl ft
 refine Ã λ_ _=> ?_;refine oK ⟨#[105,48,58,97,47,98,123]⟩ p o h B (by show 7+p.size<=_;omega) ?_;walk_nrm;refine oK o ⟨#[125]⟩ u h C (by show o.size+1<=_;omega) ?_;walk_nrm;refine .fy λaci e=>⟨h.fM e,U,?_⟩;refine ym (f:=20) (args:=#[Ï<|Ä ⟨j,0,Ü⟩,Á u,Á ⟨#[49]⟩]) (h.fM e) U fN (by k_ne) (λw=>by go_simp) (λw=>É U ģ U U #[]) λsf K=> ?_;refine ac7 ((J.fM e).fM K) ((h.fM e).fM K) (by unfold ê;omega) x λl6 D u6=> ?_;clear J x;walk_nrm;apply mC;apply fP (n:=60) D.fR.lw;repeat w_nl ft
 u_in ft hF
 refine Ć (t:=4) U U Ĥ U ⟨by u_nil,?_⟩;refine Ã λ_ _=> ?_;exact .fy λI g=>⟨D.fM g,U,P _ _ _ (D.fM g) (u6.fM g) X⟩
end
def sN(c:Int)(n:Nat):Nat:=((if c<0 then-(c+1)else c)%(n:Int)).toNat
def U4(c:Int)(h:0<n):sN c n<n:=by unfold sN;have a:=Int.emod_lt_of_pos (if c<0 then-(c+1)else c) (show(0:Int)<n by omega);have b:=ě (if c<0 then-(c+1)else c) (show(n:Int)≠0 by omega);omega
def ac9(c:Int)(f:-9223372036854775808<=c)(g:c<=9223372036854775807)(i:0<n)(j:n<=1000000)(w:Ô):ū À 30 #[Ë Ð c,Ë Ð n] w λe d=>e=Ē (Ë Ð<|sN c n)/\d=w:=by
 have k:((n:Int)==0)=á:=by simp;omega
 have b:(n:Int)≠0:=Z
 unfold sN;by_cases h:c<0
 .rw[if_pos h];have a:=ě (-(c+1)) b;have e:-(c+1).tmod n=(-(c+1))%n:=by rw[<-Int.neg_tmod,è Z]
  have H:=fc<|ñ e.symm a;clear e a;go_enter ĺ,ō;go_wp2;go_ret;exact⟨by rw[Int.toNat_of_nonneg H.out.2,H.out.1];rfl,U⟩
 .rw[if_neg h];have a:=ě c b;have e:c.tmod n=c%n:=è Z;have H:=fc<|ñ e.symm a;clear e a;go_enter ĺ,ō;go_wp2;go_ret;exact⟨congrArg (λz=>Ē<|Ë Ð z) (Int.max_eq_left H.out.2).symm,U⟩
def aur(c:Int)(b:-9223372036854775808<=c)(d:c<=9223372036854775807)(w:Ô):ū À 29 #[Ë Ð c] w λe a=>e=Ē (Á<|fI<|sN c 1000000)/\a=w:=by
 have g:=U4 c (n:=1000000) A;have h:ħ.wrap ((sN c 1000000:Nat):Int)=(sN c 1000000:Nat):=by rw[Ĵ];omega
 have H:=fc<|ñ (ac9 c b d (n:=1000000) A A w)<|acH (sN c 1000000) Z w;generalize sN c 1000000=m at*;go_enter Ś,Tryz.ntmps29;go_wp2_with (first|(go_at_call 30;refine H.out.1.mono ?_;rintro e a ⟨rfl,f⟩;subst a)|(go_at_call 21;refine H.out.2.mono ?_;rintro e a ⟨rfl,f⟩;subst a));go_ret;exact⟨U,U⟩
section
variable{l a:e9}{s o:List fH}{p:ByteArray}{g:ĝ}
def aus(b:gN l)(e:nB<=l.w.heap.size)(c:Int)(f:-9223372036854775808<=c)(i:c<=9223372036854775807)(j:0<n)(k:n<=1000000): fq.fg À È (λa h=>jC l a/\a.d=l.d/\h=G (g.finish<|Ë Ð<|sN c n) qX) l (G (Ê À 30 #[Ë Ð c,Ë Ð n] ä)<|g::qX):= Kl b e fN (λu h=>by simp at h;rcases h with rfl|rfl<;>exact .iE _ _) (λh=>by cases h;rfl) (ac9 c f i j k) È g qX
def aut(b:gN l)(e:nB<=l.w.heap.size)(c:Int)(f:-9223372036854775808<=c)(i:c<=9223372036854775807): fq.fg À È (λa h=>jC l a/\a.d=l.d/\h=G (g.finish<|Á<|fI<|sN c 1000000) qX) l (G (Ê À 29 #[Ë Ð c] ä)<|g::qX):= Kl b e fN (λu h=>by simp at h;subst h;exact .iE _ _) (λh=>by cases h;rfl) (aur c f i) È g qX
def auu(b:gN l)(c:nB<=l.w.heap.size)(e:n<18446744073709551616): fq.fg À È (λa h=>jC l a/\a.d=l.d/\h=G (g.finish<|Á<|fI n) qX) l (G (Ê À 21 #[Ë ħ n] ä)<|g::qX):= Kl b c fN (λu h=>by simp at h;subst h;exact .iE _ _) (λh=>by cases h;rfl) (acH n e) È g qX
def auv(d:gN l)(B:nB<=l.w.heap.size)(V:p.size<=10^14*2) (e:∀a,gN a->(∀b,l.O b->a.O b/\a.w.heap[b]?=l.w.heap[b]?)->l.w.heap.size<=a.w.heap.size->iN vQ a (G (f.at (y.put ((Q[i]?).bind (·.dst))<|Ó<|decide ((gM<|iw p).1=0)&&!decide (125∈p.data.toList))<|Ç Q jJ::L) qX)): iN vQ l (G (Ê À 28 #[Á p] ä)<|f.at y (Ç Q (i::jJ)::L)::qX):=by
 have hF:True:=trivial;obtain⟨k,u⟩:∃T,(⟨#[105,48,58,97,47,98,123]⟩++p:ByteArray)=T:=⟨_,U⟩;obtain⟨g,v⟩:∃T,(k++⟨#[125]⟩:ByteArray)=T:=⟨_,U⟩;have M:k.size=7+p.size:=by rw[<-u,Æ];rfl
 have W:g.size=7+p.size+1:=by rw[<-v,Æ,M];rfl
 have N:iw p=g:=by rw[<-v,<-u];rfl
 rw[N]at e;rw[wz [_] 20 ĥ];simp only[ë,Ù,Ö];conv in kZ _ _=>whnf
 apply mC;apply fP (n:=60) d.fR.lw;repeat w_go ft
 refine Ã λ_ _=> ?_;refine oK ⟨#[105,48,58,97,47,98,123]⟩ p k d u (by show 7+p.size<=_;omega) ?_;walk_nrm;refine oK k ⟨#[125]⟩ g d v (by show k.size+1<=_;omega) ?_;walk_nrm;refine .fy λX m=>⟨d.fM m,U,?_⟩;refine ym (f:=25) (args:=#[Á g]) (d.fM m) U fN (by k_ne) (λw=>by go_simp) (λw=>É U Ĺ U U #[]) λC c=> ?_;have D:=Å m.r c.r;refine auk ((d.fM m).fM c) (Å B D) (by unfold ê;omega) λP s F H=> ?_;obtain⟨E,S⟩:∃E,(gM g).1=E:=⟨_,U⟩;rw[S]at e|-;generalize(gM g).2.1=UL;walk_nrm;apply mC;apply fP (n:=60) s.fR.lw;repeat w_nl ft
 refine Ã λ_ _=> ?_;refine wA (f:=16) (args:=#[Á p,Ë Ū 125]) U fN (by k_ne) s.fR.lw (λw=>by go_simp) (λw=>É U ř U U #[]) λY o=> ?_;have I:l.w.heap.size<=P.w.heap.size:=Å D H;refine fq.fg.lE ?_ (aup (s.fM o) (Å B<|Å I o.r) 125 (by unfold ê;omega) _ _);rintro x g5 ⟨r,J,rfl⟩;have h:=jC.xG (s.fM o) r J;have j:∀b,l.O b->x.O b/\x.w.heap[b]?=l.w.heap[b]?:=λb q=>by let⟨z,K⟩:=F b q;exact⟨r.O b z,(r.r.I b<|Î z).trans<|(o.I b<|Î z).trans<|K.trans<|(c.I b<|Î q).trans<|m.I b<|Î q⟩
 have K:l.w.heap.size<=x.w.heap.size:=Å I<|Å o.r r.r.r;rw[Ě];generalize decide (125∈p.data.toList)=hs at*;clear F H r J;by_cases z:E=0
 .subst z;rw[decide_eq_true U,Bool.true_and]at e;walk_nrm;apply fP (n:=60) h.fR.lw;repeat w_nl ft
  u_in ft hF
  refine Ć (t:=2) U U ĥ U ⟨by u_nil,?_⟩;refine Ã λ_ _=> ?_;exact .fy λC c=>⟨h.fM c,U,e _ (h.fM c) (λb q=>⟨(j b q).1,(c.I b<|Î (j b q).1).trans (j b q).2⟩)<|Å K c.r⟩
 .rw[decide_eq_false z,Bool.false_and]at e;have lu:(E==0)=á:=by rwa[beq_eq_false_iff_ne]
  walk_nrm;apply fP (n:=60) h.fR.lw;repeat w_nl ft
  u_in ft hF
  refine Ć (t:=2) U U ĥ U ⟨by u_nil,?_⟩;refine Ã λ_ _=> ?_;exact .fy λC c=>⟨h.fM c,U,e _ (h.fM c) (λb q=>⟨(j b q).1,(c.I b<|Î (j b q).1).trans (j b q).2⟩)<|Å K c.r⟩
end
end Go.Proofs.Y.kI
namespace Go.Proofs.Y.fq
open Go Go.Conc Go.Proofs.Y.Lift Go.RowKit Go.Conc.Lib Go.ConcR.Gen
def ada(a:Array Ħ):Bool:=(â a.size).all λi=>match a[i]? with
 |none=>È
 |some o=>o.dst.isSome&&(match o.op with|.select _ _=>á|_=>È)&&(o.op.operands.toList.all λx=>match x with
  |.tmp d=>(â a.size).all λj=>((a[j]?).bind (·.dst)) !=Ä d||o.after.toList.any λe=>e.on==j&&vC e
  |_=>È)&&(match o.guard with
  |none=>È
  |some (j,_)=>o.after.toList.any λe=>e.on==j&&vC e)
def Ef(a:Array Ħ)(t:Array Ñ)(i:Nat):Ñ:=t.getD (((a[i]?).bind (·.dst)).getD 0) ö
def ON(p:Nat->Ħ->Prop):Nat->List Ħ->Prop
 |_,[]=>True
 |n,o::r=>p n o/\ON p (n+1) r
def auw{p:Nat->Ħ->Prop}:∀(l:List Ħ) (n i:Nat) (o:Ħ),ON p n l->l[i]?=Ä o->p (n+i) o:=by
 intro l
 induction l with
 |nil=>intro n i o _ e;simp at e
 |cons x l a=>
  intro n i o h e;cases i with
  |zero=>
   rw[ó]at e;obtain rfl:=Õ e;exact h.1
  |succ i=>
   rw[ò]at e;rw[show n+(i+1)=n+1+i by omega];exact a _ i o h.2 e
section
variable{J:Jd}{l:e9}{c:Array Ñ}
def lJ.N(h:lJ Q q (Ef Q c) wJ y)(g:∀d,Q.toList.all (λo=>o.dst !=Ä d)=È->c[d]?=q[d]?)(i:c.size=q.size)(k:re Q q.size=È){d:Nat}(l:∀j o,Q[j]?=Ä o->o.dst=Ä d->wJ.getD j á=È):y.tmps[d]?=c[d]?:=by
 by_cases a:Q.toList.all (λo=>o.dst !=Ä d)=È
 .rw[h.C a,g d a]
 .obtain⟨j,m,b⟩:∃j,∃h:j<Q.size,Q[j].dst=Ä d:=by simpa using a
  have e:=í m;have f:d<c.size:=by rw[i];exact YZ k e b
  rw[h.r j _ d e (l j _ e b) b,Ef,e,í f];simp[b,f]
def GK:List Ħ->List Ñ->Array Ñ->Array Ñ
 |o::os,v::vs,t=>GK os vs (match o.dst with|some d=>t.setIfInBounds d v|none=>t)
 |_,_,t=>t
def GM:∀(a:List Ħ) (b:List Ñ) (t:Array Ñ),(GK a b t).size=t.size/\∀d,a.all (λo=>o.dst !=Ä d)=È->(GK a b t)[d]?=t[d]?
 |[],_,t=>⟨U,λ_ _=>rfl⟩
 |o::a,[],t=>⟨U,λ_ _=>rfl⟩
 |o::a,v::b,t=>by
  unfold GK;cases c:o.dst with
  |none=>
   refine⟨(GM a b t).1,λd h=>(GM a b t).2 d ?_⟩;simp only[ņ,à]at h;exact h.2
  |some e=>
   refine⟨by rw[(GM a b _).1];simp,λd h=> ?_⟩;simp only[ņ,à,c]at h;rw[(GM a b _).2 d h.2,Array.getElem?_setIfInBounds_ne (by simpa using h.1)]
end
def adb(P:ť)(h:Bool)(l:e9)(b:ĝ)(k:List Ů)(j:List ĝ)(g:Array Ħ)(d:Array Ñ)(i:Nat)(o:Ħ):Prop:=
 ċ o (į g d)=È/\((∀c,fF l l.w c->(Ī (Act.eval ⟨d,[]⟩) o).run P c=.ok (.value<|Ef g d i) c/\∀e∈(Ī (Act.eval ⟨d,[]⟩) o).events P c #[],vB l e)\/
  ∃f e,(∀w,(Ī (Act.eval ⟨d,[]⟩) o).run P w=.ok (.enter f e) w)/\(∀w,(Ī (Act.eval ⟨d,[]⟩) o).events P w #[]=#[])/\
   ∀c,fF l l.w c->∀(a:ł) (m:List Nat) (J:Jd),fg P h J {l with w:=c} (G (b.at (a.put ((g[i]?).bind (·.dst)) (Ef g d i)) (Ç g m::k)) j)->fg P h J {l with w:=c} (G (Ê P f e ä) (b.at a (Ç g (i::m)::k)::j)))
section
variable{J:Jd}{l:e9}
theorem auy{id:Nat}(B:jW l)(K:¬l.q)(M:f.kind≠.early)(m:re Q d.size=È)(V:ada Q=È)(W:∀t,LU t Q (â Q.size) []=È)(C:q.size=d.size)(D:∀a,Q.toList.all (λo=>o.dst !=Ä a)=È->q[a]?=d[a]?) (X:ON (adb P yQ l f L qX Q q) 0 Q.toList) (hn:∀b,fF l l.w b->fg P yQ J {l with w:=b} (G (f.at ⟨q,[]⟩<|Ç Q []::L) qX)):fg P yQ J l (G (f.at ⟨d,[]⟩<|Ţ (.region id Q È)::L) qX):=by
 refine LQ (λwJ y E=>lJ Q d (Ef Q q) wJ y/\∃b,fF l l.w b/\E={l with w:=b}) B K (λb r=>⟨lJ.G _ _ _,{b with drawn:=b.drawn+1},⟨r.r,r.I,r.N,r.Y,r.S⟩,U⟩) (λt wJ y E i N F k=> ?_) λt wJ y E F Y H=> ?_
 .obtain⟨h,b,r,rfl⟩:=F;obtain⟨o,c⟩:∃o,Q[i]?=Ä o:=⟨_,í<|zi k⟩;have I:=đ.1 V i<|õ.2<|zi k;rw[c]at I;simp only[à]at I;let⟨⟨⟨_,O⟩,KY⟩,S⟩:=I;have u:Ī y.eval o=Ī (Act.eval ⟨q,[]⟩) o:=execOp_congr o (λqX f e=>by rw[e]at O;cases O) λx hx=>by
   have p:=đ.1 KY x<|Array.mem_toList_iff.2 hx;cases x with
   |tmp a=>
    show y.tmps.getD a ö=q.getD a ö;have:=h.N D C m (d:=a) λj z n s=>by have:=đ.1 p j<|õ.2 (ç.1 n).1;simp only[n,ĵ,s,bne_self_eq_false,Bool.false_or]at this;exact ig k c this
    simp only[Array.getD_eq_getD_getElem?,this]
   |const v=>rfl
   |global g=>rfl
   |func g=>rfl
  have T:ċ o (į Q y.tmps)=ċ o (į Q q):=by
   unfold ċ;cases v:o.guard with
   |none=>rfl
   |some p=>
    let⟨j,bv⟩:=p;rw[v]at S;have hlj:=ig k c S;have:į Q y.tmps j=į Q q j:=by
     unfold į;cases n:Q[j]? with
     |none=>rfl
     |some oj=>
      cases s:oj.dst with
      |none=>simp[s]
      |some a=>
       have:=h.N D C m (d:=a) λj' z avo avp=>by grind [Y0]
       simp only[ĵ,s,this]
    simp only[this]
  have z:=auw _ _ _ _ X (show Q.toList[i]?=Ä o by rwa[Array.getElem?_toList]);rw[Ō]at z;rcases z.2 with vI|⟨g,args,H,he,hW⟩
  .refine nI c (T.trans z.1) M (lI B r) K (λv p=> ?_) (λv p=> ?_)<|.fy λv p=>⟨_,U,h.fQ m c k λ_=>rfl,v,r.fe ⟨p.r,p.I,p.N,p.Y,p.S⟩,U⟩
   .rw[u];exact(vI v<|r.fe ⟨p.r,p.I,p.N,p.Y,p.S⟩).1
   .rw[u];exact(vI v<|r.fe ⟨p.r,p.I,p.N,p.Y,p.S⟩).2
  .refine .mk U λv p=>⟨G (Ê P g args ä)<|f.at y (Ç Q (i::N)::L)::qX,v,#[],{l with w:=v},?_,LK v<|lI (l:={l with w:=b}) (lI B r) p,hW v (r.fe ⟨p.r,p.I,p.N,p.Y,p.S⟩) y N _<|.fy λCz s=>⟨_,U,?_,Cz,(r.fe ⟨p.r,p.I,p.N,p.Y,p.S⟩).fe ⟨s.r,s.I,s.N,s.Y,s.S⟩,U⟩⟩
   .rw[stepG_enter c (T.trans z.1) M (by rw[u];exact H v)];unfold ŭ;rw[u,he v,seen_none]
   .rw[show(Q[i]?).bind (·.dst)=o.dst by rw[c];rfl];exact h.fQ m c k λ_=>rfl
 .obtain⟨h,b,r,rfl⟩:=F;have v:=pI H Y _ [] (W t) λ_ g=>by cases g
  have e:y=⟨q,[]⟩:=by let⟨s,z⟩:=y;have p:=h.M;simp only at p;subst p;congr 1;refine Array.ext_getElem? λa=>h.N D C m λj o n _=>v j<|õ.2 (ç.1 n).1
  grind
def auz{id:Nat}(a:List Ñ)(c:jW l)(e:¬l.q)(g:f.kind≠.early)(i:re Q d.size=È)(j:ada Q=È)(k:∀m,LU m Q (â Q.size) []=È) (h:∀q,q=GK Q.toList a d->ON (adb P yQ l f L qX Q q) 0 Q.toList/\∀b,fF l l.w b->fg P yQ J {l with w:=b} (G (f.at ⟨q,[]⟩<|Ç Q []::L) qX)): fg P yQ J l (G (f.at ⟨d,[]⟩<|Ţ (.region id Q È)::L) qX):= auy c e g i j k (GM _ a _).1 (GM _ a _).2 (h _ U).1 (h _ U).2
end
end Go.Proofs.Y.fq
namespace Go.Proofs.Y.kI
open Go Go.Conc Go.Proofs Go.RowKit Go.Proofs.Y.Lift Go.Proofs.Y.gA Go.Proofs.Y.fq Go.Proofs.Y.ni
open Go.Conc.Lib Go.ConcR.Gen Go.Proofs.YtgpphkdoanciiaaGreatDoor
def vd(S T:ByteArray):∃a,S++T=a/\a.size=S.size+T.size:=⟨_,U,Æ⟩
def ade(r:gA.zI):j0 (DF r):=aty λx a=>by
 rcases Ę.1 a with z|z
 .simp at z;rcases z with rfl|rfl|rfl<;>exact GI _
 .exact atB _ atA _ x z
def auA(v:fH)(N K:Nat):∀x∈Ko v N K,j0 x:=λx a=>by
 simp only[Ko,ý,č,or_false]at a;rcases a with rfl|rfl|rfl|rfl|rfl|rfl|rfl|rfl
 .exact acJ _
 .exact ade _
 .exact US _ _ _ _ _ _
 .exact acJ _
 .exact ade _
 .exact US _ _ _ _ _ _
 .decide
 .decide
def auB(N K:Nat):((((⟨#[99,49,58,99,62,98,40]⟩++fI N)++⟨#[44]⟩)++fI K)++⟨#[41]⟩:ByteArray)=cT N K:=î<|ü.1<|by simp[cT,ú]
def auC(K:Nat):((⟨#[109,49,58,99,62,98,40]⟩++fI K)++⟨#[41]⟩:ByteArray)=mT K:=î<|ü.1<|by simp[mT,ú]
def auD(c m:ByteArray):((((((((⟨#[114,49,59]⟩++c)++⟨#[59]⟩)++m)++⟨#[59,114,49,59]⟩)++c)++⟨#[59]⟩)++m)++⟨#[59,100,49,58,104,59,98,49,58,99]⟩:ByteArray)=jd ⟨#[59]⟩ [⟨#[114,49]⟩,c,m,⟨#[114,49]⟩,c,m,⟨#[100,49,58,104]⟩,⟨#[98,49,58,99]⟩]:=î<|ü.1<|by simp[jd,T5,nN,ú]
noncomputable def adf:ű:=kZ Tryz.f12 [1,1,1,1,1,1,1,1]
noncomputable def vM (a:Array Ñ):Goroutine:=G ((base 12).at ⟨a,[]⟩ [Ţ adf]) []
section
variable{l:e9}{x:Nat}{s:List fH}{p:ByteArray}
def auE(h:j1 X W l x i [gA.jy,mO p])(hb:gN l)(hs:d.size=113)(z arg:Int)(t1:d[1]?=Ä (Ë Ð z))(t2:d[2]?=Ä (Ë Ð arg))(t12:d[12]?=Ä (Ï<|Ä ⟨x,0,Ü⟩))(g0:-9223372036854775808<=z)(g1:z<=9223372036854775807)(a0:-9223372036854775808<=arg)(a1:arg<=9223372036854775807) (hP:∀C,gN C->j1 X W C x i [gA.jy,mO p]->vQ (Ó È) C.w):iN vQ l (vM d):=by
 have hF:True:=trivial;obtain⟨u,rfl⟩:=xn d hs;have e1:u 1=Ë Ð z:=by simpa using t1
 have e2:u 2=Ë Ð arg:=by simpa using t2
 have e12:u 12=Ï (Ä ⟨x,0,Ü⟩):=by simpa using t12
 clear t1 t2 t12 hs;have avq:=U4 z (n:=401) A;have H:=U4 arg (n:=1000000) A;apply mC;apply fP (n:=60) hb.fR.lw;simp only[vM,â,ę,Ŕ,e1,e2,e12];conv in adf=>whnf
 repeat w_go ft
 refine Ã λ_ _=> ?_;refine It h hb Ś (λC b f g j=>aut b f arg a0 a1) λl2 hb2 u2 _=> ?_;clear h;generalize sN arg 1000000=K at*;walk_nrm;apply fP (n:=60) hb2.fR.lw;repeat w_nl ft
 refine Ã λ_ _=> ?_;refine It u2 hb2 ĺ (λC b f g j=>aus (n:=401) b f z g0 g1 A A) λl4 E u4 _=> ?_;clear u2;generalize sN z 401=N at*;have hwN:ħ.wrap (N:Int)=N:=by rw[Ĵ];omega
 walk_nrm;apply nI (v:=Ë ħ N) U fN (by k_ne) E.fR.lw E.q (λw _=>by go_simp) (λw _ e o=>by simp[go_sem]at o);walk_nrm;refine It u4 E Œ (λC b f g j=>auu (n:=N) b f Z) λl6 j u6 _=> ?_;clear u4;have O:=auj (N:=N) (K:=K) Z H p;have jk:=asQ u6.C<|jd ⟨#[59]⟩<|va N K;rw[O]at jk;have AV:=ac4 (N:=N) (K:=K) Z H;have hml:=ac5 (K:=K) H;have C9:=ac6 (N:=N) (K:=K) Z H;have Mv:=auB N K;have U5:=auC K;have U6:=auD (cT N K)<|mT K;have d1:=Ao (n:=N) Z;have d2:=Ao (n:=K) H;have Ex:=auA (mO p) N K;change lS _ (jd ⟨#[59]⟩ [⟨#[114,49]⟩,cT N K,mT K,⟨#[114,49]⟩,cT N K,mT K,⟨#[100,49,58,104]⟩,⟨#[98,49,58,99]⟩])=_ at O;change(jd ⟨#[59]⟩ [⟨#[114,49]⟩,cT N K,mT K,⟨#[114,49]⟩,cT N K,mT K,⟨#[100,49,58,104]⟩,⟨#[98,49,58,99]⟩]).size<=1200 at C9;have P:=fc<|ñ O<|ñ jk Ex;clear O jk Ex;generalize fI N=DN at*;generalize fI K=DK at*;generalize cT N K=c at*;generalize mT K=m at*;generalize jd ⟨#[59]⟩ [⟨#[114,49]⟩,c,m,⟨#[114,49]⟩,c,m,⟨#[100,49,58,104]⟩,⟨#[98,49,58,99]⟩]=J at*;let⟨F,E0,z1⟩:=vd ⟨#[99,49,58,99,62,98,40]⟩ DN;let⟨Q,s7,z2⟩:=vd F ⟨#[44]⟩;let⟨C3,U7,z3⟩:=vd Q DK;let⟨S,hM1,z4⟩:=vd ⟨#[109,49,58,99,62,98,40]⟩ DK;let⟨G,hT1,y1⟩:=vd ⟨#[114,49,59]⟩ c;let⟨T,EN,y2⟩:=vd G ⟨#[59]⟩;let⟨I,U8,y3⟩:=vd T m;let⟨Y,U9,y4⟩:=vd I ⟨#[59,114,49,59]⟩;let⟨L,Va,y5⟩:=vd Y c;let⟨T6,Vb,y6⟩:=vd L ⟨#[59]⟩;let⟨T7,Vd,y7⟩:=vd T6 m;rw[E0,s7,U7]at Mv;rw[hM1]at U5;rw[hT1,EN,U8,U9,Va,Vb,Vd]at U6;change F.size=7+DN.size at z1;change Q.size=F.size+1 at z2;change S.size=7+DK.size at z4;change G.size=3+c.size at y1;change T.size=G.size+1 at y2;change Y.size=I.size+4 at y4;change T6.size=L.size+1 at y6;walk_nrm;refine oK ⟨#[99,49,58,99,62,98,40]⟩ DN F j E0 (by show 7+DN.size<=_;omega) ?_;walk_nrm;refine oK F ⟨#[44]⟩ Q j s7 (by show F.size+1<=_;omega) ?_;walk_nrm;apply fP (n:=60) j.fR.lw;repeat w_nl ft
 refine Ã λ_ _=> ?_;apply oK Q DK C3 j U7 Z;walk_nrm;refine oK C3 ⟨#[41]⟩ c j Mv (by show C3.size+1<=_;omega) ?_;walk_nrm;apply fP (n:=60) j.fR.lw;repeat w_nl ft
 refine Ã λ_ _=> ?_;refine oK ⟨#[109,49,58,99,62,98,40]⟩ DK S j hM1 (by show 7+DK.size<=_;omega) ?_;walk_nrm;refine oK S ⟨#[41]⟩ m j U5 (by show S.size+1<=_;omega) ?_;walk_nrm;apply fP (n:=60) j.fR.lw;repeat w_nl ft
 refine Ã λ_ _=> ?_;refine oK ⟨#[114,49,59]⟩ c G j hT1 (by show 3+c.size<=_;omega) ?_;walk_nrm;refine oK G ⟨#[59]⟩ T j EN (by show G.size+1<=_;omega) ?_;walk_nrm;apply fP (n:=60) j.fR.lw;repeat w_nl ft
 refine Ã λ_ _=> ?_;apply oK T m I j U8 Z;walk_nrm;refine oK I ⟨#[59,114,49,59]⟩ Y j U9 (by show I.size+4<=_;omega) ?_;walk_nrm;apply fP (n:=60) j.fR.lw;repeat w_nl ft
 refine Ã λ_ _=> ?_;apply oK Y c L j Va Z;walk_nrm;refine oK L ⟨#[59]⟩ T6 j Vb (by show L.size+1<=_;omega) ?_;walk_nrm;apply fP (n:=60) j.fR.lw;repeat w_nl ft
 refine Ã λ_ _=> ?_;apply oK T6 m T7 j Vd Z;walk_nrm;refine oK T7 ⟨#[59,100,49,58,104,59,98,49,58,99]⟩ J j U6 (by show T7.size+10<=_;omega) ?_;walk_nrm;refine OJ u6 j ĸ (args:=#[Ï<|Ä ⟨x,0,Ü⟩,Á J,Ë Ð 8]) λl8 Ve u8 _ _=> ?_;refine atL (n:=7) u8 Ve (by unfold ê;omega) P.out.1 P.out.2.2 U P.out.2.1 λl9 k y M h9 hT=> ?_;clear P u8;unfold Ko at hT;generalize Ab (ya (mO p).s)=A at*;generalize DF (gA.gl (mO p).s [] 2 1 N K)=B at*;generalize oE (mO p).s 2 1 K 0 401=D at*;have HT:=fc hT;clear E0 s7 U7 hM1 hT1 EN U8 U9 Va Vb Vd Mv U5 U6 u6 hT;walk_nrm;apply ab4;apply fP (n:=60) M.fR.lw;repeat w_nl ft
 refine Ã λ_ _=> ?_;refine auz [Ó È,Ó È,ð (Ä ⟨k,0,Ü⟩) 8 y,Ï<|Ä ⟨k,0,Ü⟩,Á A,ð (Ä ⟨k,0,Ü⟩) 8 y,Ï<|Ä ⟨k,3,Ü⟩,Á A,Ó È,Ó È,Ó È,ð (Ä ⟨k,0,Ü⟩) 8 y,Ï<|Ä ⟨k,1,Ü⟩,Á B,ð (Ä ⟨k,0,Ü⟩) 8 y,Ï<|Ä ⟨k,4,Ü⟩,Á B,Ó È,Ó È,Ó È,ð (Ä ⟨k,0,Ü⟩) 8 y,Ï<|Ä ⟨k,2,Ü⟩,Á D,ð (Ä ⟨k,0,Ü⟩) 8 y,Ï<|Ä ⟨k,5,Ü⟩,Á D,Ó È,Ó È,Ó È,ð (Ä ⟨k,0,Ü⟩) 8 y,Ï<|Ä ⟨k,6,Ü⟩,Á ⟨#[45]⟩,Ó È,Ó È,Ó È,ð (Ä ⟨k,0,Ü⟩) 8 y,Ï<|Ä ⟨k,7,Ü⟩,Á ⟨#[49,48,48,48]⟩,Ó È,Ó È,Ó È,Ï<|Ä ⟨x,0,Ü⟩,Ë Ð 2,Ó È,Ó È,Ó È] M.fR.lw M.q (by k_ne) fp fp (λb=>by cases b<;>kernel_rfl) λt1 uz=> ?_;simp only[GK]at uz;simp at uz;subst uz;have g:=λf r=>(HT.out.r<|OH (w₁:=f) r).C;have adg:∀b,gZ l9 ⟨k,b,Ü⟩:=λb=>Î<|Î HT.out.fj;refine⟨?_,λf kh=> ?_⟩
 .iterate 42 refine⟨⟨fN,Î λf r=>⟨by
   have c0:=g f r 0 _ U;have V:=g f r 1 _ U;have c2:=g f r 2 _ U;have c3:=g f r 3 _ U;have c4:=g f r 4 _ U;have c5:=g f r 5 _ U;have c6:=g f r 6 _ U;have c7:=g f r 7 _ U;clear g;simp only[Ef];go_simp,λe o=>by
   first
   |(simp[go_sem]at o;done)
   |(simp[go_sem,g f r 0 _ U,g f r 1 _ U,g f r 2 _ U,g f r 3 _ U,g f r 4 _ U,g f r 5 _ U,g f r 6 _ U,g f r 7 _ U]at o;subst o;exact(adg _).rd)⟩⟩,?_⟩
  refine⟨⟨fN,û ⟨22,#[Ï<|Ä ⟨x,0,Ü⟩],λw=>by go_simp,λw=>É U Tryz.func22 U U #[],λf r a rest J hJ=>by let⟨sl,V,hA⟩:=(h9.fM r).a;exact ach (M.fM r) hA hJ⟩⟩,?_⟩;iterate 3 refine⟨⟨fN,Î λf r=>⟨by
   have c0:=g f r 0 _ U;clear g;simp only[Ef];go_simp,λe o=>by
   first
   |(simp[go_sem]at o;done)
   |(simp[go_sem,g f r 0 _ U,g f r 1 _ U,g f r 2 _ U,g f r 3 _ U,g f r 4 _ U,g f r 5 _ U,g f r 6 _ U,g f r 7 _ U]at o;subst o;exact(adg _).rd)⟩⟩,?_⟩
  trivial
 .have E:=M.fM kh;apply fP (n:=60) E.fR.lw;repeat w_nl ft
  refine Ã λ_ _=>(.fy λV e=>⟨U,Ó È,λw=>aco (t:=8) U U Ļ U fp,hP _ (E.fM e)<|(h9.fM kh).fM e⟩)
end
def kP:ByteArray:=⟨#[51,48,116,49,114]⟩
def auF:gM (iw kP)=(0,0,[rP kP]):=fp
def auG:lS [gA.jy,mO kP] ⟨#[103,49,58,98,48,59,99,49,58,99,62,98,40,57,57,44,48,41,59,103,49,58,98,48,59,100,49,58,104]⟩=(⟨#[48,59,49,44,49,44,49,48,59,48,59,45]⟩,0,[gA.jy,mO kP]):=fp
section
variable{l:e9}{s:List fH}{p:ByteArray}
def j1.adh(h:j1 X W l i n s):mM l.w/\∀b,b=1\/b=2\/b=3\/b=4->l.O b:=by let⟨_,_,a⟩:=h.a;exact⟨a.r,a.C⟩
def j1.auH{d:e9}{t:List fH}(h:j1 X W l i n s)(k:j1 l.O l.w d j b t):j1 X W d j b t:= ⟨k.a,λc q=>by let⟨⟨e,f⟩,_⟩:=h.r c q;let⟨⟨g,m⟩,o⟩:=k.r c e;exact⟨⟨g,m.trans f⟩,o⟩⟩
def auI(B:gN l)(J:mM l.w)(K:∀b,b=1\/b=2\/b=3\/b=4->l.O b)(L:p.size<=10^14*2)(s arg d:Int)(g0:-9223372036854775808<=s)(g1:s<=9223372036854775807)(a0:-9223372036854775808<=arg)(a1:arg<=9223372036854775807)(M:-9223372036854775808<=d)(N:d<=9223372036854775807) (P:∀c,gN c->(∀b,l.O b->c.O b/\c.w.heap[b]?=l.w.heap[b]?)->l.w.heap.size<=c.w.heap.size->vQ (Ó È) c.w): iN vQ l (G (Ê À 12 #[Á p,Ë Ð s,Ë Ð arg,Ë Ð d] ä) []):=by
 have hF:True:=trivial;rw[wz [_,_,_,_] 109 Ļ];simp only[ë,Ù,Ö];conv in kZ _ _=>whnf
 apply mC;apply fP (n:=40) B.fR.lw;repeat w_go ft
 refine Ã λ_ _=> ?_;refine .fy λw₁ C=>⟨B.fM C,U,?_⟩;have Q:=B.fM C;refine ym (f:=27) (args:=#[Á ⟨#[51,48,116,49,114]⟩,Ë Ð d]) Q U fN (by k_ne) (λw=>by go_simp) (λw=>É U Ĥ U U #[]) λpA g=> ?_;have j:fF l l.w pA:=C.fe ⟨g.r,g.I,g.N,g.Y,g.S⟩;refine ac8 (p:=kP) (Q.fM g) (J.r (Å J.fv j.r) λb q=>j.I b<|Î<|K b q) K A d M N (ac1 auF) λl3 i n k m S=> ?_;have T:l.w.heap.size<=i:=Å j.r S;have V:j1 l.O l.w l3 i n [gA.jy,mO kP]:=⟨m.a,λb q=>⟨⟨(m.r b q).1.1,(m.r b q).1.2.trans<|j.I b<|Î q⟩,(m.r b q).2⟩⟩;clear m S j;walk_nrm;apply mC;apply fP (n:=40) k.fR.lw;repeat w_go ft
 refine Ã λ_ _=> ?_;apply nI (v:=Ó á) U fN (by k_ne) k.fR.lw k.q (λw _=>by go_simp) (λw _ e D=>by simp[go_sem,Ox]at D);walk_nrm;apply fP (n:=60) k.fR.lw;repeat w_nl ft
 refine Ã λ_ _=> ?_;refine OJ V k ģ (args:=#[Ï<|Ä ⟨i,0,Ü⟩,Á ⟨#[103,49,58,98,48,59,99,49,58,99,62,98,40,57,57,44,48,41,59,103,49,58,98,48,59,100,49,58,104]⟩,Á ⟨#[48,59,49,44,49,44,49,48,59,48,59,45]⟩]) λl5 rW W _ _=> ?_;refine ac7 W rW A auG λl6 X Y=> ?_;clear V W;walk_nrm;apply mC;apply fP (n:=60) X.fR.lw;repeat w_nl ft
 refine Ã λ_ _=> ?_;refine OJ Y X ĥ (args:=#[Á p]) λl8 Ve E _ _=> ?_;refine auv Ve E.M L λl9 u hk9 tN=> ?_;have F:=E.I hk9 tN;clear Y E hk9 tN;have HP:∀c y H t,gN c->j1 l.O l.w c y H t->l.w.heap.size<=y->vQ (Ó È) c.w:=λc y H t x z I=>P c x (λb q=>(z.r b q).1) (by let⟨_,_,q⟩:=z.a;exact Å I<|Ŏ<|x.fR.fv y<|Î q.fj);clear P;by_cases o:(gM<|iw p).1=0/\125∉p.data.toList
 .rw[decide_eq_true o.1,decide_eq_false o.2];walk_nrm;apply mC;apply fP (n:=60) u.fR.lw;repeat w_nl ft
  refine Ã λ_ _=> ?_;refine OJ F u Ĥ (args:=#[Á p,Ë Ð d]) λl11 adi r _ _=> ?_;refine ac8 (p:=p) adi r.adh.1 r.adh.2 L d M N (ac1<|atT o.2 o.1) λl12 y H h k12 adj=> ?_;have u12:=r.auH k12;have I:l.w.heap.size<=y:=by let⟨_,_,q⟩:=r.a;exact Å T<|Å (Ŏ<|adi.fR.fv i<|Î q.fj) adj
  clear F r k12 adj;walk_nrm;apply mC;apply fP (n:=40) h.fR.lw;repeat w_nl ft
  refine Ã λ_ _=> ?_;apply nI (v:=Ó á) U fN (by k_ne) h.fR.lw h.q (λw _=>by go_simp) (λw _ e D=>by simp[go_sem,Ox]at D);walk_nrm;apply fP (n:=60) h.fR.lw;iterate 3 w_nl ft
  refine Ã λ_ _=> ?_;refine .fy λD e=>⟨h.fM e,U,?_⟩;refine auE (p:=p) (u12.fM e) (h.fM e) ?_ s arg ?_ ?_ ?_ g0 g1 a0 a1 λc x z=>HP c _ _ _ x z I;all_goals rfl
 .have h:(decide ((gM<|iw p).1=0)&&!decide (125∈p.data.toList))=á:=by
   rw[Bool.eq_false_iff];intro q;simp only[à,decide_eq_true_eq,Bool.not_eq_true',decide_eq_false_iff_not]at q;exact o q
  rw[h];walk_nrm;apply ab4;apply fP (n:=60) u.fR.lw;repeat w_nl ft
  refine Ã λ_ _=>(.fy λD e=>⟨U,Ó È,λw=>aco (t:=8) U U Ļ U fp,HP _ _ _ _ (u.fM e) (F.fM e) T⟩)
end
def auJ(d:mM W)(e:B.size<=10^14*2)(a arg c:Int)(g0:-9223372036854775808<=a)(f:a<=9223372036854775807)(g:-9223372036854775808<=arg)(h:arg<=9223372036854775807)(i:-9223372036854775808<=c)(j:c<=9223372036854775807): sL (λv w'=>v=Ó È/\nU W w') #[G (Ê À 12 #[Á B,Ë Ð a,Ë Ð arg,Ë Ð c] ä) []] W Ü #[]:= as0 (l:=acp W) (auI (acr W) d (as1 d) e a arg c g0 f g h i j λm _ v k=>⟨U,λb q=>(v b q).2,k⟩) (acr W) U
end Go.Proofs.Y.kI
