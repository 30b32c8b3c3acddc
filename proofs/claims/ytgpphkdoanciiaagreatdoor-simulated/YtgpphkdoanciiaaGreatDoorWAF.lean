import Derived.Test.YtgpphkdoanciiaaGreatDoorWAE
import Derived.Lib.LaidTab
import Derived.OpenShut
import Derived.Test.YtgpphkdoanciiaaGreatDoorRows
import Derived.Conc.LeavingOf
import Derived.LaidMore
import Derived.Stop.Joined
import Derived.Carry
import Derived.Orders
set_option linter.all false
set_option maxRecDepth 1000000
set_option maxHeartbeats 8000000
open Go.Proofs.Tryz renaming prog->À,func20->ģ,func27->Ĥ,func28->ĥ,underlying36->ī,t9->ĭ,underlying25->Į,underlying3->ı,underlying5->Ĳ,func24->ķ,func26->ĸ,func25->Ĺ,func30->ĺ,func12->Ļ,ntmps30->ō,func21->Œ,func17->ŕ,func16->ř,func29->Ś,type9->Ŝ,f24->Ŭ
open Go.Value renaming string->Á,int->Ë,pointer->Ï,bool->Ó,slice->ð,tuple->ŝ
open Array renaming length_toList->Â,toList_extract->Ý,getElem?_eq_some_iff->ç,getElem_toList->é,getElem?_eq_getElem->í,toList_inj->ü
open Go.Conc.Goes renaming stop->Ã
open Option renaming some->Ä,none->Ü,map_eq_some_iff->ē,map_some->ė,bind_some->ĵ
open Nat renaming le_trans->Å,le_refl->Ì,zero_le->Ò,sub_self->Ā,one_pos->Ķ,strongRecOn->Ľ,zero_add->Ō,le_of_lt->Ŏ
open ByteArray renaming size_append->Æ,data_extract->Ø,ext->î,size_extract->ø,size->ù,data_append->ú,getElem_extract->ń,extract_extract->Ņ,append_assoc->ŉ,append_empty->Ŋ,extract->Š
open Go.Item renaming inRegion->Ç,code->Ţ
open Bool renaming true->È,and_eq_true->à,false->á
open Go.Conc renaming events_call_body->É,goes_leave1->Ć,goes_leave2->Ŗ,listed->ŭ
open Go.Frame renaming enter->Ê,finish_at->Ě
open List renaming getElem?_eq_getElem->Í,nil_append->Ö,cons_append->Ù,map_cons->Þ,range->â,length_append->ã,size_toArray->å,replicate->ë,extract_eq_take_drop->ì,getElem?_cons_succ->ò,getElem?_cons_zero->ó,getElem?_map->ô,mem_range->õ,mem_cons->ý,take->ā,getElem?_drop->Ă,getElem?_eq_some_iff->ă,drop_eq_getElem_cons->Ą,getElem?_append_left->ą,append_assoc->ć,drop->Č,not_mem_nil->č,getD->Ď,flatMap_eq_nil_iff->ď,length_cons->Đ,all_eq_true->đ,map_nil->Ĕ,drop_eq_nil_of_le->Ė,mem_append->Ę,length_singleton->Ĝ,mem_singleton->ĩ,take_add_one->Ĭ,append_nil->ľ,length_set->ŀ,length_nil->Ł,all_cons->ņ,mem_map->ň,map->Ŕ
open Or renaming inl->Î,inr->û
open Go.IntKind renaming i64->Ð,u64->ħ,wrap_u64->Ĵ,wrap_i64->ţ,u8->Ū
open Go renaming Value->Ñ,World->Ô,maxLen->ê,undef->ö,Frame->ĝ,Oper->Ħ,execOp->Ī,yielded->į,Act->ł,laidMetH->Ń,TypeId->ŏ,Operand->Ő,DataW->ő,IntKind->Ş,Program->ť,Calls->ū,Item->Ů,Code->ű
open Option.some renaming inj->Õ,injEq->ş
open Go.Proofs.YtgpphkdoanciiaaGreatDoor.Rows renaming laid_math_bits_deBruijn32tab->Ú,laid_math_bits_deBruijn64tab->Û,laid_attic_attic_stepRules->ß,laid_internal_strconv_uint64pow10->æ
open Go.CallKind renaming normal->ä
open Int renaming tmod_eq_emod_of_nonneg->è,emod_nonneg->ě
open Go.DataW renaming trod->ï,trod_int->ğ,agg->ų
open And renaming intro->ñ
open UInt8 renaming ofNat->þ,toNat_inj->ÿ
open Go.Lib renaming nDigits_small->Ĉ,tabData->Ğ,nDigits->Ģ,nDigits_big->Ŀ
open Go.Obj renaming cells->ĉ,row?->Ũ
open Go.Instr renaming sliceAt->Ċ,sliceBound->ĳ,slice->œ
open Go.Region renaming wanted->ċ
open Go.Ending renaming returned->Ē
open Go.Code renaming wp->ĕ,wp_mono->ŋ,loop->Ť
open List.range renaming loop->ę
open Go.World renaming cell?->Ġ,var?->ś
open Prod renaming ext->ŗ,snd->Ř,fst->ũ
variable{i n j b k m J j9 j7 j6:Nat}{w u W jX:Ô}{v x z jQ:Ñ}{h c:Int}{e t T:ŏ}{d q:Array Ñ}{P:ť}{y:ł}{B:ByteArray}{X:Nat->Prop}{l:List Ñ}{yQ:Bool}{K H:ł->Ô->Prop}{o:Ħ}{L:List Ů}{jJ:List Nat}{qX:List ĝ}{qQ:Ő}{zQ:List Int}{xJ:Nat×Nat}{wJ:Array Bool}{vX:List ByteArray}{vQ:Ñ->Ô->Prop}{Q:Array Ħ}{f:ĝ}
namespace Go.Proofs.Y.kH
open Go Go.Conc Go.Proofs Go.RowKit Go.Proofs.Y.Lift Go.Proofs.Y.gw Go.Proofs.Y.fq Go.Proofs.Y.nh
open Go.Proofs.YtgpphkdoanciiaaGreatDoor (Rows.laid_math_bits_deBruijn32tab Rows.laid_math_bits_deBruijn64tab Rows.laid_internal_strconv_uint64pow10 Rows.laid_attic_attic_stepRules)
def Oy:List (String×DataW Unit):=[("math/bits.deBruijn32tab",Ú),("math/bits.deBruijn64tab",Û),("internal/strconv.uint64pow10",æ),("attic/attic.stepRules",ß)]
theorem Oz(h:W.ShapedOpen À)(g:Nat)(t:ŏ)(b:g<À.globals.size)(e:(((begin À (λ_ _=>0) default).world.heap[g]?).bind Ũ).map (·.2)=Ä t): ∃a,W.heap[g]?=Ä (ĉ a t):=by let⟨⟨z,c⟩,d,f⟩:=ē.1 e;let⟨a,i,_⟩:=h.1 g z c b d;grind
theorem acr{n:String}(b:À.globalNamed n=Ä i)(h:W.heap[i]?=Ä (ĉ q t xJ))(a:W.var? À n=Ä d):q=d:=by unfold ś at a;grind
def UN{n:String}{N:Nat}{k:Ş}{p:List MemPlace} (a:À.globalNamed n=Ä i) (f:(À.globals[i]?).map (·.type)=Ä t) (h:À.underlying t=Ä (.array N e)) (l:À.underlying e=Ä (.int k)) (m:À.cellsOf e=1) (o:À.cellsOf t=N) (r:W.heap[i]?=Ä (ĉ d t xJ)) (s:À.globalNamed n=Ä b) (u:(À.globals[b]?).map (·.type)=Ä T) (v:W.var? À n=Ä q) (w:ï (λ_=>()) À W 0 (λ_=>È) á j T q.toList=Ä (Ğ k zQ,p)):d=(zQ.map λz=>Ë k z).toArray:=by obtain rfl:=Õ<|a.symm.trans s;obtain rfl:=Õ<|f.symm.trans u;rw[acr a r v,<-Lib.cells_of_tab h l m o w]
def as0:À.cellsOf 299=3:=fp
def acs:À.cellsOf 36=1:=fp
def as1:À.cellsOf 3=1:=fp
def as2:À.cellsOf 300=69:=fp
def as3{p:List MemPlace}(v:ï (λ_=>()) À W 0 (λ_=>È) á n 300 l=Ä (ß,p)): l.length=69/\∀(i:Nat) (r:Int×Int×Int),iZ[i]?=Ä r->l[i*3]?=Ä (Ë ħ r.1)/\l[i*3+1]?=Ä (Ë Ð r.2.1)/\l[i*3+2]?=Ä (Ë Ð r.2.2):=by
 obtain⟨f,m,rfl,w,y,K,z⟩:=DataW.trod_array Tryz.underlying300 v;refine⟨y.trans as2,λi r o=> ?_⟩;have B:i<23:=by have:=(ă.1 o).1;exact this
 have g:=z i B;rw[as0]at g;have C:f.map (·.1)=iZ.map λr=>(ų [.lit<|.int ħ r.1,.lit<|.int Ð r.2.1,.lit<|.int Ð r.2.2]:ő Unit):=by have:=congrArg ũ w;simp only[ß,DataW.agg.injEq]at this;exact this.symm
 obtain⟨x,q⟩:∃x,f[i]?=Ä x:=⟨_,Í Z⟩;rw[q]at g;have d:(f.map (·.1))[i]?=Ä x.1:=by simp[q]
 rw[C]at d;simp only[ô,o,ė,ş]at d;obtain⟨e,h,rfl,j,L,D,k⟩:=DataW.trod_struct Tryz.underlying299 g;have a:=k 0 _ U;have b:=k 1 _ U;have c:=k 2 _ U;have a:ï _ À W 0 _ á h 36 (ā (À.cellsOf 36)<|Č 0<|ā 3<|Č (i*3) l)=e[0]?:=a;have b:ï _ À W 0 _ á h 3 (ā (À.cellsOf 3)<|Č 1<|ā 3<|Č (i*3) l)=e[1]?:=b;have c:ï _ À W 0 _ á h 3 (ā (À.cellsOf 3)<|Č 2<|ā 3<|Č (i*3) l)=e[2]?:=c;rw[acs]at a;rw[as1]at b c;match e,D,j,a,b,c with
 |[y0,y1,y2],_,j,a,b,c=>
  let⟨M,E,F,_⟩:=ğ ī (show ï _ _ _ _ _ _ _ 36 _=Ä y0 from a);let⟨N,G,H,_⟩:=ğ ı (show ï _ _ _ _ _ _ _ 3 _=Ä y1 from b);let⟨O,I,J,_⟩:=ğ ı (show ï _ _ _ _ _ _ _ 3 _=Ä y2 from c);subst F;subst H;subst J;rw[j]at d;simp only[Þ,Ĕ,DataW.agg.injEq,List.cons.injEq,DataW.lit.injEq,Lit.int.injEq,true_and,and_true]at d;obtain⟨rfl,rfl,rfl⟩:=d;have s:=congrArg (·[0]?) E;have t:=congrArg (·[0]?) G;have u:=congrArg (·[0]?) I;simp[List.getElem?_take,Ă]at s t u;exact⟨s,t,u⟩
def acu(h:∀v∈d.toList,∃k n,v=Ë k n):fR (ln X i) d d:=pQ λv a=>by obtain⟨k,n,rfl⟩:=h v a;exact .iC _ _
def as4{l:List (String×DataW Unit)}(h:Ń P l W)(a:(l.filter λx=>x.2.handleName?.isSome)=[]):∃b,DataW.LaidVars P W l b:=by unfold Ń at h;rw[a]at h;exact⟨h.choose,h.choose_spec.1⟩
def as5:À.cellsOf 304=32:=fp
def as6:À.cellsOf 305=64:=fp
def as7:À.cellsOf 291=20:=fp
def acv:À.cellsOf 5=1:=fp
def gn1:À.globalNamed "internal/strconv.uint64pow10"=Ä 1:=fp
def gn2:À.globalNamed "attic/attic.stepRules"=Ä 2:=fp
def gn3:À.globalNamed "math/bits.deBruijn32tab"=Ä 3:=fp
def gn4:À.globalNamed "math/bits.deBruijn64tab"=Ä 4:=fp
def OA(g:Nat)(t:ŏ)(h:(g,t)∈[(1,291),(2,300),(3,304),(4,305)]):(À.globals[g]?).map (·.type)=Ä t/\g<À.globals.size/\(((begin À (λ_ _=>0) default).world.heap[g]?).bind Ũ).map (·.2)=Ä t:=by
 simp only[ý,č,or_false,Prod.mk.injEq]at h;rcases h with⟨rfl,rfl⟩|⟨rfl,rfl⟩|⟨rfl,rfl⟩|⟨rfl,rfl⟩
 .exact⟨fp,of_decide_eq_true fp,fp⟩
 .exact⟨fp,of_decide_eq_true fp,fp⟩
 .exact⟨fp,of_decide_eq_true fp,fp⟩
 .exact⟨fp,of_decide_eq_true fp,fp⟩
def as8:ő Unit->Int
 |.lit (.int _ z)=>z
 |_=>0
def acw:ő Unit->List Int
 |ų l=>l.map as8
 |_=>[]
def as9:(Ú:ő Unit)=Ğ Ū (acw Ú):=rfl
def ata:(Û:ő Unit)=Ğ Ū (acw Û):=rfl
def atb:(æ:ő Unit)=Ğ ħ Lib.pow10Tab:=rfl
def atc{k:Ş}:∀v∈(zQ.map λz=>Ë k z).toArray.toList,∃k n,v=Ë k n:=λv a=>by simp only[ň]at a;obtain⟨z,_,rfl⟩:=a;exact⟨_,_,U⟩
def atd(k:Nat)(h:k<69):∃i j,i<23/\j<3/\k=i*3+j:=⟨k/3,k%3,Z,Z,Z⟩
theorem ate{W:Ô}(hs:W.ShapedOpen À)(hl:Ń À Oy W):mL W:=by
 obtain⟨ps,g3,t3,cs3,f3,p3,q3,UG,ht3,hv3,rZ,⟨g4,t4,cs4,f4,p4,q4,hg4,Ip,hv4,S3,⟨g1,t1,cs1,f1,p1,q1,uM,uy,hv1,CX,⟨g2,t2,cs2,f2,p2,q2,MR,KO,NY,na,_,_⟩,_⟩,_⟩,_⟩:=as4 hl (by kernel_rfl);obtain⟨y1,s1,z1⟩:=OA 1 291 (by simp);obtain⟨y2,s2,z2⟩:=OA 2 300 (by simp);obtain⟨y3,s3,z3⟩:=OA 3 304 (by simp);obtain⟨y4,s4,z4⟩:=OA 4 305 (by simp);obtain⟨c1,b1⟩:=Oz hs 1 291 s1 z1;obtain⟨c2,b2⟩:=Oz hs 2 300 s2 z2;obtain⟨c3,b3⟩:=Oz hs 3 304 s3 z3;obtain⟨c4,b4⟩:=Oz hs 4 305 s4 z4;rw[as9]at rZ;rw[ata]at S3;rw[atb]at CX;have e3:=UN gn3 y3 Tryz.underlying304 Ĳ acv as5 b3 UG ht3 hv3 rZ;have e4:=UN gn4 y4 Tryz.underlying305 Ĳ acv as6 b4 hg4 Ip hv4 S3;have e1:=UN gn1 y1 Tryz.underlying291 ī acs as7 b1 uM uy hv1 CX;obtain rfl:=Õ (gn2.symm.trans MR);obtain rfl:=Õ (y2.symm.trans KO);obtain⟨hlen,mG⟩:=as3 na;have e2:=acr gn2 b2 NY;subst e2;have atf:=λi r hr=>by have:=mG i r hr;simpa using this
 have acy:∀(k:Nat) (v:Ñ),c2[k]?=Ä v->∃(kd:Ş) (n:Int),v=Ë kd n/\kd≠Ū:=λk v hv=>by
  have hk:k<69:=by grind
  obtain⟨i,j,hi,hj,rfl⟩:=atd k hk;obtain⟨r,hr⟩:∃r,iZ[i]?=Ä r:=⟨_,Í (show i<iZ.length from hi)⟩;grind
 have ji:=(ç.1 b4).1;refine⟨?_,?_,⟨c3,_,b3,Ò _,Ò _,?_,?_⟩,⟨c4,_,b4,Ò _,Ò _,?_,?_⟩,?_,⟨⟨c2,_,b2⟩,λi r hr=> ?_⟩,?_⟩
 .have h5:nB=5:=by kernel_rfl
  omega
 .rintro b (rfl|rfl)
  .refine⟨c1,291,_,b1,Ò _,acu (by rw[e1];exact atc),by rw[e1];exact of_decide_eq_true (by kernel_rfl),λk v hv=> ?_,by decide,by decide⟩;rw[e1]at hv;simp only[List.getElem?_toArray,ô,ē]at hv;obtain⟨z,_,rfl⟩:=hv;rfl
  .refine⟨c2,300,_,b2,Ò _,acu λv hv=> ?_,?_,λk v hv=> ?_,by decide,by decide⟩
   .obtain⟨k,hk,e⟩:=List.mem_iff_getElem.1 hv;obtain⟨kd,n,e',_⟩:=acy k v (by rw[<-e];simp);grind
   .grind
   .obtain⟨kd,n,rfl,hn⟩:=acy k v hv;cases kd<;>first|rfl|exact absurd rfl hn
 .rw[e3];exact of_decide_eq_true (by kernel_rfl)
 .grind
 .rw[e4];exact of_decide_eq_true (by kernel_rfl)
 .grind
 .unfold gw.lO Lib.TabIs ś;rw[gn1];grind
 .obtain⟨h0,h1,h2⟩:=atf i r hr;exact⟨by simp only[Ġ,b2];exact h0,by simp only[Ġ,b2];exact h1,by simp only[Ġ,b2];exact h2⟩
 .unfold qI;simp only[Ġ,b4,e4];rfl
end Go.Proofs.Y.kH
namespace Go.Proofs.Y.kH
open Go Go.Conc Go.Proofs Go.RowKit Go.Proofs.Y.Lift Go.Proofs.Y.gw Go.Proofs.Y.fq Go.Proofs.Y.nh
open Go.Proofs.YtgpphkdoanciiaaGreatDoor (Rows.workersSpec Rows.workersRow Rows.WorkersSaid Tryz.pinned)
open Go.ChangeShapes Go.WideShapes Go.ChangeAt
def fj:ownKnob À.godebug=Ü:=fp
def atg{w':Ô}(h:nT W w')(a:w'.os=W.os)(b:w'.output=W.output):Below W.heap.size W {w' with tape:=W.tape}:=⟨a,U,b,h.EF,h.rL⟩
def ath(os:Os)(a:Array Ñ):Ń À Oy ((World.doorLaid À 400 os).forCall (λ_ _=>0) ⟨#[],a,[]⟩).memory:= laidMetH_of_parts3 (fuel:=8) (laidMet_of_run' 8 fp fp) fp fp
end Go.Proofs.Y.kH
namespace Go.Proofs.Y.nh
open Go Go.Proofs Go.RowKit Go.Proofs.Y.Lift Go.Proofs.Y.gw
def oI(B:ByteArray)(c:UInt8):Nat->Nat->Nat->List ByteArray
 |0,fr,_=>[B.extract fr B.size]
 |f+1,fr,i=>if h:i<B.size then if B[i]=c then B.extract fr i::oI B c f (i+1) (i+1)else oI B c f fr (i+1)else[B.extract fr B.size]
def acz:List Int->List (List Int)
 |[]=>[[]]
 |a::l=>(a::l)::acz l
def Al:List (List Int):=[[86,58,120,47,66],[86,58,120,115],[86,58,120],[86,58,120,62,121,40,110,44,107,41],[86,58,120,62,121,40,107,41],[86,58,87],[86],[121,61,110],[80],[120,84],[82]].flatMap acz
def ati:∀r∈Al,r.tail∈Al:=A
def acA:∀r∈Al,59∉r/\(r.headD 0=66->r=[66])/\(82∈r->r=[82])/\(80∈r->r=[80]):=A
def atj(k:Int):rE k∈Al/\rE k≠[82]/\80∉rE k:=by
 unfold rE;repeat' split
 all_goals decide
def acB(k:Int):sF k∈Al/\sF k≠[82]:=by
 unfold sF;repeat' split
 all_goals decide
structure k9(D:List PR)(a b:PD):Prop where
 M:a.r=È
 N:b.r=È
 C:a.S=D
 S:b.S=[]
 r:a.I=b.I
 I:a.M=b.M
 Y:b.M=È->a.N=b.N
structure D9(D:List PR)(k:Nat)(a b:PS):Prop where
 r:a.C=b.C
 C:b.C∈Al
 I:a.r=b.r
 N:0<b.r->a.M=b.M
 M:80∈b.C->a.I=b.I/\b.I.toNat<=k
 d:(b.C=[82]/\b.r=0/\a.d.C=D/\b.d.C=[])\/(b.C≠[82]/\k9 D a.d b.d)
section
variable{D:List PR}{a b:PD}
def k9.gJ(h:k9 D a b):a.Y=b.Y:=by
 unfold PD.Y;rw[h.I,h.r];split
 .rw[h.Y ‹_›]
 .rfl
theorem k9.G(h:k9 D a b):∃r,a.C=D++[r]/\b.C=[r]:=by unfold PD.C;rw[h.M,h.N,h.C,h.S,h.r,h.gJ];grind
def k9.om(h:k9 D a b)(i:Nat)(z:Int):k9 D (a.om i z) (b.om i z):= ⟨h.M,h.N,h.C,h.S,by unfold PD.om;rw[h.r],h.I,h.Y⟩
def k9.oE(h:k9 D a b)(i:Nat)(z:Int):k9 D (a.oE i z) (b.oE i z):= ⟨h.M,h.N,h.C,h.S,h.r,h.I,λq=>by unfold PD.oE;rw[h.Y q]⟩
def k9.iq(h:k9 D a b)(i:Nat)(z:Int):k9 D (a.iq i z) (b.iq i z):=by
 unfold PD.iq;rw[h.I];split
 .exact h.oE i z
 .exact h.om i z
def k9.fP(h:k9 D a b)(n z:Int):k9 D (a.fP n z) (b.fP n z):=by
 unfold PD.fP;repeat' split
 all_goals first|exact h.om _ _|exact h.iq _ _|exact h
theorem k9.Aq(h:k9 D a b)(n:Int):a.G n=b.G n:=by
 unfold PD.G PD.tK;rw[h.r,h.I];by_cases q:b.M=È
 .rw[h.Y q]
 .grind
def k9.oF(h:k9 D a b)(p:ByteArray):k9 D (a.oF p) (b.oF p):= ⟨h.M,h.N,h.C,h.S,h.r,h.I,λq=>by unfold PD.oF;rw[h.Y q]⟩
def k9.nO(h:k9 D a b):k9 D a.nO b.nO:= ⟨h.M,h.N,h.C,h.S,by unfold PD.nO;rw[h.r,h.gJ],U,λ_=>rfl⟩
end
section
variable{D:List PR}{a b g:PS}{o:Nat}{P:ByteArray}
def Kl(D:List PR)(k:Nat):Option PS->Option PS->Prop
 |some a,Ä b=>D9 D k a b
 |none,Ü=>True
 |_,_=>False
def acC(e:k9 D a.d b.d)(f:c≠59)(g:a.r=0/\b.r=0):Kl D (k+1) (pV a c) (pV b c):=by
 unfold pV;rw[if_neg λq=>f q.1,e.gJ,if_neg (c:=c=59/\b.d.S.length+1<24) λq=>f q.1];split
 .exact⟨U,(by decide:[120,84]∈Al),g.1.trans g.2.symm,(λq=>by have:0<b.r:=q;omega),(λq=>by simp at q),û ⟨(by decide:[(120:Int),84]≠[82]),e.nO⟩⟩
 .trivial
def acD(e:k9 D a.d b.d)(w:Int)(r:List Int)(f:r∈Al)(g:r≠[82])(h:80∉r):D9 D (k+1) {ot a w c with C:=r} {ot b w c with C:=r}:= ⟨U,f,U,λ_=>rfl,λq=>absurd q h,û ⟨g,e.fP _ _⟩⟩
theorem atl(h:D9 D k a b)(m:a.r=0/\b.r=0)(n:c≠59):Kl D (k+1) (jP B o a c) (jP B o b c):=by
 have p:=(acA _ h.C).2.2.1;have t:=(acA _ h.C).2.2.2;have i:=ati _ h.C;have g:0<b.r->a.M=b.M:=λq=>by omega
 unfold jP;rw[h.r];rcases h.d with⟨e,_,u,v⟩|⟨e,f⟩
 .rw[e];simp only[if_true];unfold yg;split
  .trivial
  .let⟨x,y,z⟩:=atj<|wi c;exact⟨U,x,h.I,g,λq=>absurd q z,û ⟨y,U,U,u,v,U,U,λq=>by cases q⟩⟩
 .cases j:b.C with
  |nil=>exact acC f n m
  |cons w l=>
   rw[j]at p t i e;have C:w≠82:=λq=>by subst q;exact e<|p fi
   have r:l≠[82]:=λq=>by grind
   have s:80∉l:=λq=>by grind
   simp only[if_neg C];split
   .split
    .exact acD (a:={a with C:=[84],d:=a.d.nO}) (b:={b with C:=[84],d:=b.d.nO}) f.nO 120 [84] A A A
    .exact acC f n m
   .split
    .unfold yh;split
     .trivial
     .exact⟨U,(acB _).1,h.I,g,λ_=>⟨U,Ò _⟩,û ⟨(acB _).2,f.oE _ _⟩⟩
    .split
     .rename_i q;subst q;let⟨E,F⟩:=h.M (by rw[j];simp);rw[E];split
      .exact⟨U,i,h.I,g,λq=>absurd q s,û ⟨r,f.oF _⟩⟩
      .split
       .trivial
       .exact⟨U,j▸h.C,h.I,g,λ_=>⟨U,by show(b.I+1).toNat<=k+1;omega⟩,û ⟨e,f⟩⟩
     .split
      .exact acD f w l i r s
      .trivial
def atm(a:80∈b.C->B.extract (o-b.I.toNat) o=P.extract (k-b.I.toNat) k):kR P k b c=kR B o b c:=by
 unfold kR jP;cases d:b.C with
 |nil=>rfl
 |cons w e=>
  by_cases q:w=80
  .subst q;simp only;rw[a (by rw[d];simp)]
  .simp only[if_neg q]
def atn(h:D9 D k a b)(g:c≠59):Kl D (k+1) (kR B o a c) (kR B o b c):=by
 unfold kR;rw[h.I];split
 .rename_i q;rcases h.d with⟨_,e,_⟩|⟨e,f⟩
  .omega
  .refine⟨h.r,h.C,by show a.r-1=b.r-1;rw[h.I],λ_=>h.N q.1,λz=>⟨(h.M z).1,Nat.le_succ_of_le (h.M z).2⟩,û ⟨e,?_⟩⟩;unfold DW;rw[h.N q.1,f.Aq];exact f.fP _ _
 .exact atl (a:={a with r:=0}) (b:={b with r:=0}) ⟨h.r,h.C,U,(λq=>by cases q),h.M,h.d.imp (λz=>⟨z.1,rfl,z.2.2⟩) id⟩ ⟨rfl,rfl⟩ g
def GB(z:PS):Prop:=z.C=[]\/z.C=[66]
end
end Go.Proofs.Y.nh
namespace Go.Proofs.Y.kH
open Go Go.Conc Go.Proofs Go.RowKit Go.Proofs.Y.Lift Go.Proofs.Y.gw Go.Proofs.Y.fq Go.Proofs.Y.nh
open Go.Conc.Lib Go.ConcR.Gen Go.Proofs.YtgpphkdoanciiaaGreatDoor
def ato{α β:Type}(f:α->β)(d:α)(l:List α):((â l.length).map λi=>f<|l.getD i d)=l.map f:=by
 refine List.ext_getElem fi λi b a=> ?_;have h:i<l.length:=by simpa using a
 simp[Ď,h]
def atp{s:List fH}{a:List PR}(h:gK B=(0,0,a))(f:∀r∈a,r.c.getD 4 0≠1):lR s B=(jb ⟨#[59]⟩ (a.map λr=>rD (ng s)<|toQn r),0,s):=by
 have d:∀p,p<a.length->kS a p≠1:=λp b=>f _ (by simp[Ď,b]);have e:∀p,p<=a.length->gY (kS a) p=[]:=λp b=>by unfold gY;rw[List.filter_eq_nil_iff];intro j g;have:=õ.1 g;simpa using d j Z
 have g:kT a s=a.map λr=>rD (ng s) (toQn r):=by rw[<-ato (λr=>rD (ng s)<|toQn r) pd];unfold kT;refine List.map_congr_left λp b=> ?_;have b:=õ.1 b;unfold fJ wh;rw[e p Z,if_neg<|d p b];rfl
 have j:wx a s=s:=by unfold wx fJ;rw[e _<|Ì _];rfl
 unfold lR;rw[h];simp only[g,j,if_true]
def yn(d:Nat):ByteArray:=Š ⟨#[48,49,50,51,52,53,54,55,56,57]⟩ d<|d+1
def atq:(â 10).map yn=(â 10).map λd=>⟨#[þ<|48+d]⟩:=fp
theorem GD(h:i<10):yn i=⟨#[þ<|48+i]⟩:=by have:=congrArg (λl=>l[i]?) atq;simpa[h]using this
theorem OB(h:i<10):fI i=yn i:=by unfold fI;grind [Lib.decDigits_one,GD]
theorem UO(h:¬n<10):fI n=fI (n/10)++yn (n%10):=by rw[GD Z];unfold fI;rw[Lib.decDigits,dif_neg h];apply î;simp_all
noncomputable def OC:ű:=(Tryz.f21.body.bind gw.kt).getD .skip
def GF(n:Int)(s:ByteArray)(u:Nat->Ñ):ł:=⟨#[Ë ħ n,u 1,u 2,Á s,u 4,u 5,u 6,u 7,u 8,u 9,u 10,u 11,u 12,u 13,u 14,u 15,u 16,u 17,u 18,u 19,u 20,u 21,u 22,u 23,u 24,u 25,u 26],[]⟩
def GG(n:Int)(s:ByteArray)(a:ł):Prop:=∃u,a=GF n s u
theorem acE{s:ByteArray}(h:i<10)(a:s.size<=20):Ð.wrap ((i:Int)+1)=(i:Int)+1/\Ð.wrap (i:Int)=i/\(0:Int)<=(i:Int)+1/\(i:Int)+1<=10/\(i:Int)<=(i:Int)+1/\((i:Int)+1).toNat=i+1/\¬9223372036854775807<min (i+1) 10-i+s.size:=by grind [ţ]
section
variable{s:ByteArray}
def atr(u:Nat->Ñ)(c:n<10)(b:∀a,GG n s a->H a w):ĕ À OC (Exit.then K<|QE 0 H) (GF n s u) w:=by
 unfold GF;conv=>arg 2;whnf
 go_wp2_with fail
 exact⟨U,b _ (gw.gh _)⟩
def atu(u:Nat->Ñ)(f:¬n<10)(g:n<18446744073709551616)(h:s.size<=20)(c:∀a,GG ((n/10:Nat):Int) (yn (n%10)++s) a->K a w):ĕ À OC (Exit.then K<|QE 0 H) (GF n s u) w:=by
 unfold GF;conv=>arg 2;whnf
 have i:(n:Int).tmod 10=((n%10:Nat):Int):=by rw[è Z];omega
 have j:(n:Int).tdiv 10=((n/10:Nat):Int):=by rw[Int.tdiv_eq_ediv_of_nonneg Z];omega
 have b:=fc c;clear c;have e:n%10<10:=Z
 have k:n/10<18446744073709551616:=Z
 generalize n%10=d at*;generalize n/10=q at*;let⟨l,m,o,p,r,t,v⟩:=acE e (s:=s) Z;go_wp2_with fail;exact b.out _ (gw.gh _)
def UP(b:ByteArray)(c:Ô)(a:ł)(w:Ô):Prop:=∃(n:Nat) (s:ByteArray),GG n s a/\n<18446744073709551616/\fI n++s=b/\w=c
def UQ(b:ByteArray)(c:Ô)(a:ł)(w:Ô):Prop:=∃(n:Nat) (s:ByteArray),GG n s a/\n<10/\yn n++s=b/\w=c
def xY(a:ł)(_:Ô):Nat:=match a.tmps.getD 0 ö with
 |Ë _ i=>i.toNat
 |_=>0
def JD(b:GG n s y):xY y w=n:=by obtain⟨u,rfl⟩:=b;show(n:Int).toNat=_;simp
theorem atv(i:B.size<=20)(a:ł)(w:Ô)(g:UP B u a w): ĕ À OC (Exit.then (λb c=>UP B u b c/\xY b c<xY a w)<|QE 0<|UQ B u) a w:=by
 let⟨n,s,d,h,e,f⟩:=g;rw[JD d];obtain⟨b,rfl⟩:=d;have j:(fI n).size+s.size=B.size:=by rw[<-e,Æ]
 by_cases c:n<10
 .exact atr b c λa q=>⟨n,s,q,c,by rwa[<-OB c],f⟩
 .refine atu b c h Z λa q=>⟨⟨n/10,_,q,Z,?_,f⟩,by rw[JD q];omega⟩;grind [ŉ,UO]
def acG(n:Nat)(b:n<18446744073709551616)(w:Ô):ū À 21 #[Ë ħ n] w λe f=>e=Ē (Á<|fI n)/\f=w:=by
 have L:∀a,GG n ⟨#[]⟩ a->ĕ À (Ť OC) (QE 0<|UQ (fI n) w) a w:=λa g=>
  wp_loop (UP (fI n) w) xY ⟨n,⟨#[]⟩,g,b,Ŋ,U⟩<|atv<|pN n b
 have H:=fc<|ñ L<|pN n b;generalize fI n=res at*;clear L;go_enter Œ,Tryz.ntmps21;go_wp2_with fail;refine ŋ (Q:=QE 0<|UQ res w) ?_ (H.out.1 _ (gw.gh _));rintro(_|_|_|_|_|_) a v hq;all_goals first|exact absurd hq id|skip
 obtain⟨rfl,d,s,h,i,c,rfl⟩:=hq;obtain⟨u,rfl⟩:=h;unfold GF;have j:(yn d).size+s.size=res.size:=by rw[<-c,Æ]
 have l:=H.out.2;let⟨m,o,p,q,r,t,x⟩:=acE i (s:=s) Z;have k:=fc c;clear j c;go_wp2_with fail;go_ret;exact⟨by rw[<-k.out];rfl,U⟩
end
abbrev jY(B:ByteArray):Prop:=(59:UInt8)∉B.data.toList
def jY.r{a:ByteArray}(h:jY a)(k:jY B):jY (a++B):=by unfold jY at*;simp_all
theorem jY.C(h:jY B)(i j:Nat):jY (B.extract i j):=by grind [Ø,Ý]
theorem GH(n:Nat):jY (fI n):=by
 induction n using Ľ with
 |_ n b=>
  have a:∀d,jY (yn d):=λd=>jY.C A _ _;by_cases h:n<10
  .rw[OB h];exact a n
  .rw[UO h];exact(b _ Z).r<|a _
theorem atw(h:∀x∈vX,jY x):jY (jb ⟨#[44]⟩ vX):=by
 cases vX with
 |nil=>exact λq=>by cases q
 |cons x r=>
  show 59∉x.data.toList++nL ⟨#[44]⟩ r;rw[Ę];rintro(q|q)
  .exact h x fi q
  .let⟨y,a,q⟩:=List.mem_flatMap.1 q;rcases Ę.1 q with z|z
   .revert z;decide
   .exact h y (by simp[a]) z
def acH:∀(f n:Nat) (l:List UInt8),59∉l->59∉sC f n l
 |0,n,l,h=>h
 |f+1,n,l,h=>by
  have a:∀k:_root_.Fin 16,59≠o6 k.val:=by decide+kernel
  unfold sC;split
  .rw[ý];exact λq=>q.elim (a ⟨n,‹_›⟩) h
  .apply acH f _ _;rw[ý];exact λq=>q.elim (a ⟨n%16,Nat.mod_lt _ A⟩) h
def acI(n:Nat):jY (Aa n):=jY.r (jY.C A _ _)<|acH 16 n [] A
def atx(y:Nat):jY (iF y):=jY.C A _ _
theorem aty(e:Nat×Int):jY (rC e):=(atx _).r<|GH _
theorem atz{α:Type}(f:α->ByteArray)(h:∀x,jY<|f x)(l:List α):∀x∈l.map f,jY x:=λx a=>by obtain⟨y,_,rfl⟩:=ň.1 a;exact h y
def UR(s:gw.St)(x y:Nat)(k:Int):∀(m i:Nat),jY<|oD s x y k i m
 |0,i=>by unfold oD;decide
 |m+1,i=>by
  unfold oD;split
  .exact GH i
  .exact UR s x y k m<|i+1
def pe(c:UInt8):List UInt8->List UInt8->List (List UInt8)
 |cur,[]=>[cur]
 |cur,x::r=>if x=c then cur::pe c [] r else pe c (cur++[x]) r
def US(B:ByteArray)(c:UInt8):∀f a i,B.size-i=f->a<=i->i<=B.size->oI B c f a i=(pe c (B.extract a i).data.toList<|B.data.toList.drop i).map λl=>⟨l.toArray⟩
 |0,a,i,hf,h1,h2=>by
  obtain rfl:i=B.size:=Z
  rw[Ė (by rw[Â];exact Ì _)];rfl
 |f+1,a,i,hf,h1,h2=>by
  have b:i<B.size:=Z
  have d:i<B.data.toList.length:=by rwa[Â]
  have e:B.data.toList[i]=B[i]:=by rw[é];rfl
  rw[Ą d,e];unfold oI pe;rw[dif_pos b];split
  .have g:(B.extract (i+1)<|i+1).data.toList=[]:=by
    rw[Ø,Ý];simp
   rw[US B c f (i+1) (i+1) Z (Ì _) Z,g];rfl
  .rw[US B c f a (i+1) Z Z Z];congr 2;rw[Ø,Ø,Ý,Ý,ì,ì,show i+1-a=i-a+1 by omega,Ĭ,Ă,show a+(i-a)=i by omega,Í d,e];rfl
def acJ{c:UInt8}:∀(x a r:List UInt8),c∉x->pe c a (x++c::r)=(a++x)::pe c [] r
 |[],a,r,_=>by simp[pe]
 |y::x,a,r,h=>by rw[show pe c a (y::x++c::r)=if y=c then a::pe c [] (x++c::r)else pe c (a++[y]) (x++c::r)from U,if_neg λq=>h (by simp[q]),acJ x _ r λq=>h (by simp[q])];simp
def acK{c:UInt8}:∀(x a:List UInt8),c∉x->pe c a x=[a++x]
 |[],a,_=>by simp[pe]
 |y::x,a,h=>by unfold pe;rw[if_neg λq=>h (by simp[q]),acK x _ λq=>h (by simp[q])];simp
def acM:∀(r:List ByteArray) (x:ByteArray) (a:List UInt8),jY x->(∀y∈r,jY y)->pe 59 a (x.data.toList++nL ⟨#[59]⟩ r)=(a++x.data.toList)::r.map λy=>y.data.toList
 |[],x,a,h,_=>by show pe 59 a (x.data.toList++[])=_;rw[ľ,acK _ _ h];rfl
 |y::r,x,a,h,k=>by show pe 59 a (x.data.toList++59::(y.data.toList++nL ⟨#[59]⟩ r))=_;rw[acJ _ _ _ h,acM r y [] (k y fi) λz b=>k z (by simp[b])];rfl
def acN(a:vX≠[])(h:∀x∈vX,jY x):oI (jb ⟨#[59]⟩ vX) 59 (jb ⟨#[59]⟩ vX).size 0 0=vX:=by
 rw[US _ _ _ 0 0 (Nat.sub_zero _) (Ì _)<|Ò _];match vX,a with
 |x::r,_=>
  have e:((jb ⟨#[59]⟩<|x::r).extract 0 0).data.toList=[]:=by simp_all
  rw[e,List.drop_zero];show(pe 59 []<|x.data.toList++nL ⟨#[59]⟩ r).map _=_;rw[acM r x [] (h x fi) λy b=>h y (by simp[b])];simp[Function.comp_def]
section
variable{c l a:e9}{s t:List fH}{e:Ñ}{V:Nat->Prop}{g:List Ñ}
def atA(h:gf X l a)(b:gL l):gL a:= ⟨h.N b.r,h.d.trans b.d,by rw[h.q];exact b.q,by rw[h.S];exact b.rd,by rw[h.Y];exact b.I,by rw[h.b];exact b.M,by rw[h.K];exact b.k⟩
end
noncomputable def OD:ű:=kY Ŭ [1,1,1,0,1,0,0]
noncomputable def acO:ű:=kY Ŭ [1,1,1,1]
noncomputable def Ea (a:Array Ñ) (b:List ĝ):Goroutine:=G ((base 24).at ⟨a,[]⟩<|Ţ OD::.inLoop OD::[.inBlock 0,Ţ acO]) b
structure Km(B:ByteArray)(c:UInt8)(lv:Ñ)(fr i:Nat)(tt:Array Ñ):Prop where
 r:tt.size=35
 C:tt[0]?=Ä (Á B)
 t1:tt[1]?=Ä (Ë Ū c.toNat)
 I:tt[5]?=Ä lv
 M:tt[6]?=Ä (Ë Ð fr)
 N:tt[7]?=Ä (Ë Ð i)
def acP(S:ByteArray)(w:Ô):Sem.events À (Builtin.len_ #[9] 3 #[Á S]) w #[]=#[]:=fp
def atB(B:ByteArray)(w:Ô)(a:i<=j)(b:j<=B.size):Sem.events À (Ċ 9 (Á B) (Ä<|Ë Ð i) (Ä<|Ë Ð j) Ü) w #[]=#[]:=by simp[Ċ,œ,go_sem,a,b,ĳ]
def atC(B:ByteArray)(w:Ô)(a:i<=B.size):Sem.events À (Ċ 9 (Á B) (Ä<|Ë Ð i) Ü Ü) w #[]=#[]:=by simp[Ċ,œ,go_sem,a,ĳ]
structure u7(il l:e9)(lv:Ñ)(xs:List ByteArray):Prop where
 r:gf (λ_=>False) il l
 C:l.w.ownsRow 0 9 1 lv xs.length (jq xs)
 fj:∀k,lv.ownBlock=Ä k->l.O k/\il.w.heap.size<=k
section
variable{J:Jd}{il l:e9}{S:ByteArray}{c:UInt8}{lv:Ñ}{fr:Nat}{xs:List ByteArray}{tt:Array Ñ}{k:List Ů}
def u7.I(h:u7 il l lv xs)(f:gu il)(c:gL l){ob:Obj}(g:fF l l.w u)(d:fF (gG l u ob) (gG l u ob).w W)(i:jX.ownsRow 0 9 1 v (xs.length+1) (jq xs++[Á S]))(m:W.grownBy jX lv.ownBlock)(n:∀k,v.ownBlock=Ä k->(mZ (gG l u ob) W jX).O k)(o:v.ownBlock=lv.ownBlock\/v.ownBlock=Ä W.heap.size): gL (mZ (gG l u ob) W jX)/\u7 il (mZ (gG l u ob) W jX) v (xs++[S]):=by
 have a:=mY (X:=λb=>Ä b=lv.ownBlock) (ob:=ob) c.r g;have b:=a.fe (L9 (a.N c.r) d m λk e=>⟨a.O k (h.fj k e).1,e.symm⟩);refine⟨atA b c,h.r.vO b λj q e=> ?_,?_,λk e=>⟨n k e,?_⟩⟩
 .have:=(h.fj j e.symm).2;have:=f.fv j q;omega
 .rwa[ã,show jq (xs++[S])=jq xs++[Á S] by simp[jq]]
 .rcases o with z|z
  .exact(h.fj k<|z.symm.trans e).2
  .have e:=Õ<|z.symm.trans e;have:=h.r.I;have:=a.I;have:=d.r;omega
def atD{a b:UInt8}(h:a≠b):((a.toNat:Int)==(b.toNat:Int))=á:=by rw[beq_eq_false_iff_ne];exact λq=>h<|ÿ.1 Z
def atE(h:u7 il l lv xs)(C:gu il)(a:gL l)(b:Km B c lv fr i tt)(D:i<B.size)(E:fr<=i)(hB:B.size<=10^12)(um:xs.length<=fr) (o:B[i]≠c->∀d g,gL d->u7 il d lv xs->Km B c lv fr (i+1) g->fq.fg À È J d (Ea g qX)) (r:B[i]=c->∀d g v,gL d->u7 il d v (xs++[B.extract fr i])->Km B c v (i+1) (i+1) g->fq.fg À È J d (Ea g qX)):fq.fg À È J l (Ea tt qX):=by
 have hF:True:=trivial;let⟨s,t,f⟩:=jj h.C;obtain⟨u,rfl⟩:=xm tt b.r;have F:u 0=Á B:=by simpa using b.C
 have G:u 1=Ë Ū c.toNat:=by simpa using b.t1
 have I:u 5=ð s xs.length t:=by rw[<-f];simpa using b.I
 have K:u 6=Ë Ð fr:=by simpa using b.M
 have L:u 7=Ë Ð i:=by simpa using b.N
 clear b;have k1:(i:Int)<(B.size:Int):=Z
 have k2:(0:Int)<=(i:Int):=Z
 have k3:(0:Int)<=(fr:Int):=Z
 have k4:(fr:Int)<=(i:Int):=Z
 have k5:(i:Int)<=(B.size:Int):=Z
 have M:i<=B.size:=Z
 have m:Ð.wrap ((i:Int)+1)=((i+1:Nat):Int):=IntWalk.i64_in _ ⟨Z,Z⟩;have H:=fc<|ñ o r;clear o r;apply fO (n:=60) a.r.r;simp only[Ea,â,ę,Ŕ,F,G,I,K,L];conv in OD=>whnf
 repeat w_go ft
 refine Ã λ_ _=> ?_;apply nH (v:=Ë Ð B.size) U fM (by k_ne) a.r.r a.q (λw _=>by go_simp) (λw _ e p=>by simp[go_sem,acP]at p);walk_nrm;apply fO (n:=60) a.r.r;repeat w_nl ft
 refine Ã λ_ _=> ?_;apply nH (v:=Ë Ū B[i].toNat) U fM (by k_ne) a.r.r a.q (λw _=>by go_simp) (λw _ e p=>by simp[go_sem,Instr.index,D]at p);walk_nrm;by_cases j:B[i]=c
 .rw[j];apply fO (n:=60) a.r.r;repeat w_nl ft
  refine Ã λ_ _=> ?_;apply nH (v:=Á<|B.extract fr i) U fM (by k_ne) a.r.r a.q (λw _=>by go_simp) (λw _ e p=>by simp[go_sem,atB B w E M]at p);walk_nrm;refine pJ (V:=λp=>ð (Ä ⟨p,0,Ü⟩) 1 1) (ob:=ĉ #[Á<|B.extract fr i] 9) U U (by k_ne) a.r.r a.q (λw=>by go_simp) (λw=>by simp[go_sem]) λw x=> ?_;walk_nrm;have p:=mY (X:=λ_=>False) (ob:=ĉ #[Á<|B.extract fr i] 9) a.r x;have y:hD (gG l w<|ĉ #[Á<|B.extract fr i] 9) w.heap.size (ĉ #[Á<|B.extract fr i] 9):=⟨û U,fq.mX⟩;have N:À.info? 9=Ä ĭ:=Ŝ;refine Iu (v:=ð s xs.length t) (us:=[Á<|B.extract fr i]) (px:=w.heap.size) (c:=1) (n:=xs.length) (xs:=jq xs) (inf:=ĭ) (z:=Á ⟨#[]⟩) U U (by k_ne) (p.N a.r) (by rw[p.q];exact a.q) U U U Į N U U Ķ U U (by simp[ĭ];omega) (by simp only[ê];omega) (f▸n9 h.C λk e=>p.r k (Î (h.fj k e).1) id) (f▸λk e=>p.O k (h.fj k e).1) y.fj (RG<|y.C U) (λ_ e=>ĩ.1 e▸rfl) λatF v RU P Q S T W=> ?_;let⟨e,Y⟩:=h.I C a x P Q (f▸S) T<|f▸W;walk_nrm;apply fO (n:=80) e.r.r;repeat w_nl ft
  w_go ft
  refine Ã λ_ _=> ?_;refine H.out.2 j _ _ _ e Y ⟨U,U,U,U,?_,?_⟩
  .simp[m]
  .simp[m]
 .have e:=atD j;apply fO (n:=60) a.r.r;repeat w_nl ft
  w_go ft
  refine Ã λ_ _=> ?_;refine H.out.1 j _ _ a h ⟨U,U,U,by rw[f];rfl,U,?_⟩;simp[m]
def atG(h:u7 il l lv xs)(s:gu il)(a:gL l)(b:Km B c lv fr B.size tt)(x:fr<=B.size)(T:B.size<=10^12)(W:xs.length<=fr) (C:∀g v,gL g->u7 il g v (xs++[B.extract fr B.size])->fq.fg À È J g (G (f.at (y.put ((Q[j]?).bind (·.dst)) v)<|Ç Q jJ::k) qX)):fq.fg À È J l (Ea tt<|f.at y (Ç Q (j::jJ)::k)::qX):=by
 have hF:True:=trivial;let⟨i,m,d⟩:=jj h.C;obtain⟨u,rfl⟩:=xm tt b.r;have D:u 0=Á B:=by simpa using b.C
 have E:u 5=ð i xs.length m:=by rw[<-d];simpa using b.I
 have F:u 6=Ë Ð fr:=by simpa using b.M
 have H:u 7=Ë Ð B.size:=by simpa using b.N
 clear b;have Y:(0:Int)<=(fr:Int):=Z
 have k4:(fr:Int)<=(B.size:Int):=Z
 apply fO (n:=60) a.r.r;simp only[Ea,â,ę,Ŕ,D,E,F,H];conv in OD=>whnf
 conv in acO=>whnf
 repeat w_go ft
 refine Ã λ_ _=> ?_;apply nH (v:=Ë Ð B.size) U fM (by k_ne) a.r.r a.q (λw _=>by go_simp) (λw _ e p=>by simp[go_sem,acP]at p);walk_nrm;apply fO (n:=60) a.r.r;repeat w_nl ft
 refine Ã λ_ _=> ?_;apply nH (v:=Á<|B.extract fr B.size) U fM (by k_ne) a.r.r a.q (λw _=>by go_simp) (λw _ e p=>by simp[go_sem,atC B w x]at p);walk_nrm;refine pJ (V:=λp=>ð (Ä ⟨p,0,Ü⟩) 1 1) (ob:=ĉ #[Á<|B.extract fr B.size] 9) U U (by k_ne) a.r.r a.q (λw=>by go_simp) (λw=>by simp[go_sem]) λw o=> ?_;walk_nrm;have p:=mY (X:=λ_=>False) (ob:=ĉ #[Á<|B.extract fr B.size] 9) a.r o;have r:hD (gG l w<|ĉ #[Á<|B.extract fr B.size] 9) w.heap.size (ĉ #[Á<|B.extract fr B.size] 9):=⟨û U,fq.mX⟩;have I:À.info? 9=Ä ĭ:=Ŝ;refine Iu (v:=ð i xs.length m) (us:=[Á<|B.extract fr B.size]) (px:=w.heap.size) (c:=1) (n:=xs.length) (xs:=jq xs) (inf:=ĭ) (z:=Á ⟨#[]⟩) U U (by k_ne) (p.N a.r) (by rw[p.q];exact a.q) U U U Į I U U Ķ U U (by simp[ĭ];omega) (by simp only[ê];omega) (d▸n9 h.C λk e=>p.r k (Î (h.fj k e).1) id) (d▸λk e=>p.O k (h.fj k e).1) r.fj (RG<|r.C U) (λ_ e=>ĩ.1 e▸rfl) λatF v RU K L M N P=> ?_;let⟨e,S⟩:=h.I s a o K L (d▸M) N<|d▸P;walk_nrm;apply fO (n:=80) e.r.r;repeat w_nl ft
 u_in ft hF
 refine Ć (t:=4) U U ķ U ⟨by u_nil,?_⟩;refine Ã λ_ _=> ?_;exact C _ _ e S
def UT(e:gu il)(g:B.size<=10^12) (n:∀a v,gL a->u7 il a v (oI B c B.size 0 0)->fq.fg À È J a (G (f.at (y.put ((Q[j]?).bind (·.dst)) v)<|Ç Q jJ::k) qX)): ∀(m fr i:Nat) (l:e9) (lv:Ñ) (xs:List ByteArray) (tt:Array Ñ),B.size-i=m->fr<=i->i<=B.size->xs.length<=fr->xs++oI B c m fr i=oI B c B.size 0 0->u7 il l lv xs->gL l->Km B c lv fr i tt->fq.fg À È J l (Ea tt<|f.at y (Ç Q (j::jJ)::k)::qX)
 |0,fr,i,l,lv,xs,tt,hm,hfr,hi,um,he,h,hb,hT=>by
  obtain rfl:i=B.size:=Z
  exact atG h e hb hT hfr g um λa v b d=>n a v b<|he▸d
 |m+1,fr,i,l,lv,xs,tt,hm,hfr,hi,um,he,h,hb,hT=>by
  have r:i<B.size:=Z
  rw[show oI B c (m+1) fr i=if B[i]=c then B.extract fr i::oI B c m (i+1) (i+1)else oI B c m fr (i+1)from dif_pos r]at he;refine atE h e hb hT r hfr g um (λq a o b d p=> ?_) λq a o v b d p=> ?_
  .rw[if_neg q]at he;exact UT e g n m fr (i+1) a lv xs o Z Z Z um he d b p
  .rw[if_pos q]at he;exact UT e g n m (i+1) (i+1) a v _ o Z Z Z (by rw[ã,Ĝ];omega) (by rwa[ć]) d b p
def atH(a:gL l)(d:B.size<=10^12) (g:∀b v,gL b->u7 l b v (oI B c B.size 0 0)->fq.fg À È J b (G (f.at (y.put ((Q[j]?).bind (·.dst)) v)<|Ç Q jJ::k) qX)):fq.fg À È J l (G (Ê À 24 #[Á B,Ë Ū c.toNat] ä)<|f.at y (Ç Q (j::jJ)::k)::qX):=by
 have hF:True:=trivial;rw[wy [_,_] 33 ķ];simp only[ë,Ù,Ö];conv in kY _ _=>whnf
 apply fO (n:=60) a.r.r;repeat w_bar ft
 w_go ft
 refine Ã λ_ _=> ?_;exact UT a.r d g B.size 0 0 l (ð Ü 0 0) [] _ U (Ì _) (Ò _) (Ì _) U ⟨gf.fU a.r.r,⟨U,Î ⟨U,U⟩⟩,λk e=>by cases e⟩ a ⟨rfl,rfl,rfl,rfl,rfl,rfl⟩
end
structure jZ(R:Nat->Prop)(W:Ô)(l:e9)(x nx:Nat)(s:List fH):Prop where
 a:∃sl V,ou l x nx s sl V
 C:∀b,R b->(l.O b/\l.w.heap[b]?=W.heap[b]?)/\b≠x
section
variable{R:Nat->Prop}{l d:e9}{x nx:Nat}{s g:List fH}
def jZ.M(h:jZ R W l x nx s)(c:∀b,l.O b->d.O b/\d.w.heap[b]?=l.w.heap[b]?)(e:l.w.heap.size<=d.w.heap.size):jZ R W d x nx s:=by let⟨f,V,a⟩:=h.a;exact⟨⟨f,V,a.N (λb q=>(c b q).1) (λb q=>(c b q).2) e⟩,λb q=>⟨⟨(c b (h.C b q).1.1).1,(c b (h.C b q).1.1).2.trans (h.C b q).1.2⟩,(h.C b q).2⟩⟩
def jZ.r(h:jZ R W l x nx s){w₁:Ô}(r:fF l l.w w₁):jZ R W {l with w:=w₁} x nx s:=h.M (λb q=>⟨q,r.I b<|Î q⟩) r.r
def jZ.I(h:jZ R W l x nx s):lE s:=by let⟨_,_,a⟩:=h.a;let⟨_,_,q,_⟩:=a.rd;exact q
def jZ.N(h:jZ R W l x nx s):nB<=l.w.heap.size:=by let⟨_,_,a⟩:=h.a;exact a.r.fv
def acQ(h:jZ R W l x nx s)(j:gL l)(k:B.size<=ê) (m:∀d,gL d->jZ R W d x nx (lR s B).2.2->iL vQ d (G (f.at (y.put ((Q[i]?).bind (·.dst))<|ŝ #[Á (lR s B).1,Ë Ð (lR s B).2.1])<|Ç Q jJ::L) qX)): iL vQ l (G (Ê À 17 #[Ï<|Ä ⟨x,0,Ü⟩,Á B] ä)<|f.at y (Ç Q (i::jJ)::L)::qX):=by let⟨v,V,n⟩:=h.a;refine ab8 j n k (λ_=>acf h.I) λd o ⟨e,p,r,t,w⟩=>m d o ⟨⟨p,r,t⟩,λb q=> ?_⟩;let⟨⟨g,u⟩,c⟩:=h.C b q;exact⟨⟨(e b g c).1,(e b g c).2.trans u⟩,c⟩
def atI(h:jZ R W l x nx s)(o:gL l)(C:B.size<=ê)(D:lR s B=(jb ⟨#[59]⟩ vX,0,g))(E:vX≠[])(F:∀a∈vX,jY a)(M:vX.length=n)(N:(jb ⟨#[59]⟩ vX).size<=10^12) (P:∀d m,gL d->jZ R W d x nx g->d.w.ownsRow 0 9 1 m n (jq vX)->(∀b,m.ownBlock=Ä b->d.O b)->iL vQ d (G (f.at (y.put ((Q[i]?).bind (·.dst))<|ŝ #[m,Ó È])<|Ç Q jJ::L) qX)): iL vQ l (G (Ê À 26 #[Ï<|Ä ⟨x,0,Ü⟩,Á B,Ë Ð n] ä)<|f.at y (Ç Q (i::jJ)::L)::qX):=by
 have hF:True:=trivial;subst M;rw[wy [_,_,_] 25 ĸ];simp only[ë,Ù,Ö];conv in kY _ _=>whnf
 apply mA;apply fO (n:=60) o.r.r;repeat w_go ft
 refine Ã λ_ _=> ?_;refine .fy λX p=>⟨o.C p,U,?_⟩;have r:=o.C p;have H:=h.r p;refine yl (f:=17) (args:=#[Ï<|Ä ⟨x,0,Ü⟩,Á B]) r U fM (by k_ne) (λw=>by go_simp) (λw=>É U ŕ U U #[]) λT k=> ?_;refine acQ (H.r k) (r.C k) C λY t u=> ?_;have I:=acN E F;rw[D]at u|-;dsimp only at u|-;generalize jb ⟨#[59]⟩ vX=S at*;clear D h H r C;walk_nrm;apply mA;apply fO (n:=60) t.r.r;repeat w_nl ft
 refine Ã λ_ _=> ?_;refine wz (f:=24) (args:=#[Á S,Ë Ū 59]) U fM (by k_ne) t.r.r (λw=>by go_simp) (λw=>É U ķ U U #[]) λach J=> ?_;refine atH (c:=59) (t.C J) N λl5 m v j=> ?_;have V:=(u.r J).M (λb q=>⟨j.r.O b q,j.r.r b (Î q) id⟩) j.r.I;rw[I]at j;let⟨pk,ck,K⟩:=jj j.C;have z:=fc (ñ j.C λb q=>(j.fj b q).1);clear j I F E;rw[K];walk_nrm;apply fO (n:=60) v.r.r;repeat w_nl ft
 u_in ft hF
 refine Ŗ U U ĸ U ⟨by u_nil,?_⟩;refine Ã λ_ _=> ?_;refine .fy λT k=>⟨v.C k,U,?_⟩;have:=P _ m (v.C k) (V.r k) (n9 z.out.1 λL e=>k.I L<|Î<|z.out.2 L e) z.out.2;rwa[K]at this
end
def yo(l a:e9):Prop:=∀b,l.O b->a.O b/\a.w.heap[b]?=l.w.heap[b]?
structure OG(l:e9)(kb:Nat)(xs:List ByteArray):Prop where
 fj:l.O kb
 C:∀i y,xs[i]?=Ä y->l.w.cell? ⟨kb,i,Ü⟩=Ä (Á y)
section
variable{J:Jd}{kn:Ñ->Ô->Prop}{R:Nat->Prop}{l l':e9}{x nx:Nat}{s c:List fH}{b j:ĝ}{a m:ł}{ops:Array Ħ}{rest:List Nat}{k:List Ů}{cs:List ĝ}{f:FuncId}{args:Array Ñ}{fn:Func}{ags:Array Ő}{ats:Array ŏ}{kb:Nat}{xs:List ByteArray}{y:ByteArray}{t:Ő}
def yo.r{a:e9}(h:yo l l')(k:yo l' a):yo l a:=λb q=>⟨(k b (h b q).1).1,(k b (h b q).1).2.trans (h b q).2⟩
def OH{w₁:Ô}(r:fF l l.w w₁):yo l {l with w:=w₁}:=λb q=>⟨q,r.I b<|Î q⟩
def OG.r(h:OG l kb xs)(k:yo l l'):OG l' kb xs:=⟨(k kb h.fj).1,λi y q=>(gM (k kb h.fj).2).trans<|h.C i y q⟩
def Is(h:jZ R W l x nx s)(hb:gL l)(hf:Tryz.prog.funcs[f]?=some fn) (hc:∀l',gL l'->nB<=l'.w.heap.size->∀(cl:Frame) (cs:List Frame),fq.fg Tryz.prog true (λl'' g'=>jA l' l''/\l''.d=l'.d/\g'=G (cl.finish v) cs) l'<|G (Frame.enter Tryz.prog f args .normal)<|cl::cs) (hn:∀l',gL l'->jZ R W l' x nx s->yo l l'->fq.fg Tryz.prog true J l' (G (b.at (a.put o.dst v)<|.inRegion ops rest::k) cs)) (ho:ops[i]?=some o:=by rfl) (qR:o.op=.call {callee:=.value<|.func f,args:=ags,argTypes:=ats}:=by rfl) (hw:Region.wanted o (yielded ops a.tmps)=true:=by rfl) (hk:b.kind≠.early:=by k_ne) (hr:∀w,(execOp a.eval o).run Tryz.prog w=.ok (.enter f args) w:=by intro w;go_simp) (hm:(fn.name== "runtime.NumGoroutine")=false:=by rfl) (hd:fn.body.isNone=false:=by rfl): fq.fg Tryz.prog true J l (G (b.at a<|.inRegion ops (i::rest)::k) cs):=by refine wz ho hw hk hb.r.r hr (λw=>É qR hf hm hd #[]) λw₁ kg=> ?_;refine fq.fg.lD ?_<|hc _ (hb.C kg) (h.r kg).N _ _;rintro l2 g2 ⟨ha,hd,rfl⟩;rw[Ě,ho];have k2:yo {l with w:=w₁} l2:=λb q=>⟨ha.O b q,ha.r.I b<|Î q⟩;exact hn l2 (jA.xF (hb.C kg) ha hd) ((h.r kg).M k2 ha.r.r)<|(OH kg).r k2
def OJ(h:jZ R W l x nx s)(hb:gL l)(hf:Tryz.prog.funcs[f]?=some fn) (hn:∀l',gL l'->jZ R W l' x nx s->yo l l'->l.w.heap.size<=l'.w.heap.size->iL kn l' (G (Frame.enter Tryz.prog f args .normal)<|b.at a (.inRegion ops (i::rest)::k)::cs)) (ho:ops[i]?=some o:=by rfl) (qR:o.op=.call {callee:=.value<|.func f,args:=ags,argTypes:=ats}:=by rfl) (hw:Region.wanted o (yielded ops a.tmps)=true:=by rfl) (hk:b.kind≠.early:=by k_ne) (hr:∀w,(execOp a.eval o).run Tryz.prog w=.ok (.enter f args) w:=by intro w;go_simp) (hm:(fn.name== "runtime.NumGoroutine")=false:=by rfl) (hd:fn.body.isNone=false:=by rfl): fq.fg Tryz.prog true (J6 kn) l (G (b.at a<|.inRegion ops (i::rest)::k) cs):= .fy λw₁ kg=>⟨hb.C kg,U,yl (hb.C kg) ho hw hk hr (λw=>É qR hf hm hd #[]) λpz ox=>hn _ ((hb.C kg).C ox) ((h.r kg).r ox) ((OH kg).r<|OH ox)<|Å kg.r ox.r⟩
def atJ(h:jZ R W l x nx s)(o:gL l)(p:B.size<=ê)(r:lR s B=(jb ⟨#[59]⟩ xs,0,c))(t:∀y∈xs,jY y)(a:xs.length=n+1)(u:(jb ⟨#[59]⟩ xs).size<=10^12) (v:∀l' kb b,gL l'->jZ R W l' x nx c->OG l' kb xs->iL kn l' (G (j.at (m.put ((ops[i]?).bind (·.dst))<|ŝ #[ð (Ä ⟨kb,0,Ü⟩) (n+1) b,Ó È])<|Ç ops rest::k) cs)): iL kn l (G (Ê À 26 #[Ï<|Ä ⟨x,0,Ü⟩,Á B,Ë Ð ((n+1:Nat):Int)] ä)<|j.at m (Ç ops (i::rest)::k)::cs):=by
 refine atI (n:=n+1) h o p r (λe=>by rw[e]at a;cases a) t a u λw z C D d E=> ?_;let⟨F,b,f⟩:=jj d;obtain⟨kb,rfl⟩:∃kb,F=Ä ⟨kb,0,Ü⟩:=by
  rcases d.2 with⟨e,q⟩|⟨g,_,_,e,_⟩
  .omega
  .rw[f]at e;cases e;exact⟨g,U⟩
 have e:z.ownBlock=Ä kb:=by rw[f];rfl
 rw[f];refine v w kb b C D ⟨E kb e,λi y q=> ?_⟩;have q:=d.cells e i (Á y) (by unfold jq;rw[ô,q];rfl);rwa[Addr.add_lit,Ō]at q
end
def wB(r:PR):Int×Nat×List Tx:=(r.c.getD 5 0,(r.c.getD 0 0).toNat,r.r.map toTx)
def Eb(r:PR)(s:List fH):ByteArray:=if r.c.getD 4 0=1 then(rB (ng s) (wB r).1 (wB r).2.1 (wB r).2.2).2 else rD (ng s) (toQn r)
def GI(s:List fH)(r:PR):List fH:=if r.c.getD 4 0=1 then DV s (wB r)else s
def rz(s:List fH)(rs:List PR):List fH:=rs.foldl GI s
def acR{kd:Nat->Int}(h:kd i=1):∀n,i<n->(gY kd n).getD (fJ kd i) 0=i
 |0,q=>by omega
 |n+1,q=>by
  have a:i<n->∀x,(gY kd n++x).getD (fJ kd i) 0=i:=λz x=>by
   have b:fJ kd i<(gY kd n).length:=by
    have e:∀m,i+1<=m->(gY kd<|i+1).length<=(gY kd m).length:=λm=>by
     induction m with
     |zero=>intro z;omega
     |succ m c=>
      intro z;rcases Nat.lt_or_ge i m with y|y
      .apply Å (c y);by_cases q:kd m=1
       .rw[tx q];simp
       .rw[vN q];exact Ì _
      .rw[show m=i by omega];exact Ì _
    have:=e n z;rw[tx h]at this;unfold fJ;simp at this;omega
   have:=acR h n z;simp only[Ď,ą b]at this|-;exact this
  by_cases z:i<n
  .by_cases q:kd n=1
   .rw[tx q];exact a z _
   .rw[vN q];have:=a z [];rwa[ľ]at this
  .obtain rfl:i=n:=Z
   rw[tx h];simp[Ď,fJ]
section
variable{rs:List PR}{s:List fH}{P:ByteArray}
def UU:∀p,p<=rs.length->pT (wv rs) (gY (kS rs) rs.length) s (fJ (kS rs) p)=rz s (rs.take p)
 |0,_=>by simp[fJ,gY,pT,rz]
 |p+1,h=>by
  have a:=UU p Z;have b:rs.take (p+1)=rs.take p++[rs.getD p pd]:=by rw[Ĭ];congr 1;simp[Ď,show p<rs.length by omega]
  unfold rz at a|-;rw[b,List.foldl_append,<-a];show _=GI _ _;unfold GI;by_cases q:kS rs p=1
  .rw[if_pos (show(rs.getD p pd).c.getD 4 0=1 from q)];have e:fJ (kS rs) (p+1)=fJ (kS rs) p+1:=by unfold fJ;rw[tx q];simp
   rw[e];show DV _ _=_;rw[acR q _ Z];rfl
  .rw[if_neg (show¬(rs.getD p pd).c.getD 4 0=1 from q)];have e:fJ (kS rs) (p+1)=fJ (kS rs) p:=by unfold fJ;rw[vN q]
   rw[e]
def atK{p:Nat}(h:p<rs.length):(kT rs s)[p]?=Ä (Eb (rs.getD p pd)<|rz s<|rs.take p):=by unfold kT;rw[ô,List.getElem?_range h,ė,UU p Z];rfl
theorem atL:wx rs s=rz s rs:=by unfold wx;rw[UU _<|Ì _,List.take_length]
theorem atM{r:PR}(h:gK P=(0,0,[r])):lR s P=(Eb r s,0,GI s r):=by
 have a:=atK (rs:=[r]) (s:=s) (p:=0) Ķ;have e:kT [r] s=[Eb r s]:=by
  match hx:kT [r] s,Ou with
  |[y],_=>
   rw[hx]at a;simpa[rz]using a
 unfold lR;rw[h];simp only[if_true,e,atL];rw[show jb ⟨#[59]⟩ [Eb r s]=Eb r s from î (by simp[jb,T4,nL])];rfl
end
end Go.Proofs.Y.kH
namespace Go.Proofs.Y.nh
open Go Go.Proofs Go.RowKit Go.Proofs.Y.Lift Go.Proofs.Y.gw
section
variable{a b:PS}{d:PD}
theorem wC{f:Nat}(c:k<B.size)(d:kR B k a (B[k].toNat:Int)=Ä b):jR B (f+1) k a=jR B f (k+1) b:=by rw[jR,dif_pos c,d]
end
end Go.Proofs.Y.nh
namespace Go.Proofs.Y.kH
open Go Go.Conc Go.Proofs Go.RowKit Go.Proofs.Y.Lift Go.Proofs.Y.gw Go.Proofs.Y.fq Go.Proofs.Y.nh
open Go.Conc.Lib Go.ConcR.Gen Go.Proofs.YtgpphkdoanciiaaGreatDoor
def Ec(r:PR)(a:fH):Option fH:=(vV (wB r).2.1 a.s (wB r).2.2).map λq=>⟨q.1,q.2.1,q.2.2,a.h+1⟩
theorem acS{s:List fH}{v:fH}(h:s[n]?=Ä v):ma (ng s) n=Ä (0,v):=by unfold ma ng;grind
theorem atN{s:List fH}{r:PR}(d:r.c.getD 4 0=1){a:fH}(b:ma (ng s) (r.c.getD 5 0)=Ä (0,a))(e:s.length<40): Eb r s=(match Ec r a with
  |none=>nW 5
  |some _=>oA s.length)/\GI s r=match Ec r a with
  |none=>s
  |some v=>s++[v]:=by
 have f:(ng s).length=s.length:=by simp[ng]
 have g:rB (ng s) (wB r).1 (wB r).2.1 (wB r).2.2=match Ec r a with
  |none=>(Ü,nW 5)
  |some v=>(Ä v,oA s.length):=by
  unfold rB Ec;rw[show(wB r).1=r.c.getD 5 0 from rfl,b];grind
 unfold Eb GI DV sD;grind [JV]
theorem atO{s:List fH}{r:PR}(h:gK B=(0,0,[r]))(a:r.c.getD 4 0=1)(b:r.c.getD 5 0=0){v0:fH}(d:s[0]?=Ä v0)(e:s.length<40): lR s B=match Ec r v0 with
  |none=>(nW 5,0,s)
  |some v=>(oA s.length,0,s++[v]):=by
 obtain⟨v,f⟩:=atN a (by rw[show r.c.getD 5 0=((0:Nat):Int)from b];exact acS d) e;grind [atM]
def atP(s:gw.St):pO s s 8=[]:=by unfold pO;rw[ď];intro i _;unfold yd vW qH;rw[if_pos U,if_pos U,Ö,Ö,ď];exact λj _=>if_pos U
end Go.Proofs.Y.kH
namespace Go.Proofs.Y.nh
open Go Go.Proofs Go.RowKit Go.Proofs.Y.Lift Go.Proofs.Y.gw
section
variable{T p:ByteArray}{a b:PS}
def sL(j:Int):PS:=⟨[80],0,j,120,⟨[],È,⟨[0,0,0,0,1,0,0,0],[]⟩,È,⟨[1,0,0,0,2],⟨#[]⟩⟩⟩⟩
def rP(p:ByteArray):PR:=⟨[0,0,0,0,1,0,0,0],[⟨[1,0,0,0,2],p⟩]⟩
def iq(p:ByteArray):ByteArray:=⟨#[105,48,58,97,47,98,123]⟩++p++⟨#[125]⟩
theorem UW{l:List UInt8}(h:T.data.toList=l)(i:Nat)(a:i<T.size):∃b:i<l.length,T[i]=l[i]:=by subst h;exact⟨by rwa[Â],by rw[é];rfl⟩
def acT(a:T.data.toList=105::48::58::97::47::98::123::(p.data.toList++[125]))(h:125∉p.data.toList)(i:T.size=p.size+8):∀(m j:Nat),p.size-j=m->j<=p.size->(jR T (m+1) (7+j)<|sL j).1=T.size->(jR T (m+1) (7+j)<|sL j).2.d.C=[rP p]/\(jR T (m+1) (7+j)<|sL j).2.C=[]
 |0,j,hm,hj,hr=>by
  obtain rfl:j=p.size:=Z
  have b:p.data.toList.length=p.size:=by rw[Â];rfl
  have c:T[7+p.size]'Z=125:=by
   let⟨q,e⟩:=UW a (7+p.size) Z;have:(105::48::58::97::47::98::123::(p.data.toList++[125]))[7+p.size]?=Ä 125:=by rw[show 7+p.size=p.size+1+1+1+1+1+1+1 by omega];simp only[ò];rw[List.getElem?_append_right Z,b,Ā];rfl
   rw[Í q]at this;rw[e];exact Õ this
  have g:T.extract (7+p.size-((p.size:Nat):Int).toNat) (7+p.size)=p:=by apply î;apply ü.1;rw[Ø,Ý,a,Int.toNat_natCast,Nat.add_sub_cancel,ì];show ā (7+p.size-7) (p.data.toList++[125])=_;rw[Nat.add_sub_cancel_left,<-b,List.take_left]
  have e:kR T (7+p.size) (sL p.size) ((T[7+p.size]'Z).toNat:Int)=Ä {sL p.size with C:=[],r:=0,d:=(sL p.size).d.oF p}:=by rw[c];show jP T (7+p.size) {sL p.size with r:=0} 125=_;unfold jP;simp only[sL];rw[g];simp
  rw[wC Z e];exact⟨U,U⟩
 |m+1,j,hm,hj,hr=>by
  have b:p.data.toList.length=p.size:=by rw[Â];rfl
  obtain⟨c,g⟩:∃c,T[7+j]'Z=c:=⟨_,U⟩;have k:c∈p.data.toList:=by
   let⟨q,e⟩:=UW a (7+j) Z;rw[<-g,e];have:(105::48::58::97::47::98::123::(p.data.toList++[125]))[7+j]?=Ä (p.data.toList[j]'Z):=by rw[show 7+j=j+1+1+1+1+1+1+1 by omega];simp only[ò];rw[ą Z,Í]
   rw[Í q]at this;rw[Õ this];exact List.getElem_mem _
  have l:(c.toNat:Int)≠125:=λq=>h (by have:c=125:=ÿ.1 (by show c.toNat=125;omega);rwa[<-this]);have e:kR T (7+j) (sL j) (c.toNat:Int)=if(j:Int)=40\/lB (c.toNat:Int)=0 then Ü else Ä (sL ((j+1:Nat):Int)):=by show jP T (7+j) {sL j with r:=0} (c.toNat:Int)=_;unfold jP;simp only[sL];simp[l];rfl
  by_cases q:(j:Int)=40\/lB (c.toNat:Int)=0
  .rw[if_pos q]at e;exfalso;rw[jR,dif_pos (show 7+j<T.size by omega),g,e]at hr;simp only at hr;omega
  .rw[if_neg q]at e;rw[wC (f:=m+1) (show 7+j<T.size by omega) (by rwa[g])]at hr|-;exact acT a h i m (j+1) Z Z hr
theorem atQ(d:125∉p.data.toList)(h:(gK<|iq p).1=0):gK (iq p)=(0,0,[rP p]):=by
 obtain⟨T,a⟩:∃T,iq p=T:=⟨_,U⟩;have f:T.data.toList=105::48::58::97::47::98::123::(p.data.toList++[125]):=by rw[<-a];unfold iq;simp_all
 have b:T.size=p.size+8:=by rw[<-a];unfold iq;rw[Æ,Æ];show 7+p.size+1=_;omega
 rw[a]at h|-;have g:∀i c (j:i<T.size),(105::48::58::97::47::98::123::(p.data.toList++[125]))[i]?=Ä c->T[i]=c:=λi c j e=>by grind [UW]
 have k:lC T=jR T (p.size+1) (7+0) (sL (0:Nat)):=by unfold lC;rw[b,wC Z (by rw[g 0 105 _ U];rfl),wC Z (by rw[g 1 48 _ U];rfl),wC Z (by rw[g 2 58 _ U];rfl),wC Z (by rw[g 3 97 _ U];rfl),wC Z (by rw[g 4 47 _ U];rfl),wC Z (by rw[g 5 98 _ U];rfl),wC Z (by rw[g 6 123 _ U];rfl)];rfl
 have l:T.size≠0:=Z
 unfold gK lQ at h|-;split at h
 .cases h
 .rename_i m;rw[if_neg m];split at h
  .rename_i q;simp only[if_neg l]at q|-;rw[if_pos q];simp only[à,decide_eq_true_eq]at q;have:=acT f d b p.size 0 U (Ò _) (by rw[<-k];exact q.1);grind
  .cases h
end
end Go.Proofs.Y.nh
namespace Go.Proofs.Y.nh
open Go Go.Proofs Go.RowKit Go.Proofs.Y.Lift Go.Proofs.Y.gw Go.Proofs.Y.kH
section
variable{P:ByteArray}{D:List PR}{a b:PS}{r:PR}
def Kl.Pd{o:Option PS}(h:Kl D k o (Ä b)):∃a,o=Ä a/\D9 D k a b:=by
 cases o with
 |none=>cases h
 |some a=>exact⟨a,U,h⟩
theorem acU(h:gK P=(0,0,[r])):∃z,jR P P.size 0 nP=(P.size,z)/\GB z/\z.d.C=[r]:=by
 unfold gK lQ lC at h;split at h
 .cases h
 .by_cases a:P.size=0
  .grind
  .rw[if_neg a]at h;split at h
   .rename_i q;simp only[à,Bool.or_eq_true,decide_eq_true_eq]at q;refine⟨(jR P P.size 0 nP).2,ŗ q.1 U,q.2,?_⟩;grind
   .cases h
def UX(c:UInt8):∀(f a i:Nat),B.size-i=f->i<=B.size->∃e l,i<=e/\e<=B.size/\oI B c f a i=B.extract a e::l
 |0,a,i,hf,hi=>⟨B.size,[],Z,Ì _,U⟩
 |f+1,a,i,hf,hi=>by
  have b:i<B.size:=Z
  unfold oI;rw[dif_pos b];split
  .exact⟨i,_,Ì _,hi,U⟩
  .let⟨e,l,h,d,g⟩:=UX c f a (i+1) Z Z;exact⟨e,l,Z,d,g⟩
theorem acV(c:D9 D k a b)(g:GB b)(e:b.d.C=[r]):GB a/\k9 D a.d b.d/\a.d.C=D++[r]:=by
 rcases c.d with⟨q,_⟩|⟨_,f⟩
 .grind
 .let⟨j,h,i⟩:=f.G;rw[i]at e;cases e;refine⟨?_,f,h⟩;unfold GB;rwa[c.r]
def UY:∀(f h i:Nat) (D:List PR) (a b m:PS) (P:ByteArray) (l:List ByteArray) (r:PR) (j:List PR),B.size-i=f->h<=i->i<=B.size->D9 D (i-h) a b->oI B 59 f h i=P::l-> jR P (P.size-(i-h)) (i-h) b=(P.size,m)->GB m->m.d.C=[r]->(l.map gK=j.map λr=>(0,0,[r]))->D.length+1+l.length<=24->∃z,jR B f i a=(B.size,z)/\GB z/\z.d.C=D++r::j
 |0,h,i,D,a,b,m,P,l,r,j,hf,h1,h2,hs,hc,hr,hA,nI,hl,hn=>by
  obtain rfl:i=B.size:=Z
  cases hc;have p:(B.extract h B.size).size=B.size-h:=by rw[ø];omega
  rw[p,Ā]at hr;have e:b=m:=congrArg Ř hr;subst e;let⟨s,_,t⟩:=acV hs hA nI;cases j with
  |nil=>exact⟨a,U,s,t⟩
  |cons y j=>cases hl
 |f+1,h,i,D,a,b,m,P,l,r,j,hf,h1,h2,hs,hc,hr,hA,nI,hl,hn=>by
  have u:i<B.size:=Z
  rw[show oI B 59 (f+1) h i=if B[i]=59 then B.extract h i::oI B 59 f (i+1) (i+1)else oI B 59 f h (i+1)from dif_pos u]at hc;by_cases q:B[i]=59
  .rw[if_pos q]at hc;cases hc;have p:(B.extract h i).size=i-h:=by rw[ø];omega
   rw[p,Ā]at hr;have e:b=m:=congrArg Ř hr;subst e;let⟨s,kd,t⟩:=acV hs hA nI;let⟨e,x,C,E,n⟩:=UX (B:=B) 59 f (i+1) (i+1) Z Z;rw[n]at hl hn;simp only[Đ]at hn;cases j with
   |nil=>cases hl
   |cons y j=>
    rw[Þ,Þ]at hl;injection hl with FP Tn;let⟨F,v,w,G⟩:=acU FP;have H:kR B i a (B[i].toNat:Int)=Ä {a with r:=0,C:=[82]}:=by
     rw[q];have I:¬(0<a.r/\jk ((59:UInt8).toNat:Int)=È):=by simp[jk]
     unfold kR;rw[if_neg I];unfold jP;have g:pV {a with r:=0} ((59:UInt8).toNat:Int)=Ä {a with r:=0,C:=[82]}:=by unfold pV;rw[if_pos ⟨U,by show a.d.S.length+1<24;rw[kd.C];omega⟩]
     rcases s with k|k
     .simp only[k]at g|-;exact g
     .simp only[k]at g|-;exact g
    rw[jR,dif_pos u,H];let⟨z,g,I,J⟩:=UY f (i+1) (i+1) (D++[r]) {a with r:=0,C:=[82]} nP F _ x y j Z (Ì _) Z (by rw[Ā];exact⟨U,A,U,(λq=>by cases q),(λq=>by simp[nP]at q),Î ⟨rfl,rfl,t,rfl⟩⟩) n (by rwa[Ā]) w G Tn (by simp only[ã,Ĝ];omega);exact⟨z,g,I,by rw[J];simp⟩
  .rw[if_neg q]at hc;let⟨e,x,C,E,n⟩:=UX (B:=B) 59 f h (i+1) Z Z;rw[hc]at n;cases n;have p:(B.extract h e).size=e-h:=by rw[ø];omega
   have I:i-h<(B.extract h e).size:=Z
   have t:(B.extract h e)[i-h]=B[i]:=by rw[ń];congr 1;omega
   rw[show(B.extract h e).size-(i-h)=(B.extract h e).size-(i+1-h)+1 by omega,jR,dif_pos I,t,atm (B:=B) (o:=i) (λz=>by have:=(hs.M z).2;rw[Ņ];congr 1<;>omega)]at hr;have g:=atn (B:=B) (o:=i) hs (c:=B[i].toNat) λz=>q (by apply ÿ.1;show B[i].toNat=59;omega);cases s:kR B i b (B[i].toNat:Int)with
   |none=>
    rw[s]at hr;have:=congrArg ũ hr;simp only at this;omega
   |some y=>
    rw[s]at hr g;let⟨F,v,w⟩:=g.Pd;rw[jR,dif_pos u,v];exact UY f h (i+1) D F y m _ l r j Z Z Z (by rwa[show i+1-h=i-h+1 by omega]) hc (by rw[show i+1-h=i-h+1 by omega];rwa[show i+1-h=i-h+1 by omega]at hr) hA nI hl hn
def atS{Ps:List ByteArray}{b:List PR}(a:Ps.map gK=b.map λr=>(0,0,[r]))(f:∀P∈Ps,jY P)(d:Ps≠[])(g:Ps.length<=24)(p:(jb ⟨#[59]⟩ Ps).size<=1200):gK (jb ⟨#[59]⟩ Ps)=(0,0,b):=by
 have h:=acN d f;generalize jb ⟨#[59]⟩ Ps=B at*;match Ps,b,a,d with
 |P::l,r::ys,a,_=>
  rw[Þ,Þ]at a;injection a with h1 h2;let⟨i,j,k,m⟩:=acU h1;let⟨z,c,e,n⟩:=UY B.size 0 0 [] nP nP i P l r ys U (Ì _) (Ò _) ⟨U,A,U,(λ_=>rfl),(λq=>by simp[nP]at q),Î ⟨U,U,U,U⟩⟩ h j k m h2 (by simp at g|-;omega);have o:B.size≠0:=λq=>by rw[q]at c;have:nP=z:=congrArg Ř c;subst this;rcases e with w|w<;>cases w
  unfold gK lQ lC;rw[if_neg Z,if_neg o,c,n];rcases e with w|w<;>simp[w]
 |_::_,[],a,_=>cases a
end
def nk(T:ByteArray)(k:Nat)(l:List UInt8):Prop:=∃r,T.data.toList.drop k=l++r
section
variable{T:ByteArray}{st b:PS}{d:PD}{l a:List UInt8}{want:Int}{tl:List Int}
def nk.I(h:nk T k (l++a)):nk T k l:=by let⟨r,e⟩:=h;exact⟨a++r,by rw[e,ć]⟩
theorem nk.C(h:nk T k (l++a)):nk T (k+l.length) a:=by let⟨r,e⟩:=h;refine⟨r,?_⟩;grind [List.drop_drop,ć,List.drop_left]
def nk.atT{c:UInt8}(h:nk T k (c::l)):∃a:k<T.size,T[k]=c:=by
 let⟨r,e⟩:=h;have b:=congrArg (λx=>x[0]?) e;simp only[Ă,Nat.add_zero,Ù,ó]at b;let⟨x,d⟩:=ă.1 b;have a:k<T.size:=by rwa[Â]at x
 refine⟨a,?_⟩;rw[<-d,é];rfl
def nk.r{c:UInt8}(h:nk T k (c::l)):nk T (k+1) l:=nk.C (l:=[c]) h
theorem pf{c:UInt8}(h:nk T k (c::l))(a:kR T k st (c.toNat:Int)=Ä b):jR T (i+1) k st=jR T i (k+1) b:=by let⟨d,e⟩:=h.atT;grind [wC]
def Am(d:PD):Prop:=(d.M=È->4<=d.N.c.length)/\(d.M=á->4<=d.I.c.length)
def acW(h:i<zQ.length)(z:Int):(zQ.set i z).getD i 0=z:=by simp[Ď,h]
theorem atU(c:want=110\/want=107)(z a:Int):(d.fP want z).fP want a=d.fP want a:=by
 have b:∀i,(d.iq i z).iq i a=d.iq i a:=λi=>by unfold PD.iq PD.oE PD.om;cases d.M<;>simp
 rcases c with rfl|rfl
 .exact b 2
 .exact b 3
theorem atV(h:Am d)(b:want=110\/want=107)(z:Int):(d.fP want z).G want=z:=by
 have a:∀i,i<4->(d.iq i z).tK i=z:=λi c=>by
  unfold PD.iq PD.tK;cases q:d.M with
  |true=>
   have:=h.1 q;simp only[if_true,PD.oE,q];exact acW Z z
  |false=>
   have:=h.2 q;simp only[Bool.false_eq_true,if_false,PD.om,q];exact acW Z z
 rcases b with rfl|rfl
 .exact a 2 A
 .exact a 3 A
def tN(st:PS)(want:Int)(tl:List Int)(n:Nat):PS:={st with C:=tl,r:=if n=0 then 0 else 6-(Ģ n:Int),M:=want,d:=st.d.fP want n}
def acX(h:n<10):(þ<|48+n).toNat=48+n:=by
 have a:∀k:_root_.Fin 10,(þ<|48+k.val).toNat=48+k.val:=A
 exact a ⟨n,h⟩
def UZ:∀k n,n<10^(k+1)->Ģ n<=k+1
 |0,n,h=>by rw[Ĉ (by simpa using h)];exact Ì _
 |k+1,n,h=>by
  by_cases q:n<10
  .rw[Ĉ q];omega
  .have:=UZ k (n/10) (by rw[Nat.pow_succ]at h;omega);rw[Ŀ q];omega
theorem atW(e:want=110\/want=107)(a:st.C=want::tl)(f:st.r=0)(h:n<10):kR T k st ((48+n:Nat):Int)=Ä (tN st want tl n):=by
 have g:jk ((48+n:Nat):Int)=È:=abn ⟨Z,Z⟩;have b:o7 want ((48+n:Nat):Int)=È:=by unfold o7;grind
 have c:ni want ((48+n:Nat):Int)=n:=by unfold ni;grind
 have d:qK want ((48+n:Nat):Int)=if n=0 then 0 else 6-(Ģ n:Int):=by unfold qK;grind [Ĉ]
 unfold kR;rw[if_neg Z];unfold jP;simp only[a];rw[if_neg Z,if_neg Z,if_neg Z,if_neg Z,if_pos b];unfold ot tN;rw[c,d]
theorem atX(f:Am st.d)(g:want=110\/want=107)(b:n<1000000)(h:¬n<10):kR T k (tN st want tl<|n/10) ((48+n%10:Nat):Int)=Ä (tN st want tl n):=by
 have c:jk ((48+n%10:Nat):Int)=È:=abn ⟨Z,Z⟩;have i:=Ŀ h;have j:=UZ 5 n b;have a:(tN st want tl<|n/10).r=6-(Ģ (n/10):Int):=if_neg Z;have l:pU ((n/10:Nat):Int) ((48+n%10:Nat):Int)=n:=by unfold pU;grind [IntWalk.i64_in]
 unfold kR;rw[if_pos ⟨by rw[a];omega,c⟩];unfold DW;rw[a];have e:(tN st want tl<|n/10).d.fP (tN st want tl<|n/10).M (pU ((tN st want tl<|n/10).d.G (tN st want tl<|n/10).M) ((48+n%10:Nat):Int))=st.d.fP want n:=by show(st.d.fP want ((n/10:Nat):Int)).fP want (pU ((st.d.fP want ((n/10:Nat):Int)).G want) _)=_;grind [atV,atU]
 rw[e];unfold tN;grind
def U0(j:Am st.d)(b:want=110\/want=107)(m:st.C=want::tl)(o:st.r=0):∀n,n<1000000->nk T k (fI n).data.toList->∀i,jR T (i+(fI n).size) k st=jR T i (k+(fI n).size) (tN st want tl n):=by
 intro n
 induction n using Ľ with
 |_ n p=>
  intro q f i;by_cases h:n<10
  .have e:(fI n).data.toList=[þ<|48+n]:=by rw[OB h,GD h]
   have a:(fI n).size=1:=by rw[OB h,GD h];rfl
   rw[e]at f;rw[a];apply pf f;rw[acX h];exact atW b m o h
  .have r:=UO h;have e:nk T k ((fI<|n/10).data.toList++(yn<|n%10).data.toList):=by
    simp_all
   have a:(fI n).size=(fI<|n/10).size+1:=by rw[r,Æ,GD Z];rfl
   rw[a,show i+((fI<|n/10).size+1)=i+1+(fI<|n/10).size by omega,p (n/10) Z Z e.I<|i+1];have g:=e.C;rw[Â,GD Z]at g;rw[<-Nat.add_assoc];apply pf (c:=þ<|48+n%10) (l:=[]) g;rw[acX Z];exact atX j b q h
end
section
variable{T:ByteArray}{st a:PS}{d:PD}{l b:List UInt8}{want:Int}{tl:List Int}{N K:Nat}
def atY(h:Am d)(e:want=110\/want=107)(z:Int):Am (d.fP want z):=by
 have b:∀i,Am (d.iq i z):=λi=>by
  unfold PD.iq;split
  .rename_i q;exact⟨λ_=>by show 4<=(d.N.c.set i z).length;rw[ŀ];exact h.1 q,λa=>absurd q<|by rw[show d.M=á from a];decide⟩
  .rename_i q;exact⟨λa=>absurd a q,λa=>by show 4<=(d.I.c.set i z).length;rw[ŀ];exact h.2 a⟩
 rcases e with rfl|rfl
 .exact b 2
 .exact b 3
def U1{c:UInt8}(h:nk T k (c::l))(b:st.C=(c.toNat:Int)::tl)(a:c=44\/c=41):jR T (i+1) k st=jR T i (k+1) {st with C:=tl,r:=0,M:=(c.toNat:Int)}:=by refine pf h ?_;unfold kR;rw[if_neg (by rcases a with rfl|rfl<;>simp[jk])];unfold jP;simp only[b];rcases a with rfl|rfl<;>rfl
def atZ(e:Am st.d)(f:st.C=[110,44,107,41])(g:st.r=0)(i:N<1000000)(j:K<1000000)(h:nk T k ((fI N).data.toList++44::((fI K).data.toList++[41])))(n:T.size=k+((fI N).size+1+(fI K).size+1)): ∃z,jR T (T.size-k) k st=(T.size,z)/\z.C=[]/\z.d=(st.d.fP 110 N).fP 107 K:=by
 have l:(fI N).data.toList.length=(fI N).size:=by rw[Â];rfl
 have m:(fI K).data.toList.length=(fI K).size:=by rw[Â];rfl
 have a:=h.C;have b:=a.r;have c:=b.C;rw[l]at a b c;rw[m]at c;rw[show T.size-k=0+1+(fI K).size+1+(fI N).size by omega,U0 e (Î U) f g N i h.I,U1 a (st:=tN st 110 [44,107,41] N) (tl:=[107,41]) U<|Î U,U0 (want:=107) (tl:=[41]) (atY e (Î U) _) (û U) U U K j b.I,U1 c (tl:=[]) U<|û U];refine⟨_,ŗ ?_ U,U,U⟩;show k+(fI N).size+1+(fI K).size+1=T.size;omega
def at0(b:Am st.d)(c:st.C=[107,41])(e:st.r=0)(f:K<1000000)(h:nk T k ((fI K).data.toList++[41]))(i:T.size=k+((fI K).size+1)): ∃z,jR T (T.size-k) k st=(T.size,z)/\z.C=[]/\z.d=st.d.fP 107 K:=by
 have g:(fI K).data.toList.length=(fI K).size:=by rw[Â];rfl
 have a:=h.C;rw[g]at a;rw[show T.size-k=0+1+(fI K).size by omega,U0 (want:=107) (tl:=[41]) b (û U) c e K f h.I,U1 a (tl:=[]) U<|û U];refine⟨_,ŗ ?_ U,U,U⟩;show k+(fI K).size+1=T.size;omega
def An(h:n<1000000):(fI n).size<=6:=by unfold fI;rw[ù,å,Lib.decDigits_length];exact UZ 5 n h
theorem acY{z:PS}{r:PR}(h:lC T=(T.size,z))(a:z.C=[])(b:z.d.C=[r])(c:T.size<=1200)(e:T.size≠0):gK T=(0,0,[r]):=by unfold gK lQ;grind
def cT(N K:Nat):ByteArray:=⟨(99::49::58::99::62::98::40::((fI N).data.toList++44::((fI K).data.toList++[41]))).toArray⟩
def mT(K:Nat):ByteArray:=⟨(109::49::58::99::62::98::40::((fI K).data.toList++[41])).toArray⟩
def acZ{l:List UInt8}:nk ⟨l.toArray⟩ 0 l:=⟨[],fi⟩
theorem at5(b:N<1000000)(c:K<1000000):gK (cT N K)=(0,0,[⟨[2,1,N,K,4,1,0,0],[]⟩]):=by
 have h:(fI N).data.toList.length=(fI N).size:=by rw[Â];rfl
 have i:(fI K).data.toList.length=(fI K).size:=by rw[Â];rfl
 have d:(cT N K).size=7+((fI N).size+1+(fI K).size+1):=by unfold cT;rw[ù,å];grind
 have a:nk (cT N K) 0 _:=acZ;have j:=An b;have l:=An c;let⟨z,e,f,g⟩:=atZ (T:=cT N K) (k:=7) (st:=⟨[110,44,107,41],0,0,40,⟨[],È,⟨[2,1,0,0,4,1,0,0],[]⟩,á,⟨[],⟨#[]⟩⟩⟩⟩) ⟨(λq=>by cases q),λ_=>(by show 4<=8;decide)⟩ U U b c a.r.r.r.r.r.r.r d;refine acY (z:=z) ?_ f (by rw[g];rfl) Z Z;unfold lC;rw[<-e,show(cT N K).size=(cT N K).size-7+1+1+1+1+1+1+1 by omega];rw[pf a U,pf a.r U,pf a.r.r U,pf a.r.r.r U,pf a.r.r.r.r U,pf a.r.r.r.r.r U,pf a.r.r.r.r.r.r U];rfl
theorem at6(b:K<1000000):gK (mT K)=(0,0,[⟨[2,1,0,K,5,1,0,0],[]⟩]):=by
 have g:(fI K).data.toList.length=(fI K).size:=by rw[Â];rfl
 have c:(mT K).size=7+((fI K).size+1):=by unfold mT;rw[ù,å];grind [Đ,ã,Ł]
 have a:nk (mT K) 0 _:=acZ;have h:=An b;let⟨z,d,e,f⟩:=at0 (T:=mT K) (k:=7) (st:=⟨[107,41],0,0,40,⟨[],È,⟨[2,1,0,0,5,1,0,0],[]⟩,á,⟨[],⟨#[]⟩⟩⟩⟩) ⟨(λq=>by cases q),λ_=>(by show 4<=8;decide)⟩ U U b a.r.r.r.r.r.r.r c;refine acY (z:=z) ?_ e (by rw[f];rfl) Z Z;unfold lC;rw[<-d,show(mT K).size=(mT K).size-7+1+1+1+1+1+1+1 by omega];rw[pf a U,pf a.r U,pf a.r.r U,pf a.r.r.r U,pf a.r.r.r.r U,pf a.r.r.r.r.r U,pf a.r.r.r.r.r.r U];rfl
end
end Go.Proofs.Y.nh
namespace Go.Proofs.Y.kH
open Go Go.Conc Go.Proofs Go.RowKit Go.Proofs.Y.Lift Go.Proofs.Y.gw Go.Proofs.Y.fq Go.Proofs.Y.nh
open Go.Conc.Lib Go.ConcR.Gen Go.Proofs.YtgpphkdoanciiaaGreatDoor
def mN(p:ByteArray):fH:=(Ec (rP p) gw.jw).getD gw.jw
def at7(p:ByteArray):Ec (rP p) gw.jw=Ä (mN p):=fp
def aua(p:ByteArray):((mN p).s 2).fu=1000:=fp
def aub(p:ByteArray):(mN p).h=1:=fp
def ac0{p:ByteArray}(h:gK (iq p)=(0,0,[rP p])):lR [gw.jw] (iq p)=(⟨#[49]⟩,0,[gw.jw,mN p]):=by rw[atO h U U (v0:=gw.jw) U A,at7];rfl
section
variable{N K:Nat}{p:ByteArray}
def u9(N K:Nat):List ByteArray:=[⟨#[114,49]⟩,cT N K,mT K,⟨#[114,49]⟩,cT N K,mT K,⟨#[100,49,58,104]⟩,⟨#[98,49,58,99]⟩]
def OL(N K:Nat):List PR:=[⟨[0,0,0,0,6,1,0,0],[]⟩,⟨[2,1,N,K,4,1,0,0],[]⟩,⟨[2,1,0,K,5,1,0,0],[]⟩,⟨[0,0,0,0,6,1,0,0],[]⟩,⟨[2,1,N,K,4,1,0,0],[]⟩,⟨[2,1,0,K,5,1,0,0],[]⟩,⟨[0,0,0,0,9,1,-1,0],[]⟩,⟨[2,0,0,0,3,1,0,0],[]⟩]
def auc:gK ⟨#[114,49]⟩=(0,0,[⟨[0,0,0,0,6,1,0,0],[]⟩]):=fp
def aud:gK ⟨#[100,49,58,104]⟩=(0,0,[⟨[0,0,0,0,9,1,-1,0],[]⟩]):=fp
def aue:gK ⟨#[98,49,58,99]⟩=(0,0,[⟨[2,0,0,0,3,1,0,0],[]⟩]):=fp
theorem ac1:jY (cT N K):=by unfold jY at*;simp[cT,GH N,GH K]
def ac2:jY (mT K):=by unfold jY at*;simp[mT,GH K]
theorem ac3(a:N<1000000)(b:K<1000000):(cT N K).size<=21:=by
 have c:=An a;have d:=An b;have e:(fI N).data.toList.length=(fI N).size:=by rw[Â];rfl
 have f:(fI K).data.toList.length=(fI K).size:=by rw[Â];rfl
 unfold cT;rw[ù,å];grind
def ac4(a:K<1000000):(mT K).size<=21:=by
 have c:=An a;have b:(fI K).data.toList.length=(fI K).size:=by rw[Â];rfl
 unfold mT;rw[ù,å];simp only[Đ,ã,b,Ł];omega
def ac5(b:N<1000000)(a:K<1000000):(jb ⟨#[59]⟩<|u9 N K).size<=1200:=by
 have c:=Ow ⟨#[59]⟩ U<|u9 N K;have d:=ac3 b a;have e:=ac4 a;have f:iK (u9 N K)=2+(cT N K).size+(mT K).size+2+(cT N K).size+(mT K).size+4+4:=by show 2+((cT N K).size+((mT K).size+(2+((cT N K).size+((mT K).size+(4+(4+0)))))))=_;omega
 have g:(u9 N K).length=8:=U;omega
def auf(b:N<1000000)(a:K<1000000):gK (jb ⟨#[59]⟩<|u9 N K)=(0,0,OL N K):=by
 refine atS ?_ (λP c=> ?_) (by simp[u9]) (by simp[u9])<|ac5 b a
 .simp only[u9,OL,Þ,Ĕ,auc,aud,aue,at5 b a,at6 a]
 .simp only[u9,ý,č,or_false]at c;rcases c with rfl|rfl|rfl|rfl|rfl|rfl|rfl|rfl
  .decide
  .exact ac1
  .exact ac2
  .decide
  .exact ac1
  .exact ac2
  .decide
  .decide
def Kn(v:fH)(N K:Nat):List ByteArray:=[Aa<|xZ v.s,DC<|gi v.s [] 2 1 N K,oD v.s 2 1 K 0 401,Aa<|xZ v.s,DC<|gi v.s [] 2 1 N K,oD v.s 2 1 K 0 401,⟨#[45]⟩,⟨#[49,48,48,48]⟩]
def aug:fI 1000=⟨#[49,48,48,48]⟩:=fp
def auh(f:N<=400)(a:K<1000000)(p:ByteArray):lR [gw.jw,mN p] (jb ⟨#[59]⟩<|u9 N K)=(jb ⟨#[59]⟩<|Kn (mN p) N K,0,[gw.jw,mN p]):=by
 rw[atp (auf Z a) (by simp[OL])];have b:ma (ng [gw.jw,mN p]) 1=Ä (0,mN p):=acS (n:=1) U;have c:ma (ng [gw.jw,mN p]) (-1)=Ä (0,mN p):=by unfold ma ng;rw[if_pos U];simp only[Þ,Ĕ,ó,ė,tF,List.foldl,ya,aub];rfl
 apply congrArg λl=>(jb ⟨#[59]⟩ l,(0:Int),[gw.jw,mN p]);have l:DF []=⟨#[45]⟩:=if_pos U;have d:=aua p;generalize mN p=v at*;have e:¬400<N:=Z
 simp only[OL,Kn,Þ,Ĕ,rD,toQn,List.getD_cons_zero,List.getD_cons_succ,b,c,DG,atP,l];simp[d,e,aug]
end
section
variable{l:e9}
def aui(h:gL l)(p:nB<=l.w.heap.size)(r:B.size<=ê) (s:∀a,gL a->(∀b,l.O b->a.O b/\a.w.heap[b]?=l.w.heap[b]?)->l.w.heap.size<=a.w.heap.size->iL vQ a (G (f.at (y.put ((Q[i]?).bind (·.dst))<|ŝ #[Ë Ð (gK B).1,Ë Ð (gK B).2.1])<|Ç Q jJ::L) qX)): iL vQ l (G (Ê À 25 #[Á B] ä)<|f.at y (Ç Q (i::jJ)::L)::qX):=by
 have hF:=trivial;rw[enter_at #[Á B] Ĺ U];have e:(#[Á B]++Array.replicate (Tryz.f25.ntmps-(#[Á B]:Array Ñ).size) ö:Array Ñ)=#[Á B,ö,ö,ö,ö,ö,ö,ö,ö,ö,ö,ö,ö,ö,ö]:=fp
 rw[e];clear e;apply mA;apply fO (n:=20) h.r.r;repeat w_go ft
 refine Ã λ_ _=> ?_;refine wz (f:=36) (args:=#[Á B]) U fM (by k_ne) h.r.r (λw=>by go_simp) (λw=>É U Tryz.func36 U U #[]) λx c=> ?_;have j:=h.C c;refine fq.fg.lD ?_<|abY j.r j.q (Å p c.r) r È _ _;rintro o z ⟨d,t,v,rfl,_⟩;have k:=jA.xF j d t;have m:∀b,l.O b->o.O b/\o.w.heap[b]?=l.w.heap[b]?:=λb q=>⟨d.O b q,(d.r.I b<|Î q).trans<|c.I b<|Î q⟩;have u:=Å c.r d.r.r;rw[Ě];generalize(gK B).1=er at*;generalize(gK B).2.1=UK at*;walk_nrm;apply fO (n:=40) k.r.r;repeat w_go ft
 u_in ft hF
 refine Ŗ U U Ĺ U ⟨by u_nil,?_⟩;refine Ã λ_ _=> ?_;exact .fy λC g=>⟨k.C g,U,s _ (k.C g) (λb q=>⟨(m b q).1,(g.I b<|Î (m b q).1).trans (m b q).2⟩)<|Å u g.r⟩
end
noncomputable def OM:ű:=(Tryz.f16.body.bind gw.kt).getD .skip
def Ed(B:ByteArray)(c:UInt8)(r:Bool)(i:Int)(u:Nat->Ñ):ł:=⟨#[Á B,Ë Ū c.toNat,u 2,u 3,Ó r,Ë Ð i,u 6,u 7,u 8,u 9,u 10,u 11,u 12,u 13,u 14,u 15,u 16],[]⟩
def Ao(B:ByteArray)(c:UInt8)(r:Bool)(i:Int)(a:ł):Prop:=∃u,a=Ed B c r i u
section
variable{Y:ł->Ô->Prop}{c:UInt8}
def auj(u:Nat->Ñ)(b:∀a,Ao B c á B.size a->H a w):ĕ À OM (Exit.then K<|QN H Y) (Ed B c á B.size u) w:=by
 unfold Ed;conv=>arg 2;whnf
 go_wp2_with fail
 exact b _ (gw.gh _)
theorem auk(u:Nat->Ñ)(i:Nat)(j:i<B.size)(e:B.size<=ê)(f:B[i]≠c->∀a,Ao B c á ((i+1:Nat):Int) a->K a w)(g:B[i]=c->∀a,Ao B c È i a->Y a w):ĕ À OM (Exit.then K<|QN H Y) (Ed B c á i u) w:=by
 unfold Ed;conv=>arg 2;whnf
 have k:Ð.wrap ((i:Int)+1)=((i+1:Nat):Int):=by unfold ê at e;exact IntWalk.i64_in _ ⟨Z,Z⟩
 have b:=fc<|ñ f g;clear f g e;by_cases d:B[i]=c
 .have h:((B[i].toNat:Int)==(c.toNat:Int))=È:=by rw[d];simp
  go_wp2_with fail
  exact b.out.2 d _ (gw.gh _)
 .have h:((B[i].toNat:Int)==(c.toNat:Int))=á:=by
   grind [ÿ]
  go_wp2_with fail
  exact b.out.1 d _ (gw.gh _)
def U2(B:ByteArray)(c:UInt8)(yQ:Bool)(u:Ô)(a:ł)(w:Ô):Prop:=∃i:Nat,Ao B c á i a/\i<=B.size/\decide (c∈B.data.toList.drop i)=yQ/\w=u
def HsE(B:ByteArray)(c:UInt8)(yQ:Bool)(u:Ô)(a:ł)(w:Ô):Prop:=Ao B c á B.size a/\yQ=á/\w=u
def HsR(B:ByteArray)(c:UInt8)(yQ:Bool)(u:Ô)(a:ł)(w:Ô):Prop:=∃i:Nat,Ao B c È i a/\yQ=È/\w=u
def xW(B:ByteArray)(a:ł)(_:Ô):Nat:=match a.tmps.getD 5 ö with
 |Ë _ i=>B.size-i.toNat
 |_=>0
def Jw{r:Bool}(b:Ao B c r i y):xW B y w=B.size-i:=by obtain⟨u,rfl⟩:=b;show B.size-(i:Int).toNat=_;simp
theorem aul(h:B.size<=ê)(a:ł)(w:Ô)(j:U2 B c yQ u a w): ĕ À OM (Exit.then (λb d=>U2 B c yQ u b d/\xW B b d<xW B a w)<|QN (HsE B c yQ u)<|HsR B c yQ u) a w:=by
 let⟨i,e,n,f,d⟩:=j;rw[Jw e];obtain⟨b,rfl⟩:=e;by_cases l:i=B.size
 .subst l;refine auj b λa q=>⟨q,?_,d⟩;rw[<-f,Ė (by rw[Â];exact Ì _)];rfl
 .have g:i<B.size:=Z
  have m:i<B.data.toList.length:=by rwa[Â]
  rw[Ą m,show B.data.toList[i]=B[i] by rw[é];rfl]at f;refine auk b i g h (λq a k=>⟨⟨i+1,k,Z,?_,d⟩,by rw[Jw k];omega⟩) λq a k=>⟨i,k,?_,d⟩;all_goals grind
def aum(B:ByteArray)(c:UInt8)(d:B.size<=ê)(w:Ô):ū À 16 #[Á B,Ë Ū c.toNat] w λe f=>e=Ē (Ó<|decide<|c∈B.data.toList)/\f=w:=by
 have L:∀a,Ao B c á (0:Nat) a->ĕ À (Ť OM) (QN (HsE B c (decide<|c∈B.data.toList) w)<|HsR B c (decide<|c∈B.data.toList) w) a w:=λa g=>
  wp_loop (U2 B c (decide<|c∈B.data.toList) w) (xW B) ⟨0,g,Ò _,U,U⟩<|aul d
 have H:=fc L;generalize decide (c∈B.data.toList)=yQ at*;clear L;go_enter ř,Tryz.ntmps16;go_wp2_with fail;refine ŋ ?_ (H.out _ (gw.gh _));rintro(_|(_|_)|_|_|_|_) a v hq;all_goals first|exact absurd hq id|skip
 .obtain⟨b,rfl,rfl⟩:=hq;obtain⟨u,rfl⟩:=b;unfold Ed;go_wp2_with fail;go_ret;exact⟨U,U⟩
 .obtain⟨i,b,rfl,rfl⟩:=hq;obtain⟨u,rfl⟩:=b;unfold Ed;go_ret;exact⟨U,U⟩
end
def aun{l:e9}(e:gL l)(f:nB<=l.w.heap.size)(c:UInt8)(g:B.size<=ê)(a:ĝ)(b:List ĝ): fq.fg À È (λh u=>jA l h/\h.d=l.d/\u=G (a.finish<|Ó<|decide<|c∈B.data.toList) b) l (G (Ê À 16 #[Á B,Ë Ū c.toNat] ä)<|a::b):= Kk e f fM (λu h=>by simp at h;rcases h with rfl|rfl;exact .kJ _;exact .iC _ _) (λh=>by cases h;rfl) (aum B c g) È a b
def auo{T:ByteArray}(w:Ô)(h:B.size+T.size<=10^15):Sem.events À (Go.Op.stringOp BinOp.add B T) w #[]=#[]:=by
 have a:¬ê<B.size+T.size:=by unfold ê;omega
 simp[go_sem,Op.stringOp,a]
def oJ{J:Jd}{l:e9}{b:Frame}{a:Act}{ops:Array Oper}{i:Nat}{rest:List Nat}{k:List Item}{cs:List Frame}{o:Oper}{x y:Operand}(S T U:ByteArray)(hb:gL l)(hU:S++T=U)(h:S.size+T.size<=10^15)(hn:fq.fg Tryz.prog true J l (G (b.at (a.put o.dst<|.string U)<|.inRegion ops rest::k) cs)) (ho:ops[i]?=some o:=by rfl) (qR:o.op=.binOp .add 9 x y 9:=by rfl) (hx:a.eval x=.string S:=by rfl) (hy:a.eval y=.string T:=by rfl) (hw:Region.wanted o (yielded ops a.tmps)=true:=by rfl) (hk:b.kind≠.early:=by k_ne): fq.fg Tryz.prog true J l (G (b.at a<|.inRegion ops (i::rest)::k) cs):=by
 subst hU;have h2:¬9223372036854775807<S.size+T.size:=Z
 refine nH (v:=Á<|S++T) ho hw hk hb.r.r hb.q (λw _=> ?_) (λw _ e he=> ?_) hn
 .let⟨d,p,t,q,af,g⟩:=o;simp only at qR;subst qR;simp only[Ī,hx,hy];go_simp
 .let⟨d,p,t,q,af,g⟩:=o;simp only at qR;subst qR;simp only[Ī,hx,hy]at he;simp[go_sem,auo w h]at he
section
variable{l a:e9}{s c:List fH}{S p:ByteArray}
def ac6(h:jZ X W l j b s)(d:gL l)(o:B.size<=ê)(p:lR s B=(S,0,c)) (q:∀a,gL a->jZ X W a j b c->iL vQ a (G (f.at (y.put ((Q[i]?).bind (·.dst))<|Ó È)<|Ç Q jJ::L) qX)): iL vQ l (G (Ê À 20 #[Ï<|Ä ⟨j,0,Ü⟩,Á B,Á S] ä)<|f.at y (Ç Q (i::jJ)::L)::qX):=by
 have hF:True:=trivial;rw[wy [_,_,_] 19 ģ];simp only[ë,Ù,Ö];conv in kY _ _=>whnf
 apply mA;apply fO (n:=60) d.r.r;repeat w_go ft
 refine Ã λ_ _=> ?_;refine .fy λu e=>⟨d.C e,U,?_⟩;have m:=d.C e;refine yl (f:=17) (args:=#[Ï<|Ä ⟨j,0,Ü⟩,Á B]) m U fM (by k_ne) (λw=>by go_simp) (λw=>É U ŕ U U #[]) λr w=> ?_;refine acQ ((h.r e).r w) (m.C w) o λv g k=> ?_;rw[p]at k|-;dsimp only at k|-;walk_nrm;apply mA;apply fO (n:=60) g.r.r;repeat w_nl ft
 u_in ft hF
 refine Ć (t:=6) U U ģ U ⟨by u_nil,?_⟩;refine Ã λ_ _=> ?_;exact .fy λr w=>⟨g.C w,U,q _ (g.C w)<|k.r w⟩
def ac7(r:gL l)(E:mL l.w)(F:∀d,d=1\/d=2\/d=3\/d=4->l.O d)(hp:p.size<=10^14*2)(k:Int)(M:-9223372036854775808<=k)(N:k<=9223372036854775807)(x:lR [gw.jw] (iq p)=(⟨#[49]⟩,0,c)) (P:∀a j b,gL a->jZ l.O l.w a j b c->l.w.heap.size<=j->iL vQ a (G (f.at (y.put ((Q[i]?).bind (·.dst))<|Ï<|Ä ⟨j,0,Ü⟩)<|Ç Q jJ::L) qX)): iL vQ l (G (Ê À 27 #[Á p,Ë Ð k] ä)<|f.at y (Ç Q (i::jJ)::L)::qX):=by
 have hF:True:=trivial;rw[wy [_,_] 17 Ĥ];simp only[ë,Ù,Ö];conv in kY _ _=>whnf
 apply mA;apply fO (n:=40) r.r.r;repeat w_go ft
 refine Ã λ_ _=> ?_;refine .fy λw₁ z=>⟨r.C z,U,?_⟩;have H:=r.C z;refine yl (f:=15) (args:=#[Ë Ð k]) H U fM (by k_ne) (λw=>by go_simp) (λw=>É U Tryz.func15 U U #[]) λI g=> ?_;have s:fF l l.w I:=z.fe ⟨g.r,g.I,g.N,g.Y,g.S⟩;refine asT (H.C g) (E.r (Å E.fv s.r) λd q=>s.I d<|Î<|F d q) F k M N λS j b W V h m=> ?_;have X:l.w.heap.size<=j:=Å s.r m.I;have J:jZ l.O l.w S j b [gw.jw]:=⟨⟨W,V,m.r⟩,λd q=>⟨⟨(m.C d q).1,(m.C d q).2.trans<|s.I d<|Î q⟩,by have:=r.r.fv d<|Î q;omega⟩⟩;clear m;obtain⟨o,B⟩:∃T,(⟨#[105,48,58,97,47,98,123]⟩++p:ByteArray)=T:=⟨_,U⟩;obtain⟨u,C⟩:∃T,(o++⟨#[125]⟩:ByteArray)=T:=⟨_,U⟩;have Y:o.size=7+p.size:=by rw[<-B,Æ];rfl
 have z2:u.size=7+p.size+1:=by rw[<-C,Æ,Y];rfl
 have e2:iq p=u:=by rw[<-C,<-B];rfl
 rw[e2]at x;walk_nrm;apply mA;apply fO (n:=40) h.r.r;repeat w_go ft
 refine Ã λ_ _=> ?_;apply nH (v:=Ó á) U fM (by k_ne) h.r.r h.q (λw _=>by go_simp) (λw _ e D=>by simp[go_sem,Ox]at D);walk_nrm;apply fO (n:=60) h.r.r;repeat w_nl ft
 refine Ã λ_ _=> ?_;refine oJ ⟨#[105,48,58,97,47,98,123]⟩ p o h B (by show 7+p.size<=_;omega) ?_;walk_nrm;refine oJ o ⟨#[125]⟩ u h C (by show o.size+1<=_;omega) ?_;walk_nrm;refine .fy λach e=>⟨h.C e,U,?_⟩;refine yl (f:=20) (args:=#[Ï<|Ä ⟨j,0,Ü⟩,Á u,Á ⟨#[49]⟩]) (h.C e) U fM (by k_ne) (λw=>by go_simp) (λw=>É U ģ U U #[]) λse K=> ?_;refine ac6 ((J.r e).r K) ((h.C e).C K) (by unfold ê;omega) x λl6 D u6=> ?_;clear J x;walk_nrm;apply mA;apply fO (n:=60) D.r.r;repeat w_nl ft
 u_in ft hF
 refine Ć (t:=4) U U Ĥ U ⟨by u_nil,?_⟩;refine Ã λ_ _=> ?_;exact .fy λI g=>⟨D.C g,U,P _ _ _ (D.C g) (u6.r g) X⟩
end
def sM(c:Int)(n:Nat):Nat:=((if c<0 then-(c+1)else c)%(n:Int)).toNat
def U3(c:Int)(h:0<n):sM c n<n:=by unfold sM;have a:=Int.emod_lt_of_pos (if c<0 then-(c+1)else c) (show(0:Int)<n by omega);have b:=ě (if c<0 then-(c+1)else c) (show(n:Int)≠0 by omega);omega
def ac8(c:Int)(f:-9223372036854775808<=c)(g:c<=9223372036854775807)(i:0<n)(j:n<=1000000)(w:Ô):ū À 30 #[Ë Ð c,Ë Ð n] w λe d=>e=Ē (Ë Ð<|sM c n)/\d=w:=by
 have k:((n:Int)==0)=á:=by simp;omega
 have b:(n:Int)≠0:=Z
 unfold sM;by_cases h:c<0
 .rw[if_pos h];have a:=ě (-(c+1)) b;have e:-(c+1).tmod n=(-(c+1))%n:=by rw[<-Int.neg_tmod,è Z]
  have H:=fc<|ñ e.symm a;clear e a;go_enter ĺ,ō;go_wp2;go_ret;exact⟨by rw[Int.toNat_of_nonneg H.out.2,H.out.1];rfl,U⟩
 .rw[if_neg h];have a:=ě c b;have e:c.tmod n=c%n:=è Z;have H:=fc<|ñ e.symm a;clear e a;go_enter ĺ,ō;go_wp2;go_ret;exact⟨congrArg (λz=>Ē<|Ë Ð z) (Int.max_eq_left H.out.2).symm,U⟩
def aup(c:Int)(b:-9223372036854775808<=c)(d:c<=9223372036854775807)(w:Ô):ū À 29 #[Ë Ð c] w λe a=>e=Ē (Á<|fI<|sM c 1000000)/\a=w:=by
 have g:=U3 c (n:=1000000) A;have h:ħ.wrap ((sM c 1000000:Nat):Int)=(sM c 1000000:Nat):=by rw[Ĵ];omega
 have H:=fc<|ñ (ac8 c b d (n:=1000000) A A w)<|acG (sM c 1000000) Z w;generalize sM c 1000000=m at*;go_enter Ś,Tryz.ntmps29;go_wp2_with (first|(go_at_call 30;refine H.out.1.mono ?_;rintro e a ⟨rfl,f⟩;subst a)|(go_at_call 21;refine H.out.2.mono ?_;rintro e a ⟨rfl,f⟩;subst a));go_ret;exact⟨U,U⟩
section
variable{l a:e9}{s o:List fH}{p:ByteArray}{g:ĝ}
def auq(b:gL l)(e:nB<=l.w.heap.size)(c:Int)(f:-9223372036854775808<=c)(i:c<=9223372036854775807)(j:0<n)(k:n<=1000000): fq.fg À È (λa h=>jA l a/\a.d=l.d/\h=G (g.finish<|Ë Ð<|sM c n) qX) l (G (Ê À 30 #[Ë Ð c,Ë Ð n] ä)<|g::qX):= Kk b e fM (λu h=>by simp at h;rcases h with rfl|rfl<;>exact .iC _ _) (λh=>by cases h;rfl) (ac8 c f i j k) È g qX
def aur(b:gL l)(e:nB<=l.w.heap.size)(c:Int)(f:-9223372036854775808<=c)(i:c<=9223372036854775807): fq.fg À È (λa h=>jA l a/\a.d=l.d/\h=G (g.finish<|Á<|fI<|sM c 1000000) qX) l (G (Ê À 29 #[Ë Ð c] ä)<|g::qX):= Kk b e fM (λu h=>by simp at h;subst h;exact .iC _ _) (λh=>by cases h;rfl) (aup c f i) È g qX
def aus(b:gL l)(c:nB<=l.w.heap.size)(e:n<18446744073709551616): fq.fg À È (λa h=>jA l a/\a.d=l.d/\h=G (g.finish<|Á<|fI n) qX) l (G (Ê À 21 #[Ë ħ n] ä)<|g::qX):= Kk b c fM (λu h=>by simp at h;subst h;exact .iC _ _) (λh=>by cases h;rfl) (acG n e) È g qX
def aut(d:gL l)(B:nB<=l.w.heap.size)(V:p.size<=10^14*2) (e:∀a,gL a->(∀b,l.O b->a.O b/\a.w.heap[b]?=l.w.heap[b]?)->l.w.heap.size<=a.w.heap.size->iL vQ a (G (f.at (y.put ((Q[i]?).bind (·.dst))<|Ó<|decide ((gK<|iq p).1=0)&&!decide (125∈p.data.toList))<|Ç Q jJ::L) qX)): iL vQ l (G (Ê À 28 #[Á p] ä)<|f.at y (Ç Q (i::jJ)::L)::qX):=by
 have hF:True:=trivial;obtain⟨k,u⟩:∃T,(⟨#[105,48,58,97,47,98,123]⟩++p:ByteArray)=T:=⟨_,U⟩;obtain⟨g,v⟩:∃T,(k++⟨#[125]⟩:ByteArray)=T:=⟨_,U⟩;have M:k.size=7+p.size:=by rw[<-u,Æ];rfl
 have W:g.size=7+p.size+1:=by rw[<-v,Æ,M];rfl
 have N:iq p=g:=by rw[<-v,<-u];rfl
 rw[N]at e;rw[wy [_] 20 ĥ];simp only[ë,Ù,Ö];conv in kY _ _=>whnf
 apply mA;apply fO (n:=60) d.r.r;repeat w_go ft
 refine Ã λ_ _=> ?_;refine oJ ⟨#[105,48,58,97,47,98,123]⟩ p k d u (by show 7+p.size<=_;omega) ?_;walk_nrm;refine oJ k ⟨#[125]⟩ g d v (by show k.size+1<=_;omega) ?_;walk_nrm;refine .fy λX m=>⟨d.C m,U,?_⟩;refine yl (f:=25) (args:=#[Á g]) (d.C m) U fM (by k_ne) (λw=>by go_simp) (λw=>É U Ĺ U U #[]) λC c=> ?_;have D:=Å m.r c.r;refine aui ((d.C m).C c) (Å B D) (by unfold ê;omega) λP s F H=> ?_;obtain⟨E,S⟩:∃E,(gK g).1=E:=⟨_,U⟩;rw[S]at e|-;generalize(gK g).2.1=UK;walk_nrm;apply mA;apply fO (n:=60) s.r.r;repeat w_nl ft
 refine Ã λ_ _=> ?_;refine wz (f:=16) (args:=#[Á p,Ë Ū 125]) U fM (by k_ne) s.r.r (λw=>by go_simp) (λw=>É U ř U U #[]) λY o=> ?_;have I:l.w.heap.size<=P.w.heap.size:=Å D H;refine fq.fg.lD ?_ (aun (s.C o) (Å B<|Å I o.r) 125 (by unfold ê;omega) _ _);rintro x g5 ⟨r,J,rfl⟩;have h:=jA.xF (s.C o) r J;have j:∀b,l.O b->x.O b/\x.w.heap[b]?=l.w.heap[b]?:=λb q=>by let⟨z,K⟩:=F b q;exact⟨r.O b z,(r.r.I b<|Î z).trans<|(o.I b<|Î z).trans<|K.trans<|(c.I b<|Î q).trans<|m.I b<|Î q⟩
 have K:l.w.heap.size<=x.w.heap.size:=Å I<|Å o.r r.r.r;rw[Ě];generalize decide (125∈p.data.toList)=hs at*;clear F H r J;by_cases z:E=0
 .subst z;rw[decide_eq_true U,Bool.true_and]at e;walk_nrm;apply fO (n:=60) h.r.r;repeat w_nl ft
  u_in ft hF
  refine Ć (t:=2) U U ĥ U ⟨by u_nil,?_⟩;refine Ã λ_ _=> ?_;exact .fy λC c=>⟨h.C c,U,e _ (h.C c) (λb q=>⟨(j b q).1,(c.I b<|Î (j b q).1).trans (j b q).2⟩)<|Å K c.r⟩
 .rw[decide_eq_false z,Bool.false_and]at e;have lr:(E==0)=á:=by rwa[beq_eq_false_iff_ne]
  walk_nrm;apply fO (n:=60) h.r.r;repeat w_nl ft
  u_in ft hF
  refine Ć (t:=2) U U ĥ U ⟨by u_nil,?_⟩;refine Ã λ_ _=> ?_;exact .fy λC c=>⟨h.C c,U,e _ (h.C c) (λb q=>⟨(j b q).1,(c.I b<|Î (j b q).1).trans (j b q).2⟩)<|Å K c.r⟩
end
end Go.Proofs.Y.kH
namespace Go.Proofs.Y.fq
open Go Go.Conc Go.Proofs.Y.Lift Go.RowKit Go.Conc.Lib Go.ConcR.Gen
def ac9(a:Array Ħ):Bool:=(â a.size).all λi=>match a[i]? with
 |none=>È
 |some o=>o.dst.isSome&&(match o.op with|.select _ _=>á|_=>È)&&(o.op.operands.toList.all λx=>match x with
  |.tmp d=>(â a.size).all λj=>((a[j]?).bind (·.dst)) !=Ä d||o.after.toList.any λe=>e.on==j&&vB e
  |_=>È)&&(match o.guard with
  |none=>È
  |some (j,_)=>o.after.toList.any λe=>e.on==j&&vB e)
def Ee(a:Array Ħ)(t:Array Ñ)(i:Nat):Ñ:=t.getD (((a[i]?).bind (·.dst)).getD 0) ö
def ON(p:Nat->Ħ->Prop):Nat->List Ħ->Prop
 |_,[]=>True
 |n,o::r=>p n o/\ON p (n+1) r
def auu{p:Nat->Ħ->Prop}:∀(l:List Ħ) (n i:Nat) (o:Ħ),ON p n l->l[i]?=Ä o->p (n+i) o:=by
 intro l
 induction l with
 |nil=>intro n i o _ e;simp at e
 |cons x l a=>
  intro n i o h e;cases i with
  |zero=>
   rw[ó]at e;obtain rfl:=Õ e;exact h.1
  |succ i=>
   rw[ò]at e;rw[show n+(i+1)=n+1+i by omega];exact a _ i o h.2 e
section
variable{J:Jd}{l:e9}{c:Array Ñ}
def lI.N(h:lI Q q (Ee Q c) wJ y)(g:∀d,Q.toList.all (λo=>o.dst !=Ä d)=È->c[d]?=q[d]?)(i:c.size=q.size)(k:qZ Q q.size=È){d:Nat}(l:∀j o,Q[j]?=Ä o->o.dst=Ä d->wJ.getD j á=È):y.tmps[d]?=c[d]?:=by
 by_cases a:Q.toList.all (λo=>o.dst !=Ä d)=È
 .rw[h.C a,g d a]
 .obtain⟨j,m,b⟩:∃j,∃h:j<Q.size,Q[j].dst=Ä d:=by simpa using a
  have e:=í m;have f:d<c.size:=by rw[i];exact YY k e b
  rw[h.r j _ d e (l j _ e b) b,Ee,e,í f];simp[b,f]
def GJ:List Ħ->List Ñ->Array Ñ->Array Ñ
 |o::os,v::vs,t=>GJ os vs (match o.dst with|some d=>t.setIfInBounds d v|none=>t)
 |_,_,t=>t
def GK:∀(a:List Ħ) (b:List Ñ) (t:Array Ñ),(GJ a b t).size=t.size/\∀d,a.all (λo=>o.dst !=Ä d)=È->(GJ a b t)[d]?=t[d]?
 |[],_,t=>⟨U,λ_ _=>rfl⟩
 |o::a,[],t=>⟨U,λ_ _=>rfl⟩
 |o::a,v::b,t=>by
  unfold GJ;cases c:o.dst with
  |none=>
   refine⟨(GK a b t).1,λd h=>(GK a b t).2 d ?_⟩;simp only[ņ,à]at h;exact h.2
  |some e=>
   refine⟨by rw[(GK a b _).1];simp,λd h=> ?_⟩;simp only[ņ,à,c]at h;rw[(GK a b _).2 d h.2,Array.getElem?_setIfInBounds_ne (by simpa using h.1)]
end
def ada(P:ť)(h:Bool)(l:e9)(b:ĝ)(k:List Ů)(j:List ĝ)(g:Array Ħ)(d:Array Ñ)(i:Nat)(o:Ħ):Prop:=
 ċ o (į g d)=È/\((∀c,fF l l.w c->(Ī (Act.eval ⟨d,[]⟩) o).run P c=.ok (.value<|Ee g d i) c/\∀e∈(Ī (Act.eval ⟨d,[]⟩) o).events P c #[],vA l e)\/
  ∃f e,(∀w,(Ī (Act.eval ⟨d,[]⟩) o).run P w=.ok (.enter f e) w)/\(∀w,(Ī (Act.eval ⟨d,[]⟩) o).events P w #[]=#[])/\
   ∀c,fF l l.w c->∀(a:ł) (m:List Nat) (J:Jd),fg P h J {l with w:=c} (G (b.at (a.put ((g[i]?).bind (·.dst)) (Ee g d i)) (Ç g m::k)) j)->fg P h J {l with w:=c} (G (Ê P f e ä) (b.at a (Ç g (i::m)::k)::j)))
section
variable{J:Jd}{l:e9}
theorem auv{id:Nat}(B:jU l)(K:¬l.q)(M:f.kind≠.early)(m:qZ Q d.size=È)(V:ac9 Q=È)(W:∀t,LU t Q (â Q.size) []=È)(C:q.size=d.size)(D:∀a,Q.toList.all (λo=>o.dst !=Ä a)=È->q[a]?=d[a]?) (X:ON (ada P yQ l f L qX Q q) 0 Q.toList) (hn:∀b,fF l l.w b->fg P yQ J {l with w:=b} (G (f.at ⟨q,[]⟩<|Ç Q []::L) qX)):fg P yQ J l (G (f.at ⟨d,[]⟩<|Ţ (.region id Q È)::L) qX):=by
 refine LQ (λwJ y E=>lI Q d (Ee Q q) wJ y/\∃b,fF l l.w b/\E={l with w:=b}) B K (λb r=>⟨lI.G _ _ _,{b with drawn:=b.drawn+1},⟨r.r,r.I,r.N,r.Y,r.S⟩,U⟩) (λt wJ y E i N F k=> ?_) λt wJ y E F Y H=> ?_
 .obtain⟨h,b,r,rfl⟩:=F;obtain⟨o,c⟩:∃o,Q[i]?=Ä o:=⟨_,í<|zh k⟩;have I:=đ.1 V i<|õ.2<|zh k;rw[c]at I;simp only[à]at I;let⟨⟨⟨_,O⟩,KY⟩,S⟩:=I;have u:Ī y.eval o=Ī (Act.eval ⟨q,[]⟩) o:=execOp_congr o (λqX f e=>by rw[e]at O;cases O) λx hx=>by
   have p:=đ.1 KY x<|Array.mem_toList_iff.2 hx;cases x with
   |tmp a=>
    show y.tmps.getD a ö=q.getD a ö;have:=h.N D C m (d:=a) λj z n s=>by have:=đ.1 p j<|õ.2 (ç.1 n).1;simp only[n,ĵ,s,bne_self_eq_false,Bool.false_or]at this;exact ic k c this
    simp only[Array.getD_eq_getD_getElem?,this]
   |const v=>rfl
   |global g=>rfl
   |func g=>rfl
  have T:ċ o (į Q y.tmps)=ċ o (į Q q):=by
   unfold ċ;cases v:o.guard with
   |none=>rfl
   |some p=>
    let⟨j,bv⟩:=p;rw[v]at S;have hlj:=ic k c S;have:į Q y.tmps j=į Q q j:=by
     unfold į;cases n:Q[j]? with
     |none=>rfl
     |some oj=>
      cases s:oj.dst with
      |none=>simp[s]
      |some a=>
       have:=h.N D C m (d:=a) λj' z avl avm=>by grind [YZ]
       simp only[ĵ,s,this]
    simp only[this]
  have z:=auu _ _ _ _ X (show Q.toList[i]?=Ä o by rwa[Array.getElem?_toList]);rw[Ō]at z;rcases z.2 with vH|⟨g,args,H,he,hW⟩
  .refine nH c (T.trans z.1) M (lH B r) K (λv p=> ?_) (λv p=> ?_)<|.fy λv p=>⟨_,U,h.fP m c k λ_=>rfl,v,r.fe ⟨p.r,p.I,p.N,p.Y,p.S⟩,U⟩
   .rw[u];exact(vH v<|r.fe ⟨p.r,p.I,p.N,p.Y,p.S⟩).1
   .rw[u];exact(vH v<|r.fe ⟨p.r,p.I,p.N,p.Y,p.S⟩).2
  .refine .mk U λv p=>⟨G (Ê P g args ä)<|f.at y (Ç Q (i::N)::L)::qX,v,#[],{l with w:=v},?_,LK v<|lH (l:={l with w:=b}) (lH B r) p,hW v (r.fe ⟨p.r,p.I,p.N,p.Y,p.S⟩) y N _<|.fy λCy s=>⟨_,U,?_,Cy,(r.fe ⟨p.r,p.I,p.N,p.Y,p.S⟩).fe ⟨s.r,s.I,s.N,s.Y,s.S⟩,U⟩⟩
   .rw[stepG_enter c (T.trans z.1) M (by rw[u];exact H v)];unfold ŭ;rw[u,he v,seen_none]
   .rw[show(Q[i]?).bind (·.dst)=o.dst by rw[c];rfl];exact h.fP m c k λ_=>rfl
 .obtain⟨h,b,r,rfl⟩:=F;have v:=pH H Y _ [] (W t) λ_ g=>by cases g
  have e:y=⟨q,[]⟩:=by let⟨s,z⟩:=y;have p:=h.M;simp only at p;subst p;congr 1;refine Array.ext_getElem? λa=>h.N D C m λj o n _=>v j<|õ.2 (ç.1 n).1
  grind
def auw{id:Nat}(a:List Ñ)(c:jU l)(e:¬l.q)(g:f.kind≠.early)(i:qZ Q d.size=È)(j:ac9 Q=È)(k:∀m,LU m Q (â Q.size) []=È) (h:∀q,q=GJ Q.toList a d->ON (ada P yQ l f L qX Q q) 0 Q.toList/\∀b,fF l l.w b->fg P yQ J {l with w:=b} (G (f.at ⟨q,[]⟩<|Ç Q []::L) qX)): fg P yQ J l (G (f.at ⟨d,[]⟩<|Ţ (.region id Q È)::L) qX):= auv c e g i j k (GK _ a _).1 (GK _ a _).2 (h _ U).1 (h _ U).2
end
end Go.Proofs.Y.fq
namespace Go.Proofs.Y.kH
open Go Go.Conc Go.Proofs Go.RowKit Go.Proofs.Y.Lift Go.Proofs.Y.gw Go.Proofs.Y.fq Go.Proofs.Y.nh
open Go.Conc.Lib Go.ConcR.Gen Go.Proofs.YtgpphkdoanciiaaGreatDoor
def va(S T:ByteArray):∃a,S++T=a/\a.size=S.size+T.size:=⟨_,U,Æ⟩
def adb(r:gw.zH):jY (DC r):=atw λx a=>by
 rcases Ę.1 a with z|z
 .simp at z;rcases z with rfl|rfl|rfl<;>exact GH _
 .exact atz _ aty _ x z
def auy(v:fH)(N K:Nat):∀x∈Kn v N K,jY x:=λx a=>by
 simp only[Kn,ý,č,or_false]at a;rcases a with rfl|rfl|rfl|rfl|rfl|rfl|rfl|rfl
 .exact acI _
 .exact adb _
 .exact UR _ _ _ _ _ _
 .exact acI _
 .exact adb _
 .exact UR _ _ _ _ _ _
 .decide
 .decide
def auz(N K:Nat):((((⟨#[99,49,58,99,62,98,40]⟩++fI N)++⟨#[44]⟩)++fI K)++⟨#[41]⟩:ByteArray)=cT N K:=î<|ü.1<|by simp[cT,ú]
def auA(K:Nat):((⟨#[109,49,58,99,62,98,40]⟩++fI K)++⟨#[41]⟩:ByteArray)=mT K:=î<|ü.1<|by simp[mT,ú]
def auB(c m:ByteArray):((((((((⟨#[114,49,59]⟩++c)++⟨#[59]⟩)++m)++⟨#[59,114,49,59]⟩)++c)++⟨#[59]⟩)++m)++⟨#[59,100,49,58,104,59,98,49,58,99]⟩:ByteArray)=jb ⟨#[59]⟩ [⟨#[114,49]⟩,c,m,⟨#[114,49]⟩,c,m,⟨#[100,49,58,104]⟩,⟨#[98,49,58,99]⟩]:=î<|ü.1<|by simp[jb,T4,nL,ú]
noncomputable def ade:ű:=kY Tryz.f12 [1,1,1,1,1,1,1,1]
noncomputable def vL (a:Array Ñ):Goroutine:=G ((base 12).at ⟨a,[]⟩ [Ţ ade]) []
section
variable{l:e9}{x:Nat}{s:List fH}{p:ByteArray}
def auC(h:jZ X W l x i [gw.jw,mN p])(hb:gL l)(hs:d.size=113)(z arg:Int)(t1:d[1]?=Ä (Ë Ð z))(t2:d[2]?=Ä (Ë Ð arg))(t12:d[12]?=Ä (Ï<|Ä ⟨x,0,Ü⟩))(g0:-9223372036854775808<=z)(g1:z<=9223372036854775807)(a0:-9223372036854775808<=arg)(a1:arg<=9223372036854775807) (hP:∀C,gL C->jZ X W C x i [gw.jw,mN p]->vQ (Ó È) C.w):iL vQ l (vL d):=by
 have hF:True:=trivial;obtain⟨u,rfl⟩:=xm d hs;have e1:u 1=Ë Ð z:=by simpa using t1
 have e2:u 2=Ë Ð arg:=by simpa using t2
 have e12:u 12=Ï (Ä ⟨x,0,Ü⟩):=by simpa using t12
 clear t1 t2 t12 hs;have avn:=U3 z (n:=401) A;have H:=U3 arg (n:=1000000) A;apply mA;apply fO (n:=60) hb.r.r;simp only[vL,â,ę,Ŕ,e1,e2,e12];conv in ade=>whnf
 repeat w_go ft
 refine Ã λ_ _=> ?_;refine Is h hb Ś (λC b f g j=>aur b f arg a0 a1) λl2 hb2 u2 _=> ?_;clear h;generalize sM arg 1000000=K at*;walk_nrm;apply fO (n:=60) hb2.r.r;repeat w_nl ft
 refine Ã λ_ _=> ?_;refine Is u2 hb2 ĺ (λC b f g j=>auq (n:=401) b f z g0 g1 A A) λl4 E u4 _=> ?_;clear u2;generalize sM z 401=N at*;have hwN:ħ.wrap (N:Int)=N:=by rw[Ĵ];omega
 walk_nrm;apply nH (v:=Ë ħ N) U fM (by k_ne) E.r.r E.q (λw _=>by go_simp) (λw _ e o=>by simp[go_sem]at o);walk_nrm;refine Is u4 E Œ (λC b f g j=>aus (n:=N) b f Z) λl6 j u6 _=> ?_;clear u4;have O:=auh (N:=N) (K:=K) Z H p;have ji:=asO u6.I<|jb ⟨#[59]⟩<|u9 N K;rw[O]at ji;have AU:=ac3 (N:=N) (K:=K) Z H;have hml:=ac4 (K:=K) H;have C8:=ac5 (N:=N) (K:=K) Z H;have Mv:=auz N K;have U4:=auA K;have U5:=auB (cT N K)<|mT K;have d1:=An (n:=N) Z;have d2:=An (n:=K) H;have Ew:=auy (mN p) N K;change lR _ (jb ⟨#[59]⟩ [⟨#[114,49]⟩,cT N K,mT K,⟨#[114,49]⟩,cT N K,mT K,⟨#[100,49,58,104]⟩,⟨#[98,49,58,99]⟩])=_ at O;change(jb ⟨#[59]⟩ [⟨#[114,49]⟩,cT N K,mT K,⟨#[114,49]⟩,cT N K,mT K,⟨#[100,49,58,104]⟩,⟨#[98,49,58,99]⟩]).size<=1200 at C8;have P:=fc<|ñ O<|ñ ji Ew;clear O ji Ew;generalize fI N=DN at*;generalize fI K=DK at*;generalize cT N K=c at*;generalize mT K=m at*;generalize jb ⟨#[59]⟩ [⟨#[114,49]⟩,c,m,⟨#[114,49]⟩,c,m,⟨#[100,49,58,104]⟩,⟨#[98,49,58,99]⟩]=J at*;let⟨F,EZ,z1⟩:=va ⟨#[99,49,58,99,62,98,40]⟩ DN;let⟨Q,s6,z2⟩:=va F ⟨#[44]⟩;let⟨C3,U6,z3⟩:=va Q DK;let⟨S,hM1,z4⟩:=va ⟨#[109,49,58,99,62,98,40]⟩ DK;let⟨G,hT1,y1⟩:=va ⟨#[114,49,59]⟩ c;let⟨T,EM,y2⟩:=va G ⟨#[59]⟩;let⟨I,U7,y3⟩:=va T m;let⟨Y,U8,y4⟩:=va I ⟨#[59,114,49,59]⟩;let⟨L,U9,y5⟩:=va Y c;let⟨T6,Va,y6⟩:=va L ⟨#[59]⟩;let⟨T7,Vb,y7⟩:=va T6 m;rw[EZ,s6,U6]at Mv;rw[hM1]at U4;rw[hT1,EM,U7,U8,U9,Va,Vb]at U5;change F.size=7+DN.size at z1;change Q.size=F.size+1 at z2;change S.size=7+DK.size at z4;change G.size=3+c.size at y1;change T.size=G.size+1 at y2;change Y.size=I.size+4 at y4;change T6.size=L.size+1 at y6;walk_nrm;refine oJ ⟨#[99,49,58,99,62,98,40]⟩ DN F j EZ (by show 7+DN.size<=_;omega) ?_;walk_nrm;refine oJ F ⟨#[44]⟩ Q j s6 (by show F.size+1<=_;omega) ?_;walk_nrm;apply fO (n:=60) j.r.r;repeat w_nl ft
 refine Ã λ_ _=> ?_;apply oJ Q DK C3 j U6 Z;walk_nrm;refine oJ C3 ⟨#[41]⟩ c j Mv (by show C3.size+1<=_;omega) ?_;walk_nrm;apply fO (n:=60) j.r.r;repeat w_nl ft
 refine Ã λ_ _=> ?_;refine oJ ⟨#[109,49,58,99,62,98,40]⟩ DK S j hM1 (by show 7+DK.size<=_;omega) ?_;walk_nrm;refine oJ S ⟨#[41]⟩ m j U4 (by show S.size+1<=_;omega) ?_;walk_nrm;apply fO (n:=60) j.r.r;repeat w_nl ft
 refine Ã λ_ _=> ?_;refine oJ ⟨#[114,49,59]⟩ c G j hT1 (by show 3+c.size<=_;omega) ?_;walk_nrm;refine oJ G ⟨#[59]⟩ T j EM (by show G.size+1<=_;omega) ?_;walk_nrm;apply fO (n:=60) j.r.r;repeat w_nl ft
 refine Ã λ_ _=> ?_;apply oJ T m I j U7 Z;walk_nrm;refine oJ I ⟨#[59,114,49,59]⟩ Y j U8 (by show I.size+4<=_;omega) ?_;walk_nrm;apply fO (n:=60) j.r.r;repeat w_nl ft
 refine Ã λ_ _=> ?_;apply oJ Y c L j U9 Z;walk_nrm;refine oJ L ⟨#[59]⟩ T6 j Va (by show L.size+1<=_;omega) ?_;walk_nrm;apply fO (n:=60) j.r.r;repeat w_nl ft
 refine Ã λ_ _=> ?_;apply oJ T6 m T7 j Vb Z;walk_nrm;refine oJ T7 ⟨#[59,100,49,58,104,59,98,49,58,99]⟩ J j U5 (by show T7.size+10<=_;omega) ?_;walk_nrm;refine OJ u6 j ĸ (args:=#[Ï<|Ä ⟨x,0,Ü⟩,Á J,Ë Ð 8]) λl8 Vd u8 _ _=> ?_;refine atJ (n:=7) u8 Vd (by unfold ê;omega) P.out.1 P.out.2.2 U P.out.2.1 λl9 k y M h9 hT=> ?_;clear P u8;unfold Kn at hT;generalize Aa (xZ (mN p).s)=A at*;generalize DC (gw.gi (mN p).s [] 2 1 N K)=B at*;generalize oD (mN p).s 2 1 K 0 401=D at*;have HT:=fc hT;clear EZ s6 U6 hM1 hT1 EM U7 U8 U9 Va Vb Mv U4 U5 u6 hT;walk_nrm;apply ab3;apply fO (n:=60) M.r.r;repeat w_nl ft
 refine Ã λ_ _=> ?_;refine auw [Ó È,Ó È,ð (Ä ⟨k,0,Ü⟩) 8 y,Ï<|Ä ⟨k,0,Ü⟩,Á A,ð (Ä ⟨k,0,Ü⟩) 8 y,Ï<|Ä ⟨k,3,Ü⟩,Á A,Ó È,Ó È,Ó È,ð (Ä ⟨k,0,Ü⟩) 8 y,Ï<|Ä ⟨k,1,Ü⟩,Á B,ð (Ä ⟨k,0,Ü⟩) 8 y,Ï<|Ä ⟨k,4,Ü⟩,Á B,Ó È,Ó È,Ó È,ð (Ä ⟨k,0,Ü⟩) 8 y,Ï<|Ä ⟨k,2,Ü⟩,Á D,ð (Ä ⟨k,0,Ü⟩) 8 y,Ï<|Ä ⟨k,5,Ü⟩,Á D,Ó È,Ó È,Ó È,ð (Ä ⟨k,0,Ü⟩) 8 y,Ï<|Ä ⟨k,6,Ü⟩,Á ⟨#[45]⟩,Ó È,Ó È,Ó È,ð (Ä ⟨k,0,Ü⟩) 8 y,Ï<|Ä ⟨k,7,Ü⟩,Á ⟨#[49,48,48,48]⟩,Ó È,Ó È,Ó È,Ï<|Ä ⟨x,0,Ü⟩,Ë Ð 2,Ó È,Ó È,Ó È] M.r.r M.q (by k_ne) fp fp (λb=>by cases b<;>kernel_rfl) λt1 uy=> ?_;simp only[GJ]at uy;simp at uy;subst uy;have g:=λf r=>(HT.out.r<|OH (w₁:=f) r).C;have adf:∀b,gX l9 ⟨k,b,Ü⟩:=λb=>Î<|Î HT.out.fj;refine⟨?_,λf kg=> ?_⟩
 .iterate 42 refine⟨⟨fM,Î λf r=>⟨by
   have c0:=g f r 0 _ U;have V:=g f r 1 _ U;have c2:=g f r 2 _ U;have c3:=g f r 3 _ U;have c4:=g f r 4 _ U;have c5:=g f r 5 _ U;have c6:=g f r 6 _ U;have c7:=g f r 7 _ U;clear g;simp only[Ee];go_simp,λe o=>by
   first
   |(simp[go_sem]at o;done)
   |(simp[go_sem,g f r 0 _ U,g f r 1 _ U,g f r 2 _ U,g f r 3 _ U,g f r 4 _ U,g f r 5 _ U,g f r 6 _ U,g f r 7 _ U]at o;subst o;exact(adf _).rd)⟩⟩,?_⟩
  refine⟨⟨fM,û ⟨22,#[Ï<|Ä ⟨x,0,Ü⟩],λw=>by go_simp,λw=>É U Tryz.func22 U U #[],λf r a rest J hJ=>by let⟨sl,V,hA⟩:=(h9.r r).a;exact acg (M.C r) hA hJ⟩⟩,?_⟩;iterate 3 refine⟨⟨fM,Î λf r=>⟨by
   have c0:=g f r 0 _ U;clear g;simp only[Ee];go_simp,λe o=>by
   first
   |(simp[go_sem]at o;done)
   |(simp[go_sem,g f r 0 _ U,g f r 1 _ U,g f r 2 _ U,g f r 3 _ U,g f r 4 _ U,g f r 5 _ U,g f r 6 _ U,g f r 7 _ U]at o;subst o;exact(adf _).rd)⟩⟩,?_⟩
  trivial
 .have E:=M.C kg;apply fO (n:=60) E.r.r;repeat w_nl ft
  refine Ã λ_ _=>(.fy λV e=>⟨U,Ó È,λw=>acn (t:=8) U U Ļ U fp,hP _ (E.C e)<|(h9.r kg).r e⟩)
end
def kP:ByteArray:=⟨#[51,48,116,49,114]⟩
def auD:gK (iq kP)=(0,0,[rP kP]):=fp
def auE:lR [gw.jw,mN kP] ⟨#[103,49,58,98,48,59,99,49,58,99,62,98,40,57,57,44,48,41,59,103,49,58,98,48,59,100,49,58,104]⟩=(⟨#[48,59,49,44,49,44,49,48,59,48,59,45]⟩,0,[gw.jw,mN kP]):=fp
section
variable{l:e9}{s:List fH}{p:ByteArray}
def jZ.S(h:jZ X W l i n s):mL l.w/\∀b,b=1\/b=2\/b=3\/b=4->l.O b:=by let⟨_,_,a⟩:=h.a;exact⟨a.r,a.C⟩
def jZ.Y{d:e9}{t:List fH}(h:jZ X W l i n s)(k:jZ l.O l.w d j b t):jZ X W d j b t:= ⟨k.a,λc q=>by let⟨⟨e,f⟩,_⟩:=h.C c q;let⟨⟨g,m⟩,o⟩:=k.C c e;exact⟨⟨g,m.trans f⟩,o⟩⟩
def auF(B:gL l)(J:mL l.w)(K:∀b,b=1\/b=2\/b=3\/b=4->l.O b)(L:p.size<=10^14*2)(s arg d:Int)(g0:-9223372036854775808<=s)(g1:s<=9223372036854775807)(a0:-9223372036854775808<=arg)(a1:arg<=9223372036854775807)(M:-9223372036854775808<=d)(N:d<=9223372036854775807) (P:∀c,gL c->(∀b,l.O b->c.O b/\c.w.heap[b]?=l.w.heap[b]?)->l.w.heap.size<=c.w.heap.size->vQ (Ó È) c.w): iL vQ l (G (Ê À 12 #[Á p,Ë Ð s,Ë Ð arg,Ë Ð d] ä) []):=by
 have hF:True:=trivial;rw[wy [_,_,_,_] 109 Ļ];simp only[ë,Ù,Ö];conv in kY _ _=>whnf
 apply mA;apply fO (n:=40) B.r.r;repeat w_go ft
 refine Ã λ_ _=> ?_;refine .fy λw₁ C=>⟨B.C C,U,?_⟩;have Q:=B.C C;refine yl (f:=27) (args:=#[Á ⟨#[51,48,116,49,114]⟩,Ë Ð d]) Q U fM (by k_ne) (λw=>by go_simp) (λw=>É U Ĥ U U #[]) λpz g=> ?_;have j:fF l l.w pz:=C.fe ⟨g.r,g.I,g.N,g.Y,g.S⟩;refine ac7 (p:=kP) (Q.C g) (J.r (Å J.fv j.r) λb q=>j.I b<|Î<|K b q) K A d M N (ac0 auD) λl3 i n k m S=> ?_;have T:l.w.heap.size<=i:=Å j.r S;have V:jZ l.O l.w l3 i n [gw.jw,mN kP]:=⟨m.a,λb q=>⟨⟨(m.C b q).1.1,(m.C b q).1.2.trans<|j.I b<|Î q⟩,(m.C b q).2⟩⟩;clear m S j;walk_nrm;apply mA;apply fO (n:=40) k.r.r;repeat w_go ft
 refine Ã λ_ _=> ?_;apply nH (v:=Ó á) U fM (by k_ne) k.r.r k.q (λw _=>by go_simp) (λw _ e D=>by simp[go_sem,Ox]at D);walk_nrm;apply fO (n:=60) k.r.r;repeat w_nl ft
 refine Ã λ_ _=> ?_;refine OJ V k ģ (args:=#[Ï<|Ä ⟨i,0,Ü⟩,Á ⟨#[103,49,58,98,48,59,99,49,58,99,62,98,40,57,57,44,48,41,59,103,49,58,98,48,59,100,49,58,104]⟩,Á ⟨#[48,59,49,44,49,44,49,48,59,48,59,45]⟩]) λl5 rV W _ _=> ?_;refine ac6 W rV A auE λl6 X Y=> ?_;clear V W;walk_nrm;apply mA;apply fO (n:=60) X.r.r;repeat w_nl ft
 refine Ã λ_ _=> ?_;refine OJ Y X ĥ (args:=#[Á p]) λl8 Vd E _ _=> ?_;refine aut Vd E.N L λl9 u hk9 tM=> ?_;have F:=E.M hk9 tM;clear Y E hk9 tM;have HP:∀c y H t,gL c->jZ l.O l.w c y H t->l.w.heap.size<=y->vQ (Ó È) c.w:=λc y H t x z I=>P c x (λb q=>(z.C b q).1) (by let⟨_,_,q⟩:=z.a;exact Å I<|Ŏ<|x.r.fv y<|Î q.fj);clear P;by_cases o:(gK<|iq p).1=0/\125∉p.data.toList
 .rw[decide_eq_true o.1,decide_eq_false o.2];walk_nrm;apply mA;apply fO (n:=60) u.r.r;repeat w_nl ft
  refine Ã λ_ _=> ?_;refine OJ F u Ĥ (args:=#[Á p,Ë Ð d]) λl11 adg r _ _=> ?_;refine ac7 (p:=p) adg r.S.1 r.S.2 L d M N (ac0<|atQ o.2 o.1) λl12 y H h k12 adh=> ?_;have u12:=r.Y k12;have I:l.w.heap.size<=y:=by let⟨_,_,q⟩:=r.a;exact Å T<|Å (Ŏ<|adg.r.fv i<|Î q.fj) adh
  clear F r k12 adh;walk_nrm;apply mA;apply fO (n:=40) h.r.r;repeat w_nl ft
  refine Ã λ_ _=> ?_;apply nH (v:=Ó á) U fM (by k_ne) h.r.r h.q (λw _=>by go_simp) (λw _ e D=>by simp[go_sem,Ox]at D);walk_nrm;apply fO (n:=60) h.r.r;iterate 3 w_nl ft
  refine Ã λ_ _=> ?_;refine .fy λD e=>⟨h.C e,U,?_⟩;refine auC (p:=p) (u12.r e) (h.C e) ?_ s arg ?_ ?_ ?_ g0 g1 a0 a1 λc x z=>HP c _ _ _ x z I;all_goals rfl
 .have h:(decide ((gK<|iq p).1=0)&&!decide (125∈p.data.toList))=á:=by
   rw[Bool.eq_false_iff];intro q;simp only[à,decide_eq_true_eq,Bool.not_eq_true',decide_eq_false_iff_not]at q;exact o q
  rw[h];walk_nrm;apply ab3;apply fO (n:=60) u.r.r;repeat w_nl ft
  refine Ã λ_ _=>(.fy λD e=>⟨U,Ó È,λw=>acn (t:=8) U U Ļ U fp,HP _ _ _ _ (u.C e) (F.r e) T⟩)
end
def auG(d:mL W)(e:B.size<=10^14*2)(a arg c:Int)(g0:-9223372036854775808<=a)(f:a<=9223372036854775807)(g:-9223372036854775808<=arg)(h:arg<=9223372036854775807)(i:-9223372036854775808<=c)(j:c<=9223372036854775807): sK (λv w'=>v=Ó È/\nT W w') #[G (Ê À 12 #[Á B,Ë Ð a,Ë Ð arg,Ë Ð c] ä) []] W Ü #[]:= asY (l:=aco W) (auF (acp W) d (asZ d) e a arg c g0 f g h i j λm _ v k=>⟨U,λb q=>(v b q).2,k⟩) (acp W) U
end Go.Proofs.Y.kH
