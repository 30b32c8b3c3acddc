import Derived.Test.YtgpphkdoanciiaaGreatDoorWAE
import Derived.Lib.LaidTab
import Derived.OpenShut
import Derived.Test.YtgpphkdoanciiaaGreatDoorRows
import Derived.Conc.LeavingOf
import Derived.LaidMore
import Derived.Stop.Joined
import Derived.Carry
import Derived.Orders
set_option linter.all false
set_option maxRecDepth 1000000
set_option maxHeartbeats 8000000
open Go.Proofs.Tryz renaming prog->À,func20->ģ,func27->Ĥ,func28->ĥ,underlying36->ī,t9->ĭ,underlying25->Į,underlying3->ı,underlying5->Ĳ,func24->ķ,func26->ĸ,func25->Ĺ,func30->ĺ,func12->Ļ,ntmps30->ō,func21->Œ,func17->ŕ,func16->ř,func29->Ś,type9->Ŝ,f24->Ŭ
open Go.Value renaming string->Á,int->Ë,pointer->Ï,bool->Ó,slice->ð,tuple->ŝ
open Array renaming length_toList->Â,toList_extract->Ý,getElem?_eq_some_iff->ç,getElem_toList->é,getElem?_eq_getElem->í,toList_inj->ü
open Go.Conc.Goes renaming stop->Ã
open Option renaming some->Ä,none->Ü,map_eq_some_iff->ē,map_some->ė,bind_some->ĵ
open Nat renaming le_trans->Å,le_refl->Ì,zero_le->Ò,sub_self->Ā,one_pos->Ķ,strongRecOn->Ľ,zero_add->Ō,le_of_lt->Ŏ
open ByteArray renaming size_append->Æ,data_extract->Ø,ext->î,size_extract->ø,size->ù,data_append->ú,getElem_extract->ń,extract_extract->Ņ,append_assoc->ŉ,append_empty->Ŋ,extract->Š
open Go.Item renaming inRegion->Ç,code->Ţ
open Bool renaming true->È,and_eq_true->à,false->á
open Go.Conc renaming events_call_body->É,goes_leave1->Ć,goes_leave2->Ŗ,listed->ŭ
open Go.Frame renaming enter->Ê,finish_at->Ě
open List renaming getElem?_eq_getElem->Í,nil_append->Ö,cons_append->Ù,map_cons->Þ,range->â,length_append->ã,size_toArray->å,replicate->ë,extract_eq_take_drop->ì,getElem?_cons_succ->ò,getElem?_cons_zero->ó,getElem?_map->ô,mem_range->õ,mem_cons->ý,take->ā,getElem?_drop->Ă,getElem?_eq_some_iff->ă,drop_eq_getElem_cons->Ą,getElem?_append_left->ą,append_assoc->ć,drop->Č,not_mem_nil->č,getD->Ď,flatMap_eq_nil_iff->ď,length_cons->Đ,all_eq_true->đ,map_nil->Ĕ,drop_eq_nil_of_le->Ė,mem_append->Ę,length_singleton->Ĝ,mem_singleton->ĩ,take_add_one->Ĭ,append_nil->ľ,length_set->ŀ,length_nil->Ł,all_cons->ņ,mem_map->ň,map->Ŕ
open Or renaming inl->Î,inr->û
open Go.IntKind renaming i64->Ð,u64->ħ,wrap_u64->Ĵ,wrap_i64->ţ,u8->Ū
open Go renaming Value->Ñ,World->Ô,maxLen->ê,undef->ö,Frame->ĝ,Oper->Ħ,execOp->Ī,yielded->į,Act->ł,laidMetH->Ń,TypeId->ŏ,Operand->Ő,DataW->ő,IntKind->Ş,Program->ť,Calls->ū,Item->Ů,Code->ű
open Option.some renaming inj->Õ,injEq->ş
open Go.Proofs.YtgpphkdoanciiaaGreatDoor.Rows renaming laid_math_bits_deBruijn32tab->Ú,laid_math_bits_deBruijn64tab->Û,laid_attic_attic_stepRules->ß,laid_internal_strconv_uint64pow10->æ
open Go.CallKind renaming normal->ä
open Int renaming tmod_eq_emod_of_nonneg->è,emod_nonneg->ě
open Go.DataW renaming trod->ï,trod_int->ğ,agg->ų
open And renaming intro->ñ
open UInt8 renaming ofNat->þ,toNat_inj->ÿ
open Go.Lib renaming nDigits_small->Ĉ,tabData->Ğ,nDigits->Ģ,nDigits_big->Ŀ
open Go.Obj renaming cells->ĉ,row?->Ũ
open Go.Instr renaming sliceAt->Ċ,sliceBound->ĳ,slice->œ
open Go.Region renaming wanted->ċ
open Go.Ending renaming returned->Ē
open Go.Code renaming wp->ĕ,wp_mono->ŋ,loop->Ť
open List.range renaming loop->ę
open Go.World renaming cell?->Ġ,var?->ś
open Prod renaming ext->ŗ,snd->Ř,fst->ũ
variable{i n j b k m J j9 j7 j6:Nat}{w u W jX:Ô}{v x z jQ:Ñ}{h c:Int}{e t T:ŏ}{d q:Array Ñ}{P:ť}{y:ł}{B:ByteArray}{X:Nat->Prop}{l:List Ñ}{yQ:Bool}{K H:ł->Ô->Prop}{o:Ħ}{L:List Ů}{jJ:List Nat}{qX:List ĝ}{qQ:Ő}{zQ:List Int}{xJ:Nat×Nat}{wJ:Array Bool}{vX:List ByteArray}{vQ:Ñ->Ô->Prop}{Q:Array Ħ}{f:ĝ}
namespace Go.Proofs.Y.kH
open Go Go.Conc Go.Proofs Go.RowKit Go.Proofs.Y.Lift Go.Proofs.Y.gy Go.Proofs.Y.ft Go.Proofs.Y.mZ
open Go.Proofs.YtgpphkdoanciiaaGreatDoor (Rows.laid_math_bits_deBruijn32tab Rows.laid_math_bits_deBruijn64tab Rows.laid_internal_strconv_uint64pow10 Rows.laid_attic_attic_stepRules)
def Nb:List (String×DataW Unit):=[("math/bits.deBruijn32tab",Ú),("math/bits.deBruijn64tab",Û),("internal/strconv.uint64pow10",æ),("attic/attic.stepRules",ß)]
theorem Nc(h:W.ShapedOpen À)(g:Nat)(t:ŏ)(b:g<À.globals.size)(e:(((begin À (λ_ _=>0) default).world.heap[g]?).bind Ũ).map (·.2)=Ä t): ∃a,W.heap[g]?=Ä (ĉ a t):=by let⟨⟨z,c⟩,d,f⟩:=ē.1 e;let⟨a,i,_⟩:=h.1 g z c b d;grind
theorem acn{n:String}(b:À.globalNamed n=Ä i)(h:W.heap[i]?=Ä (ĉ q t xJ))(a:W.var? À n=Ä d):q=d:=by unfold ś at a;grind
def UK{n:String}{N:Nat}{k:Ş}{p:List MemPlace} (a:À.globalNamed n=Ä i) (f:(À.globals[i]?).map (·.type)=Ä t) (h:À.underlying t=Ä (.array N e)) (l:À.underlying e=Ä (.int k)) (m:À.cellsOf e=1) (o:À.cellsOf t=N) (r:W.heap[i]?=Ä (ĉ d t xJ)) (s:À.globalNamed n=Ä b) (u:(À.globals[b]?).map (·.type)=Ä T) (v:W.var? À n=Ä q) (w:ï (λ_=>()) À W 0 (λ_=>È) á j T q.toList=Ä (Ğ k zQ,p)):d=(zQ.map λz=>Ë k z).toArray:=by obtain rfl:=Õ<|a.symm.trans s;obtain rfl:=Õ<|f.symm.trans u;rw[acn a r v,<-Lib.cells_of_tab h l m o w]
def asZ:À.cellsOf 299=3:=fp
def aco:À.cellsOf 36=1:=fp
def as0:À.cellsOf 3=1:=fp
def as1:À.cellsOf 300=69:=fp
def as2{p:List MemPlace}(v:ï (λ_=>()) À W 0 (λ_=>È) á n 300 l=Ä (ß,p)): l.length=69/\∀(i:Nat) (r:Int×Int×Int),iZ[i]?=Ä r->l[i*3]?=Ä (Ë ħ r.1)/\l[i*3+1]?=Ä (Ë Ð r.2.1)/\l[i*3+2]?=Ä (Ë Ð r.2.2):=by
 obtain⟨f,m,rfl,w,y,K,z⟩:=DataW.trod_array Tryz.underlying300 v;refine⟨y.trans as1,λi r o=> ?_⟩;have B:i<23:=by have:=(ă.1 o).1;exact this
 have g:=z i B;rw[asZ]at g;have C:f.map (·.1)=iZ.map λr=>(ų [.lit<|.int ħ r.1,.lit<|.int Ð r.2.1,.lit<|.int Ð r.2.2]:ő Unit):=by have:=congrArg ũ w;simp only[ß,DataW.agg.injEq]at this;exact this.symm
 obtain⟨x,q⟩:∃x,f[i]?=Ä x:=⟨_,Í Z⟩;rw[q]at g;have d:(f.map (·.1))[i]?=Ä x.1:=by simp[q]
 rw[C]at d;simp only[ô,o,ė,ş]at d;obtain⟨e,h,rfl,j,L,D,k⟩:=DataW.trod_struct Tryz.underlying299 g;have a:=k 0 _ U;have b:=k 1 _ U;have c:=k 2 _ U;have a:ï _ À W 0 _ á h 36 (ā (À.cellsOf 36)<|Č 0<|ā 3<|Č (i*3) l)=e[0]?:=a;have b:ï _ À W 0 _ á h 3 (ā (À.cellsOf 3)<|Č 1<|ā 3<|Č (i*3) l)=e[1]?:=b;have c:ï _ À W 0 _ á h 3 (ā (À.cellsOf 3)<|Č 2<|ā 3<|Č (i*3) l)=e[2]?:=c;rw[aco]at a;rw[as0]at b c;match e,D,j,a,b,c with
 |[y0,y1,y2],_,j,a,b,c=>
  let⟨M,E,F,_⟩:=ğ ī (show ï _ _ _ _ _ _ _ 36 _=Ä y0 from a);let⟨N,G,H,_⟩:=ğ ı (show ï _ _ _ _ _ _ _ 3 _=Ä y1 from b);let⟨O,I,J,_⟩:=ğ ı (show ï _ _ _ _ _ _ _ 3 _=Ä y2 from c);subst F;subst H;subst J;rw[j]at d;simp only[Þ,Ĕ,DataW.agg.injEq,List.cons.injEq,DataW.lit.injEq,Lit.int.injEq,true_and,and_true]at d;obtain⟨rfl,rfl,rfl⟩:=d;have s:=congrArg (·[0]?) E;have t:=congrArg (·[0]?) G;have u:=congrArg (·[0]?) I;simp[List.getElem?_take,Ă]at s t u;exact⟨s,t,u⟩
def acp(h:∀v∈d.toList,∃k n,v=Ë k n):fS (ln X i) d d:=pL λv a=>by obtain⟨k,n,rfl⟩:=h v a;exact .iD _ _
def as3{l:List (String×DataW Unit)}(h:Ń P l W)(a:(l.filter λx=>x.2.handleName?.isSome)=[]):∃b,DataW.LaidVars P W l b:=by unfold Ń at h;rw[a]at h;exact⟨h.choose,h.choose_spec.1⟩
def as4:À.cellsOf 304=32:=fp
def as5:À.cellsOf 305=64:=fp
def as6:À.cellsOf 291=20:=fp
def acr:À.cellsOf 5=1:=fp
def gn1:À.globalNamed "internal/strconv.uint64pow10"=Ä 1:=fp
def gn2:À.globalNamed "attic/attic.stepRules"=Ä 2:=fp
def gn3:À.globalNamed "math/bits.deBruijn32tab"=Ä 3:=fp
def gn4:À.globalNamed "math/bits.deBruijn64tab"=Ä 4:=fp
def Nd(g:Nat)(t:ŏ)(h:(g,t)∈[(1,291),(2,300),(3,304),(4,305)]):(À.globals[g]?).map (·.type)=Ä t/\g<À.globals.size/\(((begin À (λ_ _=>0) default).world.heap[g]?).bind Ũ).map (·.2)=Ä t:=by
 simp only[ý,č,or_false,Prod.mk.injEq]at h;rcases h with⟨rfl,rfl⟩|⟨rfl,rfl⟩|⟨rfl,rfl⟩|⟨rfl,rfl⟩
 .exact⟨fp,of_decide_eq_true fp,fp⟩
 .exact⟨fp,of_decide_eq_true fp,fp⟩
 .exact⟨fp,of_decide_eq_true fp,fp⟩
 .exact⟨fp,of_decide_eq_true fp,fp⟩
def as7:ő Unit->Int
 |.lit (.int _ z)=>z
 |_=>0
def acs:ő Unit->List Int
 |ų l=>l.map as7
 |_=>[]
def as8:(Ú:ő Unit)=Ğ Ū (acs Ú):=rfl
def as9:(Û:ő Unit)=Ğ Ū (acs Û):=rfl
def ata:(æ:ő Unit)=Ğ ħ Lib.pow10Tab:=rfl
def atb{k:Ş}:∀v∈(zQ.map λz=>Ë k z).toArray.toList,∃k n,v=Ë k n:=λv a=>by simp only[ň]at a;obtain⟨z,_,rfl⟩:=a;exact⟨_,_,U⟩
def atc(k:Nat)(h:k<69):∃i j,i<23/\j<3/\k=i*3+j:=⟨k/3,k%3,Z,Z,Z⟩
theorem atd{W:Ô}(hs:W.ShapedOpen À)(hl:Ń À Nb W):mK W:=by
 obtain⟨ps,g3,t3,cs3,f3,p3,q3,UD,ht3,hv3,xt,⟨g4,t4,cs4,f4,p4,q4,hg4,G1,hv4,SZ,⟨g1,t1,cs1,f1,p1,q1,vT,uz,hv1,BP,⟨g2,t2,cs2,f2,p2,q2,Lx,Jv,MG,oU,_,_⟩,_⟩,_⟩,_⟩:=as3 hl (by kernel_rfl);obtain⟨y1,s1,z1⟩:=Nd 1 291 (by simp);obtain⟨y2,s2,z2⟩:=Nd 2 300 (by simp);obtain⟨y3,s3,z3⟩:=Nd 3 304 (by simp);obtain⟨y4,s4,z4⟩:=Nd 4 305 (by simp);obtain⟨c1,b1⟩:=Nc hs 1 291 s1 z1;obtain⟨c2,b2⟩:=Nc hs 2 300 s2 z2;obtain⟨c3,b3⟩:=Nc hs 3 304 s3 z3;obtain⟨c4,b4⟩:=Nc hs 4 305 s4 z4;rw[as8]at xt;rw[as9]at SZ;rw[ata]at BP;have e3:=UK gn3 y3 Tryz.underlying304 Ĳ acr as4 b3 UD ht3 hv3 xt;have e4:=UK gn4 y4 Tryz.underlying305 Ĳ acr as5 b4 hg4 G1 hv4 SZ;have e1:=UK gn1 y1 Tryz.underlying291 ī aco as6 b1 vT uz hv1 BP;obtain rfl:=Õ (gn2.symm.trans Lx);obtain rfl:=Õ (y2.symm.trans Jv);obtain⟨hlen,mG⟩:=as2 oU;have e2:=acn gn2 b2 MG;subst e2;have ate:=λi r hr=>by have:=mG i r hr;simpa using this
 have acu:∀(k:Nat) (v:Ñ),c2[k]?=Ä v->∃(kd:Ş) (n:Int),v=Ë kd n/\kd≠Ū:=λk v hv=>by
  have hk:k<69:=by grind
  obtain⟨i,j,hi,hj,rfl⟩:=atc k hk;obtain⟨r,hr⟩:∃r,iZ[i]?=Ä r:=⟨_,Í (show i<iZ.length from hi)⟩;grind
 have jH:=(ç.1 b4).1;refine⟨?_,?_,⟨c3,_,b3,Ò _,Ò _,?_,?_⟩,⟨c4,_,b4,Ò _,Ò _,?_,?_⟩,?_,⟨⟨c2,_,b2⟩,λi r hr=> ?_⟩,?_⟩
 .have h5:nB=5:=by kernel_rfl
  omega
 .rintro b (rfl|rfl)
  .refine⟨c1,291,_,b1,Ò _,acp (by rw[e1];exact atb),by rw[e1];exact of_decide_eq_true (by kernel_rfl),λk v hv=> ?_,by decide,by decide⟩;rw[e1]at hv;simp only[List.getElem?_toArray,ô,ē]at hv;obtain⟨z,_,rfl⟩:=hv;rfl
  .refine⟨c2,300,_,b2,Ò _,acp λv hv=> ?_,?_,λk v hv=> ?_,by decide,by decide⟩
   .obtain⟨k,hk,e⟩:=List.mem_iff_getElem.1 hv;obtain⟨kd,n,e',_⟩:=acu k v (by rw[<-e];simp);grind
   .grind
   .obtain⟨kd,n,rfl,hn⟩:=acu k v hv;cases kd<;>first|rfl|exact absurd rfl hn
 .rw[e3];exact of_decide_eq_true (by kernel_rfl)
 .grind
 .rw[e4];exact of_decide_eq_true (by kernel_rfl)
 .grind
 .unfold gy.lO Lib.TabIs ś;rw[gn1];grind
 .obtain⟨h0,h1,h2⟩:=ate i r hr;exact⟨by simp only[Ġ,b2];exact h0,by simp only[Ġ,b2];exact h1,by simp only[Ġ,b2];exact h2⟩
 .unfold qu;simp only[Ġ,b4,e4];rfl
end Go.Proofs.Y.kH
namespace Go.Proofs.Y.kH
open Go Go.Conc Go.Proofs Go.RowKit Go.Proofs.Y.Lift Go.Proofs.Y.gy Go.Proofs.Y.ft Go.Proofs.Y.mZ
open Go.Proofs.YtgpphkdoanciiaaGreatDoor (Rows.workersSpec Rows.workersRow Rows.WorkersSaid Tryz.pinned)
open Go.ChangeShapes Go.WideShapes Go.ChangeAt
def fl:ownKnob À.godebug=Ü:=fp
def atf{w':Ô}(h:nR W w')(a:w'.os=W.os)(b:w'.output=W.output):Below W.heap.size W {w' with tape:=W.tape}:=⟨a,U,b,h.Dj,h.rv⟩
def atg(os:Os)(a:Array Ñ):Ń À Nb ((World.doorLaid À 400 os).forCall (λ_ _=>0) ⟨#[],a,[]⟩).memory:= laidMetH_of_parts3 (fuel:=8) (laidMet_of_run' 8 fp fp) fp fp
end Go.Proofs.Y.kH
namespace Go.Proofs.Y.mZ
open Go Go.Proofs Go.RowKit Go.Proofs.Y.Lift Go.Proofs.Y.gy
def oH(B:ByteArray)(c:UInt8):Nat->Nat->Nat->List ByteArray
 |0,fr,_=>[B.extract fr B.size]
 |f+1,fr,i=>if h:i<B.size then if B[i]=c then B.extract fr i::oH B c f (i+1) (i+1)else oH B c f fr (i+1)else[B.extract fr B.size]
def acv:List Int->List (List Int)
 |[]=>[[]]
 |a::l=>(a::l)::acv l
def Am:List (List Int):=[[86,58,120,47,66],[86,58,120,115],[86,58,120],[86,58,120,62,121,40,110,44,107,41],[86,58,120,62,121,40,107,41],[86,58,87],[86],[121,61,110],[80],[120,84],[82]].flatMap acv
def ath:∀r∈Am,r.tail∈Am:=A
def acw:∀r∈Am,59∉r/\(r.headD 0=66->r=[66])/\(82∈r->r=[82])/\(80∈r->r=[80]):=A
def ati(k:Int):rf k∈Am/\rf k≠[82]/\80∉rf k:=by
 unfold rf;repeat' split
 all_goals decide
def acy(k:Int):sj k∈Am/\sj k≠[82]:=by
 unfold sj;repeat' split
 all_goals decide
structure k9(D:List PR)(a b:PD):Prop where
 M:a.r=È
 N:b.r=È
 C:a.S=D
 S:b.S=[]
 r:a.I=b.I
 I:a.M=b.M
 Y:b.M=È->a.N=b.N
structure CK(D:List PR)(k:Nat)(a b:PS):Prop where
 r:a.C=b.C
 C:b.C∈Am
 I:a.r=b.r
 N:0<b.r->a.M=b.M
 M:80∈b.C->a.I=b.I/\b.I.toNat<=k
 d:(b.C=[82]/\b.r=0/\a.d.C=D/\b.d.C=[])\/(b.C≠[82]/\k9 D a.d b.d)
section
variable{D:List PR}{a b:PD}
def k9.gJ(h:k9 D a b):a.Y=b.Y:=by
 unfold PD.Y;rw[h.I,h.r];split
 .rw[h.Y ‹_›]
 .rfl
theorem k9.G(h:k9 D a b):∃r,a.C=D++[r]/\b.C=[r]:=by unfold PD.C;rw[h.M,h.N,h.C,h.S,h.r,h.gJ];grind
def k9.oc(h:k9 D a b)(i:Nat)(z:Int):k9 D (a.oc i z) (b.oc i z):= ⟨h.M,h.N,h.C,h.S,by unfold PD.oc;rw[h.r],h.I,h.Y⟩
def k9.oD(h:k9 D a b)(i:Nat)(z:Int):k9 D (a.oD i z) (b.oD i z):= ⟨h.M,h.N,h.C,h.S,h.r,h.I,λq=>by unfold PD.oD;rw[h.Y q]⟩
def k9.iu(h:k9 D a b)(i:Nat)(z:Int):k9 D (a.iu i z) (b.iu i z):=by
 unfold PD.iu;rw[h.I];split
 .exact h.oD i z
 .exact h.oc i z
def k9.fQ(h:k9 D a b)(n z:Int):k9 D (a.fQ n z) (b.fQ n z):=by
 unfold PD.fQ;repeat' split
 all_goals first|exact h.oc _ _|exact h.iu _ _|exact h
theorem k9.Ar(h:k9 D a b)(n:Int):a.G n=b.G n:=by
 unfold PD.G PD.tx;rw[h.r,h.I];by_cases q:b.M=È
 .rw[h.Y q]
 .grind
def k9.oE(h:k9 D a b)(p:ByteArray):k9 D (a.oE p) (b.oE p):= ⟨h.M,h.N,h.C,h.S,h.r,h.I,λq=>by unfold PD.oE;rw[h.Y q]⟩
def k9.nN(h:k9 D a b):k9 D a.nN b.nN:= ⟨h.M,h.N,h.C,h.S,by unfold PD.nN;rw[h.r,h.gJ],U,λ_=>rfl⟩
end
section
variable{D:List PR}{a b g:PS}{o:Nat}{P:ByteArray}
def I2(D:List PR)(k:Nat):Option PS->Option PS->Prop
 |some a,Ä b=>CK D k a b
 |none,Ü=>True
 |_,_=>False
def acz(e:k9 D a.d b.d)(f:c≠59)(g:a.r=0/\b.r=0):I2 D (k+1) (pQ a c) (pQ b c):=by
 unfold pQ;rw[if_neg λq=>f q.1,e.gJ,if_neg (c:=c=59/\b.d.S.length+1<24) λq=>f q.1];split
 .exact⟨U,(by decide:[120,84]∈Am),g.1.trans g.2.symm,(λq=>by have:0<b.r:=q;omega),(λq=>by simp at q),û ⟨(by decide:[(120:Int),84]≠[82]),e.nN⟩⟩
 .trivial
def acA(e:k9 D a.d b.d)(w:Int)(r:List Int)(f:r∈Am)(g:r≠[82])(h:80∉r):CK D (k+1) {oe a w c with C:=r} {oe b w c with C:=r}:= ⟨U,f,U,λ_=>rfl,λq=>absurd q h,û ⟨g,e.fQ _ _⟩⟩
theorem atj(h:CK D k a b)(m:a.r=0/\b.r=0)(n:c≠59):I2 D (k+1) (jP B o a c) (jP B o b c):=by
 have p:=(acw _ h.C).2.2.1;have t:=(acw _ h.C).2.2.2;have i:=ath _ h.C;have g:0<b.r->a.M=b.M:=λq=>by omega
 unfold jP;rw[h.r];rcases h.d with⟨e,_,u,v⟩|⟨e,f⟩
 .rw[e];simp only[if_true];unfold yh;split
  .trivial
  .let⟨x,y,z⟩:=ati<|wh c;exact⟨U,x,h.I,g,λq=>absurd q z,û ⟨y,U,U,u,v,U,U,λq=>by cases q⟩⟩
 .cases j:b.C with
  |nil=>exact acz f n m
  |cons w l=>
   rw[j]at p t i e;have C:w≠82:=λq=>by subst q;exact e<|p fj
   have r:l≠[82]:=λq=>by grind
   have s:80∉l:=λq=>by grind
   simp only[if_neg C];split
   .split
    .exact acA (a:={a with C:=[84],d:=a.d.nN}) (b:={b with C:=[84],d:=b.d.nN}) f.nN 120 [84] A A A
    .exact acz f n m
   .split
    .unfold yi;split
     .trivial
     .exact⟨U,(acy _).1,h.I,g,λ_=>⟨U,Ò _⟩,û ⟨(acy _).2,f.oD _ _⟩⟩
    .split
     .rename_i q;subst q;let⟨E,F⟩:=h.M (by rw[j];simp);rw[E];split
      .exact⟨U,i,h.I,g,λq=>absurd q s,û ⟨r,f.oE _⟩⟩
      .split
       .trivial
       .exact⟨U,j▸h.C,h.I,g,λ_=>⟨U,by show(b.I+1).toNat<=k+1;omega⟩,û ⟨e,f⟩⟩
     .split
      .exact acA f w l i r s
      .trivial
def atl(a:80∈b.C->B.extract (o-b.I.toNat) o=P.extract (k-b.I.toNat) k):kS P k b c=kS B o b c:=by
 unfold kS jP;cases d:b.C with
 |nil=>rfl
 |cons w e=>
  by_cases q:w=80
  .subst q;simp only;rw[a (by rw[d];simp)]
  .simp only[if_neg q]
def atm(h:CK D k a b)(g:c≠59):I2 D (k+1) (kS B o a c) (kS B o b c):=by
 unfold kS;rw[h.I];split
 .rename_i q;rcases h.d with⟨_,e,_⟩|⟨e,f⟩
  .omega
  .refine⟨h.r,h.C,by show a.r-1=b.r-1;rw[h.I],λ_=>h.N q.1,λz=>⟨(h.M z).1,Nat.le_succ_of_le (h.M z).2⟩,û ⟨e,?_⟩⟩;unfold Cv;rw[h.N q.1,f.Ar];exact f.fQ _ _
 .exact atj (a:={a with r:=0}) (b:={b with r:=0}) ⟨h.r,h.C,U,(λq=>by cases q),h.M,h.d.imp (λz=>⟨z.1,rfl,z.2.2⟩) id⟩ ⟨rfl,rfl⟩ g
def Fq(z:PS):Prop:=z.C=[]\/z.C=[66]
end
end Go.Proofs.Y.mZ
namespace Go.Proofs.Y.kH
open Go Go.Conc Go.Proofs Go.RowKit Go.Proofs.Y.Lift Go.Proofs.Y.gy Go.Proofs.Y.ft Go.Proofs.Y.mZ
open Go.Conc.Lib Go.ConcR.Gen Go.Proofs.YtgpphkdoanciiaaGreatDoor
def atn{α β:Type}(f:α->β)(d:α)(l:List α):((â l.length).map λi=>f<|l.getD i d)=l.map f:=by
 refine List.ext_getElem fj λi b a=> ?_;have h:i<l.length:=by simpa using a
 simp[Ď,h]
def ato{s:List fI}{a:List PR}(h:gK B=(0,0,a))(f:∀r∈a,r.c.getD 4 0≠1):lR s B=(jb ⟨#[59]⟩ (a.map λr=>re (mY s)<|toQn r),0,s):=by
 have d:∀p,p<a.length->kT a p≠1:=λp b=>f _ (by simp[Ď,b]);have e:∀p,p<=a.length->gZ (kT a) p=[]:=λp b=>by unfold gZ;rw[List.filter_eq_nil_iff];intro j g;have:=õ.1 g;simpa using d j Z
 have g:kU a s=a.map λr=>re (mY s) (toQn r):=by rw[<-atn (λr=>re (mY s)<|toQn r) o5];unfold kU;refine List.map_congr_left λp b=> ?_;have b:=õ.1 b;unfold fK we;rw[e p Z,if_neg<|d p b];rfl
 have j:wv a s=s:=by unfold wv fK;rw[e _<|Ì _];rfl
 unfold lR;rw[h];simp only[g,j,if_true]
def yo(d:Nat):ByteArray:=Š ⟨#[48,49,50,51,52,53,54,55,56,57]⟩ d<|d+1
def atp:(â 10).map yo=(â 10).map λd=>⟨#[þ<|48+d]⟩:=fp
theorem Fs(h:i<10):yo i=⟨#[þ<|48+i]⟩:=by have:=congrArg (λl=>l[i]?) atp;simpa[h]using this
theorem Nf(h:i<10):fJ i=yo i:=by unfold fJ;grind [Lib.decDigits_one,Fs]
theorem UL(h:¬n<10):fJ n=fJ (n/10)++yo (n%10):=by rw[Fs Z];unfold fJ;rw[Lib.decDigits,dif_neg h];apply î;simp_all
noncomputable def Ng:ű:=(Tryz.f21.body.bind gy.kt).getD .skip
def Ft(n:Int)(s:ByteArray)(u:Nat->Ñ):ł:=⟨#[Ë ħ n,u 1,u 2,Á s,u 4,u 5,u 6,u 7,u 8,u 9,u 10,u 11,u 12,u 13,u 14,u 15,u 16,u 17,u 18,u 19,u 20,u 21,u 22,u 23,u 24,u 25,u 26],[]⟩
def Fu(n:Int)(s:ByteArray)(a:ł):Prop:=∃u,a=Ft n s u
theorem acB{s:ByteArray}(h:i<10)(a:s.size<=20):Ð.wrap ((i:Int)+1)=(i:Int)+1/\Ð.wrap (i:Int)=i/\(0:Int)<=(i:Int)+1/\(i:Int)+1<=10/\(i:Int)<=(i:Int)+1/\((i:Int)+1).toNat=i+1/\¬9223372036854775807<min (i+1) 10-i+s.size:=by grind [ţ]
section
variable{s:ByteArray}
def atq(u:Nat->Ñ)(c:n<10)(b:∀a,Fu n s a->H a w):ĕ À Ng (Exit.then K<|QE 0 H) (Ft n s u) w:=by
 unfold Ft;conv=>arg 2;whnf
 go_wp2_with fail
 exact⟨U,b _ (gy.gi _)⟩
def atr(u:Nat->Ñ)(f:¬n<10)(g:n<18446744073709551616)(h:s.size<=20)(c:∀a,Fu ((n/10:Nat):Int) (yo (n%10)++s) a->K a w):ĕ À Ng (Exit.then K<|QE 0 H) (Ft n s u) w:=by
 unfold Ft;conv=>arg 2;whnf
 have i:(n:Int).tmod 10=((n%10:Nat):Int):=by rw[è Z];omega
 have j:(n:Int).tdiv 10=((n/10:Nat):Int):=by rw[Int.tdiv_eq_ediv_of_nonneg Z];omega
 have b:=fc c;clear c;have e:n%10<10:=Z
 have k:n/10<18446744073709551616:=Z
 generalize n%10=d at*;generalize n/10=q at*;let⟨l,m,o,p,r,t,v⟩:=acB e (s:=s) Z;go_wp2_with fail;exact b.out _ (gy.gi _)
def UM(b:ByteArray)(c:Ô)(a:ł)(w:Ô):Prop:=∃(n:Nat) (s:ByteArray),Fu n s a/\n<18446744073709551616/\fJ n++s=b/\w=c
def UN(b:ByteArray)(c:Ô)(a:ł)(w:Ô):Prop:=∃(n:Nat) (s:ByteArray),Fu n s a/\n<10/\yo n++s=b/\w=c
def xZ(a:ł)(_:Ô):Nat:=match a.tmps.getD 0 ö with
 |Ë _ i=>i.toNat
 |_=>0
def Ik(b:Fu n s y):xZ y w=n:=by obtain⟨u,rfl⟩:=b;show(n:Int).toNat=_;simp
theorem atu(i:B.size<=20)(a:ł)(w:Ô)(g:UM B u a w): ĕ À Ng (Exit.then (λb c=>UM B u b c/\xZ b c<xZ a w)<|QE 0<|UN B u) a w:=by
 let⟨n,s,d,h,e,f⟩:=g;rw[Ik d];obtain⟨b,rfl⟩:=d;have j:(fJ n).size+s.size=B.size:=by rw[<-e,Æ]
 by_cases c:n<10
 .exact atq b c λa q=>⟨n,s,q,c,by rwa[<-Nf c],f⟩
 .refine atr b c h Z λa q=>⟨⟨n/10,_,q,Z,?_,f⟩,by rw[Ik q];omega⟩;grind [ŉ,UL]
def acC(n:Nat)(b:n<18446744073709551616)(w:Ô):ū À 21 #[Ë ħ n] w λe f=>e=Ē (Á<|fJ n)/\f=w:=by
 have L:∀a,Fu n ⟨#[]⟩ a->ĕ À (Ť Ng) (QE 0<|UN (fJ n) w) a w:=λa g=>
  wp_loop (UM (fJ n) w) xZ ⟨n,⟨#[]⟩,g,b,Ŋ,U⟩<|atu<|pI n b
 have H:=fc<|ñ L<|pI n b;generalize fJ n=res at*;clear L;go_enter Œ,Tryz.ntmps21;go_wp2_with fail;refine ŋ (Q:=QE 0<|UN res w) ?_ (H.out.1 _ (gy.gi _));rintro(_|_|_|_|_|_) a v hq;all_goals first|exact absurd hq id|skip
 obtain⟨rfl,d,s,h,i,c,rfl⟩:=hq;obtain⟨u,rfl⟩:=h;unfold Ft;have j:(yo d).size+s.size=res.size:=by rw[<-c,Æ]
 have l:=H.out.2;let⟨m,o,p,q,r,t,x⟩:=acB i (s:=s) Z;have k:=fc c;clear j c;go_wp2_with fail;go_ret;exact⟨by rw[<-k.out];rfl,U⟩
end
abbrev j0(B:ByteArray):Prop:=(59:UInt8)∉B.data.toList
def j0.r{a:ByteArray}(h:j0 a)(k:j0 B):j0 (a++B):=by unfold j0 at*;simp_all
theorem j0.C(h:j0 B)(i j:Nat):j0 (B.extract i j):=by grind [Ø,Ý]
theorem Fv(n:Nat):j0 (fJ n):=by
 induction n using Ľ with
 |_ n b=>
  have a:∀d,j0 (yo d):=λd=>j0.C A _ _;by_cases h:n<10
  .rw[Nf h];exact a n
  .rw[UL h];exact(b _ Z).r<|a _
theorem atv(h:∀x∈vX,j0 x):j0 (jb ⟨#[44]⟩ vX):=by
 cases vX with
 |nil=>exact λq=>by cases q
 |cons x r=>
  show 59∉x.data.toList++nK ⟨#[44]⟩ r;rw[Ę];rintro(q|q)
  .exact h x fj q
  .let⟨y,a,q⟩:=List.mem_flatMap.1 q;rcases Ę.1 q with z|z
   .revert z;decide
   .exact h y (by simp[a]) z
def acD:∀(f n:Nat) (l:List UInt8),59∉l->59∉se f n l
 |0,n,l,h=>h
 |f+1,n,l,h=>by
  have a:∀k:_root_.Fin 16,59≠oY k.val:=by decide+kernel
  unfold se;split
  .rw[ý];exact λq=>q.elim (a ⟨n,‹_›⟩) h
  .apply acD f _ _;rw[ý];exact λq=>q.elim (a ⟨n%16,Nat.mod_lt _ A⟩) h
def acE(n:Nat):j0 (Ab n):=j0.r (j0.C A _ _)<|acD 16 n [] A
def atw(y:Nat):j0 (iG y):=j0.C A _ _
theorem atx(e:Nat×Int):j0 (qZ e):=(atw _).r<|Fv _
theorem aty{α:Type}(f:α->ByteArray)(h:∀x,j0<|f x)(l:List α):∀x∈l.map f,j0 x:=λx a=>by obtain⟨y,_,rfl⟩:=ň.1 a;exact h y
def UO(s:gy.St)(x y:Nat)(k:Int):∀(m i:Nat),j0<|oC s x y k i m
 |0,i=>by unfold oC;decide
 |m+1,i=>by
  unfold oC;split
  .exact Fv i
  .exact UO s x y k m<|i+1
def o6(c:UInt8):List UInt8->List UInt8->List (List UInt8)
 |cur,[]=>[cur]
 |cur,x::r=>if x=c then cur::o6 c [] r else o6 c (cur++[x]) r
def UP(B:ByteArray)(c:UInt8):∀f a i,B.size-i=f->a<=i->i<=B.size->oH B c f a i=(o6 c (B.extract a i).data.toList<|B.data.toList.drop i).map λl=>⟨l.toArray⟩
 |0,a,i,hf,h1,h2=>by
  obtain rfl:i=B.size:=Z
  rw[Ė (by rw[Â];exact Ì _)];rfl
 |f+1,a,i,hf,h1,h2=>by
  have b:i<B.size:=Z
  have d:i<B.data.toList.length:=by rwa[Â]
  have e:B.data.toList[i]=B[i]:=by rw[é];rfl
  rw[Ą d,e];unfold oH o6;rw[dif_pos b];split
  .have g:(B.extract (i+1)<|i+1).data.toList=[]:=by
    rw[Ø,Ý];simp
   rw[UP B c f (i+1) (i+1) Z (Ì _) Z,g];rfl
  .rw[UP B c f a (i+1) Z Z Z];congr 2;rw[Ø,Ø,Ý,Ý,ì,ì,show i+1-a=i-a+1 by omega,Ĭ,Ă,show a+(i-a)=i by omega,Í d,e];rfl
def acG{c:UInt8}:∀(x a r:List UInt8),c∉x->o6 c a (x++c::r)=(a++x)::o6 c [] r
 |[],a,r,_=>by simp[o6]
 |y::x,a,r,h=>by rw[show o6 c a (y::x++c::r)=if y=c then a::o6 c [] (x++c::r)else o6 c (a++[y]) (x++c::r)from U,if_neg λq=>h (by simp[q]),acG x _ r λq=>h (by simp[q])];simp
def acH{c:UInt8}:∀(x a:List UInt8),c∉x->o6 c a x=[a++x]
 |[],a,_=>by simp[o6]
 |y::x,a,h=>by unfold o6;rw[if_neg λq=>h (by simp[q]),acH x _ λq=>h (by simp[q])];simp
def acI:∀(r:List ByteArray) (x:ByteArray) (a:List UInt8),j0 x->(∀y∈r,j0 y)->o6 59 a (x.data.toList++nK ⟨#[59]⟩ r)=(a++x.data.toList)::r.map λy=>y.data.toList
 |[],x,a,h,_=>by show o6 59 a (x.data.toList++[])=_;rw[ľ,acH _ _ h];rfl
 |y::r,x,a,h,k=>by show o6 59 a (x.data.toList++59::(y.data.toList++nK ⟨#[59]⟩ r))=_;rw[acG _ _ _ h,acI r y [] (k y fj) λz b=>k z (by simp[b])];rfl
def acJ(a:vX≠[])(h:∀x∈vX,j0 x):oH (jb ⟨#[59]⟩ vX) 59 (jb ⟨#[59]⟩ vX).size 0 0=vX:=by
 rw[UP _ _ _ 0 0 (Nat.sub_zero _) (Ì _)<|Ò _];match vX,a with
 |x::r,_=>
  have e:((jb ⟨#[59]⟩<|x::r).extract 0 0).data.toList=[]:=by simp_all
  rw[e,List.drop_zero];show(o6 59 []<|x.data.toList++nK ⟨#[59]⟩ r).map _=_;rw[acI r x [] (h x fj) λy b=>h y (by simp[b])];simp[Function.comp_def]
section
variable{c l a:e9}{s t:List fI}{e:Ñ}{V:Nat->Prop}{g:List Ñ}
def atz(h:gh X l a)(b:gL l):gL a:= ⟨h.N b.r,h.d.trans b.d,by rw[h.q];exact b.q,by rw[h.S];exact b.rd,by rw[h.Y];exact b.I,by rw[h.b];exact b.M,by rw[h.K];exact b.k⟩
end
noncomputable def Nh:ű:=kY Ŭ [1,1,1,0,1,0,0]
noncomputable def acK:ű:=kY Ŭ [1,1,1,1]
noncomputable def CL (a:Array Ñ) (b:List ĝ):Goroutine:=G ((base 24).at ⟨a,[]⟩<|Ţ Nh::.inLoop Nh::[.inBlock 0,Ţ acK]) b
structure I3(B:ByteArray)(c:UInt8)(lv:Ñ)(fr i:Nat)(tt:Array Ñ):Prop where
 r:tt.size=35
 C:tt[0]?=Ä (Á B)
 t1:tt[1]?=Ä (Ë Ū c.toNat)
 I:tt[5]?=Ä lv
 M:tt[6]?=Ä (Ë Ð fr)
 N:tt[7]?=Ä (Ë Ð i)
def acM(S:ByteArray)(w:Ô):Sem.events À (Builtin.len_ #[9] 3 #[Á S]) w #[]=#[]:=fp
def atA(B:ByteArray)(w:Ô)(a:i<=j)(b:j<=B.size):Sem.events À (Ċ 9 (Á B) (Ä<|Ë Ð i) (Ä<|Ë Ð j) Ü) w #[]=#[]:=by simp[Ċ,œ,go_sem,a,b,ĳ]
def atB(B:ByteArray)(w:Ô)(a:i<=B.size):Sem.events À (Ċ 9 (Á B) (Ä<|Ë Ð i) Ü Ü) w #[]=#[]:=by simp[Ċ,œ,go_sem,a,ĳ]
structure uZ(im l:e9)(lv:Ñ)(xs:List ByteArray):Prop where
 r:gh ff im l
 C:l.w.ownsRow 0 9 1 lv xs.length (jo xs)
 fl:∀k,lv.ownBlock=Ä k->l.O k/\im.w.heap.size<=k
section
variable{J:Jd}{im l:e9}{S:ByteArray}{c:UInt8}{lv:Ñ}{fr:Nat}{xs:List ByteArray}{tt:Array Ñ}{k:List Ů}
def uZ.I(h:uZ im l lv xs)(f:gw im)(c:gL l){ob:Obj}(g:fE l l.w u)(d:fE (gG l u ob) (gG l u ob).w W)(i:jX.ownsRow 0 9 1 v (xs.length+1) (jo xs++[Á S]))(m:W.grownBy jX lv.ownBlock)(n:∀k,v.ownBlock=Ä k->(mX (gG l u ob) W jX).O k)(o:v.ownBlock=lv.ownBlock\/v.ownBlock=Ä W.heap.size): gL (mX (gG l u ob) W jX)/\uZ im (mX (gG l u ob) W jX) v (xs++[S]):=by
 have a:=mW (X:=λb=>Ä b=lv.ownBlock) (ob:=ob) c.r g;have b:=a.fe (KR (a.N c.r) d m λk e=>⟨a.O k (h.fl k e).1,e.symm⟩);refine⟨atz b c,h.r.vL b λj q e=> ?_,?_,λk e=>⟨n k e,?_⟩⟩
 .have:=(h.fl j e.symm).2;have:=f.fw j q;omega
 .rwa[ã,show jo (xs++[S])=jo xs++[Á S] by simp[jo]]
 .rcases o with z|z
  .exact(h.fl k<|z.symm.trans e).2
  .have e:=Õ<|z.symm.trans e;have:=h.r.I;have:=a.I;have:=d.r;omega
def atC{a b:UInt8}(h:a≠b):((a.toNat:Int)==(b.toNat:Int))=á:=by rw[beq_eq_false_iff_ne];exact λq=>h<|ÿ.1 Z
def atD(h:uZ im l lv xs)(C:gw im)(a:gL l)(b:I3 B c lv fr i tt)(D:i<B.size)(E:fr<=i)(hB:B.size<=10^12)(tZ:xs.length<=fr) (o:B[i]≠c->∀d g,gL d->uZ im d lv xs->I3 B c lv fr (i+1) g->ft.fh À È J d (CL g qX)) (r:B[i]=c->∀d g v,gL d->uZ im d v (xs++[B.extract fr i])->I3 B c v (i+1) (i+1) g->ft.fh À È J d (CL g qX)):ft.fh À È J l (CL tt qX):=by
 have hF:True:=trivial;let⟨s,t,f⟩:=jh h.C;obtain⟨u,rfl⟩:=xo tt b.r;have F:u 0=Á B:=by simpa using b.C
 have G:u 1=Ë Ū c.toNat:=by simpa using b.t1
 have I:u 5=ð s xs.length t:=by rw[<-f];simpa using b.I
 have K:u 6=Ë Ð fr:=by simpa using b.M
 have L:u 7=Ë Ð i:=by simpa using b.N
 clear b;have k1:(i:Int)<(B.size:Int):=Z
 have k2:(0:Int)<=(i:Int):=Z
 have k3:(0:Int)<=(fr:Int):=Z
 have k4:(fr:Int)<=(i:Int):=Z
 have k5:(i:Int)<=(B.size:Int):=Z
 have M:i<=B.size:=Z
 have m:Ð.wrap ((i:Int)+1)=((i+1:Nat):Int):=IntWalk.i64_in _ ⟨Z,Z⟩;have H:=fc<|ñ o r;clear o r;apply fP (n:=60) a.r.r;simp only[CL,â,ę,Ŕ,F,G,I,K,L];conv in Nh=>whnf
 repeat w_go fu
 refine Ã λ_ _=> ?_;apply nF (v:=Ë Ð B.size) U fN (by k_ne) a.r.r a.q (λw _=>by go_simp) (λw _ e p=>by simp[go_sem,acM]at p);walk_nrm;apply fP (n:=60) a.r.r;repeat w_nl fu
 refine Ã λ_ _=> ?_;apply nF (v:=Ë Ū B[i].toNat) U fN (by k_ne) a.r.r a.q (λw _=>by go_simp) (λw _ e p=>by simp[go_sem,Instr.index,D]at p);walk_nrm;by_cases j:B[i]=c
 .rw[j];apply fP (n:=60) a.r.r;repeat w_nl fu
  refine Ã λ_ _=> ?_;apply nF (v:=Á<|B.extract fr i) U fN (by k_ne) a.r.r a.q (λw _=>by go_simp) (λw _ e p=>by simp[go_sem,atA B w E M]at p);walk_nrm;refine pE (V:=λp=>ð (Ä ⟨p,0,Ü⟩) 1 1) (ob:=ĉ #[Á<|B.extract fr i] 9) U U (by k_ne) a.r.r a.q (λw=>by go_simp) (λw=>by simp[go_sem]) λw x=> ?_;walk_nrm;have p:=mW (X:=ff) (ob:=ĉ #[Á<|B.extract fr i] 9) a.r x;have y:ia (gG l w<|ĉ #[Á<|B.extract fr i] 9) w.heap.size (ĉ #[Á<|B.extract fr i] 9):=⟨û U,ft.mV⟩;have N:À.info? 9=Ä ĭ:=Ŝ;refine G6 (v:=ð s xs.length t) (us:=[Á<|B.extract fr i]) (px:=w.heap.size) (c:=1) (n:=xs.length) (xs:=jo xs) (inf:=ĭ) (z:=Á ⟨#[]⟩) U U (by k_ne) (p.N a.r) (by rw[p.q];exact a.q) U U U Į N U U Ķ U U (by simp[ĭ];omega) (by simp only[ê];omega) (f▸n5 h.C λk e=>p.r k (Î (h.fl k e).1) id) (f▸λk e=>p.O k (h.fl k e).1) y.fl (RE<|y.C U) (λ_ e=>ĩ.1 e▸rfl) λatE v RP P Q S T W=> ?_;let⟨e,Y⟩:=h.I C a x P Q (f▸S) T<|f▸W;walk_nrm;apply fP (n:=80) e.r.r;repeat w_nl fu
  w_go fu
  refine Ã λ_ _=> ?_;refine H.out.2 j _ _ _ e Y ⟨U,U,U,U,?_,?_⟩
  .simp[m]
  .simp[m]
 .have e:=atC j;apply fP (n:=60) a.r.r;repeat w_nl fu
  w_go fu
  refine Ã λ_ _=> ?_;refine H.out.1 j _ _ a h ⟨U,U,U,by rw[f];rfl,U,?_⟩;simp[m]
def atF(h:uZ im l lv xs)(s:gw im)(a:gL l)(b:I3 B c lv fr B.size tt)(x:fr<=B.size)(T:B.size<=10^12)(W:xs.length<=fr) (C:∀g v,gL g->uZ im g v (xs++[B.extract fr B.size])->ft.fh À È J g (G (f.at (y.put ((Q[j]?).bind (·.dst)) v)<|Ç Q jJ::k) qX)):ft.fh À È J l (CL tt<|f.at y (Ç Q (j::jJ)::k)::qX):=by
 have hF:True:=trivial;let⟨i,m,d⟩:=jh h.C;obtain⟨u,rfl⟩:=xo tt b.r;have D:u 0=Á B:=by simpa using b.C
 have E:u 5=ð i xs.length m:=by rw[<-d];simpa using b.I
 have F:u 6=Ë Ð fr:=by simpa using b.M
 have H:u 7=Ë Ð B.size:=by simpa using b.N
 clear b;have Y:(0:Int)<=(fr:Int):=Z
 have k4:(fr:Int)<=(B.size:Int):=Z
 apply fP (n:=60) a.r.r;simp only[CL,â,ę,Ŕ,D,E,F,H];conv in Nh=>whnf
 conv in acK=>whnf
 repeat w_go fu
 refine Ã λ_ _=> ?_;apply nF (v:=Ë Ð B.size) U fN (by k_ne) a.r.r a.q (λw _=>by go_simp) (λw _ e p=>by simp[go_sem,acM]at p);walk_nrm;apply fP (n:=60) a.r.r;repeat w_nl fu
 refine Ã λ_ _=> ?_;apply nF (v:=Á<|B.extract fr B.size) U fN (by k_ne) a.r.r a.q (λw _=>by go_simp) (λw _ e p=>by simp[go_sem,atB B w x]at p);walk_nrm;refine pE (V:=λp=>ð (Ä ⟨p,0,Ü⟩) 1 1) (ob:=ĉ #[Á<|B.extract fr B.size] 9) U U (by k_ne) a.r.r a.q (λw=>by go_simp) (λw=>by simp[go_sem]) λw o=> ?_;walk_nrm;have p:=mW (X:=ff) (ob:=ĉ #[Á<|B.extract fr B.size] 9) a.r o;have r:ia (gG l w<|ĉ #[Á<|B.extract fr B.size] 9) w.heap.size (ĉ #[Á<|B.extract fr B.size] 9):=⟨û U,ft.mV⟩;have I:À.info? 9=Ä ĭ:=Ŝ;refine G6 (v:=ð i xs.length m) (us:=[Á<|B.extract fr B.size]) (px:=w.heap.size) (c:=1) (n:=xs.length) (xs:=jo xs) (inf:=ĭ) (z:=Á ⟨#[]⟩) U U (by k_ne) (p.N a.r) (by rw[p.q];exact a.q) U U U Į I U U Ķ U U (by simp[ĭ];omega) (by simp only[ê];omega) (d▸n5 h.C λk e=>p.r k (Î (h.fl k e).1) id) (d▸λk e=>p.O k (h.fl k e).1) r.fl (RE<|r.C U) (λ_ e=>ĩ.1 e▸rfl) λatE v RP K L M N P=> ?_;let⟨e,S⟩:=h.I s a o K L (d▸M) N<|d▸P;walk_nrm;apply fP (n:=80) e.r.r;repeat w_nl fu
 u_in fu hF
 refine Ć (t:=4) U U ķ U ⟨by u_nil,?_⟩;refine Ã λ_ _=> ?_;exact C _ _ e S
def UQ(e:gw im)(g:B.size<=10^12) (n:∀a v,gL a->uZ im a v (oH B c B.size 0 0)->ft.fh À È J a (G (f.at (y.put ((Q[j]?).bind (·.dst)) v)<|Ç Q jJ::k) qX)): ∀(m fr i:Nat) (l:e9) (lv:Ñ) (xs:List ByteArray) (tt:Array Ñ),B.size-i=m->fr<=i->i<=B.size->xs.length<=fr->xs++oH B c m fr i=oH B c B.size 0 0->uZ im l lv xs->gL l->I3 B c lv fr i tt->ft.fh À È J l (CL tt<|f.at y (Ç Q (j::jJ)::k)::qX)
 |0,fr,i,l,lv,xs,tt,hm,hfr,hi,tZ,he,h,hb,hT=>by
  obtain rfl:i=B.size:=Z
  exact atF h e hb hT hfr g tZ λa v b d=>n a v b<|he▸d
 |m+1,fr,i,l,lv,xs,tt,hm,hfr,hi,tZ,he,h,hb,hT=>by
  have r:i<B.size:=Z
  rw[show oH B c (m+1) fr i=if B[i]=c then B.extract fr i::oH B c m (i+1) (i+1)else oH B c m fr (i+1)from dif_pos r]at he;refine atD h e hb hT r hfr g tZ (λq a o b d p=> ?_) λq a o v b d p=> ?_
  .rw[if_neg q]at he;exact UQ e g n m fr (i+1) a lv xs o Z Z Z tZ he d b p
  .rw[if_pos q]at he;exact UQ e g n m (i+1) (i+1) a v _ o Z Z Z (by rw[ã,Ĝ];omega) (by rwa[ć]) d b p
def atG(a:gL l)(d:B.size<=10^12) (g:∀b v,gL b->uZ l b v (oH B c B.size 0 0)->ft.fh À È J b (G (f.at (y.put ((Q[j]?).bind (·.dst)) v)<|Ç Q jJ::k) qX)):ft.fh À È J l (G (Ê À 24 #[Á B,Ë Ū c.toNat] ä)<|f.at y (Ç Q (j::jJ)::k)::qX):=by
 have hF:True:=trivial;rw[wx [_,_] 33 ķ];simp only[ë,Ù,Ö];conv in kY _ _=>whnf
 apply fP (n:=60) a.r.r;repeat w_bar fu
 w_go fu
 refine Ã λ_ _=> ?_;exact UQ a.r d g B.size 0 0 l (ð Ü 0 0) [] _ U (Ì _) (Ò _) (Ì _) U ⟨gh.fV a.r.r,⟨U,Î ⟨U,U⟩⟩,λk e=>by cases e⟩ a ⟨rfl,rfl,rfl,rfl,rfl,rfl⟩
end
structure j1(R:Nat->Prop)(W:Ô)(l:e9)(x nx:Nat)(s:List fI):Prop where
 a:∃sl V,oh l x nx s sl V
 C:∀b,R b->(l.O b/\l.w.heap[b]?=W.heap[b]?)/\b≠x
section
variable{R:Nat->Prop}{l d:e9}{x nx:Nat}{s g:List fI}
def j1.M(h:j1 R W l x nx s)(c:∀b,l.O b->d.O b/\d.w.heap[b]?=l.w.heap[b]?)(e:l.w.heap.size<=d.w.heap.size):j1 R W d x nx s:=by let⟨f,V,a⟩:=h.a;exact⟨⟨f,V,a.N (λb q=>(c b q).1) (λb q=>(c b q).2) e⟩,λb q=>⟨⟨(c b (h.C b q).1.1).1,(c b (h.C b q).1.1).2.trans (h.C b q).1.2⟩,(h.C b q).2⟩⟩
def j1.r(h:j1 R W l x nx s){w₁:Ô}(r:fE l l.w w₁):j1 R W {l with w:=w₁} x nx s:=h.M (λb q=>⟨q,r.I b<|Î q⟩) r.r
def j1.I(h:j1 R W l x nx s):lE s:=by let⟨_,_,a⟩:=h.a;let⟨_,_,q,_⟩:=a.rd;exact q
def j1.N(h:j1 R W l x nx s):nB<=l.w.heap.size:=by let⟨_,_,a⟩:=h.a;exact a.r.fw
def acN(h:j1 R W l x nx s)(j:gL l)(k:B.size<=ê) (m:∀d,gL d->j1 R W d x nx (lR s B).2.2->iM vQ d (G (f.at (y.put ((Q[i]?).bind (·.dst))<|ŝ #[Á (lR s B).1,Ë Ð (lR s B).2.1])<|Ç Q jJ::L) qX)): iM vQ l (G (Ê À 17 #[Ï<|Ä ⟨x,0,Ü⟩,Á B] ä)<|f.at y (Ç Q (i::jJ)::L)::qX):=by let⟨v,V,n⟩:=h.a;refine ab5 j n k (λ_=>ab9 h.I) λd o ⟨e,p,r,t,w⟩=>m d o ⟨⟨p,r,t⟩,λb q=> ?_⟩;let⟨⟨g,u⟩,c⟩:=h.C b q;exact⟨⟨(e b g c).1,(e b g c).2.trans u⟩,c⟩
def atH(h:j1 R W l x nx s)(o:gL l)(C:B.size<=ê)(D:lR s B=(jb ⟨#[59]⟩ vX,0,g))(E:vX≠[])(F:∀a∈vX,j0 a)(M:vX.length=n)(N:(jb ⟨#[59]⟩ vX).size<=10^12) (P:∀d m,gL d->j1 R W d x nx g->d.w.ownsRow 0 9 1 m n (jo vX)->(∀b,m.ownBlock=Ä b->d.O b)->iM vQ d (G (f.at (y.put ((Q[i]?).bind (·.dst))<|ŝ #[m,Ó È])<|Ç Q jJ::L) qX)): iM vQ l (G (Ê À 26 #[Ï<|Ä ⟨x,0,Ü⟩,Á B,Ë Ð n] ä)<|f.at y (Ç Q (i::jJ)::L)::qX):=by
 have hF:True:=trivial;subst M;rw[wx [_,_,_] 25 ĸ];simp only[ë,Ù,Ö];conv in kY _ _=>whnf
 apply mA;apply fP (n:=60) o.r.r;repeat w_go fu
 refine Ã λ_ _=> ?_;refine .fA λX p=>⟨o.C p,U,?_⟩;have r:=o.C p;have H:=h.r p;refine ym (f:=17) (args:=#[Ï<|Ä ⟨x,0,Ü⟩,Á B]) r U fN (by k_ne) (λw=>by go_simp) (λw=>É U ŕ U U #[]) λT k=> ?_;refine acN (H.r k) (r.C k) C λY t u=> ?_;have I:=acJ E F;rw[D]at u|-;dsimp only at u|-;generalize jb ⟨#[59]⟩ vX=S at*;clear D h H r C;walk_nrm;apply mA;apply fP (n:=60) t.r.r;repeat w_nl fu
 refine Ã λ_ _=> ?_;refine wy (f:=24) (args:=#[Á S,Ë Ū 59]) U fN (by k_ne) t.r.r (λw=>by go_simp) (λw=>É U ķ U U #[]) λace J=> ?_;refine atG (c:=59) (t.C J) N λl5 m v j=> ?_;have V:=(u.r J).M (λb q=>⟨j.r.O b q,j.r.r b (Î q) id⟩) j.r.I;rw[I]at j;let⟨pk,ck,K⟩:=jh j.C;have z:=fc (ñ j.C λb q=>(j.fl b q).1);clear j I F E;rw[K];walk_nrm;apply fP (n:=60) v.r.r;repeat w_nl fu
 u_in fu hF
 refine Ŗ U U ĸ U ⟨by u_nil,?_⟩;refine Ã λ_ _=> ?_;refine .fA λT k=>⟨v.C k,U,?_⟩;have:=P _ m (v.C k) (V.r k) (n5 z.out.1 λL e=>k.I L<|Î<|z.out.2 L e) z.out.2;rwa[K]at this
end
def yp(l a:e9):Prop:=∀b,l.O b->a.O b/\a.w.heap[b]?=l.w.heap[b]?
structure Ni(l:e9)(kb:Nat)(xs:List ByteArray):Prop where
 fl:l.O kb
 C:∀i y,xs[i]?=Ä y->l.w.cell? ⟨kb,i,Ü⟩=Ä (Á y)
section
variable{J:Jd}{kn:Ñ->Ô->Prop}{R:Nat->Prop}{l l':e9}{x nx:Nat}{s c:List fI}{b j:ĝ}{a m:ł}{ops:Array Ħ}{rest:List Nat}{k:List Ů}{cs:List ĝ}{f:FuncId}{args:Array Ñ}{fn:Func}{ags:Array Ő}{ats:Array ŏ}{kb:Nat}{xs:List ByteArray}{y:ByteArray}{t:Ő}
def yp.r{a:e9}(h:yp l l')(k:yp l' a):yp l a:=λb q=>⟨(k b (h b q).1).1,(k b (h b q).1).2.trans (h b q).2⟩
def Nj{w₁:Ô}(r:fE l l.w w₁):yp l {l with w:=w₁}:=λb q=>⟨q,r.I b<|Î q⟩
def Ni.r(h:Ni l kb xs)(k:yp l l'):Ni l' kb xs:=⟨(k kb h.fl).1,λi y q=>(gM (k kb h.fl).2).trans<|h.C i y q⟩
def G4(h:j1 R W l x nx s)(hb:gL l)(hf:Tryz.prog.funcs[f]?=some fn) (hc:∀l',gL l'->nB<=l'.w.heap.size->∀(cl:Frame) (cs:List Frame),ft.fh Tryz.prog true (λl'' g'=>jy l' l''/\l''.d=l'.d/\g'=G (cl.finish v) cs) l'<|G (Frame.enter Tryz.prog f args .normal)<|cl::cs) (hn:∀l',gL l'->j1 R W l' x nx s->yp l l'->ft.fh Tryz.prog true J l' (G (b.at (a.put o.dst v)<|.inRegion ops rest::k) cs)) (ho:ops[i]?=some o:=by rfl) (qC:o.op=.call {callee:=.value<|.func f,args:=ags,argTypes:=ats}:=by rfl) (hw:Region.wanted o (yielded ops a.tmps)=true:=by rfl) (hk:b.kind≠.early:=by k_ne) (hr:∀w,(execOp a.eval o).run Tryz.prog w=.ok (.enter f args) w:=by intro w;go_simp) (hm:(fn.name== "runtime.NumGoroutine")=false:=by rfl) (hd:fn.body.isNone=false:=by rfl): ft.fh Tryz.prog true J l (G (b.at a<|.inRegion ops (i::rest)::k) cs):=by refine wy ho hw hk hb.r.r hr (λw=>É qC hf hm hd #[]) λw₁ kh=> ?_;refine ft.fh.lD ?_<|hc _ (hb.C kh) (h.r kh).N _ _;rintro l2 g2 ⟨ha,hd,rfl⟩;rw[Ě,ho];have k2:yp {l with w:=w₁} l2:=λb q=>⟨ha.O b q,ha.r.I b<|Î q⟩;exact hn l2 (jy.xH (hb.C kh) ha hd) ((h.r kh).M k2 ha.r.r)<|(Nj kh).r k2
def Nk(h:j1 R W l x nx s)(hb:gL l)(hf:Tryz.prog.funcs[f]?=some fn) (hn:∀l',gL l'->j1 R W l' x nx s->yp l l'->l.w.heap.size<=l'.w.heap.size->iM kn l' (G (Frame.enter Tryz.prog f args .normal)<|b.at a (.inRegion ops (i::rest)::k)::cs)) (ho:ops[i]?=some o:=by rfl) (qC:o.op=.call {callee:=.value<|.func f,args:=ags,argTypes:=ats}:=by rfl) (hw:Region.wanted o (yielded ops a.tmps)=true:=by rfl) (hk:b.kind≠.early:=by k_ne) (hr:∀w,(execOp a.eval o).run Tryz.prog w=.ok (.enter f args) w:=by intro w;go_simp) (hm:(fn.name== "runtime.NumGoroutine")=false:=by rfl) (hd:fn.body.isNone=false:=by rfl): ft.fh Tryz.prog true (IL kn) l (G (b.at a<|.inRegion ops (i::rest)::k) cs):= .fA λw₁ kh=>⟨hb.C kh,U,ym (hb.C kh) ho hw hk hr (λw=>É qC hf hm hd #[]) λwU ow=>hn _ ((hb.C kh).C ow) ((h.r kh).r ow) ((Nj kh).r<|Nj ow)<|Å kh.r ow.r⟩
def atI(h:j1 R W l x nx s)(o:gL l)(p:B.size<=ê)(r:lR s B=(jb ⟨#[59]⟩ xs,0,c))(t:∀y∈xs,j0 y)(a:xs.length=n+1)(u:(jb ⟨#[59]⟩ xs).size<=10^12) (v:∀l' kb b,gL l'->j1 R W l' x nx c->Ni l' kb xs->iM kn l' (G (j.at (m.put ((ops[i]?).bind (·.dst))<|ŝ #[ð (Ä ⟨kb,0,Ü⟩) (n+1) b,Ó È])<|Ç ops rest::k) cs)): iM kn l (G (Ê À 26 #[Ï<|Ä ⟨x,0,Ü⟩,Á B,Ë Ð ((n+1:Nat):Int)] ä)<|j.at m (Ç ops (i::rest)::k)::cs):=by
 refine atH (n:=n+1) h o p r (λe=>by rw[e]at a;cases a) t a u λw z C D d E=> ?_;let⟨F,b,f⟩:=jh d;obtain⟨kb,rfl⟩:∃kb,F=Ä ⟨kb,0,Ü⟩:=by
  rcases d.2 with⟨e,q⟩|⟨g,_,_,e,_⟩
  .omega
  .rw[f]at e;cases e;exact⟨g,U⟩
 have e:z.ownBlock=Ä kb:=by rw[f];rfl
 rw[f];refine v w kb b C D ⟨E kb e,λi y q=> ?_⟩;have q:=d.cells e i (Á y) (by unfold jo;rw[ô,q];rfl);rwa[Addr.add_lit,Ō]at q
end
def wA(r:PR):Int×Nat×List Tx:=(r.c.getD 5 0,(r.c.getD 0 0).toNat,r.r.map toTx)
def CM(r:PR)(s:List fI):ByteArray:=if r.c.getD 4 0=1 then(qY (mY s) (wA r).1 (wA r).2.1 (wA r).2.2).2 else re (mY s) (toQn r)
def Fw(s:List fI)(r:PR):List fI:=if r.c.getD 4 0=1 then Cu s (wA r)else s
def rU(s:List fI)(rs:List PR):List fI:=rs.foldl Fw s
def acO{kd:Nat->Int}(h:kd i=1):∀n,i<n->(gZ kd n).getD (fK kd i) 0=i
 |0,q=>by omega
 |n+1,q=>by
  have a:i<n->∀x,(gZ kd n++x).getD (fK kd i) 0=i:=λz x=>by
   have b:fK kd i<(gZ kd n).length:=by
    have e:∀m,i+1<=m->(gZ kd<|i+1).length<=(gZ kd m).length:=λm=>by
     induction m with
     |zero=>intro z;omega
     |succ m c=>
      intro z;rcases Nat.lt_or_ge i m with y|y
      .apply Å (c y);by_cases q:kd m=1
       .rw[s8 q];simp
       .rw[vK q];exact Ì _
      .rw[show m=i by omega];exact Ì _
    have:=e n z;rw[s8 h]at this;unfold fK;simp at this;omega
   have:=acO h n z;simp only[Ď,ą b]at this|-;exact this
  by_cases z:i<n
  .by_cases q:kd n=1
   .rw[s8 q];exact a z _
   .rw[vK q];have:=a z [];rwa[ľ]at this
  .obtain rfl:i=n:=Z
   rw[s8 h];simp[Ď,fK]
section
variable{rs:List PR}{s:List fI}{P:ByteArray}
def UR:∀p,p<=rs.length->pO (wq rs) (gZ (kT rs) rs.length) s (fK (kT rs) p)=rU s (rs.take p)
 |0,_=>by simp[fK,gZ,pO,rU]
 |p+1,h=>by
  have a:=UR p Z;have b:rs.take (p+1)=rs.take p++[rs.getD p o5]:=by rw[Ĭ];congr 1;simp[Ď,show p<rs.length by omega]
  unfold rU at a|-;rw[b,List.foldl_append,<-a];show _=Fw _ _;unfold Fw;by_cases q:kT rs p=1
  .rw[if_pos (show(rs.getD p o5).c.getD 4 0=1 from q)];have e:fK (kT rs) (p+1)=fK (kT rs) p+1:=by unfold fK;rw[s8 q];simp
   rw[e];show Cu _ _=_;rw[acO q _ Z];rfl
  .rw[if_neg (show¬(rs.getD p o5).c.getD 4 0=1 from q)];have e:fK (kT rs) (p+1)=fK (kT rs) p:=by unfold fK;rw[vK q]
   rw[e]
def atJ{p:Nat}(h:p<rs.length):(kU rs s)[p]?=Ä (CM (rs.getD p o5)<|rU s<|rs.take p):=by unfold kU;rw[ô,List.getElem?_range h,ė,UR p Z];rfl
theorem atK:wv rs s=rU s rs:=by unfold wv;rw[UR _<|Ì _,List.take_length]
theorem atL{r:PR}(h:gK P=(0,0,[r])):lR s P=(CM r s,0,Fw s r):=by
 have a:=atJ (rs:=[r]) (s:=s) (p:=0) Ķ;have e:kU [r] s=[CM r s]:=by
  match hx:kU [r] s,M7 with
  |[y],_=>
   rw[hx]at a;simpa[rU]using a
 unfold lR;rw[h];simp only[if_true,e,atK];rw[show jb ⟨#[59]⟩ [CM r s]=CM r s from î (by simp[jb,T0,nK])];rfl
end
end Go.Proofs.Y.kH
namespace Go.Proofs.Y.mZ
open Go Go.Proofs Go.RowKit Go.Proofs.Y.Lift Go.Proofs.Y.gy
section
variable{a b:PS}{d:PD}
theorem wB{f:Nat}(c:k<B.size)(d:kS B k a (B[k].toNat:Int)=Ä b):jR B (f+1) k a=jR B f (k+1) b:=by rw[jR,dif_pos c,d]
end
end Go.Proofs.Y.mZ
namespace Go.Proofs.Y.kH
open Go Go.Conc Go.Proofs Go.RowKit Go.Proofs.Y.Lift Go.Proofs.Y.gy Go.Proofs.Y.ft Go.Proofs.Y.mZ
open Go.Conc.Lib Go.ConcR.Gen Go.Proofs.YtgpphkdoanciiaaGreatDoor
def CN(r:PR)(a:fI):Option fI:=(vU (wA r).2.1 a.s (wA r).2.2).map λq=>⟨q.1,q.2.1,q.2.2,a.h+1⟩
theorem acP{s:List fI}{v:fI}(h:s[n]?=Ä v):ma (mY s) n=Ä (0,v):=by unfold ma mY;grind
theorem atM{s:List fI}{r:PR}(d:r.c.getD 4 0=1){a:fI}(b:ma (mY s) (r.c.getD 5 0)=Ä (0,a))(e:s.length<40): CM r s=(match CN r a with
  |none=>nU 5
  |some _=>oz s.length)/\Fw s r=match CN r a with
  |none=>s
  |some v=>s++[v]:=by
 have f:(mY s).length=s.length:=by simp[mY]
 have g:qY (mY s) (wA r).1 (wA r).2.1 (wA r).2.2=match CN r a with
  |none=>(Ü,nU 5)
  |some v=>(Ä v,oz s.length):=by
  unfold qY CN;rw[show(wA r).1=r.c.getD 5 0 from rfl,b];grind
 unfold CM Fw Cu sf;grind [IA]
theorem atN{s:List fI}{r:PR}(h:gK B=(0,0,[r]))(a:r.c.getD 4 0=1)(b:r.c.getD 5 0=0){v0:fI}(d:s[0]?=Ä v0)(e:s.length<40): lR s B=match CN r v0 with
  |none=>(nU 5,0,s)
  |some v=>(oz s.length,0,s++[v]):=by
 obtain⟨v,f⟩:=atM a (by rw[show r.c.getD 5 0=((0:Nat):Int)from b];exact acP d) e;grind [atL]
def atO(s:gy.St):pJ s s 8=[]:=by unfold pJ;rw[ď];intro i _;unfold ye vV qt;rw[if_pos U,if_pos U,Ö,Ö,ď];exact λj _=>if_pos U
end Go.Proofs.Y.kH
namespace Go.Proofs.Y.mZ
open Go Go.Proofs Go.RowKit Go.Proofs.Y.Lift Go.Proofs.Y.gy
section
variable{T p:ByteArray}{a b:PS}
def sy(j:Int):PS:=⟨[80],0,j,120,⟨[],È,⟨[0,0,0,0,1,0,0,0],[]⟩,È,⟨[1,0,0,0,2],⟨#[]⟩⟩⟩⟩
def rP(p:ByteArray):PR:=⟨[0,0,0,0,1,0,0,0],[⟨[1,0,0,0,2],p⟩]⟩
def iu(p:ByteArray):ByteArray:=⟨#[105,48,58,97,47,98,123]⟩++p++⟨#[125]⟩
theorem US{l:List UInt8}(h:T.data.toList=l)(i:Nat)(a:i<T.size):∃b:i<l.length,T[i]=l[i]:=by subst h;exact⟨by rwa[Â],by rw[é];rfl⟩
def acQ(a:T.data.toList=105::48::58::97::47::98::123::(p.data.toList++[125]))(h:125∉p.data.toList)(i:T.size=p.size+8):∀(m j:Nat),p.size-j=m->j<=p.size->(jR T (m+1) (7+j)<|sy j).1=T.size->(jR T (m+1) (7+j)<|sy j).2.d.C=[rP p]/\(jR T (m+1) (7+j)<|sy j).2.C=[]
 |0,j,hm,hj,hr=>by
  obtain rfl:j=p.size:=Z
  have b:p.data.toList.length=p.size:=by rw[Â];rfl
  have c:T[7+p.size]'Z=125:=by
   let⟨q,e⟩:=US a (7+p.size) Z;have:(105::48::58::97::47::98::123::(p.data.toList++[125]))[7+p.size]?=Ä 125:=by rw[show 7+p.size=p.size+1+1+1+1+1+1+1 by omega];simp only[ò];rw[List.getElem?_append_right Z,b,Ā];rfl
   rw[Í q]at this;rw[e];exact Õ this
  have g:T.extract (7+p.size-((p.size:Nat):Int).toNat) (7+p.size)=p:=by apply î;apply ü.1;rw[Ø,Ý,a,Int.toNat_natCast,Nat.add_sub_cancel,ì];show ā (7+p.size-7) (p.data.toList++[125])=_;rw[Nat.add_sub_cancel_left,<-b,List.take_left]
  have e:kS T (7+p.size) (sy p.size) ((T[7+p.size]'Z).toNat:Int)=Ä {sy p.size with C:=[],r:=0,d:=(sy p.size).d.oE p}:=by rw[c];show jP T (7+p.size) {sy p.size with r:=0} 125=_;unfold jP;simp only[sy];rw[g];simp
  rw[wB Z e];exact⟨U,U⟩
 |m+1,j,hm,hj,hr=>by
  have b:p.data.toList.length=p.size:=by rw[Â];rfl
  obtain⟨c,g⟩:∃c,T[7+j]'Z=c:=⟨_,U⟩;have k:c∈p.data.toList:=by
   let⟨q,e⟩:=US a (7+j) Z;rw[<-g,e];have:(105::48::58::97::47::98::123::(p.data.toList++[125]))[7+j]?=Ä (p.data.toList[j]'Z):=by rw[show 7+j=j+1+1+1+1+1+1+1 by omega];simp only[ò];rw[ą Z,Í]
   rw[Í q]at this;rw[Õ this];exact List.getElem_mem _
  have l:(c.toNat:Int)≠125:=λq=>h (by have:c=125:=ÿ.1 (by show c.toNat=125;omega);rwa[<-this]);have e:kS T (7+j) (sy j) (c.toNat:Int)=if(j:Int)=40\/lB (c.toNat:Int)=0 then Ü else Ä (sy ((j+1:Nat):Int)):=by show jP T (7+j) {sy j with r:=0} (c.toNat:Int)=_;unfold jP;simp only[sy];simp[l];rfl
  by_cases q:(j:Int)=40\/lB (c.toNat:Int)=0
  .rw[if_pos q]at e;exfalso;rw[jR,dif_pos (show 7+j<T.size by omega),g,e]at hr;simp only at hr;omega
  .rw[if_neg q]at e;rw[wB (f:=m+1) (show 7+j<T.size by omega) (by rwa[g])]at hr|-;exact acQ a h i m (j+1) Z Z hr
theorem atP(d:125∉p.data.toList)(h:(gK<|iu p).1=0):gK (iu p)=(0,0,[rP p]):=by
 obtain⟨T,a⟩:∃T,iu p=T:=⟨_,U⟩;have f:T.data.toList=105::48::58::97::47::98::123::(p.data.toList++[125]):=by rw[<-a];unfold iu;simp_all
 have b:T.size=p.size+8:=by rw[<-a];unfold iu;rw[Æ,Æ];show 7+p.size+1=_;omega
 rw[a]at h|-;have g:∀i c (j:i<T.size),(105::48::58::97::47::98::123::(p.data.toList++[125]))[i]?=Ä c->T[i]=c:=λi c j e=>by grind [US]
 have k:lC T=jR T (p.size+1) (7+0) (sy (0:Nat)):=by unfold lC;rw[b,wB Z (by rw[g 0 105 _ U];rfl),wB Z (by rw[g 1 48 _ U];rfl),wB Z (by rw[g 2 58 _ U];rfl),wB Z (by rw[g 3 97 _ U];rfl),wB Z (by rw[g 4 47 _ U];rfl),wB Z (by rw[g 5 98 _ U];rfl),wB Z (by rw[g 6 123 _ U];rfl)];rfl
 have l:T.size≠0:=Z
 unfold gK lQ at h|-;split at h
 .cases h
 .rename_i m;rw[if_neg m];split at h
  .rename_i q;simp only[if_neg l]at q|-;rw[if_pos q];simp only[à,decide_eq_true_eq]at q;have:=acQ f d b p.size 0 U (Ò _) (by rw[<-k];exact q.1);grind
  .cases h
end
end Go.Proofs.Y.mZ
namespace Go.Proofs.Y.mZ
open Go Go.Proofs Go.RowKit Go.Proofs.Y.Lift Go.Proofs.Y.gy Go.Proofs.Y.kH
section
variable{P:ByteArray}{D:List PR}{a b:PS}{r:PR}
def I2.NO{o:Option PS}(h:I2 D k o (Ä b)):∃a,o=Ä a/\CK D k a b:=by
 cases o with
 |none=>cases h
 |some a=>exact⟨a,U,h⟩
theorem acR(h:gK P=(0,0,[r])):∃z,jR P P.size 0 nO=(P.size,z)/\Fq z/\z.d.C=[r]:=by
 unfold gK lQ lC at h;split at h
 .cases h
 .by_cases a:P.size=0
  .grind
  .rw[if_neg a]at h;split at h
   .rename_i q;simp only[à,Bool.or_eq_true,decide_eq_true_eq]at q;refine⟨(jR P P.size 0 nO).2,ŗ q.1 U,q.2,?_⟩;grind
   .cases h
def UT(c:UInt8):∀(f a i:Nat),B.size-i=f->i<=B.size->∃e l,i<=e/\e<=B.size/\oH B c f a i=B.extract a e::l
 |0,a,i,hf,hi=>⟨B.size,[],Z,Ì _,U⟩
 |f+1,a,i,hf,hi=>by
  have b:i<B.size:=Z
  unfold oH;rw[dif_pos b];split
  .exact⟨i,_,Ì _,hi,U⟩
  .let⟨e,l,h,d,g⟩:=UT c f a (i+1) Z Z;exact⟨e,l,Z,d,g⟩
theorem acS(c:CK D k a b)(g:Fq b)(e:b.d.C=[r]):Fq a/\k9 D a.d b.d/\a.d.C=D++[r]:=by
 rcases c.d with⟨q,_⟩|⟨_,f⟩
 .grind
 .let⟨j,h,i⟩:=f.G;rw[i]at e;cases e;refine⟨?_,f,h⟩;unfold Fq;rwa[c.r]
def UU:∀(f h i:Nat) (D:List PR) (a b m:PS) (P:ByteArray) (l:List ByteArray) (r:PR) (j:List PR),B.size-i=f->h<=i->i<=B.size->CK D (i-h) a b->oH B 59 f h i=P::l-> jR P (P.size-(i-h)) (i-h) b=(P.size,m)->Fq m->m.d.C=[r]->(l.map gK=j.map λr=>(0,0,[r]))->D.length+1+l.length<=24->∃z,jR B f i a=(B.size,z)/\Fq z/\z.d.C=D++r::j
 |0,h,i,D,a,b,m,P,l,r,j,hf,h1,h2,hs,hc,hr,hA,nH,hl,hn=>by
  obtain rfl:i=B.size:=Z
  cases hc;have p:(B.extract h B.size).size=B.size-h:=by rw[ø];omega
  rw[p,Ā]at hr;have e:b=m:=congrArg Ř hr;subst e;let⟨s,_,t⟩:=acS hs hA nH;cases j with
  |nil=>exact⟨a,U,s,t⟩
  |cons y j=>cases hl
 |f+1,h,i,D,a,b,m,P,l,r,j,hf,h1,h2,hs,hc,hr,hA,nH,hl,hn=>by
  have u:i<B.size:=Z
  rw[show oH B 59 (f+1) h i=if B[i]=59 then B.extract h i::oH B 59 f (i+1) (i+1)else oH B 59 f h (i+1)from dif_pos u]at hc;by_cases q:B[i]=59
  .rw[if_pos q]at hc;cases hc;have p:(B.extract h i).size=i-h:=by rw[ø];omega
   rw[p,Ā]at hr;have e:b=m:=congrArg Ř hr;subst e;let⟨s,kd,t⟩:=acS hs hA nH;let⟨e,x,C,E,n⟩:=UT (B:=B) 59 f (i+1) (i+1) Z Z;rw[n]at hl hn;simp only[Đ]at hn;cases j with
   |nil=>cases hl
   |cons y j=>
    rw[Þ,Þ]at hl;injection hl with ED Tk;let⟨F,v,w,G⟩:=acR ED;have H:kS B i a (B[i].toNat:Int)=Ä {a with r:=0,C:=[82]}:=by
     rw[q];have I:¬(0<a.r/\jj ((59:UInt8).toNat:Int)=È):=by simp[jj]
     unfold kS;rw[if_neg I];unfold jP;have g:pQ {a with r:=0} ((59:UInt8).toNat:Int)=Ä {a with r:=0,C:=[82]}:=by unfold pQ;rw[if_pos ⟨U,by show a.d.S.length+1<24;rw[kd.C];omega⟩]
     rcases s with k|k
     .simp only[k]at g|-;exact g
     .simp only[k]at g|-;exact g
    rw[jR,dif_pos u,H];let⟨z,g,I,J⟩:=UU f (i+1) (i+1) (D++[r]) {a with r:=0,C:=[82]} nO F _ x y j Z (Ì _) Z (by rw[Ā];exact⟨U,A,U,(λq=>by cases q),(λq=>by simp[nO]at q),Î ⟨rfl,rfl,t,rfl⟩⟩) n (by rwa[Ā]) w G Tk (by simp only[ã,Ĝ];omega);exact⟨z,g,I,by rw[J];simp⟩
  .rw[if_neg q]at hc;let⟨e,x,C,E,n⟩:=UT (B:=B) 59 f h (i+1) Z Z;rw[hc]at n;cases n;have p:(B.extract h e).size=e-h:=by rw[ø];omega
   have I:i-h<(B.extract h e).size:=Z
   have t:(B.extract h e)[i-h]=B[i]:=by rw[ń];congr 1;omega
   rw[show(B.extract h e).size-(i-h)=(B.extract h e).size-(i+1-h)+1 by omega,jR,dif_pos I,t,atl (B:=B) (o:=i) (λz=>by have:=(hs.M z).2;rw[Ņ];congr 1<;>omega)]at hr;have g:=atm (B:=B) (o:=i) hs (c:=B[i].toNat) λz=>q (by apply ÿ.1;show B[i].toNat=59;omega);cases s:kS B i b (B[i].toNat:Int)with
   |none=>
    rw[s]at hr;have:=congrArg ũ hr;simp only at this;omega
   |some y=>
    rw[s]at hr g;let⟨F,v,w⟩:=g.NO;rw[jR,dif_pos u,v];exact UU f h (i+1) D F y m _ l r j Z Z Z (by rwa[show i+1-h=i-h+1 by omega]) hc (by rw[show i+1-h=i-h+1 by omega];rwa[show i+1-h=i-h+1 by omega]at hr) hA nH hl hn
def atQ{Ps:List ByteArray}{b:List PR}(a:Ps.map gK=b.map λr=>(0,0,[r]))(f:∀P∈Ps,j0 P)(d:Ps≠[])(g:Ps.length<=24)(p:(jb ⟨#[59]⟩ Ps).size<=1200):gK (jb ⟨#[59]⟩ Ps)=(0,0,b):=by
 have h:=acJ d f;generalize jb ⟨#[59]⟩ Ps=B at*;match Ps,b,a,d with
 |P::l,r::ys,a,_=>
  rw[Þ,Þ]at a;injection a with h1 h2;let⟨i,j,k,m⟩:=acR h1;let⟨z,c,e,n⟩:=UU B.size 0 0 [] nO nO i P l r ys U (Ì _) (Ò _) ⟨U,A,U,(λ_=>rfl),(λq=>by simp[nO]at q),Î ⟨U,U,U,U⟩⟩ h j k m h2 (by simp at g|-;omega);have o:B.size≠0:=λq=>by rw[q]at c;have:nO=z:=congrArg Ř c;subst this;rcases e with w|w<;>cases w
  unfold gK lQ lC;rw[if_neg Z,if_neg o,c,n];rcases e with w|w<;>simp[w]
 |_::_,[],a,_=>cases a
end
def nh(T:ByteArray)(k:Nat)(l:List UInt8):Prop:=∃r,T.data.toList.drop k=l++r
section
variable{T:ByteArray}{st b:PS}{d:PD}{l a:List UInt8}{want:Int}{tl:List Int}
def nh.I(h:nh T k (l++a)):nh T k l:=by let⟨r,e⟩:=h;exact⟨a++r,by rw[e,ć]⟩
theorem nh.C(h:nh T k (l++a)):nh T (k+l.length) a:=by let⟨r,e⟩:=h;refine⟨r,?_⟩;grind [List.drop_drop,ć,List.drop_left]
def nh.atS{c:UInt8}(h:nh T k (c::l)):∃a:k<T.size,T[k]=c:=by
 let⟨r,e⟩:=h;have b:=congrArg (λx=>x[0]?) e;simp only[Ă,Nat.add_zero,Ù,ó]at b;let⟨x,d⟩:=ă.1 b;have a:k<T.size:=by rwa[Â]at x
 refine⟨a,?_⟩;rw[<-d,é];rfl
def nh.r{c:UInt8}(h:nh T k (c::l)):nh T (k+1) l:=nh.C (l:=[c]) h
theorem o7{c:UInt8}(h:nh T k (c::l))(a:kS T k st (c.toNat:Int)=Ä b):jR T (i+1) k st=jR T i (k+1) b:=by let⟨d,e⟩:=h.atS;grind [wB]
def An(d:PD):Prop:=(d.M=È->4<=d.N.c.length)/\(d.M=á->4<=d.I.c.length)
def acT(h:i<zQ.length)(z:Int):(zQ.set i z).getD i 0=z:=by simp[Ď,h]
theorem atT(c:want=110\/want=107)(z a:Int):(d.fQ want z).fQ want a=d.fQ want a:=by
 have b:∀i,(d.iu i z).iu i a=d.iu i a:=λi=>by unfold PD.iu PD.oD PD.oc;cases d.M<;>simp
 rcases c with rfl|rfl
 .exact b 2
 .exact b 3
theorem atU(h:An d)(b:want=110\/want=107)(z:Int):(d.fQ want z).G want=z:=by
 have a:∀i,i<4->(d.iu i z).tx i=z:=λi c=>by
  unfold PD.iu PD.tx;cases q:d.M with
  |true=>
   have:=h.1 q;simp only[if_true,PD.oD,q];exact acT Z z
  |false=>
   have:=h.2 q;simp only[Bool.false_eq_true,if_false,PD.oc,q];exact acT Z z
 rcases b with rfl|rfl
 .exact a 2 A
 .exact a 3 A
def tC(st:PS)(want:Int)(tl:List Int)(n:Nat):PS:={st with C:=tl,r:=if n=0 then 0 else 6-(Ģ n:Int),M:=want,d:=st.d.fQ want n}
def acU(h:n<10):(þ<|48+n).toNat=48+n:=by
 have a:∀k:_root_.Fin 10,(þ<|48+k.val).toNat=48+k.val:=A
 exact a ⟨n,h⟩
def UW:∀k n,n<10^(k+1)->Ģ n<=k+1
 |0,n,h=>by rw[Ĉ (by simpa using h)];exact Ì _
 |k+1,n,h=>by
  by_cases q:n<10
  .rw[Ĉ q];omega
  .have:=UW k (n/10) (by rw[Nat.pow_succ]at h;omega);rw[Ŀ q];omega
theorem atV(e:want=110\/want=107)(a:st.C=want::tl)(f:st.r=0)(h:n<10):kS T k st ((48+n:Nat):Int)=Ä (tC st want tl n):=by
 have g:jj ((48+n:Nat):Int)=È:=abk ⟨Z,Z⟩;have b:oZ want ((48+n:Nat):Int)=È:=by unfold oZ;grind
 have c:na want ((48+n:Nat):Int)=n:=by unfold na;grind
 have d:qw want ((48+n:Nat):Int)=if n=0 then 0 else 6-(Ģ n:Int):=by unfold qw;grind [Ĉ]
 unfold kS;rw[if_neg Z];unfold jP;simp only[a];rw[if_neg Z,if_neg Z,if_neg Z,if_neg Z,if_pos b];unfold oe tC;rw[c,d]
theorem atW(f:An st.d)(g:want=110\/want=107)(b:n<1000000)(h:¬n<10):kS T k (tC st want tl<|n/10) ((48+n%10:Nat):Int)=Ä (tC st want tl n):=by
 have c:jj ((48+n%10:Nat):Int)=È:=abk ⟨Z,Z⟩;have i:=Ŀ h;have j:=UW 5 n b;have a:(tC st want tl<|n/10).r=6-(Ģ (n/10):Int):=if_neg Z;have l:pP ((n/10:Nat):Int) ((48+n%10:Nat):Int)=n:=by unfold pP;grind [IntWalk.i64_in]
 unfold kS;rw[if_pos ⟨by rw[a];omega,c⟩];unfold Cv;rw[a];have e:(tC st want tl<|n/10).d.fQ (tC st want tl<|n/10).M (pP ((tC st want tl<|n/10).d.G (tC st want tl<|n/10).M) ((48+n%10:Nat):Int))=st.d.fQ want n:=by show(st.d.fQ want ((n/10:Nat):Int)).fQ want (pP ((st.d.fQ want ((n/10:Nat):Int)).G want) _)=_;grind [atU,atT]
 rw[e];unfold tC;grind
def UX(j:An st.d)(b:want=110\/want=107)(m:st.C=want::tl)(o:st.r=0):∀n,n<1000000->nh T k (fJ n).data.toList->∀i,jR T (i+(fJ n).size) k st=jR T i (k+(fJ n).size) (tC st want tl n):=by
 intro n
 induction n using Ľ with
 |_ n p=>
  intro q f i;by_cases h:n<10
  .have e:(fJ n).data.toList=[þ<|48+n]:=by rw[Nf h,Fs h]
   have a:(fJ n).size=1:=by rw[Nf h,Fs h];rfl
   rw[e]at f;rw[a];apply o7 f;rw[acU h];exact atV b m o h
  .have r:=UL h;have e:nh T k ((fJ<|n/10).data.toList++(yo<|n%10).data.toList):=by
    simp_all
   have a:(fJ n).size=(fJ<|n/10).size+1:=by rw[r,Æ,Fs Z];rfl
   rw[a,show i+((fJ<|n/10).size+1)=i+1+(fJ<|n/10).size by omega,p (n/10) Z Z e.I<|i+1];have g:=e.C;rw[Â,Fs Z]at g;rw[<-Nat.add_assoc];apply o7 (c:=þ<|48+n%10) (l:=[]) g;rw[acU Z];exact atW j b q h
end
section
variable{T:ByteArray}{st a:PS}{d:PD}{l b:List UInt8}{want:Int}{tl:List Int}{N K:Nat}
def atX(h:An d)(e:want=110\/want=107)(z:Int):An (d.fQ want z):=by
 have b:∀i,An (d.iu i z):=λi=>by
  unfold PD.iu;split
  .rename_i q;exact⟨λ_=>by show 4<=(d.N.c.set i z).length;rw[ŀ];exact h.1 q,λa=>absurd q<|by rw[show d.M=á from a];decide⟩
  .rename_i q;exact⟨λa=>absurd a q,λa=>by show 4<=(d.I.c.set i z).length;rw[ŀ];exact h.2 a⟩
 rcases e with rfl|rfl
 .exact b 2
 .exact b 3
def UY{c:UInt8}(h:nh T k (c::l))(b:st.C=(c.toNat:Int)::tl)(a:c=44\/c=41):jR T (i+1) k st=jR T i (k+1) {st with C:=tl,r:=0,M:=(c.toNat:Int)}:=by refine o7 h ?_;unfold kS;rw[if_neg (by rcases a with rfl|rfl<;>simp[jj])];unfold jP;simp only[b];rcases a with rfl|rfl<;>rfl
def atY(e:An st.d)(f:st.C=[110,44,107,41])(g:st.r=0)(i:N<1000000)(j:K<1000000)(h:nh T k ((fJ N).data.toList++44::((fJ K).data.toList++[41])))(n:T.size=k+((fJ N).size+1+(fJ K).size+1)): ∃z,jR T (T.size-k) k st=(T.size,z)/\z.C=[]/\z.d=(st.d.fQ 110 N).fQ 107 K:=by
 have l:(fJ N).data.toList.length=(fJ N).size:=by rw[Â];rfl
 have m:(fJ K).data.toList.length=(fJ K).size:=by rw[Â];rfl
 have a:=h.C;have b:=a.r;have c:=b.C;rw[l]at a b c;rw[m]at c;rw[show T.size-k=0+1+(fJ K).size+1+(fJ N).size by omega,UX e (Î U) f g N i h.I,UY a (st:=tC st 110 [44,107,41] N) (tl:=[107,41]) U<|Î U,UX (want:=107) (tl:=[41]) (atX e (Î U) _) (û U) U U K j b.I,UY c (tl:=[]) U<|û U];refine⟨_,ŗ ?_ U,U,U⟩;show k+(fJ N).size+1+(fJ K).size+1=T.size;omega
def atZ(b:An st.d)(c:st.C=[107,41])(e:st.r=0)(f:K<1000000)(h:nh T k ((fJ K).data.toList++[41]))(i:T.size=k+((fJ K).size+1)): ∃z,jR T (T.size-k) k st=(T.size,z)/\z.C=[]/\z.d=st.d.fQ 107 K:=by
 have g:(fJ K).data.toList.length=(fJ K).size:=by rw[Â];rfl
 have a:=h.C;rw[g]at a;rw[show T.size-k=0+1+(fJ K).size by omega,UX (want:=107) (tl:=[41]) b (û U) c e K f h.I,UY a (tl:=[]) U<|û U];refine⟨_,ŗ ?_ U,U,U⟩;show k+(fJ K).size+1=T.size;omega
def Ao(h:n<1000000):(fJ n).size<=6:=by unfold fJ;rw[ù,å,Lib.decDigits_length];exact UW 5 n h
theorem acV{z:PS}{r:PR}(h:lC T=(T.size,z))(a:z.C=[])(b:z.d.C=[r])(c:T.size<=1200)(e:T.size≠0):gK T=(0,0,[r]):=by unfold gK lQ;grind
def cT(N K:Nat):ByteArray:=⟨(99::49::58::99::62::98::40::((fJ N).data.toList++44::((fJ K).data.toList++[41]))).toArray⟩
def mT(K:Nat):ByteArray:=⟨(109::49::58::99::62::98::40::((fJ K).data.toList++[41])).toArray⟩
def acW{l:List UInt8}:nh ⟨l.toArray⟩ 0 l:=⟨[],fj⟩
theorem at0(b:N<1000000)(c:K<1000000):gK (cT N K)=(0,0,[⟨[2,1,N,K,4,1,0,0],[]⟩]):=by
 have h:(fJ N).data.toList.length=(fJ N).size:=by rw[Â];rfl
 have i:(fJ K).data.toList.length=(fJ K).size:=by rw[Â];rfl
 have d:(cT N K).size=7+((fJ N).size+1+(fJ K).size+1):=by unfold cT;rw[ù,å];grind
 have a:nh (cT N K) 0 _:=acW;have j:=Ao b;have l:=Ao c;let⟨z,e,f,g⟩:=atY (T:=cT N K) (k:=7) (st:=⟨[110,44,107,41],0,0,40,⟨[],È,⟨[2,1,0,0,4,1,0,0],[]⟩,á,⟨[],⟨#[]⟩⟩⟩⟩) ⟨(λq=>by cases q),λ_=>(by show 4<=8;decide)⟩ U U b c a.r.r.r.r.r.r.r d;refine acV (z:=z) ?_ f (by rw[g];rfl) Z Z;unfold lC;rw[<-e,show(cT N K).size=(cT N K).size-7+1+1+1+1+1+1+1 by omega];rw[o7 a U,o7 a.r U,o7 a.r.r U,o7 a.r.r.r U,o7 a.r.r.r.r U,o7 a.r.r.r.r.r U,o7 a.r.r.r.r.r.r U];rfl
theorem at5(b:K<1000000):gK (mT K)=(0,0,[⟨[2,1,0,K,5,1,0,0],[]⟩]):=by
 have g:(fJ K).data.toList.length=(fJ K).size:=by rw[Â];rfl
 have c:(mT K).size=7+((fJ K).size+1):=by unfold mT;rw[ù,å];grind [Đ,ã,Ł]
 have a:nh (mT K) 0 _:=acW;have h:=Ao b;let⟨z,d,e,f⟩:=atZ (T:=mT K) (k:=7) (st:=⟨[107,41],0,0,40,⟨[],È,⟨[2,1,0,0,5,1,0,0],[]⟩,á,⟨[],⟨#[]⟩⟩⟩⟩) ⟨(λq=>by cases q),λ_=>(by show 4<=8;decide)⟩ U U b a.r.r.r.r.r.r.r c;refine acV (z:=z) ?_ e (by rw[f];rfl) Z Z;unfold lC;rw[<-d,show(mT K).size=(mT K).size-7+1+1+1+1+1+1+1 by omega];rw[o7 a U,o7 a.r U,o7 a.r.r U,o7 a.r.r.r U,o7 a.r.r.r.r U,o7 a.r.r.r.r.r U,o7 a.r.r.r.r.r.r U];rfl
end
end Go.Proofs.Y.mZ
namespace Go.Proofs.Y.kH
open Go Go.Conc Go.Proofs Go.RowKit Go.Proofs.Y.Lift Go.Proofs.Y.gy Go.Proofs.Y.ft Go.Proofs.Y.mZ
open Go.Conc.Lib Go.ConcR.Gen Go.Proofs.YtgpphkdoanciiaaGreatDoor
def mM(p:ByteArray):fI:=(CN (rP p) gy.jv).getD gy.jv
def at6(p:ByteArray):CN (rP p) gy.jv=Ä (mM p):=fp
def at7(p:ByteArray):((mM p).s 2).fv=1000:=fp
def aua(p:ByteArray):(mM p).h=1:=fp
def acX{p:ByteArray}(h:gK (iu p)=(0,0,[rP p])):lR [gy.jv] (iu p)=(⟨#[49]⟩,0,[gy.jv,mM p]):=by rw[atN h U U (v0:=gy.jv) U A,at6];rfl
section
variable{N K:Nat}{p:ByteArray}
def u5(N K:Nat):List ByteArray:=[⟨#[114,49]⟩,cT N K,mT K,⟨#[114,49]⟩,cT N K,mT K,⟨#[100,49,58,104]⟩,⟨#[98,49,58,99]⟩]
def Nl(N K:Nat):List PR:=[⟨[0,0,0,0,6,1,0,0],[]⟩,⟨[2,1,N,K,4,1,0,0],[]⟩,⟨[2,1,0,K,5,1,0,0],[]⟩,⟨[0,0,0,0,6,1,0,0],[]⟩,⟨[2,1,N,K,4,1,0,0],[]⟩,⟨[2,1,0,K,5,1,0,0],[]⟩,⟨[0,0,0,0,9,1,-1,0],[]⟩,⟨[2,0,0,0,3,1,0,0],[]⟩]
def aub:gK ⟨#[114,49]⟩=(0,0,[⟨[0,0,0,0,6,1,0,0],[]⟩]):=fp
def auc:gK ⟨#[100,49,58,104]⟩=(0,0,[⟨[0,0,0,0,9,1,-1,0],[]⟩]):=fp
def aud:gK ⟨#[98,49,58,99]⟩=(0,0,[⟨[2,0,0,0,3,1,0,0],[]⟩]):=fp
theorem acY:j0 (cT N K):=by unfold j0 at*;simp[cT,Fv N,Fv K]
def acZ:j0 (mT K):=by unfold j0 at*;simp[mT,Fv K]
theorem ac0(a:N<1000000)(b:K<1000000):(cT N K).size<=21:=by
 have c:=Ao a;have d:=Ao b;have e:(fJ N).data.toList.length=(fJ N).size:=by rw[Â];rfl
 have f:(fJ K).data.toList.length=(fJ K).size:=by rw[Â];rfl
 unfold cT;rw[ù,å];grind
def ac1(a:K<1000000):(mT K).size<=21:=by
 have c:=Ao a;have b:(fJ K).data.toList.length=(fJ K).size:=by rw[Â];rfl
 unfold mT;rw[ù,å];simp only[Đ,ã,b,Ł];omega
def ac2(b:N<1000000)(a:K<1000000):(jb ⟨#[59]⟩<|u5 N K).size<=1200:=by
 have c:=M9 ⟨#[59]⟩ U<|u5 N K;have d:=ac0 b a;have e:=ac1 a;have f:iL (u5 N K)=2+(cT N K).size+(mT K).size+2+(cT N K).size+(mT K).size+4+4:=by show 2+((cT N K).size+((mT K).size+(2+((cT N K).size+((mT K).size+(4+(4+0)))))))=_;omega
 have g:(u5 N K).length=8:=U;omega
def aue(b:N<1000000)(a:K<1000000):gK (jb ⟨#[59]⟩<|u5 N K)=(0,0,Nl N K):=by
 refine atQ ?_ (λP c=> ?_) (by simp[u5]) (by simp[u5])<|ac2 b a
 .simp only[u5,Nl,Þ,Ĕ,aub,auc,aud,at0 b a,at5 a]
 .simp only[u5,ý,č,or_false]at c;rcases c with rfl|rfl|rfl|rfl|rfl|rfl|rfl|rfl
  .decide
  .exact acY
  .exact acZ
  .decide
  .exact acY
  .exact acZ
  .decide
  .decide
def I4(v:fI)(N K:Nat):List ByteArray:=[Ab<|ya v.s,Co<|gk v.s [] 2 1 N K,oC v.s 2 1 K 0 401,Ab<|ya v.s,Co<|gk v.s [] 2 1 N K,oC v.s 2 1 K 0 401,⟨#[45]⟩,⟨#[49,48,48,48]⟩]
def auf:fJ 1000=⟨#[49,48,48,48]⟩:=fp
def aug(f:N<=400)(a:K<1000000)(p:ByteArray):lR [gy.jv,mM p] (jb ⟨#[59]⟩<|u5 N K)=(jb ⟨#[59]⟩<|I4 (mM p) N K,0,[gy.jv,mM p]):=by
 rw[ato (aue Z a) (by simp[Nl])];have b:ma (mY [gy.jv,mM p]) 1=Ä (0,mM p):=acP (n:=1) U;have c:ma (mY [gy.jv,mM p]) (-1)=Ä (0,mM p):=by unfold ma mY;rw[if_pos U];simp only[Þ,Ĕ,ó,ė,tq,List.foldl,yb,aua];rfl
 apply congrArg λl=>(jb ⟨#[59]⟩ l,(0:Int),[gy.jv,mM p]);have l:Cp []=⟨#[45]⟩:=if_pos U;have d:=at7 p;generalize mM p=v at*;have e:¬400<N:=Z
 simp only[Nl,I4,Þ,Ĕ,re,toQn,List.getD_cons_zero,List.getD_cons_succ,b,c,Cq,atO,l];simp[d,e,auf]
end
section
variable{l:e9}
def auh(h:gL l)(p:nB<=l.w.heap.size)(r:B.size<=ê) (s:∀a,gL a->(∀b,l.O b->a.O b/\a.w.heap[b]?=l.w.heap[b]?)->l.w.heap.size<=a.w.heap.size->iM vQ a (G (f.at (y.put ((Q[i]?).bind (·.dst))<|ŝ #[Ë Ð (gK B).1,Ë Ð (gK B).2.1])<|Ç Q jJ::L) qX)): iM vQ l (G (Ê À 25 #[Á B] ä)<|f.at y (Ç Q (i::jJ)::L)::qX):=by
 have hF:=trivial;rw[enter_at #[Á B] Ĺ U];have e:(#[Á B]++Array.replicate (Tryz.f25.ntmps-(#[Á B]:Array Ñ).size) ö:Array Ñ)=#[Á B,ö,ö,ö,ö,ö,ö,ö,ö,ö,ö,ö,ö,ö,ö]:=fp
 rw[e];clear e;apply mA;apply fP (n:=20) h.r.r;repeat w_go fu
 refine Ã λ_ _=> ?_;refine wy (f:=36) (args:=#[Á B]) U fN (by k_ne) h.r.r (λw=>by go_simp) (λw=>É U Tryz.func36 U U #[]) λx c=> ?_;have j:=h.C c;refine ft.fh.lD ?_<|abV j.r j.q (Å p c.r) r È _ _;rintro o z ⟨d,t,v,rfl,_⟩;have k:=jy.xH j d t;have m:∀b,l.O b->o.O b/\o.w.heap[b]?=l.w.heap[b]?:=λb q=>⟨d.O b q,(d.r.I b<|Î q).trans<|c.I b<|Î q⟩;have u:=Å c.r d.r.r;rw[Ě];generalize(gK B).1=er at*;generalize(gK B).2.1=UH at*;walk_nrm;apply fP (n:=40) k.r.r;repeat w_go fu
 u_in fu hF
 refine Ŗ U U Ĺ U ⟨by u_nil,?_⟩;refine Ã λ_ _=> ?_;exact .fA λC g=>⟨k.C g,U,s _ (k.C g) (λb q=>⟨(m b q).1,(g.I b<|Î (m b q).1).trans (m b q).2⟩)<|Å u g.r⟩
end
noncomputable def Nn:ű:=(Tryz.f16.body.bind gy.kt).getD .skip
def CO(B:ByteArray)(c:UInt8)(r:Bool)(i:Int)(u:Nat->Ñ):ł:=⟨#[Á B,Ë Ū c.toNat,u 2,u 3,Ó r,Ë Ð i,u 6,u 7,u 8,u 9,u 10,u 11,u 12,u 13,u 14,u 15,u 16],[]⟩
def Ap(B:ByteArray)(c:UInt8)(r:Bool)(i:Int)(a:ł):Prop:=∃u,a=CO B c r i u
section
variable{Y:ł->Ô->Prop}{c:UInt8}
def aui(u:Nat->Ñ)(b:∀a,Ap B c á B.size a->H a w):ĕ À Nn (Exit.then K<|QN H Y) (CO B c á B.size u) w:=by
 unfold CO;conv=>arg 2;whnf
 go_wp2_with fail
 exact b _ (gy.gi _)
theorem auj(u:Nat->Ñ)(i:Nat)(j:i<B.size)(e:B.size<=ê)(f:B[i]≠c->∀a,Ap B c á ((i+1:Nat):Int) a->K a w)(g:B[i]=c->∀a,Ap B c È i a->Y a w):ĕ À Nn (Exit.then K<|QN H Y) (CO B c á i u) w:=by
 unfold CO;conv=>arg 2;whnf
 have k:Ð.wrap ((i:Int)+1)=((i+1:Nat):Int):=by unfold ê at e;exact IntWalk.i64_in _ ⟨Z,Z⟩
 have b:=fc<|ñ f g;clear f g e;by_cases d:B[i]=c
 .have h:((B[i].toNat:Int)==(c.toNat:Int))=È:=by rw[d];simp
  go_wp2_with fail
  exact b.out.2 d _ (gy.gi _)
 .have h:((B[i].toNat:Int)==(c.toNat:Int))=á:=by
   grind [ÿ]
  go_wp2_with fail
  exact b.out.1 d _ (gy.gi _)
def UZ(B:ByteArray)(c:UInt8)(yQ:Bool)(u:Ô)(a:ł)(w:Ô):Prop:=∃i:Nat,Ap B c á i a/\i<=B.size/\decide (c∈B.data.toList.drop i)=yQ/\w=u
def HsE(B:ByteArray)(c:UInt8)(yQ:Bool)(u:Ô)(a:ł)(w:Ô):Prop:=Ap B c á B.size a/\yQ=á/\w=u
def HsR(B:ByteArray)(c:UInt8)(yQ:Bool)(u:Ô)(a:ł)(w:Ô):Prop:=∃i:Nat,Ap B c È i a/\yQ=È/\w=u
def xY(B:ByteArray)(a:ł)(_:Ô):Nat:=match a.tmps.getD 5 ö with
 |Ë _ i=>B.size-i.toNat
 |_=>0
def Ib{r:Bool}(b:Ap B c r i y):xY B y w=B.size-i:=by obtain⟨u,rfl⟩:=b;show B.size-(i:Int).toNat=_;simp
theorem auk(h:B.size<=ê)(a:ł)(w:Ô)(j:UZ B c yQ u a w): ĕ À Nn (Exit.then (λb d=>UZ B c yQ u b d/\xY B b d<xY B a w)<|QN (HsE B c yQ u)<|HsR B c yQ u) a w:=by
 let⟨i,e,n,f,d⟩:=j;rw[Ib e];obtain⟨b,rfl⟩:=e;by_cases l:i=B.size
 .subst l;refine aui b λa q=>⟨q,?_,d⟩;rw[<-f,Ė (by rw[Â];exact Ì _)];rfl
 .have g:i<B.size:=Z
  have m:i<B.data.toList.length:=by rwa[Â]
  rw[Ą m,show B.data.toList[i]=B[i] by rw[é];rfl]at f;refine auj b i g h (λq a k=>⟨⟨i+1,k,Z,?_,d⟩,by rw[Ib k];omega⟩) λq a k=>⟨i,k,?_,d⟩;all_goals grind
def aul(B:ByteArray)(c:UInt8)(d:B.size<=ê)(w:Ô):ū À 16 #[Á B,Ë Ū c.toNat] w λe f=>e=Ē (Ó<|decide<|c∈B.data.toList)/\f=w:=by
 have L:∀a,Ap B c á (0:Nat) a->ĕ À (Ť Nn) (QN (HsE B c (decide<|c∈B.data.toList) w)<|HsR B c (decide<|c∈B.data.toList) w) a w:=λa g=>
  wp_loop (UZ B c (decide<|c∈B.data.toList) w) (xY B) ⟨0,g,Ò _,U,U⟩<|auk d
 have H:=fc L;generalize decide (c∈B.data.toList)=yQ at*;clear L;go_enter ř,Tryz.ntmps16;go_wp2_with fail;refine ŋ ?_ (H.out _ (gy.gi _));rintro(_|(_|_)|_|_|_|_) a v hq;all_goals first|exact absurd hq id|skip
 .obtain⟨b,rfl,rfl⟩:=hq;obtain⟨u,rfl⟩:=b;unfold CO;go_wp2_with fail;go_ret;exact⟨U,U⟩
 .obtain⟨i,b,rfl,rfl⟩:=hq;obtain⟨u,rfl⟩:=b;unfold CO;go_ret;exact⟨U,U⟩
end
def aum{l:e9}(e:gL l)(f:nB<=l.w.heap.size)(c:UInt8)(g:B.size<=ê)(a:ĝ)(b:List ĝ): ft.fh À È (λh u=>jy l h/\h.d=l.d/\u=G (a.finish<|Ó<|decide<|c∈B.data.toList) b) l (G (Ê À 16 #[Á B,Ë Ū c.toNat] ä)<|a::b):= I1 e f fN (λu h=>by simp at h;rcases h with rfl|rfl;exact .kJ _;exact .iD _ _) (λh=>by cases h;rfl) (aul B c g) È a b
def aun{T:ByteArray}(w:Ô)(h:B.size+T.size<=10^15):Sem.events À (Go.Op.stringOp BinOp.add B T) w #[]=#[]:=by
 have a:¬ê<B.size+T.size:=by unfold ê;omega
 simp[go_sem,Op.stringOp,a]
def oI{J:Jd}{l:e9}{b:Frame}{a:Act}{ops:Array Oper}{i:Nat}{rest:List Nat}{k:List Item}{cs:List Frame}{o:Oper}{x y:Operand}(S T U:ByteArray)(hb:gL l)(hU:S++T=U)(h:S.size+T.size<=10^15)(hn:ft.fh Tryz.prog true J l (G (b.at (a.put o.dst<|.string U)<|.inRegion ops rest::k) cs)) (ho:ops[i]?=some o:=by rfl) (qC:o.op=.binOp .add 9 x y 9:=by rfl) (hx:a.eval x=.string S:=by rfl) (hy:a.eval y=.string T:=by rfl) (hw:Region.wanted o (yielded ops a.tmps)=true:=by rfl) (hk:b.kind≠.early:=by k_ne): ft.fh Tryz.prog true J l (G (b.at a<|.inRegion ops (i::rest)::k) cs):=by
 subst hU;have h2:¬9223372036854775807<S.size+T.size:=Z
 refine nF (v:=Á<|S++T) ho hw hk hb.r.r hb.q (λw _=> ?_) (λw _ e he=> ?_) hn
 .let⟨d,p,t,q,af,g⟩:=o;simp only at qC;subst qC;simp only[Ī,hx,hy];go_simp
 .let⟨d,p,t,q,af,g⟩:=o;simp only at qC;subst qC;simp only[Ī,hx,hy]at he;simp[go_sem,aun w h]at he
section
variable{l a:e9}{s c:List fI}{S p:ByteArray}
def ac3(h:j1 X W l j b s)(d:gL l)(o:B.size<=ê)(p:lR s B=(S,0,c)) (q:∀a,gL a->j1 X W a j b c->iM vQ a (G (f.at (y.put ((Q[i]?).bind (·.dst))<|Ó È)<|Ç Q jJ::L) qX)): iM vQ l (G (Ê À 20 #[Ï<|Ä ⟨j,0,Ü⟩,Á B,Á S] ä)<|f.at y (Ç Q (i::jJ)::L)::qX):=by
 have hF:True:=trivial;rw[wx [_,_,_] 19 ģ];simp only[ë,Ù,Ö];conv in kY _ _=>whnf
 apply mA;apply fP (n:=60) d.r.r;repeat w_go fu
 refine Ã λ_ _=> ?_;refine .fA λu e=>⟨d.C e,U,?_⟩;have m:=d.C e;refine ym (f:=17) (args:=#[Ï<|Ä ⟨j,0,Ü⟩,Á B]) m U fN (by k_ne) (λw=>by go_simp) (λw=>É U ŕ U U #[]) λr w=> ?_;refine acN ((h.r e).r w) (m.C w) o λv g k=> ?_;rw[p]at k|-;dsimp only at k|-;walk_nrm;apply mA;apply fP (n:=60) g.r.r;repeat w_nl fu
 u_in fu hF
 refine Ć (t:=6) U U ģ U ⟨by u_nil,?_⟩;refine Ã λ_ _=> ?_;exact .fA λr w=>⟨g.C w,U,q _ (g.C w)<|k.r w⟩
def ac4(r:gL l)(E:mK l.w)(F:∀d,d=1\/d=2\/d=3\/d=4->l.O d)(hp:p.size<=10^14*2)(k:Int)(M:-9223372036854775808<=k)(N:k<=9223372036854775807)(x:lR [gy.jv] (iu p)=(⟨#[49]⟩,0,c)) (P:∀a j b,gL a->j1 l.O l.w a j b c->l.w.heap.size<=j->iM vQ a (G (f.at (y.put ((Q[i]?).bind (·.dst))<|Ï<|Ä ⟨j,0,Ü⟩)<|Ç Q jJ::L) qX)): iM vQ l (G (Ê À 27 #[Á p,Ë Ð k] ä)<|f.at y (Ç Q (i::jJ)::L)::qX):=by
 have hF:True:=trivial;rw[wx [_,_] 17 Ĥ];simp only[ë,Ù,Ö];conv in kY _ _=>whnf
 apply mA;apply fP (n:=40) r.r.r;repeat w_go fu
 refine Ã λ_ _=> ?_;refine .fA λw₁ z=>⟨r.C z,U,?_⟩;have H:=r.C z;refine ym (f:=15) (args:=#[Ë Ð k]) H U fN (by k_ne) (λw=>by go_simp) (λw=>É U Tryz.func15 U U #[]) λI g=> ?_;have s:fE l l.w I:=z.fe ⟨g.r,g.I,g.N,g.Y,g.S⟩;refine asS (H.C g) (E.r (Å E.fw s.r) λd q=>s.I d<|Î<|F d q) F k M N λS j b W V h m=> ?_;have X:l.w.heap.size<=j:=Å s.r m.I;have J:j1 l.O l.w S j b [gy.jv]:=⟨⟨W,V,m.r⟩,λd q=>⟨⟨(m.C d q).1,(m.C d q).2.trans<|s.I d<|Î q⟩,by have:=r.r.fw d<|Î q;omega⟩⟩;clear m;obtain⟨o,B⟩:∃T,(⟨#[105,48,58,97,47,98,123]⟩++p:ByteArray)=T:=⟨_,U⟩;obtain⟨u,C⟩:∃T,(o++⟨#[125]⟩:ByteArray)=T:=⟨_,U⟩;have Y:o.size=7+p.size:=by rw[<-B,Æ];rfl
 have z2:u.size=7+p.size+1:=by rw[<-C,Æ,Y];rfl
 have e2:iu p=u:=by rw[<-C,<-B];rfl
 rw[e2]at x;walk_nrm;apply mA;apply fP (n:=40) h.r.r;repeat w_go fu
 refine Ã λ_ _=> ?_;apply nF (v:=Ó á) U fN (by k_ne) h.r.r h.q (λw _=>by go_simp) (λw _ e D=>by simp[go_sem,Na]at D);walk_nrm;apply fP (n:=60) h.r.r;repeat w_nl fu
 refine Ã λ_ _=> ?_;refine oI ⟨#[105,48,58,97,47,98,123]⟩ p o h B (by show 7+p.size<=_;omega) ?_;walk_nrm;refine oI o ⟨#[125]⟩ u h C (by show o.size+1<=_;omega) ?_;walk_nrm;refine .fA λace e=>⟨h.C e,U,?_⟩;refine ym (f:=20) (args:=#[Ï<|Ä ⟨j,0,Ü⟩,Á u,Á ⟨#[49]⟩]) (h.C e) U fN (by k_ne) (λw=>by go_simp) (λw=>É U ģ U U #[]) λrO K=> ?_;refine ac3 ((J.r e).r K) ((h.C e).C K) (by unfold ê;omega) x λl6 D u6=> ?_;clear J x;walk_nrm;apply mA;apply fP (n:=60) D.r.r;repeat w_nl fu
 u_in fu hF
 refine Ć (t:=4) U U Ĥ U ⟨by u_nil,?_⟩;refine Ã λ_ _=> ?_;exact .fA λI g=>⟨D.C g,U,P _ _ _ (D.C g) (u6.r g) X⟩
end
def sB(c:Int)(n:Nat):Nat:=((if c<0 then-(c+1)else c)%(n:Int)).toNat
def U0(c:Int)(h:0<n):sB c n<n:=by unfold sB;have a:=Int.emod_lt_of_pos (if c<0 then-(c+1)else c) (show(0:Int)<n by omega);have b:=ě (if c<0 then-(c+1)else c) (show(n:Int)≠0 by omega);omega
def ac5(c:Int)(f:-9223372036854775808<=c)(g:c<=9223372036854775807)(i:0<n)(j:n<=1000000)(w:Ô):ū À 30 #[Ë Ð c,Ë Ð n] w λe d=>e=Ē (Ë Ð<|sB c n)/\d=w:=by
 have k:((n:Int)==0)=á:=by simp;omega
 have b:(n:Int)≠0:=Z
 unfold sB;by_cases h:c<0
 .rw[if_pos h];have a:=ě (-(c+1)) b;have e:-(c+1).tmod n=(-(c+1))%n:=by rw[<-Int.neg_tmod,è Z]
  have H:=fc<|ñ e.symm a;clear e a;go_enter ĺ,ō;go_wp2;go_ret;exact⟨by rw[Int.toNat_of_nonneg H.out.2,H.out.1];rfl,U⟩
 .rw[if_neg h];have a:=ě c b;have e:c.tmod n=c%n:=è Z;have H:=fc<|ñ e.symm a;clear e a;go_enter ĺ,ō;go_wp2;go_ret;exact⟨congrArg (λz=>Ē<|Ë Ð z) (Int.max_eq_left H.out.2).symm,U⟩
def auo(c:Int)(b:-9223372036854775808<=c)(d:c<=9223372036854775807)(w:Ô):ū À 29 #[Ë Ð c] w λe a=>e=Ē (Á<|fJ<|sB c 1000000)/\a=w:=by
 have g:=U0 c (n:=1000000) A;have h:ħ.wrap ((sB c 1000000:Nat):Int)=(sB c 1000000:Nat):=by rw[Ĵ];omega
 have H:=fc<|ñ (ac5 c b d (n:=1000000) A A w)<|acC (sB c 1000000) Z w;generalize sB c 1000000=m at*;go_enter Ś,Tryz.ntmps29;go_wp2_with (first|(go_at_call 30;refine H.out.1.mono ?_;rintro e a ⟨rfl,f⟩;subst a)|(go_at_call 21;refine H.out.2.mono ?_;rintro e a ⟨rfl,f⟩;subst a));go_ret;exact⟨U,U⟩
section
variable{l a:e9}{s o:List fI}{p:ByteArray}{g:ĝ}
def aup(b:gL l)(e:nB<=l.w.heap.size)(c:Int)(f:-9223372036854775808<=c)(i:c<=9223372036854775807)(j:0<n)(k:n<=1000000): ft.fh À È (λa h=>jy l a/\a.d=l.d/\h=G (g.finish<|Ë Ð<|sB c n) qX) l (G (Ê À 30 #[Ë Ð c,Ë Ð n] ä)<|g::qX):= I1 b e fN (λu h=>by simp at h;rcases h with rfl|rfl<;>exact .iD _ _) (λh=>by cases h;rfl) (ac5 c f i j k) È g qX
def auq(b:gL l)(e:nB<=l.w.heap.size)(c:Int)(f:-9223372036854775808<=c)(i:c<=9223372036854775807): ft.fh À È (λa h=>jy l a/\a.d=l.d/\h=G (g.finish<|Á<|fJ<|sB c 1000000) qX) l (G (Ê À 29 #[Ë Ð c] ä)<|g::qX):= I1 b e fN (λu h=>by simp at h;subst h;exact .iD _ _) (λh=>by cases h;rfl) (auo c f i) È g qX
def aur(b:gL l)(c:nB<=l.w.heap.size)(e:n<18446744073709551616): ft.fh À È (λa h=>jy l a/\a.d=l.d/\h=G (g.finish<|Á<|fJ n) qX) l (G (Ê À 21 #[Ë ħ n] ä)<|g::qX):= I1 b c fN (λu h=>by simp at h;subst h;exact .iD _ _) (λh=>by cases h;rfl) (acC n e) È g qX
def aus(d:gL l)(B:nB<=l.w.heap.size)(V:p.size<=10^14*2) (e:∀a,gL a->(∀b,l.O b->a.O b/\a.w.heap[b]?=l.w.heap[b]?)->l.w.heap.size<=a.w.heap.size->iM vQ a (G (f.at (y.put ((Q[i]?).bind (·.dst))<|Ó<|decide ((gK<|iu p).1=0)&&!decide (125∈p.data.toList))<|Ç Q jJ::L) qX)): iM vQ l (G (Ê À 28 #[Á p] ä)<|f.at y (Ç Q (i::jJ)::L)::qX):=by
 have hF:True:=trivial;obtain⟨k,u⟩:∃T,(⟨#[105,48,58,97,47,98,123]⟩++p:ByteArray)=T:=⟨_,U⟩;obtain⟨g,v⟩:∃T,(k++⟨#[125]⟩:ByteArray)=T:=⟨_,U⟩;have M:k.size=7+p.size:=by rw[<-u,Æ];rfl
 have W:g.size=7+p.size+1:=by rw[<-v,Æ,M];rfl
 have N:iu p=g:=by rw[<-v,<-u];rfl
 rw[N]at e;rw[wx [_] 20 ĥ];simp only[ë,Ù,Ö];conv in kY _ _=>whnf
 apply mA;apply fP (n:=60) d.r.r;repeat w_go fu
 refine Ã λ_ _=> ?_;refine oI ⟨#[105,48,58,97,47,98,123]⟩ p k d u (by show 7+p.size<=_;omega) ?_;walk_nrm;refine oI k ⟨#[125]⟩ g d v (by show k.size+1<=_;omega) ?_;walk_nrm;refine .fA λX m=>⟨d.C m,U,?_⟩;refine ym (f:=25) (args:=#[Á g]) (d.C m) U fN (by k_ne) (λw=>by go_simp) (λw=>É U Ĺ U U #[]) λC c=> ?_;have D:=Å m.r c.r;refine auh ((d.C m).C c) (Å B D) (by unfold ê;omega) λP s F H=> ?_;obtain⟨E,S⟩:∃E,(gK g).1=E:=⟨_,U⟩;rw[S]at e|-;generalize(gK g).2.1=UH;walk_nrm;apply mA;apply fP (n:=60) s.r.r;repeat w_nl fu
 refine Ã λ_ _=> ?_;refine wy (f:=16) (args:=#[Á p,Ë Ū 125]) U fN (by k_ne) s.r.r (λw=>by go_simp) (λw=>É U ř U U #[]) λY o=> ?_;have I:l.w.heap.size<=P.w.heap.size:=Å D H;refine ft.fh.lD ?_ (aum (s.C o) (Å B<|Å I o.r) 125 (by unfold ê;omega) _ _);rintro x g5 ⟨r,J,rfl⟩;have h:=jy.xH (s.C o) r J;have j:∀b,l.O b->x.O b/\x.w.heap[b]?=l.w.heap[b]?:=λb q=>by let⟨z,K⟩:=F b q;exact⟨r.O b z,(r.r.I b<|Î z).trans<|(o.I b<|Î z).trans<|K.trans<|(c.I b<|Î q).trans<|m.I b<|Î q⟩
 have K:l.w.heap.size<=x.w.heap.size:=Å I<|Å o.r r.r.r;rw[Ě];generalize decide (125∈p.data.toList)=hs at*;clear F H r J;by_cases z:E=0
 .subst z;rw[decide_eq_true U,Bool.true_and]at e;walk_nrm;apply fP (n:=60) h.r.r;repeat w_nl fu
  u_in fu hF
  refine Ć (t:=2) U U ĥ U ⟨by u_nil,?_⟩;refine Ã λ_ _=> ?_;exact .fA λC c=>⟨h.C c,U,e _ (h.C c) (λb q=>⟨(j b q).1,(c.I b<|Î (j b q).1).trans (j b q).2⟩)<|Å K c.r⟩
 .rw[decide_eq_false z,Bool.false_and]at e;have lr:(E==0)=á:=by rwa[beq_eq_false_iff_ne]
  walk_nrm;apply fP (n:=60) h.r.r;repeat w_nl fu
  u_in fu hF
  refine Ć (t:=2) U U ĥ U ⟨by u_nil,?_⟩;refine Ã λ_ _=> ?_;exact .fA λC c=>⟨h.C c,U,e _ (h.C c) (λb q=>⟨(j b q).1,(c.I b<|Î (j b q).1).trans (j b q).2⟩)<|Å K c.r⟩
end
end Go.Proofs.Y.kH
namespace Go.Proofs.Y.ft
open Go Go.Conc Go.Proofs.Y.Lift Go.RowKit Go.Conc.Lib Go.ConcR.Gen
def ac6(a:Array Ħ):Bool:=(â a.size).all λi=>match a[i]? with
 |none=>È
 |some o=>o.dst.isSome&&(match o.op with|.select _ _=>á|_=>È)&&(o.op.operands.toList.all λx=>match x with
  |.tmp d=>(â a.size).all λj=>((a[j]?).bind (·.dst)) !=Ä d||o.after.toList.any λe=>e.on==j&&vz e
  |_=>È)&&(match o.guard with
  |none=>È
  |some (j,_)=>o.after.toList.any λe=>e.on==j&&vz e)
def CP(a:Array Ħ)(t:Array Ñ)(i:Nat):Ñ:=t.getD (((a[i]?).bind (·.dst)).getD 0) ö
def Np(p:Nat->Ħ->Prop):Nat->List Ħ->Prop
 |_,[]=>True
 |n,o::r=>p n o/\Np p (n+1) r
def aut{p:Nat->Ħ->Prop}:∀(l:List Ħ) (n i:Nat) (o:Ħ),Np p n l->l[i]?=Ä o->p (n+i) o:=by
 intro l
 induction l with
 |nil=>intro n i o _ e;simp at e
 |cons x l a=>
  intro n i o h e;cases i with
  |zero=>
   rw[ó]at e;obtain rfl:=Õ e;exact h.1
  |succ i=>
   rw[ò]at e;rw[show n+(i+1)=n+1+i by omega];exact a _ i o h.2 e
section
variable{J:Jd}{l:e9}{c:Array Ñ}
def lI.N(h:lI Q q (CP Q c) wJ y)(g:∀d,Q.toList.all (λo=>o.dst !=Ä d)=È->c[d]?=q[d]?)(i:c.size=q.size)(k:qK Q q.size=È){d:Nat}(l:∀j o,Q[j]?=Ä o->o.dst=Ä d->wJ.getD j á=È):y.tmps[d]?=c[d]?:=by
 by_cases a:Q.toList.all (λo=>o.dst !=Ä d)=È
 .rw[h.C a,g d a]
 .obtain⟨j,m,b⟩:∃j,∃h:j<Q.size,Q[j].dst=Ä d:=by simpa using a
  have e:=í m;have f:d<c.size:=by rw[i];exact YU k e b
  rw[h.r j _ d e (l j _ e b) b,CP,e,í f];simp[b,f]
def Fy:List Ħ->List Ñ->Array Ñ->Array Ñ
 |o::os,v::vs,t=>Fy os vs (match o.dst with|some d=>t.setIfInBounds d v|none=>t)
 |_,_,t=>t
def Fz:∀(a:List Ħ) (b:List Ñ) (t:Array Ñ),(Fy a b t).size=t.size/\∀d,a.all (λo=>o.dst !=Ä d)=È->(Fy a b t)[d]?=t[d]?
 |[],_,t=>⟨U,λ_ _=>rfl⟩
 |o::a,[],t=>⟨U,λ_ _=>rfl⟩
 |o::a,v::b,t=>by
  unfold Fy;cases c:o.dst with
  |none=>
   refine⟨(Fz a b t).1,λd h=>(Fz a b t).2 d ?_⟩;simp only[ņ,à]at h;exact h.2
  |some e=>
   refine⟨by rw[(Fz a b _).1];simp,λd h=> ?_⟩;simp only[ņ,à,c]at h;rw[(Fz a b _).2 d h.2,Array.getElem?_setIfInBounds_ne (by simpa using h.1)]
end
def ac7(P:ť)(h:Bool)(l:e9)(b:ĝ)(k:List Ů)(j:List ĝ)(g:Array Ħ)(d:Array Ñ)(i:Nat)(o:Ħ):Prop:=
 ċ o (į g d)=È/\((∀c,fE l l.w c->(Ī (Act.eval ⟨d,[]⟩) o).run P c=.ok (.value<|CP g d i) c/\∀e∈(Ī (Act.eval ⟨d,[]⟩) o).events P c #[],vy l e)\/
  ∃f e,(∀w,(Ī (Act.eval ⟨d,[]⟩) o).run P w=.ok (.enter f e) w)/\(∀w,(Ī (Act.eval ⟨d,[]⟩) o).events P w #[]=#[])/\
   ∀c,fE l l.w c->∀(a:ł) (m:List Nat) (J:Jd),fh P h J {l with w:=c} (G (b.at (a.put ((g[i]?).bind (·.dst)) (CP g d i)) (Ç g m::k)) j)->fh P h J {l with w:=c} (G (Ê P f e ä) (b.at a (Ç g (i::m)::k)::j)))
section
variable{J:Jd}{l:e9}
theorem auu{id:Nat}(B:jW l)(K:¬l.q)(M:f.kind≠.early)(m:qK Q d.size=È)(V:ac6 Q=È)(W:∀t,KF t Q (â Q.size) []=È)(C:q.size=d.size)(D:∀a,Q.toList.all (λo=>o.dst !=Ä a)=È->q[a]?=d[a]?) (X:Np (ac7 P yQ l f L qX Q q) 0 Q.toList) (hn:∀b,fE l l.w b->fh P yQ J {l with w:=b} (G (f.at ⟨q,[]⟩<|Ç Q []::L) qX)):fh P yQ J l (G (f.at ⟨d,[]⟩<|Ţ (.region id Q È)::L) qX):=by
 refine KE (λwJ y E=>lI Q d (CP Q q) wJ y/\∃b,fE l l.w b/\E={l with w:=b}) B K (λb r=>⟨lI.G _ _ _,{b with drawn:=b.drawn+1},⟨r.r,r.I,r.N,r.Y,r.S⟩,U⟩) (λt wJ y E i N F k=> ?_) λt wJ y E F Y H=> ?_
 .obtain⟨h,b,r,rfl⟩:=F;obtain⟨o,c⟩:∃o,Q[i]?=Ä o:=⟨_,í<|zi k⟩;have I:=đ.1 V i<|õ.2<|zi k;rw[c]at I;simp only[à]at I;let⟨⟨⟨_,O⟩,JG⟩,S⟩:=I;have u:Ī y.eval o=Ī (Act.eval ⟨q,[]⟩) o:=execOp_congr o (λqX f e=>by rw[e]at O;cases O) λx hx=>by
   have p:=đ.1 JG x<|Array.mem_toList_iff.2 hx;cases x with
   |tmp a=>
    show y.tmps.getD a ö=q.getD a ö;have:=h.N D C m (d:=a) λj z n s=>by have:=đ.1 p j<|õ.2 (ç.1 n).1;simp only[n,ĵ,s,bne_self_eq_false,Bool.false_or]at this;exact ie k c this
    simp only[Array.getD_eq_getD_getElem?,this]
   |const v=>rfl
   |global g=>rfl
   |func g=>rfl
  have T:ċ o (į Q y.tmps)=ċ o (į Q q):=by
   unfold ċ;cases v:o.guard with
   |none=>rfl
   |some p=>
    let⟨j,bv⟩:=p;rw[v]at S;have hlj:=ie k c S;have:į Q y.tmps j=į Q q j:=by
     unfold į;cases n:Q[j]? with
     |none=>rfl
     |some oj=>
      cases s:oj.dst with
      |none=>simp[s]
      |some a=>
       have:=h.N D C m (d:=a) λj' z avk avl=>by grind [YV]
       simp only[ĵ,s,this]
    simp only[this]
  have z:=aut _ _ _ _ X (show Q.toList[i]?=Ä o by rwa[Array.getElem?_toList]);rw[Ō]at z;rcases z.2 with vE|⟨g,args,H,he,hW⟩
  .refine nF c (T.trans z.1) M (lH B r) K (λv p=> ?_) (λv p=> ?_)<|.fA λv p=>⟨_,U,h.fQ m c k λ_=>rfl,v,r.fe ⟨p.r,p.I,p.N,p.Y,p.S⟩,U⟩
   .rw[u];exact(vE v<|r.fe ⟨p.r,p.I,p.N,p.Y,p.S⟩).1
   .rw[u];exact(vE v<|r.fe ⟨p.r,p.I,p.N,p.Y,p.S⟩).2
  .refine .mk U λv p=>⟨G (Ê P g args ä)<|f.at y (Ç Q (i::N)::L)::qX,v,#[],{l with w:=v},?_,Kv v<|lH (l:={l with w:=b}) (lH B r) p,hW v (r.fe ⟨p.r,p.I,p.N,p.Y,p.S⟩) y N _<|.fA λBh s=>⟨_,U,?_,Bh,(r.fe ⟨p.r,p.I,p.N,p.Y,p.S⟩).fe ⟨s.r,s.I,s.N,s.Y,s.S⟩,U⟩⟩
   .rw[stepG_enter c (T.trans z.1) M (by rw[u];exact H v)];unfold ŭ;rw[u,he v,seen_none]
   .rw[show(Q[i]?).bind (·.dst)=o.dst by rw[c];rfl];exact h.fQ m c k λ_=>rfl
 .obtain⟨h,b,r,rfl⟩:=F;have v:=pC H Y _ [] (W t) λ_ g=>by cases g
  have e:y=⟨q,[]⟩:=by let⟨s,z⟩:=y;have p:=h.M;simp only at p;subst p;congr 1;refine Array.ext_getElem? λa=>h.N D C m λj o n _=>v j<|õ.2 (ç.1 n).1
  grind
def auv{id:Nat}(a:List Ñ)(c:jW l)(e:¬l.q)(g:f.kind≠.early)(i:qK Q d.size=È)(j:ac6 Q=È)(k:∀m,KF m Q (â Q.size) []=È) (h:∀q,q=Fy Q.toList a d->Np (ac7 P yQ l f L qX Q q) 0 Q.toList/\∀b,fE l l.w b->fh P yQ J {l with w:=b} (G (f.at ⟨q,[]⟩<|Ç Q []::L) qX)): fh P yQ J l (G (f.at ⟨d,[]⟩<|Ţ (.region id Q È)::L) qX):= auu c e g i j k (Fz _ a _).1 (Fz _ a _).2 (h _ U).1 (h _ U).2
end
end Go.Proofs.Y.ft
namespace Go.Proofs.Y.kH
open Go Go.Conc Go.Proofs Go.RowKit Go.Proofs.Y.Lift Go.Proofs.Y.gy Go.Proofs.Y.ft Go.Proofs.Y.mZ
open Go.Conc.Lib Go.ConcR.Gen Go.Proofs.YtgpphkdoanciiaaGreatDoor
def u7(S T:ByteArray):∃a,S++T=a/\a.size=S.size+T.size:=⟨_,U,Æ⟩
def ac8(r:gy.zI):j0 (Co r):=atv λx a=>by
 rcases Ę.1 a with z|z
 .simp at z;rcases z with rfl|rfl|rfl<;>exact Fv _
 .exact aty _ atx _ x z
def auw(v:fI)(N K:Nat):∀x∈I4 v N K,j0 x:=λx a=>by
 simp only[I4,ý,č,or_false]at a;rcases a with rfl|rfl|rfl|rfl|rfl|rfl|rfl|rfl
 .exact acE _
 .exact ac8 _
 .exact UO _ _ _ _ _ _
 .exact acE _
 .exact ac8 _
 .exact UO _ _ _ _ _ _
 .decide
 .decide
def auy(N K:Nat):((((⟨#[99,49,58,99,62,98,40]⟩++fJ N)++⟨#[44]⟩)++fJ K)++⟨#[41]⟩:ByteArray)=cT N K:=î<|ü.1<|by simp[cT,ú]
def auz(K:Nat):((⟨#[109,49,58,99,62,98,40]⟩++fJ K)++⟨#[41]⟩:ByteArray)=mT K:=î<|ü.1<|by simp[mT,ú]
def auA(c m:ByteArray):((((((((⟨#[114,49,59]⟩++c)++⟨#[59]⟩)++m)++⟨#[59,114,49,59]⟩)++c)++⟨#[59]⟩)++m)++⟨#[59,100,49,58,104,59,98,49,58,99]⟩:ByteArray)=jb ⟨#[59]⟩ [⟨#[114,49]⟩,c,m,⟨#[114,49]⟩,c,m,⟨#[100,49,58,104]⟩,⟨#[98,49,58,99]⟩]:=î<|ü.1<|by simp[jb,T0,nK,ú]
noncomputable def ac9:ű:=kY Tryz.f12 [1,1,1,1,1,1,1,1]
noncomputable def vH (a:Array Ñ):Goroutine:=G ((base 12).at ⟨a,[]⟩ [Ţ ac9]) []
section
variable{l:e9}{x:Nat}{s:List fI}{p:ByteArray}
def auB(h:j1 X W l x i [gy.jv,mM p])(hb:gL l)(hs:d.size=113)(z arg:Int)(t1:d[1]?=Ä (Ë Ð z))(t2:d[2]?=Ä (Ë Ð arg))(t12:d[12]?=Ä (Ï<|Ä ⟨x,0,Ü⟩))(g0:-9223372036854775808<=z)(g1:z<=9223372036854775807)(a0:-9223372036854775808<=arg)(a1:arg<=9223372036854775807) (hP:∀C,gL C->j1 X W C x i [gy.jv,mM p]->vQ (Ó È) C.w):iM vQ l (vH d):=by
 have hF:True:=trivial;obtain⟨u,rfl⟩:=xo d hs;have e1:u 1=Ë Ð z:=by simpa using t1
 have e2:u 2=Ë Ð arg:=by simpa using t2
 have e12:u 12=Ï (Ä ⟨x,0,Ü⟩):=by simpa using t12
 clear t1 t2 t12 hs;have avm:=U0 z (n:=401) A;have H:=U0 arg (n:=1000000) A;apply mA;apply fP (n:=60) hb.r.r;simp only[vH,â,ę,Ŕ,e1,e2,e12];conv in ac9=>whnf
 repeat w_go fu
 refine Ã λ_ _=> ?_;refine G4 h hb Ś (λC b f g j=>auq b f arg a0 a1) λl2 hb2 u2 _=> ?_;clear h;generalize sB arg 1000000=K at*;walk_nrm;apply fP (n:=60) hb2.r.r;repeat w_nl fu
 refine Ã λ_ _=> ?_;refine G4 u2 hb2 ĺ (λC b f g j=>aup (n:=401) b f z g0 g1 A A) λl4 E u4 _=> ?_;clear u2;generalize sB z 401=N at*;have hwN:ħ.wrap (N:Int)=N:=by rw[Ĵ];omega
 walk_nrm;apply nF (v:=Ë ħ N) U fN (by k_ne) E.r.r E.q (λw _=>by go_simp) (λw _ e o=>by simp[go_sem]at o);walk_nrm;refine G4 u4 E Œ (λC b f g j=>aur (n:=N) b f Z) λl6 j u6 _=> ?_;clear u4;have O:=aug (N:=N) (K:=K) Z H p;have jH:=asN u6.I<|jb ⟨#[59]⟩<|u5 N K;rw[O]at jH;have AV:=ac0 (N:=N) (K:=K) Z H;have hml:=ac1 (K:=K) H;have BW:=ac2 (N:=N) (K:=K) Z H;have Lb:=auy N K;have U1:=auz K;have U2:=auA (cT N K)<|mT K;have d1:=Ao (n:=N) Z;have d2:=Ao (n:=K) H;have Db:=auw (mM p) N K;change lR _ (jb ⟨#[59]⟩ [⟨#[114,49]⟩,cT N K,mT K,⟨#[114,49]⟩,cT N K,mT K,⟨#[100,49,58,104]⟩,⟨#[98,49,58,99]⟩])=_ at O;change(jb ⟨#[59]⟩ [⟨#[114,49]⟩,cT N K,mT K,⟨#[114,49]⟩,cT N K,mT K,⟨#[100,49,58,104]⟩,⟨#[98,49,58,99]⟩]).size<=1200 at BW;have P:=fc<|ñ O<|ñ jH Db;clear O jH Db;generalize fJ N=DN at*;generalize fJ K=DK at*;generalize cT N K=c at*;generalize mT K=m at*;generalize jb ⟨#[59]⟩ [⟨#[114,49]⟩,c,m,⟨#[114,49]⟩,c,m,⟨#[100,49,58,104]⟩,⟨#[98,49,58,99]⟩]=J at*;let⟨F,DG,z1⟩:=u7 ⟨#[99,49,58,99,62,98,40]⟩ DN;let⟨Q,sQ,z2⟩:=u7 F ⟨#[44]⟩;let⟨C3,U3,z3⟩:=u7 Q DK;let⟨S,hM1,z4⟩:=u7 ⟨#[109,49,58,99,62,98,40]⟩ DK;let⟨G,hT1,y1⟩:=u7 ⟨#[114,49,59]⟩ c;let⟨T,Dr,y2⟩:=u7 G ⟨#[59]⟩;let⟨I,U4,y3⟩:=u7 T m;let⟨Y,U5,y4⟩:=u7 I ⟨#[59,114,49,59]⟩;let⟨L,U6,y5⟩:=u7 Y c;let⟨T6,U7,y6⟩:=u7 L ⟨#[59]⟩;let⟨T7,U8,y7⟩:=u7 T6 m;rw[DG,sQ,U3]at Lb;rw[hM1]at U1;rw[hT1,Dr,U4,U5,U6,U7,U8]at U2;change F.size=7+DN.size at z1;change Q.size=F.size+1 at z2;change S.size=7+DK.size at z4;change G.size=3+c.size at y1;change T.size=G.size+1 at y2;change Y.size=I.size+4 at y4;change T6.size=L.size+1 at y6;walk_nrm;refine oI ⟨#[99,49,58,99,62,98,40]⟩ DN F j DG (by show 7+DN.size<=_;omega) ?_;walk_nrm;refine oI F ⟨#[44]⟩ Q j sQ (by show F.size+1<=_;omega) ?_;walk_nrm;apply fP (n:=60) j.r.r;repeat w_nl fu
 refine Ã λ_ _=> ?_;apply oI Q DK C3 j U3 Z;walk_nrm;refine oI C3 ⟨#[41]⟩ c j Lb (by show C3.size+1<=_;omega) ?_;walk_nrm;apply fP (n:=60) j.r.r;repeat w_nl fu
 refine Ã λ_ _=> ?_;refine oI ⟨#[109,49,58,99,62,98,40]⟩ DK S j hM1 (by show 7+DK.size<=_;omega) ?_;walk_nrm;refine oI S ⟨#[41]⟩ m j U1 (by show S.size+1<=_;omega) ?_;walk_nrm;apply fP (n:=60) j.r.r;repeat w_nl fu
 refine Ã λ_ _=> ?_;refine oI ⟨#[114,49,59]⟩ c G j hT1 (by show 3+c.size<=_;omega) ?_;walk_nrm;refine oI G ⟨#[59]⟩ T j Dr (by show G.size+1<=_;omega) ?_;walk_nrm;apply fP (n:=60) j.r.r;repeat w_nl fu
 refine Ã λ_ _=> ?_;apply oI T m I j U4 Z;walk_nrm;refine oI I ⟨#[59,114,49,59]⟩ Y j U5 (by show I.size+4<=_;omega) ?_;walk_nrm;apply fP (n:=60) j.r.r;repeat w_nl fu
 refine Ã λ_ _=> ?_;apply oI Y c L j U6 Z;walk_nrm;refine oI L ⟨#[59]⟩ T6 j U7 (by show L.size+1<=_;omega) ?_;walk_nrm;apply fP (n:=60) j.r.r;repeat w_nl fu
 refine Ã λ_ _=> ?_;apply oI T6 m T7 j U8 Z;walk_nrm;refine oI T7 ⟨#[59,100,49,58,104,59,98,49,58,99]⟩ J j U2 (by show T7.size+10<=_;omega) ?_;walk_nrm;refine Nk u6 j ĸ (args:=#[Ï<|Ä ⟨x,0,Ü⟩,Á J,Ë Ð 8]) λl8 U9 u8 _ _=> ?_;refine atI (n:=7) u8 U9 (by unfold ê;omega) P.out.1 P.out.2.2 U P.out.2.1 λl9 k y M h9 hT=> ?_;clear P u8;unfold I4 at hT;generalize Ab (ya (mM p).s)=A at*;generalize Co (gy.gk (mM p).s [] 2 1 N K)=B at*;generalize oC (mM p).s 2 1 K 0 401=D at*;have HT:=fc hT;clear DG sQ U3 hM1 hT1 Dr U4 U5 U6 U7 U8 Lb U1 U2 u6 hT;walk_nrm;apply ab0;apply fP (n:=60) M.r.r;repeat w_nl fu
 refine Ã λ_ _=> ?_;refine auv [Ó È,Ó È,ð (Ä ⟨k,0,Ü⟩) 8 y,Ï<|Ä ⟨k,0,Ü⟩,Á A,ð (Ä ⟨k,0,Ü⟩) 8 y,Ï<|Ä ⟨k,3,Ü⟩,Á A,Ó È,Ó È,Ó È,ð (Ä ⟨k,0,Ü⟩) 8 y,Ï<|Ä ⟨k,1,Ü⟩,Á B,ð (Ä ⟨k,0,Ü⟩) 8 y,Ï<|Ä ⟨k,4,Ü⟩,Á B,Ó È,Ó È,Ó È,ð (Ä ⟨k,0,Ü⟩) 8 y,Ï<|Ä ⟨k,2,Ü⟩,Á D,ð (Ä ⟨k,0,Ü⟩) 8 y,Ï<|Ä ⟨k,5,Ü⟩,Á D,Ó È,Ó È,Ó È,ð (Ä ⟨k,0,Ü⟩) 8 y,Ï<|Ä ⟨k,6,Ü⟩,Á ⟨#[45]⟩,Ó È,Ó È,Ó È,ð (Ä ⟨k,0,Ü⟩) 8 y,Ï<|Ä ⟨k,7,Ü⟩,Á ⟨#[49,48,48,48]⟩,Ó È,Ó È,Ó È,Ï<|Ä ⟨x,0,Ü⟩,Ë Ð 2,Ó È,Ó È,Ó È] M.r.r M.q (by k_ne) fp fp (λb=>by cases b<;>kernel_rfl) λt1 uz=> ?_;simp only[Fy]at uz;simp at uz;subst uz;have g:=λf r=>(HT.out.r<|Nj (w₁:=f) r).C;have ada:∀b,gY l9 ⟨k,b,Ü⟩:=λb=>Î<|Î HT.out.fl;refine⟨?_,λf kh=> ?_⟩
 .iterate 42 refine⟨⟨fN,Î λf r=>⟨by
   have c0:=g f r 0 _ U;have V:=g f r 1 _ U;have c2:=g f r 2 _ U;have c3:=g f r 3 _ U;have c4:=g f r 4 _ U;have c5:=g f r 5 _ U;have c6:=g f r 6 _ U;have c7:=g f r 7 _ U;clear g;simp only[CP];go_simp,λe o=>by
   first
   |(simp[go_sem]at o;done)
   |(simp[go_sem,g f r 0 _ U,g f r 1 _ U,g f r 2 _ U,g f r 3 _ U,g f r 4 _ U,g f r 5 _ U,g f r 6 _ U,g f r 7 _ U]at o;subst o;exact(ada _).rd)⟩⟩,?_⟩
  refine⟨⟨fN,û ⟨22,#[Ï<|Ä ⟨x,0,Ü⟩],λw=>by go_simp,λw=>É U Tryz.func22 U U #[],λf r a rest J hJ=>by let⟨sl,V,hA⟩:=(h9.r r).a;exact acd (M.C r) hA hJ⟩⟩,?_⟩;iterate 3 refine⟨⟨fN,Î λf r=>⟨by
   have c0:=g f r 0 _ U;clear g;simp only[CP];go_simp,λe o=>by
   first
   |(simp[go_sem]at o;done)
   |(simp[go_sem,g f r 0 _ U,g f r 1 _ U,g f r 2 _ U,g f r 3 _ U,g f r 4 _ U,g f r 5 _ U,g f r 6 _ U,g f r 7 _ U]at o;subst o;exact(ada _).rd)⟩⟩,?_⟩
  trivial
 .have E:=M.C kh;apply fP (n:=60) E.r.r;repeat w_nl fu
  refine Ã λ_ _=>(.fA λV e=>⟨U,Ó È,λw=>ach (t:=8) U U Ļ U fp,hP _ (E.C e)<|(h9.r kh).r e⟩)
end
def kP:ByteArray:=⟨#[51,48,116,49,114]⟩
def auC:gK (iu kP)=(0,0,[rP kP]):=fp
def auD:lR [gy.jv,mM kP] ⟨#[103,49,58,98,48,59,99,49,58,99,62,98,40,57,57,44,48,41,59,103,49,58,98,48,59,100,49,58,104]⟩=(⟨#[48,59,49,44,49,44,49,48,59,48,59,45]⟩,0,[gy.jv,mM kP]):=fp
section
variable{l:e9}{s:List fI}{p:ByteArray}
def j1.S(h:j1 X W l i n s):mK l.w/\∀b,b=1\/b=2\/b=3\/b=4->l.O b:=by let⟨_,_,a⟩:=h.a;exact⟨a.r,a.C⟩
def j1.Y{d:e9}{t:List fI}(h:j1 X W l i n s)(k:j1 l.O l.w d j b t):j1 X W d j b t:= ⟨k.a,λc q=>by let⟨⟨e,f⟩,_⟩:=h.C c q;let⟨⟨g,m⟩,o⟩:=k.C c e;exact⟨⟨g,m.trans f⟩,o⟩⟩
def auE(B:gL l)(J:mK l.w)(K:∀b,b=1\/b=2\/b=3\/b=4->l.O b)(L:p.size<=10^14*2)(s arg d:Int)(g0:-9223372036854775808<=s)(g1:s<=9223372036854775807)(a0:-9223372036854775808<=arg)(a1:arg<=9223372036854775807)(M:-9223372036854775808<=d)(N:d<=9223372036854775807) (P:∀c,gL c->(∀b,l.O b->c.O b/\c.w.heap[b]?=l.w.heap[b]?)->l.w.heap.size<=c.w.heap.size->vQ (Ó È) c.w): iM vQ l (G (Ê À 12 #[Á p,Ë Ð s,Ë Ð arg,Ë Ð d] ä) []):=by
 have hF:True:=trivial;rw[wx [_,_,_,_] 109 Ļ];simp only[ë,Ù,Ö];conv in kY _ _=>whnf
 apply mA;apply fP (n:=40) B.r.r;repeat w_go fu
 refine Ã λ_ _=> ?_;refine .fA λw₁ C=>⟨B.C C,U,?_⟩;have Q:=B.C C;refine ym (f:=27) (args:=#[Á ⟨#[51,48,116,49,114]⟩,Ë Ð d]) Q U fN (by k_ne) (λw=>by go_simp) (λw=>É U Ĥ U U #[]) λwU g=> ?_;have j:fE l l.w wU:=C.fe ⟨g.r,g.I,g.N,g.Y,g.S⟩;refine ac4 (p:=kP) (Q.C g) (J.r (Å J.fw j.r) λb q=>j.I b<|Î<|K b q) K A d M N (acX auC) λl3 i n k m S=> ?_;have T:l.w.heap.size<=i:=Å j.r S;have V:j1 l.O l.w l3 i n [gy.jv,mM kP]:=⟨m.a,λb q=>⟨⟨(m.C b q).1.1,(m.C b q).1.2.trans<|j.I b<|Î q⟩,(m.C b q).2⟩⟩;clear m S j;walk_nrm;apply mA;apply fP (n:=40) k.r.r;repeat w_go fu
 refine Ã λ_ _=> ?_;apply nF (v:=Ó á) U fN (by k_ne) k.r.r k.q (λw _=>by go_simp) (λw _ e D=>by simp[go_sem,Na]at D);walk_nrm;apply fP (n:=60) k.r.r;repeat w_nl fu
 refine Ã λ_ _=> ?_;refine Nk V k ģ (args:=#[Ï<|Ä ⟨i,0,Ü⟩,Á ⟨#[103,49,58,98,48,59,99,49,58,99,62,98,40,57,57,44,48,41,59,103,49,58,98,48,59,100,49,58,104]⟩,Á ⟨#[48,59,49,44,49,44,49,48,59,48,59,45]⟩]) λl5 rJ W _ _=> ?_;refine ac3 W rJ A auD λl6 X Y=> ?_;clear V W;walk_nrm;apply mA;apply fP (n:=60) X.r.r;repeat w_nl fu
 refine Ã λ_ _=> ?_;refine Nk Y X ĥ (args:=#[Á p]) λl8 U9 E _ _=> ?_;refine aus U9 E.N L λl9 u hk9 tB=> ?_;have F:=E.M hk9 tB;clear Y E hk9 tB;have HP:∀c y H t,gL c->j1 l.O l.w c y H t->l.w.heap.size<=y->vQ (Ó È) c.w:=λc y H t x z I=>P c x (λb q=>(z.C b q).1) (by let⟨_,_,q⟩:=z.a;exact Å I<|Ŏ<|x.r.fw y<|Î q.fl);clear P;by_cases o:(gK<|iu p).1=0/\125∉p.data.toList
 .rw[decide_eq_true o.1,decide_eq_false o.2];walk_nrm;apply mA;apply fP (n:=60) u.r.r;repeat w_nl fu
  refine Ã λ_ _=> ?_;refine Nk F u Ĥ (args:=#[Á p,Ë Ð d]) λl11 adb r _ _=> ?_;refine ac4 (p:=p) adb r.S.1 r.S.2 L d M N (acX<|atP o.2 o.1) λl12 y H h k12 ade=> ?_;have u12:=r.Y k12;have I:l.w.heap.size<=y:=by let⟨_,_,q⟩:=r.a;exact Å T<|Å (Ŏ<|adb.r.fw i<|Î q.fl) ade
  clear F r k12 ade;walk_nrm;apply mA;apply fP (n:=40) h.r.r;repeat w_nl fu
  refine Ã λ_ _=> ?_;apply nF (v:=Ó á) U fN (by k_ne) h.r.r h.q (λw _=>by go_simp) (λw _ e D=>by simp[go_sem,Na]at D);walk_nrm;apply fP (n:=60) h.r.r;iterate 3 w_nl fu
  refine Ã λ_ _=> ?_;refine .fA λD e=>⟨h.C e,U,?_⟩;refine auB (p:=p) (u12.r e) (h.C e) ?_ s arg ?_ ?_ ?_ g0 g1 a0 a1 λc x z=>HP c _ _ _ x z I;all_goals rfl
 .have h:(decide ((gK<|iu p).1=0)&&!decide (125∈p.data.toList))=á:=by
   rw[Bool.eq_false_iff];intro q;simp only[à,decide_eq_true_eq,Bool.not_eq_true',decide_eq_false_iff_not]at q;exact o q
  rw[h];walk_nrm;apply ab0;apply fP (n:=60) u.r.r;repeat w_nl fu
  refine Ã λ_ _=>(.fA λD e=>⟨U,Ó È,λw=>ach (t:=8) U U Ļ U fp,HP _ _ _ _ (u.C e) (F.r e) T⟩)
end
def auF(d:mK W)(e:B.size<=10^14*2)(a arg c:Int)(g0:-9223372036854775808<=a)(f:a<=9223372036854775807)(g:-9223372036854775808<=arg)(h:arg<=9223372036854775807)(i:-9223372036854775808<=c)(j:c<=9223372036854775807): sx (λv w'=>v=Ó È/\nR W w') #[G (Ê À 12 #[Á B,Ë Ð a,Ë Ð arg,Ë Ð c] ä) []] W Ü #[]:= asX (l:=aci W) (auE (acj W) d (asY d) e a arg c g0 f g h i j λm _ v k=>⟨U,λb q=>(v b q).2,k⟩) (acj W) U
end Go.Proofs.Y.kH
