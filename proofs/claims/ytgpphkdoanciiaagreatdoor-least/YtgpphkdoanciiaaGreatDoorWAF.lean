import Derived.Test.YtgpphkdoanciiaaGreatDoorWAE
import Derived.Lib.LaidTab
import Derived.OpenShut
import Derived.Test.YtgpphkdoanciiaaGreatDoorRows
import Derived.Conc.LeavingOf
import Derived.LaidMore
import Derived.Stop.Joined
import Derived.Carry
import Derived.Orders
set_option linter.all false
set_option maxRecDepth 1000000
set_option maxHeartbeats 8000000
open Go.Proofs.Tryz renaming prog->À,func31->ó,func11->ċ,func21->ĝ,func26->ğ,func20->ġ,func27->Ģ,func30->ģ,func28->Ĥ,underlying36->ĭ,t9->ı,underlying25->Ĳ,underlying3->Ĵ,underlying5->ĵ,func24->Ĺ,func17->ĺ,func25->Ļ,ntmps30->ō,func16->ŗ,func18->Ř,func29->ř,f11->Ś,type9->ŝ,f24->ŭ
open Go.Conc.Goes renaming stop->Á
open Go.Value renaming string->Â,int->È,pointer->Ó,bool->í,slice->Ī,tuple->Ş
open Array renaming length_toList->Ã,toList_extract->à,toList_inj->ã,getElem_toList->ê,toList_append->ħ
open Option renaming some->Ä,none->ð,map_eq_some_iff->Ĕ,map_some->Ľ
open Nat renaming le_trans->Å,le_refl->Ê,zero_le->Í,strongRecOn->ü,sub_self->ā,one_pos->Ğ,pow_succ->Ō,le_of_lt->Ŏ
open ByteArray renaming size_append->Æ,data_extract->Õ,data_append->Û,ext->á,getElem_eq_getElem_data->ô,size_extract->ø,size->ù,getElem_extract->Ņ,extract_extract->ņ,append_assoc->ŉ,append_empty->Ŋ,extract->Ţ
open Go.Conc renaming events_call_body->Ç,goes_leave1->Ĉ,goes_leave2->Ŕ
open Go.IntKind renaming i64->É,wrap_u64->ú,u64->Ā,wrap_i64->ť,u8->Ŭ
open Go.Frame renaming enter->Ë,finish_at->ė
open Go.Item renaming inRegion->Ì,code->Œ
open List renaming getElem?_eq_getElem->Î,cons_append->Ù,length_append->Ú,nil_append->å,map_cons->æ,size_toArray->ç,replicate->ë,extract_eq_take_drop->ì,range->ñ,mem_singleton->ò,getElem?_map->õ,mem_append->ý,take->Ă,getElem?_drop->ă,getElem?_eq_some_iff->ą,drop_eq_getElem_cons->Ć,getElem?_append_left->ć,append_assoc->ĉ,drop->Ď,not_mem_nil->ď,getD->Đ,getElem?_cons_succ->đ,length_cons->ē,drop_eq_nil_of_le->Ė,length_singleton->ę,getD_cons_zero->ĥ,getD_cons_succ->Ħ,mem_cons->Ĩ,map_nil->Į,take_add_one->į,map->İ,foldl_append->ĳ,append_nil->ľ,length_set->ŀ,length_nil->Ł,mem_range->Ń,mem_map->ň
open Or renaming inl->Ï,inr->ö
open Bool renaming true->Ð,false->Ò,and_eq_true->Ē,false_eq_true->ī
open Go renaming maxLen->Ñ,World->Ô,Value->Ö,undef->ÿ,Frame->Ĭ,Goroutine->Ķ,execOp->ĸ,laidMetH->ł,Act->ń,TypeId->ŏ,DataW->Ő,Calls->ő,Item->ş,IntKind->Š,Code->Ť,Oper->ũ
open And renaming intro->Ø
open Go.Proofs.YtgpphkdoanciiaaGreatDoor.Rows renaming laid_math_bits_deBruijn32tab->Ü,laid_math_bits_deBruijn64tab->Ý,laid_attic_attic_stepRules->â,laid_internal_strconv_uint64pow10->è
open Option.some renaming inj->Þ,injEq->š
open UInt8 renaming ofNat->ß,toNat_inj->þ
open Go.CallKind renaming normal->ä
open Int renaming tmod_eq_emod_of_nonneg->é,emod_nonneg->Ę
open List.range renaming loop->î
open Go.DataW renaming trod->ï,trod_int->ě,agg->ű
open Go.Ending renaming returned->û
open Go.IntWalk renaming i64_in->Ą
open Go.Lib renaming nDigits_small->Ċ,tabData->Ě,nDigits->Ġ,nDigits_big->Ŀ
open Go.Obj renaming cells->Č,row?->Ū
open Go.Instr renaming sliceAt->č,sliceBound->ķ,slice->œ
open Go.Code renaming wp->ĕ,wp_mono->ŋ,loop->Ŧ
open Go.World renaming cell?->Ĝ,var?->Ŝ
open Prod renaming ext->ŕ,snd->Ŗ,fst->ū
variable{i n j b k m J j9 j7 j6:Nat}{w u W jX:Ô}{v x z jQ:Ö}{h c:Int}{e t T:ŏ}{d q:Array Ö}{P:Go.Program}{y:ń}{B:ByteArray}{X:Nat->Prop}{l:List Ö}{yQ:Bool}{K H:ń->Ô->Prop}{o:ũ}{L:List ş}{jJ:List Nat}{qX:List Ĭ}{zQ:List Int}{xJ:Nat×Nat}{vX:List ByteArray}{vQ:Ö->Ô->Prop}{Q:Array ũ}{f:Ĭ}
namespace Go.Proofs.Y.k9
open Go Go.Conc Go.Proofs Go.RowKit Go.Proofs.Y.Lift Go.Proofs.Y.fR Go.Proofs.Y.fx Go.Proofs.Y.nQ
open Go.Proofs.YtgpphkdoanciiaaGreatDoor (Rows.laid_math_bits_deBruijn32tab Rows.laid_math_bits_deBruijn64tab Rows.laid_internal_strconv_uint64pow10 Rows.laid_attic_attic_stepRules)
def NA:List (String×DataW Unit):=[("math/bits.deBruijn32tab",Ü),("math/bits.deBruijn64tab",Ý),("internal/strconv.uint64pow10",è),("attic/attic.stepRules",â)]
theorem NB(h:W.ShapedOpen À)(g:Nat)(t:ŏ)(b:g<À.globals.size)(e:(((begin À (λ_ _=>0) default).world.heap[g]?).bind Ū).map (·.2)=Ä t): ∃a,W.heap[g]?=Ä (Č a t):=by let⟨⟨z,c⟩,d,f⟩:=Ĕ.1 e;let⟨a,i,_⟩:=h.1 g z c b d;grind
theorem acN{n:String}(b:À.globalNamed n=Ä i)(h:W.heap[i]?=Ä (Č q t xJ))(a:W.var? À n=Ä d):q=d:=by unfold Ŝ at a;grind
def U9{n:String}{N:Nat}{k:Š}{p:List MemPlace} (a:À.globalNamed n=Ä i) (f:(À.globals[i]?).map (·.type)=Ä t) (h:À.underlying t=Ä (.array N e)) (l:À.underlying e=Ä (.int k)) (m:À.cellsOf e=1) (o:À.cellsOf t=N) (r:W.heap[i]?=Ä (Č d t xJ)) (s:À.globalNamed n=Ä b) (u:(À.globals[b]?).map (·.type)=Ä T) (v:W.var? À n=Ä q) (w:ï (λ_=>()) À W 0 (λ_=>Ð) Ò j T q.toList=Ä (Ě k zQ,p)):d=(zQ.map λz=>È k z).toArray:=by obtain rfl:=Þ<|a.symm.trans s;obtain rfl:=Þ<|f.symm.trans u;rw[acN a r v,<-Lib.cells_of_tab h l m o w]
def atq:À.cellsOf 299=3:=fw
def acO:À.cellsOf 36=1:=fw
def atr:À.cellsOf 3=1:=fw
def atu:À.cellsOf 300=69:=fw
def atv{p:List MemPlace}(v:ï (λ_=>()) À W 0 (λ_=>Ð) Ò n 300 l=Ä (â,p)): l.length=69/\∀(i:Nat) (r:Int×Int×Int),jd[i]?=Ä r->l[i*3]?=Ä (È Ā r.1)/\l[i*3+1]?=Ä (È É r.2.1)/\l[i*3+2]?=Ä (È É r.2.2):=by
 obtain⟨f,m,rfl,w,y,K,z⟩:=DataW.trod_array Tryz.underlying300 v;refine⟨y.trans atu,λi r o=> ?_⟩;have B:i<23:=by have:=(ą.1 o).1;exact this
 have g:=z i B;rw[atq]at g;have C:f.map (·.1)=jd.map λr=>(ű [.lit<|.int Ā r.1,.lit<|.int É r.2.1,.lit<|.int É r.2.2]:Ő Unit):=by have:=congrArg ū w;simp only[â,DataW.agg.injEq]at this;exact this.symm
 obtain⟨x,q⟩:∃x,f[i]?=Ä x:=⟨_,Î Z⟩;rw[q]at g;have d:(f.map (·.1))[i]?=Ä x.1:=by simp[q]
 rw[C]at d;simp only[õ,o,Ľ,š]at d;obtain⟨e,h,rfl,j,L,D,k⟩:=DataW.trod_struct Tryz.underlying299 g;have a:=k 0 _ U;have b:=k 1 _ U;have c:=k 2 _ U;have a:ï _ À W 0 _ Ò h 36 (Ă (À.cellsOf 36)<|Ď 0<|Ă 3<|Ď (i*3) l)=e[0]?:=a;have b:ï _ À W 0 _ Ò h 3 (Ă (À.cellsOf 3)<|Ď 1<|Ă 3<|Ď (i*3) l)=e[1]?:=b;have c:ï _ À W 0 _ Ò h 3 (Ă (À.cellsOf 3)<|Ď 2<|Ă 3<|Ď (i*3) l)=e[2]?:=c;rw[acO]at a;rw[atr]at b c;match e,D,j,a,b,c with
 |[y0,y1,y2],_,j,a,b,c=>
  let⟨M,E,F,_⟩:=ě ĭ (show ï _ _ _ _ _ _ _ 36 _=Ä y0 from a);let⟨N,G,H,_⟩:=ě Ĵ (show ï _ _ _ _ _ _ _ 3 _=Ä y1 from b);let⟨O,I,J,_⟩:=ě Ĵ (show ï _ _ _ _ _ _ _ 3 _=Ä y2 from c);subst F;subst H;subst J;rw[j]at d;simp only[æ,Į,DataW.agg.injEq,List.cons.injEq,DataW.lit.injEq,Lit.int.injEq,true_and,and_true]at d;obtain⟨rfl,rfl,rfl⟩:=d;have s:=congrArg (·[0]?) E;have t:=congrArg (·[0]?) G;have u:=congrArg (·[0]?) I;simp[List.getElem?_take,ă]at s t u;exact⟨s,t,u⟩
def acP(h:∀v∈d.toList,∃k n,v=È k n):fW (lz X i) d d:=pS λv a=>by obtain⟨k,n,rfl⟩:=h v a;exact .iG _ _
def atw{l:List (String×DataW Unit)}(h:ł P l W)(a:(l.filter λx=>x.2.handleName?.isSome)=[]):∃b,DataW.LaidVars P W l b:=by unfold ł at h;rw[a]at h;exact⟨h.choose,h.choose_spec.1⟩
def atx:À.cellsOf 304=32:=fw
def aty:À.cellsOf 305=64:=fw
def atz:À.cellsOf 291=20:=fw
def acQ:À.cellsOf 5=1:=fw
def gn1:À.globalNamed "internal/strconv.uint64pow10"=Ä 1:=fw
def gn2:À.globalNamed "attic/attic.stepRules"=Ä 2:=fw
def gn3:À.globalNamed "math/bits.deBruijn32tab"=Ä 3:=fw
def gn4:À.globalNamed "math/bits.deBruijn64tab"=Ä 4:=fw
def NC(g:Nat)(t:ŏ)(h:(g,t)∈[(1,291),(2,300),(3,304),(4,305)]):(À.globals[g]?).map (·.type)=Ä t/\g<À.globals.size/\(((begin À (λ_ _=>0) default).world.heap[g]?).bind Ū).map (·.2)=Ä t:=by
 simp only[Ĩ,ď,or_false,Prod.mk.injEq]at h;rcases h with⟨rfl,rfl⟩|⟨rfl,rfl⟩|⟨rfl,rfl⟩|⟨rfl,rfl⟩
 .exact⟨fw,of_decide_eq_true fw,fw⟩
 .exact⟨fw,of_decide_eq_true fw,fw⟩
 .exact⟨fw,of_decide_eq_true fw,fw⟩
 .exact⟨fw,of_decide_eq_true fw,fw⟩
def atA:Ő Unit->Int
 |.lit (.int _ z)=>z
 |_=>0
def acR:Ő Unit->List Int
 |ű l=>l.map atA
 |_=>[]
def atB:(Ü:Ő Unit)=Ě Ŭ (acR Ü):=rfl
def atC:(Ý:Ő Unit)=Ě Ŭ (acR Ý):=rfl
def atD:(è:Ő Unit)=Ě Ā Lib.pow10Tab:=rfl
def atE{k:Š}:∀v∈(zQ.map λz=>È k z).toArray.toList,∃k n,v=È k n:=λv a=>by simp only[ň]at a;obtain⟨z,_,rfl⟩:=a;exact⟨_,_,U⟩
def atF(k:Nat)(h:k<69):∃i j,i<23/\j<3/\k=i*3+j:=⟨k/3,k%3,Z,Z,Z⟩
theorem atG{W:Ô}(hs:W.ShapedOpen À)(hl:ł À NA W):mQ W:=by
 obtain⟨ps,g3,t3,cs3,f3,p3,q3,U2,ht3,hv3,xE,⟨g4,t4,cs4,f4,p4,q4,hg4,Hq,hv4,Tq,⟨g1,t1,cs1,f1,p1,q1,wi,BJ,hv1,B8,⟨g2,t2,cs2,f2,p2,q2,LZ,J4,M5,o6,_,_⟩,_⟩,_⟩,_⟩:=atw hl (by kernel_rfl);obtain⟨y1,s1,z1⟩:=NC 1 291 (by simp);obtain⟨y2,s2,z2⟩:=NC 2 300 (by simp);obtain⟨y3,s3,z3⟩:=NC 3 304 (by simp);obtain⟨y4,s4,z4⟩:=NC 4 305 (by simp);obtain⟨c1,b1⟩:=NB hs 1 291 s1 z1;obtain⟨c2,b2⟩:=NB hs 2 300 s2 z2;obtain⟨c3,b3⟩:=NB hs 3 304 s3 z3;obtain⟨c4,b4⟩:=NB hs 4 305 s4 z4;rw[atB]at xE;rw[atC]at Tq;rw[atD]at B8;have e3:=U9 gn3 y3 Tryz.underlying304 ĵ acQ atx b3 U2 ht3 hv3 xE;have e4:=U9 gn4 y4 Tryz.underlying305 ĵ acQ aty b4 hg4 Hq hv4 Tq;have e1:=U9 gn1 y1 Tryz.underlying291 ĭ acO atz b1 wi BJ hv1 B8;obtain rfl:=Þ (gn2.symm.trans LZ);obtain rfl:=Þ (y2.symm.trans J4);obtain⟨hlen,mK⟩:=atv o6;have e2:=acN gn2 b2 M5;subst e2;have atH:=λi r hr=>by have:=mK i r hr;simpa using this
 have acS:∀(k:Nat) (v:Ö),c2[k]?=Ä v->∃(kd:Š) (n:Int),v=È kd n/\kd≠Ŭ:=λk v hv=>by
  have hk:k<69:=by grind
  obtain⟨i,j,hi,hj,rfl⟩:=atF k hk;obtain⟨r,hr⟩:∃r,jd[i]?=Ä r:=⟨_,Î (show i<jd.length from hi)⟩;grind
 have kq:=(Array.getElem?_eq_some_iff.1 b4).1;refine⟨?_,?_,⟨c3,_,b3,Í _,Í _,?_,?_⟩,⟨c4,_,b4,Í _,Í _,?_,?_⟩,?_,⟨⟨c2,_,b2⟩,λi r hr=> ?_⟩,?_⟩
 .have h5:nB=5:=by kernel_rfl
  omega
 .rintro b (rfl|rfl)
  .refine⟨c1,291,_,b1,Í _,acP (by rw[e1];exact atE),by rw[e1];exact of_decide_eq_true (by kernel_rfl),λk v hv=> ?_,by decide,by decide⟩;rw[e1]at hv;simp only[List.getElem?_toArray,õ,Ĕ]at hv;obtain⟨z,_,rfl⟩:=hv;rfl
  .refine⟨c2,300,_,b2,Í _,acP λv hv=> ?_,?_,λk v hv=> ?_,by decide,by decide⟩
   .obtain⟨k,hk,e⟩:=List.mem_iff_getElem.1 hv;obtain⟨kd,n,e',_⟩:=acS k v (by rw[<-e];simp);grind
   .grind
   .obtain⟨kd,n,rfl,hn⟩:=acS k v hv;cases kd<;>first|rfl|exact absurd rfl hn
 .rw[e3];exact of_decide_eq_true (by kernel_rfl)
 .grind
 .rw[e4];exact of_decide_eq_true (by kernel_rfl)
 .grind
 .unfold fR.lS Lib.TabIs Ŝ;rw[gn1];grind
 .obtain⟨h0,h1,h2⟩:=atH i r hr;exact⟨by simp only[Ĝ,b2];exact h0,by simp only[Ĝ,b2];exact h1,by simp only[Ĝ,b2];exact h2⟩
 .unfold qE;simp only[Ĝ,b4,e4];rfl
end Go.Proofs.Y.k9
namespace Go.Proofs.Y.k9
open Go Go.Conc Go.Proofs Go.RowKit Go.Proofs.Y.Lift Go.Proofs.Y.fR Go.Proofs.Y.fx Go.Proofs.Y.nQ
open Go.Proofs.YtgpphkdoanciiaaGreatDoor (Rows.workersSpec Rows.workersRow Rows.WorkersSaid Tryz.pinned)
open Go.ChangeShapes Go.WideShapes Go.ChangeAt
def ft:ownKnob À.godebug=ð:=fw
def atI{w':Ô}(h:nV W w')(a:w'.os=W.os)(b:w'.output=W.output):Below W.heap.size W {w' with tape:=W.tape}:=⟨a,U,b,h.DU,h.rL⟩
def atJ(os:Os)(a:Array Ö):ł À NA ((World.doorLaid À 400 os).forCall (λ_ _=>0) ⟨#[],a,[]⟩).memory:= laidMetH_of_parts3 (fuel:=8) (laidMet_of_run' 8 fw fw) fw fw
end Go.Proofs.Y.k9
namespace Go.Proofs.Y.nQ
open Go Go.Proofs Go.RowKit Go.Proofs.Y.Lift Go.Proofs.Y.fR
def oO(B:ByteArray)(c:UInt8):Nat->Nat->Nat->List ByteArray
 |0,fr,_=>[B.extract fr B.size]
 |f+1,fr,i=>if h:i<B.size then if B[i]=c then B.extract fr i::oO B c f (i+1) (i+1)else oO B c f fr (i+1)else[B.extract fr B.size]
def acT:List Int->List (List Int)
 |[]=>[[]]
 |a::l=>(a::l)::acT l
def Az:List (List Int):=[[86,58,120,47,66],[86,58,120,115],[86,58,120],[86,58,120,62,121,40,110,44,107,41],[86,58,120,62,121,40,107,41],[86,58,87],[86],[121,61,110],[80],[120,84],[82]].flatMap acT
def atK:∀r∈Az,r.tail∈Az:=A
def acU:∀r∈Az,59∉r/\(r.headD 0=66->r=[66])/\(82∈r->r=[82])/\(80∈r->r=[80]):=A
def atL(k:Int):rB k∈Az/\rB k≠[82]/\80∉rB k:=by
 unfold rB;repeat' split
 all_goals decide
def acV(k:Int):sF k∈Az/\sF k≠[82]:=by
 unfold sF;repeat' split
 all_goals decide
structure lh(D:List PR)(a b:PD):Prop where
 M:a.r=Ð
 N:b.r=Ð
 C:a.S=D
 S:b.S=[]
 r:a.I=b.I
 I:a.M=b.M
 Y:b.M=Ð->a.N=b.N
structure C0(D:List PR)(k:Nat)(a b:PS):Prop where
 r:a.C=b.C
 C:b.C∈Az
 I:a.r=b.r
 N:0<b.r->a.M=b.M
 M:80∈b.C->a.I=b.I/\b.I.toNat<=k
 d:(b.C=[82]/\b.r=0/\a.d.C=D/\b.d.C=[])\/(b.C≠[82]/\lh D a.d b.d)
section
variable{D:List PR}{a b:PD}
def lh.gN(h:lh D a b):a.Y=b.Y:=by
 unfold PD.Y;rw[h.I,h.r];split
 .rw[h.Y ‹_›]
 .rfl
theorem lh.G(h:lh D a b):∃r,a.C=D++[r]/\b.C=[r]:=by unfold PD.C;rw[h.M,h.N,h.C,h.S,h.r,h.gN];grind
def lh.ov(h:lh D a b)(i:Nat)(z:Int):lh D (a.ov i z) (b.ov i z):= ⟨h.M,h.N,h.C,h.S,by unfold PD.ov;rw[h.r],h.I,h.Y⟩
def lh.oK(h:lh D a b)(i:Nat)(z:Int):lh D (a.oK i z) (b.oK i z):= ⟨h.M,h.N,h.C,h.S,h.r,h.I,λq=>by unfold PD.oK;rw[h.Y q]⟩
def lh.iz(h:lh D a b)(i:Nat)(z:Int):lh D (a.iz i z) (b.iz i z):=by
 unfold PD.iz;rw[h.I];split
 .exact h.oK i z
 .exact h.ov i z
def lh.fV(h:lh D a b)(n z:Int):lh D (a.fV n z) (b.fV n z):=by
 unfold PD.fV;repeat' split
 all_goals first|exact h.ov _ _|exact h.iz _ _|exact h
theorem lh.AH(h:lh D a b)(n:Int):a.G n=b.G n:=by
 unfold PD.G PD.tH;rw[h.r,h.I];by_cases q:b.M=Ð
 .rw[h.Y q]
 .grind
def lh.oL(h:lh D a b)(p:ByteArray):lh D (a.oL p) (b.oL p):= ⟨h.M,h.N,h.C,h.S,h.r,h.I,λq=>by unfold PD.oL;rw[h.Y q]⟩
def lh.nR(h:lh D a b):lh D a.nR b.nR:= ⟨h.M,h.N,h.C,h.S,by unfold PD.nR;rw[h.r,h.gN],U,λ_=>rfl⟩
end
section
variable{D:List PR}{a b g:PS}{o:Nat}{P:ByteArray}
def Jq(D:List PR)(k:Nat):Option PS->Option PS->Prop
 |some a,Ä b=>C0 D k a b
 |none,ð=>True
 |_,_=>False
def acW(e:lh D a.d b.d)(f:c≠59)(g:a.r=0/\b.r=0):Jq D (k+1) (pX a c) (pX b c):=by
 unfold pX;rw[if_neg λq=>f q.1,e.gN,if_neg (c:=c=59/\b.d.S.length+1<24) λq=>f q.1];split
 .exact⟨U,(by decide:[120,84]∈Az),g.1.trans g.2.symm,(λq=>by have:0<b.r:=q;omega),(λq=>by simp at q),ö ⟨(by decide:[(120:Int),84]≠[82]),e.nR⟩⟩
 .trivial
def acX(e:lh D a.d b.d)(w:Int)(r:List Int)(f:r∈Az)(g:r≠[82])(h:80∉r):C0 D (k+1) {ow a w c with C:=r} {ow b w c with C:=r}:= ⟨U,f,U,λ_=>rfl,λq=>absurd q h,ö ⟨g,e.fV _ _⟩⟩
theorem atM(h:C0 D k a b)(m:a.r=0/\b.r=0)(n:c≠59):Jq D (k+1) (jU B o a c) (jU B o b c):=by
 have p:=(acU _ h.C).2.2.1;have t:=(acU _ h.C).2.2.2;have i:=atK _ h.C;have g:0<b.r->a.M=b.M:=λq=>by omega
 unfold jU;rw[h.r];rcases h.d with⟨e,_,u,v⟩|⟨e,f⟩
 .rw[e];simp only[if_true];unfold yr;split
  .trivial
  .let⟨x,y,z⟩:=atL<|wx c;exact⟨U,x,h.I,g,λq=>absurd q z,ö ⟨y,U,U,u,v,U,U,λq=>by cases q⟩⟩
 .cases j:b.C with
  |nil=>exact acW f n m
  |cons w l=>
   rw[j]at p t i e;have C:w≠82:=λq=>by subst q;exact e<|p fq
   have r:l≠[82]:=λq=>by grind
   have s:80∉l:=λq=>by grind
   simp only[if_neg C];split
   .split
    .exact acX (a:={a with C:=[84],d:=a.d.nR}) (b:={b with C:=[84],d:=b.d.nR}) f.nR 120 [84] A A A
    .exact acW f n m
   .split
    .unfold yt;split
     .trivial
     .exact⟨U,(acV _).1,h.I,g,λ_=>⟨U,Í _⟩,ö ⟨(acV _).2,f.oK _ _⟩⟩
    .split
     .rename_i q;subst q;let⟨E,F⟩:=h.M (by rw[j];simp);rw[E];split
      .exact⟨U,i,h.I,g,λq=>absurd q s,ö ⟨r,f.oL _⟩⟩
      .split
       .trivial
       .exact⟨U,j▸h.C,h.I,g,λ_=>⟨U,by show(b.I+1).toNat<=k+1;omega⟩,ö ⟨e,f⟩⟩
     .split
      .exact acX f w l i r s
      .trivial
def atN(a:80∈b.C->B.extract (o-b.I.toNat) o=P.extract (k-b.I.toNat) k):kU P k b c=kU B o b c:=by
 unfold kU jU;cases d:b.C with
 |nil=>rfl
 |cons w e=>
  by_cases q:w=80
  .subst q;simp only;rw[a (by rw[d];simp)]
  .simp only[if_neg q]
def atO(h:C0 D k a b)(g:c≠59):Jq D (k+1) (kU B o a c) (kU B o b c):=by
 unfold kU;rw[h.I];split
 .rename_i q;rcases h.d with⟨_,e,_⟩|⟨e,f⟩
  .omega
  .refine⟨h.r,h.C,by show a.r-1=b.r-1;rw[h.I],λ_=>h.N q.1,λz=>⟨(h.M z).1,Nat.le_succ_of_le (h.M z).2⟩,ö ⟨e,?_⟩⟩;unfold CL;rw[h.N q.1,f.AH];exact f.fV _ _
 .exact atM (a:={a with r:=0}) (b:={b with r:=0}) ⟨h.r,h.C,U,(λq=>by cases q),h.M,h.d.imp (λz=>⟨z.1,rfl,z.2.2⟩) id⟩ ⟨rfl,rfl⟩ g
def FR(z:PS):Prop:=z.C=[]\/z.C=[66]
end
end Go.Proofs.Y.nQ
namespace Go.Proofs.Y.k9
open Go Go.Conc Go.Proofs Go.RowKit Go.Proofs.Y.Lift Go.Proofs.Y.fR Go.Proofs.Y.fx Go.Proofs.Y.nQ
open Go.Conc.Lib Go.ConcR.Gen Go.Proofs.YtgpphkdoanciiaaGreatDoor
def atP{α β:Type}(f:α->β)(d:α)(l:List α):((ñ l.length).map λi=>f<|l.getD i d)=l.map f:=by
 refine List.ext_getElem fq λi b a=> ?_;have h:i<l.length:=by simpa using a
 simp[Đ,h]
def atQ{s:List fL}{a:List PR}(h:gR B=(0,0,a))(f:∀r∈a,r.c.getD 4 0≠1):lV s B=(iI ⟨#[59]⟩ (a.map λr=>qF (nP s)<|toQn r),0,s):=by
 have d:∀p,p<a.length->kV a p≠1:=λp b=>f _ (by simp[Đ,b]);have e:∀p,p<=a.length->ia (kV a) p=[]:=λp b=>by unfold ia;rw[List.filter_eq_nil_iff];intro j g;have:=Ń.1 g;simpa using d j Z
 have g:kX a s=a.map λr=>qF (nP s) (toQn r):=by rw[<-atP (λr=>qF (nP s)<|toQn r) pg];unfold kX;refine List.map_congr_left λp b=> ?_;have b:=Ń.1 b;unfold fO wv;rw[e p Z,if_neg<|d p b];rfl
 have j:wE a s=s:=by unfold wE fO;rw[e _<|Ê _];rfl
 unfold lV;rw[h];simp only[g,j,if_true]
def yy(d:Nat):ByteArray:=Ţ ⟨#[48,49,50,51,52,53,54,55,56,57]⟩ d<|d+1
def atS:(ñ 10).map yy=(ñ 10).map λd=>⟨#[ß<|48+d]⟩:=fw
theorem tL(h:i<10):yy i=⟨#[ß<|48+i]⟩:=by have:=congrArg (λl=>l[i]?) atS;simpa[h]using this
theorem C3(h:i<10):fy i=yy i:=by unfold fy;grind [Lib.decDigits_one,tL]
theorem FT(h:¬n<10):fy n=fy (n/10)++yy (n%10):=by rw[tL Z];unfold fy;rw[Lib.decDigits,dif_neg h];apply á;simp_all
noncomputable def ND:Ť:=(Tryz.f21.body.bind fR.kv).getD .skip
def FU(n:Int)(s:ByteArray)(u:Nat->Ö):ń:=⟨#[È Ā n,u 1,u 2,Â s,u 4,u 5,u 6,u 7,u 8,u 9,u 10,u 11,u 12,u 13,u 14,u 15,u 16,u 17,u 18,u 19,u 20,u 21,u 22,u 23,u 24,u 25,u 26],[]⟩
def FV(n:Int)(s:ByteArray)(a:ń):Prop:=∃u,a=FU n s u
theorem acY{s:ByteArray}(h:i<10)(a:s.size<=20):É.wrap ((i:Int)+1)=(i:Int)+1/\É.wrap (i:Int)=i/\(0:Int)<=(i:Int)+1/\(i:Int)+1<=10/\(i:Int)<=(i:Int)+1/\((i:Int)+1).toNat=i+1/\¬9223372036854775807<min (i+1) 10-i+s.size:=by grind [ť]
section
variable{s:ByteArray}
def atT(u:Nat->Ö)(c:n<10)(b:∀a,FV n s a->H a w):ĕ À ND (Exit.then K<|QE 0 H) (FU n s u) w:=by
 unfold FU;conv=>arg 2;whnf
 go_wp2_with fail
 exact⟨U,b _ (fR.gu _)⟩
def atU(u:Nat->Ö)(f:¬n<10)(g:n<18446744073709551616)(h:s.size<=20)(c:∀a,FV ((n/10:Nat):Int) (yy (n%10)++s) a->K a w):ĕ À ND (Exit.then K<|QE 0 H) (FU n s u) w:=by
 unfold FU;conv=>arg 2;whnf
 have i:(n:Int).tmod 10=((n%10:Nat):Int):=by rw[é Z];omega
 have j:(n:Int).tdiv 10=((n/10:Nat):Int):=by rw[Int.tdiv_eq_ediv_of_nonneg Z];omega
 have b:=fg c;clear c;have e:n%10<10:=Z
 have k:n/10<18446744073709551616:=Z
 generalize n%10=d at*;generalize n/10=q at*;let⟨l,m,o,p,r,t,v⟩:=acY e (s:=s) Z;go_wp2_with fail;exact b.out _ (fR.gu _)
def Va(b:ByteArray)(c:Ô)(a:ń)(w:Ô):Prop:=∃(n:Nat) (s:ByteArray),FV n s a/\n<18446744073709551616/\fy n++s=b/\w=c
def Vb(b:ByteArray)(c:Ô)(a:ń)(w:Ô):Prop:=∃(n:Nat) (s:ByteArray),FV n s a/\n<10/\yy n++s=b/\w=c
def yl(a:ń)(_:Ô):Nat:=match a.tmps.getD 0 ÿ with
 |È _ i=>i.toNat
 |_=>0
def IN(b:FV n s y):yl y w=n:=by obtain⟨u,rfl⟩:=b;show(n:Int).toNat=_;simp
theorem atV(i:B.size<=20)(a:ń)(w:Ô)(g:Va B u a w): ĕ À ND (Exit.then (λb c=>Va B u b c/\yl b c<yl a w)<|QE 0<|Vb B u) a w:=by
 let⟨n,s,d,h,e,f⟩:=g;rw[IN d];obtain⟨b,rfl⟩:=d;have j:(fy n).size+s.size=B.size:=by rw[<-e,Æ]
 by_cases c:n<10
 .exact atT b c λa q=>⟨n,s,q,c,by rwa[<-C3 c],f⟩
 .refine atU b c h Z λa q=>⟨⟨n/10,_,q,Z,?_,f⟩,by rw[IN q];omega⟩;grind [ŉ,FT]
def acZ(n:Nat)(b:n<18446744073709551616)(w:Ô):ő À 21 #[È Ā n] w λe f=>e=û (Â<|fy n)/\f=w:=by
 have L:∀a,FV n ⟨#[]⟩ a->ĕ À (Ŧ ND) (QE 0<|Vb (fy n) w) a w:=λa g=>
  wp_loop (Va (fy n) w) yl ⟨n,⟨#[]⟩,g,b,Ŋ,U⟩<|atV<|pP n b
 have H:=fg<|Ø L<|pP n b;generalize fy n=res at*;clear L;go_enter ĝ,Tryz.ntmps21;go_wp2_with fail;refine ŋ (Q:=QE 0<|Vb res w) ?_ (H.out.1 _ (fR.gu _));rintro(_|_|_|_|_|_) a v hq;all_goals first|exact absurd hq id|skip
 obtain⟨rfl,d,s,h,i,c,rfl⟩:=hq;obtain⟨u,rfl⟩:=h;unfold FU;have j:(yy d).size+s.size=res.size:=by rw[<-c,Æ]
 have l:=H.out.2;let⟨m,o,p,q,r,t,x⟩:=acY i (s:=s) Z;have k:=fg c;clear j c;go_wp2_with fail;go_ret;exact⟨by rw[<-k.out];rfl,U⟩
end
abbrev lj(B:ByteArray):Prop:=(59:UInt8)∉B.data.toList
def lj.r{a:ByteArray}(h:lj a)(k:lj B):lj (a++B):=by unfold lj at*;simp_all
theorem lj.C(h:lj B)(i j:Nat):lj (B.extract i j):=by grind [Õ,à]
theorem NG(n:Nat):lj (fy n):=by
 induction n using ü with
 |_ n b=>
  have a:∀d,lj (yy d):=λd=>lj.C A _ _;by_cases h:n<10
  .rw[C3 h];exact a n
  .rw[FT h];exact(b _ Z).r<|a _
theorem atW(h:∀x∈vX,lj x):lj (iI ⟨#[44]⟩ vX):=by
 cases vX with
 |nil=>exact λq=>by cases q
 |cons x r=>
  show 59∉x.data.toList++ly ⟨#[44]⟩ r;rw[ý];rintro(q|q)
  .exact h x fq q
  .let⟨y,a,q⟩:=List.mem_flatMap.1 q;rcases ý.1 q with z|z
   .revert z;decide
   .exact h y (by simp[a]) z
def atX(y:Nat):lj (iK y):=lj.C A _ _
theorem atY(e:Nat×Int):lj (oJ e):=(atX _).r<|NG _
theorem atZ{α:Type}(f:α->ByteArray)(h:∀x,lj<|f x)(l:List α):∀x∈l.map f,lj x:=λx a=>by obtain⟨y,_,rfl⟩:=ň.1 a;exact h y
def pj(c:UInt8):List UInt8->List UInt8->List (List UInt8)
 |cur,[]=>[cur]
 |cur,x::r=>if x=c then cur::pj c [] r else pj c (cur++[x]) r
def Vd(B:ByteArray)(c:UInt8):∀f a i,B.size-i=f->a<=i->i<=B.size->oO B c f a i=(pj c (B.extract a i).data.toList<|B.data.toList.drop i).map λl=>⟨l.toArray⟩
 |0,a,i,hf,h1,h2=>by
  obtain rfl:i=B.size:=Z
  rw[Ė (by rw[Ã];exact Ê _)];rfl
 |f+1,a,i,hf,h1,h2=>by
  have b:i<B.size:=Z
  have d:i<B.data.toList.length:=by rwa[Ã]
  have e:B.data.toList[i]=B[i]:=by rw[ê];rfl
  rw[Ć d,e];unfold oO pj;rw[dif_pos b];split
  .have g:(B.extract (i+1)<|i+1).data.toList=[]:=by
    rw[Õ,à];simp
   rw[Vd B c f (i+1) (i+1) Z (Ê _) Z,g];rfl
  .rw[Vd B c f a (i+1) Z Z Z];congr 2;rw[Õ,Õ,à,à,ì,ì,show i+1-a=i-a+1 by omega,į,ă,show a+(i-a)=i by omega,Î d,e];rfl
def ac0{c:UInt8}:∀(x a r:List UInt8),c∉x->pj c a (x++c::r)=(a++x)::pj c [] r
 |[],a,r,_=>by simp[pj]
 |y::x,a,r,h=>by rw[show pj c a (y::x++c::r)=if y=c then a::pj c [] (x++c::r)else pj c (a++[y]) (x++c::r)from U,if_neg λq=>h (by simp[q]),ac0 x _ r λq=>h (by simp[q])];simp
def ac1{c:UInt8}:∀(x a:List UInt8),c∉x->pj c a x=[a++x]
 |[],a,_=>by simp[pj]
 |y::x,a,h=>by unfold pj;rw[if_neg λq=>h (by simp[q]),ac1 x _ λq=>h (by simp[q])];simp
def ac2:∀(r:List ByteArray) (x:ByteArray) (a:List UInt8),lj x->(∀y∈r,lj y)->pj 59 a (x.data.toList++ly ⟨#[59]⟩ r)=(a++x.data.toList)::r.map λy=>y.data.toList
 |[],x,a,h,_=>by show pj 59 a (x.data.toList++[])=_;rw[ľ,ac1 _ _ h];rfl
 |y::r,x,a,h,k=>by show pj 59 a (x.data.toList++59::(y.data.toList++ly ⟨#[59]⟩ r))=_;rw[ac0 _ _ _ h,ac2 r y [] (k y fq) λz b=>k z (by simp[b])];rfl
def ac3(a:vX≠[])(h:∀x∈vX,lj x):oO (iI ⟨#[59]⟩ vX) 59 (iI ⟨#[59]⟩ vX).size 0 0=vX:=by
 rw[Vd _ _ _ 0 0 (Nat.sub_zero _) (Ê _)<|Í _];match vX,a with
 |x::r,_=>
  have e:((iI ⟨#[59]⟩<|x::r).extract 0 0).data.toList=[]:=by simp_all
  rw[e,List.drop_zero];show(pj 59 []<|x.data.toList++ly ⟨#[59]⟩ r).map _=_;rw[ac2 r x [] (h x fq) λy b=>h y (by simp[b])];simp[Function.comp_def]
section
variable{c l a:ff}{s t:List fL}{e:Ö}{V:Nat->Prop}{g:List Ö}
def at0(h:gq X l a)(b:gG l):gG a:= ⟨h.N b.r,h.d.trans b.d,by rw[h.q];exact b.q,by rw[h.S];exact b.rd,by rw[h.Y];exact b.I,by rw[h.b];exact b.M,by rw[h.K];exact b.k⟩
end
noncomputable def NH:Ť:=kJ ŭ [1,1,1,0,1,0,0]
noncomputable def ac4:Ť:=kJ ŭ [1,1,1,1]
noncomputable def C4 (a:Array Ö) (b:List Ĭ):Ķ:=G ((base 24).at ⟨a,[]⟩<|Œ NH::.inLoop NH::[.inBlock 0,Œ ac4]) b
structure Jr(B:ByteArray)(c:UInt8)(lv:Ö)(fr i:Nat)(tt:Array Ö):Prop where
 r:tt.size=35
 C:tt[0]?=Ä (Â B)
 t1:tt[1]?=Ä (È Ŭ c.toNat)
 I:tt[5]?=Ä lv
 M:tt[6]?=Ä (È É fr)
 N:tt[7]?=Ä (È É i)
def ac5(S:ByteArray)(w:Ô):Sem.events À (Builtin.len_ #[9] 3 #[Â S]) w #[]=#[]:=fw
def at5(B:ByteArray)(w:Ô)(a:i<=j)(b:j<=B.size):Sem.events À (č 9 (Â B) (Ä<|È É i) (Ä<|È É j) ð) w #[]=#[]:=by simp[č,œ,go_sem,a,b,ķ]
def at6(B:ByteArray)(w:Ô)(a:i<=B.size):Sem.events À (č 9 (Â B) (Ä<|È É i) ð ð) w #[]=#[]:=by simp[č,œ,go_sem,a,ķ]
structure vk(iw l:ff)(lv:Ö)(xs:List ByteArray):Prop where
 r:gq fh iw l
 C:l.w.ownsRow 0 9 1 lv xs.length (jw xs)
 ft:∀k,lv.ownBlock=Ä k->l.O k/\iw.w.heap.size<=k
section
variable{J:Jd}{iw l:ff}{S:ByteArray}{c:UInt8}{lv:Ö}{fr:Nat}{xs:List ByteArray}{tt:Array Ö}{k:List ş}
def vk.I(h:vk iw l lv xs)(f:gC iw)(c:gG l){ob:Obj}(g:fI l l.w u)(d:fI (gK l u ob) (gK l u ob).w W)(i:jX.ownsRow 0 9 1 v (xs.length+1) (jw xs++[Â S]))(m:W.grownBy jX lv.ownBlock)(n:∀k,v.ownBlock=Ä k->(ni (gK l u ob) W jX).O k)(o:v.ownBlock=lv.ownBlock\/v.ownBlock=Ä W.heap.size): gG (ni (gK l u ob) W jX)/\vk iw (ni (gK l u ob) W jX) v (xs++[S]):=by
 have a:=nh (X:=λb=>Ä b=lv.ownBlock) (ob:=ob) c.r g;have b:=a.fi (Le (a.N c.r) d m λk e=>⟨a.O k (h.ft k e).1,e.symm⟩);refine⟨at0 b c,h.r.vS b λj q e=> ?_,?_,λk e=>⟨n k e,?_⟩⟩
 .have:=(h.ft j e.symm).2;have:=f.fA j q;omega
 .rwa[Ú,show jw (xs++[S])=jw xs++[Â S] by simp[jw]]
 .rcases o with z|z
  .exact(h.ft k<|z.symm.trans e).2
  .have e:=Þ<|z.symm.trans e;have:=h.r.I;have:=a.I;have:=d.r;omega
def at7{a b:UInt8}(h:a≠b):((a.toNat:Int)==(b.toNat:Int))=Ò:=by rw[beq_eq_false_iff_ne];exact λq=>h<|þ.1 Z
def aua(h:vk iw l lv xs)(C:gC iw)(a:gG l)(b:Jr B c lv fr i tt)(D:i<B.size)(E:fr<=i)(hB:B.size<=10^12)(um:xs.length<=fr) (o:B[i]≠c->∀d g,gG d->vk iw d lv xs->Jr B c lv fr (i+1) g->fx.fl À Ð J d (C4 g qX)) (r:B[i]=c->∀d g v,gG d->vk iw d v (xs++[B.extract fr i])->Jr B c v (i+1) (i+1) g->fx.fl À Ð J d (C4 g qX)):fx.fl À Ð J l (C4 tt qX):=by
 have hF:True:=trivial;let⟨s,t,f⟩:=jl h.C;obtain⟨u,rfl⟩:=uJ tt b.r;have F:u 0=Â B:=by simpa using b.C
 have G:u 1=È Ŭ c.toNat:=by simpa using b.t1
 have I:u 5=Ī s xs.length t:=by rw[<-f];simpa using b.I
 have K:u 6=È É fr:=by simpa using b.M
 have L:u 7=È É i:=by simpa using b.N
 clear b;have k1:(i:Int)<(B.size:Int):=Z
 have k2:(0:Int)<=(i:Int):=Z
 have k3:(0:Int)<=(fr:Int):=Z
 have k4:(fr:Int)<=(i:Int):=Z
 have k5:(i:Int)<=(B.size:Int):=Z
 have M:i<=B.size:=Z
 have m:É.wrap ((i:Int)+1)=((i+1:Nat):Int):=Ą _ ⟨Z,Z⟩;have H:=fg<|Ø o r;clear o r;apply fN (n:=60) a.r.r;simp only[C4,ñ,î,İ,F,G,I,K,L];conv in NH=>whnf
 repeat w_go fu
 refine Á λ_ _=> ?_;apply oa (v:=È É B.size) U fS (by k_ne) a.r.r a.q (λw _=>by go_simp) (λw _ e p=>by simp[go_sem,ac5]at p);walk_nrm;apply fN (n:=60) a.r.r;repeat w_nl fu
 refine Á λ_ _=> ?_;apply oa (v:=È Ŭ B[i].toNat) U fS (by k_ne) a.r.r a.q (λw _=>by go_simp) (λw _ e p=>by simp[go_sem,Instr.index,D]at p);walk_nrm;by_cases j:B[i]=c
 .rw[j];apply fN (n:=60) a.r.r;repeat w_nl fu
  refine Á λ_ _=> ?_;apply oa (v:=Â<|B.extract fr i) U fS (by k_ne) a.r.r a.q (λw _=>by go_simp) (λw _ e p=>by simp[go_sem,at5 B w E M]at p);walk_nrm;refine pK (V:=λp=>Ī (Ä ⟨p,0,ð⟩) 1 1) (ob:=Č #[Â<|B.extract fr i] 9) U U (by k_ne) a.r.r a.q (λw=>by go_simp) (λw=>by simp[go_sem]) λw x=> ?_;walk_nrm;have p:=nh (X:=fh) (ob:=Č #[Â<|B.extract fr i] 9) a.r x;have y:ig (gK l w<|Č #[Â<|B.extract fr i] 9) w.heap.size (Č #[Â<|B.extract fr i] 9):=⟨ö U,fx.ng⟩;have N:À.info? 9=Ä ı:=ŝ;refine Hu (v:=Ī s xs.length t) (us:=[Â<|B.extract fr i]) (px:=w.heap.size) (c:=1) (n:=xs.length) (xs:=jw xs) (inf:=ı) (z:=Â ⟨#[]⟩) U U (by k_ne) (p.N a.r) (by rw[p.q];exact a.q) U U U Ĳ N U U Ğ U U (by simp[ı];omega) (by simp only[Ñ];omega) (f▸oc h.C λk e=>p.r k (Ï (h.ft k e).1) id) (f▸λk e=>p.O k (h.ft k e).1) y.ft (R8<|y.C U) (λ_ e=>ò.1 e▸rfl) λac6 v Si P Q S T W=> ?_;let⟨e,Y⟩:=h.I C a x P Q (f▸S) T<|f▸W;walk_nrm;apply fN (n:=80) e.r.r;repeat w_nl fu
  w_go fu
  refine Á λ_ _=> ?_;refine H.out.2 j _ _ _ e Y ⟨U,U,U,U,?_,?_⟩
  .simp[m]
  .simp[m]
 .have e:=at7 j;apply fN (n:=60) a.r.r;repeat w_nl fu
  w_go fu
  refine Á λ_ _=> ?_;refine H.out.1 j _ _ a h ⟨U,U,U,by rw[f];rfl,U,?_⟩;simp[m]
def aub(h:vk iw l lv xs)(s:gC iw)(a:gG l)(b:Jr B c lv fr B.size tt)(x:fr<=B.size)(T:B.size<=10^12)(W:xs.length<=fr) (C:∀g v,gG g->vk iw g v (xs++[B.extract fr B.size])->fx.fl À Ð J g (G (f.at (y.put ((Q[j]?).bind (·.dst)) v)<|Ì Q jJ::k) qX)):fx.fl À Ð J l (C4 tt<|f.at y (Ì Q (j::jJ)::k)::qX):=by
 have hF:True:=trivial;let⟨i,m,d⟩:=jl h.C;obtain⟨u,rfl⟩:=uJ tt b.r;have D:u 0=Â B:=by simpa using b.C
 have E:u 5=Ī i xs.length m:=by rw[<-d];simpa using b.I
 have F:u 6=È É fr:=by simpa using b.M
 have H:u 7=È É B.size:=by simpa using b.N
 clear b;have Y:(0:Int)<=(fr:Int):=Z
 have k4:(fr:Int)<=(B.size:Int):=Z
 apply fN (n:=60) a.r.r;simp only[C4,ñ,î,İ,D,E,F,H];conv in NH=>whnf
 conv in ac4=>whnf
 repeat w_go fu
 refine Á λ_ _=> ?_;apply oa (v:=È É B.size) U fS (by k_ne) a.r.r a.q (λw _=>by go_simp) (λw _ e p=>by simp[go_sem,ac5]at p);walk_nrm;apply fN (n:=60) a.r.r;repeat w_nl fu
 refine Á λ_ _=> ?_;apply oa (v:=Â<|B.extract fr B.size) U fS (by k_ne) a.r.r a.q (λw _=>by go_simp) (λw _ e p=>by simp[go_sem,at6 B w x]at p);walk_nrm;refine pK (V:=λp=>Ī (Ä ⟨p,0,ð⟩) 1 1) (ob:=Č #[Â<|B.extract fr B.size] 9) U U (by k_ne) a.r.r a.q (λw=>by go_simp) (λw=>by simp[go_sem]) λw o=> ?_;walk_nrm;have p:=nh (X:=fh) (ob:=Č #[Â<|B.extract fr B.size] 9) a.r o;have r:ig (gK l w<|Č #[Â<|B.extract fr B.size] 9) w.heap.size (Č #[Â<|B.extract fr B.size] 9):=⟨ö U,fx.ng⟩;have I:À.info? 9=Ä ı:=ŝ;refine Hu (v:=Ī i xs.length m) (us:=[Â<|B.extract fr B.size]) (px:=w.heap.size) (c:=1) (n:=xs.length) (xs:=jw xs) (inf:=ı) (z:=Â ⟨#[]⟩) U U (by k_ne) (p.N a.r) (by rw[p.q];exact a.q) U U U Ĳ I U U Ğ U U (by simp[ı];omega) (by simp only[Ñ];omega) (d▸oc h.C λk e=>p.r k (Ï (h.ft k e).1) id) (d▸λk e=>p.O k (h.ft k e).1) r.ft (R8<|r.C U) (λ_ e=>ò.1 e▸rfl) λac6 v Si K L M N P=> ?_;let⟨e,S⟩:=h.I s a o K L (d▸M) N<|d▸P;walk_nrm;apply fN (n:=80) e.r.r;repeat w_nl fu
 u_in fu hF
 refine Ĉ (t:=4) U U Ĺ U ⟨by u_nil,?_⟩;refine Á λ_ _=> ?_;exact C _ _ e S
def Ve(e:gC iw)(g:B.size<=10^12) (n:∀a v,gG a->vk iw a v (oO B c B.size 0 0)->fx.fl À Ð J a (G (f.at (y.put ((Q[j]?).bind (·.dst)) v)<|Ì Q jJ::k) qX)): ∀(m fr i:Nat) (l:ff) (lv:Ö) (xs:List ByteArray) (tt:Array Ö),B.size-i=m->fr<=i->i<=B.size->xs.length<=fr->xs++oO B c m fr i=oO B c B.size 0 0->vk iw l lv xs->gG l->Jr B c lv fr i tt->fx.fl À Ð J l (C4 tt<|f.at y (Ì Q (j::jJ)::k)::qX)
 |0,fr,i,l,lv,xs,tt,hm,hfr,hi,um,he,h,hb,hT=>by
  obtain rfl:i=B.size:=Z
  exact aub h e hb hT hfr g um λa v b d=>n a v b<|he▸d
 |m+1,fr,i,l,lv,xs,tt,hm,hfr,hi,um,he,h,hb,hT=>by
  have r:i<B.size:=Z
  rw[show oO B c (m+1) fr i=if B[i]=c then B.extract fr i::oO B c m (i+1) (i+1)else oO B c m fr (i+1)from dif_pos r]at he;refine aua h e hb hT r hfr g um (λq a o b d p=> ?_) λq a o v b d p=> ?_
  .rw[if_neg q]at he;exact Ve e g n m fr (i+1) a lv xs o Z Z Z um he d b p
  .rw[if_pos q]at he;exact Ve e g n m (i+1) (i+1) a v _ o Z Z Z (by rw[Ú,ę];omega) (by rwa[ĉ]) d b p
def auc(a:gG l)(d:B.size<=10^12) (g:∀b v,gG b->vk l b v (oO B c B.size 0 0)->fx.fl À Ð J b (G (f.at (y.put ((Q[j]?).bind (·.dst)) v)<|Ì Q jJ::k) qX)):fx.fl À Ð J l (G (Ë À 24 #[Â B,È Ŭ c.toNat] ä)<|f.at y (Ì Q (j::jJ)::k)::qX):=by
 have hF:True:=trivial;rw[wF [_,_] 33 Ĺ];simp only[ë,Ù,å];conv in kJ _ _=>whnf
 apply fN (n:=60) a.r.r;repeat w_bar fu
 w_go fu
 refine Á λ_ _=> ?_;exact Ve a.r d g B.size 0 0 l (Ī ð 0 0) [] _ U (Ê _) (Í _) (Ê _) U ⟨gq.gd a.r.r,⟨U,Ï ⟨U,U⟩⟩,λk e=>by cases e⟩ a ⟨rfl,rfl,rfl,rfl,rfl,rfl⟩
end
structure jC(R:Nat->Prop)(W:Ô)(l:ff)(x nx:Nat)(s:List fL):Prop where
 a:∃sl V,ox l x nx s sl V
 C:∀b,R b->(l.O b/\l.w.heap[b]?=W.heap[b]?)/\b≠x
section
variable{R:Nat->Prop}{l d:ff}{x nx:Nat}{s g:List fL}{k:List ş}
def jC.M(h:jC R W l x nx s)(c:∀b,l.O b->d.O b/\d.w.heap[b]?=l.w.heap[b]?)(e:l.w.heap.size<=d.w.heap.size):jC R W d x nx s:=by let⟨f,V,a⟩:=h.a;exact⟨⟨f,V,a.N (λb q=>(c b q).1) (λb q=>(c b q).2) e⟩,λb q=>⟨⟨(c b (h.C b q).1.1).1,(c b (h.C b q).1.1).2.trans (h.C b q).1.2⟩,(h.C b q).2⟩⟩
def jC.r(h:jC R W l x nx s)(r:fI l l.w u):jC R W {l with w:=u} x nx s:=h.M (λb q=>⟨q,r.I b<|Ï q⟩) r.r
def jC.I(h:jC R W l x nx s):lC s:=by let⟨_,_,a⟩:=h.a;let⟨_,_,q,_⟩:=a.rd;exact q
def jC.N(h:jC R W l x nx s):nB<=l.w.heap.size:=by let⟨_,_,a⟩:=h.a;exact a.r.fA
def Vf(h:jC R W l x nx s)(j:gG l)(m:B.size<=Ñ) (n:∀d,gG d->jC R W d x nx (lV s B).2.2->iM vQ d (G (f.at (y.put ((Q[i]?).bind (·.dst))<|Ş #[Â (lV s B).1,È É (lV s B).2.1])<|Ì Q jJ::k) qX)): iM vQ l (G (Ë À 17 #[Ó<|Ä ⟨x,0,ð⟩,Â B] ä)<|f.at y (Ì Q (i::jJ)::k)::qX):=by let⟨w,V,o⟩:=h.a;refine acA j o m (λ_=>acE h.I) λd p ⟨e,r,t,u,z⟩=>n d p ⟨⟨r,t,u⟩,λb q=> ?_⟩;let⟨⟨g,v⟩,c⟩:=h.C b q;exact⟨⟨(e b g c).1,(e b g c).2.trans v⟩,c⟩
def aud(h:jC R W l x nx s)(p:gG l)(D:B.size<=Ñ)(E:lV s B=(iI ⟨#[59]⟩ vX,0,g))(F:vX≠[])(H:∀a∈vX,lj a)(M:vX.length=n)(N:(iI ⟨#[59]⟩ vX).size<=10^12) (P:∀d o,gG d->jC R W d x nx g->d.w.ownsRow 0 9 1 o n (jw vX)->(∀b,o.ownBlock=Ä b->d.O b)->iM vQ d (G (f.at (y.put ((Q[i]?).bind (·.dst))<|Ş #[o,í Ð])<|Ì Q jJ::k) qX)): iM vQ l (G (Ë À 26 #[Ó<|Ä ⟨x,0,ð⟩,Â B,È É n] ä)<|f.at y (Ì Q (i::jJ)::k)::qX):=by
 have hF:True:=trivial;subst M;rw[wF [_,_,_] 25 ğ];simp only[ë,Ù,å];conv in kJ _ _=>whnf
 apply lB;apply fN (n:=60) p.r.r;repeat w_go fu
 refine Á λ_ _=> ?_;refine .fD λX r=>⟨p.C r,U,?_⟩;have t:=p.C r;have I:=h.r r;refine wH (f:=17) (args:=#[Ó<|Ä ⟨x,0,ð⟩,Â B]) t U fS (by k_ne) (λw=>by go_simp) (λw=>Ç U ĺ U U #[]) λT m=> ?_;refine Vf (I.r m) (t.C m) D λY u v=> ?_;have J:=ac3 F H;rw[E]at v|-;dsimp only at v|-;generalize iI ⟨#[59]⟩ vX=S at*;clear E h I t D;walk_nrm;apply lB;apply fN (n:=60) u.r.r;repeat w_nl fu
 refine Á λ_ _=> ?_;refine wG (f:=24) (args:=#[Â S,È Ŭ 59]) U fS (by k_ne) u.r.r (λw=>by go_simp) (λw=>Ç U Ĺ U U #[]) λacH K=> ?_;refine auc (c:=59) (u.C K) N λl5 o z j=> ?_;have V:=(v.r K).M (λb q=>⟨j.r.O b q,j.r.r b (Ï q) id⟩) j.r.I;rw[J]at j;let⟨pk,ck,L⟩:=jl j.C;have C:=fg (Ø j.C λb q=>(j.ft b q).1);clear j J H F;rw[L];walk_nrm;apply fN (n:=60) z.r.r;repeat w_nl fu
 u_in fu hF
 refine Ŕ U U ğ U ⟨by u_nil,?_⟩;refine Á λ_ _=> ?_;refine .fD λT m=>⟨z.C m,U,?_⟩;have:=P _ o (z.C m) (V.r m) (oc C.out.1 λk e=>m.I k<|Ï<|C.out.2 k e) C.out.2;rwa[L]at this
end
def yz(l a:ff):Prop:=∀b,l.O b->a.O b/\a.w.heap[b]?=l.w.heap[b]?
structure Js(l:ff)(kb:Nat)(xs:List ByteArray):Prop where
 ft:l.O kb
 C:∀i y,xs[i]?=Ä y->l.w.cell? ⟨kb,i,ð⟩=Ä (Â y)
section
variable{J:Jd}{kn:Ö->Ô->Prop}{R:Nat->Prop}{l l':ff}{x nx:Nat}{s j:List fL}{b m:Ĭ}{a p:ń}{ops:Array ũ}{rest:List Nat}{k:List ş}{cs:List Ĭ}{f:FuncId}{args:Array Ö}{fn:Func}{ags:Array Operand}{ats:Array ŏ}{kb:Nat}{xs:List ByteArray}{y:ByteArray}{t:Operand}
def yz.r{a:ff}(h:yz l l')(k:yz l' a):yz l a:=λb q=>⟨(k b (h b q).1).1,(k b (h b q).1).2.trans (h b q).2⟩
def Vg(r:fI l l.w u):yz l {l with w:=u}:=λb q=>⟨q,r.I b<|Ï q⟩
def Js.r(h:Js l kb xs)(k:yz l l'):Js l' kb xs:=⟨(k kb h.ft).1,λi y q=>(gO (k kb h.ft).2).trans<|h.C i y q⟩
def qo(h:jC R W l x nx s)(hb:gG l)(hf:Tryz.prog.funcs[f]?=some fn) (hc:∀l',gG l'->nB<=l'.w.heap.size->∀(cl:Frame) (cs:List Frame),fx.fl Tryz.prog true (λl'' g'=>jv l' l''/\l''.d=l'.d/\g'=G (cl.finish v) cs) l'<|G (Frame.enter Tryz.prog f args .normal)<|cl::cs) (hn:∀l',gG l'->jC R W l' x nx s->yz l l'->fx.fl Tryz.prog true J l' (G (b.at (a.put o.dst v)<|.inRegion ops rest::k) cs)) (ho:ops[i]?=some o:=by rfl) (pC:o.op=.call {callee:=.value<|.func f,args:=ags,argTypes:=ats}:=by rfl) (hw:Region.wanted o (yielded ops a.tmps)=true:=by rfl) (hk:b.kind≠.early:=by k_ne) (hr:∀w,(execOp a.eval o).run Tryz.prog w=.ok (.enter f args) w:=by intro w;go_simp) (hm:(fn.name== "runtime.NumGoroutine")=false:=by rfl) (hd:fn.body.isNone=false:=by rfl): fx.fl Tryz.prog true J l (G (b.at a<|.inRegion ops (i::rest)::k) cs):=by refine wG ho hw hk hb.r.r hr (λw=>Ç pC hf hm hd #[]) λw₁ kI=> ?_;refine fx.fl.lL ?_<|hc _ (hb.C kI) (h.r kI).N _ _;rintro l2 g2 ⟨ha,hd,rfl⟩;rw[ė,ho];have k2:yz {l with w:=w₁} l2:=λb q=>⟨ha.O b q,ha.r.I b<|Ï q⟩;exact hn l2 (jv.xT (hb.C kI) ha hd) ((h.r kI).M k2 ha.r.r)<|(Vg kI).r k2
def Jt(h:jC R W l x nx s)(hb:gG l)(hf:Tryz.prog.funcs[f]?=some fn) (hn:∀l',gG l'->jC R W l' x nx s->yz l l'->l.w.heap.size<=l'.w.heap.size->iM kn l' (G (Frame.enter Tryz.prog f args .normal)<|b.at a (.inRegion ops (i::rest)::k)::cs)) (ho:ops[i]?=some o:=by rfl) (pC:o.op=.call {callee:=.value<|.func f,args:=ags,argTypes:=ats}:=by rfl) (hw:Region.wanted o (yielded ops a.tmps)=true:=by rfl) (hk:b.kind≠.early:=by k_ne) (hr:∀w,(execOp a.eval o).run Tryz.prog w=.ok (.enter f args) w:=by intro w;go_simp) (hm:(fn.name== "runtime.NumGoroutine")=false:=by rfl) (hd:fn.body.isNone=false:=by rfl): fx.fl Tryz.prog true (Je kn) l (G (b.at a<|.inRegion ops (i::rest)::k) cs):= .fD λw₁ kI=>⟨hb.C kI,U,wH (hb.C kI) ho hw hk hr (λw=>Ç pC hf hm hd #[]) λxe oD=>hn _ ((hb.C kI).C oD) ((h.r kI).r oD) ((Vg kI).r<|Vg oD)<|Å kI.r oD.r⟩
def FW(hb:gG l)(h:Js l kb xs)(n:Nat)(hx:xs[n]?=some y)(hn:fx.fl Tryz.prog true J l (G (b.at (a.put o.dst<|.string y)<|.inRegion ops rest::k) cs)) (ho:ops[i]?=some o:=by rfl) (pC:o.op=.load 9 t:=by rfl) (ht:a.eval t=.pointer (some ⟨kb,n,none⟩):=by rfl) (hw:Region.wanted o (yielded ops a.tmps)=true:=by rfl) (hk:b.kind≠.early:=by k_ne): fx.fl Tryz.prog true J l (G (b.at a<|.inRegion ops (i::rest)::k) cs):=by
 have e:ĸ a.eval o=ĸ a.eval {o with op:=.load 9 t}:=by unfold ĸ;rw[pC]
 refine o5 ho hw hk hb.r.r hb.q (Ï<|Ï h.ft) (h.C n y hx) (λw c=> ?_) (λw c=> ?_) hn
 .rw[e];unfold ĸ;simp only[ht];go_simp
 .rw[e];unfold ĸ;simp only[ht];simp[go_sem,c]
def ac7(h:jC R W l x nx s)(f:gG l)(o:B.size<=Ñ)(r:lV s B=(iI ⟨#[59]⟩ xs,0,j))(t:∀y∈xs,lj y)(a:xs.length=n+1)(u:(iI ⟨#[59]⟩ xs).size<=10^12) (v:∀l' kb b,gG l'->jC R W l' x nx j->Js l' kb xs->iM kn l' (G (m.at (p.put ((ops[i]?).bind (·.dst))<|Ş #[Ī (Ä ⟨kb,0,ð⟩) (n+1) b,í Ð])<|Ì ops rest::k) cs)): iM kn l (G (Ë À 26 #[Ó<|Ä ⟨x,0,ð⟩,Â B,È É ((n+1:Nat):Int)] ä)<|m.at p (Ì ops (i::rest)::k)::cs):=by
 refine aud (n:=n+1) h f o r (λe=>by rw[e]at a;cases a) t a u λw z C D c E=> ?_;let⟨F,b,d⟩:=jl c;obtain⟨kb,rfl⟩:∃kb,F=Ä ⟨kb,0,ð⟩:=by
  rcases c.2 with⟨e,q⟩|⟨g,_,_,e,_⟩
  .omega
  .rw[d]at e;cases e;exact⟨g,U⟩
 have e:z.ownBlock=Ä kb:=by rw[d];rfl
 rw[d];refine v w kb b C D ⟨E kb e,λi y q=> ?_⟩;have q:=c.cells e i (Â y) (by unfold jw;rw[õ,q];rfl);rwa[Addr.add_lit,Nat.zero_add]at q
end
def wK(r:PR):Int×Nat×List Tx:=(r.c.getD 5 0,(r.c.getD 0 0).toNat,r.r.map toTx)
def AA(r:PR)(s:List fL):ByteArray:=if r.c.getD 4 0=1 then(ry (nP s) (wK r).1 (wK r).2.1 (wK r).2.2).2 else qF (nP s) (toQn r)
def C5(s:List fL)(r:PR):List fL:=if r.c.getD 4 0=1 then CK s (wK r)else s
def sr(s:List fL)(rs:List PR):List fL:=rs.foldl C5 s
def ac8{kd:Nat->Int}(h:kd i=1):∀n,i<n->(ia kd n).getD (fO kd i) 0=i
 |0,q=>by omega
 |n+1,q=>by
  have a:i<n->∀x,(ia kd n++x).getD (fO kd i) 0=i:=λz x=>by
   have b:fO kd i<(ia kd n).length:=by
    have e:∀m,i+1<=m->(ia kd<|i+1).length<=(ia kd m).length:=λm=>by
     induction m with
     |zero=>intro z;omega
     |succ m c=>
      intro z;rcases Nat.lt_or_ge i m with y|y
      .apply Å (c y);by_cases q:kd m=1
       .rw[tx q];simp
       .rw[vR q];exact Ê _
      .rw[show m=i by omega];exact Ê _
    have:=e n z;rw[tx h]at this;unfold fO;simp at this;omega
   have:=ac8 h n z;simp only[Đ,ć b]at this|-;exact this
  by_cases z:i<n
  .by_cases q:kd n=1
   .rw[tx q];exact a z _
   .rw[vR q];have:=a z [];rwa[ľ]at this
  .obtain rfl:i=n:=Z
   rw[tx h];simp[Đ,fO]
section
variable{rs:List PR}{s:List fL}{P:ByteArray}
def Vh:∀p,p<=rs.length->pV (wD rs) (ia (kV rs) rs.length) s (fO (kV rs) p)=sr s (rs.take p)
 |0,_=>by simp[fO,ia,pV,sr]
 |p+1,h=>by
  have a:=Vh p Z;have b:rs.take (p+1)=rs.take p++[rs.getD p pg]:=by rw[į];congr 1;simp[Đ,show p<rs.length by omega]
  unfold sr at a|-;rw[b,ĳ,<-a];show _=C5 _ _;unfold C5;by_cases q:kV rs p=1
  .rw[if_pos (show(rs.getD p pg).c.getD 4 0=1 from q)];have e:fO (kV rs) (p+1)=fO (kV rs) p+1:=by unfold fO;rw[tx q];simp
   rw[e];show CK _ _=_;rw[ac8 q _ Z];rfl
  .rw[if_neg (show¬(rs.getD p pg).c.getD 4 0=1 from q)];have e:fO (kV rs) (p+1)=fO (kV rs) p:=by unfold fO;rw[vR q]
   rw[e]
def aue{p:Nat}(h:p<rs.length):(kX rs s)[p]?=Ä (AA (rs.getD p pg)<|sr s<|rs.take p):=by unfold kX;rw[õ,List.getElem?_range h,Ľ,Vh p Z];rfl
theorem auf:wE rs s=sr s rs:=by unfold wE;rw[Vh _<|Ê _,List.take_length]
theorem ac9{r:PR}(h:gR P=(0,0,[r])):lV s P=(AA r s,0,C5 s r):=by
 have a:=aue (rs:=[r]) (s:=s) (p:=0) Ğ;have e:kX [r] s=[AA r s]:=by
  match hx:kX [r] s,Nv with
  |[y],_=>
   rw[hx]at a;simpa[sr]using a
 unfold lV;rw[h];simp only[if_true,e,auf];rw[show iI ⟨#[59]⟩ [AA r s]=AA r s from á (by simp[iI,Ft,ly])];rfl
end
end Go.Proofs.Y.k9
namespace Go.Proofs.Y.nQ
open Go Go.Proofs Go.RowKit Go.Proofs.Y.Lift Go.Proofs.Y.fR
section
variable{a b:PS}{d:PD}
theorem wL{f:Nat}(c:k<B.size)(d:kU B k a (B[k].toNat:Int)=Ä b):jV B (f+1) k a=jV B f (k+1) b:=by rw[jV,dif_pos c,d]
end
end Go.Proofs.Y.nQ
namespace Go.Proofs.Y.k9
open Go Go.Conc Go.Proofs Go.RowKit Go.Proofs.Y.Lift Go.Proofs.Y.fR Go.Proofs.Y.fx Go.Proofs.Y.nQ
open Go.Conc.Lib Go.ConcR.Gen Go.Proofs.YtgpphkdoanciiaaGreatDoor
def C6(r:PR)(a:fL):Option fL:=(wj (wK r).2.1 a.s (wK r).2.2).map λq=>⟨q.1,q.2.1,q.2.2,a.h+1⟩
theorem Vi{s:List fL}{v:fL}(h:s[n]?=Ä v):mF (nP s) n=Ä (0,v):=by unfold mF nP;grind
theorem aug{s:List fL}{r:PR}(d:r.c.getD 4 0=1){a:fL}(b:mF (nP s) (r.c.getD 5 0)=Ä (0,a))(e:s.length<40): AA r s=(match C6 r a with
  |none=>nY 5
  |some _=>oG s.length)/\C5 s r=match C6 r a with
  |none=>s
  |some v=>s++[v]:=by
 have f:(nP s).length=s.length:=by simp[nP]
 have g:ry (nP s) (wK r).1 (wK r).2.1 (wK r).2.2=match C6 r a with
  |none=>(ð,nY 5)
  |some v=>(Ä v,oG s.length):=by
  unfold ry C6;rw[show(wK r).1=r.c.getD 5 0 from rfl,b];grind
 unfold AA C5 CK sD;grind [I5]
theorem auh{s:List fL}{r:PR}(h:gR B=(0,0,[r]))(a:r.c.getD 4 0=1)(b:r.c.getD 5 0=0){v0:fL}(d:s[0]?=Ä v0)(e:s.length<40): lV s B=match C6 r v0 with
  |none=>(nY 5,0,s)
  |some v=>(oG s.length,0,s++[v]):=by
 obtain⟨v,f⟩:=aug a (by rw[show r.c.getD 5 0=((0:Nat):Int)from b];exact Vi d) e;grind [ac9]
end Go.Proofs.Y.k9
namespace Go.Proofs.Y.nQ
open Go Go.Proofs Go.RowKit Go.Proofs.Y.Lift Go.Proofs.Y.fR
section
variable{T p:ByteArray}{a b:PS}
def sL(j:Int):PS:=⟨[80],0,j,120,⟨[],Ð,⟨[0,0,0,0,1,0,0,0],[]⟩,Ð,⟨[1,0,0,0,2],⟨#[]⟩⟩⟩⟩
def rP(p:ByteArray):PR:=⟨[0,0,0,0,1,0,0,0],[⟨[1,0,0,0,2],p⟩]⟩
def iz(p:ByteArray):ByteArray:=⟨#[105,48,58,97,47,98,123]⟩++p++⟨#[125]⟩
theorem Vj{l:List UInt8}(h:T.data.toList=l)(i:Nat)(a:i<T.size):∃b:i<l.length,T[i]=l[i]:=by subst h;exact⟨by rwa[Ã],by rw[ê];rfl⟩
def ada(a:T.data.toList=105::48::58::97::47::98::123::(p.data.toList++[125]))(h:125∉p.data.toList)(i:T.size=p.size+8):∀(m j:Nat),p.size-j=m->j<=p.size->(jV T (m+1) (7+j)<|sL j).1=T.size->(jV T (m+1) (7+j)<|sL j).2.d.C=[rP p]/\(jV T (m+1) (7+j)<|sL j).2.C=[]
 |0,j,hm,hj,hr=>by
  obtain rfl:j=p.size:=Z
  have b:p.data.toList.length=p.size:=by rw[Ã];rfl
  have c:T[7+p.size]'Z=125:=by
   let⟨q,e⟩:=Vj a (7+p.size) Z;have:(105::48::58::97::47::98::123::(p.data.toList++[125]))[7+p.size]?=Ä 125:=by rw[show 7+p.size=p.size+1+1+1+1+1+1+1 by omega];simp only[đ];rw[List.getElem?_append_right Z,b,ā];rfl
   rw[Î q]at this;rw[e];exact Þ this
  have g:T.extract (7+p.size-((p.size:Nat):Int).toNat) (7+p.size)=p:=by apply á;apply ã.1;rw[Õ,à,a,Int.toNat_natCast,Nat.add_sub_cancel,ì];show Ă (7+p.size-7) (p.data.toList++[125])=_;rw[Nat.add_sub_cancel_left,<-b,List.take_left]
  have e:kU T (7+p.size) (sL p.size) ((T[7+p.size]'Z).toNat:Int)=Ä {sL p.size with C:=[],r:=0,d:=(sL p.size).d.oL p}:=by rw[c];show jU T (7+p.size) {sL p.size with r:=0} 125=_;unfold jU;simp only[sL];rw[g];simp
  rw[wL Z e];exact⟨U,U⟩
 |m+1,j,hm,hj,hr=>by
  have b:p.data.toList.length=p.size:=by rw[Ã];rfl
  obtain⟨c,g⟩:∃c,T[7+j]'Z=c:=⟨_,U⟩;have k:c∈p.data.toList:=by
   let⟨q,e⟩:=Vj a (7+j) Z;rw[<-g,e];have:(105::48::58::97::47::98::123::(p.data.toList++[125]))[7+j]?=Ä (p.data.toList[j]'Z):=by rw[show 7+j=j+1+1+1+1+1+1+1 by omega];simp only[đ];rw[ć Z,Î]
   rw[Î q]at this;rw[Þ this];exact List.getElem_mem _
  have l:(c.toNat:Int)≠125:=λq=>h (by have:c=125:=þ.1 (by show c.toNat=125;omega);rwa[<-this]);have e:kU T (7+j) (sL j) (c.toNat:Int)=if(j:Int)=40\/lH (c.toNat:Int)=0 then ð else Ä (sL ((j+1:Nat):Int)):=by show jU T (7+j) {sL j with r:=0} (c.toNat:Int)=_;unfold jU;simp only[sL];simp[l];rfl
  by_cases q:(j:Int)=40\/lH (c.toNat:Int)=0
  .rw[if_pos q]at e;exfalso;rw[jV,dif_pos (show 7+j<T.size by omega),g,e]at hr;simp only at hr;omega
  .rw[if_neg q]at e;rw[wL (f:=m+1) (show 7+j<T.size by omega) (by rwa[g])]at hr|-;exact ada a h i m (j+1) Z Z hr
theorem aui(d:125∉p.data.toList)(h:(gR<|iz p).1=0):gR (iz p)=(0,0,[rP p]):=by
 obtain⟨T,a⟩:∃T,iz p=T:=⟨_,U⟩;have f:T.data.toList=105::48::58::97::47::98::123::(p.data.toList++[125]):=by rw[<-a];unfold iz;simp_all
 have b:T.size=p.size+8:=by rw[<-a];unfold iz;rw[Æ,Æ];show 7+p.size+1=_;omega
 rw[a]at h|-;have g:∀i c (j:i<T.size),(105::48::58::97::47::98::123::(p.data.toList++[125]))[i]?=Ä c->T[i]=c:=λi c j e=>by grind [Vj]
 have k:lI T=jV T (p.size+1) (7+0) (sL (0:Nat)):=by unfold lI;rw[b,wL Z (by rw[g 0 105 _ U];rfl),wL Z (by rw[g 1 48 _ U];rfl),wL Z (by rw[g 2 58 _ U];rfl),wL Z (by rw[g 3 97 _ U];rfl),wL Z (by rw[g 4 47 _ U];rfl),wL Z (by rw[g 5 98 _ U];rfl),wL Z (by rw[g 6 123 _ U];rfl)];rfl
 have l:T.size≠0:=Z
 unfold gR lU at h|-;split at h
 .cases h
 .rename_i m;rw[if_neg m];split at h
  .rename_i q;simp only[if_neg l]at q|-;rw[if_pos q];simp only[Ē,decide_eq_true_eq]at q;have:=ada f d b p.size 0 U (Í _) (by rw[<-k];exact q.1);grind
  .cases h
end
end Go.Proofs.Y.nQ
namespace Go.Proofs.Y.nQ
open Go Go.Proofs Go.RowKit Go.Proofs.Y.Lift Go.Proofs.Y.fR Go.Proofs.Y.k9
section
variable{P:ByteArray}{D:List PR}{a b:PS}{r:PR}
def Jq.Oc{o:Option PS}(h:Jq D k o (Ä b)):∃a,o=Ä a/\C0 D k a b:=by
 cases o with
 |none=>cases h
 |some a=>exact⟨a,U,h⟩
theorem adb(h:gR P=(0,0,[r])):∃z,jV P P.size 0 nS=(P.size,z)/\FR z/\z.d.C=[r]:=by
 unfold gR lU lI at h;split at h
 .cases h
 .by_cases a:P.size=0
  .grind
  .rw[if_neg a]at h;split at h
   .rename_i q;simp only[Ē,Bool.or_eq_true,decide_eq_true_eq]at q;refine⟨(jV P P.size 0 nS).2,ŕ q.1 U,q.2,?_⟩;grind
   .cases h
def Vk(c:UInt8):∀(f a i:Nat),B.size-i=f->i<=B.size->∃e l,i<=e/\e<=B.size/\oO B c f a i=B.extract a e::l
 |0,a,i,hf,hi=>⟨B.size,[],Z,Ê _,U⟩
 |f+1,a,i,hf,hi=>by
  have b:i<B.size:=Z
  unfold oO;rw[dif_pos b];split
  .exact⟨i,_,Ê _,hi,U⟩
  .let⟨e,l,h,d,g⟩:=Vk c f a (i+1) Z Z;exact⟨e,l,Z,d,g⟩
theorem ade(c:C0 D k a b)(g:FR b)(e:b.d.C=[r]):FR a/\lh D a.d b.d/\a.d.C=D++[r]:=by
 rcases c.d with⟨q,_⟩|⟨_,f⟩
 .grind
 .let⟨j,h,i⟩:=f.G;rw[i]at e;cases e;refine⟨?_,f,h⟩;unfold FR;rwa[c.r]
def Vl:∀(f h i:Nat) (D:List PR) (a b m:PS) (P:ByteArray) (l:List ByteArray) (r:PR) (j:List PR),B.size-i=f->h<=i->i<=B.size->C0 D (i-h) a b->oO B 59 f h i=P::l-> jV P (P.size-(i-h)) (i-h) b=(P.size,m)->FR m->m.d.C=[r]->(l.map gR=j.map λr=>(0,0,[r]))->D.length+1+l.length<=24->∃z,jV B f i a=(B.size,z)/\FR z/\z.d.C=D++r::j
 |0,h,i,D,a,b,m,P,l,r,j,hf,h1,h2,hs,hc,hr,hA,nK,hl,hn=>by
  obtain rfl:i=B.size:=Z
  cases hc;have p:(B.extract h B.size).size=B.size-h:=by rw[ø];omega
  rw[p,ā]at hr;have e:b=m:=congrArg Ŗ hr;subst e;let⟨s,_,t⟩:=ade hs hA nK;cases j with
  |nil=>exact⟨a,U,s,t⟩
  |cons y j=>cases hl
 |f+1,h,i,D,a,b,m,P,l,r,j,hf,h1,h2,hs,hc,hr,hA,nK,hl,hn=>by
  have u:i<B.size:=Z
  rw[show oO B 59 (f+1) h i=if B[i]=59 then B.extract h i::oO B 59 f (i+1) (i+1)else oO B 59 f h (i+1)from dif_pos u]at hc;by_cases q:B[i]=59
  .rw[if_pos q]at hc;cases hc;have p:(B.extract h i).size=i-h:=by rw[ø];omega
   rw[p,ā]at hr;have e:b=m:=congrArg Ŗ hr;subst e;let⟨s,kd,t⟩:=ade hs hA nK;let⟨e,x,C,E,n⟩:=Vk (B:=B) 59 f (i+1) (i+1) Z Z;rw[n]at hl hn;simp only[ē]at hn;cases j with
   |nil=>cases hl
   |cons y j=>
    rw[æ,æ]at hl;injection hl with E2 TM;let⟨F,v,w,G⟩:=adb E2;have H:kU B i a (B[i].toNat:Int)=Ä {a with r:=0,C:=[82]}:=by
     rw[q];have I:¬(0<a.r/\jo ((59:UInt8).toNat:Int)=Ð):=by simp[jo]
     unfold kU;rw[if_neg I];unfold jU;have g:pX {a with r:=0} ((59:UInt8).toNat:Int)=Ä {a with r:=0,C:=[82]}:=by unfold pX;rw[if_pos ⟨U,by show a.d.S.length+1<24;rw[kd.C];omega⟩]
     rcases s with k|k
     .simp only[k]at g|-;exact g
     .simp only[k]at g|-;exact g
    rw[jV,dif_pos u,H];let⟨z,g,I,J⟩:=Vl f (i+1) (i+1) (D++[r]) {a with r:=0,C:=[82]} nS F _ x y j Z (Ê _) Z (by rw[ā];exact⟨U,A,U,(λq=>by cases q),(λq=>by simp[nS]at q),Ï ⟨rfl,rfl,t,rfl⟩⟩) n (by rwa[ā]) w G TM (by simp only[Ú,ę];omega);exact⟨z,g,I,by rw[J];simp⟩
  .rw[if_neg q]at hc;let⟨e,x,C,E,n⟩:=Vk (B:=B) 59 f h (i+1) Z Z;rw[hc]at n;cases n;have p:(B.extract h e).size=e-h:=by rw[ø];omega
   have I:i-h<(B.extract h e).size:=Z
   have t:(B.extract h e)[i-h]=B[i]:=by rw[Ņ];congr 1;omega
   rw[show(B.extract h e).size-(i-h)=(B.extract h e).size-(i+1-h)+1 by omega,jV,dif_pos I,t,atN (B:=B) (o:=i) (λz=>by have:=(hs.M z).2;rw[ņ];congr 1<;>omega)]at hr;have g:=atO (B:=B) (o:=i) hs (c:=B[i].toNat) λz=>q (by apply þ.1;show B[i].toNat=59;omega);cases s:kU B i b (B[i].toNat:Int)with
   |none=>
    rw[s]at hr;have:=congrArg ū hr;simp only at this;omega
   |some y=>
    rw[s]at hr g;let⟨F,v,w⟩:=g.Oc;rw[jV,dif_pos u,v];exact Vl f h (i+1) D F y m _ l r j Z Z Z (by rwa[show i+1-h=i-h+1 by omega]) hc (by rw[show i+1-h=i-h+1 by omega];rwa[show i+1-h=i-h+1 by omega]at hr) hA nK hl hn
def auj{Ps:List ByteArray}{b:List PR}(a:Ps.map gR=b.map λr=>(0,0,[r]))(f:∀P∈Ps,lj P)(d:Ps≠[])(g:Ps.length<=24)(p:(iI ⟨#[59]⟩ Ps).size<=1200):gR (iI ⟨#[59]⟩ Ps)=(0,0,b):=by
 have h:=ac3 d f;generalize iI ⟨#[59]⟩ Ps=B at*;match Ps,b,a,d with
 |P::l,r::ys,a,_=>
  rw[æ,æ]at a;injection a with h1 h2;let⟨i,j,k,m⟩:=adb h1;let⟨z,c,e,n⟩:=Vl B.size 0 0 [] nS nS i P l r ys U (Ê _) (Í _) ⟨U,A,U,(λ_=>rfl),(λq=>by simp[nS]at q),Ï ⟨U,U,U,U⟩⟩ h j k m h2 (by simp at g|-;omega);have o:B.size≠0:=λq=>by rw[q]at c;have:nS=z:=congrArg Ŗ c;subst this;rcases e with w|w<;>cases w
  unfold gR lU lI;rw[if_neg Z,if_neg o,c,n];rcases e with w|w<;>simp[w]
 |_::_,[],a,_=>cases a
end
def nn(T:ByteArray)(k:Nat)(l:List UInt8):Prop:=∃r,T.data.toList.drop k=l++r
section
variable{T:ByteArray}{st b:PS}{d:PD}{l a:List UInt8}{want:Int}{tl:List Int}
def nn.I(h:nn T k (l++a)):nn T k l:=by let⟨r,e⟩:=h;exact⟨a++r,by rw[e,ĉ]⟩
theorem nn.C(h:nn T k (l++a)):nn T (k+l.length) a:=by let⟨r,e⟩:=h;refine⟨r,?_⟩;grind [List.drop_drop,ĉ,List.drop_left]
def nn.auk{c:UInt8}(h:nn T k (c::l)):∃a:k<T.size,T[k]=c:=by
 let⟨r,e⟩:=h;have b:=congrArg (λx=>x[0]?) e;simp only[ă,Nat.add_zero,Ù,List.getElem?_cons_zero]at b;let⟨x,d⟩:=ą.1 b;have a:k<T.size:=by rwa[Ã]at x
 refine⟨a,?_⟩;rw[<-d,ê];rfl
def nn.r{c:UInt8}(h:nn T k (c::l)):nn T (k+1) l:=nn.C (l:=[c]) h
theorem pn{c:UInt8}(h:nn T k (c::l))(a:kU T k st (c.toNat:Int)=Ä b):jV T (i+1) k st=jV T i (k+1) b:=by let⟨d,e⟩:=h.auk;grind [wL]
def AB(d:PD):Prop:=(d.M=Ð->4<=d.N.c.length)/\(d.M=Ò->4<=d.I.c.length)
def adf(h:i<zQ.length)(z:Int):(zQ.set i z).getD i 0=z:=by simp[Đ,h]
theorem aul(c:want=110\/want=107)(z a:Int):(d.fV want z).fV want a=d.fV want a:=by
 have b:∀i,(d.iz i z).iz i a=d.iz i a:=λi=>by unfold PD.iz PD.oK PD.ov;cases d.M<;>simp
 rcases c with rfl|rfl
 .exact b 2
 .exact b 3
theorem aum(h:AB d)(b:want=110\/want=107)(z:Int):(d.fV want z).G want=z:=by
 have a:∀i,i<4->(d.iz i z).tH i=z:=λi c=>by
  unfold PD.iz PD.tH;cases q:d.M with
  |true=>
   have:=h.1 q;simp only[if_true,PD.oK,q];exact adf Z z
  |false=>
   have:=h.2 q;simp only[ī,if_false,PD.ov,q];exact adf Z z
 rcases b with rfl|rfl
 .exact a 2 A
 .exact a 3 A
def tM(st:PS)(want:Int)(tl:List Int)(n:Nat):PS:={st with C:=tl,r:=if n=0 then 0 else 6-(Ġ n:Int),M:=want,d:=st.d.fV want n}
def FX(h:n<10):(ß<|48+n).toNat=48+n:=by
 have a:∀k:_root_.Fin 10,(ß<|48+k.val).toNat=48+k.val:=A
 exact a ⟨n,h⟩
def Vm:∀k n,n<10^(k+1)->Ġ n<=k+1
 |0,n,h=>by rw[Ċ (by simpa using h)];exact Ê _
 |k+1,n,h=>by
  by_cases q:n<10
  .rw[Ċ q];omega
  .have:=Vm k (n/10) (by rw[Ō]at h;omega);rw[Ŀ q];omega
theorem aun(e:want=110\/want=107)(a:st.C=want::tl)(f:st.r=0)(h:n<10):kU T k st ((48+n:Nat):Int)=Ä (tM st want tl n):=by
 have g:jo ((48+n:Nat):Int)=Ð:=abI ⟨Z,Z⟩;have b:pe want ((48+n:Nat):Int)=Ð:=by unfold pe;grind
 have c:nj want ((48+n:Nat):Int)=n:=by unfold nj;grind
 have d:qG want ((48+n:Nat):Int)=if n=0 then 0 else 6-(Ġ n:Int):=by unfold qG;grind [Ċ]
 unfold kU;rw[if_neg Z];unfold jU;simp only[a];rw[if_neg Z,if_neg Z,if_neg Z,if_neg Z,if_pos b];unfold ow tM;rw[c,d]
theorem auo(f:AB st.d)(g:want=110\/want=107)(b:n<1000000)(h:¬n<10):kU T k (tM st want tl<|n/10) ((48+n%10:Nat):Int)=Ä (tM st want tl n):=by
 have c:jo ((48+n%10:Nat):Int)=Ð:=abI ⟨Z,Z⟩;have i:=Ŀ h;have j:=Vm 5 n b;have a:(tM st want tl<|n/10).r=6-(Ġ (n/10):Int):=if_neg Z;have l:pW ((n/10:Nat):Int) ((48+n%10:Nat):Int)=n:=by unfold pW;grind [Ą]
 unfold kU;rw[if_pos ⟨by rw[a];omega,c⟩];unfold CL;rw[a];have e:(tM st want tl<|n/10).d.fV (tM st want tl<|n/10).M (pW ((tM st want tl<|n/10).d.G (tM st want tl<|n/10).M) ((48+n%10:Nat):Int))=st.d.fV want n:=by show(st.d.fV want ((n/10:Nat):Int)).fV want (pW ((st.d.fV want ((n/10:Nat):Int)).G want) _)=_;grind [aum,aul]
 rw[e];unfold tM;grind
def Vo(j:AB st.d)(b:want=110\/want=107)(m:st.C=want::tl)(o:st.r=0):∀n,n<1000000->nn T k (fy n).data.toList->∀i,jV T (i+(fy n).size) k st=jV T i (k+(fy n).size) (tM st want tl n):=by
 intro n
 induction n using ü with
 |_ n p=>
  intro q f i;by_cases h:n<10
  .have e:(fy n).data.toList=[ß<|48+n]:=by rw[C3 h,tL h]
   have a:(fy n).size=1:=by rw[C3 h,tL h];rfl
   rw[e]at f;rw[a];apply pn f;rw[FX h];exact aun b m o h
  .have r:=FT h;have e:nn T k ((fy<|n/10).data.toList++(yy<|n%10).data.toList):=by
    simp_all
   have a:(fy n).size=(fy<|n/10).size+1:=by rw[r,Æ,tL Z];rfl
   rw[a,show i+((fy<|n/10).size+1)=i+1+(fy<|n/10).size by omega,p (n/10) Z Z e.I<|i+1];have g:=e.C;rw[Ã,tL Z]at g;rw[<-Nat.add_assoc];apply pn (c:=ß<|48+n%10) (l:=[]) g;rw[FX Z];exact auo j b q h
end
section
variable{T:ByteArray}{f:Nat}{st a:PS}{d:PD}{l b:List UInt8}{want:Int}{tl:List Int}{K:Nat}
def aup(h:AB d)(e:want=110\/want=107)(z:Int):AB (d.fV want z):=by
 have b:∀i,AB (d.iz i z):=λi=>by
  unfold PD.iz;split
  .rename_i q;exact⟨λ_=>by show 4<=(d.N.c.set i z).length;rw[ŀ];exact h.1 q,λa=>absurd q<|by rw[show d.M=Ò from a];decide⟩
  .rename_i q;exact⟨λa=>absurd a q,λa=>by show 4<=(d.I.c.set i z).length;rw[ŀ];exact h.2 a⟩
 rcases e with rfl|rfl
 .exact b 2
 .exact b 3
def Vp{c:UInt8}(h:nn T k (c::l))(b:st.C=(c.toNat:Int)::tl)(a:c=44\/c=41):jV T (f+1) k st=jV T f (k+1) {st with C:=tl,r:=0,M:=(c.toNat:Int)}:=by refine pn h ?_;unfold kU;rw[if_neg (by rcases a with rfl|rfl<;>simp[jo])];unfold jU;simp only[b];rcases a with rfl|rfl<;>rfl
def auq(e:AB st.d)(f:st.C=[110,44,107,41])(g:st.r=0)(j:i<1000000)(l:K<1000000)(h:nn T k ((fy i).data.toList++44::((fy K).data.toList++[41])))(o:T.size=k+((fy i).size+1+(fy K).size+1)): ∃z,jV T (T.size-k) k st=(T.size,z)/\z.C=[]/\z.d=(st.d.fV 110 i).fV 107 K:=by
 have m:(fy i).data.toList.length=(fy i).size:=by rw[Ã];rfl
 have n:(fy K).data.toList.length=(fy K).size:=by rw[Ã];rfl
 have a:=h.C;have b:=a.r;have c:=b.C;rw[m]at a b c;rw[n]at c;rw[show T.size-k=0+1+(fy K).size+1+(fy i).size by omega,Vo e (Ï U) f g i j h.I,Vp a (st:=tM st 110 [44,107,41] i) (tl:=[107,41]) U<|Ï U,Vo (want:=107) (tl:=[41]) (aup e (Ï U) _) (ö U) U U K l b.I,Vp c (tl:=[]) U<|ö U];refine⟨_,ŕ ?_ U,U,U⟩;show k+(fy i).size+1+(fy K).size+1=T.size;omega
def aur(b:AB st.d)(c:st.C=[107,41])(e:st.r=0)(f:K<1000000)(h:nn T k ((fy K).data.toList++[41]))(i:T.size=k+((fy K).size+1)): ∃z,jV T (T.size-k) k st=(T.size,z)/\z.C=[]/\z.d=st.d.fV 107 K:=by
 have g:(fy K).data.toList.length=(fy K).size:=by rw[Ã];rfl
 have a:=h.C;rw[g]at a;rw[show T.size-k=0+1+(fy K).size by omega,Vo (want:=107) (tl:=[41]) b (ö U) c e K f h.I,Vp a (tl:=[]) U<|ö U];refine⟨_,ŕ ?_ U,U,U⟩;show k+(fy K).size+1=T.size;omega
def rC(h:n<1000000):(fy n).size<=6:=by unfold fy;rw[ù,ç,Lib.decDigits_length];exact Vm 5 n h
theorem adg{z:PS}{r:PR}(h:lI T=(T.size,z))(a:z.C=[])(b:z.d.C=[r])(c:T.size<=1200)(e:T.size≠0):gR T=(0,0,[r]):=by unfold gR lU;grind
def cT(i K:Nat):ByteArray:=⟨(99::49::58::99::62::98::40::((fy i).data.toList++44::((fy K).data.toList++[41]))).toArray⟩
def mT(K:Nat):ByteArray:=⟨(109::49::58::99::62::98::40::((fy K).data.toList++[41])).toArray⟩
def adh{l:List UInt8}:nn ⟨l.toArray⟩ 0 l:=⟨[],fq⟩
theorem Vq(b:i<1000000)(c:K<1000000):gR (cT i K)=(0,0,[⟨[2,1,i,K,4,1,0,0],[]⟩]):=by
 have h:(fy i).data.toList.length=(fy i).size:=by rw[Ã];rfl
 have j:(fy K).data.toList.length=(fy K).size:=by rw[Ã];rfl
 have d:(cT i K).size=7+((fy i).size+1+(fy K).size+1):=by unfold cT;rw[ù,ç];grind
 have a:nn (cT i K) 0 _:=adh;have l:=rC b;have m:=rC c;let⟨z,e,f,g⟩:=auq (T:=cT i K) (k:=7) (st:=⟨[110,44,107,41],0,0,40,⟨[],Ð,⟨[2,1,0,0,4,1,0,0],[]⟩,Ò,⟨[],⟨#[]⟩⟩⟩⟩) ⟨(λq=>by cases q),λ_=>(by show 4<=8;decide)⟩ U U b c a.r.r.r.r.r.r.r d;refine adg (z:=z) ?_ f (by rw[g];rfl) Z Z;unfold lI;rw[<-e,show(cT i K).size=(cT i K).size-7+1+1+1+1+1+1+1 by omega];rw[pn a U,pn a.r U,pn a.r.r U,pn a.r.r.r U,pn a.r.r.r.r U,pn a.r.r.r.r.r U,pn a.r.r.r.r.r.r U];rfl
theorem aus(b:K<1000000):gR (mT K)=(0,0,[⟨[2,1,0,K,5,1,0,0],[]⟩]):=by
 have g:(fy K).data.toList.length=(fy K).size:=by rw[Ã];rfl
 have c:(mT K).size=7+((fy K).size+1):=by unfold mT;rw[ù,ç];grind [ē,Ú,Ł]
 have a:nn (mT K) 0 _:=adh;have h:=rC b;let⟨z,d,e,f⟩:=aur (T:=mT K) (k:=7) (st:=⟨[107,41],0,0,40,⟨[],Ð,⟨[2,1,0,0,5,1,0,0],[]⟩,Ò,⟨[],⟨#[]⟩⟩⟩⟩) ⟨(λq=>by cases q),λ_=>(by show 4<=8;decide)⟩ U U b a.r.r.r.r.r.r.r c;refine adg (z:=z) ?_ e (by rw[f];rfl) Z Z;unfold lI;rw[<-d,show(mT K).size=(mT K).size-7+1+1+1+1+1+1+1 by omega];rw[pn a U,pn a.r U,pn a.r.r U,pn a.r.r.r U,pn a.r.r.r.r U,pn a.r.r.r.r.r U,pn a.r.r.r.r.r.r U];rfl
end
end Go.Proofs.Y.nQ
namespace Go.Proofs.Y.k9
open Go Go.Conc Go.Proofs Go.RowKit Go.Proofs.Y.Lift Go.Proofs.Y.fR Go.Proofs.Y.fx Go.Proofs.Y.nQ
open Go.Conc.Lib Go.ConcR.Gen Go.Proofs.YtgpphkdoanciiaaGreatDoor
def jx(p:ByteArray):fL:=(C6 (rP p) fR.je).getD fR.je
def aut(p:ByteArray):C6 (rP p) fR.je=Ä (jx p):=fw
def adi{p:ByteArray}(h:gR (iz p)=(0,0,[rP p])):lV [fR.je] (iz p)=(⟨#[49]⟩,0,[fR.je,jx p]):=by rw[auh h U U (v0:=fR.je) U A,aut];rfl
section
variable{K:Nat}{p:ByteArray}
theorem auu:lj (cT i K):=by unfold lj at*;simp[cT,NG i,NG K]
theorem Vr(a:i<1000000)(b:K<1000000):(cT i K).size<=21:=by
 have c:=rC a;have d:=rC b;have e:(fy i).data.toList.length=(fy i).size:=by rw[Ã];rfl
 have f:(fy K).data.toList.length=(fy K).size:=by rw[Ã];rfl
 unfold cT;rw[ù,ç];grind
def auv(a:K<1000000):(mT K).size<=21:=by
 have c:=rC a;have b:(fy K).data.toList.length=(fy K).size:=by rw[Ã];rfl
 unfold mT;rw[ù,ç];simp only[ē,Ú,b,Ł];omega
end
def adj(F:fR.me)(c:fR.RC)(P:ByteArray):∀(f:Nat) (a:Int) (t:fR.RT),(fR.qB F c P f a t).2.1=Ò->(fR.qB F c P f a t).1=0
 |0,a,t=>λ_=>rfl
 |f+1,a,t=>by
  unfold fR.qB;repeat' split
  all_goals first|exact adj F c P f _ _|exact λ_=>rfl|exact λh=>by cases h
def Ju{s:fR.St}{a:List (Nat×Int)}{k:Int}(h:(fR.fX s a i n c k).C=Ò):(fR.fX s a i n c k).M=0:=adj _ _ _ _ _ _ h
section
variable{s:fR.St}{x y:Nat}{k:Int}
def adk:∀(m i:Nat),(pO s x y k i m=⟨#[45]⟩/\∀j:Nat,i<=j->j<i+m->(fR.fX s [] x y j k).C=Ò)\/∃g:Nat,i<=g/\g<i+m/\pO s x y k i m=fy g/\(fR.fX s [] x y g k).C=Ð/\∀j:Nat,i<=j->j<g->(fR.fX s [] x y j k).C=Ò
 |0,i=>Ï ⟨U,λj a b=>by omega⟩
 |m+1,i=>by
  unfold pO;cases c:(fR.fX s [] x y i k).C with
  |true=>exact ö ⟨i,Ê _,Z,if_pos U,c,λj a b=>by omega⟩
  |false=>
   simp only[ī,if_false];rcases adk m (i+1)with⟨a,b⟩|⟨g,a,b,f,h,l⟩
   .refine Ï ⟨a,λj n d=> ?_⟩;by_cases e:j=i
    .rwa[e]
    .exact b j Z Z
   .refine ö ⟨g,Z,Z,f,h,λj n d=> ?_⟩;by_cases e:j=i
    .rwa[e]
    .exact l j Z d
end
def Jv(B:ByteArray)(l:List UInt8):Prop:=∃r,B.data.toList=l++r
theorem adl(r:fR.uU):(ou r).data.toList=(fy r.C.toNat).data.toList++44::((fy r.M.toNat).data.toList++44::((fy r.r.toNat).data.toList++ly ⟨#[44]⟩ (r.I.map oJ))):=by unfold ou iI;simp[Ft,ly]
theorem Vt:(fy 0).data.toList=[48]/\(fy 1).data.toList=[49]:=by decide+kernel
theorem auw{r:fR.uU}(h:r.C=Ð):Jv (ou r) [49,44]:=by refine⟨(fy r.M.toNat).data.toList++44::((fy r.r.toNat).data.toList++ly ⟨#[44]⟩ (r.I.map oJ)),?_⟩;grind [adl,Vt]
theorem Jw{r:fR.uU}(h:r.C=Ò)(a:r.M=0):Jv (ou r) [48,44,48,44]/\(r.r=0->Jv (ou r) [48,44,48,44,48]):=by
 have e:(ou r).data.toList=[48,44,48,44]++((fy r.r.toNat).data.toList++ly ⟨#[44]⟩ (r.I.map oJ)):=by grind [adl,Vt]
 refine⟨⟨_,e⟩,λb=>⟨ly ⟨#[44]⟩<|r.I.map oJ,?_⟩⟩;grind [Vt]
section
variable{M B C K:Nat}{p:ByteArray}
def oP(M B C K:Nat):List ByteArray:=[cT M K,cT B K,cT C K]
def NJ(M B C K:Nat):List PR:=[⟨[2,1,M,K,4,1,0,0],[]⟩,⟨[2,1,B,K,4,1,0,0],[]⟩,⟨[2,1,C,K,4,1,0,0],[]⟩]
def Vu(b:M<1000000)(c:B<1000000)(d:C<1000000)(a:K<1000000):(iI ⟨#[59]⟩<|oP M B C K).size<=1200:=by have e:=Nx ⟨#[59]⟩ U<|oP M B C K;have f:=Vr b a;have g:=Vr c a;have h:=Vr d a;have i:iQ (oP M B C K)=(cT M K).size+((cT B K).size+((cT C K).size+0)):=rfl;have j:(oP M B C K).length=3:=rfl;omega
theorem auy(b:M<1000000)(c:B<1000000)(d:C<1000000)(a:K<1000000):gR (iI ⟨#[59]⟩<|oP M B C K)=(0,0,NJ M B C K):=by
 refine auj ?_ (λP e=> ?_) (by simp[oP]) (by simp[oP])<|Vu b c d a
 .simp only[oP,NJ,æ,Į,Vq b a,Vq c a,Vq d a]
 .simp only[oP,Ĩ,ď,or_false]at e;grind [auu]
def FY(v:fL)(M B C K:Nat):List ByteArray:=[ou<|fR.fX v.s [] 2 1 M K,ou<|fR.fX v.s [] 2 1 B K,ou<|fR.fX v.s [] 2 1 C K]
def adn(e:M<=400)(f:B<=400)(g:C<=400)(a:K<1000000)(p:ByteArray):lV [fR.je,jx p] (iI ⟨#[59]⟩<|oP M B C K)=(iI ⟨#[59]⟩<|FY (jx p) M B C K,0,[fR.je,jx p]):=by
 rw[atQ (auy Z Z Z a) (by simp[NJ])];have b:mF (nP [fR.je,jx p]) 1=Ä (0,jx p):=Vi (n:=1) U;apply congrArg λl=>(iI ⟨#[59]⟩ l,(0:Int),[fR.je,jx p]);generalize jx p=v at*;have l:¬400<M:=Z
 have c:¬400<B:=Z
 have d:¬400<C:=Z
 simp only[NJ,FY,æ,Į,qF,toQn,ĥ,Ħ,b,Ao];simp[l,c,d]
def auz(a:K<1000000)(p:ByteArray):lV [fR.je,jx p] (mT K)=(pO (jx p).s 2 1 K 0 401,0,[fR.je,jx p]):=by rw[ac9<|aus a];have b:mF (nP [fR.je,jx p]) 1=Ä (0,jx p):=Vi (n:=1) U;unfold AA C5;generalize jx p=v at*;simp only[qF,toQn,ĥ,Ħ,b,Ao];simp
end
noncomputable def NK:Ť:=(Tryz.f16.body.bind fR.kv).getD .skip
def C7(B:ByteArray)(c:UInt8)(r:Bool)(i:Int)(u:Nat->Ö):ń:=⟨#[Â B,È Ŭ c.toNat,u 2,u 3,í r,È É i,u 6,u 7,u 8,u 9,u 10,u 11,u 12,u 13,u 14,u 15,u 16],[]⟩
def AF(B:ByteArray)(c:UInt8)(r:Bool)(i:Int)(a:ń):Prop:=∃u,a=C7 B c r i u
section
variable{Y:ń->Ô->Prop}{c:UInt8}
def auA(u:Nat->Ö)(b:∀a,AF B c Ò B.size a->H a w):ĕ À NK (Exit.then K<|QN H Y) (C7 B c Ò B.size u) w:=by
 unfold C7;conv=>arg 2;whnf
 go_wp2_with fail
 exact b _ (fR.gu _)
theorem auB(u:Nat->Ö)(i:Nat)(j:i<B.size)(e:B.size<=Ñ)(f:B[i]≠c->∀a,AF B c Ò ((i+1:Nat):Int) a->K a w)(g:B[i]=c->∀a,AF B c Ð i a->Y a w):ĕ À NK (Exit.then K<|QN H Y) (C7 B c Ò i u) w:=by
 unfold C7;conv=>arg 2;whnf
 have k:É.wrap ((i:Int)+1)=((i+1:Nat):Int):=by unfold Ñ at e;exact Ą _ ⟨Z,Z⟩
 have b:=fg<|Ø f g;clear f g e;by_cases d:B[i]=c
 .have h:((B[i].toNat:Int)==(c.toNat:Int))=Ð:=by rw[d];simp
  go_wp2_with fail
  exact b.out.2 d _ (fR.gu _)
 .have h:((B[i].toNat:Int)==(c.toNat:Int))=Ò:=by
   grind [þ]
  go_wp2_with fail
  exact b.out.1 d _ (fR.gu _)
def Vv(B:ByteArray)(c:UInt8)(yQ:Bool)(u:Ô)(a:ń)(w:Ô):Prop:=∃i:Nat,AF B c Ò i a/\i<=B.size/\decide (c∈B.data.toList.drop i)=yQ/\w=u
def HsE(B:ByteArray)(c:UInt8)(yQ:Bool)(u:Ô)(a:ń)(w:Ô):Prop:=AF B c Ò B.size a/\yQ=Ò/\w=u
def HsR(B:ByteArray)(c:UInt8)(yQ:Bool)(u:Ô)(a:ń)(w:Ô):Prop:=∃i:Nat,AF B c Ð i a/\yQ=Ð/\w=u
def yk(B:ByteArray)(a:ń)(_:Ô):Nat:=match a.tmps.getD 5 ÿ with
 |È _ i=>B.size-i.toNat
 |_=>0
def IC{r:Bool}(b:AF B c r i y):yk B y w=B.size-i:=by obtain⟨u,rfl⟩:=b;show B.size-(i:Int).toNat=_;simp
theorem auC(h:B.size<=Ñ)(a:ń)(w:Ô)(j:Vv B c yQ u a w): ĕ À NK (Exit.then (λb d=>Vv B c yQ u b d/\yk B b d<yk B a w)<|QN (HsE B c yQ u)<|HsR B c yQ u) a w:=by
 let⟨i,e,n,f,d⟩:=j;rw[IC e];obtain⟨b,rfl⟩:=e;by_cases l:i=B.size
 .subst l;refine auA b λa q=>⟨q,?_,d⟩;rw[<-f,Ė (by rw[Ã];exact Ê _)];rfl
 .have g:i<B.size:=Z
  have m:i<B.data.toList.length:=by rwa[Ã]
  rw[Ć m,show B.data.toList[i]=B[i] by rw[ê];rfl]at f;refine auB b i g h (λq a k=>⟨⟨i+1,k,Z,?_,d⟩,by rw[IC k];omega⟩) λq a k=>⟨i,k,?_,d⟩;all_goals grind
def auD(B:ByteArray)(c:UInt8)(d:B.size<=Ñ)(w:Ô):ő À 16 #[Â B,È Ŭ c.toNat] w λe f=>e=û (í<|decide<|c∈B.data.toList)/\f=w:=by
 have L:∀a,AF B c Ò (0:Nat) a->ĕ À (Ŧ NK) (QN (HsE B c (decide<|c∈B.data.toList) w)<|HsR B c (decide<|c∈B.data.toList) w) a w:=λa g=>
  wp_loop (Vv B c (decide<|c∈B.data.toList) w) (yk B) ⟨0,g,Í _,U,U⟩<|auC d
 have H:=fg L;generalize decide (c∈B.data.toList)=yQ at*;clear L;go_enter ŗ,Tryz.ntmps16;go_wp2_with fail;refine ŋ ?_ (H.out _ (fR.gu _));rintro(_|(_|_)|_|_|_|_) a v hq;all_goals first|exact absurd hq id|skip
 .obtain⟨b,rfl,rfl⟩:=hq;obtain⟨u,rfl⟩:=b;unfold C7;go_wp2_with fail;go_ret;exact⟨U,U⟩
 .obtain⟨i,b,rfl,rfl⟩:=hq;obtain⟨u,rfl⟩:=b;unfold C7;go_ret;exact⟨U,U⟩
end
def auE{l:ff}(e:gG l)(f:nB<=l.w.heap.size)(c:UInt8)(g:B.size<=Ñ)(a:Ĭ)(b:List Ĭ): fx.fl À Ð (λh u=>jv l h/\h.d=l.d/\u=G (a.finish<|í<|decide<|c∈B.data.toList) b) l (G (Ë À 16 #[Â B,È Ŭ c.toNat] ä)<|a::b):= CZ e f fS (λu h=>by simp at h;rcases h with rfl|rfl;exact .kz _;exact .iG _ _) (λh=>by cases h;rfl) (auD B c g) Ð a b
def auF{T:ByteArray}(h:Jv B T.data.toList)(b:B.size<=Ñ)(w:Ô):ő À 31 #[Â B,Â T] w λe a=>e=û (í Ð)/\a=w:=by
 let⟨r,e⟩:=h;have c:T.size<=B.size:=by have:=congrArg List.length e;rw[Ú,Ã,Ã]at this;simp_all
 have d:B.extract 0 T.size=T:=by refine á<|ã.1 ?_;simp_all
 clear e;go_enter ó,Tryz.ntmps31;go_wp2;all_goals go_ret
 simp_all
def tN(n:Nat)(l:List UInt8):Nat:=l.foldl (λn c=>10*n+(c.toNat-48)) n
def auG(g:Nat):tN 0 (fy g).data.toList=g:=by
 induction g using ü with
 |_ g a=>
  by_cases h:g<10
  .rw[C3 h,tL h];show 10*0+((ß<|48+g).toNat-48)=g;rw[FX h];omega
  .rw[FT h,Û,ħ,tL Z];unfold tN at a|-;rw[ĳ,a (g/10) Z];show 10*(g/10)+((ß<|48+g%10).toNat-48)=g;rw[FX Z];omega
def ado(g:Nat):∀c∈(fy g).data.toList,48<=c.toNat/\c.toNat<=57:=by
 induction g using ü with
 |_ g b=>
  by_cases h:g<10
  .rw[C3 h,tL h];intro c a;rw[ò.1 (show c∈[ß<|48+g]from a),FX h];omega
  .rw[FT h,Û,ħ,tL Z];intro c a;rcases ý.1 a with q|q
   .exact b (g/10) Z c q
   .rw[ò.1 (show c∈[ß<|48+g%10]from q),FX Z];omega
def FZ{l:ff}(b:gG l)(c:nB<=l.w.heap.size){S T:ByteArray}(h:Jv S T.data.toList)(e:S.size<=Ñ): fx.fl À Ð (λu a=>jv l u/\u.d=l.d/\a=G (f.finish<|í Ð) qX) l (G (Ë À 31 #[Â S,Â T] ä)<|f::qX):= CZ b c fS (λu a=>by simp at a;rcases a with rfl|rfl<;>exact .kz _) (λh=>by cases h;rfl) (auF h e) Ð f qX
theorem adp(n:Nat)(l:List UInt8)(c:UInt8):tN n (l++[c])=10*tN n l+(c.toNat-48):=by unfold tN;grind
def adq(s:ByteArray)(k:Nat)(h:k<s.size):s.data.toList.take (k+1)=s.data.toList.take k++[s[k]]:=by rw[List.take_succ_eq_append_getElem (by simpa using h)];rfl
def adr:∀(k:Nat) (T:ByteArray),k<=T.size->(∀c∈T.data.toList,48<=c.toNat/\c.toNat<=57)->tN 0 (T.data.toList.take k)<10^k
 |0,_,_,_=>Ğ
 |k+1,T,h,hd=>by have c:=adr k T (Nat.le_of_succ_le h) hd;rw[adq T k h,adp,Ō];have:=hd T[k] (by simp[ô]);omega
def auH(j:1<=B.size)(l:B.size<=6)(a:∀c∈B.data.toList,48<=c.toNat/\c.toNat<=57)(w:Ô): ő À 18 #[Â B] w λe d=>e=û (È É<|tN 0 B.data.toList)/\d=w:=by
 have b:=fg a;clear a;go_enter Ř,Tryz.ntmps18;go_wp2;go_loop [3,4] (λn i=>∃k:Nat,k<=B.size/\i=È É k/\n=È É (tN 0<|B.data.toList.take k)) λ_ i=>B.size-(intOf i).toNat
 case atStart=>exact⟨0,Í _,U,U⟩
 case round=>
  obtain⟨k,f,rfl,rfl⟩:=hrel;by_cases g:k<B.size
  .have m:tN 0 (B.data.toList.take k)<100000:=Nat.lt_of_lt_of_le (adr k B f b.out) (Nat.pow_le_pow_right A<|show k<=5 by omega);have h:Hid (tN 0 (B.data.toList.take<|k+1)=10*tN 0 (B.data.toList.take k)+(B[k].toNat-48)):=fg (by rw[adq B k g,adp]);have o:=b.out B[k] (by simp[ô]);generalize tN 0 (B.data.toList.take k)=x at*;have p:¬(B[k].toNat:Int)<48:=Z
   have q:¬(57:Int)<B[k].toNat:=Z
   go_wp2;go_round
   case rel=>exact⟨k+1,Z,by go_num,by rw[h.out];go_num⟩
   case measure=>simp[intOf];omega
  .rw[(List.take_of_length_le<|by simp;omega)];go_wp2;go_ret;exact⟨U,U⟩
def auI(g:Nat):1<=(fy g).size:=by
 by_cases h:g<10
 .rw[C3 h,tL h];exact Ê 1
 .rw[FT h,Æ,tL Z];exact Nat.le_add_left 1 _
def auJ{l:ff}(a:gG l)(b:nB<=l.w.heap.size){g:Nat}(c:g<1000000): fx.fl À Ð (λe h=>jv l e/\e.d=l.d/\h=G (f.finish<|È É g) qX) l (G (Ë À 18 #[Â<|fy g] ä)<|f::qX):= CZ a b fS (λu e=>by simp at e;subst e;exact .kz _) (λh=>by cases h;rfl) (λw=>(auH (auI g) (rC c) (ado g) w).mono λe h q=>by rwa[auG]at q) Ð f qX
section
variable{l:ff}
def auK(h:gG l)(p:nB<=l.w.heap.size)(r:B.size<=Ñ) (s:∀a,gG a->(∀b,l.O b->a.O b/\a.w.heap[b]?=l.w.heap[b]?)->l.w.heap.size<=a.w.heap.size->iM vQ a (G (f.at (y.put ((Q[i]?).bind (·.dst))<|Ş #[È É (gR B).1,È É (gR B).2.1])<|Ì Q jJ::L) qX)): iM vQ l (G (Ë À 25 #[Â B] ä)<|f.at y (Ì Q (i::jJ)::L)::qX):=by
 have hF:=trivial;rw[enter_at #[Â B] Ļ U];have e:(#[Â B]++Array.replicate (Tryz.f25.ntmps-(#[Â B]:Array Ö).size) ÿ:Array Ö)=#[Â B,ÿ,ÿ,ÿ,ÿ,ÿ,ÿ,ÿ,ÿ,ÿ,ÿ,ÿ,ÿ,ÿ,ÿ]:=fw
 rw[e];clear e;apply lB;apply fN (n:=20) h.r.r;repeat w_go fu
 refine Á λ_ _=> ?_;refine wG (f:=36) (args:=#[Â B]) U fS (by k_ne) h.r.r (λw=>by go_simp) (λw=>Ç U Tryz.func36 U U #[]) λx c=> ?_;have j:=h.C c;refine fx.fl.lL ?_<|aco j.r j.q (Å p c.r) r Ð _ _;rintro o z ⟨d,t,v,rfl,_⟩;have k:=jv.xT j d t;have m:∀b,l.O b->o.O b/\o.w.heap[b]?=l.w.heap[b]?:=λb q=>⟨d.O b q,(d.r.I b<|Ï q).trans<|c.I b<|Ï q⟩;have u:=Å c.r d.r.r;rw[ė];generalize(gR B).1=er at*;generalize(gR B).2.1=U6 at*;walk_nrm;apply fN (n:=40) k.r.r;repeat w_go fu
 u_in fu hF
 refine Ŕ U U Ļ U ⟨by u_nil,?_⟩;refine Á λ_ _=> ?_;exact .fD λC g=>⟨k.C g,U,s _ (k.C g) (λb q=>⟨(m b q).1,(g.I b<|Ï (m b q).1).trans (m b q).2⟩)<|Å u g.r⟩
end
def auL{T:ByteArray}(w:Ô)(h:B.size+T.size<=10^15):Sem.events À (Go.Op.stringOp BinOp.add B T) w #[]=#[]:=by
 have a:¬Ñ<B.size+T.size:=by unfold Ñ;omega
 simp[go_sem,Op.stringOp,a]
def lJ{J:Jd}{l:ff}{b:Frame}{a:Act}{ops:Array Oper}{i:Nat}{rest:List Nat}{k:List Item}{cs:List Frame}{o:Oper}{x y:Operand}(S T U:ByteArray)(hb:gG l)(hU:S++T=U)(h:S.size+T.size<=10^15)(hn:fx.fl Tryz.prog true J l (G (b.at (a.put o.dst<|.string U)<|.inRegion ops rest::k) cs)) (ho:ops[i]?=some o:=by rfl) (pC:o.op=.binOp .add 9 x y 9:=by rfl) (hx:a.eval x=.string S:=by rfl) (hy:a.eval y=.string T:=by rfl) (hw:Region.wanted o (yielded ops a.tmps)=true:=by rfl) (hk:b.kind≠.early:=by k_ne): fx.fl Tryz.prog true J l (G (b.at a<|.inRegion ops (i::rest)::k) cs):=by
 subst hU;have h2:¬9223372036854775807<S.size+T.size:=Z
 refine oa (v:=Â<|S++T) ho hw hk hb.r.r hb.q (λw _=> ?_) (λw _ e he=> ?_) hn
 .let⟨d,p,t,q,af,g⟩:=o;simp only at pC;subst pC;simp only[ĸ,hx,hy];go_simp
 .let⟨d,p,t,q,af,g⟩:=o;simp only at pC;subst pC;simp only[ĸ,hx,hy]at he;simp[go_sem,auL w h]at he
section
variable{l a:ff}{x:Nat}{s c:List fL}{k:List ş}{S p:ByteArray}
def ads(h:jC X W l x j s)(b:gG l)(o:B.size<=Ñ)(p:lV s B=(S,0,c)) (q:∀a,gG a->jC X W a x j c->iM vQ a (G (f.at (y.put ((Q[i]?).bind (·.dst))<|í Ð)<|Ì Q jJ::k) qX)): iM vQ l (G (Ë À 20 #[Ó<|Ä ⟨x,0,ð⟩,Â B,Â S] ä)<|f.at y (Ì Q (i::jJ)::k)::qX):=by
 have hF:True:=trivial;rw[wF [_,_,_] 19 ġ];simp only[ë,Ù,å];conv in kJ _ _=>whnf
 apply lB;apply fN (n:=60) b.r.r;repeat w_go fu
 refine Á λ_ _=> ?_;refine .fD λu d=>⟨b.C d,U,?_⟩;have m:=b.C d;refine wH (f:=17) (args:=#[Ó<|Ä ⟨x,0,ð⟩,Â B]) m U fS (by k_ne) (λw=>by go_simp) (λw=>Ç U ĺ U U #[]) λr w=> ?_;refine Vf ((h.r d).r w) (m.C w) o λv e g=> ?_;rw[p]at g|-;dsimp only at g|-;walk_nrm;apply lB;apply fN (n:=60) e.r.r;repeat w_nl fu
 u_in fu hF
 refine Ĉ (t:=6) U U ġ U ⟨by u_nil,?_⟩;refine Á λ_ _=> ?_;exact .fD λr w=>⟨e.C w,U,q _ (e.C w)<|g.r w⟩
def adt(r:gG l)(F:mQ l.w)(H:∀b,b=1\/b=2\/b=3\/b=4->l.O b)(hp:p.size<=10^14*2)(h:Int)(M:-9223372036854775808<=h)(N:h<=9223372036854775807)(z:lV [fR.je] (iz p)=(⟨#[49]⟩,0,c)) (P:∀a x j,gG a->jC l.O l.w a x j c->l.w.heap.size<=x->iM vQ a (G (f.at (y.put ((Q[i]?).bind (·.dst))<|Ó<|Ä ⟨x,0,ð⟩)<|Ì Q jJ::k) qX)): iM vQ l (G (Ë À 27 #[Â p,È É h] ä)<|f.at y (Ì Q (i::jJ)::k)::qX):=by
 have hF:True:=trivial;rw[wF [_,_] 17 Ģ];simp only[ë,Ù,å];conv in kJ _ _=>whnf
 apply lB;apply fN (n:=40) r.r.r;repeat w_go fu
 refine Á λ_ _=> ?_;refine .fD λw₁ B=>⟨r.C B,U,?_⟩;have I:=r.C B;refine wH (f:=15) (args:=#[È É h]) I U fS (by k_ne) (λw=>by go_simp) (λw=>Ç U Tryz.func15 U U #[]) λJ d=> ?_;have s:fI l l.w J:=B.fi ⟨d.r,d.I,d.N,d.Y,d.S⟩;refine ati (I.C d) (F.r (Å F.fA s.r) λb q=>s.I b<|Ï<|H b q) H h M N λS x j W V g m=> ?_;have X:l.w.heap.size<=x:=Å s.r m.I;have K:jC l.O l.w S x j [fR.je]:=⟨⟨W,V,m.r⟩,λb q=>⟨⟨(m.C b q).1,(m.C b q).2.trans<|s.I b<|Ï q⟩,by have:=r.r.fA b<|Ï q;omega⟩⟩;clear m;obtain⟨o,C⟩:∃T,(⟨#[105,48,58,97,47,98,123]⟩++p:ByteArray)=T:=⟨_,U⟩;obtain⟨u,D⟩:∃T,(o++⟨#[125]⟩:ByteArray)=T:=⟨_,U⟩;have Y:o.size=7+p.size:=by rw[<-C,Æ];rfl
 have z2:u.size=7+p.size+1:=by rw[<-D,Æ,Y];rfl
 have e2:iz p=u:=by rw[<-D,<-C];rfl
 rw[e2]at z;walk_nrm;apply lB;apply fN (n:=40) g.r.r;repeat w_go fu
 refine Á λ_ _=> ?_;apply oa (v:=í Ò) U fS (by k_ne) g.r.r g.q (λw _=>by go_simp) (λw _ e E=>by simp[go_sem,Ny]at E);walk_nrm;apply fN (n:=60) g.r.r;repeat w_nl fu
 refine Á λ_ _=> ?_;refine lJ ⟨#[105,48,58,97,47,98,123]⟩ p o g C (by show 7+p.size<=_;omega) ?_;walk_nrm;refine lJ o ⟨#[125]⟩ u g D (by show o.size+1<=_;omega) ?_;walk_nrm;refine .fD λacH e=>⟨g.C e,U,?_⟩;refine wH (f:=20) (args:=#[Ó<|Ä ⟨x,0,ð⟩,Â u,Â ⟨#[49]⟩]) (g.C e) U fS (by k_ne) (λw=>by go_simp) (λw=>Ç U ġ U U #[]) λrh L=> ?_;refine ads ((K.r e).r L) ((g.C e).C L) (by unfold Ñ;omega) z λl6 E u6=> ?_;clear K z;walk_nrm;apply lB;apply fN (n:=60) E.r.r;repeat w_nl fu
 u_in fu hF
 refine Ĉ (t:=4) U U Ģ U ⟨by u_nil,?_⟩;refine Á λ_ _=> ?_;exact .fD λJ d=>⟨E.C d,U,P _ _ _ (E.C d) (u6.r d) X⟩
end
def rD(c:Int)(n:Nat):Nat:=((if c<0 then-(c+1)else c)%(n:Int)).toNat
def NL(c:Int)(h:0<n):rD c n<n:=by unfold rD;have a:=Int.emod_lt_of_pos (if c<0 then-(c+1)else c) (show(0:Int)<n by omega);have b:=Ę (if c<0 then-(c+1)else c) (show(n:Int)≠0 by omega);omega
def adu(c:Int)(f:-9223372036854775808<=c)(g:c<=9223372036854775807)(i:0<n)(j:n<=1000000)(w:Ô):ő À 30 #[È É c,È É n] w λe d=>e=û (È É<|rD c n)/\d=w:=by
 have k:((n:Int)==0)=Ò:=by simp;omega
 have b:(n:Int)≠0:=Z
 unfold rD;by_cases h:c<0
 .rw[if_pos h];have a:=Ę (-(c+1)) b;have e:-(c+1).tmod n=(-(c+1))%n:=by rw[<-Int.neg_tmod,é Z]
  have H:=fg<|Ø e.symm a;clear e a;go_enter ģ,ō;go_wp2;go_ret;exact⟨by rw[Int.toNat_of_nonneg H.out.2,H.out.1];rfl,U⟩
 .rw[if_neg h];have a:=Ę c b;have e:c.tmod n=c%n:=é Z;have H:=fg<|Ø e.symm a;clear e a;go_enter ģ,ō;go_wp2;go_ret;exact⟨congrArg (λz=>û<|È É z) (Int.max_eq_left H.out.2).symm,U⟩
def auM(c:Int)(b:-9223372036854775808<=c)(d:c<=9223372036854775807)(w:Ô):ő À 29 #[È É c] w λe a=>e=û (Â<|fy<|rD c 1000000)/\a=w:=by
 have g:=NL c (n:=1000000) A;have h:Ā.wrap ((rD c 1000000:Nat):Int)=(rD c 1000000:Nat):=by rw[ú];omega
 have H:=fg<|Ø (adu c b d (n:=1000000) A A w)<|acZ (rD c 1000000) Z w;generalize rD c 1000000=m at*;go_enter ř,Tryz.ntmps29;go_wp2_with (first|(go_at_call 30;refine H.out.1.mono ?_;rintro e a ⟨rfl,f⟩;subst a)|(go_at_call 21;refine H.out.2.mono ?_;rintro e a ⟨rfl,f⟩;subst a));go_ret;exact⟨U,U⟩
section
variable{l a:ff}{x:Nat}{s o:List fL}{k:List ş}{p:ByteArray}{g:Ĭ}
def adv(b:gG l)(e:nB<=l.w.heap.size)(c:Int)(f:-9223372036854775808<=c)(i:c<=9223372036854775807)(j:0<n)(k:n<=1000000): fx.fl À Ð (λa h=>jv l a/\a.d=l.d/\h=G (g.finish<|È É<|rD c n) qX) l (G (Ë À 30 #[È É c,È É n] ä)<|g::qX):= CZ b e fS (λu h=>by simp at h;rcases h with rfl|rfl<;>exact .iG _ _) (λh=>by cases h;rfl) (adu c f i j k) Ð g qX
def auN(b:gG l)(e:nB<=l.w.heap.size)(c:Int)(f:-9223372036854775808<=c)(i:c<=9223372036854775807): fx.fl À Ð (λa h=>jv l a/\a.d=l.d/\h=G (g.finish<|Â<|fy<|rD c 1000000) qX) l (G (Ë À 29 #[È É c] ä)<|g::qX):= CZ b e fS (λu h=>by simp at h;subst h;exact .iG _ _) (λh=>by cases h;rfl) (auM c f i) Ð g qX
def Vw(b:gG l)(c:nB<=l.w.heap.size)(e:n<18446744073709551616): fx.fl À Ð (λa h=>jv l a/\a.d=l.d/\h=G (g.finish<|Â<|fy n) qX) l (G (Ë À 21 #[È Ā n] ä)<|g::qX):= CZ b c fS (λu h=>by simp at h;subst h;exact .iG _ _) (λh=>by cases h;rfl) (acZ n e) Ð g qX
def auO(d:gG l)(C:nB<=l.w.heap.size)(V:p.size<=10^14*2) (e:∀a,gG a->(∀b,l.O b->a.O b/\a.w.heap[b]?=l.w.heap[b]?)->l.w.heap.size<=a.w.heap.size->iM vQ a (G (f.at (y.put ((Q[i]?).bind (·.dst))<|í<|decide ((gR<|iz p).1=0)&&!decide (125∈p.data.toList))<|Ì Q jJ::k) qX)): iM vQ l (G (Ë À 28 #[Â p] ä)<|f.at y (Ì Q (i::jJ)::k)::qX):=by
 have hF:True:=trivial;obtain⟨m,v⟩:∃T,(⟨#[105,48,58,97,47,98,123]⟩++p:ByteArray)=T:=⟨_,U⟩;obtain⟨g,x⟩:∃T,(m++⟨#[125]⟩:ByteArray)=T:=⟨_,U⟩;have M:m.size=7+p.size:=by rw[<-v,Æ];rfl
 have W:g.size=7+p.size+1:=by rw[<-x,Æ,M];rfl
 have N:iz p=g:=by rw[<-x,<-v];rfl
 rw[N]at e;rw[wF [_] 20 Ĥ];simp only[ë,Ù,å];conv in kJ _ _=>whnf
 apply lB;apply fN (n:=60) d.r.r;repeat w_go fu
 refine Á λ_ _=> ?_;refine lJ ⟨#[105,48,58,97,47,98,123]⟩ p m d v (by show 7+p.size<=_;omega) ?_;walk_nrm;refine lJ m ⟨#[125]⟩ g d x (by show m.size+1<=_;omega) ?_;walk_nrm;refine .fD λX o=>⟨d.C o,U,?_⟩;refine wH (f:=25) (args:=#[Â g]) (d.C o) U fS (by k_ne) (λw=>by go_simp) (λw=>Ç U Ļ U U #[]) λD c=> ?_;have F:=Å o.r c.r;refine auK ((d.C o).C c) (Å C F) (by unfold Ñ;omega) λP u H I=> ?_;obtain⟨E,S⟩:∃E,(gR g).1=E:=⟨_,U⟩;rw[S]at e|-;generalize(gR g).2.1=U6;walk_nrm;apply lB;apply fN (n:=60) u.r.r;repeat w_nl fu
 refine Á λ_ _=> ?_;refine wG (f:=16) (args:=#[Â p,È Ŭ 125]) U fS (by k_ne) u.r.r (λw=>by go_simp) (λw=>Ç U ŗ U U #[]) λY r=> ?_;have J:l.w.heap.size<=P.w.heap.size:=Å F I;refine fx.fl.lL ?_ (auE (u.C r) (Å C<|Å J r.r) 125 (by unfold Ñ;omega) _ _);rintro z g5 ⟨s,K,rfl⟩;have h:=jv.xT (u.C r) s K;have j:∀b,l.O b->z.O b/\z.w.heap[b]?=l.w.heap[b]?:=λb q=>by let⟨B,L⟩:=H b q;exact⟨s.O b B,(s.r.I b<|Ï B).trans<|(r.I b<|Ï B).trans<|L.trans<|(c.I b<|Ï q).trans<|o.I b<|Ï q⟩
 have L:l.w.heap.size<=z.w.heap.size:=Å J<|Å r.r s.r.r;rw[ė];generalize decide (125∈p.data.toList)=hs at*;clear H I s K;by_cases B:E=0
 .subst B;rw[decide_eq_true U,Bool.true_and]at e;walk_nrm;apply fN (n:=60) h.r.r;repeat w_nl fu
  u_in fu hF
  refine Ĉ (t:=2) U U Ĥ U ⟨by u_nil,?_⟩;refine Á λ_ _=> ?_;exact .fD λD c=>⟨h.C c,U,e _ (h.C c) (λb q=>⟨(j b q).1,(c.I b<|Ï (j b q).1).trans (j b q).2⟩)<|Å L c.r⟩
 .rw[decide_eq_false B,Bool.false_and]at e;have ll:(E==0)=Ò:=by rwa[beq_eq_false_iff_ne]
  walk_nrm;apply fN (n:=60) h.r.r;repeat w_nl fu
  u_in fu hF
  refine Ĉ (t:=2) U U Ĥ U ⟨by u_nil,?_⟩;refine Á λ_ _=> ?_;exact .fD λD c=>⟨h.C c,U,e _ (h.C c) (λb q=>⟨(j b q).1,(c.I b<|Ï (j b q).1).trans (j b q).2⟩)<|Å L c.r⟩
end
def oy(S T:ByteArray):∃a,S++T=a/\a.size=S.size+T.size:=⟨_,U,Æ⟩
def auP(r:fR.uU):lj (ou r):=atW λx a=>by
 rcases ý.1 a with z|z
 .simp at z;rcases z with rfl|rfl|rfl<;>exact NG _
 .exact atZ _ atY _ x z
def auQ(K:Nat):((⟨#[109,49,58,99,62,98,40]⟩++fy K)++⟨#[41]⟩:ByteArray)=mT K:=á<|ã.1<|by simp[mT,Û]
def adw:fy 400=⟨#[52,48,48]⟩/\fy 0=⟨#[48]⟩:=by decide+kernel
def adx(v:fL)(a B C K:Nat):∀x∈FY v a B C K,lj x:=λx b=>by simp only[FY,Ĩ,ď,or_false]at b;rcases b with rfl|rfl|rfl<;>exact auP _
def auR(N K:Nat):((((((((⟨#[99,49,58,99,62,98,40,52,48,48,44]⟩++fy K)++⟨#[41,59,99,49,58,99,62,98,40,48,44]⟩)++fy K)++⟨#[41,59,99,49,58,99,62,98,40]⟩)++fy N)++⟨#[44]⟩)++fy K)++⟨#[41]⟩:ByteArray)=iI ⟨#[59]⟩ (oP 400 0 N K):=á<|ã.1<|by simp[oP,iI,Ft,ly,cT,adw.1,adw.2,Û]
def auS{s:List fL}(h:lC s){v:fL}(a:v∈s){K:Nat}(b:K<1000000):(fR.fX v.s [] 2 1 (0:Nat) K).r=0:=by have q:=Ix v.s [] 2 1 0 K (h.r v a).2.1 A A ⟨Z,Z⟩ A A A;have:=q.C;have:=q.r;show(fR.fX v.s [] 2 1 0 K).r=0;omega
def ady(a b c:ByteArray):(iI ⟨#[59]⟩ [a,b,c]).size=a.size+b.size+c.size+2:=by show(iI ⟨#[59]⟩ [a,b,c]).data.size=a.data.size+b.data.size+c.data.size+2;simp[iI,Ft,ly];omega
noncomputable def dA:Ť:=kJ Ś [1,1,1,1,1,1,1,1,1,1,1,0,1,0]
noncomputable def dB:Ť:=kJ Ś [1,1,1,1,1,1,1,1,1,1,1,1]
noncomputable def vU (a:Array Ö):Ķ:=G ((base 11).at ⟨a,[]⟩ [Œ dA,Œ dB]) []
section
variable{l:ff}{x:Nat}{s:List fL}{p:ByteArray}
def auT(h:jC X W l x i [fR.je,jx p])(hb:gG l)(hs:d.size=162)(f:Int){K:Nat}(y:K<1000000)(t2:d[2]?=Ä (È É f))(t12:d[12]?=Ä (Ó<|Ä ⟨x,0,ð⟩))(t13:d[13]?=Ä (Â<|fy K))(g0:-9223372036854775808<=f)(g1:f<=9223372036854775807) (g:∀j:Nat,j<401->(fR.fX (jx p).s [] 2 1 j K).C=Ò) (hP:∀c,gG c->jC X W c x i [fR.je,jx p]->vQ (í Ð) c.w):iM vQ l (vU d):=by
 have hF:True:=trivial;obtain⟨u,rfl⟩:=uJ d hs;have e2:u 2=È É f:=by simpa using t2
 have Vx:u 12=Ó (Ä ⟨x,0,ð⟩):=by simpa using t12
 have Vy:u 13=Â (fy K):=by simpa using t13
 clear t2 t12 t13 hs;have adz:=NL f (n:=401) A;apply lB;apply fN (n:=60) hb.r.r;simp only[vU,ñ,î,İ,e2,Vx,Vy];conv in dA=>whnf
 repeat w_go fu
 refine Á λ_ _=> ?_;refine qo h hb ģ (λc a b z D=>adv (n:=401) a b f g0 g1 A A) λl4 O u4 _=> ?_;clear h;generalize rD f 401=N at*;have hwN:Ā.wrap (N:Int)=N:=by rw[ú];omega
 walk_nrm;apply oa (v:=È Ā N) U fS (by k_ne) O.r.r O.q (λw _=>by go_simp) (λw _ e k=>by simp[go_sem]at k);walk_nrm;refine qo u4 O ĝ (λc a b z D=>Vw (n:=N) a b Z) λl6 e E _=> ?_;clear u4;have F:=adn (M:=400) (B:=0) (C:=N) (K:=K) A A Z y p;have m:=acG E.I<|iI ⟨#[59]⟩<|oP 400 0 N K;rw[F]at m;have Ce:=Vu (M:=400) (B:=0) (C:=N) (K:=K) A A Z y;have P:=auR N K;have d1:=rC (n:=N) Z;have d2:=rC (n:=K) y;have Q:=adx (jx p) 400 0 N K;have b1:=(Jw (g 400 A)<|Ju<|g 400 A).1;have b2:=(Jw (g 0 A)<|Ju<|g 0 A).2<|auS E.I fq y;have b3:=(Jw (g N adz)<|Ju<|g N adz).1;unfold FY at F m Q;generalize ou (fR.fX (jx p).s [] 2 1 (400:Nat) K)=A1 at*;generalize ou (fR.fX (jx p).s [] 2 1 (0:Nat) K)=A2 at*;generalize ou (fR.fX (jx p).s [] 2 1 N K)=A3 at*;generalize iI ⟨#[59]⟩ (oP 400 0 N K)=J at*;have hz:=ady A1 A2 A3;have G:=fg<|Ø F<|Ø m Q;obtain⟨z1,z2,z3⟩:A1.size<=10^12/\A2.size<=10^12/\A3.size<=10^12:=by change(iI ⟨#[59]⟩ [A1,A2,A3]).size<=_ at m;omega
 clear F m Q g hz;generalize fy N=DN at*;generalize fy K=DK at*;let⟨k,V,y1⟩:=oy ⟨#[99,49,58,99,62,98,40,52,48,48,44]⟩ DK;let⟨H,Y,y2⟩:=oy k ⟨#[41,59,99,49,58,99,62,98,40,48,44]⟩;let⟨o,C8,y3⟩:=oy H DK;let⟨I,C9,y4⟩:=oy o ⟨#[41,59,99,49,58,99,62,98,40]⟩;let⟨r,Da,y5⟩:=oy I DN;let⟨L,Db,y6⟩:=oy r ⟨#[44]⟩;let⟨T7,Dc,y7⟩:=oy L DK;rw[V,Y,C8,C9,Da,Db,Dc]at P;change k.size=11+DK.size at y1;change H.size=k.size+11 at y2;change I.size=o.size+9 at y4;change L.size=r.size+1 at y6;walk_nrm;apply fN (n:=60) e.r.r;repeat w_nl fu
 refine Á λ_ _=> ?_;refine lJ _ DK k e V (by show 11+DK.size<=_;omega) ?_;walk_nrm;refine lJ k _ H e Y (by show k.size+11<=_;omega) ?_;walk_nrm;apply fN (n:=60) e.r.r;repeat w_nl fu
 refine Á λ_ _=> ?_;apply lJ H DK o e C8 Z;walk_nrm;refine lJ o _ I e C9 (by show o.size+9<=_;omega) ?_;walk_nrm;apply fN (n:=60) e.r.r;repeat w_nl fu
 refine Á λ_ _=> ?_;apply lJ I DN r e Da Z;walk_nrm;refine lJ r _ L e Db (by show r.size+1<=_;omega) ?_;walk_nrm;apply fN (n:=60) e.r.r;repeat w_nl fu
 refine Á λ_ _=> ?_;apply lJ L DK T7 e Dc Z;walk_nrm;refine lJ T7 _ J e P (by show T7.size+1<=_;omega) ?_;walk_nrm;refine Jt E e ğ (args:=#[Ó<|Ä ⟨x,0,ð⟩,Â J,È É 3]) λl8 Jx u8 _ _=> ?_;refine ac7 (n:=2) u8 Jx (by unfold Ñ;omega) G.out.1 G.out.2.2 U G.out.2.1 λl9 kb ck Dd h9 hT=> ?_;have T9:=fg hT;clear G hT u8 V Y C8 C9 Da Db Dc P E;walk_nrm;apply U1;apply fN (n:=60) Dd.r.r;repeat w_nl fu
 refine Á λ_ _=> ?_;apply FW Dd T9.out 0 U;walk_nrm;refine qo h9 Dd ó (λc a b z D=>FZ a b (S:=A1) (T:=⟨#[48,44,48,44]⟩) b1<|by unfold Ñ;omega) λl10 Vz zO g10=> ?_;have De:=fg<|T9.out.r g10;clear h9 T9;walk_nrm;apply fN (n:=60) Vz.r.r;repeat w_nl fu
 refine Á λ_ _=> ?_;apply FW Vz De.out 1 U;walk_nrm;refine qo zO Vz ó (λc a b z D=>FZ a b (S:=A2) (T:=⟨#[48,44,48,44,48]⟩) b2<|by unfold Ñ;omega) λl11 wM ER g11=> ?_;have Df:=fg<|De.out.r g11;clear zO De;walk_nrm;apply fN (n:=60) wM.r.r;repeat w_nl fu
 refine Á λ_ _=> ?_;apply FW wM Df.out 2 U;walk_nrm;refine qo ER wM ó (λc a b z D=>FZ a b (S:=A3) (T:=⟨#[48,44,48,44]⟩) b3<|by unfold Ñ;omega) λl12 a z D=> ?_;have T12:=fg<|Df.out.r D;clear ER Df;walk_nrm;apply fN (n:=60) a.r.r;repeat w_nl fu
 refine Á λ_ _=> ?_;exact .fD λzt b=>⟨U,í Ð,λw=>Nz (t:=8) U U ċ U fw,hP _ (a.C b)<|z.r b⟩
end
def auU(M B C K:Nat):((((((((((((⟨#[99,49,58,99,62,98,40]⟩++fy M)++⟨#[44]⟩)++fy K)++⟨#[41,59,99,49,58,99,62,98,40]⟩)++fy B)++⟨#[44]⟩)++fy K)++⟨#[41,59,99,49,58,99,62,98,40]⟩)++fy C)++⟨#[44]⟩)++fy K)++⟨#[41]⟩:ByteArray)=iI ⟨#[59]⟩ (oP M B C K):=á<|ã.1<|by simp[oP,iI,Ft,ly,cT,Û]
noncomputable def eA:Ť:=kJ Ś [1,1,1,1,1,1,1,1,1,1,1,1,1,1,1,1,1]
noncomputable def vW (a:Array Ö):Ķ:=G ((base 11).at ⟨a,[]⟩ [Œ eA]) []
section
variable{l:ff}{x:Nat}{s:List fL}{p:ByteArray}
def adA(h:jC X W l x i [fR.je,jx p])(e:gG l)(hs:d.size=162){K M B C:Nat}(Q:K<1000000)(hA:M<401)(hB:B<401)(hC:C<401)(t12:d[12]?=Ä (Ó<|Ä ⟨x,0,ð⟩))(t13:d[13]?=Ä (Â<|fy K))(t14:d[14]?=Ä (Â<|fy M))(t19:d[19]?=Ä (È É M))(t20:d[20]?=Ä (È É C))(t21:d[21]?=Ä (È É B)) (hw:(fR.fX (jx p).s [] 2 1 M K).C=Ð) (m:M≠0->(fR.fX (jx p).s [] 2 1 B K).C=Ò/\(fR.fX (jx p).s [] 2 1 C K).C=Ò) (hP:∀f,gG f->jC X W f x i [fR.je,jx p]->vQ (í Ð) f.w):iM vQ l (vW d):=by
 have hF:True:=trivial;obtain⟨u,rfl⟩:=uJ d hs;have Vx:u 12=Ó (Ä ⟨x,0,ð⟩):=by simpa using t12
 have Vy:u 13=Â (fy K):=by simpa using t13
 have e14:u 14=Â (fy M):=by simpa using t14
 have e19:u 19=È É M:=by simpa using t19
 have e20:u 20=È É C:=by simpa using t20
 have e21:u 21=È É B:=by simpa using t21
 clear t12 t13 t14 t19 t20 t21 hs;have hwB:Ā.wrap (B:Int)=B:=by rw[ú];omega
 have hwC:Ā.wrap (C:Int)=C:=by rw[ú];omega
 have E:=adn (M:=M) (B:=B) (C:=C) (K:=K) Z Z Z Q p;have o:=acG h.I<|iI ⟨#[59]⟩<|oP M B C K;rw[E]at o;have Ce:=Vu (M:=M) (B:=B) (C:=C) (K:=K) Z Z Z Q;have V:=auU M B C K;have d1:=rC (n:=M) Z;have d2:=rC (n:=B) Z;have d3:=rC (n:=C) Z;have d4:=rC (n:=K) Q;have Y:=adx (jx p) M B C K;have b1:=auw hw;have b2:=λq=>(Jw (m q).1<|Ju (m q).1).1;have b3:=λq=>(Jw (m q).2<|Ju (m q).2).1;unfold FY at E o Y;generalize ou (fR.fX (jx p).s [] 2 1 M K)=A1 at*;generalize ou (fR.fX (jx p).s [] 2 1 B K)=A2 at*;generalize ou (fR.fX (jx p).s [] 2 1 C K)=A3 at*;generalize iI ⟨#[59]⟩ (oP M B C K)=J at*;have hz:=ady A1 A2 A3;have F:=fg<|Ø E<|Ø o Y;have HB:=fg<|Ø b2 b3;obtain⟨z1,z2,z3⟩:A1.size<=10^12/\A2.size<=10^12/\A3.size<=10^12:=by change(iI ⟨#[59]⟩ [A1,A2,A3]).size<=_ at o;omega
 clear E o Y m hz hw b2 b3;let⟨j,hT1,y1⟩:=oy ⟨#[99,49,58,99,62,98,40]⟩<|fy M;let⟨G,D3,y2⟩:=oy j ⟨#[44]⟩;let⟨r,C8,y3⟩:=oy G<|fy K;let⟨H,C9,y4⟩:=oy r ⟨#[41,59,99,49,58,99,62,98,40]⟩;let⟨v,Da,y5⟩:=oy H<|fy B;let⟨I,Db,y6⟩:=oy v ⟨#[44]⟩;let⟨y,Dc,y7⟩:=oy I<|fy K;let⟨L,VA,y8⟩:=oy y ⟨#[41,59,99,49,58,99,62,98,40]⟩;let⟨a,VB,y9⟩:=oy L<|fy C;let⟨N,VC,ya⟩:=oy a ⟨#[44]⟩;let⟨Tb,wC,yb⟩:=oy N<|fy K;rw[hT1,D3,C8,C9,Da,Db,Dc,VA,VB,VC,wC]at V;change j.size=7+(fy M).size at y1;change G.size=j.size+1 at y2;change H.size=r.size+9 at y4;change I.size=v.size+1 at y6;change L.size=y.size+9 at y8;change N.size=a.size+1 at ya;generalize hDA:fy M=DA at*;generalize VD:fy K=DK at*;apply lB;apply fN (n:=60) e.r.r;simp only[vW,ñ,î,İ,Vx,Vy,e14,e19,e20,e21];conv in eA=>whnf
 repeat w_go fu
 refine Á λ_ _=> ?_;refine lJ _ DA j e hT1 (by show 7+DA.size<=_;omega) ?_;walk_nrm;refine lJ j _ G e D3 (by show j.size+1<=_;omega) ?_;walk_nrm;apply fN (n:=60) e.r.r;repeat w_nl fu
 refine Á λ_ _=> ?_;apply lJ G DK r e C8 Z;walk_nrm;refine lJ r _ H e C9 (by show r.size+9<=_;omega) ?_;walk_nrm;apply fN (n:=60) e.r.r;repeat w_nl fu
 refine Á λ_ _=> ?_;refine qo h e ĝ (λf b c O P=>Vw (n:=B) b c Z) λl5 g u5 _=> ?_;clear h;walk_nrm;apply lJ H (fy B) v g Da Z;walk_nrm;refine lJ v _ I g Db (by show v.size+1<=_;omega) ?_;walk_nrm;apply fN (n:=60) g.r.r;repeat w_nl fu
 refine Á λ_ _=> ?_;apply lJ I DK y g Dc Z;walk_nrm;refine lJ y _ L g VA (by show y.size+9<=_;omega) ?_;walk_nrm;apply fN (n:=60) g.r.r;repeat w_nl fu
 refine Á λ_ _=> ?_;refine qo u5 g ĝ (λf b c O P=>Vw (n:=C) b c Z) λl6 k u6 _=> ?_;clear u5;walk_nrm;apply lJ L (fy C) a k VB Z;walk_nrm;refine lJ a _ N k VC (by show a.size+1<=_;omega) ?_;walk_nrm;apply fN (n:=60) k.r.r;repeat w_nl fu
 refine Á λ_ _=> ?_;apply lJ N DK Tb k wC Z;walk_nrm;refine lJ Tb _ J k V (by show Tb.size+1<=_;omega) ?_;walk_nrm;refine Jt u6 k ğ (args:=#[Ó<|Ä ⟨x,0,ð⟩,Â J,È É 3]) λl8 Jx u8 _ _=> ?_;refine ac7 (n:=2) u8 Jx (by unfold Ñ;omega) F.out.1 F.out.2.2 U F.out.2.1 λl9 kb ck Dd h9 hT=> ?_;have a:=fg hT;clear F hT u8 hT1 D3 C8 C9 Da Db Dc VA VB VC wC V u6;walk_nrm;apply U1;apply fN (n:=60) Dd.r.r;repeat w_nl fu
 refine Á λ_ _=> ?_;apply FW Dd a.out 0 U;walk_nrm;refine qo h9 Dd ó (λf b c O P=>FZ b c (S:=A1) (T:=⟨#[49,44]⟩) b1<|by unfold Ñ;omega) λl10 z zO g10=> ?_;have De:=fg<|a.out.r g10;clear h9 a;walk_nrm;by_cases VE:M=0
 .have k0:((M:Int)==0)=Ð:=by rw[VE];rfl
  have k1:(M:Int)=0:=Z
  apply fN (n:=60) z.r.r;repeat w_nl fu
  refine Á λ_ _=> ?_;exact .fD λzt D=>⟨U,í Ð,λw=>Nz (t:=8) U U ċ U fw,hP _ (z.C D)<|zO.r D⟩
 .have k0:((M:Int)==0)=Ò:=by rw[beq_eq_false_iff_ne];omega
  have c2:=HB.out.1 VE;have c3:=HB.out.2 VE;have k1:¬(M:Int)=0:=Z
  apply fN (n:=60) z.r.r;repeat w_nl fu
  refine Á λ_ _=> ?_;apply FW z De.out 1 U;walk_nrm;refine qo zO z ó (λf b c O P=>FZ b c (S:=A2) (T:=⟨#[48,44,48,44]⟩) c2<|by unfold Ñ;omega) λl11 wM ER g11=> ?_;have Df:=fg<|De.out.r g11;clear zO De;walk_nrm;apply fN (n:=60) wM.r.r;repeat w_nl fu
  refine Á λ_ _=> ?_;apply FW wM Df.out 2 U;walk_nrm;refine qo ER wM ó (λf b c O P=>FZ b c (S:=A3) (T:=⟨#[48,44,48,44]⟩) c3<|by unfold Ñ;omega) λP b c O=> ?_;have T12:=fg<|Df.out.r O;clear ER Df;walk_nrm;apply fN (n:=60) b.r.r;repeat w_nl fu
  refine Á λ_ _=> ?_;exact .fD λzt D=>⟨U,í Ð,λw=>Nz (t:=8) U U ċ U fw,hP _ (b.C D)<|c.r D⟩
end
noncomputable def nAt (a:Array Ö):Ķ:=G ((base 11).at ⟨a,[]⟩ [Œ dB]) []
section
variable{l:ff}{x:Nat}{s:List fL}{p:ByteArray}
def auV(h:jC X W l x i [fR.je,jx p])(r:gG l)(t:d.size=162)(a:Int){K g:Nat}(v:K<1000000)(I:g<401)(y:d[2]?=Ä (È É a))(z:d[12]?=Ä (Ó<|Ä ⟨x,0,ð⟩))(D:d[13]?=Ä (Â<|fy K))(E:d[14]?=Ä (Â<|fy g))(g0:-9223372036854775808<=a)(J:a<=9223372036854775807) (F:(fR.fX (jx p).s [] 2 1 g K).C=Ð) (G:∀j:Nat,j<g->(fR.fX (jx p).s [] 2 1 j K).C=Ò) (H:∀b,gG b->jC X W b x i [fR.je,jx p]->vQ (í Ð) b.w):iM vQ l (nAt d):=by
 have hF:True:=trivial;obtain⟨u,rfl⟩:=uJ d t;have L:u 2=È É a:=by simpa using y
 have O:u 12=Ó (Ä ⟨x,0,ð⟩):=by simpa using z
 have P:u 13=Â (fy K):=by simpa using D
 have Q:u 14=Â (fy g):=by simpa using E
 clear y z D E t;have e:=fg<|Ø F G;clear F G;apply lB;apply fN (n:=60) r.r.r;simp only[nAt,ñ,î,İ,L,O,P,Q];conv in dB=>whnf
 repeat w_go fu
 refine Á λ_ _=> ?_;refine qo h r Ř (λb f k S T=>auJ f k (g:=g) Z) λY c m _=> ?_;clear h;have k1:¬(g:Int)<0:=Z
 have k2:¬(400:Int)<g:=Z
 have k3:(g:Int)<=400:=Z
 walk_nrm;by_cases V:g=0
 .subst V;apply fN (n:=60) c.r.r;iterate 30 w_nl fu
  refine Á λ_ _=> ?_;refine .fD λrh o=>⟨c.C o,U,?_⟩;refine adA (p:=p) (M:=0) (B:=0) (C:=0) (K:=K) (m.r o) (c.C o) ?_ v A A A ?_ ?_ ?_ ?_ ?_ ?_ e.out.1 (λq=>absurd U q) H<;>rfl
 .have k4:(0:Int)<g:=Z
  have k6:0<g:=Z
  apply fN (n:=60) c.r.r;repeat w_nl fu
  refine Á λ_ _=> ?_;refine qo m c ģ (λb f k S T=>adv (n:=g) f k a g0 J Z Z) λS f o _=> ?_;clear m;have q:=NL a (n:=g) Z;generalize rD a g=N at*;have T:É.wrap ((g:Int)-1)=((g-1:Nat):Int):=by rw[Ą _ ⟨Z,Z⟩];omega
  walk_nrm;apply fN (n:=60) f.r.r;iterate 7 w_nl fu
  refine Á λ_ _=> ?_;refine .fD λac6 k=>⟨f.C k,U,?_⟩;refine adA (p:=p) (M:=g) (B:=g-1) (C:=N) (K:=K) (o.r k) (f.C k) ?_ v I Z Z ?_ ?_ ?_ ?_ ?_ ?_ e.out.1 (λ_=>⟨e.out.2 _ Z,e.out.2 _ q⟩) H<;>rfl
end
section
variable{l:ff}{x:Nat}{s:List fL}{p:ByteArray}
def jC.S(h:jC X W l x i s):mQ l.w/\∀b,b=1\/b=2\/b=3\/b=4->l.O b:=by let⟨_,_,a⟩:=h.a;exact⟨a.r,a.C⟩
def jC.Y{c:ff}{y:Nat}{t:List fL}(h:jC X W l x i s)(k:jC l.O l.w c y n t):jC X W c y n t:= ⟨k.a,λb q=>by let⟨⟨d,e⟩,_⟩:=h.C b q;let⟨⟨f,g⟩,j⟩:=k.C b d;exact⟨⟨f,g.trans e⟩,j⟩⟩
end
def mP:ByteArray:=⟨#[107,100,42,114]⟩
def auW:gR (iz mP)=(0,0,[rP mP]):=fw
def auX:lV [fR.je,jx mP] ⟨#[109,49,58,99,62,98,40,49,50,41]⟩=(⟨#[53]⟩,0,[fR.je,jx mP]):=fw
def adB(g:Nat):fy g≠⟨#[45]⟩:=λe=>by have:=ado g 45 (by rw[e];simp);exact absurd this.1 A
def auY(g:Nat):((fy g).toList==[45])=Ò:=by rw[beq_eq_false_iff_ne];intro e;rw[ByteArray.toList_eq]at e;exact adB g<|á<|ã.1 e
section
variable{l:ff}{x:Nat}{s:List fL}{p:ByteArray}
def auZ(T:gG l)(hg:mQ l.w)(h4:∀b,b=1\/b=2\/b=3\/b=4->l.O b)(hp:p.size<=10^14*2)(C arg h:Int)(g0:-9223372036854775808<=C)(g1:C<=9223372036854775807)(a0:-9223372036854775808<=arg)(a1:arg<=9223372036854775807)(rv:-9223372036854775808<=h)(qU:h<=9223372036854775807) (hP:∀c,gG c->(∀b,l.O b->c.O b/\c.w.heap[b]?=l.w.heap[b]?)->l.w.heap.size<=c.w.heap.size->vQ (í Ð) c.w): iM vQ l (G (Ë À 11 #[Â p,È É arg,È É C,È É h] ä) []):=by
 have hF:True:=trivial;rw[wF [_,_,_,_] 158 ċ];simp only[ë,Ù,å];conv in kJ _ _=>whnf
 apply lB;apply fN (n:=40) T.r.r;repeat w_go fu
 refine Á λ_ _=> ?_;refine .fD λw₁ V=>⟨T.C V,U,?_⟩;have mq:=T.C V;refine wH (f:=27) (args:=#[Â ⟨#[107,100,42,114]⟩,È É h]) mq U fS (by k_ne) (λw=>by go_simp) (λw=>Ç U Ģ U U #[]) λxe r=> ?_;have D:fI l l.w xe:=V.fi ⟨r.r,r.I,r.N,r.Y,r.S⟩;refine adt (p:=mP) (mq.C r) (hg.r (Å hg.fA D.r) λb q=>D.I b<|Ï<|h4 b q) h4 A h rv qU (adi auW) λl3 x i E F Bc=> ?_;have hx:l.w.heap.size<=x:=Å D.r Bc;have u3:jC l.O l.w l3 x i [fR.je,jx mP]:=⟨F.a,λb q=>⟨⟨(F.C b q).1.1,(F.C b q).1.2.trans<|D.I b<|Ï q⟩,(F.C b q).2⟩⟩;clear F Bc D;walk_nrm;apply lB;apply fN (n:=40) E.r.r;repeat w_go fu
 refine Á λ_ _=> ?_;apply oa (v:=í Ò) U fS (by k_ne) E.r.r E.q (λw _=>by go_simp) (λw _ e j=>by simp[go_sem,Ny]at j);walk_nrm;apply fN (n:=60) E.r.r;repeat w_nl fu
 refine Á λ_ _=> ?_;refine Jt u3 E ġ (args:=#[Ó<|Ä ⟨x,0,ð⟩,Â ⟨#[109,49,58,99,62,98,40,49,50,41]⟩,Â ⟨#[53]⟩]) λl5 rX u5 _ _=> ?_;refine ads u5 rX A auX λl6 CY u6=> ?_;clear u3 u5;walk_nrm;apply lB;apply fN (n:=60) CY.r.r;repeat w_nl fu
 refine Á λ_ _=> ?_;refine Jt u6 CY Ĥ (args:=#[Â p]) λl8 Jx W _ _=> ?_;refine auO Jx W.N hp λl9 M hk9 tK=> ?_;have X:=W.M hk9 tK;clear u6 W hk9 tK;have Y:∀c y ny t,gG c->jC l.O l.w c y ny t->l.w.heap.size<=y->vQ (í Ð) c.w:=λc y ny t d u N=>hP c d (λb q=>(u.C b q).1) (by let⟨_,_,q⟩:=u.a;exact Å N<|Ŏ<|d.r.fA y<|Ï q.ft);clear hP;by_cases H:(gR<|iz p).1=0/\125∉p.data.toList
 .have hlk:=aui H.2 H.1;rw[decide_eq_true H.1,decide_eq_false H.2];walk_nrm;apply lB;apply fN (n:=60) M.r.r;repeat w_nl fu
  refine Á λ_ _=> ?_;refine Jt X M Ģ (args:=#[Â p,È É h]) λl11 wM I _ _=> ?_;refine adt (p:=p) wM I.S.1 I.S.2 hp h rv qU (adi hlk) λl12 y ny J k12 adC=> ?_;have u12:=I.Y k12;have N:l.w.heap.size<=y:=by let⟨_,_,q⟩:=I.a;exact Å hx<|Å (Ŏ<|wM.r.fA x<|Ï q.ft) adC
  clear X I k12 adC;walk_nrm;apply lB;apply fN (n:=40) J.r.r;repeat w_nl fu
  refine Á λ_ _=> ?_;apply oa (v:=í Ò) U fS (by k_ne) J.r.r J.q (λw _=>by go_simp) (λw _ e j=>by simp[go_sem,Ny]at j);walk_nrm;apply fN (n:=60) J.r.r;repeat w_nl fu
  refine Á λ_ _=> ?_;refine qo u12 J ř (λc d j o z=>auN d j arg a0 a1) λl14 z u14 _=> ?_;clear u12;have L:=NL arg (n:=1000000) A;generalize rD arg 1000000=K at*;have ask:=auz L p;have hml:=auv L;have VF:=auQ K;have d2:=rC (n:=K) L;have lc:=adk (s:=(jx p).s) (x:=2) (y:=1) (k:=K) 401 0;have HS:=fg<|Ø ask lc;clear ask lc;generalize mT K=m at*;let⟨P,hM1,z4⟩:=oy ⟨#[109,49,58,99,62,98,40]⟩<|fy K;rw[hM1]at VF;change P.size=7+(fy K).size at z4;generalize VD:fy K=DK at*;walk_nrm;apply fN (n:=60) z.r.r;repeat w_nl fu
  refine Á λ_ _=> ?_;refine lJ _ DK P z hM1 (by show 7+DK.size<=_;omega) ?_;walk_nrm;refine lJ P _ m z VF (by show P.size+1<=_;omega) ?_;walk_nrm;refine .fD λavG Q=>⟨z.C Q,U,?_⟩;refine wH (f:=17) (args:=#[Ó<|Ä ⟨y,0,ð⟩,Â m]) (z.C Q) U fS (by k_ne) (λw=>by go_simp) (λw=>Ç U ĺ U U #[]) λavH adD=> ?_;refine Vf ((u14.r Q).r adD) ((z.C Q).C adD) (by unfold Ñ;omega) λl17 B S=> ?_;rw[HS.out.1]at S|-;dsimp only at S|-;clear u14 hM1 VF;rcases HS.out.2 with⟨q1,q2⟩|⟨g,q1,q2,q3,q4,q5⟩
  .rw[q1];subst VD;walk_nrm;apply lB;apply fN (n:=60) B.r.r;iterate 21 w_nl fu
   refine Á λ_ _=> ?_;refine .fD λau0 o=>⟨B.C o,U,?_⟩;refine auT (p:=p) (K:=K) (S.r o) (B.C o) ?_ C L ?_ ?_ ?_ g0 g1 (λj hj=>q2 j (Í _) Z) (λc d u=>Y c _ _ _ d u N)<;>rfl
  .rw[q3];subst VD;have ll:=adB g;have hn2:((fy g).toList==[45])=Ò:=auY g;have hn4:¬(fy g).toList=[45]:=λe=>by rw[e]at hn2;cases hn2
   walk_nrm;apply lB;apply fN (n:=60) B.r.r;iterate 22 w_nl fu
   refine Á λ_ _=> ?_;refine .fD λau0 o=>⟨B.C o,U,?_⟩;refine auV (p:=p) (K:=K) (g:=g) (S.r o) (B.C o) ?_ C L Z ?_ ?_ ?_ ?_ g0 g1 q4 (λj hj=>q5 j (Í _) hj) (λc d u=>Y c _ _ _ d u N)<;>rfl
 .have e:(decide ((gR<|iz p).1=0)&&!decide (125∈p.data.toList))=Ò:=by
   rw[Bool.eq_false_iff];intro q;simp only[Ē,decide_eq_true_eq,Bool.not_eq_true',decide_eq_false_iff_not]at q;exact H q
  rw[e];walk_nrm;apply U1;apply fN (n:=60) M.r.r;repeat w_nl fu
  refine Á λ_ _=> ?_;exact .fD λo j=>⟨U,í Ð,λw=>Nz (t:=8) U U ċ U fw,Y _ _ _ _ (M.C j) (X.r j) hx⟩
end
def au1(d:mQ W)(e:B.size<=10^14*2)(a arg c:Int)(g0:-9223372036854775808<=a)(f:a<=9223372036854775807)(g:-9223372036854775808<=arg)(h:arg<=9223372036854775807)(i:-9223372036854775808<=c)(j:c<=9223372036854775807): sK (λv w'=>v=í Ð/\nV W w') #[G (Ë À 11 #[Â B,È É arg,È É a,È É c] ä) []] W ð #[]:= ato (l:=acK W) (auZ (acM W) d (atp d) e a arg c g0 f g h i j λm _ v k=>⟨U,λb q=>(v b q).2,k⟩) (acM W) U
end Go.Proofs.Y.k9
