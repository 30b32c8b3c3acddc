import Derived.Test.YtgpphkdoanciiaaGreatDoorWAE
import Derived.Lib.LaidTab
import Derived.OpenShut
import Derived.Test.YtgpphkdoanciiaaGreatDoorRows
import Derived.Conc.LeavingOf
import Derived.LaidMore
import Derived.Stop.Joined
import Derived.Carry
import Derived.Orders
set_option linter.all false
set_option maxRecDepth 1000000
set_option maxHeartbeats 8000000
open Go.Proofs.Tryz renaming prog->À,func31->ē,underlying25->Ĕ,func18->İ,func24->ı,func20->ĳ,func27->Ĵ,func28->ĵ,func13->Ķ,underlying36->ĺ,t9->ľ,underlying3->Ł,underlying5->ł,func21->Ņ,func26->Ň,func25->ň,func30->ŉ,ntmps31->š,ntmps30->ţ,func16->ŧ,func17->ũ,func29->ū,type9->ŭ,f24->Ž,f13->ſ
open Go.Value renaming string->Á,int->Ê,bool->Ø,pointer->å,slice->û,tuple->Ů
open Array renaming length_toList->Â,toList_extract->Î,toList_inj->é,getElem?_eq_some_iff->ó,getElem_toList->õ,getElem?_eq_getElem->ú,toList_append->ĸ
open Go.Conc.Goes renaming stop->Ã
open Option renaming some->Ä,none->à,map_eq_some_iff->ğ,bind_some->ń,map_some->ŋ
open Nat renaming le_trans->Å,le_refl->Ñ,zero_le->Õ,strongRecOn->ć,sub_self->Č,one_pos->ĭ,zero_add->Ŀ,le_add_left->Ŏ,sub_zero->ş,pow_succ->Š,le_of_lt->Ť
open ByteArray renaming size_append->Æ,data_extract->É,ext->Ù,data_append->ï,getElem_eq_getElem_data->Ā,size_extract->Ă,size->ă,getElem_extract->Ŕ,extract_extract->ŕ,append_assoc->Ŝ,append_empty->ŝ,extract->ű
open Go.IntKind renaming i64->Ç,wrap_i64->ù,wrap_u64->Ğ,u64->Ĥ,u8->ź
open Go.Conc renaming events_call_body->È,goes_leave1->ĕ,goes_leave2->Ū,listed->ž
open Go.Frame renaming enter->Ë,finish_at->Ċ
open Or renaming inl->Ì,inr->ā
open Bool renaming true->Í,false->Ð,and_eq_true->ê
open Go.Item renaming inRegion->Ï,code->Ũ
open And renaming intro->Ò
open List renaming getElem?_eq_getElem->Ó,cons_append->Û,mem_singleton->Ü,length_append->Ý,extract_eq_take_drop->ã,range->æ,getElem?_cons_succ->è,length_cons->ë,mem_append->ì,nil_append->í,getElem?_map->ð,size_toArray->ñ,replicate->ø,map_cons->ü,take->Ą,mem_cons->ą,getElem?_drop->č,getElem?_eq_some_iff->Ď,getElem?_append_left->ď,drop_eq_getElem_cons->Đ,append_assoc->đ,drop->Ę,not_mem_nil->ę,mem_flatMap->Ě,getElem?_cons_zero->ě,all_eq_true->ĝ,drop_eq_nil_of_le->ġ,take_of_length_le->Ģ,append_nil->ĥ,length_singleton->ħ,getElem?_eq_none->Ĩ,mem_range->Ĳ,take_add_one->Ļ,foldl_append->ļ,getD->Ń,length_set->ō,drop_zero->ő,map->Œ,all_cons->Ŗ,map_nil->Ś,mem_map->ś
open Go renaming Value->Ô,World->Ö,maxLen->Þ,undef->þ,execOp->ċ,Frame->ģ,Oper->ĩ,yielded->ķ,Act->ŏ,laidMetH->Ő,TypeId->œ,Calls->ŗ,Goroutine->Ř,DataW->ť,IntKind->ů,Operand->ų,Program->ŵ,Code->Ż,Item->Α
open Option.some renaming inj->Ú,injEq->Ű
open Go.CallKind renaming normal->ß
open Go.Proofs.YtgpphkdoanciiaaGreatDoor.Rows renaming laid_math_bits_deBruijn32tab->á,laid_math_bits_deBruijn64tab->â,laid_attic_attic_stepRules->ç,laid_internal_strconv_uint64pow10->ò
open UInt8 renaming ofNat->ä,toNat_inj->Ĉ
open Go.Instr renaming sliceAt->î,indexAt->ė,sliceBound->Ĝ,slice->ņ
open Int renaming tmod_eq_emod_of_nonneg->ô,emod_nonneg->Ħ,toNat_natCast->Ľ
open Go.Sem renaming events->ö
open Go.DataW renaming trod->ý,trod_int->ī,agg->Ε
open Go.Ending renaming returned->ÿ
open Go.Region renaming wanted->Ć
open List.range renaming loop->ĉ
open Go.Lib renaming nDigits_small->Ē,tabData->Ī,nDigits->Į,nDigits_big->Ō
open Go.Obj renaming cells->Ė,row?->Ÿ
open Go.Code renaming wp->Ġ,wp_mono->Ş,loop->Ŵ
open Go.World renaming cell?->Ĭ,var?->Ŭ
variable{i n j b k m J j9 j7 j6:Nat}{w u W jX:Ö}{v x z jQ:Ô}{h c:Int}{e t T:œ}{d q:Array Ô}{P:ŵ}{y:ŏ}{B:ByteArray}{X:Nat->Prop}{l:List Ô}{yQ:Bool}{K H:ŏ->Ö->Prop}{o:ĩ}{L:List Α}{jJ:List Nat}{qX:List ģ}{zQ:List Int}{xJ:Nat×Nat}{wJ:Array Bool}{vX:List ByteArray}{vQ:Ô->Ö->Prop}{Q:Array ĩ}{f:ģ}
namespace Go.Proofs.Y.kA
open Go Go.Conc Go.Proofs Go.RowKit Go.Proofs.Y.Lift Go.Proofs.Y.gd Go.Proofs.Y.fv Go.Proofs.Y.mQ
open Go.Proofs.YtgpphkdoanciiaaGreatDoor (Rows.laid_math_bits_deBruijn32tab Rows.laid_math_bits_deBruijn64tab Rows.laid_internal_strconv_uint64pow10 Rows.laid_attic_attic_stepRules)
def NC:List (String×DataW Unit):=[("math/bits.deBruijn32tab",á),("math/bits.deBruijn64tab",â),("internal/strconv.uint64pow10",ò),("attic/attic.stepRules",ç)]
theorem ND(h:W.ShapedOpen À)(g:Nat)(t:œ)(b:g<À.globals.size)(e:(((begin À (λ_ _=>0) default).world.heap[g]?).bind Ÿ).map (·.2)=Ä t): ∃a,W.heap[g]?=Ä (Ė a t):=by let⟨⟨z,c⟩,d,f⟩:=ğ.1 e;let⟨a,i,_⟩:=h.1 g z c b d;grind
theorem acI{n:String}(b:À.globalNamed n=Ä i)(h:W.heap[i]?=Ä (Ė q t xJ))(a:W.var? À n=Ä d):q=d:=by unfold Ŭ at a;grind
def Vd{n:String}{N:Nat}{k:ů}{p:List MemPlace} (a:À.globalNamed n=Ä i) (f:(À.globals[i]?).map (·.type)=Ä t) (h:À.underlying t=Ä (.array N e)) (l:À.underlying e=Ä (.int k)) (m:À.cellsOf e=1) (o:À.cellsOf t=N) (r:W.heap[i]?=Ä (Ė d t xJ)) (s:À.globalNamed n=Ä b) (u:(À.globals[b]?).map (·.type)=Ä T) (v:W.var? À n=Ä q) (w:ý (λ_=>()) À W 0 (λ_=>Í) Ð j T q.toList=Ä (Ī k zQ,p)):d=(zQ.map λz=>Ê k z).toArray:=by obtain rfl:=Ú<|a.symm.trans s;obtain rfl:=Ú<|f.symm.trans u;rw[acI a r v,<-Lib.cells_of_tab h l m o w]
def atz:À.cellsOf 299=3:=ft
def acJ:À.cellsOf 36=1:=ft
def atA:À.cellsOf 3=1:=ft
def atB:À.cellsOf 300=69:=ft
def atC{p:List MemPlace}(v:ý (λ_=>()) À W 0 (λ_=>Í) Ð n 300 l=Ä (ç,p)): l.length=69/\∀(i:Nat) (r:Int×Int×Int),jd[i]?=Ä r->l[i*3]?=Ä (Ê Ĥ r.1)/\l[i*3+1]?=Ä (Ê Ç r.2.1)/\l[i*3+2]?=Ä (Ê Ç r.2.2):=by
 obtain⟨f,m,rfl,w,y,K,z⟩:=DataW.trod_array Tryz.underlying300 v;refine⟨y.trans atB,λi r o=> ?_⟩;have B:i<23:=by have:=(Ď.1 o).1;exact this
 have g:=z i B;rw[atz]at g;have C:f.map (·.1)=jd.map λr=>(Ε [.lit<|.int Ĥ r.1,.lit<|.int Ç r.2.1,.lit<|.int Ç r.2.2]:ť Unit):=by have:=congrArg Prod.fst w;simp only[ç,DataW.agg.injEq]at this;exact this.symm
 obtain⟨x,q⟩:∃x,f[i]?=Ä x:=⟨_,Ó Z⟩;rw[q]at g;have d:(f.map (·.1))[i]?=Ä x.1:=by simp[q]
 rw[C]at d;simp only[ð,o,ŋ,Ű]at d;obtain⟨e,h,rfl,j,L,D,k⟩:=DataW.trod_struct Tryz.underlying299 g;have a:=k 0 _ U;have b:=k 1 _ U;have c:=k 2 _ U;have a:ý _ À W 0 _ Ð h 36 (Ą (À.cellsOf 36)<|Ę 0<|Ą 3<|Ę (i*3) l)=e[0]?:=a;have b:ý _ À W 0 _ Ð h 3 (Ą (À.cellsOf 3)<|Ę 1<|Ą 3<|Ę (i*3) l)=e[1]?:=b;have c:ý _ À W 0 _ Ð h 3 (Ą (À.cellsOf 3)<|Ę 2<|Ą 3<|Ę (i*3) l)=e[2]?:=c;rw[acJ]at a;rw[atA]at b c;match e,D,j,a,b,c with
 |[y0,y1,y2],_,j,a,b,c=>
  let⟨M,E,F,_⟩:=ī ĺ (show ý _ _ _ _ _ _ _ 36 _=Ä y0 from a);let⟨N,G,H,_⟩:=ī Ł (show ý _ _ _ _ _ _ _ 3 _=Ä y1 from b);let⟨O,I,J,_⟩:=ī Ł (show ý _ _ _ _ _ _ _ 3 _=Ä y2 from c);subst F;subst H;subst J;rw[j]at d;simp only[ü,Ś,DataW.agg.injEq,List.cons.injEq,DataW.lit.injEq,Lit.int.injEq,true_and,and_true]at d;obtain⟨rfl,rfl,rfl⟩:=d;have s:=congrArg (·[0]?) E;have t:=congrArg (·[0]?) G;have u:=congrArg (·[0]?) I;simp[List.getElem?_take,č]at s t u;exact⟨s,t,u⟩
def acK(h:∀v∈d.toList,∃k n,v=Ê k n):fT (lr X i) d d:=pT λv a=>by obtain⟨k,n,rfl⟩:=h v a;exact .iG _ _
def atD{l:List (String×DataW Unit)}(h:Ő P l W)(a:(l.filter λx=>x.2.handleName?.isSome)=[]):∃b,DataW.LaidVars P W l b:=by unfold Ő at h;rw[a]at h;exact⟨h.choose,h.choose_spec.1⟩
def atE:À.cellsOf 304=32:=ft
def atF:À.cellsOf 305=64:=ft
def atG:À.cellsOf 291=20:=ft
def acM:À.cellsOf 5=1:=ft
def gn1:À.globalNamed "internal/strconv.uint64pow10"=Ä 1:=ft
def gn2:À.globalNamed "attic/attic.stepRules"=Ä 2:=ft
def gn3:À.globalNamed "math/bits.deBruijn32tab"=Ä 3:=ft
def gn4:À.globalNamed "math/bits.deBruijn64tab"=Ä 4:=ft
def NG(g:Nat)(t:œ)(h:(g,t)∈[(1,291),(2,300),(3,304),(4,305)]):(À.globals[g]?).map (·.type)=Ä t/\g<À.globals.size/\(((begin À (λ_ _=>0) default).world.heap[g]?).bind Ÿ).map (·.2)=Ä t:=by
 simp only[ą,ę,or_false,Prod.mk.injEq]at h;rcases h with⟨rfl,rfl⟩|⟨rfl,rfl⟩|⟨rfl,rfl⟩|⟨rfl,rfl⟩
 .exact⟨ft,of_decide_eq_true ft,ft⟩
 .exact⟨ft,of_decide_eq_true ft,ft⟩
 .exact⟨ft,of_decide_eq_true ft,ft⟩
 .exact⟨ft,of_decide_eq_true ft,ft⟩
def atH:ť Unit->Int
 |.lit (.int _ z)=>z
 |_=>0
def acN:ť Unit->List Int
 |Ε l=>l.map atH
 |_=>[]
def atI:(á:ť Unit)=Ī ź (acN á):=rfl
def atJ:(â:ť Unit)=Ī ź (acN â):=rfl
def atK:(ò:ť Unit)=Ī Ĥ Lib.pow10Tab:=rfl
def atL{k:ů}:∀v∈(zQ.map λz=>Ê k z).toArray.toList,∃k n,v=Ê k n:=λv a=>by simp only[ś]at a;obtain⟨z,_,rfl⟩:=a;exact⟨_,_,U⟩
def atM(k:Nat)(h:k<69):∃i j,i<23/\j<3/\k=i*3+j:=⟨k/3,k%3,Z,Z,Z⟩
theorem atN{W:Ö}(hs:W.ShapedOpen À)(hl:Ő À NC W):mP W:=by
 obtain⟨ps,g3,t3,cs3,f3,p3,q3,U4,ht3,hv3,xL,⟨g4,t4,cs4,f4,p4,q4,hg4,Hp,hv4,Iq,⟨g1,t1,cs1,f1,p1,q1,wB,uQ,hv1,Ca,⟨g2,t2,cs2,f2,p2,q2,L3,JY,M9,oc,_,_⟩,_⟩,_⟩,_⟩:=atD hl (by kernel_rfl);obtain⟨y1,s1,z1⟩:=NG 1 291 (by simp);obtain⟨y2,s2,z2⟩:=NG 2 300 (by simp);obtain⟨y3,s3,z3⟩:=NG 3 304 (by simp);obtain⟨y4,s4,z4⟩:=NG 4 305 (by simp);obtain⟨c1,b1⟩:=ND hs 1 291 s1 z1;obtain⟨c2,b2⟩:=ND hs 2 300 s2 z2;obtain⟨c3,b3⟩:=ND hs 3 304 s3 z3;obtain⟨c4,b4⟩:=ND hs 4 305 s4 z4;rw[atI]at xL;rw[atJ]at Iq;rw[atK]at Ca;have e3:=Vd gn3 y3 Tryz.underlying304 ł acM atE b3 U4 ht3 hv3 xL;have e4:=Vd gn4 y4 Tryz.underlying305 ł acM atF b4 hg4 Hp hv4 Iq;have e1:=Vd gn1 y1 Tryz.underlying291 ĺ acJ atG b1 wB uQ hv1 Ca;obtain rfl:=Ú (gn2.symm.trans L3);obtain rfl:=Ú (y2.symm.trans JY);obtain⟨hlen,mK⟩:=atC oc;have e2:=acI gn2 b2 M9;subst e2;have atO:=λi r hr=>by have:=mK i r hr;simpa using this
 have acO:∀(k:Nat) (v:Ô),c2[k]?=Ä v->∃(kd:ů) (n:Int),v=Ê kd n/\kd≠ź:=λk v hv=>by
  have hk:k<69:=by grind
  obtain⟨i,j,hi,hj,rfl⟩:=atM k hk;obtain⟨r,hr⟩:∃r,jd[i]?=Ä r:=⟨_,Ó (show i<jd.length from hi)⟩;grind
 have ku:=(ó.1 b4).1;refine⟨?_,?_,⟨c3,_,b3,Õ _,Õ _,?_,?_⟩,⟨c4,_,b4,Õ _,Õ _,?_,?_⟩,?_,⟨⟨c2,_,b2⟩,λi r hr=> ?_⟩,?_⟩
 .have h5:nB=5:=by kernel_rfl
  omega
 .rintro b (rfl|rfl)
  .refine⟨c1,291,_,b1,Õ _,acK (by rw[e1];exact atL),by rw[e1];exact of_decide_eq_true (by kernel_rfl),λk v hv=> ?_,by decide,by decide⟩;rw[e1]at hv;simp only[List.getElem?_toArray,ð,ğ]at hv;obtain⟨z,_,rfl⟩:=hv;rfl
  .refine⟨c2,300,_,b2,Õ _,acK λv hv=> ?_,?_,λk v hv=> ?_,by decide,by decide⟩
   .obtain⟨k,hk,e⟩:=List.mem_iff_getElem.1 hv;obtain⟨kd,n,e',_⟩:=acO k v (by rw[<-e];simp);grind
   .grind
   .obtain⟨kd,n,rfl,hn⟩:=acO k v hv;cases kd<;>first|rfl|exact absurd rfl hn
 .rw[e3];exact of_decide_eq_true (by kernel_rfl)
 .grind
 .rw[e4];exact of_decide_eq_true (by kernel_rfl)
 .grind
 .unfold gd.lS Lib.TabIs Ŭ;rw[gn1];grind
 .obtain⟨h0,h1,h2⟩:=atO i r hr;exact⟨by simp only[Ĭ,b2];exact h0,by simp only[Ĭ,b2];exact h1,by simp only[Ĭ,b2];exact h2⟩
 .unfold qH;simp only[Ĭ,b4,e4];rfl
end Go.Proofs.Y.kA
namespace Go.Proofs.Y.kA
open Go Go.Conc Go.Proofs Go.RowKit Go.Proofs.Y.Lift Go.Proofs.Y.gd Go.Proofs.Y.fv Go.Proofs.Y.mQ
open Go.Proofs.YtgpphkdoanciiaaGreatDoor (Rows.workersSpec Rows.workersRow Rows.WorkersSaid Tryz.pinned)
open Go.ChangeShapes Go.WideShapes Go.ChangeAt
def fq:ownKnob À.godebug=à:=ft
def atP{w':Ö}(h:nU W w')(a:w'.os=W.os)(b:w'.output=W.output):Below W.heap.size W {w' with tape:=W.tape}:=⟨a,U,b,h.DF,h.rI⟩
def atQ(os:Os)(a:Array Ô):Ő À NC ((World.doorLaid À 400 os).forCall (λ_ _=>0) ⟨#[],a,[]⟩).memory:= laidMetH_of_parts3 (fuel:=8) (laidMet_of_run' 8 ft ft) ft ft
end Go.Proofs.Y.kA
namespace Go.Proofs.Y.mQ
open Go Go.Proofs Go.RowKit Go.Proofs.Y.Lift Go.Proofs.Y.gd
def nR(B:ByteArray)(c:UInt8):Nat->Nat->Nat->List ByteArray
 |0,fr,_=>[B.extract fr B.size]
 |f+1,fr,i=>if h:i<B.size then if B[i]=c then B.extract fr i::nR B c f (i+1) (i+1)else nR B c f fr (i+1)else[B.extract fr B.size]
def acP:List Int->List (List Int)
 |[]=>[[]]
 |a::l=>(a::l)::acP l
def AJ:List (List Int):=[[86,58,120,47,66],[86,58,120,115],[86,58,120],[86,58,120,62,121,40,110,44,107,41],[86,58,120,62,121,40,107,41],[86,58,87],[86],[121,61,110],[80],[120,84],[82]].flatMap acP
def atS:∀r∈AJ,r.tail∈AJ:=A
def acQ:∀r∈AJ,59∉r/\(r.headD 0=66->r=[66])/\(82∈r->r=[82])/\(80∈r->r=[80]):=A
def atT(k:Int):ry k∈AJ/\ry k≠[82]/\80∉ry k:=by
 unfold ry;repeat' split
 all_goals decide
def acR(k:Int):sE k∈AJ/\sE k≠[82]:=by
 unfold sE;repeat' split
 all_goals decide
structure lb(D:List PR)(a b:PD):Prop where
 M:a.r=Í
 N:b.r=Í
 C:a.S=D
 S:b.S=[]
 r:a.I=b.I
 I:a.M=b.M
 Y:b.M=Í->a.N=b.N
structure C4(D:List PR)(k:Nat)(a b:PS):Prop where
 r:a.C=b.C
 C:b.C∈AJ
 I:a.r=b.r
 N:0<b.r->a.M=b.M
 M:80∈b.C->a.I=b.I/\b.I.toNat<=k
 d:(b.C=[82]/\b.r=0/\a.d.C=D/\b.d.C=[])\/(b.C≠[82]/\lb D a.d b.d)
section
variable{D:List PR}{a b:PD}
def lb.gM(h:lb D a b):a.Y=b.Y:=by
 unfold PD.Y;rw[h.I,h.r];split
 .rw[h.Y ‹_›]
 .rfl
theorem lb.G(h:lb D a b):∃r,a.C=D++[r]/\b.C=[r]:=by unfold PD.C;rw[h.M,h.N,h.C,h.S,h.r,h.gM];grind
def lb.ov(h:lb D a b)(i:Nat)(z:Int):lb D (a.ov i z) (b.ov i z):= ⟨h.M,h.N,h.C,h.S,by unfold PD.ov;rw[h.r],h.I,h.Y⟩
def lb.oK(h:lb D a b)(i:Nat)(z:Int):lb D (a.oK i z) (b.oK i z):= ⟨h.M,h.N,h.C,h.S,h.r,h.I,λq=>by unfold PD.oK;rw[h.Y q]⟩
def lb.iw(h:lb D a b)(i:Nat)(z:Int):lb D (a.iw i z) (b.iw i z):=by
 unfold PD.iw;rw[h.I];split
 .exact h.oK i z
 .exact h.ov i z
def lb.fL(h:lb D a b)(n z:Int):lb D (a.fL n z) (b.fL n z):=by
 unfold PD.fL;repeat' split
 all_goals first|exact h.ov _ _|exact h.iw _ _|exact h
theorem lb.AP(h:lb D a b)(n:Int):a.G n=b.G n:=by
 unfold PD.G PD.tN;rw[h.r,h.I];by_cases q:b.M=Í
 .rw[h.Y q]
 .grind
def lb.oL(h:lb D a b)(p:ByteArray):lb D (a.oL p) (b.oL p):= ⟨h.M,h.N,h.C,h.S,h.r,h.I,λq=>by unfold PD.oL;rw[h.Y q]⟩
def lb.nO(h:lb D a b):lb D a.nO b.nO:= ⟨h.M,h.N,h.C,h.S,by unfold PD.nO;rw[h.r,h.gM],U,λ_=>rfl⟩
end
section
variable{D:List PR}{a b g:PS}{o:Nat}{P:ByteArray}
def Jq(D:List PR)(k:Nat):Option PS->Option PS->Prop
 |some a,Ä b=>C4 D k a b
 |none,à=>True
 |_,_=>False
def acS(e:lb D a.d b.d)(f:c≠59)(g:a.r=0/\b.r=0):Jq D (k+1) (pY a c) (pY b c):=by
 unfold pY;rw[if_neg λq=>f q.1,e.gM,if_neg (c:=c=59/\b.d.S.length+1<24) λq=>f q.1];split
 .exact⟨U,(by decide:[120,84]∈AJ),g.1.trans g.2.symm,(λq=>by have:0<b.r:=q;omega),(λq=>by simp at q),ā ⟨(by decide:[(120:Int),84]≠[82]),e.nO⟩⟩
 .trivial
def acT(e:lb D a.d b.d)(w:Int)(r:List Int)(f:r∈AJ)(g:r≠[82])(h:80∉r):C4 D (k+1) {ow a w c with C:=r} {ow b w c with C:=r}:= ⟨U,f,U,λ_=>rfl,λq=>absurd q h,ā ⟨g,e.fL _ _⟩⟩
theorem atU(h:C4 D k a b)(m:a.r=0/\b.r=0)(n:c≠59):Jq D (k+1) (jS B o a c) (jS B o b c):=by
 have p:=(acQ _ h.C).2.2.1;have t:=(acQ _ h.C).2.2.2;have i:=atS _ h.C;have g:0<b.r->a.M=b.M:=λq=>by omega
 unfold jS;rw[h.r];rcases h.d with⟨e,_,u,v⟩|⟨e,f⟩
 .rw[e];simp only[if_true];unfold yv;split
  .trivial
  .let⟨x,y,z⟩:=atT<|wI c;exact⟨U,x,h.I,g,λq=>absurd q z,ā ⟨y,U,U,u,v,U,U,λq=>by cases q⟩⟩
 .cases j:b.C with
  |nil=>exact acS f n m
  |cons w l=>
   rw[j]at p t i e;have C:w≠82:=λq=>by subst q;exact e<|p fl
   have r:l≠[82]:=λq=>by grind
   have s:80∉l:=λq=>by grind
   simp only[if_neg C];split
   .split
    .exact acT (a:={a with C:=[84],d:=a.d.nO}) (b:={b with C:=[84],d:=b.d.nO}) f.nO 120 [84] A A A
    .exact acS f n m
   .split
    .unfold yw;split
     .trivial
     .exact⟨U,(acR _).1,h.I,g,λ_=>⟨U,Õ _⟩,ā ⟨(acR _).2,f.oK _ _⟩⟩
    .split
     .rename_i q;subst q;let⟨E,F⟩:=h.M (by rw[j];simp);rw[E];split
      .exact⟨U,i,h.I,g,λq=>absurd q s,ā ⟨r,f.oL _⟩⟩
      .split
       .trivial
       .exact⟨U,j▸h.C,h.I,g,λ_=>⟨U,by show(b.I+1).toNat<=k+1;omega⟩,ā ⟨e,f⟩⟩
     .split
      .exact acT f w l i r s
      .trivial
def atV(a:80∈b.C->B.extract (o-b.I.toNat) o=P.extract (k-b.I.toNat) k):kX P k b c=kX B o b c:=by
 unfold kX jS;cases d:b.C with
 |nil=>rfl
 |cons w e=>
  by_cases q:w=80
  .subst q;simp only;rw[a (by rw[d];simp)]
  .simp only[if_neg q]
def atW(h:C4 D k a b)(g:c≠59):Jq D (k+1) (kX B o a c) (kX B o b c):=by
 unfold kX;rw[h.I];split
 .rename_i q;rcases h.d with⟨_,e,_⟩|⟨e,f⟩
  .omega
  .refine⟨h.r,h.C,by show a.r-1=b.r-1;rw[h.I],λ_=>h.N q.1,λz=>⟨(h.M z).1,Nat.le_succ_of_le (h.M z).2⟩,ā ⟨e,?_⟩⟩;unfold CP;rw[h.N q.1,f.AP];exact f.fL _ _
 .exact atU (a:={a with r:=0}) (b:={b with r:=0}) ⟨h.r,h.C,U,(λq=>by cases q),h.M,h.d.imp (λz=>⟨z.1,rfl,z.2.2⟩) id⟩ ⟨rfl,rfl⟩ g
def FL(z:PS):Prop:=z.C=[]\/z.C=[66]
end
end Go.Proofs.Y.mQ
namespace Go.Proofs.Y.kA
open Go Go.Conc Go.Proofs Go.RowKit Go.Proofs.Y.Lift Go.Proofs.Y.gd Go.Proofs.Y.fv Go.Proofs.Y.mQ
open Go.Conc.Lib Go.ConcR.Gen Go.Proofs.YtgpphkdoanciiaaGreatDoor
def tR(r:PR):Int×Nat×List Tx:=(r.c.getD 5 0,(r.c.getD 0 0).toNat,r.r.map toTx)
def yC(r:PR)(s:List fH):ByteArray:=if r.c.getD 4 0=1 then(rv (oJ s) (tR r).1 (tR r).2.1 (tR r).2.2).2 else tM (oJ s) (toQn r)
def yD(s:List fH)(r:PR):List fH:=if r.c.getD 4 0=1 then CO s (tR r)else s
def pK(s:List fH)(rs:List PR):List fH:=rs.foldl yD s
def acU{kd:Nat->Int}(h:kd i=1):∀n,i<n->(ic kd n).getD (fO kd i) 0=i
 |0,q=>by omega
 |n+1,q=>by
  have a:i<n->∀x,(ic kd n++x).getD (fO kd i) 0=i:=λz x=>by
   have b:fO kd i<(ic kd n).length:=by
    have e:∀m,i+1<=m->(ic kd<|i+1).length<=(ic kd m).length:=λm=>by
     induction m with
     |zero=>intro z;omega
     |succ m c=>
      intro z;rcases Nat.lt_or_ge i m with y|y
      .apply Å (c y);by_cases q:kd m=1
       .rw[tA q];simp
       .rw[wm q];exact Ñ _
      .rw[show m=i by omega];exact Ñ _
    have:=e n z;rw[tA h]at this;unfold fO;simp at this;omega
   have:=acU h n z;simp only[Ń,ď b]at this|-;exact this
  by_cases z:i<n
  .by_cases q:kd n=1
   .rw[tA q];exact a z _
   .rw[wm q];have:=a z [];rwa[ĥ]at this
  .obtain rfl:i=n:=Z
   rw[tA h];simp[Ń,fO]
section
variable{rs:List PR}{s:List fH}{P:ByteArray}
def Ve:∀p,p<=rs.length->pW (wO rs) (ic (ly rs) rs.length) s (fO (ly rs) p)=pK s (rs.take p)
 |0,_=>by simp[fO,ic,pW,pK]
 |p+1,h=>by
  have a:=Ve p Z;have b:rs.take (p+1)=rs.take p++[rs.getD p p8]:=by rw[Ļ];congr 1;simp[Ń,show p<rs.length by omega]
  unfold pK at a|-;rw[b,ļ,<-a];show _=yD _ _;unfold yD;by_cases q:ly rs p=1
  .rw[if_pos (show(rs.getD p p8).c.getD 4 0=1 from q)];have e:fO (ly rs) (p+1)=fO (ly rs) p+1:=by unfold fO;rw[tA q];simp
   rw[e];show CO _ _=_;rw[acU q _ Z];rfl
  .rw[if_neg (show¬(rs.getD p p8).c.getD 4 0=1 from q)];have e:fO (ly rs) (p+1)=fO (ly rs) p:=by unfold fO;rw[wm q]
   rw[e]
def Vf{p:Nat}(h:p<rs.length):(km rs s)[p]?=Ä (yC (rs.getD p p8)<|pK s<|rs.take p):=by unfold km;rw[ð,List.getElem?_range h,ŋ,Ve p Z];rfl
theorem acV:AF rs s=pK s rs:=by unfold AF;rw[Ve _<|Ñ _,List.take_length]
theorem atX{r:PR}(h:gL P=(0,0,[r])):lV s P=(yC r s,0,yD s r):=by
 have a:=Vf (rs:=[r]) (s:=s) (p:=0) ĭ;have e:km [r] s=[yC r s]:=by
  match hx:km [r] s,FJ with
  |[y],_=>
   rw[hx]at a;simpa[pK]using a
 unfold lV;rw[h];simp only[if_true,e,acV];rw[show ja ⟨#[59]⟩ [yC r s]=yC r s from Ù (by simp[ja,I0,kz])];rfl
theorem atY(h:gL B=(0,0,rs)):lV s B=(ja ⟨#[59]⟩<|km rs s,0,pK s rs):=by unfold lV;grind [acV]
end
def yE(d:Nat):ByteArray:=ű ⟨#[48,49,50,51,52,53,54,55,56,57]⟩ d<|d+1
def atZ:(æ 10).map yE=(æ 10).map λd=>⟨#[ä<|48+d]⟩:=ft
theorem tS(h:i<10):yE i=⟨#[ä<|48+i]⟩:=by have:=congrArg (λl=>l[i]?) atZ;simpa[h]using this
theorem C5(h:i<10):fC i=yE i:=by unfold fC;grind [Lib.decDigits_one,tS]
theorem FM(h:¬n<10):fC n=fC (n/10)++yE (n%10):=by rw[tS Z];unfold fC;rw[Lib.decDigits,dif_neg h];apply Ù;simp_all
noncomputable def NH:Ż:=(Tryz.f21.body.bind gd.ky).getD .skip
def FN(n:Int)(s:ByteArray)(u:Nat->Ô):ŏ:=⟨#[Ê Ĥ n,u 1,u 2,Á s,u 4,u 5,u 6,u 7,u 8,u 9,u 10,u 11,u 12,u 13,u 14,u 15,u 16,u 17,u 18,u 19,u 20,u 21,u 22,u 23,u 24,u 25,u 26],[]⟩
def FO(n:Int)(s:ByteArray)(a:ŏ):Prop:=∃u,a=FN n s u
theorem acW{s:ByteArray}(h:i<10)(a:s.size<=20):Ç.wrap ((i:Int)+1)=(i:Int)+1/\Ç.wrap (i:Int)=i/\(0:Int)<=(i:Int)+1/\(i:Int)+1<=10/\(i:Int)<=(i:Int)+1/\((i:Int)+1).toNat=i+1/\¬9223372036854775807<min (i+1) 10-i+s.size:=by grind [ù]
section
variable{s:ByteArray}
def at0(u:Nat->Ô)(c:n<10)(b:∀a,FO n s a->H a w):Ġ À NH (Exit.then K<|QE 0 H) (FN n s u) w:=by
 unfold FN;conv=>arg 2;whnf
 go_wp2_with fail
 exact⟨U,b _ (gd.gp _)⟩
def at5(u:Nat->Ô)(f:¬n<10)(g:n<18446744073709551616)(h:s.size<=20)(c:∀a,FO ((n/10:Nat):Int) (yE (n%10)++s) a->K a w):Ġ À NH (Exit.then K<|QE 0 H) (FN n s u) w:=by
 unfold FN;conv=>arg 2;whnf
 have i:(n:Int).tmod 10=((n%10:Nat):Int):=by rw[ô Z];omega
 have j:(n:Int).tdiv 10=((n/10:Nat):Int):=by rw[Int.tdiv_eq_ediv_of_nonneg Z];omega
 have b:=fe c;clear c;have e:n%10<10:=Z
 have k:n/10<18446744073709551616:=Z
 generalize n%10=d at*;generalize n/10=q at*;let⟨l,m,o,p,r,t,v⟩:=acW e (s:=s) Z;go_wp2_with fail;exact b.out _ (gd.gp _)
def Vg(b:ByteArray)(c:Ö)(a:ŏ)(w:Ö):Prop:=∃(n:Nat) (s:ByteArray),FO n s a/\n<18446744073709551616/\fC n++s=b/\w=c
def Vh(b:ByteArray)(c:Ö)(a:ŏ)(w:Ö):Prop:=∃(n:Nat) (s:ByteArray),FO n s a/\n<10/\yE n++s=b/\w=c
def yo(a:ŏ)(_:Ö):Nat:=match a.tmps.getD 0 þ with
 |Ê _ i=>i.toNat
 |_=>0
def IL(b:FO n s y):yo y w=n:=by obtain⟨u,rfl⟩:=b;show(n:Int).toNat=_;simp
theorem at6(i:B.size<=20)(a:ŏ)(w:Ö)(g:Vg B u a w): Ġ À NH (Exit.then (λb c=>Vg B u b c/\yo b c<yo a w)<|QE 0<|Vh B u) a w:=by
 let⟨n,s,d,h,e,f⟩:=g;rw[IL d];obtain⟨b,rfl⟩:=d;have j:(fC n).size+s.size=B.size:=by rw[<-e,Æ]
 by_cases c:n<10
 .exact at0 b c λa q=>⟨n,s,q,c,by rwa[<-C5 c],f⟩
 .refine at5 b c h Z λa q=>⟨⟨n/10,_,q,Z,?_,f⟩,by rw[IL q];omega⟩;grind [Ŝ,FM]
def acX(n:Nat)(b:n<18446744073709551616)(w:Ö):ŗ À 21 #[Ê Ĥ n] w λe f=>e=ÿ (Á<|fC n)/\f=w:=by
 have L:∀a,FO n ⟨#[]⟩ a->Ġ À (Ŵ NH) (QE 0<|Vh (fC n) w) a w:=λa g=>
  wp_loop (Vg (fC n) w) yo ⟨n,⟨#[]⟩,g,b,ŝ,U⟩<|at6<|pP n b
 have H:=fe<|Ò L<|pP n b;generalize fC n=res at*;clear L;go_enter Ņ,Tryz.ntmps21;go_wp2_with fail;refine Ş (Q:=QE 0<|Vh res w) ?_ (H.out.1 _ (gd.gp _));rintro(_|_|_|_|_|_) a v hq;all_goals first|exact absurd hq id|skip
 obtain⟨rfl,d,s,h,i,c,rfl⟩:=hq;obtain⟨u,rfl⟩:=h;unfold FN;have j:(yE d).size+s.size=res.size:=by rw[<-c,Æ]
 have l:=H.out.2;let⟨m,o,p,q,r,t,x⟩:=acW i (s:=s) Z;have k:=fe c;clear j c;go_wp2_with fail;go_ret;exact⟨by rw[<-k.out];rfl,U⟩
end
abbrev j5(B:ByteArray):Prop:=(59:UInt8)∉B.data.toList
def j5.r{a:ByteArray}(h:j5 a)(k:j5 B):j5 (a++B):=by unfold j5 at*;simp_all
theorem j5.C(h:j5 B)(i j:Nat):j5 (B.extract i j):=by grind [É,Î]
theorem yF(n:Nat):j5 (fC n):=by
 induction n using ć with
 |_ n b=>
  have a:∀d,j5 (yE d):=λd=>j5.C A _ _;by_cases h:n<10
  .rw[C5 h];exact a n
  .rw[FM h];exact(b _ Z).r<|a _
theorem acY(h:∀x∈vX,j5 x):j5 (ja ⟨#[44]⟩ vX):=by
 cases vX with
 |nil=>exact λq=>by cases q
 |cons x r=>
  show 59∉x.data.toList++kz ⟨#[44]⟩ r;rw[ì];rintro(q|q)
  .exact h x fl q
  .let⟨y,a,q⟩:=Ě.1 q;rcases ì.1 q with z|z
   .revert z;decide
   .exact h y (by simp[a]) z
theorem acZ(h:∀x∈vX,j5 x):j5 (pS vX):=by unfold pS;grind [acY]
def Vi(y:Nat):j5 (iF y):=j5.C A _ _
theorem ac0(e:Nat×Int):j5 (oI e):=(Vi _).r<|yF _
theorem ac1{α:Type}(f:α->ByteArray)(h:∀x,j5<|f x)(l:List α):∀x∈l.map f,j5 x:=λx a=>by obtain⟨y,_,rfl⟩:=ś.1 a;exact h y
def at7(s t:gd.St)(n:Nat):∀x∈nL s t n,j5 x:=λx a=>by
 let⟨i,_,a⟩:=Ě.1 a;unfold sB tK o6 at a;rcases ì.1 a with q|q
 .rcases ì.1 q with q|q;all_goals
   split at q
   .cases q
   .rw[Ü.1 q];exact(Vi _).r A
 .let⟨j,_,q⟩:=Ě.1 q;unfold wE at q;split at q
  .cases q
  .rw[Ü.1 q];exact(Vi _).r<|j5.C A _ _
def pe(c:UInt8):List UInt8->List UInt8->List (List UInt8)
 |cur,[]=>[cur]
 |cur,x::r=>if x=c then cur::pe c [] r else pe c (cur++[x]) r
def NJ(B:ByteArray)(c:UInt8):∀f a i,B.size-i=f->a<=i->i<=B.size->nR B c f a i=(pe c (B.extract a i).data.toList<|B.data.toList.drop i).map λl=>⟨l.toArray⟩
 |0,a,i,hf,h1,h2=>by
  obtain rfl:i=B.size:=Z
  rw[ġ (by rw[Â];exact Ñ _)];rfl
 |f+1,a,i,hf,h1,h2=>by
  have b:i<B.size:=Z
  have d:i<B.data.toList.length:=by rwa[Â]
  have e:B.data.toList[i]=B[i]:=by rw[õ];rfl
  rw[Đ d,e];unfold nR pe;rw[dif_pos b];split
  .have g:(B.extract (i+1)<|i+1).data.toList=[]:=by
    rw[É,Î];simp
   rw[NJ B c f (i+1) (i+1) Z (Ñ _) Z,g];rfl
  .rw[NJ B c f a (i+1) Z Z Z];congr 2;rw[É,É,Î,Î,ã,ã,show i+1-a=i-a+1 by omega,Ļ,č,show a+(i-a)=i by omega,Ó d,e];rfl
def Jr{c:UInt8}:∀(x a r:List UInt8),c∉x->pe c a (x++c::r)=(a++x)::pe c [] r
 |[],a,r,_=>by simp[pe]
 |y::x,a,r,h=>by rw[show pe c a (y::x++c::r)=if y=c then a::pe c [] (x++c::r)else pe c (a++[y]) (x++c::r)from U,if_neg λq=>h (by simp[q]),Jr x _ r λq=>h (by simp[q])];simp
def Vj{c:UInt8}:∀(x a:List UInt8),c∉x->pe c a x=[a++x]
 |[],a,_=>by simp[pe]
 |y::x,a,h=>by unfold pe;rw[if_neg λq=>h (by simp[q]),Vj x _ λq=>h (by simp[q])];simp
def ac2:∀(r:List ByteArray) (x:ByteArray) (a:List UInt8),j5 x->(∀y∈r,j5 y)->pe 59 a (x.data.toList++kz ⟨#[59]⟩ r)=(a++x.data.toList)::r.map λy=>y.data.toList
 |[],x,a,h,_=>by show pe 59 a (x.data.toList++[])=_;rw[ĥ,Vj _ _ h];rfl
 |y::r,x,a,h,k=>by show pe 59 a (x.data.toList++59::(y.data.toList++kz ⟨#[59]⟩ r))=_;rw[Jr _ _ _ h,ac2 r y [] (k y fl) λz b=>k z (by simp[b])];rfl
def ac3(a:vX≠[])(h:∀x∈vX,j5 x):nR (ja ⟨#[59]⟩ vX) 59 (ja ⟨#[59]⟩ vX).size 0 0=vX:=by
 rw[NJ _ _ _ 0 0 (ş _) (Ñ _)<|Õ _];match vX,a with
 |x::r,_=>
  have e:((ja ⟨#[59]⟩<|x::r).extract 0 0).data.toList=[]:=by simp_all
  rw[e,ő];show(pe 59 []<|x.data.toList++kz ⟨#[59]⟩ r).map _=_;rw[ac2 r x [] (h x fl) λy b=>h y (by simp[b])];simp[Function.comp_def]
end Go.Proofs.Y.kA
namespace Go.Proofs.Y.mQ
open Go Go.Proofs Go.RowKit Go.Proofs.Y.Lift Go.Proofs.Y.gd
section
variable{a b:PS}{d:PD}
theorem wS{f:Nat}(c:k<B.size)(d:kX B k a (B[k].toNat:Int)=Ä b):j4 B (f+1) k a=j4 B f (k+1) b:=by rw[j4,dif_pos c,d]
end
end Go.Proofs.Y.mQ
namespace Go.Proofs.Y.kA
open Go Go.Conc Go.Proofs Go.RowKit Go.Proofs.Y.Lift Go.Proofs.Y.gd Go.Proofs.Y.fv Go.Proofs.Y.mQ
open Go.Conc.Lib Go.ConcR.Gen Go.Proofs.YtgpphkdoanciiaaGreatDoor
def yH(r:PR)(a:fH):Option fH:=(vg (tR r).2.1 a.s (tR r).2.2).map λq=>⟨q.1,q.2.1,q.2.2,a.h+1⟩
theorem Vk{s:List fH}{v:fH}(h:s[n]?=Ä v):mF (oJ s) n=Ä (0,v):=by unfold mF oJ;grind
theorem ac4{s:List fH}{r:PR}(d:r.c.getD 4 0=1){a:fH}(b:mF (oJ s) (r.c.getD 5 0)=Ä (0,a))(e:s.length<40): yC r s=(match yH r a with
  |none=>nX 5
  |some _=>oF s.length)/\yD s r=match yH r a with
  |none=>s
  |some v=>s++[v]:=by
 have f:(oJ s).length=s.length:=by simp[oJ]
 have g:rv (oJ s) (tR r).1 (tR r).2.1 (tR r).2.2=match yH r a with
  |none=>(à,nX 5)
  |some v=>(Ä v,oF s.length):=by
  unfold rv yH;rw[show(tR r).1=r.c.getD 5 0 from rfl,b];grind
 unfold yC yD CO sC;grind [I5]
theorem aua{s:List fH}{r:PR}(h:gL B=(0,0,[r]))(a:r.c.getD 4 0=1)(b:r.c.getD 5 0=0){v0:fH}(d:s[0]?=Ä v0)(e:s.length<40): lV s B=match yH r v0 with
  |none=>(nX 5,0,s)
  |some v=>(oF s.length,0,s++[v]):=by
 obtain⟨v,f⟩:=ac4 a (by rw[show r.c.getD 5 0=((0:Nat):Int)from b];exact Vk d) e;grind [atX]
end Go.Proofs.Y.kA
namespace Go.Proofs.Y.mQ
open Go Go.Proofs Go.RowKit Go.Proofs.Y.Lift Go.Proofs.Y.gd
section
variable{T p:ByteArray}{a b:PS}
def sK(j:Int):PS:=⟨[80],0,j,120,⟨[],Í,⟨[0,0,0,0,1,0,0,0],[]⟩,Í,⟨[1,0,0,0,2],⟨#[]⟩⟩⟩⟩
def rP(p:ByteArray):PR:=⟨[0,0,0,0,1,0,0,0],[⟨[1,0,0,0,2],p⟩]⟩
def iw(p:ByteArray):ByteArray:=⟨#[105,48,58,97,47,98,123]⟩++p++⟨#[125]⟩
theorem Vl{l:List UInt8}(h:T.data.toList=l)(i:Nat)(a:i<T.size):∃b:i<l.length,T[i]=l[i]:=by subst h;exact⟨by rwa[Â],by rw[õ];rfl⟩
def ac5(a:T.data.toList=105::48::58::97::47::98::123::(p.data.toList++[125]))(h:125∉p.data.toList)(i:T.size=p.size+8):∀(m j:Nat),p.size-j=m->j<=p.size->(j4 T (m+1) (7+j)<|sK j).1=T.size->(j4 T (m+1) (7+j)<|sK j).2.d.C=[rP p]/\(j4 T (m+1) (7+j)<|sK j).2.C=[]
 |0,j,hm,hj,hr=>by
  obtain rfl:j=p.size:=Z
  have b:p.data.toList.length=p.size:=by rw[Â];rfl
  have c:T[7+p.size]'Z=125:=by
   let⟨q,e⟩:=Vl a (7+p.size) Z;have:(105::48::58::97::47::98::123::(p.data.toList++[125]))[7+p.size]?=Ä 125:=by rw[show 7+p.size=p.size+1+1+1+1+1+1+1 by omega];simp only[è];rw[List.getElem?_append_right Z,b,Č];rfl
   rw[Ó q]at this;rw[e];exact Ú this
  have g:T.extract (7+p.size-((p.size:Nat):Int).toNat) (7+p.size)=p:=by apply Ù;apply é.1;rw[É,Î,a,Ľ,Nat.add_sub_cancel,ã];show Ą (7+p.size-7) (p.data.toList++[125])=_;rw[Nat.add_sub_cancel_left,<-b,List.take_left]
  have e:kX T (7+p.size) (sK p.size) ((T[7+p.size]'Z).toNat:Int)=Ä {sK p.size with C:=[],r:=0,d:=(sK p.size).d.oL p}:=by rw[c];show jS T (7+p.size) {sK p.size with r:=0} 125=_;unfold jS;simp only[sK];rw[g];simp
  rw[wS Z e];exact⟨U,U⟩
 |m+1,j,hm,hj,hr=>by
  have b:p.data.toList.length=p.size:=by rw[Â];rfl
  obtain⟨c,g⟩:∃c,T[7+j]'Z=c:=⟨_,U⟩;have k:c∈p.data.toList:=by
   let⟨q,e⟩:=Vl a (7+j) Z;rw[<-g,e];have:(105::48::58::97::47::98::123::(p.data.toList++[125]))[7+j]?=Ä (p.data.toList[j]'Z):=by rw[show 7+j=j+1+1+1+1+1+1+1 by omega];simp only[è];rw[ď Z,Ó]
   rw[Ó q]at this;rw[Ú this];exact List.getElem_mem _
  have l:(c.toNat:Int)≠125:=λq=>h (by have:c=125:=Ĉ.1 (by show c.toNat=125;omega);rwa[<-this]);have e:kX T (7+j) (sK j) (c.toNat:Int)=if(j:Int)=40\/lE (c.toNat:Int)=0 then à else Ä (sK ((j+1:Nat):Int)):=by show jS T (7+j) {sK j with r:=0} (c.toNat:Int)=_;unfold jS;simp only[sK];simp[l];rfl
  by_cases q:(j:Int)=40\/lE (c.toNat:Int)=0
  .rw[if_pos q]at e;exfalso;rw[j4,dif_pos (show 7+j<T.size by omega),g,e]at hr;simp only at hr;omega
  .rw[if_neg q]at e;rw[wS (f:=m+1) (show 7+j<T.size by omega) (by rwa[g])]at hr|-;exact ac5 a h i m (j+1) Z Z hr
theorem aub(d:125∉p.data.toList)(h:(gL<|iw p).1=0):gL (iw p)=(0,0,[rP p]):=by
 obtain⟨T,a⟩:∃T,iw p=T:=⟨_,U⟩;have f:T.data.toList=105::48::58::97::47::98::123::(p.data.toList++[125]):=by rw[<-a];unfold iw;simp_all
 have b:T.size=p.size+8:=by rw[<-a];unfold iw;rw[Æ,Æ];show 7+p.size+1=_;omega
 rw[a]at h|-;have g:∀i c (j:i<T.size),(105::48::58::97::47::98::123::(p.data.toList++[125]))[i]?=Ä c->T[i]=c:=λi c j e=>by grind [Vl]
 have k:lF T=j4 T (p.size+1) (7+0) (sK (0:Nat)):=by unfold lF;rw[b,wS Z (by rw[g 0 105 _ U];rfl),wS Z (by rw[g 1 48 _ U];rfl),wS Z (by rw[g 2 58 _ U];rfl),wS Z (by rw[g 3 97 _ U];rfl),wS Z (by rw[g 4 47 _ U];rfl),wS Z (by rw[g 5 98 _ U];rfl),wS Z (by rw[g 6 123 _ U];rfl)];rfl
 have l:T.size≠0:=Z
 unfold gL lU at h|-;split at h
 .cases h
 .rename_i m;rw[if_neg m];split at h
  .rename_i q;simp only[if_neg l]at q|-;rw[if_pos q];simp only[ê,decide_eq_true_eq]at q;have:=ac5 f d b p.size 0 U (Õ _) (by rw[<-k];exact q.1);grind
  .cases h
end
end Go.Proofs.Y.mQ
namespace Go.Proofs.Y.mQ
open Go Go.Proofs Go.RowKit Go.Proofs.Y.Lift Go.Proofs.Y.gd Go.Proofs.Y.kA
section
variable{P:ByteArray}{D:List PR}{a b:PS}{r:PR}
def Jq.Om{o:Option PS}(h:Jq D k o (Ä b)):∃a,o=Ä a/\C4 D k a b:=by
 cases o with
 |none=>cases h
 |some a=>exact⟨a,U,h⟩
theorem ac6(h:gL P=(0,0,[r])):∃z,j4 P P.size 0 nP=(P.size,z)/\FL z/\z.d.C=[r]:=by
 unfold gL lU lF at h;split at h
 .cases h
 .by_cases a:P.size=0
  .grind
  .rw[if_neg a]at h;split at h
   .rename_i q;simp only[ê,Bool.or_eq_true,decide_eq_true_eq]at q;refine⟨(j4 P P.size 0 nP).2,Prod.ext q.1 U,q.2,?_⟩;grind
   .cases h
def Vm(c:UInt8):∀(f a i:Nat),B.size-i=f->i<=B.size->∃e l,i<=e/\e<=B.size/\nR B c f a i=B.extract a e::l
 |0,a,i,hf,hi=>⟨B.size,[],Z,Ñ _,U⟩
 |f+1,a,i,hf,hi=>by
  have b:i<B.size:=Z
  unfold nR;rw[dif_pos b];split
  .exact⟨i,_,Ñ _,hi,U⟩
  .let⟨e,l,h,d,g⟩:=Vm c f a (i+1) Z Z;exact⟨e,l,Z,d,g⟩
theorem ac7(c:C4 D k a b)(g:FL b)(e:b.d.C=[r]):FL a/\lb D a.d b.d/\a.d.C=D++[r]:=by
 rcases c.d with⟨q,_⟩|⟨_,f⟩
 .grind
 .let⟨j,h,i⟩:=f.G;rw[i]at e;cases e;refine⟨?_,f,h⟩;unfold FL;rwa[c.r]
def Vo:∀(f h i:Nat) (D:List PR) (a b m:PS) (P:ByteArray) (l:List ByteArray) (r:PR) (j:List PR),B.size-i=f->h<=i->i<=B.size->C4 D (i-h) a b->nR B 59 f h i=P::l-> j4 P (P.size-(i-h)) (i-h) b=(P.size,m)->FL m->m.d.C=[r]->(l.map gL=j.map λr=>(0,0,[r]))->D.length+1+l.length<=24->∃z,j4 B f i a=(B.size,z)/\FL z/\z.d.C=D++r::j
 |0,h,i,D,a,b,m,P,l,r,j,hf,h1,h2,hs,hc,hr,hA,mr,hl,hn=>by
  obtain rfl:i=B.size:=Z
  cases hc;have p:(B.extract h B.size).size=B.size-h:=by rw[Ă];omega
  rw[p,Č]at hr;have e:b=m:=congrArg Prod.snd hr;subst e;let⟨s,_,t⟩:=ac7 hs hA mr;cases j with
  |nil=>exact⟨a,U,s,t⟩
  |cons y j=>cases hl
 |f+1,h,i,D,a,b,m,P,l,r,j,hf,h1,h2,hs,hc,hr,hA,mr,hl,hn=>by
  have u:i<B.size:=Z
  rw[show nR B 59 (f+1) h i=if B[i]=59 then B.extract h i::nR B 59 f (i+1) (i+1)else nR B 59 f h (i+1)from dif_pos u]at hc;by_cases q:B[i]=59
  .rw[if_pos q]at hc;cases hc;have p:(B.extract h i).size=i-h:=by rw[Ă];omega
   rw[p,Č]at hr;have e:b=m:=congrArg Prod.snd hr;subst e;let⟨s,kd,t⟩:=ac7 hs hA mr;let⟨e,x,C,E,n⟩:=Vm (B:=B) 59 f (i+1) (i+1) Z Z;rw[n]at hl hn;simp only[ë]at hn;cases j with
   |nil=>cases hl
   |cons y j=>
    rw[ü,ü]at hl;injection hl with EW TQ;let⟨F,v,w,G⟩:=ac6 EW;have H:kX B i a (B[i].toNat:Int)=Ä {a with r:=0,C:=[82]}:=by
     rw[q];have I:¬(0<a.r/\jo ((59:UInt8).toNat:Int)=Í):=by simp[jo]
     unfold kX;rw[if_neg I];unfold jS;have g:pY {a with r:=0} ((59:UInt8).toNat:Int)=Ä {a with r:=0,C:=[82]}:=by unfold pY;rw[if_pos ⟨U,by show a.d.S.length+1<24;rw[kd.C];omega⟩]
     rcases s with k|k
     .simp only[k]at g|-;exact g
     .simp only[k]at g|-;exact g
    rw[j4,dif_pos u,H];let⟨z,g,I,J⟩:=Vo f (i+1) (i+1) (D++[r]) {a with r:=0,C:=[82]} nP F _ x y j Z (Ñ _) Z (by rw[Č];exact⟨U,A,U,(λq=>by cases q),(λq=>by simp[nP]at q),Ì ⟨rfl,rfl,t,rfl⟩⟩) n (by rwa[Č]) w G TQ (by simp only[Ý,ħ];omega);exact⟨z,g,I,by rw[J];simp⟩
  .rw[if_neg q]at hc;let⟨e,x,C,E,n⟩:=Vm (B:=B) 59 f h (i+1) Z Z;rw[hc]at n;cases n;have p:(B.extract h e).size=e-h:=by rw[Ă];omega
   have I:i-h<(B.extract h e).size:=Z
   have t:(B.extract h e)[i-h]=B[i]:=by rw[Ŕ];congr 1;omega
   rw[show(B.extract h e).size-(i-h)=(B.extract h e).size-(i+1-h)+1 by omega,j4,dif_pos I,t,atV (B:=B) (o:=i) (λz=>by have:=(hs.M z).2;rw[ŕ];congr 1<;>omega)]at hr;have g:=atW (B:=B) (o:=i) hs (c:=B[i].toNat) λz=>q (by apply Ĉ.1;show B[i].toNat=59;omega);cases s:kX B i b (B[i].toNat:Int)with
   |none=>
    rw[s]at hr;have:=congrArg Prod.fst hr;simp only at this;omega
   |some y=>
    rw[s]at hr g;let⟨F,v,w⟩:=g.Om;rw[j4,dif_pos u,v];exact Vo f h (i+1) D F y m _ l r j Z Z Z (by rwa[show i+1-h=i-h+1 by omega]) hc (by rw[show i+1-h=i-h+1 by omega];rwa[show i+1-h=i-h+1 by omega]at hr) hA mr hl hn
def auc{Ps:List ByteArray}{b:List PR}(a:Ps.map gL=b.map λr=>(0,0,[r]))(f:∀P∈Ps,j5 P)(d:Ps≠[])(g:Ps.length<=24)(p:(ja ⟨#[59]⟩ Ps).size<=1200):gL (ja ⟨#[59]⟩ Ps)=(0,0,b):=by
 have h:=ac3 d f;generalize ja ⟨#[59]⟩ Ps=B at*;match Ps,b,a,d with
 |P::l,r::ys,a,_=>
  rw[ü,ü]at a;injection a with h1 h2;let⟨i,j,k,m⟩:=ac6 h1;let⟨z,c,e,n⟩:=Vo B.size 0 0 [] nP nP i P l r ys U (Ñ _) (Õ _) ⟨U,A,U,(λ_=>rfl),(λq=>by simp[nP]at q),Ì ⟨U,U,U,U⟩⟩ h j k m h2 (by simp at g|-;omega);have o:B.size≠0:=λq=>by rw[q]at c;have:nP=z:=congrArg Prod.snd c;subst this;rcases e with w|w<;>cases w
  unfold gL lU lF;rw[if_neg Z,if_neg o,c,n];rcases e with w|w<;>simp[w]
 |_::_,[],a,_=>cases a
end
def nS(T:ByteArray)(k:Nat)(l:List UInt8):Prop:=∃r,T.data.toList.drop k=l++r
section
variable{T:ByteArray}{st b:PS}{d:PD}{l a:List UInt8}{want:Int}{tl:List Int}
def nS.I(h:nS T k (l++a)):nS T k l:=by let⟨r,e⟩:=h;exact⟨a++r,by rw[e,đ]⟩
theorem nS.C(h:nS T k (l++a)):nS T (k+l.length) a:=by let⟨r,e⟩:=h;refine⟨r,?_⟩;grind [List.drop_drop,đ,List.drop_left]
def nS.aud{c:UInt8}(h:nS T k (c::l)):∃a:k<T.size,T[k]=c:=by
 let⟨r,e⟩:=h;have b:=congrArg (λx=>x[0]?) e;simp only[č,Nat.add_zero,Û,ě]at b;let⟨x,d⟩:=Ď.1 b;have a:k<T.size:=by rwa[Â]at x
 refine⟨a,?_⟩;rw[<-d,õ];rfl
def nS.r{c:UInt8}(h:nS T k (c::l)):nS T (k+1) l:=nS.C (l:=[c]) h
theorem oy{c:UInt8}(h:nS T k (c::l))(a:kX T k st (c.toNat:Int)=Ä b):j4 T (i+1) k st=j4 T i (k+1) b:=by let⟨d,e⟩:=h.aud;grind [wS]
def C6(d:PD):Prop:=(d.M=Í->4<=d.N.c.length)/\(d.M=Ð->4<=d.I.c.length)
def ac8(h:i<zQ.length)(z:Int):(zQ.set i z).getD i 0=z:=by simp[Ń,h]
theorem aue(c:want=110\/want=107)(z a:Int):(d.fL want z).fL want a=d.fL want a:=by
 have b:∀i,(d.iw i z).iw i a=d.iw i a:=λi=>by unfold PD.iw PD.oK PD.ov;cases d.M<;>simp
 rcases c with rfl|rfl
 .exact b 2
 .exact b 3
theorem auf(h:C6 d)(b:want=110\/want=107)(z:Int):(d.fL want z).G want=z:=by
 have a:∀i,i<4->(d.iw i z).tN i=z:=λi c=>by
  unfold PD.iw PD.tN;cases q:d.M with
  |true=>
   have:=h.1 q;simp only[if_true,PD.oK,q];exact ac8 Z z
  |false=>
   have:=h.2 q;simp only[Bool.false_eq_true,if_false,PD.ov,q];exact ac8 Z z
 rcases b with rfl|rfl
 .exact a 2 A
 .exact a 3 A
def tT(st:PS)(want:Int)(tl:List Int)(n:Nat):PS:={st with C:=tl,r:=if n=0 then 0 else 6-(Į n:Int),M:=want,d:=st.d.fL want n}
def FP(h:n<10):(ä<|48+n).toNat=48+n:=by
 have a:∀k:_root_.Fin 10,(ä<|48+k.val).toNat=48+k.val:=A
 exact a ⟨n,h⟩
def Vp:∀k n,n<10^(k+1)->Į n<=k+1
 |0,n,h=>by rw[Ē (by simpa using h)];exact Ñ _
 |k+1,n,h=>by
  by_cases q:n<10
  .rw[Ē q];omega
  .have:=Vp k (n/10) (by rw[Š]at h;omega);rw[Ō q];omega
theorem aug(e:want=110\/want=107)(a:st.C=want::tl)(f:st.r=0)(h:n<10):kX T k st ((48+n:Nat):Int)=Ä (tT st want tl n):=by
 have g:jo ((48+n:Nat):Int)=Í:=abE ⟨Z,Z⟩;have b:pb want ((48+n:Nat):Int)=Í:=by unfold pb;grind
 have c:nj want ((48+n:Nat):Int)=n:=by unfold nj;grind
 have d:qI want ((48+n:Nat):Int)=if n=0 then 0 else 6-(Į n:Int):=by unfold qI;grind [Ē]
 unfold kX;rw[if_neg Z];unfold jS;simp only[a];rw[if_neg Z,if_neg Z,if_neg Z,if_neg Z,if_pos b];unfold ow tT;rw[c,d]
theorem auh(f:C6 st.d)(g:want=110\/want=107)(b:n<1000000)(h:¬n<10):kX T k (tT st want tl<|n/10) ((48+n%10:Nat):Int)=Ä (tT st want tl n):=by
 have c:jo ((48+n%10:Nat):Int)=Í:=abE ⟨Z,Z⟩;have i:=Ō h;have j:=Vp 5 n b;have a:(tT st want tl<|n/10).r=6-(Į (n/10):Int):=if_neg Z;have l:pX ((n/10:Nat):Int) ((48+n%10:Nat):Int)=n:=by unfold pX;grind [IntWalk.i64_in]
 unfold kX;rw[if_pos ⟨by rw[a];omega,c⟩];unfold CP;rw[a];have e:(tT st want tl<|n/10).d.fL (tT st want tl<|n/10).M (pX ((tT st want tl<|n/10).d.G (tT st want tl<|n/10).M) ((48+n%10:Nat):Int))=st.d.fL want n:=by show(st.d.fL want ((n/10:Nat):Int)).fL want (pX ((st.d.fL want ((n/10:Nat):Int)).G want) _)=_;grind [auf,aue]
 rw[e];unfold tT;grind
def ac9(j:C6 st.d)(b:want=110\/want=107)(m:st.C=want::tl)(o:st.r=0):∀n,n<1000000->nS T k (fC n).data.toList->∀i,j4 T (i+(fC n).size) k st=j4 T i (k+(fC n).size) (tT st want tl n):=by
 intro n
 induction n using ć with
 |_ n p=>
  intro q f i;by_cases h:n<10
  .have e:(fC n).data.toList=[ä<|48+n]:=by rw[C5 h,tS h]
   have a:(fC n).size=1:=by rw[C5 h,tS h];rfl
   rw[e]at f;rw[a];apply oy f;rw[FP h];exact aug b m o h
  .have r:=FM h;have e:nS T k ((fC<|n/10).data.toList++(yE<|n%10).data.toList):=by
    simp_all
   have a:(fC n).size=(fC<|n/10).size+1:=by rw[r,Æ,tS Z];rfl
   rw[a,show i+((fC<|n/10).size+1)=i+1+(fC<|n/10).size by omega,p (n/10) Z Z e.I<|i+1];have g:=e.C;rw[Â,tS Z]at g;rw[<-Nat.add_assoc];apply oy (c:=ä<|48+n%10) (l:=[]) g;rw[FP Z];exact auh j b q h
end
section
variable{T:ByteArray}{st a:PS}{d:PD}{l b:List UInt8}{want:Int}{tl:List Int}{N K:Nat}
def aui(h:C6 d)(e:want=110\/want=107)(z:Int):C6 (d.fL want z):=by
 have b:∀i,C6 (d.iw i z):=λi=>by
  unfold PD.iw;split
  .rename_i q;exact⟨λ_=>by show 4<=(d.N.c.set i z).length;rw[ō];exact h.1 q,λa=>absurd q<|by rw[show d.M=Ð from a];decide⟩
  .rename_i q;exact⟨λa=>absurd a q,λa=>by show 4<=(d.I.c.set i z).length;rw[ō];exact h.2 a⟩
 rcases e with rfl|rfl
 .exact b 2
 .exact b 3
def ada{c:UInt8}(h:nS T k (c::l))(b:st.C=(c.toNat:Int)::tl)(a:c=44\/c=41):j4 T (i+1) k st=j4 T i (k+1) {st with C:=tl,r:=0,M:=(c.toNat:Int)}:=by refine oy h ?_;unfold kX;rw[if_neg (by rcases a with rfl|rfl<;>simp[jo])];unfold jS;simp only[b];rcases a with rfl|rfl<;>rfl
def adb(e:C6 st.d)(f:st.C=[110,44,107,41])(g:st.r=0)(i:N<1000000)(j:K<1000000)(h:nS T k ((fC N).data.toList++44::((fC K).data.toList++[41])))(n:T.size=k+((fC N).size+1+(fC K).size+1)): ∃z,j4 T (T.size-k) k st=(T.size,z)/\z.C=[]/\z.d=(st.d.fL 110 N).fL 107 K:=by
 have l:(fC N).data.toList.length=(fC N).size:=by rw[Â];rfl
 have m:(fC K).data.toList.length=(fC K).size:=by rw[Â];rfl
 have a:=h.C;have b:=a.r;have c:=b.C;rw[l]at a b c;rw[m]at c;rw[show T.size-k=0+1+(fC K).size+1+(fC N).size by omega,ac9 e (Ì U) f g N i h.I,ada a (st:=tT st 110 [44,107,41] N) (tl:=[107,41]) U<|Ì U,ac9 (want:=107) (tl:=[41]) (aui e (Ì U) _) (ā U) U U K j b.I,ada c (tl:=[]) U<|ā U];refine⟨_,Prod.ext ?_ U,U,U⟩;show k+(fC N).size+1+(fC K).size+1=T.size;omega
def sL(h:n<1000000):(fC n).size<=6:=by unfold fC;rw[ă,ñ,Lib.decDigits_length];exact Vp 5 n h
theorem ade{z:PS}{r:PR}(h:lF T=(T.size,z))(a:z.C=[])(b:z.d.C=[r])(c:T.size<=1200)(e:T.size≠0):gL T=(0,0,[r]):=by unfold gL lU;grind
def cT(N K:Nat):ByteArray:=⟨(99::49::58::99::62::98::40::((fC N).data.toList++44::((fC K).data.toList++[41]))).toArray⟩
def adf{l:List UInt8}:nS ⟨l.toArray⟩ 0 l:=⟨[],fl⟩
theorem auj(b:N<1000000)(c:K<1000000):gL (cT N K)=(0,0,[⟨[2,1,N,K,4,1,0,0],[]⟩]):=by
 have h:(fC N).data.toList.length=(fC N).size:=by rw[Â];rfl
 have i:(fC K).data.toList.length=(fC K).size:=by rw[Â];rfl
 have d:(cT N K).size=7+((fC N).size+1+(fC K).size+1):=by unfold cT;rw[ă,ñ];grind
 have a:nS (cT N K) 0 _:=adf;have j:=sL b;have l:=sL c;let⟨z,e,f,g⟩:=adb (T:=cT N K) (k:=7) (st:=⟨[110,44,107,41],0,0,40,⟨[],Í,⟨[2,1,0,0,4,1,0,0],[]⟩,Ð,⟨[],⟨#[]⟩⟩⟩⟩) ⟨(λq=>by cases q),λ_=>(by show 4<=8;decide)⟩ U U b c a.r.r.r.r.r.r.r d;refine ade (z:=z) ?_ f (by rw[g];rfl) Z Z;unfold lF;rw[<-e,show(cT N K).size=(cT N K).size-7+1+1+1+1+1+1+1 by omega];rw[oy a U,oy a.r U,oy a.r.r U,oy a.r.r.r U,oy a.r.r.r.r U,oy a.r.r.r.r.r U,oy a.r.r.r.r.r.r U];rfl
end
end Go.Proofs.Y.mQ
namespace Go.Proofs.Y.kA
open Go Go.Conc Go.Proofs Go.RowKit Go.Proofs.Y.Lift Go.Proofs.Y.gd Go.Proofs.Y.fv Go.Proofs.Y.mQ
open Go.Conc.Lib Go.ConcR.Gen Go.Proofs.YtgpphkdoanciiaaGreatDoor
def p9(p:ByteArray):fH:=(yH (rP p) gd.jR).getD gd.jR
def auk(p:ByteArray):yH (rP p) gd.jR=Ä (p9 p):=ft
def adg(p:ByteArray):((p9 p).s 2).fj=1000:=ft
def adh{p:ByteArray}(h:gL (iw p)=(0,0,[rP p])):lV [gd.jR] (iw p)=(⟨#[49]⟩,0,[gd.jR,p9 p]):=by rw[aua h U U (v0:=gd.jR) U A,auk];rfl
section
variable{N K:Nat}{p:ByteArray}
theorem aul:j5 (cT N K):=by unfold j5 at*;simp[cT,yF N,yF K]
theorem aum(a:N<1000000)(b:K<1000000):(cT N K).size<=21:=by
 have c:=sL a;have d:=sL b;have e:(fC N).data.toList.length=(fC N).size:=by rw[Â];rfl
 have f:(fC K).data.toList.length=(fC K).size:=by rw[Â];rfl
 unfold cT;rw[ă,ñ];grind
end
def NK(B:ByteArray)(l:List UInt8):Prop:=∃r,B.data.toList=l++r
theorem aun(r:gd.pM):(qG r).data.toList=(fC r.C.toNat).data.toList++44::((fC r.M.toNat).data.toList++44::((fC r.r.toNat).data.toList++kz ⟨#[44]⟩ (r.I.map oI))):=by unfold qG ja;simp[I0,kz]
end Go.Proofs.Y.kA
namespace Go.Proofs.Y.gd
open Go Go.Proofs Go.RowKit Go.Proofs.Y.Lift
structure Sm(s s':St):Prop where
 r:∀i,i≠2->s i=s' i
 C:∀i,i≠1->(s i).r.size=0/\(s' i).r.size=0
structure ESm(e e':pM):Prop where
 auo:e.r=e'.r
 Vq:e.C=e'.C
 adi:e.M=e'.M
 ls:e.I=e'.I
 s:Sm e.s e'.s
def NL(F:lO):Prop:=∀s a b x y g k,Sm s a->ESm (F s b x y g k) (F a b x y g k)
structure Ts(t t':RT):Prop where
 ss:t.r=t'.r
 ls:t.C=t'.C
 g:t.g=t'.g
 s:Sm t.s t'.s
structure Os(r r':Int×Bool×RT):Prop where
 adi:r.1=r'.1
 Vq:r.2.1=r'.2.1
 t:Ts r.2.2 r'.2.2
section
variable{s s':St}{t t':RT}{F:lO}{c:RC}{P:ByteArray}
def Sm.fL(h:Sm s s'){a c:ER}(d:i≠2->a=c)(f:i≠1->a.r.size=0/\c.r.size=0):Sm (s.fL i a) (s'.fL i c):=by
 refine⟨λj b=> ?_,λj b=> ?_⟩<;>unfold St.fL<;>by_cases e:j=i
 .subst e;rw[if_pos U,if_pos U,d b]
 .rw[if_neg e,if_neg e,h.r j b]
 .subst e;rw[if_pos U,if_pos U];exact f b
 .rw[if_neg e,if_neg e];exact h.C j b
def Sm.fj(h:Sm s s'){b a:Int}(c:i≠2->b=a):Sm (s.fj i b) (s'.fj i a):= h.fL (λe=>by rw[h.r i e,c e]) λe=>h.C i e
def Sm.wY(h:Sm s s')(q p:Int):(oh s 1 q p).1=(oh s' 1 q p).1/\Sm (oh s 1 q p).2 (oh s' 1 q p).2:=by
 unfold oh;rw[h.r 1 A];split
 .exact⟨U,h⟩
 .have a:=h.fj (i:=1) (b:=(s' 1).fj-p) λ_=>rfl;exact⟨U,a.fj λe=>by rw[a.r _ e]⟩
def aup{p:Prop}[Decidable p]{a b c d:RT}(e:Ts a c)(f:Ts b d):Ts (if p then a else b) (if p then c else d):=by
 split
 .exact e
 .exact f
def auq{p:Prop}[Decidable p]{a b c d:Int×Bool×RT}(e:Os a c)(f:Os b d):Os (if p then a else b) (if p then c else d):=by
 split
 .exact e
 .exact f
def Ts.jA(hF:NL F)(d:c.y=1)(h:Ts t t')(k:Nat):Ts (ni F c k t) (ni F c k t'):=by
 let⟨b,s,m,g⟩:=t;let⟨v,s',w,x⟩:=t';let⟨z,B,C,n,D⟩:=c;let⟨f,i,j,a⟩:=h;simp only at f i j a d;subst f i j d;have l:=a.r 1 A;unfold ni;simp only[l];repeat' refine aup ?_ ?_
 all_goals try exact⟨U,U,U,a⟩
 .refine⟨U,U,U,a.fL (λ_=>by rw[l]) λe=>absurd U e⟩
 .let⟨e,o⟩:=a.wY (fZ b)<|fZ<|fW b;exact⟨by simp only[e],U,U,o⟩
 .unfold iV;by_cases e:n=4
  .simp only[if_pos e];exact⟨U,U,U,a⟩
  .let⟨o,p,q,r,u⟩:=hF s s' m 1 (fZ b%8).toNat (min (fZ<|fW b) g) (fZ<|fW<|fW b) a;simp only[if_neg e];exact⟨by simp only[p,q],r,by simp only[o],u⟩
def Ts.r(hF:NL F)(a:c.y=1):∀(f:Nat) (b:Int) (t t':RT),Ts t t'->Os (pO F c P f b t) (pO F c P f b t')
 |0,_,t,t',h=>⟨U,U,h⟩
 |f+1,b,t,t',h=>by
  let⟨n,s,e,g⟩:=t;let⟨o,s',p,q⟩:=t';let⟨i,j,k,m⟩:=h;simp only at i j k m;subst i j k;have d:∀(l:List Int) (z:Int),Ts ⟨l,s,e,z⟩ ⟨l,s',e,z⟩:=λl z=>⟨U,U,U,m⟩;unfold pO;simp only;repeat' refine auq ?_ ?_
  all_goals first
   |exact⟨U,U,d _ _⟩
   |exact Ts.r hF a f _ _ _<|d _ _
   |exact Ts.r hF a f _ _ _<|(d _ _).jA hF a _
def aur(hF:NL F)(h:Sm s s')(b:List (Nat×Int)):ESm (ou F c s b) (ou F c s' b):=by
 have a:Os (mO F c s b) (mO F c s' b):=by
  unfold mO;by_cases d:c.y=1
  .rw[d,h.r 1 A];exact Ts.r hF d _ _ _ _ ⟨U,U,U,h⟩
  .let⟨e,f⟩:=h.C c.y d;unfold pO;rw[e,f,if_pos (by rfl:(0:Int)=((0:Nat):Int)),if_pos (by rfl:(0:Int)=((0:Nat):Int))];exact⟨U,U,U,U,U,h⟩
 unfold ou;rw[a.Vq];refine⟨by simp only[a.t.g],U,a.adi,?_,?_⟩
 .simp only;split
  .exact a.t.ls
  .rfl
 .simp only;split
  .exact a.t.s
  .exact h
end
def adj:∀n,NL<|wC n
 |0=>λs a ls x y g k h=>⟨U,U,U,U,h⟩
 |n+1=>λs a ls x y g k h=>aur (adj n) h ls
def adk{s:St}{ls:List (Nat×Int)}{x y:Nat}{g k:Int}(h:(gl s ls x y g k).C=Ð):(gl s ls x y g k).s=s/\(gl s ls x y g k).I=ls:=by have a:(mO (wC 3) ⟨x,y,k,4-((3:Nat):Int),g⟩ s ls).2.1=Ð:=h;show(ou _ _ _ _).s=s/\(ou _ _ _ _).I=ls;unfold ou;rw[a];exact⟨U,U⟩
end Go.Proofs.Y.gd
namespace Go.Proofs.Y.kA
open Go Go.Conc Go.Proofs Go.RowKit Go.Proofs.Y.Lift Go.Proofs.Y.gd Go.Proofs.Y.fv Go.Proofs.Y.mQ
open Go.Conc.Lib Go.ConcR.Gen Go.Proofs.YtgpphkdoanciiaaGreatDoor
def adl(r:PR)(a:List PR)(s:List fH):km (r::a) s=yC r s::km a (yD s r):=by
 refine List.ext_getElem? λp=> ?_;by_cases b:p<(r::a).length
 .rw[Vf b];cases p with
  |zero=>rfl
  |succ p=>
   rw[è,Vf (by simpa using b)];rfl
 .rw[Ĩ (by rw[FJ];omega),Ĩ (by rw[ë,FJ];simp at b|-;omega)]
section
variable{N K:Nat}
def iT(N K:Nat):ByteArray:=⟨(105::49::58::104::47::99::58::98::40::((fC N).data.toList++44::((fC K).data.toList++[41]))).toArray⟩
def rU(N K:Nat):PR:=⟨[7,0,0,0,1,1,0,0],[⟨[2,1,N,K,3],⟨#[]⟩⟩]⟩
def adn:(iT N K).size=9+((fC N).size+1+(fC K).size+1):=by
 have a:(fC N).data.toList.length=(fC N).size:=by rw[Â];rfl
 have b:(fC K).data.toList.length=(fC K).size:=by rw[Â];rfl
 unfold iT;rw[ă,ñ];simp only[ë,Ý,a,b,List.length_nil];omega
def aus(b:N<1000000)(c:K<1000000):gL (iT N K)=(0,0,[rU N K]):=by have d:=adn (N:=N) (K:=K);have a:nS (iT N K) 0 _:=adf;have h:=sL b;have i:=sL c;let⟨z,e,f,g⟩:=adb (T:=iT N K) (k:=9) (st:=⟨[110,44,107,41],0,0,40,⟨[],Í,⟨[7,0,0,0,1,1,0,0],[]⟩,Í,⟨[2,1,0,0,3],⟨#[]⟩⟩⟩⟩) ⟨λ_=>(by show 4<=5;decide),(λq=>by cases q)⟩ rfl rfl b c a.r.r.r.r.r.r.r.r.r d;refine ade (z:=z) ?_ f (by rw[g];rfl) Z Z;unfold lF;rw[<-e,show(iT N K).size=(iT N K).size-9+1+1+1+1+1+1+1+1+1 by omega];rw[oy a U,oy a.r U,oy a.r.r U,oy a.r.r.r U,oy a.r.r.r.r U,oy a.r.r.r.r.r U,oy a.r.r.r.r.r.r U,oy a.r.r.r.r.r.r.r U,oy a.r.r.r.r.r.r.r.r U];rfl
def rz(N K:Nat):List ByteArray:=[iT N K,⟨#[117,50]⟩,⟨#[108,50]⟩,⟨#[100,49,58,50]⟩,⟨#[98,50,58,99]⟩,cT (N-10) K]
def FQ(N K:Nat):List PR:=[⟨[0,0,0,0,8,2,0,0],[]⟩,⟨[0,0,0,0,7,2,0,0],[]⟩,⟨[0,0,0,0,9,1,2,0],[]⟩,⟨[2,0,0,0,3,2,0,0],[]⟩,⟨[2,1,(N-10:Nat),K,4,1,0,0],[]⟩]
def aut:gL ⟨#[117,50]⟩=(0,0,[⟨[0,0,0,0,8,2,0,0],[]⟩])/\gL ⟨#[108,50]⟩=(0,0,[⟨[0,0,0,0,7,2,0,0],[]⟩])/\gL ⟨#[100,49,58,50]⟩=(0,0,[⟨[0,0,0,0,9,1,2,0],[]⟩])/\gL ⟨#[98,50,58,99]⟩=(0,0,[⟨[2,0,0,0,3,2,0,0],[]⟩]):=⟨ft,ft,ft,ft⟩
def auu:j5 (iT N K):=by unfold j5 at*;simp[iT,yF N,yF K]
def ado(b:N<1000000)(a:K<1000000):(ja ⟨#[59]⟩<|rz N K).size<=1200:=by have c:=NA ⟨#[59]⟩ U<|rz N K;have d:=aum (N:=N-10) Z a;have e:=adn (N:=N) (K:=K);have f:=sL b;have g:=sL a;have h:iO (rz N K)=(iT N K).size+(2+(2+(4+(4+((cT (N-10) K).size+0))))):=rfl;have i:(rz N K).length=6:=rfl;omega
def auv(b:N<1000000)(a:K<1000000):gL (ja ⟨#[59]⟩<|rz N K)=(0,0,rU N K::FQ N K):=by
 refine auc ?_ (λP c=> ?_) (by simp[rz]) (by simp[rz])<|ado b a
 .let⟨P,d,e,f⟩:=aut;simp only[rz,FQ,ü,Ś,aus b a,P,d,e,f,auj (N:=N-10) Z a]
 .simp only[rz,ą,ę,or_false]at c;rcases c with rfl|rfl|rfl|rfl|rfl|rfl
  .exact auu
  .decide
  .decide
  .decide
  .decide
  .exact aul
end
section
variable{s t:gd.St}{N K:Nat}
def lh(s:gd.St)(N K:Nat):gd.pM:=gd.gl (s.fj 2<|1000-N) [] 2 1 (N-10) K
def pf(s:gd.St)(e:gd.pM)(N:Nat):gd.St:=e.s.fj 2<|wu<|(e.s 2).fj+(N-(e.r+10))
def FR(s:gd.St)(u:Int):gd.St:=(s.fj 7<|wu<|(s 7).fj+u).fj 7<|wu<|(s.fj 7 (wu<|(s 7).fj+u) 7).fj+50
def auw{v:fH}(a:(v.s 2).fj=1000)(c:10<=N)(d:N<=400):yH (rU N K) v=Ä ⟨FR (pf v.s (lh v.s N K) N)<|(lh v.s N K).r+10,(lh v.s N K).I,[((lh v.s N K).r+10,(lh v.s N K).C)],v.h+1⟩:=by
 have b:lQ v.s [] ⟨2,1,N,K,3,⟨#[]⟩⟩=(((lh v.s N K).r+10,(lh v.s N K).C),Í,pf v.s (lh v.s N K) N,(lh v.s N K).I):=by unfold lQ;rw[if_neg (by decide:¬(3:Int)=1),if_neg (by decide:¬(3:Int)=2)];show wD v.s [] 2 1 N K=_;unfold wD;rw[if_neg (by rw[a];omega),a];rfl
 unfold yH vg;rw[show(tR<|rU N K).2.2=[⟨2,1,N,K,3,⟨#[]⟩⟩]from U,show(tR<|rU N K).2.1=7 from rfl];unfold tF;rw[b];rfl
def FT(h:s i=t i):sB s t i=[]:=by unfold sB tK o6 wE;rw[h];simp
def adp(h:t i={s i with fj:=c})(a:(s i).fj≠c):sB s t i=[iF i++⟨#[36]⟩]:=by unfold sB tK o6 wE;rw[h];simp[a]
def auy{e:gd.pM}(d:(s 2).fj=1000)(b:(s 7).fj=1000)(n:10<=N)(o:N<=400)(a:e.s=s.fj 2 (1000-N))(p:0<=e.r)(r:e.r+10<=N): pS (nL s (FR (pf s e N)<|e.r+10) 8)=⟨#[99,36,44,104,36]⟩/\(FR (pf s e N) (e.r+10) 2).fj=1000-(e.r+10):=by
 have f:wu ((e.s 2).fj+(N-(e.r+10)))=1000-(e.r+10):=by rw[a];show wu ((1000-(N:Int))+_)=_;rw[Mj Z Z];omega
 have g:(pf s e N 7).fj=1000:=by unfold pf;rwa[a]
 have h:FR (pf s e N) (e.r+10)=(pf s e N).fj 7 (1060+e.r):=by
  unfold FR;rw[g,Mj Z Z];have c:((pf s e N).fj 7 (1000+(e.r+10)) 7).fj=1000+(e.r+10):=rfl;rw[c,Mj Z Z];funext j;unfold St.fj St.fL;by_cases q:j=7
  .subst q;simp only[if_true];congr 1;omega
  .simp only[if_neg q]
 rw[h];have c:(pf s e N).fj 7 (1060+e.r) 2={s 2 with fj:=1000-(e.r+10)}:=by unfold pf;rw[f,a];rfl
 have i:(pf s e N).fj 7 (1060+e.r) 7={s 7 with fj:=1060+e.r}:=by unfold pf;rw[a];rfl
 have q:∀j,j≠2->j≠7->s j=(pf s e N).fj 7 (1060+e.r) j:=λj k l=>by unfold pf St.fj St.fL;rw[a];unfold St.fj St.fL;simp only[if_neg k,if_neg l]
 refine⟨?_,by rw[c]⟩;generalize(pf s e N).fj 7 (1060+e.r)=t at*;have m:nL s t 8=[iF 2++⟨#[36]⟩,iF 7++⟨#[36]⟩]:=by unfold nL;rw[show æ 8=[0,1,2,3,4,5,6,7]from U];simp only[List.flatMap_cons,List.flatMap_nil,FT<|q 0 A A,FT<|q 1 A A,FT<|q 3 A A,FT<|q 4 A A,FT<|q 5 A A,FT<|q 6 A A,adp c (by rw[d];omega),adp i (by rw[b];omega)];rfl
 rw[m];decide+kernel
end
section
variable{N K:Nat}{v0 v:fH}
def rA(v:fH)(N K:Nat):fH:=⟨FR (pf v.s (lh v.s N K) N)<|(lh v.s N K).r+10,(lh v.s N K).I,[((lh v.s N K).r+10,(lh v.s N K).C)],v.h+1⟩
def FU(v:fH)(N K:Nat):List ByteArray:=[⟨#[50]⟩,qF ((lh v.s N K).r+10,(lh v.s N K).C),pS<|(lh v.s N K).I.map oI,pS<|nL v.s (rA v N K).s 8,fC ((rA v N K).s 2).fj.toNat,qG<|gd.gl v.s [] 2 1 (N-10:Nat) K]
def auz(x:ByteArray):pS [x]=x:=by unfold pS ja;rw[if_neg fl];exact Ù<|by simp[I0,kz]
def auA(g:(v.s 2).fj=1000)(h:10<=N)(i:N<=400)(j:K<1000000):lV [v0,v] (ja ⟨#[59]⟩<|rz N K)=(ja ⟨#[59]⟩<|FU v N K,0,[v0,v,rA v N K]):=by
 have e:∀l,mF (oJ<|v0::v::l) 1=Ä (0,v):=λl=>Vk (n:=1) U;have k:mF (oJ [v0,v,rA v N K]) 2=Ä (0,rA v N K):=Vk (n:=2) U;let⟨f,b⟩:=ac4 (s:=[v0,v]) (r:=rU N K) U (e []) fl;rw[auw g h i]at f b;rw[atY<|auv Z j,adl,f];have a:pK [v0,v] (rU N K::FQ N K)=[v0,v,rA v N K]:=by show pK (yD [v0,v]<|rU N K) (FQ N K)=_;rw[b];rfl
 rw[a,b];show(ja _<|_::km (FQ N K) [v0,v,rA v N K],_)=_;have m:¬400<N-10:=Z
 have o:pS ((rA v N K).C.map qF)=qF ((lh v.s N K).r+10,(lh v.s N K).C):=auz _;have p:(rA v N K).r=(lh v.s N K).I:=U;apply congrArg λl=>(ja ⟨#[59]⟩ l,(0:Int),[v0,v,rA v N K]);unfold FU;rw[<-p,<-o];generalize rA v N K=z at*;have q:∀(r:PR) (d:List PR),r.c.getD 4 0≠1->km (r::d) [v0,v,z]=tM (oJ [v0,v,z]) (toQn r)::km d [v0,v,z]:=λr d a=>by rw[adl];unfold yC yD;rw[if_neg a,if_neg a]
 unfold FQ;rw[q _ _ fl,q _ _ fl,q _ _ fl,q _ _ fl,q _ _ fl];simp only[tM,toQn,List.getD_cons_zero,List.getD_cons_succ,e,k,CK];simp[m];exact⟨U,U⟩
end
noncomputable def NM:Ż:=(Tryz.f16.body.bind gd.ky).getD .skip
def C7(B:ByteArray)(c:UInt8)(r:Bool)(i:Int)(u:Nat->Ô):ŏ:=⟨#[Á B,Ê ź c.toNat,u 2,u 3,Ø r,Ê Ç i,u 6,u 7,u 8,u 9,u 10,u 11,u 12,u 13,u 14,u 15,u 16],[]⟩
def AK(B:ByteArray)(c:UInt8)(r:Bool)(i:Int)(a:ŏ):Prop:=∃u,a=C7 B c r i u
section
variable{Y:ŏ->Ö->Prop}{c:UInt8}
def auB(u:Nat->Ô)(b:∀a,AK B c Ð B.size a->H a w):Ġ À NM (Exit.then K<|QN H Y) (C7 B c Ð B.size u) w:=by
 unfold C7;conv=>arg 2;whnf
 go_wp2_with fail
 exact b _ (gd.gp _)
theorem auC(u:Nat->Ô)(i:Nat)(j:i<B.size)(e:B.size<=Þ)(f:B[i]≠c->∀a,AK B c Ð ((i+1:Nat):Int) a->K a w)(g:B[i]=c->∀a,AK B c Í i a->Y a w):Ġ À NM (Exit.then K<|QN H Y) (C7 B c Ð i u) w:=by
 unfold C7;conv=>arg 2;whnf
 have k:Ç.wrap ((i:Int)+1)=((i+1:Nat):Int):=by unfold Þ at e;exact IntWalk.i64_in _ ⟨Z,Z⟩
 have b:=fe<|Ò f g;clear f g e;by_cases d:B[i]=c
 .have h:((B[i].toNat:Int)==(c.toNat:Int))=Í:=by rw[d];simp
  go_wp2_with fail
  exact b.out.2 d _ (gd.gp _)
 .have h:((B[i].toNat:Int)==(c.toNat:Int))=Ð:=by
   grind [Ĉ]
  go_wp2_with fail
  exact b.out.1 d _ (gd.gp _)
def Vr(B:ByteArray)(c:UInt8)(yQ:Bool)(u:Ö)(a:ŏ)(w:Ö):Prop:=∃i:Nat,AK B c Ð i a/\i<=B.size/\decide (c∈B.data.toList.drop i)=yQ/\w=u
def HsE(B:ByteArray)(c:UInt8)(yQ:Bool)(u:Ö)(a:ŏ)(w:Ö):Prop:=AK B c Ð B.size a/\yQ=Ð/\w=u
def HsR(B:ByteArray)(c:UInt8)(yQ:Bool)(u:Ö)(a:ŏ)(w:Ö):Prop:=∃i:Nat,AK B c Í i a/\yQ=Í/\w=u
def yn(B:ByteArray)(a:ŏ)(_:Ö):Nat:=match a.tmps.getD 5 þ with
 |Ê _ i=>B.size-i.toNat
 |_=>0
def IB{r:Bool}(b:AK B c r i y):yn B y w=B.size-i:=by obtain⟨u,rfl⟩:=b;show B.size-(i:Int).toNat=_;simp
theorem auD(h:B.size<=Þ)(a:ŏ)(w:Ö)(j:Vr B c yQ u a w): Ġ À NM (Exit.then (λb d=>Vr B c yQ u b d/\yn B b d<yn B a w)<|QN (HsE B c yQ u)<|HsR B c yQ u) a w:=by
 let⟨i,e,n,f,d⟩:=j;rw[IB e];obtain⟨b,rfl⟩:=e;by_cases l:i=B.size
 .subst l;refine auB b λa q=>⟨q,?_,d⟩;rw[<-f,ġ (by rw[Â];exact Ñ _)];rfl
 .have g:i<B.size:=Z
  have m:i<B.data.toList.length:=by rwa[Â]
  rw[Đ m,show B.data.toList[i]=B[i] by rw[õ];rfl]at f;refine auC b i g h (λq a k=>⟨⟨i+1,k,Z,?_,d⟩,by rw[IB k];omega⟩) λq a k=>⟨i,k,?_,d⟩;all_goals grind
def auE(B:ByteArray)(c:UInt8)(d:B.size<=Þ)(w:Ö):ŗ À 16 #[Á B,Ê ź c.toNat] w λe f=>e=ÿ (Ø<|decide<|c∈B.data.toList)/\f=w:=by
 have L:∀a,AK B c Ð (0:Nat) a->Ġ À (Ŵ NM) (QN (HsE B c (decide<|c∈B.data.toList) w)<|HsR B c (decide<|c∈B.data.toList) w) a w:=λa g=>
  wp_loop (Vr B c (decide<|c∈B.data.toList) w) (yn B) ⟨0,g,Õ _,U,U⟩<|auD d
 have H:=fe L;generalize decide (c∈B.data.toList)=yQ at*;clear L;go_enter ŧ,Tryz.ntmps16;go_wp2_with fail;refine Ş ?_ (H.out _ (gd.gp _));rintro(_|(_|_)|_|_|_|_) a v hq;all_goals first|exact absurd hq id|skip
 .obtain⟨b,rfl,rfl⟩:=hq;obtain⟨u,rfl⟩:=b;unfold C7;go_wp2_with fail;go_ret;exact⟨U,U⟩
 .obtain⟨i,b,rfl,rfl⟩:=hq;obtain⟨u,rfl⟩:=b;unfold C7;go_ret;exact⟨U,U⟩
end
def auF{l:fc}(e:gE l)(f:nB<=l.w.heap.size)(c:UInt8)(g:B.size<=Þ)(a:ģ)(b:List ģ): fv.fi À Í (λh u=>iB l h/\h.d=l.d/\u=G (a.finish<|Ø<|decide<|c∈B.data.toList) b) l (G (Ë À 16 #[Á B,Ê ź c.toNat] ß)<|a::b):= AH e f fP (λu h=>by simp at h;rcases h with rfl|rfl;exact .ko _;exact .iG _ _) (λh=>by cases h;rfl) (auE B c g) Í a b
def auG{T:ByteArray}(h:NK B T.data.toList)(b:B.size<=Þ)(w:Ö):ŗ À 31 #[Á B,Á T] w λe a=>e=ÿ (Ø Í)/\a=w:=by
 let⟨r,e⟩:=h;have c:T.size<=B.size:=by have:=congrArg List.length e;rw[Ý,Â,Â]at this;simp_all
 have d:B.extract 0 T.size=T:=by refine Ù<|é.1 ?_;simp_all
 clear e;go_enter ē,š;go_wp2;all_goals go_ret
 simp_all
def tU(n:Nat)(l:List UInt8):Nat:=l.foldl (λn c=>10*n+(c.toNat-48)) n
def auH(g:Nat):tU 0 (fC g).data.toList=g:=by
 induction g using ć with
 |_ g a=>
  by_cases h:g<10
  .rw[C5 h,tS h];show 10*0+((ä<|48+g).toNat-48)=g;rw[FP h];omega
  .rw[FM h,ï,ĸ,tS Z];unfold tU at a|-;rw[ļ,a (g/10) Z];show 10*(g/10)+((ä<|48+g%10).toNat-48)=g;rw[FP Z];omega
def adq(g:Nat):∀c∈(fC g).data.toList,48<=c.toNat/\c.toNat<=57:=by
 induction g using ć with
 |_ g b=>
  by_cases h:g<10
  .rw[C5 h,tS h];intro c a;rw[Ü.1 (show c∈[ä<|48+g]from a),FP h];omega
  .rw[FM h,ï,ĸ,tS Z];intro c a;rcases ì.1 a with q|q
   .exact b (g/10) Z c q
   .rw[Ü.1 (show c∈[ä<|48+g%10]from q),FP Z];omega
def adr{l:fc}(b:gE l)(c:nB<=l.w.heap.size){S T:ByteArray}(h:NK S T.data.toList)(e:S.size<=Þ): fv.fi À Í (λu a=>iB l u/\u.d=l.d/\a=G (f.finish<|Ø Í) qX) l (G (Ë À 31 #[Á S,Á T] ß)<|f::qX):= AH b c fP (λu a=>by simp at a;rcases a with rfl|rfl<;>exact .ko _) (λh=>by cases h;rfl) (auG h e) Í f qX
theorem ads(n:Nat)(l:List UInt8)(c:UInt8):tU n (l++[c])=10*tU n l+(c.toNat-48):=by unfold tU;grind
def adt(s:ByteArray)(k:Nat)(h:k<s.size):s.data.toList.take (k+1)=s.data.toList.take k++[s[k]]:=by rw[List.take_succ_eq_append_getElem (by simpa using h)];rfl
def adu:∀(k:Nat) (T:ByteArray),k<=T.size->(∀c∈T.data.toList,48<=c.toNat/\c.toNat<=57)->tU 0 (T.data.toList.take k)<10^k
 |0,_,_,_=>ĭ
 |k+1,T,h,hd=>by have c:=adu k T (Nat.le_of_succ_le h) hd;rw[adt T k h,ads,Š];have:=hd T[k] (by simp[Ā]);omega
def auI(j:1<=B.size)(l:B.size<=6)(a:∀c∈B.data.toList,48<=c.toNat/\c.toNat<=57)(w:Ö): ŗ À 18 #[Á B] w λe d=>e=ÿ (Ê Ç<|tU 0 B.data.toList)/\d=w:=by
 have b:=fe a;clear a;go_enter İ,Tryz.ntmps18;go_wp2;go_loop [3,4] (λn i=>∃k:Nat,k<=B.size/\i=Ê Ç k/\n=Ê Ç (tU 0<|B.data.toList.take k)) λ_ i=>B.size-(intOf i).toNat
 case atStart=>exact⟨0,Õ _,U,U⟩
 case round=>
  obtain⟨k,f,rfl,rfl⟩:=hrel;by_cases g:k<B.size
  .have m:tU 0 (B.data.toList.take k)<100000:=Nat.lt_of_lt_of_le (adu k B f b.out) (Nat.pow_le_pow_right A<|show k<=5 by omega);have h:Hid (tU 0 (B.data.toList.take<|k+1)=10*tU 0 (B.data.toList.take k)+(B[k].toNat-48)):=fe (by rw[adt B k g,ads]);have o:=b.out B[k] (by simp[Ā]);generalize tU 0 (B.data.toList.take k)=x at*;have p:¬(B[k].toNat:Int)<48:=Z
   have q:¬(57:Int)<B[k].toNat:=Z
   go_wp2;go_round
   case rel=>exact⟨k+1,Z,by go_num,by rw[h.out];go_num⟩
   case measure=>simp[intOf];omega
  .rw[(Ģ<|by simp;omega)];go_wp2;go_ret;exact⟨U,U⟩
def adv(g:Nat):1<=(fC g).size:=by
 by_cases h:g<10
 .rw[C5 h,tS h];exact Ñ 1
 .rw[FM h,Æ,tS Z];exact Ŏ 1 _
def Vt{l:fc}(a:gE l)(b:nB<=l.w.heap.size){g:Nat}(c:g<1000000): fv.fi À Í (λe h=>iB l e/\e.d=l.d/\h=G (f.finish<|Ê Ç g) qX) l (G (Ë À 18 #[Á<|fC g] ß)<|f::qX):= AH a b fP (λu e=>by simp at e;subst e;exact .ko _) (λh=>by cases h;rfl) (λw=>(auI (adv g) (sL c) (adq g) w).mono λe h q=>by rwa[auH]at q) Í f qX
section
variable{c l a:fc}{s t:List fH}{e:Ô}{V:Nat->Prop}{g:List Ô}
def auJ(h:gk X l a)(b:gE l):gE a:= ⟨h.N b.r,h.d.trans b.d,by rw[h.q];exact b.q,by rw[h.S];exact b.rd,by rw[h.Y];exact b.I,by rw[h.b];exact b.M,by rw[h.K];exact b.k⟩
end
noncomputable def NN:Ż:=kU Ž [1,1,1,0,1,0,0]
noncomputable def adw:Ż:=kU Ž [1,1,1,1]
noncomputable def C8 (a:Array Ô) (b:List ģ):Ř:=G ((base 24).at ⟨a,[]⟩<|Ũ NN::.inLoop NN::[.inBlock 0,Ũ adw]) b
structure Js(B:ByteArray)(c:UInt8)(lv:Ô)(fr i:Nat)(tt:Array Ô):Prop where
 r:tt.size=35
 C:tt[0]?=Ä (Á B)
 t1:tt[1]?=Ä (Ê ź c.toNat)
 I:tt[5]?=Ä lv
 M:tt[6]?=Ä (Ê Ç fr)
 N:tt[7]?=Ä (Ê Ç i)
def Vu(S:ByteArray)(w:Ö):ö À (Builtin.len_ #[9] 3 #[Á S]) w #[]=#[]:=ft
def auK(B:ByteArray)(w:Ö)(a:i<=j)(b:j<=B.size):ö À (î 9 (Á B) (Ä<|Ê Ç i) (Ä<|Ê Ç j) à) w #[]=#[]:=by simp[î,ņ,go_sem,a,b,Ĝ]
def adx(B:ByteArray)(w:Ö)(a:i<=B.size):ö À (î 9 (Á B) (Ä<|Ê Ç i) à à) w #[]=#[]:=by simp[î,ņ,go_sem,a,Ĝ]
structure vu(iq l:fc)(lv:Ô)(xs:List ByteArray):Prop where
 r:gk fg iq l
 C:l.w.ownsRow 0 9 1 lv xs.length (jm xs)
 fq:∀k,lv.ownBlock=Ä k->l.O k/\iq.w.heap.size<=k
section
variable{J:Jd}{iq l:fc}{S:ByteArray}{c:UInt8}{lv:Ô}{fr:Nat}{xs:List ByteArray}{tt:Array Ô}{k:List Α}
def vu.I(h:vu iq l lv xs)(f:gA iq)(c:gE l){ob:Obj}(g:fG l l.w u)(d:fG (gI l u ob) (gI l u ob).w W)(i:jX.ownsRow 0 9 1 v (xs.length+1) (jm xs++[Á S]))(m:W.grownBy jX lv.ownBlock)(n:∀k,v.ownBlock=Ä k->(nh (gI l u ob) W jX).O k)(o:v.ownBlock=lv.ownBlock\/v.ownBlock=Ä W.heap.size): gE (nh (gI l u ob) W jX)/\vu iq (nh (gI l u ob) W jX) v (xs++[S]):=by
 have a:=ng (X:=λb=>Ä b=lv.ownBlock) (ob:=ob) c.r g;have b:=a.ff (Le (a.N c.r) d m λk e=>⟨a.O k (h.fq k e).1,e.symm⟩);refine⟨auJ b c,h.r.wo b λj q e=> ?_,?_,λk e=>⟨n k e,?_⟩⟩
 .have:=(h.fq j e.symm).2;have:=f.fx j q;omega
 .rwa[Ý,show jm (xs++[S])=jm xs++[Á S] by simp[jm]]
 .rcases o with z|z
  .exact(h.fq k<|z.symm.trans e).2
  .have e:=Ú<|z.symm.trans e;have:=h.r.I;have:=a.I;have:=d.r;omega
def auL{a b:UInt8}(h:a≠b):((a.toNat:Int)==(b.toNat:Int))=Ð:=by rw[beq_eq_false_iff_ne];exact λq=>h<|Ĉ.1 Z
def auM(h:vu iq l lv xs)(C:gA iq)(a:gE l)(b:Js B c lv fr i tt)(D:i<B.size)(E:fr<=i)(hB:B.size<=10^12)(uB:xs.length<=fr) (o:B[i]≠c->∀d g,gE d->vu iq d lv xs->Js B c lv fr (i+1) g->fv.fi À Í J d (C8 g qX)) (r:B[i]=c->∀d g v,gE d->vu iq d v (xs++[B.extract fr i])->Js B c v (i+1) (i+1) g->fv.fi À Í J d (C8 g qX)):fv.fi À Í J l (C8 tt qX):=by
 have hF:True:=trivial;let⟨s,t,f⟩:=jj h.C;obtain⟨u,rfl⟩:=vY tt b.r;have F:u 0=Á B:=by simpa using b.C
 have G:u 1=Ê ź c.toNat:=by simpa using b.t1
 have I:u 5=û s xs.length t:=by rw[<-f];simpa using b.I
 have K:u 6=Ê Ç fr:=by simpa using b.M
 have L:u 7=Ê Ç i:=by simpa using b.N
 clear b;have k1:(i:Int)<(B.size:Int):=Z
 have k2:(0:Int)<=(i:Int):=Z
 have k3:(0:Int)<=(fr:Int):=Z
 have k4:(fr:Int)<=(i:Int):=Z
 have k5:(i:Int)<=(B.size:Int):=Z
 have M:i<=B.size:=Z
 have m:Ç.wrap ((i:Int)+1)=((i+1:Nat):Int):=IntWalk.i64_in _ ⟨Z,Z⟩;have H:=fe<|Ò o r;clear o r;apply fN (n:=60) a.r.r;simp only[C8,æ,ĉ,Œ,F,G,I,K,L];conv in NN=>whnf
 repeat w_go fu
 refine Ã λ_ _=> ?_;apply mY (v:=Ê Ç B.size) U fP (by k_ne) a.r.r a.q (λw _=>by go_simp) (λw _ e p=>by simp[go_sem,Vu]at p);walk_nrm;apply fN (n:=60) a.r.r;repeat w_nl fu
 refine Ã λ_ _=> ?_;apply mY (v:=Ê ź B[i].toNat) U fP (by k_ne) a.r.r a.q (λw _=>by go_simp) (λw _ e p=>by simp[go_sem,Instr.index,D]at p);walk_nrm;by_cases j:B[i]=c
 .rw[j];apply fN (n:=60) a.r.r;repeat w_nl fu
  refine Ã λ_ _=> ?_;apply mY (v:=Á<|B.extract fr i) U fP (by k_ne) a.r.r a.q (λw _=>by go_simp) (λw _ e p=>by simp[go_sem,auK B w E M]at p);walk_nrm;refine pI (V:=λp=>û (Ä ⟨p,0,à⟩) 1 1) (ob:=Ė #[Á<|B.extract fr i] 9) U U (by k_ne) a.r.r a.q (λw=>by go_simp) (λw=>by simp[go_sem]) λw x=> ?_;walk_nrm;have p:=ng (X:=fg) (ob:=Ė #[Á<|B.extract fr i] 9) a.r x;have y:ia (gI l w<|Ė #[Á<|B.extract fr i] 9) w.heap.size (Ė #[Á<|B.extract fr i] 9):=⟨ā U,fv.na⟩;have N:À.info? 9=Ä ľ:=ŭ;refine Ht (v:=û s xs.length t) (us:=[Á<|B.extract fr i]) (px:=w.heap.size) (c:=1) (n:=xs.length) (xs:=jm xs) (inf:=ľ) (z:=Á ⟨#[]⟩) U U (by k_ne) (p.N a.r) (by rw[p.q];exact a.q) U U U Ĕ N U U ĭ U U (by simp[ľ];omega) (by simp only[Þ];omega) (f▸n9 h.C λk e=>p.r k (Ì (h.fq k e).1) id) (f▸λk e=>p.O k (h.fq k e).1) y.fq (Se<|y.C U) (λ_ e=>Ü.1 e▸rfl) λauN v Lw P Q S T W=> ?_;let⟨e,Y⟩:=h.I C a x P Q (f▸S) T<|f▸W;walk_nrm;apply fN (n:=80) e.r.r;repeat w_nl fu
  w_go fu
  refine Ã λ_ _=> ?_;refine H.out.2 j _ _ _ e Y ⟨U,U,U,U,?_,?_⟩
  .simp[m]
  .simp[m]
 .have e:=auL j;apply fN (n:=60) a.r.r;repeat w_nl fu
  w_go fu
  refine Ã λ_ _=> ?_;refine H.out.1 j _ _ a h ⟨U,U,U,by rw[f];rfl,U,?_⟩;simp[m]
def auO(h:vu iq l lv xs)(s:gA iq)(a:gE l)(b:Js B c lv fr B.size tt)(x:fr<=B.size)(T:B.size<=10^12)(W:xs.length<=fr) (C:∀g v,gE g->vu iq g v (xs++[B.extract fr B.size])->fv.fi À Í J g (G (f.at (y.put ((Q[j]?).bind (·.dst)) v)<|Ï Q jJ::k) qX)):fv.fi À Í J l (C8 tt<|f.at y (Ï Q (j::jJ)::k)::qX):=by
 have hF:True:=trivial;let⟨i,m,d⟩:=jj h.C;obtain⟨u,rfl⟩:=vY tt b.r;have D:u 0=Á B:=by simpa using b.C
 have E:u 5=û i xs.length m:=by rw[<-d];simpa using b.I
 have F:u 6=Ê Ç fr:=by simpa using b.M
 have H:u 7=Ê Ç B.size:=by simpa using b.N
 clear b;have Y:(0:Int)<=(fr:Int):=Z
 have k4:(fr:Int)<=(B.size:Int):=Z
 apply fN (n:=60) a.r.r;simp only[C8,æ,ĉ,Œ,D,E,F,H];conv in NN=>whnf
 conv in adw=>whnf
 repeat w_go fu
 refine Ã λ_ _=> ?_;apply mY (v:=Ê Ç B.size) U fP (by k_ne) a.r.r a.q (λw _=>by go_simp) (λw _ e p=>by simp[go_sem,Vu]at p);walk_nrm;apply fN (n:=60) a.r.r;repeat w_nl fu
 refine Ã λ_ _=> ?_;apply mY (v:=Á<|B.extract fr B.size) U fP (by k_ne) a.r.r a.q (λw _=>by go_simp) (λw _ e p=>by simp[go_sem,adx B w x]at p);walk_nrm;refine pI (V:=λp=>û (Ä ⟨p,0,à⟩) 1 1) (ob:=Ė #[Á<|B.extract fr B.size] 9) U U (by k_ne) a.r.r a.q (λw=>by go_simp) (λw=>by simp[go_sem]) λw o=> ?_;walk_nrm;have p:=ng (X:=fg) (ob:=Ė #[Á<|B.extract fr B.size] 9) a.r o;have r:ia (gI l w<|Ė #[Á<|B.extract fr B.size] 9) w.heap.size (Ė #[Á<|B.extract fr B.size] 9):=⟨ā U,fv.na⟩;have I:À.info? 9=Ä ľ:=ŭ;refine Ht (v:=û i xs.length m) (us:=[Á<|B.extract fr B.size]) (px:=w.heap.size) (c:=1) (n:=xs.length) (xs:=jm xs) (inf:=ľ) (z:=Á ⟨#[]⟩) U U (by k_ne) (p.N a.r) (by rw[p.q];exact a.q) U U U Ĕ I U U ĭ U U (by simp[ľ];omega) (by simp only[Þ];omega) (d▸n9 h.C λk e=>p.r k (Ì (h.fq k e).1) id) (d▸λk e=>p.O k (h.fq k e).1) r.fq (Se<|r.C U) (λ_ e=>Ü.1 e▸rfl) λauN v Lw K L M N P=> ?_;let⟨e,S⟩:=h.I s a o K L (d▸M) N<|d▸P;walk_nrm;apply fN (n:=80) e.r.r;repeat w_nl fu
 u_in fu hF
 refine ĕ (t:=4) U U ı U ⟨by u_nil,?_⟩;refine Ã λ_ _=> ?_;exact C _ _ e S
def Vv(e:gA iq)(g:B.size<=10^12) (n:∀a v,gE a->vu iq a v (nR B c B.size 0 0)->fv.fi À Í J a (G (f.at (y.put ((Q[j]?).bind (·.dst)) v)<|Ï Q jJ::k) qX)): ∀(m fr i:Nat) (l:fc) (lv:Ô) (xs:List ByteArray) (tt:Array Ô),B.size-i=m->fr<=i->i<=B.size->xs.length<=fr->xs++nR B c m fr i=nR B c B.size 0 0->vu iq l lv xs->gE l->Js B c lv fr i tt->fv.fi À Í J l (C8 tt<|f.at y (Ï Q (j::jJ)::k)::qX)
 |0,fr,i,l,lv,xs,tt,hm,hfr,hi,uB,he,h,hb,hT=>by
  obtain rfl:i=B.size:=Z
  exact auO h e hb hT hfr g uB λa v b d=>n a v b<|he▸d
 |m+1,fr,i,l,lv,xs,tt,hm,hfr,hi,uB,he,h,hb,hT=>by
  have r:i<B.size:=Z
  rw[show nR B c (m+1) fr i=if B[i]=c then B.extract fr i::nR B c m (i+1) (i+1)else nR B c m fr (i+1)from dif_pos r]at he;refine auM h e hb hT r hfr g uB (λq a o b d p=> ?_) λq a o v b d p=> ?_
  .rw[if_neg q]at he;exact Vv e g n m fr (i+1) a lv xs o Z Z Z uB he d b p
  .rw[if_pos q]at he;exact Vv e g n m (i+1) (i+1) a v _ o Z Z Z (by rw[Ý,ħ];omega) (by rwa[đ]) d b p
def ady(a:gE l)(d:B.size<=10^12) (g:∀b v,gE b->vu l b v (nR B c B.size 0 0)->fv.fi À Í J b (G (f.at (y.put ((Q[j]?).bind (·.dst)) v)<|Ï Q jJ::k) qX)):fv.fi À Í J l (G (Ë À 24 #[Á B,Ê ź c.toNat] ß)<|f.at y (Ï Q (j::jJ)::k)::qX):=by
 have hF:True:=trivial;rw[wP [_,_] 33 ı];simp only[ø,Û,í];conv in kU _ _=>whnf
 apply fN (n:=60) a.r.r;repeat w_bar fu
 w_go fu
 refine Ã λ_ _=> ?_;exact Vv a.r d g B.size 0 0 l (û à 0 0) [] _ U (Ñ _) (Õ _) (Ñ _) U ⟨gk.fX a.r.r,⟨U,Ì ⟨U,U⟩⟩,λk e=>by cases e⟩ a ⟨rfl,rfl,rfl,rfl,rfl,rfl⟩
end
structure jz(R:Nat->Prop)(W:Ö)(l:fc)(x nx:Nat)(s:List fH):Prop where
 a:∃sl V,ox l x nx s sl V
 C:∀b,R b->(l.O b/\l.w.heap[b]?=W.heap[b]?)/\b≠x
section
variable{R:Nat->Prop}{l d:fc}{x nx:Nat}{s g:List fH}
def jz.M(h:jz R W l x nx s)(c:∀b,l.O b->d.O b/\d.w.heap[b]?=l.w.heap[b]?)(e:l.w.heap.size<=d.w.heap.size):jz R W d x nx s:=by let⟨f,V,a⟩:=h.a;exact⟨⟨f,V,a.N (λb q=>(c b q).1) (λb q=>(c b q).2) e⟩,λb q=>⟨⟨(c b (h.C b q).1.1).1,(c b (h.C b q).1.1).2.trans (h.C b q).1.2⟩,(h.C b q).2⟩⟩
def jz.r(h:jz R W l x nx s)(r:fG l l.w u):jz R W {l with w:=u} x nx s:=h.M (λb q=>⟨q,r.I b<|Ì q⟩) r.r
def jz.I(h:jz R W l x nx s):lH s:=by let⟨_,_,a⟩:=h.a;let⟨_,_,q,_⟩:=a.rd;exact q
def jz.N(h:jz R W l x nx s):nB<=l.w.heap.size:=by let⟨_,_,a⟩:=h.a;exact a.r.fx
def adz(h:jz R W l x nx s)(j:gE l)(k:B.size<=Þ) (m:∀d,gE d->jz R W d x nx (lV s B).2.2->iM vQ d (G (f.at (y.put ((Q[i]?).bind (·.dst))<|Ů #[Á (lV s B).1,Ê Ç (lV s B).2.1])<|Ï Q jJ::L) qX)): iM vQ l (G (Ë À 17 #[å<|Ä ⟨x,0,à⟩,Á B] ß)<|f.at y (Ï Q (i::jJ)::L)::qX):=by let⟨v,V,n⟩:=h.a;refine acw j n k (λ_=>acB h.I) λd o ⟨e,p,r,t,w⟩=>m d o ⟨⟨p,r,t⟩,λb q=> ?_⟩;let⟨⟨g,u⟩,c⟩:=h.C b q;exact⟨⟨(e b g c).1,(e b g c).2.trans u⟩,c⟩
def auP(h:jz R W l x nx s)(o:gE l)(C:B.size<=Þ)(D:lV s B=(ja ⟨#[59]⟩ vX,0,g))(E:vX≠[])(F:∀a∈vX,j5 a)(M:vX.length=n)(N:(ja ⟨#[59]⟩ vX).size<=10^12) (P:∀d m,gE d->jz R W d x nx g->d.w.ownsRow 0 9 1 m n (jm vX)->(∀b,m.ownBlock=Ä b->d.O b)->iM vQ d (G (f.at (y.put ((Q[i]?).bind (·.dst))<|Ů #[m,Ø Í])<|Ï Q jJ::L) qX)): iM vQ l (G (Ë À 26 #[å<|Ä ⟨x,0,à⟩,Á B,Ê Ç n] ß)<|f.at y (Ï Q (i::jJ)::L)::qX):=by
 have hF:True:=trivial;subst M;rw[wP [_,_,_] 25 Ň];simp only[ø,Û,í];conv in kU _ _=>whnf
 apply mh;apply fN (n:=60) o.r.r;repeat w_go fu
 refine Ã λ_ _=> ?_;refine .fB λX p=>⟨o.C p,U,?_⟩;have r:=o.C p;have H:=h.r p;refine yA (f:=17) (args:=#[å<|Ä ⟨x,0,à⟩,Á B]) r U fP (by k_ne) (λw=>by go_simp) (λw=>È U ũ U U #[]) λT k=> ?_;refine adz (H.r k) (r.C k) C λY t u=> ?_;have I:=ac3 E F;rw[D]at u|-;dsimp only at u|-;generalize ja ⟨#[59]⟩ vX=S at*;clear D h H r C;walk_nrm;apply mh;apply fN (n:=60) t.r.r;repeat w_nl fu
 refine Ã λ_ _=> ?_;refine vt (f:=24) (args:=#[Á S,Ê ź 59]) U fP (by k_ne) t.r.r (λw=>by go_simp) (λw=>È U ı U U #[]) λacC J=> ?_;refine ady (c:=59) (t.C J) N λl5 m v j=> ?_;have V:=(u.r J).M (λb q=>⟨j.r.O b q,j.r.r b (Ì q) id⟩) j.r.I;rw[I]at j;let⟨pk,ck,K⟩:=jj j.C;have z:=fe (Ò j.C λb q=>(j.fq b q).1);clear j I F E;rw[K];walk_nrm;apply fN (n:=60) v.r.r;repeat w_nl fu
 u_in fu hF
 refine Ū U U Ň U ⟨by u_nil,?_⟩;refine Ã λ_ _=> ?_;refine .fB λT k=>⟨v.C k,U,?_⟩;have:=P _ m (v.C k) (V.r k) (n9 z.out.1 λL e=>k.I L<|Ì<|z.out.2 L e) z.out.2;rwa[K]at this
end
def sM(l a:fc):Prop:=∀b,l.O b->a.O b/\a.w.heap[b]?=l.w.heap[b]?
structure C9(l:fc)(kb:Nat)(xs:List ByteArray):Prop where
 fq:l.O kb
 C:∀i y,xs[i]?=Ä y->l.w.cell? ⟨kb,i,à⟩=Ä (Á y)
section
variable{J:Jd}{kr:Ô->Ö->Prop}{R:Nat->Prop}{l l':fc}{x nx:Nat}{s j:List fH}{b m:ģ}{a p:ŏ}{ops:Array ĩ}{rest:List Nat}{k:List Α}{cs:List ģ}{f:FuncId}{args:Array Ô}{fn:Func}{NO:Array ų}{NP:Array œ}{kb:Nat}{xs:List ByteArray}{y:ByteArray}{t:ų}
def sM.r{a:fc}(h:sM l l')(k:sM l' a):sM l a:=λb q=>⟨(k b (h b q).1).1,(k b (h b q).1).2.trans (h b q).2⟩
def Jt(r:fG l l.w u):sM l {l with w:=u}:=λb q=>⟨q,r.I b<|Ì q⟩
def C9.r(h:C9 l kb xs)(k:sM l l'):C9 l' kb xs:=⟨(k kb h.fq).1,λi y q=>(gN (k kb h.fq).2).trans<|h.C i y q⟩
def uW(h:jz R W l x nx s)(hb:gE l)(hf:Tryz.prog.funcs[f]?=some fn) (hc:∀l',gE l'->nB<=l'.w.heap.size->∀(cl:Frame) (cs:List Frame),fv.fi Tryz.prog true (λl'' g'=>iB l' l''/\l''.d=l'.d/\g'=G (cl.finish v) cs) l'<|G (Frame.enter Tryz.prog f args .normal)<|cl::cs) (hn:∀l',gE l'->jz R W l' x nx s->sM l l'->fv.fi Tryz.prog true J l' (G (b.at (a.put o.dst v)<|.inRegion ops rest::k) cs)) (ho:ops[i]?=some o:=by rfl) (oA:o.op=.call {callee:=.value<|.func f,args:=NO,argTypes:=NP}:=by rfl) (hw:Region.wanted o (yielded ops a.tmps)=true:=by rfl) (hk:b.kind≠.early:=by k_ne) (hr:∀w,(execOp a.eval o).run Tryz.prog w=.ok (.enter f args) w:=by intro w;go_simp) (hm:(fn.name== "runtime.NumGoroutine")=false:=by rfl) (hd:fn.body.isNone=false:=by rfl): fv.fi Tryz.prog true J l (G (b.at a<|.inRegion ops (i::rest)::k) cs):=by refine vt ho hw hk hb.r.r hr (λw=>È oA hf hm hd #[]) λw₁ jY=> ?_;refine fv.fi.lG ?_<|hc _ (hb.C jY) (h.r jY).N _ _;rintro l2 g2 ⟨ha,hd,rfl⟩;rw[Ċ,ho];have k2:sM {l with w:=w₁} l2:=λb q=>⟨ha.O b q,ha.r.I b<|Ì q⟩;exact hn l2 (iB.u7 (hb.C jY) ha hd) ((h.r jY).M k2 ha.r.r)<|(Jt jY).r k2
def NQ(h:jz R W l x nx s)(hb:gE l)(hf:Tryz.prog.funcs[f]?=some fn) (hn:∀l',gE l'->jz R W l' x nx s->sM l l'->l.w.heap.size<=l'.w.heap.size->iM kr l' (G (Frame.enter Tryz.prog f args .normal)<|b.at a (.inRegion ops (i::rest)::k)::cs)) (ho:ops[i]?=some o:=by rfl) (oA:o.op=.call {callee:=.value<|.func f,args:=NO,argTypes:=NP}:=by rfl) (hw:Region.wanted o (yielded ops a.tmps)=true:=by rfl) (hk:b.kind≠.early:=by k_ne) (hr:∀w,(execOp a.eval o).run Tryz.prog w=.ok (.enter f args) w:=by intro w;go_simp) (hm:(fn.name== "runtime.NumGoroutine")=false:=by rfl) (hd:fn.body.isNone=false:=by rfl): fv.fi Tryz.prog true (Je kr) l (G (b.at a<|.inRegion ops (i::rest)::k) cs):= .fB λw₁ jY=>⟨hb.C jY,U,yA (hb.C jY) ho hw hk hr (λw=>È oA hf hm hd #[]) λxk oE=>hn _ ((hb.C jY).C oE) ((h.r jY).r oE) ((Jt jY).r<|Jt oE)<|Å jY.r oE.r⟩
def yI(hb:gE l)(h:C9 l kb xs)(n:Nat)(hx:xs[n]?=some y)(hn:fv.fi Tryz.prog true J l (G (b.at (a.put o.dst<|.string y)<|.inRegion ops rest::k) cs)) (ho:ops[i]?=some o:=by rfl) (oA:o.op=.load 9 t:=by rfl) (ht:a.eval t=.pointer (some ⟨kb,n,none⟩):=by rfl) (hw:Region.wanted o (yielded ops a.tmps)=true:=by rfl) (hk:b.kind≠.early:=by k_ne): fv.fi Tryz.prog true J l (G (b.at a<|.inRegion ops (i::rest)::k) cs):=by
 have e:ċ a.eval o=ċ a.eval {o with op:=.load 9 t}:=by unfold ċ;rw[oA]
 refine oZ ho hw hk hb.r.r hb.q (Ì<|Ì h.fq) (h.C n y hx) (λw c=> ?_) (λw c=> ?_) hn
 .rw[e];unfold ċ;simp only[ht];go_simp
 .rw[e];unfold ċ;simp only[ht];simp[go_sem,c]
def auQ(h:jz R W l x nx s)(f:gE l)(o:B.size<=Þ)(r:lV s B=(ja ⟨#[59]⟩ xs,0,j))(t:∀y∈xs,j5 y)(a:xs.length=n+1)(u:(ja ⟨#[59]⟩ xs).size<=10^12) (v:∀l' kb b,gE l'->jz R W l' x nx j->C9 l' kb xs->iM kr l' (G (m.at (p.put ((ops[i]?).bind (·.dst))<|Ů #[û (Ä ⟨kb,0,à⟩) (n+1) b,Ø Í])<|Ï ops rest::k) cs)): iM kr l (G (Ë À 26 #[å<|Ä ⟨x,0,à⟩,Á B,Ê Ç ((n+1:Nat):Int)] ß)<|m.at p (Ï ops (i::rest)::k)::cs):=by
 refine auP (n:=n+1) h f o r (λe=>by rw[e]at a;cases a) t a u λw z C D c E=> ?_;let⟨F,b,d⟩:=jj c;obtain⟨kb,rfl⟩:∃kb,F=Ä ⟨kb,0,à⟩:=by
  rcases c.2 with⟨e,q⟩|⟨g,_,_,e,_⟩
  .omega
  .rw[d]at e;cases e;exact⟨g,U⟩
 have e:z.ownBlock=Ä kb:=by rw[d];rfl
 rw[d];refine v w kb b C D ⟨E kb e,λi y q=> ?_⟩;have q:=c.cells e i (Á y) (by unfold jm;rw[ð,q];rfl);rwa[Addr.add_lit,Ŀ]at q
end
def NS(n:Nat):(44:UInt8)∉(fC n).data.toList:=λq=>by have:=(adq n 44 q).1;revert this;decide
def auR(r:gd.pM):∃a,nR (qG r) 44 (qG r).size 0 0=fC r.C.toNat::fC r.M.toNat::fC r.r.toNat::a:=by
 rw[NJ _ _ _ 0 0 (ş _) (Ñ _)<|Õ _];have e:((qG r).extract 0 0).data.toList=[]:=by rw[É,Î];rfl
 rw[e,ő,aun,Jr _ _ _<|NS _,Jr _ _ _<|NS _];cases r.I.map oI with
 |nil=>
  rw[show kz ⟨#[44]⟩ []=[]from U,ĥ,Vj _ _<|NS _];exact⟨[],U⟩
 |cons y q=>
  rw[show kz ⟨#[44]⟩ (y::q)=44::(y.data.toList++kz ⟨#[44]⟩ q)from U,Jr _ _ _<|NS _];exact⟨_,U⟩
def FV(w:Bool):ByteArray:=⟨#[if w then 49 else 48]⟩
def adA(w:Bool):fC w.toNat=FV w:=by cases w<;>decide+kernel
def auS(a:Int)(w:Bool):qF (a,w)=⟨((if w then 49 else 48)::58::(fC a.toNat).data.toList).toArray⟩:=by unfold qF;rw[adA];exact Ù<|by cases w<;>simp[FV,ï]
def auT(n:Nat)(w:Bool):∃a:ByteArray,qF (n,w)=a/\a.size=2+(fC n).size/\a.extract 2 a.size=fC n/\a.extract 0 1=FV w/\(w=Í->NK a [49,58])/\(w=Ð->NK a [48,58])/\(w=Í->a.extract 0 2≠⟨#[48,58]⟩):=by
 have e:=auS n w;have c:(qF (n,w)).size=2+(fC n).size:=by rw[e,ă,ñ,ë,ë,Â,Nat.add_comm 2];rfl
 refine⟨_,U,c,?_,?_,λh=>⟨_,by rw[e,h];rfl⟩,λh=>⟨_,by rw[e,h];rfl⟩,λh q=> ?_⟩
 .refine Ù<|é.1 ?_;rw[É,Î,ã,c,e];show Ą _ (fC n).data.toList=_;exact Ģ<|by rw[Â];show(fC n).size<=_;omega
 .rw[e];exact Ù<|é.1<|by rw[É,Î];rfl
 .rw[e,h]at q;have:=congrArg (λb=>b.data.toList.head?) q;rw[É,Î]at this;cases this
def auU{T:ByteArray}(d:T.size<=B.size)(a:B.extract 0 T.size≠T)(f:B.size<=Þ)(w:Ö):ŗ À 31 #[Á B,Á T] w λe b=>e=ÿ (Ø Ð)/\b=w:=by
 have c:((B.extract 0 T.size).toList==T.toList)=Ð:=by rw[beq_eq_false_iff_ne,ByteArray.toList_eq,ByteArray.toList_eq];exact λq=>a<|Ù<|é.1 q
 clear a;go_enter ē,š;go_wp2;all_goals go_ret
 all_goals exact⟨by simp[c],U⟩
section
variable{l:fc}
def auV(a:gE l)(b:nB<=l.w.heap.size){S T:ByteArray}(c:T.size<=S.size)(e:S.extract 0 T.size≠T)(g:S.size<=Þ): fv.fi À Í (λh u=>iB l h/\h.d=l.d/\u=G (f.finish<|Ø Ð) qX) l (G (Ë À 31 #[Á S,Á T] ß)<|f::qX):= AH a b fP (λu h=>by simp at h;rcases h with rfl|rfl<;>exact .ko _) (λh=>by cases h;rfl) (auU c e g) Í f qX
end
end Go.Proofs.Y.kA
namespace Go.Proofs.Y.fv
open Go Go.Conc Go.Proofs.Y.Lift Go.RowKit Go.Conc.Lib Go.ConcR.Gen
def adB(a:Array ĩ):Bool:=(æ a.size).all λi=>match a[i]? with
 |none=>Í
 |some o=>o.dst.isSome&&(match o.op with|.select _ _=>Ð|_=>Í)&&(o.op.operands.toList.all λx=>match x with
  |.tmp d=>(æ a.size).all λj=>((a[j]?).bind (·.dst)) !=Ä d||o.after.toList.any λe=>e.on==j&&vU e
  |_=>Í)&&(match o.guard with
  |none=>Í
  |some (j,_)=>o.after.toList.any λe=>e.on==j&&vU e)
def AL(a:Array ĩ)(t:Array Ô)(i:Nat):Ô:=t.getD (((a[i]?).bind (·.dst)).getD 0) þ
def NT(p:Nat->ĩ->Prop):Nat->List ĩ->Prop
 |_,[]=>True
 |n,o::r=>p n o/\NT p (n+1) r
def auW{p:Nat->ĩ->Prop}:∀(l:List ĩ) (n i:Nat) (o:ĩ),NT p n l->l[i]?=Ä o->p (n+i) o:=by
 intro l
 induction l with
 |nil=>intro n i o _ e;simp at e
 |cons x l a=>
  intro n i o h e;cases i with
  |zero=>
   rw[ě]at e;obtain rfl:=Ú e;exact h.1
  |succ i=>
   rw[è]at e;rw[show n+(i+1)=n+1+i by omega];exact a _ i o h.2 e
section
variable{J:Jd}{l:fc}{c:Array Ô}
def lL.N(h:lL Q q (AL Q c) wJ y)(g:∀d,Q.toList.all (λo=>o.dst !=Ä d)=Í->c[d]?=q[d]?)(i:c.size=q.size)(k:qY Q q.size=Í){d:Nat}(l:∀j o,Q[j]?=Ä o->o.dst=Ä d->wJ.getD j Ð=Í):y.tmps[d]?=c[d]?:=by
 by_cases a:Q.toList.all (λo=>o.dst !=Ä d)=Í
 .rw[h.C a,g d a]
 .obtain⟨j,m,b⟩:∃j,∃h:j<Q.size,Q[j].dst=Ä d:=by simpa using a
  have e:=ú m;have f:d<c.size:=by rw[i];exact Zh k e b
  rw[h.r j _ d e (l j _ e b) b,AL,e,ú f];simp[b,f]
def FW:List ĩ->List Ô->Array Ô->Array Ô
 |o::os,v::vs,t=>FW os vs (match o.dst with|some d=>t.setIfInBounds d v|none=>t)
 |_,_,t=>t
def FX:∀(a:List ĩ) (b:List Ô) (t:Array Ô),(FW a b t).size=t.size/\∀d,a.all (λo=>o.dst !=Ä d)=Í->(FW a b t)[d]?=t[d]?
 |[],_,t=>⟨U,λ_ _=>rfl⟩
 |o::a,[],t=>⟨U,λ_ _=>rfl⟩
 |o::a,v::b,t=>by
  unfold FW;cases c:o.dst with
  |none=>
   refine⟨(FX a b t).1,λd h=>(FX a b t).2 d ?_⟩;simp only[Ŗ,ê]at h;exact h.2
  |some e=>
   refine⟨by rw[(FX a b _).1];simp,λd h=> ?_⟩;simp only[Ŗ,ê,c]at h;rw[(FX a b _).2 d h.2,Array.getElem?_setIfInBounds_ne (by simpa using h.1)]
end
def OpG(P:ŵ)(k:Bool)(l:fc)(g:List ģ)(c:Array ĩ)(b:Array Ô)(i:Nat)(o:ĩ):Prop:=
 (Ć o (ķ c b)=Ð/\AL c b i=þ)\/Ć o (ķ c b)=Í/\((∀a,iB l a->∀f,fG a a.w f->(ċ (Act.eval ⟨b,[]⟩) o).run P f=.ok (.value<|AL c b i) f/\∀e∈(ċ (Act.eval ⟨b,[]⟩) o).events P f #[],vT a e)\/
  ∃f e,(∀w,(ċ (Act.eval ⟨b,[]⟩) o).run P w=.ok (.enter f e) w)/\(∀w,(ċ (Act.eval ⟨b,[]⟩) o).events P w #[]=#[])/\
   ∀a,iB l a->a.d=l.d->∀h,fi P k (λj m=>iB a j/\j.d=a.d/\m=G (h.finish (AL c b i)) g) a (G (Ë P f e ß) (h::g)))
section
variable{J:Jd}{l:fc}
theorem auX{id:Nat}(H:jZ l)(I:¬l.q)(K:f.kind≠.early)(m:qY Q d.size=Í)(V:adB Q=Í)(W:∀t,K3 t Q (æ Q.size) []=Í)(z:q.size=d.size)(B:∀a,Q.toList.all (λo=>o.dst !=Ä a)=Í->q[a]?=d[a]?) (X:NT (OpG P yQ l qX Q q) 0 Q.toList) (hn:∀b,iB l b->b.d=l.d->fi P yQ J b (G (f.at ⟨q,[]⟩<|Ï Q []::L) qX)):fi P yQ J l (G (f.at ⟨d,[]⟩<|Ũ (.region id Q Í)::L) qX):=by
 refine K2 (λwJ y b=>lL Q d (AL Q q) wJ y/\iB l b/\b.d=l.d) H I (λM r=>⟨lL.G _ _ _,(iB.fX H).S (w₁:={M with drawn:=M.drawn+1}) ⟨r.r,r.I,r.N,r.Y,r.S⟩,U⟩) (λt wJ y b i Y C k=> ?_) λt wJ y b C hz D=> ?_
 .let⟨h,c,n⟩:=C;have S3:¬b.q:=by rwa[c.q]
  obtain⟨o,r⟩:∃o,Q[i]?=Ä o:=⟨_,ú<|zE k⟩;have E:=ĝ.1 V i<|Ĳ.2<|zE k;rw[r]at E;simp only[ê]at E;let⟨⟨⟨_,N⟩,Ka⟩,O⟩:=E;have S:ċ y.eval o=ċ (Act.eval ⟨q,[]⟩) o:=execOp_congr o (λqX f e=>by rw[e]at N;cases N) λx hx=>by
   have p:=ĝ.1 Ka x<|Array.mem_toList_iff.2 hx;cases x with
   |tmp a=>
    show y.tmps.getD a þ=q.getD a þ;have:=h.N B z m (d:=a) λj T s u=>by have:=ĝ.1 p j<|Ĳ.2 (ó.1 s).1;simp only[s,ń,u,bne_self_eq_false,Bool.false_or]at this;exact ig k r this
    simp only[Array.getD_eq_getD_getElem?,this]
   |const v=>rfl
   |global g=>rfl
   |func g=>rfl
  have F:Ć o (ķ Q y.tmps)=Ć o (ķ Q q):=by
   unfold Ć;cases v:o.guard with
   |none=>rfl
   |some p=>
    let⟨j,bv⟩:=p;rw[v]at O;have hlj:=ig k r O;have:ķ Q y.tmps j=ķ Q q j:=by
     unfold ķ;cases s:Q[j]? with
     |none=>rfl
     |some oj=>
      cases u:oj.dst with
      |none=>simp[u]
      |some a=>
       have:=h.N B z m (d:=a) λj' T avZ av0=>by grind [Zi]
       simp only[ń,u,this]
    simp only[this]
  have T:=auW _ _ _ _ X (show Q.toList[i]?=Ä o by rwa[Array.getElem?_toList]);rw[Ŀ]at T;rcases T with⟨u,hu⟩|⟨u,zM|⟨g,args,D,he,hW⟩⟩
  .refine .mk U λp v=>⟨_,p,#[],{b with w:=p},stepG_unwanted r<|F.trans u,G9 p<|mb c.fx v,.fB λzD auY=>⟨_,U,h.fL m r k λ_=>hu.symm,(c.S v).S auY,n⟩⟩
  .refine mY r (F.trans u) K c.fx S3 (λp v=> ?_) (λp v=> ?_) (.fB λp v=>⟨_,U,h.fL m r k λ_=>rfl,c.S v,n⟩);all_goals grind
  .refine .mk U λp v=>⟨G (Ë P g args ß)<|f.at y (Ï Q (i::Y)::L)::qX,p,#[],{b with w:=p},?_,G9 p<|mb c.fx v,(hW _ (c.S v) n _).fR ?_⟩
   .rw[stepG_enter r (F.trans u) K (by rw[S];exact D p)];unfold ž;rw[S,he p,seen_none]
   .rintro l2 g2 ⟨Y,oc,rfl⟩;refine⟨_,by rw[Ċ],?_,(c.S v).ff Y,oc.trans n⟩;rw[show(Q[i]?).bind (·.dst)=o.dst by rw[r];rfl];exact h.fL m r k λ_=>rfl
 .let⟨h,c,n⟩:=C;have v:=pG D hz _ [] (W t) λ_ g=>by cases g
  have e:y=⟨q,[]⟩:=by let⟨r,u⟩:=y;have p:=h.M;simp only at p;subst p;congr 1;refine Array.ext_getElem? λa=>h.N B z m λj o s _=>v j<|Ĳ.2 (ó.1 s).1
  grind
def auZ{id:Nat}(a:List Ô)(c:jZ l)(e:¬l.q)(g:f.kind≠.early)(i:qY Q d.size=Í)(j:adB Q=Í)(k:∀m,K3 m Q (æ Q.size) []=Í) (h:∀q,q=FW Q.toList a d->NT (OpG P yQ l qX Q q) 0 Q.toList/\∀b,iB l b->b.d=l.d->fi P yQ J b (G (f.at ⟨q,[]⟩<|Ï Q []::L) qX)): fi P yQ J l (G (f.at ⟨d,[]⟩<|Ũ (.region id Q Í)::L) qX):= auX c e g i j k (FX _ a _).1 (FX _ a _).2 (h _ U).1 (h _ U).2
end
end Go.Proofs.Y.fv
namespace Go.Proofs.Y.kA
open Go Go.Conc Go.Proofs Go.RowKit Go.Proofs.Y.Lift Go.Proofs.Y.gd Go.Proofs.Y.fv Go.Proofs.Y.mQ
open Go.Conc.Lib Go.ConcR.Gen Go.Proofs.YtgpphkdoanciiaaGreatDoor
section
variable{l:fc}
def au0(h:gE l)(p:nB<=l.w.heap.size)(r:B.size<=Þ) (s:∀a,gE a->(∀b,l.O b->a.O b/\a.w.heap[b]?=l.w.heap[b]?)->l.w.heap.size<=a.w.heap.size->iM vQ a (G (f.at (y.put ((Q[i]?).bind (·.dst))<|Ů #[Ê Ç (gL B).1,Ê Ç (gL B).2.1])<|Ï Q jJ::L) qX)): iM vQ l (G (Ë À 25 #[Á B] ß)<|f.at y (Ï Q (i::jJ)::L)::qX):=by
 have hF:=trivial;rw[enter_at #[Á B] ň U];have e:(#[Á B]++Array.replicate (Tryz.f25.ntmps-(#[Á B]:Array Ô).size) þ:Array Ô)=#[Á B,þ,þ,þ,þ,þ,þ,þ,þ,þ,þ,þ,þ,þ,þ]:=ft
 rw[e];clear e;apply mh;apply fN (n:=20) h.r.r;repeat w_go fu
 refine Ã λ_ _=> ?_;refine vt (f:=36) (args:=#[Á B]) U fP (by k_ne) h.r.r (λw=>by go_simp) (λw=>È U Tryz.func36 U U #[]) λx c=> ?_;have j:=h.C c;refine fv.fi.lG ?_<|ach j.r j.q (Å p c.r) r Í _ _;rintro o z ⟨d,t,v,rfl,_⟩;have k:=iB.u7 j d t;have m:∀b,l.O b->o.O b/\o.w.heap[b]?=l.w.heap[b]?:=λb q=>⟨d.O b q,(d.r.I b<|Ì q).trans<|c.I b<|Ì q⟩;have u:=Å c.r d.r.r;rw[Ċ];generalize(gL B).1=er at*;generalize(gL B).2.1=U8 at*;walk_nrm;apply fN (n:=40) k.r.r;repeat w_go fu
 u_in fu hF
 refine Ū U U ň U ⟨by u_nil,?_⟩;refine Ã λ_ _=> ?_;exact .fB λC g=>⟨k.C g,U,s _ (k.C g) (λb q=>⟨(m b q).1,(g.I b<|Ì (m b q).1).trans (m b q).2⟩)<|Å u g.r⟩
end
def au1{T:ByteArray}(w:Ö)(h:B.size+T.size<=10^15):ö À (Go.Op.stringOp BinOp.add B T) w #[]=#[]:=by
 have a:¬Þ<B.size+T.size:=by unfold Þ;omega
 simp[go_sem,Op.stringOp,a]
def tV{J:Jd}{l:fc}{b:Frame}{a:Act}{ops:Array Oper}{i:Nat}{rest:List Nat}{k:List Item}{cs:List Frame}{o:Oper}{x y:Operand}(S T U:ByteArray)(hb:gE l)(hU:S++T=U)(h:S.size+T.size<=10^15)(hn:fv.fi Tryz.prog true J l (G (b.at (a.put o.dst<|.string U)<|.inRegion ops rest::k) cs)) (ho:ops[i]?=some o:=by rfl) (oA:o.op=.binOp .add 9 x y 9:=by rfl) (hx:a.eval x=.string S:=by rfl) (hy:a.eval y=.string T:=by rfl) (hw:Region.wanted o (yielded ops a.tmps)=true:=by rfl) (hk:b.kind≠.early:=by k_ne): fv.fi Tryz.prog true J l (G (b.at a<|.inRegion ops (i::rest)::k) cs):=by
 subst hU;have h2:¬9223372036854775807<S.size+T.size:=Z
 refine mY (v:=Á<|S++T) ho hw hk hb.r.r hb.q (λw _=> ?_) (λw _ e he=> ?_) hn
 .let⟨d,p,t,q,af,g⟩:=o;simp only at oA;subst oA;simp only[ċ,hx,hy];go_simp
 .let⟨d,p,t,q,af,g⟩:=o;simp only at oA;subst oA;simp only[ċ,hx,hy]at he;simp[go_sem,au1 w h]at he
section
variable{l a:fc}{s c:List fH}{S p:ByteArray}
def adC(h:jz X W l j b s)(d:gE l)(o:B.size<=Þ)(p:lV s B=(S,0,c)) (q:∀a,gE a->jz X W a j b c->iM vQ a (G (f.at (y.put ((Q[i]?).bind (·.dst))<|Ø Í)<|Ï Q jJ::L) qX)): iM vQ l (G (Ë À 20 #[å<|Ä ⟨j,0,à⟩,Á B,Á S] ß)<|f.at y (Ï Q (i::jJ)::L)::qX):=by
 have hF:True:=trivial;rw[wP [_,_,_] 19 ĳ];simp only[ø,Û,í];conv in kU _ _=>whnf
 apply mh;apply fN (n:=60) d.r.r;repeat w_go fu
 refine Ã λ_ _=> ?_;refine .fB λu e=>⟨d.C e,U,?_⟩;have m:=d.C e;refine yA (f:=17) (args:=#[å<|Ä ⟨j,0,à⟩,Á B]) m U fP (by k_ne) (λw=>by go_simp) (λw=>È U ũ U U #[]) λr w=> ?_;refine adz ((h.r e).r w) (m.C w) o λv g k=> ?_;rw[p]at k|-;dsimp only at k|-;walk_nrm;apply mh;apply fN (n:=60) g.r.r;repeat w_nl fu
 u_in fu hF
 refine ĕ (t:=6) U U ĳ U ⟨by u_nil,?_⟩;refine Ã λ_ _=> ?_;exact .fB λr w=>⟨g.C w,U,q _ (g.C w)<|k.r w⟩
def adD(r:gE l)(E:mP l.w)(F:∀d,d=1\/d=2\/d=3\/d=4->l.O d)(hp:p.size<=10^14*2)(k:Int)(M:-9223372036854775808<=k)(N:k<=9223372036854775807)(x:lV [gd.jR] (iw p)=(⟨#[49]⟩,0,c)) (P:∀a j b,gE a->jz l.O l.w a j b c->l.w.heap.size<=j->iM vQ a (G (f.at (y.put ((Q[i]?).bind (·.dst))<|å<|Ä ⟨j,0,à⟩)<|Ï Q jJ::L) qX)): iM vQ l (G (Ë À 27 #[Á p,Ê Ç k] ß)<|f.at y (Ï Q (i::jJ)::L)::qX):=by
 have hF:True:=trivial;rw[wP [_,_] 17 Ĵ];simp only[ø,Û,í];conv in kU _ _=>whnf
 apply mh;apply fN (n:=40) r.r.r;repeat w_go fu
 refine Ã λ_ _=> ?_;refine .fB λw₁ z=>⟨r.C z,U,?_⟩;have H:=r.C z;refine yA (f:=15) (args:=#[Ê Ç k]) H U fP (by k_ne) (λw=>by go_simp) (λw=>È U Tryz.func15 U U #[]) λI g=> ?_;have s:fG l l.w I:=z.ff ⟨g.r,g.I,g.N,g.Y,g.S⟩;refine atq (H.C g) (E.r (Å E.fx s.r) λd q=>s.I d<|Ì<|F d q) F k M N λS j b W V h m=> ?_;have X:l.w.heap.size<=j:=Å s.r m.I;have J:jz l.O l.w S j b [gd.jR]:=⟨⟨W,V,m.r⟩,λd q=>⟨⟨(m.C d q).1,(m.C d q).2.trans<|s.I d<|Ì q⟩,by have:=r.r.fx d<|Ì q;omega⟩⟩;clear m;obtain⟨o,B⟩:∃T,(⟨#[105,48,58,97,47,98,123]⟩++p:ByteArray)=T:=⟨_,U⟩;obtain⟨u,C⟩:∃T,(o++⟨#[125]⟩:ByteArray)=T:=⟨_,U⟩;have Y:o.size=7+p.size:=by rw[<-B,Æ];rfl
 have z2:u.size=7+p.size+1:=by rw[<-C,Æ,Y];rfl
 have e2:iw p=u:=by rw[<-C,<-B];rfl
 rw[e2]at x;walk_nrm;apply mh;apply fN (n:=40) h.r.r;repeat w_go fu
 refine Ã λ_ _=> ?_;apply mY (v:=Ø Ð) U fP (by k_ne) h.r.r h.q (λw _=>by go_simp) (λw _ e D=>by simp[go_sem,NB]at D);walk_nrm;apply fN (n:=60) h.r.r;repeat w_nl fu
 refine Ã λ_ _=> ?_;refine tV ⟨#[105,48,58,97,47,98,123]⟩ p o h B (by show 7+p.size<=_;omega) ?_;walk_nrm;refine tV o ⟨#[125]⟩ u h C (by show o.size+1<=_;omega) ?_;walk_nrm;refine .fB λacC e=>⟨h.C e,U,?_⟩;refine yA (f:=20) (args:=#[å<|Ä ⟨j,0,à⟩,Á u,Á ⟨#[49]⟩]) (h.C e) U fP (by k_ne) (λw=>by go_simp) (λw=>È U ĳ U U #[]) λse K=> ?_;refine adC ((J.r e).r K) ((h.C e).C K) (by unfold Þ;omega) x λl6 D u6=> ?_;clear J x;walk_nrm;apply mh;apply fN (n:=60) D.r.r;repeat w_nl fu
 u_in fu hF
 refine ĕ (t:=4) U U Ĵ U ⟨by u_nil,?_⟩;refine Ã λ_ _=> ?_;exact .fB λI g=>⟨D.C g,U,P _ _ _ (D.C g) (u6.r g) X⟩
end
def qM(c:Int)(n:Nat):Nat:=((if c<0 then-(c+1)else c)%(n:Int)).toNat
def Vw(c:Int)(h:0<n):qM c n<n:=by unfold qM;have a:=Int.emod_lt_of_pos (if c<0 then-(c+1)else c) (show(0:Int)<n by omega);have b:=Ħ (if c<0 then-(c+1)else c) (show(n:Int)≠0 by omega);omega
def adE(c:Int)(f:-9223372036854775808<=c)(g:c<=9223372036854775807)(i:0<n)(j:n<=1000000)(w:Ö):ŗ À 30 #[Ê Ç c,Ê Ç n] w λe d=>e=ÿ (Ê Ç<|qM c n)/\d=w:=by
 have k:((n:Int)==0)=Ð:=by simp;omega
 have b:(n:Int)≠0:=Z
 unfold qM;by_cases h:c<0
 .rw[if_pos h];have a:=Ħ (-(c+1)) b;have e:-(c+1).tmod n=(-(c+1))%n:=by rw[<-Int.neg_tmod,ô Z]
  have H:=fe<|Ò e.symm a;clear e a;go_enter ŉ,ţ;go_wp2;go_ret;exact⟨by rw[Int.toNat_of_nonneg H.out.2,H.out.1];rfl,U⟩
 .rw[if_neg h];have a:=Ħ c b;have e:c.tmod n=c%n:=ô Z;have H:=fe<|Ò e.symm a;clear e a;go_enter ŉ,ţ;go_wp2;go_ret;exact⟨congrArg (λz=>ÿ<|Ê Ç z) (Int.max_eq_left H.out.2).symm,U⟩
def au2(c:Int)(b:-9223372036854775808<=c)(d:c<=9223372036854775807)(w:Ö):ŗ À 29 #[Ê Ç c] w λe a=>e=ÿ (Á<|fC<|qM c 1000000)/\a=w:=by
 have g:=Vw c (n:=1000000) A;have h:Ĥ.wrap ((qM c 1000000:Nat):Int)=(qM c 1000000:Nat):=by rw[Ğ];omega
 have H:=fe<|Ò (adE c b d (n:=1000000) A A w)<|acX (qM c 1000000) Z w;generalize qM c 1000000=m at*;go_enter ū,Tryz.ntmps29;go_wp2_with (first|(go_at_call 30;refine H.out.1.mono ?_;rintro e a ⟨rfl,f⟩;subst a)|(go_at_call 21;refine H.out.2.mono ?_;rintro e a ⟨rfl,f⟩;subst a));go_ret;exact⟨U,U⟩
section
variable{l a:fc}{s o:List fH}{p:ByteArray}{g:ģ}
def au3(b:gE l)(e:nB<=l.w.heap.size)(c:Int)(f:-9223372036854775808<=c)(i:c<=9223372036854775807)(j:0<n)(k:n<=1000000): fv.fi À Í (λa h=>iB l a/\a.d=l.d/\h=G (g.finish<|Ê Ç<|qM c n) qX) l (G (Ë À 30 #[Ê Ç c,Ê Ç n] ß)<|g::qX):= AH b e fP (λu h=>by simp at h;rcases h with rfl|rfl<;>exact .iG _ _) (λh=>by cases h;rfl) (adE c f i j k) Í g qX
def au4(b:gE l)(e:nB<=l.w.heap.size)(c:Int)(f:-9223372036854775808<=c)(i:c<=9223372036854775807): fv.fi À Í (λa h=>iB l a/\a.d=l.d/\h=G (g.finish<|Á<|fC<|qM c 1000000) qX) l (G (Ë À 29 #[Ê Ç c] ß)<|g::qX):= AH b e fP (λu h=>by simp at h;subst h;exact .iG _ _) (λh=>by cases h;rfl) (au2 c f i) Í g qX
def adF(b:gE l)(c:nB<=l.w.heap.size)(e:n<18446744073709551616): fv.fi À Í (λa h=>iB l a/\a.d=l.d/\h=G (g.finish<|Á<|fC n) qX) l (G (Ë À 21 #[Ê Ĥ n] ß)<|g::qX):= AH b c fP (λu h=>by simp at h;subst h;exact .iG _ _) (λh=>by cases h;rfl) (acX n e) Í g qX
def au5(d:gE l)(B:nB<=l.w.heap.size)(V:p.size<=10^14*2) (e:∀a,gE a->(∀b,l.O b->a.O b/\a.w.heap[b]?=l.w.heap[b]?)->l.w.heap.size<=a.w.heap.size->iM vQ a (G (f.at (y.put ((Q[i]?).bind (·.dst))<|Ø<|decide ((gL<|iw p).1=0)&&!decide (125∈p.data.toList))<|Ï Q jJ::L) qX)): iM vQ l (G (Ë À 28 #[Á p] ß)<|f.at y (Ï Q (i::jJ)::L)::qX):=by
 have hF:True:=trivial;obtain⟨k,u⟩:∃T,(⟨#[105,48,58,97,47,98,123]⟩++p:ByteArray)=T:=⟨_,U⟩;obtain⟨g,v⟩:∃T,(k++⟨#[125]⟩:ByteArray)=T:=⟨_,U⟩;have M:k.size=7+p.size:=by rw[<-u,Æ];rfl
 have W:g.size=7+p.size+1:=by rw[<-v,Æ,M];rfl
 have N:iw p=g:=by rw[<-v,<-u];rfl
 rw[N]at e;rw[wP [_] 20 ĵ];simp only[ø,Û,í];conv in kU _ _=>whnf
 apply mh;apply fN (n:=60) d.r.r;repeat w_go fu
 refine Ã λ_ _=> ?_;refine tV ⟨#[105,48,58,97,47,98,123]⟩ p k d u (by show 7+p.size<=_;omega) ?_;walk_nrm;refine tV k ⟨#[125]⟩ g d v (by show k.size+1<=_;omega) ?_;walk_nrm;refine .fB λX m=>⟨d.C m,U,?_⟩;refine yA (f:=25) (args:=#[Á g]) (d.C m) U fP (by k_ne) (λw=>by go_simp) (λw=>È U ň U U #[]) λC c=> ?_;have D:=Å m.r c.r;refine au0 ((d.C m).C c) (Å B D) (by unfold Þ;omega) λP s F H=> ?_;obtain⟨E,S⟩:∃E,(gL g).1=E:=⟨_,U⟩;rw[S]at e|-;generalize(gL g).2.1=U8;walk_nrm;apply mh;apply fN (n:=60) s.r.r;repeat w_nl fu
 refine Ã λ_ _=> ?_;refine vt (f:=16) (args:=#[Á p,Ê ź 125]) U fP (by k_ne) s.r.r (λw=>by go_simp) (λw=>È U ŧ U U #[]) λY o=> ?_;have I:l.w.heap.size<=P.w.heap.size:=Å D H;refine fv.fi.lG ?_ (auF (s.C o) (Å B<|Å I o.r) 125 (by unfold Þ;omega) _ _);rintro x g5 ⟨r,J,rfl⟩;have h:=iB.u7 (s.C o) r J;have j:∀b,l.O b->x.O b/\x.w.heap[b]?=l.w.heap[b]?:=λb q=>by let⟨z,K⟩:=F b q;exact⟨r.O b z,(r.r.I b<|Ì z).trans<|(o.I b<|Ì z).trans<|K.trans<|(c.I b<|Ì q).trans<|m.I b<|Ì q⟩
 have K:l.w.heap.size<=x.w.heap.size:=Å I<|Å o.r r.r.r;rw[Ċ];generalize decide (125∈p.data.toList)=hs at*;clear F H r J;by_cases z:E=0
 .subst z;rw[decide_eq_true U,Bool.true_and]at e;walk_nrm;apply fN (n:=60) h.r.r;repeat w_nl fu
  u_in fu hF
  refine ĕ (t:=2) U U ĵ U ⟨by u_nil,?_⟩;refine Ã λ_ _=> ?_;exact .fB λC c=>⟨h.C c,U,e _ (h.C c) (λb q=>⟨(j b q).1,(c.I b<|Ì (j b q).1).trans (j b q).2⟩)<|Å K c.r⟩
 .rw[decide_eq_false z,Bool.false_and]at e;have lz:(E==0)=Ð:=by rwa[beq_eq_false_iff_ne]
  walk_nrm;apply fN (n:=60) h.r.r;repeat w_nl fu
  u_in fu hF
  refine ĕ (t:=2) U U ĵ U ⟨by u_nil,?_⟩;refine Ã λ_ _=> ?_;exact .fB λC c=>⟨h.C c,U,e _ (h.C c) (λb q=>⟨(j b q).1,(c.I b<|Ì (j b q).1).trans (j b q).2⟩)<|Å K c.r⟩
end
section
variable{J:Jd}{R:Nat->Prop}{l:fc}{x nx:Nat}{s:List fH}{b:ģ}{a:ŏ}{ops:Array ĩ}{rest:List Nat}{k:List Α}{cs:List ģ}{NO:Array ų}{NP:Array œ}{c:UInt8}
def au6(h:jz R W l x nx s)(hb:gE l)(hB:B.size<=10^12){y:ByteArray}{ys:List ByteArray}(hc:nR B c B.size 0 0=y::ys) (hn:∀l' kb ck,gE l'->jz R W l' x nx s->sM l l'->C9 l' kb (y::ys)->fv.fi Tryz.prog true J l' (G (b.at (a.put o.dst<|.slice (some ⟨kb,0,none⟩) (ys.length+1) ck)<|.inRegion ops rest::k) cs)) (ho:ops[i]?=some o:=by rfl) (oA:o.op=.call {callee:=.value<|.func 24,args:=NO,argTypes:=NP}:=by rfl) (hw:Region.wanted o (yielded ops a.tmps)=true:=by rfl) (hk:b.kind≠.early:=by k_ne) (hr:∀w,(execOp a.eval o).run Tryz.prog w=.ok (.enter 24 #[.string B,.int .u8 c.toNat]) w:=by intro w;go_simp): fv.fi Tryz.prog true J l (G (b.at a<|.inRegion ops (i::rest)::k) cs):=by
 refine vt ho hw hk hb.r.r hr (λw=>È oA ı U U #[]) λw₁ jY=> ?_;refine ady (hb.C jY) hB λl2 lv AN hI=> ?_;have k2:sM {l with w:=w₁} l2:=λb q=>⟨hI.r.O b q,hI.r.r b (Ì q) id⟩;rw[hc]at hI;have pz:=hI.C;let⟨pk,ck,MP⟩:=jj pz;obtain⟨kb,rfl⟩:∃kb,pk=Ä ⟨kb,0,à⟩:=by
  rcases pz.2 with⟨e,e2⟩|⟨g,_,_,e,_⟩
  .cases e2
  .rw[MP]at e;cases e;exact⟨g,U⟩
 have hkb:lv.ownBlock=Ä kb:=by rw[MP];rfl
 rw[MP,ho];refine hn l2 kb ck AN ((h.r jY).M k2 hI.r.I) ((Jt jY).r k2) ⟨(hI.fq kb hkb).1,λi y q=> ?_⟩;have q:=pz.cells hkb i (Á y) (by unfold jm;rw[ð,q];rfl);rwa[Addr.add_lit,Ŀ]at q
end
def au7(B:ByteArray)(w:Ö)(h:1<=B.size):ö À (î 9 (Á B) à (Ä<|Ê Ç 1) à) w #[]=#[]:=by
 have k:(1:Int)<=(B.size:Int):=Z
 simp[î,ņ,go_sem,h,k,Ĝ]
def au8(B:ByteArray)(w:Ö)(h:2<=B.size):ö À (î 9 (Á B) (Ä<|Ê Ç 2) à à) w #[]=#[]:=adx B w h
def adG(a:Addr){c:Nat}(w:Ö)(h:i<n):ö À (ė 25 (û (Ä a) n c)<|Ê Ç i) w #[]=#[]:=by
 have k:(i:Int)<n:=Z
 simp[ė,go_sem,Ĕ,h,k]
noncomputable def adH:Ż:=kU ſ [1,1,1,1,1,1,1,1,1,1,1]
noncomputable def uAt (a:Array Ô):Ř:=G ((base 13).at ⟨a,[]⟩ [Ũ adH]) []
section
variable{R:Nat->Prop}{l:fc}{x nx:Nat}{s:List fH}
def au9(h:jz R W l x nx s)(f:gE l)(E:d.size=147){N kb ck:Nat}{wl:Bool}{A2 A3 A4:ByteArray}{r:gd.pM}(t11:d[11]?=Ä (Ø Í))(t13:d[13]?=Ä (Ê Ç N))(t15:d[15]?=Ä (û (Ä ⟨kb,0,à⟩) 6 ck)) (hT:C9 l kb [⟨#[50]⟩,qF (((n+10:Nat):Int),wl),A2,A3,A4,qG r]) (rl:r.C=wl) (ru:r.r=n) (hn:n+10<=N) (hN:N<=400) (hz:(qG r).size<=10^12) (M:wl=Ð->A2=⟨#[45]⟩/\A3=⟨#[99,36,44,104,36]⟩/\A4=fC (990-n)) (hP:∀a,gE a->jz R W a x nx s->vQ (Ø Í) a.w):iM vQ l (uAt d):=by
 have hF:True:=trivial;obtain⟨u,rfl⟩:=vY d E;have S':u 11=Ø Í:=by simpa using t11
 have e13:u 13=Ê Ç N:=by simpa using t13
 have e15:u 15=û (Ä ⟨kb,0,à⟩) 6 ck:=by simpa using t15
 clear t11 t13 t15 E;let⟨A,hA,z1,c1,c2,P,Q,V⟩:=auT (n+10) wl;rw[hA]at hT;have dp:=adv<|n+10;have d6:=sL (n:=n+10) Z;have Vx:A.size<=Þ:=by unfold Þ;omega
 have k3:¬(A.size:Int)<3:=Z
 have k3i:(3:Int)<=A.size:=Z
 have k2i:¬(A.size:Int)<2:=Z
 have k2:2<=A.size:=Z
 have k1:(1:Int)<=A.size:=Z
 let⟨tl,hcut⟩:=auR r;rw[rl,ru,Ľ,adA]at hcut;generalize qG r=C at*;have HH:=fe<|Ò P<|Ò Q<|Ò V M;have F:=fe hT;clear M rl ru P Q V hA z1 dp d6 hT;apply acp;apply fN (n:=60) f.r.r;simp only[uAt,æ,ĉ,Œ,S',e13,e15];conv in adH=>whnf
 repeat w_go fu
 refine Ã λ_ _=> ?_;apply yI f F.out 0 U;walk_nrm;apply fN (n:=60) f.r.r;repeat w_nl fu
 refine Ã λ_ _=> ?_;apply yI f F.out 1 U;walk_nrm;apply mY (v:=Ê Ç A.size) U fP (by k_ne) f.r.r f.q (λw _=>by go_simp) (λw _ e p=>by simp[go_sem,Vu]at p);walk_nrm;apply fN (n:=60) f.r.r;repeat w_nl fu
 refine Ã λ_ _=> ?_;apply yI f F.out 1 U;walk_nrm;apply mY (v:=Á<|A.extract 2 A.size) U fP (by k_ne) f.r.r f.q (λw _=>by go_simp) (λw _ e p=>by simp[go_sem,au8 A w k2]at p);rw[c1];walk_nrm;refine uW h f İ (λa y D X Y=>Vt y D (g:=n+10) Z) λl2 AN h2 g2=> ?_;have T2:=fe<|F.out.r g2;clear F;walk_nrm;apply fN (n:=60) AN.r.r;repeat w_nl fu
 refine Ã λ_ _=> ?_;apply yI AN T2.out 5 U;walk_nrm;refine au6 (B:=C) (c:=44) h2 AN hz hcut λl3 k G H h3 k3' hT3=> ?_;have T3:=fe<|Ò (T2.out.r k3') hT3;clear T2 hT3 hcut;walk_nrm;apply fN (n:=60) H.r.r;repeat w_nl fu
 refine Ã λ_ _=> ?_;generalize tl.length=m at*;have q1:¬(n:Int)+10<10:=Z
 have q2:¬(N:Int)<n+10:=Z
 have q3:¬(m:Int)+1+1+1<3:=Z
 have q4:¬(m:Int)+1+1+1<=0:=Z
 have q5:¬(m:Int)+1+1+1<=2:=Z
 have x0:∀w,ö À (ė 25 (û (Ä ⟨k,0,à⟩) (m+1+1+1) G)<|Ê Ç 0) w #[]=#[]:=λw=>adG _ (i:=0) w Z;have I:∀w,ö À (ė 25 (û (Ä ⟨k,0,à⟩) (m+1+1+1) G)<|Ê Ç 2) w #[]=#[]:=λw=>adG _ (i:=2) w Z;have q6:Ç.wrap ((n:Int)+10)=n+10:=by rw[ù];omega
 have cb:∀a,iB l3 a->∀j,fG a a.w j->(j.cell? ⟨k,0,à⟩=Ä (Á<|FV wl)/\j.cell? ⟨kb,1,à⟩=Ä (Á A)/\j.cell? ⟨k,2,à⟩=Ä (Á<|fC n))/\∀i,gX a ⟨k,i,à⟩/\gX a ⟨kb,i,à⟩:=λa o j r=>by have q:sM l3 {a with w:=j}:=λb q=>⟨o.O b q,(r.I b<|Ì<|o.O b q).trans<|o.r.I b<|Ì q⟩;have J:=T3.out.1.r q;have I:=T3.out.2.r q;exact⟨⟨I.C 0 _ U,J.C 1 _ U,I.C 2 _ U⟩,λi=>⟨Ì<|Ì I.fq,Ì<|Ì J.fq⟩⟩
 have CB:=fe cb;clear cb;refine auZ [Ê Ç<|n+10,Ø Ð,Ø Ð,Ê Ç<|n+10,Ê Ç N,Ø Ð,Ø Ð,Ø Ð,û (Ä ⟨k,0,à⟩) (m+1+1+1) G,Ê Ç ((m+1+1+1:Nat):Int),Ø Ð,Ø Ð,Ø Ð,û (Ä ⟨k,0,à⟩) (m+1+1+1) G,å<|Ä ⟨k,0,à⟩,Á<|FV wl,û (Ä ⟨kb,0,à⟩) 6 ck,å<|Ä ⟨kb,1,à⟩,Á A,Á<|FV wl,Ø Ð,Ø Ð,Ø Ð,û (Ä ⟨k,0,à⟩) (m+1+1+1) G,å<|Ä ⟨k,2,à⟩,Á<|fC n,Ê Ç n,Ê Ç<|n+10,Ê Ç<|n+10,Ø Ð,Ø Ð] H.r.r H.q (by k_ne) ft ft (λJ=>by cases J<;>kernel_rfl) λt1 uQ=> ?_;simp only[FW]at uQ;simp at uQ;subst uQ;refine⟨?_,λl4 NU Iq=> ?_⟩
 .iterate 26 refine⟨ā ⟨fP,Ì λa o j r=>⟨by
   let⟨⟨J,K,L⟩,_⟩:=CB.out a o j r;simp only[AL];go_simp,λe p=>by
   let⟨⟨J,K,L⟩,E⟩:=CB.out a o j r;first
   |(simp[go_sem,au7 A j Z,x0,I]at p;done)
   |(simp[go_sem,J,K,L]at p;subst p;first|exact(E _).1.rd|exact(E _).2.rd)⟩⟩,?_⟩
  refine⟨ā ⟨fP,ā ⟨18,#[Á<|fC n],λw=>by go_simp,λw=>È U İ U U #[],λa o J K=>Vt (iB.u7 H o J) (Å h3.N o.r.r) (g:=n) Z⟩⟩,?_⟩;iterate 4 refine⟨ā ⟨fP,Ì λa o j r=>⟨by simp only[AL];go_simp,λe p=>by simp[go_sem]at p⟩⟩,?_⟩
  trivial
 .have zU:=iB.u7 H NU Iq;have k4:sM l3 l4:=λb q=>⟨NU.O b q,NU.r.I b<|Ì q⟩;have h4:=h3.M k4 NU.r.r;have p:=fe<|T3.out.1.r k4;clear T3 CB;apply fN (n:=60) zU.r.r;repeat w_nl fu
  refine Ã λ_ _=> ?_;apply yI zU p.out 1 U;walk_nrm;let⟨P,Q,V,M⟩:=HH.out;cases wl with
  |true=>
   refine uW h4 zU ē (λa y D X Y=>auV y D (S:=A) (T:=⟨#[48,58]⟩) k2 (V U) Vx) λl5 e h5 k5=> ?_;have J:=fe<|p.out.r k5;clear p;walk_nrm;apply fN (n:=60) e.r.r;repeat w_nl fu
   refine Ã λ_ _=> ?_;apply yI e J.out 1 U;walk_nrm;refine uW h5 e ē (λa y D X Y=>adr y D (S:=A) (T:=⟨#[49,58]⟩) (P U) Vx) λl6 K h6 k6=> ?_;walk_nrm;apply fN (n:=60) K.r.r;repeat w_nl fu
   refine Ã λ_ _=> ?_;exact .fB λzD L=>⟨U,Ø Í,λw=>Vb (t:=8) U U Ķ U ft,hP _ (K.C L)<|h6.r L⟩
  |false=>
   obtain⟨rfl,rfl,rfl⟩:=M U;refine uW h4 zU ē (λa y D X Y=>adr y D (S:=A) (T:=⟨#[48,58]⟩) (Q U) Vx) λl5 e h5 k5=> ?_;have J:=fe<|p.out.r k5;clear p;walk_nrm;apply fN (n:=60) e.r.r;repeat w_nl fu
   refine Ã λ_ _=> ?_;apply yI e J.out 2 U;walk_nrm;apply fN (n:=60) e.r.r;repeat w_nl fu
   refine Ã λ_ _=> ?_;apply yI e J.out 3 U;walk_nrm;apply fN (n:=60) e.r.r;repeat w_nl fu
   refine Ã λ_ _=> ?_;apply yI e J.out 4 U;walk_nrm;refine uW h5 e İ (λa y D X Y=>Vt y D (g:=990-n) Z) λl6 K h6 k6=> ?_;have y:Ç.wrap (1000-((n:Int)+10))=((990-n:Nat):Int):=by rw[ù];omega
   generalize 990-n=z at*;walk_nrm;apply fN (n:=60) K.r.r;repeat w_nl fu
   refine Ã λ_ _=> ?_;exact .fB λzD L=>⟨U,Ø Í,λw=>Vb (t:=8) U U Ķ U ft,hP _ (K.C L)<|h6.r L⟩
end
def Da(S T:ByteArray):∃a,S++T=a/\a.size=S.size+T.size:=⟨_,U,Æ⟩
def ava(r:gd.pM):j5 (qG r):=acY λx a=>by
 rcases ì.1 a with z|z
 .simp at z;rcases z with rfl|rfl|rfl<;>exact yF _
 .exact ac1 _ ac0 _ x z
def adI(p:ByteArray):(p9 p).s=((((gd.j0 8).fj 1 980).C 1 p).fj 0 1020).fj 0 1070:=ft
def avb(p:ByteArray)(i:Nat)(h:i≠1):((p9 p).s i).r.size=0:=by
 rw[adI];unfold gd.St.fj gd.St.C gd.St.fL;by_cases e:i=0
 .subst e;rfl
 .simp only[if_neg e,if_neg h];rfl
def adJ:∀r:List ByteArray,B∈r->B.size<=(kz ⟨#[59]⟩ r).length
 |z::r,h=>by
  rw[show kz ⟨#[59]⟩ (z::r)=59::(z.data.toList++kz ⟨#[59]⟩ r)from U,ë,Ý,Â];rcases ą.1 h with rfl|q
  .show B.data.size<=_;omega
  .have:=adJ r q;omega
def avc:∀{a:List ByteArray},B∈a->B.size<=(ja ⟨#[59]⟩ a).size
 |x::r,h=>by
  show B.data.size<=(x.data.toList++kz ⟨#[59]⟩ r).toArray.size;rw[show(x.data.toList++kz ⟨#[59]⟩ r).toArray.size=x.data.size+(kz ⟨#[59]⟩ r).length by simp];rcases ą.1 h with rfl|q
  .omega
  .exact Å (adJ r q)<|Ŏ _ _
section
variable{N K:Nat}{p:ByteArray}
def avd(m:gJ (p9 p).s)(o:10<=N)(t:N<=400)(C:K<1000000):∃(n:Nat) (wl:Bool) (A2 A3 A4:ByteArray) (r:gd.pM),FU (p9 p) N K=[⟨#[50]⟩,qF (((n+10:Nat):Int),wl),A2,A3,A4,qG r]/\r.C=wl/\r.r=n/\n+10<=N/\(wl=Ð->A2=⟨#[45]⟩/\A3=⟨#[99,36,44,104,36]⟩/\A4=fC (990-n)):=by
 have u:=adg p;have w:((p9 p).s 7).fj=1000:=by rw[adI];rfl
 have a:=avb p;unfold FU;generalize p9 p=v at*;have z:Sm (v.s.fj 2<|1000-N) v.s:=⟨λi q=>by unfold St.fj St.fL;rw[if_neg q],λi q=>⟨by
  unfold St.fj St.fL;split
  .exact a 2 A
  .exact a i q,a i q⟩⟩
 have d:=Iw _ [] 2 1 ((N:Int)-10) K (m.r 2 (b:=1000-N) ⟨Z,Z⟩) A A ⟨Z,Z⟩ Z Z (by simp;omega);have f:=adj 4 _ _ [] 2 1 ((N:Int)-10) K z;have h:=d.C;have B:=d.r;have j:((N-10:Nat):Int)=N-10:=Z
 change 0<=(lh v.s N K).r at h;change(lh v.s N K).r<=_ at B;have l:=λq=>auy (e:=lh v.s N K) u w o t (adk q).1 h Z;obtain⟨n,c⟩:∃n:Nat,(lh v.s N K).r=n:=⟨(lh v.s N K).r.toNat,Z⟩;refine⟨n,(lh v.s N K).C,pS<|(lh v.s N K).I.map oI,pS<|nL v.s (rA v N K).s 8,fC ((rA v N K).s 2).fj.toNat,gd.gl v.s [] 2 1 (N-10:Nat) K,?_,?_,?_,Z,λq=>⟨?_,(l q).1,?_⟩⟩
 .rw[c,show(n:Int)+10=((n+10:Nat):Int) by omega]
 .rw[j];exact f.Vq.symm
 .rw[j,<-c];exact f.auo.symm
 .rw[show(lh v.s N K).I=[]from(λq=>(adk (s:=v.s.fj 2<|1000-N) (ls:=[]) (x:=2) (y:=1) (g:=N-10) (k:=K) q).2) q];exact if_pos U
 .rw[show((rA v N K).s 2).fj=_ from(l q).2,c];congr 1;omega
def ave(N K:Nat):((((((((⟨#[105,49,58,104,47,99,58,98,40]⟩++fC N)++⟨#[44]⟩)++fC K)++⟨#[41,59,117,50,59,108,50,59,100,49,58,50,59,98,50,58,99,59,99,49,58,99,62,98,40]⟩)++fC (N-10))++⟨#[44]⟩)++fC K)++⟨#[41]⟩:ByteArray)=ja ⟨#[59]⟩ (rz N K):=Ù<|é.1<|by simp[rz,ja,I0,kz,cT,iT,ï]
def avf(v:fH)(N K:Nat):∀x∈FU v N K,j5 x:=λx a=>by
 simp only[FU,ą,ę,or_false]at a;rcases a with rfl|rfl|rfl|rfl|rfl|rfl
 .decide
 .exact((yF _).r A).r<|yF _
 .exact acZ<|ac1 _ ac0 _
 .exact acZ<|at7 _ _ _
 .exact yF _
 .exact ava _
end
noncomputable def adK:Ż:=kU ſ [1,1,1,1,1,1,1,1]
noncomputable def vAt (a:Array Ô):Ř:=G ((base 13).at ⟨a,[]⟩ [Ũ adK]) []
section
variable{l:fc}{x:Nat}{s:List fH}{p:ByteArray}
def avg(h:jz X W l x i [gd.jR,p9 p])(V:gE l)(Y:d.size=147)(a arg:Int)(t1:d[1]?=Ä (Ê Ç a))(t2:d[2]?=Ä (Ê Ç arg))(t12:d[12]?=Ä (å<|Ä ⟨x,0,à⟩))(g0:-9223372036854775808<=a)(g1:a<=9223372036854775807)(a0:-9223372036854775808<=arg)(a1:arg<=9223372036854775807) (hP:∀b t,gE b->jz X W b x i t->vQ (Ø Í) b.w):iM vQ l (vAt d):=by
 have hF:True:=trivial;obtain⟨u,rfl⟩:=vY d Y;have e1:u 1=Ê Ç a:=by simpa using t1
 have e2:u 2=Ê Ç arg:=by simpa using t2
 have e12:u 12=å (Ä ⟨x,0,à⟩):=by simpa using t12
 clear t1 t2 t12 Y;have av1:=Vw a (n:=391) A;have q:=Vw arg (n:=1000000) A;apply mh;apply fN (n:=60) V.r.r;simp only[vAt,æ,ĉ,Œ,e1,e2,e12];conv in adK=>whnf
 repeat w_go fu
 refine Ã λ_ _=> ?_;refine uW h V ŉ (λb c e k B=>au3 (n:=391) c e a g0 g1 A A) λl2 AN h2 _=> ?_;clear h;have hwN:Ç.wrap (10+(qM a 391:Int))=((10+qM a 391:Nat):Int):=by rw[ù];omega
 obtain⟨N,hN⟩:∃N,10+qM a 391=N:=⟨_,U⟩;rw[hN]at hwN;walk_nrm;apply fN (n:=60) AN.r.r;repeat w_nl fu
 refine Ã λ_ _=> ?_;refine uW h2 AN ū (λb c e k B=>au4 c e arg a0 a1) λl3 Ly s _=> ?_;clear h2;generalize qM arg 1000000=K at*;have xE:Ĥ.wrap (N:Int)=N:=by rw[Ğ];omega
 have qt:Ç.wrap ((N:Int)-10)=((N-10:Nat):Int):=by rw[ù];omega
 have tu:Ĥ.wrap ((N-10:Nat):Int)=((N-10:Nat):Int):=by rw[Ğ];omega
 have C:=auA (v0:=gd.jR) (N:=N) (K:=K) (adg p) Z Z q;have D:=atj s.I<|ja ⟨#[59]⟩<|rz N K;rw[C]at D;have mr:=avd (N:=N) (K:=K) (s.I.r (p9 p) fl).2.1 Z Z q;have Dt:=avf (p9 p) N K;have EC:=ado (N:=N) (K:=K) Z q;have E:=ave N K;have d1:=sL (n:=N) Z;have d2:=sL (n:=N-10) Z;have d3:=sL (n:=K) q;have g:=fe<|Ò C<|Ò D<|Ò Dt mr;clear C D Dt mr;generalize ja ⟨#[59]⟩ (rz N K)=J at*;let⟨j,F,y1⟩:=Da ⟨#[105,49,58,104,47,99,58,98,40]⟩<|fC N;let⟨v,G,y2⟩:=Da j ⟨#[44]⟩;let⟨m,H,y3⟩:=Da v<|fC K;let⟨y,I,y4⟩:=Da m ⟨#[41,59,117,50,59,108,50,59,100,49,58,50,59,98,50,58,99,59,99,49,58,99,62,98,40]⟩;let⟨o,L,y5⟩:=Da y<|fC<|N-10;let⟨z,M,y6⟩:=Da o ⟨#[44]⟩;let⟨O,P,y7⟩:=Da z<|fC K;rw[F,G,H,I,L,M,P]at E;change j.size=9+(fC N).size at y1;change v.size=j.size+1 at y2;change y.size=m.size+25 at y4;change z.size=o.size+1 at y6;generalize hDK:fC K=DK at*;walk_nrm;apply fN (n:=60) Ly.r.r;repeat w_nl fu
 refine Ã λ_ _=> ?_;refine uW s Ly Ņ (λb c e k B=>adF (n:=N) c e Z) λl4 f h4 _=> ?_;clear s;walk_nrm;refine tV _ (fC N) j f F (by show 9+(fC N).size<=_;omega) ?_;walk_nrm;refine tV j _ v f G (by show j.size+1<=_;omega) ?_;walk_nrm;apply fN (n:=60) f.r.r;repeat w_nl fu
 refine Ã λ_ _=> ?_;apply tV v DK m f H Z;walk_nrm;refine tV m _ y f I (by show m.size+25<=_;omega) ?_;walk_nrm;apply fN (n:=60) f.r.r;repeat w_nl fu
 refine Ã λ_ _=> ?_;refine uW h4 f Ņ (λb c e k B=>adF (n:=N-10) c e Z) λl5 e h5 _=> ?_;clear h4;walk_nrm;apply tV y _ o e L Z;walk_nrm;refine tV o _ z e M (by show o.size+1<=_;omega) ?_;walk_nrm;apply fN (n:=60) e.r.r;repeat w_nl fu
 refine Ã λ_ _=> ?_;apply tV z DK O e P Z;walk_nrm;refine tV O _ J e E (by show O.size+1<=_;omega) ?_;walk_nrm;refine NQ h5 e Ň (args:=#[å<|Ä ⟨x,0,à⟩,Á J,Ê Ç 6]) λl6 FI h6 _ _=> ?_;refine auQ (n:=5) h6 FI (by unfold Þ;omega) g.out.1 g.out.2.2.1 U g.out.2.1 λl7 kb ck Q h7 S=> ?_;let⟨n,wl,A2,A3,A4,r,T,q1,q2,q3,q4⟩:=g.out.2.2.2;rw[T]at S;have hz:(qG r).size<=10^12:=by have:=g.out.2.1;rw[T]at this;exact Å (avc fl) this
 have k:=fe<|Ò S<|Ò q1<|Ò q2<|Ò q3<|Ò hz q4;clear g S T q1 q2 q3 q4 hz h5 h6 F G H I L M P E;walk_nrm;apply mh;apply fN (n:=60) Q.r.r;iterate 6 w_nl fu
 refine Ã λ_ _=> ?_;refine .fB λLw B=>⟨Q.C B,U,?_⟩;refine au9 (N:=N) (n:=n) (wl:=wl) (A2:=A2) (A3:=A3) (A4:=A4) (r:=r) (kb:=kb) (ck:=ck) (h7.r B) (Q.C B) ?_ ?_ ?_ ?_ (k.out.1.r<|Jt B) k.out.2.1 k.out.2.2.1 k.out.2.2.2.1 Z k.out.2.2.2.2.1 k.out.2.2.2.2.2 (λb c h'=>hP b _ c h')<;>rfl
end
section
variable{l:fc}{s:List fH}{p:ByteArray}
def jz.S(h:jz X W l i n s):mP l.w/\∀b,b=1\/b=2\/b=3\/b=4->l.O b:=by let⟨_,_,a⟩:=h.a;exact⟨a.r,a.C⟩
def jz.Y{d:fc}{t:List fH}(h:jz X W l i n s)(k:jz l.O l.w d j b t):jz X W d j b t:= ⟨k.a,λc q=>by let⟨⟨e,f⟩,_⟩:=h.C c q;let⟨⟨g,m⟩,o⟩:=k.C c e;exact⟨⟨g,m.trans f⟩,o⟩⟩
end
def uP:ByteArray:=⟨#[55,48,116,51,101,49,102]⟩
def avh:gL (iw uP)=(0,0,[rP uP]):=ft
def avi:lV [gd.jR,p9 uP] ⟨#[105,49,58,104,47,99,58,98,40,57,57,44,48,41,59,117,50,59,108,50,59,100,49,58,50,59,98,50,58,99,59,98,50,58,104]⟩=(⟨#[50,59,48,58,50,53,59,45,59,99,36,44,104,36,59,57,55,53,59,49,48,55,53]⟩,0,[gd.jR,p9 uP,(lV [gd.jR,p9 uP] ⟨#[105,49,58,104,47,99,58,98,40,57,57,44,48,41,59,117,50,59,108,50,59,100,49,58,50,59,98,50,58,99,59,98,50,58,104]⟩).2.2.getD 2 gd.jR]):=ft
section
variable{l:fc}{s:List fH}{p:ByteArray}
def avj(B:gE l)(J:mP l.w)(K:∀b,b=1\/b=2\/b=3\/b=4->l.O b)(L:p.size<=10^14*2)(s arg d:Int)(g0:-9223372036854775808<=s)(g1:s<=9223372036854775807)(a0:-9223372036854775808<=arg)(a1:arg<=9223372036854775807)(M:-9223372036854775808<=d)(N:d<=9223372036854775807) (P:∀c,gE c->(∀b,l.O b->c.O b/\c.w.heap[b]?=l.w.heap[b]?)->l.w.heap.size<=c.w.heap.size->vQ (Ø Í) c.w): iM vQ l (G (Ë À 13 #[Á p,Ê Ç s,Ê Ç arg,Ê Ç d] ß) []):=by
 have hF:True:=trivial;rw[wP [_,_,_,_] 143 Ķ];simp only[ø,Û,í];conv in kU _ _=>whnf
 apply mh;apply fN (n:=40) B.r.r;repeat w_go fu
 refine Ã λ_ _=> ?_;refine .fB λw₁ C=>⟨B.C C,U,?_⟩;have Q:=B.C C;refine yA (f:=27) (args:=#[Á ⟨#[55,48,116,51,101,49,102]⟩,Ê Ç d]) Q U fP (by k_ne) (λw=>by go_simp) (λw=>È U Ĵ U U #[]) λxk g=> ?_;have j:fG l l.w xk:=C.ff ⟨g.r,g.I,g.N,g.Y,g.S⟩;refine adD (p:=uP) (Q.C g) (J.r (Å J.fx j.r) λb q=>j.I b<|Ì<|K b q) K A d M N (adh avh) λl3 i n k m S=> ?_;have T:l.w.heap.size<=i:=Å j.r S;have V:jz l.O l.w l3 i n [gd.jR,p9 uP]:=⟨m.a,λb q=>⟨⟨(m.C b q).1.1,(m.C b q).1.2.trans<|j.I b<|Ì q⟩,(m.C b q).2⟩⟩;clear m S j;walk_nrm;apply mh;apply fN (n:=40) k.r.r;repeat w_go fu
 refine Ã λ_ _=> ?_;apply mY (v:=Ø Ð) U fP (by k_ne) k.r.r k.q (λw _=>by go_simp) (λw _ e D=>by simp[go_sem,NB]at D);walk_nrm;apply fN (n:=60) k.r.r;repeat w_nl fu
 refine Ã λ_ _=> ?_;refine NQ V k ĳ (args:=#[å<|Ä ⟨i,0,à⟩,Á ⟨#[105,49,58,104,47,99,58,98,40,57,57,44,48,41,59,117,50,59,108,50,59,100,49,58,50,59,98,50,58,99,59,98,50,58,104]⟩,Á ⟨#[50,59,48,58,50,53,59,45,59,99,36,44,104,36,59,57,55,53,59,49,48,55,53]⟩]) λl5 rW W _ _=> ?_;refine adC W rW A avi λl6 X Y=> ?_;clear V W;walk_nrm;apply mh;apply fN (n:=60) X.r.r;repeat w_nl fu
 refine Ã λ_ _=> ?_;refine NQ Y X ĵ (args:=#[Á p]) λl8 hb8 E _ _=> ?_;refine au5 hb8 E.N L λl9 u hk9 tP=> ?_;have F:=E.M hk9 tP;clear Y E hk9 tP;have HP:∀c y H t,gE c->jz l.O l.w c y H t->l.w.heap.size<=y->vQ (Ø Í) c.w:=λc y H t x z I=>P c x (λb q=>(z.C b q).1) (by let⟨_,_,q⟩:=z.a;exact Å I<|Ť<|x.r.fx y<|Ì q.fq);clear P;by_cases o:(gL<|iw p).1=0/\125∉p.data.toList
 .rw[decide_eq_true o.1,decide_eq_false o.2];walk_nrm;apply mh;apply fN (n:=60) u.r.r;repeat w_nl fu
  refine Ã λ_ _=> ?_;refine NQ F u Ĵ (args:=#[Á p,Ê Ç d]) λl11 adL r k11 av2=> ?_;refine adD (p:=p) adL r.S.1 r.S.2 L d M N (adh<|aub o.2 o.1) λl12 y H h k12 adM=> ?_;have u12:=r.Y k12;have I:l.w.heap.size<=y:=by let⟨_,_,q⟩:=r.a;exact Å T<|Å (Ť<|adL.r.fx i<|Ì q.fq) adM
  clear F r k12 adM k11;walk_nrm;apply mh;apply fN (n:=40) h.r.r;repeat w_nl fu
  refine Ã λ_ _=> ?_;apply mY (v:=Ø Ð) U fP (by k_ne) h.r.r h.q (λw _=>by go_simp) (λw _ e D=>by simp[go_sem,NB]at D);walk_nrm;apply fN (n:=60) h.r.r;iterate 3 w_nl fu
  refine Ã λ_ _=> ?_;refine .fB λD e=>⟨h.C e,U,?_⟩;refine avg (p:=p) (u12.r e) (h.C e) ?_ s arg ?_ ?_ ?_ g0 g1 a0 a1 (λc t x z=>HP c _ _ t x z I)<;>rfl
 .have h:(decide ((gL<|iw p).1=0)&&!decide (125∈p.data.toList))=Ð:=by
   rw[Bool.eq_false_iff];intro q;simp only[ê,decide_eq_true_eq,Bool.not_eq_true',decide_eq_false_iff_not]at q;exact o q
  rw[h];walk_nrm;apply acp;apply fN (n:=60) u.r.r;repeat w_nl fu
  refine Ã λ_ _=>(.fB λD e=>⟨U,Ø Í,λw=>Vb (t:=8) U U Ķ U ft,HP _ _ _ _ (u.C e) (F.r e) T⟩)
end
def avk(d:mP W)(e:B.size<=10^14*2)(a arg c:Int)(g0:-9223372036854775808<=a)(f:a<=9223372036854775807)(g:-9223372036854775808<=arg)(h:arg<=9223372036854775807)(i:-9223372036854775808<=c)(j:c<=9223372036854775807): sJ (λv w'=>v=Ø Í/\nU W w') #[G (Ë À 13 #[Á B,Ê Ç a,Ê Ç arg,Ê Ç c] ß) []] W à #[]:= atx (l:=acG W) (avj (acH W) d (aty d) e a arg c g0 f g h i j λm _ v k=>⟨U,λb q=>(v b q).2,k⟩) (acH W) U
end Go.Proofs.Y.kA
