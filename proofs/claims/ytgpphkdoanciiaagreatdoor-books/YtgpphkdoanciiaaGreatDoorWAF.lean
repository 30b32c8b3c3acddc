/- P4, P5: the books are kept as the document says: the program answers every batch without a call as package atticref does. -/
import Derived.Test.YtgpphkdoanciiaaGreatDoorWAE
import Derived.Lib.LaidTab
import Derived.OpenShut
import Derived.Test.YtgpphkdoanciiaaGreatDoorRows
import Derived.Conc.LeavingOf
import Derived.LaidMore
import Derived.Stop.Joined
import Derived.Carry
import Derived.Great.Walk
import Derived.BigQuiet
import Derived.Deep.LoopGhost
import Derived.Orders
import Derived.SizedLaws
import Derived.Test.YtgpphkdoanciiaaGreatDoorCards
import Derived.Test.YtgpphkdoanciiaaGreatDoorTie
import Derived.SevenTiedAt
set_option linter.all false
set_option maxRecDepth 1000000
set_option maxHeartbeats 8000000
open And renaming intro->À
open Go.Proofs.Tryz renaming prog->Á,underlying3->ę,underlying79->ĩ,func34->ı,underlying231->Ļ,underlying129->Ľ,func39->ł,func32->Ń,underlying22->ń,func3->ŏ,func40->Ř,f3->Ŝ,underlying123->Ŧ,underlying124->ŧ,underlying36->Ŭ,ntmps82->Ű,ntmps81->ű,ntmps80->Ų,ntmps57->ų,ntmps39->ŵ,checked->Ŷ,underlying5->Ÿ,func82->Ž,func81->ž,func80->ſ,func57->Α,func43->Β,func42->Γ,func14->Ε,ntmps142->Ω,ntmps132->ε,func142->ξ,ntmps90->ο,func132->ς,ntmps58->σ,ntmps84->φ,ntmps59->ψ,ntmps43->ω,ntmps42->ae,params3->af,func90->ai,func58->ak,func84->au,func59->ax,func35->az,func33->aA,f14->aZ
open Go.Value renaming int->Â,pointer->Æ,slice->Ç,string->Ê,oneCell'->ß,bool->í,agg->ÿ,tuple->Đ
open Option renaming some->Ã,none->Å,map_eq_some_iff->Ì,toList_some->ĥ,map_some->Ő
open Go.IntKind renaming i64->Ä,u64->Ý,wrap_i64->ň,u8->Ŋ,wrap_u64->aO,signed->a8,bits->bq,min->bu,max->bx
open Bool renaming false->È,true->Ë,false_eq_true->Ô,and_eq_true->Ĝ,eq_iff_iff->Ĳ
open Or renaming inl->É,inr->Ð
open Go renaming Value->Í,World->Þ,Calls->ì,wpList_load_mid->ö,bodyPost_ret->þ,maxLen->ď,events_store->ě,execOp->Ğ,TypeId->ğ,info_parts->Ĥ,Oper->Ī,Frame->Ĵ,Operand->ĵ,heap_alloc_new->Ŀ,laidMetH->Ŗ,Addr->ŝ,all_oneCell_toArray->ş,wpList->Ť,cell_one_new->ů,wpList_store_mid->ź,getD_set_ne->Δ,DataW->Κ,undef->Ο,Act->κ,MemPlace->ah,binOp->ay,Goroutine->aC,reachBytes->aI,IntKind->aK,Program->aQ,Item->bg
open List renaming getElem?_eq_getElem->Î,getElem?_eq_some_iff->Ò,getElem?_append_left->Ö,append_nil->Ü,length_append->à,take_of_length_le->á,mem_of_getElem?->â,getElem?_append_right->å,take_add_one->ê,mem_singleton->î,range->ñ,mem_map->ù,eq_nil_of_length_eq_zero->ú,flatMap_cons->û,mem_append->ý,replicate->ā,getElem?_eq_none->ă,drop_eq_getElem_cons->ć,getD->Č,all_eq_true->č,nil_append->đ,getElem?_map->Ĕ,take->ė,drop->Ę,getElem?_range->ĝ,length_map->ġ,foldl_append->Ĩ,not_mem_nil->Ĭ,cons_append->ĭ,mem_cons->Į,mem_of_mem_take->į,set_append_left->İ,idxOf_lt_length_of_mem->ĸ,set_cons_succ->ļ,extract_eq_take_drop->ŀ,getElem?_take_of_lt->Ň,map_append->ő,take_append_drop->Œ,set_append_right->œ,mem_range->ř,map_cons->Š,getElem?_drop->ţ,set_cons_zero->ť,mem_cons_self->Ũ,size_toArray->Ů,ext_getElem?->Ŵ,length_take->Ż,foldl_cons->Η,foldl_nil->Ξ,all_cons->η,map_nil->ν,set_set->χ,length->ar,map->a7
open Go.Conc.Goes renaming stop->Ï
open Go.Ending renaming returned->Ñ
open Go.Obj renaming cells->Ó,row?->aT
open Nat renaming le_trans->Õ,le_refl->Ù,zero_le->Û,lt_of_lt_of_le->Ď,zero_add->Ě,eq_zero_or_pos->ģ,zero_mul->ķ,add_assoc->ņ,add_sub_cancel_left->ŉ,lt_or_ge->Ŏ,pow_succ->ŭ,one_pos->ż,mul_le_mul->Μ
open Go.Great renaming wpList_runTo->Ø
open Go.Calls renaming mono->Ú,quiet_of_same->è,quiet_of->Ρ
open Go.World renaming cell?->ã,ownsRow_nil->ò,drewN_drewN->ó,frozen?->Ţ,doorLaid->Λ,setCell->ζ,var?->aE
open ByteArray renaming size_append->ä,getElem_eq_getElem_data->Ć,ext->Ĉ,data_append->ē,data_extract->ŋ,size_extract->ō,append_empty->π,append_assoc->ρ,extract->aL,size->aU
open Go.Item renaming inRegion->æ,code->aX
open Go.Conc renaming events_call_body->ç,goes_leave1->ħ,mem_listed->aH,listed->aY
open False renaming elim->é
open Option.some renaming inj->ë,injEq->Ū
open Go.RowKit renaming intOf->ï
open Array renaming getElem?_eq_some_iff->ð,getElem?_eq_getElem->ø,length_toList->ċ,getElem?_toList->ī,getD_eq_getD_getElem?->Ĺ,getElem?_modify->Ŕ,toList_extract->ŗ,mem_toList_iff->Ś,toList_append->Ş,toList_inj->Ź,ext'->aF
open Int renaming toNat_natCast->ô,tmod_eq_emod_of_nonneg->Ā,lt_irrefl->ĉ,emod_nonneg->ĳ,tdiv_eq_ediv_of_nonneg->ĺ,emod_lt_of_pos->ũ,not_lt->Τ
open Go.Frame renaming enter->õ,finish_at->Ģ
open Go.DataW renaming trod->ü,trod_int->Ė,trod_struct->ū,agg->br
open Go.TypeDesc renaming isRow->Ă
open Go.Proofs.YtgpphkdoanciiaaGreatDoor.Rows renaming laid_math_bits_deBruijn32tab->Ą,laid_math_bits_deBruijn64tab->ą,laid_attic_attic_stepRules->Ċ,laid_internal_strconv_uint64pow10->ĕ,booksSpec->ś
open Go.Act renaming eval->Ē
open Go.CallKind renaming normal->Ġ
open Go.RowKit.Below renaming heap_setCell->Ħ
open Go.ByteArray renaming toList_eq->Ķ
open Go.Sem renaming events->ľ
open Decidable renaming byContradiction->Ł
open Prod.mk renaming injEq->Ņ
open Go.Addr renaming add_mid->Ō
open Go.Lib renaming tabData->ŕ
open Go.BinOp renaming eql->θ,neq->ι
variable{i n j b k m J j9 j7 j6:Nat}{w u W jX:Þ}{v x z jQ:Í}{g:aC}{a p:ŝ}{h c:Int}{e t T:ğ}{d q:Array Í}{P:aQ}{y:κ}{B:ByteArray}{X:Nat->Prop}{O:Option ŝ}{l:List Í}{yQ:Bool}{K H:κ->Þ->Prop}{o:Ī}{D:Nat->Nat}{L:List bg}{jJ:List Nat}{qX:List Ĵ}{qQ:ĵ}{zQ:List Int}{xX:ĵ->Í}{xJ:Nat×Nat}{wJ:Array Bool}{vX:List ByteArray}{vQ:Í->Þ->Prop}{vJ:Go.Exit->κ->Þ->Prop}{Q:Array Ī}{f:Ĵ}{F:Go.FuncId}{s:Go.Func}
namespace Go.Proofs.Y.iV
open Go Go.Conc Go.Proofs Go.RowKit Go.Proofs.Y.Lift Go.Proofs.Y.gu Go.Proofs.Y.fA Go.Proofs.Y.lC
open Go.Proofs.YtgpphkdoanciiaaGreatDoor (Rows.laid_math_bits_deBruijn32tab Rows.laid_math_bits_deBruijn64tab Rows.laid_internal_strconv_uint64pow10 Rows.laid_attic_attic_stepRules)
def NO:List (String×DataW Unit):=[("math/bits.deBruijn32tab",Ą),("math/bits.deBruijn64tab",ą),("internal/strconv.uint64pow10",ĕ),("attic/attic.stepRules",Ċ)]
theorem NP(h:W.ShapedOpen Á)(g:Nat)(t:ğ)(b:g<Á.globals.size)(e:(((begin Á (λ_ _=>0) default).world.heap[g]?).bind aT).map (·.2)=Ã t): ∃a,W.heap[g]?=Ã (Ó a t):=by let⟨⟨z,c⟩,d,f⟩:=Ì.1 e;let⟨a,i,_⟩:=h.1 g z c b d;grind
theorem ab9{n:String}(b:Á.globalNamed n=Ã i)(h:W.heap[i]?=Ã (Ó q t xJ))(a:W.var? Á n=Ã d):q=d:=by unfold aE at a;grind
def US{n:String}{N:Nat}{k:aK}{p:List ah} (a:Á.globalNamed n=Ã i) (f:(Á.globals[i]?).map (·.type)=Ã t) (h:Á.underlying t=Ã (.array N e)) (l:Á.underlying e=Ã (.int k)) (m:Á.cellsOf e=1) (o:Á.cellsOf t=N) (r:W.heap[i]?=Ã (Ó d t xJ)) (s:Á.globalNamed n=Ã b) (u:(Á.globals[b]?).map (·.type)=Ã T) (v:W.var? Á n=Ã q) (w:ü (λ_=>()) Á W 0 (λ_=>Ë) È j T q.toList=Ã (ŕ k zQ,p)):d=(zQ.map λz=>Â k z).toArray:=by obtain rfl:=ë<|a.symm.trans s;obtain rfl:=ë<|f.symm.trans u;rw[ab9 a r v,<-Lib.cells_of_tab h l m o w]
def arl:Á.cellsOf 299=3:=fx
def acd:Á.cellsOf 36=1:=fx
def arn:Á.cellsOf 3=1:=fx
def aro:Á.cellsOf 300=69:=fx
def arp{p:List ah}(v:ü (λ_=>()) Á W 0 (λ_=>Ë) È n 300 l=Ã (Ċ,p)): l.length=69/\∀(i:Nat) (r:Int×Int×Int),vM[i]?=Ã r->l[i*3]?=Ã (Â Ý r.1)/\l[i*3+1]?=Ã (Â Ä r.2.1)/\l[i*3+2]?=Ã (Â Ä r.2.2):=by
 obtain⟨f,m,rfl,w,y,K,z⟩:=DataW.trod_array Tryz.underlying300 v;refine⟨y.trans aro,λi r o=> ?_⟩;have B:i<23:=by have:=(Ò.1 o).1;exact this
 have g:=z i B;rw[arl]at g;have C:f.map (·.1)=vM.map λr=>(br [.lit<|.int Ý r.1,.lit<|.int Ä r.2.1,.lit<|.int Ä r.2.2]:Κ Unit):=by have:=congrArg Prod.fst w;simp only[Ċ,DataW.agg.injEq]at this;exact this.symm
 obtain⟨x,q⟩:∃x,f[i]?=Ã x:=⟨_,Î Z⟩;rw[q]at g;have d:(f.map (·.1))[i]?=Ã x.1:=by simp[q]
 rw[C]at d;simp only[Ĕ,o,Ő,Ū]at d;obtain⟨e,h,rfl,j,L,D,k⟩:=ū Tryz.underlying299 g;have a:=k 0 _ U;have b:=k 1 _ U;have c:=k 2 _ U;have a:ü _ Á W 0 _ È h 36 (ė (Á.cellsOf 36)<|Ę 0<|ė 3<|Ę (i*3) l)=e[0]?:=a;have b:ü _ Á W 0 _ È h 3 (ė (Á.cellsOf 3)<|Ę 1<|ė 3<|Ę (i*3) l)=e[1]?:=b;have c:ü _ Á W 0 _ È h 3 (ė (Á.cellsOf 3)<|Ę 2<|ė 3<|Ę (i*3) l)=e[2]?:=c;rw[acd]at a;rw[arn]at b c;match e,D,j,a,b,c with
 |[y0,y1,y2],_,j,a,b,c=>
  let⟨M,E,F,_⟩:=Ė Ŭ (show ü _ _ _ _ _ _ _ 36 _=Ã y0 from a);let⟨N,G,H,_⟩:=Ė ę (show ü _ _ _ _ _ _ _ 3 _=Ã y1 from b);let⟨O,I,J,_⟩:=Ė ę (show ü _ _ _ _ _ _ _ 3 _=Ã y2 from c);subst F;subst H;subst J;rw[j]at d;simp only[Š,ν,DataW.agg.injEq,List.cons.injEq,DataW.lit.injEq,Lit.int.injEq,true_and,and_true]at d;obtain⟨rfl,rfl,rfl⟩:=d;have s:=congrArg (·[0]?) E;have t:=congrArg (·[0]?) G;have u:=congrArg (·[0]?) I;simp[List.getElem?_take,ţ]at s t u;exact⟨s,t,u⟩
def ace(h:∀v∈d.toList,∃k n,v=Â k n):fU (lB X i) d d:=oN λv a=>by obtain⟨k,n,rfl⟩:=h v a;exact .iB _ _
def arq{l:List (String×DataW Unit)}(h:Ŗ P l W)(a:(l.filter λx=>x.2.handleName?.isSome)=[]):∃b,DataW.LaidVars P W l b:=by unfold Ŗ at h;rw[a]at h;exact⟨h.choose,h.choose_spec.1⟩
def ars:Á.cellsOf 304=32:=fx
def aru:Á.cellsOf 305=64:=fx
def arv:Á.cellsOf 291=20:=fx
def acf:Á.cellsOf 5=1:=fx
def gn1:Á.globalNamed "internal/strconv.uint64pow10"=Ã 1:=fx
def gn2:Á.globalNamed "attic/attic.stepRules"=Ã 2:=fx
def gn3:Á.globalNamed "math/bits.deBruijn32tab"=Ã 3:=fx
def gn4:Á.globalNamed "math/bits.deBruijn64tab"=Ã 4:=fx
def NQ(g:Nat)(t:ğ)(h:(g,t)∈[(1,291),(2,300),(3,304),(4,305)]):(Á.globals[g]?).map (·.type)=Ã t/\g<Á.globals.size/\(((begin Á (λ_ _=>0) default).world.heap[g]?).bind aT).map (·.2)=Ã t:=by
 simp only[Į,Ĭ,or_false,Ņ]at h;rcases h with⟨rfl,rfl⟩|⟨rfl,rfl⟩|⟨rfl,rfl⟩|⟨rfl,rfl⟩
 .exact⟨fx,of_decide_eq_true fx,fx⟩
 .exact⟨fx,of_decide_eq_true fx,fx⟩
 .exact⟨fx,of_decide_eq_true fx,fx⟩
 .exact⟨fx,of_decide_eq_true fx,fx⟩
def arw:Κ Unit->Int
 |.lit (.int _ z)=>z
 |_=>0
def acg:Κ Unit->List Int
 |br l=>l.map arw
 |_=>[]
def arx:(Ą:Κ Unit)=ŕ Ŋ (acg Ą):=rfl
def arz:(ą:Κ Unit)=ŕ Ŋ (acg ą):=rfl
def arA:(ĕ:Κ Unit)=ŕ Ý Lib.pow10Tab:=rfl
def arB{k:aK}:∀v∈(zQ.map λz=>Â k z).toArray.toList,∃k n,v=Â k n:=λv a=>by simp only[ù]at a;obtain⟨z,_,rfl⟩:=a;exact⟨_,_,U⟩
def arC(k:Nat)(h:k<69):∃i j,i<23/\j<3/\k=i*3+j:=⟨k/3,k%3,Z,Z,Z⟩
theorem arD{W:Þ}(hs:W.ShapedOpen Á)(hl:Ŗ Á NO W):mT W:=by
 obtain⟨ps,g3,t3,cs3,f3,p3,q3,UM,NR,hv3,Hz,⟨g4,t4,cs4,f4,p4,q4,hg4,HQ,hv4,JR,⟨g1,t1,cs1,f1,p1,q1,hg1,Ct,hv1,sQ,⟨g2,t2,cs2,f2,p2,q2,MQ,uX,hv2,pG,_,_⟩,_⟩,_⟩,_⟩:=arq hl (by kernel_rfl);obtain⟨y1,s1,z1⟩:=NQ 1 291 (by simp);obtain⟨y2,s2,z2⟩:=NQ 2 300 (by simp);obtain⟨y3,s3,z3⟩:=NQ 3 304 (by simp);obtain⟨y4,s4,z4⟩:=NQ 4 305 (by simp);obtain⟨c1,b1⟩:=NP hs 1 291 s1 z1;obtain⟨c2,b2⟩:=NP hs 2 300 s2 z2;obtain⟨c3,b3⟩:=NP hs 3 304 s3 z3;obtain⟨c4,b4⟩:=NP hs 4 305 s4 z4;rw[arx]at Hz;rw[arz]at JR;rw[arA]at sQ;have e3:=US gn3 y3 Tryz.underlying304 Ÿ acf ars b3 UM NR hv3 Hz;have e4:=US gn4 y4 Tryz.underlying305 Ÿ acf aru b4 hg4 HQ hv4 JR;have e1:=US gn1 y1 Tryz.underlying291 Ŭ acd arv b1 hg1 Ct hv1 sQ;obtain rfl:=ë (gn2.symm.trans MQ);obtain rfl:=ë (y2.symm.trans uX);obtain⟨hlen,kz⟩:=arp pG;have e2:=ab9 gn2 b2 hv2;subst e2;have arE:=λi r hr=>by have:=kz i r hr;simpa using this
 have ach:∀(k:Nat) (v:Í),c2[k]?=Ã v->∃(kd:aK) (n:Int),v=Â kd n/\kd≠Ŋ:=λk v hv=>by
  have hk:k<69:=by grind
  obtain⟨i,j,hi,hj,rfl⟩:=arC k hk;obtain⟨r,hr⟩:∃r,vM[i]?=Ã r:=⟨_,Î (show i<vM.length from hi)⟩;grind
 have iO:=(ð.1 b4).1;refine⟨?_,?_,⟨c3,_,b3,Û _,Û _,?_,?_⟩,⟨c4,_,b4,Û _,Û _,?_,?_⟩,?_,⟨⟨c2,_,b2⟩,λi r hr=> ?_⟩,?_⟩
 .have h5:nB=5:=by kernel_rfl
  omega
 .rintro b (rfl|rfl)
  .refine⟨c1,291,_,b1,Û _,ace (by rw[e1];exact arB),by rw[e1];exact of_decide_eq_true (by kernel_rfl),λk v hv=> ?_,by decide,by decide⟩;rw[e1]at hv;simp only[List.getElem?_toArray,Ĕ,Ì]at hv;obtain⟨z,_,rfl⟩:=hv;rfl
  .refine⟨c2,300,_,b2,Û _,ace λv hv=> ?_,?_,λk v hv=> ?_,by decide,by decide⟩
   .obtain⟨k,hk,e⟩:=List.mem_iff_getElem.1 hv;obtain⟨kd,n,e',_⟩:=ach k v (by rw[<-e];simp);grind
   .grind
   .obtain⟨kd,n,rfl,hn⟩:=ach k v hv;cases kd<;>first|rfl|exact absurd rfl hn
 .rw[e3];exact of_decide_eq_true (by kernel_rfl)
 .grind
 .rw[e4];exact of_decide_eq_true (by kernel_rfl)
 .grind
 .unfold gu.pK Lib.TabIs aE;rw[gn1];grind
 .obtain⟨h0,h1,h2⟩:=arE i r hr;exact⟨by simp only[ã,b2];exact h0,by simp only[ã,b2];exact h1,by simp only[ã,b2];exact h2⟩
 .unfold qY;simp only[ã,b4,e4];rfl
end Go.Proofs.Y.iV
namespace Go.Proofs.Y.iV
open Go Go.Conc Go.Proofs Go.RowKit Go.Proofs.Y.Lift Go.Proofs.Y.gu Go.Proofs.Y.fA Go.Proofs.Y.lC
open Go.Proofs.YtgpphkdoanciiaaGreatDoor (Rows.workersSpec Rows.workersRow Rows.WorkersSaid Tryz.pinned)
open Go.ChangeShapes Go.WideShapes Go.ChangeAt
def fg:ownKnob Á.godebug=Å:=fx
def arF:laidOutB Á=Ë:=fx
def arG{w':Þ}(h:om W w')(a:w'.os=W.os)(b:w'.output=W.output):Below W.heap.size W {w' with tape:=W.tape}:=⟨a,U,b,h.wR,h.sx⟩
def arH(os:Os)(a:Array Í):Ŗ Á NO ((Λ Á 400 os).forCall (λ_ _=>0) ⟨#[],a,[]⟩).memory:= laidMetH_of_parts3 (fuel:=8) (laidMet_of_run' 8 fx fx) fx fx
end Go.Proofs.Y.iV
namespace Go.Proofs.Y.iV
open Go Go.Conc Go.Proofs Go.RowKit Go.Proofs.Y.Lift Go.Proofs.Y.gu Go.Proofs.Y.fA Go.Proofs.Y.lC
section
variable{J:Jd}{V:Nat->Prop}{l x:fe}
def JS(V:Nat->Prop)(l:fe):fe:={l with O:=V,I:=λb=>l.O b/\¬V b}
structure UT(V:Nat->Prop)(l l':fe):Prop where
 xn:l'.d=0->ic l'
 C:∀b,l.O b->l'.O b/\(¬V b->l'.w.heap[b]?=l.w.heap[b]?)
 r:l.w.heap.size<=l'.w.heap.size
def arI(c:ic l)(e:∀b,V b->l.O b):gq (JS V l):= ⟨λ_ h q=>q.2 h,c.r.Y,λa d=>d.elim (λq=>(c.I a q).elim) λq=>(c.M a q).elim,λb f=>c.r.fv b (É (f.elim (e b) (·.1))),c.r.I,λa d=>(c.k a d).elim⟩
def aci(e:ic l)(h:∀b,x.I b->l.O b)(f:x.r=l.r)(g:x.N=l.N)(i:x.K=l.K)(r:fI (nT l x) w u):fI x w u:= ⟨r.r,λj m=>r.I j (É<|m.elim É λq=>Ð<|h j q),λy d=>(by unfold fe.C at d;rw[f,g]at d;exact d.elim (λq=>(e.I y q).elim) λq=>(e.M y q).elim),λy d=>(by unfold fe.C at d;rw[f,g]at d;exact d.elim (λq=>(e.I y q).elim) λq=>(e.M y q).elim),λy d=>(by rw[i]at d;exact(e.k y d).elim)⟩
def arJ(f:ic l)(g:∀b,x.I b->l.O b)(i:x.r=l.r)(j:x.N=l.N){e:Event}(h:wM x e):wM (nT l x) e:=by
 rcases h with⟨a,c,d⟩|h|h|h|h|⟨a,c,d⟩
 .refine É ⟨a,c,É ?_⟩;rcases d with q|q|⟨q|q,z⟩
  .exact É q
  .rw[i]at q;exact(f.I a q).elim
  .exact Ð<|g _ q
  .rw[j]at q;exact(f.M a q).elim
 .exact Ð<|É h
 .exact Ð<|Ð<|É h
 .exact Ð<|Ð<|Ð<|É h
 .exact Ð<|Ð<|Ð<|Ð<|É h
 .exact Ð<|Ð<|Ð<|Ð<|Ð ⟨a,É c,d⟩
def arK(c:ic l)(h:fA.fi P yQ J x g):(∀b,x.I b->l.O b/\¬V b)->(∀j,x.O j->V j\/l.w.heap.size<=j)->x.r=l.r->x.N=l.N->x.K=l.K->x.q=l.q->l.w.heap.size<=x.w.heap.size->(∀b,l.O b->¬V b->x.w.heap[b]?=l.w.heap[b]?)->kn x-> fA.fi P yQ (λd e=>∃a,J a e/\d=nT l a/\UT V l d/\∀b,a.I b->l.O b/\¬V b) (nT l x) g:=by
 induction h with
 |@fD x g h=>
  intro f u i n m v p B H;refine .fD λd r=>⟨{x with w:=d},h d (aci c (λb q=>(f b q).1) i n m r),U,⟨λC=> ?_,λb q=>⟨Ð q,λs=>(r.I b<|É<|Ð q).trans<|B b q s⟩,Õ p r.r⟩,f⟩;have e:∀b,x.O b\/l.O b->b<d.heap.size:=λb q=>Ď (q.elim (H b) λz=>Ď (c.r.fv b<|É z) p) r.r;exact⟨⟨λb _ q=>c.rd b q,λa q=>(c.I a q).elim,λa q=>q.elim (λz=>(c.I a z).elim) λz=>(c.M a z).elim,λb q=>q.elim (e b) λz=>(c.rd b z).elim,λa q=>q.elim (λz=>(c.I a z).elim) λz=>(c.M a z).elim,λa (q:x.K a)=>by rw[m]at q;exact(c.k a q).elim⟩,C,by show¬x.q;rw[v];exact c.q,c.rd,c.I,c.M,λa (q:x.K a)=>by rw[m]at q;exact c.k a q⟩
 |@jL x g G' W' E' L' iJ h C _ ih=>
  intro f u i n m v p B H;refine .mk iJ λd r=> ?_;have t:=aci c (λb q=>(f b q).1) i n m r;have D:=C d t;have E:∀y:ŝ,¬x.r y:=λy q=>by rw[i]at q;exact c.I y q
  have F:=Õ p t.r;refine⟨G' d,W' d,E' d,nT l<|L' d,h d t,⟨D.C,λj a=> ?_,λj a=> ?_,U,U,U,D.k,λj a o I=>D.ki j a (λq=>o<|É q) λy _=>E y,λy G o I=>D.S y G (λq=>o<|É q)<|E y,λy G o=>D.Y y G λq=>o<|É q,D.c,D.f,D.i,λe L=>arJ c (λb q=>(f b<|by rwa[D.rd]at q).1) (D.r.trans i) (D.I.trans n)<|D.b e L,D.g,D.q,λM=> ?_,D.N⟩,ih d t (by rwa[D.rd]) (λj a=>(D.M j a).elim (u j) λq=>Ð<|Õ F q) (D.r.trans i) (D.I.trans n) (D.k.trans m) (D.q.trans v) (by rw[D.N];exact Õ F D.C) (λb q s=> ?_) λj a=>by rw[D.N];exact D.fv j a⟩
  .rcases a with q|q
   .exact(D.M j q).imp É id
   .exact É<|Ð q
  .rcases a with q|q
   .exact D.fv j q
   .exact Ď (c.r.fv j<|É q)<|Õ F D.C
  .let⟨N,Q,S⟩:=D.h M;exact⟨N,Q,by funext j;show((L' d).O j\/l.O j)=(x.O j\/l.O j);rw[S]⟩
  .have N:=c.r.fv b<|É q;rw[D.N,D.ki b Z (λz=>(u b z).elim s λz=>by omega) λy _=>E y,r.I b<|É<|Ð q];exact B b q s
def arL(a:ic l)(c:∀b,V b->l.O b)(h:fA.fi P yQ J (JS V l) g):fA.fi P yQ (λj q=>∃e,J e q/\j=nT l e/\UT V l j/\∀b,e.I b->l.O b/\¬V b) l g:=by
 have:=arK a h (λ_ q=>q) (λ_ q=>É q) U U U U (Ù _) (λ_ _ _=>rfl) λj q=>a.r.fv j<|É<|c j q;have e:nT l (JS V l)=l:=by
  have d:(λb=>V b\/l.O b)=l.O:=by funext b;exact propext ⟨λq=>q.elim (c b) id,Ð⟩
  unfold nT JS;simp only[d]
 rwa[e]at this
end
section
variable{V:Nat->Prop}{l:fe}{Post:Í->Þ->Prop}
theorem acj(e:ic l)(s:∀b,V b->l.O b)(y:zb V (λ_=>False) nB l.w)(t:De F=Ë){k:Array Í}(m:fU (mh V nB) k k)(z:wI Post) (B:∀T,ì Á F k (World.tp (j2 (λ_=>False) l.w) T 0) fun|Ñ v,a=>Post v a/\kl a|_,_=>False) (u:Bool) (o:Ĵ) (p:List Ĵ): fA.fi Á u (λh x=>ic h/\UT V l h/\∃(Y:fw) (a:Þ) (v n:Í),(mh V nB).r Y/\qC Y (λ_=>False) a h.w/\fu Y v n/\Post v a/\x=G (o.finish n) p/\∀i j,Y i j->h.O j/\(V j\/l.w.heap.size<=j)) l (G (õ Á F k Ġ)<|o::p):=by
 let⟨fn,c,C,D⟩:=xo F t;have r:(λj=>V j/\¬(JS V l).O j)=λ_=>False:=by funext j;exact propext ⟨λq=>q.2 q.1,é⟩
 have W:=Dc (V:=V) xY IL xo z t C D (arI e s) e.q (λb q=>É q) (by rwa[r]) (λg q=>by cases q) m (by rwa[r]) u o p;rw[r]at W;refine(arL e s W).ff ?_;rintro h x ⟨x',⟨Y,a,v,n,g,E,H,I,J,K,_,L⟩,rfl,m,M⟩;refine⟨m.xn<|L.trans e.d,m,Y,a,v,n,g,E,H,I,J,λi j N=> ?_⟩;let⟨P,Q⟩:=K i j N;have S:V j\/l.w.heap.size<=j:=Q.elim É λq=>q.imp id id;refine⟨É (P.resolve_right λq=> ?_),S⟩;let⟨X,z2⟩:=M j q;have:=e.r.fv j<|É X;grind
def arM{Y:fw}{B:Nat}(h:fu Y v x):fu (mh (λj=>∃i,Y i j) B) x x:=by
 induction h with
 |lY b=>exact .lY b
 |iB k n=>exact .iB k n
 |kt s=>exact .kt s
 |lF=>exact .lF
 |jE q=>exact fu.jE (Y:=mh (λj=>∃i,Y i j) B) ⟨⟨U,_,q.1⟩,U,U⟩
 |nF n c=>exact .nF n c
 |j5 q n c=>exact fu.j5 (Y:=mh (λj=>∃i,Y i j) B) ⟨⟨U,_,q.1⟩,U,U⟩ n c
 |tF=>exact .tF
 |fn f=>exact .fn f
 |tH=>exact .tH
 |tJ=>exact .tJ
 |tK=>exact .tK
 |wz t _ b=>exact .wz t b
 |oj f _ b=>exact .oj U λi c _=>b i Z c
 |lZ f _ b=>exact .lZ U λi c _=>b i Z c
def acn{Y:fw}(h:qC Y (λ_=>False) u w)(d:nB<=w.heap.size):zb (λj=>∃i,Y i j) (λ_=>False) nB w:=by
 refine⟨λb ⟨i,f⟩=> ?_,d⟩;let⟨c,j,e,s,g,t,l,a,_,m,n⟩:=h.r i b f;have o:=(a.r id).r;refine⟨j,e,g,l,by rwa[<-m id,<-o],oN λv p=> ?_,é⟩;obtain⟨k,q,rfl⟩:=List.getElem_of_mem p;have r:k<j.size:=by simpa using q
 simpa using arM (B:=nB)<|(a.r id).C k Z r
end
end Go.Proofs.Y.iV
namespace Go.Proofs.Y.gu
open Go Go.Proofs Go.RowKit Go.Proofs.Y.Lift
def arN(b:Bool)(w:Þ):ì Á 144 #[í b] w λe a=>e=Ñ (Â Ý<|AV b)/\a=w:=by
 cases b;all_goals
  go_enter Tryz.func144,Tryz.ntmps144;go_wp2;go_ret;exact⟨U,U⟩
def NS(i:Nat)(b:i<8)(w:Þ):ì Á 143 #[Â Ä i] w λe a=>e=Ñ (Ê<|lh i)/\a=w:=by go_enter Tryz.func143,Tryz.ntmps143;go_wp2;go_ret;exact⟨U,U⟩
theorem UU(s t:ByteArray)(h:s.size+t.size<=10^15)(w:Þ):ì Á 142 #[Ê s,Ê t] w λe a=>e=Ñ (Ê<|if s=⟨#[]⟩then t else(s++⟨#[44]⟩)++t)/\a=w:=by
 by_cases e:s=⟨#[]⟩
 .subst e;go_enter ξ,Ω;go_wp2;go_ret;exact⟨U,U⟩
 .rw[if_neg e];have b:(s.toList==[])=È:=by
   rw[Ķ];have:s.data.toList≠[]:=λq=>e<|Ĉ<|Ź.1 q;grind
  go_enter ξ,Ω;go_wp2;go_ret;exact⟨U,U⟩
theorem aco(s:ByteArray)(w:Þ):ì Á 90 #[Ê s] w λe a=>e=Ñ (Ê<|if s=⟨#[]⟩then⟨#[45]⟩else s)/\a=w:=by
 by_cases e:s=⟨#[]⟩
 .subst e;go_enter ai,ο;go_wp2;go_ret;exact⟨U,U⟩
 .rw[if_neg e];have b:(s.toList==[])=È:=by
   rw[Ķ];have:s.data.toList≠[]:=λq=>e<|Ĉ<|Ź.1 q;grind
  go_enter ai,ο;go_wp2;go_ret;exact⟨U,U⟩
def acr(n c:Nat)(a:n<18446744073709551616)(b:c<18446744073709551616)(w:Þ):ì Á 141 #[Â Ý n,Â Ý c] w λe d=>e=Ñ (Â Ý<|tb n c)/\d=w:=by
 go_enter Tryz.func141,Tryz.ntmps141;go_wp2_with fail;go_ret;refine⟨?_,U⟩;have f:Ý.wrap (((n^^^c:Nat):Int)*1099511628211)=((tb n c:Nat):Int):=by rw[aO];unfold tb;omega
 rw[bits_xor_u64_nat n c a b,f];rfl
def arO(m k:Nat)(a:k<8):m*256^k%18446744073709551616/72057594037927936=m/2^(8*(7-k))%256:=by
 obtain rfl|rfl|rfl|rfl|rfl|rfl|rfl|rfl:k=0\/k=1\/k=2\/k=3\/k=4\/k=5\/k=6\/k=7:=Z
 all_goals simp
 all_goals omega
def JU(n m:Nat)(o:n<18446744073709551616)(s:m<18446744073709551616)(w:Þ):ì Á 139 #[Â Ý n,Â Ý m] w λe p=>e=Ñ (Â Ý<|nz n m)/\p=w:=by
 go_enter Tryz.func139,Tryz.ntmps139;go_wp2;go_loop [0,1,5] (λa b i=>∃h k:Nat,k<=8/\h<18446744073709551616/\tn m h (8-k)=nz n m/\i=Â Ä k/\a=Â Ý h/\b=Â Ý ((m*256^k%18446744073709551616:Nat):Int)) λ_ _ i=>8-(ï i).toNat
 case atStart=>exact⟨n,0,Z,o,U,U,U,by simp;omega⟩
 case round=>
  obtain⟨h,k,t,q,c,rfl,rfl,rfl⟩:=hrel;by_cases g:k<8
  .have j:=arO m k g;have l:m*256^k%18446744073709551616*256%18446744073709551616=m*256^(k+1)%18446744073709551616:=by rw[ŭ,<-Nat.mul_assoc,Nat.mod_mul_mod]
   have u:m*256^k%18446744073709551616<18446744073709551616:=Nat.mod_lt _ A;have d:tn m (tb h<|m/2^(8*(7-k))%256) (8-(k+1))=nz n m:=by rw[<-c,show 8-k=(8-(k+1))+1 by omega,tn,show 8-(k+1)=7-k by omega]
   rw[<-j]at d;generalize m*256^k%18446744073709551616=B at*;have T:=acr h (B/72057594037927936) q Z w;have f:=eZ<|À d<|À T l;clear d T l j c;have r:((B/72057594037927936:Nat):Int)=(B:Int)/72057594037927936:=fp
   go_wp2_with (go_at_call 141;rw[<-r];apply f.out.2.1.mono;rintro e v ⟨rfl,rfl⟩)
   go_round
   case rel=>exact⟨_,k+1,g,I9 _ _,f.out.1,by go_num,U,by rw[<-f.out.2.2];go_num⟩
   case measure=>simp[ï];omega
  .obtain rfl:k=8:=Z
   have e:h=nz n m:=c;go_wp2;go_ret;exact⟨U,U⟩
def yV(d:Nat):ByteArray:=aL ⟨#[48,49,50,51,52,53,54,55,56,57]⟩ d<|d+1
def rds:(ñ 10).map yV=(ñ 10).map λd=>⟨#[UInt8.ofNat<|48+d]⟩:=fx
theorem JV(h:i<10):yV i=⟨#[UInt8.ofNat<|48+i]⟩:=by have:=congrArg (λl=>l[i]?) rds;simpa[h]using this
theorem UW(h:i<10):iM i=yV i:=by unfold iM;grind [Lib.decDigits_one,JV]
def acs(h:¬n<10):iM n=iM (n/10)++yV (n%10):=by rw[JV Z];unfold iM;rw[Lib.decDigits,dif_neg h];apply Ĉ;simp_all
theorem UX(h:i<m)(a:m<=16)(b:B.size<=20):Ä.wrap ((i:Int)+1)=(i:Int)+1/\Ä.wrap (i:Int)=i/\(0:Int)<=(i:Int)+1/\(i:Int)+1<=m/\(i:Int)<=(i:Int)+1/\((i:Int)+1).toNat=i+1/\¬9223372036854775807<min (i+1) m-i+B.size:=by grind [ň]
def FW(n:Nat)(h:n<18446744073709551616)(w:Þ):ì Á 85 #[Â Ý n] w λe j=>e=Ñ (Ê<|iM n)/\j=w:=by
 have l:=uB n h;generalize m:iM n=r at*;go_enter Tryz.func85,Tryz.ntmps85;go_wp2;go_loop [0,3] (λa b=>∃(k:Nat) (s:ByteArray),k<18446744073709551616/\iM k++s=r/\a=Â Ý k/\b=Ê s) λa _=>(ï a).toNat
 case atStart=>exact⟨n,⟨#[]⟩,h,by rw[m];exact π,U,U⟩
 case round=>
  obtain⟨k,s,p,c,rfl,rfl⟩:=hrel;have i:s.size<=20:=by rw[<-c,ä]at l;omega
  by_cases f:k<10
  .rw[UW f]at c;let⟨_,_,_,_,_,_,_⟩:=UX f A i;have g:=eZ c;clear c;go_wp2;go_ret;exact⟨by rw[<-g.out];rfl,U⟩
  .have t:(k:Int).tmod 10=((k%10:Nat):Int):=by rw[Ā Z];omega
   have u:(k:Int).tdiv 10=((k/10:Nat):Int):=by rw[ĺ Z];omega
   rw[acs f,ρ]at c;have o:k%10<10:=Z
   have v:k/10<k:=Z
   have g:=eZ c;clear c;generalize k%10=d at*;generalize k/10=q at*;let⟨_,_,_,_,_,_,_⟩:=UX o A i;go_wp2;go_round
   case rel=>exact⟨q,_,Z,g.out,U,U⟩
   case measure=>simp[ï];omega
def acu:∀n:Nat,n<100->iM n=nZ n:=λn h=>by
 unfold nZ;split
 .rw[UW ‹_›,JV ‹_›]
 .rw[acs ‹_›,UW Z,JV Z,JV Z];rfl
def NT(i:Nat)(h:i<10)(w:Þ):ì Á 83 #[Â Ä i] w λe a=>e=Ñ (Ê<|ow i)/\a=w:=by
 have b:(nZ i).size=1:=by unfold nZ;rw[if_pos h];rfl
 have C:=FW i Z w;rw[acu i Z]at C;go_enter Tryz.func83,Tryz.ntmps83;go_wp2_with (go_at_call 85;apply C.mono;rintro e a ⟨rfl,rfl⟩);go_ret;exact⟨U,U⟩
def xK:Nat->Nat->List UInt8->List UInt8
 |0,_,acc=>acc
 |k+1,n,acc=>xK k (n/16)<|pL (n%16)::acc
def acv:∀(k:Nat) (a:List UInt8),xK k 0 a=ā k 48++a
 |0,_=>rfl
 |k+1,a=>by rw[xK,acv k,List.replicate_succ'];simp[show pL 0=48 by rfl]
def acw:∀(k n:Nat) (a:List UInt8),n<16^k->0<k->xK k n a=ā (k+a.length-(rW k n a).length) 48++rW k n a/\(rW k n a).length<=k+a.length
 |k+1,n,a,h,_=>by
  rw[xK];unfold rW;split
  .rename_i f;rw[show n/16=0 by omega,show n%16=n by omega,acv];simp;omega
  .have b:n/16<16^k:=by rw[ŭ]at h;omega
   have c:0<k:=by
    rcases ģ k with rfl|q
    .simp at b;omega
    .exact q
   let⟨d,e⟩:=acw k (n/16) (pL (n%16)::a) b c;rw[d];simp only[List.length_cons]at e|-;exact⟨by rw[show k+(a.length+1)=k+1+a.length by omega],Z⟩
theorem arP(h:k<=16):(xy k).data.toList=ā k 48:=by unfold xy;rw[ŋ,ŗ,ŀ];show((ā 64 48).drop 0).take (k-0)=_;grind
def arQ(h:n<18446744073709551616):Dq n=⟨(xK 16 n []).toArray⟩:=by
 let⟨a,c⟩:=acw 16 n [] h A;have b:(mE n).size=(rW 16 n []).length:=by unfold mE;exact Ů
 unfold Dq;refine Ĉ<|aF ?_;rw[ē,Ş,arP Z,b,a];simp[mE]
def arR:(ñ 16).map uC=(ñ 16).map λd=>⟨#[pL d]⟩:=fx
def UY(h:i<16):uC i=⟨#[pL i]⟩:=by have:=congrArg (λl=>l[i]?) arR;simpa[h]using this
def arS(n:Nat)(j:n<18446744073709551616)(w:Þ):ì Á 88 #[Â Ý n] w λe o=>e=Ñ (Ê<|Dq n)/\o=w:=by
 rw[arQ j];generalize p:xK 16 n []=r;go_enter Tryz.func88,Tryz.ntmps88;go_wp2;go_loop [0,3,4] (λa b c=>∃(k i:Nat) (s:ByteArray),k<18446744073709551616/\i<=16/\s.size=i/\xK (16-i) k s.data.toList=r/\a=Â Ý k/\b=Ê s/\c=Â Ä i) λ_ _ c=>16-(ï c).toNat
 case atStart=>exact⟨n,0,⟨#[]⟩,j,Z,U,p,U,U,U⟩
 case round=>
  obtain⟨k,i,s,x,y,l,f,rfl,rfl,rfl⟩:=hrel;by_cases t:i<16
  .have z:(k:Int).tmod 16=((k%16:Nat):Int):=by rw[Ā Z];omega
   have B:(k:Int).tdiv 16=((k/16:Nat):Int):=by rw[ĺ Z];omega
   rw[show 16-i=(16-(i+1))+1 by omega,xK]at f;have h:k%16<16:=Z
   have u:k/16<18446744073709551616:=Z
   have e:(uC (k%16)++s).data.toList=pL (k%16)::s.data.toList:=by rw[UY h,ē,Ş];rfl
   have m:(uC (k%16)++s).size=i+1:=by rw[ä,UY h,l];show 1+i=i+1;omega
   rw[<-e]at f;have v:s.size<=20:=Z
   have g:=eZ<|À f m;clear f e m l;generalize k%16=d at*;generalize k/16=q at*;let⟨_,_,_,_,_,_,_⟩:=UX h A v;go_wp2;go_round
   case rel=>exact⟨q,i+1,_,u,t,g.out.2,g.out.1,U,U,by go_num⟩
   case measure=>simp[ï];omega
  .have:s=⟨r.toArray⟩:=by
    rw[show 16-i=0 by omega,xK]at f;rw[<-f]
   have g:=eZ this;clear this f;go_wp2;go_ret;exact⟨by rw[g.out];rfl,U⟩
def oe(s:St)(i:Nat):Í:=if i<8 then rM (s i).ft else if i<16 then Ê (s<|i-8).C else rM ((s<|(i-16)/16).r<|(i-16)%16)
def iH(s:St):List Í:=(ñ 144).map<|oe s
def mW(s:St):(iH s).length=144:=by simp[iH]
def zx(s:St)(h:i<144):(iH s)[i]?=Ã (oe s i):=by simp[iH,ĝ h]
def ie(T:ğ)(v:Í)(n:Nat)(c:List Í)(w:Þ):Prop:=∃p a,v=Ç p n a/\n<=a/\∀j x,c[j]?=Ã x->∃b o,p=Ã ⟨b,o,Å⟩/\(∃d e,w.heap[b]?=Ã (Ó d T e))/\w.cell? ⟨b,o+j,Å⟩=Ã x
def ie.I(h:ie T v n l w)(k:fc X w u)(i:∀b a c,X b->w.heap[b]?≠Ã (Ó a T c)):ie T v n l u:=by let⟨p,m,e,q,r⟩:=h;refine⟨p,m,e,q,λj x s=> ?_⟩;let⟨b,o,t,⟨a,c,d⟩,f⟩:=r j x s;have g:¬X b:=λz=>i b a c z d;exact⟨b,o,t,⟨a,c,by rwa[k.N b (World.block_lt_of_cell? w _ f) g]⟩,k.r f g⟩
def ie.fE{w':Þ}(h:ie T v n l w)(k:fc fh w w'):ie T v n l w':=h.I k λ_ _ _=>é
def ie.r{T T2:TypeId}{n fb:Nat}{v:Value}{cells vs:List Value}{w w':World}(h:ie T v n cells w)(k:fc (λk=>k=fb) w w')(hB:fq fb vs T2 w)(ht:T≠T2:=by decide):ie T v n cells w':=h.I k λb cs fz e q=>by subst e;rw[hB]at q;cases q;exact ht U
def ie.C(T:ğ)(w:Þ):ie T (Ç Å 0 0) 0 [] w:=⟨Å,0,U,Ù _,λ_ _ h=>by cases h⟩
structure MK(w0:Þ)(T:ğ)(z:Nat)(v:Í)(n:Nat)(xs:List Í)(w:Þ):Prop where
 fg:w.ownsRow w0.heap.size T z v n xs
 r:fc fh w0 w
section
variable{w0:Þ}{z:Nat}{xs:List Í}
def MK.C{T:ğ}{z:Nat}(w0:Þ):MK w0 T z (Ç Å 0 0) 0 [] w0:=⟨ò _ _ _ _,fc.fV _ _⟩
def MK.fE(h:MK w0 T z v n xs w)(k:fc fh w u):MK w0 T z v n xs u:=⟨im h.fg k λ_ _=>id,h.r.fj k⟩
def MK.BQ(h:MK w0 T z v n xs w)(a:nX w w0.heap.size T z v n xs m l x u):MK w0 T z x (n+m) (xs++l) u:= ⟨a.fg,h.r.C a.r λi b q=>by have:=(h.fg.lt i q).1;omega⟩
def MK.I(h:MK w0 T z v n xs w):ie T v n xs w:=by
 obtain⟨a,i,rfl⟩:=jv h.fg;rcases h.fg.2 with⟨b,c⟩|⟨g,k,l,b,c,d,e,_⟩
 .cases b;have:=h.fg.1;rw[ķ]at this;rw[ú this];exact ie.C _ _
 .cases b;refine⟨_,_,U,e,λj x f=>⟨g,0,U,⟨_,_,d⟩,?_⟩⟩;have:=h.fg.cells (g:=g) U j x f;rwa[Ō]at this
def UZ{m:Array Ī}{p:List Ī}{bytes:Nat}{x:ĵ}{ad:ŝ}(r:(Á.info? T).map (λi=>(i.zero,i.size,i.bytes))=Ã (Ã jQ,z,bytes))(B:Á.underlying t=Ã (.slice T))(g:MK w0 T z v n xs w)(C:n<1000000)(k:(lA T||decide (10000<bytes))=È) (h:∀d e f,MK w0 T z (Ç d (n+1) e) (n+1) (xs++l) f->Ť Á m vJ p (y.put o.dst<|Ç d (n+1) e) f) (D:∀j u,l[j]?=Ã u->w.cell? (ad.add j)=Ã u) (E:∀u∈l,u.oneCell'=Ë) (F:o.guard=Å) (G:o.op=.call {callee:=.builtin .append,args:=#[qQ,x],argTypes:=#[t,t]}) (H:jQ.cells.size=z) (I:y.eval qQ=v) (J:y.eval x=Ç (Ã ad) 1 b) (O:l.length=z):Ť Á m vJ (o::p) y w:=by let⟨P,K,L,M,N⟩:=Ĥ r;simp only[Bool.or_eq_false_iff,decide_eq_false_iff_not]at k;refine xp F qQ x t G B K L M N H I g.fg ad l J ż Z D E (by unfold ď;omega) (Õ (Μ (show n+1<=1000000 from C)<|Nat.not_lt.1 k.2) A) g.r.M (λS f q=> ?_)<|É k.1;obtain⟨d,e,rfl⟩:=jv q.fg;exact h d e f<|g.BQ q
end
end Go.Proofs.Y.gu
namespace Go.Proofs.Y.gu
open Go Go.Proofs Go.RowKit Go.Proofs.Y.Lift Go.Proofs.Y.iV
def NU(s t:ByteArray):ByteArray:=if s=⟨#[]⟩then t else(s++⟨#[44]⟩)++t
def jC(a:List ByteArray):ByteArray:=lk ⟨#[44]⟩ a
def acy{r:List ByteArray}(h:0<B.size):jC (B::r)≠⟨#[]⟩:=λe=>by
 have:=congrArg aU e;have a:(jC<|B::r).size=B.size+(mS ⟨#[44]⟩ r).length:=by show((B.data.toList++mS _ r).toArray).size=_;simp only[Ů,à,ċ];rfl
 rw[a]at this;have:B.size+(mS ⟨#[44]⟩ r).length=0:=this;omega
def U0(h:∀x∈vX,0<x.size)(y:ByteArray):NU (jC vX) y=jC (vX++[y]):=by
 unfold NU;cases vX with
 |nil=>rw[if_pos (show jC []=⟨#[]⟩from U)];exact Ĉ<|by simp[jC,lk,Jl,mS]
 |cons x r=>
  rw[if_neg<|acy<|h x fp];refine Ĉ<|aF ?_;simp[jC,lk,Jl,mS,ē]
def acz(h:∀x∈vX,0<x.size):(if jC vX=⟨#[]⟩then⟨#[45]⟩else jC vX)=vS vX:=by
 unfold vS;cases vX with
 |nil=>rfl
 |cons x r=>rw[if_neg<|acy<|h x fp,if_neg fp];rfl
def U1{M:Nat}(a:∀z∈vX,z.size<=M)(b:M<=100)(c:vX.length<=400000):(jC vX).size<=100000000:=by have d:=Ui ⟨#[44]⟩ U vX;have e:=Jm vX a;have:M*vX.length<=100*400000:=Μ b c;unfold jC;omega
def FX(h:i<8):(lh i).size=1:=by unfold lh;rw[ō];show min (i+1) 8-i=1;omega
def acA{e:Nat×Int}(h:e.1<8):0<(mj e).size:=by unfold mj;rw[ä,FX h];omega
def arT{a:List (Nat×Int)}(h:ie 236 (Ç O n b) a.length (oI a) w)(Q:a.length<=400000)(l:xt a):ì Á 91 #[Ç O n b] w λe S=>e=Ñ (Ê<|jC<|a.map mj)/\∃m,S=w.drewN m:=by
 let⟨_,_,e,_,u⟩:=h;cases e;have v:∀j,∀z∈(a.take j).map mj,z.size<=21/\0<z.size:=λj z T=>by obtain⟨e,V,rfl⟩:=ù.1 T;have:=l e<|į V;exact⟨Ua this.2,acA this.1⟩
 have d:=eZ<|À u<|À v l;obtain⟨N,o⟩:∃N,a.length=N:=⟨_,U⟩;have B:=eZ o;clear u v l;rw[o]at Q|-;clear o;go_enter Tryz.func91,Tryz.ntmps91;go_wp2;go_loopw [3,4] (λs i r=>∃j m:Nat,j<=N/\i=Â Ä j/\s=Ê (jC<|(a.take j).map mj)/\r=w.drewN m) λ_ i _=>N-(ï i).toNat
 case atStart=>exact⟨0,0,Û _,U,U,U⟩
 case round=>
  obtain⟨j,m,hj,rfl,rfl,f⟩:=hrel;by_cases W:j<N
  .obtain⟨⟨y,z⟩,g⟩:∃y,a[j]?=Ã y:=⟨_,Î<|by rw[B.out];omega⟩;let⟨t,k⟩:=d.out.2.2 _<|â g;simp only at t k;obtain⟨c,rfl⟩:∃c:Nat,z=c:=⟨z.toNat,by have:=k.1;omega⟩;let⟨g0,C⟩:=Jj (λO:Nat×Int=>Â Ä O.1) (λO=>Â Ý O.2) a j _ g;obtain⟨D,E,rfl,_,F⟩:=d.out.1 (j*2) _ g0;let⟨sb2,so2,X,_,G⟩:=d.out.1 (j*2+1) _ C;cases X;have H:(a.take<|j+1).map mj=(a.take j).map mj++[lh y++iM c]:=by rw[ê,g];simp[mj]
   have I:NU (jC<|(a.take j).map mj) (lh y++iM c)=jC ((a.take<|j+1).map mj):=by rw[H];exact U0 (λx q=>(d.out.2.1 j x q).2) _
   have J:=U1 (M:=21) (λx q=>(d.out.2.1 j x q).1) Z (by simp;omega);have K:=uB c (by have:=k.2;omega);have L:=FX t;have P:=eZ<|À I<|À J<|À K L;have k1:¬9223372036854775807<(lh y).size+(iM c).size:=Z
   clear H I g g0 C J K L;have c0:r.cell? ⟨D,E+j*2,Å⟩=Ã (Â Ä y):=by rwa[f]
   have c1:r.cell? ⟨D,E+j*2+1,Å⟩=Ã (Â Ý c):=by rwa[f]
   have Y:=eZ f;clear F G f;generalize jC ((a.take j).map mj)=s at*;go_wp2;go_quiet ((first
    |(go_at_call 143;exact è<|NS _ t _)
    |(go_at_call 85;exact è<|FW _ (by have:=k.2;omega) _)
    |(go_at_call 142;exact è (UU _ _ (by rw[ä];have:=P.out.2;omega) _))))
   go_wp2;go_roundw
   case rel=>exact⟨j+1,m+_,W,by go_num,by rw[<-P.out.1];rfl,by rw[Y.out,ó]⟩
   case measure=>simp[ï];omega
  .obtain rfl:j=N:=Z
   rw[(á<|by rw[B.out];omega)];go_wp2;go_ret;exact⟨U,m,U⟩
def zy(v:fM)(a b c:Í):List Í:=iH v.s++[Â Ä v.h,a,b,c]
def lX(v:fM)(a b c:Í):(zy v a b c).length=148:=by simp[zy,mW]
def r8{v:fM}{a:Í}(j:Nat)(h:[Â Ä v.h,z,jQ,a][j]?=Ã x):(zy v z jQ a)[144+j]?=Ã x:=by unfold zy;rw[å (by rw[mW];omega),mW,ŉ];exact h
def uK(us:List (Int×Bool)):List Í:=us.map λe=>Â Ä e.1
def uL(us:List (Int×Bool)):List Í:=us.map λe=>í e.2
def arU{v:fM}{G H:Í}(l:ie 3 H v.r.length (uK v.r) w)(a:ie 4 G v.r.length (uL v.r) w)(hn:v.r.length<=1000)(t:A4 v.r):ì Á 92 #[ÿ (zy v jQ G H).toArray] w λe I=>e=Ñ (Ê<|vS<|v.r.map ml)/\fc fh w I:=by
 obtain⟨n,o,rfl,_,l⟩:=l;obtain⟨p,r,rfl,_,a⟩:=a;have u:=fq.N w (zy v jQ (Ç p v.r.length r)<|Ç n v.r.length o) 126;have B:=u.r 146 _<|r8 2 U;have D:=u.r 147 _<|r8 3 U;have J:=fc.iw fh w (zy v jQ (Ç p v.r.length r)<|Ç n v.r.length o).toArray 126;have K:∀j,∀z∈(v.r.take j).map ml,z.size<=41/\0<z.size:=λj z hz=>by obtain⟨e,he,rfl⟩:=ù.1 hz;have:=t e<|į he;exact⟨Ub this.1 this.2,by unfold ml;simp only[ä];show 0<_+1+_;omega⟩
 have d:=eZ<|À l<|À a<|À K<|À t J;clear l a K t J u;generalize(zy v jQ (Ç p v.r.length r)<|Ç n v.r.length o)=cs at*;generalize v.r=us at*;obtain⟨N,E⟩:∃N,us.length=N:=⟨_,U⟩;have L:=eZ E;rw[E]at hn B D;clear E;go_enter Tryz.func92,Tryz.ntmps92;go_wp2_with (with_reducible refine Ø U (Ã 1) U _ _ (sW U U) ?_);generalize w.alloc (Ó cs.toArray 126)=wa at*;generalize w.heap.size=vb at*;go_loopw [3,4] (λs i f=>∃j m:Nat,j<=N/\i=Â Ä j/\s=Ê (jC<|(us.take j).map ml)/\f=wa.drewN m) λ_ i _=>N-(ï i).toNat
 case atStart=>exact⟨0,0,Û _,U,U,U⟩
 case round=>
  obtain⟨j,m,hj,rfl,rfl,a⟩:=hrel;have d2:f.cell? ⟨vb,146,Å⟩=Ã (Ç p N r):=by rwa[a]
  have d3:f.cell? ⟨vb,147,Å⟩=Ã (Ç n N o):=by rwa[a]
  have F:=eZ (show fc fh w f by rw[a];exact d.out.2.2.2.2.fj<|fc.jh _ _ _);have HX:=eZ a;clear B D a;by_cases gE:j<N
  .obtain⟨⟨g,b⟩,k⟩:∃y,us[j]?=Ã y:=⟨_,Î<|by rw[L.out];omega⟩;let⟨o1,o2⟩:=d.out.2.2.2.1 _<|â k;simp only at o1 o2;obtain⟨c,rfl⟩:∃c:Nat,g=c:=⟨g.toNat,Z⟩;obtain⟨sb,so,rfl,_,O⟩:=d.out.1 j (Â Ä c) (by simp[uK,k]);obtain⟨vb2,vo2,rfl,_,P⟩:=d.out.2.1 j (í b) (by simp[uL,k]);have h:(us.take<|j+1).map ml=(us.take j).map ml++[(iM b.toNat++⟨#[58]⟩)++iM c]:=by rw[ê,k];simp[ml]
   have Q:NU (jC<|(us.take j).map ml) ((iM b.toNat++⟨#[58]⟩)++iM c)=jC ((us.take<|j+1).map ml):=by rw[h];exact U0 (λx q=>(d.out.2.2.1 j x q).2) _
   have S:=U1 (M:=41) (λx q=>(d.out.2.2.1 j x q).1) Z (by simp;omega);have T:=uB c Z;have V:=uB b.toNat (by cases b<;>decide);have W:(iM b.toNat++⟨#[58]⟩:ByteArray).size=(iM b.toNat).size+1:=by rw[ä];rfl
   have X:=eZ<|À Q<|À S<|À T<|À V W;have k1:¬9223372036854775807<(iM b.toNat).size+1:=Z
   have k2:¬9223372036854775807<(iM b.toNat).size+1+(iM c).size:=Z
   have c0:=F.out.r O id;have c1:=F.out.r P id;have w0:Ý.wrap (c:Int)=c:=AW Z Z;have C:=λm=>arN b<|f.drewN m;rw[show AV b=((b.toNat:Nat):Int) by cases b<;>rfl]at C;have Y:b.toNat<18446744073709551616:=by cases b<;>decide
   have HB:=eZ<|À C Y;clear h Q k S T V W O P C Y;generalize jC ((us.take j).map ml)=s at*;generalize b.toNat=bn at*;go_wp2;go_quiet ((first
    |(go_at_call 144;exact è<|HB.out.1 _)
    |(go_at_call 85;exact è<|FW _ (by first|exact HB.out.2|omega) _)
    |(go_at_call 142;exact è (UU _ _ (by rw[ä];have:=X.out.2;omega) _))))
   go_wp2;go_roundw
   case rel=>exact⟨j+1,m+_,gE,by go_num,by rw[<-X.out.1];rfl,by rw[HX.out,ó]⟩
   case measure=>simp[ï];omega
  .obtain rfl:j=N:=Z
   have h:us.take j=us:=á (by rw[L.out];omega);have hd:(if jC (us.map ml)=⟨#[]⟩then⟨#[45]⟩else jC (us.map ml))=vS (us.map ml):=acz λx q=>(d.out.2.2.1 j x<|by rwa[h]).2;have C:=aco (jC<|us.map ml) f;rw[hd]at C;rw[h];clear hd h;go_wp2_with (go_at_call 90;apply C.mono;rintro e I ⟨rfl,rfl⟩);go_ret;exact⟨U,F.out⟩
section
variable{s t:St}
def P2(n:Nat)(a:List ByteArray):Prop:=a.length<=n/\∀x∈a,x.size=2
def P2.r{a:List ByteArray}(h:P2 n vX)(k:P2 m a):P2 (n+m) (vX++a):=⟨by rw[à];have:=h.1;have:=k.1;omega,λx q=>(ý.1 q).elim (h.2 x)<|k.2 x⟩
def acB(h:i<8){z:ByteArray}(a:z.size=1):P2 1 [lh i++z]:=⟨Ù _,λx q=>by rw[î.1 q,ä,FX h,a]⟩
def U2(n:Nat):P2 n []:=⟨Û _,λ_ q=>by cases q⟩
def U3{c:Prop}[Decidable c](h:i<8){z:ByteArray}(a:z.size=1):P2 1 (if c then[]else[lh i++z]):=by
 split
 .exact U2 1
 .exact acB h a
def acC(h:k<16):(uC k).size=1:=by rw[UY h];rfl
def U4(h:i<8):∀k,k<=16->P2 k (n8 s t i k)
 |0,_=>U2 0
 |k+1,hk=>by rw[Nh];exact(U4 h k Z).r<|U3 h<|acC Z
def acD(h:i<8)(x y:Int)(p q:ByteArray):P2 2 (mR x y p q i):=(U3 h (z:=⟨#[36]⟩) U).r<|U3 h (z:=⟨#[123]⟩) U
def acE(i:Nat):lj s t (i+1)=lj s t i++xx s t i:=by unfold lj;rw[List.range_succ,List.flatMap_append];simp
def U5:∀i,i<=8->P2 (18*i) (lj s t i)
 |0,_=>U2 0
 |i+1,h=>by rw[acE];exact(U5 i Z).r<|(acD Z _ _ _ _).r<|U4 Z 16<|Ù _
def P2.lst(h:P2 n vX)(b:n<=1000)(y:ByteArray)(c:y.size=2)(w:Þ):ì Á 142 #[Ê<|jC vX,Ê y] w λe a=>e=Ñ (Ê<|jC<|vX++[y])/\a=w:=by have d:=U1 (M:=2) (λx q=>Nat.le_of_eq<|h.2 x q) Z (by have:=h.1;omega);have:=UU (jC vX) y Z w;rwa[show(if jC vX=⟨#[]⟩then y else(jC vX++⟨#[44]⟩)++y)=jC (vX++[y])from U0 (λx q=>by rw[h.2 x q];decide) y]at this
def acG{w:Þ}(h:ì Á F d (w.drewN<|m+n) λe a=>e=Ñ v/\a=w.drewN (m+n)):ì Á F d (w.drewN<|m+n) λe b=>e=Ñ v/\∃n,b=w.drewN (m+n):=h.mono λ_ _ q=>⟨q.1,n,q.2⟩
def P2.C(h:P2 n vX)(a:n<=1000)(b:i<8)(z:ByteArray)(c:z.size=1)(w:Þ):ì Á 142 #[Ê<|jC vX,Ê<|lh i++z] w λe d=>e=Ñ (Ê<|jC<|vX++[lh i++z])/\d=w:=h.lst a _ (by rw[ä,FX b,c]) w
def acH(h:i<8)(z:ByteArray)(a:z.size=1):¬9223372036854775807<(lh i).size+z.size:=by rw[FX h,a];decide
def FY(h:i<8):oe s i=Â Ý (s i).ft:=if_pos h
theorem NV(h:i<8):oe s (8+i)=Ê (s i).C:=by unfold oe;grind
def NW(h:k<16):oe s (16+i*16+k)=Â Ý ((s i).r k):=by unfold oe;rw[if_neg Z,if_neg Z,show(16+i*16+k-16)/16=i by omega,show(16+i*16+k-16)%16=k by omega];rfl
def arV:ì Á 93 #[ÿ (iH s).toArray,ÿ (iH t).toArray] w λe f=>e=Ñ (Ê<|jC<|lj s t 8)/\fc fh w f:=by
 have J:=fq.N w (iH s) 121;have v:=fq.N (w.alloc<|Ó (iH s).toArray 121) (iH t) 121;have K:=fc.iw fh w (iH s).toArray 121;have y:=fc.iw fh (w.alloc<|Ó (iH s).toArray 121) (iH t).toArray 121;have L:(w.alloc<|Ó (iH s).toArray 121).heap.size=w.heap.size+1:=fp
 rw[L]at v;have B:=eZ<|À (J.C y id)<|À v<|K.fj y;clear J v K y L;go_enter Tryz.func93,Tryz.ntmps93;go_wp2_with (first
  |(with_reducible refine Ø U (Ã 2) U _ _ (sW U U) ?_)
  |(with_reducible refine Ø U (Ã 3) U _ _ (sW U U) ?_))
 generalize(w.alloc<|Ó (iH s).toArray 121).alloc (Ó (iH t).toArray 121)=wa at*;generalize w.heap.size=vb at*;go_loopw [5,6] (λx i l=>∃j m:Nat,j<=8/\i=Â Ä j/\x=Ê (jC<|lj s t j)/\l=wa.drewN m) λ_ i _=>8-(ï i).toNat
 case atStart=>exact⟨0,0,Û _,U,U,U⟩
 case round=>
  obtain⟨j,m,hj,rfl,rfl,D⟩:=hrel;obtain⟨b,rfl⟩:∃b,b=l:=⟨_,U⟩;have HW:=eZ D;by_cases a:j<8
  .have o:∀i,i<144->b.cell? ⟨vb,i,Å⟩=Ã (oe s i)/\b.cell? ⟨vb+1,i,Å⟩=Ã (oe t i):=λi M=>by
    rw[D];exact⟨B.out.1.r i _<|zx s M,B.out.2.1.r i _<|zx t M⟩
   let⟨b1,b2⟩:=o j Z;let⟨q1,q2⟩:=o (8+j) Z;rw[FY a]at b1 b2;rw[NV a]at q1 q2;have N:∀k,k<16->b.cell? ⟨vb,16+j*16+k,Å⟩=Ã (Â Ý<|(s j).r k)/\b.cell? ⟨vb+1,16+j*16+k,Å⟩=Ã (Â Ý<|(t j).r k):=λk p=>by have:=o (16+j*16+k) Z;rwa[NW p,NW p]at this
   have O:=U5 (s:=s) (t:=t) j hj;have g:=eZ<|À N O;clear o N O D;have a1:=acH a ⟨#[36]⟩ U;have a2:=acH a ⟨#[123]⟩ U;generalize P:(s j).ft=x1 at*;generalize Q:(t j).ft=x2 at*;generalize S:(s j).C=y1 at*;generalize T:(t j).C=y2 at*;have HH:=eZ (show lj s t (j+1)=lj s t j++mR x1 x2 y1 y2 j++n8 s t j 16 by rw[acE,xx,P,Q,S,T,List.append_assoc]);clear P Q S T;by_cases q:x1=x2;all_goals by_cases r:y1.toList=y2.toList
   all_goals
    first
     |(have d1:(x1==x2)=Ë:=beq_iff_eq.2 q)
     |(have d1:(x1==x2)=È:=beq_eq_false_iff_ne.2 q)
    first
     |(have d2:(y1.toList==y2.toList)=Ë:=beq_iff_eq.2 r)
     |(have d2:(y1.toList==y2.toList)=È:=beq_eq_false_iff_ne.2 r)
    have V:=eZ<|À q r;clear q r;go_wp2;go_quiet (fail);go_wp2_with (first
     |(go_at_call 143;refine(NS _ a _).mono ?_;rintro e f ⟨rfl,rfl⟩)
     |(go_at_call 142;refine Ú (P2.C g.out.2 Z a ⟨#[36]⟩ U _) ?_;rintro e f ⟨rfl,rfl⟩))
    go_quiet (fail)
    go_wp2_with (first
     |(go_at_call 143;refine(NS _ a _).mono ?_;rintro e f ⟨rfl,rfl⟩)
     |(go_at_call 142;(first|with_reducible refine Ú (P2.C g.out.2 Z a ⟨#[123]⟩ U _) ?_|refine Ú (P2.C (g.out.2.r (acB a (z:=⟨#[36]⟩) U)) Z a ⟨#[123]⟩ U _) ?_);rintro e f ⟨rfl,rfl⟩))
    go_loopw [5,7] (λx i wq=>∃k n:Nat,k<=16/\i=Â Ä k/\x=Ê (jC<|lj s t j++mR x1 x2 y1 y2 j++n8 s t j k)/\wq=b.drewN n) λ_ i _=>16-(ï i).toNat
    case atStart=>exact⟨0,_,Û _,U,by simp[mR,n8,V.out.1,V.out.2],by first|rfl|exact ó _ _ _⟩
    case round=>
     obtain⟨k,n,p,rfl,rfl,h⟩:=hrel;have X:=eZ h;by_cases u:k<16
     .let⟨E,F⟩:=g.out.1 k u;have c1:l.cell? ⟨vb,16+j*16+k,Å⟩=Ã (Â Ý<|(s j).r k):=by rwa[h]
      have c2:l.cell? ⟨vb+1,16+j*16+k,Å⟩=Ã (Â Ý<|(t j).r k):=by rwa[h]
      have G:=(g.out.2.r<|acD a x1 x2 y1 y2).r<|U4 (s:=s) (t:=t) a k p;have c:=Nh s t j k;unfold Dp at c;have Y:=acC u;generalize(s j).r k=z1 at*;generalize(t j).r k=z2 at*;have r0:(0:Int)<=k:=Z
      have r1:Ä.wrap ((k:Int)+1)=(k:Int)+1:=IntWalk.i64_in _ ⟨Z,Z⟩;have r2:(k:Int)<=(k:Int)+1:=Z
      have r3:(k:Int)+1<=16:=Z
      have r4:(0:Int)<=(k:Int)+1:=Z
      have r5:((k:Int)+1).toNat=k+1:=Z
      have a3:¬9223372036854775807<(lh j).size+(min (k+1) 16-k):=by rw[FX a];omega
      by_cases d:z1=z2
      .rw[if_pos d,Ü]at c;have d3:(z1==z2)=Ë:=beq_iff_eq.2 d;have H:=eZ c;clear c d E F G h;go_wp2;go_quiet (fail);go_wp2;go_roundw
       case rel=>exact⟨k+1,n+_,u,by go_num,by rw[H.out],by rw[X.out,ó]⟩
       case measure=>simp[ï];omega
      .rw[if_neg d]at c;have d3:(z1==z2)=È:=beq_eq_false_iff_ne.2 d;have C:=λW=>P2.C G Z a (uC k) Y W;rw[show lj s t j++mR x1 x2 y1 y2 j++n8 s t j k++[lh j++uC k]=lj s t j++mR x1 x2 y1 y2 j++n8 s t j (k+1) by rw[c];simp]at C;obtain⟨js',I⟩:∃x,jC (lj s t j++mR x1 x2 y1 y2 j++n8 s t j (k+1))=x:=⟨_,U⟩;rw[I]at C;have H:=eZ I;clear c d E F G h Y I;generalize jC (lj s t j++mR x1 x2 y1 y2 j++n8 s t j k)=js at C|-;unfold uC at C;have HC:=eZ C;clear C;go_wp2;go_quiet (fail);go_wp2;go_quiet ((first
        |(go_at_call 143;exact acG<|NS _ a _)
        |(go_at_call 142;exact acG (HC.out _))))
       go_wp2;go_roundw
       case rel=>exact⟨k+1,n+_,u,by go_num,by rw[H.out],by rw[X.out,ó]⟩
       case measure=>simp[ï];omega
     .obtain rfl:k=16:=Z
      go_wp2;go_roundw
      case rel=>exact⟨j+1,m+n,a,by go_num,by rw[HH.out],by rw[HW.out,ó]⟩
      case measure=>simp[ï];omega
  .obtain rfl:j=8:=Z
   go_wp2;go_ret;exact⟨U,B.out.2.2.fj<|fc.jh _ _ _⟩
end
def arW(l:List Nat):(oK l).length=l.length/2:=by simp[oK]
def arX{l:List Nat}{t:Nat}(h:t<l.length/2):jw ((oK l).take<|t+1)=jw ((oK l).take t)++[Â Ý<|pr l t]:=by rw[ê];simp[jw,oK,ĝ h]
theorem U6{l:List Nat}(h:ie 36 (Ç O n i) l.length (jw l) w)(a:j<l.length):∃b o,O=Ã ⟨b,o,Å⟩/\w.cell? ⟨b,o+j,Å⟩=Ã (Â Ý<|l.getD j 0):=by let⟨_,_,e,_,c⟩:=h;cases e;let⟨b,o,d,_,f⟩:=c j (Â Ý<|l.getD j 0) (by simp[jw,Č,a]);grind
def acI{l:List Nat}(k:Nat)(h:ie 36 (Ç O n m) l.length (jw l) w)(g:l.length=2^k)(I:k<=4)(D:vO l):ì Á 140 #[Ç O n m] w λe u=>e=Ñ (Â Ý<|oL k l)/\fc fh w u:=by
 obtain rfl:n=l.length:=by let⟨_,_,e,_⟩:=h;cases e;rfl
 generalize E:oL k l=r;go_enter Tryz.func140,Tryz.ntmps140;go_wp2;go_loopw [0] (λv s=>∃(k:Nat) (l:List Nat) (O:Option ŝ) (m:Nat),v=Ç O l.length m/\ie 36 (Ç O l.length m) l.length (jw l) s/\l.length=2^k/\k<=4/\vO l/\oL k l=r/\fc fh w s) (λv _=>match v with|Ç _ n _=>n|_=>0)
 case atStart=>exact⟨k,l,O,m,U,h,g,I,D,E,fc.fV _ _⟩
 case round=>
  clear h g I D E;obtain⟨k,l,O,m,rfl,h,g,I,D,E,P⟩:=hrel;obtain⟨N,J⟩:∃N,l.length=N:=⟨_,U⟩;have H:=eZ<|À h<|À D<|À E<|À P J;rw[J]at g|-;clear h D E P J;cases k with
  |zero=>
   obtain rfl:N=1:=g;obtain⟨b,o,rfl,B⟩:=U6 (j:=0) H.out.1 (by rw[H.out.2.2.2.2];decide);rw[show l.getD 0 0=r from H.out.2.2.1]at B;have Xo:s.cell? ⟨b,o,Å⟩=Ã (Â Ý r):=B;clear B;go_wp2;go_ret;exact⟨U,H.out.2.2.2.1⟩
  |succ k=>
   have Q:N=2*2^k:=by rw[g,ŭ];omega
   have h3:0<2^k:=Nat.two_pow_pos k;have h4:2^k<=8:=by
    have:k<=3:=Z
    exact Nat.pow_le_pow_right A this
   generalize S:2^k=M at*;have h5:(1:Int)<(N:Int):=Z
   have f:=eZ<|À Q S;clear g Q S;obtain⟨G,rfl⟩:∃G,G=s:=⟨_,U⟩;go_wp2;go_loopw [3,4] (λv i wq=>∃(t x:Nat) (q:Option ŝ) (c:Nat),t<=M/\x=2*t/\v=Ç q t c/\i=Â Ä x/\MK G 36 1 (Ç q t c) t (jw<|(oK l).take t) wq) λ_ i _=>2*M-(ï i).toNat
   case atStart=>exact⟨0,0,Å,0,Û _,U,U,U,MK.C G⟩
   case round=>
    obtain⟨t,x,q,c,ht,F,rfl,rfl,C⟩:=hrel;have T:=eZ F;have hx9:x<=16:=Z
    by_cases gE:t<M
    .have h6:(x:Int)+1<(N:Int):=by rw[f.out.1];omega
     obtain⟨b,o,rfl,B⟩:=U6 (j:=2*t) H.out.1 (by rw[H.out.2.2.2.2,f.out.1];omega);let⟨b',o',e,V⟩:=U6 (j:=2*t+1) H.out.1 (by rw[H.out.2.2.2.2,f.out.1];omega);cases e;have X:=H.out.2.1<|2*t;have Y:=H.out.2.1<|2*t+1;have hp:=arX (l:=l) (t:=t) (by rw[H.out.2.2.2.2,f.out.1];omega);have K:=λa=>JU 14695981039346656037 (l.getD (2*t) 0) A X a;have hlf:=A0<|l.getD (2*t) 0;have L:=λa=>JU (lf<|l.getD (2*t) 0) (l.getD (2*t+1) 0) hlf Y a;rw[show nz 14695981039346656037 (l.getD (2*t) 0)=lf (l.getD (2*t) 0)from U]at K;rw[show nz (lf<|l.getD (2*t) 0) (l.getD (2*t+1) 0)=pr l t from rfl]at L;have c1:s.cell? ⟨b,o+x,Å⟩=Ã (Â Ý<|l.getD (2*t) 0):=by rw[F];exact C.r.r B id
     have c2:s.cell? ⟨b,o+(x+1),Å⟩=Ã (Â Ý<|l.getD (2*t+1) 0):=by rw[F];exact C.r.r V id
     have d:=eZ<|À C hp;clear C hp B V X Y hlf F;generalize pr l t=z at*;generalize lf (l.getD (2*t) 0)=y at*;generalize l.getD (2*t) 0=a1 at*;generalize l.getD (2*t+1) 0=a2 at*;have HC:=eZ<|À K L;clear K L;go_wp2_with (first
      |(go_at_call 139;(first|with_reducible refine Ú (HC.out.1 _) ?_|with_reducible refine Ú (HC.out.2 _) ?_);rintro e u ⟨rfl,rfl⟩)
      |(at_builtin;refine UZ TG Ļ (d.out.1.fE kp) Z U ?_ (ů _ _ _) (by simp[ß]) U U U U U U;intro ta tc W hM1;have JX:=eZ hM1;clear hM1))
     go_roundw
     case rel=>exact⟨t+1,x+2,ta,tc,gE,by rw[T.out];omega,U,by go_num,by rw[d.out.2];exact JX.out⟩
     case measure=>simp[ï];have:=T.out;omega
    .obtain rfl:t=M:=Z
     have h6:decide ((x:Int)+1<(N:Int))=È:=by rw[f.out.1];simp;omega
     have hh:(oK l).length=t:=by rw[arW,H.out.2.2.2.2,f.out.1];omega
     have d:=eZ<|À C hh;clear C hh F;go_wp2;go_roundw
     case rel=>exact⟨k,oK l,q,c,by rw[d.out.2],by have:=d.out.1.I;rw[á (by rw[d.out.2];exact Ù _)]at this;rw[d.out.2];exact this,by rw[d.out.2];exact f.out.2.symm,Z,TQ l,H.out.2.2.1,H.out.2.2.2.1.fj d.out.1.r⟩
     case measure=>simp;have:=f.out.1;omega
def acJ{l:List Nat}(h:l[k]?=Ã i):jw (l.take<|k+1)=jw (l.take k)++[Â Ý i]:=by rw[ê,h];simp[jw]
def arY(z:Nat)(h:n<B.size):tb (qU z<|B.data.toList.take n) B[n].toNat=qU z (B.data.toList.take<|n+1):=by rw[ê,ī,ø (show n<B.data.size from h)];unfold qU;rw[ĥ,Ĩ,Η,Ξ,Ć]
def arZ(z:Nat):qU z []=z:=rfl
theorem ar0{s:St}(hf:iZ s):ì Á 89 #[ÿ (iH s).toArray] w λe u=>e=Ñ (Â Ý<|A2 s)/\fc fh w u:=by
 have hS:=fq.N w (iH s) 121;have k0:=fc.iw fh w (iH s).toArray 121;unfold A2 Jf;have hD:∀j,j<8->(pJ (λi=>A1<|s i) 8)[j]?=Ã (A1<|s j):=λj M=>by rw[TT _ _ _ M,if_pos M]
 have hlen:=FE (λi=>A1<|s i) 8;have vf:vO (pJ (λi=>A1<|s i) 8):=FC A λx N=>by
  obtain⟨t,G,rfl⟩:=ù.1 N;simp only;split
  .exact TU _ _ _
  .decide
 generalize pJ (λi=>A1<|s i) 8=L at*;have b:=eZ<|À hS<|À k0<|À hD<|À hlen<|À vf hf;clear hS k0 hD hlen vf hf;generalize hr:oL 3 L=r;have HR:=eZ hr;clear hr;go_enter Tryz.func89,Tryz.ntmps89;go_wp2_with (with_reducible refine Ø U (Ã 1) U _ _ (sW U U) ?_);generalize w.alloc (Ó (iH s).toArray 121)=wa at*;generalize w.heap.size=vb at*;go_loopw [3,4] (λv i O=>∃(j:Nat) (q:Option ŝ) (c:Nat),j<=8/\v=Ç q j c/\i=Â Ä j/\MK wa 36 1 (Ç q j c) j (jw<|L.take j) O) λ_ i _=>8-(ï i).toNat
 case atStart=>exact⟨0,Å,0,Û _,U,U,MK.C wa⟩
 case round=>
  obtain⟨j,q,c,M,rfl,rfl,g⟩:=hrel;obtain⟨B,rfl⟩:∃B,B=O:=⟨_,U⟩;have H:=eZ g;clear g;by_cases I:j<8
  .have J:∀i,i<144->B.cell? ⟨vb,i,Å⟩=Ã (oe s i):=λi hi=>H.out.r.r (b.out.1.r i _<|zx s hi) id;have Q:=J j Z;have q1:=J (8+j) Z;rw[FY I]at Q;rw[NV I]at q1;have sl:∀k,k<16->B.cell? ⟨vb,16+j*16+k,Å⟩=Ã (Â Ý (((s j).r k).toNat:Nat)):=λk o=>by
    have:=J (16+j*16+k) Z;rw[NW o]at this;rw[this];have:=(b.out.2.2.2.2.2.C j k).1;grind
   obtain⟨f,V⟩:∃f:Nat,(s j).ft=f:=⟨(s j).ft.toNat,by have:=(b.out.2.2.2.2.2.ft j).1;omega⟩;have ar1:f<18446744073709551616:=by have:=(b.out.2.2.2.2.2.ft j).2;omega
   have D:=b.out.2.2.1 j I;rw[show A1 (s j)=qU (nz (lf (s j).ft.toNat)<|oL 4<|n5 (vP<|s j) 16) (s j).C.data.toList from rfl,V,ô]at D;rw[V]at Q;have hSg:∀k,k<16->(n5 (vP<|s j) 16)[k]?=Ã (lf ((s j).r k).toNat):=λk o=>by rw[TS _ _ _ o,if_pos o];simp[vP,Č,ĝ o]
   have X:=FD (vP<|s j) 16;have Y:vO (n5 (vP<|s j) 16):=FC A λx N=>by
    obtain⟨t,G,rfl⟩:=ù.1 N;split
    .exact A0 _
    .decide
   have NY:∀k,((s j).r k).toNat<18446744073709551616:=λk=>by have h1:=(b.out.2.2.2.2.2.C j k).1;have h2:=(b.out.2.2.2.2.2.C j k).2;omega
   have auN:=(b.out.2.2.2.2.2.I j).1;generalize n5 (vP<|s j) 16=S at*;generalize(s j).C=P at*;have C0:=λa=>JU 14695981039346656037 f A ar1 a;rw[show nz 14695981039346656037 f=lf f from rfl]at C0;have C1:=λa=>JU (lf f) (oL 4 S) (A0 f) (Nb 4 S Y) a;have Da:=Dl (lf f) (oL 4 S)<|A0 f;generalize lf f=z0 at*;have CP:=λa p n cp (h:ie 36 (Ç p n cp) S.length (jw S) a)=>acI 4 h X A Y;generalize oL 4 S=T at*;generalize nz z0 T=z1 at*;have m:=eZ<|À sl<|À hSg<|À X<|À NY<|À C0<|À C1<|À CP<|À D Da;clear J sl hSg X Y NY C0 C1 CP D Da V;have ar2:(j:Int)<8:=Z
   have hd8:decide ((j:Int)<8)=Ë:=decide_eq_true ar2;go_wp2;try rw[hd8]
   go_loopw [5,6] (λv i wq=>∃(k:Nat) (q:Option ŝ) (c:Nat),k<=16/\v=Ç q k c/\i=Â Ä k/\MK B 36 1 (Ç q k c) k (jw<|S.take k) wq) λ_ i _=>16-(ï i).toNat
   case atStart=>exact⟨0,Å,0,Û _,U,U,MK.C B⟩
   case round=>
    obtain⟨k,q2,c2,o,rfl,rfl,g⟩:=hrel;by_cases U7:k<16
    .have d1:=g.r.r (m.out.1 k U7) id;have G:=acJ<|m.out.2.1 k U7;have C:=λa=>JU 14695981039346656037 ((s j).r k).toNat A (m.out.2.2.2.1 k) a;rw[show nz 14695981039346656037 ((s j).r k).toNat=lf ((s j).r k).toNat from rfl]at C;have E:=eZ<|À g G;clear g G;generalize lf ((s j).r k).toNat=y at*;generalize((s j).r k).toNat=a1 at*;have HK:=eZ C;clear C;go_wp2_with (first
      |(go_at_call 139;with_reducible refine Ú (HK.out _) ?_;rintro e u ⟨rfl,rfl⟩)
      |(at_builtin;refine UZ TG Ļ (E.out.1.fE kp) Z U ?_ (ů _ _ _) (by simp[ß]) U U U U U U;intro ta tc W F;have JX:=eZ F;clear F))
     go_roundw
     case rel=>exact⟨k+1,ta,tc,U7,U,by go_num,by rw[E.out.2];exact JX.out⟩
     case measure=>simp[ï];omega
    .obtain rfl:k=16:=Z
     have d1:=g.r.r Q id;have CQ:=m.out.2.2.2.2.2.2.1 O q2 16 c2 (by have:=g.I;rw[á (by rw[m.out.2.2.1];decide)]at this;rw[m.out.2.2.1];exact this);have E:=eZ<|À g CQ;clear g CQ;go_wp2_with (first
      |(go_at_call 139;(first|with_reducible refine Ú (m.out.2.2.2.2.1 _) ?_|with_reducible refine Ú (m.out.2.2.2.2.2.1 _) ?_);rintro e u ⟨rfl,hw⟩;subst u)
      |(go_at_call 140;refine Ú E.out.2 ?_;rintro e w5 ⟨rfl,hk5⟩;have d5:=(E.out.1.r.fj hk5).r q1 id;have H5:=eZ hk5;clear hk5))
     go_loop [8,9] (λd i=>∃k:Nat,k<=P.size/\i=Â Ä k/\d=Â Ý (qU z1<|P.data.toList.take k)) λ_ i=>P.size-(ï i).toNat
     case atStart=>exact⟨0,Û _,U,by rw[List.take_zero,arZ]⟩
     case round=>
      obtain⟨n,hn,rfl,rfl⟩:=hrel;by_cases FG:n<P.size
      .have K:=acr (qU z1<|P.data.toList.take n) P[n].toNat (aaF _ _ m.out.2.2.2.2.2.2.2.2) (by have:=P[n].toNat_lt;omega) w5;rw[arY z1 FG]at K;obtain⟨y',By⟩:∃y,qU z1 (P.data.toList.take<|n+1)=y:=⟨_,U⟩;rw[By]at K;have HY:=eZ<|À By K;clear By K;generalize qU z1 (P.data.toList.take n)=x at*;have xw:((P[n].toNat:Nat):Int)<256:=by have:=P[n].toNat_lt;omega
       have hcw:Ý.wrap ((P[n].toNat:Nat):Int)=((P[n].toNat:Nat):Int):=AW Z Z;go_wp2_with (go_at_call 141;with_reducible apply Ú HY.out.2;rintro e u ⟨rfl,hw⟩;subst u);go_round
       case rel=>exact⟨n+1,FG,by go_num,by rw[HY.out.1]⟩
       case measure=>simp[ï];omega
      .obtain rfl:n=P.size:=Z
       rw[(á<|by rw[ċ];exact Ù _)];have D:=acJ m.out.2.2.2.2.2.2.2.1;generalize qU z1 P.data.toList=z at*;have HZ:=eZ<|À D<|H.out.fE<|E.out.1.r.fj H5.out;clear D;go_wp2_with (at_builtin;refine UZ TG Ļ (HZ.out.2.fE kp) Z U ?_ (ů _ _ _) (by simp[ß]) U U U U U U;intro ta tc W F;have JX:=eZ F;clear F);go_roundw
       case rel=>exact⟨j+1,ta,tc,I,U,by go_num,by rw[HZ.out.1];exact JX.out⟩
       case measure=>simp[ï];omega
  .obtain rfl:j=8:=Z
   have C:=acI (l:=L) 3 (by have:=H.out.I;rw[á (by rw[b.out.2.2.2.1];decide)]at this;rw[b.out.2.2.2.1];exact this) b.out.2.2.2.1 A b.out.2.2.2.2.1;rw[HR.out]at C;go_wp2_with (go_at_call 140;apply Ú C;rintro e u ⟨rfl,o⟩);go_ret;exact⟨U,(b.out.2.1.fj H.out.r).fj o⟩
abbrev VR:=fM×Value×Value×Value
def gJ(p:VR):List Í:=zy p.1 p.2.1 p.2.2.1 p.2.2.2
def uM(a:List VR):List Í:=a.flatMap gJ
structure wj(p:VR)(w:Þ):Prop where
 C:ie 236 p.2.1 p.1.C.length (oI p.1.C) w
 I:ie 4 p.2.2.1 p.1.r.length (uL p.1.r) w
 r:ie 3 p.2.2.2 p.1.r.length (uK p.1.r) w
structure RA(y:Nat)(av:Í)(ps:List VR)(w:Þ):Prop where
 r:fq y [av] 81 w
 fg:w.ownsRow 0 126 148 av ps.length (uM ps)
 C:∀p∈ps,wj p w
section
variable{w':Þ}{y:Nat}{av:Í}{ps:List VR}
def wj.fE{p:VR}(h:wj p w)(k:fc fh w w'):wj p w':=⟨h.C.fE k,h.I.fE k,h.r.fE k⟩
def RA.fE(h:RA y av ps w)(k:fc fh w w'):RA y av ps w':=⟨h.r.C k id,im h.fg k λ_ _=>id,λp q=>(h.C p q).fE k⟩
def acK:∀(ps:List VR) (i j:Nat) (p:VR) (x:Í),ps[i]?=Ã p->(gJ p)[j]?=Ã x->(uM ps)[i*148+j]?=Ã x
 |[],i,j,p,x,h,_=>by cases h
 |q::r,0,j,p,x,h,hx=>by cases h;rwa[ķ,Ě,uM,û,Ö (Ò.1 hx).1]
 |q::r,i+1,j,p,x,h,hx=>by have a:(gJ q).length=148:=lX _ _ _ _;rw[uM,û,å (by rw[a];omega),a,show(i+1)*148+j-148=i*148+j by omega];exact acK r i j p x h hx
theorem RA.I(h:RA y av ps w){p:VR}(a:ps[i]?=Ã p):∃b c,av=Ç (Ã ⟨b,0,Å⟩) ps.length c/\∀j x,(gJ p)[j]?=Ã x->w.cell? ⟨b,i*148+j,Å⟩=Ã x:=by
 obtain⟨_,⟨f,k⟩|⟨g,d,l,rfl,_⟩⟩:=id h.fg
 .grind
 .refine⟨g,d,U,λj x e=> ?_⟩;have:=h.fg.cells (g:=g) U _ _<|acK ps i j p x a e;rwa[Ō,Ě]at this
def pn(vs:List fM):Nat->Nat
 |0=>0
 |n+1=>if(vs.getD (pn vs n) iR).h<(vs.getD n iR).h then n else pn vs n
def r9(vs:List fM)(v:Int):Int:=if(vs.length:Int)<=v then-1 else if 0<=v then v else pn vs vs.length
def U8{vs:List fM}(h:0<vs.length):∀n,n<=vs.length->pn vs n<vs.length
 |0,_=>h
 |n+1,hn=>by
  unfold pn;split
  .omega
  .exact U8 h n Z
def ar3(h:RA y av ps w)(l:0<ps.length)(J:ps.length<=40)(K:∀p∈ps,0<=p.1.h/\p.1.h<=40)(v:Int)(Q:-1<=v)(S:v<=1000000):ì Á 82 #[Æ<|Ã ⟨y,0,Å⟩,Â Ä v] w λe w'=>e=Ñ (Â Ä (r9 (ps.map (·.1)) v))/\∃n,w'=w.drewN n:=by
 have B:=h.r.r 0 _ U;obtain⟨b,c,rfl,_⟩:=h.I (i:=0)<|Î l;have o:∀i,i<ps.length->w.cell? ⟨b,i*148+144,Å⟩=Ã (Â Ä ((ps.map (·.1)).getD i iR).h):=λi C=>by let⟨T,V,e,s⟩:=h.I<|Î C;cases e;rw[show((ps.map (·.1)).getD i iR).h=ps[i].1.h by simp[Č,C]];exact s 144 _<|r8 0 U
 have f:(ps.map (·.1)).length=ps.length:=ġ _;have g:=λn (q:n<=ps.length)=>U8 (vs:=ps.map (·.1)) (by rwa[f]) n (by rwa[f]);unfold r9;rw[f];obtain⟨N,D⟩:∃N,ps.length=N:=⟨_,U⟩;rw[D]at B l J f|-;simp only[D]at o g;rw[f]at g;generalize ps.map (·.1)=vs at*;have t:=eZ<|À o g;clear o g h K;by_cases E:(N:Int)<=v
 .rw[if_pos E];go_enter Ž,Ű;go_wp2;go_ret;exact⟨U,0,U⟩
 .rw[if_neg E];by_cases F:0<=v
  .rw[if_pos F];go_enter Ž,Ű;go_wp2;go_ret;exact⟨U,0,U⟩
  .rw[if_neg F];generalize G:pn vs N=r;have L:=eZ G;clear G;go_enter Ž,Ű;go_wp2;go_loopw [5,6] (λx i k=>∃j m:Nat,j<=N/\i=Â Ä j/\x=Â Ä (pn vs j)/\k=w.drewN m) λ_ i _=>N-(ï i).toNat
   case atStart=>exact⟨0,0,Û _,U,U,U⟩
   case round=>
    obtain⟨j,m,M,rfl,rfl,a⟩:=hrel;have W:k.cell? ⟨y,0,Å⟩=Ã (Ç (Ã ⟨b,0,Å⟩) N c):=by rwa[a]
    have H:=eZ a;by_cases u:j<N
    .have X:k.cell? ⟨b,j*148+144,Å⟩=Ã (Â Ä (vs.getD j iR).h):=by rw[a];exact t.out.1 j u
     have O:=t.out.2 j M;have Y:k.cell? ⟨b,pn vs j*148+144,Å⟩=Ã (Â Ä (vs.getD (pn vs j) iR).h):=by rw[a];exact t.out.1 _ O
     have d:pn vs (j+1)=if(vs.getD (pn vs j) iR).h<(vs.getD j iR).h then j else pn vs j:=U
     generalize(vs.getD j iR).h=s at*;generalize(vs.getD (pn vs j) iR).h=h2 at*;by_cases I:h2<s
     .rw[if_pos I]at d;have z:=eZ d;clear d a;generalize pn vs j=q at*;go_wp2;go_quiet (fail);go_wp2;go_roundw
      case rel=>exact⟨j+1,m+_,u,by go_num,by rw[z.out],by rw[H.out,ó]⟩
      case measure=>simp[ï];omega
     .rw[if_neg I]at d;have z:=eZ d;clear d a;generalize pn vs j=q at*;go_wp2;go_quiet (fail);go_wp2;go_roundw
      case rel=>exact⟨j+1,m+_,u,by go_num,by rw[z.out],by rw[H.out,ó]⟩
      case measure=>simp[ï];omega
    .obtain rfl:j=N:=Z
     have P:=eZ<|L.out;go_wp2;go_ret;exact⟨by rw[<-P.out];rfl,m,U⟩
end
end Go.Proofs.Y.gu
namespace Go.Proofs.Y.lC
open Go Go.Proofs Go.RowKit Go.Proofs.Y.Lift Go.Proofs.Y.gu
abbrev RS:=Nat×Bool
def iP(B:ByteArray)(E:RS):Option Int:=if E.2 then Å else(gN B)[E.1]?
def fS(B:ByteArray)(E:RS)(L:List Int):Nat×RS:=match iP B E with
 |some c=>if c∈L then(L.idxOf c,E.1+1,È)else(0,E.1,Ë)
 |none=>(0,E.1,Ë)
def mX(B:ByteArray):Nat->Int->RS->Int×RS
 |0,n,E=>(n,E)
 |m+1,n,E=>match iP B E with
  |some c=>if 0<n/\iT c=Ë then mX B m (10*n+(c-48)) (E.1+1,È)else(n,E)
  |none=>(n,E)
def uN:List Int:=[48,49,50,51,52,53,54,55,56,57]
def j0:List Int:=[97,98,99,100,101,102,103,104]
def Bm:List Int:=uN++[97,98,99,100,101,102]
def pO(B:ByteArray)(m:Nat)(E:RS):Int×RS:=mX B m (fS B E uN).1 (fS B E uN).2
def Bn(B:ByteArray)(E:RS):Int×RS:=if iP B E=Ã 104 then(-1,E.1+1,E.2)else pO B 1 E
def jD(B:ByteArray)(w:Int)(E:RS):Int×RS:=
 if w=86\/w=87 then Bn B E else if w=110\/w=107 then pO B 5 E
 else if w=120\/w=121 then((fS B E j0).1,(fS B E j0).2)else if w=115 then((fS B E Bm).1,(fS B E Bm).2)else(0,(fS B E [w]).2)
def mY(c:List Int)(w z:Int):List Int:=
 if w=86 then c.set 5 z else if w=87 then c.set 6 z else if w=120 then c.set 0 z else if w=121 then c.set 1 z
 else if w=110 then c.set 2 z else if w=107 then c.set 3 z else if w=115 then c.set 7 z else c
def mZ(B:ByteArray):List Int->List Int->RS->List Int×RS
 |[],c,E=>(c,E)
 |w::tl,c,E=>mZ B tl (mY c w (jD B w E).1) (jD B w E).2
def mG(B:ByteArray):Nat->RS->RS
 |0,E=>E
 |n+1,E=>match iP B E with
  |some c=>if mD c=0 then E else mG B n (E.1+1,È)
  |none=>E
def Bo(B:ByteArray)(x:Int)(k:Nat)(E:RS):PT×RS:=
 if k=1 then(⟨[x,0,0,0,2],B.extract E.1 (mG B 40 E).1⟩,(fS B (mG B 40 E) [125]).2)
 else(⟨(mZ B (pM<|k+1) [x,0,0,0,(k+1:Nat)] E).1,⟨#[]⟩⟩,(mZ B (pM<|k+1) [x,0,0,0,(k+1:Nat)] E).2)
def lM(B:ByteArray)(E:RS):PT×RS:=Bo B (jD B 120 E).1 (fS B (jD B 120 E).2 [62,123,58]).1 (fS B (jD B 120 E).2 [62,123,58]).2
def na(B:ByteArray):Nat->List PT->RS->List PT×RS
 |0,ts,E=>(ts,E)
 |n+1,ts,E=>if E.2 then(ts,E)else if iP B (lM B E).2=Ã 44/\n≠0 then na B n (ts++[(lM B E).1]) (fS B (lM B E).2 [44]).2 else(ts++[(lM B E).1],(lM B E).2)
def pP(k:Nat):List Int:=(s6<|k+1).filter (· ≠66)
def Bp(B:ByteArray)(k:Nat)(s:List Int×RS):PR×RS:=
 if k≠0\/s.2.2\/s.2.1=B.size\/iP B s.2=Ã 59 then(⟨s.1,[]⟩,s.2)else(⟨s.1,(na B 8 [] s.2).1⟩,(na B 8 [] s.2).2)
def kX:List Int:=[105,103,98,99,109,114,108,117,100]
def kY(B:ByteArray)(E:RS):PR×RS:=
 if(fS B E kX).2.2 then(PD.uG 1,(fS B E kX).2)else Bp B (fS B E kX).1 (mZ B (pP (fS B E kX).1) (PD.uG ((fS B E kX).1+1:Nat)).c (fS B E kX).2)
def xL(B:ByteArray):Nat->Nat->List PR->List PR×Int
 |0,a,_=>([],a)
 |n+1,a,l=>if(kY B (a,È)).2.2 then([],(kY B (a,È)).2.1)else if(kY B (a,È)).2.1=B.size then(l++[(kY B (a,È)).1],-1)
  else if iP B (kY B (a,È)).2=Ã 59/\n≠0 then xL B n ((kY B (a,È)).2.1+1) (l++[(kY B (a,È)).1])else([],(kY B (a,È)).2.1)
def xM(B:ByteArray):List PR×Int:=if B.size=0 then([],-1)else xL B 24 0 []
def pR(B:ByteArray)(k:Nat)(st:PS):Nat×PS:=qu B (B.size-k) k st
section
variable{a:Nat}{st:PS}{tl r:List Int}{d:PD}{E:RS}
def xN:(gN B)[k]?=if h:k<B.size then Ã (B[k].toNat:Int)else Å:=by
 split
 .rename_i h;have a:k<(gN B).length:=by rwa[FI]
  rw[Î a];simp[gN,Ć]
 .exact ă<|by rw[FI];omega
def Bq(h:(gN B)[k]?=Å):pR B k st=(k,st):=by
 have:¬k<B.size:=by rw[xN]at h;split at h;cases h;assumption
 unfold pR;rw[show B.size-k=0 by omega];rfl
theorem uO(h:(gN B)[k]?=Ã c):k<B.size/\pR B k st=match qt B k st c with
 |none=>(k,st)
 |some s=>pR B (k+1) s:=by
 rw[xN]at h;split at h
 .rename_i a;cases h;refine⟨a,?_⟩;unfold pR;rw[show B.size-k=(B.size-(k+1))+1 by omega,qu,dif_pos a];grind
 .cases h
def Nd(B:ByteArray)(a:Nat)(st:PS):Prop:=∀c,(gN B)[a]?=Ã c->¬(0<st.r/\iT c=Ë)
structure oh(B:ByteArray)(a:Nat)(r:List Int)(d:PD)(st:PS):Prop where
 C:st.C=r
 d:st.d=d
 M:Nd B a st
def xO(B:ByteArray)(a:Nat)(st:PS)(b:Nat):Prop:=∃s,pR B a st=(b,s)/\(b<B.size\/∃h tl,s.C=h::tl/\h≠66)
def Gs(B:ByteArray)(a:Nat)(st:PS)(E:RS)(r:List Int)(d:PD):Prop:=if E.2 then xO B a st E.1 else∃s,oh B E.1 r d s/\pR B a st=pR B E.1 s
def oh.I(h:oh B a r d st)(b:(gN B)[a]?=Ã c):pR B a st=match jH B a {st with r:=0} c with
 |none=>(a,st)
 |some s=>pR B (a+1) s:=by
 rw[(uO b).2,qt,if_neg<|h.M c b]
def PD.tA(d:PD)(c:List Int):PD:=if d.C then{d with N:={d.N with c:=c}}else{d with M:={d.M with c:=c}}
def PD.gC(d:PD):List Int:=if d.C then d.N.c else d.M.c
def JY(c:List Int):(d.tA c).C=d.C:=by unfold PD.tA;split<;>rfl
def NZ(c:List Int):(d.tA c).gC=c:=by unfold PD.gC;rw[JY];unfold PD.tA;split<;>rfl
def acM(c a:List Int):(d.tA c).tA a=d.tA a:=by let⟨_,_,_,t,_⟩:=d;cases t<;>rfl
def ar4:d.tA d.gC=d:=by let⟨_,_,_,t,_⟩:=d;cases t<;>rfl
def tB(a:Bool):List Int:=if a then[120,121,110,107,61,40,44,41]else[86,87,120,121,110,107,115,58,62,40,44,41,47]
def Va(a:h∈tB d.C)(z:Int):d.fO h z=d.tA (mY d.gC h z):=by
 let⟨_,_,_,t,_⟩:=d;cases t
 .revert a;simp only[tB,Ô,if_false,Į,Ĭ,or_false];rintro(rfl|rfl|rfl|rfl|rfl|rfl|rfl|rfl|rfl|rfl|rfl|rfl|rfl)<;>rfl
 .revert a;simp only[tB,if_true,Į,Ĭ,or_false];rintro(rfl|rfl|rfl|rfl|rfl|rfl|rfl|rfl)<;>rfl
def N0(b:oh B a (h::tl) d st)(g:h∈tB d.C)(j:∀c,mF h c=decide (c∈zQ))(k:∀c∈zQ,d.fO h (ll h c)=d.fO h (zQ.idxOf c))(l:∀c,lL h c=0): Gs B a st (fS B (a,È) zQ).2 tl (d.fO h (fS B (a,È) zQ).1):=by
 have i:h≠82/\h≠66/\h≠84/\h≠80:=by unfold tB at g;cases q:d.C<;>simp[q]at g<;>omega
 unfold fS iP;simp only[Ô,if_false];cases f:(gN B)[a]? with
 |none=>exact⟨st,Bq f,Ð ⟨h,tl,b.C,i.2.1⟩⟩
 |some c=>
  have e:=b.I f;unfold jH at e;simp only[b.C,i,if_false,j]at e;by_cases q:c∈zQ
  .simp only[q,decide_true,if_true]at e|-;refine⟨_,⟨U,?_,λ_ _ z=> ?_⟩,e⟩
   .show st.d.fO h (ll h c)=_;rw[b.d];exact k c q
   .have:(0:Int)<lL h c:=z.1;rw[l]at this;omega
  .simp only[q,decide_false,Ô,if_false]at e|-;exact⟨st,e,É (uO (st:=st) f).1⟩
end
end Go.Proofs.Y.lC
namespace Go.Proofs.Y.gu
open Go Go.Proofs Go.RowKit Go.Proofs.Y.Lift Go.Proofs.Y.lC
structure oP(b:Nat)(B:ByteArray)(E:RS)(w:Þ):Prop where
 r:fq b [Ê B,Â Ä E.1,í E.2] 180 w
 C:E.1<=B.size
 I:B.size<=1200
def jS(b:Nat)(B:ByteArray)(E:RS)(w a:Þ):Prop:=oP b B E a/\fc (λk=>k=b) w a
section
variable{L:ByteArray}{E:RS}{w':Þ}
def oP.fE(h:oP b B E w)(k:fc fh w w'):oP b B E w':=⟨h.r.C k id,h.C,h.I⟩
def jS.fE(h:jS b B E w u)(k:fc fh u w'):jS b B E w w':=⟨h.1.fE k,h.2.fj<|k.ff λ_ _=>é⟩
def jS.N{a:RS}(h:jS b B E w u)(k:jS b B a u w'):jS b B a w w':=⟨k.1,h.2.fj k.2⟩
def jS.M(h:jS b B E w u){v:Int}(a:v=E.1+1)(c:E.1<B.size):jS b B (E.1+1,E.2) w (u.setCell ⟨b,1,Å⟩<|Â Ä v):=by subst a;exact⟨⟨h.1.r.fO 1 _,c,h.1.I⟩,h.2.fj<|fc.I (X:=λk=>k=b) (p:=⟨b,1,Å⟩) U _<|Ð h.1.r.S⟩
def jS.ar5(h:jS b B E w u):jS b B (E.1,Ë) w (u.setCell ⟨b,2,Å⟩<|í Ë):= ⟨⟨h.1.r.fO 2 _,h.1.C,h.1.I⟩,h.2.fj<|fc.I (X:=λk=>k=b) (p:=⟨b,2,Å⟩) U _<|Ð h.1.r.S⟩
def DO(h:iP B E=Ã c):E.2=È/\∃b:E.1<B.size,c=(B[E.1].toNat:Int):=by
 let⟨a,t⟩:=E;unfold iP at h;cases t with
 |true=>cases h
 |false=>
  rw[if_neg fp,xN]at h;split at h
  .rename_i b;cases h;exact⟨U,b,U⟩
  .cases h
def zz(h:oP b B E w)(c:Int):ì Á 81 #[Æ<|Ã ⟨b,0,Å⟩,Â Ŋ c] w λe w'=>e=Ñ (í<|decide<|iP B E=Ã c)/\∃n,w'=w.drewN n:=by
 let⟨a,t⟩:=E;have i:=h.r.r 0 _ U;have f:=h.r.r 1 _ U;have g:=h.r.r 2 _ U;have j:=h.I;unfold iP;rw[xN];simp only at f g;clear h;cases t
 .by_cases d:a<B.size
  .rw[dif_pos d];go_enter ž,ű;go_wp2;go_quiet (fail);go_wp2;go_ret;exact⟨Tz (by rw[Ĳ];simp),_,U⟩
  .rw[dif_neg d];go_enter ž,ű;go_wp2;go_quiet (fail);go_wp2;go_ret;exact⟨U,_,U⟩
 .go_enter ž,ű;go_wp2;go_quiet (fail);go_wp2;go_ret;exact⟨U,_,U⟩
theorem ar6(h:iP B E=Ã c)(a:zQ[j]?=Ã c)(b:c∉zQ.take j):fS B E zQ=(j,E.1+1,È):=by
 have d:j<zQ.length:=(Ò.1 a).1;have e:zQ.idxOf c=j:=by rw[<-Œ j zQ,List.idxOf_append,if_neg b,ć d,(Ò.1 a).2,List.idxOf_cons_self];simp;omega
 unfold fS;grind
theorem ar7(h:∀c,iP B E=Ã c->c∉zQ):fS B E zQ=(0,E.1,Ë):=by unfold fS;grind
def DR(h:oP b B E w)(q:L.size<=1200):ì Á 131 #[Æ<|Ã ⟨b,0,Å⟩,Ê L] w λe w'=>e=Ñ (Â Ä (fS B E<|gN L).1)/\jS b B (fS B E<|gN L).2 w w':=by
 have r:=h.I;have s:=h.C;go_enter Tryz.func131,Tryz.ntmps131;go_wp2;go_loopw [5] (λi o=>∃j:Nat,j<=L.size/\i=Â Ä j/\jS b B E w o/\∀c,iP B E=Ã c->c∉(gN L).take j) λi _=>L.size-(ï i).toNat
 case atStart=>exact⟨0,Û _,U,⟨h,fc.fV _ _⟩,λ_ _=>by simp⟩
 case round=>
  obtain⟨j,t,rfl,k,l⟩:=hrel;have H:=eZ<|À k l;clear k l h;by_cases m:j<L.size
  .have f:(gN L)[j]?=Ã (L[j].toNat:Int):=by rw[xN,dif_pos m]
   by_cases d:iP B E=Ã (L[j].toNat:Int)
   .have p:=(DO d).2.1;have a:=eZ<|À d f;clear d f;go_wp2_with (go_at_call 81;refine(zz H.out.1.1 _).mono ?_;rintro e u ⟨rfl,n,rfl⟩;rw[decide_eq_true a.out.1];have x:=(H.out.1.fE<|fc.jh _ _ n).1.r.r 1 _ U;have y:=(H.out.1.fE<|fc.jh _ _ n).1.r.I 1);go_ret;rw[ar6 a.out.1 a.out.2<|H.out.2 _ a.out.1];have:=(H.out.1.fE<|fc.jh _ _ n).M (v:=(E.1:Int)+1) Z p;rw[(DO a.out.1).1]at this;exact⟨U,this⟩
   .have a:=eZ<|À d f;clear d f;go_wp2_with (go_at_call 81;refine(zz H.out.1.1 _).mono ?_;rintro e u ⟨rfl,n,rfl⟩;rw[decide_eq_false a.out.1]);go_roundw
    case rel=>exact⟨j+1,m,by go_num,H.out.1.fE<|fc.jh _ _ _,λc g=>by rw[ê,a.out.2];simp only[ĥ,ý,î,not_or];exact⟨H.out.2 c g,λe=>a.out.1<|e▸g⟩⟩
    case measure=>simp[ï];omega
  .have z:=H.out.1.1.r.r 2 _ U;have C:=H.out.1.1.r.I 2;go_wp2;go_ret;rw[ar7 λc g=>by have:=H.out.2 c g;rwa[á (by rw[FI];omega)]at this];exact⟨U,H.out.1.ar5⟩
end
def acN(c:Int)(w:Þ):ì Á 164 #[Â Ŋ c] w λe a=>e=Ñ (Â Ä (sV<|mD c).1)/\a=w:=by
 go_enter Tryz.func164,Tryz.ntmps164;go_wp2;all_goals
  go_ret;refine⟨IN ?_,U⟩;simp only[beq_iff_eq,beq_eq_false_iff_ne]at*;first
   |(subst_vars;rfl)
   |(rw[show mD c=0 by simp[mD, *];omega];rfl)
section
variable{S:ByteArray}{E:RS}{x:Int}
def ar8(h:j<S.size):gN (S.extract j<|j+1)=[(S[j].toNat:Int)]:=by unfold gN;rw[ŋ,ŗ,ŀ,ć (by simpa using h)];simp[Ć]
def Br(h:oP b B E w)(n:S.size=1)(a:gN S=[x]):ì Á 133 #[Æ<|Ã ⟨b,0,Å⟩,Ê S] w λe u=>e=Ñ (Đ #[])/\jS b B (fS B E [x]).2 w u:=by
 have o:=h.I;have f:gN (S.extract 0 1)=[x]:=by rw[ar8 (j:=0) Z,<-a];have:=vU S Z;rw[a]at this;rw[a,(List.cons.inj this).1]
 have g:(S.extract 0 1).size<=1200:=by rw[ō];omega
 have H:=eZ<|À f g;clear f g a;go_enter Tryz.func133,Tryz.ntmps133;go_wp2;go_loopw [4] (λi k=>(i=Â Ä 0/\jS b B E w k)\/(i=Â Ä 1/\jS b B (fS B E [x]).2 w k)) λi _=>1-(ï i).toNat
 case atStart=>exact É ⟨U,h,fc.fV _ _⟩
 case round=>
  clear h;rcases hrel with⟨rfl,c⟩|⟨rfl,c⟩
  .have l:=eZ c;clear c;go_wp2_with (go_at_call 131;refine(DR l.out.1 H.out.2).mono ?_;rintro e W ⟨rfl,d⟩;rw[H.out.1]at d;have m:=eZ d;clear d);go_roundw
   case rel=>exact Ð ⟨U,l.out.N m.out⟩
   case measure=>decide
  .go_wp2;go_end0;exact⟨U,c⟩
def JZ(h:oP b B E w):ì Á 135 #[Æ<|Ã ⟨b,0,Å⟩] w λe u=>e=Ñ (Â Ä (fS B E j0).1)/\jS b B (fS B E j0).2 w u:=by go_enter Tryz.func135,Tryz.ntmps135;go_wp2_with (go_at_call 131;refine(DR h A).mono ?_;rintro e W ⟨rfl,a⟩);go_ret;exact⟨U,a⟩
def J0:Nat->Int
 |0=>1
 |k+1=>10*J0 k
def ar9:∀j:Nat,j<=6->J0 j<=1000000:=A
def J2{l:List Int}:(fS B E l).1=0\/(fS B E l).1<l.length:=by
 unfold fS;split
 .split
  .exact Ð<|ĸ ‹_›
  .exact É U
 .exact É U
def J3{t:Bool}{a:Nat}(h:t=Ë\/¬0<x\/¬((a:Int)<B.size)\/∃i:a<B.size,¬(48<=(B[a].toNat:Int))\/¬((B[a].toNat:Int)<=57)):mX B m x (a,t)=(x,a,t):=by
 cases m with
 |zero=>rfl
 |succ m=>
  unfold mX;split
  .rename_i c e;obtain⟨d,f,rfl⟩:=DO e;rw[if_neg];rintro⟨g,b⟩;rw[Bd]at b;rcases h with h|h|h|⟨_,h|h⟩
   .rw[h]at d;cases d
   .exact h g
   .exact h<|by simp only at f;omega
   .exact h b.1
   .exact h b.2
  .rfl
def N4(h:oP b B E w)(M:Nat)(P:M<=5):ì Á 136 #[Æ<|Ã ⟨b,0,Å⟩,Â Ä<|(M:Int)+1] w λe u=>e=Ñ (Â Ä (pO B M E).1)/\jS b B (pO B M E).2 w u:=by
 have Q:=h.I;have G:(fS B E uN).1<10:=by
  rcases J2 (B:=B) (E:=E) (l:=uN)with e|e
  .omega
  .exact e
 have C:=DR (L:=⟨#[48,49,50,51,52,53,54,55,56,57]⟩) h A;unfold pO;rw[show gN ⟨#[48,49,50,51,52,53,54,55,56,57]⟩=uN from rfl]at C;generalize fS B E uN=q at*;let⟨v,s⟩:=q;go_enter Tryz.func136,Tryz.ntmps136;go_wp2_with (go_at_call 131;apply C.mono;rintro e W ⟨rfl,y⟩);go_loopw [5,6] (λn i I=>∃(x:Int) (j:Nat) (τ:RS),n=Â Ä x/\i=Â Ä j/\1<=j/\j<=M+1/\jS b B τ w I/\0<=x/\x<J0 j/\mX B M v s=mX B (M+1-j) x τ) λ_ i _=>10-(ï i).toNat
 case atStart=>exact⟨v,1,s,U,U,Ù _,Z,y,Z,by show(v:Int)<10;omega,U⟩
 case round=>
  clear y h G C;obtain⟨x,j,⟨a,t⟩,rfl,rfl,S,T,c,V,X,z⟩:=hrel;have Y:=c.1.r.r 0 _ U;have J:=c.1.r.r 1 _ U;have K:=c.1.r.r 2 _ U;have f1:=c.1.r.I 1;have hp:=ar9 j Z;have N:=c.1.C;simp only at J K N;have H:=eZ<|À c z;clear c z;by_cases D:(j:Int)<(M:Int)+1;by_cases f:0<x;cases t;by_cases F:(a:Int)<(B.size:Int);have g:a<B.size:=Z
  by_cases k:48<=(B[a].toNat:Int);by_cases o:(B[a].toNat:Int)<=57
  .have r:mX B (M+1-j) x (a,È)=mX B (M+1-(j+1)) (10*x+((B[a].toNat:Int)-48)) (a+1,È):=by
    rw[show M+1-j=(M+1-(j+1))+1 by omega,mX];have:iP B (a,È)=Ã (B[a].toNat:Int):=by unfold iP;rw[if_neg fp,xN,dif_pos g]
    rw[this];simp only[f,aoV ⟨k,o⟩,and_self,if_true]
   have O:=eZ r;clear r;go_wp2;go_quiet (fail);go_wp2;go_quiet (fail);go_wp2;go_roundw
   case rel=>exact⟨_,j+1,(a+1,È),U,by go_num,Z,Z,jS.M (H.out.1.fE<|fc.jh _ _ _) U g,Z,by rw[show J0 (j+1)=10*J0 j from rfl];omega,by rw[H.out.2,O.out]⟩
   case measure=>simp[ï];omega
  all_goals
   first
    |(have p:=decide_eq_false o;have d:=eZ<|J3 (B:=B) (x:=x) (m:=M+1-j) (t:=È)<|Ð<|Ð<|Ð ⟨g,Ð o⟩;clear o)
    |(have p:=decide_eq_false k;have d:=eZ<|J3 (B:=B) (x:=x) (m:=M+1-j) (t:=È)<|Ð<|Ð<|Ð ⟨g,É k⟩;clear k)
    |(have p:=decide_eq_false F;have d:=eZ<|J3 (B:=B) (x:=x) (m:=M+1-j) (t:=È)<|Ð<|Ð<|É F;have r:¬a<B.size:=by omega)
    |(have p:=decide_eq_false f;have d:=eZ<|J3 (B:=B) (x:=x) (m:=M+1-j) (a:=a) (t:=t)<|Ð<|É f;clear f)
    |(have p:=decide_eq_false D;have d:=eZ (show mX B (M+1-j) x (a,t)=(x,a,t) by rw[show M+1-j=0 by omega];rfl);clear D)
    |have d:=eZ<|J3 (B:=B) (x:=x) (m:=M+1-j) (a:=a) (t:=Ë)<|É U
   go_wp2;go_quiet (fail);go_wp2;go_ret;rw[H.out.2,d.out];exact⟨U,H.out.1.fE<|fc.jh _ _ _⟩
def N5(h:oP b B E w):ì Á 132 #[Æ<|Ã ⟨b,0,Å⟩] w λe u=>e=Ñ (Â Ä (Bn B E).1)/\jS b B (Bn B E).2 w u:=by
 have g:=h.I;have i:=h.C;unfold Bn;by_cases a:iP B E=Ã 104
 .have d:=(DO a).2.1;rw[if_pos a];have c:=eZ a;clear a;go_enter ς,ε;go_wp2_with (go_at_call 81;refine(zz h _).mono ?_;rintro e W ⟨rfl,n,rfl⟩;rw[decide_eq_true c.out];have f:=(h.fE<|fc.jh _ _ n).r.r 1 _ U;have j:=(h.fE<|fc.jh _ _ n).r.I 1);go_ret;exact⟨U,jS.M ⟨h.fE<|fc.jh _ _ n,fc.jh _ _ n⟩ U d⟩
 .rw[if_neg a];have c:=eZ a;clear a;go_enter ς,ε;go_wp2_with (first
   |(go_at_call 81;refine(zz h _).mono ?_;rintro e W ⟨rfl,n,rfl⟩;rw[decide_eq_false c.out])
   |(go_at_call 136;refine(N4 (h.fE (fc.jh _ _ n)) 1 A).mono ?_;rintro e j ⟨rfl,d⟩;have f:=eZ d;clear d))
  go_ret;exact⟨U,f.out.1,(fc.jh _ _ n).fj f.out.2⟩
def asa:∀k,k<=22->(0<(sV k).1↔k≠0)/\0<=(sV k).1:=A
def N6{a:Nat}{t:Bool}(h:m=0\/t=Ë\/¬((a:Int)<B.size)\/∃f:a<B.size,mD (B[a].toNat:Int)=0):mG B m (a,t)=(a,t):=by
 cases m with
 |zero=>rfl
 |succ m=>
  unfold mG;split
  .rename_i c d;obtain⟨b,e,rfl⟩:=DO d;rw[if_pos];rcases h with h|h|h|⟨_,h⟩
   .cases h
   .rw[h]at b;cases b
   .exact absurd e<|by simp only;omega
   .exact h
  .rfl
def asb(h:oP b B E w):ì Á 179 #[Æ<|Ã ⟨b,0,Å⟩] w λe u=>e=Ñ (Ê<|B.extract E.1 (mG B 40 E).1)/\jS b B (fS B (mG B 40 E) [125]).2 w u:=by
 have G:=h.I;have v:=h.C;have g:=h.r.r 1 _ U;let⟨c,t⟩:=E;simp only at g v|-;go_enter Tryz.func179,Tryz.ntmps179;go_wp2;clear g;go_loopg [] 40 (λn x=>∃a:Nat,n+(a-c)=40/\c<=a/\jS b B (a,t) w x/\mG B 40 (c,t)=mG B n (a,t))
 case atStart=>exact⟨c,Z,Ù _,⟨h,fc.fV _ _⟩,U⟩
 case round=>
  clear h;let⟨a,k,I,d,o⟩:=hrel;have J:=d.1.r.r 0 _ U;have g:=d.1.r.r 1 _ U;have y:=d.1.r.r 2 _ U;have K:=d.1.r.I 1;have z:=d.1.C;simp only at g y z;have H:=eZ<|À d o;have C:=eZ k;clear d o;have L:(0:Int)<=(a:Int)-(c:Int):=Z
  have M:(a:Int)-(c:Int)<=40:=Z
  cases t;by_cases p:(a:Int)<(B.size:Int);have l:a<B.size:=Z
  by_cases D:(a:Int)-(c:Int)<40;have i:=asa _<|amd (B[a].toNat:Int);by_cases j:0<(sV<|mD (B[a].toNat:Int)).1
  .obtain⟨n,rfl⟩:∃n,gk=n+1:=⟨gk-1,Z⟩;have q:mG B (n+1) (a,È)=mG B n (a+1,È):=by
    have:iP B (a,È)=Ã (B[a].toNat:Int):=by unfold iP;rw[if_neg fp,xN,dif_pos l]
    rw[mG,this];simp only;rw[if_neg<|i.1.1 j]
   have f:=eZ<|H.out.2.trans q;clear q i k;go_wp2;go_quiet ((go_at_call 164;exact è<|acN _ _));go_wp2;go_roundg n
   case measure=>omega
   case rel=>exact⟨a+1,by have:=C.out;omega,Z,jS.M (H.out.1.fE<|fc.jh _ _ _) U l,f.out⟩
  all_goals
   first
    |(have r:=decide_eq_false j;have f:=eZ (N6 (m:=gk) (t:=È)<|Ð<|Ð<|Ð ⟨l,Ł λe=>j<|i.1.2 e⟩);clear j i)
    |(have r:=decide_eq_false D;have f:=eZ<|N6 (B:=B) (m:=gk) (a:=a) (t:=È)<|É Z)
    |(have r:=decide_eq_false p;have f:=eZ<|N6 (B:=B) (m:=gk) (t:=È)<|Ð<|Ð<|É p;have k:¬a<B.size:=by omega)
    |have f:=eZ<|N6 (B:=B) (m:=gk) (a:=a) (t:=Ë)<|Ð<|É U
   go_wp2;first|go_quiet (fail)|go_quiet ((go_at_call 164;exact è<|acN _ _))
   go_wp2;go_quiet (fail);go_wp2_with (go_at_call 133;refine(Br (H.out.1.1.fE<|fc.jh _ _ _) U U).mono ?_;rintro e N ⟨rfl,s⟩;have F:=eZ s;clear s);go_ret;rw[H.out.2,f.out];exact⟨U,(H.out.1.fE<|fc.jh _ _ _).N F.out⟩
end
structure LS(w0:Þ)(b:Nat)(B:ByteArray)(T:ğ)(jt jo:Nat)(vs us:List Í)(E:RS)(w:Þ):Prop where
 rd:oP b B E w
 t:fq jt vs T w
 o:fq jo us T w
 kp:fc (λk=>k=b) w0 w
 lt:w0.heap.size<=jt/\w0.heap.size<=jo/\jt≠jo/\b<w0.heap.size
 fl:lA T=È
section
variable{w0 w':Þ}{jt jo:Nat}{vs us:List Í}{E E':RS}{x:Int}
def LS.gL(h:LS w0 b B T jt jo vs us E w)(k:jS b B E' w w'):LS w0 b B T jt jo vs us E' w':=by have:=h.lt;exact⟨k.1,h.t.C k.2 Z,h.o.C k.2 Z,h.kp.fj k.2,h.lt,h.fl⟩
def LS.fE(h:LS w0 b B T jt jo vs us E w)(k:fc fh w w'):LS w0 b B T jt jo vs us E w':=h.gL ⟨h.rd.fE k,k.ff λ_ _=>é⟩
def LS.fO(h:LS w0 b B T jt jo vs us E w)(i:Nat)(v:Í):LS w0 b B T jt jo (vs.set i v) us E (w.setCell ⟨jt,i,Å⟩ v):=by have:=h.lt;have k:=fc.I (X:=λk=>k=jt) (p:=⟨jt,i,Å⟩) U v<|Ð<|h.t.S h.fl;exact⟨⟨h.rd.r.C k Z,h.rd.C,h.rd.I⟩,h.t.fO i v,h.o.C k Z,h.kp.C k λk a q=>by omega,h.lt,h.fl⟩
def LS.mO(h:LS w0 b B T jt jo vs us E w)(i:Nat)(e:vs[i]?=Ã v):w.cell? ⟨jt,i,Å⟩=Ã v:=h.t.r i v e
def LS.c6{a c d:Í}(h:LS w0 b B T jt jo [v,z,jQ,a,c,d] us E w):(w.cell? ⟨jt,0,Å⟩=Ã v/\w.cell? ⟨jt,1,Å⟩=Ã z/\w.cell? ⟨jt,2,Å⟩=Ã jQ/\w.cell? ⟨jt,3,Å⟩=Ã a/\w.cell? ⟨jt,4,Å⟩=Ã c/\w.cell? ⟨jt,5,Å⟩=Ã d)/\∀i,w.frozen? ⟨jt,i,Å⟩=È:= ⟨⟨h.mO 0 U,h.mO 1 U,h.mO 2 U,h.mO 3 U,h.mO 4 U,h.mO 5 U⟩,h.t.I⟩
def zC(t:PT):List Í:=[Â Ŋ (if t.c.getD 4 0=1 then 62 else if t.c.getD 4 0=2 then 123 else 58),Â Ä<|t.c.getD 0 0,Â Ä<|t.c.getD 1 0,Â Ä<|t.c.getD 2 0,Â Ä<|t.c.getD 3 0,Ê t.p]
def J4:jD B 120 E=(((fS B E j0).1:Int),(fS B E j0).2)/\jD B 121 E=(((fS B E j0).1:Int),(fS B E j0).2)/\jD B 115 E=(((fS B E Bm).1:Int),(fS B E Bm).2)/\jD B 110 E=pO B 5 E/\jD B 107 E=pO B 5 E/\jD B 86 E=Bn B E/\jD B 87 E=Bn B E:=⟨U,U,U,U,U,U,U⟩
def N7:jD B 61 E=(0,(fS B E [61]).2)/\jD B 40 E=(0,(fS B E [40]).2)/\jD B 44 E=(0,(fS B E [44]).2)/\jD B 41 E=(0,(fS B E [41]).2)/\jD B 58 E=(0,(fS B E [58]).2)/\jD B 62 E=(0,(fS B E [62]).2)/\jD B 47 E=(0,(fS B E [47]).2):=⟨U,U,U,U,U,U,U⟩
def N8(c:List Int)(z:Int):(mY c 120 z=c.set 0 z/\mY c 121 z=c.set 1 z/\mY c 110 z=c.set 2 z/\mY c 107 z=c.set 3 z/\mY c 86 z=c.set 5 z/\mY c 87 z=c.set 6 z/\mY c 115 z=c.set 7 z)/\mY c 61 z=c/\mY c 40 z=c/\mY c 44 z=c/\mY c 41 z=c/\mY c 58 z=c/\mY c 62 z=c/\mY c 47 z=c:=⟨⟨U,U,U,U,U,U,U⟩,U,U,U,U,U,U,U⟩
def ty0:Bo B x 0 E=(⟨[x,(fS B E j0).1,(pO B 5 (fS B (fS B E j0).2 [61]).2).1,0,1],⟨#[]⟩⟩,(pO B 5 (fS B (fS B E j0).2 [61]).2).2):=by unfold Bo;simp[pM,mZ,J4,N7,N8]
def ty2:Bo B x 2 E=(⟨[x,(fS B E j0).1,(pO B 5 (fS B (fS B E j0).2 [40]).2).1,(pO B 5 (fS B (pO B 5 (fS B (fS B E j0).2 [40]).2).2 [44]).2).1,3],⟨#[]⟩⟩,(fS B (pO B 5 (fS B (pO B 5 (fS B (fS B E j0).2 [40]).2).2 [44]).2).2 [41]).2):=by unfold Bo;simp[pM,mZ,J4,N7,N8]
def LS.fZ{c:Array Ī}{f:List Ī}{a:κ}{x:ĵ}(H:LS w0 b B T jt jo vs us E w)(m:(Á.info? T).map (·.size)=Ã l.length)(j:us.length=l.length)(n:∀v∈l,v.oneCell'=Ë) (h:∀w',fq jo l T w'->jS b B E w0 w'->fc (λk=>k=jo) w w'->Ť Á c vJ f (a.put Å Ο) w') (g:o.guard=Å) (e:o.op=.store T x qQ) (d:o.dst=Å) (p:a.eval x=Æ (Ã ⟨jo,0,Å⟩)) (r:a.eval qQ=ÿ l.toArray):Ť Á c vJ (o::f) a w:=by refine ź g T x qQ e jo 0 l.toArray p r (H.o.M4<|by simp[j]) (by rw[m];simp) (ş n) ?_;rw[d];have s:=I1 l [] [] w us j (by simpa using H.o);have k:=I2 (b:=jo) l 0 w<|H.o.S H.fl;have:=H.lt;exact h _ (by simpa using s) ⟨⟨H.rd.r.C k Z,H.rd.C,H.rd.I⟩,H.kp.C k λi t q=>by omega⟩ k
def LS.ov{ops:Array Ī}{rest:List Ī}{c:Ī}{a:κ}{x:ĵ}{d:Tmp}(H:LS w0 b B T jt jo vs us E w)(f:(Á.underlying T).map Ă=Ã Ë)(e:(Á.info? T).map (·.size)=Ã vs.length)(g:us.length=vs.length)(i:∀v∈vs,v.oneCell'=Ë) (h:∀w',fq jo vs T w'->jS b B E w0 w'->fc (λk=>k=jo) w w'->Ť Á ops vJ rest (a.put (Ã d)<|ÿ vs.toArray) w') (j:o.guard=Å) (l:o.op=.load T x) (m:o.dst=Ã d) (n:c.guard=Å) (p:c.op=.store T qQ (.tmp d)) (q:c.dst=Å) (r:a.eval x=Æ (Ã ⟨jt,0,Å⟩)) (s:(a.put (Ã d)<|ÿ vs.toArray).eval qQ=Æ (Ã ⟨jo,0,Å⟩)) (u:(a.put (Ã d)<|ÿ vs.toArray).eval (.tmp d)=ÿ vs.toArray):Ť Á ops vJ (o::c::rest) a w:=by let⟨z,C,D⟩:=Ì.1 f;refine ö j T x l jt 0 r vs z (fq.Y (tl:=[])<|by rw[Ü];exact H.t) C D e ?_;rw[m];exact H.fZ e g i h n p q s u
def DU{t:Tmp}(a:fq jo vs T w)(b:(Á.underlying T).map Ă=Ã Ë)(c:(Á.info? T).map (·.size)=Ã vs.length)(h:s.results=#[.cell t T])(e:d.getD t Ο=Æ (Ã ⟨jo,0,Å⟩)):(results s d).run Á w=.ok (ÿ vs.toArray) w:=by let⟨i,f,g⟩:=Ì.1 b;exact aad h e (fq.Y (tl:=[])<|by rwa[Ü]) f g c
def acO{a b c d e f:Value}(h:∀v∈[a,b,c,d,e,f],v.oneCell'=true:=by simp[Value.oneCell']):∀v∈[a,b,c,d,e,f],v.oneCell'=true:=h
def Vb:(Á.info? 260).map (·.size)=Ã 6:=fx
def Vd:(Á.underlying 260).map Ă=Ã Ë:=fx
theorem asc(h:oP b B E w):ì Á 163 #[Æ<|Ã ⟨b,0,Å⟩] w λe w'=>e=Ñ (ÿ (zC (lM B E).1).toArray)/\jS b B (lM B E).2 w w':=by
 have c:(fS B (fS B E j0).2 [62,123,58]).1=0\/(fS B (fS B E j0).2 [62,123,58]).1=1\/(fS B (fS B E j0).2 [62,123,58]).1=2:=by have:=J2 (B:=B) (E:=(fS B E j0).2) (l:=[62,123,58]);grind
 have L:LS w b B 260 (w.heap.size+1) w.heap.size [Â Ŋ 0,Â Ä 0,Â Ä 0,Â Ä 0,Â Ä 0,Ê ⟨#[]⟩] [Â Ŋ 0,Â Ä 0,Â Ä 0,Â Ä 0,Â Ä 0,Ê ⟨#[]⟩] E ((w.alloc<|Ó #[Â Ŋ 0,Â Ä 0,Â Ä 0,Â Ä 0,Â Ä 0,Ê ⟨#[]⟩] 260).alloc<|Ó #[Â Ŋ 0,Â Ä 0,Â Ä 0,Â Ä 0,Â Ä 0,Ê ⟨#[]⟩] 260):= ⟨h.fE kp,by have:=fq.N (w.alloc<|Ó #[Â Ŋ 0,Â Ä 0,Â Ä 0,Â Ä 0,Â Ä 0,Ê ⟨#[]⟩] 260) [Â Ŋ 0,Â Ä 0,Â Ä 0,Â Ä 0,Â Ä 0,Ê ⟨#[]⟩] 260;simpa using this,(fq.N w [Â Ŋ 0,Â Ä 0,Â Ä 0,Â Ä 0,Â Ä 0,Ê ⟨#[]⟩] 260).C (kp (X:=fh)) id,kp,⟨Z,Z,Z,h.r.M⟩,U⟩;have H:=eZ L;clear L h;unfold lM;simp only[J4];rcases c with c|c|c;all_goals
  rw[c];simp only[ty0,ty1,ty2];have o:=eZ c;clear c;go_enter Tryz.func163,Tryz.ntmps163;go_wp2_with (first
   |(go_at_call 135;(first|with_reducible refine(JZ H.out.rd).mono ?_|refine(JZ (H.out.fO _ _).rd).mono ?_);rintro e d ⟨rfl,a⟩;(first|with_reducible have H:=eZ (H.out.gL a)|have H:=eZ<|(H.out.fO _ _).gL a);clear a;let⟨⟨f,g,i,j,k,m⟩,n⟩:=H.out.c6)
   |(go_at_call 131;refine(DR (H.out.fO _ _).rd A).mono ?_;rintro e d ⟨rfl,a⟩;have H:=eZ<|(H.out.fO _ _).gL a;clear a;rw[show(fS B (fS B E j0).2<|gN ⟨#[62,123,58]⟩).1=_ from o.out];let⟨⟨f,g,i,j,k,m⟩,n⟩:=H.out.c6)
   |(go_at_call 133;(first|with_reducible refine(Br H.out.rd U U).mono ?_|refine(Br (H.out.fO _ _).rd U U).mono ?_);rintro e d ⟨rfl,a⟩;(first|with_reducible have H:=eZ (H.out.gL a)|have H:=eZ<|(H.out.fO _ _).gL a);clear a;let⟨⟨f,g,i,j,k,m⟩,n⟩:=H.out.c6)
   |(go_at_call 136;refine(N4 H.out.rd 5 A).mono ?_;rintro e d ⟨rfl,a⟩;have H:=eZ<|H.out.gL a;clear a;let⟨⟨f,g,i,j,k,m⟩,n⟩:=H.out.c6)
   |(go_at_call 179;refine(asb (H.out.fO _ _).rd).mono ?_;rintro e d ⟨rfl,a⟩;have H:=eZ<|(H.out.fO _ _).gL a;clear a;let⟨⟨f,g,i,j,k,m⟩,n⟩:=H.out.c6)
   |(refine qk 260 U ?_;(first|refine LS.ov (H.out.fO _ _) Vd Vb U acO ?_ U U U U U U U U U|refine LS.ov H.out Vd Vb U acO ?_ U U U U U U U U U);intro f a d _))
  exact þ (DU a Vd Vb U U) U ⟨U,d⟩
end
def xP(w:World)(cs:List Value)(T:TypeId){n:Nat}(hn:n=w.heap.size:=by simp):∀j u,cs[j]?=some u->(w.alloc<|.cells cs.toArray T).cell? ((⟨n,0,none⟩:Addr).add j)=some u:=λj u h=>by rw[Ō,hn];exact(fq.N w cs T).r _ _<|by rwa[Ě]
def J5{base z:Nat}{xs:List Í}(h:w.ownsRow base T z v n xs):ie T v n xs w:=by
 obtain⟨a,i,rfl⟩:=jv h;rcases h.2 with⟨b,c⟩|⟨g,k,l,b,c,d,e,_⟩
 .cases b;have:=h.1;rw[ķ]at this;rw[ú this];exact ie.C _ _
 .cases b;refine⟨_,_,U,e,λj x f=>⟨g,0,U,⟨_,_,d⟩,?_⟩⟩;have:=h.cells (g:=g) U j x f;rwa[Ō]at this
section
variable{w':Þ}{us:List Í}{E r:RS}{x:Int}
def LS.BQ{base:Nat}{xs f:List Í}(h:LS W b B T j9 J l us E w)(o:w.ownsRow base e i v n xs)(g:W.heap.size<=base)(a:nX w base e i v n xs m f jQ w')(d:e≠T/\e≠180):LS W b B T j9 J l us E w':= ⟨⟨h.rd.r.C a.r<|iL o h.rd.r d.2,h.rd.C,h.rd.I⟩,h.t.C a.r<|iL o h.t d.1,h.o.C a.r<|iL o h.o d.1,h.kp.C a.r λc j q=>by have:=(o.lt c q).1;omega,h.lt,h.fl⟩
def LS.ase{base:Nat}{xs:List Í}(h:LS W b B T j9 J l us E w)(o:w.ownsRow base e j v n xs)(a:e≠T)(i:Nat)(u:Í):(w.setCell ⟨j9,i,Å⟩ u).ownsRow base e j v n xs:= im o (fc.I (X:=λk=>k=j9) (p:=⟨j9,i,Å⟩) U u<|Ð<|h.t.S h.fl) λk q e=>iL o h.t a<|e▸q
def LS.c9{a d e f g c:Í}(h:LS W b B T j9 J [v,z,jQ,a,d,e,f,g,c] us E w):(w.cell? ⟨j9,0,Å⟩=Ã v/\w.cell? ⟨j9,3,Å⟩=Ã a/\w.cell? ⟨j9,8,Å⟩=Ã c)/\(w.cell? ⟨b,0,Å⟩=Ã (Ê B)/\w.cell? ⟨b,1,Å⟩=Ã (Â Ä E.1)/\w.cell? ⟨b,2,Å⟩=Ã (í E.2))/\∀i,w.frozen? ⟨j9,i,Å⟩=È:= ⟨⟨h.mO 0 U,h.mO 3 U,h.mO 8 U⟩,⟨h.rd.r.r 0 _ U,h.rd.r.r 1 _ U,h.rd.r.r 2 _ U⟩,h.t.I⟩
def xR(B:ByteArray)(E:RS):List PT×RS:=if E.2\/E.1=B.size\/iP B E=Ã 59 then([],E)else na B 8 [] E
def oQ(a:List PT):List Í:=a.flatMap zC
def asf(a:List PT)(t:PT):oQ (a++[t])=oQ a++zC t:=by simp[oQ]
def rh:(Á.info? 135).map (·.size)=Ã 9:=fx
def sd:(Á.underlying 135).map Ă=Ã Ë:=fx
def asg:(Á.info? 260).map (λi=>(i.zero,i.size,i.bytes))=Ã (Ã<|ÿ #[Â Ŋ 0,Â Ä 0,Â Ä 0,Â Ä 0,Â Ä 0,Ê ⟨#[]⟩],6,56):=fx
def DV{a b c d e f g h i:Value}(k:∀v∈[a,b,c,d,e,f,g,h,i],v.oneCell'=true:=by simp[Value.oneCell']):∀v∈[a,b,c,d,e,f,g,h,i],v.oneCell'=true:=k
def DW:List Í:=[Â Ŋ 0,Â Ä 0,Â Ä 0,Â Ä 0,Â Ä 0,Â Ä 0,Â Ä 0,Â Ä 0,Ç Å 0 0]
def ash(h:oP b B E w)(kd v z Q C D F G:Int):ì Á 134 #[Æ<|Ã ⟨b,0,Å⟩,ÿ #[Â Ŋ kd,Â Ä v,Â Ä z,Â Ä Q,Â Ä C,Â Ä D,Â Ä F,Â Ä G,Ç Å 0 0]] w λe w'=>
 ∃tv,e=Ñ (ÿ #[Â Ŋ kd,Â Ä v,Â Ä z,Â Ä (fS B E j0).1,Â Ä C,Â Ä D,Â Ä F,Â Ä G,tv])/\ie 260 tv (xR B (fS B (fS B E j0).2 [47]).2).1.length (oQ (xR B (fS B (fS B E j0).2 [47]).2).1) w'/\jS b B (xR B (fS B (fS B E j0).2 [47]).2).2 w w':=by
 have L:LS w b B 135 w.heap.size (w.heap.size+1) [Â Ŋ kd,Â Ä v,Â Ä z,Â Ä Q,Â Ä C,Â Ä D,Â Ä F,Â Ä G,Ç Å 0 0] DW E ((w.alloc<|Ó #[Â Ŋ kd,Â Ä v,Â Ä z,Â Ä Q,Â Ä C,Â Ä D,Â Ä F,Â Ä G,Ç Å 0 0] 135).alloc<|Ó #[Â Ŋ 0,Â Ä 0,Â Ä 0,Â Ä 0,Â Ä 0,Â Ä 0,Â Ä 0,Â Ä 0,Ç Å 0 0] 135):= ⟨h.fE kp,(fq.N w [Â Ŋ kd,Â Ä v,Â Ä z,Â Ä Q,Â Ä C,Â Ä D,Â Ä F,Â Ä G,Ç Å 0 0] 135).C (kp (X:=fh)) id,by have:=fq.N (w.alloc<|Ó #[Â Ŋ kd,Â Ä v,Â Ä z,Â Ä Q,Â Ä C,Â Ä D,Â Ä F,Â Ä G,Ç Å 0 0] 135) DW 135;simpa[DW]using this,kp,⟨Z,Z,Z,h.r.M⟩,U⟩;have H:=eZ L;clear L h;have C1:=JZ H.out.rd;have Y:=λw' (h:oP b B (fS B E j0).2 w')=>Br (S:=⟨#[47]⟩) (x:=47) h U U;generalize fS B E j0=y at*;let⟨x,σ1⟩:=y;simp only at C1 Y|-;generalize fS B σ1 [47]=y at*;let⟨y,a,t⟩:=y;simp only at Y|-;go_enter Tryz.func134,Tryz.ntmps134;go_wp2_with (first
  |(go_at_call 135;refine C1.mono ?_;rintro e w2 ⟨rfl,l⟩;have H:=eZ<|H.out.gL l;clear l C1;let⟨⟨J,K,r⟩,_,d⟩:=H.out.c9)
  |(go_at_call 133;refine(Y _ (H.out.fO _ _).rd).mono ?_;rintro e w3 ⟨rfl,l⟩;have H:=eZ ((H.out.fO _ _).gL l);clear l Y))
 clear J K r d;let⟨⟨J,K,r⟩,⟨c0,M,N⟩,d⟩:=H.out.c9;have hle:=H.out.rd.C;simp only at M N hle;cases t;by_cases e1:a=B.size;rotate_left;by_cases O:iP B (a,È)=Ã 59;rotate_left
 .have hE:xR B (a,È)=na B 8 [] (a,È):=if_neg (by rintro(q|q|q);cases q;exact e1 q;exact O q);have e3:((a:Int)==(B.size:Int))=È:=by rw[beq_eq_false_iff_ne];omega
  have P:=eZ hE;have e4:=decide_eq_false O;clear hE O;go_wp2;go_quiet ((go_at_call 81;exact Ρ<|zz (H.out.rd.fE<|fc.jh _ _ _) _));let⟨i0,qj,oJ,AY,AZ⟩:=Ĥ asg;have HI:=eZ<|À qj<|À oJ<|À AY AZ;clear qj oJ AY AZ J K r c0 M N d e3 e4;go_wp2;go_loopw [5] (λi wr=>∃(c:List PT) (τ:RS) (p:Option ŝ) (cp:Nat),c.length<=8/\i=Â Ä c.length/\LS w b B 135 w.heap.size (w.heap.size+1) [Â Ŋ kd,Â Ä v,Â Ä z,Â Ä x,Â Ä C,Â Ä D,Â Ä F,Â Ä G,Ç p c.length cp] DW τ wr/\wr.ownsRow w.heap.size 260 6 (Ç p c.length cp) c.length (oQ c)/\na B 8 [] (a,È)=na B (8-c.length) c τ) λi _=>8-(ï i).toNat
  case atStart=>exact⟨[],(a,È),Å,0,fp,U,H.out.fE<|fc.jh _ _ _,ò _ _ _ _,U⟩
  case round=>
   clear H;obtain⟨c,⟨k,t⟩,p,cp,C5,rfl,hL,hO,hF⟩:=hrel;obtain⟨n,hn⟩:∃n,c.length=n:=⟨_,U⟩;let⟨⟨J,K,r⟩,⟨c0,M,N⟩,d⟩:=hL.c9;have f8:=d 8;simp only[hn]at M N r C5|-;have H:=eZ<|À hL<|À hO<|À hF hn;clear hL hO hF hn d;cases t;by_cases hj:(n:Int)<8
   .have hx:=H.out.1.rd;have s:=asc hx;have nU:∀m,n=m->na B (8-m) c (k,È)=if iP B (lM B (k,È)).2=Ã 44/\8-m-1≠0 then na B (8-m-1) (c++[(lM B (k,È)).1]) (fS B (lM B (k,È)).2 [44]).2 else(c++[(lM B (k,È)).1],(lM B (k,È)).2):=by
     rintro m rfl;rw[show 8-n=(8-n-1)+1 by omega];rfl
    have HB:=eZ nU;clear nU hx;generalize lM B (k,È)=q at*;let⟨⟨f,tp⟩,τ⟩:=q;simp only[zC]at s;generalize Nn:(if f.getD 4 0=1 then(62:Int)else if f.getD 4 0=2 then 123 else 58)=k0 at s;generalize h0:f.getD 0 0=t0 at s;generalize h1:f.getD 1 0=t1 at s;generalize l:f.getD 2 0=t2 at s;generalize h3:f.getD 3 0=t3 at s;have HK:=eZ (show oQ (c++[⟨f,tp⟩])=oQ c++[Â Ŋ k0,Â Ä t0,Â Ä t1,Â Ä t2,Â Ä t3,Ê tp] by rw[asf];simp only[zC,Nn,h0,h1,l,h3]);clear Nn h0 h1 l h3;have g:=HB.out n U;clear HB;by_cases u:iP B τ=Ã 44;by_cases T:n+1=8;have Lu:=decide_eq_true u;have h7':((n:Int)+1==8)=Ë:=by rw[beq_iff_eq];omega
    rw[if_neg (by rintro⟨_,q⟩;exact q Z)]at g;have I:=eZ g;clear g u T;rotate_left;have Lu:=decide_eq_true u;rw[if_pos ⟨u,Z⟩]at g;have I:=eZ g;clear g u;rotate_left;have Lu:=decide_eq_false u;rw[if_neg λq=>u q.1]at g;have I:=eZ g;clear g u;all_goals
     go_wp2_with (first
      |(go_at_call 163;refine s.mono ?_;rintro e w4 ⟨rfl,h4⟩;have H:=eZ (À (H.out.1.gL h4)<|À (im H.out.2.1 h4.2 λj q e=>iL H.out.2.1 H.out.1.rd.r A<|e▸q) H.out.2.2);clear h4 s;let⟨⟨J,K,r⟩,⟨c0,M,N⟩,d⟩:=H.out.1.c9;simp only[H.out.2.2.2]at r;have f8:=d 8;have l4:=H.out.1.t.M)
      |(at_builtin;refine xp (n:=c.length) (xs:=oQ c) (m:=1) U _ _ 133 U Tryz.underlying133 HI.out.1 HI.out.2.1 HI.out.2.2.1 HI.out.2.2.2 U (by rw[H.out.2.2.2];rfl) (im H.out.2.1 (kp (X:=fh)) λ_ _=>id) ⟨_,0,Å⟩ _ U Z U (xP _ [Â Ŋ k0,Â Ä t0,Â Ä t1,Â Ä t2,Â Ä t3,Ê tp] 260) (by simp[ß]) (by rw[H.out.2.2.2];unfold ď;omega) (by rw[H.out.2.2.2];omega) (by simp;have:=H.out.1.kp.M;omega) ?_;intro tv w5 ha;obtain⟨tq,tcp,rfl⟩:=jv ha.fg;have H:=eZ (À (LS.BQ (H.out.1.fE<|kp (X:=fh)) (im H.out.2.1 (kp (X:=fh)) λ_ _=>id) (Ù _) ha A)<|À ha.fg H.out.2.2);clear ha;let⟨⟨J,K,r⟩,⟨c0,M,N⟩,d⟩:=H.out.1.c9;have f8:=d 8)
      |(go_at_call 81;refine(zz (H.out.1.fO _ _).rd _).mono ?_;rintro e w6 ⟨rfl,m,rfl⟩;have H:=eZ<|À ((H.out.1.fO 8<|Ç tq (c.length+1) tcp).fE<|fc.jh fh _ m)<|À (im (H.out.1.ase H.out.2.1 A 8<|Ç tq (c.length+1) tcp) (fc.jh fh _ m) λ_ _=>id) H.out.2.2)
      |(go_at_call 133;refine(Br H.out.1.rd U U).mono ?_;rintro e w7 ⟨rfl,T⟩;have H:=eZ (À (H.out.1.gL T)<|À (im H.out.2.1 T.2 λj q e=>iL H.out.2.1 H.out.1.rd.r A<|e▸q) H.out.2.2);clear T)
      |(refine qk 135 U ?_;refine LS.ov H.out.1 sd rh U DV ?_ U U U U U U U U U;intro w9 V W k9))
    iterate 2 refine þ (DU V sd rh U U) U ?_ rw[P.out,H.out.2.2.1,(by rw[H.out.2.2.2];exact I.out:na B (8-c.length) c (k,È)=(c++[⟨f,tp⟩],τ))] exact⟨_,U,by have:=J5 (im H.out.2.1 k9 λj q e=>iL H.out.2.1 H.out.1.o A<|e▸q);rw[HK.out,à];exact this,W⟩
    go_roundw
    case rel=>exact⟨c++[⟨f,tp⟩],(fS B τ [44]).2,tq,tcp,by simp[H.out.2.2.2];omega,by rw[à,H.out.2.2.2];go_num,by rw[à];exact H.out.1,by rw[HK.out,à];exact H.out.2.1,by rw[H.out.2.2.1,H.out.2.2.2,I.out,à,H.out.2.2.2];rfl⟩
    case measure=>simp[ï];omega
   all_goals
    first
     |(have hd:=decide_eq_false hj;have I:=eZ<|show na B (8-n) c (k,È)=(c,k,È) by rw[show 8-n=0 by omega];rfl)
     |have I:=eZ<|show na B (8-n) c (k,Ë)=(c,k,Ë) by cases 8-n<;>rfl
    go_wp2_with (apply qk 135 U;refine LS.ov H.out.1 sd rh U DV ?_ U U U U U U U U U;intro w9 V W k9)
    all_goals
     apply þ (DU V sd rh U U) U;rw[P.out,H.out.2.2.1,H.out.2.2.2,I.out];exact⟨_,U,by have:=J5 (im H.out.2.1 k9 λj q e=>iL H.out.2.1 H.out.1.o A<|e▸q);rwa[H.out.2.2.2]at this|-,W⟩
 have P:=eZ (show xR B (a,Ë)=([],a,Ë)from if_pos<|É U);rotate_left;have P:=eZ (show xR B (a,È)=([],a,È)from if_pos<|Ð<|É e1);have e3:((a:Int)==(B.size:Int))=Ë:=by rw[beq_iff_eq,e1]
 clear e1;rotate_left;have P:=eZ (show xR B (a,È)=([],a,È)from if_pos<|Ð<|Ð O);have e3:((a:Int)==(B.size:Int))=È:=by rw[beq_eq_false_iff_ne];omega
 have e4:=decide_eq_true O;clear O;all_goals
  go_wp2;first|go_quiet (fail)|go_quiet ((go_at_call 81;exact Ρ<|zz (H.out.rd.fE<|fc.jh _ _ _) _))
  go_wp2_with (apply qk 135 U;refine LS.ov (H.out.fE<|fc.jh _ _ _) sd rh U DV ?_ U U U U U U U U U;intro w9 V W k9)
  apply þ (DU V sd rh U U) U;rw[P.out];exact⟨_,U,ie.C _ _,W⟩
end
def lN(r:PR)(a:Í):List Í:=[Â Ŋ<|kX.getD (r.c.getD 4 0-1).toNat 0,Â Ä<|r.c.getD 5 0,Â Ä<|r.c.getD 6 0,Â Ä<|r.c.getD 0 0,Â Ä<|r.c.getD 1 0,Â Ä<|r.c.getD 7 0,Â Ä<|r.c.getD 2 0,Â Ä<|r.c.getD 3 0,a]
section
variable{d g:List Í}{E f:RS}
def LS.d9{c d e f j:Í}(h:LS W b B T n i [v,x,z,jQ,c,d,e,f,j] g E w):(w.cell? ⟨n,0,Å⟩=Ã v/\w.cell? ⟨n,1,Å⟩=Ã x/\w.cell? ⟨n,2,Å⟩=Ã z/\w.cell? ⟨n,3,Å⟩=Ã jQ/\w.cell? ⟨n,4,Å⟩=Ã c/\w.cell? ⟨n,5,Å⟩=Ã d/\w.cell? ⟨n,6,Å⟩=Ã e/\w.cell? ⟨n,7,Å⟩=Ã f/\w.cell? ⟨n,8,Å⟩=Ã j)/\w.cell? ⟨b,2,Å⟩=Ã (í E.2)/\∀a,w.frozen? ⟨n,a,Å⟩=È:= ⟨⟨h.mO 0 U,h.mO 1 U,h.mO 2 U,h.mO 3 U,h.mO 4 U,h.mO 5 U,h.mO 6 U,h.mO 7 U,h.mO 8 U⟩,h.rd.r.r 2 _ U,h.t.I⟩
def asi{l:List Int}(h:(fS B E l).2.2=Ë):(fS B E l).1=0:=by
 unfold fS at*;split at h
 .split at h
  .cases h
  .rw[if_neg ‹_›]
 .rfl
def Ve(h:oP b B E w)(a:jS b B f (w.alloc<|Ó DW.toArray 135) jX)(d:List Í):LS w b B 135 jX.heap.size w.heap.size d DW f (jX.alloc<|Ó d.toArray 135):=by have c:=h.r.M;have e:=a.2.M;simp at e;exact⟨a.1.fE kp,fq.N jX d 135,((fq.N w DW 135).C a.2 Z).C (kp (X:=fh)) id,((kp (X:=λk=>k=b)).fj a.2).fj kp,⟨Z,Ù _,Z,c⟩,U⟩
def acP:pP 0=[86,58,120,47]/\pP 1=[86,58,120,115]/\pP 2=[86,58,120]/\pP 3=[86,58,120,62,121,40,110,44,107,41]/\pP 4=[86,58,120,62,121,40,107,41]/\pP 5=[86]/\pP 6=[86]/\pP 7=[86]/\pP 8=[86,58,87]:=A
def asj(h:oP b B E w):ì Á 80 #[Æ<|Ã ⟨b,0,Å⟩] w λe u=>∃J,e=Ñ (ÿ (lN (kY B E).1 J).toArray)/\ie 260 J (kY B E).1.tx.length (oQ (kY B E).1.tx) u/\jS b B (kY B E).2 w u:=by
 have W:=h.I;have O:oP b B E (w.alloc<|Ó #[Â Ŋ 0,Â Ä 0,Â Ä 0,Â Ä 0,Â Ä 0,Â Ä 0,Â Ä 0,Â Ä 0,Ç Å 0 0] 135):=h.fE kp;have i:=DR (L:=⟨#[105,103,98,99,109,114,108,117,100]⟩) O A;rw[show gN ⟨#[105,103,98,99,109,114,108,117,100]⟩=kX from rfl]at i;have T:(fS B E kX).1<9:=by have:=J2 (B:=B) (E:=E) (l:=kX);have:kX.length=9:=rfl;omega
 have K:=asi (B:=B) (E:=E) (l:=kX);unfold kY;generalize fS B E kX=q at*;let⟨k,a,t⟩:=q;simp only at K T i|-;have M:=eZ h;clear h O;cases t
 .simp only[Ô,if_false];clear K;by_cases V:k=0
  .subst V;have e:∀(c:List Int) (p:RS),Bp B 0 (c,p)=(⟨c,(xR B p).1⟩,(xR B p).2):=λc p=>by
    unfold Bp xR;simp only[ne_eq,not_true,false_or];split<;>rfl
   simp only[acP,mZ,J4,N7,N8,PD.uG,ť,ļ,e];clear e;go_enter ſ,Ų;go_wp2_with (first
    |(go_at_call 131;refine i.mono ?_;rintro e P ⟨rfl,f⟩;have g:=f.1.r.r 2 _ U;have Q:=f.1.r.M;have H:=eZ<|Ve M.out f [Â Ŋ 105,Â Ä 0,Â Ä 0,Â Ä 0,Â Ä 0,Â Ä 0,Â Ä 0,Â Ä 0,Ç Å 0 0];clear i f)
    |(go_at_call 132;refine(N5 H.out.rd).mono ?_;rintro e m ⟨rfl,d⟩;have H:=eZ<|H.out.gL d;clear d;let⟨⟨n,r,s,v,x,y,z,C,D⟩,g,F⟩:=H.out.d9)
    |(go_at_call 133;refine(Br (H.out.fO _ _).rd U U).mono ?_;rintro e m ⟨rfl,d⟩;have H:=eZ<|(H.out.fO _ _).gL d;clear d;let⟨⟨n,r,s,v,x,y,z,C,D⟩,g,F⟩:=H.out.d9)
    |(go_at_call 134;refine(ash H.out.rd _ _ _ _ _ _ _ _).mono ?_;rintro e N ⟨J,rfl,j,G⟩;let⟨tp,S,I,_⟩:=id j;subst I;have H:=eZ<|À (H.out.gL G) j;clear j G)
    |(refine LS.fZ H.out.1 (by exact rh) fL DV ?_ U U U U U;intro S G I N))
   exact þ (DU G sd rh U U) U ⟨_,U,H.out.2.I N (λj X Y e q=>by subst e;rw[H.out.1.o]at q;cases q),I⟩
  .obtain rfl|rfl|rfl|rfl|rfl|rfl|rfl|rfl:k=1\/k=2\/k=3\/k=4\/k=5\/k=6\/k=7\/k=8:=Z
   all_goals
    simp only[Bp,acP,mZ,J4,N7,N8,PD.uG,ť,ļ,ne_eq,show¬(1=0) by decide,not_false_eq_true,true_or,if_true];go_enter ſ,Ų;go_wp2_with (first
     |(go_at_call 131;refine i.mono ?_;rintro e P ⟨rfl,f⟩;have g:=f.1.r.r 2 _ U;have Q:=f.1.r.M;have H:=eZ λj=>Ve M.out f [Â Ŋ j,Â Ä 0,Â Ä 0,Â Ä 0,Â Ä 0,Â Ä 0,Â Ä 0,Â Ä 0,Ç Å 0 0];clear i f)
     |(go_at_call 132;refine(N5 (H.out _).rd).mono ?_;rintro e m ⟨rfl,d⟩;have H:=eZ<|(H.out _).gL d;clear d;let⟨⟨n,r,s,v,x,y,z,C,D⟩,g,F⟩:=H.out.d9)
     |(go_at_call 132;(first|with_reducible refine(N5 H.out.rd).mono ?_|refine(N5 (H.out.put _ _).rd).mono ?_);rintro e m ⟨rfl,d⟩;(first|with_reducible have H:=eZ (H.out.gL d)|have H:=hide<|(H.out.put _ _).call d);clear d;let⟨⟨n,r,s,v,x,y,z,C,D⟩,g,F⟩:=H.out.d9)
     |(go_at_call 131;(first|with_reducible refine(DR H.out.rd A).mono ?_|refine(DR (H.out.fO _ _).rd A).mono ?_);rintro e m ⟨rfl,d⟩;(first|with_reducible have H:=eZ (H.out.gL d)|have H:=eZ<|(H.out.fO _ _).gL d);clear d;let⟨⟨n,r,s,v,x,y,z,C,D⟩,g,F⟩:=H.out.d9)
     |(go_at_call 133;(first|with_reducible refine(Br H.out.rd U U).mono ?_|refine(Br (H.out.fO _ _).rd U U).mono ?_);rintro e m ⟨rfl,d⟩;(first|with_reducible have H:=eZ (H.out.gL d)|have H:=eZ<|(H.out.fO _ _).gL d);clear d;let⟨⟨n,r,s,v,x,y,z,C,D⟩,g,F⟩:=H.out.d9)
     |(go_at_call 135;(first|with_reducible refine(JZ H.out.rd).mono ?_|refine(JZ (H.out.put _ _).rd).mono ?_);rintro e m ⟨rfl,d⟩;(first|with_reducible have H:=eZ (H.out.gL d)|have H:=hide<|(H.out.put _ _).call d);clear d;let⟨⟨n,r,s,v,x,y,z,C,D⟩,g,F⟩:=H.out.d9)
     |(go_at_call 136;(first|refine(N4 H.out.rd 5 A).mono ?_|refine(N4 (H.out.put _ _).rd 5 A).mono ?_);rintro e m ⟨rfl,d⟩;(first|with_reducible have H:=eZ (H.out.gL d)|have H:=hide<|(H.out.put _ _).call d);clear d;let⟨⟨n,r,s,v,x,y,z,C,D⟩,g,F⟩:=H.out.d9)
     |(refine qk 135 U ?_;(first|refine LS.ov (H.out.fO _ _) sd rh U DV ?_ U U U U U U U U U|refine LS.ov H.out sd rh U DV ?_ U U U U U U U U U);intro S G I N))
    exact þ (DU G sd rh U U) U ⟨_,U,ie.C _ _,I⟩
 .obtain rfl:=K U;simp only[if_true];go_enter ſ,Ų;go_wp2_with (first
   |(go_at_call 131;refine i.mono ?_;rintro e P ⟨rfl,f⟩;have H:=eZ<|Ve M.out f [Â Ŋ 105,Â Ä 0,Â Ä 0,Â Ä 0,Â Ä 0,Â Ä 0,Â Ä 0,Â Ä 0,Ç Å 0 0];have g:=f.1.r.r 2 _ U;have Q:=f.1.r.M;clear i f)
   |(refine qk 135 U ?_;refine LS.ov H.out sd rh U DV ?_ U U U U U U U U U;intro S G I N))
  exact þ (DU G sd rh U U) U ⟨_,U,ie.C _ _,I⟩
end
def uP(a:List (PR×Value)):List Í:=a.flatMap λp=>lN p.1 p.2
def tC(v:Í)(rs:List PR)(w:Þ):Prop:=∃a:List (PR×Value),a.map (·.1)=rs/\ie 135 v rs.length (uP a) w/\∀p∈a,ie 260 p.2 p.1.tx.length (oQ p.1.tx) w
def tC.r(w:Þ):tC (Ç Å 0 0) [] w:=⟨[],U,ie.C _ _,λ_ q=>by cases q⟩
def asl:(Á.info? 135).map (λi=>(i.zero,i.size,i.bytes))=Ã (Ã<|ÿ #[Â Ŋ 0,Â Ä 0,Â Ä 0,Â Ä 0,Â Ä 0,Â Ä 0,Â Ä 0,Â Ä 0,Ç Å 0 0],9,88):=fx
structure RL(w0:Þ)(b:Nat)(B:ByteArray)(a:Nat)(t:Bool)(v:Í)(ps:List (PR×Value))(w:Þ):Prop where
 rd:oP b B (a,t) w
 fg:w.ownsRow w0.heap.size 135 9 v ps.length (uP ps)
 C:∀p∈ps,ie 260 p.2 p.1.tx.length (oQ p.1.tx) w
 kp:fc fh w0 w
 r:w0.heap.size<=b
section
variable{w0 w':Þ}{a:Nat}{ps:List (PR×Value)}{t:Bool}{E:RS}
def RL.fE(h:RL w0 b B a t v ps w)(k:fc fh w w'):RL w0 b B a t v ps w':=⟨h.rd.fE k,im h.fg k λ_ _=>id,λp q=>(h.C p q).fE k,h.kp.fj k,h.r⟩
def RL.gL(h:RL w0 b B a t v ps w)(k:jS b B E w w'):RL w0 b B E.1 E.2 v ps w':= ⟨k.1,im h.fg k.2 λj q e=>iL h.fg h.rd.r A<|e▸q,λp q=>(h.C p q).r k.2 h.rd.r,h.kp.C k.2 λi c q=>by have:=h.r;omega,h.r⟩
theorem RL.I{r:PR}(h:RL w0 b B a t v ps w)(l:ie 260 z r.tx.length (oQ r.tx) w)(k:nX w w0.heap.size 135 9 v ps.length (uP ps) 1 (lN r z) x w'):RL w0 b B a t x (ps++[(r,z)]) w':=by
 have g:∀{c:Í} {n:Nat} {f:List Í},ie 260 c n f w->ie 260 c n f w':=λq=>q.I k.r λj f m e d=>by let⟨p,i⟩:=nW h.fg e;rw[i]at d;cases d
 refine⟨⟨h.rd.r.C k.r<|iL h.fg h.rd.r A,h.rd.C,h.rd.I⟩,?_,λp q=> ?_,h.kp.C k.r λi o q=>by have:=(h.fg.lt i q).1;omega,h.r⟩
 .have:=k.fg;rw[show uP (ps++[(r,z)])=uP ps++lN r z by simp[uP],à];exact this
 .rcases ý.1 q with q|q
  .exact g<|h.C p q
  .grind
def RL.rq(h:RL w0 b B a t v ps w):tC v (ps.map (·.1)) w:=⟨ps,U,by rw[ġ];exact J5 h.fg,h.C⟩
def acQ(hB:B.size<=1200)(w:Þ):ì Á 58 #[Ê B] w λe w'=>∃v,e=Ñ (Đ #[v,Â Ä (xM B).2])/\tC v (xM B).1 w'/\fc fh w w':=by
 unfold xM;by_cases s:B.size=0
 .rw[if_pos s];obtain rfl:B=⟨#[]⟩:=by
   let⟨d⟩:=B;have:d=#[]:=Array.eq_empty_of_size_eq_zero s;rw[this]
  go_enter ak,σ;go_wp2;go_ret2;exact⟨_,U,tC.r _,fc.fV _ _⟩
 .rw[if_neg s];have ht:(B.toList==[])=È:=by
   rw[Ķ];cases hl:B.data.toList with
   |nil=>exact absurd (by have:=congrArg ar hl;simpa using this) s
   |cons a l=>rfl
  let⟨i0,Q,S,T,V⟩:=Ĥ asl;have j:=eZ<|À Q<|À S<|À T V;clear Q S T V;have W:=fq.N w [Ê B,Â Ä 0,í È] 180;have L:RL w w.heap.size B 0 È (Ç Å 0 0) [] (w.alloc<|Ó #[Ê B,Â Ä 0,í È] 180):=⟨⟨W,Û _,hB⟩,ò _ _ _ _,(λ_ q=>by cases q),kp,Ù _⟩;have H:=eZ L;clear W L;go_enter ak,σ;go_wp2;generalize w.alloc (Ó #[Ê B,Â Ä 0,í È] 180)=wa at*;go_loopw [4] (λl wr=>∃(ps:List (PR×Value)) (a:Nat) (p:Option ŝ) (M:Nat),l=Ç p ps.length M/\ps.length<=24/\RL w w.heap.size B a È (Ç p ps.length M) ps wr/\xL B 24 0 []=xL B (24-ps.length) a (ps.map (·.1))) (λl _=>match l with|Ç _ n _=>24-n|_=>0)
  case atStart=>exact⟨[],0,Å,0,U,fp,H.out,U⟩
  case round=>
   clear H ht s;obtain⟨ps,a,p,M,rfl,Vf,J,hF⟩:=hrel;obtain⟨n,N⟩:∃n,ps.length=n:=⟨_,U⟩;simp only[N]at hF Vf|-;have b:=J.rd.r.r 1 _ U;simp only at b;have C:=asj J.rd;have H:=eZ<|À J<|À hF N;clear J hF N;by_cases gE:(n:Int)<24
   .have h:xL B (24-n) a (ps.map (·.1))=if(kY B (a,È)).2.2 then([],((kY B (a,È)).2.1:Int))else if(kY B (a,È)).2.1=B.size then(ps.map (·.1)++[(kY B (a,È)).1],-1) else if iP B (kY B (a,È)).2=Ã 59/\24-n-1≠0 then xL B (24-n-1) ((kY B (a,È)).2.1+1) (ps.map (·.1)++[(kY B (a,È)).1])else([],((kY B (a,È)).2.1:Int)):=by
     rw[show 24-n=(24-n-1)+1 by omega];rfl
    simp only[lN]at C;generalize kY B (a,È)=q at*;let⟨r,D,t⟩:=q;simp only at C h;generalize s:kX.getD (r.c.getD 4 0-1).toNat 0=k0 at C;generalize X:r.c.getD 5 0=k1 at C;generalize Y:r.c.getD 6 0=k2 at C;generalize h3:r.c.getD 0 0=k3 at C;generalize k:r.c.getD 1 0=k4 at C;generalize h5:r.c.getD 7 0=k5 at C;generalize h6:r.c.getD 2 0=k6 at C;generalize h7:r.c.getD 3 0=k7 at C;have O:=eZ (λG=>show lN r G=[Â Ŋ k0,Â Ä k1,Â Ä k2,Â Ä k3,Â Ä k4,Â Ä k5,Â Ä k6,Â Ä k7,G] by simp only[lN,s,X,Y,h3,k,h5,h6,h7]);clear s X Y h3 k h5 h6 h7;cases t;by_cases K:D=B.size
    .rw[if_neg fp,if_pos K]at h;have e3:((D:Int)==(B.size:Int))=Ë:=by rw[beq_iff_eq,K]
     have x:=eZ h;clear h K;go_wp2_with (first
      |(go_at_call 80;refine C.mono ?_;rintro e w4 ⟨G,rfl,o,k⟩;let⟨tp,E,I,_⟩:=id o;subst I;have H:=eZ<|À (H.out.1.gL k)<|À o H.out.2;clear o k C;have b:=H.out.1.rd.r.r 1 _ U;have f:=H.out.1.rd.r.r 2 _ U;have y:=H.out.1.rd.r.I 1;have z:=H.out.1.rd.r.M;have g:=H.out.1.rd.C;simp only at b f g)
      |(at_builtin;refine xp (n:=ps.length) (xs:=uP ps) (m:=1) U _ _ 129 U Ľ j.out.1 j.out.2.1 j.out.2.2.1 j.out.2.2.2 U (by rw[H.out.2.2.2];rfl) (H.out.1.fE kp).fg ⟨_,0,Å⟩ _ U Z U (xP _ [Â Ŋ k0,Â Ä k1,Â Ä k2,Â Ä k3,Â Ä k4,Â Ä k5,Â Ä k6,Â Ä k7,Ç tp r.tx.length E] 135) (by simp[ß]) (by rw[H.out.2.2.2];unfold ď;omega) (by rw[H.out.2.2.2];omega) (H.out.1.fE kp).kp.M ?_;intro v5 w5 i;obtain⟨q,P,rfl⟩:=jv i.fg;rw[<-O.out]at i;have H:=eZ (À (RL.I (H.out.1.fE kp) (H.out.2.1.fE kp) i) H.out.2.2);clear i;have b:=H.out.1.rd.r.r 1 _ U;have f:=H.out.1.rd.r.r 2 _ U;have y:=H.out.1.rd.r.I 1;have z:=H.out.1.rd.r.M;have g:=H.out.1.rd.C;simp only at b f g))
     go_ret2;rw[H.out.2.1,x.out];exact⟨_,U,by have:=H.out.1.rq;rwa[ő]at this,H.out.1.kp⟩
    have e3:((D:Int)==(B.size:Int))=È:=by rw[beq_eq_false_iff_ne];omega
    rw[if_neg fp,if_neg K]at h;by_cases u:iP B (D,È)=Ã 59/\24-n-1≠0
    .rw[if_pos u]at h;have F:=decide_eq_true u.1;have e6:((ps.length:Int)+1==24)=È:=by rw[beq_eq_false_iff_ne,H.out.2.2];omega
     have x:=eZ h;have HL:=eZ (DO u.1).2.1;clear h u;go_wp2_with (first
      |(go_at_call 80;refine C.mono ?_;rintro e w4 ⟨G,rfl,o,k⟩;let⟨tp,E,I,_⟩:=id o;subst I;have H:=eZ<|À (H.out.1.gL k)<|À o H.out.2;clear o k C;have b:=H.out.1.rd.r.r 1 _ U;have f:=H.out.1.rd.r.r 2 _ U;have y:=H.out.1.rd.r.I 1;have z:=H.out.1.rd.r.M;have g:=H.out.1.rd.C;simp only at b f g)
      |(at_builtin;refine xp (n:=ps.length) (xs:=uP ps) (m:=1) U _ _ 129 U Ľ j.out.1 j.out.2.1 j.out.2.2.1 j.out.2.2.2 U (by rw[H.out.2.2.2];rfl) (H.out.1.fE kp).fg ⟨_,0,Å⟩ _ U Z U (xP _ [Â Ŋ k0,Â Ä k1,Â Ä k2,Â Ä k3,Â Ä k4,Â Ä k5,Â Ä k6,Â Ä k7,Ç tp r.tx.length E] 135) (by simp[ß]) (by rw[H.out.2.2.2];unfold ď;omega) (by rw[H.out.2.2.2];omega) (H.out.1.fE kp).kp.M ?_;intro v5 w5 i;obtain⟨q,P,rfl⟩:=jv i.fg;rw[<-O.out]at i;have H:=eZ<|À (RL.I (H.out.1.fE kp) (H.out.2.1.fE kp) i) H.out.2.2;clear i;have b:=H.out.1.rd.r.r 1 _ U;have f:=H.out.1.rd.r.r 2 _ U;have y:=H.out.1.rd.r.I 1;have z:=H.out.1.rd.r.M;have g:=H.out.1.rd.C;simp only at b f g)
      |(go_at_call 81;refine(zz H.out.1.rd _).mono ?_;rintro e w6 ⟨rfl,m,rfl⟩;have H:=eZ (À (H.out.1.fE (fc.jh _ _ m)) H.out.2);have b:=H.out.1.rd.r.r 1 _ U;have f:=H.out.1.rd.r.r 2 _ U;have y:=H.out.1.rd.r.I 1;have z:=H.out.1.rd.r.M;have g:=H.out.1.rd.C;simp only at b f g))
     go_roundw
     case rel=>exact⟨ps++[(r,Ç tp r.tx.length E)],D+1,q,P,by rw[à];rfl,by rw[à,H.out.2.2];simp;omega,by rw[à];exact H.out.1.gL<|jS.M ⟨H.out.1.rd,fc.fV _ _⟩ U HL.out,by rw[H.out.2.1,x.out,à,H.out.2.2,ő];rfl⟩
     case measure=>simp[H.out.2.2];omega
    rw[if_neg u]at h;have x:=eZ h;clear h;by_cases F:iP B (D,È)=Ã 59;have e6:((ps.length:Int)+1==24)=Ë:=by rw[beq_iff_eq,H.out.2.2];have:¬(24-n-1≠0):=λq=>u ⟨F,q⟩;omega
    have e7:=decide_eq_true F;clear u F;rotate_left;have e7:=decide_eq_false F;clear u F;rotate_left;rw[if_pos U]at h;have x:=eZ h;clear h;all_goals
     go_wp2_with (first
      |(go_at_call 80;refine C.mono ?_;rintro e w4 ⟨G,rfl,o,k⟩;let⟨tp,E,I,_⟩:=id o;subst I;have H:=eZ<|À (H.out.1.gL k)<|À o H.out.2;clear o k C;have b:=H.out.1.rd.r.r 1 _ U;have f:=H.out.1.rd.r.r 2 _ U;have y:=H.out.1.rd.r.I 1;have z:=H.out.1.rd.r.M;have g:=H.out.1.rd.C;simp only at b f g)
      |(at_builtin;refine xp (n:=ps.length) (xs:=uP ps) (m:=1) U _ _ 129 U Ľ j.out.1 j.out.2.1 j.out.2.2.1 j.out.2.2.2 U (by rw[H.out.2.2.2];rfl) (H.out.1.fE kp).fg ⟨_,0,Å⟩ _ U Z U (xP _ [Â Ŋ k0,Â Ä k1,Â Ä k2,Â Ä k3,Â Ä k4,Â Ä k5,Â Ä k6,Â Ä k7,Ç tp r.tx.length E] 135) (by simp[ß]) (by rw[H.out.2.2.2];unfold ď;omega) (by rw[H.out.2.2.2];omega) (H.out.1.fE kp).kp.M ?_;intro v5 w5 i;obtain⟨q,P,rfl⟩:=jv i.fg;rw[<-O.out]at i;have H:=eZ<|À (RL.I (H.out.1.fE kp) (H.out.2.1.fE kp) i) H.out.2.2;clear i;have b:=H.out.1.rd.r.r 1 _ U;have f:=H.out.1.rd.r.r 2 _ U;have y:=H.out.1.rd.r.I 1;have z:=H.out.1.rd.r.M;have g:=H.out.1.rd.C;simp only at b f g)
      |(go_at_call 81;refine(zz H.out.1.rd _).mono ?_;rintro e w6 ⟨rfl,m,rfl⟩;have H:=eZ (À (H.out.1.fE (fc.jh _ _ m)) H.out.2);have b:=H.out.1.rd.r.r 1 _ U;have f:=H.out.1.rd.r.r 2 _ U;have y:=H.out.1.rd.r.I 1;have z:=H.out.1.rd.r.M;have g:=H.out.1.rd.C;simp only at b f g))
     go_quiet (fail)
     go_wp2;go_ret2;first|rw[H.out.2.1,x.out]|rw[H.out.2.2.1,x.out]
     exact⟨_,U,tC.r _,H.out.1.kp.fj kp⟩
   .go_wp2;go_quiet (fail);go_wp2;go_ret2;rw[H.out.2.1,show 24-n=0 by omega];exact⟨_,U,tC.r _,H.out.1.kp.fj kp⟩
def J6(B:ByteArray):Int×Int:=if 1200<B.size then(1,0)else if 0<=(xM B).2 then(2,(xM B).2)else(0,0)
def asn(b:B.size<=ď)(w:Þ):ì Á 57 #[Ê B] w λe w'=>e=Ñ (Đ #[Â Ä (J6 B).1,Â Ä (J6 B).2])/\fc fh w w':=by
 unfold J6;by_cases h:1200<B.size
 .rw[if_pos h];go_enter Α,ų;go_wp2;go_ret2;exact⟨U,fc.fV _ _⟩
 .rw[if_neg h];have C:=acQ (B:=B) Z w;generalize xM B=q at*;let⟨c,z⟩:=q;simp only at C|-;by_cases a:0<=z
  .rw[if_pos a];go_enter Α,ų;go_wp2_with (go_at_call 58;apply C.mono;rintro e u ⟨v,rfl,_,k⟩);go_ret2;exact⟨U,k⟩
  .rw[if_neg a];go_enter Α,ų;go_wp2_with (go_at_call 58;apply C.mono;rintro e u ⟨v,rfl,_,k⟩);go_ret2;exact⟨U,k⟩
end
end Go.Proofs.Y.gu
namespace Go.Proofs.Y.gu
open Go Go.Proofs Go.RowKit Go.Proofs.Y.Lift
theorem acR{s c:St}(e:i<144)(f:oe c i=v)(g:∀b,b<144->b≠i->oe c b=oe s b):(iH s).set i v=iH c:=by
 apply Ŵ;intro b;rw[List.getElem?_set];by_cases d:b<144
 .rw[zx c d,zx s d,mW];grind
 .rw[ă (by rw[mW];omega),ă (by rw[mW];omega)];grind
theorem acS(s:St)(a:i<8)(x:Int):(iH s).set i (Â Ý x)=iH (s.ft i x):=by
 refine acR Z ?_ λj b c=> ?_
 .simp[oe,a,St.ft,St.fO,rM]
 .unfold oe St.ft St.fO;grind
end Go.Proofs.Y.gu
namespace Go.Proofs.Y.gu
open Go Go.Proofs Go.RowKit Go.Proofs.Y.Lift Go.Proofs.Y.iV Go.Proofs.Y.lC
structure BK(w0:Þ)(nb:Nat)(u1 u2:List (Int×Bool))(p:VR)(w:Þ):Prop where
 r:fq nb (gJ p) 126 w
 N:ie 236 p.2.1 p.1.C.length (oI p.1.C) w
 I:w.ownsRow w0.heap.size 4 1 p.2.2.1 u1.length (uL u1)
 C:w.ownsRow w0.heap.size 3 1 p.2.2.2 u2.length (uK u2)
 kp:fc fh w0 w
 M:w0.heap.size<=nb
section
variable{w0 w':Þ}{nb:Nat}{v:fM}{c:Í}{p:VR}{u1 u2:List (Int×Bool)}
def BK.fE(h:BK w0 nb u1 u2 p w)(k:fc fh w w'):BK w0 nb u1 u2 p w':=⟨h.r.C k id,h.N.fE k,im h.I k λ_ _=>id,im h.C k λ_ _=>id,h.kp.fj k,h.M⟩
def BK.fO(h:BK w0 nb u1 u2 (v,jQ,c,z) w)(i:Nat)(x:Í){b:fM}(e:(gJ (v,jQ,c,z)).set i x=gJ (b,jQ,c,z))(d:b.C=v.C):BK w0 nb u1 u2 (b,jQ,c,z) (w.setCell ⟨nb,i,Å⟩ x):=by
 have k:=fc.I (X:=λk=>k=nb) (p:=⟨nb,i,Å⟩) U x<|Ð h.r.S;refine⟨by rw[<-e];exact h.r.fO i x,?_,?_,?_,h.kp.C k λj f q=>by have:=h.M;omega,h.M⟩
 .show ie 236 jQ b.C.length (oI b.C) _;rw[d];exact h.N.r k h.r
 .exact im h.I k λj q a=>iL h.I h.r A<|a▸q
 .exact im h.C k λj q a=>iL h.C h.r A<|a▸q
def BK.ft(h:BK w0 nb u1 u2 (v,jQ,c,z) w)(a:i<8)(x:Int):BK w0 nb u1 u2 ({v with s:=v.s.ft i x},jQ,c,z) (w.setCell ⟨nb,i,Å⟩<|Â Ý x):= h.fO i _ (by show(iH v.s++_).set i _=iH (v.s.ft i x)++_;rw[İ _ _ (by rw[mW];omega),acS v.s a]) U
theorem aso(s:St)(a:i<8)(x:ByteArray):(iH s).set (8+i) (Ê x)=iH (s.r i x):=by
 refine acR Z ?_ λj b c=> ?_
 .rw[NV a];simp[St.r,St.fO]
 .unfold oe St.r St.fO;grind
def BK.IX(h:BK w0 nb u1 u2 (v,jQ,c,z) w)(a:i<8)(x:ByteArray):BK w0 nb u1 u2 ({v with s:=v.s.r i x},jQ,c,z) (w.setCell ⟨nb,8+i,Å⟩<|Ê x):= h.fO (8+i) _ (by show(iH v.s++_).set (8+i) _=iH (v.s.r i x)++_;rw[İ _ _ (by rw[mW];omega),aso v.s a]) U
def BK.Y(h:BK w0 nb u1 u2 (v,jQ,c,z) w)(a:i<144):w.cell? ⟨nb,i,Å⟩=Ã (oe v.s i):=h.r.r _ _<|by show(iH v.s++_)[i]?=_;rw[Ö (by rwa[mW]),zx _ a]
def BK.G(h:BK w0 nb u1 u2 (v,jQ,c,z) w):w.cell? ⟨nb,144,Å⟩=Ã (Â Ä v.h)/\w.cell? ⟨nb,145,Å⟩=Ã jQ/\w.cell? ⟨nb,146,Å⟩=Ã c/\w.cell? ⟨nb,147,Å⟩=Ã z:= ⟨h.r.r _ _<|r8 0 U,h.r.r _ _<|r8 1 U,h.r.r _ _<|r8 2 U,h.r.r _ _<|r8 3 U⟩
theorem BK.asq{e:Int×Bool}(h:BK w0 nb u1 u2 (v,jQ,c,z) w)(k:nX w w0.heap.size 4 1 c u1.length (uL u1) 1 [í e.2] x w'):BK w0 nb (u1++[e]) u2 (v,jQ,x,z) (w'.setCell ⟨nb,146,Å⟩ x):=by
 have d:=h.r.C k.r<|iL h.I h.r A;have f:=fc.I (X:=λk=>k=nb) (p:=⟨nb,146,Å⟩) U x<|Ð d.S;have l:∀{T:ğ} {a:Í} {n:Nat} {g:List Í},T≠4->ie T a n g w->ie T a n g w':=λm q=>q.I k.r λj g o e b=>by let⟨i,r⟩:=nW h.I e;grind
 refine⟨?_,(l A h.N).r f d,?_,?_,(h.kp.C k.r λi r q=>by have:=(h.I.lt i q).1;omega).C f λj i q=>by have:=h.M;omega,h.M⟩
 .have:=d.fO 146 x;rwa[show(gJ (v,jQ,c,z)).set 146 x=gJ (v,jQ,x,z) by show(iH v.s++_).set 146 _=iH v.s++_;rw[œ _ _ (by rw[mW];omega),mW];rfl]at this
 .have:=im k.fg f λj q b=>iL k.fg d A<|b▸q;rwa[show u1.length+1=(u1++[e]).length by simp,show uL u1++[í e.2]=uL (u1++[e]) by simp[uL]]at this
 .refine im (im h.C k.r λj q b=> ?_) f λj q b=> ?_
  .exact IT h.C h.I A q b
  .exact iL (im h.C k.r λj q b=>IT h.C h.I A q b) d A<|b▸q
theorem BK.asr{e:Int×Bool}(h:BK w0 nb u1 u2 (v,jQ,c,z) w)(k:nX w w0.heap.size 3 1 z u2.length (uK u2) 1 [Â Ä e.1] x w'):BK w0 nb u1 (u2++[e]) (v,jQ,c,x) (w'.setCell ⟨nb,147,Å⟩ x):=by
 have d:=h.r.C k.r<|iL h.C h.r A;have f:=fc.I (X:=λk=>k=nb) (p:=⟨nb,147,Å⟩) U x<|Ð d.S;have l:∀{T:ğ} {a:Í} {n:Nat} {g:List Í},T≠3->ie T a n g w->ie T a n g w':=λm q=>q.I k.r λj g o e b=>by let⟨i,r⟩:=nW h.C e;grind
 refine⟨?_,(l A h.N).r f d,?_,?_,(h.kp.C k.r λi r q=>by have:=(h.C.lt i q).1;omega).C f λj i q=>by have:=h.M;omega,h.M⟩
 .have:=d.fO 147 x;rwa[show(gJ (v,jQ,c,z)).set 147 x=gJ (v,jQ,c,x) by show(iH v.s++_).set 147 _=iH v.s++_;rw[œ _ _ (by rw[mW];omega),mW];rfl]at this
 .refine im (im h.I k.r λj q b=> ?_) f λj q b=> ?_
  .exact IT h.I h.C A q b
  .exact iL (im h.I k.r λj q b=>IT h.I h.C A q b) d A<|b▸q
 .have:=im k.fg f λj q b=>iL k.fg d A<|b▸q;rwa[show u2.length+1=(u2++[e]).length by simp,show uK u2++[Â Ä e.1]=uK (u2++[e]) by simp[uK]]at this
theorem asu{s:St}{y:Nat}{n:Int}(g:iZ s)(m:0<=n)(h:n+10<=(s i).ft):(((s.ft i<|(s i).ft-n).ft y<|wu<|(s.ft i ((s i).ft-n) y).ft+n).ft i<|wu<|(((s.ft i<|(s i).ft-n).ft y<|wu<|(s.ft i ((s i).ft-n) y).ft+n) i).ft-10)=(rR s i y n).2:=by
 have f:=g.ft i;unfold rR;rw[if_neg Z];have e:∀z:Int,0<=z->z<18446744073709551616->wu z=z:=λz a b=>AW a b;funext j;unfold St.ft St.fO;by_cases d:y=i
 .subst d;by_cases c:j=y
  .subst c;simp;have k:=f.2;grind
  .simp[c]
 .have l:¬i=y:=λq=>d q.symm;by_cases c:j=i
  .subst c;simp[l,d];have k:=f.2;grind
  .simp[c,d]
def asv{s:St}{q:ByteArray}(b:iZ s)(h:20<=(s i).ft):((s.r i q).ft i<|wu<|((s.r i q) i).ft-20)=(rS s i q).2:=by
 have c:=b.ft i;unfold rS;rw[if_neg Z];funext j;unfold St.ft St.r St.fO;by_cases a:j=i
 .subst a;simp;have d:=c.2;exact AW Z Z
 .simp[a]
end
end Go.Proofs.Y.gu
namespace Go.Proofs.Y.gu
open Go Go.Proofs Go.RowKit Go.Proofs.Y.Lift
instance (K n:Nat):Decidable (asw K n):=by unfold asw;infer_instance
section
variable{c:Array Ī}{E:Prop}
def N9{p:Nat}{cs:List Í}{d:TypeDesc}(a:w.rangeAt b p cs)(c:P.underlying T=Ã d)(e:d.isRow=Ë)(f:(P.info? T).map (·.size)=Ã cs.length)(g:o.op=.load T qQ)(h:y.eval qQ=Æ (Ã ⟨b,p,Å⟩)):(Ğ y.eval o).run P w=.ok (.value<|ÿ cs.toArray) w:=by unfold Ğ;simp only[g,h,Instr.loadAt,Instr.sureAddr,Sem.run_bind,Sem.run_pure,Result.andThen_ok,run_loadVar_mid w b p T cs d a c e f]
end
def acT:(Á.underlying 121).map Ă=Ã Ë:=fx
def Oa:(Á.info? 121).map (·.size)=Ã 144:=fx
def asx(s:St):∀v∈iH s,v.oneCell'=Ë:=λv a=>by
 obtain⟨i,b,rfl⟩:=ù.1 a;unfold oe;repeat' split
 all_goals rfl
end Go.Proofs.Y.gu
namespace Go.Proofs.Y.gu
open Go Go.Proofs Go.RowKit Go.Proofs.Y.Lift Go.Proofs.Y.iV Go.Proofs.Y.lC
def asy:((Á.info? 126).bind (·.zero)).map (λz=>z.cells.toList.drop 144)=Ã [Â Ä 0,Ç Å 0 0,Ç Å 0 0,Ç Å 0 0]:=fx
def asz:((Á.info? 126).bind (·.zero)).map (λz=>z.cells.size)=Ã 148:=fx
def acU:I5 Á 126=Ã [(0,144),(144,1),(145,1),(146,1),(147,1)]:=fx
def asA:(Á.info? 126).map (λi=>(i.size,i.zero.map (·.cells.size)))=Ã (148,Ã 148):=fx
def wm:(Á.info? 126).map (·.size)=Ã 148:=fx
def zD:(Á.underlying 126).map Ă=Ã Ë:=fx
theorem asB(h:l.length=144)(a:v.cells=#[v]):Á.built 126 [(0,ÿ l.toArray),(1,v)]=Ã (l++[v,Ç Å 0 0,Ç Å 0 0,Ç Å 0 0]).toArray:=by let⟨z,g,c,d,f⟩:=M8 asy asz A;rw[I6 acU c,f];have b:=Dk (place:=λi=>[(0,144),(144,1),(145,1),(146,1),(147,1)].toArray[i]?) (pre:=[]) (suf:=[Â Ä 0,Ç Å 0 0,Ç Å 0 0,Ç Å 0 0]) (i:=0) (v:=ÿ l.toArray) (rest:=[(1,v)]) U (by show l.toArray.size=144;simp[h]) d;simp only[đ]at b;rw[b];have e:(ÿ l.toArray).cells.toList=l:=rfl;rw[e];rw[show(l++[Â Ä 0,Ç Å 0 0,Ç Å 0 0,Ç Å 0 0])=l++[Â Ä 0]++[Ç Å 0 0,Ç Å 0 0,Ç Å 0 0] by simp,(Dk (place:=λi=>[(0,144),(144,1),(145,1),(146,1),(147,1)].toArray[i]?) (old:=[Â Ä 0]) (suf:=[Ç Å 0 0,Ç Å 0 0,Ç Å 0 0]) (i:=1) (rest:=[]) (by show Ã (144,1)=Ã (l.length,1);rw[h]) (by rw[a];rfl) U)];simp[Instr.fill,a]
theorem asC{y:ĵ}(a:o.op=.build 126 #[(0,qQ),(1,y)])(b:xX qQ=ÿ l.toArray)(c:xX y=v)(d:l.length=144)(e:v.cells=#[v]):(Ğ xX o).run Á w=.ok (.value<|ÿ (l++[v,Ç Å 0 0,Ç Å 0 0,Ç Å 0 0]).toArray) w:=by apply I7 a;grind [asB]
def Ob{p:VR}(b:p.2.1.oneCell'=Ë)(c:p.2.2.1.oneCell'=Ë)(d:p.2.2.2.oneCell'=Ë):∀v∈gJ p,v.oneCell'=Ë:=λv a=>by
 rcases ý.1 a with q|q
 .exact asx _ v q
 .simp at q;rcases q with rfl|rfl|rfl|rfl
  .rfl
  all_goals assumption
def Vg{g:Array Ī}{j:List Ī}{c:Ī}{a:κ}{y:ĵ}{d:Tmp}{us:List Í}(q:fq i l T w)(e:fq n us T w)(r:lA T=È)(s:(Á.underlying T).map Ă=Ã Ë)(m:(Á.info? T).map (·.size)=Ã l.length)(p:us.length=l.length)(t:∀v∈l,v.oneCell'=Ë) (h:∀f,fq n l T f->fc (λk=>k=n) w f->Ť Á g vJ j (a.put (Ã d)<|ÿ l.toArray) f) (u:o.guard=Å) (z:o.op=.load T qQ) (B:o.dst=Ã d) (C:c.guard=Å) (D:c.op=.store T y (.tmp d)) (E:c.dst=Å) (F:a.eval qQ=Æ (Ã ⟨i,0,Å⟩)) (G:(a.put (Ã d)<|ÿ l.toArray).eval y=Æ (Ã ⟨n,0,Å⟩)) (H:(a.put (Ã d)<|ÿ l.toArray).eval (.tmp d)=ÿ l.toArray):Ť Á g vJ (o::c::j) a w:=by let⟨I,J,K⟩:=Ì.1 s;apply ö u T qQ z i 0 F l I (fq.Y (tl:=[])<|by rwa[Ü]) J K m;rw[B];refine ź C T y (.tmp d) D n 0 l.toArray G H (e.M4<|by simp[p]) (by rw[m];simp) (ş t) ?_;rw[E];exact h _ (by have:=I1 l [] [] w us p (by simpa using e);simpa using this)<|I2 (b:=n) l 0 w<|e.S r
def Vh{t u:Tmp}(a:fq i l T w)(b:(Á.underlying T).map Ă=Ã Ë)(c:(Á.info? T).map (·.size)=Ã l.length)(h:s.results=#[.cell t T,.tmp u])(e:d.getD t Ο=Æ (Ã ⟨i,0,Å⟩)):(results s d).run Á w=.ok (Đ #[ÿ l.toArray,d.getD u Ο]) w:=by let⟨j,f,g⟩:=Ì.1 b;exact TM h e (fq.Y (tl:=[])<|by rwa[Ü]) f g c
def acV{base:Nat}(h:w.ownsRow base T i v n l):v.oneCell'=Ë:=by obtain⟨a,c,rfl⟩:=jv h;rfl
def BK.S{b d:List (Int×Bool)}{q:VR}(h:BK u i b d q w):∀v∈gJ q,v.oneCell'=Ë:=Ob (by let⟨a,c,e,_⟩:=h.N;rw[e];rfl) (acV h.I)<|acV h.C
structure BL(w0:Þ)(nb rb m:Nat)(p:VR)(ts:List PT)(zc:List Í)(j:Nat)(q:VR)(w:Þ):Prop where
 r:BK w0 nb q.1.r q.1.r q w
 I:fq rb zc 126 w
 M:iZ q.1.s
 h:q.1.h=p.1.h+1
 S:q.1.r.length=j
 N:pb m p.1.s [] [] (ts.map toTx)=pb m q.1.s q.1.C q.1.r ((ts.drop j).map toTx)
 C:nb≠rb/\w0.heap.size<=rb
def acW:∀(a:List PT) (j i:Nat) (t:PT) (u:Í),a[j]?=Ã t->(zC t)[i]?=Ã u->(oQ a)[j*6+i]?=Ã u
 |[],j,i,t,u,h,_=>by cases h
 |q::r,0,i,t,u,h,hx=>by cases h;rwa[ķ,Ě,oQ,û,Ö (Ò.1 hx).1]
 |q::r,j+1,i,t,u,h,hx=>by have b:(zC q).length=6:=U;rw[oQ,û,å (by rw[b];omega),b,show(j+1)*6+i-6=j*6+i by omega];exact acW r j i t u h hx
def Oc{zc:List Í}(h:fq j zc T w)(a:fq n l T w)(b:lA T=È)(c:n≠j)(i:Nat)(x:Í):fq j zc T (w.setCell ⟨n,i,Å⟩ x):=h.C (fc.I (X:=λk=>k=n) (p:=⟨n,i,Å⟩) U x<|Ð<|a.S b) λe=>c e.symm
structure BT(w0:Þ)(nb rb tb:Nat)(u1 u2:List (Int×Bool))(q:VR)(zc C:List Í)(w:Þ):Prop where
 r:BK w0 nb u1 u2 q w
 I:fq rb zc 126 w
 C:fq tb C 260 w
 M:nb≠rb
def BT.fE{a b:List (Int×Bool)}{w':Þ}{tb:Nat}{q:VR}{zc:List Í}(h:BT u i n tb a b q zc l w)(k:fc fh w w'):BT u i n tb a b q zc l w':=⟨h.r.fE k,h.I.C k id,h.C.C k id,h.M⟩
def BT.rj{a b:List (Int×Bool)}{tb:Nat}{q c:VR}{zc:List Í}(h:BT u n j tb a b q zc l w)(k:BK u n a b c (w.setCell ⟨n,i,Å⟩ x)):BT u n j tb a b c zc l (w.setCell ⟨n,i,Å⟩ x):= ⟨k,Oc h.I h.r.r U h.M i x,h.C.C (fc.I (X:=λk=>k=n) (p:=⟨n,i,Å⟩) U x<|Ð h.r.r.S) λe=>fq.G h.C h.r.r A e,h.M⟩
def BT.ft{a b:List (Int×Bool)}{tb:Nat}{v:fM}{c:Í}{zc:List Í}(h:BT u n j tb a b (v,z,jQ,c) zc l w)(d:i<8)(x:Int):BT u n j tb a b ({v with s:=v.s.ft i x},z,jQ,c) zc l (w.setCell ⟨n,i,Å⟩<|Â Ý x):=h.rj<|h.r.ft d x
def BT.N{a b:List (Int×Bool)}{tb:Nat}{v:fM}{zc:List Í}(h:BT u n j tb a b (v,x,z,jQ) zc l w)(c:i<8):w.cell? ⟨n,i,Å⟩=Ã (Â Ý (v.s i).ft)/\w.frozen? ⟨n,i,Å⟩=È:=⟨by rw[h.r.Y Z,FY c],h.r.r.I i⟩
def BT.S{a d:List (Int×Bool)}{w':Þ}{tb:Nat}{v:fM}{b:Í}{zc:List Í}{e:Int×Bool}(h:BT u i n tb a d (v,x,z,jQ) zc l w)(k:nX w u.heap.size 4 1 z a.length (uL a) 1 [í e.2] b w'):(w'.cell? ⟨i,146,Å⟩=Ã z/\w'.frozen? ⟨i,146,Å⟩=È)/\BT u i n tb (a++[e]) d (v,x,b,jQ) zc l (w'.setCell ⟨i,146,Å⟩ b):=by have c:=h.r.r.C k.r<|iL h.r.I h.r.r A;have f:=fc.I (X:=λk=>k=i) (p:=⟨i,146,Å⟩) U b<|Ð c.S;exact⟨⟨c.r _ _<|r8 2 U,c.I _⟩,h.r.asq k,(h.I.C k.r<|iL h.r.I h.I A).C f λe=>h.M e.symm,(h.C.C k.r<|iL h.r.I h.C A).C f λe=>fq.G h.C h.r.r A e,h.M⟩
def BT.Y{d a:List (Int×Bool)}{w':Þ}{tb:Nat}{v:fM}{b:Í}{zc:List Í}{e:Int×Bool}(h:BT u i n tb d a (v,x,z,jQ) zc l w)(k:nX w u.heap.size 3 1 jQ a.length (uK a) 1 [Â Ä e.1] b w'):(w'.cell? ⟨i,147,Å⟩=Ã jQ/\w'.frozen? ⟨i,147,Å⟩=È)/\BT u i n tb d (a++[e]) (v,x,z,b) zc l (w'.setCell ⟨i,147,Å⟩ b):=by have c:=h.r.r.C k.r<|iL h.r.C h.r.r A;have f:=fc.I (X:=λk=>k=i) (p:=⟨i,147,Å⟩) U b<|Ð c.S;exact⟨⟨c.r _ _<|r8 3 U,c.I _⟩,h.r.asr k,(h.I.C k.r<|iL h.r.C h.I A).C f λe=>h.M e.symm,(h.C.C k.r<|iL h.r.C h.C A).C f λe=>fq.G h.C h.r.r A e,h.M⟩
def acX:(Á.info? 4).map (λi=>(i.zero,i.size,i.bytes))=Ã (Ã<|í È,1,1):=fx
def acY:(Á.info? 3).map (λi=>(i.zero,i.size,i.bytes))=Ã (Ã<|Â Ä 0,1,8):=fx
def asD{y:Nat}{s:St}{ls:List (Nat×Int)}{us:List (Int×Bool)}{n k:Int}{pr:ByteArray}{r:List Tx}{a f b g d:Int}(j:iZ s)(l:0<=n)(p:(s i).ft=h)(q:(s.ft i (h-n) y).ft=c)(t:((s.ft i<|h-n).ft y a i).ft=f)(u:¬h<n+10)(v:Ý.wrap (c+n)=a)(w:Ý.wrap (f-10)=b)(o:(((s.ft i<|h-n).ft y a).ft i b m).ft=g)(z:Ý.wrap (g+10)=d):pb m s ls us (⟨i,y,n,k,1,pr⟩::r)=pb m ((((s.ft i<|h-n).ft y a).ft i b).ft m d) ls (us++[(10,Ë)]) r/\iZ ((((s.ft i<|h-n).ft y a).ft i b).ft m d):=by
 subst p q v t w;have e:=asu (y:=y) j l (show n+10<=(s i).ft by omega);simp only[wu]at e;simp only[e]at o|-;subst o z;refine⟨?_,(aat j i y l).r m<|Di _⟩;have:lW s ls ⟨i,y,n,k,1,pr⟩=((10,Ë),Ë,(rR s i y n).2,ls):=by simp[lW,rR,u]
 rw[pb,this];rfl
def asE{y:Nat}{s:St}{ls:List (Nat×Int)}{us:List (Int×Bool)}{n k:Int}{pr:ByteArray}{r:List Tx}{d b:Int}(f:iZ s)(j:pr.size<=40/\∀a∈pr.data.toList,zg a=Ë)(l:(s.r i pr i).ft=h)(o:¬(s i).ft<20)(p:Ý.wrap (h-20)=c)(g:((s.r i pr).ft i c m).ft=d)(t:Ý.wrap (d+20)=b):pb m s ls us (⟨i,y,n,k,2,pr⟩::r)=pb m (((s.r i pr).ft i c).ft m b) ls (us++[(20,Ë)]) r/\iZ (((s.r i pr).ft i c).ft m b):=by
 subst l p;have e:=asv (q:=pr) f (show 20<=(s i).ft by omega);simp only[wu]at e;simp only[e]at g|-;subst g t;refine⟨?_,(aau f i j).r m<|Di _⟩;have:lW s ls ⟨i,y,n,k,2,pr⟩=((20,Ë),Ë,(rS s i pr).2,ls):=by simp[lW,rS,o]
 rw[pb,this];rfl
def BK.us{a b z:List (Int×Bool)}{v:fM}{c:Í}(h:BK u i a b (v,x,jQ,c) w):BK u i a b ({v with r:=z},x,jQ,c) w:=⟨h.r,h.N,h.I,h.C,h.kp,h.M⟩
section
variable{w':Þ}{p:VR}
def asF(hs:iZ p.1.s)(hh:0<=p.1.h/\p.1.h<=40)(S:m<8){d:List PT}(ht:ie 260 jQ d.length (oQ d) w)(UP:∀t∈d,lC.Be t)(hn:d.length<=8)(mJ:∀t∈d,t.c.getD 4 0=1\/t.c.getD 4 0=2):ì Á 137 #[ÿ (gJ p).toArray,Â Ä m,jQ] w λe w'=>∃q:VR,e=Ñ (Đ #[ÿ (gJ q).toArray,í (mQ m p.1.s<|d.map toTx).isSome])/\fc fh w w'/\(∀v∈gJ q,v.oneCell'=Ë)/\∀r,mQ m p.1.s (d.map toTx)=Ã r->q.1=⟨r.1,r.2.1,r.2.2,p.1.h+1⟩/\wj q w':=by
 have HPL:=eZ mJ;clear mJ;let⟨i0,K,qj,iO,oJ,oE⟩:=amf asA;let⟨d0,hu0,vj⟩:=Ì.1 acT;have hB:=fq.N w (gJ p) 126;have k0:=fc.iw fh w (gJ p).toArray 126;have I3:fq (w.alloc<|Ó (gJ p).toArray 126).heap.size K.cells.toList 126 ((w.alloc<|Ó (gJ p).toArray 126).alloc<|Ó K.cells 126):=by have:=fq.N (w.alloc<|Ó (gJ p).toArray 126) K.cells.toList 126;simpa using this
 have k1:=fc.iw fh (w.alloc<|Ó (gJ p).toArray 126) K.cells 126;have qc:(w.alloc<|Ó (gJ p).toArray 126).heap.size=w.heap.size+1:=fp
 rw[qc]at I3;have asG:=(hB.C k1 id).r 144 _<|r8 0 U;have qL:((w.alloc<|Ó (gJ p).toArray 126).alloc<|Ó K.cells 126).rangeAt w.heap.size 0 (iH p.1.s):=fq.Y<|hB.C k1 id;have B:=eZ<|À (k0.fj k1)<|À I3<|À qL<|À qj<|À iO<|À oJ<|À oE<|À hu0 vj;have HT:=eZ<|À ht<|À UP hs;clear qj iO oJ oE hu0 vj hB k0 I3 k1 qc qL ht UP hs;obtain⟨tp,tcp,htv⟩:∃tp tcp,jQ=Ç tp d.length tcp:=by let⟨a,b,e,_⟩:=HT.out.1;exact⟨a,b,e⟩
 subst htv;go_enter Tryz.func137,Tryz.ntmps137;go_wp2_with (first
  |(with_reducible refine Ø U (Ã 3) U _ _ (sW U U) ?_)
  |(with_reducible refine Ø U (Ã 6) U _ _ (M3 U B.out.2.2.2.1 B.out.2.2.2.2.2.1) ?_;generalize(w.alloc<|Ó (gJ p).toArray 126).alloc (Ó K.cells 126)=wa at*)
  |(refine qk 121 U ?_;refine ö U 121 _ U w.heap.size 0 U (iH p.1.s) d0 B.out.2.2.1 B.out.2.2.2.2.2.2.2.1 B.out.2.2.2.2.2.2.2.2 (by rw[Oa,mW]) ?_)
  |(with_reducible refine Ø U (Ã 21) U _ _ (asC U U U (mW _) U) ?_)
  |(refine M5 U U 126 U 8 U _ _ U U B.out.2.2.2.1 B.out.2.2.2.2.2.1 (gJ (⟨p.1.s,[],[],p.1.h+1⟩,Ç Å 0 0,Ç Å 0 0,Ç Å 0 0)) (by rw[B.out.2.2.2.2.1];exact(lX _ _ _ _).symm) (by rw[B.out.2.2.2.2.2.2.1];exact(lX _ _ _ _).symm) U U (Ob U U U) ?_;intro w1 Iy oU Da))
 have L:BL w wa.heap.size (w.heap.size+1) m p d K.cells.toList 0 (⟨p.1.s,[],[],p.1.h+1⟩,Ç Å 0 0,Ç Å 0 0,Ç Å 0 0) w1:= ⟨⟨Iy,ie.C _ _,ò _ _ _ _,ò _ _ _ _,B.out.1.fj oU,B.out.1.M⟩,B.out.2.1.C oU id,HT.out.2.2,U,U,by rw[List.drop_zero],by have:=B.out.2.1.M;omega,Z⟩;have hzl:K.cells.toList.length=148:=by rw[ċ,B.out.2.2.2.2.2.2.1]
 have H:=eZ<|À L hzl;clear L hzl Iy oU Da asG;generalize wa.heap.size=nb at*;generalize w.heap.size+1=rb at*;generalize K.cells.toList=zc at*;obtain⟨N,hN⟩:∃N,d.length=N:=⟨_,U⟩;rw[hN]at hn;simp only[hN];have HN:=eZ hN;clear hN;have HZ:=eZ<|H.out.2;go_loopw [9] (λi C=>∃(j:Nat) (q:VR),j<=N/\i=Â Ä j/\BL w nb rb m p d zc j q C) λi _=>N-(ï i).toNat
 case atStart=>exact⟨0,_,Û _,U,H.out.1⟩
 case round=>
  clear H;obtain⟨j,q,hj,rfl,hL⟩:=hrel;have H:=eZ hL;clear hL;by_cases gE:j<N
  .let⟨v,lv,wv,gv⟩:=q;obtain⟨⟨c,pr⟩,FZ⟩:∃t,d[j]?=Ã t:=⟨_,Î<|by rwa[HN.out]⟩;have F0:=HT.out.2.1 _<|â FZ;have J7:c.getD 4 0=1\/c.getD 4 0=2:=HPL.out _<|â FZ;have o0:=F0.c.r 0 A;have o1:=F0.c.r 1 A;have o2:=F0.c.r 2 A;have o3:=F0.c.r 3 A;simp only[lr]at o0 o1 o2 o3;have vN:(d.drop j).map toTx=toTx ⟨c,pr⟩::(d.drop<|j+1).map toTx:=by
    rw[ć (Ò.1 FZ).1,(Ò.1 FZ).2];rfl
   have M:=H.out.N;rw[vN]at M;have B3:∀i u,(zC ⟨c,pr⟩)[i]?=Ã u->∃b o,tp=Ã ⟨b,o,Å⟩/\C.cell? ⟨b,o+j*6+i,Å⟩=Ã u:=λi u hu=>by let⟨_,_,e,_,hc⟩:=HT.out.1.fE H.out.r.kp;cases e;let⟨b,o,h1,_,h2⟩:=hc (j*6+i) u<|acW d j i ⟨c,pr⟩ u FZ hu;exact⟨b,o,h1,by rwa[ņ]⟩
   obtain⟨b,o,rfl,t0⟩:=B3 0 _ U;have tc:∀i u,(zC ⟨c,pr⟩)[i]?=Ã u->C.cell? ⟨b,o+j*6+i,Å⟩=Ã u:=λi u hu=>by let⟨b',o',e,h⟩:=B3 i u hu;cases e;exact h
   have t1:=tc 1 _ U;have t2:=tc 2 _ U;have t3:=tc 3 _ U;have t4:=tc 4 _ U;have t5:=tc 5 _ U;rw[Nat.add_zero]at t0;simp only at t0 t1 t2 t3 t4 t5;have zl:toTx ⟨c,pr⟩=⟨(c.getD 0 0).toNat,(c.getD 1 0).toNat,c.getD 2 0,c.getD 3 0,c.getD 4 0,pr⟩:=U;rw[zl]at M;obtain⟨x,hx⟩:∃x:Nat,c.getD 0 0=x:=⟨(c.getD 0 0).toNat,Z⟩;obtain⟨y,hy⟩:∃y:Nat,c.getD 1 0=y:=⟨(c.getD 1 0).toNat,Z⟩;obtain⟨n,Dm⟩:∃n:Nat,c.getD 2 0=n:=⟨(c.getD 2 0).toNat,Z⟩;obtain⟨k,vi⟩:∃k:Nat,c.getD 3 0=k:=⟨(c.getD 3 0).toNat,Z⟩;rw[hx]at o0 t1 M;rw[hy]at o1 t2 M;rw[Dm]at o2 t3 M;rw[vi]at o3 t4 M;simp only[ô]at M;generalize c.getD 4 0=kd at*;have hp5:=F0.p;have HG:=eZ<|À M hp5;clear M hp5 B3 tc vN zl hx hy Dm vi F0 FZ;have O:x<8:=Z
   have I:=H.out.r.Y (show x<144 by omega);rw[FY O]at I;let⟨q0,q1⟩:=H.out.M.ft x;have l1:=H.out.r.r.M;have f1:=H.out.r.r.I x;by_cases oU:kd=1
   .clear J7;subst oU;simp only[if_true]at t0;by_cases J:(v.s x).ft<n+10
    .have sM:Ý.wrap ((n:Int)+10)=(n:Int)+10:=AW Z Z;have V:mQ m p.1.s (d.map toTx)=Å:=by
      unfold mQ;rw[HG.out.1];simp[pb,lW,rR,J]
     have HX:=eZ V;clear V;generalize(v.s x).ft=E at*;go_wp2_with (apply qk 126 U;refine Vg (H.out.r.fE kp).r (H.out.I.C (kp (X:=fh)) id) U zD (by rw[wm];exact congrArg Ã (lX _ _ _ _).symm) (by rw[HZ.out];exact(lX _ _ _ _).symm) H.out.r.S ?_ U U U U U U U U U;intro w9 Bs k9);refine þ (Vh Bs zD (by rw[wm];exact congrArg Ã (lX _ _ _ _).symm) U U) U ?_;rw[HX.out];exact⟨v,lv,wv,gv,U,(H.out.r.fE kp).kp.C k9 λi hi q=>(by have:=H.out.C.2;omega),H.out.r.S,by intros;contradiction⟩
    .have sM:Ý.wrap ((n:Int)+10)=(n:Int)+10:=AW Z Z;have qh:Ý.wrap (n:Int)=(n:Int):=AW Z Z;have sQ:=decide_eq_false J;obtain⟨E,W⟩:∃E,(v.s x).ft=E:=⟨_,U⟩;rw[W]at I q0 q1 J sQ;go_wp2;have D:=BT.mk (H.out.r.fE<|kp (w':=C.alloc<|Ó #[Â Ŋ 62,Â Ä x,Â Ä y,Â Ä n,Â Ä k,Ê pr] 260)) (H.out.I.C (kp (X:=fh)) id) (fq.N C [Â Ŋ 62,Â Ä x,Â Ä y,Â Ä n,Â Ä k,Ê pr] 260) H.out.C.1;have f:=eZ<|À H.out.M<|À H.out.C<|À H.out.h H.out.S;clear H I t0 t1 t2 t3 t4 t5 l1 f1;generalize C.alloc (Ó #[Â Ŋ 62,Â Ä x,Â Ä y,Â Ä n,Â Ä k,Ê pr] 260)=wt at*;generalize C.heap.size=tb at*;have e1:=D.C.r 1 _ U;have e3:=D.C.r 3 _ U;let⟨I,f1⟩:=D.N O;rw[W]at I;have H1:=eZ<|(D.ft O<|E-n).fE<|fc.gG fh _;clear D;go_region;clear I f1 e1 e3;generalize(wt.setCell ⟨nb,x,Å⟩<|Â Ý<|E-n).drew=wu1 at*;as_aux_lemma=>
      have e2:=H1.out.C.r 2 _ U;have e3:=H1.out.C.r 3 _ U;have hy8:y<8:=Z
      let⟨b2,f2⟩:=H1.out.N hy8;obtain⟨by1,oY⟩:∃z,(v.s.ft x (E-n) y).ft=z:=⟨_,U⟩;simp only[oY]at b2;obtain⟨s2,rB⟩:∃s,Ý.wrap (by1+n)=s:=⟨_,U⟩;have H2:=eZ<|(H1.out.ft hy8 s2).fE<|fc.gG fh _;go_wp2;go_region;clear b2 f2 e2 e3;generalize(wu1.setCell ⟨nb,y,Å⟩<|Â Ý s2).drew=wu2 at*;as_aux_lemma=>
       have e1:=H2.out.C.r 1 _ U;let⟨b3,f3⟩:=H2.out.N O;obtain⟨z3,zE⟩:∃z,((v.s.ft x<|E-n).ft y s2 x).ft=z:=⟨_,U⟩;simp only[zE]at b3;obtain⟨P,F⟩:∃s,Ý.wrap (z3-10)=s:=⟨_,U⟩;have H3:=eZ<|(H2.out.ft O P).fE<|fc.gG fh _;have Y:=eZ<|À W<|À oY<|À zE<|À J rB;clear rB W oY zE J sQ sM qh q0 q1 o0 o1 o2 o3;go_wp2;go_region;clear b3 f3 e1;generalize(wu2.setCell ⟨nb,x,Å⟩<|Â Ý P).drew=wu3 at*;as_aux_lemma=>
        have Vi:=eZ F;clear F;let⟨b4,f4⟩:=H3.out.N S;obtain⟨z4,DX⟩:∃z,(((v.s.ft x<|E-n).ft y s2).ft x P m).ft=z:=⟨_,U⟩;simp only[DX]at b4;obtain⟨s4,Vj⟩:∃s,Ý.wrap (z4+10)=s:=⟨_,U⟩;have G:=eZ<|H3.out.ft S s4;let⟨_,_,c6,c7⟩:=G.out.r.G;let⟨i4,J8,J9,Ka,rI⟩:=Ĥ acX;let⟨i3,Kb,Ke,F,CW⟩:=Ĥ acY;have g:=eZ<|À J8<|À J9<|À Ka<|À rI<|À Kb<|À Ke<|À F CW;have Vk:=eZ DX;clear J8 J9 Ka rI Kb Ke F CW DX;have l4:=G.out.r.r.M;go_wp2_with (first
         |(at_builtin;refine xp (n:=v.r.length) (xs:=uL v.r) (m:=1) U _ _ 123 U Ŧ g.out.1 g.out.2.1 g.out.2.2.1 g.out.2.2.2.1 U U (G.out.fE kp).r.I ⟨_,0,Å⟩ [í Ë] U Z U (xP _ [í Ë] 4) (by simp[ß]) (by rw[f.out.2.2.2];unfold ď;omega) (by rw[f.out.2.2.2];omega) (G.out.fE kp).r.kp.M ?_;intro w1v w5 l;obtain⟨p5,r5,rfl⟩:=jv l.fg;let⟨c5,Q⟩:=BT.S (e:=(10,Ë)) (G.out.fE kp) l;let⟨c5,f5⟩:=c5;let⟨_,_,_,c7⟩:=Q.r.G;have l5:=Q.r.r.M;have H5:=eZ Q;clear Q l)
         |(at_builtin;refine xp (n:=v.r.length) (xs:=uK v.r) (m:=1) U _ _ 124 U ŧ g.out.2.2.2.2.1 g.out.2.2.2.2.2.1 g.out.2.2.2.2.2.2.1 g.out.2.2.2.2.2.2.2 U U (H5.out.fE kp).r.C ⟨_,0,Å⟩ [Â Ä 10] U Z U (xP _ [Â Ä 10] 3) (by simp[ß]) (by rw[f.out.2.2.2];unfold ď;omega) (by rw[f.out.2.2.2];omega) (H5.out.fE kp).r.kp.M ?_;intro g1v w6 l;obtain⟨p6,r6,rfl⟩:=jv l.fg;let⟨c6,h6⟩:=BT.Y (e:=(10,Ë)) (H5.out.fE kp) l;let⟨c6,f6⟩:=c6;have H6:=eZ h6;clear h6 l))
        let⟨g1,g2⟩:=asD (m:=m) (ls:=v.C) (us:=v.r) (k:=k) (pr:=pr) (r:=(d.drop<|j+1).map toTx) f.out.1 (Int.natCast_nonneg n) Y.out.1 Y.out.2.1 Y.out.2.2.1 (Τ.2 Y.out.2.2.2.1) Y.out.2.2.2.2 Vi.out Vk.out Vj;exact⟨⟨j+1,(⟨(((v.s.ft x<|E-n).ft y s2).ft x P).ft m s4,v.C,v.r++[(10,Ë)],v.h⟩,lv,Ç p5 (v.r.length+1) r5,Ç p6 (v.r.length+1) r6),gE,fp,⟨H6.out.r.us (z:=v.r++[(10,Ë)]),H6.out.I,g2,f.out.2.2.1,by simp[f.out.2.2.2],by rw[HG.out.1,g1],f.out.2.1⟩⟩,by simp[ï];omega⟩
   .simp only[oU,if_false]at t0;by_cases asH:kd=2
    .clear J7;subst asH;simp only[if_true]at t0;by_cases J:(v.s x).ft<20
     .have V:mQ m p.1.s (d.map toTx)=Å:=by
       unfold mQ;rw[HG.out.1];simp[pb,lW,rS,J]
      have HX:=eZ V;clear V;generalize(v.s x).ft=E at*;go_wp2_with (apply qk 126 U;refine Vg (H.out.r.fE kp).r (H.out.I.C (kp (X:=fh)) id) U zD (by rw[wm];exact congrArg Ã (lX _ _ _ _).symm) (by rw[HZ.out];exact(lX _ _ _ _).symm) H.out.r.S ?_ U U U U U U U U U;intro w9 Bs k9);refine þ (Vh Bs zD (by rw[wm];exact congrArg Ã (lX _ _ _ _).symm) U U) U ?_;rw[HX.out];exact⟨v,lv,wv,gv,U,(H.out.r.fE kp).kp.C k9 λi hi q=>(by have:=H.out.C.2;omega),H.out.r.S,by intros;contradiction⟩
     .have sQ:=decide_eq_false J;obtain⟨E,W⟩:∃E,(v.s x).ft=E:=⟨_,U⟩;rw[W]at I q0 q1 J sQ;have b5:=H.out.r.Y (show 8+x<144 by omega);rw[NV O]at b5;have f5:=H.out.r.r.I<|8+x;go_wp2;have D:=BT.mk ((H.out.r.IX O pr).fE<|kp (w':=(C.setCell ⟨nb,8+x,Å⟩<|Ê pr).alloc<|Ó #[Â Ŋ 123,Â Ä x,Â Ä y,Â Ä n,Â Ä k,Ê pr] 260)) ((Oc H.out.I H.out.r.r U H.out.C.1 (8+x)<|Ê pr).C (kp (X:=fh)) id) (fq.N (C.setCell ⟨nb,8+x,Å⟩<|Ê pr) [Â Ŋ 123,Â Ä x,Â Ä y,Â Ä n,Â Ä k,Ê pr] 260) H.out.C.1;rw[show(C.setCell ⟨nb,8+x,Å⟩<|Ê pr).heap.size=C.heap.size by simp]at D;have H2:=eZ D;have f:=eZ<|À H.out.M<|À H.out.C<|À H.out.h H.out.S;clear H D I b5 f5 t0 t1 t2 t3 t4 t5 l1 f1;generalize(C.setCell ⟨nb,8+x,Å⟩<|Ê pr).alloc (Ó #[Â Ŋ 123,Â Ä x,Â Ä y,Â Ä n,Â Ä k,Ê pr] 260)=wu2 at*;generalize C.heap.size=tb at*;have e1:=H2.out.C.r 1 _ U;let⟨b3,f3⟩:=H2.out.N O;obtain⟨z3,zE⟩:∃z,(v.s.r x pr x).ft=z:=⟨_,U⟩;simp only[zE]at b3;obtain⟨P,F⟩:∃s,Ý.wrap (z3-20)=s:=⟨_,U⟩;have H3:=eZ<|(H2.out.ft O P).fE<|fc.gG fh _;have Y:=eZ (À zE (by rw[W];omega:¬(v.s x).ft<20));clear W zE J sQ q0 q1 o0 o1 o2 o3;go_wp2;go_region;clear b3 f3 e1;generalize(wu2.setCell ⟨nb,x,Å⟩<|Â Ý P).drew=wu3 at*;as_aux_lemma=>
       have Vi:=eZ F;clear F;let⟨b4,f4⟩:=H3.out.N S;obtain⟨z4,DX⟩:∃z,((v.s.r x pr).ft x P m).ft=z:=⟨_,U⟩;simp only[DX]at b4;obtain⟨s4,Vj⟩:∃s,Ý.wrap (z4+20)=s:=⟨_,U⟩;have G:=eZ<|H3.out.ft S s4;let⟨_,_,c6,c7⟩:=G.out.r.G;let⟨i4,J8,J9,Ka,rI⟩:=Ĥ acX;let⟨i3,Kb,Ke,F,CW⟩:=Ĥ acY;have g:=eZ<|À J8<|À J9<|À Ka<|À rI<|À Kb<|À Ke<|À F CW;have Vk:=eZ DX;clear J8 J9 Ka rI Kb Ke F CW DX;have l4:=G.out.r.r.M;go_wp2_with (first
        |(at_builtin;refine xp (n:=v.r.length) (xs:=uL v.r) (m:=1) U _ _ 123 U Ŧ g.out.1 g.out.2.1 g.out.2.2.1 g.out.2.2.2.1 U U (G.out.fE kp).r.I ⟨_,0,Å⟩ [í Ë] U Z U (xP _ [í Ë] 4) (by simp[ß]) (by rw[f.out.2.2.2];unfold ď;omega) (by rw[f.out.2.2.2];omega) (G.out.fE kp).r.kp.M ?_;intro w1v w5 l;obtain⟨p5,r5,rfl⟩:=jv l.fg;let⟨c5,Q⟩:=BT.S (e:=(20,Ë)) (G.out.fE kp) l;let⟨c5,f5⟩:=c5;let⟨_,_,_,c7⟩:=Q.r.G;have l5:=Q.r.r.M;have H5:=eZ Q;clear Q l)
        |(at_builtin;refine xp (n:=v.r.length) (xs:=uK v.r) (m:=1) U _ _ 124 U ŧ g.out.2.2.2.2.1 g.out.2.2.2.2.2.1 g.out.2.2.2.2.2.2.1 g.out.2.2.2.2.2.2.2 U U (H5.out.fE kp).r.C ⟨_,0,Å⟩ [Â Ä 20] U Z U (xP _ [Â Ä 20] 3) (by simp[ß]) (by rw[f.out.2.2.2];unfold ď;omega) (by rw[f.out.2.2.2];omega) (H5.out.fE kp).r.kp.M ?_;intro g1v w6 l;obtain⟨p6,r6,rfl⟩:=jv l.fg;let⟨c6,h6⟩:=BT.Y (e:=(20,Ë)) (H5.out.fE kp) l;let⟨c6,f6⟩:=c6;have H6:=eZ h6;clear h6 l))
       let⟨g1,g2⟩:=asE (m:=m) (y:=y) (n:=n) (ls:=v.C) (us:=v.r) (k:=k) (r:=(d.drop<|j+1).map toTx) f.out.1 HG.out.2 Y.out.1 (Τ.2 Y.out.2) Vi.out Vk.out Vj;exact⟨⟨j+1,(⟨((v.s.r x pr).ft x P).ft m s4,v.C,v.r++[(20,Ë)],v.h⟩,lv,Ç p5 (v.r.length+1) r5,Ç p6 (v.r.length+1) r6),gE,fp,⟨H6.out.r.us (z:=v.r++[(20,Ë)]),H6.out.I,g2,f.out.2.2.1,by simp[f.out.2.2.2],by rw[HG.out.1,g1],f.out.2.1⟩⟩,by simp[ï];omega⟩
    .exact absurd J7 Z
  .obtain rfl:j=N:=Z
   let⟨v,lv,wv,gv⟩:=q;have I:=H.out.r.Y (show m<144 by omega);rw[FY S]at I;have f1:=H.out.r.r.I m;have V:mQ m p.1.s (d.map toTx)=Ã (v.s.ft m<|wu<|(v.s m).ft+50,v.C,v.r):=by unfold mQ;rw[H.out.N,List.drop_of_length_le (by rw[HN.out];exact Ù _)];rfl
   have HX:=eZ V;clear V;generalize hbm:(v.s m).ft=bm at*;go_wp2_with (apply qk 126 U;refine Vg (H.out.r.ft S<|wu<|bm+50).r (Oc H.out.I H.out.r.r U H.out.C.1 m<|Â Ý<|wu<|bm+50) U zD (by rw[wm];exact congrArg Ã (lX _ _ _ _).symm) (by rw[HZ.out];exact(lX _ _ _ _).symm) (H.out.r.ft S<|wu<|bm+50).S ?_ U U U U U U U U U;intro w9 Bs k9);refine þ (Vh Bs zD (by rw[wm];exact congrArg Ã (lX _ _ _ _).symm) U U) U ?_;rw[HX.out];have hE:=H.out.r.ft S<|wu<|bm+50;have kr:∀{T:ğ} {x:Í} {n:Nat} {cs:List Í},T≠126->ie T x n cs (C.setCell ⟨nb,m,Å⟩<|Â Ý<|wu<|bm+50)->ie T x n cs w9:=λhT q=>q.r k9 (Oc H.out.I H.out.r.r U H.out.C.1 m _) hT;refine⟨({v with s:=v.s.ft m (wu<|bm+50)},lv,wv,gv),U,?_,hE.S,λr hr=> ?_⟩
   .exact hE.kp.C k9 λi hi q=>by have:=H.out.C.2;omega
   .cases hr;exact⟨by have:=H.out.h;simp only at this|-;rw[this],kr A hE.N,kr A<|J5 hE.I,kr A<|J5 hE.C⟩
end
end Go.Proofs.Y.gu
namespace Go.Proofs.Y.gu
open Go Go.Proofs Go.RowKit Go.Proofs.Y.Lift Go.Proofs.Y.iV
section
variable{d:Array Ī}{a:κ}{E:Prop}
def acZ{i:TypeInfo}{cs:List Í}(b:P.underlying t=Ã (.slice e))(c:P.info? e=Ã i)(f:i.zero=Ã z)(g:i.size=cs.length)(p:0<cs.length)(q:cs.length<=1000) (h:K (a.put o.dst<|Ç (Ã ⟨w.heap.size,0,Å⟩) 1 1) (w.alloc<|Ó cs.toArray e)) (k:o.guard=Å) (l:o.op=.buildSlice t 1 #[(0,qQ)]) (m:a.eval qQ=ÿ cs.toArray): if Region.wanted o (yielded d a.tmps)=Ë then Oper.wp P o a w K vJ else E:=by rw[if_pos (by simp[Region.wanted,k])];refine wp_buildSlice t e 1 _ l cs.toArray i z b c f Z Z ?_ h;generalize n:(Array.range<|1*i.size).map (z.cells[· %z.cells.size]!)=A;have:=Dk (place:=λj=>Ã (j*i.size,i.size)) (pre:=[]) (old:=A.toList) (suf:=[]) (i:=0) (size:=i.size) (v:=ÿ cs.toArray) (rest:=[]) fp (by show cs.toArray.size=_;simp[g]) (by rw[<-n];simp);rw[đ,Ü,Array.toArray_toList]at this;simp only[List.map_toArray,Š,ν,m];rw[this];simp[Instr.fill,Value.cells]
end
section
variable{b:List VR}{p:VR}{w':Þ}
theorem RA.N(h:RA j v b w)(r:wj p w)(k:nX w 0 126 148 v b.length (uM b) 1 (gJ p) x w'):fq j [v] 81 w'/\RA j x (b++[p]) (w'.setCell ⟨j,0,Å⟩ x)/\fc (λi=>i=j\/v.ownBlock=Ã i) w (w'.setCell ⟨j,0,Å⟩ x):=by
 have d:=h.r.C k.r<|iL h.fg h.r A;have f:=fc.I (X:=λk=>k=j) (p:=⟨j,0,Å⟩) U x<|Ð d.S;have g:∀{T:ğ} {a:Í} {n:Nat} {l:List Í},T≠126->T≠81->ie T a n l w->ie T a n l (w'.setCell ⟨j,0,Å⟩ x):=λs m q=>(q.I k.r λc l o e z=>by let⟨t,u⟩:=nW h.fg e;grind).r f d m;refine⟨d,⟨d.fO 0 x,?_,λq o=> ?_⟩,(k.r.ff λi _ q=>Ð q).C f λi _ q=>É q⟩
 .have:=im k.fg f λc q z=>iL k.fg d A<|z▸q;rwa[show b.length+1=(b++[p]).length by simp,show uM b++gJ p=uM (b++[p]) by simp[uM]]at this
 .have c:wj q w:=by
   rcases ý.1 o with e|e
   .exact h.C q e
   .grind
  exact⟨g A A c.C,g A A c.I,g A A c.r⟩
def vz(n:Nat):VR:=(⟨jx n,[],[],0⟩,Ç Å 0 0,Ç Å 0 0,Ç Å 0 0)
def Vl:(Á.info? 126).map (λi=>(i.size,i.bytes,i.zero.map λz=>z.cells.toList))=Ã (148,1296,Ã<|gJ<|vz 0):=fx
def ac0(n:Nat):∀v∈gJ (vz n),v.oneCell'=Ë:=Ob U U U
def zF(n:Nat):(gJ<|vz n).length=148:=lX _ _ _ _
def asI(h:n<8):(gJ<|vz n).set n (Â Ý 1000)=gJ (vz<|n+1):=by show(iH (jx n)++_).set n _=iH (jx<|n+1)++_;rw[İ _ _ (by rw[mW];omega),acS _ h,aaG];rfl
def asJ{n:Int}(h:n<1\/8<n)(w:Þ):ì Á 39 #[Â Ä n] w λe w'=>e=Ñ (Đ #[Æ Å,Â Ä 7])/\w'=w:=by
 by_cases a:n<1
 .go_enter ł,ŵ;go_wp2;go_ret2;exact⟨U,U⟩
 .go_enter ł,ŵ;go_wp2;go_ret2;exact⟨U,U⟩
def asK(n:Int)(h1:1<=n)(h8:n<=8)(w:Þ):ì Á 39 #[Â Ä n] w λe w'=>∃j v,e=Ñ (Đ #[Æ<|Ã ⟨j,0,Å⟩,Â Ä 0])/\RA j v [vz 8] w'/\fc fh w w':=by
 let⟨i0,y,O⟩:=Ì.1 Vl;simp only[Ņ,Ì]at O;let⟨B,P,C,D,Q⟩:=O;have t:C.cells=(gJ<|vz 0).toArray:=by rw[<-Q]
 have S:Á.built 126 []=Ã (gJ<|vz 0).toArray:=by rw[I6 acU (z:=C) (by rwa[y]),t];rfl
 let⟨dd,T,V⟩:=Ì.1 zD;have d:=eZ (À y<|À D<|À (B.trans (zF 0).symm)<|À (show C.cells.size=_ by rw[t])<|À S<|À T<|À V P);have E:=eZ<|À B t;clear y B P D Q t S T V;go_enter ł,ŵ;go_wp2_with (first
  |(with_reducible refine Ø U (Ã 13) U _ _ (I7 U d.out.2.2.2.2.1) ?_)
  |(refine M5 U U 126 U 4 U _ _ U U d.out.1 d.out.2.1 (gJ (vz 0)) d.out.2.2.1 d.out.2.2.2.1 U U (ac0 0) ?_;intro w1 F W Da))
 obtain⟨m,Y⟩:∃m,w.heap.size=m:=⟨_,U⟩;rw[Y]at F;simp only[Y];have H:=eZ<|À F W;clear F W Da;go_loopw [5] (λi g=>∃a:Nat,a<=8/\i=Â Ä a/\fq m (gJ<|vz a) 126 g/\fc fh w g) λi _=>8-(ï i).toNat
 case atStart=>exact⟨0,Û _,U,H.out.1,H.out.2⟩
 case round=>
  clear H;obtain⟨a,hj,rfl,o,u⟩:=hrel;by_cases G:a<8
  .have c:=o.r a (Â Ý 0) (by
    show(iH (jx a)++_)[a]?=_;rw[Ö (by rw[mW];omega),zx _ Z];simp[oe,G,jx,rM])
   have f:=o.I a;have l:=o.M;have H:=eZ<|À o u;clear o u;go_wp2;go_roundw
   case rel=>exact⟨a+1,G,by go_num,by rw[<-asI G];exact H.out.1.fO a _,H.out.2.C (fc.I (X:=λk=>k=m) (p:=⟨m,a,Å⟩) U _<|Ð H.out.1.S) λi hi q=>by omega⟩
   case measure=>simp[ï];omega
  .obtain rfl:a=8:=Z
   have H:=eZ<|À o u;clear o u;go_wp2;have I:=fc.iw fh g #[Ç Å 0 0] 81;have J:=H.out.1.C (I.fj<|fc.gG _ _) id;have L:fq g.heap.size [Ç Å 0 0] 81 (g.alloc<|Ó #[Ç Å 0 0] 81).drew:=(fq.N g [Ç Å 0 0] 81).C (fc.gG fh _) id;have ne:=H.out.1.M;have HK:=eZ<|(H.out.2.fj I).fj<|fc.gG _ _;generalize g.heap.size=j at*;have HS:=eZ (À (L.r 0 _ rfl)<|fq.Y (tl:=[])<|by rwa[Ü]);have s:=eZ<|À L<|À J ne;clear I J L ne H;refine o5 (λw'=>w'.cell? ⟨j,0,Å⟩=Ã (Ç Å 0 0)/\w'.rangeAt m 0 (gJ<|vz 8)) [10] fx ?_;generalize(g.alloc<|Ó #[Ç Å 0 0] 81).drew=w2 at*;iterate 5 apply tk HS.out
   refine tk (v:=ÿ (gJ<|vz 8).toArray) HS.out 5 ?_ (hy:=λw h=>N9 h.2 d.out.2.2.2.2.2.1 d.out.2.2.2.2.2.2.1 (by rw[wm];exact congrArg Ã (zF 8).symm) fL fL);apply ia 6;intro K b;refine acZ (cs:=gJ<|vz 8) ĩ d.out.1 d.out.2.1 (E.out.1.trans (zF 8).symm) (by rw[zF];decide) (by rw[zF];decide) ?_ U U U;have r:=fc.iw fh w2 (gJ<|vz 8).toArray 126;refine b.out _ _ (λ_=>⟨(s.out.1.C r id).r 0 _ U,fq.Y (tl:=[])<|by rw[Ü];exact s.out.2.1.C r id⟩) ?_;clear b K;apply ia 7;intro K b;have M:RA j (Ç Å 0 0) [] (w2.alloc<|Ó (gJ<|vz 8).toArray 126):=⟨s.out.1.C r id,ò _ _ _ _,λ_ q=>by cases q⟩;refine IZ U _ _ 79 U ĩ d.out.1 d.out.2.1 E.out.1 d.out.2.2.2.2.2.2.2 (by rw[E.out.2];exact zF 0) U M.fg ⟨_,0,Å⟩ (gJ<|vz 8) U ż (zF 8) (xP w2 (gJ<|vz 8) 126) (ac0 8) A A (Û _) ?_;intro v' w4 x;let⟨N,g2,g3⟩:=M.N ⟨ie.C _ _,ie.C _ _,ie.C _ _⟩ x;have g4:=N.r 0 _ U;have g5:=N.I 0;have S4:w4.cell? ⟨j,0,Å⟩=Ã (Ç Å 0 0)/\w4.rangeAt m 0 (gJ<|vz 8):=⟨g4,fq.Y (tl:=[])<|by rw[Ü];exact(s.out.2.1.C r id).C x.r λq=>by cases q⟩;apply b.out _ _ λ_=>S4;clear b K;obtain⟨p,c,rfl⟩:=jv x.fg;have HE:=eZ (À g2 ((HK.out.fj r).C g3 λi hi q=>by
    have:=s.out.2.2;rcases q with q|q
    .omega
    .cases q))
   have HG:=eZ S4;clear x N g2 g3 r M;apply ia 8;intro K b;go_simp;apply b.out _ _ λ_=>HG.out;clear b K;apply ia 9;intro K b;go_simp;apply b.out _ _ λ_=>HG.out;clear b K;apply ia 10;intro K b;go_simp;apply b.out _ _ λq=>absurd fp q;clear b K;refine oZ fx ?_ _;go_wp2;go_ret2;exact⟨j,_,U,HE.out.1,HE.out.2⟩
end
end Go.Proofs.Y.gu
namespace Go.Proofs.Y.iV
open Go Go.Conc Go.Proofs Go.RowKit Go.Proofs.Y.Lift Go.Proofs.Y.gu Go.Proofs.Y.fA Go.Proofs.Y.lC
section
variable{Y:fw}{Sh:Nat->Prop}{f:List VR}
def LR(Y:fw)(a b:List Í):Prop:=a.length=b.length/\∀(j:Nat) (x c:Í),a[j]?=Ã x->b[j]?=Ã c->fu Y x c
def LR.ac1{a b:List Í}(h:LR Y (a++b) l):∃g i,l=g++i/\LR Y a g/\LR Y b i:=by
 have m:=h.1;rw[à]at m;refine⟨l.take a.length,l.drop a.length,(Œ _ _).symm,⟨by rw[Ż];omega,λj x e d f=> ?_⟩,⟨by rw[List.length_drop];omega,λj x e d f=> ?_⟩⟩
 .have k:=(Ò.1 d).1;exact h.2 j x e (by rwa[Ö k])<|by rwa[Ň k]at f
 .exact h.2 (a.length+j) x e (by rwa[å Z,ŉ])<|by rwa[ţ]at f
def LR.eq{a b:List Í}(h:LR Y a b)(k:∀x∈a,∀c,fu Y x c->c=x):b=a:=by
 refine Ŵ λj=> ?_;rcases Ŏ j a.length with q|q
 .have d:j<b.length:=by rwa[<-h.1]
  rw[Î q,Î d];exact congrArg Ã<|k _ (List.getElem_mem q) _<|h.2 j _ _ (Î q)<|Î d
 .rw[ă q,ă (by rwa[<-h.1])]
def Vm(h:je Y Sh u w)(i:fu Y v z)(m:∀x∈l,j4 x=Ë)(k:ie T v n l u):ie T z n l w:=by obtain⟨p,s,rfl,q,r⟩:=k;obtain⟨t,rfl,y⟩:=Jo i;refine⟨t,s,U,q,λj x a=> ?_⟩;let⟨b,o,e,⟨F,G,d⟩,B⟩:=r j x a;obtain⟨H,rfl,C⟩:=y _ e;obtain⟨f,rfl,g⟩:=vT C;let⟨c,I,e,J,K,D,E,_⟩:=h.r b f g;rw[D]at d;cases d;exact⟨f,o,U,⟨_,_,E⟩,(zj h).C (m x<|â a) g B⟩
def asL(us:List (Int×Bool)):∀x∈uK us,j4 x=Ë:=λx a=>by obtain⟨e,_,rfl⟩:=ù.1 a;rfl
def asM(us:List (Int×Bool)):∀x∈uL us,j4 x=Ë:=λx a=>by obtain⟨e,_,rfl⟩:=ù.1 a;rfl
def ac2(h:je Y Sh u w):∀(f:List VR) (j:List Í),(∀p∈f,wj p u)->LR Y (uM f) j->∃g:List VR,j=uM g/\g.map (·.1)=f.map (·.1)/\∀p∈g,wj p w
 |[],j,_,hy=>⟨[],ú hy.1.symm,U,λ_ q=>by cases q⟩
 |(v,lv,wv,gv)::r,j,hp,hy=>by
  obtain⟨D,l,rfl,m,n⟩:=LR.ac1 (a:=iH v.s++[Â Ä v.h,lv,wv,gv]) (b:=uM r) hy;obtain⟨E,o,rfl,t,e⟩:=m.ac1;obtain⟨g,rfl,y,z⟩:=ac2 h r l (λp q=>hp p<|List.mem_cons_of_mem _ q) n;obtain rfl:=t.eq λx B F k=>by
   obtain⟨i,C,rfl⟩:=ù.1 B;revert k;unfold oe;repeat' split
   all_goals(intro k;cases k;rfl)
  match o,e with
  |[a,b,c,d],e=>
   have C:=e.2 0 _ _ U U;cases C;have i:=hp _<|Ũ ..;refine⟨(v,b,c,d)::g,U,by simp[y],λp q=> ?_⟩;rcases Į.1 q with rfl|q
   .exact⟨Vm h (e.2 1 _ _ U U) (X_ _) i.C,Vm h (e.2 2 _ _ U U) (asM _) i.I,Vm h (e.2 3 _ _ U U) (asL _) i.r⟩
   .exact z p q
theorem ac3(h:je Y (λ_=>False) u w)(z:Y i n)(k:RA i v f u):∃B a,RA n B a w/\a.map (·.1)=f.map (·.1):=by
 let⟨c,C,e,D,E,b,l,F,_,G,_⟩:=h.r i n z;rw[k.r]at b;cases b;cases G id;have m:=F.r id;let⟨H⟩:=C;match H,m.r with
 |[x],_=>
  have o:fu Y v x:=m.C 0 fp fp;obtain⟨I,⟨J,K⟩|⟨g,L,cur,rfl,hb,M,N,O,P,Q⟩⟩:=id k.fg
  .obtain rfl:f=[]:=ú K;subst J;cases o;exact⟨_,[],⟨l,ò _ _ _ _,λ_ q=>by cases q⟩,rfl⟩
  .cases o with
   |j5 q=>
    obtain⟨p,rfl,S⟩:=vT q;let⟨c,r,e,D,E,b,T,V,_,W,_⟩:=h.r g p S;rw[M]at b;cases b;cases W id;have d:=V.r id;have s:LR Y (uM f) (r.toList.take<|f.length*148):=by
     rw[<-Q];refine⟨by simp[d.r],λj x x' t y=> ?_⟩;have X:j<f.length*148:=by grind
     rw[Ň X,ī]at t y;obtain⟨y1,rfl⟩:=ð.1 t;obtain⟨y2,rfl⟩:=ð.1 y;exact d.C j y1 y2
    let⟨a,j,t,y⟩:=ac2 h f _ k.C s;have X:a.length=f.length:=by have:=congrArg ar t;simpa using this
    refine⟨_,a,⟨l,?_,y⟩,t⟩;rw[X];refine⟨by rwa[<-j,<-s.1],Ð ⟨p,L,r,U,Û _,T,N,O,by rwa[<-d.r],j⟩⟩
def asN(h:fu (mh X i) (Ç (Ã a) n j) v):X a.block:=by
 cases h with
 |j5 q=>exact q.1.2
theorem ac4(h:zb X Sh i w)(a:X b)(d:w.cell? ⟨b,n,Å⟩=Ã v):fu (mh X i) v v:=by let⟨c,e,j,f,_,g,_⟩:=h.r b a;simp only[ã,f,Option.isSome_none,Ô,if_false]at d;rcases g.M n with⟨q,_⟩|⟨x,k,l,m,p⟩;all_goals grind
def Vo(k:ie T v n l w)(h:∀b,v.ownBlock=Ã b->W.heap[b]?=w.heap[b]?):ie T v n l W:=by obtain⟨p,a,rfl,q,r⟩:=k;refine⟨p,a,U,q,λj x c=> ?_⟩;obtain⟨b,o,rfl,⟨d,f,g⟩,i⟩:=r j x c;have e:=h b U;exact⟨b,o,U,⟨d,f,e.trans g⟩,xF e i⟩
def RA.asO(h:RA i v f w)(r:zb X Sh n w)(s:X i)(k:∀b,X b->W.heap[b]?=w.heap[b]?):RA i v f W:=by
 have t:=ac4 r s<|h.r.r 0 _ U;have m:∀{l:Í},fu (mh X n) l l->∀b,l.ownBlock=Ã b->X b:=λ{l} q b e=>by
  cases l with
  |slice a d c=>cases a with
   |none=>cases e
   |some a=>cases e;exact asN q
  |_=>cases e
 refine⟨h.r.zP<|k i s,?_,λp u=> ?_⟩
 .refine⟨h.fg.1,h.fg.2.imp id ?_⟩;rintro⟨g,a,d,rfl,j,o,x⟩;exact⟨g,a,d,U,j,(k g<|m t g U).trans o,x⟩
 .let⟨a,y⟩:=List.getElem?_of_mem u;let⟨b,c,e,z⟩:=h.I y;have C:X b:=m t b (by rw[e];rfl);have g:∀j x,(gJ p)[144+j]?=Ã x->∀b,x.ownBlock=Ã b->W.heap[b]?=w.heap[b]?:=λj x D d e=>k d<|m (ac4 r C<|z _ x D) d e;have o:=h.C p u;exact⟨Vo o.C<|g 1 _<|r8 1 U,Vo o.I<|g 2 _<|r8 2 U,Vo o.r<|g 3 _<|r8 3 U⟩
def RA.j2(h:RA i v f w)(T:Tape)(n:Nat):RA i v f (World.tp (j2 (λ_=>False) w) T n):=by
 have k:∀(b:Nat) (c:Array Í) (e:ğ) (d:Nat×Nat),w.heap[b]?=Ã (Ó c e d)->(World.tp (fA.j2 (λ_=>False) w) T n).heap[b]?=Ã (Ó c e d):=λb c e d q=>by show(fA.j2 (λ_=>False) w).heap[b]?=_;rw[Db,q];simp[pH]
 refine⟨k _ _ _ _ h.r,⟨h.fg.1,h.fg.2.imp id ?_⟩,λp l=> ?_⟩
 .rintro⟨g,a,j,rfl,m,o,s⟩;exact⟨g,a,j,U,m,k _ _ _ _ o,s⟩
 .have g:∀{e:ğ} {a:Í} {m:Nat} {s:List Í},ie e a m s w->ie e a m s (World.tp (fA.j2 (λ_=>False) w) T n):=λq=>by
   obtain⟨p,u,rfl,q,r⟩:=q;refine⟨p,u,U,q,λj x y=> ?_⟩;obtain⟨b,o,rfl,⟨z,B,t⟩,C⟩:=r j x y;have e:=k _ _ _ _ t;exact⟨b,o,U,⟨z,B,e⟩,xF (e.trans t.symm) C⟩
  exact⟨g (h.C p l).C,g (h.C p l).I,g (h.C p l).r⟩
end
end Go.Proofs.Y.iV
namespace Go.Proofs.Y.gu
open Go Go.Proofs Go.RowKit Go.Proofs.Y.Lift Go.Proofs.Y.iV Go.Proofs.Y.lC
def F1(n:Nat)(v:fM)(r:PR):Option fM×ByteArray:=if n=40 then(Å,ow 4)else match mQ (r.c.getD 0 0).toNat v.s (r.tx.map toTx)with
 |none=>(Å,ow 5)
 |some q=>(Ã ⟨q.1,q.2.1,q.2.2,v.h+1⟩,nZ n)
section
variable{a:List VR}{p:VR}{r:PR}
def asP(h:RA i x a w)(h40:a.length<=40)(S:wj p w)(T:iZ p.1.s)(hh:0<=p.1.h/\p.1.h<=40)(G:lC.Dy r)(V:ie 260 z r.tx.length (oQ r.tx) w)(X:∀t∈r.tx,t.c.getD 4 0=1\/t.c.getD 4 0=2): ì Á 84 #[Æ<|Ã ⟨i,0,Å⟩,ÿ (lN r z).toArray,ÿ (gJ p).toArray] w λe l=>∃g d,e=Ñ (Ê (F1 a.length p.1 r).2)/\RA i g d l/\d.map (·.1)=a.map (·.1)++(F1 a.length p.1 r).1.toList/\fc (λk=>k=i\/x.ownBlock=Ã k) w l:=by
 let⟨i0,Y,hx⟩:=Ì.1 Vl;simp only[Ņ,Ì]at hx;let⟨iO,oY,z0,oJ,hzc⟩:=hx;have oE:z0.cells.size=148:=by rw[show z0.cells=(gJ<|vz 0).toArray by rw[<-hzc]];exact zF 0
 clear hzc;let⟨dd,AX,vN⟩:=Ì.1 zD;have f:=eZ<|À Y<|À oJ<|À iO<|À oE<|À oY<|À AX vN;clear Y oJ iO oE oY AX vN;have I:fc fh w ((w.alloc<|Ó (lN r z).toArray 135).alloc<|Ó (gJ p).toArray 126):=(fc.iw fh w (lN r z).toArray 135).fj<|fc.iw fh _ (gJ p).toArray 126;have D:=(fq.N w (lN r z) 135).C (fc.iw fh _ (gJ p).toArray 126) id;have J:=fq.N (w.alloc<|Ó (lN r z).toArray 135) (gJ p) 126;have qc:(w.alloc<|Ó (lN r z).toArray 135).heap.size=w.heap.size+1:=fp
 rw[qc]at J;have y:=h.fE I;have c0:=y.r.r 0 _ U;let⟨L,M,Kf⟩:=jv h.fg;subst Kf;have qL:=fq.Y (tl:=[]) (by rwa[Ü]);have q3:=D.r 3 _ U;have q8:=D.r 8 _ U;have l1:=D.M;have o0:=G.c.r 0 A;simp only[lr]at o0;obtain⟨m,hm⟩:∃m:Nat,r.c.getD 0 0=m:=⟨(r.c.getD 0 0).toNat,Z⟩;have H:=eZ<|À y<|À S<|À T<|À G<|À V<|À X<|À I qL;clear h y S T G V X I D J qL;unfold F1;rw[hm]at q3 o0|-;rw[ô];by_cases N:a.length=40
 .rw[if_pos N];rw[N]at c0;go_enter au,φ;go_wp2_with (first
   |(with_reducible refine Ø U (Ã 4) U _ _ (sW U U) ?_)
   |(with_reducible refine Ø U (Ã 5) U _ _ (sW U U) ?_;generalize(w.alloc<|Ó (lN r z).toArray 135).alloc (Ó (gJ p).toArray 126)=wa at*)
   |(go_at_call 83;refine(NT 4 Z _).mono ?_;rintro e g ⟨rfl,d⟩;subst d))
  go_ret;exact⟨_,a,U,H.out.1,fp,H.out.2.2.2.2.2.2.1.ff λ_ _=>é⟩
 .rw[if_neg N];have e41:((a.length:Int)==40)=È:=by rw[beq_eq_false_iff_ne];omega
  have hC:∀W,fc fh w W->ì Á 137 #[ÿ (gJ p).toArray,Â Ä m,z] W λe l=>∃q:VR,e=Ñ (Đ #[ÿ (gJ q).toArray,í (mQ m p.1.s<|r.tx.map toTx).isSome])/\fc fh W l/\(∀v∈gJ q,v.oneCell'=Ë)/\∀b,mQ m p.1.s (r.tx.map toTx)=Ã b->q.1=⟨b.1,b.2.1,b.2.2,p.1.h+1⟩/\wj q l:=λW k=>
   asF H.out.2.2.1 hh Z (H.out.2.2.2.2.1.fE k) H.out.2.2.2.1.tx H.out.2.2.2.1.n H.out.2.2.2.2.2.1
  generalize AR:mQ m p.1.s (r.tx.map toTx)=nx at*;have HC:=eZ hC;clear hC;rcases nx with _|b;all_goals
   go_enter au,φ;go_wp2_with (first
    |(with_reducible refine Ø U (Ã 4) U _ _ (sW U U) ?_)
    |(with_reducible refine Ø U (Ã 5) U _ _ (sW U U) ?_;generalize(w.alloc<|Ó (lN r z).toArray 135).alloc (Ó (gJ p).toArray 126)=wa at*)
    |(refine qk 126 U ?_;refine ö U 126 _ U (w.heap.size+1) 0 U (gJ p) dd H.out.2.2.2.2.2.2.2 f.out.2.2.2.2.2.1 f.out.2.2.2.2.2.2 (by rw[wm];exact congrArg Ã (lX _ _ _ _).symm) ?_)
    |(go_at_call 137;refine(HC.out _ H.out.2.2.2.2.2.2.1).mono ?_;rintro e B ⟨q,rfl,g,j,u⟩;have o:=eZ<|À u<|À g j;clear u g j)
    |(refine M5 U U 126 U 7 U _ _ U U f.out.1 f.out.2.1 (gJ q) (by rw[f.out.2.2.1];exact(lX _ _ _ _).symm) (by rw[f.out.2.2.2.1];exact(lX _ _ _ _).symm) U U o.out.2.2 ?_;intro E g j u;have C:=eZ<|À g j;clear g j u)
    |(go_at_call 83;refine(NT 5 Z _).mono ?_;rintro e g ⟨rfl,d⟩;subst d))
  .go_ret;exact⟨_,a,U,H.out.1.fE<|o.out.2.1.fj C.out.2,fp,(H.out.2.2.2.2.2.2.1.fj<|o.out.2.1.fj C.out.2).ff λ_ _=>é⟩
  .let⟨yK,oW⟩:=o.out.1 b U;have O:=o.out.2.1.fj<|C.out.2.fj<|fc.gG fh E;have y:=H.out.1.fE O;have hv:=oW.fE<|C.out.2.fj<|fc.gG fh E;have P:=C.out.1.C (fc.gG fh E) id;have nv:(Ç L a.length M).ownBlock≠Ã B.heap.size:=λe=>by
    have:=(H.out.1.fg.lt B.heap.size e).2;have:=o.out.2.1.M;omega
   have nb:i≠B.heap.size:=λe=>by have:=H.out.1.r.M;have:=o.out.2.1.M;omega
   have HS:=eZ (À (y.r.r 0 _ rfl)<|fq.Y (tl:=[])<|by rwa[Ü]);have j:=eZ<|À y<|À hv<|À P<|À nv<|À (H.out.2.2.2.2.2.2.1.fj O) yK;clear yK oW O y hv P nv;refine o5 (λl=>l.cell? ⟨i,0,Å⟩=Ã (Ç L a.length M)/\l.rangeAt B.heap.size 0 (gJ q)) [10] fx ?_;generalize B.heap.size=vb at*;generalize E.drew=w5 at*;iterate 5 apply tk HS.out
   refine tk (v:=ÿ (gJ q).toArray) HS.out 5 ?_ (hy:=λw h=>N9 h.2 f.out.2.2.2.2.2.1 f.out.2.2.2.2.2.2 (by rw[wm];exact congrArg Ã (lX _ _ _ _).symm) fL fL);apply ia 6;intro K g;refine acZ (cs:=gJ q) ĩ f.out.1 f.out.2.1 (f.out.2.2.1.trans (lX _ _ _ _).symm) (by rw[gJ,lX];decide) (by rw[gJ,lX];decide) ?_ U U U;have u:=fc.iw fh w5 (gJ q).toArray 126;refine g.out _ _ (λ_=>⟨(j.out.1.fE u).r.r 0 _ U,fq.Y (tl:=[])<|by rw[Ü];exact j.out.2.2.1.C u id⟩) ?_;clear g K;apply ia 7;intro K g;refine IZ U _ _ 79 U ĩ f.out.1 f.out.2.1 f.out.2.2.1 f.out.2.2.2.2.1 f.out.2.2.2.1 U (j.out.1.fE u).fg ⟨_,0,Å⟩ (gJ q) U ż (lX _ _ _ _) (xP w5 (gJ q) 126) o.out.2.2 (by unfold ď;omega) Z (Û _) ?_;intro v' w6 F;let⟨Q,g2,g3⟩:=(j.out.1.fE u).N (j.out.2.1.fE u) F;have g4:=Q.r 0 _ U;have g5:=Q.I 0;have S4:w6.cell? ⟨i,0,Å⟩=Ã (Ç L a.length M)/\w6.rangeAt vb 0 (gJ q):=⟨g4,fq.Y (tl:=[])<|by rw[Ü];exact(j.out.2.2.1.C u id).C F.r j.out.2.2.2.1⟩;apply g.out _ _ λ_=>S4;clear g K;obtain⟨p',c',rfl⟩:=jv F.fg;have HE:=eZ (À g2<|((j.out.2.2.2.2.1.fj u).ff λ_ _=>é).fj g3);have HG:=eZ S4;clear F Q g2 g3 u;apply ia 8;intro K g;go_simp;apply g.out _ _ λ_=>HG.out;clear g K;apply ia 9;intro K g;go_simp;apply g.out _ _ λ_=>HG.out;clear g K;apply ia 10;intro K g;go_simp;apply g.out _ _ λq=>absurd fp q;clear g K;refine oZ fx ?_ _;go_wp2_with (go_at_call 85;refine(FW a.length Z _).mono ?_;rintro e w7 ⟨rfl,d⟩;subst d);go_ret;exact⟨_,_,congrArg (λd=>Ñ<|Ê d)<|acu _ Z,HE.out.1,by rw[ő,Š,j.out.2.2.2.2.2];rfl,HE.out.2⟩
end
end Go.Proofs.Y.gu
namespace Go.Proofs.Y.lC
open Go Go.Proofs Go.RowKit Go.Proofs.Y.Lift Go.Proofs.Y.gu
section
variable{st:PS}{tl:List Int}{d:PD}{E:RS}
def Kg(h:Int):Nat:=if h=86 then 5 else if h=87 then 6 else if h=110 then 2 else 3
def Kh:Nat->Int
 |0=>1000000|1=>100000|2=>10000|3=>1000|4=>100|_=>10
def asQ:∀m,m<5->10*Kh (m+1)=Kh m/\Kh m<=1000000:=A
def asR:∀m,m<=5->10<=Kh m:=A
def Ki:iT c=Ë↔(48<=c/\c<=57):=Bd c
def zG(a:Bool)(h:Int):Prop:=h=110\/h=107\/(a=È/\(h=86\/h=87))
def ac5(a:zG yQ h):h∈tB yQ:=by unfold zG at a;unfold tB;cases yQ<;>simp at a|-<;>omega
def ac6(b:zG d.C h)(g:Kg h<d.gC.length)(z:Int):(d.fO h z).G h=z/\∀f,(d.fO h z).fO h f=d.fO h f:=by
 have e:=λy=>Va (ac5 b) (d:=d) y;have i:∀(d:PD),zG d.C h->d.G h=d.gC.getD (Kg h) 0:=λd a=>by
  let⟨_,_,_,t,_⟩:=d;cases t
  .rcases a with rfl|rfl|⟨_,rfl|rfl⟩<;>rfl
  .rcases a with rfl|rfl|⟨a,_⟩
   .rfl
   .rfl
   .cases a
 have t:∀(c:List Int) (y:Int),mY c h y=c.set (Kg h) y:=λc y=>by rcases b with rfl|rfl|⟨_,rfl|rfl⟩<;>rfl
 refine⟨?_,λf=> ?_⟩
 .rw[i _ (by rwa[e,JY]),e,NZ,t,Č,List.getElem?_set_self g];rfl
 .rw[Va (by rw[e,JY];exact ac5 b),e,e,acM,NZ,t,t,t,χ]
def asS{n:Int}(h:0<=n/\n<1000000)(a:iT c=Ë):qZ n c=10*n+(c-48):=by rw[Ki]at a;unfold qZ;rw[ň,ň];omega
def ac7(a:zG d.C h)(b:Kg h<d.gC.length):∀(m:Nat) (n:Int) (i:Nat) (st:PS),m<=5->st.C=tl->st.M=h->st.r=m->st.d=d.fO h n->0<n->n<Kh m-> (mX B m n (i,È)).2.2=È/\∃s,oh B (mX B m n (i,È)).2.1 tl (d.fO h (mX B m n (i,È)).1) s/\pR B i st=pR B (mX B m n (i,È)).2.1 s
 |0,n,i,st,_,h1,h2,h3,h4,_,_=>⟨U,st,⟨h1,h4,λ_ _ q=>by rw[h3]at q;exact absurd q.1 A⟩,U⟩
 |m+1,n,i,st,hm,h1,h2,h3,h4,h5,h6=>by
  let⟨g,j⟩:=asQ m Z;unfold mX iP;simp only[Ô,if_false];cases f:(gN B)[i]? with
  |none=>exact⟨U,st,⟨h1,h4,λc q=>by rw[f]at q;cases q⟩,rfl⟩
  |some c=>
   by_cases s:iT c=Ë
   .simp only[h5,s,and_self,if_true];have z:=Ki.1 s;have e:=(uO (st:=st) f).2;rw[qt,if_pos ⟨by rw[h3];omega,s⟩]at e;rw[e];refine ac7 a b m _ (i+1) _ Z h1 h2 (show st.r-1=_ by rw[h3];omega) ?_ Z Z;show st.d.fO st.M (qZ (st.d.G st.M) c)=_;rw[h2,h4,(ac6 a b n).1,(asS (n:=n) ⟨Z,Z⟩ s),(ac6 a b n).2]
   .dsimp only;rw[if_neg λq=>s q.2];exact⟨U,st,⟨h1,h4,λe q z=>by rw[f]at q;cases q;exact s z.2⟩,U⟩
def Vp(m:Nat)(E:RS):mX B m 0 E=(0,E):=by
 cases m with
 |zero=>rfl
 |succ m=>unfold mX;cases iP B E<;>simp
def asT{c:Int}(h:iT c=Ë):c∈uN/\(uN.idxOf c:Int)=c-48/\(c-48)%256=c-48:=by
 rw[Ki]at h;obtain rfl|rfl|rfl|rfl|rfl|rfl|rfl|rfl|rfl|rfl:c=48\/c=49\/c=50\/c=51\/c=52\/c=53\/c=54\/c=55\/c=56\/c=57:=Z
 all_goals decide
def asU{c:Int}(h:¬iT c=Ë):c∉uN:=by rw[Ki]at h;unfold uN;simp;omega
def asV(j:zG d.C h)(u:Kg h<d.gC.length)(a:oh B i (h::tl) d st):Gs B i st (jD B h (i,È)).2 tl (d.fO h (jD B h (i,È)).1):=by
 have l:h≠82/\h≠66/\h≠84/\h≠80:=by unfold zG at j;omega
 obtain⟨M,G,n,v,w⟩:∃M:Nat,1<=M/\M<=5/\(jD B h (i,È)=if(h=86\/h=87)/\iP B (i,È)=Ã 104 then(-1,i+1,È)else pO B M (i,È))/\∀c,iT c=Ë->c≠48->lL h c=M:=by
  unfold jD Bn lL;rcases j with rfl|rfl|⟨_,rfl|rfl⟩
  .exact⟨5,A,A,fp,λc a k=>by simp[a,k]⟩
  .exact⟨5,A,A,fp,λc a k=>by simp[a,k]⟩
  .exact⟨1,A,A,fp,λc a k=>by simp[a,k]⟩
  .exact⟨1,A,A,fp,λc a k=>by simp[a,k]⟩
 have m:∀c,mF h c=((decide (h=86\/h=87)&&(c==104))||iT c):=λc=>by unfold mF;rcases j with rfl|rfl|⟨_,rfl|rfl⟩<;>simp
 have o:∀c,ll h c=if c=104 then-1 else(c-48)%256:=λc=>by unfold ll;rcases j with rfl|rfl|⟨_,rfl|rfl⟩<;>rfl
 rw[v];unfold iP;simp only[Ô,if_false];have x:∀{c:Int},(gN B)[i]?=Ã c->mF h c=È->pR B i st=(i,st):=λ{c} b q=>by have e:=a.I b;unfold jH at e;simpa only[a.C,l,if_false,q,Ô]using e
 have p:∀{c:Int},(gN B)[i]?=Ã c->mF h c=Ë->pR B i st=pR B (i+1) {pe {st with r:=0} h c with C:=tl}:=λ{c} b q=>by have e:=a.I b;unfold jH at e;simpa only[a.C,l,if_false,q,if_true]using e
 by_cases f:(h=86\/h=87)/\(gN B)[i]?=Ã 104
 .rw[if_pos f];refine⟨_,⟨U,?_,λ_ _ z=> ?_⟩,p f.2<|by rw[m];simp[f.1]⟩
  .show st.d.fO h (ll h 104)=_;rw[a.d,o];rfl
  .have:(0:Int)<lL h 104:=z.1;unfold lL at this;simp[iT]at this
 .rw[if_neg f];unfold pO fS iP;simp only[Ô,if_false];cases b:(gN B)[i]? with
  |none=>
   show Gs B i st (mX B M 0 (i,Ë)).2 _ _;rw[Vp];exact⟨st,Bq b,Ð ⟨h,tl,a.C,l.2.1⟩⟩
  |some c=>
   rw[b]at f;by_cases g:iT c=Ë
   .let⟨y,C,D⟩:=asT g;have H:=Ki.1 g;have e:=p b (by rw[m,g,Bool.or_true]);simp only[y,if_true];rw[C];have r:({pe {st with r:=0} h c with C:=tl}:PS).d=d.fO h (c-48):=by
     show st.d.fO h (ll h c)=_;rw[a.d,o,if_neg Z,D]
    by_cases t:c=48
    .subst t;show Gs B i st (mX B M 0 (i+1,È)).2 tl (d.fO h (mX B M 0 (i+1,È)).1);rw[Vp];exact⟨_,⟨U,r,λ_ _ z=>absurd z.1<|by show¬(0:Int)<lL h 48;simp[lL]⟩,e⟩
    .let⟨z,s,E,F⟩:=ac7 (B:=B) (tl:=tl) j u M (c-48) (i+1) _ n U (show h=h from rfl) (w c g t) r Z (by have:=asR M n;omega);unfold Gs;rw[z];exact⟨s,E,e.trans F⟩
   .simp only[asU g,if_false];show Gs B i st (mX B M 0 (i,Ë)).2 _ _;rw[Vp];refine⟨st,x b ?_,É (uO (st:=st) b).1⟩;rw[m];simp only[Ū]at f;simp[g];omega
end
section
variable{st:PS}{tl g:List Int}{d j:PD}{E f:RS}
def Gs.C(h:Gs B i st E zQ d)(a:E.2=Ë->f=E)(c:E.2=È->∀s,oh B E.1 zQ d s->Gs B E.1 s f g j):Gs B i st f g j:=by
 let⟨x,b⟩:=E;cases b with
 |true=>rwa[a U]
 |false=>
  let⟨s,e,k⟩:=h;have:=c U s e;unfold Gs xO at*;rw[k];exact this
def asW(m:Nat)(n:Int):mX B m n (i,Ë)=(n,i,Ë):=by cases m<;>rfl
def asX:(jD B h (i,Ë)).2=(i,Ë):=by
 unfold jD Bn pO;repeat' split
 all_goals first|exact congrArg Prod.snd (asW _ _)|rfl|(rename_i q;cases q)
def F2:∀(a c:List Int),(mZ B a c (i,Ë)).2=(i,Ë)
 |[],_=>rfl
 |h::tl,c=>by rw[mZ,asX];exact F2 tl _
theorem asY(c:List Int)(h z:Int):(mY c h z).length=c.length:=by unfold mY;grind
def Lg(d:PD):Prop:=d.gC.length=if d.C then 5 else 8
def ac8:∀c∈j0,ll 120 c=j0.idxOf c/\ll 121 c=j0.idxOf c:=A
def asZ:∀c∈Bm,ll 115 c=Bm.idxOf c:=A
def ac9(a:oh B i (h::tl) d st)(b:h∈tB d.C)(j:Lg d):Gs B i st (jD B h (i,È)).2 tl (d.tA<|mY d.gC h (jD B h (i,È)).1):=by
 rw[<-Va b];by_cases f:zG d.C h
 .refine asV f ?_ a;rw[j];rcases f with rfl|rfl|⟨e,rfl|rfl⟩
  .cases d.C<;>decide
  .cases d.C<;>decide
  all_goals rw[e];decide
 .have g:∀c,oO c=decide (c∈j0):=λc=>by
   rw[Ĳ,abj];simp[j0];omega
  have k:∀c,(iT c||(decide (97<=c)&&decide (c<=102)))=decide (c∈Bm):=λc=>by rw[Ĳ];simp[iT,Bm,uN];omega
  have l:∀h,h=58\/h=62\/h=61\/h=40\/h=44\/h=41\/h=47->(∀c,mF h c=decide (c∈[h]))/\(∀z,d.fO h z=d)/\(∀c,lL h c=0)/\jD B h (i,È)=(0,(fS B (i,È) [h]).2):=λh q=>by
   rcases q with rfl|rfl|rfl|rfl|rfl|rfl|rfl<;>
    exact⟨λc=>by rw[Ĳ];simp[mF],λ_=>rfl,λc=>by simp[lL],U⟩
  have q:(h=120\/h=121\/h=115)\/(h=58\/h=62\/h=61\/h=40\/h=44\/h=41\/h=47):=by unfold tB at b;unfold zG at f;cases q:d.C<;>simp[q]at b f<;>omega
  rcases q with(rfl|rfl|rfl)|q
  .exact N0 a b (λc=>g c) (λc e=>by rw[(ac8 c e).1]) λc=>by simp[lL]
  .exact N0 a b (λc=>g c) (λc e=>by rw[(ac8 c e).2]) λc=>by simp[lL]
  .exact N0 a b (λc=>by rw[<-k];rfl) (λc e=>by rw[asZ c e]) λc=>by simp[lL]
  .let⟨m,z,n,o⟩:=l h q;rw[o];have:=N0 a b m (λc e=>by rw[z,z]) n;rwa[z]at this|-
def Vq:∀(a:List Int) (d:PD) (i:Nat) (st:PS),oh B i (a++tl) d st->(∀h∈a,h∈tB d.C)->Lg d->Gs B i st (mZ B a d.gC (i,È)).2 tl (d.tA (mZ B a d.gC (i,È)).1)
 |[],d,i,st,h,_,_=>⟨st,by rwa[show mZ B [] d.gC (i,È)=(d.gC,i,È)from U,ar4],U⟩
 |h::a,d,i,st,h,hw,hl=>by
  refine(ac9 (tl:=a++tl) h (hw h fp) hl).C (λe=> ?_) λe s c=> ?_
  .rw[mZ];generalize(jD B h (i,È)).2=E at e;let⟨x,b⟩:=E;subst e;exact F2 _ _
  .have:=Vq a _ _ s c (λf q=>by rw[JY];exact hw f<|by simp[q]) (by unfold Lg at*;rwa[NZ,JY,asY]);rw[NZ,acM]at this;rw[mZ];generalize(jD B h (i,È)).2=E at*;let⟨x,b⟩:=E;subst e;exact this
def ada:∀(n i:Nat) (st:PS),st.C=[80]->st.r=0->st.d=d->st.I+n=40->0<=st.I->Gs B i st (fS B (mG B n (i,È)) [125]).2 [] (d.r7<|B.extract (i-st.I.toNat) (mG B n (i,È)).1)
 |n,i,st,h1,h2,h3,h4,h5=>by
  cases a:(gN B)[i]? with
  |none=>
   rw[show mG B n (i,È)=(i,È) by cases n<;>simp[mG,iP,a]];simp only[fS,iP,Ô,if_false,a];exact⟨st,Bq a,Ð ⟨80,[],h1,A⟩⟩
  |some c=>
   have e:=(uO (st:=st) a).2;have b:=(uO (st:=st) a).1;rw[qt,if_neg (by rw[h2];simp)]at e;unfold jH at e;simp only[h1,show(80:Int)≠82 by decide,show(80:Int)≠66 by decide,show(80:Int)≠84 by decide,if_false,if_true]at e;by_cases q:c=125
   .subst q;rw[show mG B n (i,È)=(i,È) by cases n<;>simp[mG,iP,a,show mD 125=0 by decide]];simp only[fS,iP,Ô,if_false,a,î,if_true]at e|-;refine⟨_,⟨U,?_,λ_ _ z=>ĉ 0 z.1⟩,e⟩;show st.d.r7 _=_;rw[h3]
   .rw[if_neg q]at e;by_cases z:st.I=40\/mD c=0
    .rw[if_pos z]at e;rw[show mG B n (i,È)=(i,È) by
      rcases ģ n with rfl|y
      .rfl
      .obtain⟨m,rfl⟩:∃m,n=m+1:=⟨n-1,Z⟩;simp[mG,iP,a,z.resolve_left Z]]
     simp only[fS,iP,Ô,if_false,a,î,q];exact⟨st,e,É b⟩
    .rw[if_neg z]at e;obtain⟨m,rfl⟩:∃m,n=m+1:=⟨n-1,Z⟩;rw[show mG B (m+1) (i,È)=mG B m (i+1,È) by simp[mG,iP,a,show¬mD c=0 from λy=>z<|Ð y]];have:=ada m (i+1) ⟨[80],0,st.I+1,st.M,st.d⟩ U U h3 (by simp only;omega) (by simp only;omega);unfold Gs xO at*;rw[e];rwa[show i+1-(st.I+1).toNat=i-st.I.toNat by omega]at this
def as0(h:oh B i [84] d st):if(fS B (i,È) [62,123,58]).2.2 then xO B i st (fS B (i,È) [62,123,58]).2.1 else∃s,oh B (i+1) (pM<|(fS B (i,È) [62,123,58]).1+1) (d.uF 4<|(fS B (i,È) [62,123,58]).1+1) s/\s.I=0/\s.r=0/\pR B i st=pR B (i+1) s/\(fS B (i,È) [62,123,58]).2.1=i+1:=by
 unfold fS iP;simp only[Ô,if_false];cases a:(gN B)[i]? with
 |none=>exact⟨st,Bq a,Ð ⟨84,[],h.C,A⟩⟩
 |some c=>
  have e:=h.I a;unfold jH at e;simp only[h.C,show(84:Int)≠82 by decide,show(84:Int)≠66 by decide,if_false,if_true,zp]at e;by_cases q:c∈([62,123,58]:List Int)
  .simp only[q,if_true];have:(Bc c:Int)=(([62,123,58]:List Int).idxOf c:Nat)+1/\Bc c≠0:=by
    revert q;simp only[Į,Ĭ,or_false];rintro(rfl|rfl|rfl)<;>decide
   rw[if_neg this.2,this.1]at e;exact⟨_,⟨U,by show st.d.uF _ _=_;rw[h.d],λ_ _ z=>ĉ 0 z.1⟩,U,U,e,trivial⟩
  .simp only[q,if_false];have:Bc c=0:=by
    unfold Bc;simp at q;simp[q]
   rw[if_pos this]at e;exact⟨st,e,É (uO (st:=st) a).1⟩
end
section
variable{st:PS}{tl j:List Int}{d m:PD}{E o:RS}{l:List PR}
def as1:∀k:Nat,k<3->∀h∈pM (k+1),k≠1->h∈tB Ë:=A
theorem as2(a:oh B i [120,84] d st)(m:d.C=Ë)(n:d.N=PD.zk):Gs B i st (lM B (i,È)).2 [] {d with N:=(lM B (i,È)).1}:=by
 let⟨o,on,p,r,t⟩:=d;obtain rfl:r=Ë:=m;obtain rfl:t=PD.zk:=n;refine(ac9 (tl:=[84]) a (show(120:Int)∈tB Ë by decide) U).C (λe=> ?_) λe s u=> ?_;all_goals
  unfold lM;generalize(jD B 120 (i,È)).1=x at*;generalize(jD B 120 (i,È)).2=E at*;let⟨f,b⟩:=E;subst e
 .exact F2 _ _
 .have g:=as0 u;generalize j:fS B (f,È) [62,123,58]=q at*;let⟨k,C,b⟩:=q;cases b with
  |true=>
   obtain rfl:k=0:=by unfold fS at j;grind
   simp only[if_true]at g;unfold Gs Bo;simp only[show(0:Nat)≠1 by decide,if_false,F2,if_true];exact g
  |false=>
   obtain⟨e,s,v,w,l,rfl⟩:=g;have y:k<3:=by unfold fS at j;grind
   have c:e.d=⟨o,on,p,Ë,⟨[x,0,0,0,(k:Int)+1],⟨#[]⟩⟩⟩:=s.d;unfold Bo;by_cases z:k=1
   .subst z;rw[if_pos U];have:=ada (B:=B) 40 (f+1) e s.C w c Z Z;rw[v]at this;unfold Gs xO at*;rw[l];exact this
   .rw[if_neg z];have:=Vq (B:=B) (tl:=[]) (pM<|k+1) e.d (f+1) e ⟨by rw[Ü];exact s.C,U,s.M⟩ (by rw[c];exact λh f=>as1 k y h f z) (by rw[c];rfl);rw[c]at this;unfold Gs xO at*;rw[l];exact this
def DY(B:ByteArray)(i:Nat)(st:PS)(l:List PR)(zQ:PR×RS):Prop:=if zQ.2.2 then xO B i st zQ.2.1 else∃s,pR B i st=pR B zQ.2.1 s/\(s.C=[]\/s.C=[66])/\Nd B zQ.2.1 s/\s.d.I=l++[zQ.1]/\s.d.S=l/\∀c,(gN B)[zQ.2.1]?=Ã c->c≠59->pR B zQ.2.1 s=(zQ.2.1,s)
theorem adb{s:PS}(h:oh B i [] d s)(a:(gN B)[i]?=Ã c)(b:c≠59)(f:c=44->¬(0<d.Y.length/\d.Y.length<8)):pR B i s=(i,s):=by have e:=h.I a;unfold jH qp at e;simp only[h.C,h.d]at e;grind
def ade:∀(n:Nat) (d:PD) (i:Nat) (st:PS),oh B i [120,84] d st->d.C=Ë->d.N=PD.zk->d.r=Ë->d.M.tx.length+n=8->0<n->DY B i st d.S (⟨d.M.c,(na B n d.M.tx (i,È)).1⟩,(na B n d.M.tx (i,È)).2)
 |n+1,d,i,st,h,h1,h2,h3,h4,_=>by
  have l:=as2 h h1 h2;unfold na;simp only[Ô,if_false];generalize lM B (i,È)=t at*;let⟨t,f,b⟩:=t;cases b with
  |true=>
   rwa[if_neg (by simp[iP])]
  |false=>
   let⟨s,a,k⟩:=l;have g:({d with N:=t}:PD).Y=d.M.tx++[t]:=by unfold PD.Y;rw[h1];rfl
   dsimp only at a k|-;by_cases z:iP B (f,È)=Ã 44/\n≠0
   .rw[if_pos z];have j:(gN B)[f]?=Ã 44:=z.1;have e:=a.I j;unfold jH qp at e;simp only[a.C,a.d]at e;rw[if_neg λq=>absurd q.1 A,if_pos ⟨trivial,by rw[g];simp,by rw[g];simp;omega⟩]at e;rw[show fS B (f,È) [44]=(0,f+1,È) by simp[fS,iP,j]];show DY B i st d.S (⟨d.M.c,(na B n (d.M.tx++[t]) (f+1,È)).1⟩,(na B n (d.M.tx++[t]) (f+1,È)).2);rw[<-g];unfold DY xO at*;rw[k,e];exact(ade n ({d with N:=t}:PD).pd (f+1) ⟨[120,84],0,s.I,s.M,({d with N:=t}:PD).pd⟩ ⟨U,U,λ_ _ z=>ĉ 0 z.1⟩ U U h3 (by show(({d with N:=t}:PD).Y).length+n=8;rw[g];simp;omega) Z)
   .rw[if_neg z];refine⟨s,k,É a.C,a.M,?_,by rw[a.d],λc j e=>adb a j e λq=> ?_⟩
    .rw[a.d];unfold PD.I;rw[g];simp only[h3,if_true]
    .subst q;have:n=0:=Ł λy=>z ⟨j,y⟩;rw[g];simp;omega
def as3:∀c∈j0,oO c=Ë:=A
def adf:∀(f k:Nat) (st:PS),k<=B.size->(qu B f k st).1<=B.size
 |0,_,_,h=>h
 |f+1,k,st,h=>by
  unfold qu;split
  .rename_i a;cases qt B k st (B[k].toNat:Int)with
   |none=>exact h
   |some s=>exact adf f (k+1) s a
  .exact h
def adg(h:i<=B.size):(pR B i st).1<=B.size:=adf _ _ _ h
def as4:∀k:Nat,k<9->s6 (k+1)=pP k++(if k=0 then[66]else[])/\∀h∈pP k,h∈tB È:=A
def as5:∀c∈kX,uE c=(kX.idxOf c:Nat)+1:=A
def as6(h:oh B i [82] d st):DY B i st d.I (kY B (i,È)):=by
 unfold kY fS iP;simp only[Ô,if_false];cases o:(gN B)[i]? with
 |none=>exact⟨st,Bq o,Ð ⟨82,[],h.C,A⟩⟩
 |some c=>
  have e:=h.I o;unfold jH zo at e;simp only[h.C,h.d,if_true]at e;by_cases q:c∈kX
  .simp only[q,if_true,Ô,if_false];rw[as5 c q,if_neg Z]at e;have H:kX.idxOf c<9:=ĸ q;generalize kX.idxOf c=k at*;let⟨I,l⟩:=as4 k H;have t:=Vq (B:=B) (tl:=if k=0 then[66]else[]) (pP k) (d.vW<|(k:Int)+1) (i+1) ⟨s6<|k+1,0,st.I,st.M,d.vW<|(k:Int)+1⟩ ⟨I,U,λ_ _ z=>ĉ 0 z.1⟩ l U;have w:∀c,((d.vW<|(k:Int)+1).tA c).I=d.I++[⟨c,[]⟩]:=λ_=>rfl;rw[show(d.vW<|(k:Int)+1).gC=(PD.uG ((k+1:Nat):Int)).c from rfl]at t;generalize mZ B (pP k) (PD.uG ((k+1:Nat):Int)).c (i+1,È)=p at*;let⟨x,a,b⟩:=p;cases b with
   |true=>
    unfold Bp;rw[if_pos<|Ð<|É U];unfold DY xO;rwa[e]
   |false=>
    let⟨s,n,r⟩:=t;have m:=n.d;have E:pR B i st=pR B a s:=e.trans r;unfold Bp;by_cases z:k=0
    .subst z;simp only[ne_eq,not_true,false_or,Ô];have C:s.C=[66]:=n.C;by_cases y:a=B.size\/iP B (a,È)=Ã 59
     .rw[if_pos y];refine⟨s,e.trans r,Ð C,n.M,by rw[m];exact w x,by rw[m];rfl,λj f u=> ?_⟩;rcases y with y|y
      .subst y;exact absurd (uO (st:=st) f).1<|Nat.lt_irrefl _
      .have:(gN B)[a]?=Ã 59:=y;rw[this]at f;cases f;exact absurd U u
     .rw[if_neg y];have D:=ade (B:=B) 8 s.d.pd a ⟨[120,84],0,s.I,s.M,s.d.pd⟩ ⟨U,U,λ_ _ z=>ĉ 0 z.1⟩ U U (by rw[m];rfl) (by rw[m];rfl) A;cases f:(gN B)[a]? with
      |none=>
       have g:=adg (B:=B) (st:=st)<|Nat.le_of_lt (uO (st:=st) o).1;rw[E,Bq f]at g;rw[xN]at f;split at f
       .cases f
       .have:a<=B.size:=g;omega
      |some j=>
       have F:iP B (a,È)=Ã j:=f;have l:=n.I f;unfold jH qp at l;simp only[C,show(66:Int)≠82 by decide,if_false,if_true]at l;by_cases g:oO j=Ë
       .rw[if_pos g]at l;have v:=oh.I (st:=⟨[120,84],0,s.I,s.M,s.d.pd⟩) ⟨U,U,λ_ _ z=>ĉ 0 z.1⟩ f;unfold jH at v;simp only[show(120:Int)≠82 by decide,show(120:Int)≠66 by decide,show(120:Int)≠84 by decide,show(120:Int)≠80 by decide,if_false,show mF 120 j=oO j from rfl,g,if_true]at v;have G:pR B a s=pR B a ⟨[120,84],0,s.I,s.M,s.d.pd⟩:=l.trans v.symm;rw[m]at D G;unfold DY xO at*;rwa[E,G]
       .rw[if_neg g,if_neg (show¬(j=59/\_)from λq=>y<|Ð<|q.1▸F),if_neg (λq=>by rw[m]at q;exact absurd q.2.1<|by show¬0<([]:List PT).length;decide)]at l;have v:jD B 120 (a,È)=(0,a,Ë):=by
         show(((fS B (a,È) j0).1:Int),(fS B (a,È) j0).2)=_;have:j∉j0:=λq=>g<|as3 j q;simp[fS,F,this]
        have G:(na B 8 [] (a,È)).2=(a,Ë):=by
         have J:(lM B (a,È)).2=(a,Ë):=by unfold lM;rw[v];exact F2 _ _
         unfold na;rw[J];rfl
        unfold DY;rw[G];exact⟨s,(e.trans r).trans l,É (uO (st:=s) f).1⟩
    .rw[if_pos<|É z];have g:oh B a [] ((d.vW<|(k:Int)+1).tA x) s:=by have:=n;rwa[if_neg z]at this
     exact⟨s,e.trans r,É g.C,n.M,by rw[m];exact w x,by rw[m];rfl,λj f u=>adb g f u λ_ q=>absurd q.1<|by show¬0<([]:List PT).length;decide⟩
  .simp only[q,if_false];have:uE c=0:=by
    unfold uE;simp[kX]at q;simp[q]
   rw[if_pos this]at e;exact⟨st,e,É (uO (st:=st) o).1⟩
def adh:∀(n:Nat) (d:PD) (i:Nat) (st:PS),i<=B.size->oh B i [82] d st->d.I.length+n=24->0<n->xL B n i d.I=if(pR B i st).1=B.size/\((pR B i st).2.C=[]\/(pR B i st).2.C=[66])then((pR B i st).2.d.I,-1)else([],((pR B i st).1:Int))
 |n+1,d,i,st,ha,h,hn,_=>by
  have r:=as6 h;have t:=adg (st:=st) ha;unfold xL;generalize kY B (i,È)=q at*;let⟨q,e,b⟩:=q;cases b with
  |true=>
   let⟨s,g,a⟩:=r;simp only[if_true,g];rw[if_neg];rintro⟨l,f⟩;rcases a with a|⟨h,tl,a,j⟩
   .exact absurd l<|Nat.ne_of_lt a
   .rw[a]at f;simp[j]at f
  |false=>
   let⟨s,g,a,j,m,l,u⟩:=r;simp only[Ô,if_false]at*;by_cases z:e=B.size
   .rw[g,(Bq (B:=B) (k:=e) (st:=s)<|by rw[xN,dif_neg Z]),if_pos z,if_pos ⟨z,a⟩,m]
   .rw[if_neg z];have o:∃c,(gN B)[e]?=Ã c/\e<B.size:=by
     cases f:(gN B)[e]? with
     |none=>
      rw[g,Bq f]at t;rw[xN]at f;split at f
      .cases f
      .exact absurd t<|by show¬e<=B.size;omega
     |some c=>exact⟨c,U,(uO (st:=st) f).1⟩
    let⟨c,f,o⟩:=o;have v:iP B (e,È)=Ã c:=f;rw[v];by_cases y:c=59/\n≠0
    .rw[if_pos ⟨by rw[y.1],y.2⟩];obtain⟨rfl,x⟩:=y;have p:pR B e s=pR B (e+1) ⟨[82],0,s.I,s.M,s.d⟩:=by
      rw[oh.I (st:=s) ⟨U,U,j⟩ f];unfold jH qp;rcases a with a|a
      .simp only[a];rw[if_pos ⟨trivial,by rw[l];omega⟩]
      .simp only[a,show(66:Int)≠82 by decide,if_false,if_true,show oO 59=È by decide,Ô];rw[if_pos ⟨trivial,by rw[l];omega⟩]
     rw[g,p,<-m];exact(adh n s.d (e+1) ⟨[82],0,s.I,s.M,s.d⟩ o ⟨U,U,λ_ _ z=>ĉ 0 z.1⟩ (by rw[m];simp;omega) Z)
    .rw[if_neg λq=>y ⟨ë q.1,q.2⟩];have p:pR B e s=(e,s):=by
      by_cases x:c=59
      .subst x;rw[oh.I (st:=s) ⟨U,U,j⟩ f];unfold jH qp;rcases a with a|a
       .simp only[a];rw[if_neg (by rw[l];omega),if_neg λq=>absurd q.1 A]
       .simp only[a,show(66:Int)≠82 by decide,if_false,if_true,show oO 59=È by decide,Ô];rw[if_neg (by rw[l];omega),if_neg λq=>absurd q.1 A]
      .exact u c f x
     rw[g,p,if_neg λq=>z q.1]
theorem Vr(h:¬1200<B.size):xM B=if(gy B).1=0 then((gy B).2.2,-1)else([],(gy B).2.1):=by
 unfold gy mo xM;rw[if_neg h];by_cases a:B.size=0
 .simp[a]
 .have e:=adh (B:=B) 24 Up 0 td (Û _) ⟨U,U,λ_ _ z=>ĉ 0 z.1⟩ U A;rw[if_neg a,if_neg a];rw[show Up.I=[]from U]at e;rw[e];unfold pR oc;grind
end
end Go.Proofs.Y.lC
namespace Go.Proofs.Y.gu
open Go Go.Proofs Go.RowKit Go.Proofs.Y.Lift Go.Proofs.Y.iV Go.Proofs.Y.lC
def adi{s:List fM}:∀n,n<=s.length->((n9 s).take n).foldl zh (0,s.getD 0 iR)=(0,s.getD (pn s n) iR)
 |0,_=>rfl
 |n+1,h=>by
  have e:(n9 s)[n]?=Ã (0,s.getD n iR):=by unfold n9;rw[Ĕ,Î (show n<s.length by omega)];simp[Č,show n<s.length by omega]
  rw[ê,e,ĥ,Ĩ,adi n Z];simp only[Η,Ξ,zh,pn];split<;>rfl
theorem Kj{s:List fM}{v:Int}(b:0<s.length)(d:-1<=v):n7 (n9 s) v=if r9 s v<0 then Å else Ã (0,s.getD (r9 s v).toNat iR):=by
 have f:(n9 s).length=s.length:=by simp[n9]
 have c:∀i,i<s.length->(n9 s)[i]?=Ã (0,s.getD i iR):=λi g=>by unfold n9;grind
 unfold n7 r9;by_cases e:v=-1
 .subst e;have a:=adi (s:=s) s.length<|Ù _;rw[á Z]at a;rw[if_pos U,if_neg (show¬(s.length:Int)<=-1 by omega),if_neg (show¬(0:Int)<=-1 by decide),if_neg Z,c 0 b,Ő,ô];exact congrArg Ã a
 .grind
section
variable{E:RS}
def Bt(B:ByteArray):Prop:=(40:Int)∉gN B
def as7(h:Bt B):(fS B E [40]).2.2=Ë:=by
 unfold fS;split
 .rename_i c a;rw[if_neg];simp only[î];rintro rfl;unfold iP at a;split at a
  .cases a
  .exact h<|â a
 .rfl
def Vt(h:Bt B):∀(a c:List Int) (E:RS),40∈a->(mZ B a c E).2.2=Ë
 |w::tl,c,E,hm=>by
  rw[mZ];by_cases e:w=40
  .subst e;have:(jD B 40 E).2=((jD B 40 E).2.1,Ë):=by
    rw[show jD B 40 E=(0,(fS B E [40]).2)from U];exact Prod.ext U<|as7 h
   rw[this,F2]
  .exact Vt h tl _ _<|by simpa[Ne.symm e]using hm
theorem as8:(fS B E [62,123,58]).1=0\/(fS B E [62,123,58]).1=1\/(fS B E [62,123,58]).1=2:=by have:=J2 (B:=B) (E:=E) (l:=[62,123,58]);grind
theorem as9(c:List Int)(w z:Int):(mY c w z).getD 4 0=c.getD 4 0:=by unfold mY;grind
def Vu:∀(a c:List Int) (E:RS),(mZ B a c E).1.getD 4 0=c.getD 4 0
 |[],_,_=>rfl
 |w::tl,c,E=>by rw[mZ,Vu tl,as9]
theorem ata(h:Bt B)(a:(lM B E).2.2=È):(lM B E).1.c.getD 4 0=1\/(lM B E).1.c.getD 4 0=2:=by
 unfold lM Bo at*;have b:=as8 (B:=B) (E:=(jD B 120 E).2);generalize fS B (jD B 120 E).2 [62,123,58]=k at*;rcases b with e|e|e
 .rw[e]at a|-;rw[if_neg A];exact É<|Vu _ _ _
 .grind
 .rw[e,if_neg A]at a;rw[Vt h _ _ _ A]at a;cases a
def adj(h:Bt B):∀(n:Nat) (a:List PT) (E:RS),(∀t∈a,t.c.getD 4 0=1\/t.c.getD 4 0=2)->(na B n a E).2.2=È->∀t∈(na B n a E).1,t.c.getD 4 0=1\/t.c.getD 4 0=2
 |0,a,E,ht,_=>ht
 |n+1,a,E,ht,hg=>by
  unfold na at hg|-;have f:(lM B E).2.2=È->∀t∈a++[(lM B E).1],t.c.getD 4 0=1\/t.c.getD 4 0=2:=λe t q=>by
   rcases ý.1 q with q|q
   .exact ht t q
   .rw[î.1 q];exact ata h e
  split at hg
  .rename_i d;rwa[if_pos d]
  .rename_i d;rw[if_neg d];split at hg
   .rename_i b;rw[if_pos b];exact adj h n _ _ (f<|(DO b.1).1) hg
   .rename_i b;rw[if_neg b];exact f hg
theorem atb(h:Bt B)(a:(kY B E).2.2=È):iF (kY B E).1:=by
 have d:=J2 (B:=B) (E:=E) (l:=kX);unfold kY at*;split at a
 .grind
 .rename_i q;rw[if_neg q];generalize fS B E kX=p at*;let⟨k,τ⟩:=p;simp only at d a|-;have b:=Vu (B:=B) (pP k) (PD.uG ((k+1:Nat):Int)).c τ;rw[show(PD.uG ((k+1:Nat):Int)).c.getD 4 0=((k+1:Nat):Int)from U]at b;have f:k=3\/k=4->(mZ B (pP k) (PD.uG ((k+1:Nat):Int)).c τ).2.2=Ë:=λe=>Vt h _ _ _ (by rcases e with rfl|rfl<;>decide);generalize mZ B (pP k) (PD.uG ((k+1:Nat):Int)).c τ=u at*;have g:¬(k=3\/k=4):=λe=>by
   have:=f e;unfold Bp at a;grind
  unfold Bp at a|-;split at a
  .rename_i c;rw[if_pos c];exact⟨by rw[b];omega,by rw[b];omega,λ_ q=>by cases q⟩
  .rename_i c;rw[if_neg c];exact⟨by rw[b];omega,by rw[b];omega,adj h 8 [] _ (λ_ q=>by cases q) a⟩
def adk(h:Bt B):∀(n i:Nat) (l:List PR),(∀r∈l,iF r)->∀r∈(xL B n i l).1,iF r
 |0,_,_,_=>λ_ q=>by cases q
 |n+1,i,l,hl=>by
  unfold xL;split
  .exact λ_ q=>by cases q
  .rename_i b;have a:∀r∈l++[(kY B (i,È)).1],iF r:=λr q=>by
    rcases ý.1 q with q|q
    .exact hl r q
    .rw[î.1 q];exact atb h<|by simpa using b
   split
   .exact a
   .split
    .exact adk h n _ _ a
    .exact λ_ q=>by cases q
theorem atc(h:Bt B):∀r∈(gy B).2.2,iF r:=by
 by_cases b:1200<B.size
 .unfold gy;grind
 .by_cases a:(gy B).1=0
  .have e:=Vr b;rw[if_pos a]at e;have c:(gy B).2.2=(xM B).1:=by rw[e]
   rw[c];unfold xM;split
   .grind
   .exact adk h 24 0 [] λ_ q=>by cases q
  .unfold gy at a|-;grind
end
end Go.Proofs.Y.gu
namespace Go.Proofs.Y.iV
open Go Go.Conc Go.Proofs Go.RowKit Go.Proofs.Y.Lift Go.Proofs.Y.gu Go.Proofs.Y.fA Go.Proofs.Y.lC
open Go.Conc.Lib Go.ConcR.Gen Go.Proofs.YtgpphkdoanciiaaGreatDoor
def F3(r:PR):Int×Nat×List Tx:=(r.c.getD 5 0,(r.c.getD 0 0).toNat,r.tx.map toTx)
def uQ(r:PR)(s:List fM):ByteArray:=if r.c.getD 4 0=1 then(rU (n9 s) (F3 r).1 (F3 r).2.1 (F3 r).2.2).2 else sZ (n9 s) (toQn r)
def wx(s:List fM)(r:PR):List fM:=if r.c.getD 4 0=1 then Ba s (F3 r)else s
def ri(s:List fM)(rs:List PR):List fM:=rs.foldl wx s
def adl{kd:Nat->Int}(h:kd i=1):∀n,i<n->(ij kd n).getD (fP kd i) 0=i
 |0,q=>by omega
 |n+1,q=>by
  have a:i<n->∀x,(ij kd n++x).getD (fP kd i) 0=i:=λz x=>by
   have b:fP kd i<(ij kd n).length:=by
    have e:∀m,i+1<=m->(ij kd<|i+1).length<=(ij kd m).length:=λm=>by
     induction m with
     |zero=>intro z;omega
     |succ m c=>
      intro z;rcases Ŏ i m with y|y
      .apply Õ (c y);by_cases q:kd m=1
       .rw[uw q];simp
       .rw[xi q];exact Ù _
      .rw[show m=i by omega];exact Ù _
    have:=e n z;rw[uw h]at this;unfold fP;simp at this;omega
   have:=adl h n z;simp only[Č,Ö b]at this|-;exact this
  by_cases z:i<n
  .by_cases q:kd n=1
   .rw[uw q];exact a z _
   .rw[xi q];have:=a z [];rwa[Ü]at this
  .obtain rfl:i=n:=Z
   rw[uw h];simp[Č,fP]
section
variable{rs:List PR}{s:List fM}{P:ByteArray}
def Vv:∀p,p<=rs.length->qo (xG rs) (ij (lE rs) rs.length) s (fP (lE rs) p)=ri s (rs.take p)
 |0,_=>by simp[fP,ij,qo,ri]
 |p+1,h=>by
  have a:=Vv p Z;have b:rs.take (p+1)=rs.take p++[rs.getD p qz]:=by rw[ê];congr 1;simp[Č,show p<rs.length by omega]
  unfold ri at a|-;rw[b,Ĩ,<-a];show _=wx _ _;unfold wx;by_cases q:lE rs p=1
  .rw[if_pos (show(rs.getD p qz).c.getD 4 0=1 from q)];have e:fP (lE rs) (p+1)=fP (lE rs) p+1:=by unfold fP;rw[uw q];simp
   rw[e];show Ba _ _=_;rw[adl q _ Z];rfl
  .rw[if_neg (show¬(rs.getD p qz).c.getD 4 0=1 from q)];have e:fP (lE rs) (p+1)=fP (lE rs) p:=by unfold fP;rw[xi q]
   rw[e]
def atd(h:i<rs.length):(jZ rs s)[i]?=Ã (uQ (rs.getD i qz)<|ri s<|rs.take i):=by unfold jZ;rw[Ĕ,ĝ h,Ő,Vv i Z];rfl
theorem adn:zv rs s=ri s rs:=by unfold zv;rw[Vv _<|Ù _,List.take_length]
theorem ate(h:gy B=(0,0,rs)):jR s B=(lk ⟨#[59]⟩<|jZ rs s,0,ri s rs):=by unfold jR;grind [adn]
end
def atf(a:ByteArray)(l:List ByteArray)(x:ByteArray):mS a (l++[x])=mS a l++(a.data.toList++x.data.toList):=by simp[mS]
def atg(l:List ByteArray)(x:ByteArray):lk ⟨#[59]⟩ (l++[x])=(if l.length=0 then lk ⟨#[59]⟩ l else lk ⟨#[59]⟩ l++⟨#[59]⟩)++x:=by
 cases l with
 |nil=>exact Ĉ<|by simp[lk,Jl,mS]
 |cons y r=>
  rw[if_neg fp];apply Ĉ;show(y.data.toList++mS _ (r++[x])).toArray=_;rw[atf];simp[lk,Jl,ē]
theorem ath(h:(gy B).1=0):B.size<=1200:=by unfold gy at h;grind
theorem ado(h:(gy B).1=0):gy B=(0,0,(gy B).2.2):=by unfold gy at h|-;grind
end Go.Proofs.Y.iV
namespace Go.Proofs.Y.gu
open Go Go.Proofs Go.RowKit Go.Proofs.Y.Lift Go.Proofs.Y.iV Go.Proofs.Y.lC
section
variable{s:List fM}{r:PR}{a:Nat}
def adp{v:Int}(d:0<s.length)(e:-1<=v)(h:¬r9 s v<0):∃a:Nat,r9 s v=a/\a<s.length:=by
 unfold r9 at*;split at h
 .exact absurd (show(-1:Int)<0 by decide) h
 .split at h
  .rename_i b c;exact⟨v.toNat,by rw[if_neg b,if_pos c];omega,Z⟩
  .rename_i b c;exact⟨pn s s.length,by rw[if_neg b,if_neg c],U8 d _<|Ù _⟩
def ati(a:0<s.length)(b:-1<=r.c.getD 5 0)(h:r9 s (r.c.getD 5 0)<0):uQ r s=ow 3/\wx s r=s:=by
 have e:=Kj a b;rw[if_pos h]at e;unfold uQ wx;split
 .simp only[F3,rU,e,Ba,rZ,FH,Option.toList_none,Ü,and_self]
 .simp only[sZ,toQn,e,and_self]
def atj(d:0<s.length)(f:-1<=r.c.getD 5 0)(g:r9 s (r.c.getD 5 0)=a)(b:r.c.getD 4 0=1):uQ r s=(F1 s.length (s.getD a iR) r).2/\wx s r=s++(F1 s.length (s.getD a iR) r).1.toList:=by
 have e:=Kj d f;rw[g,if_neg Z,ô]at e;have h:(n9 s).length=s.length:=by simp[n9]
 unfold uQ wx F1;rw[if_pos b,if_pos b];simp only[F3,Ba,rZ,FH,rU,e,h];cases mQ (r.c.getD 0 0).toNat (s.getD a iR).s (r.tx.map toTx)<;>exact⟨U,U⟩
def atl(d:0<s.length)(f:-1<=r.c.getD 5 0)(g:r9 s (r.c.getD 5 0)=a)(b:r.c.getD 4 0≠1):uQ r s=rY (n9 s) (s.getD a iR) (toQn r)/\wx s r=s:=by have e:=Kj d f;rw[g,if_neg Z,ô]at e;unfold uQ wx;rw[if_neg b,if_neg b];simp only[sZ,toQn,e,and_self]
end
def atm(a:1<=h)(b:h<10)(c:h≠4)(d:h≠5):(h=1/\kX.getD (h-1).toNat 0=105)\/(h=2/\kX.getD (h-1).toNat 0=103)\/(h=3/\kX.getD (h-1).toNat 0=98)\/(h=6/\kX.getD (h-1).toNat 0=114)\/(h=7/\kX.getD (h-1).toNat 0=108)\/(h=8/\kX.getD (h-1).toNat 0=117)\/(h=9/\kX.getD (h-1).toNat 0=100):=by
 have:h=1\/h=2\/h=3\/h=6\/h=7\/h=8\/h=9:=Z
 rcases this with rfl|rfl|rfl|rfl|rfl|rfl|rfl<;>decide
structure ON(y:Nat)(av:Í)(ps:List VR)(qb vb:Nat)(r:PR)(tv:Í)(p:VR)(w0 w:Þ):Prop where
 C:RA y av ps w
 q:fq qb (lN r tv) 135 w
 v:fq vb (gJ p) 126 w
 kp:fc fh w0 w
def adq(h:∀x∈vX,0<x.size)(w:Þ):ì Á 90 #[Ê<|jC vX] w λe a=>e=Ñ (Ê<|vS vX)/\a=w:=by have:=aco (jC vX) w;rwa[acz h]at this
def atn{a:List (Nat×Int)}(h:xt a):∀x∈a.map mj,0<x.size:=λx b=>by obtain⟨e,c,rfl⟩:=ù.1 b;exact acA (h e c).1
section
variable{y qb vb:Nat}{av:Í}{ps:List VR}{p:VR}{w0 w':Þ}{r:PR}{tv:Í}{s:List fM}
def ON.fE(h:ON y av ps qb vb r tv p w0 w)(k:fc fh w w'):ON y av ps qb vb r tv p w0 w':=⟨h.C.fE k,h.q.C k id,h.v.C k id,h.kp.fj k⟩
def ON.ft(h:ON y av ps qb vb r tv p w0 w)(a:i<8):w.cell? ⟨vb,i,Å⟩=Ã (Â Ý (p.1.s i).ft):=h.v.r _ _<|by show(iH p.1.s++_)[i]?=_;rw[Ö (by rw[mW];omega),zx _ Z,FY a]
def ON.Uf(h:ON y av ps qb vb r tv p w0 w)(b:i<8)(a:k<16):w.cell? ⟨vb,16+i*16+k,Å⟩=Ã (Â Ý<|(p.1.s i).r k):=h.v.r _ _<|by show(iH p.1.s++_)[16+i*16+k]?=_;rw[Ö (by rw[mW];omega),zx _ Z,NW a]
def ON.TF(h:ON y av ps qb vb r tv p w0 w):w.cell? ⟨vb,145,Å⟩=Ã p.2.1:=h.v.r _ _<|r8 1 U
def RA.M(h:RA y av ps w)(f:ps[i]?=Ã p):∃b c,av=Ç (Ã ⟨b,0,Å⟩) ps.length c/\w.rangeAt b (i*148) (gJ p):=by let⟨b,c,e,g⟩:=h.I f;exact⟨b,c,e,λd v j=>g d v j⟩
def ato(h:RA y av ps w)(C:ps.map (·.1)=s)(F:kx s)(D:lC.Dy r)(ht:ie 260 tv r.tx.length (oQ r.tx) w)(mJ:iF r): ì Á 59 #[Æ<|Ã ⟨y,0,Å⟩,ÿ (lN r tv).toArray] w λe w'=>∃Vw x,e=Ñ (Ê<|uQ r s)/\RA y Vw x w'/\x.map (·.1)=wx s r/\fc (λi=>i=y\/av.ownBlock=Ã i) w w':=by
 have hlen:ps.length=s.length:=by rw[<-C,ġ]
 have G:=F.C;have h40:=F.r;have hN:∀W v,fc fh w W->-1<=v->v<1000000->ì Á 82 #[Æ<|Ã ⟨y,0,Å⟩,Â Ä v] W λe w'=>e=Ñ (Â Ä<|r9 s v)/\fc fh W w':=λW v k Y h2=>by
  refine Ú (ar3 (h.fE k) Z Z (λp O=> ?_) v Y Z) ?_
  .have:=(F.zi p.1<|by rw[<-C];exact List.mem_map_of_mem O).2.2;omega
  .rintro e w' ⟨rfl,n,rfl⟩;rw[C];exact⟨U,fc.jh _ _ _⟩
 have u:=D.c.r 5 A;have I:=D.c.r 6 A;have o0:=D.c.r 0 A;have o7:=D.c.r 7 A;have o4:=D.c.r 4 A;simp only[lr]at u I o0 o7 o4;have hB:=fq.N w (lN r tv) 135;have k0:=fc.iw fh w (lN r tv).toArray 135;have q1:=hB.r 1 _ U;have lq:=hB.M;let⟨ap,Vx,Kf⟩:=jv h.fg;subst Kf;have HN:=eZ hN;by_cases Vy:r9 s (r.c.getD 5 0)<0
 .let⟨g,z⟩:=ati G u.1 Vy;rw[g,z];have H:=eZ<|À h<|À C k0;clear h hN C ht mJ D F hB k0 g z;generalize r.c.getD 5 0=V at*;go_enter ax,ψ;go_wp2_with (first
   |(with_reducible refine Ø U (Ã 3) U _ _ (sW U U) ?_;generalize w.alloc (Ó (lN r tv).toArray 135)=wa at*)
   |(go_at_call 82;refine Ú (HN.out _ _ H.out.2.2 u.1 u.2) ?_;rintro e J ⟨rfl,m⟩;have K:=eZ m;clear m)
   |(go_at_call 83;refine Ú (NT 3 Z _) ?_;rintro e w3 ⟨rfl,j⟩;subst j))
  go_ret;exact⟨_,ps,U,H.out.1.fE<|H.out.2.2.fj K.out,H.out.2.1,(H.out.2.2.fj K.out).ff λ_ _=>é⟩
 .let⟨a,ha,hal⟩:=adp G u.1 Vy;obtain⟨p,O⟩:∃p,ps[a]?=Ã p:=⟨_,Î Z⟩;have Od:p.1=s.getD a iR:=by rw[<-C];simp[Č,O]
  have xS:=h.C p<|â O;let⟨vok,adr,vh0,vh1⟩:=F.zi p.1 (by rw[Od];simp[Č,hal]);have hA:=h.fE k0;let⟨L,rc,hrv,qL⟩:=hA.M O;cases hrv;let⟨i0,qj,hx⟩:=Ì.1 Vl;simp only[Ņ,Ì]at hx;let⟨iO,_,z0,oJ,hzc⟩:=hx;have oE:z0.cells.size=148:=by rw[show z0.cells=(gJ<|vz 0).toArray by rw[<-hzc]];exact zF 0
  clear hzc;let⟨dd,AX,vN⟩:=Ì.1 zD;have h1p:∀v∈gJ p,v.oneCell'=Ë:=by let⟨⟨_,_,g,_⟩,⟨_,_,z,_⟩,⟨_,_,Q,_⟩⟩:=xS;exact Ob (by rw[g];rfl) (by rw[z];rfl)<|by rw[Q];rfl
  have B:=eZ<|À qj<|À oJ<|À iO<|À oE<|À AX<|À vN h1p;have d:=eZ<|À h<|À C<|À F<|À D<|À ht<|À mJ<|À xS Od;have P:=eZ<|À hA<|À hB<|À k0 qL;have l:=eZ<|À ha<|À vok adr;clear h hN C ht mJ D F hB k0 hA qL xS vok adr qj oJ iO oE AX vN h1p;generalize M:r.c.getD 5 0=V at*;obtain⟨V2,Oe⟩:∃V2,r.c.getD 6 0=V2:=⟨_,U⟩;rw[Oe]at I;obtain⟨X,hX⟩:∃X:Nat,r.c.getD 0 0=X:=⟨(r.c.getD 0 0).toNat,Z⟩;obtain⟨S,hS⟩:∃S:Nat,r.c.getD 7 0=S:=⟨(r.c.getD 7 0).toNat,Z⟩;have hX8:X<8:=Z
  have atp:S<16:=Z
  have J7:=atm o4.1 o4.2 d.out.2.2.2.2.2.1.1 d.out.2.2.2.2.2.1.2.1;have Y:=λe=>atj G (by rw[M];exact u.1) (by rwa[M]) e;have h2:=λe=>atl G (by rw[M];exact u.1) (by rwa[M]) e;have hq:toQn r=⟨X,(r.c.getD 1 0).toNat,(r.c.getD 2 0).toNat,(r.c.getD 3 0).toNat,r.c.getD 4 0,V,V2,S⟩:=by simp only[toQn,hX,hS,M,Oe,ô]
  rw[<-Od]at Y h2;rw[hq]at h2;obtain⟨bn,hbn⟩:∃n:Nat,(p.1.s X).ft=n:=⟨(p.1.s X).ft.toNat,by have:=(l.out.2.2.ft X).1;omega⟩;obtain⟨sn,hsn⟩:∃n:Nat,(p.1.s X).r S=n:=⟨((p.1.s X).r S).toNat,by have:=(l.out.2.2.C X S).1;omega⟩;have atq:bn<18446744073709551616:=by have:=(l.out.2.2.ft X).2;omega
  have NY:sn<18446744073709551616:=by have:=(l.out.2.2.C X S).2;omega
  obtain⟨lp,lc,Og⟩:∃lp lc,p.2.1=Ç lp p.1.C.length lc:=by let⟨⟨a,b,e,_⟩,_,_⟩:=d.out.2.2.2.2.2.2.1;exact⟨a,b,e⟩
  have f:=eZ<|À hX<|À hS<|À M<|À hbn<|À hsn<|À Og<|À Y<|À h2 Oe;clear hX hS M Oe Vy Y h2 hq hbn hsn Og ha Od;let⟨d135,Kk,Kl⟩:=Ì.1 sd;let⟨d121,ads,adt⟩:=Ì.1 acT;have E:=eZ<|À Kk<|À Kl<|À ads adt;clear Kk Kl ads adt;rcases J7 with⟨e,N⟩|⟨e,N⟩|⟨e,N⟩|⟨e,N⟩|⟨e,N⟩|⟨e,N⟩|⟨e,N⟩;rotate_left 6;by_cases Dm:r9 s V2<0;rotate_left 2;all_goals
   go_enter ax,ψ;go_wp2_with (first
    |(with_reducible refine Ø U (Ã 3) U _ _ (sW U U) ?_;generalize w.alloc (Ó (lN r tv).toArray 135)=wa at*)
    |(go_at_call 82;refine Ú (HN.out _ _ H.out.kp I.1 I.2) ?_;rintro e o ⟨rfl,g⟩;have H:=eZ<|H.out.fE g;clear g)
    |(go_at_call 82;refine Ú (HN.out _ V P.out.2.2.1 u.1 u.2) ?_;rintro e J ⟨rfl,m⟩;rw[l.out.1];have c0:=(P.out.1.fE m).r.r 0 _ U;have qL:J.rangeAt L (a*148) (gJ p):=(by let⟨_,_,e,z⟩:=(P.out.1.fE m).M O;cases e;exact z);have Q:=eZ<|À m qL;clear m qL)
    |(refine qk 126 U ?_;first|refine ö U 126 _ U L (a*148) U (gJ p) dd Q.out.2 B.out.2.2.2.2.1 B.out.2.2.2.2.2.1 (by rw[wm];exact congrArg Ã (lX _ _ _ _).symm) ?_|refine ö U 126 _ U J.heap.size 0 U (gJ p) dd (fq.Y (tl:=[])<|by rw[Ü];exact H.out.v) B.out.2.2.2.2.1 B.out.2.2.2.2.2.1 (by rw[wm];exact congrArg Ã (lX _ _ _ _).symm) ?_)
    |(refine M5 U U 126 U 6 U _ _ U U B.out.1 B.out.2.1 (gJ p) (by rw[B.out.2.2.1];exact(lX _ _ _ _).symm) (by rw[B.out.2.2.2.1];exact(lX _ _ _ _).symm) U U B.out.2.2.2.2.2.2 ?_;intro w3 hB3 T zE;have m:ON y (Ç (Ã ⟨L,0,Å⟩) ps.length Vx) ps w.heap.size J.heap.size r tv p w w3:=⟨P.out.1.fE<|Q.out.1.fj T,P.out.2.1.C (Q.out.1.fj T) id,hB3,P.out.2.2.1.fj<|Q.out.1.fj T⟩;have Q:=m.q.r 0 _ U;have q2:=m.q.r 2 _ U;have q3:=m.q.r 3 _ U;have q5:=m.q.r 5 _ U;have c0:=m.C.r.r 0 _ U;have l3:=m.v.M;have vb:=m.ft hX8;have vs:=m.Uf hX8 atp;have vl:=m.TF;rw[N]at Q;rw[f.out.2.2.2.2.2.2.2.2]at q2;rw[f.out.1]at q3;rw[f.out.2.1]at q5;rw[f.out.2.2.2.1]at vb;rw[f.out.2.2.2.2.1]at vs;rw[f.out.2.2.2.2.2.1]at vl;have H:=eZ m;clear m hB3 T zE)
    |(refine qk 135 U ?_;refine ö U 135 _ U w.heap.size 0 U (lN r tv) d135 (fq.Y (tl:=[])<|by rw[Ü];exact H.out.q) E.out.1 E.out.2.1 rh ?_)
    |(refine qk 121 U ?_;refine ö U 121 _ U J.heap.size 0 U (iH p.1.s) d121 (fq.Y H.out.v) E.out.2.2.1 E.out.2.2.2 (by rw[Oa,mW]) ?_)
    |(go_at_call 83;refine Ú (NT 3 Z _) ?_;rintro e o ⟨rfl,j⟩;subst j)
    |(go_at_call 84;refine Ú (asP H.out.C Z (d.out.2.2.2.2.2.2.1.fE H.out.kp) l.out.2.2 Z d.out.2.2.2.1 (d.out.2.2.2.2.1.fE H.out.kp) d.out.2.2.2.2.2.1.2.2) ?_;rintro e o ⟨Vw,x,rfl,m,T,Km⟩;have Q:=eZ<|À m<|À T Km;clear m T Km)
    |(go_at_call 85;refine Ú (FW bn atq _) ?_;rintro e o ⟨rfl,j⟩;subst j)
    |(go_at_call 88;refine Ú (arS _ (aaU _) _) ?_;rintro e o ⟨rfl,j⟩;subst j)
    |(go_at_call 89;refine Ú (ar0 l.out.2.2) ?_;rintro e o ⟨rfl,g⟩;have H:=eZ<|H.out.fE g;clear g)
    |(go_at_call 90;refine Ú (adq (atn l.out.2.1.C) _) ?_;rintro e o ⟨rfl,j⟩;subst j)
    |(go_at_call 91;refine Ú (arT (by rw[<-f.out.2.2.2.2.2.1];exact d.out.2.2.2.2.2.2.1.C.fE H.out.kp) l.out.2.1.I l.out.2.1.C) ?_;rintro e o ⟨rfl,m,j⟩;have g:fc fh _ o:=(by rw[j];exact fc.jh _ _ m);have H:=eZ<|H.out.fE g;clear g j)
    |(go_at_call 92;refine Ú (arU (d.out.2.2.2.2.2.2.1.r.fE H.out.kp) (d.out.2.2.2.2.2.2.1.I.fE H.out.kp) l.out.2.1.M l.out.2.1.r) ?_;rintro e o ⟨rfl,g⟩;have H:=eZ (H.out.fE g);clear g))
  .go_ret;let⟨m,g⟩:=f.out.2.2.2.2.2.2.1 e;rw[m,g,<-hlen];exact⟨Vw,x,U,Q.out.1,by rw[Q.out.2.1,d.out.2.1],(H.out.kp.ff λ_ _=>é).fj Q.out.2.2⟩
  .go_quiet ((go_at_call 85;exact è<|FW sn NY _))
   go_wp2;go_ret;let⟨m,g⟩:=f.out.2.2.2.2.2.2.2.1 (by rw[e];decide);refine⟨_,ps,?_,H.out.C.fE kp,by rw[g];exact d.out.2.1,(H.out.kp.fj kp).ff λ_ _=>é⟩;rw[m,e];simp[rY,f.out.2.2.2.2.1]
  .go_ret;let⟨m,g⟩:=f.out.2.2.2.2.2.2.2.1 (by rw[e];decide);refine⟨_,ps,?_,H.out.C,by rw[g];exact d.out.2.1,H.out.kp.ff λ_ _=>é⟩;rw[m,e];simp[rY,f.out.2.2.2.1]
  .go_ret;let⟨m,g⟩:=f.out.2.2.2.2.2.2.2.1 (by rw[e];decide);refine⟨_,ps,?_,H.out.C,by rw[g];exact d.out.2.1,H.out.kp.ff λ_ _=>é⟩;rw[m,e];simp[rY]
  .go_ret;let⟨m,g⟩:=f.out.2.2.2.2.2.2.2.1 (by rw[e];decide);refine⟨_,ps,?_,H.out.C,by rw[g];exact d.out.2.1,H.out.kp.ff λ_ _=>é⟩;rw[m,e];simp[rY]
  .go_ret;let⟨m,g⟩:=f.out.2.2.2.2.2.2.2.1 (by rw[e];decide);refine⟨_,ps,?_,H.out.C,by rw[g];exact d.out.2.1,H.out.kp.ff λ_ _=>é⟩;rw[m,e];simp[rY]
  .go_ret;let⟨m,g⟩:=f.out.2.2.2.2.2.2.2.1 (by rw[e];decide);refine⟨_,ps,?_,H.out.C,by rw[g];exact d.out.2.1,H.out.kp.ff λ_ _=>é⟩;have Q:=Kj G I.1;rw[if_pos Dm]at Q;rw[m,e];simp[rY,Q]
  .let⟨b,hb,Lw⟩:=adp G I.1<|Τ.2 Dm;obtain⟨T,hp2⟩:∃p,ps[b]?=Ã p:=⟨_,Î Z⟩;have hp3:T.1=s.getD b iR:=by rw[<-d.out.2.1];simp[Č,hp2]
   have DZ:b<ps.length:=Z
   have Q:=Kj G I.1;rw[hb,if_neg Z,ô,<-hp3]at Q;simp only[hb];have hR:∀W,fc fh o W->W.cell? ⟨y,0,Å⟩=Ã (Ç (Ã ⟨L,0,Å⟩) ps.length Vx)/\W.rangeAt J.heap.size 0 (iH p.1.s)/\W.rangeAt L (b*148) (iH T.1.s):=λW k=>by refine⟨(H.out.fE k).C.r.r 0 _ U,fq.Y (H.out.fE k).v,?_⟩;let⟨_,_,e,z⟩:=(H.out.fE k).C.M hp2;cases e;exact λi v x=>z i v<|by show(iH T.1.s++_)[i]?=_;rwa[Ö (Ò.1 x).1]
   have HR:=eZ hR;have HS:=eZ<|hR _<|fc.gG fh o;have HF:=eZ Q;clear hR Q hp3;refine o5 (λW=>W.cell? ⟨y,0,Å⟩=Ã (Ç (Ã ⟨L,0,Å⟩) ps.length Vx)/\W.rangeAt J.heap.size 0 (iH p.1.s)/\W.rangeAt L (b*148) (iH T.1.s)) [] fx ?_;apply tk HS.out;refine tk (v:=ÿ (iH p.1.s).toArray) HS.out 1 ?_ (hy:=λw h=>N9 h.2.1 E.out.2.2.1 E.out.2.2.2 (by rw[Oa,mW]) fL fL);iterate 7 apply tk HS.out
   refine tk (v:=ÿ (iH T.1.s).toArray) HS.out 9 ?_ (hy:=λw h=>N9 h.2.2 E.out.2.2.1 E.out.2.2.2 (by rw[Oa,mW]) fL fL);apply ia 10;intro K i;go_simp;go_at_call 93;apply Ú arV;rintro e w5 ⟨rfl,k5⟩;have z:=(fc.gG fh o).fj k5;apply i.out _ _ λ_=>HR.out _ z;clear i K;apply ia 11;intro K i;go_simp;go_at_call 90;refine Ú (adq (λx hx=> ?_) _) ?_
   .rw[(U5 (s:=p.1.s) (t:=T.1.s) 8<|Ù _).2 x hx];decide
   rintro e x ⟨rfl,j⟩;subst j;apply i.out _ _ λ_=>HR.out _ z;clear i K;apply ia 12;intro K i;go_simp;apply i.out _ _ λ_=>HR.out _ z;clear i K;refine oZ fx ?_ _;go_wp2;go_ret;let⟨m,g⟩:=f.out.2.2.2.2.2.2.2.1 (by rw[e];decide);refine⟨_,ps,?_,(H.out.fE z).C,by rw[g];exact d.out.2.1,(H.out.fE z).kp.ff λ_ _=>é⟩;rw[m,e];simp[rY,HF.out]
end
section
variable{y:Nat}{c:List VR}{w':Þ}{s:List fM}{rs:List PR}
def RA.S(h:RA y x c w)(k:fc (λi=>i=y\/x.ownBlock=Ã i) w w')(a:T≠81)(d:T≠126)(q:ie T v n l w):ie T v n l w':=q.I k λb l g e z=>by
 rcases e with rfl|e
 .have:=h.r;rw[this]at z;cases z;exact a U
 .let⟨j,f⟩:=nW h.fg e;rw[f]at z;cases z;exact d U
def tC.iU(q:tC v rs w)(h:RA y x c w)(k:fc (λi=>i=y\/x.ownBlock=Ã i) w w'):tC v rs w':=by let⟨c,a,b,d⟩:=q;exact⟨c,a,h.S k A A b,λp q=>h.S k A A<|d p q⟩
def Vz:∀(c:List (PR×Value)) (j i:Nat) (p:PR×Value) (u:Í),c[j]?=Ã p->(lN p.1 p.2)[i]?=Ã u->(uP c)[j*9+i]?=Ã u
 |[],j,i,p,u,h,_=>by cases h
 |q::r,0,i,p,u,h,hx=>by cases h;rwa[ķ,Ě,uP,û,Ö (Ò.1 hx).1]
 |q::r,j+1,i,p,u,h,hx=>by have a:(lN q.1 q.2).length=9:=U;rw[uP,û,å (by rw[a];omega),a,show(j+1)*9+i-9=j*9+i by omega];exact Vz r j i p u h hx
theorem tC.at(q:tC v rs w){r:PR}(k:rs[j]?=Ã r):∃b o cp d,v=Ç (Ã ⟨b,o,Å⟩) rs.length cp/\w.rangeAt b (o+j*9) (lN r d)/\ie 260 d r.tx.length (oQ r.tx) w:=by
 obtain⟨c,l,⟨p,cp,rfl,_,f⟩,m⟩:=q;have g:(c.map (·.1))[j]?=Ã r:=by rwa[l]
 rw[Ĕ]at g;obtain⟨x,a,rfl⟩:=Ì.1 g;let⟨b,o,e,_⟩:=f (j*9) _<|Vz c j 0 x _ a U;refine⟨b,o,cp,x.2,by rw[e],λi u n=> ?_,m x<|â a⟩;let⟨s,t,h,_,y⟩:=f (j*9+i) u<|Vz c j i x u a n;rw[e]at h;cases h;grind
def Jz(ok:kx s)(a:∀r∈rs,QO r):kx (iV.ri s rs):=by rw[<-adn];exact ab7 ok a
theorem atr:J6 B=((gy B).1,(gy B).2.1):=by
 unfold J6;by_cases h:1200<B.size
 .rw[if_pos h];unfold gy;rw[if_pos h]
 .rw[if_neg h,Vr h];by_cases e:(gy B).1=0
  .rw[if_pos e,ado e];rfl
  .have a:0<=(mo B).1:=by
    unfold mo;grind
   rw[if_neg e,if_pos (by unfold gy;rw[if_neg h];split;exact Int.le_refl _;exact a)];unfold gy at e|-;grind
theorem atu(h:RA y x c w)(f:c.map (·.1)=s)(p:kx s)(hB:B.size<=ď)(M:∀r∈(gy B).2.2,iF r): ì Á 43 #[Æ<|Ã ⟨y,0,Å⟩,Ê B] w λe w'=>∃O G,e=Ñ (Đ #[Ê (jR s B).1,Â Ä (jR s B).2.1])/\RA y O G w'/\G.map (·.1)=(jR s B).2.2/\fc (λ_=>True) w w':=by
 have n:=λW=>asn hB W;rw[atr]at n;by_cases k:(gy B).1=0
 .have hle:=ath k;have P:=λW=>acQ hle W;rw[Vr Z,if_pos k]at P;rw[ate<|ado k];let⟨Q,Cu⟩:=JD λr h=>É<|M r h;simp only[k]at n;generalize(gy B).2.1=z at*;generalize(gy B).2.2=rs at*;have vf:=ab6 p Q Cu;have H:=eZ<|À n P;have u:=eZ<|À M<|À Q<|À vf p;have D:=eZ<|À h f;clear n P M Q vf p h f;obtain⟨N,S⟩:∃N,rs.length=N:=⟨_,U⟩;rw[S]at Cu;have v:=eZ S;clear S;go_enter Β,ω;go_wp2_with (first
   |(go_at_call 57;refine Ú (H.out.1 _) ?_;rintro e w1 ⟨rfl,E⟩;have K:=eZ E;clear E)
   |(go_at_call 58;refine Ú (H.out.2 _) ?_;rintro e w2 ⟨lv,rfl,g,k2⟩;obtain⟨T,V,Og⟩:∃T V,lv=Ç T rs.length V:=(by let⟨_,_,⟨a,b,e,_⟩,_⟩:=id g;exact⟨a,b,e⟩);subst Og;rw[v.out]at g|-;have K:=eZ (À (K.out.fj k2) g);clear k2 g))
  have h1:(9:Nat)=9:=U;let⟨d135,Kk,Kl⟩:=Ì.1 sd;have HD:=eZ<|À Kk Kl;clear Kk Kl h1;go_loopw [10,11] (λd i X=>∃(j:Nat) (x:Í) (c:List VR),j<=N/\i=Â Ä j/\d=Ê (lk ⟨#[59]⟩<|(jZ rs s).take j)/\RA y x c X/\c.map (·.1)=iV.ri s (rs.take j)/\tC (Ç T N V) rs X/\fc (λ_=>True) w X) λ_ i _=>N-(ï i).toNat
  case atStart=>exact⟨0,x,c,Û _,U,U,D.out.1.fE K.out.1,D.out.2,K.out.2,K.out.1.ff λ_ _=>é⟩
  case round=>
   obtain⟨j,x,c,hj,rfl,rfl,F,f,g,I⟩:=hrel;by_cases Y:j<N
   .obtain⟨r,J⟩:∃r,rs[j]?=Ã r:=⟨_,Î<|by rwa[v.out]⟩;let⟨b,o,cp,tv,hv,qL,zl⟩:=g.at J;cases hv;have adu:=â J;have p:=Jz u.out.2.2.2 (rs:=rs.take j) λr q=>u.out.2.1 r<|į q;have C:=ato F f p (u.out.2.1 r adu).lo zl<|u.out.1 r adu;have AR:iV.ri s (rs.take<|j+1)=wx (iV.ri s<|rs.take j) r:=by
     rw[ê,J,ĥ,iV.ri,Ĩ];rfl
    have Iv:(jZ rs s).take (j+1)=(jZ rs s).take j++[uQ r<|iV.ri s<|rs.take j]:=by rw[ê,atd (by rwa[v.out]),Č,J];rfl
    have L:=atg ((jZ rs s).take j)<|uQ r<|iV.ri s<|rs.take j;rw[<-Iv]at L;have iO:(lk ⟨#[59]⟩<|(jZ rs s).take j).size<=2400000024:=by have h1:=Ui ⟨#[59]⟩ U<|(jZ rs s).take j;have h2:=Nk (jZ rs s) j;have h3:=u.out.2.2.1;grind
    have hz:(uQ r<|iV.ri s<|rs.take j).size<=2400000024:=by have h2:=Nk (jZ rs s)<|j+1;have h3:=u.out.2.2.1;rw[Iv,T8]at h2;simp[jd]at h2;unfold jd at h3;omega
    have hl:((jZ rs s).take j).length=j:=by rw[Ż,NM,v.out];omega
    rw[hl]at L;generalize uQ r (iV.ri s<|rs.take j)=t at*;generalize lk ⟨#[59]⟩ ((jZ rs s).take j)=d at*;have l:=eZ<|À AR<|À L<|À C<|À g<|À I<|À F qL;clear AR Iv L C g I F qL f p zl hl;rcases ģ j with rfl|hj0;have Hk:((if(0:Nat)=0 then d else d++⟨#[59]⟩):ByteArray)=d:=U;rotate_left;have Hk:((if j=0 then d else d++⟨#[59]⟩):ByteArray)=d++⟨#[59]⟩:=if_neg Z;rotate_left;all_goals
     rw[Hk]at l;clear Hk;go_wp2_with (first
      |(refine qk 135 U ?_;refine ö U 135 _ U b (o+_*9) U (lN r tv) d135 l.out.2.2.2.2.2.2 HD.out.1 HD.out.2 rh ?_)
      |(go_at_call 59;refine Ú l.out.2.2.1 ?_;rintro e w4 ⟨O,G,rfl,AO,hmp,Km⟩;have m:=eZ (À AO (À hmp Km));clear AO hmp Km))
     go_roundw
     case rel=>exact⟨_+1,O,G,Y,by go_num,by rw[l.out.2.1],m.out.1,by rw[l.out.1];exact m.out.2.1,l.out.2.2.2.1.iU l.out.2.2.2.2.2.1 m.out.2.2,l.out.2.2.2.2.1.fj<|m.out.2.2.ff λ_ _ _=>trivial⟩
     case measure=>simp[ï];omega
   .obtain rfl:j=N:=Z
    rw[á (by rw[NM,v.out];exact Ù _)];rw[á (by rw[v.out];exact Ù _)]at f;have m:=eZ<|À F<|À f I;clear F f I g;go_wp2;go_ret2;exact⟨x,c,U,m.out.1,m.out.2.1,m.out.2.2⟩
 .unfold jR;rw[if_neg k];obtain⟨z,hz⟩:∃z,(gy B).1=z:=⟨_,U⟩;simp only[hz]at n k|-;have e1:(z !=0)=Ë:=by simpa using k
  have H:=eZ n;have D:=eZ<|À h f;clear n h f k hz;go_enter Β,ω;go_wp2_with (go_at_call 57;apply Ú (H.out _);rintro e w1 ⟨rfl,E⟩;have K:=eZ E;clear E);go_ret2;exact⟨_,c,U,D.out.1.fE K.out,D.out.2,K.out.ff λ_ _=>é⟩
end
end Go.Proofs.Y.gu
namespace Go.Proofs.Y.iV
open Go Go.Conc Go.Proofs Go.RowKit Go.Proofs.Y.Lift Go.Proofs.Y.gu Go.Proofs.Y.fA Go.Proofs.Y.lC
open Go.Conc.Lib Go.ConcR.Gen Go.Proofs.YtgpphkdoanciiaaGreatDoor
structure zH(l:fe)(y:Nat)(s:List fM)(U:Nat->Prop):Prop where
 I:∃av ps,RA y av ps l.w/\ps.map (·.1)=s
 C:kx s
 r:zb U (λ_=>False) nB l.w
 fg:∀b,U b->l.O b
 y:U y
section
variable{J:Jd}{l l':fe}{y:Nat}{s:List fM}{a:Nat->Prop}{c:κ}
def zH.M(h:zH l y s a)(c:∀b,a b->l'.O b/\l'.w.heap[b]?=l.w.heap[b]?)(d:nB<=l'.w.heap.size):zH l' y s a:=by let⟨e,f,g,i⟩:=h.I;refine⟨⟨e,f,RA.asO g h.r h.y λb q=>(c b q).2,i⟩,h.C,⟨λb q=> ?_,d⟩,λb q=>(c b q).1,h.y⟩;rw[(c b q).2];exact h.r.r b q
structure adv(l l':fe)(y:Nat)(s':List fM)(a U':Nat->Prop):Prop where
 r:∀b,l.O b->l'.O b/\(¬a b->l'.w.heap[b]?=l.w.heap[b]?)
 wR:l.w.heap.size<=l'.w.heap.size
 atv:zH l' y s' U'
 wA:∀b,U' b->a b\/l.w.heap.size<=b
def Oh{a:List VR}(h:RA y v a u)(T:Tape)(D:Nat):RA y v a {u with tape:=T,drawn:=D}:=⟨h.r,h.fg,λp q=>⟨(h.C p q).C,(h.C p q).I,(h.C p q).r⟩⟩
def atw(h:kx s)(a:∀r∈(gy B).2.2,iF r):kx (jR s B).2.2:=by
 unfold jR;split
 .exact ab7 h (JD λr h=>É<|a r h).1
 .exact h
def atx(w:ic l)(h:zH l y s a)(C:B.size<=ď)(m:∀r∈(gy B).2.2,iF r) (E:∀l' F,ic l'->adv l l' y (jR s B).2.2 a F->fA.fi Á Ë J l' (G (f.at (c.put ((Q[i]?).bind (·.dst))<|Đ #[Ê (jR s B).1,Â Ä (jR s B).2.1])<|æ Q jJ::L) qX)): fA.fi Á Ë J l (G (õ Á 43 #[Æ<|Ã ⟨y,0,Å⟩,Ê B] Ġ)<|f.at c (æ Q (i::jJ)::L)::qX):=by
 let⟨k,d,H,I⟩:=h.I;refine fA.fi.ma ?_ (acj (Post:=λv u=>v=Đ #[Ê (jR s B).1,Â Ä (jR s B).2.1]/\∃k d,RA y k d u/\d.map (·.1)=(jR s B).2.2) w h.fg h.r fL (oN λv n=> ?_) (λv u T D q=> ?_) (λT=> ?_) Ë _ _)
 .rintro K g2 ⟨M,e,Y,u,v,N,O,o,P,⟨rfl,av2,ps2,g,j⟩,rfl,p⟩;obtain rfl:N=Đ #[Ê (jR s B).1,Â Ä (jR s B).2.1]:=by
   generalize(jR s B).1=x at*;generalize(jR s B).2.1=z at*;cases P with
   |@lZ _ ku hs kz=>
    let⟨S⟩:=ku;match S,hs with
    |[x,y],_=>
     have b:=kz 0 fp fp;have t:=kz 1 fp fp;simp at b t;cases b;cases t;rfl
  have t:Y y y:=O.1 _ _ ⟨U,h.y⟩;let⟨S,V,W,X⟩:=ac3 o t<|Oh g _ _;rw[Ģ];exact E K _ M ⟨e.C,e.r,⟨⟨S,V,W,X.trans j⟩,atw h.C m,acn o<|Õ h.r.fv e.r,λb ⟨i,q⟩=>(p i b q).1,⟨y,t⟩⟩,λb ⟨i,q⟩=>(p i b q).2⟩
 .simp at n;rcases n with rfl|rfl
  .exact fu.jE (Y:=mh a nB) ⟨⟨U,h.y⟩,U,U⟩
  .exact .kt B
 .let⟨e,k,d,g,j⟩:=q;exact⟨e,k,d,Oh g T D,j⟩
 .apply Ú (atu (RA.j2 H T 0) I h.C C m);rintro e S ⟨b,t,rfl,g,j,L⟩;exact⟨⟨U,b,t,g,j⟩,L.gU A9⟩
def aty(r:ic l)(g:nB<=l.w.heap.size){n:Int}(s:1<=n)(t:n<=8) (B:∀l' y C,ic l'->adv l l' y [gu.iR] (λ_=>False) C->fA.fi Á Ë J l' (G (f.at (c.put ((Q[i]?).bind (·.dst))<|Đ #[Æ<|Ã ⟨y,0,Å⟩,Â Ä 0])<|æ Q jJ::L) qX)): fA.fi Á Ë J l (G (õ Á 39 #[Â Ä n] Ġ)<|f.at c (æ Q (i::jJ)::L)::qX):=by
 refine fA.fi.ma ?_<|acj (V:=λ_=>False) (Post:=λv u=>∃y d,v=Đ #[Æ<|Ã ⟨y,0,Å⟩,Â Ä 0]/\RA y d [vz 8] u) r (λ_ q=>q.elim) ⟨λ_ q=>q.elim,g⟩ fL (oN λv h=> ?_) (λv u T D q=> ?_) (λT=> ?_) Ë _ _
 .rintro E W ⟨F,e,Y,u,v,X,q1,j,H,⟨y,d,rfl,a⟩,rfl,k⟩;cases H with
  |@lZ _ ku hs kz=>
   let⟨I⟩:=ku;match I,hs with
   |[x,z],_=>
    have m:=kz 0 fp fp;have o:=kz 1 fp fp;simp at m o;cases o;obtain⟨a2,rfl,K⟩:=Jn m;obtain⟨M,rfl,p⟩:=vT K;let⟨N,O,P,S⟩:=ac3 j p<|Oh a _ _;rw[Ģ];exact B E M _ F ⟨e.C,e.r,⟨⟨N,O,P,S⟩,abW,acn j<|Õ g e.r,λb ⟨i,q⟩=>(k i b q).1,⟨y,p⟩⟩,λb ⟨i,q⟩=>(k i b q).2⟩
 .simp at h;subst h;exact .iB _ _
 .let⟨y,d,e,a⟩:=q;exact⟨y,d,e,Oh a T D⟩
 .apply Ú (asK n s t _);rintro e d ⟨y,b,rfl,a,L⟩;exact⟨⟨y,b,U,a⟩,L.gU A9⟩
end
section
variable{c l a:fe}{x:Nat}{s t:List fM}{u:Í}{V:Nat->Prop}{xs:List Í}
def mV.atz(h:mV l x n s jQ V)(c:∀b,l.O b->¬X b->a.O b/\a.w.heap[b]?=l.w.heap[b]?)(d:∀b,X b->¬V b/\b≠x/\¬(b=1\/b=2\/b=3\/b=4))(f:nB<=a.w.heap.size):mV a x n s jQ V:=by have g:=λb q=>c b (h.C b q) λe=>(d b e).2.2 q;have v:=λb q=>c b (h.S b q) λe=>(d b e).1 q;have o:=c x h.fg λe=>(d x e).2.1 U;exact⟨h.r.r f λb q=>(g b q).2,λb q=>(g b q).1,h.Y.r o.2,o.1,h.rd.r λb q=>(v b q).2,λb q=>(v b q).1,h.d,h.a,h.c,h.M⟩
def D1(h:gd X l a)(b:ic l):ic a:= ⟨h.N b.r,h.d.trans b.d,by rw[h.q];exact b.q,by rw[h.S];exact b.rd,by rw[h.Y];exact b.I,by rw[h.b];exact b.M,by rw[h.K];exact b.k⟩
end
def nD(l a:fe):Prop:=∀b,l.O b->a.O b/\a.w.heap[b]?=l.w.heap[b]?
section
variable{J:Jd}{l c:fe}{x:Nat}{s d:List fM}{b e:Ĵ}{a g:κ}{f:FuncId}{args:Array Í}{p:Func}{u:Array ĵ}{z:Array ğ}{xs:List ByteArray}{y:ByteArray}{t:ĵ}
def nD.r{a:fe}(h:nD l c)(L:nD c a):nD l a:=λb q=>⟨(L b (h b q).1).1,(L b (h b q).1).2.trans (h b q).2⟩
def D2{w₁:Þ}(r:fI l l.w w₁):nD l {l with w:=w₁}:=λb q=>⟨q,r.I b<|É q⟩
end
structure Pr where
 x:Nat
 n:Nat
 s:List fM
 y:Nat
 d:List fM
structure pQ(l:fe)(qs:List Pr)(t:Nat->Nat):Prop where
 x:∀(i:Nat) (a:Pr),qs[i]?=Ã a->t a.x=2*i+2/\∃sl V,mV l a.x a.n a.s sl V/\∀b,V b->t b=0
 y:∀(i:Nat) (a:Pr),qs[i]?=Ã a->∃U,zH l a.y a.d U/\∀b,U b->t b=2*i+3
 C:mT l.w
 r:∀b,b=1\/b=2\/b=3\/b=4->l.O b/\t b=0
 I:∀b,¬l.O b->t b=0
def se(l:fe)(t:Nat->Nat)(a:fe)(c:Nat->Nat):Prop:=∀b,l.O b->t b<=1->a.O b/\a.w.heap[b]?=l.w.heap[b]?/\c b=t b
section
variable{J:Jd}{l l' m:fe}{qs:List Pr}{a:Pr}{t o:Nat->Nat}{g:κ}{c:Nat}{k:List bg}{cs:List Ĵ}
def se.fj(h:se l t l' D)(k:se l' D m o):se l t m o:=λb q z=>by let⟨a,c,d⟩:=h b q z;let⟨e,f,g⟩:=k b a Z;exact⟨e,f.trans c,g.trans d⟩
def nD.fE(h:nD l l'):se l t l' t:=λb q _=>⟨(h b q).1,(h b q).2,U⟩
def qA(r:fI l l.w u):se l t {l with w:=u} t:=(D2 r).fE
def pQ.M(h:pQ l qs t)(k:nD l l')(e:l.w.heap.size<=l'.w.heap.size):pQ l' qs t:=by
 have f:=Õ h.C.fv e;refine⟨λi a q=> ?_,λi a q=> ?_,h.C.r f λb q=>(k b (h.r b q).1).2,λb q=>⟨(k b (h.r b q).1).1,(h.r b q).2⟩,λb q=>h.I b λz=>q (k b z).1⟩
 .let⟨c,g,V,d,j⟩:=h.x i a q;exact⟨c,g,V,d.I (λb q=>(k b q).1) (λb q=>(k b q).2) e,j⟩
 .let⟨U,c,d⟩:=h.y i a q;exact⟨U,c.M (λb z=>k b<|c.fg b z) f,d⟩
def pQ.N(h:pQ l qs t)(m:∀b,l.O b->t b≠c->l'.O b/\l'.w.heap[b]?=l.w.heap[b]?)(o:nB<=l'.w.heap.size)(p:c≠0): (∀(i:Nat) (a:Pr),qs[i]?=Ã a->2*i+2≠c->∃k V,mV l a.x a.n a.s k V/\mV l' a.x a.n a.s k V/\∀b,V b->t b=0)/\(∀(i:Nat) (a:Pr),qs[i]?=Ã a->2*i+3≠c->∃f,zH l a.y a.d f/\zH l' a.y a.d f/\∀b,f b->t b=2*i+3)/\mT l'.w/\∀b,b=1\/b=2\/b=3\/b=4->l'.O b:=by
 have r:=λb q=>m b (h.r b q).1 (by rw[(h.r b q).2];exact p.symm);refine⟨λi a q z=> ?_,λi a q z=> ?_,h.C.r o λb q=>(r b q).2,λb q=>(r b q).1⟩
 .let⟨g,k,V,j,u⟩:=h.x i a q;exact⟨k,V,j,j.atz (X:=λb=>t b=c) m (λb e=>⟨λv=>p (by rw[<-e];exact u b v),λv=>z (by rw[<-e,v];exact g.symm),λv=>p<|by rw[<-e];exact(h.r b v).2⟩) o,u⟩
 .let⟨f,g,j⟩:=h.y i a q;exact⟨f,g,g.M (λb v=>m b (g.fg b v)<|by rwa[j b v]) o,j⟩
theorem adw{b:Pr}(h:(qs.set i a)[j]?=Ã b)(c:i<qs.length):(j=i/\b=a)\/(j≠i/\qs[j]?=Ã b):=by grind
theorem atA(h:pQ l qs t)(m:qs[j]?=Ã a)(n:ic l)(D:B.size<=ď)(E:∀r∈(gy B).2.2,iF r) (F:∀l',ic l'->pQ l' (qs.set j {a with s:=(jR a.s B).2.2}) t->se l t l' t->jm vQ l' (G (f.at (g.put ((Q[i]?).bind (·.dst))<|Đ #[Ê (jR a.s B).1,Â Ä (jR a.s B).2.1])<|æ Q jJ::k) cs)): jm vQ l (G (õ Á 17 #[Æ<|Ã ⟨a.x,0,Å⟩,Ê B] Ġ)<|f.at g (æ Q (i::jJ)::k)::cs):=by
 let⟨o,p,V,u,H⟩:=h.x j a m;have I:=(Ò.1 m).1;have y:∀r∈(gy B).2.2,JC r:=λr h=>É<|E r h;refine aq4 y n u D (λ_=>ara y (by let⟨_,_,q,_⟩:=u.rd;exact q)) λl' J ⟨C,K,L,c,M⟩=> ?_;have d:∀b,l.O b->t b≠2*j+2->l'.O b/\l'.w.heap[b]?=l.w.heap[b]?:=λb q z=>C b q λe=>z (by rwa[e]);let⟨N,W,P,S⟩:=h.N d c.r.fv Z;refine F l' J ⟨λi b q=> ?_,λi b q=> ?_,P,λb q=>⟨S b q,(h.r b q).2⟩,λb q=>h.I b λz=>q ?_⟩ λb q z=>⟨(d b q Z).1,(d b q Z).2,U⟩
 .rcases adw q I with⟨rfl,rfl⟩|⟨e,q⟩
  .refine⟨o,K,L,c,λb q=> ?_⟩;rcases M b q with z|z|z
   .exact H b z
   .exact(h.r b z).2
   .exact h.I b λv=>by have:=n.r.fv b<|É v;omega
  .let⟨p,V,_,v,T⟩:=N i b q Z;exact⟨(h.x i b q).1,p,V,v,T⟩
 .grind
 .by_cases e:b=a.x
  .rw[e];exact c.fg
  .exact(C b z e).1
theorem atB(h:pQ l qs t)(I:qs[j]?=Ã a)(K:ic l)(P:B.size<=ď)(S:∀r∈(gy B).2.2,iF r) (T:∀l' D,ic l'->pQ l' (qs.set j {a with d:=(jR a.d B).2.2}) D->se l t l' D->fA.fi Á Ë J l' (G (f.at (g.put ((Q[i]?).bind (·.dst))<|Đ #[Ê (jR a.d B).1,Â Ä (jR a.d B).2.1])<|æ Q jJ::k) cs)): fA.fi Á Ë J l (G (õ Á 43 #[Æ<|Ã ⟨a.y,0,Å⟩,Ê B] Ġ)<|f.at g (æ Q (i::jJ)::k)::cs):=by
 let⟨U,W,L⟩:=h.y j a I;have X:=(Ò.1 I).1;refine atx K W P S λl' o Y ⟨C,hs,M,hU'⟩=> ?_;have E:∀b,l.O b->t b≠2*j+3->l'.O b/\l'.w.heap[b]?=l.w.heap[b]?:=λb q z=>⟨(C b q).1,(C b q).2 λe=>z<|L b e⟩;let⟨c1,c2,c3,c4⟩:=h.N E M.r.fv Z;classical;have p:∀b,l.O b->t b≠2*j+3->(if o b then 2*j+3 else t b)=t b:=λb q z=>if_neg λv=>(hU' b v).elim (λe=>z<|L b e) λe=>by have:=K.r.fv b<|É q;omega
 refine T l' (λb=>if o b then 2*j+3 else t b) Y ⟨λi b q=> ?_,λi b q=> ?_,c3,λb q=>⟨c4 b q,?_⟩,λb q=> ?_⟩ λb q z=>⟨(E b q Z).1,(E b q Z).2,?_⟩
 .have key:∀(c:Pr),qs[i]?=Ã c->(if o c.x then 2*j+3 else t c.x)=2*i+2/\∃F V,mV l' c.x c.n c.s F V/\∀b,V b->(if o b then 2*j+3 else t b)=0:=λc N=>by
   let⟨F,V,u,H,m⟩:=c1 i c N Z;have e1:=(h.x i c N).1;refine⟨by rwa[p _ u.fg Z],F,V,H,λb v=> ?_⟩;rw[p b (u.S b v) (by have:=m b v;omega)];exact m b v
  grind
 .rcases adw q X with⟨rfl,rfl⟩|⟨e,q⟩
  .grind
  .let⟨V,u,H,m⟩:=c2 i b q Z;refine⟨V,H,λb v=> ?_⟩;rw[p b (u.fg b v) (by rw[m b v];omega)];exact m b v
 .have:=(h.r b q).2;exact(p b (h.r b q).1 Z).trans this
 .refine(if_neg λv=>q<|M.fg b v).trans ?_;exact h.I b λv=>q (C b v).1
 .grind
end
def tD(b:List Pr):List Í:=b.flatMap λa=>[Æ<|Ã ⟨a.x,0,Å⟩,Æ<|Ã ⟨a.y,0,Å⟩]
structure pS(l:fe)(qs:List Pr)(t:Nat->Nat)(wb:Nat)(pv:Í):Prop where
 m:pQ l qs t
 C:gA l wb (Ó #[pv] 54 (0,0))
 S:t wb=1
 N:l.w.ownsRow 0 76 2 pv qs.length (tD qs)
 M:∀b,pv.ownBlock=Ã b->l.O b/\t b=1
def wy(l:fe)(t:Nat->Nat)(a:fe)(c:Nat->Nat):Prop:=∀b,l.O b->t b=0->a.O b/\a.w.heap[b]?=l.w.heap[b]?/\c b=0
section
variable{J:Jd}{l l' l2:fe}{qs B:List Pr}{t g:Nat->Nat}{wb:Nat}{pv:Í}{C:Ĵ}{ops:Array Ī}{rest:List Nat}{k:List bg}{cs:List Ĵ}
def se.r(h:se l t l' D):wy l t l' D:=λb q z=>by let⟨a,c,d⟩:=h b q Z;exact⟨a,c,d.trans z⟩
def wy.fj(h:wy l t l' D)(k:wy l' D l2 g):wy l t l2 g:=λb q z=>by let⟨a,c,d⟩:=h b q z;let⟨e,f,i⟩:=k b a d;exact⟨e,f.trans c,i⟩
def pS.fE(h:pS l qs t wb pv)(m:pQ l' B D)(k:se l t l' D)(e:tD B=tD qs)(a:B.length=qs.length):pS l' B D wb pv:=by
 let⟨c,d,f⟩:=k wb h.C.fg (by rw[h.S];exact Ù _);refine⟨m,⟨c,d.trans h.C.I⟩,f.trans h.S,?_,λb q=> ?_⟩
 .rw[e,a];exact oX h.N λb q=>(k b (h.M b q).1<|by rw[(h.M b q).2];exact Ù _).2.1
 .let⟨g,j,i⟩:=k b (h.M b q).1 (by rw[(h.M b q).2];exact Ù _);exact⟨g,i.trans (h.M b q).2⟩
def pS.I(h:pS l qs t wb pv)(k:nD l l')(a:l.w.heap.size<=l'.w.heap.size):pS l' qs t wb pv:=h.fE (h.m.M k a) k.fE U U
def pS.r(h:pS l qs t wb pv){w₁:Þ}(r:fI l l.w w₁):pS {l with w:=w₁} qs t wb pv:=h.I (D2 r) r.r
def adx{Y:fw}(h:fu Y (Đ #[Æ Å,Â Ä 7]) v):v=Đ #[Æ Å,Â Ä 7]:=by
 cases h with
 |@lZ _ ku hs kz=>
  let⟨c⟩:=ku;match c,hs with
  |[x,y],_=>
   have a:=kz 0 fp fp;have b:=kz 1 fp fp;simp at a b;cases a;cases b;rfl
def atC(e:Int)(w:Þ):ì Á 40 #[Â Ä e] w λr a=>r=Ñ (Â Ä e)/\a=w:=by go_enter Ř,Tryz.ntmps40;go_wp2;go_ret;exact⟨U,U⟩
def pQ.fg(h:pQ l qs t)(g:∀b,l.O b->t b≠1->l'.w.heap[b]?=l.w.heap[b]?)(j:∀b,l.O b->l'.O b)(k:nB<=l'.w.heap.size)(d:∀b,l.O b->D b=t b)(m:∀b,¬l'.O b->D b=0):pQ l' qs D:=by
 let⟨n,o,p,r⟩:=h.N (c:=1) (λb q z=>⟨j b q,g b q z⟩) k A;refine⟨λi a q=> ?_,λi a q=> ?_,p,λb q=>⟨r b q,(d b (h.r b q).1).trans (h.r b q).2⟩,m⟩
 .let⟨s,V,z,e,f⟩:=n i a q Z;exact⟨(d _ z.fg).trans (h.x i a q).1,s,V,e,λb v=>(d b<|z.S b v).trans<|f b v⟩
 .let⟨U,z,e,f⟩:=o i a q Z;exact⟨U,e,λb v=>(d b<|z.fg b v).trans<|f b v⟩
def pQ.iG{x:Nat}{sl:Í}{V:Nat->Prop}(h:pQ l qs t)(k:nD l l')(p:l.w.heap.size<=l'.w.heap.size)(g:mV l' x n [gu.iR] sl V)(r:zH l' j [gu.iR] X)(s:¬l.O x)(u:∀b,V b->¬l.O b)(o:∀b,X b->¬l.O b/\¬V b/\b≠x): ∃D,pQ l' (qs++[⟨x,n,[gu.iR],j,[gu.iR]⟩]) D/\∀b,l.O b->D b=t b:=by
 classical;have c:∀b,l.O b->(if b=x then 2*qs.length+2 else if X b then 2*qs.length+3 else t b)=t b:=λb q=>by rw[if_neg (by rintro rfl;exact s q),if_neg λe=>(o b e).1 q]
 have m:=h.M k p;refine⟨λb=>if b=x then 2*qs.length+2 else if X b then 2*qs.length+3 else t b,⟨λi a q=> ?_,λi a q=> ?_,m.C,λb q=>⟨(m.r b q).1,(c b (h.r b q).1).trans (h.r b q).2⟩,λb q=> ?_⟩,c⟩
 .rcases Ŏ i qs.length with z|z
  .rw[Ö z]at q;let⟨d,sl,V,f,B⟩:=h.x i a q;exact⟨(c _ f.fg).trans d,sl,V,f.I (λb q=>(k b q).1) (λb q=>(k b q).2) p,λb v=>(c b<|f.S b v).trans<|B b v⟩
  .rw[å z]at q;obtain e:i-qs.length=0:=by have:=(Ò.1 q).1;simp at this;omega
   rw[e]at q;cases q;obtain rfl:i=qs.length:=Z
   refine⟨if_pos U,sl,V,g,λb v=> ?_⟩;show(if b=x then _ else if X b then _ else t b)=0;rw[if_neg (by rintro rfl;exact g.d v),if_neg λe=>(o b e).2.1 v];exact h.I b<|u b v
 .rcases Ŏ i qs.length with z|z
  .rw[Ö z]at q;let⟨X,d,f⟩:=h.y i a q;exact⟨X,d.M (λb z=>k b<|d.fg b z) m.C.fv,λb v=>(c b<|d.fg b v).trans<|f b v⟩
  .rw[å z]at q;obtain e:i-qs.length=0:=by have:=(Ò.1 q).1;simp at this;omega
   rw[e]at q;cases q;obtain rfl:i=qs.length:=Z
   exact⟨X,r,λb v=>(if_neg (o b v).2.2).trans<|if_pos v⟩
 .show(if b=x then _ else if X b then _ else t b)=0;rw[if_neg (by rintro rfl;exact q g.fg),if_neg λe=>q<|r.fg b e];exact h.I b λz=>q (k b z).1
def F4{b:Frame}{a:Act}{o:Oper}{f:FuncId}{args:Array Value}{fn:Func}{ags:Array Operand}{ats:Array TypeId}{v:Value}(hb:ic l)(Tv:nB<=l.w.heap.size)(hf:Tryz.prog.funcs[f]?=some fn) (hc:∀l',ic l'->nB<=l'.w.heap.size->∀(cl:Frame) (cs:List Frame),fA.fi Tryz.prog true (λl'' g'=>iA l' l''/\l''.d=l'.d/\g'=G (cl.finish v) cs) l'<|G (Frame.enter Tryz.prog f args .normal)<|cl::cs) (hn:∀l',ic l'->nD l l'->l.w.heap.size<=l'.w.heap.size->fA.fi Tryz.prog true J l' (G (b.at (a.put o.dst v)<|.inRegion ops rest::k) cs)) (ho:ops[i]?=some o:=by rfl) (yl:o.op=.call {callee:=.value<|.func f,args:=ags,argTypes:=ats}:=by rfl) (hw:Region.wanted o (yielded ops a.tmps)=true:=by rfl) (hk:b.kind≠.early:=by k_ne) (hr:∀w,(execOp a.eval o).run Tryz.prog w=.ok (.enter f args) w:=by intro w;go_simp) (hm:(fn.name== "runtime.NumGoroutine")=false:=by rfl) (hd:fn.body.isNone=false:=by rfl): fA.fi Tryz.prog true J l (G (b.at a<|.inRegion ops (i::rest)::k) cs):=by refine xH ho hw hk hb.r.r hr (λw=>ç yl hf hm hd #[]) λw₁ kU=> ?_;refine fA.fi.ma ?_<|hc _ (hb.C kU) (Õ Tv kU.r) _ _;rintro l2 g2 ⟨ha,hd,rfl⟩;rw[Ģ,ho];exact hn l2 (iA.xn (hb.C kU) ha hd) ((D2 kU).r λb q=>⟨ha.O b q,ha.r.I b<|É q⟩)<|Õ kU.r ha.r.r
def VA(b:ic l)(c:nB<=l.w.heap.size)(e:Int)(a:Ĵ)(cs:List Ĵ):fA.fi Á Ë (λl' h=>iA l l'/\l'.d=l.d/\h=G (a.finish<|Â Ä e) cs) l (G (õ Á 40 #[Â Ä e] Ġ)<|a::cs):= JQ b c fL (λu h=>by simp at h;subst h;exact .iB _ _) (λh=>by cases h;rfl) (atC e) Ë a cs
def atD(a:ŝ)(w:Þ):ľ Á (ay θ 71 (Æ<|Ã a)<|Æ Å) w #[]=#[]:=fx
def atE(a:ŝ)(w:Þ):ľ Á (ay ι 26 (Æ<|Ã a)<|Æ Å) w #[]=#[]:=fx
def VB(w:Þ):ľ Á (ay θ 26 (Æ Å)<|Æ Å) w #[]=#[]/\ľ Á (ay θ 71 (Æ Å)<|Æ Å) w #[]=#[]/\ľ Á (ay ι 26 (Æ Å)<|Æ Å) w #[]=#[]:=⟨fx,fx,fx⟩
def ady(b:Bool)(w:Þ):ľ Á (ay ι 4 (í b)<|í b) w #[]=#[]:=by cases b<;>kernel_rfl
def atF:(Á.info? 76).map (λi=>(i.zero,i.size,i.bytes))=Ã (Ã<|ÿ #[Æ Å,Æ Å],2,16):=fx
def adz(S:ic l)(h:pS l qs t wb pv)(n:Int)(hN:qs.length<=2^42) (hJ:∀l' B D L,ic l'->pS l' B D wb L->wy l t l' D->qs.length<=B.length->B.length<=qs.length+1->(1<=n->n<=8->B.length=qs.length+1)->(∀a∈B,a∈qs\/a.s=a.d)->fA.fi Á Ë J l' (G (C.at (y.put ((ops[i]?).bind (·.dst))<|í Ë)<|æ ops rest::k) cs)): fA.fi Á Ë J l (G (õ Á 32 #[Æ<|Ã ⟨wb,0,Å⟩,Â Ä n] Ġ)<|C.at y (æ ops (i::rest)::k)::cs):=by
 have hF:True:=trivial;rw[DI [_,_] 42 Ń];simp only[ā,ĭ,đ];conv in mg _ _=>whnf
 apply fR (n:=60) S.r.r;repeat w_go fy
 refine Ï λ_ _=> ?_;by_cases hn:1<=n/\n<=8
 .obtain⟨m,rfl⟩:∃m:Nat,n=m:=⟨n.toNat,Z⟩;refine xH (f:=35) (args:=#[Â Ä m]) U fL (by k_ne) S.r.r (λw=>by go_simp) (λw=>ç U az U U #[]) λw₁ M=> ?_;refine fA.fi.ma ?_<|aqy (S.C M).r S.q (h.r M).m.C.fv (n:=(m:Int)) hn.1 hn.2 Ë _ _;rintro l1 g1 ⟨ha,hd,x,sl,rfl,kz,Oi,hx,V,qT,hnV,Kn⟩;have N:ic l1:=iA.xn (S.C M) ha hd;have k1:nD l l1:=(D2 M).r λb q=>⟨ha.O b q,ha.r.I b<|É q⟩;have s1:l.w.heap.size<=l1.w.heap.size:=Õ M.r ha.r.r;rw[Ģ];walk_nrm;apply fR (n:=60) N.r.r;repeat w_go fy
  refine Ï λ_ _=> ?_;refine xH (f:=39) (args:=#[Â Ä m]) U fL (by k_ne) N.r.r (λw=>by go_simp) (λw=>ç U ł U U #[]) λBI lU=> ?_;refine aty (N.C lU) (Õ (h.I k1 s1).m.C.fv lU.r) hn.1 hn.2 λl2 o r DZ P=> ?_;have k2:nD l l2:=k1.r ((D2 lU).r λb q=>⟨(P.r b q).1,(P.r b q).2 id⟩);have s2:l.w.heap.size<=l2.w.heap.size:=Õ s1<|Õ lU.r P.wR;have gE:∀b,l.O b->b<l.w.heap.size:=λb q=>S.r.fv b<|É q;have Ko:nD l1 l2:=(D2 lU).r λb q=>⟨(P.r b q).1,(P.r b q).2 id⟩;have K:=h.I k2 s2;have hA:mV l2 x m [gu.iR] sl V:=⟨K.m.C,λb q=>(K.m.r b q).1,kz.r (Ko x Oi).2,(Ko x Oi).1,qT.r λb q=>(Ko b (Kn b q).1).2,λb q=>(Ko b (Kn b q).1).1,hnV,Z,Z,λq=>by have:=gE x (h.m.r x q).1;have:=Õ M.r hx;omega⟩;let⟨g,hM,uX⟩:=h.m.iG k2 s2 hA P.atv (λq=>by have:=gE x q;have:=Õ M.r hx;omega) (λb v q=>by have:=gE b q;have:=Õ M.r (Kn b v).2;omega) λb v=>by have T:l1.w.heap.size<=b:=Õ lU.r<|(P.wA b v).resolve_left id;refine⟨λq=>by have:=gE b q;omega,λq=>by have:=N.r.fv b<|É (Kn b q).1;omega,λq=>by rw[q]at T;have:=N.r.fv x<|É Oi;omega⟩
  have HH:=eZ<|À K<|À hM<|À uX k2;clear hA hM uX K Ko P k1 kz qT hnV Kn ha Oi;walk_nrm;apply fR (n:=60) DZ.r.r;repeat w_go fy
  refine Ï λ_ _=> ?_;refine F4 DZ HH.out.1.m.C.fv Ř (λl' W Y cl cs=>VA W Y 0 cl cs) λl3 E k3 s3=> ?_;walk_nrm;apply fR (n:=60) E.r.r;repeat w_go fy
  refine Ï λ_ _=> ?_;apply oD (v:=í È) U fL (by k_ne) E.r.r E.q (λw _=>by go_simp) (λw _ e F=>by simp[go_sem,arb]at F);walk_nrm;apply fR (n:=60) E.r.r;repeat w_go fy
  refine Ï λ_ _=> ?_;apply oD (v:=í È) U fL (by k_ne) E.r.r E.q (λw _=>by go_simp) (λw _ e F=>by simp[go_sem,atD]at F);walk_nrm;apply fR (n:=60) E.r.r;repeat w_go fy
  refine Ï λ_ _=> ?_;apply oD (v:=í È) U fL (by k_ne) E.r.r E.q (λw _=>by go_simp) (λw _ e F=>by simp[go_sem,ady]at F);walk_nrm;apply fR (n:=60) E.r.r;repeat w_go fy
  refine Ï λ_ _=> ?_;apply oD (v:=í Ë) U fL (by k_ne) E.r.r E.q (λw _=>by go_simp) (λw _ e F=>by simp[go_sem,atE]at F);walk_nrm;apply fR (n:=60) E.r.r;repeat w_go fy
  refine Ï λ_ _=> ?_;have h3:=HH.out.1.I k3 s3;apply kA (x:=⟨wb,0,Å⟩) (v:=pv) U fL (by k_ne) E.r.r E.q (É<|É h3.C.fg) (h3.C.r U) (λw h=>by go_simp) (λw h=>by simp[go_sem,h]);walk_nrm;apply fR (n:=60) E.r.r;repeat w_go fy
  refine Ï λ_ _=> ?_;refine pF (V:=λp=>Ç (Ã ⟨p,0,Å⟩) 1 1) (ob:=Ó #[Æ<|Ã ⟨x,0,Å⟩,Æ<|Ã ⟨o,0,Å⟩] 76) U fL (by k_ne) E.r.r E.q (λw=>by go_simp) (λw=>by simp[go_sem]) λOj yM=> ?_;walk_nrm;have k4:=mM (X:=fh) (ob:=Ó #[Æ<|Ã ⟨x,0,Å⟩,Æ<|Ã ⟨o,0,Å⟩] 76) E.r yM;have p4:gA (gF l3 Oj<|Ó #[Æ<|Ã ⟨x,0,Å⟩,Æ<|Ã ⟨o,0,Å⟩] 76) Oj.heap.size (Ó #[Æ<|Ã ⟨x,0,Å⟩,Æ<|Ã ⟨o,0,Å⟩] 76):=⟨Ð U,Ŀ _ _⟩;generalize gF l3 Oj (Ó #[Æ<|Ã ⟨x,0,Å⟩,Æ<|Ã ⟨o,0,Å⟩] 76)=l4 at k4 p4|-;generalize Oj.heap.size=px at p4|-;have rI:=D1 k4 E;have Ol:nD l2 l4:=k3.r λb q=>⟨k4.O b q,k4.r b (É q) id⟩;have s24:l2.w.heap.size<=l4.w.heap.size:=Õ s3 k4.I;have h4:=HH.out.1.I Ol s24;let⟨inf,qj,oJ,iO,oY⟩:=Ĥ atF;refine Mc (v:=pv) (us:=[Æ<|Ã ⟨x,0,Å⟩,Æ<|Ã ⟨o,0,Å⟩]) (px:=px) (c:=1) (n:=qs.length) (sz:=2) (xs:=tD qs) (inf:=inf) (z:=ÿ #[Æ Å,Æ Å]) U fL (by k_ne) rI.r rI.q U U U Tryz.underlying52 qj oJ iO Z U U (by rw[oY];omega) (by simp only[ď];omega) h4.N (λk q=>(h4.M k q).1) p4.fg (λj u hu=>p4.r<|by simpa using hu) (by simp[ß]) λoG L AL xf rp CN xg sN=> ?_;walk_nrm;have Q:gd (λb=>pv.ownBlock=Ã b) l4 (nu l4 oG AL):=Mb rI.r xf CN λk e=>⟨(h4.M k e).1,e⟩;have rH:(nu l4 oG AL).w.ownsRow 0 76 2 L (qs.length+1) (tD qs++[Æ<|Ã ⟨x,0,Å⟩,Æ<|Ã ⟨o,0,Å⟩]):=rp;have Iq:L.ownBlock=pv.ownBlock\/∃k,L.ownBlock=Ã k/\l4.w.heap.size<=k:=sN.imp id λq=>⟨_,q,xf.r⟩;generalize nu l4 oG AL=l5 at Q rH xg|-;have rE:=D1 Q rI;have hnw:pv.ownBlock≠Ã wb:=λe=>by let⟨cur,hc⟩:=nW h4.N e;rw[h4.C.I]at hc;cases hc
  have A6:gA l5 wb (Ó #[pv] 54 (0,0)):=h4.C.C Q hnw;have adA:L.ownBlock≠Ã wb:=λe=>by let⟨cur,hc⟩:=nW rH e;rw[A6.I]at hc;cases hc
  apply fR (n:=60) rE.r.r;repeat w_go fy
  refine Ï λ_ _=> ?_;obtain⟨H,I,rfl⟩:=jv rH;refine Fb (p:=wb) (off:=0) (u:=pv) (v:=Ç H (qs.length+1) I) U fL (by k_ne) rE.r.r rE.q A6.fg (A6.r U) (by simp[Ţ,A6.I]) U (λw T K=>by go_simp) (λw T K=>by simp[go_sem,ě _ _ _ _ _ _ (show ß (Ç H (qs.length+1) I)=Ë from rfl),T,K]) ?_;have k6:=H7 (X:=λb=>b=wb) (w':=l5.w.setCell ⟨wb,0,Å⟩<|Ç H (qs.length+1) I) rE.r (fI.fV _ _) A6.fg U fp λj hj=>Ħ _ _ _ _ hj;have Bl:=D1 k6 rE;have hw6:(l5.w.setCell ⟨wb,0,Å⟩<|Ç H (qs.length+1) I).heap[wb]?=Ã (Ó #[Ç H (qs.length+1) I] 54 (0,0)):=by unfold ζ;simp[Ŕ,A6.I]
  have hr6:=oX rH (w₁:=l5.w.setCell ⟨wb,0,Å⟩<|Ç H (qs.length+1) I) λk e=>Ħ _ _ _ _ λz=>adA (by rwa[<-show k=wb from z]);apply fR (n:=60) Bl.r.r;repeat w_go fy
  u_in fy hF
  refine ħ (t:=4) U U Ń U ⟨by u_nil,?_⟩;refine Ï λ_ _=> ?_;have a6:gA ({l5 with w:=l5.w.setCell ⟨wb,0,Å⟩ (Ç H (qs.length+1) I)}:fe) wb (Ó #[Ç H (qs.length+1) I] 54 (0,0)):=⟨A6.fg,hw6⟩;have r6:({l5 with w:=l5.w.setCell ⟨wb,0,Å⟩ (Ç H (qs.length+1) I)}:fe).w.ownsRow 0 76 2 (Ç H (qs.length+1) I) (qs.length+1) (tD qs++[Æ<|Ã ⟨x,0,Å⟩,Æ<|Ã ⟨o,0,Å⟩]):=hr6;have o6:∀b,(Ç H (qs.length+1) I).ownBlock=Ã b->({l5 with w:=l5.w.setCell ⟨wb,0,Å⟩ (Ç H (qs.length+1) I)}:fe).O b:=xg;generalize({l5 with w:=l5.w.setCell ⟨wb,0,Å⟩ (Ç H (qs.length+1) I)}:fe)=l6 at k6 Bl a6 r6 o6|-;generalize(Ç H (qs.length+1) I)=L at*;let⟨K,hM,uX,k2'⟩:=HH.out;have t2w:g wb=1:=(uX wb h.C.fg).trans h.S;have t2r:∀b,pv.ownBlock=Ã b->l2.O b/\g b=1:=λb e=>⟨(K.M b e).1,(uX b (h.M b e).1).trans (h.M b e).2⟩;have atG:∀b,l2.O b->b<l4.w.heap.size:=λb q=>Ď (DZ.r.fv b<|É q) s24;have adB:∀b,l2.O b->g b≠1->l6.O b/\l6.w.heap[b]?=l2.w.heap[b]?:=λb q z=>by let⟨q1,q2⟩:=Ol b q;have q3:=Q.r b (É q1) λe=>z (t2r b e).2;have q4:=Q.O b q1;exact⟨k6.O b q4,(k6.r b (É q4) λe=>z<|by rwa[e]).trans<|q3.trans q2⟩
  have atH:∀b,l2.O b->L.ownBlock=Ã b->g b=1:=λb q e=>by
   rcases Iq with z|⟨k,z1,z2⟩
   .exact(t2r b<|z▸e).2
   .rw[z1]at e;cases e;have:=atG _ q;omega
  have NR:∀b,l2.O b->(if L.ownBlock=Ã b then 1 else g b)=g b:=λb q=>by
   split
   .rename_i e;exact(atH b q e).symm
   .rfl
  refine hJ l6 (qs++[⟨x,m,[gu.iR],o,[gu.iR]⟩]) (λb=>if L.ownBlock=Ã b then 1 else g b) L Bl ⟨hM.fg (λb q z=>(adB b q z).2) (λb q=>k6.O b<|Q.O b (Ol b q).1) (Õ h4.m.C.fv<|Õ Q.I k6.I) NR λb q=> ?_,a6,(if_neg adA).trans t2w,?_,λb e=>⟨o6 b e,if_pos e⟩⟩ (λb q z=> ?_) fp fp (λ_ _=>by simp) λc hc=> ?_
  .rw[if_neg λe=>q<|o6 b e];exact hM.I b λz=>q<|k6.O b<|Q.O b (Ol b z).1
  .have e1:(qs++[(⟨x,m,[gu.iR],o,[gu.iR]⟩:Pr)]).length=qs.length+1:=fp
   have e2:tD (qs++[⟨x,m,[gu.iR],o,[gu.iR]⟩])=tD qs++[Æ<|Ã ⟨x,0,Å⟩,Æ<|Ã ⟨o,0,Å⟩]:=by simp[tD]
   rwa[e1,e2]
  .have z2:g b=0:=(uX b q).trans z;let⟨q1,q2⟩:=adB b (k2' b q).1 Z;exact⟨q1,q2.trans (k2' b q).2,(NR b (k2' b q).1).trans z2⟩
  .rcases ý.1 hc with z|z
   .exact É z
   .rw[î.1 z];exact Ð U
 .have Kp:n<1\/8<n:=Z
  refine F4 S h.m.C.fv az (args:=#[Â Ä n]) (v:=Đ #[Æ Å,Â Ä 7]) (λl' W Y cl cs=>JQ W Y fL (λu hu=>by simp at hu;subst hu;exact .iB _ _) adx (λw=>Kp.elim (λq=>anr n q w) λq=>ant n q w) Ë cl cs) λl1 N k1 s1=> ?_;have T:=h.I k1 s1;walk_nrm;apply fR (n:=60) N.r.r;repeat w_go fy
  refine Ï λ_ _=> ?_;refine F4 N T.m.C.fv ł (args:=#[Â Ä n]) (v:=Đ #[Æ Å,Â Ä 7]) (λl' W Y cl cs=>JQ W Y fL (λu hu=>by simp at hu;subst hu;exact .iB _ _) adx (asJ Kp) Ë cl cs) λl2 DZ k2 s2=> ?_;have K:=T.I k2 s2;walk_nrm;apply fR (n:=60) DZ.r.r;repeat w_go fy
  refine Ï λ_ _=> ?_;refine F4 DZ K.m.C.fv Ř (λl' W Y cl cs=>VA W Y 7 cl cs) λl3 E k3 s3=> ?_;have h3:=K.I k3 s3;walk_nrm;apply fR (n:=60) E.r.r;repeat w_go fy
  refine Ï λ_ _=> ?_;apply oD (v:=í Ë) U fL (by k_ne) E.r.r E.q (λw _=>by go_simp) (λw _ e F=>by simp[go_sem,(VB _).1]at F);walk_nrm;apply fR (n:=60) E.r.r;repeat w_go fy
  refine Ï λ_ _=> ?_;apply oD (v:=í Ë) U fL (by k_ne) E.r.r E.q (λw _=>by go_simp) (λw _ e F=>by simp[go_sem,(VB _).2.1]at F);walk_nrm;apply fR (n:=60) E.r.r;repeat w_go fy
  refine Ï λ_ _=> ?_;apply oD (v:=í È) U fL (by k_ne) E.r.r E.q (λw _=>by go_simp) (λw _ e F=>by simp[go_sem,ady]at F);walk_nrm;apply fR (n:=60) E.r.r;repeat w_go fy
  refine Ï λ_ _=> ?_;apply oD (v:=í È) U fL (by k_ne) E.r.r E.q (λw _=>by go_simp) (λw _ e F=>by simp[go_sem,(VB _).2.2]at F);walk_nrm;apply fR (n:=60) E.r.r;repeat w_go fy
  u_in fy hF
  refine ħ (t:=4) U U Ń U ⟨by u_nil,?_⟩;refine Ï λ_ _=> ?_;exact hJ l3 qs t pv E h3 ((k1.r k2).r k3).fE.r (Ù _) Z (λq1 q2=>absurd ⟨q1,q2⟩ hn) λa q=>É q
end
def Kq(c:Int)(n:Nat):Int:=if c<0 then(-(c+1))%n else c%n
def atI(c:Int)(a:0<n):∃j:Nat,Kq c n=j/\j<n:=by have b:=ĳ (-(c+1)) (show(n:Int)≠0 by omega);have d:=ũ (-(c+1)) (show 0<(n:Int) by omega);have e:=ĳ c (show(n:Int)≠0 by omega);have f:=ũ c (show 0<(n:Int) by omega);refine⟨(Kq c n).toNat,?_,?_⟩<;>unfold Kq<;>split<;>omega
def atJ(c:Int)(f:-9223372036854775808<=c)(g:c<=9223372036854775807)(i:0<n)(j:n<=2^43)(w:Þ):ì Á 42 #[Â Ä c,Â Ä n] w λe d=>e=Ñ (Â Ä<|Kq c n)/\d=w:=by
 have b:(n:Int)≠0:=Z
 unfold Kq;by_cases h:c<0
 .rw[if_pos h];have a:=ĳ (-(c+1)) b;have e:-(c+1).tmod n=(-(c+1))%n:=by rw[<-Int.neg_tmod,Ā Z]
  have H:=eZ<|À e.symm a;clear e a;go_enter Γ,ae;go_wp2;go_ret;exact⟨by rw[H.out.1];rfl,U⟩
 .rw[if_neg h];have a:=ĳ c b;have e:c.tmod n=c%n:=Ā Z;have H:=eZ<|À e.symm a;clear e a;go_enter Γ,ae;go_wp2;go_ret;simp_all
def atK(B:ByteArray)(f:B.size<=ď)(w:Þ):ì Á 33 #[Ê B] w λe g=>e=Ñ (í<|decide<|(40:UInt8)∈B.data.toList)/\g=w:=by
 generalize d:decide ((40:UInt8)∈B.data.toList)=res;unfold ď at f;go_enter aA,Tryz.ntmps33;go_wp2;go_loop [3] (λv=>∃i:Nat,i<=B.size/\decide ((40:UInt8)∈B.data.toList.drop i)=res/\v=Â Ä i) λv=>B.size-(ï v).toNat
 case atStart=>exact⟨0,Û _,d,U⟩
 case round=>
  obtain⟨i,j,a,rfl⟩:=hrel;clear d;by_cases b:i<B.size
  .have h:i<B.data.toList.length:=by rwa[ċ]
   rw[ć h,show B.data.toList[i]=B[i] by rw[Array.getElem_toList];rfl]at a;have H:=eZ a;clear a;by_cases c:B[i]=40
   .go_wp2;go_ret;exact⟨by rw[<-H.out,c];simp,U⟩
   .have k:((B[i].toNat:Int)==40)=È:=by
     rw[beq_eq_false_iff_ne];intro e;exact c<|UInt8.toNat_inj.1<|by show B[i].toNat=40;omega
    go_wp2;go_round
    case rel=>exact⟨i+1,b,by rw[<-H.out];simp[Ne.symm c],by go_num⟩
    case measure=>simp[ï];omega
  .rw[List.drop_eq_nil_of_le (by rw[ċ];exact Nat.le_of_not_lt b)]at a;subst a;go_wp2;go_ret;exact⟨U,U⟩
def atL(h:(40:UInt8)∉B.data.toList):Bt B:=λq=>by let⟨c,a,e⟩:=ù.1 q;exact h<|by rwa[UInt8.toNat_inj.1 (show c.toNat=(40:UInt8).toNat by show c.toNat=40;omega)]at a
end Go.Proofs.Y.iV
namespace Go.Proofs.Y.fA
open Go Go.Conc Go.Proofs.Y.Lift Go.RowKit Go.Conc.Lib Go.ConcR.Gen
def tE(a:Array Ī)(t:Array Í)(i:Nat):Í:=t.getD (((a[i]?).bind (·.dst)).getD 0) Ο
def Om(p:Nat->Ī->Prop):Nat->List Ī->Prop
 |_,[]=>True
 |n,o::r=>p n o/\Om p (n+1) r
def atM{p:Nat->Ī->Prop}:∀(l:List Ī) (n i:Nat) (o:Ī),Om p n l->l[i]?=Ã o->p (n+i) o:=by
 intro l
 induction l with
 |nil=>intro n i o _ e;simp at e
 |cons x l a=>
  intro n i o h e;cases i with
  |zero=>
   rw[List.getElem?_cons_zero]at e;obtain rfl:=ë e;exact h.1
  |succ i=>
   rw[List.getElem?_cons_succ]at e;rw[show n+(i+1)=n+1+i by omega];exact a _ i o h.2 e
section
variable{J:Jd}{l:fe}{c:Array Í}{a:κ}
def lS.N(h:lS Q q (tE Q c) wJ a)(i:∀d,Q.toList.all (λo=>o.dst !=Ã d)=Ë->c[d]?=q[d]?)(k:c.size=q.size)(l:rC Q q.size=Ë){d:Nat}(m:∀j o,Q[j]?=Ã o->o.dst=Ã d->wJ.getD j È=Ë):a.tmps[d]?=c[d]?:=by
 by_cases b:Q.toList.all (λo=>o.dst !=Ã d)=Ë
 .rw[h.C b,i d b]
 .obtain⟨j,n,e⟩:∃j,∃h:j<Q.size,Q[j].dst=Ã d:=by simpa using b
  have f:=ø n;have g:d<c.size:=by rw[k];exact Zx l f e
  rw[h.r j _ d f (m j _ f e) e,tE,f,ø g];simp[e,g]
def F5:List Ī->List Í->Array Í->Array Í
 |o::os,v::vs,t=>F5 os vs (match o.dst with|some d=>t.setIfInBounds d v|none=>t)
 |_,_,t=>t
def F6:∀(a:List Ī) (b:List Í) (t:Array Í),(F5 a b t).size=t.size/\∀d,a.all (λo=>o.dst !=Ã d)=Ë->(F5 a b t)[d]?=t[d]?
 |[],_,t=>⟨U,λ_ _=>rfl⟩
 |o::a,[],t=>⟨U,λ_ _=>rfl⟩
 |o::a,v::b,t=>by
  unfold F5;cases c:o.dst with
  |none=>
   refine⟨(F6 a b t).1,λd h=>(F6 a b t).2 d ?_⟩;simp only[η,Ĝ]at h;exact h.2
  |some e=>
   refine⟨by rw[(F6 a b _).1];simp,λd h=> ?_⟩;simp only[η,Ĝ,c]at h;rw[(F6 a b _).2 d h.2,Array.getElem?_setIfInBounds_ne (by simpa using h.1)]
end
def adC(a:Array Ī):Bool:=(ñ a.size).all λi=>match a[i]? with
 |none=>Ë
 |some o=>(match o.op with|.select _ _=>È|_=>Ë)&&(o.op.operands.toList.all λx=>match x with
  |.tmp d=>(ñ a.size).all λj=>((a[j]?).bind (·.dst)) !=Ã d||o.after.toList.any λe=>e.on==j&&vA e
  |_=>Ë)&&o.guard.isNone
section
variable{J:Jd}{l:fe}{T:Nat->Array Í}{ob c:Obj}
theorem atN{b:fe}{w₁:Þ}(s:gq l)(h:iA l b)(r:fI b b.w w₁):iA l (gF b w₁ ob):=by
 have a:=h.I r;have d:w₁.heap.size<=(w₁.alloc ob).heap.size:=by rw[E1];omega
 have c:∀{j},j<l.w.heap.size->j<w₁.heap.size:=λq=>Ď q a.r.r;refine⟨λj q=>É<|a.O j q,λj q=>q.elim (a.a j) λe=>Ð<|e▸a.r.r,a.N,a.S,a.Y,a.K,a.q,⟨Õ a.r.r d,λj q=>(uh<|c<|s.fv j q).trans<|a.r.I j q,λy q=>(gK<|uh<|c<|s.I y q).trans<|a.r.N y q,λy q=>(uZ<|uh<|c<|s.I y q).trans<|a.r.Y y q,λy q z=> ?_⟩,λj q=> ?_⟩
 .show((w₁.alloc ob).cell? y).isSome=Ë;rw[gK<|uh<|c (s.N y q).2.1];exact a.r.S y q z
 .show j<(w₁.alloc ob).heap.size;rw[E1];rcases q with q|q
  .have:=a.fv j q;grind
  .omega
def atO{b:fe}{w₁:Þ}(s:gq l)(h:iA l b)(r:fI b b.w w₁)(g:l.w.heap.size<=i)(d:u.heap.size=w₁.heap.size)(f:∀j,j≠i->u.heap[j]?=w₁.heap[j]?):iA l {b with w:=u}:=by
 have a:=h.I r;have c:∀{j},j<l.w.heap.size->u.heap[j]?=w₁.heap[j]?:=λq=>f _ Z;refine⟨a.O,a.a,a.N,a.S,a.Y,a.K,a.q,⟨by show l.w.heap.size<=u.heap.size;rw[d];exact a.r.r,λj q=>(c<|s.fv j q).trans<|a.r.I j q,λy q=>(gK<|c<|s.I y q).trans<|a.r.N y q,λy q=>(uZ<|c<|s.I y q).trans<|a.r.Y y q,λy q z=> ?_⟩,λj q=> ?_⟩
 .show(u.cell? y).isSome=Ë;rw[gK<|c (s.N y q).2.1];exact a.r.S y q z
 .show j<u.heap.size;rw[d];exact a.fv j q
def adD{a b:fe}{o:Obj}(h:gA a i o)(L:iA a b):gA b i o:=⟨L.O i h.fg,(L.r.I i<|É h.fg).trans h.I⟩
def OpR(P:aQ)(yQ:Bool)(l:fe)(qX:List Ĵ)(Q:Array Ī)(b:Array Í)(i:Nat)(o:Ī):Prop:=
 (∀a,iA l a->∀f,fI a a.w f->(Ğ (Ē ⟨b,[]⟩) o).run P f=.ok (.value<|tE Q b i) f/\∀e∈(Ğ (Ē ⟨b,[]⟩) o).events P f #[],uf a e)\/
  ∃f e,(∀w,(Ğ (Ē ⟨b,[]⟩) o).run P w=.ok (.enter f e) w)/\(∀w,(Ğ (Ē ⟨b,[]⟩) o).events P w #[]=#[])/\
   ∀a,iA l a->a.d=l.d->∀c,fi P yQ (λg h=>iA a g/\g.d=a.d/\h=G (c.finish<|tE Q b i) qX) a<|G (õ P f e Ġ)<|c::qX
theorem atP{id:Nat}(s:gq l)(hq:¬l.q)(M:f.kind≠.early)(H:rC Q d.size=Ë)(hd:adC Q=Ë)(ho:∀N,L4 N Q (ñ Q.size) []=Ë)(iO:∀e,(T e).size=d.size)(hold:∀e b,Q.toList.all (λo=>o.dst !=Ã b)=Ë->(T e)[b]?=d[b]?) (atQ:∀e e' j,j≠i->tE Q (T e) j=tE Q (T e') j) (hAv:∀e,tE Q (T e) i=Æ (Ã ⟨e,0,Å⟩)) (hA:i<Q.size) (hS:n<Q.size) (lO:i≠n) (hAo:∀o,Q[i]?=Ã o->∀e w,(Ğ (Ē ⟨T e,[]⟩) o).run P w=.ok (.value<|Æ<|Ã ⟨w.heap.size,0,Å⟩) (w.alloc ob)/\(Ğ (Ē ⟨T e,[]⟩) o).events P w #[]=#[]) (hSo:∀o,Q[n]?=Ã o->o.dst=Å/\o.after.toList.any (λe=>e.on==i&&vA e)=Ë/\∀e k,iA l k->gA k e ob->∀u,fI k k.w u->∃E,(Ğ (Ē ⟨T e,[]⟩) o).run P u=.ok .skip E/\E.heap.size=u.heap.size/\(∀j,j≠e->E.heap[j]?=u.heap[j]?)/\(E.os=u.os/\E.output=u.output/\E.tape=u.tape)/\E.heap[e]?=Ã c/\∀ev∈(Ğ (Ē ⟨T e,[]⟩) o).events P u #[],uf k ev) (yl:Om (λh o=>h=i\/h=n\/∀e,OpR P yQ l qX Q (T e) h o) 0 Q.toList) (hn:∀k e,iA l k->k.d=l.d->gA k e c->l.w.heap.size<=e->fi P yQ J k (G (f.at ⟨T e,[]⟩<|æ Q []::L) qX)):fi P yQ J l (G (f.at ⟨d,[]⟩<|aX (.region id Q Ë)::L) qX):=by
 refine L3 (λy a k=>∃e,lS Q d (tE Q<|T e) y a/\iA l k/\k.d=l.d/\(y.getD i È=Ë->l.w.heap.size<=e/\gA k e (if y.getD n È=Ë then c else ob))) s.r hq (λu r=>⟨0,lS.Y _ _ _,(iA.fV s.r).I (w₁:={u with drawn:=u.drawn+1}) ⟨r.r,r.I,r.N,r.Y,r.S⟩,U,λq=>by simp only[Ĺ,Array.getElem?_replicate]at q;split at q<;>cases q⟩) (λN y a k h rest hI C=> ?_) λN y a k hI hz hr=> ?_
 .let⟨e,D,m,I,O⟩:=hI;have IC:¬k.q:=by rwa[m.q]
  obtain⟨o,t⟩:∃o,Q[h]?=Ã o:=⟨_,ø<|Aw C⟩;have VC:=č.1 hd h<|ř.2<|Aw C;rw[t]at VC;simp only[Ĝ]at VC;let⟨⟨hsel,K0⟩,IU⟩:=VC;have F:Ğ a.eval o=Ğ (Ē ⟨T e,[]⟩) o:=execOp_congr o (λqX f e=>by rw[e]at hsel;cases hsel) λx hx=>by
   have z:=č.1 K0 x<|Ś.2 hx;cases x with
   |tmp b=>
    show a.tmps.getD b Ο=(T e).getD b Ο;have:=D.N (hold e) (iO e) H (d:=b) λj K S v=>by have:=č.1 z j<|ř.2 (ð.1 S).1;simp only[S,Option.bind_some,v,bne_self_eq_false,Bool.false_or]at this;exact il C t this
    simp only[Ĺ,this]
   |const v=>rfl
   |global g=>rfl
   |func g=>rfl
  have V:Region.wanted o (yielded Q a.tmps)=Ë:=Ho (by simpa using IU) _;have Sv:=(mem_ready.1 C).1;have adE:h≠i->h≠n->∀{W:fe},iA k W->(y.setIfInBounds h Ë).getD i È=Ë->l.w.heap.size<=e/\gA W e (if(y.setIfInBounds h Ë).getD n È=Ë then c else ob):=λn1 n2 W k2 q=>by rw[Δ È n1]at q;rw[Δ È n2];exact⟨(O q).1,adD (O q).2 k2⟩
  by_cases X:h=i
  .subst X;have nS:y.getD n È=È:=by
    cases hz:y.getD n È with
    |false=>rfl
    |true=>
     obtain⟨z,B⟩:∃o,Q[n]?=Ã o:=⟨_,ø hS⟩;let⟨K,Y,v⟩:=List.any_eq_true.1 (hSo z B).2.1;simp only[Ĝ,beq_iff_eq]at v;have:=D.S n z K B hz (Ś.1 Y) v.2;rw[v.1]at this;grind
   refine Cw (ob:=ob) t V M m.fv IC (λw=>by rw[F];exact(hAo o t e w).1) (λw=>by rw[F];exact(hAo o t e w).2) λu r=> .fD λB v=> ?_;refine⟨_,U,u.heap.size,(D.G λj K=>atQ _ _ j λz=>by subst z;grind).fO H t C λ_=>(hAv _).symm,(atN s m r).I v,I,λ_=>⟨Õ m.r.r r.r,?_⟩⟩;rw[Δ È lO,nS];exact⟨Ð U,(v.I _<|É<|Ð U).trans nV⟩
  .by_cases Y:h=n
   .subst Y;let⟨hdn,haf,iJ⟩:=hSo o t;let⟨z,K⟩:=O<|il C t haf;have nS:y.getD h È=È:=by grind
    rw[nS]at K;refine ua t V M λu r=> ?_;let⟨E,z1,z2,z3,z4,z5,z6⟩:=iJ e k m K u r;rw[F,z1];refine⟨_,E2 (p:=e) (lR m.fv r) IC K.fg z2 z3 z4 λev he=>z6 ev (by rw[<-F];exact aH he),.fD λB v=>⟨_,U,e,D.fO H t C λq=>absurd hdn q,(atO s m r z z2 z3).I v,I,λ_=>⟨z,K.fg,?_⟩⟩⟩;have:(y.setIfInBounds h Ë).getD h È=Ë:=by
     have gE:h<y.size:=by grind
     simp[gE]
    rw[this];exact(v.I e<|É K.fg).trans z5
   .have r:=atM _ _ _ _ yl (show Q.toList[h]?=Ã o by rwa[ī]);rw[Ě]at r;rcases(r.resolve_left X).resolve_left Y e with xc|⟨g,args,hr,he,hW⟩
    .refine oD t V M m.fv IC (λB v=>by rw[F];exact(xc k m B v).1) (λB v=>by rw[F];exact(xc k m B v).2)<|.fD λB v=>⟨_,U,e,D.fO H t C λ_=>rfl,m.I v,I,adE X Y<|(iA.fV m.fv).I v⟩
    .refine .mk U λB v=>⟨G (õ P g args Ġ)<|f.at a (æ Q (h::rest)::L)::qX,B,#[],{k with w:=B},?_,LQ B<|lR m.fv v,(hW _ (m.I v) I _).ff ?_⟩
     .rw[stepG_enter t V M (by rw[F];exact hr B)];unfold aY;rw[F,he B,seen_none]
     .rintro W g2 ⟨K,pG,rfl⟩;refine⟨_,by rw[Ģ],e,?_,(m.I v).fj K,pG.trans I,adE X Y<|((iA.fV m.fv).I v).fj K⟩;rw[show(Q[h]?).bind (·.dst)=o.dst by rw[t];rfl];exact D.fO H t C λ_=>rfl
 .let⟨e,D,m,I,O⟩:=hI;have v:=qf hr hz _ [] (ho N) λ_ q=>by cases q
  have K:a=⟨T e,[]⟩:=by let⟨g,r⟩:=a;have z:=D.M;simp only at z;subst z;congr 1;refine Array.ext_getElem? λb=>D.N (hold e) (iO e) H λj o S _=>v j<|ř.2 (ð.1 S).1
  grind
def atS{id:Nat}(i n:Nat)(ob c:Obj)(m:Nat->List Í)(s:gq l)(p:¬l.q)(r:f.kind≠.early)(t:rC Q d.size=Ë)(u:adC Q=Ë)(v:∀x,L4 x Q (ñ Q.size) []=Ë)(y:i<Q.size)(z:n<Q.size)(B:i≠n) (h:∀T:Nat->Array Í,(T=λe=>F5 Q.toList (m e) d)->((∀e C j,j≠i->tE Q (T e) j=tE Q (T C) j)/\∀e,tE Q (T e) i=Æ (Ã ⟨e,0,Å⟩))/\ (∀o,Q[i]?=Ã o->∀e w,(Ğ (Ē ⟨T e,[]⟩) o).run P w=.ok (.value<|Æ<|Ã ⟨w.heap.size,0,Å⟩) (w.alloc ob)/\(Ğ (Ē ⟨T e,[]⟩) o).events P w #[]=#[])/\ (∀o,Q[n]?=Ã o->o.dst=Å/\o.after.toList.any (λe=>e.on==i&&vA e)=Ë/\∀e b,iA l b->gA b e ob->∀g,fI b b.w g->∃k,(Ğ (Ē ⟨T e,[]⟩) o).run P g=.ok .skip k/\k.heap.size=g.heap.size/\(∀j,j≠e->k.heap[j]?=g.heap[j]?)/\(k.os=g.os/\k.output=g.output/\k.tape=g.tape)/\k.heap[e]?=Ã c/\∀D∈(Ğ (Ē ⟨T e,[]⟩) o).events P g #[],uf b D)/\ Om (λa o=>a=i\/a=n\/∀e,OpR P yQ l qX Q (T e) a o) 0 Q.toList/\ ∀b e,iA l b->b.d=l.d->gA b e c->l.w.heap.size<=e->fi P yQ J b (G (f.at ⟨T e,[]⟩<|æ Q []::L) qX)):fi P yQ J l (G (f.at ⟨d,[]⟩<|aX (.region id Q Ë)::L) qX):=by let⟨⟨E,F⟩,H,I,K,M⟩:=h _ U;exact atP s p r t u v (λe=>(F6 _ _ _).1) (λe=>(F6 _ _ _).2) E F y z B H I K M
end
end Go.Proofs.Y.fA
namespace Go.Proofs.Y.iV
open Go Go.Conc Go.Proofs Go.RowKit Go.Proofs.Y.Lift Go.Proofs.Y.gu Go.Proofs.Y.fA Go.Proofs.Y.lC
open Go.Conc.Lib Go.ConcR.Gen Go.Proofs.YtgpphkdoanciiaaGreatDoor
def VD:∀(c:List Pr) (j:Nat) (a b:Pr),c[j]?=Ã a->b.x=a.x->b.y=a.y->tD (c.set j b)=tD c
 |[],j,a,b,h,_,_=>by cases h
 |q::r,0,a,b,h,e1,e2=>by cases h;simp[tD,e1,e2]
 |q::r,j+1,a,b,h,e1,e2=>by have:=VD r j a b h e1 e2;simp only[ļ,tD,û]at this|-;rw[this]
def se.C{l a:fe}{t:Nat->Nat}{o:Obj}(h:se l t a D)(q:gA l b o)(z:t b=0):gA a b o/\D b=0:=by let⟨c,d,e⟩:=h b q.fg Z;exact⟨⟨c,d.trans q.I⟩,e.trans z⟩
section
variable{l:fe}{D:List Pr}{t:Nat->Nat}{E:Int}
def atT(S:ic l)(k:pS l D t n v)(h0:0<D.length)(hN:D.length<=2^42)(nI:∀a∈D,a.s=a.d)(Hh:-9223372036854775808<=c)(hW1:c<=9223372036854775807)(hB:B.size<=ď)(oU:E≠1)(mJ:E=3->∀r∈(gy B).2.2,iF r) (hJ:∀C zI t' VE,ic C->pS C zI t' n VE->wy l t C t'->D.length<=zI.length->zI.length<=D.length+1->(∀a∈zI,a.s=a.d)->jm vQ C (G (f.at (y.put ((Q[i]?).bind (·.dst))<|í Ë)<|æ Q jJ::L) qX)): jm vQ l (G (õ Á 34 #[Æ<|Ã ⟨n,0,Å⟩,ÿ #[Â Ä E,Â Ä h,Â Ä c,Ê B]] Ġ)<|f.at y (æ Q (i::jJ)::L)::qX):=by
 have hF:True:=trivial;have e1:(E==1)=È:=by rwa[beq_eq_false_iff_ne]
 rw[DI [_,_] 88 ı];simp only[ā,ĭ,đ];conv in mg _ _=>whnf
 apply uI;apply fR (n:=60) S.r.r;repeat w_go fy
 refine Ï λ_ _=> ?_;refine pF (V:=λp=>Æ<|Ã ⟨p,0,Å⟩) (ob:=Ó #[Â Ä E,Â Ä h,Â Ä c,Ê B] 57) U fL (by k_ne) S.r.r S.q (λw=>by go_simp) (λw=>by simp[go_sem]) λp kU=> ?_;have k1:=mM (X:=fh) (ob:=Ó #[Â Ä E,Â Ä h,Â Ä c,Ê B] 57) S.r kU;have N:gA (gF l p<|Ó #[Â Ä E,Â Ä h,Â Ä c,Ê B] 57) p.heap.size (Ó #[Â Ä E,Â Ä h,Â Ä c,Ê B] 57):=⟨Ð U,Ŀ _ _⟩;walk_nrm;generalize gF l p (Ó #[Â Ä E,Â Ä h,Â Ä c,Ê B] 57)=l1 at k1 N|-;have hob:¬l.O p.heap.size:=λq=>by have:=S.r.fv _<|É q;have:=kU.r;omega
 generalize p.heap.size=ob at N hob|-;have I:=D1 k1 S;have a1:nD l l1:=λb q=>⟨k1.O b q,k1.r b (É q) id⟩;have M:=k.I a1 k1.I;have s1:wy l t l1 t:=a1.fE.r;have t1:t ob=0:=k.m.I ob hob;clear k1 a1;apply fR (n:=60) I.r.r;repeat w_go fy
 refine Ï λ_ _=> ?_;apply kA (x:=⟨ob,0,Å⟩) (v:=Â Ä E) U fL (by k_ne) I.r.r I.q (É<|É N.fg) (N.r U) (λw k=>by go_simp) (λw k=>by simp[go_sem,k]);walk_nrm;by_cases e2:E=2
 .have e3:(E==2)=Ë:=by rwa[beq_iff_eq]
  apply fR (n:=60) I.r.r;repeat w_go fy
  refine Ï λ_ _=> ?_;apply kA (x:=⟨ob,1,Å⟩) (v:=Â Ä h) U fL (by k_ne) I.r.r I.q (É<|É N.fg) (N.r U) (λw k=>by go_simp) (λw k=>by simp[go_sem,k]);walk_nrm;refine xH (f:=32) (args:=#[Æ<|Ã ⟨n,0,Å⟩,Â Ä h]) U fL (by k_ne) I.r.r (λw=>by go_simp) (λw=>ç U Ń U U #[]) λj F=> ?_;refine adz (I.C F) (M.r F) h hN λJ z e g u P o T W _ Y=> ?_;walk_nrm;apply fR (n:=60) u.r.r;repeat w_go fy
  u_in fy hF
  refine ħ (t:=4) U U ı U ⟨by u_nil,?_⟩;refine Ï λ_ _=> ?_;exact .fD λyC H=>⟨u.C H,U,hJ _ z e g (u.C H) (P.r H) (((s1.fj (qA F).r).fj o).fj (qA H).r) T W λa q=>(Y a q).elim (nI a) id⟩
 .have e3:(E==2)=È:=by rwa[beq_eq_false_iff_ne]
  have e4:((D.length:Int)==0)=È:=by rw[beq_eq_false_iff_ne];omega
  obtain⟨J,gc,xS⟩:∃J gc,v=Ç (Ã ⟨J,0,Å⟩) D.length gc:=by
   rcases k.N.2 with⟨z,W⟩|⟨g,F,e,z,_⟩
   .omega
   .exact⟨g,F,z⟩
  have hgO:v.ownBlock=Ã J:=by rw[xS];rfl
  apply fR (n:=60) I.r.r;repeat w_go fy
  refine Ï λ_ _=> ?_;refine kA (x:=⟨n,0,Å⟩) (v:=Ç (Ã ⟨J,0,Å⟩) D.length gc) U fL (by k_ne) I.r.r I.q (É<|É M.C.fg) (by rw[<-xS];exact M.C.r U) (λw k=>by go_simp) (λw k=>by simp[go_sem,k]) ?_;walk_nrm;apply fR (n:=60) I.r.r;repeat w_go fy
  refine Ï λ_ _=> ?_;let⟨j,hj,AP⟩:=atI c h0;obtain⟨a,ha⟩:∃a,D[j]?=Ã a:=⟨_,Î AP⟩;have CB:∀C,iA l1 C->∀p,fI C C.w p->(p.cell? ⟨n,0,Å⟩=Ã (Ç (Ã ⟨J,0,Å⟩) D.length gc)/\p.cell? ⟨ob,2,Å⟩=Ã (Â Ä c)/\p.cell? ⟨J,j*2,Å⟩=Ã (Æ<|Ã ⟨a.x,0,Å⟩)/\p.cell? ⟨J,j*2+1,Å⟩=Ã (Æ<|Ã ⟨a.y,0,Å⟩))/\∀g,gQ C ⟨n,g,Å⟩/\gQ C ⟨ob,g,Å⟩/\gQ C ⟨J,g,Å⟩:=λC K p r=>by have F:∀b g e,l1.O b->l1.w.cell? ⟨b,g,Å⟩=Ã e->p.cell? ⟨b,g,Å⟩=Ã e:=λb g e q z=>(gK<|(r.I b<|É<|K.O b q).trans<|K.r.I b<|É q).trans z;have W:=(M.M J hgO).1;have o:=M.N.cells hgO;let⟨x0,x1⟩:=Jj (λa:Pr=>Æ<|Ã ⟨a.x,0,Å⟩) (λa=>Æ<|Ã ⟨a.y,0,Å⟩) D j _ ha;have T:=o (j*2) _ x0;have Y:=o (j*2+1) _ x1;rw[Addr.add_lit,Ě]at T Y;exact⟨⟨F n 0 _ M.C.fg (by rw[<-xS];exact M.C.r U),F ob 2 _ N.fg<|N.r U,F J _ _ W T,F J _ _ W Y⟩,λg=>⟨É<|É<|K.O n M.C.fg,É<|É<|K.O ob N.fg,É<|É<|K.O J W⟩⟩
  have HC:=eZ CB;clear CB;have atU:(j:Int)<(D.length:Int):=Z
  refine atS 14 15 (Ó #[Æ Å,Æ Å] 76 (0,0)) (Ó #[Æ<|Ã ⟨a.x,0,Å⟩,Æ<|Ã ⟨a.y,0,Å⟩] 76 (0,0)) (λe=>[Æ<|Ã ⟨n,0,Å⟩,Æ<|Ã ⟨n,0,Å⟩,Æ<|Ã ⟨n,0,Å⟩,Ç (Ã ⟨J,0,Å⟩) D.length gc,Æ<|Ã ⟨ob,2,Å⟩,Â Ä c,Æ<|Ã ⟨n,0,Å⟩,Æ<|Ã ⟨n,0,Å⟩,Æ<|Ã ⟨n,0,Å⟩,Ç (Ã ⟨J,0,Å⟩) D.length gc,Â Ä D.length,Â Ä j,Æ<|Ã ⟨J,j*2,Å⟩,ÿ #[Æ<|Ã ⟨a.x,0,Å⟩,Æ<|Ã ⟨a.y,0,Å⟩],Æ<|Ã ⟨e,0,Å⟩,Ο]) I.r I.q (by k_ne) fL fL (λW=>by cases W<;>rfl) A A A λT hT=> ?_;simp only[F5]at hT;simp at hT;subst hT;refine⟨⟨λe e' g hn=> ?_,λe=>rfl⟩,λo ho e w=> ?_,λo ho=> ?_,?_,λl4 Y F7 JR p4 z4=> ?_⟩
  .rcases g with _|_|_|_|_|_|_|_|_|_|_|_|_|_|_|_|g<;>first|rfl|exact absurd U hn
  .obtain rfl:=ë ho;exact⟨by go_simp,by simp[go_sem]⟩
  .obtain rfl:=ë ho;refine⟨U,fL,λe C K P p r=> ?_⟩;have u:p.heap[e]?=_:=(r.I e<|É P.fg).trans P.I;have yI:p.cell? ⟨e,0,Å⟩=Ã (Æ Å):=by simp[ã,u]
   have sM:p.cell? ⟨e,1,Å⟩=Ã (Æ Å):=by simp[ã,u]
   have hz:∀j,p.frozen? ⟨e,j,Å⟩=È:=λj=>by simp[Ţ,u]
   refine⟨(p.setCell ⟨e,0,Å⟩<|Æ<|Ã ⟨a.x,0,Å⟩).setCell ⟨e,1,Å⟩<|Æ<|Ã ⟨a.y,0,Å⟩,by go_simp,fp,λj hj=> ?_,⟨U,U,U⟩,?_,λev F=> ?_⟩
   .rw[Ħ _ _ _ _ hj,Ħ _ _ _ _ hj]
   .unfold ζ;simp[Ŕ,u]
   .simp[go_sem,ě _ _ _ _ _ _ (show ß (Æ<|Ã ⟨a.x,0,Å⟩)=Ë from rfl),ě _ _ _ _ _ _ (show ß (Æ<|Ã ⟨a.y,0,Å⟩)=Ë from rfl),yI,sM,hz]at F;have W:∀j,pE C ⟨e,j,Å⟩:=λj=>É P.fg;rcases F with rfl|rfl
    .exact(W _).r
    .exact(W _).r
  .iterate 11 refine⟨Ð (Ð λe=>É λC K p r=>⟨by
    let⟨⟨P,W,d2,d3⟩,_⟩:=HC.out C K p r;simp only[tE];go_simp,λev F=>by
    let⟨⟨P,W,d2,d3⟩,hs⟩:=HC.out C K p r;first
    |(simp[go_sem]at F;done)
    |(simp[go_sem,P,W]at F;subst F;first|exact(hs _).1.rd|exact(hs _).2.1.rd)⟩),?_⟩
   refine⟨Ð (Ð λe=>Ð ⟨42,#[Â Ä c,Â Ä D.length],λw=>by go_simp,λw=>ç U Γ U U #[],λC K u fr=> ?_⟩),?_⟩
   .have:=JQ (iA.xn I K u) (Õ M.m.C.fv K.r.r) (f:=42) fL (λu hu=>by simp at hu;rcases hu with rfl|rfl<;>exact .iB _ _) (λk=>by cases k;rfl) (atJ c Hh hW1 h0 Z) Ë fr<|f.at y (æ Q (i::jJ)::L)::qX;rwa[hj]at this
   iterate 2 refine⟨Ð (Ð λe=>É λC K p r=>⟨by
    let⟨⟨P,W,d2,d3⟩,_⟩:=HC.out C K p r;simp only[tE];go_simp,λev F=>by
    let⟨⟨P,W,d2,d3⟩,hs⟩:=HC.out C K p r;first
    |(simp[go_sem,atU]at F;done)
    |(simp[go_sem,d2,d3]at F;rcases F with rfl|rfl<;>exact(hs _).2.2.rd)⟩),?_⟩
   exact⟨É U,Ð<|É U,trivial⟩
  dsimp only;have F:=iA.xn I F7 JR;have a4:nD l1 l4:=λb q=>⟨F7.O b q,F7.r.I b<|É q⟩;have h4:=M.I a4 F7.r.r;have po:gA l4 ob _:=adD N F7;have s4:wy l t l4 t:=s1.fj a4.fE.r;have tp:t Y=0:=M.m.I Y λq=>by have:=I.r.fv Y<|É q;omega
  clear HC F7 JR a4 M N I s1;apply fR (n:=60) F.r.r;repeat w_go fy
  refine Ï λ_ _=> ?_;apply kA (x:=⟨ob,0,Å⟩) (v:=Â Ä E) U fL (by k_ne) F.r.r F.q (É<|É po.fg) (po.r U) (λw k=>by go_simp) (λw k=>by simp[go_sem,k]);walk_nrm;by_cases e5:E=3
  .have e6:(E==3)=Ë:=by rwa[beq_iff_eq]
   apply fR (n:=60) F.r.r;repeat w_go fy
   refine Ï λ_ _=> ?_;apply kA (x:=⟨Y,0,Å⟩) (v:=Æ<|Ã ⟨a.x,0,Å⟩) U fL (by k_ne) F.r.r F.q (É<|É p4.fg) (p4.r U) (λw k=>by go_simp) (λw k=>by simp[go_sem,k]);walk_nrm;apply fR (n:=60) F.r.r;repeat w_go fy
   refine Ï λ_ _=> ?_;apply kA (x:=⟨ob,3,Å⟩) (v:=Ê B) U fL (by k_ne) F.r.r F.q (É<|É po.fg) (po.r U) (λw k=>by go_simp) (λw k=>by simp[go_sem,k]);walk_nrm;refine .fD λoG P=>⟨F.C P,U,?_⟩;refine NK (f:=17) (args:=#[Æ<|Ã ⟨a.x,0,Å⟩,Ê B]) (F.C P) U fL (by k_ne) (λw=>by go_simp) (λw=>ç U Tryz.func17 U U #[]) λatV AK=> ?_;refine atA ((h4.r P).r AK).m ha ((F.C P).C AK) hB (mJ e5) λl7 uJ m7 s7=> ?_;have W:se l4 t l7 t:=((qA P).fj<|qA AK).fj s7;let⟨po7,_⟩:=W.C po t1;let⟨p7,_⟩:=W.C p4 tp;have h7:=h4.fE m7 W (VD D j a _ ha U U) fp;have s8:=s4.fj W.r;clear m7 s7 W h4 po p4 s4 F;have VF:(D.set j {a with s:=(jR a.s B).2.2})[j]?=Ã {a with s:=(jR a.s B).2.2}:=by simp[AP]
   walk_nrm;apply uI;apply fR (n:=60) uJ.r.r;repeat w_go fy
   refine Ï λ_ _=> ?_;apply kA (x:=⟨Y,1,Å⟩) (v:=Æ<|Ã ⟨a.y,0,Å⟩) U fL (by k_ne) uJ.r.r uJ.q (É<|É p7.fg) (p7.r U) (λw k=>by go_simp) (λw k=>by simp[go_sem,k]);walk_nrm;apply fR (n:=60) uJ.r.r;repeat w_go fy
   refine Ï λ_ _=> ?_;apply kA (x:=⟨ob,3,Å⟩) (v:=Ê B) U fL (by k_ne) uJ.r.r uJ.q (É<|É po7.fg) (po7.r U) (λw k=>by go_simp) (λw k=>by simp[go_sem,k]);walk_nrm;refine xH (f:=43) (args:=#[Æ<|Ã ⟨a.y,0,Å⟩,Ê B]) U fL (by k_ne) uJ.r.r (λw=>by go_simp) (λw=>ç U Β U U #[]) λZ2 VG=> ?_;refine atB (a:={a with s:=(jR a.s B).2.2}) (h7.r VG).m VF (uJ.C VG) hB (mJ e5) λl9 t9 Bs m9 s9=> ?_;have W:=(qA (t:=t) VG).fj s9;have h9:=h7.fE m9 W (VD _ j _ _ VF U U) fp;have s10:=s8.fj W.r;have yy:=nI a<|â ha;have VH:∀b∈(D.set j {a with s:=(jR a.s B).2.2}).set j {a with s:=(jR a.s B).2.2,d:=(jR a.d B).2.2},b.s=b.d:=λb S=>by
    rw[χ]at S;rcases List.mem_or_eq_of_mem_set S with z|z
    .exact nI b z
    .rw[z];simp only;rw[yy]
   clear m9 s9 W h7 s8 VF;dsimp only;rw[<-yy]at h9 VH|-;generalize jR a.s B=u at*;let⟨u1,u2,u3⟩:=u;dsimp only at h9 VH|-;walk_nrm;apply fR (n:=60) Bs.r.r;repeat w_go fy
   refine Ï λ_ _=> ?_;refine F4 Bs h9.m.C.fv Ř (λC z VI cl qX=>VA z VI u2 cl qX) λl10 z k10 q_=> ?_;walk_nrm;apply fR (n:=60) z.r.r;repeat w_go fy
   u_in fy hF
   refine ħ (t:=4) U U ı U ⟨by u_nil,?_⟩;refine Ï λ_ _=> ?_;exact .fD λyC H=>⟨z.C H,U,hJ _ _ t9 v (z.C H) ((h9.I k10 q_).r H) ((s10.fj k10.fE.r).fj (qA H).r) fp fp VH⟩
  .have e6:(E==3)=È:=by rwa[beq_eq_false_iff_ne]
   by_cases e7:E=4
   .have e8:(E==4)=Ë:=by rwa[beq_iff_eq]
    apply fR (n:=60) F.r.r;repeat w_go fy
    refine Ï λ_ _=> ?_;apply kA (x:=⟨Y,0,Å⟩) (v:=Æ<|Ã ⟨a.x,0,Å⟩) U fL (by k_ne) F.r.r F.q (É<|É p4.fg) (p4.r U) (λw k=>by go_simp) (λw k=>by simp[go_sem,k]);walk_nrm;refine xH (f:=22) (args:=#[Æ<|Ã ⟨a.x,0,Å⟩]) U fL (by k_ne) F.r.r (λw=>by go_simp) (λw=>ç U Tryz.func22 U U #[]) λoG P=> ?_;have z:=h4.r P;have u:=F.C P;have p5:gA ({l4 with w:=oG}:fe) Y _:=p4.N P;have s5:=s4.fj (qA P).r;let⟨_,sl,V,hA,_⟩:=z.m.x j a ha;let⟨U,W,_⟩:=z.m.y j a ha;let⟨av,ps,hR,Vf⟩:=W.I;have yy:=nI a<|â ha;have FG:ps.length=a.s.length:=by rw[yy,<-Vf,ġ]
    have atW:=W.C.r;rw[<-yy]at atW;let⟨ap,ac,Kf⟩:=jv hR.fg;have cy:=hR.r.r 0 _ U;rw[Kf,FG]at cy;apply ard u hA;walk_nrm;apply fR (n:=60) u.r.r;repeat w_go fy
    refine Ï λ_ _=> ?_;apply kA (x:=⟨Y,1,Å⟩) (v:=Æ<|Ã ⟨a.y,0,Å⟩) U fL (by k_ne) u.r.r u.q (É<|É p5.fg) (p5.r U) (λw k=>by go_simp) (λw k=>by simp[go_sem,k]);walk_nrm;apply fR (n:=60) u.r.r;repeat w_go fy
    refine Ï λ_ _=> ?_;apply kA (x:=⟨a.y,0,Å⟩) (v:=Ç ap a.s.length ac) U fL (by k_ne) u.r.r u.q (É<|É<|W.fg _ W.y) cy (λw k=>by go_simp) (λw k=>by simp[go_sem,k]);walk_nrm;apply fR (n:=60) u.r.r;repeat w_go fy
    u_in fy hF
    refine ħ (t:=4) U U ı U ⟨by u_nil,?_⟩;refine Ï λ_ _=> ?_;exact .fD λyC H=>⟨u.C H,U,hJ _ D t v (u.C H) (z.r H) (s5.fj (qA H).r) (Ù _) Z nI⟩
   .have e8:(E==4)=È:=by rwa[beq_eq_false_iff_ne]
    apply fR (n:=60) F.r.r;repeat w_go fy
    u_in fy hF
    refine ħ (t:=4) U U ı U ⟨by u_nil,?_⟩;refine Ï λ_ _=> ?_;exact .fD λyC H=>⟨F.C H,U,hJ _ D t v (F.C H) (h4.r H) (s4.fj (qA H).r) (Ù _) Z nI⟩
end
structure D3 where
 k:Int
 n:Int
 w:Int
 s:ByteArray
structure D3.Ok(o:D3):Prop where
 w0:-9223372036854775808<=o.w
 w1:o.w<=9223372036854775807
 s:o.s.size<=ď
def zK(l:fe)(c:Option ŝ)(N:Nat)(f:Nat->D3):Prop:=∀j,j<N->(f j).Ok/\∃a b,c=Ã ⟨a,b,Å⟩/\l.O a/\l.w.rangeAt a (b+j*4) [Â Ä (f j).k,Â Ä (f j).n,Â Ä (f j).w,Ê (f j).s]
noncomputable def On:Code:=mg aZ [1,1,1,1,0,1,0,0]
noncomputable def adF:Code:=mg aZ [1,1,1,1,1]
noncomputable def F8 (a:Array Í) (b:List Ĵ):aC:=G ((base 14).at ⟨a,[]⟩<|aX On::.inLoop On::[.inBlock 0,aX adF]) b
structure LF(bv:Í)(lo hi:Int)(pl:Bool)(wb j:Nat)(tt:Array Í):Prop where
 r:tt.size=61
 C:tt[0]?=Ã bv
 t1:tt[1]?=Ã (Â Ä lo)
 t2:tt[2]?=Ã (Â Ä hi)
 t3:tt[3]?=Ã (í pl)
 t9:tt[9]?=Ã (Æ<|Ã ⟨wb,0,Å⟩)
 I:tt[11]?=Ã (Â Ä j)
section
variable{l D:fe}{g:List Pr}{t:Nat->Nat}{wb:Nat}{C:Ĵ}{rest:List Nat}{k:List bg}{cs:List Ĵ}{c:Nat}{f:Nat->D3}{lo hi:Int}{pl:Bool}{tt:Array Í}
def atX(d:ic l)(a:LF (Ç O b c) lo hi pl wb b tt) (g:∀e,ic e->nD l e->jm vQ e (G (C.at (y.put ((Q[i]?).bind (·.dst))<|í Ë)<|æ Q rest::k) cs)):jm vQ l (F8 tt<|C.at y (æ Q (i::rest)::k)::cs):=by
 have hF:True:=trivial;obtain⟨u,rfl⟩:=Az tt a.r;have h:u 0=Ç O b c:=by simpa using a.C
 have j:u 11=Â Ä b:=by simpa using a.I
 clear a;apply uI;apply fR (n:=60) d.r.r;simp only[F8,ñ,List.range.loop,a7,h,j];conv in On=>whnf
 conv in adF=>whnf
 repeat w_go fy
 u_in fy hF
 refine ħ (t:=8) U U Ε U ⟨by u_nil,?_⟩;refine Ï λ_ _=> ?_;exact .fD λm f=>⟨d.C f,U,g _ (d.C f)<|D2 f⟩
def atY(G:ic l)(h:pS l g t wb v)(h0:0<g.length)(hq:g.length<=2^42)(nI:∀a∈g,a.s=a.d)(hx:zK l O b f)(ht:∀E N,O=Ã ⟨E,N,Å⟩->t E=0)(L:LF (Ç O b c) lo hi pl wb j tt)(hj:j<b)(hN:b<=9223372036854775807)(Kp:1<lo)(mJ:pl=Ë\/∀B,∀r∈(gy B).2.2,iF r) (hJ:∀H zI t' VE tt',ic H->pS H zI t' wb VE->wy l t H t'->g.length<=zI.length->zI.length<=g.length+1->(∀a∈zI,a.s=a.d)->LF (Ç O b c) lo hi pl wb (j+1) tt'->jm vQ H (F8 tt' cs)):jm vQ l (F8 tt cs):=by
 have hF:True:=trivial;obtain⟨u,rfl⟩:=Az tt L.r;have e0:u 0=Ç O b c:=by simpa using L.C
 have e1:u 1=Â Ä lo:=by simpa using L.t1
 have e2:u 2=Â Ä hi:=by simpa using L.t2
 have e3:u 3=í pl:=by simpa using L.t3
 have e9:u 9=Æ (Ã ⟨wb,0,Å⟩):=by simpa using L.t9
 have e11:u 11=Â Ä j:=by simpa using L.I
 clear L;have q2:Ä.wrap ((j:Int)+1)=((j+1:Nat):Int):=IntWalk.i64_in _ ⟨Z,Z⟩;obtain⟨ok,E,N,rfl,hO,P⟩:=hx j hj;have tr:=ht E N U;generalize f j=o at ok P;let⟨kd,F,W,B⟩:=o;dsimp only at P;let⟨w0,w1,hB⟩:=ok;dsimp only at w0 w1 hB;apply uI;apply fR (n:=60) G.r.r;simp only[F8,ñ,List.range.loop,a7,e0,e1,e2,e3,e9,e11];conv in(occs:=1) On=>whnf
 repeat w_go fy
 refine Ï λ_ _=> ?_;have VJ:∀{H:fe},nD l H->∀y,fI H H.w y->y.cell? ⟨E,N+j*4,Å⟩=Ã (Â Ä kd)/\y.cell? ⟨E,N+j*4+1,Å⟩=Ã (Â Ä F)/\y.cell? ⟨E,N+j*4+2,Å⟩=Ã (Â Ä W)/\y.cell? ⟨E,N+j*4+3,Å⟩=Ã (Ê B):=λ{H} k y r=>by have i:∀n e,l.w.cell? ⟨E,n,Å⟩=Ã e->y.cell? ⟨E,n,Å⟩=Ã e:=λn e z=>(gK<|(r.I E<|É (k E hO).1).trans (k E hO).2).trans z;exact⟨i _ _<|P 0 _ U,i _ _<|P 1 _ U,i _ _<|P 2 _ U,i _ _<|P 3 _ U⟩
 refine oD (v:=ÿ #[Â Ä kd,Â Ä F,Â Ä W,Ê B]) U fL (by k_ne) G.r.r G.q (λy r=> ?_) (λy r e Q=> ?_) ?_
 .let⟨V,X,Y,g3⟩:=VJ (λi q=>⟨q,U⟩) y r;go_simp
 .let⟨V,X,Y,g3⟩:=VJ (λi q=>⟨q,U⟩) y r;have own:∀n,gQ l ⟨E,n,Å⟩:=λn=>É<|É hO;simp[go_sem,V,X,Y,g3]at Q;rcases Q with rfl|rfl|rfl|rfl<;>exact(own _).rd
 walk_nrm;refine Cw (ob:=Ó #[Â Ä 0,Â Ä 0,Â Ä 0,Ê ⟨#[]⟩] 57) U fL (by k_ne) G.r.r G.q (λw=>by go_simp) (λw=>by simp[go_sem]) λy kU=> ?_;walk_nrm;have k1:gd fh l (gF l y<|Ó #[Â Ä 0,Â Ä 0,Â Ä 0,Ê ⟨#[]⟩] 57):=mM G.r kU;have M:gA (gF l y<|Ó #[Â Ä 0,Â Ä 0,Â Ä 0,Ê ⟨#[]⟩] 57) y.heap.size (Ó #[Â Ä 0,Â Ä 0,Â Ä 0,Ê ⟨#[]⟩] 57):=⟨Ð U,Ŀ _ _⟩;have qS:l.w.heap.size<=y.heap.size:=kU.r;generalize gF l y (Ó #[Â Ä 0,Â Ä 0,Â Ä 0,Ê ⟨#[]⟩] 57)=l₁ at k1 M|-;generalize y.heap.size=ob at M qS|-;have VK:=D1 k1 G;refine ua U fL (by k_ne) λI lU=> ?_;have S:I.heap[ob]?=_:=(lU.I ob<|É M.fg).trans M.I;have yI:I.cell? ⟨ob,0,Å⟩=Ã (Â Ä 0):=by simp[ã,S]
 have sM:I.cell? ⟨ob,1,Å⟩=Ã (Â Ä 0):=by simp[ã,S]
 have qh:I.cell? ⟨ob,2,Å⟩=Ã (Â Ä 0):=by simp[ã,S]
 have xe:I.cell? ⟨ob,3,Å⟩=Ã (Ê ⟨#[]⟩):=by simp[ã,S]
 have hz:∀j,I.frozen? ⟨ob,j,Å⟩=È:=λj=>by simp[Ţ,S]
 go_simp;refine⟨{l₁ with w:=iK I ob (Â Ä kd) (Â Ä F) (Â Ä W) (Ê B)},E2 (p:=ob) (lR VK.r.r lU) VK.q M.fg wZ (λj hj=>yE hj) ⟨U,U,U⟩ λe Q=> ?_,?_⟩
 .have C:=aH Q;have own:∀j,pE l₁ ⟨ob,j,Å⟩:=λj=>É M.fg;simp[go_sem,ě _ _ _ _ _ _ (show ß (Â Ä kd)=Ë from rfl),ě _ _ _ _ _ _ (show ß (Â Ä F)=Ë from rfl),ě _ _ _ _ _ _ (show ß (Â Ä W)=Ë from rfl),ě _ _ _ _ _ _ (show ß (Ê B)=Ë from rfl),yI,sM,qh,xe,hz]at C;rcases C with rfl|rfl|rfl|rfl<;>exact(own _).r
 have T:gd fh l ({l₁ with w:=iK I ob (Â Ä kd) (Â Ä F) (Â Ä W) (Ê B)}:fe):=k1.iK G.r lU qS;have J:gA ({l₁ with w:=iK I ob (Â Ä kd) (Â Ä F) (Â Ä W) (Ê B)}:fe) ob (Ó #[Â Ä kd,Â Ä F,Â Ä W,Ê B] 57):=⟨M.fg,a_ S⟩;generalize({l₁ with w:=iK I ob (Â Ä kd) (Â Ä F) (Â Ä W) (Ê B)}:fe)=l2 at T J|-;have D:=D1 T G;have a2:nD l l2:=λi q=>⟨T.O i q,T.r i (É q) id⟩;have h2:=h.I a2 T.I;have s2:wy l t l2 t:=a2.fE.r;have tob:t ob=0:=h.m.I ob λq=>by have:=G.r.fv ob<|É q;omega
 clear M k1 VK S yI sM qh xe hz lU VJ P T G h a2;apply fR (n:=60) D.r.r;repeat w_go fy
 refine Ï λ_ _=> ?_;apply kA (x:=⟨ob,0,Å⟩) (v:=Â Ä kd) U fL (by k_ne) D.r.r D.q (É<|É J.fg) (J.r U) (λw h=>by go_simp) (λw h=>by simp[go_sem,h]);walk_nrm;by_cases z1:kd<lo
 .apply fR (n:=80) D.r.r;repeat w_nl fy
  w_go fy
  refine Ï λ_ _=> ?_;exact .fD λOo C=>⟨D.C C,U,hJ _ g t v _ (D.C C) (h2.r C) (s2.fj (qA C).r) (Ù _) Z nI ⟨U,U,U,U,U,U,U⟩⟩
 .apply fR (n:=80) D.r.r;repeat w_nl fy
  refine Ï λ_ _=> ?_;apply kA (x:=⟨ob,0,Å⟩) (v:=Â Ä kd) U fL (by k_ne) D.r.r D.q (É<|É J.fg) (J.r U) (λw h=>by go_simp) (λw h=>by simp[go_sem,h]);walk_nrm;by_cases z2:hi<kd
  .apply fR (n:=80) D.r.r;repeat w_nl fy
   w_go fy
   refine Ï λ_ _=> ?_;exact .fD λOo C=>⟨D.C C,U,hJ _ g t v _ (D.C C) (h2.r C) (s2.fj (qA C).r) (Ù _) Z nI ⟨U,U,U,U,U,U,U⟩⟩
  .apply fR (n:=80) D.r.r;repeat w_nl fy
   refine Ï λ_ _=> ?_;apply kA (x:=⟨ob,3,Å⟩) (v:=Ê B) U fL (by k_ne) D.r.r D.q (É<|É J.fg) (J.r U) (λw h=>by go_simp) (λw h=>by simp[go_sem,h]);walk_nrm;refine F4 D h2.m.C.fv aA (args:=#[Ê B]) (v:=í<|decide<|(40:UInt8)∈B.data.toList) (λH kV VI cl cs=>JQ kV VI fL (λu K=>by simp at K;subst K;exact .kt _) (λh=>by cases h;rfl) (atK B hB) Ë cl cs) λl3 K k3 z3=> ?_;have h3:=h2.I k3 z3;have s3:=s2.fj k3.fE.r;have p3:gA l3 ob _:=⟨(k3 ob J.fg).1,(k3 ob J.fg).2.trans J.I⟩;generalize K3:decide ((40:UInt8)∈B.data.toList)=cc;walk_nrm;by_cases z4:(pl&&cc)=Ë
   .simp only[Ĝ]at z4;obtain⟨rfl,rfl⟩:=z4;apply fR (n:=80) K.r.r;repeat w_nl fy
    w_go fy
    refine Ï λ_ _=> ?_;exact .fD λOo C=>⟨K.C C,U,hJ _ g t v _ (K.C C) (h3.r C) (s3.fj (qA C).r) (Ù _) Z nI ⟨U,U,U,U,U,U,U⟩⟩
   .have E0:kd=3->∀r∈(gy B).2.2,iF r:=λ_=>by
     rcases mJ with rfl|q
     .refine atc (atL λz=>z4 ?_);rw[<-K3,decide_eq_true z];rfl
     .exact q B
    have HP:=eZ E0;clear E0 mJ K3;have atZ:kd≠1:=Z
    cases pl;rotate_left;obtain rfl:cc=È:=by simpa using z4
    rotate_left;all_goals
     apply fR (n:=80) K.r.r;repeat w_nl fy
     refine Ï λ_ _=> ?_;refine oD (v:=ÿ #[Â Ä kd,Â Ä F,Â Ä W,Ê B]) U fL (by k_ne) K.r.r K.q (λy r=> ?_) (λy r e Q=> ?_) ?_
     .have e:y.heap[ob]?=_:=(r.I ob<|É p3.fg).trans p3.I;have V:y.cell? ⟨ob,0,Å⟩=Ã (Â Ä kd):=by simp[ã,e]
      have X:y.cell? ⟨ob,1,Å⟩=Ã (Â Ä F):=by simp[ã,e]
      have Y:y.cell? ⟨ob,2,Å⟩=Ã (Â Ä W):=by simp[ã,e]
      have g3:y.cell? ⟨ob,3,Å⟩=Ã (Ê B):=by simp[ã,e]
      go_simp
     .have e:y.heap[ob]?=_:=(r.I ob<|É p3.fg).trans p3.I;have V:y.cell? ⟨ob,0,Å⟩=Ã (Â Ä kd):=by simp[ã,e]
      have X:y.cell? ⟨ob,1,Å⟩=Ã (Â Ä F):=by simp[ã,e]
      have Y:y.cell? ⟨ob,2,Å⟩=Ã (Â Ä W):=by simp[ã,e]
      have g3:y.cell? ⟨ob,3,Å⟩=Ã (Ê B):=by simp[ã,e]
      have own:∀n,gQ l3 ⟨ob,n,Å⟩:=λn=>É<|É p3.fg;simp[go_sem,V,X,Y,g3]at Q;rcases Q with rfl|rfl|rfl|rfl<;>exact(own _).rd
     walk_nrm;refine .fD λoG e=>⟨K.C e,U,?_⟩;refine NK (f:=34) (args:=#[Æ<|Ã ⟨wb,0,Å⟩,ÿ #[Â Ä kd,Â Ä F,Â Ä W,Ê B]]) (K.C e) U fL (by k_ne) (λw=>by go_simp) (λw=>ç U ı U U #[]) λatV z=> ?_;refine atT ((K.C e).C z) ((h3.r e).r z) h0 hq nI w0 w1 hB atZ HP.out λl7 V X Y Q h7 s7 y1 y2 y3=> ?_;have s8:=s3.fj<|((qA e).fj<|qA z).r.fj s7;walk_nrm;apply uI;apply fR (n:=80) Q.r.r;repeat w_nl fy
     w_go fy
     refine Ï λ_ _=> ?_;exact .fD λOo C=>⟨Q.C C,U,hJ _ V X Y _ (Q.C C) (h7.r C) (s8.fj (qA C).r) y1 y2 y3 ⟨U,U,U,U,U,U,U⟩⟩
end
section
variable{l g:fe}{o:Ĵ}{c:Nat}{f:Nat->D3}{u:Int}
def zK.r{l l':fe}(h:zK l O n f)(L:∀b,l.O b->l'.O b/\l'.w.heap[b]?=l.w.heap[b]?):zK l' O n f:=λj d=>by let⟨e,a,g,k,c,m⟩:=h j d;exact⟨e,a,g,k,(L a c).1,λi v o=>xF (L a c).2<|m i v o⟩
def adG(z:zK g O n f)(I:n<2^42)(D:1<u)(E:yQ=Ë\/∀B,∀r∈(gy B).2.2,iF r) (F:∀p,ic p->(∀b,g.O b->p.O b/\p.w.heap[b]?=g.w.heap[b]?)->jm vQ p (G (o.at (y.put ((Q[i]?).bind (·.dst))<|í Ë)<|æ Q jJ::L) qX)):∀(m k:Nat) (l:fe) (v:List Pr) (t:Nat->Nat) (C:Í) (x:Array Í),n-k=m->k<=n->ic l->pS l v t j C->0<v.length->v.length<=k+1->(∀a∈v,a.s=a.d)->(∀b,g.O b->l.O b/\l.w.heap[b]?=g.w.heap[b]?/\t b=0)->LF (Ç O n c) u h yQ j k x->jm vQ l (F8 x<|o.at y (æ Q (i::jJ)::L)::qX)
 |0,k,l,v,t,C,x,hm,hj,hb,h,h0,hq,nI,hk,hT=>by
  have e:k=n:=Z
  subst e;exact atX hb hT λp a H=>F p a λb q=>⟨(H b (hk b q).1).1,(H b (hk b q).1).2.trans (hk b q).2.1⟩
 |m+1,k,l,v,t,C,x,hm,hj,hb,h,h0,hq,nI,hk,hT=>by
  refine atY hb h h0 Z nI (z.r (l':=l) λb q=>⟨(hk b q).1,(hk b q).2.1⟩) (λH J e=> ?_) hT Z Z D E λp J K M N a P S y1 y2 T V=>adG z I D E F m (k+1) p J K M N Z Z a P Z Z T (λb q=> ?_) V
  .let⟨_,W,X,H,q,_⟩:=z k Z;rw[e]at H;cases H;exact(hk _ q).2.2
  .let⟨H,e,W⟩:=hk b q;let⟨X,Y,z3⟩:=S b H W;exact⟨X,Y.trans e,z3⟩
def at0(e:ic l)(T:mT l.w)(I:∀b,b=1\/b=2\/b=3\/b=4->l.O b)(hx:zK l O n f)(hN:n<2^42)(Kp:1<u)(mJ:yQ=Ë\/∀B,∀r∈(gy B).2.2,iF r) (hJ:∀F,ic F->(∀b,l.O b->F.O b/\F.w.heap[b]?=l.w.heap[b]?)->jm vQ F (G (o.at (y.put ((Q[i]?).bind (·.dst))<|í Ë)<|æ Q jJ::L) qX)): jm vQ l (G (õ Á 14 #[Ç O n c,Â Ä u,Â Ä h,í yQ] Ġ)<|o.at y (æ Q (i::jJ)::L)::qX):=by
 have hF:True:=trivial;rw[DI [_,_,_,_] 57 Ε];simp only[ā,ĭ,đ];conv in mg _ _=>whnf
 apply uI;apply fR (n:=60) e.r.r;repeat w_go fy
 refine Ï λ_ _=> ?_;refine pF (V:=λp=>Æ<|Ã ⟨p,0,Å⟩) (ob:=Ó #[Ç Å 0 0] 54) U fL (by k_ne) e.r.r e.q (λw=>by go_simp) (λw=>by simp[go_sem]) λm W=> ?_;walk_nrm;have g:=mM (X:=fh) (ob:=Ó #[Ç Å 0 0] 54) e.r W;have C:gA (gF l m<|Ó #[Ç Å 0 0] 54) m.heap.size (Ó #[Ç Å 0 0] 54):=⟨Ð U,Ŀ _ _⟩;generalize gF l m (Ó #[Ç Å 0 0] 54)=l1 at g C|-;have J:¬l.O m.heap.size:=λq=>by have:=e.r.fv _<|É q;have:=W.r;omega
 generalize m.heap.size=j at C J|-;have K:=D1 g e;have D:nD l l1:=λb q=>⟨g.O b q,g.r b (É q) id⟩;have Y:pS l1 [] (λb=>if b=j then 1 else 0) j (Ç Å 0 0):=by refine⟨⟨λi a q=>(by cases q),λi a q=>(by cases q),T.r (Õ T.fv g.I) λb q=>(D b<|I b q).2,λb q=>⟨(D b<|I b q).1,if_neg<|by rintro rfl;exact J<|I _ q⟩,λb q=>if_neg<|by rintro rfl;exact q C.fg⟩,C,if_pos U,ò _ _ _ _,λb q=>by cases q⟩
 have t1:∀b,l.O b->(if b=j then 1 else 0)=0:=λb q=>if_neg (by rintro rfl;exact J q);clear g C;apply fR (n:=60) K.r.r;repeat w_go fy
 refine Ï λ_ _=> ?_;refine xH (f:=32) (args:=#[Æ<|Ã ⟨j,0,Å⟩,Â Ä 3]) U fL (by k_ne) K.r.r (λw=>by go_simp) (λw=>ç U Ń U U #[]) λBI M=> ?_;refine adz (K.C M) (Y.r M) 3 A λN qs t pv k E s2 _ _ z1 z2=> ?_;have hl:=z1 A A;simp only[List.length_nil]at hl;let⟨gp,gc,xS⟩:=jv E.N;have st:=((qA M).r.fj s2);have k2:∀b,l.O b->N.O b/\N.w.heap[b]?=l.w.heap[b]?/\t b=0:=λb q=>by let⟨H,P,S⟩:=st b (D b q).1<|t1 b q;exact⟨H,P.trans (D b q).2,S⟩
 have nI:∀a∈qs,a.s=a.d:=λa q=>(z2 a q).elim (λz=>by cases z) id;rw[hl]at xS;have z:=eZ<|À E<|À k2 nI;have hwo:=E.C.fg;have hwc:N.w.cell? ⟨j,0,Å⟩=Ã (Ç gp (0+1) gc):=by rw[<-xS];exact E.C.r U
 clear E s2 z1 z2 st k2 nI Y D t1;walk_nrm;apply fR (n:=60) k.r.r;repeat w_go fy
 refine Ï λ_ _=> ?_;apply kA (x:=⟨j,0,Å⟩) (v:=Ç gp (0+1) gc) U fL (by k_ne) k.r.r k.q (É<|É hwo) hwc (λw p=>by go_simp) (λw p=>by simp[go_sem,p]);walk_nrm;apply fR (n:=80) k.r.r;repeat w_bar fy
 w_go fy
 refine Ï λ_ _=> ?_;refine .fD λOo p=>⟨k.C p,U,adG hx hN Kp mJ hJ n 0 _ qs t pv _ Z (Û _) (k.C p) (z.out.1.r p) Z Z z.out.2.2 (λb q=> ?_) ⟨U,U,U,U,U,U,U⟩⟩;let⟨H,P,S⟩:=z.out.2.1 b q;exact⟨H,(p.I b<|É H).trans P,S⟩
def at5(d:ic l)(j:mT l.w)(k:∀b,b=1\/b=2\/b=3\/b=4->l.O b)(p:zK l O n f)(r:n<2^42) (s:∀e,ic e->(∀b,l.O b->e.O b/\e.w.heap[b]?=l.w.heap[b]?)->vQ (í Ë) e.w): jm vQ l (G (õ Á 3 #[Ç O n c] Ġ) []):=by
 have hF:True:=trivial;rw[DI [_] 4 ŏ];simp only[ā,ĭ,đ];conv in mg _ _=>whnf
 apply uI;apply fR (n:=40) d.r.r;repeat w_go fy
 refine Ï λ_ _=> ?_;refine .fD λv g=>⟨d.C g,U,?_⟩;refine NK (f:=14) (args:=#[Ç O n c,Â Ä 2,Â Ä 4,í Ë]) (d.C g) U fL (by k_ne) (λw=>by go_simp) (λw=>ç U Ε U U #[]) λu a=> ?_;have h:fI l l.w u:=g.fj ⟨a.r,a.I,a.N,a.Y,a.S⟩;refine at0 ((d.C g).C a) (j.r (Õ j.fv h.r) λb q=>h.I b<|É<|k b q) k (p.r λb q=>⟨q,h.I b<|É q⟩) r A (É U) λx m i=> ?_;walk_nrm;apply aqE;apply fR (n:=60) m.r.r;repeat w_nl fy
 refine Ï λ_ _=> ?_;exact .fD λy o=>⟨U,í Ë,λw=>arf (t:=2) U U ŏ U fx,s _ (m.C o) λb q=>⟨(i b q).1,(o.I b<|É (i b q).1).trans<|(i b q).2.trans<|h.I b<|É q⟩⟩
end
def at6(a:mT W){N c:Nat}{f:Nat->D3}(d:zK (NN W) O N f)(e:N<2^42): tw (λv w'=>v=í Ë/\om W w') #[G (õ Á 3 #[Ç O N c] Ġ) []] W Å #[]:= arh (l:=NN W) (at5 (ab8 W) a (ari a) d e λh g v=>⟨U,λb q=>(v b q).2,(by
  rcases ģ W.heap.size with z|z
  .rw[z];exact Û _
  .have:=g.r.fv _ (É (v (W.heap.size-1) (show W.heap.size-1<W.heap.size by omega)).1);omega)⟩) (ab8 W) U
end Go.Proofs.Y.iV
namespace Go.Proofs.Y.iV
open Go Go.Conc Go.Proofs Go.RowKit Go.Proofs.Y.Lift Go.Proofs.Y.gu Go.Proofs.Y.fA Go.Proofs.Y.lC
open Go.Proofs.YtgpphkdoanciiaaGreatDoor (Rows.booksSpec Rows.booksRow Rows.BooksSaid Tryz.pinned)
open Go.ChangeShapes Go.WideShapes Go.ChangeAt
def Oq:Á.cellsOf 57=4/\Á.cellsOf 3=1/\Á.cellsOf 9=1/\Á.bytesOf 57=40:=⟨fx,fx,fx,fx⟩
open Go.Deep in
theorem at7{H:Type}{enc:TypeId×Value->H}{d:Κ H}{p:List ah}{N:List ğ}{P:List (Κ H)} (h:ü enc Á W 0 (λ_=>Ë) Ë J 22 [Ç O j9 j7]=Ã (d,p)) (x:(DataW.weightsEach Á (22::N)<|d::P).all (· <=aI)=Ë):j9<2^42/\∃g,zK (NN W) O j9 g:=by
 rcases open_slice ń h with⟨u,_⟩|⟨a,Q,S,m,n,D,Pl,u,_,hl,hm,T,V,X⟩
 .have e:Ç O j9 j7=Ç Å 0 0:=by simpa using u
  cases e;exact⟨A,λ_=>⟨0,0,0,⟨#[]⟩⟩,λj y=>by omega⟩
 have e:Ç O j9 j7=Ç (Ã a) Q S:=by simpa using u
 cases e;cases V;have hmc:m=j7:=by rw[T];rfl
 have Y:j9<2^42:=by have g:=č.1 x (((ñ j9).map D).length+((ñ<|m-j9).map λj=>D<|j9+j).length)|>λ_=>č.1 x ((((ñ j9).map D).length+((ñ<|m-j9).map λj=>D<|j9+j).length)*Á.bytesOf 57) (DataW.weights_mem_each (j:=0) U U _<|by unfold DataW.weights;rw[ń];exact Ũ ..);have g:=of_decide_eq_true g;rw[Oq.2.2.2]at g;simp only[ġ,List.length_range]at g;unfold aI at g;omega
 have each:∀i,∃o:D3,i<j9->o.Ok/\W.cell? (a.add<|i*4)=Ã (Â Ä o.k)/\W.cell? (a.add<|i*4+1)=Ã (Â Ä o.n)/\W.cell? (a.add<|i*4+2)=Ã (Â Ä o.w)/\W.cell? (a.add<|i*4+3)=Ã (Ê o.s):=by
  intro i;by_cases hi:i<j9
  .let⟨ku,l,r⟩:=X i Z;rw[Oq.1]at l;let⟨_,hlen,b⟩:=World.cells?_some l;let⟨xs,k,_,_,_,hxl,c⟩:=ū Tryz.underlying57 r;match xs,hxl,ku,hlen with
   |[y0,y1,y2,y3],_,[v0,v1,v2,v3],_=>
    have q:ü enc Á W 0 (λ_=>Ë) Ë k 3 (ė (Á.cellsOf 3)<|Ę 0 [v0,v1,v2,v3])=Ã y0:=c 0 _ U;have v:ü enc Á W 0 (λ_=>Ë) Ë k 3 (ė (Á.cellsOf 3)<|Ę 1 [v0,v1,v2,v3])=Ã y1:=c 1 _ U;have z:ü enc Á W 0 (λ_=>Ë) Ë k 3 (ė (Á.cellsOf 3)<|Ę 2 [v0,v1,v2,v3])=Ã y2:=c 2 _ U;have B:ü enc Á W 0 (λ_=>Ë) Ë k 9 (ė (Á.cellsOf 9)<|Ę 3 [v0,v1,v2,v3])=Ã y3:=c 3 _ U;rw[Oq.2.1]at q v z;rw[Oq.2.2.1]at B;let⟨kd,C,_,_⟩:=Ė ę q;let⟨nn,E,_,_⟩:=Ė ę v;let⟨f,F,_,g⟩:=Ė ę z;let⟨s,G,_,hs⟩:=DataW.trod_string Tryz.underlying9 B;have t:=b 0 Z;have I:=b 1 Z;have K:=b 2 Z;have L:=b 3 Z;rw[add_add]at t I K L;simp at C E F G;subst C E F G;have M:-9223372036854775808<=f/\f<=9223372036854775807:=by simp[Lit.wf,bu,bx,a8,bq]at g;omega
    exact⟨⟨kd,nn,f,s⟩,λ_=>⟨⟨M.1,M.2,hs⟩,by simpa using t,by simpa using I,by simpa using K,by simpa using L⟩⟩
  .exact⟨⟨0,0,0,⟨#[]⟩⟩,λq=>absurd q hi⟩
 let⟨f,c⟩:=Classical.axiomOfChoice each;refine⟨Y,f,λj y=> ?_⟩;let⟨l,r,q,z,B⟩:=c j y;let⟨_,t,_⟩:=c 0 Z;let⟨G,E⟩:=ark t;let⟨b,C,sp⟩:=a;have F:sp=Å:=by have:((⟨b,C,sp⟩:ŝ).add<|0*4).spot=sp:=rfl;grind
 subst F;rw[arj]at r q z B;refine⟨l,b,C,U,E,λi v g=> ?_⟩;match i,g with
 |0,g=>cases g;exact r
 |1,g=>cases g;rwa[ņ]
 |2,g=>cases g;rwa[ņ]
 |3,g=>cases g;rwa[ņ]
def aua(os:Os)(D:os.Started)(H:Type)(enc:TypeId×Value->H): ReturnsInLeavingWide {} Ŷ os 3 .any (λw d=>(ś.pre enc Á Ŝ [] È w d/\Ŗ Á NO w)/\sizedMet enc Á Ŝ (OpenSpec.ofChange ś) È w d) (ś.post enc Á Ŝ È Ë È È):=by apply returnsInLeavingWide_of_good (C:=Ŷ) fg D (ChangeSpec.witness_shaped (enc:=enc) (C:=Ŷ) (os:=os) (X:=λw _=>Ŗ Á NO w) È (Λ Á 400 os) #[Ç Å 0 0] 8 U (World.shaped_of_RefB fx fx) fx fx fx<|arH os _);intro w e i _ k _ E F _;let⟨_,_,_,G,I,_,_,_,_,l⟩:=E;obtain rfl:G=Ŝ:=ë<|I.symm.trans ŏ;let⟨⟨_,m⟩,_,J,gs,before,n,K⟩:=F;have r:=DataW.Whole.of_heap (w':=w.forCall e i) fL n;have L:mT (w.forCall e i):=arD k<|laidMetH.of_heap (w:=(w.forCall e i).memory) U m;generalize w.forCall e i=W at*;generalize i.args=d at*;clear n m k;have g:=r;obtain⟨p,q,N,O,rfl,_,_⟩:=r;have s:DataW.TrodAll enc Á W 0 (λ_=>Ë) Ë Ŝ.params.toList d.toList J p:=N;rw[af]at s l;obtain⟨P,Q,rfl,rfl,t⟩:=trodAll_one s;obtain⟨rfl,rfl⟩:=trodVars_none O;obtain⟨S,T,u,rfl⟩:=okWide_slice ń<|l 0 22 P U U;simp only[Ü]at g;let⟨fuel,V⟩:=id t;let⟨Y,f,j⟩:=at7 V K;let⟨M,last,o,a,t',r1,r2,r3,r4⟩:=at6 (c:=u) L j Y;refine⟨M,last,.done o,a,t',r1,r2,r3,r4.mono λv hF=> ?_⟩;obtain⟨⟨rfl,hk⟩,y,z⟩:=hF;have B:=arG hk y z;have ha:DataW.Trod enc Á {a with tape:=W.tape} 0 (λb=>decide<|b<W.heap.size) Ë 22 (Ç S T u) Q p:=Below.trod arF fx (of_decide_eq_true fx) t B (λx j=>g.lt x<|by simp[j]);refine ChangeSpec.post_blind ⟨_,_,_,[],_,[],g,trodAll_mk1<|shut_bool Tryz.underlying4 _,trodAll_mk1<|DataW.Trod.of_heap (w:={a with tape:=W.tape}) (w':=a) U ha,U,⟨y,z,(Below.frame (w':={a with tape:=W.tape}) B λx=>x∈p/\(x∈[]\/x∈p\/x∈[])).2.2⟩,λh=>by cases h⟩
def aub:Rows.BooksSaid:= OpenClaim.holds_of_wide_leaving 3 Ŝ U U U U U U U ⟨U,U,U,U,U⟩ U U U U U fx ŏ fx (of_decide_eq_true fx) (by unfold Func.isWrapper;first|(rw[if_pos (by decide+kernel)];kernel_rfl)|(rw[if_neg (by decide+kernel)];exact⟨U,U⟩)) λa b H c _=>aua a b H c
end Go.Proofs.Y.iV
namespace Go.Proofs.YtgpphkdoanciiaaGreatDoor
open Go
def booksCard_holds:Rows.BooksCardSaid:=by
 have a:Claim7.isSixth {stood:={row:=Rows.booksRow,standIns:=[],harness:=(Ë, "06146bd03cd3b68f99b6c94596564444c7bc30fda6fc0fb9eb31355abe92b33f"),looks:=È},kinds:=[]}=È:=by simp[Claim7.isSixth]
 have b:=Claim7.tied_new_at .later [.data,.data,.data,.data] Ë (Claim7.new_of_sixth Y.iV.aub (Ë, "06146bd03cd3b68f99b6c94596564444c7bc30fda6fc0fb9eb31355abe92b33f") È U ⟨U,U⟩ fx a (λf D c d=>by
   obtain rfl:f=3:=ë ((show Á.funcNamed "attic/atticlaw.Books"=Ã 3 by kernel_rfl).symm.trans c)|>.symm;obtain rfl:D=Ŝ:=(ë<|ŏ.symm.trans d).symm;exact⟨fx,λj t h=>by
    rw[af]at h;have e:t∈[22]:=by simpa using Array.mem_of_getElem? h
    have g:([22].all λu=> !Tryz.prog.wantsStandIn u)=Ë:=fx
    exact(show Á.wantsStandIn t=È by simpa using č.1 g t e)⟩)) fx
 exact⟨b,(λD h=>by cases h),books_row_tie,(λh=>by cases h),fx⟩
end Go.Proofs.YtgpphkdoanciiaaGreatDoor
