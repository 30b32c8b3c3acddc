import Derived.Test.YtgpphkdoanciiaaGreatDoorWAE
import Derived.Lib.LaidTab
import Derived.OpenShut
import Derived.Test.YtgpphkdoanciiaaGreatDoorRows
import Derived.Conc.LeavingOf
import Derived.LaidMore
import Derived.Stop.Joined
import Derived.Carry
import Derived.Great.Walk
import Derived.BigQuiet
import Derived.Deep.LoopGhost
import Derived.Orders
set_option linter.all false
set_option maxRecDepth 1000000
set_option maxHeartbeats 8000000
open And renaming intro->À
open Go.Proofs.Tryz renaming prog->Á,underlying79->ģ,func34->ī,underlying231->Ķ,underlying129->ĸ,func39->Ľ,func32->ľ,func40->œ,underlying123->ş,underlying124->Š,underlying36->ţ,ntmps82->ŧ,ntmps81->Ũ,ntmps80->ũ,ntmps57->Ū,ntmps39->Ŭ,underlying3->ŭ,underlying5->Ů,func82->ų,func81->Ŵ,func80->ŵ,func57->Ŷ,func43->ŷ,func42->Ÿ,func14->ź,ntmps142->Η,ntmps132->Θ,func142->Ο,ntmps90->Ρ,func132->Χ,ntmps58->Ω,ntmps84->ζ,ntmps59->θ,ntmps43->ι,ntmps42->κ,func90->ξ,func58->π,func84->ς,func59->σ,func35->φ,func33->χ,func3->ah,f14->aE
open Go.Value renaming int->Â,pointer->Æ,slice->Ç,string->Ê,oneCell'->ß,bool->ì,agg->ý,tuple->Ď
open Option renaming some->Ã,none->Å,map_eq_some_iff->Ë,toList_some->Ğ,map_some->ŋ
open Go.IntKind renaming i64->Ä,u64->Ü,wrap_i64->Ń,u8->ņ,wrap_u64->ak
open Bool renaming false->È,true->Î,false_eq_true->Ô,and_eq_true->Ė,eq_iff_iff->ĭ
open Or renaming inl->É,inr->Ð
open Go renaming Value->Ì,World->Ý,Calls->ë,wpList_load_mid->ô,bodyPost_ret->ü,maxLen->č,events_store->ĕ,execOp->Ę,info_parts->ĝ,TypeId->Ġ,Oper->Ĥ,Frame->į,Operand->İ,heap_alloc_new->ĺ,all_oneCell_toArray->ŗ,Addr->ś,wpList->ŝ,cell_one_new->Ŧ,wpList_store_mid->Ű,getD_set_ne->Ź,laidMetH->ſ,undef->Δ,Act->Λ,DataW->ν,binOp->υ,Goroutine->ψ,IntKind->ai,Program->ar,Item->aG
open List renaming getElem?_eq_getElem->Í,getElem?_eq_some_iff->Ò,getElem?_append_left->Ö,append_nil->Þ,length_append->à,take_of_length_le->á,mem_of_getElem?->â,getElem?_append_right->å,take_add_one->ê,mem_singleton->í,mem_map->ö,eq_nil_of_length_eq_zero->ø,flatMap_cons->ù,mem_append->û,replicate->ÿ,getElem?_eq_none->ā,drop_eq_getElem_cons->ą,range->ć,getD->ċ,nil_append->ď,getElem?_map->Ē,getElem?_range->ė,foldl_append->Ģ,not_mem_nil->Ħ,cons_append->ħ,mem_cons->Ĩ,mem_of_mem_take->ĩ,set_append_left->Ī,length_map->Ĭ,idxOf_lt_length_of_mem->ĳ,set_cons_succ->ķ,extract_eq_take_drop->Ļ,getElem?_take_of_lt->ŀ,take->Ł,drop->ł,all_eq_true->Ņ,map_append->Ō,take_append_drop->ō,set_append_right->Ŏ,mem_range->Ŕ,map_cons->Ř,getElem?_drop->Ŝ,set_cons_zero->Ş,size_toArray->ť,ext_getElem?->ū,length_take->ű,foldl_cons->ż,foldl_nil->Γ,all_cons->Κ,map_nil->Ξ,set_set->η,length->ρ,map->aF
open Go.Conc.Goes renaming stop->Ï
open Go.Ending renaming returned->Ñ
open Go.Obj renaming cells->Ó,row?->ay
open Nat renaming le_trans->Õ,le_refl->Ù,zero_le->Û,lt_of_lt_of_le->Č,zero_add->Ĕ,eq_zero_or_pos->Ĝ,zero_mul->Ĳ,add_sub_cancel_left->ń,lt_or_ge->Ŋ,pow_succ->Ť,one_pos->Ų,mul_le_mul->Α
open Go.Great renaming wpList_runTo->Ø
open Go.Calls renaming mono->Ú,quiet_of_same->è,quiet_of->Ε
open Go.World renaming cell?->ã,ownsRow_nil->ð,drewN_drewN->ñ,frozen?->Ś,setCell->Ι,var?->ω
open ByteArray renaming size_append->ä,getElem_eq_getElem_data->Ą,ext->Ć,data_append->đ,data_extract->Ň,size_extract->ŉ,append_empty->Τ,append_assoc->Υ,extract->aj,size->az
open Go.Item renaming inRegion->æ,code->aC
open Go.Conc renaming events_call_body->ç,goes_leave1->ġ,mem_listed->ag,listed->aD
open False renaming elim->é
open Go.RowKit renaming intOf->î
open Array renaming getElem?_eq_some_iff->ï,getElem?_eq_getElem->õ,length_toList->Ċ,getElem?_toList->ĥ,getD_eq_getD_getElem?->Ĵ,getElem?_modify->ŏ,toList_extract->Œ,mem_toList_iff->ŕ,toList_append->Ŗ,toList_inj->ů,ext'->ae
open Int renaming toNat_natCast->ò,tmod_eq_emod_of_nonneg->þ,lt_irrefl->Ĉ,emod_nonneg->Į,tdiv_eq_ediv_of_nonneg->ĵ,emod_lt_of_pos->š,not_lt->Ζ
open Go.Frame renaming enter->ó,finish_at->Ě
open Option.some renaming inj->ú,injEq->Ţ
open Go.TypeDesc renaming isRow->Ā
open Go.Proofs.YtgpphkdoanciiaaGreatDoor.Rows renaming laid_math_bits_deBruijn32tab->Ă,laid_math_bits_deBruijn64tab->ă,laid_attic_attic_stepRules->ĉ,laid_internal_strconv_uint64pow10->ē
open Go.Act renaming eval->Đ
open Go.CallKind renaming normal->ę
open Go.DataW renaming trod->ě,trod_int->ő,agg->aL
open Go.RowKit.Below renaming heap_setCell->ğ
open Go.ByteArray renaming toList_eq->ı
open Go.Sem renaming events->Ĺ
open Decidable renaming byContradiction->ļ
open Prod.mk renaming injEq->Ŀ
open Go.Addr renaming add_mid->ň
open Go.Lib renaming tabData->Ő
open Go.BinOp renaming eql->Μ,neq->Ν
variable{i n j b k m J j9 j7 j6:Nat}{w u W jX:Ý}{v x z jQ:Ì}{g:ψ}{a p:ś}{h c:Int}{e t T:Ġ}{d q:Array Ì}{P:ar}{y:Λ}{B:ByteArray}{X:Nat->Prop}{O:Option ś}{l:List Ì}{yQ:Bool}{K H:Λ->Ý->Prop}{o:Ĥ}{D:Nat->Nat}{L:List aG}{jJ:List Nat}{qX:List į}{qQ:İ}{zQ:List Int}{xX:İ->Ì}{xJ:Nat×Nat}{wJ:Array Bool}{vX:List ByteArray}{vQ:Ì->Ý->Prop}{vJ:Go.Exit->Λ->Ý->Prop}{Q:Array Ĥ}{f:į}{F:Go.FuncId}{s:Go.Func}
namespace Go.Proofs.Y.iV
open Go Go.Conc Go.Proofs Go.RowKit Go.Proofs.Y.Lift Go.Proofs.Y.gu Go.Proofs.Y.fA Go.Proofs.Y.lB
open Go.Proofs.YtgpphkdoanciiaaGreatDoor (Rows.laid_math_bits_deBruijn32tab Rows.laid_math_bits_deBruijn64tab Rows.laid_internal_strconv_uint64pow10 Rows.laid_attic_attic_stepRules)
def NI:List (String×DataW Unit):=[("math/bits.deBruijn32tab",Ă),("math/bits.deBruijn64tab",ă),("internal/strconv.uint64pow10",ē),("attic/attic.stepRules",ĉ)]
theorem NJ(h:W.ShapedOpen Á)(g:Nat)(t:Ġ)(b:g<Á.globals.size)(e:(((begin Á (λ_ _=>0) default).world.heap[g]?).bind ay).map (·.2)=Ã t): ∃a,W.heap[g]?=Ã (Ó a t):=by let⟨⟨z,c⟩,d,f⟩:=Ë.1 e;let⟨a,i,_⟩:=h.1 g z c b d;grind
theorem ab2{n:String}(b:Á.globalNamed n=Ã i)(h:W.heap[i]?=Ã (Ó q t xJ))(a:W.var? Á n=Ã d):q=d:=by unfold ω at a;grind
def UL{n:String}{N:Nat}{k:ai}{p:List MemPlace} (a:Á.globalNamed n=Ã i) (f:(Á.globals[i]?).map (·.type)=Ã t) (h:Á.underlying t=Ã (.array N e)) (l:Á.underlying e=Ã (.int k)) (m:Á.cellsOf e=1) (o:Á.cellsOf t=N) (r:W.heap[i]?=Ã (Ó d t xJ)) (s:Á.globalNamed n=Ã b) (u:(Á.globals[b]?).map (·.type)=Ã T) (v:W.var? Á n=Ã q) (w:ě (λ_=>()) Á W 0 (λ_=>Î) È j T q.toList=Ã (Ő k zQ,p)):d=(zQ.map λz=>Â k z).toArray:=by obtain rfl:=ú<|a.symm.trans s;obtain rfl:=ú<|f.symm.trans u;rw[ab2 a r v,<-Lib.cells_of_tab h l m o w]
def ard:Á.cellsOf 299=3:=fx
def ab3:Á.cellsOf 36=1:=fx
def arf:Á.cellsOf 3=1:=fx
def arh:Á.cellsOf 300=69:=fx
def ari{p:List MemPlace}(v:ě (λ_=>()) Á W 0 (λ_=>Î) È n 300 l=Ã (ĉ,p)): l.length=69/\∀(i:Nat) (r:Int×Int×Int),vK[i]?=Ã r->l[i*3]?=Ã (Â Ü r.1)/\l[i*3+1]?=Ã (Â Ä r.2.1)/\l[i*3+2]?=Ã (Â Ä r.2.2):=by
 obtain⟨f,m,rfl,w,y,K,z⟩:=DataW.trod_array Tryz.underlying300 v;refine⟨y.trans arh,λi r o=> ?_⟩;have B:i<23:=by have:=(Ò.1 o).1;exact this
 have g:=z i B;rw[ard]at g;have C:f.map (·.1)=vK.map λr=>(aL [.lit<|.int Ü r.1,.lit<|.int Ä r.2.1,.lit<|.int Ä r.2.2]:ν Unit):=by have:=congrArg Prod.fst w;simp only[ĉ,DataW.agg.injEq]at this;exact this.symm
 obtain⟨x,q⟩:∃x,f[i]?=Ã x:=⟨_,Í Z⟩;rw[q]at g;have d:(f.map (·.1))[i]?=Ã x.1:=by simp[q]
 rw[C]at d;simp only[Ē,o,ŋ,Ţ]at d;obtain⟨e,h,rfl,j,L,D,k⟩:=DataW.trod_struct Tryz.underlying299 g;have a:=k 0 _ U;have b:=k 1 _ U;have c:=k 2 _ U;have a:ě _ Á W 0 _ È h 36 (Ł (Á.cellsOf 36)<|ł 0<|Ł 3<|ł (i*3) l)=e[0]?:=a;have b:ě _ Á W 0 _ È h 3 (Ł (Á.cellsOf 3)<|ł 1<|Ł 3<|ł (i*3) l)=e[1]?:=b;have c:ě _ Á W 0 _ È h 3 (Ł (Á.cellsOf 3)<|ł 2<|Ł 3<|ł (i*3) l)=e[2]?:=c;rw[ab3]at a;rw[arf]at b c;match e,D,j,a,b,c with
 |[y0,y1,y2],_,j,a,b,c=>
  let⟨M,E,F,_⟩:=ő ţ (show ě _ _ _ _ _ _ _ 36 _=Ã y0 from a);let⟨N,G,H,_⟩:=ő ŭ (show ě _ _ _ _ _ _ _ 3 _=Ã y1 from b);let⟨O,I,J,_⟩:=ő ŭ (show ě _ _ _ _ _ _ _ 3 _=Ã y2 from c);subst F;subst H;subst J;rw[j]at d;simp only[Ř,Ξ,DataW.agg.injEq,List.cons.injEq,DataW.lit.injEq,Lit.int.injEq,true_and,and_true]at d;obtain⟨rfl,rfl,rfl⟩:=d;have s:=congrArg (·[0]?) E;have t:=congrArg (·[0]?) G;have u:=congrArg (·[0]?) I;simp[List.getElem?_take,Ŝ]at s t u;exact⟨s,t,u⟩
def ab4(h:∀v∈d.toList,∃k n,v=Â k n):fU (lA X i) d d:=oM λv a=>by obtain⟨k,n,rfl⟩:=h v a;exact .iB _ _
def arj{l:List (String×DataW Unit)}(h:ſ P l W)(a:(l.filter λx=>x.2.handleName?.isSome)=[]):∃b,DataW.LaidVars P W l b:=by unfold ſ at h;rw[a]at h;exact⟨h.choose,h.choose_spec.1⟩
def ark:Á.cellsOf 304=32:=fx
def arl:Á.cellsOf 305=64:=fx
def arn:Á.cellsOf 291=20:=fx
def ab5:Á.cellsOf 5=1:=fx
def gn1:Á.globalNamed "internal/strconv.uint64pow10"=Ã 1:=fx
def gn2:Á.globalNamed "attic/attic.stepRules"=Ã 2:=fx
def gn3:Á.globalNamed "math/bits.deBruijn32tab"=Ã 3:=fx
def gn4:Á.globalNamed "math/bits.deBruijn64tab"=Ã 4:=fx
def NK(g:Nat)(t:Ġ)(h:(g,t)∈[(1,291),(2,300),(3,304),(4,305)]):(Á.globals[g]?).map (·.type)=Ã t/\g<Á.globals.size/\(((begin Á (λ_ _=>0) default).world.heap[g]?).bind ay).map (·.2)=Ã t:=by
 simp only[Ĩ,Ħ,or_false,Ŀ]at h;rcases h with⟨rfl,rfl⟩|⟨rfl,rfl⟩|⟨rfl,rfl⟩|⟨rfl,rfl⟩
 .exact⟨fx,of_decide_eq_true fx,fx⟩
 .exact⟨fx,of_decide_eq_true fx,fx⟩
 .exact⟨fx,of_decide_eq_true fx,fx⟩
 .exact⟨fx,of_decide_eq_true fx,fx⟩
def aro:ν Unit->Int
 |.lit (.int _ z)=>z
 |_=>0
def ab6:ν Unit->List Int
 |aL l=>l.map aro
 |_=>[]
def arp:(Ă:ν Unit)=Ő ņ (ab6 Ă):=rfl
def arq:(ă:ν Unit)=Ő ņ (ab6 ă):=rfl
def ars:(ē:ν Unit)=Ő Ü Lib.pow10Tab:=rfl
def aru{k:ai}:∀v∈(zQ.map λz=>Â k z).toArray.toList,∃k n,v=Â k n:=λv a=>by simp only[ö]at a;obtain⟨z,_,rfl⟩:=a;exact⟨_,_,U⟩
def arv(k:Nat)(h:k<69):∃i j,i<23/\j<3/\k=i*3+j:=⟨k/3,k%3,Z,Z,Z⟩
theorem arw{W:Ý}(hs:W.ShapedOpen Á)(hl:ſ Á NI W):mS W:=by
 obtain⟨ps,g3,t3,cs3,f3,p3,q3,UF,NL,hv3,Hv,⟨g4,t4,cs4,f4,p4,q4,hg4,HJ,hv4,JL,⟨g1,t1,cs1,f1,p1,q1,hg1,Cp,hv1,sP,⟨g2,t2,cs2,f2,p2,q2,MJ,uV,hv2,pF,_,_⟩,_⟩,_⟩,_⟩:=arj hl (by kernel_rfl);obtain⟨y1,s1,z1⟩:=NK 1 291 (by simp);obtain⟨y2,s2,z2⟩:=NK 2 300 (by simp);obtain⟨y3,s3,z3⟩:=NK 3 304 (by simp);obtain⟨y4,s4,z4⟩:=NK 4 305 (by simp);obtain⟨c1,b1⟩:=NJ hs 1 291 s1 z1;obtain⟨c2,b2⟩:=NJ hs 2 300 s2 z2;obtain⟨c3,b3⟩:=NJ hs 3 304 s3 z3;obtain⟨c4,b4⟩:=NJ hs 4 305 s4 z4;rw[arp]at Hv;rw[arq]at JL;rw[ars]at sP;have e3:=UL gn3 y3 Tryz.underlying304 Ů ab5 ark b3 UF NL hv3 Hv;have e4:=UL gn4 y4 Tryz.underlying305 Ů ab5 arl b4 hg4 HJ hv4 JL;have e1:=UL gn1 y1 Tryz.underlying291 ţ ab3 arn b1 hg1 Cp hv1 sP;obtain rfl:=ú (gn2.symm.trans MJ);obtain rfl:=ú (y2.symm.trans uV);obtain⟨hlen,kz⟩:=ari pF;have e2:=ab2 gn2 b2 hv2;subst e2;have arx:=λi r hr=>by have:=kz i r hr;simpa using this
 have ab7:∀(k:Nat) (v:Ì),c2[k]?=Ã v->∃(kd:ai) (n:Int),v=Â kd n/\kd≠ņ:=λk v hv=>by
  have hk:k<69:=by grind
  obtain⟨i,j,hi,hj,rfl⟩:=arv k hk;obtain⟨r,hr⟩:∃r,vK[i]?=Ã r:=⟨_,Í (show i<vK.length from hi)⟩;grind
 have iO:=(ï.1 b4).1;refine⟨?_,?_,⟨c3,_,b3,Û _,Û _,?_,?_⟩,⟨c4,_,b4,Û _,Û _,?_,?_⟩,?_,⟨⟨c2,_,b2⟩,λi r hr=> ?_⟩,?_⟩
 .have h5:nB=5:=by kernel_rfl
  omega
 .rintro b (rfl|rfl)
  .refine⟨c1,291,_,b1,Û _,ab4 (by rw[e1];exact aru),by rw[e1];exact of_decide_eq_true (by kernel_rfl),λk v hv=> ?_,by decide,by decide⟩;rw[e1]at hv;simp only[List.getElem?_toArray,Ē,Ë]at hv;obtain⟨z,_,rfl⟩:=hv;rfl
  .refine⟨c2,300,_,b2,Û _,ab4 λv hv=> ?_,?_,λk v hv=> ?_,by decide,by decide⟩
   .obtain⟨k,hk,e⟩:=List.mem_iff_getElem.1 hv;obtain⟨kd,n,e',_⟩:=ab7 k v (by rw[<-e];simp);grind
   .grind
   .obtain⟨kd,n,rfl,hn⟩:=ab7 k v hv;cases kd<;>first|rfl|exact absurd rfl hn
 .rw[e3];exact of_decide_eq_true (by kernel_rfl)
 .grind
 .rw[e4];exact of_decide_eq_true (by kernel_rfl)
 .grind
 .unfold gu.pJ Lib.TabIs ω;rw[gn1];grind
 .obtain⟨h0,h1,h2⟩:=arx i r hr;exact⟨by simp only[ã,b2];exact h0,by simp only[ã,b2];exact h1,by simp only[ã,b2];exact h2⟩
 .unfold qV;simp only[ã,b4,e4];rfl
end Go.Proofs.Y.iV
namespace Go.Proofs.Y.iV
open Go Go.Conc Go.Proofs Go.RowKit Go.Proofs.Y.Lift Go.Proofs.Y.gu Go.Proofs.Y.fA Go.Proofs.Y.lB
open Go.Proofs.YtgpphkdoanciiaaGreatDoor (Rows.workersSpec Rows.workersRow Rows.WorkersSaid Tryz.pinned)
open Go.ChangeShapes Go.WideShapes Go.ChangeAt
def fg:ownKnob Á.godebug=Å:=fx
def arz:laidOutB Á=Î:=fx
def arA{w':Ý}(h:oj W w')(a:w'.os=W.os)(b:w'.output=W.output):Below W.heap.size W {w' with tape:=W.tape}:=⟨a,U,b,h.wO,h.su⟩
def arB(os:Os)(a:Array Ì):ſ Á NI ((World.doorLaid Á 400 os).forCall (λ_ _=>0) ⟨#[],a,[]⟩).memory:= laidMetH_of_parts3 (fuel:=8) (laidMet_of_run' 8 fx fx) fx fx
end Go.Proofs.Y.iV
namespace Go.Proofs.Y.iV
open Go Go.Conc Go.Proofs Go.RowKit Go.Proofs.Y.Lift Go.Proofs.Y.gu Go.Proofs.Y.fA Go.Proofs.Y.lB
section
variable{J:Jd}{V:Nat->Prop}{l x:fe}
def JN(V:Nat->Prop)(l:fe):fe:={l with O:=V,I:=λb=>l.O b/\¬V b}
structure UM(V:Nat->Prop)(l l':fe):Prop where
 xl:l'.d=0->ic l'
 C:∀b,l.O b->l'.O b/\(¬V b->l'.w.heap[b]?=l.w.heap[b]?)
 r:l.w.heap.size<=l'.w.heap.size
def arC(c:ic l)(e:∀b,V b->l.O b):gq (JN V l):= ⟨λ_ h q=>q.2 h,c.r.Y,λa d=>d.elim (λq=>(c.I a q).elim) λq=>(c.M a q).elim,λb f=>c.r.fv b (É (f.elim (e b) (·.1))),c.r.I,λa d=>(c.k a d).elim⟩
def ab8(e:ic l)(h:∀b,x.I b->l.O b)(f:x.r=l.r)(g:x.N=l.N)(i:x.K=l.K)(r:fI (nR l x) w u):fI x w u:= ⟨r.r,λj m=>r.I j (É<|m.elim É λq=>Ð<|h j q),λy d=>(by unfold fe.C at d;rw[f,g]at d;exact d.elim (λq=>(e.I y q).elim) λq=>(e.M y q).elim),λy d=>(by unfold fe.C at d;rw[f,g]at d;exact d.elim (λq=>(e.I y q).elim) λq=>(e.M y q).elim),λy d=>(by rw[i]at d;exact(e.k y d).elim)⟩
def arD(f:ic l)(g:∀b,x.I b->l.O b)(i:x.r=l.r)(j:x.N=l.N){e:Event}(h:wK x e):wK (nR l x) e:=by
 rcases h with⟨a,c,d⟩|h|h|h|h|⟨a,c,d⟩
 .refine É ⟨a,c,É ?_⟩;rcases d with q|q|⟨q|q,z⟩
  .exact É q
  .rw[i]at q;exact(f.I a q).elim
  .exact Ð<|g _ q
  .rw[j]at q;exact(f.M a q).elim
 .exact Ð<|É h
 .exact Ð<|Ð<|É h
 .exact Ð<|Ð<|Ð<|É h
 .exact Ð<|Ð<|Ð<|Ð<|É h
 .exact Ð<|Ð<|Ð<|Ð<|Ð ⟨a,É c,d⟩
def arE(c:ic l)(h:fA.fi P yQ J x g):(∀b,x.I b->l.O b/\¬V b)->(∀j,x.O j->V j\/l.w.heap.size<=j)->x.r=l.r->x.N=l.N->x.K=l.K->x.q=l.q->l.w.heap.size<=x.w.heap.size->(∀b,l.O b->¬V b->x.w.heap[b]?=l.w.heap[b]?)->kn x-> fA.fi P yQ (λd e=>∃a,J a e/\d=nR l a/\UM V l d/\∀b,a.I b->l.O b/\¬V b) (nR l x) g:=by
 induction h with
 |@fD x g h=>
  intro f u i n m v p B H;refine .fD λd r=>⟨{x with w:=d},h d (ab8 c (λb q=>(f b q).1) i n m r),U,⟨λC=> ?_,λb q=>⟨Ð q,λs=>(r.I b<|É<|Ð q).trans<|B b q s⟩,Õ p r.r⟩,f⟩;have e:∀b,x.O b\/l.O b->b<d.heap.size:=λb q=>Č (q.elim (H b) λz=>Č (c.r.fv b<|É z) p) r.r;exact⟨⟨λb _ q=>c.rd b q,λa q=>(c.I a q).elim,λa q=>q.elim (λz=>(c.I a z).elim) λz=>(c.M a z).elim,λb q=>q.elim (e b) λz=>(c.rd b z).elim,λa q=>q.elim (λz=>(c.I a z).elim) λz=>(c.M a z).elim,λa (q:x.K a)=>by rw[m]at q;exact(c.k a q).elim⟩,C,by show¬x.q;rw[v];exact c.q,c.rd,c.I,c.M,λa (q:x.K a)=>by rw[m]at q;exact c.k a q⟩
 |@jL x g G' W' E' L' iJ h C _ ih=>
  intro f u i n m v p B H;refine .mk iJ λd r=> ?_;have t:=ab8 c (λb q=>(f b q).1) i n m r;have D:=C d t;have E:∀y:ś,¬x.r y:=λy q=>by rw[i]at q;exact c.I y q
  have F:=Õ p t.r;refine⟨G' d,W' d,E' d,nR l<|L' d,h d t,⟨D.C,λj a=> ?_,λj a=> ?_,U,U,U,D.k,λj a o I=>D.ki j a (λq=>o<|É q) λy _=>E y,λy G o I=>D.S y G (λq=>o<|É q)<|E y,λy G o=>D.Y y G λq=>o<|É q,D.c,D.f,D.i,λe L=>arD c (λb q=>(f b<|by rwa[D.rd]at q).1) (D.r.trans i) (D.I.trans n)<|D.b e L,D.g,D.q,λM=> ?_,D.N⟩,ih d t (by rwa[D.rd]) (λj a=>(D.M j a).elim (u j) λq=>Ð<|Õ F q) (D.r.trans i) (D.I.trans n) (D.k.trans m) (D.q.trans v) (by rw[D.N];exact Õ F D.C) (λb q s=> ?_) λj a=>by rw[D.N];exact D.fv j a⟩
  .rcases a with q|q
   .exact(D.M j q).imp É id
   .exact É<|Ð q
  .rcases a with q|q
   .exact D.fv j q
   .exact Č (c.r.fv j<|É q)<|Õ F D.C
  .let⟨N,Q,S⟩:=D.h M;exact⟨N,Q,by funext j;show((L' d).O j\/l.O j)=(x.O j\/l.O j);rw[S]⟩
  .have N:=c.r.fv b<|É q;rw[D.N,D.ki b Z (λz=>(u b z).elim s λz=>by omega) λy _=>E y,r.I b<|É<|Ð q];exact B b q s
def arF(a:ic l)(c:∀b,V b->l.O b)(h:fA.fi P yQ J (JN V l) g):fA.fi P yQ (λj q=>∃e,J e q/\j=nR l e/\UM V l j/\∀b,e.I b->l.O b/\¬V b) l g:=by
 have:=arE a h (λ_ q=>q) (λ_ q=>É q) U U U U (Ù _) (λ_ _ _=>rfl) λj q=>a.r.fv j<|É<|c j q;have e:nR l (JN V l)=l:=by
  have d:(λb=>V b\/l.O b)=l.O:=by funext b;exact propext ⟨λq=>q.elim (c b) id,Ð⟩
  unfold nR JN;simp only[d]
 rwa[e]at this
end
section
variable{V:Nat->Prop}{l:fe}{Post:Ì->Ý->Prop}
theorem ab9(e:ic l)(s:∀b,V b->l.O b)(y:yZ V (λ_=>False) nB l.w)(t:C9 F=Î){k:Array Ì}(m:fU (mh V nB) k k)(z:wG Post) (B:∀T,ë Á F k (World.tp (j2 (λ_=>False) l.w) T 0) fun|Ñ v,a=>Post v a/\kl a|_,_=>False) (u:Bool) (o:į) (p:List į): fA.fi Á u (λh x=>ic h/\UM V l h/\∃(Y:fw) (a:Ý) (v n:Ì),(mh V nB).r Y/\qA Y (λ_=>False) a h.w/\fu Y v n/\Post v a/\x=G (o.finish n) p/\∀i j,Y i j->h.O j/\(V j\/l.w.heap.size<=j)) l (G (ó Á F k ę)<|o::p):=by
 let⟨fn,c,C,D⟩:=xm F t;have r:(λj=>V j/\¬(JN V l).O j)=λ_=>False:=by funext j;exact propext ⟨λq=>q.2 q.1,é⟩
 have W:=C7 (V:=V) xV IG xm z t C D (arC e s) e.q (λb q=>É q) (by rwa[r]) (λg q=>by cases q) m (by rwa[r]) u o p;rw[r]at W;refine(arF e s W).ff ?_;rintro h x ⟨x',⟨Y,a,v,n,g,E,H,I,J,K,_,L⟩,rfl,m,M⟩;refine⟨m.xl<|L.trans e.d,m,Y,a,v,n,g,E,H,I,J,λi j N=> ?_⟩;let⟨P,Q⟩:=K i j N;have S:V j\/l.w.heap.size<=j:=Q.elim É λq=>q.imp id id;refine⟨É (P.resolve_right λq=> ?_),S⟩;let⟨X,z2⟩:=M j q;have:=e.r.fv j<|É X;grind
def arG{Y:fw}{B:Nat}(h:fu Y v x):fu (mh (λj=>∃i,Y i j) B) x x:=by
 induction h with
 |lY b=>exact .lY b
 |iB k n=>exact .iB k n
 |kt s=>exact .kt s
 |lE=>exact .lE
 |jE q=>exact fu.jE (Y:=mh (λj=>∃i,Y i j) B) ⟨⟨U,_,q.1⟩,U,U⟩
 |nD n c=>exact .nD n c
 |j5 q n c=>exact fu.j5 (Y:=mh (λj=>∃i,Y i j) B) ⟨⟨U,_,q.1⟩,U,U⟩ n c
 |tD=>exact .tD
 |fn f=>exact .fn f
 |tE=>exact .tE
 |tF=>exact .tF
 |tH=>exact .tH
 |wx t _ b=>exact .wx t b
 |oh f _ b=>exact .oh U λi c _=>b i Z c
 |lZ f _ b=>exact .lZ U λi c _=>b i Z c
def acd{Y:fw}(h:qA Y (λ_=>False) u w)(d:nB<=w.heap.size):yZ (λj=>∃i,Y i j) (λ_=>False) nB w:=by
 refine⟨λb ⟨i,f⟩=> ?_,d⟩;let⟨c,j,e,s,g,t,l,a,_,m,n⟩:=h.r i b f;have o:=(a.r id).r;refine⟨j,e,g,l,by rwa[<-m id,<-o],oM λv p=> ?_,é⟩;obtain⟨k,q,rfl⟩:=List.getElem_of_mem p;have r:k<j.size:=by simpa using q
 simpa using arG (B:=nB)<|(a.r id).C k Z r
end
end Go.Proofs.Y.iV
namespace Go.Proofs.Y.gu
open Go Go.Proofs Go.RowKit Go.Proofs.Y.Lift
def arH(b:Bool)(w:Ý):ë Á 144 #[ì b] w λe a=>e=Ñ (Â Ü<|AS b)/\a=w:=by
 cases b;all_goals
  go_enter Tryz.func144,Tryz.ntmps144;go_wp2;go_ret;exact⟨U,U⟩
def NM(i:Nat)(b:i<8)(w:Ý):ë Á 143 #[Â Ä i] w λe a=>e=Ñ (Ê<|lb i)/\a=w:=by go_enter Tryz.func143,Tryz.ntmps143;go_wp2;go_ret;exact⟨U,U⟩
theorem UN(s t:ByteArray)(h:s.size+t.size<=10^15)(w:Ý):ë Á 142 #[Ê s,Ê t] w λe a=>e=Ñ (Ê<|if s=⟨#[]⟩then t else(s++⟨#[44]⟩)++t)/\a=w:=by
 by_cases e:s=⟨#[]⟩
 .subst e;go_enter Ο,Η;go_wp2;go_ret;exact⟨U,U⟩
 .rw[if_neg e];have b:(s.toList==[])=È:=by
   rw[ı];have:s.data.toList≠[]:=λq=>e<|Ć<|ů.1 q;grind
  go_enter Ο,Η;go_wp2;go_ret;exact⟨U,U⟩
theorem ace(s:ByteArray)(w:Ý):ë Á 90 #[Ê s] w λe a=>e=Ñ (Ê<|if s=⟨#[]⟩then⟨#[45]⟩else s)/\a=w:=by
 by_cases e:s=⟨#[]⟩
 .subst e;go_enter ξ,Ρ;go_wp2;go_ret;exact⟨U,U⟩
 .rw[if_neg e];have b:(s.toList==[])=È:=by
   rw[ı];have:s.data.toList≠[]:=λq=>e<|Ć<|ů.1 q;grind
  go_enter ξ,Ρ;go_wp2;go_ret;exact⟨U,U⟩
def acf(n c:Nat)(a:n<18446744073709551616)(b:c<18446744073709551616)(w:Ý):ë Á 141 #[Â Ü n,Â Ü c] w λe d=>e=Ñ (Â Ü<|tb n c)/\d=w:=by
 go_enter Tryz.func141,Tryz.ntmps141;go_wp2_with fail;go_ret;refine⟨?_,U⟩;have f:Ü.wrap (((n^^^c:Nat):Int)*1099511628211)=((tb n c:Nat):Int):=by rw[ak];unfold tb;omega
 rw[bits_xor_u64_nat n c a b,f];rfl
def arI(m k:Nat)(a:k<8):m*256^k%18446744073709551616/72057594037927936=m/2^(8*(7-k))%256:=by
 obtain rfl|rfl|rfl|rfl|rfl|rfl|rfl|rfl:k=0\/k=1\/k=2\/k=3\/k=4\/k=5\/k=6\/k=7:=Z
 all_goals simp
 all_goals omega
def JO(n m:Nat)(o:n<18446744073709551616)(s:m<18446744073709551616)(w:Ý):ë Á 139 #[Â Ü n,Â Ü m] w λe p=>e=Ñ (Â Ü<|ny n m)/\p=w:=by
 go_enter Tryz.func139,Tryz.ntmps139;go_wp2;go_loop [0,1,5] (λa b i=>∃h k:Nat,k<=8/\h<18446744073709551616/\tn m h (8-k)=ny n m/\i=Â Ä k/\a=Â Ü h/\b=Â Ü ((m*256^k%18446744073709551616:Nat):Int)) λ_ _ i=>8-(î i).toNat
 case atStart=>exact⟨n,0,Z,o,U,U,U,by simp;omega⟩
 case round=>
  obtain⟨h,k,t,q,c,rfl,rfl,rfl⟩:=hrel;by_cases g:k<8
  .have j:=arI m k g;have l:m*256^k%18446744073709551616*256%18446744073709551616=m*256^(k+1)%18446744073709551616:=by rw[Ť,<-Nat.mul_assoc,Nat.mod_mul_mod]
   have u:m*256^k%18446744073709551616<18446744073709551616:=Nat.mod_lt _ A;have d:tn m (tb h<|m/2^(8*(7-k))%256) (8-(k+1))=ny n m:=by rw[<-c,show 8-k=(8-(k+1))+1 by omega,tn,show 8-(k+1)=7-k by omega]
   rw[<-j]at d;generalize m*256^k%18446744073709551616=B at*;have T:=acf h (B/72057594037927936) q Z w;have f:=eZ<|À d<|À T l;clear d T l j c;have r:((B/72057594037927936:Nat):Int)=(B:Int)/72057594037927936:=fp
   go_wp2_with (go_at_call 141;rw[<-r];apply f.out.2.1.mono;rintro e v ⟨rfl,rfl⟩)
   go_round
   case rel=>exact⟨_,k+1,g,I5 _ _,f.out.1,by go_num,U,by rw[<-f.out.2.2];go_num⟩
   case measure=>simp[î];omega
  .obtain rfl:k=8:=Z
   have e:h=ny n m:=c;go_wp2;go_ret;exact⟨U,U⟩
def yT(d:Nat):ByteArray:=aj ⟨#[48,49,50,51,52,53,54,55,56,57]⟩ d<|d+1
def rds:(ć 10).map yT=(ć 10).map λd=>⟨#[UInt8.ofNat<|48+d]⟩:=fx
theorem JP(h:i<10):yT i=⟨#[UInt8.ofNat<|48+i]⟩:=by have:=congrArg (λl=>l[i]?) rds;simpa[h]using this
theorem UO(h:i<10):iM i=yT i:=by unfold iM;grind [Lib.decDigits_one,JP]
def acg(h:¬n<10):iM n=iM (n/10)++yT (n%10):=by rw[JP Z];unfold iM;rw[Lib.decDigits,dif_neg h];apply Ć;simp_all
theorem UP(h:i<m)(a:m<=16)(b:B.size<=20):Ä.wrap ((i:Int)+1)=(i:Int)+1/\Ä.wrap (i:Int)=i/\(0:Int)<=(i:Int)+1/\(i:Int)+1<=m/\(i:Int)<=(i:Int)+1/\((i:Int)+1).toNat=i+1/\¬9223372036854775807<min (i+1) m-i+B.size:=by grind [Ń]
def FT(n:Nat)(h:n<18446744073709551616)(w:Ý):ë Á 85 #[Â Ü n] w λe j=>e=Ñ (Ê<|iM n)/\j=w:=by
 have l:=uz n h;generalize m:iM n=r at*;go_enter Tryz.func85,Tryz.ntmps85;go_wp2;go_loop [0,3] (λa b=>∃(k:Nat) (s:ByteArray),k<18446744073709551616/\iM k++s=r/\a=Â Ü k/\b=Ê s) λa _=>(î a).toNat
 case atStart=>exact⟨n,⟨#[]⟩,h,by rw[m];exact Τ,U,U⟩
 case round=>
  obtain⟨k,s,p,c,rfl,rfl⟩:=hrel;have i:s.size<=20:=by rw[<-c,ä]at l;omega
  by_cases f:k<10
  .rw[UO f]at c;let⟨_,_,_,_,_,_,_⟩:=UP f A i;have g:=eZ c;clear c;go_wp2;go_ret;exact⟨by rw[<-g.out];rfl,U⟩
  .have t:(k:Int).tmod 10=((k%10:Nat):Int):=by rw[þ Z];omega
   have u:(k:Int).tdiv 10=((k/10:Nat):Int):=by rw[ĵ Z];omega
   rw[acg f,Υ]at c;have o:k%10<10:=Z
   have v:k/10<k:=Z
   have g:=eZ c;clear c;generalize k%10=d at*;generalize k/10=q at*;let⟨_,_,_,_,_,_,_⟩:=UP o A i;go_wp2;go_round
   case rel=>exact⟨q,_,Z,g.out,U,U⟩
   case measure=>simp[î];omega
def ach:∀n:Nat,n<100->iM n=nY n:=λn h=>by
 unfold nY;split
 .rw[UO ‹_›,JP ‹_›]
 .rw[acg ‹_›,UO Z,JP Z,JP Z];rfl
def NN(i:Nat)(h:i<10)(w:Ý):ë Á 83 #[Â Ä i] w λe a=>e=Ñ (Ê<|ov i)/\a=w:=by
 have b:(nY i).size=1:=by unfold nY;rw[if_pos h];rfl
 have C:=FT i Z w;rw[ach i Z]at C;go_enter Tryz.func83,Tryz.ntmps83;go_wp2_with (go_at_call 85;apply C.mono;rintro e a ⟨rfl,rfl⟩);go_ret;exact⟨U,U⟩
def xH:Nat->Nat->List UInt8->List UInt8
 |0,_,acc=>acc
 |k+1,n,acc=>xH k (n/16)<|pK (n%16)::acc
def aci:∀(k:Nat) (a:List UInt8),xH k 0 a=ÿ k 48++a
 |0,_=>rfl
 |k+1,a=>by rw[xH,aci k,List.replicate_succ'];simp[show pK 0=48 by rfl]
def acj:∀(k n:Nat) (a:List UInt8),n<16^k->0<k->xH k n a=ÿ (k+a.length-(rU k n a).length) 48++rU k n a/\(rU k n a).length<=k+a.length
 |k+1,n,a,h,_=>by
  rw[xH];unfold rU;split
  .rename_i f;rw[show n/16=0 by omega,show n%16=n by omega,aci];simp;omega
  .have b:n/16<16^k:=by rw[Ť]at h;omega
   have c:0<k:=by
    rcases Ĝ k with rfl|q
    .simp at b;omega
    .exact q
   let⟨d,e⟩:=acj k (n/16) (pK (n%16)::a) b c;rw[d];simp only[List.length_cons]at e|-;exact⟨by rw[show k+(a.length+1)=k+1+a.length by omega],Z⟩
theorem arJ(h:k<=16):(xw k).data.toList=ÿ k 48:=by unfold xw;rw[Ň,Œ,Ļ];show((ÿ 64 48).drop 0).take (k-0)=_;grind
def arK(h:n<18446744073709551616):Dl n=⟨(xH 16 n []).toArray⟩:=by
 let⟨a,c⟩:=acj 16 n [] h A;have b:(mE n).size=(rU 16 n []).length:=by unfold mE;exact ť
 unfold Dl;refine Ć<|ae ?_;rw[đ,Ŗ,arJ Z,b,a];simp[mE]
def arL:(ć 16).map uA=(ć 16).map λd=>⟨#[pK d]⟩:=fx
def UQ(h:i<16):uA i=⟨#[pK i]⟩:=by have:=congrArg (λl=>l[i]?) arL;simpa[h]using this
def arM(n:Nat)(j:n<18446744073709551616)(w:Ý):ë Á 88 #[Â Ü n] w λe o=>e=Ñ (Ê<|Dl n)/\o=w:=by
 rw[arK j];generalize p:xH 16 n []=r;go_enter Tryz.func88,Tryz.ntmps88;go_wp2;go_loop [0,3,4] (λa b c=>∃(k i:Nat) (s:ByteArray),k<18446744073709551616/\i<=16/\s.size=i/\xH (16-i) k s.data.toList=r/\a=Â Ü k/\b=Ê s/\c=Â Ä i) λ_ _ c=>16-(î c).toNat
 case atStart=>exact⟨n,0,⟨#[]⟩,j,Z,U,p,U,U,U⟩
 case round=>
  obtain⟨k,i,s,x,y,l,f,rfl,rfl,rfl⟩:=hrel;by_cases t:i<16
  .have z:(k:Int).tmod 16=((k%16:Nat):Int):=by rw[þ Z];omega
   have B:(k:Int).tdiv 16=((k/16:Nat):Int):=by rw[ĵ Z];omega
   rw[show 16-i=(16-(i+1))+1 by omega,xH]at f;have h:k%16<16:=Z
   have u:k/16<18446744073709551616:=Z
   have e:(uA (k%16)++s).data.toList=pK (k%16)::s.data.toList:=by rw[UQ h,đ,Ŗ];rfl
   have m:(uA (k%16)++s).size=i+1:=by rw[ä,UQ h,l];show 1+i=i+1;omega
   rw[<-e]at f;have v:s.size<=20:=Z
   have g:=eZ<|À f m;clear f e m l;generalize k%16=d at*;generalize k/16=q at*;let⟨_,_,_,_,_,_,_⟩:=UP h A v;go_wp2;go_round
   case rel=>exact⟨q,i+1,_,u,t,g.out.2,g.out.1,U,U,by go_num⟩
   case measure=>simp[î];omega
  .have:s=⟨r.toArray⟩:=by
    rw[show 16-i=0 by omega,xH]at f;rw[<-f]
   have g:=eZ this;clear this f;go_wp2;go_ret;exact⟨by rw[g.out];rfl,U⟩
def oc(s:St)(i:Nat):Ì:=if i<8 then rK (s i).ft else if i<16 then Ê (s<|i-8).C else rK ((s<|(i-16)/16).r<|(i-16)%16)
def iH(s:St):List Ì:=(ć 144).map<|oc s
def mV(s:St):(iH s).length=144:=by simp[iH]
def zu(s:St)(h:i<144):(iH s)[i]?=Ã (oc s i):=by simp[iH,ė h]
def ie(T:Ġ)(v:Ì)(n:Nat)(c:List Ì)(w:Ý):Prop:=∃p a,v=Ç p n a/\n<=a/\∀j x,c[j]?=Ã x->∃b o,p=Ã ⟨b,o,Å⟩/\(∃d e,w.heap[b]?=Ã (Ó d T e))/\w.cell? ⟨b,o+j,Å⟩=Ã x
def ie.I(h:ie T v n l w)(k:fc X w u)(i:∀b a c,X b->w.heap[b]?≠Ã (Ó a T c)):ie T v n l u:=by let⟨p,m,e,q,r⟩:=h;refine⟨p,m,e,q,λj x s=> ?_⟩;let⟨b,o,t,⟨a,c,d⟩,f⟩:=r j x s;have g:¬X b:=λz=>i b a c z d;exact⟨b,o,t,⟨a,c,by rwa[k.N b (World.block_lt_of_cell? w _ f) g]⟩,k.r f g⟩
def ie.fE{w':Ý}(h:ie T v n l w)(k:fc fh w w'):ie T v n l w':=h.I k λ_ _ _=>é
def ie.r{T T2:TypeId}{n fb:Nat}{v:Value}{cells vs:List Value}{w w':World}(h:ie T v n cells w)(k:fc (λk=>k=fb) w w')(hB:fq fb vs T2 w)(ht:T≠T2:=by decide):ie T v n cells w':=h.I k λb cs fz e q=>by subst e;rw[hB]at q;cases q;exact ht U
def ie.C(T:Ġ)(w:Ý):ie T (Ç Å 0 0) 0 [] w:=⟨Å,0,U,Ù _,λ_ _ h=>by cases h⟩
structure MK(w0:Ý)(T:Ġ)(z:Nat)(v:Ì)(n:Nat)(xs:List Ì)(w:Ý):Prop where
 fg:w.ownsRow w0.heap.size T z v n xs
 r:fc fh w0 w
section
variable{w0:Ý}{z:Nat}{xs:List Ì}
def MK.C{T:Ġ}{z:Nat}(w0:Ý):MK w0 T z (Ç Å 0 0) 0 [] w0:=⟨ð _ _ _ _,fc.fV _ _⟩
def MK.fE(h:MK w0 T z v n xs w)(k:fc fh w u):MK w0 T z v n xs u:=⟨im h.fg k λ_ _=>id,h.r.fj k⟩
def MK.BM(h:MK w0 T z v n xs w)(a:nW w w0.heap.size T z v n xs m l x u):MK w0 T z x (n+m) (xs++l) u:= ⟨a.fg,h.r.C a.r λi b q=>by have:=(h.fg.lt i q).1;omega⟩
def MK.I(h:MK w0 T z v n xs w):ie T v n xs w:=by
 obtain⟨a,i,rfl⟩:=jv h.fg;rcases h.fg.2 with⟨b,c⟩|⟨g,k,l,b,c,d,e,_⟩
 .cases b;have:=h.fg.1;rw[Ĳ]at this;rw[ø this];exact ie.C _ _
 .cases b;refine⟨_,_,U,e,λj x f=>⟨g,0,U,⟨_,_,d⟩,?_⟩⟩;have:=h.fg.cells (g:=g) U j x f;rwa[ň]at this
def UR{m:Array Ĥ}{p:List Ĥ}{bytes:Nat}{x:İ}{ad:ś}(r:(Á.info? T).map (λi=>(i.zero,i.size,i.bytes))=Ã (Ã jQ,z,bytes))(B:Á.underlying t=Ã (.slice T))(g:MK w0 T z v n xs w)(C:n<1000000)(k:(lz T||decide (10000<bytes))=È) (h:∀d e f,MK w0 T z (Ç d (n+1) e) (n+1) (xs++l) f->ŝ Á m vJ p (y.put o.dst<|Ç d (n+1) e) f) (D:∀j u,l[j]?=Ã u->w.cell? (ad.add j)=Ã u) (E:∀u∈l,u.oneCell'=Î) (F:o.guard=Å) (G:o.op=.call {callee:=.builtin .append,args:=#[qQ,x],argTypes:=#[t,t]}) (H:jQ.cells.size=z) (I:y.eval qQ=v) (J:y.eval x=Ç (Ã ad) 1 b) (O:l.length=z):ŝ Á m vJ (o::p) y w:=by let⟨P,K,L,M,N⟩:=ĝ r;simp only[Bool.or_eq_false_iff,decide_eq_false_iff_not]at k;refine xn F qQ x t G B K L M N H I g.fg ad l J Ų Z D E (by unfold č;omega) (Õ (Α (show n+1<=1000000 from C)<|Nat.not_lt.1 k.2) A) g.r.M (λS f q=> ?_)<|É k.1;obtain⟨d,e,rfl⟩:=jv q.fg;exact h d e f<|g.BM q
end
end Go.Proofs.Y.gu
namespace Go.Proofs.Y.gu
open Go Go.Proofs Go.RowKit Go.Proofs.Y.Lift Go.Proofs.Y.iV
def NO(s t:ByteArray):ByteArray:=if s=⟨#[]⟩then t else(s++⟨#[44]⟩)++t
def jC(a:List ByteArray):ByteArray:=lj ⟨#[44]⟩ a
def acn{r:List ByteArray}(h:0<B.size):jC (B::r)≠⟨#[]⟩:=λe=>by
 have:=congrArg az e;have a:(jC<|B::r).size=B.size+(mR ⟨#[44]⟩ r).length:=by show((B.data.toList++mR _ r).toArray).size=_;simp only[ť,à,Ċ];rfl
 rw[a]at this;have:B.size+(mR ⟨#[44]⟩ r).length=0:=this;omega
def US(h:∀x∈vX,0<x.size)(y:ByteArray):NO (jC vX) y=jC (vX++[y]):=by
 unfold NO;cases vX with
 |nil=>rw[if_pos (show jC []=⟨#[]⟩from U)];exact Ć<|by simp[jC,lj,Jg,mR]
 |cons x r=>
  rw[if_neg<|acn<|h x fp];refine Ć<|ae ?_;simp[jC,lj,Jg,mR,đ]
def aco(h:∀x∈vX,0<x.size):(if jC vX=⟨#[]⟩then⟨#[45]⟩else jC vX)=vP vX:=by
 unfold vP;cases vX with
 |nil=>rfl
 |cons x r=>rw[if_neg<|acn<|h x fp,if_neg fp];rfl
def UT{M:Nat}(a:∀z∈vX,z.size<=M)(b:M<=100)(c:vX.length<=400000):(jC vX).size<=100000000:=by have d:=Ub ⟨#[44]⟩ U vX;have e:=Jh vX a;have:M*vX.length<=100*400000:=Α b c;unfold jC;omega
def FU(h:i<8):(lb i).size=1:=by unfold lb;rw[ŉ];show min (i+1) 8-i=1;omega
def acr{e:Nat×Int}(h:e.1<8):0<(mj e).size:=by unfold mj;rw[ä,FU h];omega
def arN{a:List (Nat×Int)}(h:ie 236 (Ç O n b) a.length (oH a) w)(P:a.length<=400000)(l:xq a):ë Á 91 #[Ç O n b] w λe Q=>e=Ñ (Ê<|jC<|a.map mj)/\∃m,Q=w.drewN m:=by
 let⟨_,_,e,_,t⟩:=h;cases e;have u:∀j,∀z∈(a.take j).map mj,z.size<=21/\0<z.size:=λj z S=>by obtain⟨e,T,rfl⟩:=ö.1 S;have:=l e<|ĩ T;exact⟨T3 this.2,acr this.1⟩
 have d:=eZ<|À t<|À u l;obtain⟨N,o⟩:∃N,a.length=N:=⟨_,U⟩;have v:=eZ o;clear t u l;rw[o]at P|-;clear o;go_enter Tryz.func91,Tryz.ntmps91;go_wp2;go_loopw [3,4] (λs i wr=>∃j m:Nat,j<=N/\i=Â Ä j/\s=Ê (jC<|(a.take j).map mj)/\wr=w.drewN m) λ_ i _=>N-(î i).toNat
 case atStart=>exact⟨0,0,Û _,U,U,U⟩
 case round=>
  obtain⟨j,m,Y,rfl,rfl,f⟩:=hrel;by_cases V:j<N
  .obtain⟨⟨y,z⟩,g⟩:∃y,a[j]?=Ã y:=⟨_,Í<|by rw[v.out];omega⟩;let⟨r,k⟩:=d.out.2.2 _<|â g;simp only at r k;obtain⟨c,rfl⟩:∃c:Nat,z=c:=⟨z.toNat,by have:=k.1;omega⟩;let⟨g0,B⟩:=Dj (λO:Nat×Int=>Â Ä O.1) (λO=>Â Ü O.2) a j _ g;obtain⟨C,D,rfl,_,E⟩:=d.out.1 (j*2) _ g0;let⟨sb2,so2,W,_,F⟩:=d.out.1 (j*2+1) _ B;cases W;have G:(a.take<|j+1).map mj=(a.take j).map mj++[lb y++iM c]:=by rw[ê,g];simp[mj]
   have H:NO (jC<|(a.take j).map mj) (lb y++iM c)=jC ((a.take<|j+1).map mj):=by rw[G];exact US (λx q=>(d.out.2.1 j x q).2) _
   have I:=UT (M:=21) (λx q=>(d.out.2.1 j x q).1) Z (by simp;omega);have J:=uz c (by have:=k.2;omega);have K:=FU r;have L:=eZ<|À H<|À I<|À J K;have k1:¬9223372036854775807<(lb y).size+(iM c).size:=Z
   clear G H g g0 B I J K;have c0:wr.cell? ⟨C,D+j*2,Å⟩=Ã (Â Ä y):=by rwa[f]
   have c1:wr.cell? ⟨C,D+j*2+1,Å⟩=Ã (Â Ü c):=by rwa[f]
   have X:=eZ f;clear E F f;generalize jC ((a.take j).map mj)=s at*;go_wp2;go_quiet ((first
    |(go_at_call 143;exact è<|NM _ r _)
    |(go_at_call 85;exact è<|FT _ (by have:=k.2;omega) _)
    |(go_at_call 142;exact è (UN _ _ (by rw[ä];have:=L.out.2;omega) _))))
   go_wp2;go_roundw
   case rel=>exact⟨j+1,m+_,V,by go_num,by rw[<-L.out.1];rfl,by rw[X.out,ñ]⟩
   case measure=>simp[î];omega
  .obtain rfl:j=N:=Z
   rw[(á<|by rw[v.out];omega)];go_wp2;go_ret;exact⟨U,m,U⟩
def zv(v:fM)(a b c:Ì):List Ì:=iH v.s++[Â Ä v.h,a,b,c]
def lW(v:fM)(a b c:Ì):(zv v a b c).length=148:=by simp[zv,mV]
def rZ{v:fM}{a:Ì}(j:Nat)(h:[Â Ä v.h,z,jQ,a][j]?=Ã x):(zv v z jQ a)[144+j]?=Ã x:=by unfold zv;rw[å (by rw[mV];omega),mV,ń];exact h
def uI(us:List (Int×Bool)):List Ì:=us.map λe=>Â Ä e.1
def uJ(us:List (Int×Bool)):List Ì:=us.map λe=>ì e.2
def arO{v:fM}{E F:Ì}(k:ie 3 F v.r.length (uI v.r) w)(a:ie 4 E v.r.length (uJ v.r) w)(hn:v.r.length<=1000)(p:A1 v.r):ë Á 92 #[ý (zv v jQ E F).toArray] w λe G=>e=Ñ (Ê<|vP<|v.r.map ml)/\fc fh w G:=by
 obtain⟨l,n,rfl,_,k⟩:=k;obtain⟨o,wc,rfl,_,a⟩:=a;have r:=fq.N w (zv v jQ (Ç o v.r.length wc)<|Ç l v.r.length n) 126;have t:=r.r 146 _<|rZ 2 U;have u:=r.r 147 _<|rZ 3 U;have H:=fc.iw fh w (zv v jQ (Ç o v.r.length wc)<|Ç l v.r.length n).toArray 126;have I:∀j,∀z∈(v.r.take j).map ml,z.size<=41/\0<z.size:=λj z hz=>by obtain⟨e,he,rfl⟩:=ö.1 hz;have:=p e<|ĩ he;exact⟨T4 this.1 this.2,by unfold ml;simp only[ä];show 0<_+1+_;omega⟩
 have d:=eZ<|À k<|À a<|À I<|À p H;clear k a I p H r;generalize(zv v jQ (Ç o v.r.length wc)<|Ç l v.r.length n)=cs at*;generalize v.r=us at*;obtain⟨N,B⟩:∃N,us.length=N:=⟨_,U⟩;have J:=eZ B;rw[B]at hn t u;clear B;go_enter Tryz.func92,Tryz.ntmps92;go_wp2_with (with_reducible refine Ø U (Ã 1) U _ _ (sV U U) ?_);generalize w.alloc (Ó cs.toArray 126)=wa at*;generalize w.heap.size=vb at*;go_loopw [3,4] (λs i wr=>∃j m:Nat,j<=N/\i=Â Ä j/\s=Ê (jC<|(us.take j).map ml)/\wr=wa.drewN m) λ_ i _=>N-(î i).toNat
 case atStart=>exact⟨0,0,Û _,U,U,U⟩
 case round=>
  obtain⟨j,m,hj,rfl,rfl,a⟩:=hrel;have d2:wr.cell? ⟨vb,146,Å⟩=Ã (Ç o N wc):=by rwa[a]
  have d3:wr.cell? ⟨vb,147,Å⟩=Ã (Ç l N n):=by rwa[a]
  have D:=eZ (show fc fh w wr by rw[a];exact d.out.2.2.2.2.fj<|fc.jh _ _ _);have HX:=eZ a;clear t u a;by_cases gE:j<N
  .obtain⟨⟨g,b⟩,h⟩:∃y,us[j]?=Ã y:=⟨_,Í<|by rw[J.out];omega⟩;let⟨o1,o2⟩:=d.out.2.2.2.1 _<|â h;simp only at o1 o2;obtain⟨c,rfl⟩:∃c:Nat,g=c:=⟨g.toNat,Z⟩;obtain⟨sb,so,rfl,_,K⟩:=d.out.1 j (Â Ä c) (by simp[uI,h]);obtain⟨vb2,vo2,rfl,_,L⟩:=d.out.2.1 j (ì b) (by simp[uJ,h]);have f:(us.take<|j+1).map ml=(us.take j).map ml++[(iM b.toNat++⟨#[58]⟩)++iM c]:=by rw[ê,h];simp[ml]
   have O:NO (jC<|(us.take j).map ml) ((iM b.toNat++⟨#[58]⟩)++iM c)=jC ((us.take<|j+1).map ml):=by rw[f];exact US (λx q=>(d.out.2.2.1 j x q).2) _
   have P:=UT (M:=41) (λx q=>(d.out.2.2.1 j x q).1) Z (by simp;omega);have Q:=uz c Z;have S:=uz b.toNat (by cases b<;>decide);have T:(iM b.toNat++⟨#[58]⟩:ByteArray).size=(iM b.toNat).size+1:=by rw[ä];rfl
   have V:=eZ<|À O<|À P<|À Q<|À S T;have k1:¬9223372036854775807<(iM b.toNat).size+1:=Z
   have k2:¬9223372036854775807<(iM b.toNat).size+1+(iM c).size:=Z
   have c0:=D.out.r K id;have c1:=D.out.r L id;have w0:Ü.wrap (c:Int)=c:=AT Z Z;have C:=λm=>arH b<|wr.drewN m;rw[show AS b=((b.toNat:Nat):Int) by cases b<;>rfl]at C;have W:b.toNat<18446744073709551616:=by cases b<;>decide
   have X:=eZ<|À C W;clear f O h P Q S T K L C W;generalize jC ((us.take j).map ml)=s at*;generalize b.toNat=bn at*;go_wp2;go_quiet ((first
    |(go_at_call 144;exact è<|X.out.1 _)
    |(go_at_call 85;exact è<|FT _ (by first|exact X.out.2|omega) _)
    |(go_at_call 142;exact è (UN _ _ (by rw[ä];have:=V.out.2;omega) _))))
   go_wp2;go_roundw
   case rel=>exact⟨j+1,m+_,gE,by go_num,by rw[<-V.out.1];rfl,by rw[HX.out,ñ]⟩
   case measure=>simp[î];omega
  .obtain rfl:j=N:=Z
   have f:us.take j=us:=á (by rw[J.out];omega);have Y:(if jC (us.map ml)=⟨#[]⟩then⟨#[45]⟩else jC (us.map ml))=vP (us.map ml):=aco λx q=>(d.out.2.2.1 j x<|by rwa[f]).2;have C:=ace (jC<|us.map ml) wr;rw[Y]at C;rw[f];clear Y f;go_wp2_with (go_at_call 90;apply C.mono;rintro e G ⟨rfl,rfl⟩);go_ret;exact⟨U,D.out⟩
section
variable{s t:St}
def P2(n:Nat)(a:List ByteArray):Prop:=a.length<=n/\∀x∈a,x.size=2
def P2.r{a:List ByteArray}(h:P2 n vX)(k:P2 m a):P2 (n+m) (vX++a):=⟨by rw[à];have:=h.1;have:=k.1;omega,λx q=>(û.1 q).elim (h.2 x)<|k.2 x⟩
def acs(h:i<8){z:ByteArray}(a:z.size=1):P2 1 [lb i++z]:=⟨Ù _,λx q=>by rw[í.1 q,ä,FU h,a]⟩
def UU(n:Nat):P2 n []:=⟨Û _,λ_ q=>by cases q⟩
def UW{c:Prop}[Decidable c](h:i<8){z:ByteArray}(a:z.size=1):P2 1 (if c then[]else[lb i++z]):=by
 split
 .exact UU 1
 .exact acs h a
def acu(h:k<16):(uA k).size=1:=by rw[UQ h];rfl
def UX(h:i<8):∀k,k<=16->P2 k (n7 s t i k)
 |0,_=>UU 0
 |k+1,hk=>by rw[Na];exact(UX h k Z).r<|UW h<|acu Z
def acv(h:i<8)(x y:Int)(p q:ByteArray):P2 2 (mQ x y p q i):=(UW h (z:=⟨#[36]⟩) U).r<|UW h (z:=⟨#[123]⟩) U
def acw(i:Nat):lh s t (i+1)=lh s t i++xv s t i:=by unfold lh;rw[List.range_succ,List.flatMap_append];simp
def UY:∀i,i<=8->P2 (18*i) (lh s t i)
 |0,_=>UU 0
 |i+1,h=>by rw[acw];exact(UY i Z).r<|(acv Z _ _ _ _).r<|UX Z 16<|Ù _
def P2.lst(h:P2 n vX)(b:n<=1000)(y:ByteArray)(c:y.size=2)(w:Ý):ë Á 142 #[Ê<|jC vX,Ê y] w λe a=>e=Ñ (Ê<|jC<|vX++[y])/\a=w:=by have d:=UT (M:=2) (λx q=>Nat.le_of_eq<|h.2 x q) Z (by have:=h.1;omega);have:=UN (jC vX) y Z w;rwa[show(if jC vX=⟨#[]⟩then y else(jC vX++⟨#[44]⟩)++y)=jC (vX++[y])from US (λx q=>by rw[h.2 x q];decide) y]at this
def acy{w:Ý}(h:ë Á F d (w.drewN<|m+n) λe a=>e=Ñ v/\a=w.drewN (m+n)):ë Á F d (w.drewN<|m+n) λe b=>e=Ñ v/\∃n,b=w.drewN (m+n):=h.mono λ_ _ q=>⟨q.1,n,q.2⟩
def P2.C(h:P2 n vX)(a:n<=1000)(b:i<8)(z:ByteArray)(c:z.size=1)(w:Ý):ë Á 142 #[Ê<|jC vX,Ê<|lb i++z] w λe d=>e=Ñ (Ê<|jC<|vX++[lb i++z])/\d=w:=h.lst a _ (by rw[ä,FU b,c]) w
def acz(h:i<8)(z:ByteArray)(a:z.size=1):¬9223372036854775807<(lb i).size+z.size:=by rw[FU h,a];decide
def FV(h:i<8):oc s i=Â Ü (s i).ft:=if_pos h
theorem NP(h:i<8):oc s (8+i)=Ê (s i).C:=by unfold oc;grind
def NQ(h:k<16):oc s (16+i*16+k)=Â Ü ((s i).r k):=by unfold oc;rw[if_neg Z,if_neg Z,show(16+i*16+k-16)/16=i by omega,show(16+i*16+k-16)%16=k by omega];rfl
def arP:ë Á 93 #[ý (iH s).toArray,ý (iH t).toArray] w λe f=>e=Ñ (Ê<|jC<|lh s t 8)/\fc fh w f:=by
 have I:=fq.N w (iH s) 121;have u:=fq.N (w.alloc<|Ó (iH s).toArray 121) (iH t) 121;have J:=fc.iw fh w (iH s).toArray 121;have v:=fc.iw fh (w.alloc<|Ó (iH s).toArray 121) (iH t).toArray 121;have K:(w.alloc<|Ó (iH s).toArray 121).heap.size=w.heap.size+1:=fp
 rw[K]at u;have y:=eZ<|À (I.C v id)<|À u<|J.fj v;clear I u J v K;go_enter Tryz.func93,Tryz.ntmps93;go_wp2_with (first
  |(with_reducible refine Ø U (Ã 2) U _ _ (sV U U) ?_)
  |(with_reducible refine Ø U (Ã 3) U _ _ (sV U U) ?_))
 generalize(w.alloc<|Ó (iH s).toArray 121).alloc (Ó (iH t).toArray 121)=wa at*;generalize w.heap.size=vb at*;go_loopw [5,6] (λx i wr=>∃j m:Nat,j<=8/\i=Â Ä j/\x=Ê (jC<|lh s t j)/\wr=wa.drewN m) λ_ i _=>8-(î i).toNat
 case atStart=>exact⟨0,0,Û _,U,U,U⟩
 case round=>
  obtain⟨j,m,Y,rfl,rfl,B⟩:=hrel;obtain⟨b,rfl⟩:∃b,b=wr:=⟨_,U⟩;have HW:=eZ B;by_cases a:j<8
  .have l:∀i,i<144->b.cell? ⟨vb,i,Å⟩=Ã (oc s i)/\b.cell? ⟨vb+1,i,Å⟩=Ã (oc t i):=λi L=>by
    rw[B];exact⟨y.out.1.r i _<|zu s L,y.out.2.1.r i _<|zu t L⟩
   let⟨b1,b2⟩:=l j Z;let⟨q1,q2⟩:=l (8+j) Z;rw[FV a]at b1 b2;rw[NP a]at q1 q2;have M:∀k,k<16->b.cell? ⟨vb,16+j*16+k,Å⟩=Ã (Â Ü<|(s j).r k)/\b.cell? ⟨vb+1,16+j*16+k,Å⟩=Ã (Â Ü<|(t j).r k):=λk o=>by have:=l (16+j*16+k) Z;rwa[NQ o,NQ o]at this
   have N:=UY (s:=s) (t:=t) j Y;have g:=eZ<|À M N;clear l M N B;have a1:=acz a ⟨#[36]⟩ U;have a2:=acz a ⟨#[123]⟩ U;generalize O:(s j).ft=x1 at*;generalize P:(t j).ft=x2 at*;generalize Q:(s j).C=y1 at*;generalize S:(t j).C=y2 at*;have HH:=eZ (show lh s t (j+1)=lh s t j++mQ x1 x2 y1 y2 j++n7 s t j 16 by rw[acw,xv,O,P,Q,S,List.append_assoc]);clear O P Q S;by_cases p:x1=x2;all_goals by_cases q:y1.toList=y2.toList
   all_goals
    first
     |(have d1:(x1==x2)=Î:=beq_iff_eq.2 p)
     |(have d1:(x1==x2)=È:=beq_eq_false_iff_ne.2 p)
    first
     |(have d2:(y1.toList==y2.toList)=Î:=beq_iff_eq.2 q)
     |(have d2:(y1.toList==y2.toList)=È:=beq_eq_false_iff_ne.2 q)
    have T:=eZ<|À p q;clear p q;go_wp2;go_quiet (fail);go_wp2_with (first
     |(go_at_call 143;refine(NM _ a _).mono ?_;rintro e f ⟨rfl,rfl⟩)
     |(go_at_call 142;refine Ú (P2.C g.out.2 Z a ⟨#[36]⟩ U _) ?_;rintro e f ⟨rfl,rfl⟩))
    go_quiet (fail)
    go_wp2_with (first
     |(go_at_call 143;refine(NM _ a _).mono ?_;rintro e f ⟨rfl,rfl⟩)
     |(go_at_call 142;(first|with_reducible refine Ú (P2.C g.out.2 Z a ⟨#[123]⟩ U _) ?_|refine Ú (P2.C (g.out.2.r (acs a (z:=⟨#[36]⟩) U)) Z a ⟨#[123]⟩ U _) ?_);rintro e f ⟨rfl,rfl⟩))
    go_loopw [5,7] (λx i wq=>∃k n:Nat,k<=16/\i=Â Ä k/\x=Ê (jC<|lh s t j++mQ x1 x2 y1 y2 j++n7 s t j k)/\wq=b.drewN n) λ_ i _=>16-(î i).toNat
    case atStart=>exact⟨0,_,Û _,U,by simp[mQ,n7,T.out.1,T.out.2],by first|rfl|exact ñ _ _ _⟩
    case round=>
     obtain⟨k,n,o,rfl,rfl,h⟩:=hrel;have V:=eZ h;by_cases r:k<16
     .let⟨D,E⟩:=g.out.1 k r;have c1:wr.cell? ⟨vb,16+j*16+k,Å⟩=Ã (Â Ü<|(s j).r k):=by rwa[h]
      have c2:wr.cell? ⟨vb+1,16+j*16+k,Å⟩=Ã (Â Ü<|(t j).r k):=by rwa[h]
      have F:=(g.out.2.r<|acv a x1 x2 y1 y2).r<|UX (s:=s) (t:=t) a k o;have c:=Na s t j k;unfold Dk at c;have X:=acu r;generalize(s j).r k=z1 at*;generalize(t j).r k=z2 at*;have r0:(0:Int)<=k:=Z
      have r1:Ä.wrap ((k:Int)+1)=(k:Int)+1:=IntWalk.i64_in _ ⟨Z,Z⟩;have r2:(k:Int)<=(k:Int)+1:=Z
      have r3:(k:Int)+1<=16:=Z
      have r4:(0:Int)<=(k:Int)+1:=Z
      have r5:((k:Int)+1).toNat=k+1:=Z
      have a3:¬9223372036854775807<(lb j).size+(min (k+1) 16-k):=by rw[FU a];omega
      by_cases d:z1=z2
      .rw[if_pos d,Þ]at c;have d3:(z1==z2)=Î:=beq_iff_eq.2 d;have G:=eZ c;clear c d D E F h;go_wp2;go_quiet (fail);go_wp2;go_roundw
       case rel=>exact⟨k+1,n+_,r,by go_num,by rw[G.out],by rw[V.out,ñ]⟩
       case measure=>simp[î];omega
      .rw[if_neg d]at c;have d3:(z1==z2)=È:=beq_eq_false_iff_ne.2 d;have C:=λW=>P2.C F Z a (uA k) X W;rw[show lh s t j++mQ x1 x2 y1 y2 j++n7 s t j k++[lb j++uA k]=lh s t j++mQ x1 x2 y1 y2 j++n7 s t j (k+1) by rw[c];simp]at C;obtain⟨js',H⟩:∃x,jC (lh s t j++mQ x1 x2 y1 y2 j++n7 s t j (k+1))=x:=⟨_,U⟩;rw[H]at C;have G:=eZ H;clear c d D E F h X H;generalize jC (lh s t j++mQ x1 x2 y1 y2 j++n7 s t j k)=js at C|-;unfold uA at C;have HC:=eZ C;clear C;go_wp2;go_quiet (fail);go_wp2;go_quiet ((first
        |(go_at_call 143;exact acy<|NM _ a _)
        |(go_at_call 142;exact acy (HC.out _))))
       go_wp2;go_roundw
       case rel=>exact⟨k+1,n+_,r,by go_num,by rw[G.out],by rw[V.out,ñ]⟩
       case measure=>simp[î];omega
     .obtain rfl:k=16:=Z
      go_wp2;go_roundw
      case rel=>exact⟨j+1,m+n,a,by go_num,by rw[HH.out],by rw[HW.out,ñ]⟩
      case measure=>simp[î];omega
  .obtain rfl:j=8:=Z
   go_wp2;go_ret;exact⟨U,y.out.2.2.fj<|fc.jh _ _ _⟩
end
def arQ(l:List Nat):(oJ l).length=l.length/2:=by simp[oJ]
def arR{l:List Nat}{t:Nat}(h:t<l.length/2):jw ((oJ l).take<|t+1)=jw ((oJ l).take t)++[Â Ü<|pr l t]:=by rw[ê];simp[jw,oJ,ė h]
theorem UZ{l:List Nat}(h:ie 36 (Ç O n i) l.length (jw l) w)(a:j<l.length):∃b o,O=Ã ⟨b,o,Å⟩/\w.cell? ⟨b,o+j,Å⟩=Ã (Â Ü<|l.getD j 0):=by let⟨_,_,e,_,c⟩:=h;cases e;let⟨b,o,d,_,f⟩:=c j (Â Ü<|l.getD j 0) (by simp[jw,ċ,a]);grind
def acA{l:List Nat}(k:Nat)(h:ie 36 (Ç O n m) l.length (jw l) w)(g:l.length=2^k)(G:k<=4)(C:vM l):ë Á 140 #[Ç O n m] w λe u=>e=Ñ (Â Ü<|oK k l)/\fc fh w u:=by
 obtain rfl:n=l.length:=by let⟨_,_,e,_⟩:=h;cases e;rfl
 generalize D:oK k l=r;go_enter Tryz.func140,Tryz.ntmps140;go_wp2;go_loopw [0] (λv wr=>∃(k:Nat) (l:List Nat) (O:Option ś) (m:Nat),v=Ç O l.length m/\ie 36 (Ç O l.length m) l.length (jw l) wr/\l.length=2^k/\k<=4/\vM l/\oK k l=r/\fc fh w wr) (λv _=>match v with|Ç _ n _=>n|_=>0)
 case atStart=>exact⟨k,l,O,m,U,h,g,G,C,D,fc.fV _ _⟩
 case round=>
  clear h g G C D;obtain⟨k,l,O,m,rfl,h,g,G,C,D,L⟩:=hrel;obtain⟨N,I⟩:∃N,l.length=N:=⟨_,U⟩;have H:=eZ<|À h<|À C<|À D<|À L I;rw[I]at g|-;clear h C D L I;cases k with
  |zero=>
   obtain rfl:N=1:=g;obtain⟨b,o,rfl,s⟩:=UZ (j:=0) H.out.1 (by rw[H.out.2.2.2.2];decide);rw[show l.getD 0 0=r from H.out.2.2.1]at s;have Xh:wr.cell? ⟨b,o,Å⟩=Ã (Â Ü r):=s;clear s;go_wp2;go_ret;exact⟨U,H.out.2.2.2.1⟩
  |succ k=>
   have P:N=2*2^k:=by rw[g,Ť];omega
   have h3:0<2^k:=Nat.two_pow_pos k;have h4:2^k<=8:=by
    have:k<=3:=Z
    exact Nat.pow_le_pow_right A this
   generalize Q:2^k=M at*;have h5:(1:Int)<(N:Int):=Z
   have f:=eZ<|À P Q;clear g P Q;obtain⟨F,rfl⟩:∃F,F=wr:=⟨_,U⟩;go_wp2;go_loopw [3,4] (λv i wq=>∃(t x:Nat) (q:Option ś) (c:Nat),t<=M/\x=2*t/\v=Ç q t c/\i=Â Ä x/\MK F 36 1 (Ç q t c) t (jw<|(oJ l).take t) wq) λ_ i _=>2*M-(î i).toNat
   case atStart=>exact⟨0,0,Å,0,Û _,U,U,U,MK.C F⟩
   case round=>
    obtain⟨t,x,q,c,ht,E,rfl,rfl,B⟩:=hrel;have S:=eZ E;have hx9:x<=16:=Z
    by_cases gE:t<M
    .have h6:(x:Int)+1<(N:Int):=by rw[f.out.1];omega
     obtain⟨b,o,rfl,s⟩:=UZ (j:=2*t) H.out.1 (by rw[H.out.2.2.2.2,f.out.1];omega);let⟨b',o',e,T⟩:=UZ (j:=2*t+1) H.out.1 (by rw[H.out.2.2.2.2,f.out.1];omega);cases e;have V:=H.out.2.1<|2*t;have X:=H.out.2.1<|2*t+1;have Y:=arR (l:=l) (t:=t) (by rw[H.out.2.2.2.2,f.out.1];omega);have J:=λa=>JO 14695981039346656037 (l.getD (2*t) 0) A V a;have hlf:=AX<|l.getD (2*t) 0;have K:=λa=>JO (lf<|l.getD (2*t) 0) (l.getD (2*t+1) 0) hlf X a;rw[show ny 14695981039346656037 (l.getD (2*t) 0)=lf (l.getD (2*t) 0)from U]at J;rw[show ny (lf<|l.getD (2*t) 0) (l.getD (2*t+1) 0)=pr l t from rfl]at K;have c1:wr.cell? ⟨b,o+x,Å⟩=Ã (Â Ü<|l.getD (2*t) 0):=by rw[E];exact B.r.r s id
     have c2:wr.cell? ⟨b,o+(x+1),Å⟩=Ã (Â Ü<|l.getD (2*t+1) 0):=by rw[E];exact B.r.r T id
     have d:=eZ<|À B Y;clear B Y s T V X hlf E;generalize pr l t=z at*;generalize lf (l.getD (2*t) 0)=y at*;generalize l.getD (2*t) 0=a1 at*;generalize l.getD (2*t+1) 0=a2 at*;have HC:=eZ<|À J K;clear J K;go_wp2_with (first
      |(go_at_call 139;(first|with_reducible refine Ú (HC.out.1 _) ?_|with_reducible refine Ú (HC.out.2 _) ?_);rintro e u ⟨rfl,rfl⟩)
      |(at_builtin;refine UR Tz Ķ (d.out.1.fE kp) Z U ?_ (Ŧ _ _ _) (by simp[ß]) U U U U U U;intro ta tc W hM1;have JQ:=eZ hM1;clear hM1))
     go_roundw
     case rel=>exact⟨t+1,x+2,ta,tc,gE,by rw[S.out];omega,U,by go_num,by rw[d.out.2];exact JQ.out⟩
     case measure=>simp[î];have:=S.out;omega
    .obtain rfl:t=M:=Z
     have h6:decide ((x:Int)+1<(N:Int))=È:=by rw[f.out.1];simp;omega
     have hh:(oJ l).length=t:=by rw[arQ,H.out.2.2.2.2,f.out.1];omega
     have d:=eZ<|À B hh;clear B hh E;go_wp2;go_roundw
     case rel=>exact⟨k,oJ l,q,c,by rw[d.out.2],by have:=d.out.1.I;rw[á (by rw[d.out.2];exact Ù _)]at this;rw[d.out.2];exact this,by rw[d.out.2];exact f.out.2.symm,Z,TJ l,H.out.2.2.1,H.out.2.2.2.1.fj d.out.1.r⟩
     case measure=>simp;have:=f.out.1;omega
def acB{l:List Nat}(h:l[k]?=Ã i):jw (l.take<|k+1)=jw (l.take k)++[Â Ü i]:=by rw[ê,h];simp[jw]
def arS(z:Nat)(h:n<B.size):tb (qS z<|B.data.toList.take n) B[n].toNat=qS z (B.data.toList.take<|n+1):=by rw[ê,ĥ,õ (show n<B.data.size from h)];unfold qS;rw[Ğ,Ģ,ż,Γ,Ą]
def arT(z:Nat):qS z []=z:=rfl
theorem arU{s:St}(hf:iZ s):ë Á 89 #[ý (iH s).toArray] w λe u=>e=Ñ (Â Ü<|AZ s)/\fc fh w u:=by
 have hS:=fq.N w (iH s) 121;have k0:=fc.iw fh w (iH s).toArray 121;unfold AZ Ja;have hD:∀j,j<8->(pI (λi=>AY<|s i) 8)[j]?=Ã (AY<|s j):=λj M=>by rw[TM _ _ _ M,if_pos M]
 have hlen:=FB (λi=>AY<|s i) 8;have vd:vM (pI (λi=>AY<|s i) 8):=Fz A λx N=>by
  obtain⟨t,G,rfl⟩:=ö.1 N;simp only;split
  .exact TN _ _ _
  .decide
 generalize pI (λi=>AY<|s i) 8=L at*;have b:=eZ<|À hS<|À k0<|À hD<|À hlen<|À vd hf;clear hS k0 hD hlen vd hf;generalize hr:oK 3 L=r;have HR:=eZ hr;clear hr;go_enter Tryz.func89,Tryz.ntmps89;go_wp2_with (with_reducible refine Ø U (Ã 1) U _ _ (sV U U) ?_);generalize w.alloc (Ó (iH s).toArray 121)=wa at*;generalize w.heap.size=vb at*;go_loopw [3,4] (λv i wr=>∃(j:Nat) (q:Option ś) (c:Nat),j<=8/\v=Ç q j c/\i=Â Ä j/\MK wa 36 1 (Ç q j c) j (jw<|L.take j) wr) λ_ i _=>8-(î i).toNat
 case atStart=>exact⟨0,Å,0,Û _,U,U,MK.C wa⟩
 case round=>
  obtain⟨j,q,c,M,rfl,rfl,g⟩:=hrel;obtain⟨B,rfl⟩:∃B,B=wr:=⟨_,U⟩;have H:=eZ g;clear g;by_cases I:j<8
  .have J:∀i,i<144->B.cell? ⟨vb,i,Å⟩=Ã (oc s i):=λi hi=>H.out.r.r (b.out.1.r i _<|zu s hi) id;have O:=J j Z;have q1:=J (8+j) Z;rw[FV I]at O;rw[NP I]at q1;have sl:∀k,k<16->B.cell? ⟨vb,16+j*16+k,Å⟩=Ã (Â Ü (((s j).r k).toNat:Nat)):=λk o=>by
    have:=J (16+j*16+k) Z;rw[NQ o]at this;rw[this];have:=(b.out.2.2.2.2.2.C j k).1;grind
   obtain⟨f,Q⟩:∃f:Nat,(s j).ft=f:=⟨(s j).ft.toNat,by have:=(b.out.2.2.2.2.2.ft j).1;omega⟩;have arV:f<18446744073709551616:=by have:=(b.out.2.2.2.2.2.ft j).2;omega
   have D:=b.out.2.2.1 j I;rw[show AY (s j)=qS (ny (lf (s j).ft.toNat)<|oK 4<|nZ (vN<|s j) 16) (s j).C.data.toList from rfl,Q,ò]at D;rw[Q]at O;have hSg:∀k,k<16->(nZ (vN<|s j) 16)[k]?=Ã (lf ((s j).r k).toNat):=λk o=>by rw[TL _ _ _ o,if_pos o];simp[vN,ċ,ė o]
   have V:=FA (vN<|s j) 16;have X:vM (nZ (vN<|s j) 16):=Fz A λx N=>by
    obtain⟨t,G,rfl⟩:=ö.1 N;split
    .exact AX _
    .decide
   have NR:∀k,((s j).r k).toNat<18446744073709551616:=λk=>by have h1:=(b.out.2.2.2.2.2.C j k).1;have h2:=(b.out.2.2.2.2.2.C j k).2;omega
   have auG:=(b.out.2.2.2.2.2.I j).1;generalize nZ (vN<|s j) 16=S at*;generalize(s j).C=P at*;have Y:=λa=>JO 14695981039346656037 f A arV a;rw[show ny 14695981039346656037 f=lf f from rfl]at Y;have C1:=λa=>JO (lf f) (oK 4 S) (AX f) (M6 4 S X) a;have C5:=Dg (lf f) (oK 4 S)<|AX f;generalize lf f=z0 at*;have CP:=λa p n cp (h:ie 36 (Ç p n cp) S.length (jw S) a)=>acA 4 h V A X;generalize oK 4 S=T at*;generalize ny z0 T=z1 at*;have m:=eZ<|À sl<|À hSg<|À V<|À NR<|À Y<|À C1<|À CP<|À D C5;clear J sl hSg V X NR Y C1 CP D C5 Q;have arW:(j:Int)<8:=Z
   have hd8:decide ((j:Int)<8)=Î:=decide_eq_true arW;go_wp2;try rw[hd8]
   go_loopw [5,6] (λv i wq=>∃(k:Nat) (q:Option ś) (c:Nat),k<=16/\v=Ç q k c/\i=Â Ä k/\MK B 36 1 (Ç q k c) k (jw<|S.take k) wq) λ_ i _=>16-(î i).toNat
   case atStart=>exact⟨0,Å,0,Û _,U,U,MK.C B⟩
   case round=>
    obtain⟨k,q2,c2,o,rfl,rfl,g⟩:=hrel;by_cases U0:k<16
    .have d1:=g.r.r (m.out.1 k U0) id;have G:=acB<|m.out.2.1 k U0;have C:=λa=>JO 14695981039346656037 ((s j).r k).toNat A (m.out.2.2.2.1 k) a;rw[show ny 14695981039346656037 ((s j).r k).toNat=lf ((s j).r k).toNat from rfl]at C;have E:=eZ<|À g G;clear g G;generalize lf ((s j).r k).toNat=y at*;generalize((s j).r k).toNat=a1 at*;have HK:=eZ C;clear C;go_wp2_with (first
      |(go_at_call 139;with_reducible refine Ú (HK.out _) ?_;rintro e u ⟨rfl,rfl⟩)
      |(at_builtin;refine UR Tz Ķ (E.out.1.fE kp) Z U ?_ (Ŧ _ _ _) (by simp[ß]) U U U U U U;intro ta tc W F;have JQ:=eZ F;clear F))
     go_roundw
     case rel=>exact⟨k+1,ta,tc,U0,U,by go_num,by rw[E.out.2];exact JQ.out⟩
     case measure=>simp[î];omega
    .obtain rfl:k=16:=Z
     have d1:=g.r.r O id;have CQ:=m.out.2.2.2.2.2.2.1 wr q2 16 c2 (by have:=g.I;rw[á (by rw[m.out.2.2.1];decide)]at this;rw[m.out.2.2.1];exact this);have E:=eZ<|À g CQ;clear g CQ;go_wp2_with (first
      |(go_at_call 139;(first|with_reducible refine Ú (m.out.2.2.2.2.1 _) ?_|with_reducible refine Ú (m.out.2.2.2.2.2.1 _) ?_);rintro e u ⟨rfl,hw⟩;subst u)
      |(go_at_call 140;refine Ú E.out.2 ?_;rintro e w5 ⟨rfl,hk5⟩;have d5:=(E.out.1.r.fj hk5).r q1 id;have H5:=eZ hk5;clear hk5))
     go_loop [8,9] (λd i=>∃k:Nat,k<=P.size/\i=Â Ä k/\d=Â Ü (qS z1<|P.data.toList.take k)) λ_ i=>P.size-(î i).toNat
     case atStart=>exact⟨0,Û _,U,by rw[List.take_zero,arT]⟩
     case round=>
      obtain⟨n,hn,rfl,rfl⟩:=hrel;by_cases FD:n<P.size
      .have K:=acf (qS z1<|P.data.toList.take n) P[n].toNat (aay _ _ m.out.2.2.2.2.2.2.2.2) (by have:=P[n].toNat_lt;omega) w5;rw[arS z1 FD]at K;obtain⟨y',Bu⟩:∃y,qS z1 (P.data.toList.take<|n+1)=y:=⟨_,U⟩;rw[Bu]at K;have HY:=eZ<|À Bu K;clear Bu K;generalize qS z1 (P.data.toList.take n)=x at*;have xu:((P[n].toNat:Nat):Int)<256:=by have:=P[n].toNat_lt;omega
       have hcw:Ü.wrap ((P[n].toNat:Nat):Int)=((P[n].toNat:Nat):Int):=AT Z Z;go_wp2_with (go_at_call 141;with_reducible apply Ú HY.out.2;rintro e u ⟨rfl,hw⟩;subst u);go_round
       case rel=>exact⟨n+1,FD,by go_num,by rw[HY.out.1]⟩
       case measure=>simp[î];omega
      .obtain rfl:n=P.size:=Z
       rw[(á<|by rw[Ċ];exact Ù _)];have D:=acB m.out.2.2.2.2.2.2.2.1;generalize qS z1 P.data.toList=z at*;have HZ:=eZ<|À D<|H.out.fE<|E.out.1.r.fj H5.out;clear D;go_wp2_with (at_builtin;refine UR Tz Ķ (HZ.out.2.fE kp) Z U ?_ (Ŧ _ _ _) (by simp[ß]) U U U U U U;intro ta tc W F;have JQ:=eZ F;clear F);go_roundw
       case rel=>exact⟨j+1,ta,tc,I,U,by go_num,by rw[HZ.out.1];exact JQ.out⟩
       case measure=>simp[î];omega
  .obtain rfl:j=8:=Z
   have C:=acA (l:=L) 3 (by have:=H.out.I;rw[á (by rw[b.out.2.2.2.1];decide)]at this;rw[b.out.2.2.2.1];exact this) b.out.2.2.2.1 A b.out.2.2.2.2.1;rw[HR.out]at C;go_wp2_with (go_at_call 140;apply Ú C;rintro e u ⟨rfl,o⟩);go_ret;exact⟨U,(b.out.2.1.fj H.out.r).fj o⟩
abbrev VR:=fM×Value×Value×Value
def gJ(p:VR):List Ì:=zv p.1 p.2.1 p.2.2.1 p.2.2.2
def uK(a:List VR):List Ì:=a.flatMap gJ
structure wh(p:VR)(w:Ý):Prop where
 C:ie 236 p.2.1 p.1.C.length (oH p.1.C) w
 I:ie 4 p.2.2.1 p.1.r.length (uJ p.1.r) w
 r:ie 3 p.2.2.2 p.1.r.length (uI p.1.r) w
structure RA(y:Nat)(av:Ì)(ps:List VR)(w:Ý):Prop where
 r:fq y [av] 81 w
 fg:w.ownsRow 0 126 148 av ps.length (uK ps)
 C:∀p∈ps,wh p w
section
variable{w':Ý}{y:Nat}{av:Ì}{ps:List VR}
def wh.fE{p:VR}(h:wh p w)(k:fc fh w w'):wh p w':=⟨h.C.fE k,h.I.fE k,h.r.fE k⟩
def RA.fE(h:RA y av ps w)(k:fc fh w w'):RA y av ps w':=⟨h.r.C k id,im h.fg k λ_ _=>id,λp q=>(h.C p q).fE k⟩
def acC:∀(ps:List VR) (i j:Nat) (p:VR) (x:Ì),ps[i]?=Ã p->(gJ p)[j]?=Ã x->(uK ps)[i*148+j]?=Ã x
 |[],i,j,p,x,h,_=>by cases h
 |q::r,0,j,p,x,h,hx=>by cases h;rwa[Ĳ,Ĕ,uK,ù,Ö (Ò.1 hx).1]
 |q::r,i+1,j,p,x,h,hx=>by have a:(gJ q).length=148:=lW _ _ _ _;rw[uK,ù,å (by rw[a];omega),a,show(i+1)*148+j-148=i*148+j by omega];exact acC r i j p x h hx
theorem RA.I(h:RA y av ps w){p:VR}(a:ps[i]?=Ã p):∃b c,av=Ç (Ã ⟨b,0,Å⟩) ps.length c/\∀j x,(gJ p)[j]?=Ã x->w.cell? ⟨b,i*148+j,Å⟩=Ã x:=by
 obtain⟨_,⟨f,k⟩|⟨g,d,l,rfl,_⟩⟩:=id h.fg
 .grind
 .refine⟨g,d,U,λj x e=> ?_⟩;have:=h.fg.cells (g:=g) U _ _<|acC ps i j p x a e;rwa[ň,Ĕ]at this
def pj(vs:List fM):Nat->Nat
 |0=>0
 |n+1=>if(vs.getD (pj vs n) iR).h<(vs.getD n iR).h then n else pj vs n
def r7(vs:List fM)(v:Int):Int:=if(vs.length:Int)<=v then-1 else if 0<=v then v else pj vs vs.length
def U1{vs:List fM}(h:0<vs.length):∀n,n<=vs.length->pj vs n<vs.length
 |0,_=>h
 |n+1,hn=>by
  unfold pj;split
  .omega
  .exact U1 h n Z
def arX(h:RA y av ps w)(k:0<ps.length)(I:ps.length<=40)(J:∀p∈ps,0<=p.1.h/\p.1.h<=40)(v:Int)(P:-1<=v)(Q:v<=1000000):ë Á 82 #[Æ<|Ã ⟨y,0,Å⟩,Â Ä v] w λe w'=>e=Ñ (Â Ä (r7 (ps.map (·.1)) v))/\∃n,w'=w.drewN n:=by
 have z:=h.r.r 0 _ U;obtain⟨b,c,rfl,_⟩:=h.I (i:=0)<|Í k;have l:∀i,i<ps.length->w.cell? ⟨b,i*148+144,Å⟩=Ã (Â Ä ((ps.map (·.1)).getD i iR).h):=λi B=>by let⟨S,T,e,o⟩:=h.I<|Í B;cases e;rw[show((ps.map (·.1)).getD i iR).h=ps[i].1.h by simp[ċ,B]];exact o 144 _<|rZ 0 U
 have f:(ps.map (·.1)).length=ps.length:=Ĭ _;have g:=λn (q:n<=ps.length)=>U1 (vs:=ps.map (·.1)) (by rwa[f]) n (by rwa[f]);unfold r7;rw[f];obtain⟨N,C⟩:∃N,ps.length=N:=⟨_,U⟩;rw[C]at z k I f|-;simp only[C]at l g;rw[f]at g;generalize ps.map (·.1)=vs at*;have s:=eZ<|À l g;clear l g h J;by_cases D:(N:Int)<=v
 .rw[if_pos D];go_enter ų,ŧ;go_wp2;go_ret;exact⟨U,0,U⟩
 .rw[if_neg D];by_cases E:0<=v
  .rw[if_pos E];go_enter ų,ŧ;go_wp2;go_ret;exact⟨U,0,U⟩
  .rw[if_neg E];generalize F:pj vs N=r;have K:=eZ F;clear F;go_enter ų,ŧ;go_wp2;go_loopw [5,6] (λx i wr=>∃j m:Nat,j<=N/\i=Â Ä j/\x=Â Ä (pj vs j)/\wr=w.drewN m) λ_ i _=>N-(î i).toNat
   case atStart=>exact⟨0,0,Û _,U,U,U⟩
   case round=>
    obtain⟨j,m,L,rfl,rfl,a⟩:=hrel;have V:wr.cell? ⟨y,0,Å⟩=Ã (Ç (Ã ⟨b,0,Å⟩) N c):=by rwa[a]
    have G:=eZ a;by_cases t:j<N
    .have W:wr.cell? ⟨b,j*148+144,Å⟩=Ã (Â Ä (vs.getD j iR).h):=by rw[a];exact s.out.1 j t
     have M:=s.out.2 j L;have X:wr.cell? ⟨b,pj vs j*148+144,Å⟩=Ã (Â Ä (vs.getD (pj vs j) iR).h):=by rw[a];exact s.out.1 _ M
     have d:pj vs (j+1)=if(vs.getD (pj vs j) iR).h<(vs.getD j iR).h then j else pj vs j:=U
     generalize(vs.getD j iR).h=o at*;generalize(vs.getD (pj vs j) iR).h=h2 at*;by_cases H:h2<o
     .rw[if_pos H]at d;have u:=eZ d;clear d a;generalize pj vs j=q at*;go_wp2;go_quiet (fail);go_wp2;go_roundw
      case rel=>exact⟨j+1,m+_,t,by go_num,by rw[u.out],by rw[G.out,ñ]⟩
      case measure=>simp[î];omega
     .rw[if_neg H]at d;have u:=eZ d;clear d a;generalize pj vs j=q at*;go_wp2;go_quiet (fail);go_wp2;go_roundw
      case rel=>exact⟨j+1,m+_,t,by go_num,by rw[u.out],by rw[G.out,ñ]⟩
      case measure=>simp[î];omega
    .obtain rfl:j=N:=Z
     have O:=eZ<|K.out;go_wp2;go_ret;exact⟨by rw[<-O.out];rfl,m,U⟩
end
end Go.Proofs.Y.gu
namespace Go.Proofs.Y.lB
open Go Go.Proofs Go.RowKit Go.Proofs.Y.Lift Go.Proofs.Y.gu
abbrev RS:=Nat×Bool
def iP(B:ByteArray)(E:RS):Option Int:=if E.2 then Å else(gN B)[E.1]?
def fS(B:ByteArray)(E:RS)(L:List Int):Nat×RS:=match iP B E with
 |some c=>if c∈L then(L.idxOf c,E.1+1,È)else(0,E.1,Î)
 |none=>(0,E.1,Î)
def mW(B:ByteArray):Nat->Int->RS->Int×RS
 |0,n,E=>(n,E)
 |m+1,n,E=>match iP B E with
  |some c=>if 0<n/\iT c=Î then mW B m (10*n+(c-48)) (E.1+1,È)else(n,E)
  |none=>(n,E)
def uL:List Int:=[48,49,50,51,52,53,54,55,56,57]
def j0:List Int:=[97,98,99,100,101,102,103,104]
def Bh:List Int:=uL++[97,98,99,100,101,102]
def pN(B:ByteArray)(m:Nat)(E:RS):Int×RS:=mW B m (fS B E uL).1 (fS B E uL).2
def Bj(B:ByteArray)(E:RS):Int×RS:=if iP B E=Ã 104 then(-1,E.1+1,E.2)else pN B 1 E
def jD(B:ByteArray)(w:Int)(E:RS):Int×RS:=
 if w=86\/w=87 then Bj B E else if w=110\/w=107 then pN B 5 E
 else if w=120\/w=121 then((fS B E j0).1,(fS B E j0).2)else if w=115 then((fS B E Bh).1,(fS B E Bh).2)else(0,(fS B E [w]).2)
def mX(c:List Int)(w z:Int):List Int:=
 if w=86 then c.set 5 z else if w=87 then c.set 6 z else if w=120 then c.set 0 z else if w=121 then c.set 1 z
 else if w=110 then c.set 2 z else if w=107 then c.set 3 z else if w=115 then c.set 7 z else c
def mY(B:ByteArray):List Int->List Int->RS->List Int×RS
 |[],c,E=>(c,E)
 |w::tl,c,E=>mY B tl (mX c w (jD B w E).1) (jD B w E).2
def lX(B:ByteArray):Nat->RS->RS
 |0,E=>E
 |n+1,E=>match iP B E with
  |some c=>if mD c=0 then E else lX B n (E.1+1,È)
  |none=>E
def zw(B:ByteArray)(x:Int)(k:Nat)(E:RS):PT×RS:=
 if k=1 then(⟨[x,0,0,0,2],B.extract E.1 (lX B 40 E).1⟩,(fS B (lX B 40 E) [125]).2)
 else(⟨(mY B (pL<|k+1) [x,0,0,0,(k+1:Nat)] E).1,⟨#[]⟩⟩,(mY B (pL<|k+1) [x,0,0,0,(k+1:Nat)] E).2)
def lL(B:ByteArray)(E:RS):PT×RS:=zw B (jD B 120 E).1 (fS B (jD B 120 E).2 [62,123,58]).1 (fS B (jD B 120 E).2 [62,123,58]).2
def mZ(B:ByteArray):Nat->List PT->RS->List PT×RS
 |0,ts,E=>(ts,E)
 |n+1,ts,E=>if E.2 then(ts,E)else if iP B (lL B E).2=Ã 44/\n≠0 then mZ B n (ts++[(lL B E).1]) (fS B (lL B E).2 [44]).2 else(ts++[(lL B E).1],(lL B E).2)
def pO(k:Nat):List Int:=(sZ<|k+1).filter (· ≠66)
def Bl(B:ByteArray)(k:Nat)(s:List Int×RS):PR×RS:=
 if k≠0\/s.2.2\/s.2.1=B.size\/iP B s.2=Ã 59 then(⟨s.1,[]⟩,s.2)else(⟨s.1,(mZ B 8 [] s.2).1⟩,(mZ B 8 [] s.2).2)
def kV:List Int:=[105,103,98,99,109,114,108,117,100]
def kX(B:ByteArray)(E:RS):PR×RS:=
 if(fS B E kV).2.2 then(PD.uE 1,(fS B E kV).2)else Bl B (fS B E kV).1 (mY B (pO (fS B E kV).1) (PD.uE ((fS B E kV).1+1:Nat)).c (fS B E kV).2)
def xI(B:ByteArray):Nat->Nat->List PR->List PR×Int
 |0,a,_=>([],a)
 |n+1,a,l=>if(kX B (a,È)).2.2 then([],(kX B (a,È)).2.1)else if(kX B (a,È)).2.1=B.size then(l++[(kX B (a,È)).1],-1)
  else if iP B (kX B (a,È)).2=Ã 59/\n≠0 then xI B n ((kX B (a,È)).2.1+1) (l++[(kX B (a,È)).1])else([],(kX B (a,È)).2.1)
def xK(B:ByteArray):List PR×Int:=if B.size=0 then([],-1)else xI B 24 0 []
def pR(B:ByteArray)(k:Nat)(st:PS):Nat×PS:=qp B (B.size-k) k st
section
variable{a:Nat}{st:PS}{tl r:List Int}{d:PD}{E:RS}
def xL:(gN B)[k]?=if h:k<B.size then Ã (B[k].toNat:Int)else Å:=by
 split
 .rename_i h;have a:k<(gN B).length:=by rwa[FF]
  rw[Í a];simp[gN,Ą]
 .exact ā<|by rw[FF];omega
def Bm(h:(gN B)[k]?=Å):pR B k st=(k,st):=by
 have:¬k<B.size:=by rw[xL]at h;split at h;cases h;assumption
 unfold pR;rw[show B.size-k=0 by omega];rfl
theorem uM(h:(gN B)[k]?=Ã c):k<B.size/\pR B k st=match qo B k st c with
 |none=>(k,st)
 |some s=>pR B (k+1) s:=by
 rw[xL]at h;split at h
 .rename_i a;cases h;refine⟨a,?_⟩;unfold pR;rw[show B.size-k=(B.size-(k+1))+1 by omega,qp,dif_pos a];grind
 .cases h
def Nd(B:ByteArray)(a:Nat)(st:PS):Prop:=∀c,(gN B)[a]?=Ã c->¬(0<st.r/\iT c=Î)
structure oe(B:ByteArray)(a:Nat)(r:List Int)(d:PD)(st:PS):Prop where
 C:st.C=r
 d:st.d=d
 M:Nd B a st
def xM(B:ByteArray)(a:Nat)(st:PS)(b:Nat):Prop:=∃s,pR B a st=(b,s)/\(b<B.size\/∃h tl,s.C=h::tl/\h≠66)
def Gs(B:ByteArray)(a:Nat)(st:PS)(E:RS)(r:List Int)(d:PD):Prop:=if E.2 then xM B a st E.1 else∃s,oe B E.1 r d s/\pR B a st=pR B E.1 s
def oe.I(h:oe B a r d st)(b:(gN B)[a]?=Ã c):pR B a st=match jH B a {st with r:=0} c with
 |none=>(a,st)
 |some s=>pR B (a+1) s:=by
 rw[(uM b).2,qo,if_neg<|h.M c b]
def PD.tw(d:PD)(c:List Int):PD:=if d.C then{d with N:={d.N with c:=c}}else{d with M:={d.M with c:=c}}
def PD.gC(d:PD):List Int:=if d.C then d.N.c else d.M.c
def JR(c:List Int):(d.tw c).C=d.C:=by unfold PD.tw;split<;>rfl
def NS(c:List Int):(d.tw c).gC=c:=by unfold PD.gC;rw[JR];unfold PD.tw;split<;>rfl
def acD(c a:List Int):(d.tw c).tw a=d.tw a:=by let⟨_,_,_,t,_⟩:=d;cases t<;>rfl
def arY:d.tw d.gC=d:=by let⟨_,_,_,t,_⟩:=d;cases t<;>rfl
def tx(a:Bool):List Int:=if a then[120,121,110,107,61,40,44,41]else[86,87,120,121,110,107,115,58,62,40,44,41,47]
def U2(a:h∈tx d.C)(z:Int):d.fO h z=d.tw (mX d.gC h z):=by
 let⟨_,_,_,t,_⟩:=d;cases t
 .revert a;simp only[tx,Ô,if_false,Ĩ,Ħ,or_false];rintro(rfl|rfl|rfl|rfl|rfl|rfl|rfl|rfl|rfl|rfl|rfl|rfl|rfl)<;>rfl
 .revert a;simp only[tx,if_true,Ĩ,Ħ,or_false];rintro(rfl|rfl|rfl|rfl|rfl|rfl|rfl|rfl)<;>rfl
def NT(b:oe B a (h::tl) d st)(g:h∈tx d.C)(j:∀c,mF h c=decide (c∈zQ))(k:∀c∈zQ,d.fO h (lk h c)=d.fO h (zQ.idxOf c))(l:∀c,lJ h c=0): Gs B a st (fS B (a,È) zQ).2 tl (d.fO h (fS B (a,È) zQ).1):=by
 have i:h≠82/\h≠66/\h≠84/\h≠80:=by unfold tx at g;cases q:d.C<;>simp[q]at g<;>omega
 unfold fS iP;simp only[Ô,if_false];cases f:(gN B)[a]? with
 |none=>exact⟨st,Bm f,Ð ⟨h,tl,b.C,i.2.1⟩⟩
 |some c=>
  have e:=b.I f;unfold jH at e;simp only[b.C,i,if_false,j]at e;by_cases q:c∈zQ
  .simp only[q,decide_true,if_true]at e|-;refine⟨_,⟨U,?_,λ_ _ z=> ?_⟩,e⟩
   .show st.d.fO h (lk h c)=_;rw[b.d];exact k c q
   .have:(0:Int)<lJ h c:=z.1;rw[l]at this;omega
  .simp only[q,decide_false,Ô,if_false]at e|-;exact⟨st,e,É (uM (st:=st) f).1⟩
end
end Go.Proofs.Y.lB
namespace Go.Proofs.Y.gu
open Go Go.Proofs Go.RowKit Go.Proofs.Y.Lift Go.Proofs.Y.lB
structure oO(b:Nat)(B:ByteArray)(E:RS)(w:Ý):Prop where
 r:fq b [Ê B,Â Ä E.1,ì E.2] 180 w
 C:E.1<=B.size
 I:B.size<=1200
def jS(b:Nat)(B:ByteArray)(E:RS)(w a:Ý):Prop:=oO b B E a/\fc (λk=>k=b) w a
section
variable{L:ByteArray}{E:RS}{w':Ý}
def oO.fE(h:oO b B E w)(k:fc fh w w'):oO b B E w':=⟨h.r.C k id,h.C,h.I⟩
def jS.fE(h:jS b B E w u)(k:fc fh u w'):jS b B E w w':=⟨h.1.fE k,h.2.fj<|k.ff λ_ _=>é⟩
def jS.N{a:RS}(h:jS b B E w u)(k:jS b B a u w'):jS b B a w w':=⟨k.1,h.2.fj k.2⟩
def jS.M(h:jS b B E w u){v:Int}(a:v=E.1+1)(c:E.1<B.size):jS b B (E.1+1,E.2) w (u.setCell ⟨b,1,Å⟩<|Â Ä v):=by subst a;exact⟨⟨h.1.r.fO 1 _,c,h.1.I⟩,h.2.fj<|fc.I (X:=λk=>k=b) (p:=⟨b,1,Å⟩) U _<|Ð h.1.r.S⟩
def jS.arZ(h:jS b B E w u):jS b B (E.1,Î) w (u.setCell ⟨b,2,Å⟩<|ì Î):= ⟨⟨h.1.r.fO 2 _,h.1.C,h.1.I⟩,h.2.fj<|fc.I (X:=λk=>k=b) (p:=⟨b,2,Å⟩) U _<|Ð h.1.r.S⟩
def DJ(h:iP B E=Ã c):E.2=È/\∃b:E.1<B.size,c=(B[E.1].toNat:Int):=by
 let⟨a,t⟩:=E;unfold iP at h;cases t with
 |true=>cases h
 |false=>
  rw[if_neg fp,xL]at h;split at h
  .rename_i b;cases h;exact⟨U,b,U⟩
  .cases h
def zx(h:oO b B E w)(c:Int):ë Á 81 #[Æ<|Ã ⟨b,0,Å⟩,Â ņ c] w λe w'=>e=Ñ (ì<|decide<|iP B E=Ã c)/\∃n,w'=w.drewN n:=by
 let⟨a,t⟩:=E;have i:=h.r.r 0 _ U;have f:=h.r.r 1 _ U;have g:=h.r.r 2 _ U;have j:=h.I;unfold iP;rw[xL];simp only at f g;clear h;cases t
 .by_cases d:a<B.size
  .rw[dif_pos d];go_enter Ŵ,Ũ;go_wp2;go_quiet (fail);go_wp2;go_ret;exact⟨Tq (by rw[ĭ];simp),_,U⟩
  .rw[dif_neg d];go_enter Ŵ,Ũ;go_wp2;go_quiet (fail);go_wp2;go_ret;exact⟨U,_,U⟩
 .go_enter Ŵ,Ũ;go_wp2;go_quiet (fail);go_wp2;go_ret;exact⟨U,_,U⟩
theorem ar0(h:iP B E=Ã c)(a:zQ[j]?=Ã c)(b:c∉zQ.take j):fS B E zQ=(j,E.1+1,È):=by
 have d:j<zQ.length:=(Ò.1 a).1;have e:zQ.idxOf c=j:=by rw[<-ō j zQ,List.idxOf_append,if_neg b,ą d,(Ò.1 a).2,List.idxOf_cons_self];simp;omega
 unfold fS;grind
theorem ar1(h:∀c,iP B E=Ã c->c∉zQ):fS B E zQ=(0,E.1,Î):=by unfold fS;grind
def DK(h:oO b B E w)(p:L.size<=1200):ë Á 131 #[Æ<|Ã ⟨b,0,Å⟩,Ê L] w λe w'=>e=Ñ (Â Ä (fS B E<|gN L).1)/\jS b B (fS B E<|gN L).2 w w':=by
 have q:=h.I;have r:=h.C;go_enter Tryz.func131,Tryz.ntmps131;go_wp2;go_loopw [5] (λi wr=>∃j:Nat,j<=L.size/\i=Â Ä j/\jS b B E w wr/\∀c,iP B E=Ã c->c∉(gN L).take j) λi _=>L.size-(î i).toNat
 case atStart=>exact⟨0,Û _,U,⟨h,fc.fV _ _⟩,λ_ _=>by simp⟩
 case round=>
  obtain⟨j,s,rfl,k,l⟩:=hrel;have H:=eZ<|À k l;clear k l h;by_cases m:j<L.size
  .have f:(gN L)[j]?=Ã (L[j].toNat:Int):=by rw[xL,dif_pos m]
   by_cases d:iP B E=Ã (L[j].toNat:Int)
   .have o:=(DJ d).2.1;have a:=eZ<|À d f;clear d f;go_wp2_with (go_at_call 81;refine(zx H.out.1.1 _).mono ?_;rintro e u ⟨rfl,n,rfl⟩;rw[decide_eq_true a.out.1];have t:=(H.out.1.fE<|fc.jh _ _ n).1.r.r 1 _ U;have x:=(H.out.1.fE<|fc.jh _ _ n).1.r.I 1);go_ret;rw[ar0 a.out.1 a.out.2<|H.out.2 _ a.out.1];have:=(H.out.1.fE<|fc.jh _ _ n).M (v:=(E.1:Int)+1) Z o;rw[(DJ a.out.1).1]at this;exact⟨U,this⟩
   .have a:=eZ<|À d f;clear d f;go_wp2_with (go_at_call 81;refine(zx H.out.1.1 _).mono ?_;rintro e u ⟨rfl,n,rfl⟩;rw[decide_eq_false a.out.1]);go_roundw
    case rel=>exact⟨j+1,m,by go_num,H.out.1.fE<|fc.jh _ _ _,λc g=>by rw[ê,a.out.2];simp only[Ğ,û,í,not_or];exact⟨H.out.2 c g,λe=>a.out.1<|e▸g⟩⟩
    case measure=>simp[î];omega
  .have y:=H.out.1.1.r.r 2 _ U;have z:=H.out.1.1.r.I 2;go_wp2;go_ret;rw[ar1 λc g=>by have:=H.out.2 c g;rwa[á (by rw[FF];omega)]at this];exact⟨U,H.out.1.arZ⟩
end
def acE(c:Int)(w:Ý):ë Á 164 #[Â ņ c] w λe a=>e=Ñ (Â Ä (sU<|mD c).1)/\a=w:=by
 go_enter Tryz.func164,Tryz.ntmps164;go_wp2;all_goals
  go_ret;refine⟨IH ?_,U⟩;simp only[beq_iff_eq,beq_eq_false_iff_ne]at*;first
   |(subst_vars;rfl)
   |(rw[show mD c=0 by simp[mD, *];omega];rfl)
section
variable{S:ByteArray}{E:RS}{x:Int}
def ar2(h:j<S.size):gN (S.extract j<|j+1)=[(S[j].toNat:Int)]:=by unfold gN;rw[Ň,Œ,Ļ,ą (by simpa using h)];simp[Ą]
def Bn(h:oO b B E w)(m:S.size=1)(a:gN S=[x]):ë Á 133 #[Æ<|Ã ⟨b,0,Å⟩,Ê S] w λe u=>e=Ñ (Ď #[])/\jS b B (fS B E [x]).2 w u:=by
 have n:=h.I;have f:gN (S.extract 0 1)=[x]:=by rw[ar2 (j:=0) Z,<-a];have:=vS S Z;rw[a]at this;rw[a,(List.cons.inj this).1]
 have g:(S.extract 0 1).size<=1200:=by rw[ŉ];omega
 have H:=eZ<|À f g;clear f g a;go_enter Tryz.func133,Tryz.ntmps133;go_wp2;go_loopw [4] (λi wr=>(i=Â Ä 0/\jS b B E w wr)\/(i=Â Ä 1/\jS b B (fS B E [x]).2 w wr)) λi _=>1-(î i).toNat
 case atStart=>exact É ⟨U,h,fc.fV _ _⟩
 case round=>
  clear h;rcases hrel with⟨rfl,c⟩|⟨rfl,c⟩
  .have k:=eZ c;clear c;go_wp2_with (go_at_call 131;refine(DK k.out.1 H.out.2).mono ?_;rintro e W ⟨rfl,d⟩;rw[H.out.1]at d;have l:=eZ d;clear d);go_roundw
   case rel=>exact Ð ⟨U,k.out.N l.out⟩
   case measure=>decide
  .go_wp2;go_end0;exact⟨U,c⟩
def JS(h:oO b B E w):ë Á 135 #[Æ<|Ã ⟨b,0,Å⟩] w λe u=>e=Ñ (Â Ä (fS B E j0).1)/\jS b B (fS B E j0).2 w u:=by go_enter Tryz.func135,Tryz.ntmps135;go_wp2_with (go_at_call 131;refine(DK h A).mono ?_;rintro e W ⟨rfl,a⟩);go_ret;exact⟨U,a⟩
def JU:Nat->Int
 |0=>1
 |k+1=>10*JU k
def ar3:∀j:Nat,j<=6->JU j<=1000000:=A
def JV{l:List Int}:(fS B E l).1=0\/(fS B E l).1<l.length:=by
 unfold fS;split
 .split
  .exact Ð<|ĳ ‹_›
  .exact É U
 .exact É U
def JX{t:Bool}{a:Nat}(h:t=Î\/¬0<x\/¬((a:Int)<B.size)\/∃i:a<B.size,¬(48<=(B[a].toNat:Int))\/¬((B[a].toNat:Int)<=57)):mW B m x (a,t)=(x,a,t):=by
 cases m with
 |zero=>rfl
 |succ m=>
  unfold mW;split
  .rename_i c e;obtain⟨d,f,rfl⟩:=DJ e;rw[if_neg];rintro⟨g,b⟩;rw[Ba]at b;rcases h with h|h|h|⟨_,h|h⟩
   .rw[h]at d;cases d
   .exact h g
   .exact h<|by simp only at f;omega
   .exact h b.1
   .exact h b.2
  .rfl
def NU(h:oO b B E w)(M:Nat)(O:M<=5):ë Á 136 #[Æ<|Ã ⟨b,0,Å⟩,Â Ä<|(M:Int)+1] w λe u=>e=Ñ (Â Ä (pN B M E).1)/\jS b B (pN B M E).2 w u:=by
 have P:=h.I;have G:(fS B E uL).1<10:=by
  rcases JV (B:=B) (E:=E) (l:=uL)with e|e
  .omega
  .exact e
 have C:=DK (L:=⟨#[48,49,50,51,52,53,54,55,56,57]⟩) h A;unfold pN;rw[show gN ⟨#[48,49,50,51,52,53,54,55,56,57]⟩=uL from rfl]at C;generalize fS B E uL=q at*;let⟨v,s⟩:=q;go_enter Tryz.func136,Tryz.ntmps136;go_wp2_with (go_at_call 131;apply C.mono;rintro e W ⟨rfl,y⟩);go_loopw [5,6] (λn i wr=>∃(x:Int) (j:Nat) (τ:RS),n=Â Ä x/\i=Â Ä j/\1<=j/\j<=M+1/\jS b B τ w wr/\0<=x/\x<JU j/\mW B M v s=mW B (M+1-j) x τ) λ_ i _=>10-(î i).toNat
 case atStart=>exact⟨v,1,s,U,U,Ù _,Z,y,Z,by show(v:Int)<10;omega,U⟩
 case round=>
  clear y h G C;obtain⟨x,j,⟨a,t⟩,rfl,rfl,Q,S,c,T,V,z⟩:=hrel;have X:=c.1.r.r 0 _ U;have I:=c.1.r.r 1 _ U;have J:=c.1.r.r 2 _ U;have Y:=c.1.r.I 1;have hp:=ar3 j Z;have K:=c.1.C;simp only at I J K;have H:=eZ<|À c z;clear c z;by_cases D:(j:Int)<(M:Int)+1;by_cases f:0<x;cases t;by_cases F:(a:Int)<(B.size:Int);have g:a<B.size:=Z
  by_cases k:48<=(B[a].toNat:Int);by_cases o:(B[a].toNat:Int)<=57
  .have r:mW B (M+1-j) x (a,È)=mW B (M+1-(j+1)) (10*x+((B[a].toNat:Int)-48)) (a+1,È):=by
    rw[show M+1-j=(M+1-(j+1))+1 by omega,mW];have:iP B (a,È)=Ã (B[a].toNat:Int):=by unfold iP;rw[if_neg fp,xL,dif_pos g]
    rw[this];simp only[f,aoP ⟨k,o⟩,and_self,if_true]
   have N:=eZ r;clear r;go_wp2;go_quiet (fail);go_wp2;go_quiet (fail);go_wp2;go_roundw
   case rel=>exact⟨_,j+1,(a+1,È),U,by go_num,Z,Z,jS.M (H.out.1.fE<|fc.jh _ _ _) U g,Z,by rw[show JU (j+1)=10*JU j from rfl];omega,by rw[H.out.2,N.out]⟩
   case measure=>simp[î];omega
  all_goals
   first
    |(have p:=decide_eq_false o;have d:=eZ<|JX (B:=B) (x:=x) (m:=M+1-j) (t:=È)<|Ð<|Ð<|Ð ⟨g,Ð o⟩;clear o)
    |(have p:=decide_eq_false k;have d:=eZ<|JX (B:=B) (x:=x) (m:=M+1-j) (t:=È)<|Ð<|Ð<|Ð ⟨g,É k⟩;clear k)
    |(have p:=decide_eq_false F;have d:=eZ<|JX (B:=B) (x:=x) (m:=M+1-j) (t:=È)<|Ð<|Ð<|É F;have r:¬a<B.size:=by omega)
    |(have p:=decide_eq_false f;have d:=eZ<|JX (B:=B) (x:=x) (m:=M+1-j) (a:=a) (t:=t)<|Ð<|É f;clear f)
    |(have p:=decide_eq_false D;have d:=eZ (show mW B (M+1-j) x (a,t)=(x,a,t) by rw[show M+1-j=0 by omega];rfl);clear D)
    |have d:=eZ<|JX (B:=B) (x:=x) (m:=M+1-j) (a:=a) (t:=Î)<|É U
   go_wp2;go_quiet (fail);go_wp2;go_ret;rw[H.out.2,d.out];exact⟨U,H.out.1.fE<|fc.jh _ _ _⟩
def NV(h:oO b B E w):ë Á 132 #[Æ<|Ã ⟨b,0,Å⟩] w λe u=>e=Ñ (Â Ä (Bj B E).1)/\jS b B (Bj B E).2 w u:=by
 have g:=h.I;have i:=h.C;unfold Bj;by_cases a:iP B E=Ã 104
 .have d:=(DJ a).2.1;rw[if_pos a];have c:=eZ a;clear a;go_enter Χ,Θ;go_wp2_with (go_at_call 81;refine(zx h _).mono ?_;rintro e W ⟨rfl,n,rfl⟩;rw[decide_eq_true c.out];have f:=(h.fE<|fc.jh _ _ n).r.r 1 _ U;have j:=(h.fE<|fc.jh _ _ n).r.I 1);go_ret;exact⟨U,jS.M ⟨h.fE<|fc.jh _ _ n,fc.jh _ _ n⟩ U d⟩
 .rw[if_neg a];have c:=eZ a;clear a;go_enter Χ,Θ;go_wp2_with (first
   |(go_at_call 81;refine(zx h _).mono ?_;rintro e W ⟨rfl,n,rfl⟩;rw[decide_eq_false c.out])
   |(go_at_call 136;refine(NU (h.fE (fc.jh _ _ n)) 1 A).mono ?_;rintro e j ⟨rfl,d⟩;have f:=eZ d;clear d))
  go_ret;exact⟨U,f.out.1,(fc.jh _ _ n).fj f.out.2⟩
def ar4:∀k,k<=22->(0<(sU k).1↔k≠0)/\0<=(sU k).1:=A
def NW{a:Nat}{t:Bool}(h:m=0\/t=Î\/¬((a:Int)<B.size)\/∃f:a<B.size,mD (B[a].toNat:Int)=0):lX B m (a,t)=(a,t):=by
 cases m with
 |zero=>rfl
 |succ m=>
  unfold lX;split
  .rename_i c d;obtain⟨b,e,rfl⟩:=DJ d;rw[if_pos];rcases h with h|h|h|⟨_,h⟩
   .cases h
   .rw[h]at b;cases b
   .exact absurd e<|by simp only;omega
   .exact h
  .rfl
def ar5(h:oO b B E w):ë Á 179 #[Æ<|Ã ⟨b,0,Å⟩] w λe u=>e=Ñ (Ê<|B.extract E.1 (lX B 40 E).1)/\jS b B (fS B (lX B 40 E) [125]).2 w u:=by
 have F:=h.I;have v:=h.C;have g:=h.r.r 1 _ U;let⟨c,t⟩:=E;simp only at g v|-;go_enter Tryz.func179,Tryz.ntmps179;go_wp2;clear g;go_loopg [] 40 (λn wr=>∃a:Nat,n+(a-c)=40/\c<=a/\jS b B (a,t) w wr/\lX B 40 (c,t)=lX B n (a,t))
 case atStart=>exact⟨c,Z,Ù _,⟨h,fc.fV _ _⟩,U⟩
 case round=>
  clear h;let⟨a,k,G,d,o⟩:=hrel;have I:=d.1.r.r 0 _ U;have g:=d.1.r.r 1 _ U;have x:=d.1.r.r 2 _ U;have J:=d.1.r.I 1;have y:=d.1.C;simp only at g x y;have H:=eZ<|À d o;have z:=eZ k;clear d o;have K:(0:Int)<=(a:Int)-(c:Int):=Z
  have L:(a:Int)-(c:Int)<=40:=Z
  cases t;by_cases p:(a:Int)<(B.size:Int);have l:a<B.size:=Z
  by_cases C:(a:Int)-(c:Int)<40;have i:=ar4 _<|al6 (B[a].toNat:Int);by_cases j:0<(sU<|mD (B[a].toNat:Int)).1
  .obtain⟨n,rfl⟩:∃n,gk=n+1:=⟨gk-1,Z⟩;have q:lX B (n+1) (a,È)=lX B n (a+1,È):=by
    have:iP B (a,È)=Ã (B[a].toNat:Int):=by unfold iP;rw[if_neg fp,xL,dif_pos l]
    rw[lX,this];simp only;rw[if_neg<|i.1.1 j]
   have f:=eZ<|H.out.2.trans q;clear q i k;go_wp2;go_quiet ((go_at_call 164;exact è<|acE _ _));go_wp2;go_roundg n
   case measure=>omega
   case rel=>exact⟨a+1,by have:=z.out;omega,Z,jS.M (H.out.1.fE<|fc.jh _ _ _) U l,f.out⟩
  all_goals
   first
    |(have r:=decide_eq_false j;have f:=eZ (NW (m:=gk) (t:=È)<|Ð<|Ð<|Ð ⟨l,ļ λe=>j<|i.1.2 e⟩);clear j i)
    |(have r:=decide_eq_false C;have f:=eZ<|NW (B:=B) (m:=gk) (a:=a) (t:=È)<|É Z)
    |(have r:=decide_eq_false p;have f:=eZ<|NW (B:=B) (m:=gk) (t:=È)<|Ð<|Ð<|É p;have k:¬a<B.size:=by omega)
    |have f:=eZ<|NW (B:=B) (m:=gk) (a:=a) (t:=Î)<|Ð<|É U
   go_wp2;first|go_quiet (fail)|go_quiet ((go_at_call 164;exact è<|acE _ _))
   go_wp2;go_quiet (fail);go_wp2_with (go_at_call 133;refine(Bn (H.out.1.1.fE<|fc.jh _ _ _) U U).mono ?_;rintro e M ⟨rfl,s⟩;have D:=eZ s;clear s);go_ret;rw[H.out.2,f.out];exact⟨U,(H.out.1.fE<|fc.jh _ _ _).N D.out⟩
end
structure LS(w0:Ý)(b:Nat)(B:ByteArray)(T:Ġ)(jt jo:Nat)(vs us:List Ì)(E:RS)(w:Ý):Prop where
 rd:oO b B E w
 t:fq jt vs T w
 o:fq jo us T w
 kp:fc (λk=>k=b) w0 w
 lt:w0.heap.size<=jt/\w0.heap.size<=jo/\jt≠jo/\b<w0.heap.size
 fl:lz T=È
section
variable{w0 w':Ý}{jt jo:Nat}{vs us:List Ì}{E E':RS}{x:Int}
def LS.gL(h:LS w0 b B T jt jo vs us E w)(k:jS b B E' w w'):LS w0 b B T jt jo vs us E' w':=by have:=h.lt;exact⟨k.1,h.t.C k.2 Z,h.o.C k.2 Z,h.kp.fj k.2,h.lt,h.fl⟩
def LS.fE(h:LS w0 b B T jt jo vs us E w)(k:fc fh w w'):LS w0 b B T jt jo vs us E w':=h.gL ⟨h.rd.fE k,k.ff λ_ _=>é⟩
def LS.fO(h:LS w0 b B T jt jo vs us E w)(i:Nat)(v:Ì):LS w0 b B T jt jo (vs.set i v) us E (w.setCell ⟨jt,i,Å⟩ v):=by have:=h.lt;have k:=fc.I (X:=λk=>k=jt) (p:=⟨jt,i,Å⟩) U v<|Ð<|h.t.S h.fl;exact⟨⟨h.rd.r.C k Z,h.rd.C,h.rd.I⟩,h.t.fO i v,h.o.C k Z,h.kp.C k λk a q=>by omega,h.lt,h.fl⟩
def LS.mN(h:LS w0 b B T jt jo vs us E w)(i:Nat)(e:vs[i]?=Ã v):w.cell? ⟨jt,i,Å⟩=Ã v:=h.t.r i v e
def LS.c6{a c d:Ì}(h:LS w0 b B T jt jo [v,z,jQ,a,c,d] us E w):(w.cell? ⟨jt,0,Å⟩=Ã v/\w.cell? ⟨jt,1,Å⟩=Ã z/\w.cell? ⟨jt,2,Å⟩=Ã jQ/\w.cell? ⟨jt,3,Å⟩=Ã a/\w.cell? ⟨jt,4,Å⟩=Ã c/\w.cell? ⟨jt,5,Å⟩=Ã d)/\∀i,w.frozen? ⟨jt,i,Å⟩=È:= ⟨⟨h.mN 0 U,h.mN 1 U,h.mN 2 U,h.mN 3 U,h.mN 4 U,h.mN 5 U⟩,h.t.I⟩
def zy(t:PT):List Ì:=[Â ņ (if t.c.getD 4 0=1 then 62 else if t.c.getD 4 0=2 then 123 else 58),Â Ä<|t.c.getD 0 0,Â Ä<|t.c.getD 1 0,Â Ä<|t.c.getD 2 0,Â Ä<|t.c.getD 3 0,Ê t.p]
def JY:jD B 120 E=(((fS B E j0).1:Int),(fS B E j0).2)/\jD B 121 E=(((fS B E j0).1:Int),(fS B E j0).2)/\jD B 115 E=(((fS B E Bh).1:Int),(fS B E Bh).2)/\jD B 110 E=pN B 5 E/\jD B 107 E=pN B 5 E/\jD B 86 E=Bj B E/\jD B 87 E=Bj B E:=⟨U,U,U,U,U,U,U⟩
def NY:jD B 61 E=(0,(fS B E [61]).2)/\jD B 40 E=(0,(fS B E [40]).2)/\jD B 44 E=(0,(fS B E [44]).2)/\jD B 41 E=(0,(fS B E [41]).2)/\jD B 58 E=(0,(fS B E [58]).2)/\jD B 62 E=(0,(fS B E [62]).2)/\jD B 47 E=(0,(fS B E [47]).2):=⟨U,U,U,U,U,U,U⟩
def NZ(c:List Int)(z:Int):(mX c 120 z=c.set 0 z/\mX c 121 z=c.set 1 z/\mX c 110 z=c.set 2 z/\mX c 107 z=c.set 3 z/\mX c 86 z=c.set 5 z/\mX c 87 z=c.set 6 z/\mX c 115 z=c.set 7 z)/\mX c 61 z=c/\mX c 40 z=c/\mX c 44 z=c/\mX c 41 z=c/\mX c 58 z=c/\mX c 62 z=c/\mX c 47 z=c:=⟨⟨U,U,U,U,U,U,U⟩,U,U,U,U,U,U,U⟩
def ty0:zw B x 0 E=(⟨[x,(fS B E j0).1,(pN B 5 (fS B (fS B E j0).2 [61]).2).1,0,1],⟨#[]⟩⟩,(pN B 5 (fS B (fS B E j0).2 [61]).2).2):=by unfold zw;simp[pL,mY,JY,NY,NZ]
def ty1:zw B x 1 E=(⟨[x,0,0,0,2],B.extract E.1 (lX B 40 E).1⟩,(fS B (lX B 40 E) [125]).2):=rfl
def ty2:zw B x 2 E=(⟨[x,(fS B E j0).1,(pN B 5 (fS B (fS B E j0).2 [40]).2).1,(pN B 5 (fS B (pN B 5 (fS B (fS B E j0).2 [40]).2).2 [44]).2).1,3],⟨#[]⟩⟩,(fS B (pN B 5 (fS B (pN B 5 (fS B (fS B E j0).2 [40]).2).2 [44]).2).2 [41]).2):=by unfold zw;simp[pL,mY,JY,NY,NZ]
def LS.fZ{c:Array Ĥ}{f:List Ĥ}{a:Λ}{x:İ}(H:LS w0 b B T jt jo vs us E w)(m:(Á.info? T).map (·.size)=Ã l.length)(j:us.length=l.length)(n:∀v∈l,v.oneCell'=Î) (h:∀w',fq jo l T w'->jS b B E w0 w'->fc (λk=>k=jo) w w'->ŝ Á c vJ f (a.put Å Δ) w') (g:o.guard=Å) (e:o.op=.store T x qQ) (d:o.dst=Å) (p:a.eval x=Æ (Ã ⟨jo,0,Å⟩)) (r:a.eval qQ=ý l.toArray):ŝ Á c vJ (o::f) a w:=by refine Ű g T x qQ e jo 0 l.toArray p r (H.o.MY<|by simp[j]) (by rw[m];simp) (ŗ n) ?_;rw[d];have s:=IX l [] [] w us j (by simpa using H.o);have k:=IY (b:=jo) l 0 w<|H.o.S H.fl;have:=H.lt;exact h _ (by simpa using s) ⟨⟨H.rd.r.C k Z,H.rd.C,H.rd.I⟩,H.kp.C k λi t q=>by omega⟩ k
def LS.ou{ops:Array Ĥ}{rest:List Ĥ}{c:Ĥ}{a:Λ}{x:İ}{d:Tmp}(H:LS w0 b B T jt jo vs us E w)(f:(Á.underlying T).map Ā=Ã Î)(e:(Á.info? T).map (·.size)=Ã vs.length)(g:us.length=vs.length)(i:∀v∈vs,v.oneCell'=Î) (h:∀w',fq jo vs T w'->jS b B E w0 w'->fc (λk=>k=jo) w w'->ŝ Á ops vJ rest (a.put (Ã d)<|ý vs.toArray) w') (j:o.guard=Å) (l:o.op=.load T x) (m:o.dst=Ã d) (n:c.guard=Å) (p:c.op=.store T qQ (.tmp d)) (q:c.dst=Å) (r:a.eval x=Æ (Ã ⟨jt,0,Å⟩)) (s:(a.put (Ã d)<|ý vs.toArray).eval qQ=Æ (Ã ⟨jo,0,Å⟩)) (u:(a.put (Ã d)<|ý vs.toArray).eval (.tmp d)=ý vs.toArray):ŝ Á ops vJ (o::c::rest) a w:=by let⟨z,C,D⟩:=Ë.1 f;refine ô j T x l jt 0 r vs z (fq.Y (tl:=[])<|by rw[Þ];exact H.t) C D e ?_;rw[m];exact H.fZ e g i h n p q s u
def DL{t:Tmp}(a:fq jo vs T w)(b:(Á.underlying T).map Ā=Ã Î)(c:(Á.info? T).map (·.size)=Ã vs.length)(h:s.results=#[.cell t T])(e:d.getD t Δ=Æ (Ã ⟨jo,0,Å⟩)):(results s d).run Á w=.ok (ý vs.toArray) w:=by let⟨i,f,g⟩:=Ë.1 b;exact W_ h e (fq.Y (tl:=[])<|by rwa[Þ]) f g c
def acG{a b c d e f:Value}(h:∀v∈[a,b,c,d,e,f],v.oneCell'=true:=by simp[Value.oneCell']):∀v∈[a,b,c,d,e,f],v.oneCell'=true:=h
def U3:(Á.info? 260).map (·.size)=Ã 6:=fx
def U4:(Á.underlying 260).map Ā=Ã Î:=fx
theorem ar6(h:oO b B E w):ë Á 163 #[Æ<|Ã ⟨b,0,Å⟩] w λe w'=>e=Ñ (ý (zy (lL B E).1).toArray)/\jS b B (lL B E).2 w w':=by
 have c:(fS B (fS B E j0).2 [62,123,58]).1=0\/(fS B (fS B E j0).2 [62,123,58]).1=1\/(fS B (fS B E j0).2 [62,123,58]).1=2:=by have:=JV (B:=B) (E:=(fS B E j0).2) (l:=[62,123,58]);grind
 have L:LS w b B 260 (w.heap.size+1) w.heap.size [Â ņ 0,Â Ä 0,Â Ä 0,Â Ä 0,Â Ä 0,Ê ⟨#[]⟩] [Â ņ 0,Â Ä 0,Â Ä 0,Â Ä 0,Â Ä 0,Ê ⟨#[]⟩] E ((w.alloc<|Ó #[Â ņ 0,Â Ä 0,Â Ä 0,Â Ä 0,Â Ä 0,Ê ⟨#[]⟩] 260).alloc<|Ó #[Â ņ 0,Â Ä 0,Â Ä 0,Â Ä 0,Â Ä 0,Ê ⟨#[]⟩] 260):= ⟨h.fE kp,by have:=fq.N (w.alloc<|Ó #[Â ņ 0,Â Ä 0,Â Ä 0,Â Ä 0,Â Ä 0,Ê ⟨#[]⟩] 260) [Â ņ 0,Â Ä 0,Â Ä 0,Â Ä 0,Â Ä 0,Ê ⟨#[]⟩] 260;simpa using this,(fq.N w [Â ņ 0,Â Ä 0,Â Ä 0,Â Ä 0,Â Ä 0,Ê ⟨#[]⟩] 260).C (kp (X:=fh)) id,kp,⟨Z,Z,Z,h.r.M⟩,U⟩;have H:=eZ L;clear L h;unfold lL;simp only[JY];rcases c with c|c|c;all_goals
  rw[c];simp only[ty0,ty1,ty2];have o:=eZ c;clear c;go_enter Tryz.func163,Tryz.ntmps163;go_wp2_with (first
   |(go_at_call 135;(first|with_reducible refine(JS H.out.rd).mono ?_|refine(JS (H.out.fO _ _).rd).mono ?_);rintro e d ⟨rfl,a⟩;(first|with_reducible have H:=eZ (H.out.gL a)|have H:=eZ<|(H.out.fO _ _).gL a);clear a;let⟨⟨f,g,i,j,k,m⟩,n⟩:=H.out.c6)
   |(go_at_call 131;refine(DK (H.out.fO _ _).rd A).mono ?_;rintro e d ⟨rfl,a⟩;have H:=eZ<|(H.out.fO _ _).gL a;clear a;rw[show(fS B (fS B E j0).2<|gN ⟨#[62,123,58]⟩).1=_ from o.out];let⟨⟨f,g,i,j,k,m⟩,n⟩:=H.out.c6)
   |(go_at_call 133;(first|with_reducible refine(Bn H.out.rd U U).mono ?_|refine(Bn (H.out.fO _ _).rd U U).mono ?_);rintro e d ⟨rfl,a⟩;(first|with_reducible have H:=eZ (H.out.gL a)|have H:=eZ<|(H.out.fO _ _).gL a);clear a;let⟨⟨f,g,i,j,k,m⟩,n⟩:=H.out.c6)
   |(go_at_call 136;refine(NU H.out.rd 5 A).mono ?_;rintro e d ⟨rfl,a⟩;have H:=eZ<|H.out.gL a;clear a;let⟨⟨f,g,i,j,k,m⟩,n⟩:=H.out.c6)
   |(go_at_call 179;refine(ar5 (H.out.fO _ _).rd).mono ?_;rintro e d ⟨rfl,a⟩;have H:=eZ<|(H.out.fO _ _).gL a;clear a;let⟨⟨f,g,i,j,k,m⟩,n⟩:=H.out.c6)
   |(refine qi 260 U ?_;(first|refine LS.ou (H.out.fO _ _) U4 U3 U acG ?_ U U U U U U U U U|refine LS.ou H.out U4 U3 U acG ?_ U U U U U U U U U);intro f a d _))
  exact ü (DL a U4 U3 U U) U ⟨U,d⟩
end
def xN(w:World)(cs:List Value)(T:TypeId){n:Nat}(hn:n=w.heap.size:=by simp):∀j u,cs[j]?=some u->(w.alloc<|.cells cs.toArray T).cell? ((⟨n,0,none⟩:Addr).add j)=some u:=λj u h=>by rw[ň,hn];exact(fq.N w cs T).r _ _<|by rwa[Ĕ]
def JZ{base z:Nat}{xs:List Ì}(h:w.ownsRow base T z v n xs):ie T v n xs w:=by
 obtain⟨a,i,rfl⟩:=jv h;rcases h.2 with⟨b,c⟩|⟨g,k,l,b,c,d,e,_⟩
 .cases b;have:=h.1;rw[Ĳ]at this;rw[ø this];exact ie.C _ _
 .cases b;refine⟨_,_,U,e,λj x f=>⟨g,0,U,⟨_,_,d⟩,?_⟩⟩;have:=h.cells (g:=g) U j x f;rwa[ň]at this
section
variable{w':Ý}{us:List Ì}{E r:RS}{x:Int}
def LS.BM{base:Nat}{xs f:List Ì}(h:LS W b B T j9 J l us E w)(o:w.ownsRow base e i v n xs)(g:W.heap.size<=base)(a:nW w base e i v n xs m f jQ w')(d:e≠T/\e≠180):LS W b B T j9 J l us E w':= ⟨⟨h.rd.r.C a.r<|iL o h.rd.r d.2,h.rd.C,h.rd.I⟩,h.t.C a.r<|iL o h.t d.1,h.o.C a.r<|iL o h.o d.1,h.kp.C a.r λc j q=>by have:=(o.lt c q).1;omega,h.lt,h.fl⟩
def LS.ar7{base:Nat}{xs:List Ì}(h:LS W b B T j9 J l us E w)(o:w.ownsRow base e j v n xs)(a:e≠T)(i:Nat)(u:Ì):(w.setCell ⟨j9,i,Å⟩ u).ownsRow base e j v n xs:= im o (fc.I (X:=λk=>k=j9) (p:=⟨j9,i,Å⟩) U u<|Ð<|h.t.S h.fl) λk q e=>iL o h.t a<|e▸q
def LS.c9{a d e f g c:Ì}(h:LS W b B T j9 J [v,z,jQ,a,d,e,f,g,c] us E w):(w.cell? ⟨j9,0,Å⟩=Ã v/\w.cell? ⟨j9,3,Å⟩=Ã a/\w.cell? ⟨j9,8,Å⟩=Ã c)/\(w.cell? ⟨b,0,Å⟩=Ã (Ê B)/\w.cell? ⟨b,1,Å⟩=Ã (Â Ä E.1)/\w.cell? ⟨b,2,Å⟩=Ã (ì E.2))/\∀i,w.frozen? ⟨j9,i,Å⟩=È:= ⟨⟨h.mN 0 U,h.mN 3 U,h.mN 8 U⟩,⟨h.rd.r.r 0 _ U,h.rd.r.r 1 _ U,h.rd.r.r 2 _ U⟩,h.t.I⟩
def xO(B:ByteArray)(E:RS):List PT×RS:=if E.2\/E.1=B.size\/iP B E=Ã 59 then([],E)else mZ B 8 [] E
def oP(a:List PT):List Ì:=a.flatMap zy
def ar8(a:List PT)(t:PT):oP (a++[t])=oP a++zy t:=by simp[oP]
def re:(Á.info? 135).map (·.size)=Ã 9:=fx
def r8:(Á.underlying 135).map Ā=Ã Î:=fx
def ar9:(Á.info? 260).map (λi=>(i.zero,i.size,i.bytes))=Ã (Ã<|ý #[Â ņ 0,Â Ä 0,Â Ä 0,Â Ä 0,Â Ä 0,Ê ⟨#[]⟩],6,56):=fx
def DN{a b c d e f g h i:Value}(k:∀v∈[a,b,c,d,e,f,g,h,i],v.oneCell'=true:=by simp[Value.oneCell']):∀v∈[a,b,c,d,e,f,g,h,i],v.oneCell'=true:=k
def DO:List Ì:=[Â ņ 0,Â Ä 0,Â Ä 0,Â Ä 0,Â Ä 0,Â Ä 0,Â Ä 0,Â Ä 0,Ç Å 0 0]
def asa(h:oO b B E w)(kd v z Q C D F G:Int):ë Á 134 #[Æ<|Ã ⟨b,0,Å⟩,ý #[Â ņ kd,Â Ä v,Â Ä z,Â Ä Q,Â Ä C,Â Ä D,Â Ä F,Â Ä G,Ç Å 0 0]] w λe w'=>
 ∃tv,e=Ñ (ý #[Â ņ kd,Â Ä v,Â Ä z,Â Ä (fS B E j0).1,Â Ä C,Â Ä D,Â Ä F,Â Ä G,tv])/\ie 260 tv (xO B (fS B (fS B E j0).2 [47]).2).1.length (oP (xO B (fS B (fS B E j0).2 [47]).2).1) w'/\jS b B (xO B (fS B (fS B E j0).2 [47]).2).2 w w':=by
 have L:LS w b B 135 w.heap.size (w.heap.size+1) [Â ņ kd,Â Ä v,Â Ä z,Â Ä Q,Â Ä C,Â Ä D,Â Ä F,Â Ä G,Ç Å 0 0] DO E ((w.alloc<|Ó #[Â ņ kd,Â Ä v,Â Ä z,Â Ä Q,Â Ä C,Â Ä D,Â Ä F,Â Ä G,Ç Å 0 0] 135).alloc<|Ó #[Â ņ 0,Â Ä 0,Â Ä 0,Â Ä 0,Â Ä 0,Â Ä 0,Â Ä 0,Â Ä 0,Ç Å 0 0] 135):= ⟨h.fE kp,(fq.N w [Â ņ kd,Â Ä v,Â Ä z,Â Ä Q,Â Ä C,Â Ä D,Â Ä F,Â Ä G,Ç Å 0 0] 135).C (kp (X:=fh)) id,by have:=fq.N (w.alloc<|Ó #[Â ņ kd,Â Ä v,Â Ä z,Â Ä Q,Â Ä C,Â Ä D,Â Ä F,Â Ä G,Ç Å 0 0] 135) DO 135;simpa[DO]using this,kp,⟨Z,Z,Z,h.r.M⟩,U⟩;have H:=eZ L;clear L h;have C1:=JS H.out.rd;have Y:=λw' (h:oO b B (fS B E j0).2 w')=>Bn (S:=⟨#[47]⟩) (x:=47) h U U;generalize fS B E j0=y at*;let⟨x,σ1⟩:=y;simp only at C1 Y|-;generalize fS B σ1 [47]=y at*;let⟨y,a,t⟩:=y;simp only at Y|-;go_enter Tryz.func134,Tryz.ntmps134;go_wp2_with (first
  |(go_at_call 135;refine C1.mono ?_;rintro e w2 ⟨rfl,l⟩;have H:=eZ<|H.out.gL l;clear l C1;let⟨⟨J,K,r⟩,_,d⟩:=H.out.c9)
  |(go_at_call 133;refine(Y _ (H.out.fO _ _).rd).mono ?_;rintro e w3 ⟨rfl,l⟩;have H:=eZ ((H.out.fO _ _).gL l);clear l Y))
 clear J K r d;let⟨⟨J,K,r⟩,⟨c0,M,N⟩,d⟩:=H.out.c9;have hle:=H.out.rd.C;simp only at M N hle;cases t;by_cases e1:a=B.size;rotate_left;by_cases O:iP B (a,È)=Ã 59;rotate_left
 .have hE:xO B (a,È)=mZ B 8 [] (a,È):=if_neg (by rintro(q|q|q);cases q;exact e1 q;exact O q);have e3:((a:Int)==(B.size:Int))=È:=by rw[beq_eq_false_iff_ne];omega
  have P:=eZ hE;have e4:=decide_eq_false O;clear hE O;go_wp2;go_quiet ((go_at_call 81;exact Ε<|zx (H.out.rd.fE<|fc.jh _ _ _) _));let⟨i0,qh,oI,AV,AW⟩:=ĝ ar9;have HI:=eZ<|À qh<|À oI<|À AV AW;clear qh oI AV AW J K r c0 M N d e3 e4;go_wp2;go_loopw [5] (λi wr=>∃(c:List PT) (τ:RS) (p:Option ś) (cp:Nat),c.length<=8/\i=Â Ä c.length/\LS w b B 135 w.heap.size (w.heap.size+1) [Â ņ kd,Â Ä v,Â Ä z,Â Ä x,Â Ä C,Â Ä D,Â Ä F,Â Ä G,Ç p c.length cp] DO τ wr/\wr.ownsRow w.heap.size 260 6 (Ç p c.length cp) c.length (oP c)/\mZ B 8 [] (a,È)=mZ B (8-c.length) c τ) λi _=>8-(î i).toNat
  case atStart=>exact⟨[],(a,È),Å,0,fp,U,H.out.fE<|fc.jh _ _ _,ð _ _ _ _,U⟩
  case round=>
   clear H;obtain⟨c,⟨k,t⟩,p,cp,CZ,rfl,hL,hO,hF⟩:=hrel;obtain⟨n,hn⟩:∃n,c.length=n:=⟨_,U⟩;let⟨⟨J,K,r⟩,⟨c0,M,N⟩,d⟩:=hL.c9;have f8:=d 8;simp only[hn]at M N r CZ|-;have H:=eZ<|À hL<|À hO<|À hF hn;clear hL hO hF hn d;cases t;by_cases hj:(n:Int)<8
   .have hx:=H.out.1.rd;have s:=ar6 hx;have nT:∀m,n=m->mZ B (8-m) c (k,È)=if iP B (lL B (k,È)).2=Ã 44/\8-m-1≠0 then mZ B (8-m-1) (c++[(lL B (k,È)).1]) (fS B (lL B (k,È)).2 [44]).2 else(c++[(lL B (k,È)).1],(lL B (k,È)).2):=by
     rintro m rfl;rw[show 8-n=(8-n-1)+1 by omega];rfl
    have HB:=eZ nT;clear nT hx;generalize lL B (k,È)=q at*;let⟨⟨f,tp⟩,τ⟩:=q;simp only[zy]at s;generalize Nh:(if f.getD 4 0=1 then(62:Int)else if f.getD 4 0=2 then 123 else 58)=k0 at s;generalize h0:f.getD 0 0=t0 at s;generalize h1:f.getD 1 0=t1 at s;generalize l:f.getD 2 0=t2 at s;generalize h3:f.getD 3 0=t3 at s;have HK:=eZ (show oP (c++[⟨f,tp⟩])=oP c++[Â ņ k0,Â Ä t0,Â Ä t1,Â Ä t2,Â Ä t3,Ê tp] by rw[ar8];simp only[zy,Nh,h0,h1,l,h3]);clear Nh h0 h1 l h3;have g:=HB.out n U;clear HB;by_cases u:iP B τ=Ã 44;by_cases T:n+1=8;have Lp:=decide_eq_true u;have h7':((n:Int)+1==8)=Î:=by rw[beq_iff_eq];omega
    rw[if_neg (by rintro⟨_,q⟩;exact q Z)]at g;have I:=eZ g;clear g u T;rotate_left;have Lp:=decide_eq_true u;rw[if_pos ⟨u,Z⟩]at g;have I:=eZ g;clear g u;rotate_left;have Lp:=decide_eq_false u;rw[if_neg λq=>u q.1]at g;have I:=eZ g;clear g u;all_goals
     go_wp2_with (first
      |(go_at_call 163;refine s.mono ?_;rintro e w4 ⟨rfl,h4⟩;have H:=eZ (À (H.out.1.gL h4)<|À (im H.out.2.1 h4.2 λj q e=>iL H.out.2.1 H.out.1.rd.r A<|e▸q) H.out.2.2);clear h4 s;let⟨⟨J,K,r⟩,⟨c0,M,N⟩,d⟩:=H.out.1.c9;simp only[H.out.2.2.2]at r;have f8:=d 8;have l4:=H.out.1.t.M)
      |(at_builtin;refine xn (n:=c.length) (xs:=oP c) (m:=1) U _ _ 133 U Tryz.underlying133 HI.out.1 HI.out.2.1 HI.out.2.2.1 HI.out.2.2.2 U (by rw[H.out.2.2.2];rfl) (im H.out.2.1 (kp (X:=fh)) λ_ _=>id) ⟨_,0,Å⟩ _ U Z U (xN _ [Â ņ k0,Â Ä t0,Â Ä t1,Â Ä t2,Â Ä t3,Ê tp] 260) (by simp[ß]) (by rw[H.out.2.2.2];unfold č;omega) (by rw[H.out.2.2.2];omega) (by simp;have:=H.out.1.kp.M;omega) ?_;intro tv w5 ha;obtain⟨tq,tcp,rfl⟩:=jv ha.fg;have H:=eZ (À (LS.BM (H.out.1.fE<|kp (X:=fh)) (im H.out.2.1 (kp (X:=fh)) λ_ _=>id) (Ù _) ha A)<|À ha.fg H.out.2.2);clear ha;let⟨⟨J,K,r⟩,⟨c0,M,N⟩,d⟩:=H.out.1.c9;have f8:=d 8)
      |(go_at_call 81;refine(zx (H.out.1.fO _ _).rd _).mono ?_;rintro e w6 ⟨rfl,m,rfl⟩;have H:=eZ<|À ((H.out.1.fO 8<|Ç tq (c.length+1) tcp).fE<|fc.jh fh _ m)<|À (im (H.out.1.ar7 H.out.2.1 A 8<|Ç tq (c.length+1) tcp) (fc.jh fh _ m) λ_ _=>id) H.out.2.2)
      |(go_at_call 133;refine(Bn H.out.1.rd U U).mono ?_;rintro e w7 ⟨rfl,T⟩;have H:=eZ (À (H.out.1.gL T)<|À (im H.out.2.1 T.2 λj q e=>iL H.out.2.1 H.out.1.rd.r A<|e▸q) H.out.2.2);clear T)
      |(refine qi 135 U ?_;refine LS.ou H.out.1 r8 re U DN ?_ U U U U U U U U U;intro w9 V W k9))
    iterate 2 (apply ü (DL V r8 re U U) U;rw[P.out,H.out.2.2.1,(by rw[H.out.2.2.2];exact I.out:mZ B (8-c.length) c (k,È)=(c++[⟨f,tp⟩],τ))];exact⟨_,U,by have:=JZ (im H.out.2.1 k9 λj q e=>iL H.out.2.1 H.out.1.o A<|e▸q);rw[HK.out,à];exact this,W⟩)
    go_roundw
    case rel=>exact⟨c++[⟨f,tp⟩],(fS B τ [44]).2,tq,tcp,by simp[H.out.2.2.2];omega,by rw[à,H.out.2.2.2];go_num,by rw[à];exact H.out.1,by rw[HK.out,à];exact H.out.2.1,by rw[H.out.2.2.1,H.out.2.2.2,I.out,à,H.out.2.2.2];rfl⟩
    case measure=>simp[î];omega
   all_goals
    first
     |(have hd:=decide_eq_false hj;have I:=eZ<|show mZ B (8-n) c (k,È)=(c,k,È) by rw[show 8-n=0 by omega];rfl)
     |have I:=eZ<|show mZ B (8-n) c (k,Î)=(c,k,Î) by cases 8-n<;>rfl
    go_wp2_with (apply qi 135 U;refine LS.ou H.out.1 r8 re U DN ?_ U U U U U U U U U;intro w9 V W k9)
    all_goals
     apply ü (DL V r8 re U U) U;rw[P.out,H.out.2.2.1,H.out.2.2.2,I.out];exact⟨_,U,by have:=JZ (im H.out.2.1 k9 λj q e=>iL H.out.2.1 H.out.1.o A<|e▸q);rwa[H.out.2.2.2]at this|-,W⟩
 have P:=eZ (show xO B (a,Î)=([],a,Î)from if_pos<|É U);rotate_left;have P:=eZ (show xO B (a,È)=([],a,È)from if_pos<|Ð<|É e1);have e3:((a:Int)==(B.size:Int))=Î:=by rw[beq_iff_eq,e1]
 clear e1;rotate_left;have P:=eZ (show xO B (a,È)=([],a,È)from if_pos<|Ð<|Ð O);have e3:((a:Int)==(B.size:Int))=È:=by rw[beq_eq_false_iff_ne];omega
 have e4:=decide_eq_true O;clear O;all_goals
  go_wp2;first|go_quiet (fail)|go_quiet ((go_at_call 81;exact Ε<|zx (H.out.rd.fE<|fc.jh _ _ _) _))
  go_wp2_with (apply qi 135 U;refine LS.ou (H.out.fE<|fc.jh _ _ _) r8 re U DN ?_ U U U U U U U U U;intro w9 V W k9)
  apply ü (DL V r8 re U U) U;rw[P.out];exact⟨_,U,ie.C _ _,W⟩
end
def lM(r:PR)(a:Ì):List Ì:=[Â ņ<|kV.getD (r.c.getD 4 0-1).toNat 0,Â Ä<|r.c.getD 5 0,Â Ä<|r.c.getD 6 0,Â Ä<|r.c.getD 0 0,Â Ä<|r.c.getD 1 0,Â Ä<|r.c.getD 7 0,Â Ä<|r.c.getD 2 0,Â Ä<|r.c.getD 3 0,a]
section
variable{d g:List Ì}{E f:RS}
def LS.d9{c d e f j:Ì}(h:LS W b B T n i [v,x,z,jQ,c,d,e,f,j] g E w):(w.cell? ⟨n,0,Å⟩=Ã v/\w.cell? ⟨n,1,Å⟩=Ã x/\w.cell? ⟨n,2,Å⟩=Ã z/\w.cell? ⟨n,3,Å⟩=Ã jQ/\w.cell? ⟨n,4,Å⟩=Ã c/\w.cell? ⟨n,5,Å⟩=Ã d/\w.cell? ⟨n,6,Å⟩=Ã e/\w.cell? ⟨n,7,Å⟩=Ã f/\w.cell? ⟨n,8,Å⟩=Ã j)/\w.cell? ⟨b,2,Å⟩=Ã (ì E.2)/\∀a,w.frozen? ⟨n,a,Å⟩=È:= ⟨⟨h.mN 0 U,h.mN 1 U,h.mN 2 U,h.mN 3 U,h.mN 4 U,h.mN 5 U,h.mN 6 U,h.mN 7 U,h.mN 8 U⟩,h.rd.r.r 2 _ U,h.t.I⟩
def asb{l:List Int}(h:(fS B E l).2.2=Î):(fS B E l).1=0:=by
 unfold fS at*;split at h
 .split at h
  .cases h
  .rw[if_neg ‹_›]
 .rfl
def U5(h:oO b B E w)(a:jS b B f (w.alloc<|Ó DO.toArray 135) jX)(d:List Ì):LS w b B 135 jX.heap.size w.heap.size d DO f (jX.alloc<|Ó d.toArray 135):=by have c:=h.r.M;have e:=a.2.M;simp at e;exact⟨a.1.fE kp,fq.N jX d 135,((fq.N w DO 135).C a.2 Z).C (kp (X:=fh)) id,((kp (X:=λk=>k=b)).fj a.2).fj kp,⟨Z,Ù _,Z,c⟩,U⟩
def acH:pO 0=[86,58,120,47]/\pO 1=[86,58,120,115]/\pO 2=[86,58,120]/\pO 3=[86,58,120,62,121,40,110,44,107,41]/\pO 4=[86,58,120,62,121,40,107,41]/\pO 5=[86]/\pO 6=[86]/\pO 7=[86]/\pO 8=[86,58,87]:=A
def asc(h:oO b B E w):ë Á 80 #[Æ<|Ã ⟨b,0,Å⟩] w λe u=>∃J,e=Ñ (ý (lM (kX B E).1 J).toArray)/\ie 260 J (kX B E).1.r.length (oP (kX B E).1.r) u/\jS b B (kX B E).2 w u:=by
 have W:=h.I;have O:oO b B E (w.alloc<|Ó #[Â ņ 0,Â Ä 0,Â Ä 0,Â Ä 0,Â Ä 0,Â Ä 0,Â Ä 0,Â Ä 0,Ç Å 0 0] 135):=h.fE kp;have i:=DK (L:=⟨#[105,103,98,99,109,114,108,117,100]⟩) O A;rw[show gN ⟨#[105,103,98,99,109,114,108,117,100]⟩=kV from rfl]at i;have T:(fS B E kV).1<9:=by have:=JV (B:=B) (E:=E) (l:=kV);have:kV.length=9:=rfl;omega
 have K:=asb (B:=B) (E:=E) (l:=kV);unfold kX;generalize fS B E kV=q at*;let⟨k,a,t⟩:=q;simp only at K T i|-;have M:=eZ h;clear h O;cases t
 .simp only[Ô,if_false];clear K;by_cases V:k=0
  .subst V;have e:∀(c:List Int) (p:RS),Bl B 0 (c,p)=(⟨c,(xO B p).1⟩,(xO B p).2):=λc p=>by
    unfold Bl xO;simp only[ne_eq,not_true,false_or];split<;>rfl
   simp only[acH,mY,JY,NY,NZ,PD.uE,Ş,ķ,e];clear e;go_enter ŵ,ũ;go_wp2_with (first
    |(go_at_call 131;refine i.mono ?_;rintro e P ⟨rfl,f⟩;have g:=f.1.r.r 2 _ U;have Q:=f.1.r.M;have H:=eZ<|U5 M.out f [Â ņ 105,Â Ä 0,Â Ä 0,Â Ä 0,Â Ä 0,Â Ä 0,Â Ä 0,Â Ä 0,Ç Å 0 0];clear i f)
    |(go_at_call 132;refine(NV H.out.rd).mono ?_;rintro e m ⟨rfl,d⟩;have H:=eZ<|H.out.gL d;clear d;let⟨⟨n,r,s,v,x,y,z,C,D⟩,g,F⟩:=H.out.d9)
    |(go_at_call 133;refine(Bn (H.out.fO _ _).rd U U).mono ?_;rintro e m ⟨rfl,d⟩;have H:=eZ<|(H.out.fO _ _).gL d;clear d;let⟨⟨n,r,s,v,x,y,z,C,D⟩,g,F⟩:=H.out.d9)
    |(go_at_call 134;refine(asa H.out.rd _ _ _ _ _ _ _ _).mono ?_;rintro e N ⟨J,rfl,j,G⟩;let⟨tp,S,I,_⟩:=id j;subst I;have H:=eZ<|À (H.out.gL G) j;clear j G)
    |(refine LS.fZ H.out.1 (by exact re) fL DN ?_ U U U U U;intro S G I N))
   exact ü (DL G r8 re U U) U ⟨_,U,H.out.2.I N (λj X Y e q=>by subst e;rw[H.out.1.o]at q;cases q),I⟩
  .obtain rfl|rfl|rfl|rfl|rfl|rfl|rfl|rfl:k=1\/k=2\/k=3\/k=4\/k=5\/k=6\/k=7\/k=8:=Z
   all_goals
    simp only[Bl,acH,mY,JY,NY,NZ,PD.uE,Ş,ķ,ne_eq,show¬(1=0) by decide,not_false_eq_true,true_or,if_true];go_enter ŵ,ũ;go_wp2_with (first
     |(go_at_call 131;refine i.mono ?_;rintro e P ⟨rfl,f⟩;have g:=f.1.r.r 2 _ U;have Q:=f.1.r.M;have H:=eZ λj=>U5 M.out f [Â ņ j,Â Ä 0,Â Ä 0,Â Ä 0,Â Ä 0,Â Ä 0,Â Ä 0,Â Ä 0,Ç Å 0 0];clear i f)
     |(go_at_call 132;refine(NV (H.out _).rd).mono ?_;rintro e m ⟨rfl,d⟩;have H:=eZ<|(H.out _).gL d;clear d;let⟨⟨n,r,s,v,x,y,z,C,D⟩,g,F⟩:=H.out.d9)
     |(go_at_call 132;(first|with_reducible refine(NV H.out.rd).mono ?_|refine(NV (H.out.put _ _).rd).mono ?_);rintro e m ⟨rfl,d⟩;(first|with_reducible have H:=eZ (H.out.gL d)|have H:=hide<|(H.out.put _ _).call d);clear d;let⟨⟨n,r,s,v,x,y,z,C,D⟩,g,F⟩:=H.out.d9)
     |(go_at_call 131;(first|with_reducible refine(DK H.out.rd A).mono ?_|refine(DK (H.out.fO _ _).rd A).mono ?_);rintro e m ⟨rfl,d⟩;(first|with_reducible have H:=eZ (H.out.gL d)|have H:=eZ<|(H.out.fO _ _).gL d);clear d;let⟨⟨n,r,s,v,x,y,z,C,D⟩,g,F⟩:=H.out.d9)
     |(go_at_call 133;(first|with_reducible refine(Bn H.out.rd U U).mono ?_|refine(Bn (H.out.fO _ _).rd U U).mono ?_);rintro e m ⟨rfl,d⟩;(first|with_reducible have H:=eZ (H.out.gL d)|have H:=eZ<|(H.out.fO _ _).gL d);clear d;let⟨⟨n,r,s,v,x,y,z,C,D⟩,g,F⟩:=H.out.d9)
     |(go_at_call 135;(first|with_reducible refine(JS H.out.rd).mono ?_|refine(JS (H.out.put _ _).rd).mono ?_);rintro e m ⟨rfl,d⟩;(first|with_reducible have H:=eZ (H.out.gL d)|have H:=hide<|(H.out.put _ _).call d);clear d;let⟨⟨n,r,s,v,x,y,z,C,D⟩,g,F⟩:=H.out.d9)
     |(go_at_call 136;(first|refine(NU H.out.rd 5 A).mono ?_|refine(NU (H.out.put _ _).rd 5 A).mono ?_);rintro e m ⟨rfl,d⟩;(first|with_reducible have H:=eZ (H.out.gL d)|have H:=hide<|(H.out.put _ _).call d);clear d;let⟨⟨n,r,s,v,x,y,z,C,D⟩,g,F⟩:=H.out.d9)
     |(refine qi 135 U ?_;(first|refine LS.ou (H.out.fO _ _) r8 re U DN ?_ U U U U U U U U U|refine LS.ou H.out r8 re U DN ?_ U U U U U U U U U);intro S G I N))
    exact ü (DL G r8 re U U) U ⟨_,U,ie.C _ _,I⟩
 .obtain rfl:=K U;simp only[if_true];go_enter ŵ,ũ;go_wp2_with (first
   |(go_at_call 131;refine i.mono ?_;rintro e P ⟨rfl,f⟩;have H:=eZ<|U5 M.out f [Â ņ 105,Â Ä 0,Â Ä 0,Â Ä 0,Â Ä 0,Â Ä 0,Â Ä 0,Â Ä 0,Ç Å 0 0];have g:=f.1.r.r 2 _ U;have Q:=f.1.r.M;clear i f)
   |(refine qi 135 U ?_;refine LS.ou H.out r8 re U DN ?_ U U U U U U U U U;intro S G I N))
  exact ü (DL G r8 re U U) U ⟨_,U,ie.C _ _,I⟩
end
def uN(a:List (PR×Value)):List Ì:=a.flatMap λp=>lM p.1 p.2
def tA(v:Ì)(rs:List PR)(w:Ý):Prop:=∃a:List (PR×Value),a.map (·.1)=rs/\ie 135 v rs.length (uN a) w/\∀p∈a,ie 260 p.2 p.1.r.length (oP p.1.r) w
def tA.r(w:Ý):tA (Ç Å 0 0) [] w:=⟨[],U,ie.C _ _,λ_ q=>by cases q⟩
def ase:(Á.info? 135).map (λi=>(i.zero,i.size,i.bytes))=Ã (Ã<|ý #[Â ņ 0,Â Ä 0,Â Ä 0,Â Ä 0,Â Ä 0,Â Ä 0,Â Ä 0,Â Ä 0,Ç Å 0 0],9,88):=fx
structure RL(w0:Ý)(b:Nat)(B:ByteArray)(a:Nat)(t:Bool)(v:Ì)(ps:List (PR×Value))(w:Ý):Prop where
 rd:oO b B (a,t) w
 fg:w.ownsRow w0.heap.size 135 9 v ps.length (uN ps)
 C:∀p∈ps,ie 260 p.2 p.1.r.length (oP p.1.r) w
 kp:fc fh w0 w
 r:w0.heap.size<=b
section
variable{w0 w':Ý}{a:Nat}{ps:List (PR×Value)}{t:Bool}{E:RS}
def RL.fE(h:RL w0 b B a t v ps w)(k:fc fh w w'):RL w0 b B a t v ps w':=⟨h.rd.fE k,im h.fg k λ_ _=>id,λp q=>(h.C p q).fE k,h.kp.fj k,h.r⟩
def RL.gL(h:RL w0 b B a t v ps w)(k:jS b B E w w'):RL w0 b B E.1 E.2 v ps w':= ⟨k.1,im h.fg k.2 λj q e=>iL h.fg h.rd.r A<|e▸q,λp q=>(h.C p q).r k.2 h.rd.r,h.kp.C k.2 λi c q=>by have:=h.r;omega,h.r⟩
theorem RL.I{r:PR}(h:RL w0 b B a t v ps w)(l:ie 260 z r.r.length (oP r.r) w)(k:nW w w0.heap.size 135 9 v ps.length (uN ps) 1 (lM r z) x w'):RL w0 b B a t x (ps++[(r,z)]) w':=by
 have g:∀{c:Ì} {n:Nat} {f:List Ì},ie 260 c n f w->ie 260 c n f w':=λq=>q.I k.r λj f m e d=>by let⟨p,i⟩:=nV h.fg e;rw[i]at d;cases d
 refine⟨⟨h.rd.r.C k.r<|iL h.fg h.rd.r A,h.rd.C,h.rd.I⟩,?_,λp q=> ?_,h.kp.C k.r λi o q=>by have:=(h.fg.lt i q).1;omega,h.r⟩
 .have:=k.fg;rw[show uN (ps++[(r,z)])=uN ps++lM r z by simp[uN],à];exact this
 .rcases û.1 q with q|q
  .exact g<|h.C p q
  .grind
def RL.rq(h:RL w0 b B a t v ps w):tA v (ps.map (·.1)) w:=⟨ps,U,by rw[Ĭ];exact JZ h.fg,h.C⟩
def acI(hB:B.size<=1200)(w:Ý):ë Á 58 #[Ê B] w λe w'=>∃v,e=Ñ (Ď #[v,Â Ä (xK B).2])/\tA v (xK B).1 w'/\fc fh w w':=by
 unfold xK;by_cases s:B.size=0
 .rw[if_pos s];obtain rfl:B=⟨#[]⟩:=by
   let⟨d⟩:=B;have:d=#[]:=Array.eq_empty_of_size_eq_zero s;rw[this]
  go_enter π,Ω;go_wp2;go_ret2;exact⟨_,U,tA.r _,fc.fV _ _⟩
 .rw[if_neg s];have ht:(B.toList==[])=È:=by
   rw[ı];cases hl:B.data.toList with
   |nil=>exact absurd (by have:=congrArg ρ hl;simpa using this) s
   |cons a l=>rfl
  let⟨i0,Q,S,T,V⟩:=ĝ ase;have j:=eZ<|À Q<|À S<|À T V;clear Q S T V;have W:=fq.N w [Ê B,Â Ä 0,ì È] 180;have L:RL w w.heap.size B 0 È (Ç Å 0 0) [] (w.alloc<|Ó #[Ê B,Â Ä 0,ì È] 180):=⟨⟨W,Û _,hB⟩,ð _ _ _ _,(λ_ q=>by cases q),kp,Ù _⟩;have H:=eZ L;clear W L;go_enter π,Ω;go_wp2;generalize w.alloc (Ó #[Ê B,Â Ä 0,ì È] 180)=wa at*;go_loopw [4] (λl wr=>∃(ps:List (PR×Value)) (a:Nat) (p:Option ś) (M:Nat),l=Ç p ps.length M/\ps.length<=24/\RL w w.heap.size B a È (Ç p ps.length M) ps wr/\xI B 24 0 []=xI B (24-ps.length) a (ps.map (·.1))) (λl _=>match l with|Ç _ n _=>24-n|_=>0)
  case atStart=>exact⟨[],0,Å,0,U,fp,H.out,U⟩
  case round=>
   clear H ht s;obtain⟨ps,a,p,M,rfl,U6,J,hF⟩:=hrel;obtain⟨n,N⟩:∃n,ps.length=n:=⟨_,U⟩;simp only[N]at hF U6|-;have b:=J.rd.r.r 1 _ U;simp only at b;have C:=asc J.rd;have H:=eZ<|À J<|À hF N;clear J hF N;by_cases gE:(n:Int)<24
   .have h:xI B (24-n) a (ps.map (·.1))=if(kX B (a,È)).2.2 then([],((kX B (a,È)).2.1:Int))else if(kX B (a,È)).2.1=B.size then(ps.map (·.1)++[(kX B (a,È)).1],-1) else if iP B (kX B (a,È)).2=Ã 59/\24-n-1≠0 then xI B (24-n-1) ((kX B (a,È)).2.1+1) (ps.map (·.1)++[(kX B (a,È)).1])else([],((kX B (a,È)).2.1:Int)):=by
     rw[show 24-n=(24-n-1)+1 by omega];rfl
    simp only[lM]at C;generalize kX B (a,È)=q at*;let⟨r,D,t⟩:=q;simp only at C h;generalize s:kV.getD (r.c.getD 4 0-1).toNat 0=k0 at C;generalize X:r.c.getD 5 0=k1 at C;generalize Y:r.c.getD 6 0=k2 at C;generalize h3:r.c.getD 0 0=k3 at C;generalize k:r.c.getD 1 0=k4 at C;generalize h5:r.c.getD 7 0=k5 at C;generalize h6:r.c.getD 2 0=k6 at C;generalize h7:r.c.getD 3 0=k7 at C;have O:=eZ (λG=>show lM r G=[Â ņ k0,Â Ä k1,Â Ä k2,Â Ä k3,Â Ä k4,Â Ä k5,Â Ä k6,Â Ä k7,G] by simp only[lM,s,X,Y,h3,k,h5,h6,h7]);clear s X Y h3 k h5 h6 h7;cases t;by_cases K:D=B.size
    .rw[if_neg fp,if_pos K]at h;have e3:((D:Int)==(B.size:Int))=Î:=by rw[beq_iff_eq,K]
     have x:=eZ h;clear h K;go_wp2_with (first
      |(go_at_call 80;refine C.mono ?_;rintro e w4 ⟨G,rfl,o,k⟩;let⟨tp,E,I,_⟩:=id o;subst I;have H:=eZ<|À (H.out.1.gL k)<|À o H.out.2;clear o k C;have b:=H.out.1.rd.r.r 1 _ U;have f:=H.out.1.rd.r.r 2 _ U;have y:=H.out.1.rd.r.I 1;have z:=H.out.1.rd.r.M;have g:=H.out.1.rd.C;simp only at b f g)
      |(at_builtin;refine xn (n:=ps.length) (xs:=uN ps) (m:=1) U _ _ 129 U ĸ j.out.1 j.out.2.1 j.out.2.2.1 j.out.2.2.2 U (by rw[H.out.2.2.2];rfl) (H.out.1.fE kp).fg ⟨_,0,Å⟩ _ U Z U (xN _ [Â ņ k0,Â Ä k1,Â Ä k2,Â Ä k3,Â Ä k4,Â Ä k5,Â Ä k6,Â Ä k7,Ç tp r.r.length E] 135) (by simp[ß]) (by rw[H.out.2.2.2];unfold č;omega) (by rw[H.out.2.2.2];omega) (H.out.1.fE kp).kp.M ?_;intro v5 w5 i;obtain⟨q,P,rfl⟩:=jv i.fg;rw[<-O.out]at i;have H:=eZ (À (RL.I (H.out.1.fE kp) (H.out.2.1.fE kp) i) H.out.2.2);clear i;have b:=H.out.1.rd.r.r 1 _ U;have f:=H.out.1.rd.r.r 2 _ U;have y:=H.out.1.rd.r.I 1;have z:=H.out.1.rd.r.M;have g:=H.out.1.rd.C;simp only at b f g))
     go_ret2;rw[H.out.2.1,x.out];exact⟨_,U,by have:=H.out.1.rq;rwa[Ō]at this,H.out.1.kp⟩
    have e3:((D:Int)==(B.size:Int))=È:=by rw[beq_eq_false_iff_ne];omega
    rw[if_neg fp,if_neg K]at h;by_cases u:iP B (D,È)=Ã 59/\24-n-1≠0
    .rw[if_pos u]at h;have F:=decide_eq_true u.1;have e6:((ps.length:Int)+1==24)=È:=by rw[beq_eq_false_iff_ne,H.out.2.2];omega
     have x:=eZ h;have HL:=eZ (DJ u.1).2.1;clear h u;go_wp2_with (first
      |(go_at_call 80;refine C.mono ?_;rintro e w4 ⟨G,rfl,o,k⟩;let⟨tp,E,I,_⟩:=id o;subst I;have H:=eZ<|À (H.out.1.gL k)<|À o H.out.2;clear o k C;have b:=H.out.1.rd.r.r 1 _ U;have f:=H.out.1.rd.r.r 2 _ U;have y:=H.out.1.rd.r.I 1;have z:=H.out.1.rd.r.M;have g:=H.out.1.rd.C;simp only at b f g)
      |(at_builtin;refine xn (n:=ps.length) (xs:=uN ps) (m:=1) U _ _ 129 U ĸ j.out.1 j.out.2.1 j.out.2.2.1 j.out.2.2.2 U (by rw[H.out.2.2.2];rfl) (H.out.1.fE kp).fg ⟨_,0,Å⟩ _ U Z U (xN _ [Â ņ k0,Â Ä k1,Â Ä k2,Â Ä k3,Â Ä k4,Â Ä k5,Â Ä k6,Â Ä k7,Ç tp r.r.length E] 135) (by simp[ß]) (by rw[H.out.2.2.2];unfold č;omega) (by rw[H.out.2.2.2];omega) (H.out.1.fE kp).kp.M ?_;intro v5 w5 i;obtain⟨q,P,rfl⟩:=jv i.fg;rw[<-O.out]at i;have H:=eZ<|À (RL.I (H.out.1.fE kp) (H.out.2.1.fE kp) i) H.out.2.2;clear i;have b:=H.out.1.rd.r.r 1 _ U;have f:=H.out.1.rd.r.r 2 _ U;have y:=H.out.1.rd.r.I 1;have z:=H.out.1.rd.r.M;have g:=H.out.1.rd.C;simp only at b f g)
      |(go_at_call 81;refine(zx H.out.1.rd _).mono ?_;rintro e w6 ⟨rfl,m,rfl⟩;have H:=eZ (À (H.out.1.fE (fc.jh _ _ m)) H.out.2);have b:=H.out.1.rd.r.r 1 _ U;have f:=H.out.1.rd.r.r 2 _ U;have y:=H.out.1.rd.r.I 1;have z:=H.out.1.rd.r.M;have g:=H.out.1.rd.C;simp only at b f g))
     go_roundw
     case rel=>exact⟨ps++[(r,Ç tp r.r.length E)],D+1,q,P,by rw[à];rfl,by rw[à,H.out.2.2];simp;omega,by rw[à];exact H.out.1.gL<|jS.M ⟨H.out.1.rd,fc.fV _ _⟩ U HL.out,by rw[H.out.2.1,x.out,à,H.out.2.2,Ō];rfl⟩
     case measure=>simp[H.out.2.2];omega
    rw[if_neg u]at h;have x:=eZ h;clear h;by_cases F:iP B (D,È)=Ã 59;have e6:((ps.length:Int)+1==24)=Î:=by rw[beq_iff_eq,H.out.2.2];have:¬(24-n-1≠0):=λq=>u ⟨F,q⟩;omega
    have e7:=decide_eq_true F;clear u F;rotate_left;have e7:=decide_eq_false F;clear u F;rotate_left;rw[if_pos U]at h;have x:=eZ h;clear h;all_goals
     go_wp2_with (first
      |(go_at_call 80;refine C.mono ?_;rintro e w4 ⟨G,rfl,o,k⟩;let⟨tp,E,I,_⟩:=id o;subst I;have H:=eZ<|À (H.out.1.gL k)<|À o H.out.2;clear o k C;have b:=H.out.1.rd.r.r 1 _ U;have f:=H.out.1.rd.r.r 2 _ U;have y:=H.out.1.rd.r.I 1;have z:=H.out.1.rd.r.M;have g:=H.out.1.rd.C;simp only at b f g)
      |(at_builtin;refine xn (n:=ps.length) (xs:=uN ps) (m:=1) U _ _ 129 U ĸ j.out.1 j.out.2.1 j.out.2.2.1 j.out.2.2.2 U (by rw[H.out.2.2.2];rfl) (H.out.1.fE kp).fg ⟨_,0,Å⟩ _ U Z U (xN _ [Â ņ k0,Â Ä k1,Â Ä k2,Â Ä k3,Â Ä k4,Â Ä k5,Â Ä k6,Â Ä k7,Ç tp r.r.length E] 135) (by simp[ß]) (by rw[H.out.2.2.2];unfold č;omega) (by rw[H.out.2.2.2];omega) (H.out.1.fE kp).kp.M ?_;intro v5 w5 i;obtain⟨q,P,rfl⟩:=jv i.fg;rw[<-O.out]at i;have H:=eZ<|À (RL.I (H.out.1.fE kp) (H.out.2.1.fE kp) i) H.out.2.2;clear i;have b:=H.out.1.rd.r.r 1 _ U;have f:=H.out.1.rd.r.r 2 _ U;have y:=H.out.1.rd.r.I 1;have z:=H.out.1.rd.r.M;have g:=H.out.1.rd.C;simp only at b f g)
      |(go_at_call 81;refine(zx H.out.1.rd _).mono ?_;rintro e w6 ⟨rfl,m,rfl⟩;have H:=eZ (À (H.out.1.fE (fc.jh _ _ m)) H.out.2);have b:=H.out.1.rd.r.r 1 _ U;have f:=H.out.1.rd.r.r 2 _ U;have y:=H.out.1.rd.r.I 1;have z:=H.out.1.rd.r.M;have g:=H.out.1.rd.C;simp only at b f g))
     go_quiet (fail)
     go_wp2;go_ret2;first|rw[H.out.2.1,x.out]|rw[H.out.2.2.1,x.out]
     exact⟨_,U,tA.r _,H.out.1.kp.fj kp⟩
   .go_wp2;go_quiet (fail);go_wp2;go_ret2;rw[H.out.2.1,show 24-n=0 by omega];exact⟨_,U,tA.r _,H.out.1.kp.fj kp⟩
def J0(B:ByteArray):Int×Int:=if 1200<B.size then(1,0)else if 0<=(xK B).2 then(2,(xK B).2)else(0,0)
def asf(b:B.size<=č)(w:Ý):ë Á 57 #[Ê B] w λe w'=>e=Ñ (Ď #[Â Ä (J0 B).1,Â Ä (J0 B).2])/\fc fh w w':=by
 unfold J0;by_cases h:1200<B.size
 .rw[if_pos h];go_enter Ŷ,Ū;go_wp2;go_ret2;exact⟨U,fc.fV _ _⟩
 .rw[if_neg h];have C:=acI (B:=B) Z w;generalize xK B=q at*;let⟨c,z⟩:=q;simp only at C|-;by_cases a:0<=z
  .rw[if_pos a];go_enter Ŷ,Ū;go_wp2_with (go_at_call 58;apply C.mono;rintro e u ⟨v,rfl,_,k⟩);go_ret2;exact⟨U,k⟩
  .rw[if_neg a];go_enter Ŷ,Ū;go_wp2_with (go_at_call 58;apply C.mono;rintro e u ⟨v,rfl,_,k⟩);go_ret2;exact⟨U,k⟩
end
end Go.Proofs.Y.gu
namespace Go.Proofs.Y.gu
open Go Go.Proofs Go.RowKit Go.Proofs.Y.Lift
theorem acJ{s c:St}(e:i<144)(f:oc c i=v)(g:∀b,b<144->b≠i->oc c b=oc s b):(iH s).set i v=iH c:=by
 apply ū;intro b;rw[List.getElem?_set];by_cases d:b<144
 .rw[zu c d,zu s d,mV];grind
 .rw[ā (by rw[mV];omega),ā (by rw[mV];omega)];grind
theorem acK(s:St)(a:i<8)(x:Int):(iH s).set i (Â Ü x)=iH (s.ft i x):=by
 refine acJ Z ?_ λj b c=> ?_
 .simp[oc,a,St.ft,St.fO,rK]
 .unfold oc St.ft St.fO;grind
end Go.Proofs.Y.gu
namespace Go.Proofs.Y.gu
open Go Go.Proofs Go.RowKit Go.Proofs.Y.Lift Go.Proofs.Y.iV Go.Proofs.Y.lB
structure BK(w0:Ý)(nb:Nat)(u1 u2:List (Int×Bool))(p:VR)(w:Ý):Prop where
 r:fq nb (gJ p) 126 w
 N:ie 236 p.2.1 p.1.C.length (oH p.1.C) w
 I:w.ownsRow w0.heap.size 4 1 p.2.2.1 u1.length (uJ u1)
 C:w.ownsRow w0.heap.size 3 1 p.2.2.2 u2.length (uI u2)
 kp:fc fh w0 w
 M:w0.heap.size<=nb
section
variable{w0 w':Ý}{nb:Nat}{v:fM}{c:Ì}{p:VR}{u1 u2:List (Int×Bool)}
def BK.fE(h:BK w0 nb u1 u2 p w)(k:fc fh w w'):BK w0 nb u1 u2 p w':=⟨h.r.C k id,h.N.fE k,im h.I k λ_ _=>id,im h.C k λ_ _=>id,h.kp.fj k,h.M⟩
def BK.fO(h:BK w0 nb u1 u2 (v,jQ,c,z) w)(i:Nat)(x:Ì){b:fM}(e:(gJ (v,jQ,c,z)).set i x=gJ (b,jQ,c,z))(d:b.C=v.C):BK w0 nb u1 u2 (b,jQ,c,z) (w.setCell ⟨nb,i,Å⟩ x):=by
 have k:=fc.I (X:=λk=>k=nb) (p:=⟨nb,i,Å⟩) U x<|Ð h.r.S;refine⟨by rw[<-e];exact h.r.fO i x,?_,?_,?_,h.kp.C k λj f q=>by have:=h.M;omega,h.M⟩
 .show ie 236 jQ b.C.length (oH b.C) _;rw[d];exact h.N.r k h.r
 .exact im h.I k λj q a=>iL h.I h.r A<|a▸q
 .exact im h.C k λj q a=>iL h.C h.r A<|a▸q
def BK.ft(h:BK w0 nb u1 u2 (v,jQ,c,z) w)(a:i<8)(x:Int):BK w0 nb u1 u2 ({v with s:=v.s.ft i x},jQ,c,z) (w.setCell ⟨nb,i,Å⟩<|Â Ü x):= h.fO i _ (by show(iH v.s++_).set i _=iH (v.s.ft i x)++_;rw[Ī _ _ (by rw[mV];omega),acK v.s a]) U
theorem asg(s:St)(a:i<8)(x:ByteArray):(iH s).set (8+i) (Ê x)=iH (s.r i x):=by
 refine acJ Z ?_ λj b c=> ?_
 .rw[NP a];simp[St.r,St.fO]
 .unfold oc St.r St.fO;grind
def BK.IT(h:BK w0 nb u1 u2 (v,jQ,c,z) w)(a:i<8)(x:ByteArray):BK w0 nb u1 u2 ({v with s:=v.s.r i x},jQ,c,z) (w.setCell ⟨nb,8+i,Å⟩<|Ê x):= h.fO (8+i) _ (by show(iH v.s++_).set (8+i) _=iH (v.s.r i x)++_;rw[Ī _ _ (by rw[mV];omega),asg v.s a]) U
def BK.Y(h:BK w0 nb u1 u2 (v,jQ,c,z) w)(a:i<144):w.cell? ⟨nb,i,Å⟩=Ã (oc v.s i):=h.r.r _ _<|by show(iH v.s++_)[i]?=_;rw[Ö (by rwa[mV]),zu _ a]
def BK.G(h:BK w0 nb u1 u2 (v,jQ,c,z) w):w.cell? ⟨nb,144,Å⟩=Ã (Â Ä v.h)/\w.cell? ⟨nb,145,Å⟩=Ã jQ/\w.cell? ⟨nb,146,Å⟩=Ã c/\w.cell? ⟨nb,147,Å⟩=Ã z:= ⟨h.r.r _ _<|rZ 0 U,h.r.r _ _<|rZ 1 U,h.r.r _ _<|rZ 2 U,h.r.r _ _<|rZ 3 U⟩
theorem BK.ash{e:Int×Bool}(h:BK w0 nb u1 u2 (v,jQ,c,z) w)(k:nW w w0.heap.size 4 1 c u1.length (uJ u1) 1 [ì e.2] x w'):BK w0 nb (u1++[e]) u2 (v,jQ,x,z) (w'.setCell ⟨nb,146,Å⟩ x):=by
 have d:=h.r.C k.r<|iL h.I h.r A;have f:=fc.I (X:=λk=>k=nb) (p:=⟨nb,146,Å⟩) U x<|Ð d.S;have l:∀{T:Ġ} {a:Ì} {n:Nat} {g:List Ì},T≠4->ie T a n g w->ie T a n g w':=λm q=>q.I k.r λj g o e b=>by let⟨i,r⟩:=nV h.I e;grind
 refine⟨?_,(l A h.N).r f d,?_,?_,(h.kp.C k.r λi r q=>by have:=(h.I.lt i q).1;omega).C f λj i q=>by have:=h.M;omega,h.M⟩
 .have:=d.fO 146 x;rwa[show(gJ (v,jQ,c,z)).set 146 x=gJ (v,jQ,x,z) by show(iH v.s++_).set 146 _=iH v.s++_;rw[Ŏ _ _ (by rw[mV];omega),mV];rfl]at this
 .have:=im k.fg f λj q b=>iL k.fg d A<|b▸q;rwa[show u1.length+1=(u1++[e]).length by simp,show uJ u1++[ì e.2]=uJ (u1++[e]) by simp[uJ]]at this
 .refine im (im h.C k.r λj q b=> ?_) f λj q b=> ?_
  .exact IL h.C h.I A q b
  .exact iL (im h.C k.r λj q b=>IL h.C h.I A q b) d A<|b▸q
theorem BK.asi{e:Int×Bool}(h:BK w0 nb u1 u2 (v,jQ,c,z) w)(k:nW w w0.heap.size 3 1 z u2.length (uI u2) 1 [Â Ä e.1] x w'):BK w0 nb u1 (u2++[e]) (v,jQ,c,x) (w'.setCell ⟨nb,147,Å⟩ x):=by
 have d:=h.r.C k.r<|iL h.C h.r A;have f:=fc.I (X:=λk=>k=nb) (p:=⟨nb,147,Å⟩) U x<|Ð d.S;have l:∀{T:Ġ} {a:Ì} {n:Nat} {g:List Ì},T≠3->ie T a n g w->ie T a n g w':=λm q=>q.I k.r λj g o e b=>by let⟨i,r⟩:=nV h.C e;grind
 refine⟨?_,(l A h.N).r f d,?_,?_,(h.kp.C k.r λi r q=>by have:=(h.C.lt i q).1;omega).C f λj i q=>by have:=h.M;omega,h.M⟩
 .have:=d.fO 147 x;rwa[show(gJ (v,jQ,c,z)).set 147 x=gJ (v,jQ,c,x) by show(iH v.s++_).set 147 _=iH v.s++_;rw[Ŏ _ _ (by rw[mV];omega),mV];rfl]at this
 .refine im (im h.I k.r λj q b=> ?_) f λj q b=> ?_
  .exact IL h.I h.C A q b
  .exact iL (im h.I k.r λj q b=>IL h.I h.C A q b) d A<|b▸q
 .have:=im k.fg f λj q b=>iL k.fg d A<|b▸q;rwa[show u2.length+1=(u2++[e]).length by simp,show uI u2++[Â Ä e.1]=uI (u2++[e]) by simp[uI]]at this
theorem asj{s:St}{y:Nat}{n:Int}(g:iZ s)(m:0<=n)(h:n+10<=(s i).ft):(((s.ft i<|(s i).ft-n).ft y<|wu<|(s.ft i ((s i).ft-n) y).ft+n).ft i<|wu<|(((s.ft i<|(s i).ft-n).ft y<|wu<|(s.ft i ((s i).ft-n) y).ft+n) i).ft-10)=(rP s i y n).2:=by
 have f:=g.ft i;unfold rP;rw[if_neg Z];have e:∀z:Int,0<=z->z<18446744073709551616->wu z=z:=λz a b=>AT a b;funext j;unfold St.ft St.fO;by_cases d:y=i
 .subst d;by_cases c:j=y
  .subst c;simp;have k:=f.2;grind
  .simp[c]
 .have l:¬i=y:=λq=>d q.symm;by_cases c:j=i
  .subst c;simp[l,d];have k:=f.2;grind
  .simp[c,d]
def asl{s:St}{q:ByteArray}(b:iZ s)(h:20<=(s i).ft):((s.r i q).ft i<|wu<|((s.r i q) i).ft-20)=(rQ s i q).2:=by
 have c:=b.ft i;unfold rQ;rw[if_neg Z];funext j;unfold St.ft St.r St.fO;by_cases a:j=i
 .subst a;simp;have d:=c.2;exact AT Z Z
 .simp[a]
end
end Go.Proofs.Y.gu
namespace Go.Proofs.Y.gu
open Go Go.Proofs Go.RowKit Go.Proofs.Y.Lift
section
variable{c:Array Ĥ}{a:Λ}{E:Prop}
def N0{p:Nat}{cs:List Ì}{d:TypeDesc}(c:w.rangeAt b p cs)(e:P.underlying T=Ã d)(f:d.isRow=Î)(g:(P.info? T).map (·.size)=Ã cs.length)(h:o.op=.load T qQ)(i:a.eval qQ=Æ (Ã ⟨b,p,Å⟩)):(Ę a.eval o).run P w=.ok (.value<|ý cs.toArray) w:=by unfold Ę;simp only[h,i,Instr.loadAt,Instr.sureAddr,Sem.run_bind,Sem.run_pure,Result.andThen_ok,run_loadVar_mid w b p T cs d c e f g]
end
def U7{g:Array Ĥ}{j:List Ĥ}{c:Ĥ}{a:Λ}{y:İ}{d:Tmp}{us:List Ì}(q:fq i l T w)(e:fq n us T w)(r:lz T=È)(s:(Á.underlying T).map Ā=Ã Î)(m:(Á.info? T).map (·.size)=Ã l.length)(p:us.length=l.length)(t:∀v∈l,v.oneCell'=Î) (h:∀f,fq n l T f->fc (λk=>k=n) w f->ŝ Á g vJ j (a.put (Ã d)<|ý l.toArray) f) (u:o.guard=Å) (z:o.op=.load T qQ) (B:o.dst=Ã d) (C:c.guard=Å) (D:c.op=.store T y (.tmp d)) (E:c.dst=Å) (F:a.eval qQ=Æ (Ã ⟨i,0,Å⟩)) (G:(a.put (Ã d)<|ý l.toArray).eval y=Æ (Ã ⟨n,0,Å⟩)) (H:(a.put (Ã d)<|ý l.toArray).eval (.tmp d)=ý l.toArray):ŝ Á g vJ (o::c::j) a w:=by let⟨I,J,K⟩:=Ë.1 s;apply ô u T qQ z i 0 F l I (fq.Y (tl:=[])<|by rwa[Þ]) J K m;rw[B];refine Ű C T y (.tmp d) D n 0 l.toArray G H (e.MY<|by simp[p]) (by rw[m];simp) (ŗ t) ?_;rw[E];exact h _ (by have:=IX l [] [] w us p (by simpa using e);simpa using this)<|IY (b:=n) l 0 w<|e.S r
def acM:(Á.underlying 121).map Ā=Ã Î:=fx
def N4:(Á.info? 121).map (·.size)=Ã 144:=fx
def asn(s:St):∀v∈iH s,v.oneCell'=Î:=λv a=>by
 obtain⟨i,b,rfl⟩:=ö.1 a;unfold oc;repeat' split
 all_goals rfl
end Go.Proofs.Y.gu
namespace Go.Proofs.Y.gu
open Go Go.Proofs Go.RowKit Go.Proofs.Y.Lift Go.Proofs.Y.iV Go.Proofs.Y.lB
def aso:((Á.info? 126).bind (·.zero)).map (λz=>z.cells.toList.drop 144)=Ã [Â Ä 0,Ç Å 0 0,Ç Å 0 0,Ç Å 0 0]:=fx
def asq:((Á.info? 126).bind (·.zero)).map (λz=>z.cells.size)=Ã 148:=fx
def acN:I1 Á 126=Ã [(0,144),(144,1),(145,1),(146,1),(147,1)]:=fx
def asr:(Á.info? 126).map (λi=>(i.size,i.zero.map (·.cells.size)))=Ã (148,Ã 148):=fx
def wi:(Á.info? 126).map (·.size)=Ã 148:=fx
def zz:(Á.underlying 126).map Ā=Ã Î:=fx
theorem asu(h:l.length=144)(a:v.cells=#[v]):Á.built 126 [(0,ý l.toArray),(1,v)]=Ã (l++[v,Ç Å 0 0,Ç Å 0 0,Ç Å 0 0]).toArray:=by let⟨z,g,c,d,f⟩:=M3 aso asq A;rw[I2 acN c,f];have b:=Df (place:=λi=>[(0,144),(144,1),(145,1),(146,1),(147,1)].toArray[i]?) (pre:=[]) (suf:=[Â Ä 0,Ç Å 0 0,Ç Å 0 0,Ç Å 0 0]) (i:=0) (v:=ý l.toArray) (rest:=[(1,v)]) U (by show l.toArray.size=144;simp[h]) d;simp only[ď]at b;rw[b];have e:(ý l.toArray).cells.toList=l:=rfl;rw[e];rw[show(l++[Â Ä 0,Ç Å 0 0,Ç Å 0 0,Ç Å 0 0])=l++[Â Ä 0]++[Ç Å 0 0,Ç Å 0 0,Ç Å 0 0] by simp,(Df (place:=λi=>[(0,144),(144,1),(145,1),(146,1),(147,1)].toArray[i]?) (old:=[Â Ä 0]) (suf:=[Ç Å 0 0,Ç Å 0 0,Ç Å 0 0]) (i:=1) (rest:=[]) (by show Ã (144,1)=Ã (l.length,1);rw[h]) (by rw[a];rfl) U)];simp[Instr.fill,a]
theorem asv{y:İ}(a:o.op=.build 126 #[(0,qQ),(1,y)])(b:xX qQ=ý l.toArray)(c:xX y=v)(d:l.length=144)(e:v.cells=#[v]):(Ę xX o).run Á w=.ok (.value<|ý (l++[v,Ç Å 0 0,Ç Å 0 0,Ç Å 0 0]).toArray) w:=by apply I3 a;grind [asu]
def N5{p:VR}(b:p.2.1.oneCell'=Î)(c:p.2.2.1.oneCell'=Î)(d:p.2.2.2.oneCell'=Î):∀v∈gJ p,v.oneCell'=Î:=λv a=>by
 rcases û.1 a with q|q
 .exact asn _ v q
 .simp at q;rcases q with rfl|rfl|rfl|rfl
  .rfl
  all_goals assumption
def U8{t u:Tmp}(a:fq i l T w)(b:(Á.underlying T).map Ā=Ã Î)(c:(Á.info? T).map (·.size)=Ã l.length)(h:s.results=#[.cell t T,.tmp u])(e:d.getD t Δ=Æ (Ã ⟨i,0,Å⟩)):(results s d).run Á w=.ok (Ď #[ý l.toArray,d.getD u Δ]) w:=by let⟨j,f,g⟩:=Ë.1 b;exact TE h e (fq.Y (tl:=[])<|by rwa[Þ]) f g c
def acO{base:Nat}(h:w.ownsRow base T i v n l):v.oneCell'=Î:=by obtain⟨a,c,rfl⟩:=jv h;rfl
def BK.S{b d:List (Int×Bool)}{q:VR}(h:BK u i b d q w):∀v∈gJ q,v.oneCell'=Î:=N5 (by let⟨a,c,e,_⟩:=h.N;rw[e];rfl) (acO h.I)<|acO h.C
structure BL(w0:Ý)(nb rb m:Nat)(p:VR)(ts:List PT)(zc:List Ì)(j:Nat)(q:VR)(w:Ý):Prop where
 r:BK w0 nb q.1.r q.1.r q w
 I:fq rb zc 126 w
 M:iZ q.1.s
 h:q.1.h=p.1.h+1
 S:q.1.r.length=j
 N:o5 m p.1.s [] [] (ts.map toTx)=o5 m q.1.s q.1.C q.1.r ((ts.drop j).map toTx)
 C:nb≠rb/\w0.heap.size<=rb
def acP:∀(a:List PT) (j i:Nat) (t:PT) (u:Ì),a[j]?=Ã t->(zy t)[i]?=Ã u->(oP a)[j*6+i]?=Ã u
 |[],j,i,t,u,h,_=>by cases h
 |q::r,0,i,t,u,h,hx=>by cases h;rwa[Ĳ,Ĕ,oP,ù,Ö (Ò.1 hx).1]
 |q::r,j+1,i,t,u,h,hx=>by have b:(zy q).length=6:=U;rw[oP,ù,å (by rw[b];omega),b,show(j+1)*6+i-6=j*6+i by omega];exact acP r j i t u h hx
def N6{zc:List Ì}(h:fq j zc T w)(a:fq n l T w)(b:lz T=È)(c:n≠j)(i:Nat)(x:Ì):fq j zc T (w.setCell ⟨n,i,Å⟩ x):=h.C (fc.I (X:=λk=>k=n) (p:=⟨n,i,Å⟩) U x<|Ð<|a.S b) λe=>c e.symm
structure BT(w0:Ý)(nb rb tb:Nat)(u1 u2:List (Int×Bool))(q:VR)(zc C:List Ì)(w:Ý):Prop where
 r:BK w0 nb u1 u2 q w
 I:fq rb zc 126 w
 C:fq tb C 260 w
 M:nb≠rb
def BT.fE{a b:List (Int×Bool)}{w':Ý}{tb:Nat}{q:VR}{zc:List Ì}(h:BT u i n tb a b q zc l w)(k:fc fh w w'):BT u i n tb a b q zc l w':=⟨h.r.fE k,h.I.C k id,h.C.C k id,h.M⟩
def BT.rh{a b:List (Int×Bool)}{tb:Nat}{q c:VR}{zc:List Ì}(h:BT u n j tb a b q zc l w)(k:BK u n a b c (w.setCell ⟨n,i,Å⟩ x)):BT u n j tb a b c zc l (w.setCell ⟨n,i,Å⟩ x):= ⟨k,N6 h.I h.r.r U h.M i x,h.C.C (fc.I (X:=λk=>k=n) (p:=⟨n,i,Å⟩) U x<|Ð h.r.r.S) λe=>fq.G h.C h.r.r A e,h.M⟩
def BT.ft{a b:List (Int×Bool)}{tb:Nat}{v:fM}{c:Ì}{zc:List Ì}(h:BT u n j tb a b (v,z,jQ,c) zc l w)(d:i<8)(x:Int):BT u n j tb a b ({v with s:=v.s.ft i x},z,jQ,c) zc l (w.setCell ⟨n,i,Å⟩<|Â Ü x):=h.rh<|h.r.ft d x
def BT.N{a b:List (Int×Bool)}{tb:Nat}{v:fM}{zc:List Ì}(h:BT u n j tb a b (v,x,z,jQ) zc l w)(c:i<8):w.cell? ⟨n,i,Å⟩=Ã (Â Ü (v.s i).ft)/\w.frozen? ⟨n,i,Å⟩=È:=⟨by rw[h.r.Y Z,FV c],h.r.r.I i⟩
def BT.S{a d:List (Int×Bool)}{w':Ý}{tb:Nat}{v:fM}{b:Ì}{zc:List Ì}{e:Int×Bool}(h:BT u i n tb a d (v,x,z,jQ) zc l w)(k:nW w u.heap.size 4 1 z a.length (uJ a) 1 [ì e.2] b w'):(w'.cell? ⟨i,146,Å⟩=Ã z/\w'.frozen? ⟨i,146,Å⟩=È)/\BT u i n tb (a++[e]) d (v,x,b,jQ) zc l (w'.setCell ⟨i,146,Å⟩ b):=by have c:=h.r.r.C k.r<|iL h.r.I h.r.r A;have f:=fc.I (X:=λk=>k=i) (p:=⟨i,146,Å⟩) U b<|Ð c.S;exact⟨⟨c.r _ _<|rZ 2 U,c.I _⟩,h.r.ash k,(h.I.C k.r<|iL h.r.I h.I A).C f λe=>h.M e.symm,(h.C.C k.r<|iL h.r.I h.C A).C f λe=>fq.G h.C h.r.r A e,h.M⟩
def BT.Y{d a:List (Int×Bool)}{w':Ý}{tb:Nat}{v:fM}{b:Ì}{zc:List Ì}{e:Int×Bool}(h:BT u i n tb d a (v,x,z,jQ) zc l w)(k:nW w u.heap.size 3 1 jQ a.length (uI a) 1 [Â Ä e.1] b w'):(w'.cell? ⟨i,147,Å⟩=Ã jQ/\w'.frozen? ⟨i,147,Å⟩=È)/\BT u i n tb d (a++[e]) (v,x,z,b) zc l (w'.setCell ⟨i,147,Å⟩ b):=by have c:=h.r.r.C k.r<|iL h.r.C h.r.r A;have f:=fc.I (X:=λk=>k=i) (p:=⟨i,147,Å⟩) U b<|Ð c.S;exact⟨⟨c.r _ _<|rZ 3 U,c.I _⟩,h.r.asi k,(h.I.C k.r<|iL h.r.C h.I A).C f λe=>h.M e.symm,(h.C.C k.r<|iL h.r.C h.C A).C f λe=>fq.G h.C h.r.r A e,h.M⟩
def acQ:(Á.info? 4).map (λi=>(i.zero,i.size,i.bytes))=Ã (Ã<|ì È,1,1):=fx
def acR:(Á.info? 3).map (λi=>(i.zero,i.size,i.bytes))=Ã (Ã<|Â Ä 0,1,8):=fx
def asw{y:Nat}{s:St}{ls:List (Nat×Int)}{us:List (Int×Bool)}{n k:Int}{pr:ByteArray}{r:List Tx}{a f b g d:Int}(j:iZ s)(l:0<=n)(p:(s i).ft=h)(q:(s.ft i (h-n) y).ft=c)(t:((s.ft i<|h-n).ft y a i).ft=f)(u:¬h<n+10)(v:Ü.wrap (c+n)=a)(w:Ü.wrap (f-10)=b)(o:(((s.ft i<|h-n).ft y a).ft i b m).ft=g)(z:Ü.wrap (g+10)=d):o5 m s ls us (⟨i,y,n,k,1,pr⟩::r)=o5 m ((((s.ft i<|h-n).ft y a).ft i b).ft m d) ls (us++[(10,Î)]) r/\iZ ((((s.ft i<|h-n).ft y a).ft i b).ft m d):=by
 subst p q v t w;have e:=asj (y:=y) j l (show n+10<=(s i).ft by omega);simp only[wu]at e;simp only[e]at o|-;subst o z;refine⟨?_,(aam j i y l).r m<|Dd _⟩;have:lV s ls ⟨i,y,n,k,1,pr⟩=((10,Î),Î,(rP s i y n).2,ls):=by simp[lV,rP,u]
 rw[o5,this];rfl
def asx{y:Nat}{s:St}{ls:List (Nat×Int)}{us:List (Int×Bool)}{n k:Int}{pr:ByteArray}{r:List Tx}{d b:Int}(f:iZ s)(j:pr.size<=40/\∀a∈pr.data.toList,ze a=Î)(l:(s.r i pr i).ft=h)(o:¬(s i).ft<20)(p:Ü.wrap (h-20)=c)(g:((s.r i pr).ft i c m).ft=d)(t:Ü.wrap (d+20)=b):o5 m s ls us (⟨i,y,n,k,2,pr⟩::r)=o5 m (((s.r i pr).ft i c).ft m b) ls (us++[(20,Î)]) r/\iZ (((s.r i pr).ft i c).ft m b):=by
 subst l p;have e:=asl (q:=pr) f (show 20<=(s i).ft by omega);simp only[wu]at e;simp only[e]at g|-;subst g t;refine⟨?_,(aan f i j).r m<|Dd _⟩;have:lV s ls ⟨i,y,n,k,2,pr⟩=((20,Î),Î,(rQ s i pr).2,ls):=by simp[lV,rQ,o]
 rw[o5,this];rfl
def BK.us{a b z:List (Int×Bool)}{v:fM}{c:Ì}(h:BK u i a b (v,x,jQ,c) w):BK u i a b ({v with r:=z},x,jQ,c) w:=⟨h.r,h.N,h.I,h.C,h.kp,h.M⟩
section
variable{w':Ý}{p:VR}
def asy(hs:iZ p.1.s)(hh:0<=p.1.h/\p.1.h<=40)(Q:m<8){d:List PT}(ht:ie 260 jQ d.length (oP d) w)(UI:∀t∈d,lB.Bb t)(hn:d.length<=8)(mI:∀t∈d,t.c.getD 4 0=1\/t.c.getD 4 0=2):ë Á 137 #[ý (gJ p).toArray,Â Ä m,jQ] w λe w'=>∃q:VR,e=Ñ (Ď #[ý (gJ q).toArray,ì (mP m p.1.s<|d.map toTx).isSome])/\fc fh w w'/\(∀v∈gJ q,v.oneCell'=Î)/\∀r,mP m p.1.s (d.map toTx)=Ã r->q.1=⟨r.1,r.2.1,r.2.2,p.1.h+1⟩/\wh q w':=by
 have HPL:=eZ mI;clear mI;let⟨i0,J,qh,iO,oI,oD⟩:=al8 asr;let⟨d0,hu0,vh⟩:=Ë.1 acM;have hB:=fq.N w (gJ p) 126;have k0:=fc.iw fh w (gJ p).toArray 126;have IZ:fq (w.alloc<|Ó (gJ p).toArray 126).heap.size J.cells.toList 126 ((w.alloc<|Ó (gJ p).toArray 126).alloc<|Ó J.cells 126):=by have:=fq.N (w.alloc<|Ó (gJ p).toArray 126) J.cells.toList 126;simpa using this
 have k1:=fc.iw fh (w.alloc<|Ó (gJ p).toArray 126) J.cells 126;have qa:(w.alloc<|Ó (gJ p).toArray 126).heap.size=w.heap.size+1:=fp
 rw[qa]at IZ;have asz:=(hB.C k1 id).r 144 _<|rZ 0 U;have qI:((w.alloc<|Ó (gJ p).toArray 126).alloc<|Ó J.cells 126).rangeAt w.heap.size 0 (iH p.1.s):=fq.Y<|hB.C k1 id;have B:=eZ<|À (k0.fj k1)<|À IZ<|À qI<|À qh<|À iO<|À oI<|À oD<|À hu0 vh;have HT:=eZ<|À ht<|À UI hs;clear qh iO oI oD hu0 vh hB k0 IZ k1 qa qI ht UI hs;obtain⟨tp,tcp,htv⟩:∃tp tcp,jQ=Ç tp d.length tcp:=by let⟨a,b,e,_⟩:=HT.out.1;exact⟨a,b,e⟩
 subst htv;go_enter Tryz.func137,Tryz.ntmps137;go_wp2_with (first
  |(with_reducible refine Ø U (Ã 3) U _ _ (sV U U) ?_)
  |(with_reducible refine Ø U (Ã 6) U _ _ (MX U B.out.2.2.2.1 B.out.2.2.2.2.2.1) ?_;generalize(w.alloc<|Ó (gJ p).toArray 126).alloc (Ó J.cells 126)=wa at*)
  |(refine qi 121 U ?_;refine ô U 121 _ U w.heap.size 0 U (iH p.1.s) d0 B.out.2.2.1 B.out.2.2.2.2.2.2.2.1 B.out.2.2.2.2.2.2.2.2 (by rw[N4,mV]) ?_)
  |(with_reducible refine Ø U (Ã 21) U _ _ (asv U U U (mV _) U) ?_)
  |(refine MZ U U 126 U 8 U _ _ U U B.out.2.2.2.1 B.out.2.2.2.2.2.1 (gJ (⟨p.1.s,[],[],p.1.h+1⟩,Ç Å 0 0,Ç Å 0 0,Ç Å 0 0)) (by rw[B.out.2.2.2.2.1];exact(lW _ _ _ _).symm) (by rw[B.out.2.2.2.2.2.2.1];exact(lW _ _ _ _).symm) U U (N5 U U U) ?_;intro w1 Iu oT C5))
 have L:BL w wa.heap.size (w.heap.size+1) m p d J.cells.toList 0 (⟨p.1.s,[],[],p.1.h+1⟩,Ç Å 0 0,Ç Å 0 0,Ç Å 0 0) w1:= ⟨⟨Iu,ie.C _ _,ð _ _ _ _,ð _ _ _ _,B.out.1.fj oT,B.out.1.M⟩,B.out.2.1.C oT id,HT.out.2.2,U,U,by rw[List.drop_zero],by have:=B.out.2.1.M;omega,Z⟩;have hzl:J.cells.toList.length=148:=by rw[Ċ,B.out.2.2.2.2.2.2.1]
 have H:=eZ<|À L hzl;clear L hzl Iu oT C5 asz;generalize wa.heap.size=nb at*;generalize w.heap.size+1=rb at*;generalize J.cells.toList=zc at*;obtain⟨N,hN⟩:∃N,d.length=N:=⟨_,U⟩;rw[hN]at hn;simp only[hN];have HN:=eZ hN;clear hN;have HZ:=eZ<|H.out.2;go_loopw [9] (λi wr=>∃(j:Nat) (q:VR),j<=N/\i=Â Ä j/\BL w nb rb m p d zc j q wr) λi _=>N-(î i).toNat
 case atStart=>exact⟨0,_,Û _,U,H.out.1⟩
 case round=>
  clear H;obtain⟨j,q,hj,rfl,hL⟩:=hrel;have H:=eZ hL;clear hL;by_cases gE:j<N
  .let⟨v,lv,wv,gv⟩:=q;obtain⟨⟨c,pr⟩,FW⟩:∃t,d[j]?=Ã t:=⟨_,Í<|by rwa[HN.out]⟩;have FX:=HT.out.2.1 _<|â FW;have J2:c.getD 4 0=1\/c.getD 4 0=2:=HPL.out _<|â FW;have o0:=FX.c.r 0 A;have o1:=FX.c.r 1 A;have o2:=FX.c.r 2 A;have o3:=FX.c.r 3 A;simp only[ln]at o0 o1 o2 o3;have vL:(d.drop j).map toTx=toTx ⟨c,pr⟩::(d.drop<|j+1).map toTx:=by
    rw[ą (Ò.1 FW).1,(Ò.1 FW).2];rfl
   have K:=H.out.N;rw[vL]at K;have BY:∀i u,(zy ⟨c,pr⟩)[i]?=Ã u->∃b o,tp=Ã ⟨b,o,Å⟩/\wr.cell? ⟨b,o+j*6+i,Å⟩=Ã u:=λi u hu=>by let⟨_,_,e,_,hc⟩:=HT.out.1.fE H.out.r.kp;cases e;let⟨b,o,h1,_,h2⟩:=hc (j*6+i) u<|acP d j i ⟨c,pr⟩ u FW hu;exact⟨b,o,h1,by rwa[Nat.add_assoc]⟩
   obtain⟨b,o,rfl,Y⟩:=BY 0 _ U;have tc:∀i u,(zy ⟨c,pr⟩)[i]?=Ã u->wr.cell? ⟨b,o+j*6+i,Å⟩=Ã u:=λi u hu=>by let⟨b',o',e,h⟩:=BY i u hu;cases e;exact h
   have t1:=tc 1 _ U;have t2:=tc 2 _ U;have t3:=tc 3 _ U;have t4:=tc 4 _ U;have t5:=tc 5 _ U;rw[Nat.add_zero]at Y;simp only at Y t1 t2 t3 t4 t5;have zi:toTx ⟨c,pr⟩=⟨(c.getD 0 0).toNat,(c.getD 1 0).toNat,c.getD 2 0,c.getD 3 0,c.getD 4 0,pr⟩:=U;rw[zi]at K;obtain⟨x,hx⟩:∃x:Nat,c.getD 0 0=x:=⟨(c.getD 0 0).toNat,Z⟩;obtain⟨y,hy⟩:∃y:Nat,c.getD 1 0=y:=⟨(c.getD 1 0).toNat,Z⟩;obtain⟨n,Dh⟩:∃n:Nat,c.getD 2 0=n:=⟨(c.getD 2 0).toNat,Z⟩;obtain⟨k,vg⟩:∃k:Nat,c.getD 3 0=k:=⟨(c.getD 3 0).toNat,Z⟩;rw[hx]at o0 t1 K;rw[hy]at o1 t2 K;rw[Dh]at o2 t3 K;rw[vg]at o3 t4 K;simp only[ò]at K;generalize c.getD 4 0=kd at*;have hp5:=FX.p;have HG:=eZ<|À K hp5;clear K hp5 BY tc vL zi hx hy Dh vg FX FW;have M:x<8:=Z
   have G:=H.out.r.Y (show x<144 by omega);rw[FV M]at G;let⟨q0,q1⟩:=H.out.M.ft x;have l1:=H.out.r.r.M;have f1:=H.out.r.r.I x;by_cases oT:kd=1
   .clear J2;subst oT;simp only[if_true]at Y;by_cases I:(v.s x).ft<n+10
    .have sK:Ü.wrap ((n:Int)+10)=(n:Int)+10:=AT Z Z;have S:mP m p.1.s (d.map toTx)=Å:=by
      unfold mP;rw[HG.out.1];simp[o5,lV,rP,I]
     have HX:=eZ S;clear S;generalize(v.s x).ft=C at*;go_wp2_with (apply qi 126 U;refine U7 (H.out.r.fE kp).r (H.out.I.C (kp (X:=fh)) id) U zz (by rw[wi];exact congrArg Ã (lW _ _ _ _).symm) (by rw[HZ.out];exact(lW _ _ _ _).symm) H.out.r.S ?_ U U U U U U U U U;intro w9 Bo k9);refine ü (U8 Bo zz (by rw[wi];exact congrArg Ã (lW _ _ _ _).symm) U U) U ?_;rw[HX.out];exact⟨v,lv,wv,gv,U,(H.out.r.fE kp).kp.C k9 λi hi q=>(by have:=H.out.C.2;omega),H.out.r.S,by intros;contradiction⟩
    .have sK:Ü.wrap ((n:Int)+10)=(n:Int)+10:=AT Z Z;have sL:Ü.wrap (n:Int)=(n:Int):=AT Z Z;have sP:=decide_eq_false I;obtain⟨C,V⟩:∃C,(v.s x).ft=C:=⟨_,U⟩;rw[V]at G q0 q1 I sP;go_wp2;have D:=BT.mk (H.out.r.fE<|kp (w':=wr.alloc<|Ó #[Â ņ 62,Â Ä x,Â Ä y,Â Ä n,Â Ä k,Ê pr] 260)) (H.out.I.C (kp (X:=fh)) id) (fq.N wr [Â ņ 62,Â Ä x,Â Ä y,Â Ä n,Â Ä k,Ê pr] 260) H.out.C.1;have f:=eZ<|À H.out.M<|À H.out.C<|À H.out.h H.out.S;clear H G Y t1 t2 t3 t4 t5 l1 f1;generalize wr.alloc (Ó #[Â ņ 62,Â Ä x,Â Ä y,Â Ä n,Â Ä k,Ê pr] 260)=wt at*;generalize wr.heap.size=tb at*;have e1:=D.C.r 1 _ U;have e3:=D.C.r 3 _ U;let⟨G,f1⟩:=D.N M;rw[V]at G;have H1:=eZ<|(D.ft M<|C-n).fE<|fc.gG fh _;clear D;go_region;clear G f1 e1 e3;generalize(wt.setCell ⟨nb,x,Å⟩<|Â Ü<|C-n).drew=wu1 at*;as_aux_lemma=>
      have e2:=H1.out.C.r 2 _ U;have e3:=H1.out.C.r 3 _ U;have hy8:y<8:=Z
      let⟨b2,f2⟩:=H1.out.N hy8;obtain⟨by1,oX⟩:∃z,(v.s.ft x (C-n) y).ft=z:=⟨_,U⟩;simp only[oX]at b2;obtain⟨s2,rz⟩:∃s,Ü.wrap (by1+n)=s:=⟨_,U⟩;have H2:=eZ<|(H1.out.ft hy8 s2).fE<|fc.gG fh _;go_wp2;go_region;clear b2 f2 e2 e3;generalize(wu1.setCell ⟨nb,y,Å⟩<|Â Ü s2).drew=wu2 at*;as_aux_lemma=>
       have e1:=H2.out.C.r 1 _ U;let⟨b3,f3⟩:=H2.out.N M;obtain⟨z3,zC⟩:∃z,((v.s.ft x<|C-n).ft y s2 x).ft=z:=⟨_,U⟩;simp only[zC]at b3;obtain⟨O,E⟩:∃s,Ü.wrap (z3-10)=s:=⟨_,U⟩;have H3:=eZ<|(H2.out.ft M O).fE<|fc.gG fh _;have W:=eZ<|À V<|À oX<|À zC<|À I rz;clear rz V oX zC I sP sK sL q0 q1 o0 o1 o2 o3;go_wp2;go_region;clear b3 f3 e1;generalize(wu2.setCell ⟨nb,x,Å⟩<|Â Ü O).drew=wu3 at*;as_aux_lemma=>
        have Va:=eZ E;clear E;let⟨b4,f4⟩:=H3.out.N Q;obtain⟨z4,DR⟩:∃z,(((v.s.ft x<|C-n).ft y s2).ft x O m).ft=z:=⟨_,U⟩;simp only[DR]at b4;obtain⟨s4,Vb⟩:∃s,Ü.wrap (z4+10)=s:=⟨_,U⟩;have F:=eZ<|H3.out.ft Q s4;let⟨_,_,c6,c7⟩:=F.out.r.G;let⟨i4,J3,J4,J5,rG⟩:=ĝ acQ;let⟨i3,J6,J7,E,CR⟩:=ĝ acR;have g:=eZ<|À J3<|À J4<|À J5<|À rG<|À J6<|À J7<|À E CR;have Vd:=eZ DR;clear J3 J4 J5 rG J6 J7 E CR DR;have l4:=F.out.r.r.M;go_wp2_with (first
         |(at_builtin;refine xn (n:=v.r.length) (xs:=uJ v.r) (m:=1) U _ _ 123 U ş g.out.1 g.out.2.1 g.out.2.2.1 g.out.2.2.2.1 U U (F.out.fE kp).r.I ⟨_,0,Å⟩ [ì Î] U Z U (xN _ [ì Î] 4) (by simp[ß]) (by rw[f.out.2.2.2];unfold č;omega) (by rw[f.out.2.2.2];omega) (F.out.fE kp).r.kp.M ?_;intro w1v w5 l;obtain⟨p5,r5,rfl⟩:=jv l.fg;let⟨c5,P⟩:=BT.S (e:=(10,Î)) (F.out.fE kp) l;let⟨c5,f5⟩:=c5;let⟨_,_,_,c7⟩:=P.r.G;have l5:=P.r.r.M;have H5:=eZ P;clear P l)
         |(at_builtin;refine xn (n:=v.r.length) (xs:=uI v.r) (m:=1) U _ _ 124 U Š g.out.2.2.2.2.1 g.out.2.2.2.2.2.1 g.out.2.2.2.2.2.2.1 g.out.2.2.2.2.2.2.2 U U (H5.out.fE kp).r.C ⟨_,0,Å⟩ [Â Ä 10] U Z U (xN _ [Â Ä 10] 3) (by simp[ß]) (by rw[f.out.2.2.2];unfold č;omega) (by rw[f.out.2.2.2];omega) (H5.out.fE kp).r.kp.M ?_;intro g1v w6 l;obtain⟨p6,r6,rfl⟩:=jv l.fg;let⟨c6,h6⟩:=BT.Y (e:=(10,Î)) (H5.out.fE kp) l;let⟨c6,f6⟩:=c6;have H6:=eZ h6;clear h6 l))
        let⟨g1,g2⟩:=asw (m:=m) (ls:=v.C) (us:=v.r) (k:=k) (pr:=pr) (r:=(d.drop<|j+1).map toTx) f.out.1 (Int.natCast_nonneg n) W.out.1 W.out.2.1 W.out.2.2.1 (Ζ.2 W.out.2.2.2.1) W.out.2.2.2.2 Va.out Vd.out Vb;exact⟨⟨j+1,(⟨(((v.s.ft x<|C-n).ft y s2).ft x O).ft m s4,v.C,v.r++[(10,Î)],v.h⟩,lv,Ç p5 (v.r.length+1) r5,Ç p6 (v.r.length+1) r6),gE,fp,⟨H6.out.r.us (z:=v.r++[(10,Î)]),H6.out.I,g2,f.out.2.2.1,by simp[f.out.2.2.2],by rw[HG.out.1,g1],f.out.2.1⟩⟩,by simp[î];omega⟩
   .simp only[oT,if_false]at Y;by_cases asA:kd=2
    .clear J2;subst asA;simp only[if_true]at Y;by_cases I:(v.s x).ft<20
     .have S:mP m p.1.s (d.map toTx)=Å:=by
       unfold mP;rw[HG.out.1];simp[o5,lV,rQ,I]
      have HX:=eZ S;clear S;generalize(v.s x).ft=C at*;go_wp2_with (apply qi 126 U;refine U7 (H.out.r.fE kp).r (H.out.I.C (kp (X:=fh)) id) U zz (by rw[wi];exact congrArg Ã (lW _ _ _ _).symm) (by rw[HZ.out];exact(lW _ _ _ _).symm) H.out.r.S ?_ U U U U U U U U U;intro w9 Bo k9);refine ü (U8 Bo zz (by rw[wi];exact congrArg Ã (lW _ _ _ _).symm) U U) U ?_;rw[HX.out];exact⟨v,lv,wv,gv,U,(H.out.r.fE kp).kp.C k9 λi hi q=>(by have:=H.out.C.2;omega),H.out.r.S,by intros;contradiction⟩
     .have sP:=decide_eq_false I;obtain⟨C,V⟩:∃C,(v.s x).ft=C:=⟨_,U⟩;rw[V]at G q0 q1 I sP;have b5:=H.out.r.Y (show 8+x<144 by omega);rw[NP M]at b5;have f5:=H.out.r.r.I<|8+x;go_wp2;have D:=BT.mk ((H.out.r.IT M pr).fE<|kp (w':=(wr.setCell ⟨nb,8+x,Å⟩<|Ê pr).alloc<|Ó #[Â ņ 123,Â Ä x,Â Ä y,Â Ä n,Â Ä k,Ê pr] 260)) ((N6 H.out.I H.out.r.r U H.out.C.1 (8+x)<|Ê pr).C (kp (X:=fh)) id) (fq.N (wr.setCell ⟨nb,8+x,Å⟩<|Ê pr) [Â ņ 123,Â Ä x,Â Ä y,Â Ä n,Â Ä k,Ê pr] 260) H.out.C.1;rw[show(wr.setCell ⟨nb,8+x,Å⟩<|Ê pr).heap.size=wr.heap.size by simp]at D;have H2:=eZ D;have f:=eZ<|À H.out.M<|À H.out.C<|À H.out.h H.out.S;clear H D G b5 f5 Y t1 t2 t3 t4 t5 l1 f1;generalize(wr.setCell ⟨nb,8+x,Å⟩<|Ê pr).alloc (Ó #[Â ņ 123,Â Ä x,Â Ä y,Â Ä n,Â Ä k,Ê pr] 260)=wu2 at*;generalize wr.heap.size=tb at*;have e1:=H2.out.C.r 1 _ U;let⟨b3,f3⟩:=H2.out.N M;obtain⟨z3,zC⟩:∃z,(v.s.r x pr x).ft=z:=⟨_,U⟩;simp only[zC]at b3;obtain⟨O,E⟩:∃s,Ü.wrap (z3-20)=s:=⟨_,U⟩;have H3:=eZ<|(H2.out.ft M O).fE<|fc.gG fh _;have W:=eZ (À zC (by rw[V];omega:¬(v.s x).ft<20));clear V zC I sP q0 q1 o0 o1 o2 o3;go_wp2;go_region;clear b3 f3 e1;generalize(wu2.setCell ⟨nb,x,Å⟩<|Â Ü O).drew=wu3 at*;as_aux_lemma=>
       have Va:=eZ E;clear E;let⟨b4,f4⟩:=H3.out.N Q;obtain⟨z4,DR⟩:∃z,((v.s.r x pr).ft x O m).ft=z:=⟨_,U⟩;simp only[DR]at b4;obtain⟨s4,Vb⟩:∃s,Ü.wrap (z4+20)=s:=⟨_,U⟩;have F:=eZ<|H3.out.ft Q s4;let⟨_,_,c6,c7⟩:=F.out.r.G;let⟨i4,J3,J4,J5,rG⟩:=ĝ acQ;let⟨i3,J6,J7,E,CR⟩:=ĝ acR;have g:=eZ<|À J3<|À J4<|À J5<|À rG<|À J6<|À J7<|À E CR;have Vd:=eZ DR;clear J3 J4 J5 rG J6 J7 E CR DR;have l4:=F.out.r.r.M;go_wp2_with (first
        |(at_builtin;refine xn (n:=v.r.length) (xs:=uJ v.r) (m:=1) U _ _ 123 U ş g.out.1 g.out.2.1 g.out.2.2.1 g.out.2.2.2.1 U U (F.out.fE kp).r.I ⟨_,0,Å⟩ [ì Î] U Z U (xN _ [ì Î] 4) (by simp[ß]) (by rw[f.out.2.2.2];unfold č;omega) (by rw[f.out.2.2.2];omega) (F.out.fE kp).r.kp.M ?_;intro w1v w5 l;obtain⟨p5,r5,rfl⟩:=jv l.fg;let⟨c5,P⟩:=BT.S (e:=(20,Î)) (F.out.fE kp) l;let⟨c5,f5⟩:=c5;let⟨_,_,_,c7⟩:=P.r.G;have l5:=P.r.r.M;have H5:=eZ P;clear P l)
        |(at_builtin;refine xn (n:=v.r.length) (xs:=uI v.r) (m:=1) U _ _ 124 U Š g.out.2.2.2.2.1 g.out.2.2.2.2.2.1 g.out.2.2.2.2.2.2.1 g.out.2.2.2.2.2.2.2 U U (H5.out.fE kp).r.C ⟨_,0,Å⟩ [Â Ä 20] U Z U (xN _ [Â Ä 20] 3) (by simp[ß]) (by rw[f.out.2.2.2];unfold č;omega) (by rw[f.out.2.2.2];omega) (H5.out.fE kp).r.kp.M ?_;intro g1v w6 l;obtain⟨p6,r6,rfl⟩:=jv l.fg;let⟨c6,h6⟩:=BT.Y (e:=(20,Î)) (H5.out.fE kp) l;let⟨c6,f6⟩:=c6;have H6:=eZ h6;clear h6 l))
       let⟨g1,g2⟩:=asx (m:=m) (y:=y) (n:=n) (ls:=v.C) (us:=v.r) (k:=k) (r:=(d.drop<|j+1).map toTx) f.out.1 HG.out.2 W.out.1 (Ζ.2 W.out.2) Va.out Vd.out Vb;exact⟨⟨j+1,(⟨((v.s.r x pr).ft x O).ft m s4,v.C,v.r++[(20,Î)],v.h⟩,lv,Ç p5 (v.r.length+1) r5,Ç p6 (v.r.length+1) r6),gE,fp,⟨H6.out.r.us (z:=v.r++[(20,Î)]),H6.out.I,g2,f.out.2.2.1,by simp[f.out.2.2.2],by rw[HG.out.1,g1],f.out.2.1⟩⟩,by simp[î];omega⟩
    .exact absurd J2 Z
  .obtain rfl:j=N:=Z
   let⟨v,lv,wv,gv⟩:=q;have G:=H.out.r.Y (show m<144 by omega);rw[FV Q]at G;have f1:=H.out.r.r.I m;have S:mP m p.1.s (d.map toTx)=Ã (v.s.ft m<|wu<|(v.s m).ft+50,v.C,v.r):=by unfold mP;rw[H.out.N,List.drop_of_length_le (by rw[HN.out];exact Ù _)];rfl
   have HX:=eZ S;clear S;generalize hbm:(v.s m).ft=bm at*;go_wp2_with (apply qi 126 U;refine U7 (H.out.r.ft Q<|wu<|bm+50).r (N6 H.out.I H.out.r.r U H.out.C.1 m<|Â Ü<|wu<|bm+50) U zz (by rw[wi];exact congrArg Ã (lW _ _ _ _).symm) (by rw[HZ.out];exact(lW _ _ _ _).symm) (H.out.r.ft Q<|wu<|bm+50).S ?_ U U U U U U U U U;intro w9 Bo k9);refine ü (U8 Bo zz (by rw[wi];exact congrArg Ã (lW _ _ _ _).symm) U U) U ?_;rw[HX.out];have hE:=H.out.r.ft Q<|wu<|bm+50;have kr:∀{T:Ġ} {x:Ì} {n:Nat} {cs:List Ì},T≠126->ie T x n cs (wr.setCell ⟨nb,m,Å⟩<|Â Ü<|wu<|bm+50)->ie T x n cs w9:=λhT q=>q.r k9 (N6 H.out.I H.out.r.r U H.out.C.1 m _) hT;refine⟨({v with s:=v.s.ft m (wu<|bm+50)},lv,wv,gv),U,?_,hE.S,λr hr=> ?_⟩
   .exact hE.kp.C k9 λi hi q=>by have:=H.out.C.2;omega
   .cases hr;exact⟨by have:=H.out.h;simp only at this|-;rw[this],kr A hE.N,kr A<|JZ hE.I,kr A<|JZ hE.C⟩
end
end Go.Proofs.Y.gu
namespace Go.Proofs.Y.gu
open Go Go.Proofs Go.RowKit Go.Proofs.Y.Lift Go.Proofs.Y.iV
section
variable{d:Array Ĥ}{a:Λ}{E:Prop}
def acS{i:TypeInfo}{cs:List Ì}(b:P.underlying t=Ã (.slice e))(c:P.info? e=Ã i)(f:i.zero=Ã z)(g:i.size=cs.length)(p:0<cs.length)(q:cs.length<=1000) (h:K (a.put o.dst<|Ç (Ã ⟨w.heap.size,0,Å⟩) 1 1) (w.alloc<|Ó cs.toArray e)) (k:o.guard=Å) (l:o.op=.buildSlice t 1 #[(0,qQ)]) (m:a.eval qQ=ý cs.toArray): if Region.wanted o (yielded d a.tmps)=Î then Oper.wp P o a w K vJ else E:=by rw[if_pos (by simp[Region.wanted,k])];refine wp_buildSlice t e 1 _ l cs.toArray i z b c f Z Z ?_ h;generalize n:(Array.range<|1*i.size).map (z.cells[· %z.cells.size]!)=A;have:=Df (place:=λj=>Ã (j*i.size,i.size)) (pre:=[]) (old:=A.toList) (suf:=[]) (i:=0) (size:=i.size) (v:=ý cs.toArray) (rest:=[]) fp (by show cs.toArray.size=_;simp[g]) (by rw[<-n];simp);rw[ď,Þ,Array.toArray_toList]at this;simp only[List.map_toArray,Ř,Ξ,m];rw[this];simp[Instr.fill,Value.cells]
end
section
variable{b:List VR}{p:VR}{w':Ý}
theorem RA.N(h:RA j v b w)(r:wh p w)(k:nW w 0 126 148 v b.length (uK b) 1 (gJ p) x w'):fq j [v] 81 w'/\RA j x (b++[p]) (w'.setCell ⟨j,0,Å⟩ x)/\fc (λi=>i=j\/v.ownBlock=Ã i) w (w'.setCell ⟨j,0,Å⟩ x):=by
 have d:=h.r.C k.r<|iL h.fg h.r A;have f:=fc.I (X:=λk=>k=j) (p:=⟨j,0,Å⟩) U x<|Ð d.S;have g:∀{T:Ġ} {a:Ì} {n:Nat} {l:List Ì},T≠126->T≠81->ie T a n l w->ie T a n l (w'.setCell ⟨j,0,Å⟩ x):=λs m q=>(q.I k.r λc l o e z=>by let⟨t,u⟩:=nV h.fg e;grind).r f d m;refine⟨d,⟨d.fO 0 x,?_,λq o=> ?_⟩,(k.r.ff λi _ q=>Ð q).C f λi _ q=>É q⟩
 .have:=im k.fg f λc q z=>iL k.fg d A<|z▸q;rwa[show b.length+1=(b++[p]).length by simp,show uK b++gJ p=uK (b++[p]) by simp[uK]]at this
 .have c:wh q w:=by
   rcases û.1 o with e|e
   .exact h.C q e
   .grind
  exact⟨g A A c.C,g A A c.I,g A A c.r⟩
def vz(n:Nat):VR:=(⟨jx n,[],[],0⟩,Ç Å 0 0,Ç Å 0 0,Ç Å 0 0)
def Ve:(Á.info? 126).map (λi=>(i.size,i.bytes,i.zero.map λz=>z.cells.toList))=Ã (148,1296,Ã<|gJ<|vz 0):=fx
def acT(n:Nat):∀v∈gJ (vz n),v.oneCell'=Î:=N5 U U U
def zD(n:Nat):(gJ<|vz n).length=148:=lW _ _ _ _
def asB(h:n<8):(gJ<|vz n).set n (Â Ü 1000)=gJ (vz<|n+1):=by show(iH (jx n)++_).set n _=iH (jx<|n+1)++_;rw[Ī _ _ (by rw[mV];omega),acK _ h,aaz];rfl
def asC{n:Int}(h:n<1\/8<n)(w:Ý):ë Á 39 #[Â Ä n] w λe w'=>e=Ñ (Ď #[Æ Å,Â Ä 7])/\w'=w:=by
 by_cases a:n<1
 .go_enter Ľ,Ŭ;go_wp2;go_ret2;exact⟨U,U⟩
 .go_enter Ľ,Ŭ;go_wp2;go_ret2;exact⟨U,U⟩
def asD(n:Int)(h1:1<=n)(h8:n<=8)(w:Ý):ë Á 39 #[Â Ä n] w λe w'=>∃j v,e=Ñ (Ď #[Æ<|Ã ⟨j,0,Å⟩,Â Ä 0])/\RA j v [vz 8] w'/\fc fh w w':=by
 let⟨i0,x,N⟩:=Ë.1 Ve;simp only[Ŀ,Ë]at N;let⟨y,O,B,C,P⟩:=N;have s:B.cells=(gJ<|vz 0).toArray:=by rw[<-P]
 have Q:Á.built 126 []=Ã (gJ<|vz 0).toArray:=by rw[I2 acN (z:=B) (by rw[x];exact C),s];rfl
 let⟨dd,S,T⟩:=Ë.1 zz;have d:=eZ (À x<|À C<|À (y.trans (zD 0).symm)<|À (show B.cells.size=_ by rw[s])<|À Q<|À S<|À T O);have D:=eZ<|À y s;clear x y O C P s Q S T;go_enter Ľ,Ŭ;go_wp2_with (first
  |(with_reducible refine Ø U (Ã 13) U _ _ (I3 U d.out.2.2.2.2.1) ?_)
  |(refine MZ U U 126 U 4 U _ _ U U d.out.1 d.out.2.1 (gJ (vz 0)) d.out.2.2.1 d.out.2.2.2.1 U U (acT 0) ?_;intro w1 E V C5))
 obtain⟨g,W⟩:∃g,w.heap.size=g:=⟨_,U⟩;rw[W]at E;simp only[W];have H:=eZ<|À E V;clear E V C5;go_loopw [5] (λi wr=>∃a:Nat,a<=8/\i=Â Ä a/\fq g (gJ<|vz a) 126 wr/\fc fh w wr) λi _=>8-(î i).toNat
 case atStart=>exact⟨0,Û _,U,H.out.1,H.out.2⟩
 case round=>
  clear H;obtain⟨a,hj,rfl,m,t⟩:=hrel;by_cases F:a<8
  .have c:=m.r a (Â Ü 0) (by
    show(iH (jx a)++_)[a]?=_;rw[Ö (by rw[mV];omega),zu _ Z];simp[oc,F,jx,rK])
   have f:=m.I a;have l:=m.M;have H:=eZ<|À m t;clear m t;go_wp2;go_roundw
   case rel=>exact⟨a+1,F,by go_num,by rw[<-asB F];exact H.out.1.fO a _,H.out.2.C (fc.I (X:=λk=>k=g) (p:=⟨g,a,Å⟩) U _<|Ð H.out.1.S) λi hi q=>by omega⟩
   case measure=>simp[î];omega
  .obtain rfl:a=8:=Z
   have H:=eZ<|À m t;clear m t;go_wp2;have G:=fc.iw fh wr #[Ç Å 0 0] 81;have I:=H.out.1.C (G.fj<|fc.gG _ _) id;have J:fq wr.heap.size [Ç Å 0 0] 81 (wr.alloc<|Ó #[Ç Å 0 0] 81).drew:=(fq.N wr [Ç Å 0 0] 81).C (fc.gG fh _) id;have Y:=H.out.1.M;have HK:=eZ<|(H.out.2.fj G).fj<|fc.gG _ _;generalize wr.heap.size=j at*;have HS:=eZ (À (J.r 0 _ rfl)<|fq.Y (tl:=[])<|by rw[Þ];exact I);have r:=eZ<|À J<|À I Y;clear G I J Y H;refine oZ (λw'=>w'.cell? ⟨j,0,Å⟩=Ã (Ç Å 0 0)/\w'.rangeAt g 0 (gJ<|vz 8)) [10] fx ?_;generalize(wr.alloc<|Ó #[Ç Å 0 0] 81).drew=w2 at*;iterate 5 apply tk HS.out
   refine tk (v:=ý (gJ<|vz 8).toArray) HS.out 5 ?_ (hy:=λw h=>N0 h.2 d.out.2.2.2.2.2.1 d.out.2.2.2.2.2.2.1 (by rw[wi];exact congrArg Ã (zD 8).symm) fL fL);apply ia 6;intro K b;refine acS (cs:=gJ<|vz 8) ģ d.out.1 d.out.2.1 (D.out.1.trans (zD 8).symm) (by rw[zD];decide) (by rw[zD];decide) ?_ U U U;have o:=fc.iw fh w2 (gJ<|vz 8).toArray 126;refine b.out _ _ (λ_=>⟨(r.out.1.C o id).r 0 _ U,fq.Y (tl:=[])<|by rw[Þ];exact r.out.2.1.C o id⟩) ?_;clear b K;apply ia 7;intro K b;have L:RA j (Ç Å 0 0) [] (w2.alloc<|Ó (gJ<|vz 8).toArray 126):=⟨r.out.1.C o id,ð _ _ _ _,λ_ q=>by cases q⟩;refine IV U _ _ 79 U ģ d.out.1 d.out.2.1 D.out.1 d.out.2.2.2.2.2.2.2 (by rw[D.out.2];exact zD 0) U L.fg ⟨_,0,Å⟩ (gJ<|vz 8) U Ų (zD 8) (xN w2 (gJ<|vz 8) 126) (acT 8) A A (Û _) ?_;intro v' w4 u;let⟨M,g2,g3⟩:=L.N ⟨ie.C _ _,ie.C _ _,ie.C _ _⟩ u;have g4:=M.r 0 _ U;have g5:=M.I 0;have S4:w4.cell? ⟨j,0,Å⟩=Ã (Ç Å 0 0)/\w4.rangeAt g 0 (gJ<|vz 8):=⟨g4,fq.Y (tl:=[])<|by rw[Þ];exact(r.out.2.1.C o id).C u.r λq=>by cases q⟩;apply b.out _ _ λ_=>S4;clear b K;obtain⟨p,c,rfl⟩:=jv u.fg;have HE:=eZ (À g2 ((HK.out.fj o).C g3 λi hi q=>by
    have:=r.out.2.2;rcases q with q|q
    .omega
    .cases q))
   have HG:=eZ S4;clear u M g2 g3 o L;apply ia 8;intro K b;go_simp;apply b.out _ _ λ_=>HG.out;clear b K;apply ia 9;intro K b;go_simp;apply b.out _ _ λ_=>HG.out;clear b K;apply ia 10;intro K b;go_simp;apply b.out _ _ λq=>absurd fp q;clear b K;refine oY fx ?_ _;go_wp2;go_ret2;exact⟨j,_,U,HE.out.1,HE.out.2⟩
end
end Go.Proofs.Y.gu
namespace Go.Proofs.Y.iV
open Go Go.Conc Go.Proofs Go.RowKit Go.Proofs.Y.Lift Go.Proofs.Y.gu Go.Proofs.Y.fA Go.Proofs.Y.lB
section
variable{Y:fw}{Sh:Nat->Prop}{f:List VR}
def LR(Y:fw)(a b:List Ì):Prop:=a.length=b.length/\∀(j:Nat) (x c:Ì),a[j]?=Ã x->b[j]?=Ã c->fu Y x c
def LR.acU{a b:List Ì}(h:LR Y (a++b) l):∃g i,l=g++i/\LR Y a g/\LR Y b i:=by
 have m:=h.1;rw[à]at m;refine⟨l.take a.length,l.drop a.length,(ō _ _).symm,⟨by rw[ű];omega,λj x e d f=> ?_⟩,⟨by rw[List.length_drop];omega,λj x e d f=> ?_⟩⟩
 .have k:=(Ò.1 d).1;exact h.2 j x e (by rwa[Ö k])<|by rwa[ŀ k]at f
 .exact h.2 (a.length+j) x e (by rwa[å Z,ń])<|by rwa[Ŝ]at f
def LR.eq{a b:List Ì}(h:LR Y a b)(k:∀x∈a,∀c,fu Y x c->c=x):b=a:=by
 refine ū λj=> ?_;rcases Ŋ j a.length with q|q
 .have d:j<b.length:=by rwa[<-h.1]
  rw[Í q,Í d];exact congrArg Ã<|k _ (List.getElem_mem q) _<|h.2 j _ _ (Í q)<|Í d
 .rw[ā q,ā (by rwa[<-h.1])]
def Vf(h:je Y Sh u w)(i:fu Y v z)(m:∀x∈l,j4 x=Î)(k:ie T v n l u):ie T z n l w:=by obtain⟨p,s,rfl,q,r⟩:=k;obtain⟨t,rfl,y⟩:=Jj i;refine⟨t,s,U,q,λj x a=> ?_⟩;let⟨b,o,e,⟨F,G,d⟩,B⟩:=r j x a;obtain⟨H,rfl,C⟩:=y _ e;obtain⟨f,rfl,g⟩:=vR C;let⟨c,I,e,J,K,D,E,_⟩:=h.r b f g;rw[D]at d;cases d;exact⟨f,o,U,⟨_,_,E⟩,(zg h).C (m x<|â a) g B⟩
def asE(us:List (Int×Bool)):∀x∈uI us,j4 x=Î:=λx a=>by obtain⟨e,_,rfl⟩:=ö.1 a;rfl
def asF(us:List (Int×Bool)):∀x∈uJ us,j4 x=Î:=λx a=>by obtain⟨e,_,rfl⟩:=ö.1 a;rfl
def acV(h:je Y Sh u w):∀(f:List VR) (j:List Ì),(∀p∈f,wh p u)->LR Y (uK f) j->∃g:List VR,j=uK g/\g.map (·.1)=f.map (·.1)/\∀p∈g,wh p w
 |[],j,_,hy=>⟨[],ø hy.1.symm,U,λ_ q=>by cases q⟩
 |(v,lv,wv,gv)::r,j,hp,hy=>by
  obtain⟨D,l,rfl,m,n⟩:=LR.acU (a:=iH v.s++[Â Ä v.h,lv,wv,gv]) (b:=uK r) hy;obtain⟨E,o,rfl,t,e⟩:=m.acU;obtain⟨g,rfl,y,z⟩:=acV h r l (λp q=>hp p<|List.mem_cons_of_mem _ q) n;obtain rfl:=t.eq λx B F k=>by
   obtain⟨i,C,rfl⟩:=ö.1 B;revert k;unfold oc;repeat' split
   all_goals(intro k;cases k;rfl)
  match o,e with
  |[a,b,c,d],e=>
   have C:=e.2 0 _ _ U U;cases C;have i:=hp _<|List.mem_cons_self ..;refine⟨(v,b,c,d)::g,U,by simp[y],λp q=> ?_⟩;rcases Ĩ.1 q with rfl|q
   .exact⟨Vf h (e.2 1 _ _ U U) (R' _) i.C,Vf h (e.2 2 _ _ U U) (asF _) i.I,Vf h (e.2 3 _ _ U U) (asE _) i.r⟩
   .exact z p q
theorem acW(h:je Y (λ_=>False) u w)(z:Y i n)(k:RA i v f u):∃B a,RA n B a w/\a.map (·.1)=f.map (·.1):=by
 let⟨c,C,e,D,E,b,l,F,_,G,_⟩:=h.r i n z;rw[k.r]at b;cases b;cases G id;have m:=F.r id;let⟨H⟩:=C;match H,m.r with
 |[x],_=>
  have o:fu Y v x:=m.C 0 fp fp;obtain⟨I,⟨J,K⟩|⟨g,L,cur,rfl,hb,M,N,O,P,Q⟩⟩:=id k.fg
  .obtain rfl:f=[]:=ø K;subst J;cases o;exact⟨_,[],⟨l,ð _ _ _ _,λ_ q=>by cases q⟩,rfl⟩
  .cases o with
   |j5 q=>
    obtain⟨p,rfl,S⟩:=vR q;let⟨c,r,e,D,E,b,T,V,_,W,_⟩:=h.r g p S;rw[M]at b;cases b;cases W id;have d:=V.r id;have s:LR Y (uK f) (r.toList.take<|f.length*148):=by
     rw[<-Q];refine⟨by simp[d.r],λj x x' t y=> ?_⟩;have X:j<f.length*148:=by grind
     rw[ŀ X,ĥ]at t y;obtain⟨y1,rfl⟩:=ï.1 t;obtain⟨y2,rfl⟩:=ï.1 y;exact d.C j y1 y2
    let⟨a,j,t,y⟩:=acV h f _ k.C s;have X:a.length=f.length:=by have:=congrArg ρ t;simpa using this
    refine⟨_,a,⟨l,?_,y⟩,t⟩;rw[X];refine⟨by rwa[<-j,<-s.1],Ð ⟨p,L,r,U,Û _,T,N,O,by rwa[<-d.r],j⟩⟩
def asG(h:fu (mh X i) (Ç (Ã a) n j) v):X a.block:=by
 cases h with
 |j5 q=>exact q.1.2
theorem acX(h:yZ X Sh i w)(a:X b)(d:w.cell? ⟨b,n,Å⟩=Ã v):fu (mh X i) v v:=by let⟨c,e,j,f,_,g,_⟩:=h.r b a;simp only[ã,f,Option.isSome_none,Ô,if_false]at d;rcases g.M n with⟨q,_⟩|⟨x,k,l,m,p⟩;all_goals grind
def Vg(k:ie T v n l w)(h:∀b,v.ownBlock=Ã b->W.heap[b]?=w.heap[b]?):ie T v n l W:=by obtain⟨p,a,rfl,q,r⟩:=k;refine⟨p,a,U,q,λj x c=> ?_⟩;obtain⟨b,o,rfl,⟨d,f,g⟩,i⟩:=r j x c;have e:=h b U;exact⟨b,o,U,⟨d,f,e.trans g⟩,xD e i⟩
def RA.asH(h:RA i v f w)(r:yZ X Sh n w)(s:X i)(k:∀b,X b->W.heap[b]?=w.heap[b]?):RA i v f W:=by
 have t:=acX r s<|h.r.r 0 _ U;have m:∀{l:Ì},fu (mh X n) l l->∀b,l.ownBlock=Ã b->X b:=λ{l} q b e=>by
  cases l with
  |slice a d c=>cases a with
   |none=>cases e
   |some a=>cases e;exact asG q
  |_=>cases e
 refine⟨h.r.zN<|k i s,?_,λp u=> ?_⟩
 .refine⟨h.fg.1,h.fg.2.imp id ?_⟩;rintro⟨g,a,d,rfl,j,o,x⟩;exact⟨g,a,d,U,j,(k g<|m t g U).trans o,x⟩
 .let⟨a,y⟩:=List.getElem?_of_mem u;let⟨b,c,e,z⟩:=h.I y;have C:X b:=m t b (by rw[e];rfl);have g:∀j x,(gJ p)[144+j]?=Ã x->∀b,x.ownBlock=Ã b->W.heap[b]?=w.heap[b]?:=λj x D d e=>k d<|m (acX r C<|z _ x D) d e;have o:=h.C p u;exact⟨Vg o.C<|g 1 _<|rZ 1 U,Vg o.I<|g 2 _<|rZ 2 U,Vg o.r<|g 3 _<|rZ 3 U⟩
def RA.j2(h:RA i v f w)(T:Tape)(n:Nat):RA i v f (World.tp (j2 (λ_=>False) w) T n):=by
 have k:∀(b:Nat) (c:Array Ì) (e:Ġ) (d:Nat×Nat),w.heap[b]?=Ã (Ó c e d)->(World.tp (fA.j2 (λ_=>False) w) T n).heap[b]?=Ã (Ó c e d):=λb c e d q=>by show(fA.j2 (λ_=>False) w).heap[b]?=_;rw[C6,q];simp[pG]
 refine⟨k _ _ _ _ h.r,⟨h.fg.1,h.fg.2.imp id ?_⟩,λp l=> ?_⟩
 .rintro⟨g,a,j,rfl,m,o,s⟩;exact⟨g,a,j,U,m,k _ _ _ _ o,s⟩
 .have g:∀{e:Ġ} {a:Ì} {m:Nat} {s:List Ì},ie e a m s w->ie e a m s (World.tp (fA.j2 (λ_=>False) w) T n):=λq=>by
   obtain⟨p,u,rfl,q,r⟩:=q;refine⟨p,u,U,q,λj x y=> ?_⟩;obtain⟨b,o,rfl,⟨z,B,t⟩,C⟩:=r j x y;have e:=k _ _ _ _ t;exact⟨b,o,U,⟨z,B,e⟩,xD (e.trans t.symm) C⟩
  exact⟨g (h.C p l).C,g (h.C p l).I,g (h.C p l).r⟩
end
end Go.Proofs.Y.iV
namespace Go.Proofs.Y.gu
open Go Go.Proofs Go.RowKit Go.Proofs.Y.Lift Go.Proofs.Y.iV Go.Proofs.Y.lB
def FY(n:Nat)(v:fM)(r:PR):Option fM×ByteArray:=if n=40 then(Å,ov 4)else match mP (r.c.getD 0 0).toNat v.s (r.r.map toTx)with
 |none=>(Å,ov 5)
 |some q=>(Ã ⟨q.1,q.2.1,q.2.2,v.h+1⟩,nY n)
section
variable{a:List VR}{p:VR}{r:PR}
def asI(h:RA i x a w)(h40:a.length<=40)(S:wh p w)(T:iZ p.1.s)(hh:0<=p.1.h/\p.1.h<=40)(G:lB.Du r)(V:ie 260 z r.r.length (oP r.r) w)(X:∀t∈r.r,t.c.getD 4 0=1\/t.c.getD 4 0=2): ë Á 84 #[Æ<|Ã ⟨i,0,Å⟩,ý (lM r z).toArray,ý (gJ p).toArray] w λe l=>∃g d,e=Ñ (Ê (FY a.length p.1 r).2)/\RA i g d l/\d.map (·.1)=a.map (·.1)++(FY a.length p.1 r).1.toList/\fc (λk=>k=i\/x.ownBlock=Ã k) w l:=by
 let⟨i0,Y,hx⟩:=Ë.1 Ve;simp only[Ŀ,Ë]at hx;let⟨iO,oX,z0,oI,hzc⟩:=hx;have oD:z0.cells.size=148:=by rw[show z0.cells=(gJ<|vz 0).toArray by rw[<-hzc]];exact zD 0
 clear hzc;let⟨dd,AU,vL⟩:=Ë.1 zz;have f:=eZ<|À Y<|À oI<|À iO<|À oD<|À oX<|À AU vL;clear Y oI iO oD oX AU vL;have I:fc fh w ((w.alloc<|Ó (lM r z).toArray 135).alloc<|Ó (gJ p).toArray 126):=(fc.iw fh w (lM r z).toArray 135).fj<|fc.iw fh _ (gJ p).toArray 126;have D:=(fq.N w (lM r z) 135).C (fc.iw fh _ (gJ p).toArray 126) id;have J:=fq.N (w.alloc<|Ó (lM r z).toArray 135) (gJ p) 126;have qa:(w.alloc<|Ó (lM r z).toArray 135).heap.size=w.heap.size+1:=fp
 rw[qa]at J;have y:=h.fE I;have c0:=y.r.r 0 _ U;let⟨L,M,J8⟩:=jv h.fg;subst J8;have qI:=fq.Y (tl:=[]) (by rwa[Þ]);have q3:=D.r 3 _ U;have q8:=D.r 8 _ U;have l1:=D.M;have o0:=G.c.r 0 A;simp only[ln]at o0;obtain⟨m,hm⟩:∃m:Nat,r.c.getD 0 0=m:=⟨(r.c.getD 0 0).toNat,Z⟩;have H:=eZ<|À y<|À S<|À T<|À G<|À V<|À X<|À I qI;clear h y S T G V X I D J qI;unfold FY;rw[hm]at q3 o0|-;rw[ò];by_cases N:a.length=40
 .rw[if_pos N];rw[N]at c0;go_enter ς,ζ;go_wp2_with (first
   |(with_reducible refine Ø U (Ã 4) U _ _ (sV U U) ?_)
   |(with_reducible refine Ø U (Ã 5) U _ _ (sV U U) ?_;generalize(w.alloc<|Ó (lM r z).toArray 135).alloc (Ó (gJ p).toArray 126)=wa at*)
   |(go_at_call 83;refine(NN 4 Z _).mono ?_;rintro e g ⟨rfl,d⟩;subst d))
  go_ret;exact⟨_,a,U,H.out.1,fp,H.out.2.2.2.2.2.2.1.ff λ_ _=>é⟩
 .rw[if_neg N];have e41:((a.length:Int)==40)=È:=by rw[beq_eq_false_iff_ne];omega
  have hC:∀W,fc fh w W->ë Á 137 #[ý (gJ p).toArray,Â Ä m,z] W λe l=>∃q:VR,e=Ñ (Ď #[ý (gJ q).toArray,ì (mP m p.1.s<|r.r.map toTx).isSome])/\fc fh W l/\(∀v∈gJ q,v.oneCell'=Î)/\∀b,mP m p.1.s (r.r.map toTx)=Ã b->q.1=⟨b.1,b.2.1,b.2.2,p.1.h+1⟩/\wh q l:=λW k=>
   asy H.out.2.2.1 hh Z (H.out.2.2.2.2.1.fE k) H.out.2.2.2.1.I H.out.2.2.2.1.n H.out.2.2.2.2.2.1
  generalize AO:mP m p.1.s (r.r.map toTx)=nx at*;have HC:=eZ hC;clear hC;rcases nx with _|b;all_goals
   go_enter ς,ζ;go_wp2_with (first
    |(with_reducible refine Ø U (Ã 4) U _ _ (sV U U) ?_)
    |(with_reducible refine Ø U (Ã 5) U _ _ (sV U U) ?_;generalize(w.alloc<|Ó (lM r z).toArray 135).alloc (Ó (gJ p).toArray 126)=wa at*)
    |(refine qi 126 U ?_;refine ô U 126 _ U (w.heap.size+1) 0 U (gJ p) dd H.out.2.2.2.2.2.2.2 f.out.2.2.2.2.2.1 f.out.2.2.2.2.2.2 (by rw[wi];exact congrArg Ã (lW _ _ _ _).symm) ?_)
    |(go_at_call 137;refine(HC.out _ H.out.2.2.2.2.2.2.1).mono ?_;rintro e B ⟨q,rfl,g,j,u⟩;have o:=eZ<|À u<|À g j;clear u g j)
    |(refine MZ U U 126 U 7 U _ _ U U f.out.1 f.out.2.1 (gJ q) (by rw[f.out.2.2.1];exact(lW _ _ _ _).symm) (by rw[f.out.2.2.2.1];exact(lW _ _ _ _).symm) U U o.out.2.2 ?_;intro E g j u;have C:=eZ<|À g j;clear g j u)
    |(go_at_call 83;refine(NN 5 Z _).mono ?_;rintro e g ⟨rfl,d⟩;subst d))
  .go_ret;exact⟨_,a,U,H.out.1.fE<|o.out.2.1.fj C.out.2,fp,(H.out.2.2.2.2.2.2.1.fj<|o.out.2.1.fj C.out.2).ff λ_ _=>é⟩
  .let⟨yI,oV⟩:=o.out.1 b U;have O:=o.out.2.1.fj<|C.out.2.fj<|fc.gG fh E;have y:=H.out.1.fE O;have hv:=oV.fE<|C.out.2.fj<|fc.gG fh E;have P:=C.out.1.C (fc.gG fh E) id;have nv:(Ç L a.length M).ownBlock≠Ã B.heap.size:=λe=>by
    have:=(H.out.1.fg.lt B.heap.size e).2;have:=o.out.2.1.M;omega
   have nb:i≠B.heap.size:=λe=>by have:=H.out.1.r.M;have:=o.out.2.1.M;omega
   have HS:=eZ (À (y.r.r 0 _ rfl)<|fq.Y (tl:=[])<|by rwa[Þ]);have j:=eZ<|À y<|À hv<|À P<|À nv<|À (H.out.2.2.2.2.2.2.1.fj O) yI;clear yI oV O y hv P nv;refine oZ (λl=>l.cell? ⟨i,0,Å⟩=Ã (Ç L a.length M)/\l.rangeAt B.heap.size 0 (gJ q)) [10] fx ?_;generalize B.heap.size=vb at*;generalize E.drew=w5 at*;iterate 5 apply tk HS.out
   refine tk (v:=ý (gJ q).toArray) HS.out 5 ?_ (hy:=λw h=>N0 h.2 f.out.2.2.2.2.2.1 f.out.2.2.2.2.2.2 (by rw[wi];exact congrArg Ã (lW _ _ _ _).symm) fL fL);apply ia 6;intro K g;refine acS (cs:=gJ q) ģ f.out.1 f.out.2.1 (f.out.2.2.1.trans (lW _ _ _ _).symm) (by rw[gJ,lW];decide) (by rw[gJ,lW];decide) ?_ U U U;have u:=fc.iw fh w5 (gJ q).toArray 126;refine g.out _ _ (λ_=>⟨(j.out.1.fE u).r.r 0 _ U,fq.Y (tl:=[])<|by rw[Þ];exact j.out.2.2.1.C u id⟩) ?_;clear g K;apply ia 7;intro K g;refine IV U _ _ 79 U ģ f.out.1 f.out.2.1 f.out.2.2.1 f.out.2.2.2.2.1 f.out.2.2.2.1 U (j.out.1.fE u).fg ⟨_,0,Å⟩ (gJ q) U Ų (lW _ _ _ _) (xN w5 (gJ q) 126) o.out.2.2 (by unfold č;omega) Z (Û _) ?_;intro v' w6 F;let⟨Q,g2,g3⟩:=(j.out.1.fE u).N (j.out.2.1.fE u) F;have g4:=Q.r 0 _ U;have g5:=Q.I 0;have S4:w6.cell? ⟨i,0,Å⟩=Ã (Ç L a.length M)/\w6.rangeAt vb 0 (gJ q):=⟨g4,fq.Y (tl:=[])<|by rw[Þ];exact(j.out.2.2.1.C u id).C F.r j.out.2.2.2.1⟩;apply g.out _ _ λ_=>S4;clear g K;obtain⟨p',c',rfl⟩:=jv F.fg;have HE:=eZ (À g2<|((j.out.2.2.2.2.1.fj u).ff λ_ _=>é).fj g3);have HG:=eZ S4;clear F Q g2 g3 u;apply ia 8;intro K g;go_simp;apply g.out _ _ λ_=>HG.out;clear g K;apply ia 9;intro K g;go_simp;apply g.out _ _ λ_=>HG.out;clear g K;apply ia 10;intro K g;go_simp;apply g.out _ _ λq=>absurd fp q;clear g K;refine oY fx ?_ _;go_wp2_with (go_at_call 85;refine(FT a.length Z _).mono ?_;rintro e w7 ⟨rfl,d⟩;subst d);go_ret;exact⟨_,_,congrArg (λd=>Ñ<|Ê d)<|ach _ Z,HE.out.1,by rw[Ō,Ř,j.out.2.2.2.2.2];rfl,HE.out.2⟩
end
end Go.Proofs.Y.gu
namespace Go.Proofs.Y.lB
open Go Go.Proofs Go.RowKit Go.Proofs.Y.Lift Go.Proofs.Y.gu
section
variable{st:PS}{tl:List Int}{d:PD}{E:RS}
def J9(h:Int):Nat:=if h=86 then 5 else if h=87 then 6 else if h=110 then 2 else 3
def Ka:Nat->Int
 |0=>1000000|1=>100000|2=>10000|3=>1000|4=>100|_=>10
def asJ:∀m,m<5->10*Ka (m+1)=Ka m/\Ka m<=1000000:=A
def asK:∀m,m<=5->10<=Ka m:=A
def Kb:iT c=Î↔(48<=c/\c<=57):=Ba c
def zE(a:Bool)(h:Int):Prop:=h=110\/h=107\/(a=È/\(h=86\/h=87))
def acY(a:zE yQ h):h∈tx yQ:=by unfold zE at a;unfold tx;cases yQ<;>simp at a|-<;>omega
def acZ(b:zE d.C h)(g:J9 h<d.gC.length)(z:Int):(d.fO h z).G h=z/\∀f,(d.fO h z).fO h f=d.fO h f:=by
 have e:=λy=>U2 (acY b) (d:=d) y;have i:∀(d:PD),zE d.C h->d.G h=d.gC.getD (J9 h) 0:=λd a=>by
  let⟨_,_,_,t,_⟩:=d;cases t
  .rcases a with rfl|rfl|⟨_,rfl|rfl⟩<;>rfl
  .rcases a with rfl|rfl|⟨a,_⟩
   .rfl
   .rfl
   .cases a
 have t:∀(c:List Int) (y:Int),mX c h y=c.set (J9 h) y:=λc y=>by rcases b with rfl|rfl|⟨_,rfl|rfl⟩<;>rfl
 refine⟨?_,λf=> ?_⟩
 .rw[i _ (by rwa[e,JR]),e,NS,t,ċ,List.getElem?_set_self g];rfl
 .rw[U2 (by rw[e,JR];exact acY b),e,e,acD,NS,t,t,t,η]
def asL{n:Int}(h:0<=n/\n<1000000)(a:iT c=Î):qW n c=10*n+(c-48):=by rw[Kb]at a;unfold qW;rw[Ń,Ń];omega
def ac0(a:zE d.C h)(b:J9 h<d.gC.length):∀(m:Nat) (n:Int) (i:Nat) (st:PS),m<=5->st.C=tl->st.M=h->st.r=m->st.d=d.fO h n->0<n->n<Ka m-> (mW B m n (i,È)).2.2=È/\∃s,oe B (mW B m n (i,È)).2.1 tl (d.fO h (mW B m n (i,È)).1) s/\pR B i st=pR B (mW B m n (i,È)).2.1 s
 |0,n,i,st,_,h1,h2,h3,h4,_,_=>⟨U,st,⟨h1,h4,λ_ _ q=>by rw[h3]at q;exact absurd q.1 A⟩,U⟩
 |m+1,n,i,st,hm,h1,h2,h3,h4,h5,h6=>by
  let⟨g,j⟩:=asJ m Z;unfold mW iP;simp only[Ô,if_false];cases f:(gN B)[i]? with
  |none=>exact⟨U,st,⟨h1,h4,λc q=>by rw[f]at q;cases q⟩,rfl⟩
  |some c=>
   by_cases s:iT c=Î
   .simp only[h5,s,and_self,if_true];have z:=Kb.1 s;have e:=(uM (st:=st) f).2;rw[qo,if_pos ⟨by rw[h3];omega,s⟩]at e;rw[e];refine ac0 a b m _ (i+1) _ Z h1 h2 (show st.r-1=_ by rw[h3];omega) ?_ Z Z;show st.d.fO st.M (qW (st.d.G st.M) c)=_;rw[h2,h4,(acZ a b n).1,(asL (n:=n) ⟨Z,Z⟩ s),(acZ a b n).2]
   .dsimp only;rw[if_neg λq=>s q.2];exact⟨U,st,⟨h1,h4,λe q z=>by rw[f]at q;cases q;exact s z.2⟩,U⟩
def Vh(m:Nat)(E:RS):mW B m 0 E=(0,E):=by
 cases m with
 |zero=>rfl
 |succ m=>unfold mW;cases iP B E<;>simp
def asM{c:Int}(h:iT c=Î):c∈uL/\(uL.idxOf c:Int)=c-48/\(c-48)%256=c-48:=by
 rw[Kb]at h;obtain rfl|rfl|rfl|rfl|rfl|rfl|rfl|rfl|rfl|rfl:c=48\/c=49\/c=50\/c=51\/c=52\/c=53\/c=54\/c=55\/c=56\/c=57:=Z
 all_goals decide
def asN{c:Int}(h:¬iT c=Î):c∉uL:=by rw[Kb]at h;unfold uL;simp;omega
def asO(j:zE d.C h)(u:J9 h<d.gC.length)(a:oe B i (h::tl) d st):Gs B i st (jD B h (i,È)).2 tl (d.fO h (jD B h (i,È)).1):=by
 have l:h≠82/\h≠66/\h≠84/\h≠80:=by unfold zE at j;omega
 obtain⟨M,G,n,v,w⟩:∃M:Nat,1<=M/\M<=5/\(jD B h (i,È)=if(h=86\/h=87)/\iP B (i,È)=Ã 104 then(-1,i+1,È)else pN B M (i,È))/\∀c,iT c=Î->c≠48->lJ h c=M:=by
  unfold jD Bj lJ;rcases j with rfl|rfl|⟨_,rfl|rfl⟩
  .exact⟨5,A,A,fp,λc a k=>by simp[a,k]⟩
  .exact⟨5,A,A,fp,λc a k=>by simp[a,k]⟩
  .exact⟨1,A,A,fp,λc a k=>by simp[a,k]⟩
  .exact⟨1,A,A,fp,λc a k=>by simp[a,k]⟩
 have m:∀c,mF h c=((decide (h=86\/h=87)&&(c==104))||iT c):=λc=>by unfold mF;rcases j with rfl|rfl|⟨_,rfl|rfl⟩<;>simp
 have o:∀c,lk h c=if c=104 then-1 else(c-48)%256:=λc=>by unfold lk;rcases j with rfl|rfl|⟨_,rfl|rfl⟩<;>rfl
 rw[v];unfold iP;simp only[Ô,if_false];have x:∀{c:Int},(gN B)[i]?=Ã c->mF h c=È->pR B i st=(i,st):=λ{c} b q=>by have e:=a.I b;unfold jH at e;simpa only[a.C,l,if_false,q,Ô]using e
 have p:∀{c:Int},(gN B)[i]?=Ã c->mF h c=Î->pR B i st=pR B (i+1) {pd {st with r:=0} h c with C:=tl}:=λ{c} b q=>by have e:=a.I b;unfold jH at e;simpa only[a.C,l,if_false,q,if_true]using e
 by_cases f:(h=86\/h=87)/\(gN B)[i]?=Ã 104
 .rw[if_pos f];refine⟨_,⟨U,?_,λ_ _ z=> ?_⟩,p f.2<|by rw[m];simp[f.1]⟩
  .show st.d.fO h (lk h 104)=_;rw[a.d,o];rfl
  .have:(0:Int)<lJ h 104:=z.1;unfold lJ at this;simp[iT]at this
 .rw[if_neg f];unfold pN fS iP;simp only[Ô,if_false];cases b:(gN B)[i]? with
  |none=>
   show Gs B i st (mW B M 0 (i,Î)).2 _ _;rw[Vh];exact⟨st,Bm b,Ð ⟨h,tl,a.C,l.2.1⟩⟩
  |some c=>
   rw[b]at f;by_cases g:iT c=Î
   .let⟨y,C,D⟩:=asM g;have H:=Kb.1 g;have e:=p b (by rw[m,g,Bool.or_true]);simp only[y,if_true];rw[C];have r:({pd {st with r:=0} h c with C:=tl}:PS).d=d.fO h (c-48):=by
     show st.d.fO h (lk h c)=_;rw[a.d,o,if_neg Z,D]
    by_cases t:c=48
    .subst t;show Gs B i st (mW B M 0 (i+1,È)).2 tl (d.fO h (mW B M 0 (i+1,È)).1);rw[Vh];exact⟨_,⟨U,r,λ_ _ z=>absurd z.1<|by show¬(0:Int)<lJ h 48;simp[lJ]⟩,e⟩
    .let⟨z,s,E,F⟩:=ac0 (B:=B) (tl:=tl) j u M (c-48) (i+1) _ n U (show h=h from rfl) (w c g t) r Z (by have:=asK M n;omega);unfold Gs;rw[z];exact⟨s,E,e.trans F⟩
   .simp only[asN g,if_false];show Gs B i st (mW B M 0 (i,Î)).2 _ _;rw[Vh];refine⟨st,x b ?_,É (uM (st:=st) b).1⟩;rw[m];simp only[Ţ]at f;simp[g];omega
end
section
variable{st:PS}{tl g:List Int}{d j:PD}{E f:RS}
def Gs.C(h:Gs B i st E zQ d)(a:E.2=Î->f=E)(c:E.2=È->∀s,oe B E.1 zQ d s->Gs B E.1 s f g j):Gs B i st f g j:=by
 let⟨x,b⟩:=E;cases b with
 |true=>rwa[a U]
 |false=>
  let⟨s,e,k⟩:=h;have:=c U s e;unfold Gs xM at*;rw[k];exact this
def asP(m:Nat)(n:Int):mW B m n (i,Î)=(n,i,Î):=by cases m<;>rfl
def asQ:(jD B h (i,Î)).2=(i,Î):=by
 unfold jD Bj pN;repeat' split
 all_goals first|exact congrArg Prod.snd (asP _ _)|rfl|(rename_i q;cases q)
def FZ:∀(a c:List Int),(mY B a c (i,Î)).2=(i,Î)
 |[],_=>rfl
 |h::tl,c=>by rw[mY,asQ];exact FZ tl _
theorem asR(c:List Int)(h z:Int):(mX c h z).length=c.length:=by unfold mX;grind
def Lg(d:PD):Prop:=d.gC.length=if d.C then 5 else 8
def ac1:∀c∈j0,lk 120 c=j0.idxOf c/\lk 121 c=j0.idxOf c:=A
def asS:∀c∈Bh,lk 115 c=Bh.idxOf c:=A
def ac2(a:oe B i (h::tl) d st)(b:h∈tx d.C)(j:Lg d):Gs B i st (jD B h (i,È)).2 tl (d.tw<|mX d.gC h (jD B h (i,È)).1):=by
 rw[<-U2 b];by_cases f:zE d.C h
 .refine asO f ?_ a;rw[j];rcases f with rfl|rfl|⟨e,rfl|rfl⟩
  .cases d.C<;>decide
  .cases d.C<;>decide
  all_goals rw[e];decide
 .have g:∀c,oN c=decide (c∈j0):=λc=>by
   rw[ĭ,aa9];simp[j0];omega
  have k:∀c,(iT c||(decide (97<=c)&&decide (c<=102)))=decide (c∈Bh):=λc=>by rw[ĭ];simp[iT,Bh,uL];omega
  have l:∀h,h=58\/h=62\/h=61\/h=40\/h=44\/h=41\/h=47->(∀c,mF h c=decide (c∈[h]))/\(∀z,d.fO h z=d)/\(∀c,lJ h c=0)/\jD B h (i,È)=(0,(fS B (i,È) [h]).2):=λh q=>by
   rcases q with rfl|rfl|rfl|rfl|rfl|rfl|rfl<;>
    exact⟨λc=>by rw[ĭ];simp[mF],λ_=>rfl,λc=>by simp[lJ],U⟩
  have q:(h=120\/h=121\/h=115)\/(h=58\/h=62\/h=61\/h=40\/h=44\/h=41\/h=47):=by unfold tx at b;unfold zE at f;cases q:d.C<;>simp[q]at b f<;>omega
  rcases q with(rfl|rfl|rfl)|q
  .exact NT a b (λc=>g c) (λc e=>by rw[(ac1 c e).1]) λc=>by simp[lJ]
  .exact NT a b (λc=>g c) (λc e=>by rw[(ac1 c e).2]) λc=>by simp[lJ]
  .exact NT a b (λc=>by rw[<-k];rfl) (λc e=>by rw[asS c e]) λc=>by simp[lJ]
  .let⟨m,z,n,o⟩:=l h q;rw[o];have:=NT a b m (λc e=>by rw[z,z]) n;rwa[z]at this|-
def Vi:∀(a:List Int) (d:PD) (i:Nat) (st:PS),oe B i (a++tl) d st->(∀h∈a,h∈tx d.C)->Lg d->Gs B i st (mY B a d.gC (i,È)).2 tl (d.tw (mY B a d.gC (i,È)).1)
 |[],d,i,st,hh,_,_=>⟨st,by rwa[show mY B [] d.gC (i,È)=(d.gC,i,È)from U,arY],U⟩
 |h::a,d,i,st,hh,hw,hl=>by
  refine(ac2 (tl:=a++tl) hh (hw h fp) hl).C (λe=> ?_) λe s c=> ?_
  .rw[mY];generalize(jD B h (i,È)).2=E at e;let⟨x,b⟩:=E;subst e;exact FZ _ _
  .have:=Vi a _ _ s c (λf q=>by rw[JR];exact hw f<|by simp[q]) (by unfold Lg at*;rwa[NS,JR,asR]);rw[NS,acD]at this;rw[mY];generalize(jD B h (i,È)).2=E at*;let⟨x,b⟩:=E;subst e;exact this
def ac3:∀(n i:Nat) (st:PS),st.C=[80]->st.r=0->st.d=d->st.I+n=40->0<=st.I->Gs B i st (fS B (lX B n (i,È)) [125]).2 [] (d.rY<|B.extract (i-st.I.toNat) (lX B n (i,È)).1)
 |n,i,st,h1,h2,h3,h4,h5=>by
  cases a:(gN B)[i]? with
  |none=>
   rw[show lX B n (i,È)=(i,È) by cases n<;>simp[lX,iP,a]];simp only[fS,iP,Ô,if_false,a];exact⟨st,Bm a,Ð ⟨80,[],h1,A⟩⟩
  |some c=>
   have e:=(uM (st:=st) a).2;have b:=(uM (st:=st) a).1;rw[qo,if_neg (by rw[h2];simp)]at e;unfold jH at e;simp only[h1,show(80:Int)≠82 by decide,show(80:Int)≠66 by decide,show(80:Int)≠84 by decide,if_false,if_true]at e;by_cases q:c=125
   .subst q;rw[show lX B n (i,È)=(i,È) by cases n<;>simp[lX,iP,a,show mD 125=0 by decide]];simp only[fS,iP,Ô,if_false,a,í,if_true]at e|-;refine⟨_,⟨U,?_,λ_ _ z=>Ĉ 0 z.1⟩,e⟩;show st.d.rY _=_;rw[h3]
   .rw[if_neg q]at e;by_cases z:st.I=40\/mD c=0
    .rw[if_pos z]at e;rw[show lX B n (i,È)=(i,È) by
      rcases Ĝ n with rfl|y
      .rfl
      .obtain⟨m,rfl⟩:∃m,n=m+1:=⟨n-1,Z⟩;simp[lX,iP,a,z.resolve_left Z]]
     simp only[fS,iP,Ô,if_false,a,í,q];exact⟨st,e,É b⟩
    .rw[if_neg z]at e;obtain⟨m,rfl⟩:∃m,n=m+1:=⟨n-1,Z⟩;rw[show lX B (m+1) (i,È)=lX B m (i+1,È) by simp[lX,iP,a,show¬mD c=0 from λy=>z<|Ð y]];have:=ac3 m (i+1) ⟨[80],0,st.I+1,st.M,st.d⟩ U U h3 (by simp only;omega) (by simp only;omega);unfold Gs xM at*;rw[e];rwa[show i+1-(st.I+1).toNat=i-st.I.toNat by omega]at this
def asT(h:oe B i [84] d st):if(fS B (i,È) [62,123,58]).2.2 then xM B i st (fS B (i,È) [62,123,58]).2.1 else∃s,oe B (i+1) (pL<|(fS B (i,È) [62,123,58]).1+1) (d.uD 4<|(fS B (i,È) [62,123,58]).1+1) s/\s.I=0/\s.r=0/\pR B i st=pR B (i+1) s/\(fS B (i,È) [62,123,58]).2.1=i+1:=by
 unfold fS iP;simp only[Ô,if_false];cases a:(gN B)[i]? with
 |none=>exact⟨st,Bm a,Ð ⟨84,[],h.C,A⟩⟩
 |some c=>
  have e:=h.I a;unfold jH at e;simp only[h.C,show(84:Int)≠82 by decide,show(84:Int)≠66 by decide,if_false,if_true,zm]at e;by_cases q:c∈([62,123,58]:List Int)
  .simp only[q,if_true];have:(A9 c:Int)=(([62,123,58]:List Int).idxOf c:Nat)+1/\A9 c≠0:=by
    revert q;simp only[Ĩ,Ħ,or_false];rintro(rfl|rfl|rfl)<;>decide
   rw[if_neg this.2,this.1]at e;exact⟨_,⟨U,by show st.d.uD _ _=_;rw[h.d],λ_ _ z=>Ĉ 0 z.1⟩,U,U,e,trivial⟩
  .simp only[q,if_false];have:A9 c=0:=by
    unfold A9;simp at q;simp[q]
   rw[if_pos this]at e;exact⟨st,e,É (uM (st:=st) a).1⟩
end
section
variable{st:PS}{tl j:List Int}{d m:PD}{E o:RS}{l:List PR}
def asU:∀k:Nat,k<3->∀h∈pL (k+1),k≠1->h∈tx Î:=A
theorem asV(a:oe B i [120,84] d st)(m:d.C=Î)(n:d.N=PD.zh):Gs B i st (lL B (i,È)).2 [] {d with N:=(lL B (i,È)).1}:=by
 let⟨o,on,p,r,t⟩:=d;obtain rfl:r=Î:=m;obtain rfl:t=PD.zh:=n;refine(ac2 (tl:=[84]) a (show(120:Int)∈tx Î by decide) U).C (λe=> ?_) λe s u=> ?_;all_goals
  unfold lL;generalize(jD B 120 (i,È)).1=x at*;generalize(jD B 120 (i,È)).2=E at*;let⟨f,b⟩:=E;subst e
 .exact FZ _ _
 .have g:=asT u;generalize j:fS B (f,È) [62,123,58]=q at*;let⟨k,C,b⟩:=q;cases b with
  |true=>
   obtain rfl:k=0:=by unfold fS at j;grind
   simp only[if_true]at g;unfold Gs zw;simp only[show(0:Nat)≠1 by decide,if_false,FZ,if_true];exact g
  |false=>
   obtain⟨e,s,v,w,l,rfl⟩:=g;have y:k<3:=by unfold fS at j;grind
   have c:e.d=⟨o,on,p,Î,⟨[x,0,0,0,(k:Int)+1],⟨#[]⟩⟩⟩:=s.d;unfold zw;by_cases z:k=1
   .subst z;rw[if_pos U];have:=ac3 (B:=B) 40 (f+1) e s.C w c Z Z;rw[v]at this;unfold Gs xM at*;rw[l];exact this
   .rw[if_neg z];have:=Vi (B:=B) (tl:=[]) (pL<|k+1) e.d (f+1) e ⟨by rw[Þ];exact s.C,U,s.M⟩ (by rw[c];exact λh f=>asU k y h f z) (by rw[c];rfl);rw[c]at this;unfold Gs xM at*;rw[l];exact this
def DU(B:ByteArray)(i:Nat)(st:PS)(l:List PR)(zQ:PR×RS):Prop:=if zQ.2.2 then xM B i st zQ.2.1 else∃s,pR B i st=pR B zQ.2.1 s/\(s.C=[]\/s.C=[66])/\Nd B zQ.2.1 s/\s.d.I=l++[zQ.1]/\s.d.S=l/\∀c,(gN B)[zQ.2.1]?=Ã c->c≠59->pR B zQ.2.1 s=(zQ.2.1,s)
theorem ac4{s:PS}(h:oe B i [] d s)(a:(gN B)[i]?=Ã c)(b:c≠59)(f:c=44->¬(0<d.Y.length/\d.Y.length<8)):pR B i s=(i,s):=by have e:=h.I a;unfold jH qn at e;simp only[h.C,h.d]at e;grind
def ac5:∀(n:Nat) (d:PD) (i:Nat) (st:PS),oe B i [120,84] d st->d.C=Î->d.N=PD.zh->d.r=Î->d.M.r.length+n=8->0<n->DU B i st d.S (⟨d.M.c,(mZ B n d.M.r (i,È)).1⟩,(mZ B n d.M.r (i,È)).2)
 |n+1,d,i,st,h,h1,h2,h3,h4,_=>by
  have l:=asV h h1 h2;unfold mZ;simp only[Ô,if_false];generalize lL B (i,È)=t at*;let⟨t,f,b⟩:=t;cases b with
  |true=>
   rwa[if_neg (by simp[iP])]
  |false=>
   let⟨s,a,k⟩:=l;have g:({d with N:=t}:PD).Y=d.M.r++[t]:=by unfold PD.Y;rw[h1];rfl
   dsimp only at a k|-;by_cases z:iP B (f,È)=Ã 44/\n≠0
   .rw[if_pos z];have j:(gN B)[f]?=Ã 44:=z.1;have e:=a.I j;unfold jH qn at e;simp only[a.C,a.d]at e;rw[if_neg λq=>absurd q.1 A,if_pos ⟨trivial,by rw[g];simp,by rw[g];simp;omega⟩]at e;rw[show fS B (f,È) [44]=(0,f+1,È) by simp[fS,iP,j]];show DU B i st d.S (⟨d.M.c,(mZ B n (d.M.r++[t]) (f+1,È)).1⟩,(mZ B n (d.M.r++[t]) (f+1,È)).2);rw[<-g];unfold DU xM at*;rw[k,e];exact(ac5 n ({d with N:=t}:PD).pb (f+1) ⟨[120,84],0,s.I,s.M,({d with N:=t}:PD).pb⟩ ⟨U,U,λ_ _ z=>Ĉ 0 z.1⟩ U U h3 (by show(({d with N:=t}:PD).Y).length+n=8;rw[g];simp;omega) Z)
   .rw[if_neg z];refine⟨s,k,É a.C,a.M,?_,by rw[a.d],λc j e=>ac4 a j e λq=> ?_⟩
    .rw[a.d];unfold PD.I;rw[g];simp only[h3,if_true]
    .subst q;have:n=0:=ļ λy=>z ⟨j,y⟩;rw[g];simp;omega
def asW:∀c∈j0,oN c=Î:=A
def ac6:∀(f k:Nat) (st:PS),k<=B.size->(qp B f k st).1<=B.size
 |0,_,_,h=>h
 |f+1,k,st,h=>by
  unfold qp;split
  .rename_i a;cases qo B k st (B[k].toNat:Int)with
   |none=>exact h
   |some s=>exact ac6 f (k+1) s a
  .exact h
def ac7(h:i<=B.size):(pR B i st).1<=B.size:=ac6 _ _ _ h
def asX:∀k:Nat,k<9->sZ (k+1)=pO k++(if k=0 then[66]else[])/\∀h∈pO k,h∈tx È:=A
def asY:∀c∈kV,uC c=(kV.idxOf c:Nat)+1:=A
def asZ(h:oe B i [82] d st):DU B i st d.I (kX B (i,È)):=by
 unfold kX fS iP;simp only[Ô,if_false];cases o:(gN B)[i]? with
 |none=>exact⟨st,Bm o,Ð ⟨82,[],h.C,A⟩⟩
 |some c=>
  have e:=h.I o;unfold jH zl at e;simp only[h.C,h.d,if_true]at e;by_cases q:c∈kV
  .simp only[q,if_true,Ô,if_false];rw[asY c q,if_neg Z]at e;have H:kV.idxOf c<9:=ĳ q;generalize kV.idxOf c=k at*;let⟨I,l⟩:=asX k H;have t:=Vi (B:=B) (tl:=if k=0 then[66]else[]) (pO k) (d.vU<|(k:Int)+1) (i+1) ⟨sZ<|k+1,0,st.I,st.M,d.vU<|(k:Int)+1⟩ ⟨I,U,λ_ _ z=>Ĉ 0 z.1⟩ l U;have w:∀c,((d.vU<|(k:Int)+1).tw c).I=d.I++[⟨c,[]⟩]:=λ_=>rfl;rw[show(d.vU<|(k:Int)+1).gC=(PD.uE ((k+1:Nat):Int)).c from rfl]at t;generalize mY B (pO k) (PD.uE ((k+1:Nat):Int)).c (i+1,È)=p at*;let⟨x,a,b⟩:=p;cases b with
   |true=>
    unfold Bl;rw[if_pos<|Ð<|É U];unfold DU xM;rwa[e]
   |false=>
    let⟨s,n,r⟩:=t;have m:=n.d;have E:pR B i st=pR B a s:=e.trans r;unfold Bl;by_cases z:k=0
    .subst z;simp only[ne_eq,not_true,false_or,Ô];have C:s.C=[66]:=n.C;by_cases y:a=B.size\/iP B (a,È)=Ã 59
     .rw[if_pos y];refine⟨s,e.trans r,Ð C,n.M,by rw[m];exact w x,by rw[m];rfl,λj f u=> ?_⟩;rcases y with y|y
      .subst y;exact absurd (uM (st:=st) f).1<|Nat.lt_irrefl _
      .have:(gN B)[a]?=Ã 59:=y;rw[this]at f;cases f;exact absurd U u
     .rw[if_neg y];have D:=ac5 (B:=B) 8 s.d.pb a ⟨[120,84],0,s.I,s.M,s.d.pb⟩ ⟨U,U,λ_ _ z=>Ĉ 0 z.1⟩ U U (by rw[m];rfl) (by rw[m];rfl) A;cases f:(gN B)[a]? with
      |none=>
       have g:=ac7 (B:=B) (st:=st)<|Nat.le_of_lt (uM (st:=st) o).1;rw[E,Bm f]at g;rw[xL]at f;split at f
       .cases f
       .have:a<=B.size:=g;omega
      |some j=>
       have F:iP B (a,È)=Ã j:=f;have l:=n.I f;unfold jH qn at l;simp only[C,show(66:Int)≠82 by decide,if_false,if_true]at l;by_cases g:oN j=Î
       .rw[if_pos g]at l;have v:=oe.I (st:=⟨[120,84],0,s.I,s.M,s.d.pb⟩) ⟨U,U,λ_ _ z=>Ĉ 0 z.1⟩ f;unfold jH at v;simp only[show(120:Int)≠82 by decide,show(120:Int)≠66 by decide,show(120:Int)≠84 by decide,show(120:Int)≠80 by decide,if_false,show mF 120 j=oN j from rfl,g,if_true]at v;have G:pR B a s=pR B a ⟨[120,84],0,s.I,s.M,s.d.pb⟩:=l.trans v.symm;rw[m]at D G;unfold DU xM at*;rwa[E,G]
       .rw[if_neg g,if_neg (show¬(j=59/\_)from λq=>y<|Ð<|q.1▸F),if_neg (λq=>by rw[m]at q;exact absurd q.2.1<|by show¬0<([]:List PT).length;decide)]at l;have v:jD B 120 (a,È)=(0,a,Î):=by
         show(((fS B (a,È) j0).1:Int),(fS B (a,È) j0).2)=_;have:j∉j0:=λq=>g<|asW j q;simp[fS,F,this]
        have G:(mZ B 8 [] (a,È)).2=(a,Î):=by
         have J:(lL B (a,È)).2=(a,Î):=by unfold lL;rw[v];exact FZ _ _
         unfold mZ;rw[J];rfl
        unfold DU;rw[G];exact⟨s,(e.trans r).trans l,É (uM (st:=s) f).1⟩
    .rw[if_pos<|É z];have g:oe B a [] ((d.vU<|(k:Int)+1).tw x) s:=by have:=n;rwa[if_neg z]at this
     exact⟨s,e.trans r,É g.C,n.M,by rw[m];exact w x,by rw[m];rfl,λj f u=>ac4 g f u λ_ q=>absurd q.1<|by show¬0<([]:List PT).length;decide⟩
  .simp only[q,if_false];have:uC c=0:=by
    unfold uC;simp[kV]at q;simp[q]
   rw[if_pos this]at e;exact⟨st,e,É (uM (st:=st) o).1⟩
def ac8:∀(n:Nat) (d:PD) (i:Nat) (st:PS),i<=B.size->oe B i [82] d st->d.I.length+n=24->0<n->xI B n i d.I=if(pR B i st).1=B.size/\((pR B i st).2.C=[]\/(pR B i st).2.C=[66])then((pR B i st).2.d.I,-1)else([],((pR B i st).1:Int))
 |n+1,d,i,st,ha,h,hn,_=>by
  have r:=asZ h;have t:=ac7 (st:=st) ha;unfold xI;generalize kX B (i,È)=q at*;let⟨q,e,b⟩:=q;cases b with
  |true=>
   let⟨s,g,a⟩:=r;simp only[if_true,g];rw[if_neg];rintro⟨l,f⟩;rcases a with a|⟨h,tl,a,j⟩
   .exact absurd l<|Nat.ne_of_lt a
   .rw[a]at f;simp[j]at f
  |false=>
   let⟨s,g,a,j,m,l,u⟩:=r;simp only[Ô,if_false]at*;by_cases z:e=B.size
   .rw[g,(Bm (B:=B) (k:=e) (st:=s)<|by rw[xL,dif_neg Z]),if_pos z,if_pos ⟨z,a⟩,m]
   .rw[if_neg z];have o:∃c,(gN B)[e]?=Ã c/\e<B.size:=by
     cases f:(gN B)[e]? with
     |none=>
      rw[g,Bm f]at t;rw[xL]at f;split at f
      .cases f
      .exact absurd t<|by show¬e<=B.size;omega
     |some c=>exact⟨c,U,(uM (st:=st) f).1⟩
    let⟨c,f,o⟩:=o;have v:iP B (e,È)=Ã c:=f;rw[v];by_cases y:c=59/\n≠0
    .rw[if_pos ⟨by rw[y.1],y.2⟩];obtain⟨rfl,x⟩:=y;have p:pR B e s=pR B (e+1) ⟨[82],0,s.I,s.M,s.d⟩:=by
      rw[oe.I (st:=s) ⟨U,U,j⟩ f];unfold jH qn;rcases a with a|a
      .simp only[a];rw[if_pos ⟨trivial,by rw[l];omega⟩]
      .simp only[a,show(66:Int)≠82 by decide,if_false,if_true,show oN 59=È by decide,Ô];rw[if_pos ⟨trivial,by rw[l];omega⟩]
     rw[g,p,<-m];exact(ac8 n s.d (e+1) ⟨[82],0,s.I,s.M,s.d⟩ o ⟨U,U,λ_ _ z=>Ĉ 0 z.1⟩ (by rw[m];simp;omega) Z)
    .rw[if_neg λq=>y ⟨ú q.1,q.2⟩];have p:pR B e s=(e,s):=by
      by_cases x:c=59
      .subst x;rw[oe.I (st:=s) ⟨U,U,j⟩ f];unfold jH qn;rcases a with a|a
       .simp only[a];rw[if_neg (by rw[l];omega),if_neg λq=>absurd q.1 A]
       .simp only[a,show(66:Int)≠82 by decide,if_false,if_true,show oN 59=È by decide,Ô];rw[if_neg (by rw[l];omega),if_neg λq=>absurd q.1 A]
      .exact u c f x
     rw[g,p,if_neg λq=>z q.1]
theorem Vj(h:¬1200<B.size):xK B=if(gy B).1=0 then((gy B).2.2,-1)else([],(gy B).2.1):=by
 unfold gy mo xK;rw[if_neg h];by_cases a:B.size=0
 .simp[a]
 .have e:=ac8 (B:=B) 24 Ui 0 s6 (Û _) ⟨U,U,λ_ _ z=>Ĉ 0 z.1⟩ U A;rw[if_neg a,if_neg a];rw[show Ui.I=[]from U]at e;rw[e];unfold pR oa;grind
end
end Go.Proofs.Y.lB
namespace Go.Proofs.Y.gu
open Go Go.Proofs Go.RowKit Go.Proofs.Y.Lift Go.Proofs.Y.iV Go.Proofs.Y.lB
def ac9{s:List fM}:∀n,n<=s.length->((n8 s).take n).foldl zf (0,s.getD 0 iR)=(0,s.getD (pj s n) iR)
 |0,_=>rfl
 |n+1,h=>by
  have e:(n8 s)[n]?=Ã (0,s.getD n iR):=by unfold n8;rw[Ē,Í (show n<s.length by omega)];simp[ċ,show n<s.length by omega]
  rw[ê,e,Ğ,Ģ,ac9 n Z];simp only[ż,Γ,zf,pj];split<;>rfl
theorem Ke{s:List fM}{v:Int}(b:0<s.length)(d:-1<=v):n5 (n8 s) v=if r7 s v<0 then Å else Ã (0,s.getD (r7 s v).toNat iR):=by
 have f:(n8 s).length=s.length:=by simp[n8]
 have c:∀i,i<s.length->(n8 s)[i]?=Ã (0,s.getD i iR):=λi g=>by unfold n8;grind
 unfold n5 r7;by_cases e:v=-1
 .subst e;have a:=ac9 (s:=s) s.length<|Ù _;rw[á Z]at a;rw[if_pos U,if_neg (show¬(s.length:Int)<=-1 by omega),if_neg (show¬(0:Int)<=-1 by decide),if_neg Z,c 0 b,ŋ,ò];exact congrArg Ã a
 .grind
section
variable{E:RS}
def Bp(B:ByteArray):Prop:=(40:Int)∉gN B
def as0(h:Bp B):(fS B E [40]).2.2=Î:=by
 unfold fS;split
 .rename_i c a;rw[if_neg];simp only[í];rintro rfl;unfold iP at a;split at a
  .cases a
  .exact h<|â a
 .rfl
def Vk(h:Bp B):∀(a c:List Int) (E:RS),40∈a->(mY B a c E).2.2=Î
 |w::tl,c,E,hm=>by
  rw[mY];by_cases e:w=40
  .subst e;have:(jD B 40 E).2=((jD B 40 E).2.1,Î):=by
    rw[show jD B 40 E=(0,(fS B E [40]).2)from U];exact Prod.ext U<|as0 h
   rw[this,FZ]
  .exact Vk h tl _ _<|by simpa[Ne.symm e]using hm
theorem as1:(fS B E [62,123,58]).1=0\/(fS B E [62,123,58]).1=1\/(fS B E [62,123,58]).1=2:=by have:=JV (B:=B) (E:=E) (l:=[62,123,58]);grind
theorem as2(c:List Int)(w z:Int):(mX c w z).getD 4 0=c.getD 4 0:=by unfold mX;grind
def Vl:∀(a c:List Int) (E:RS),(mY B a c E).1.getD 4 0=c.getD 4 0
 |[],_,_=>rfl
 |w::tl,c,E=>by rw[mY,Vl tl,as2]
theorem as3(h:Bp B)(a:(lL B E).2.2=È):(lL B E).1.c.getD 4 0=1\/(lL B E).1.c.getD 4 0=2:=by
 unfold lL zw at*;have b:=as1 (B:=B) (E:=(jD B 120 E).2);generalize fS B (jD B 120 E).2 [62,123,58]=k at*;rcases b with e|e|e
 .rw[e]at a|-;rw[if_neg A];exact É<|Vl _ _ _
 .grind
 .rw[e,if_neg A]at a;rw[Vk h _ _ _ A]at a;cases a
def ada(h:Bp B):∀(n:Nat) (a:List PT) (E:RS),(∀t∈a,t.c.getD 4 0=1\/t.c.getD 4 0=2)->(mZ B n a E).2.2=È->∀t∈(mZ B n a E).1,t.c.getD 4 0=1\/t.c.getD 4 0=2
 |0,a,E,ht,_=>ht
 |n+1,a,E,ht,hg=>by
  unfold mZ at hg|-;have f:(lL B E).2.2=È->∀t∈a++[(lL B E).1],t.c.getD 4 0=1\/t.c.getD 4 0=2:=λe t q=>by
   rcases û.1 q with q|q
   .exact ht t q
   .rw[í.1 q];exact as3 h e
  split at hg
  .rename_i d;rwa[if_pos d]
  .rename_i d;rw[if_neg d];split at hg
   .rename_i b;rw[if_pos b];exact ada h n _ _ (f<|(DJ b.1).1) hg
   .rename_i b;rw[if_neg b];exact f hg
theorem as4(h:Bp B)(a:(kX B E).2.2=È):iF (kX B E).1:=by
 have d:=JV (B:=B) (E:=E) (l:=kV);unfold kX at*;split at a
 .grind
 .rename_i q;rw[if_neg q];generalize fS B E kV=p at*;let⟨k,τ⟩:=p;simp only at d a|-;have b:=Vl (B:=B) (pO k) (PD.uE ((k+1:Nat):Int)).c τ;rw[show(PD.uE ((k+1:Nat):Int)).c.getD 4 0=((k+1:Nat):Int)from U]at b;have f:k=3\/k=4->(mY B (pO k) (PD.uE ((k+1:Nat):Int)).c τ).2.2=Î:=λe=>Vk h _ _ _ (by rcases e with rfl|rfl<;>decide);generalize mY B (pO k) (PD.uE ((k+1:Nat):Int)).c τ=u at*;have g:¬(k=3\/k=4):=λe=>by
   have:=f e;unfold Bl at a;grind
  unfold Bl at a|-;split at a
  .rename_i c;rw[if_pos c];exact⟨by rw[b];omega,by rw[b];omega,λ_ q=>by cases q⟩
  .rename_i c;rw[if_neg c];exact⟨by rw[b];omega,by rw[b];omega,ada h 8 [] _ (λ_ q=>by cases q) a⟩
def adb(h:Bp B):∀(n i:Nat) (l:List PR),(∀r∈l,iF r)->∀r∈(xI B n i l).1,iF r
 |0,_,_,_=>λ_ q=>by cases q
 |n+1,i,l,hl=>by
  unfold xI;split
  .exact λ_ q=>by cases q
  .rename_i b;have a:∀r∈l++[(kX B (i,È)).1],iF r:=λr q=>by
    rcases û.1 q with q|q
    .exact hl r q
    .rw[í.1 q];exact as4 h<|by simpa using b
   split
   .exact a
   .split
    .exact adb h n _ _ a
    .exact λ_ q=>by cases q
theorem as5(h:Bp B):∀r∈(gy B).2.2,iF r:=by
 by_cases b:1200<B.size
 .unfold gy;grind
 .by_cases a:(gy B).1=0
  .have e:=Vj b;rw[if_pos a]at e;have c:(gy B).2.2=(xK B).1:=by rw[e]
   rw[c];unfold xK;split
   .grind
   .exact adb h 24 0 [] λ_ q=>by cases q
  .unfold gy at a|-;grind
end
end Go.Proofs.Y.gu
namespace Go.Proofs.Y.iV
open Go Go.Conc Go.Proofs Go.RowKit Go.Proofs.Y.Lift Go.Proofs.Y.gu Go.Proofs.Y.fA Go.Proofs.Y.lB
open Go.Conc.Lib Go.ConcR.Gen Go.Proofs.YtgpphkdoanciiaaGreatDoor
def F0(r:PR):Int×Nat×List Tx:=(r.c.getD 5 0,(r.c.getD 0 0).toNat,r.r.map toTx)
def uO(r:PR)(s:List fM):ByteArray:=if r.c.getD 4 0=1 then(rS (n8 s) (F0 r).1 (F0 r).2.1 (F0 r).2.2).2 else sY (n8 s) (toQn r)
def wj(s:List fM)(r:PR):List fM:=if r.c.getD 4 0=1 then A7 s (F0 r)else s
def rf(s:List fM)(rs:List PR):List fM:=rs.foldl wj s
def ade{kd:Nat->Int}(h:kd i=1):∀n,i<n->(ij kd n).getD (fP kd i) 0=i
 |0,q=>by omega
 |n+1,q=>by
  have a:i<n->∀x,(ij kd n++x).getD (fP kd i) 0=i:=λz x=>by
   have b:fP kd i<(ij kd n).length:=by
    have e:∀m,i+1<=m->(ij kd<|i+1).length<=(ij kd m).length:=λm=>by
     induction m with
     |zero=>intro z;omega
     |succ m c=>
      intro z;rcases Ŋ i m with y|y
      .apply Õ (c y);by_cases q:kd m=1
       .rw[uq q];simp
       .rw[xg q];exact Ù _
      .rw[show m=i by omega];exact Ù _
    have:=e n z;rw[uq h]at this;unfold fP;simp at this;omega
   have:=ade h n z;simp only[ċ,Ö b]at this|-;exact this
  by_cases z:i<n
  .by_cases q:kd n=1
   .rw[uq q];exact a z _
   .rw[xg q];have:=a z [];rwa[Þ]at this
  .obtain rfl:i=n:=Z
   rw[uq h];simp[ċ,fP]
section
variable{rs:List PR}{s:List fM}{P:ByteArray}
def Vm:∀p,p<=rs.length->qm (xE rs) (ij (lD rs) rs.length) s (fP (lD rs) p)=rf s (rs.take p)
 |0,_=>by simp[fP,ij,qm,rf]
 |p+1,h=>by
  have a:=Vm p Z;have b:rs.take (p+1)=rs.take p++[rs.getD p qx]:=by rw[ê];congr 1;simp[ċ,show p<rs.length by omega]
  unfold rf at a|-;rw[b,Ģ,<-a];show _=wj _ _;unfold wj;by_cases q:lD rs p=1
  .rw[if_pos (show(rs.getD p qx).c.getD 4 0=1 from q)];have e:fP (lD rs) (p+1)=fP (lD rs) p+1:=by unfold fP;rw[uq q];simp
   rw[e];show A7 _ _=_;rw[ade q _ Z];rfl
  .rw[if_neg (show¬(rs.getD p qx).c.getD 4 0=1 from q)];have e:fP (lD rs) (p+1)=fP (lD rs) p:=by unfold fP;rw[xg q]
   rw[e]
def as6(h:i<rs.length):(jZ rs s)[i]?=Ã (uO (rs.getD i qx)<|rf s<|rs.take i):=by unfold jZ;rw[Ē,ė h,ŋ,Vm i Z];rfl
theorem adf:zr rs s=rf s rs:=by unfold zr;rw[Vm _<|Ù _,List.take_length]
theorem as7(h:gy B=(0,0,rs)):jR s B=(lj ⟨#[59]⟩<|jZ rs s,0,rf s rs):=by unfold jR;grind [adf]
end
def as8(a:ByteArray)(l:List ByteArray)(x:ByteArray):mR a (l++[x])=mR a l++(a.data.toList++x.data.toList):=by simp[mR]
def as9(l:List ByteArray)(x:ByteArray):lj ⟨#[59]⟩ (l++[x])=(if l.length=0 then lj ⟨#[59]⟩ l else lj ⟨#[59]⟩ l++⟨#[59]⟩)++x:=by
 cases l with
 |nil=>exact Ć<|by simp[lj,Jg,mR]
 |cons y r=>
  rw[if_neg fp];apply Ć;show(y.data.toList++mR _ (r++[x])).toArray=_;rw[as8];simp[lj,Jg,đ]
theorem ata(h:(gy B).1=0):B.size<=1200:=by unfold gy at h;grind
theorem adg(h:(gy B).1=0):gy B=(0,0,(gy B).2.2):=by unfold gy at h|-;grind
end Go.Proofs.Y.iV
namespace Go.Proofs.Y.gu
open Go Go.Proofs Go.RowKit Go.Proofs.Y.Lift Go.Proofs.Y.iV Go.Proofs.Y.lB
section
variable{s:List fM}{r:PR}{a:Nat}
def adh{v:Int}(d:0<s.length)(e:-1<=v)(h:¬r7 s v<0):∃a:Nat,r7 s v=a/\a<s.length:=by
 unfold r7 at*;split at h
 .exact absurd (show(-1:Int)<0 by decide) h
 .split at h
  .rename_i b c;exact⟨v.toNat,by rw[if_neg b,if_pos c];omega,Z⟩
  .rename_i b c;exact⟨pj s s.length,by rw[if_neg b,if_neg c],U1 d _<|Ù _⟩
def atb(a:0<s.length)(b:-1<=r.c.getD 5 0)(h:r7 s (r.c.getD 5 0)<0):uO r s=ov 3/\wj s r=s:=by
 have e:=Ke a b;rw[if_pos h]at e;unfold uO wj;split
 .simp only[F0,rS,e,A7,rX,FE,Option.toList_none,Þ,and_self]
 .simp only[sY,toQn,e,and_self]
def atc(d:0<s.length)(f:-1<=r.c.getD 5 0)(g:r7 s (r.c.getD 5 0)=a)(b:r.c.getD 4 0=1):uO r s=(FY s.length (s.getD a iR) r).2/\wj s r=s++(FY s.length (s.getD a iR) r).1.toList:=by
 have e:=Ke d f;rw[g,if_neg Z,ò]at e;have h:(n8 s).length=s.length:=by simp[n8]
 unfold uO wj FY;rw[if_pos b,if_pos b];simp only[F0,A7,rX,FE,rS,e,h];cases mP (r.c.getD 0 0).toNat (s.getD a iR).s (r.r.map toTx)<;>exact⟨U,U⟩
def atd(d:0<s.length)(f:-1<=r.c.getD 5 0)(g:r7 s (r.c.getD 5 0)=a)(b:r.c.getD 4 0≠1):uO r s=rW (n8 s) (s.getD a iR) (toQn r)/\wj s r=s:=by have e:=Ke d f;rw[g,if_neg Z,ò]at e;unfold uO wj;rw[if_neg b,if_neg b];simp only[sY,toQn,e,and_self]
end
def ate(a:1<=h)(b:h<10)(c:h≠4)(d:h≠5):(h=1/\kV.getD (h-1).toNat 0=105)\/(h=2/\kV.getD (h-1).toNat 0=103)\/(h=3/\kV.getD (h-1).toNat 0=98)\/(h=6/\kV.getD (h-1).toNat 0=114)\/(h=7/\kV.getD (h-1).toNat 0=108)\/(h=8/\kV.getD (h-1).toNat 0=117)\/(h=9/\kV.getD (h-1).toNat 0=100):=by
 have:h=1\/h=2\/h=3\/h=6\/h=7\/h=8\/h=9:=Z
 rcases this with rfl|rfl|rfl|rfl|rfl|rfl|rfl<;>decide
structure ON(y:Nat)(av:Ì)(ps:List VR)(qb vb:Nat)(r:PR)(tv:Ì)(p:VR)(w0 w:Ý):Prop where
 C:RA y av ps w
 q:fq qb (lM r tv) 135 w
 v:fq vb (gJ p) 126 w
 kp:fc fh w0 w
def adi(h:∀x∈vX,0<x.size)(w:Ý):ë Á 90 #[Ê<|jC vX] w λe a=>e=Ñ (Ê<|vP vX)/\a=w:=by have:=ace (jC vX) w;rwa[aco h]at this
def atf{a:List (Nat×Int)}(h:xq a):∀x∈a.map mj,0<x.size:=λx b=>by obtain⟨e,c,rfl⟩:=ö.1 b;exact acr (h e c).1
section
variable{y qb vb:Nat}{av:Ì}{ps:List VR}{p:VR}{w0 w':Ý}{r:PR}{tv:Ì}{s:List fM}
def ON.fE(h:ON y av ps qb vb r tv p w0 w)(k:fc fh w w'):ON y av ps qb vb r tv p w0 w':=⟨h.C.fE k,h.q.C k id,h.v.C k id,h.kp.fj k⟩
def ON.ft(h:ON y av ps qb vb r tv p w0 w)(a:i<8):w.cell? ⟨vb,i,Å⟩=Ã (Â Ü (p.1.s i).ft):=h.v.r _ _<|by show(iH p.1.s++_)[i]?=_;rw[Ö (by rw[mV];omega),zu _ Z,FV a]
def ON.T8(h:ON y av ps qb vb r tv p w0 w)(b:i<8)(a:k<16):w.cell? ⟨vb,16+i*16+k,Å⟩=Ã (Â Ü<|(p.1.s i).r k):=h.v.r _ _<|by show(iH p.1.s++_)[16+i*16+k]?=_;rw[Ö (by rw[mV];omega),zu _ Z,NQ a]
def ON.Ty(h:ON y av ps qb vb r tv p w0 w):w.cell? ⟨vb,145,Å⟩=Ã p.2.1:=h.v.r _ _<|rZ 1 U
def RA.M(h:RA y av ps w)(f:ps[i]?=Ã p):∃b c,av=Ç (Ã ⟨b,0,Å⟩) ps.length c/\w.rangeAt b (i*148) (gJ p):=by let⟨b,c,e,g⟩:=h.I f;exact⟨b,c,e,λd v j=>g d v j⟩
def atg(h:RA y av ps w)(C:ps.map (·.1)=s)(F:kx s)(D:lB.Du r)(ht:ie 260 tv r.r.length (oP r.r) w)(mI:iF r): ë Á 59 #[Æ<|Ã ⟨y,0,Å⟩,ý (lM r tv).toArray] w λe w'=>∃Vo x,e=Ñ (Ê<|uO r s)/\RA y Vo x w'/\x.map (·.1)=wj s r/\fc (λi=>i=y\/av.ownBlock=Ã i) w w':=by
 have hlen:ps.length=s.length:=by rw[<-C,Ĭ]
 have G:=F.I;have h40:=F.C;have hN:∀W v,fc fh w W->-1<=v->v<1000000->ë Á 82 #[Æ<|Ã ⟨y,0,Å⟩,Â Ä v] W λe w'=>e=Ñ (Â Ä<|r7 s v)/\fc fh W w':=λW v k Y h2=>by
  refine Ú (arX (h.fE k) Z Z (λp O=> ?_) v Y Z) ?_
  .have:=(F.r p.1<|by rw[<-C];exact List.mem_map_of_mem O).2.2;omega
  .rintro e w' ⟨rfl,n,rfl⟩;rw[C];exact⟨U,fc.jh _ _ _⟩
 have u:=D.c.r 5 A;have I:=D.c.r 6 A;have o0:=D.c.r 0 A;have o7:=D.c.r 7 A;have o4:=D.c.r 4 A;simp only[ln]at u I o0 o7 o4;have hB:=fq.N w (lM r tv) 135;have k0:=fc.iw fh w (lM r tv).toArray 135;have q1:=hB.r 1 _ U;have lq:=hB.M;let⟨ap,Vp,J8⟩:=jv h.fg;subst J8;have HN:=eZ hN;by_cases Vq:r7 s (r.c.getD 5 0)<0
 .let⟨g,z⟩:=atb G u.1 Vq;rw[g,z];have H:=eZ<|À h<|À C k0;clear h hN C ht mI D F hB k0 g z;generalize r.c.getD 5 0=V at*;go_enter σ,θ;go_wp2_with (first
   |(with_reducible refine Ø U (Ã 3) U _ _ (sV U U) ?_;generalize w.alloc (Ó (lM r tv).toArray 135)=wa at*)
   |(go_at_call 82;refine Ú (HN.out _ _ H.out.2.2 u.1 u.2) ?_;rintro e J ⟨rfl,m⟩;have K:=eZ m;clear m)
   |(go_at_call 83;refine Ú (NN 3 Z _) ?_;rintro e w3 ⟨rfl,j⟩;subst j))
  go_ret;exact⟨_,ps,U,H.out.1.fE<|H.out.2.2.fj K.out,H.out.2.1,(H.out.2.2.fj K.out).ff λ_ _=>é⟩
 .let⟨a,ha,hal⟩:=adh G u.1 Vq;obtain⟨p,O⟩:∃p,ps[a]?=Ã p:=⟨_,Í Z⟩;have N7:p.1=s.getD a iR:=by rw[<-C];simp[ċ,O]
  have xP:=h.C p<|â O;let⟨vok,adj,vh0,vh1⟩:=F.r p.1 (by rw[N7];simp[ċ,hal]);have hA:=h.fE k0;let⟨L,rc,hrv,qI⟩:=hA.M O;cases hrv;let⟨i0,qh,hx⟩:=Ë.1 Ve;simp only[Ŀ,Ë]at hx;let⟨iO,_,z0,oI,hzc⟩:=hx;have oD:z0.cells.size=148:=by rw[show z0.cells=(gJ<|vz 0).toArray by rw[<-hzc]];exact zD 0
  clear hzc;let⟨dd,AU,vL⟩:=Ë.1 zz;have h1p:∀v∈gJ p,v.oneCell'=Î:=by let⟨⟨_,_,g,_⟩,⟨_,_,z,_⟩,⟨_,_,Q,_⟩⟩:=xP;exact N5 (by rw[g];rfl) (by rw[z];rfl)<|by rw[Q];rfl
  have B:=eZ<|À qh<|À oI<|À iO<|À oD<|À AU<|À vL h1p;have d:=eZ<|À h<|À C<|À F<|À D<|À ht<|À mI<|À xP N7;have P:=eZ<|À hA<|À hB<|À k0 qI;have l:=eZ<|À ha<|À vok adj;clear h hN C ht mI D F hB k0 hA qI xP vok adj qh oI iO oD AU vL h1p;generalize M:r.c.getD 5 0=V at*;obtain⟨V2,N8⟩:∃V2,r.c.getD 6 0=V2:=⟨_,U⟩;rw[N8]at I;obtain⟨X,hX⟩:∃X:Nat,r.c.getD 0 0=X:=⟨(r.c.getD 0 0).toNat,Z⟩;obtain⟨S,hS⟩:∃S:Nat,r.c.getD 7 0=S:=⟨(r.c.getD 7 0).toNat,Z⟩;have hX8:X<8:=Z
  have ath:S<16:=Z
  have J2:=ate o4.1 o4.2 d.out.2.2.2.2.2.1.1 d.out.2.2.2.2.2.1.2.1;have Y:=λe=>atc G (by rw[M];exact u.1) (by rwa[M]) e;have h2:=λe=>atd G (by rw[M];exact u.1) (by rwa[M]) e;have hq:toQn r=⟨X,(r.c.getD 1 0).toNat,(r.c.getD 2 0).toNat,(r.c.getD 3 0).toNat,r.c.getD 4 0,V,V2,S⟩:=by simp only[toQn,hX,hS,M,N8,ò]
  rw[<-N7]at Y h2;rw[hq]at h2;obtain⟨bn,hbn⟩:∃n:Nat,(p.1.s X).ft=n:=⟨(p.1.s X).ft.toNat,by have:=(l.out.2.2.ft X).1;omega⟩;obtain⟨sn,hsn⟩:∃n:Nat,(p.1.s X).r S=n:=⟨((p.1.s X).r S).toNat,by have:=(l.out.2.2.C X S).1;omega⟩;have ati:bn<18446744073709551616:=by have:=(l.out.2.2.ft X).2;omega
  have NR:sn<18446744073709551616:=by have:=(l.out.2.2.C X S).2;omega
  obtain⟨lp,lc,N9⟩:∃lp lc,p.2.1=Ç lp p.1.C.length lc:=by let⟨⟨a,b,e,_⟩,_,_⟩:=d.out.2.2.2.2.2.2.1;exact⟨a,b,e⟩
  have f:=eZ<|À hX<|À hS<|À M<|À hbn<|À hsn<|À N9<|À Y<|À h2 N8;clear hX hS M N8 Vq Y h2 hq hbn hsn N9 ha N7;let⟨d135,Kf,Kg⟩:=Ë.1 r8;let⟨d121,adk,adl⟩:=Ë.1 acM;have E:=eZ<|À Kf<|À Kg<|À adk adl;clear Kf Kg adk adl;rcases J2 with⟨e,N⟩|⟨e,N⟩|⟨e,N⟩|⟨e,N⟩|⟨e,N⟩|⟨e,N⟩|⟨e,N⟩;rotate_left 6;by_cases Dh:r7 s V2<0;rotate_left 2;all_goals
   go_enter σ,θ;go_wp2_with (first
    |(with_reducible refine Ø U (Ã 3) U _ _ (sV U U) ?_;generalize w.alloc (Ó (lM r tv).toArray 135)=wa at*)
    |(go_at_call 82;refine Ú (HN.out _ _ H.out.kp I.1 I.2) ?_;rintro e o ⟨rfl,g⟩;have H:=eZ<|H.out.fE g;clear g)
    |(go_at_call 82;refine Ú (HN.out _ V P.out.2.2.1 u.1 u.2) ?_;rintro e J ⟨rfl,m⟩;rw[l.out.1];have c0:=(P.out.1.fE m).r.r 0 _ U;have qI:J.rangeAt L (a*148) (gJ p):=(by let⟨_,_,e,z⟩:=(P.out.1.fE m).M O;cases e;exact z);have Q:=eZ<|À m qI;clear m qI)
    |(refine qi 126 U ?_;first|refine ô U 126 _ U L (a*148) U (gJ p) dd Q.out.2 B.out.2.2.2.2.1 B.out.2.2.2.2.2.1 (by rw[wi];exact congrArg Ã (lW _ _ _ _).symm) ?_|refine ô U 126 _ U J.heap.size 0 U (gJ p) dd (fq.Y (tl:=[])<|by rw[Þ];exact H.out.v) B.out.2.2.2.2.1 B.out.2.2.2.2.2.1 (by rw[wi];exact congrArg Ã (lW _ _ _ _).symm) ?_)
    |(refine MZ U U 126 U 6 U _ _ U U B.out.1 B.out.2.1 (gJ p) (by rw[B.out.2.2.1];exact(lW _ _ _ _).symm) (by rw[B.out.2.2.2.1];exact(lW _ _ _ _).symm) U U B.out.2.2.2.2.2.2 ?_;intro w3 hB3 T zC;have m:ON y (Ç (Ã ⟨L,0,Å⟩) ps.length Vp) ps w.heap.size J.heap.size r tv p w w3:=⟨P.out.1.fE<|Q.out.1.fj T,P.out.2.1.C (Q.out.1.fj T) id,hB3,P.out.2.2.1.fj<|Q.out.1.fj T⟩;have Q:=m.q.r 0 _ U;have q2:=m.q.r 2 _ U;have q3:=m.q.r 3 _ U;have q5:=m.q.r 5 _ U;have c0:=m.C.r.r 0 _ U;have l3:=m.v.M;have vb:=m.ft hX8;have vs:=m.T8 hX8 ath;have vl:=m.Ty;rw[N]at Q;rw[f.out.2.2.2.2.2.2.2.2]at q2;rw[f.out.1]at q3;rw[f.out.2.1]at q5;rw[f.out.2.2.2.1]at vb;rw[f.out.2.2.2.2.1]at vs;rw[f.out.2.2.2.2.2.1]at vl;have H:=eZ m;clear m hB3 T zC)
    |(refine qi 135 U ?_;refine ô U 135 _ U w.heap.size 0 U (lM r tv) d135 (fq.Y (tl:=[])<|by rw[Þ];exact H.out.q) E.out.1 E.out.2.1 re ?_)
    |(refine qi 121 U ?_;refine ô U 121 _ U J.heap.size 0 U (iH p.1.s) d121 (fq.Y H.out.v) E.out.2.2.1 E.out.2.2.2 (by rw[N4,mV]) ?_)
    |(go_at_call 83;refine Ú (NN 3 Z _) ?_;rintro e o ⟨rfl,j⟩;subst j)
    |(go_at_call 84;refine Ú (asI H.out.C Z (d.out.2.2.2.2.2.2.1.fE H.out.kp) l.out.2.2 Z d.out.2.2.2.1 (d.out.2.2.2.2.1.fE H.out.kp) d.out.2.2.2.2.2.1.2.2) ?_;rintro e o ⟨Vo,x,rfl,m,T,Kh⟩;have Q:=eZ<|À m<|À T Kh;clear m T Kh)
    |(go_at_call 85;refine Ú (FT bn ati _) ?_;rintro e o ⟨rfl,j⟩;subst j)
    |(go_at_call 88;refine Ú (arM _ (aaN _) _) ?_;rintro e o ⟨rfl,j⟩;subst j)
    |(go_at_call 89;refine Ú (arU l.out.2.2) ?_;rintro e o ⟨rfl,g⟩;have H:=eZ<|H.out.fE g;clear g)
    |(go_at_call 90;refine Ú (adi (atf l.out.2.1.C) _) ?_;rintro e o ⟨rfl,j⟩;subst j)
    |(go_at_call 91;refine Ú (arN (by rw[<-f.out.2.2.2.2.2.1];exact d.out.2.2.2.2.2.2.1.C.fE H.out.kp) l.out.2.1.I l.out.2.1.C) ?_;rintro e o ⟨rfl,m,j⟩;have g:fc fh _ o:=(by rw[j];exact fc.jh _ _ m);have H:=eZ<|H.out.fE g;clear g j)
    |(go_at_call 92;refine Ú (arO (d.out.2.2.2.2.2.2.1.r.fE H.out.kp) (d.out.2.2.2.2.2.2.1.I.fE H.out.kp) l.out.2.1.M l.out.2.1.r) ?_;rintro e o ⟨rfl,g⟩;have H:=eZ (H.out.fE g);clear g))
  .go_ret;let⟨m,g⟩:=f.out.2.2.2.2.2.2.1 e;rw[m,g,<-hlen];exact⟨Vo,x,U,Q.out.1,by rw[Q.out.2.1,d.out.2.1],(H.out.kp.ff λ_ _=>é).fj Q.out.2.2⟩
  .go_quiet ((go_at_call 85;exact è<|FT sn NR _))
   go_wp2;go_ret;let⟨m,g⟩:=f.out.2.2.2.2.2.2.2.1 (by rw[e];decide);refine⟨_,ps,?_,H.out.C.fE kp,by rw[g];exact d.out.2.1,(H.out.kp.fj kp).ff λ_ _=>é⟩;rw[m,e];simp[rW,f.out.2.2.2.2.1]
  .go_ret;let⟨m,g⟩:=f.out.2.2.2.2.2.2.2.1 (by rw[e];decide);refine⟨_,ps,?_,H.out.C,by rw[g];exact d.out.2.1,H.out.kp.ff λ_ _=>é⟩;rw[m,e];simp[rW,f.out.2.2.2.1]
  .go_ret;let⟨m,g⟩:=f.out.2.2.2.2.2.2.2.1 (by rw[e];decide);refine⟨_,ps,?_,H.out.C,by rw[g];exact d.out.2.1,H.out.kp.ff λ_ _=>é⟩;rw[m,e];simp[rW]
  .go_ret;let⟨m,g⟩:=f.out.2.2.2.2.2.2.2.1 (by rw[e];decide);refine⟨_,ps,?_,H.out.C,by rw[g];exact d.out.2.1,H.out.kp.ff λ_ _=>é⟩;rw[m,e];simp[rW]
  .go_ret;let⟨m,g⟩:=f.out.2.2.2.2.2.2.2.1 (by rw[e];decide);refine⟨_,ps,?_,H.out.C,by rw[g];exact d.out.2.1,H.out.kp.ff λ_ _=>é⟩;rw[m,e];simp[rW]
  .go_ret;let⟨m,g⟩:=f.out.2.2.2.2.2.2.2.1 (by rw[e];decide);refine⟨_,ps,?_,H.out.C,by rw[g];exact d.out.2.1,H.out.kp.ff λ_ _=>é⟩;have Q:=Ke G I.1;rw[if_pos Dh]at Q;rw[m,e];simp[rW,Q]
  .let⟨b,hb,Lr⟩:=adh G I.1<|Ζ.2 Dh;obtain⟨T,hp2⟩:∃p,ps[b]?=Ã p:=⟨_,Í Z⟩;have hp3:T.1=s.getD b iR:=by rw[<-d.out.2.1];simp[ċ,hp2]
   have DV:b<ps.length:=Z
   have Q:=Ke G I.1;rw[hb,if_neg Z,ò,<-hp3]at Q;simp only[hb];have hR:∀W,fc fh o W->W.cell? ⟨y,0,Å⟩=Ã (Ç (Ã ⟨L,0,Å⟩) ps.length Vp)/\W.rangeAt J.heap.size 0 (iH p.1.s)/\W.rangeAt L (b*148) (iH T.1.s):=λW k=>by refine⟨(H.out.fE k).C.r.r 0 _ U,fq.Y (H.out.fE k).v,?_⟩;let⟨_,_,e,z⟩:=(H.out.fE k).C.M hp2;cases e;exact λi v x=>z i v<|by show(iH T.1.s++_)[i]?=_;rwa[Ö (Ò.1 x).1]
   have HR:=eZ hR;have HS:=eZ<|hR _<|fc.gG fh o;have HF:=eZ Q;clear hR Q hp3;refine oZ (λW=>W.cell? ⟨y,0,Å⟩=Ã (Ç (Ã ⟨L,0,Å⟩) ps.length Vp)/\W.rangeAt J.heap.size 0 (iH p.1.s)/\W.rangeAt L (b*148) (iH T.1.s)) [] fx ?_;apply tk HS.out;refine tk (v:=ý (iH p.1.s).toArray) HS.out 1 ?_ (hy:=λw h=>N0 h.2.1 E.out.2.2.1 E.out.2.2.2 (by rw[N4,mV]) fL fL);iterate 7 apply tk HS.out
   refine tk (v:=ý (iH T.1.s).toArray) HS.out 9 ?_ (hy:=λw h=>N0 h.2.2 E.out.2.2.1 E.out.2.2.2 (by rw[N4,mV]) fL fL);apply ia 10;intro K i;go_simp;go_at_call 93;apply Ú arP;rintro e w5 ⟨rfl,k5⟩;have z:=(fc.gG fh o).fj k5;apply i.out _ _ λ_=>HR.out _ z;clear i K;apply ia 11;intro K i;go_simp;go_at_call 90;refine Ú (adi (λx hx=> ?_) _) ?_
   .rw[(UY (s:=p.1.s) (t:=T.1.s) 8<|Ù _).2 x hx];decide
   rintro e x ⟨rfl,j⟩;subst j;apply i.out _ _ λ_=>HR.out _ z;clear i K;apply ia 12;intro K i;go_simp;apply i.out _ _ λ_=>HR.out _ z;clear i K;refine oY fx ?_ _;go_wp2;go_ret;let⟨m,g⟩:=f.out.2.2.2.2.2.2.2.1 (by rw[e];decide);refine⟨_,ps,?_,(H.out.fE z).C,by rw[g];exact d.out.2.1,(H.out.fE z).kp.ff λ_ _=>é⟩;rw[m,e];simp[rW,HF.out]
end
section
variable{y:Nat}{c:List VR}{w':Ý}{s:List fM}{rs:List PR}
def RA.S(h:RA y x c w)(k:fc (λi=>i=y\/x.ownBlock=Ã i) w w')(a:T≠81)(d:T≠126)(q:ie T v n l w):ie T v n l w':=q.I k λb l g e z=>by
 rcases e with rfl|e
 .have:=h.r;rw[this]at z;cases z;exact a U
 .let⟨j,f⟩:=nV h.fg e;rw[f]at z;cases z;exact d U
def tA.iU(q:tA v rs w)(h:RA y x c w)(k:fc (λi=>i=y\/x.ownBlock=Ã i) w w'):tA v rs w':=by let⟨c,a,b,d⟩:=q;exact⟨c,a,h.S k A A b,λp q=>h.S k A A<|d p q⟩
def Vr:∀(c:List (PR×Value)) (j i:Nat) (p:PR×Value) (u:Ì),c[j]?=Ã p->(lM p.1 p.2)[i]?=Ã u->(uN c)[j*9+i]?=Ã u
 |[],j,i,p,u,h,_=>by cases h
 |q::r,0,i,p,u,h,hx=>by cases h;rwa[Ĳ,Ĕ,uN,ù,Ö (Ò.1 hx).1]
 |q::r,j+1,i,p,u,h,hx=>by have a:(lM q.1 q.2).length=9:=U;rw[uN,ù,å (by rw[a];omega),a,show(j+1)*9+i-9=j*9+i by omega];exact Vr r j i p u h hx
theorem tA.at(q:tA v rs w){r:PR}(k:rs[j]?=Ã r):∃b o cp d,v=Ç (Ã ⟨b,o,Å⟩) rs.length cp/\w.rangeAt b (o+j*9) (lM r d)/\ie 260 d r.r.length (oP r.r) w:=by
 obtain⟨c,l,⟨p,cp,rfl,_,f⟩,m⟩:=q;have g:(c.map (·.1))[j]?=Ã r:=by rwa[l]
 rw[Ē]at g;obtain⟨x,a,rfl⟩:=Ë.1 g;let⟨b,o,e,_⟩:=f (j*9) _<|Vr c j 0 x _ a U;refine⟨b,o,cp,x.2,by rw[e],λi u n=> ?_,m x<|â a⟩;let⟨s,t,h,_,y⟩:=f (j*9+i) u<|Vr c j i x u a n;rw[e]at h;cases h;grind
def Ju(ok:kx s)(a:∀r∈rs,QO r):kx (iV.rf s rs):=by rw[<-adf];exact ab0 ok a
theorem atj:J0 B=((gy B).1,(gy B).2.1):=by
 unfold J0;by_cases h:1200<B.size
 .rw[if_pos h];unfold gy;rw[if_pos h]
 .rw[if_neg h,Vj h];by_cases e:(gy B).1=0
  .rw[if_pos e,adg e];rfl
  .have a:0<=(mo B).1:=by
    unfold mo;grind
   rw[if_neg e,if_pos (by unfold gy;rw[if_neg h];split;exact Int.le_refl _;exact a)];unfold gy at e|-;grind
theorem atl(h:RA y x c w)(f:c.map (·.1)=s)(p:kx s)(hB:B.size<=č)(M:∀r∈(gy B).2.2,iF r): ë Á 43 #[Æ<|Ã ⟨y,0,Å⟩,Ê B] w λe w'=>∃O G,e=Ñ (Ď #[Ê (jR s B).1,Â Ä (jR s B).2.1])/\RA y O G w'/\G.map (·.1)=(jR s B).2.2/\fc (λ_=>True) w w':=by
 have n:=λW=>asf hB W;rw[atj]at n;by_cases k:(gy B).1=0
 .have hle:=ata k;have P:=λW=>acI hle W;rw[Vj Z,if_pos k]at P;rw[as7<|adg k];let⟨Q,Cq⟩:=Jy λr h=>É<|M r h;simp only[k]at n;generalize(gy B).2.1=z at*;generalize(gy B).2.2=rs at*;have vd:=abZ p Q Cq;have H:=eZ<|À n P;have u:=eZ<|À M<|À Q<|À vd p;have D:=eZ<|À h f;clear n P M Q vd p h f;obtain⟨N,S⟩:∃N,rs.length=N:=⟨_,U⟩;rw[S]at Cq;have v:=eZ S;clear S;go_enter ŷ,ι;go_wp2_with (first
   |(go_at_call 57;refine Ú (H.out.1 _) ?_;rintro e w1 ⟨rfl,E⟩;have K:=eZ E;clear E)
   |(go_at_call 58;refine Ú (H.out.2 _) ?_;rintro e w2 ⟨lv,rfl,g,k2⟩;obtain⟨T,V,N9⟩:∃T V,lv=Ç T rs.length V:=(by let⟨_,_,⟨a,b,e,_⟩,_⟩:=id g;exact⟨a,b,e⟩);subst N9;rw[v.out]at g|-;have K:=eZ (À (K.out.fj k2) g);clear k2 g))
  have h1:(9:Nat)=9:=U;let⟨d135,Kf,Kg⟩:=Ë.1 r8;have HD:=eZ<|À Kf Kg;clear Kf Kg h1;go_loopw [10,11] (λd i wr=>∃(j:Nat) (x:Ì) (c:List VR),j<=N/\i=Â Ä j/\d=Ê (lj ⟨#[59]⟩<|(jZ rs s).take j)/\RA y x c wr/\c.map (·.1)=iV.rf s (rs.take j)/\tA (Ç T N V) rs wr/\fc (λ_=>True) w wr) λ_ i _=>N-(î i).toNat
  case atStart=>exact⟨0,x,c,Û _,U,U,D.out.1.fE K.out.1,D.out.2,K.out.2,K.out.1.ff λ_ _=>é⟩
  case round=>
   obtain⟨j,x,c,hj,rfl,rfl,F,f,g,I⟩:=hrel;by_cases X:j<N
   .obtain⟨r,J⟩:∃r,rs[j]?=Ã r:=⟨_,Í<|by rwa[v.out]⟩;let⟨b,o,cp,tv,hv,qI,zi⟩:=g.at J;cases hv;have adn:=â J;have p:=Ju u.out.2.2.2 (rs:=rs.take j) λr q=>u.out.2.1 r<|ĩ q;have C:=atg F f p (u.out.2.1 r adn).lo zi<|u.out.1 r adn;have AO:iV.rf s (rs.take<|j+1)=wj (iV.rf s<|rs.take j) r:=by
     rw[ê,J,Ğ,iV.rf,Ģ];rfl
    have Y:(jZ rs s).take (j+1)=(jZ rs s).take j++[uO r<|iV.rf s<|rs.take j]:=by rw[ê,as6 (by rwa[v.out]),ċ,J];rfl
    have L:=as9 ((jZ rs s).take j)<|uO r<|iV.rf s<|rs.take j;rw[<-Y]at L;have iO:(lj ⟨#[59]⟩<|(jZ rs s).take j).size<=2400000024:=by have h1:=Ub ⟨#[59]⟩ U<|(jZ rs s).take j;have h2:=Nf (jZ rs s) j;have h3:=u.out.2.2.1;grind
    have hz:(uO r<|iV.rf s<|rs.take j).size<=2400000024:=by have h2:=Nf (jZ rs s)<|j+1;have h3:=u.out.2.2.1;rw[Y,TY]at h2;simp[jd]at h2;unfold jd at h3;omega
    have hl:((jZ rs s).take j).length=j:=by rw[ű,NG,v.out];omega
    rw[hl]at L;generalize uO r (iV.rf s<|rs.take j)=t at*;generalize lj ⟨#[59]⟩ ((jZ rs s).take j)=d at*;have l:=eZ<|À AO<|À L<|À C<|À g<|À I<|À F qI;clear AO Y L C g I F qI f p zi hl;rcases Ĝ j with rfl|hj0;have Hh:((if(0:Nat)=0 then d else d++⟨#[59]⟩):ByteArray)=d:=U;rotate_left;have Hh:((if j=0 then d else d++⟨#[59]⟩):ByteArray)=d++⟨#[59]⟩:=if_neg Z;rotate_left;all_goals
     rw[Hh]at l;clear Hh;go_wp2_with (first
      |(refine qi 135 U ?_;refine ô U 135 _ U b (o+_*9) U (lM r tv) d135 l.out.2.2.2.2.2.2 HD.out.1 HD.out.2 re ?_)
      |(go_at_call 59;refine Ú l.out.2.2.1 ?_;rintro e w4 ⟨O,G,rfl,AK,hmp,Kh⟩;have m:=eZ (À AK (À hmp Kh));clear AK hmp Kh))
     go_roundw
     case rel=>exact⟨_+1,O,G,X,by go_num,by rw[l.out.2.1],m.out.1,by rw[l.out.1];exact m.out.2.1,l.out.2.2.2.1.iU l.out.2.2.2.2.2.1 m.out.2.2,l.out.2.2.2.2.1.fj<|m.out.2.2.ff λ_ _ _=>trivial⟩
     case measure=>simp[î];omega
   .obtain rfl:j=N:=Z
    rw[á (by rw[NG,v.out];exact Ù _)];rw[á (by rw[v.out];exact Ù _)]at f;have m:=eZ<|À F<|À f I;clear F f I g;go_wp2;go_ret2;exact⟨x,c,U,m.out.1,m.out.2.1,m.out.2.2⟩
 .unfold jR;rw[if_neg k];obtain⟨z,hz⟩:∃z,(gy B).1=z:=⟨_,U⟩;simp only[hz]at n k|-;have e1:(z !=0)=Î:=by simpa using k
  have H:=eZ n;have D:=eZ<|À h f;clear n h f k hz;go_enter ŷ,ι;go_wp2_with (go_at_call 57;apply Ú (H.out _);rintro e w1 ⟨rfl,E⟩;have K:=eZ E;clear E);go_ret2;exact⟨_,c,U,D.out.1.fE K.out,D.out.2,K.out.ff λ_ _=>é⟩
end
end Go.Proofs.Y.gu
namespace Go.Proofs.Y.iV
open Go Go.Conc Go.Proofs Go.RowKit Go.Proofs.Y.Lift Go.Proofs.Y.gu Go.Proofs.Y.fA Go.Proofs.Y.lB
open Go.Conc.Lib Go.ConcR.Gen Go.Proofs.YtgpphkdoanciiaaGreatDoor
structure zF(l:fe)(y:Nat)(s:List fM)(U:Nat->Prop):Prop where
 I:∃av ps,RA y av ps l.w/\ps.map (·.1)=s
 C:kx s
 r:yZ U (λ_=>False) nB l.w
 fg:∀b,U b->l.O b
 y:U y
section
variable{J:Jd}{l l':fe}{y:Nat}{s:List fM}{a:Nat->Prop}{c:Λ}
def zF.M(h:zF l y s a)(c:∀b,a b->l'.O b/\l'.w.heap[b]?=l.w.heap[b]?)(d:nB<=l'.w.heap.size):zF l' y s a:=by let⟨e,f,g,i⟩:=h.I;refine⟨⟨e,f,RA.asH g h.r h.y λb q=>(c b q).2,i⟩,h.C,⟨λb q=> ?_,d⟩,λb q=>(c b q).1,h.y⟩;rw[(c b q).2];exact h.r.r b q
structure ado(l l':fe)(y:Nat)(s':List fM)(a U':Nat->Prop):Prop where
 r:∀b,l.O b->l'.O b/\(¬a b->l'.w.heap[b]?=l.w.heap[b]?)
 wO:l.w.heap.size<=l'.w.heap.size
 atm:zF l' y s' U'
 wy:∀b,U' b->a b\/l.w.heap.size<=b
def Oa{a:List VR}(h:RA y v a u)(T:Tape)(D:Nat):RA y v a {u with tape:=T,drawn:=D}:=⟨h.r,h.fg,λp q=>⟨(h.C p q).C,(h.C p q).I,(h.C p q).r⟩⟩
def atn(h:kx s)(a:∀r∈(gy B).2.2,iF r):kx (jR s B).2.2:=by
 unfold jR;split
 .exact ab0 h (Jy λr h=>É<|a r h).1
 .exact h
def ato(w:ic l)(h:zF l y s a)(C:B.size<=č)(m:∀r∈(gy B).2.2,iF r) (E:∀l' F,ic l'->ado l l' y (jR s B).2.2 a F->fA.fi Á Î J l' (G (f.at (c.put ((Q[i]?).bind (·.dst))<|Ď #[Ê (jR s B).1,Â Ä (jR s B).2.1])<|æ Q jJ::L) qX)): fA.fi Á Î J l (G (ó Á 43 #[Æ<|Ã ⟨y,0,Å⟩,Ê B] ę)<|f.at c (æ Q (i::jJ)::L)::qX):=by
 let⟨k,d,H,I⟩:=h.I;refine fA.fi.ma ?_ (ab9 (Post:=λv u=>v=Ď #[Ê (jR s B).1,Â Ä (jR s B).2.1]/\∃k d,RA y k d u/\d.map (·.1)=(jR s B).2.2) w h.fg h.r fL (oM λv n=> ?_) (λv u T D q=> ?_) (λT=> ?_) Î _ _)
 .rintro K g2 ⟨M,e,Y,u,v,N,O,o,P,⟨rfl,av2,ps2,g,j⟩,rfl,p⟩;obtain rfl:N=Ď #[Ê (jR s B).1,Â Ä (jR s B).2.1]:=by
   generalize(jR s B).1=x at*;generalize(jR s B).2.1=z at*;cases P with
   |@lZ _ ku hs kz=>
    let⟨S⟩:=ku;match S,hs with
    |[x,y],_=>
     have b:=kz 0 fp fp;have t:=kz 1 fp fp;simp at b t;cases b;cases t;rfl
  have t:Y y y:=O.1 _ _ ⟨U,h.y⟩;let⟨S,V,W,X⟩:=acW o t<|Oa g _ _;rw[Ě];exact E K _ M ⟨e.C,e.r,⟨⟨S,V,W,X.trans j⟩,atn h.C m,acd o<|Õ h.r.fv e.r,λb ⟨i,q⟩=>(p i b q).1,⟨y,t⟩⟩,λb ⟨i,q⟩=>(p i b q).2⟩
 .simp at n;rcases n with rfl|rfl
  .exact fu.jE (Y:=mh a nB) ⟨⟨U,h.y⟩,U,U⟩
  .exact .kt B
 .let⟨e,k,d,g,j⟩:=q;exact⟨e,k,d,Oa g T D,j⟩
 .apply Ú (atl (RA.j2 H T 0) I h.C C m);rintro e S ⟨b,t,rfl,g,j,L⟩;exact⟨⟨U,b,t,g,j⟩,L.gU A6⟩
def atp(r:ic l)(g:nB<=l.w.heap.size){n:Int}(s:1<=n)(t:n<=8) (B:∀l' y C,ic l'->ado l l' y [gu.iR] (λ_=>False) C->fA.fi Á Î J l' (G (f.at (c.put ((Q[i]?).bind (·.dst))<|Ď #[Æ<|Ã ⟨y,0,Å⟩,Â Ä 0])<|æ Q jJ::L) qX)): fA.fi Á Î J l (G (ó Á 39 #[Â Ä n] ę)<|f.at c (æ Q (i::jJ)::L)::qX):=by
 refine fA.fi.ma ?_<|ab9 (V:=λ_=>False) (Post:=λv u=>∃y d,v=Ď #[Æ<|Ã ⟨y,0,Å⟩,Â Ä 0]/\RA y d [vz 8] u) r (λ_ q=>q.elim) ⟨λ_ q=>q.elim,g⟩ fL (oM λv h=> ?_) (λv u T D q=> ?_) (λT=> ?_) Î _ _
 .rintro E W ⟨F,e,Y,u,v,X,q1,j,H,⟨y,d,rfl,a⟩,rfl,k⟩;cases H with
  |@lZ _ ku hs kz=>
   let⟨I⟩:=ku;match I,hs with
   |[x,z],_=>
    have m:=kz 0 fp fp;have o:=kz 1 fp fp;simp at m o;cases o;obtain⟨a2,rfl,K⟩:=Ji m;obtain⟨M,rfl,p⟩:=vR K;let⟨N,O,P,S⟩:=acW j p<|Oa a _ _;rw[Ě];exact B E M _ F ⟨e.C,e.r,⟨⟨N,O,P,S⟩,abP,acd j<|Õ g e.r,λb ⟨i,q⟩=>(k i b q).1,⟨y,p⟩⟩,λb ⟨i,q⟩=>(k i b q).2⟩
 .simp at h;subst h;exact .iB _ _
 .let⟨y,d,e,a⟩:=q;exact⟨y,d,e,Oa a T D⟩
 .apply Ú (asD n s t _);rintro e d ⟨y,b,rfl,a,L⟩;exact⟨⟨y,b,U,a⟩,L.gU A6⟩
end
section
variable{c l a:fe}{x:Nat}{s t:List fM}{u:Ì}{V:Nat->Prop}{xs:List Ì}
def mU.atq(h:mU l x n s jQ V)(c:∀b,l.O b->¬X b->a.O b/\a.w.heap[b]?=l.w.heap[b]?)(d:∀b,X b->¬V b/\b≠x/\¬(b=1\/b=2\/b=3\/b=4))(f:nB<=a.w.heap.size):mU a x n s jQ V:=by have g:=λb q=>c b (h.C b q) λe=>(d b e).2.2 q;have v:=λb q=>c b (h.S b q) λe=>(d b e).1 q;have o:=c x h.fg λe=>(d x e).2.1 U;exact⟨h.r.r f λb q=>(g b q).2,λb q=>(g b q).1,h.Y.r o.2,o.1,h.rd.r λb q=>(v b q).2,λb q=>(v b q).1,h.d,h.a,h.c,h.M⟩
def DW(h:gd X l a)(b:ic l):ic a:= ⟨h.N b.r,h.d.trans b.d,by rw[h.q];exact b.q,by rw[h.S];exact b.rd,by rw[h.Y];exact b.I,by rw[h.b];exact b.M,by rw[h.K];exact b.k⟩
end
def nA(l a:fe):Prop:=∀b,l.O b->a.O b/\a.w.heap[b]?=l.w.heap[b]?
section
variable{J:Jd}{l c:fe}{x:Nat}{s d:List fM}{b e:į}{a g:Λ}{f:FuncId}{args:Array Ì}{p:Func}{u:Array İ}{z:Array Ġ}{xs:List ByteArray}{y:ByteArray}{t:İ}
def nA.r{a:fe}(h:nA l c)(L:nA c a):nA l a:=λb q=>⟨(L b (h b q).1).1,(L b (h b q).1).2.trans (h b q).2⟩
def DX{w₁:Ý}(r:fI l l.w w₁):nA l {l with w:=w₁}:=λb q=>⟨q,r.I b<|É q⟩
end
structure Pr where
 x:Nat
 n:Nat
 s:List fM
 y:Nat
 d:List fM
structure pP(l:fe)(qs:List Pr)(t:Nat->Nat):Prop where
 x:∀(i:Nat) (a:Pr),qs[i]?=Ã a->t a.x=2*i+2/\∃sl V,mU l a.x a.n a.s sl V/\∀b,V b->t b=0
 y:∀(i:Nat) (a:Pr),qs[i]?=Ã a->∃U,zF l a.y a.d U/\∀b,U b->t b=2*i+3
 C:mS l.w
 r:∀b,b=1\/b=2\/b=3\/b=4->l.O b/\t b=0
 I:∀b,¬l.O b->t b=0
def r9(l:fe)(t:Nat->Nat)(a:fe)(c:Nat->Nat):Prop:=∀b,l.O b->t b<=1->a.O b/\a.w.heap[b]?=l.w.heap[b]?/\c b=t b
section
variable{J:Jd}{l l' m:fe}{qs:List Pr}{a:Pr}{t o:Nat->Nat}{g:Λ}{c:Nat}{k:List aG}{cs:List į}
def r9.fj(h:r9 l t l' D)(k:r9 l' D m o):r9 l t m o:=λb q z=>by let⟨a,c,d⟩:=h b q z;let⟨e,f,g⟩:=k b a Z;exact⟨e,f.trans c,g.trans d⟩
def nA.fE(h:nA l l'):r9 l t l' t:=λb q _=>⟨(h b q).1,(h b q).2,U⟩
def qy(r:fI l l.w u):r9 l t {l with w:=u} t:=(DX r).fE
def pP.M(h:pP l qs t)(k:nA l l')(e:l.w.heap.size<=l'.w.heap.size):pP l' qs t:=by
 have f:=Õ h.C.fv e;refine⟨λi a q=> ?_,λi a q=> ?_,h.C.r f λb q=>(k b (h.r b q).1).2,λb q=>⟨(k b (h.r b q).1).1,(h.r b q).2⟩,λb q=>h.I b λz=>q (k b z).1⟩
 .let⟨c,g,V,d,j⟩:=h.x i a q;exact⟨c,g,V,d.I (λb q=>(k b q).1) (λb q=>(k b q).2) e,j⟩
 .let⟨U,c,d⟩:=h.y i a q;exact⟨U,c.M (λb z=>k b<|c.fg b z) f,d⟩
def pP.N(h:pP l qs t)(m:∀b,l.O b->t b≠c->l'.O b/\l'.w.heap[b]?=l.w.heap[b]?)(o:nB<=l'.w.heap.size)(p:c≠0): (∀(i:Nat) (a:Pr),qs[i]?=Ã a->2*i+2≠c->∃k V,mU l a.x a.n a.s k V/\mU l' a.x a.n a.s k V/\∀b,V b->t b=0)/\(∀(i:Nat) (a:Pr),qs[i]?=Ã a->2*i+3≠c->∃f,zF l a.y a.d f/\zF l' a.y a.d f/\∀b,f b->t b=2*i+3)/\mS l'.w/\∀b,b=1\/b=2\/b=3\/b=4->l'.O b:=by
 have r:=λb q=>m b (h.r b q).1 (by rw[(h.r b q).2];exact p.symm);refine⟨λi a q z=> ?_,λi a q z=> ?_,h.C.r o λb q=>(r b q).2,λb q=>(r b q).1⟩
 .let⟨g,k,V,j,u⟩:=h.x i a q;exact⟨k,V,j,j.atq (X:=λb=>t b=c) m (λb e=>⟨λv=>p (by rw[<-e];exact u b v),λv=>z (by rw[<-e,v];exact g.symm),λv=>p<|by rw[<-e];exact(h.r b v).2⟩) o,u⟩
 .let⟨f,g,j⟩:=h.y i a q;exact⟨f,g,g.M (λb v=>m b (g.fg b v)<|by rwa[j b v]) o,j⟩
theorem adp{b:Pr}(h:(qs.set i a)[j]?=Ã b)(c:i<qs.length):(j=i/\b=a)\/(j≠i/\qs[j]?=Ã b):=by grind
theorem atr(h:pP l qs t)(m:qs[j]?=Ã a)(n:ic l)(D:B.size<=č)(E:∀r∈(gy B).2.2,iF r) (F:∀l',ic l'->pP l' (qs.set j {a with s:=(jR a.s B).2.2}) t->r9 l t l' t->jm vQ l' (G (f.at (g.put ((Q[i]?).bind (·.dst))<|Ď #[Ê (jR a.s B).1,Â Ä (jR a.s B).2.1])<|æ Q jJ::k) cs)): jm vQ l (G (ó Á 17 #[Æ<|Ã ⟨a.x,0,Å⟩,Ê B] ę)<|f.at g (æ Q (i::jJ)::k)::cs):=by
 let⟨o,p,V,u,H⟩:=h.x j a m;have I:=(Ò.1 m).1;have y:∀r∈(gy B).2.2,Jx r:=λr h=>É<|E r h;refine aqY y n u D (λ_=>aq4 y (by let⟨_,_,q,_⟩:=u.rd;exact q)) λl' J ⟨C,K,L,c,M⟩=> ?_;have d:∀b,l.O b->t b≠2*j+2->l'.O b/\l'.w.heap[b]?=l.w.heap[b]?:=λb q z=>C b q λe=>z (by rwa[e]);let⟨N,W,P,S⟩:=h.N d c.r.fv Z;refine F l' J ⟨λi b q=> ?_,λi b q=> ?_,P,λb q=>⟨S b q,(h.r b q).2⟩,λb q=>h.I b λz=>q ?_⟩ λb q z=>⟨(d b q Z).1,(d b q Z).2,U⟩
 .rcases adp q I with⟨rfl,rfl⟩|⟨e,q⟩
  .refine⟨o,K,L,c,λb q=> ?_⟩;rcases M b q with z|z|z
   .exact H b z
   .exact(h.r b z).2
   .exact h.I b λv=>by have:=n.r.fv b<|É v;omega
  .let⟨p,V,_,v,T⟩:=N i b q Z;exact⟨(h.x i b q).1,p,V,v,T⟩
 .grind
 .by_cases e:b=a.x
  .rw[e];exact c.fg
  .exact(C b z e).1
theorem atu(h:pP l qs t)(I:qs[j]?=Ã a)(K:ic l)(P:B.size<=č)(S:∀r∈(gy B).2.2,iF r) (T:∀l' D,ic l'->pP l' (qs.set j {a with d:=(jR a.d B).2.2}) D->r9 l t l' D->fA.fi Á Î J l' (G (f.at (g.put ((Q[i]?).bind (·.dst))<|Ď #[Ê (jR a.d B).1,Â Ä (jR a.d B).2.1])<|æ Q jJ::k) cs)): fA.fi Á Î J l (G (ó Á 43 #[Æ<|Ã ⟨a.y,0,Å⟩,Ê B] ę)<|f.at g (æ Q (i::jJ)::k)::cs):=by
 let⟨U,W,L⟩:=h.y j a I;have X:=(Ò.1 I).1;refine ato K W P S λl' m Y ⟨C,hs,M,hU'⟩=> ?_;have E:∀b,l.O b->t b≠2*j+3->l'.O b/\l'.w.heap[b]?=l.w.heap[b]?:=λb q z=>⟨(C b q).1,(C b q).2 λe=>z<|L b e⟩;let⟨c1,c2,c3,c4⟩:=h.N E M.r.fv Z;have:=λb=>Classical.propDecidable<|m b;have p:∀b,l.O b->t b≠2*j+3->(if m b then 2*j+3 else t b)=t b:=λb q z=>if_neg λv=>(hU' b v).elim (λe=>z<|L b e) λe=>by have:=K.r.fv b<|É q;omega
 refine T l' (λb=>if m b then 2*j+3 else t b) Y ⟨λi b q=> ?_,λi b q=> ?_,c3,λb q=>⟨c4 b q,?_⟩,λb q=> ?_⟩ λb q z=>⟨(E b q Z).1,(E b q Z).2,?_⟩
 .have key:∀(c:Pr),qs[i]?=Ã c->(if m c.x then 2*j+3 else t c.x)=2*i+2/\∃F V,mU l' c.x c.n c.s F V/\∀b,V b->(if m b then 2*j+3 else t b)=0:=λc N=>by
   let⟨F,V,u,H,o⟩:=c1 i c N Z;have e1:=(h.x i c N).1;refine⟨by rwa[p _ u.fg Z],F,V,H,λb v=> ?_⟩;rw[p b (u.S b v) (by have:=o b v;omega)];exact o b v
  grind
 .rcases adp q X with⟨rfl,rfl⟩|⟨e,q⟩
  .grind
  .let⟨V,u,H,o⟩:=c2 i b q Z;refine⟨V,H,λb v=> ?_⟩;rw[p b (u.fg b v) (by rw[o b v];omega)];exact o b v
 .have:=(h.r b q).2;exact(p b (h.r b q).1 Z).trans this
 .refine(if_neg λv=>q<|M.fg b v).trans ?_;exact h.I b λv=>q (C b v).1
 .grind
end
def tB(b:List Pr):List Ì:=b.flatMap λa=>[Æ<|Ã ⟨a.x,0,Å⟩,Æ<|Ã ⟨a.y,0,Å⟩]
structure pQ(l:fe)(qs:List Pr)(t:Nat->Nat)(wb:Nat)(pv:Ì):Prop where
 m:pP l qs t
 C:gA l wb (Ó #[pv] 54 (0,0))
 S:t wb=1
 N:l.w.ownsRow 0 76 2 pv qs.length (tB qs)
 M:∀b,pv.ownBlock=Ã b->l.O b/\t b=1
def wm(l:fe)(t:Nat->Nat)(a:fe)(c:Nat->Nat):Prop:=∀b,l.O b->t b=0->a.O b/\a.w.heap[b]?=l.w.heap[b]?/\c b=0
section
variable{J:Jd}{l l' l2:fe}{qs B:List Pr}{t g:Nat->Nat}{wb:Nat}{pv:Ì}{C:į}{ops:Array Ĥ}{rest:List Nat}{k:List aG}{cs:List į}
def r9.r(h:r9 l t l' D):wm l t l' D:=λb q z=>by let⟨a,c,d⟩:=h b q Z;exact⟨a,c,d.trans z⟩
def wm.fj(h:wm l t l' D)(k:wm l' D l2 g):wm l t l2 g:=λb q z=>by let⟨a,c,d⟩:=h b q z;let⟨e,f,i⟩:=k b a d;exact⟨e,f.trans c,i⟩
def pQ.fE(h:pQ l qs t wb pv)(m:pP l' B D)(k:r9 l t l' D)(e:tB B=tB qs)(a:B.length=qs.length):pQ l' B D wb pv:=by
 let⟨c,d,f⟩:=k wb h.C.fg (by rw[h.S];exact Ù _);refine⟨m,⟨c,d.trans h.C.I⟩,f.trans h.S,?_,λb q=> ?_⟩
 .rw[e,a];exact oW h.N λb q=>(k b (h.M b q).1<|by rw[(h.M b q).2];exact Ù _).2.1
 .let⟨g,j,i⟩:=k b (h.M b q).1 (by rw[(h.M b q).2];exact Ù _);exact⟨g,i.trans (h.M b q).2⟩
def pQ.I(h:pQ l qs t wb pv)(k:nA l l')(a:l.w.heap.size<=l'.w.heap.size):pQ l' qs t wb pv:=h.fE (h.m.M k a) k.fE U U
def pQ.r(h:pQ l qs t wb pv){w₁:Ý}(r:fI l l.w w₁):pQ {l with w:=w₁} qs t wb pv:=h.I (DX r) r.r
def adq{Y:fw}(h:fu Y (Ď #[Æ Å,Â Ä 7]) v):v=Ď #[Æ Å,Â Ä 7]:=by
 cases h with
 |@lZ _ ku hs kz=>
  let⟨c⟩:=ku;match c,hs with
  |[x,y],_=>
   have a:=kz 0 fp fp;have b:=kz 1 fp fp;simp at a b;cases a;cases b;rfl
def atv(e:Int)(w:Ý):ë Á 40 #[Â Ä e] w λr a=>r=Ñ (Â Ä e)/\a=w:=by go_enter œ,Tryz.ntmps40;go_wp2;go_ret;exact⟨U,U⟩
def pP.fg(h:pP l qs t)(g:∀b,l.O b->t b≠1->l'.w.heap[b]?=l.w.heap[b]?)(j:∀b,l.O b->l'.O b)(k:nB<=l'.w.heap.size)(d:∀b,l.O b->D b=t b)(m:∀b,¬l'.O b->D b=0):pP l' qs D:=by
 let⟨n,o,p,r⟩:=h.N (c:=1) (λb q z=>⟨j b q,g b q z⟩) k A;refine⟨λi a q=> ?_,λi a q=> ?_,p,λb q=>⟨r b q,(d b (h.r b q).1).trans (h.r b q).2⟩,m⟩
 .let⟨s,V,z,e,f⟩:=n i a q Z;exact⟨(d _ z.fg).trans (h.x i a q).1,s,V,e,λb v=>(d b<|z.S b v).trans<|f b v⟩
 .let⟨U,z,e,f⟩:=o i a q Z;exact⟨U,e,λb v=>(d b<|z.fg b v).trans<|f b v⟩
def pP.iG{x:Nat}{sl:Ì}{V:Nat->Prop}(h:pP l qs t)(k:nA l l')(p:l.w.heap.size<=l'.w.heap.size)(g:mU l' x n [gu.iR] sl V)(r:zF l' j [gu.iR] X)(s:¬l.O x)(u:∀b,V b->¬l.O b)(o:∀b,X b->¬l.O b/\¬V b/\b≠x): ∃D,pP l' (qs++[⟨x,n,[gu.iR],j,[gu.iR]⟩]) D/\∀b,l.O b->D b=t b:=by
 have:=λb=>Classical.propDecidable<|X b;have c:∀b,l.O b->(if b=x then 2*qs.length+2 else if X b then 2*qs.length+3 else t b)=t b:=λb q=>by rw[if_neg (by rintro rfl;exact s q),if_neg λe=>(o b e).1 q]
 have m:=h.M k p;refine⟨λb=>if b=x then 2*qs.length+2 else if X b then 2*qs.length+3 else t b,⟨λi a q=> ?_,λi a q=> ?_,m.C,λb q=>⟨(m.r b q).1,(c b (h.r b q).1).trans (h.r b q).2⟩,λb q=> ?_⟩,c⟩
 .rcases Ŋ i qs.length with z|z
  .rw[Ö z]at q;let⟨d,sl,V,f,B⟩:=h.x i a q;exact⟨(c _ f.fg).trans d,sl,V,f.I (λb q=>(k b q).1) (λb q=>(k b q).2) p,λb v=>(c b<|f.S b v).trans<|B b v⟩
  .rw[å z]at q;obtain e:i-qs.length=0:=by have:=(Ò.1 q).1;simp at this;omega
   rw[e]at q;cases q;obtain rfl:i=qs.length:=Z
   refine⟨if_pos U,sl,V,g,λb v=> ?_⟩;show(if b=x then _ else if X b then _ else t b)=0;rw[if_neg (by rintro rfl;exact g.d v),if_neg λe=>(o b e).2.1 v];exact h.I b<|u b v
 .rcases Ŋ i qs.length with z|z
  .rw[Ö z]at q;let⟨X,d,f⟩:=h.y i a q;exact⟨X,d.M (λb z=>k b<|d.fg b z) m.C.fv,λb v=>(c b<|d.fg b v).trans<|f b v⟩
  .rw[å z]at q;obtain e:i-qs.length=0:=by have:=(Ò.1 q).1;simp at this;omega
   rw[e]at q;cases q;obtain rfl:i=qs.length:=Z
   exact⟨X,r,λb v=>(if_neg (o b v).2.2).trans<|if_pos v⟩
 .show(if b=x then _ else if X b then _ else t b)=0;rw[if_neg (by rintro rfl;exact q g.fg),if_neg λe=>q<|r.fg b e];exact h.I b λz=>q (k b z).1
def F1{b:Frame}{a:Act}{o:Oper}{f:FuncId}{args:Array Value}{fn:Func}{ags:Array Operand}{ats:Array TypeId}{v:Value}(hb:ic l)(Tn:nB<=l.w.heap.size)(hf:Tryz.prog.funcs[f]?=some fn) (hc:∀l',ic l'->nB<=l'.w.heap.size->∀(cl:Frame) (cs:List Frame),fA.fi Tryz.prog true (λl'' g'=>iA l' l''/\l''.d=l'.d/\g'=G (cl.finish v) cs) l'<|G (Frame.enter Tryz.prog f args .normal)<|cl::cs) (hn:∀l',ic l'->nA l l'->l.w.heap.size<=l'.w.heap.size->fA.fi Tryz.prog true J l' (G (b.at (a.put o.dst v)<|.inRegion ops rest::k) cs)) (ho:ops[i]?=some o:=by rfl) (yj:o.op=.call {callee:=.value<|.func f,args:=ags,argTypes:=ats}:=by rfl) (hw:Region.wanted o (yielded ops a.tmps)=true:=by rfl) (hk:b.kind≠.early:=by k_ne) (hr:∀w,(execOp a.eval o).run Tryz.prog w=.ok (.enter f args) w:=by intro w;go_simp) (hm:(fn.name== "runtime.NumGoroutine")=false:=by rfl) (hd:fn.body.isNone=false:=by rfl): fA.fi Tryz.prog true J l (G (b.at a<|.inRegion ops (i::rest)::k) cs):=by refine xF ho hw hk hb.r.r hr (λw=>ç yj hf hm hd #[]) λw₁ kT=> ?_;refine fA.fi.ma ?_<|hc _ (hb.C kT) (Õ Tn kT.r) _ _;rintro l2 g2 ⟨ha,hd,rfl⟩;rw[Ě,ho];exact hn l2 (iA.xl (hb.C kT) ha hd) ((DX kT).r λb q=>⟨ha.O b q,ha.r.I b<|É q⟩)<|Õ kT.r ha.r.r
def Vt(b:ic l)(c:nB<=l.w.heap.size)(e:Int)(a:į)(cs:List į):fA.fi Á Î (λl' h=>iA l l'/\l'.d=l.d/\h=G (a.finish<|Â Ä e) cs) l (G (ó Á 40 #[Â Ä e] ę)<|a::cs):= JK b c fL (λu h=>by simp at h;subst h;exact .iB _ _) (λh=>by cases h;rfl) (atv e) Î a cs
def atw(a:ś)(w:Ý):Ĺ Á (υ Μ 71 (Æ<|Ã a)<|Æ Å) w #[]=#[]:=fx
def atx(a:ś)(w:Ý):Ĺ Á (υ Ν 26 (Æ<|Ã a)<|Æ Å) w #[]=#[]:=fx
def Vu(w:Ý):Ĺ Á (υ Μ 26 (Æ Å)<|Æ Å) w #[]=#[]/\Ĺ Á (υ Μ 71 (Æ Å)<|Æ Å) w #[]=#[]/\Ĺ Á (υ Ν 26 (Æ Å)<|Æ Å) w #[]=#[]:=⟨fx,fx,fx⟩
def adr(b:Bool)(w:Ý):Ĺ Á (υ Ν 4 (ì b)<|ì b) w #[]=#[]:=by cases b<;>kernel_rfl
def aty:(Á.info? 76).map (λi=>(i.zero,i.size,i.bytes))=Ã (Ã<|ý #[Æ Å,Æ Å],2,16):=fx
def ads(S:ic l)(h:pQ l qs t wb pv)(n:Int)(hN:qs.length<=2^42) (hJ:∀l' B D L,ic l'->pQ l' B D wb L->wm l t l' D->qs.length<=B.length->B.length<=qs.length+1->(1<=n->n<=8->B.length=qs.length+1)->(∀a∈B,a∈qs\/a.s=a.d)->fA.fi Á Î J l' (G (C.at (y.put ((ops[i]?).bind (·.dst))<|ì Î)<|æ ops rest::k) cs)): fA.fi Á Î J l (G (ó Á 32 #[Æ<|Ã ⟨wb,0,Å⟩,Â Ä n] ę)<|C.at y (æ ops (i::rest)::k)::cs):=by
 have hF:True:=trivial;rw[Dz [_,_] 42 ľ];simp only[ÿ,ħ,ď];conv in mg _ _=>whnf
 apply fR (n:=60) S.r.r;repeat w_go fy
 refine Ï λ_ _=> ?_;by_cases hn:1<=n/\n<=8
 .obtain⟨m,rfl⟩:∃m:Nat,n=m:=⟨n.toNat,Z⟩;refine xF (f:=35) (args:=#[Â Ä m]) U fL (by k_ne) S.r.r (λw=>by go_simp) (λw=>ç U φ U U #[]) λw₁ M=> ?_;refine fA.fi.ma ?_<|aqs (S.C M).r S.q (h.r M).m.C.fv (n:=(m:Int)) hn.1 hn.2 Î _ _;rintro l1 g1 ⟨ha,hd,x,sl,rfl,kz,Ob,hx,V,qR,hnV,Ki⟩;have N:ic l1:=iA.xl (S.C M) ha hd;have k1:nA l l1:=(DX M).r λb q=>⟨ha.O b q,ha.r.I b<|É q⟩;have s1:l.w.heap.size<=l1.w.heap.size:=Õ M.r ha.r.r;rw[Ě];walk_nrm;apply fR (n:=60) N.r.r;repeat w_go fy
  refine Ï λ_ _=> ?_;refine xF (f:=39) (args:=#[Â Ä m]) U fL (by k_ne) N.r.r (λw=>by go_simp) (λw=>ç U Ľ U U #[]) λBE lT=> ?_;refine atp (N.C lT) (Õ (h.I k1 s1).m.C.fv lT.r) hn.1 hn.2 λl2 o r DV P=> ?_;have k2:nA l l2:=k1.r ((DX lT).r λb q=>⟨(P.r b q).1,(P.r b q).2 id⟩);have s2:l.w.heap.size<=l2.w.heap.size:=Õ s1<|Õ lT.r P.wO;have gE:∀b,l.O b->b<l.w.heap.size:=λb q=>S.r.fv b<|É q;have Kj:nA l1 l2:=(DX lT).r λb q=>⟨(P.r b q).1,(P.r b q).2 id⟩;have K:=h.I k2 s2;have hA:mU l2 x m [gu.iR] sl V:=⟨K.m.C,λb q=>(K.m.r b q).1,kz.r (Kj x Ob).2,(Kj x Ob).1,qR.r λb q=>(Kj b (Ki b q).1).2,λb q=>(Kj b (Ki b q).1).1,hnV,Z,Z,λq=>by have:=gE x (h.m.r x q).1;have:=Õ M.r hx;omega⟩;let⟨g,hM,uV⟩:=h.m.iG k2 s2 hA P.atm (λq=>by have:=gE x q;have:=Õ M.r hx;omega) (λb v q=>by have:=gE b q;have:=Õ M.r (Ki b v).2;omega) λb v=>by have T:l1.w.heap.size<=b:=Õ lT.r<|(P.wy b v).resolve_left id;refine⟨λq=>by have:=gE b q;omega,λq=>by have:=N.r.fv b<|É (Ki b q).1;omega,λq=>by rw[q]at T;have:=N.r.fv x<|É Ob;omega⟩
  have HH:=eZ<|À K<|À hM<|À uV k2;clear hA hM uV K Kj P k1 kz qR hnV Ki ha Ob;walk_nrm;apply fR (n:=60) DV.r.r;repeat w_go fy
  refine Ï λ_ _=> ?_;refine F1 DV HH.out.1.m.C.fv œ (λl' W Y cl cs=>Vt W Y 0 cl cs) λl3 E k3 s3=> ?_;walk_nrm;apply fR (n:=60) E.r.r;repeat w_go fy
  refine Ï λ_ _=> ?_;apply oC (v:=ì È) U fL (by k_ne) E.r.r E.q (λw _=>by go_simp) (λw _ e F=>by simp[go_sem,aq5]at F);walk_nrm;apply fR (n:=60) E.r.r;repeat w_go fy
  refine Ï λ_ _=> ?_;apply oC (v:=ì È) U fL (by k_ne) E.r.r E.q (λw _=>by go_simp) (λw _ e F=>by simp[go_sem,atw]at F);walk_nrm;apply fR (n:=60) E.r.r;repeat w_go fy
  refine Ï λ_ _=> ?_;apply oC (v:=ì È) U fL (by k_ne) E.r.r E.q (λw _=>by go_simp) (λw _ e F=>by simp[go_sem,adr]at F);walk_nrm;apply fR (n:=60) E.r.r;repeat w_go fy
  refine Ï λ_ _=> ?_;apply oC (v:=ì Î) U fL (by k_ne) E.r.r E.q (λw _=>by go_simp) (λw _ e F=>by simp[go_sem,atx]at F);walk_nrm;apply fR (n:=60) E.r.r;repeat w_go fy
  refine Ï λ_ _=> ?_;have h3:=HH.out.1.I k3 s3;apply kA (x:=⟨wb,0,Å⟩) (v:=pv) U fL (by k_ne) E.r.r E.q (É<|É h3.C.fg) (h3.C.r U) (λw h=>by go_simp) (λw h=>by simp[go_sem,h]);walk_nrm;apply fR (n:=60) E.r.r;repeat w_go fy
  refine Ï λ_ _=> ?_;refine pE (V:=λp=>Ç (Ã ⟨p,0,Å⟩) 1 1) (ob:=Ó #[Æ<|Ã ⟨x,0,Å⟩,Æ<|Ã ⟨o,0,Å⟩] 76) U fL (by k_ne) E.r.r E.q (λw=>by go_simp) (λw=>by simp[go_sem]) λOc yK=> ?_;walk_nrm;have k4:=mL (X:=fh) (ob:=Ó #[Æ<|Ã ⟨x,0,Å⟩,Æ<|Ã ⟨o,0,Å⟩] 76) E.r yK;have p4:gA (gF l3 Oc<|Ó #[Æ<|Ã ⟨x,0,Å⟩,Æ<|Ã ⟨o,0,Å⟩] 76) Oc.heap.size (Ó #[Æ<|Ã ⟨x,0,Å⟩,Æ<|Ã ⟨o,0,Å⟩] 76):=⟨Ð U,ĺ _ _⟩;generalize gF l3 Oc (Ó #[Æ<|Ã ⟨x,0,Å⟩,Æ<|Ã ⟨o,0,Å⟩] 76)=l4 at k4 p4|-;generalize Oc.heap.size=px at p4|-;have rG:=DW k4 E;have Od:nA l2 l4:=k3.r λb q=>⟨k4.O b q,k4.r b (É q) id⟩;have s24:l2.w.heap.size<=l4.w.heap.size:=Õ s3 k4.I;have h4:=HH.out.1.I Od s24;let⟨inf,qh,oI,iO,oX⟩:=ĝ aty;refine L6 (v:=pv) (us:=[Æ<|Ã ⟨x,0,Å⟩,Æ<|Ã ⟨o,0,Å⟩]) (px:=px) (c:=1) (n:=qs.length) (sz:=2) (xs:=tB qs) (inf:=inf) (z:=ý #[Æ Å,Æ Å]) U fL (by k_ne) rG.r rG.q U U U Tryz.underlying52 qh oI iO Z U U (by rw[oX];omega) (by simp only[č];omega) h4.N (λk q=>(h4.M k q).1) p4.fg (λj u hu=>p4.r<|by simpa using hu) (by simp[ß]) λoF L AI xd rm CJ xe sM=> ?_;walk_nrm;have Q:gd (λb=>pv.ownBlock=Ã b) l4 (nt l4 oF AI):=L5 rG.r xd CJ λk e=>⟨(h4.M k e).1,e⟩;have rF:(nt l4 oF AI).w.ownsRow 0 76 2 L (qs.length+1) (tB qs++[Æ<|Ã ⟨x,0,Å⟩,Æ<|Ã ⟨o,0,Å⟩]):=rm;have Im:L.ownBlock=pv.ownBlock\/∃k,L.ownBlock=Ã k/\l4.w.heap.size<=k:=sM.imp id λq=>⟨_,q,xd.r⟩;generalize nt l4 oF AI=l5 at Q rF xe|-;have rC:=DW Q rG;have hnw:pv.ownBlock≠Ã wb:=λe=>by let⟨cur,hc⟩:=nV h4.N e;rw[h4.C.I]at hc;cases hc
  have A3:gA l5 wb (Ó #[pv] 54 (0,0)):=h4.C.C Q hnw;have adt:L.ownBlock≠Ã wb:=λe=>by let⟨cur,hc⟩:=nV rF e;rw[A3.I]at hc;cases hc
  apply fR (n:=60) rC.r.r;repeat w_go fy
  refine Ï λ_ _=> ?_;obtain⟨H,I,rfl⟩:=jv rF;refine E8 (p:=wb) (off:=0) (u:=pv) (v:=Ç H (qs.length+1) I) U fL (by k_ne) rC.r.r rC.q A3.fg (A3.r U) (by simp[Ś,A3.I]) U (λw T K=>by go_simp) (λw T K=>by simp[go_sem,ĕ _ _ _ _ _ _ (show ß (Ç H (qs.length+1) I)=Î from rfl),T,K]) ?_;have k6:=HQ (X:=λb=>b=wb) (w':=l5.w.setCell ⟨wb,0,Å⟩<|Ç H (qs.length+1) I) rC.r (fI.fV _ _) A3.fg U fp λj hj=>ğ _ _ _ _ hj;have Bg:=DW k6 rC;have hw6:(l5.w.setCell ⟨wb,0,Å⟩<|Ç H (qs.length+1) I).heap[wb]?=Ã (Ó #[Ç H (qs.length+1) I] 54 (0,0)):=by unfold Ι;simp[ŏ,A3.I]
  have hr6:=oW rF (w₁:=l5.w.setCell ⟨wb,0,Å⟩<|Ç H (qs.length+1) I) λk e=>ğ _ _ _ _ λz=>adt (by rwa[<-show k=wb from z]);apply fR (n:=60) Bg.r.r;repeat w_go fy
  u_in fy hF
  refine ġ (t:=4) U U ľ U ⟨by u_nil,?_⟩;refine Ï λ_ _=> ?_;have a6:gA ({l5 with w:=l5.w.setCell ⟨wb,0,Å⟩ (Ç H (qs.length+1) I)}:fe) wb (Ó #[Ç H (qs.length+1) I] 54 (0,0)):=⟨A3.fg,hw6⟩;have r6:({l5 with w:=l5.w.setCell ⟨wb,0,Å⟩ (Ç H (qs.length+1) I)}:fe).w.ownsRow 0 76 2 (Ç H (qs.length+1) I) (qs.length+1) (tB qs++[Æ<|Ã ⟨x,0,Å⟩,Æ<|Ã ⟨o,0,Å⟩]):=hr6;have o6:∀b,(Ç H (qs.length+1) I).ownBlock=Ã b->({l5 with w:=l5.w.setCell ⟨wb,0,Å⟩ (Ç H (qs.length+1) I)}:fe).O b:=xe;generalize({l5 with w:=l5.w.setCell ⟨wb,0,Å⟩ (Ç H (qs.length+1) I)}:fe)=l6 at k6 Bg a6 r6 o6|-;generalize(Ç H (qs.length+1) I)=L at*;let⟨K,hM,uV,k2'⟩:=HH.out;have t2w:g wb=1:=(uV wb h.C.fg).trans h.S;have t2r:∀b,pv.ownBlock=Ã b->l2.O b/\g b=1:=λb e=>⟨(K.M b e).1,(uV b (h.M b e).1).trans (h.M b e).2⟩;have atz:∀b,l2.O b->b<l4.w.heap.size:=λb q=>Č (DV.r.fv b<|É q) s24;have adu:∀b,l2.O b->g b≠1->l6.O b/\l6.w.heap[b]?=l2.w.heap[b]?:=λb q z=>by let⟨q1,q2⟩:=Od b q;have q3:=Q.r b (É q1) λe=>z (t2r b e).2;have q4:=Q.O b q1;exact⟨k6.O b q4,(k6.r b (É q4) λe=>z<|by rwa[e]).trans<|q3.trans q2⟩
  have atA:∀b,l2.O b->L.ownBlock=Ã b->g b=1:=λb q e=>by
   rcases Im with z|⟨k,z1,z2⟩
   .exact(t2r b<|z▸e).2
   .rw[z1]at e;cases e;have:=atz _ q;omega
  have NL:∀b,l2.O b->(if L.ownBlock=Ã b then 1 else g b)=g b:=λb q=>by
   split
   .rename_i e;exact(atA b q e).symm
   .rfl
  refine hJ l6 (qs++[⟨x,m,[gu.iR],o,[gu.iR]⟩]) (λb=>if L.ownBlock=Ã b then 1 else g b) L Bg ⟨hM.fg (λb q z=>(adu b q z).2) (λb q=>k6.O b<|Q.O b (Od b q).1) (Õ h4.m.C.fv<|Õ Q.I k6.I) NL λb q=> ?_,a6,(if_neg adt).trans t2w,?_,λb e=>⟨o6 b e,if_pos e⟩⟩ (λb q z=> ?_) fp fp (λ_ _=>by simp) λc hc=> ?_
  .rw[if_neg λe=>q<|o6 b e];exact hM.I b λz=>q<|k6.O b<|Q.O b (Od b z).1
  .have e1:(qs++[(⟨x,m,[gu.iR],o,[gu.iR]⟩:Pr)]).length=qs.length+1:=fp
   have e2:tB (qs++[⟨x,m,[gu.iR],o,[gu.iR]⟩])=tB qs++[Æ<|Ã ⟨x,0,Å⟩,Æ<|Ã ⟨o,0,Å⟩]:=by simp[tB]
   rwa[e1,e2]
  .have z2:g b=0:=(uV b q).trans z;let⟨q1,q2⟩:=adu b (k2' b q).1 Z;exact⟨q1,q2.trans (k2' b q).2,(NL b (k2' b q).1).trans z2⟩
  .rcases û.1 hc with z|z
   .exact É z
   .rw[í.1 z];exact Ð U
 .have Kk:n<1\/8<n:=Z
  refine F1 S h.m.C.fv φ (args:=#[Â Ä n]) (v:=Ď #[Æ Å,Â Ä 7]) (λl' W Y cl cs=>JK W Y fL (λu hu=>by simp at hu;subst hu;exact .iB _ _) adq (λw=>Kk.elim (λq=>ank n q w) λq=>anl n q w) Î cl cs) λl1 N k1 s1=> ?_;have T:=h.I k1 s1;walk_nrm;apply fR (n:=60) N.r.r;repeat w_go fy
  refine Ï λ_ _=> ?_;refine F1 N T.m.C.fv Ľ (args:=#[Â Ä n]) (v:=Ď #[Æ Å,Â Ä 7]) (λl' W Y cl cs=>JK W Y fL (λu hu=>by simp at hu;subst hu;exact .iB _ _) adq (asC Kk) Î cl cs) λl2 DV k2 s2=> ?_;have K:=T.I k2 s2;walk_nrm;apply fR (n:=60) DV.r.r;repeat w_go fy
  refine Ï λ_ _=> ?_;refine F1 DV K.m.C.fv œ (λl' W Y cl cs=>Vt W Y 7 cl cs) λl3 E k3 s3=> ?_;have h3:=K.I k3 s3;walk_nrm;apply fR (n:=60) E.r.r;repeat w_go fy
  refine Ï λ_ _=> ?_;apply oC (v:=ì Î) U fL (by k_ne) E.r.r E.q (λw _=>by go_simp) (λw _ e F=>by simp[go_sem,(Vu _).1]at F);walk_nrm;apply fR (n:=60) E.r.r;repeat w_go fy
  refine Ï λ_ _=> ?_;apply oC (v:=ì Î) U fL (by k_ne) E.r.r E.q (λw _=>by go_simp) (λw _ e F=>by simp[go_sem,(Vu _).2.1]at F);walk_nrm;apply fR (n:=60) E.r.r;repeat w_go fy
  refine Ï λ_ _=> ?_;apply oC (v:=ì È) U fL (by k_ne) E.r.r E.q (λw _=>by go_simp) (λw _ e F=>by simp[go_sem,adr]at F);walk_nrm;apply fR (n:=60) E.r.r;repeat w_go fy
  refine Ï λ_ _=> ?_;apply oC (v:=ì È) U fL (by k_ne) E.r.r E.q (λw _=>by go_simp) (λw _ e F=>by simp[go_sem,(Vu _).2.2]at F);walk_nrm;apply fR (n:=60) E.r.r;repeat w_go fy
  u_in fy hF
  refine ġ (t:=4) U U ľ U ⟨by u_nil,?_⟩;refine Ï λ_ _=> ?_;exact hJ l3 qs t pv E h3 ((k1.r k2).r k3).fE.r (Ù _) Z (λq1 q2=>absurd ⟨q1,q2⟩ hn) λa q=>É q
end
def Kl(c:Int)(n:Nat):Int:=if c<0 then(-(c+1))%n else c%n
def atB(c:Int)(a:0<n):∃j:Nat,Kl c n=j/\j<n:=by have b:=Į (-(c+1)) (show(n:Int)≠0 by omega);have d:=š (-(c+1)) (show 0<(n:Int) by omega);have e:=Į c (show(n:Int)≠0 by omega);have f:=š c (show 0<(n:Int) by omega);refine⟨(Kl c n).toNat,?_,?_⟩<;>unfold Kl<;>split<;>omega
def atC(c:Int)(f:-9223372036854775808<=c)(g:c<=9223372036854775807)(i:0<n)(j:n<=2^43)(w:Ý):ë Á 42 #[Â Ä c,Â Ä n] w λe d=>e=Ñ (Â Ä<|Kl c n)/\d=w:=by
 have b:(n:Int)≠0:=Z
 unfold Kl;by_cases h:c<0
 .rw[if_pos h];have a:=Į (-(c+1)) b;have e:-(c+1).tmod n=(-(c+1))%n:=by rw[<-Int.neg_tmod,þ Z]
  have H:=eZ<|À e.symm a;clear e a;go_enter Ÿ,κ;go_wp2;go_ret;exact⟨by rw[H.out.1];rfl,U⟩
 .rw[if_neg h];have a:=Į c b;have e:c.tmod n=c%n:=þ Z;have H:=eZ<|À e.symm a;clear e a;go_enter Ÿ,κ;go_wp2;go_ret;simp_all
def atD(B:ByteArray)(f:B.size<=č)(w:Ý):ë Á 33 #[Ê B] w λe g=>e=Ñ (ì<|decide<|(40:UInt8)∈B.data.toList)/\g=w:=by
 generalize d:decide ((40:UInt8)∈B.data.toList)=res;unfold č at f;go_enter χ,Tryz.ntmps33;go_wp2;go_loop [3] (λv=>∃i:Nat,i<=B.size/\decide ((40:UInt8)∈B.data.toList.drop i)=res/\v=Â Ä i) λv=>B.size-(î v).toNat
 case atStart=>exact⟨0,Û _,d,U⟩
 case round=>
  obtain⟨i,j,a,rfl⟩:=hrel;clear d;by_cases b:i<B.size
  .have h:i<B.data.toList.length:=by rwa[Ċ]
   rw[ą h,show B.data.toList[i]=B[i] by rw[Array.getElem_toList];rfl]at a;have H:=eZ a;clear a;by_cases c:B[i]=40
   .go_wp2;go_ret;exact⟨by rw[<-H.out,c];simp,U⟩
   .have k:((B[i].toNat:Int)==40)=È:=by
     rw[beq_eq_false_iff_ne];intro e;exact c<|UInt8.toNat_inj.1<|by show B[i].toNat=40;omega
    go_wp2;go_round
    case rel=>exact⟨i+1,b,by rw[<-H.out];simp[Ne.symm c],by go_num⟩
    case measure=>simp[î];omega
  .rw[List.drop_eq_nil_of_le (by rw[Ċ];exact Nat.le_of_not_lt b)]at a;subst a;go_wp2;go_ret;exact⟨U,U⟩
def atE(h:(40:UInt8)∉B.data.toList):Bp B:=λq=>by let⟨c,a,e⟩:=ö.1 q;exact h<|by rwa[UInt8.toNat_inj.1 (show c.toNat=(40:UInt8).toNat by show c.toNat=40;omega)]at a
end Go.Proofs.Y.iV
namespace Go.Proofs.Y.fA
open Go Go.Conc Go.Proofs.Y.Lift Go.RowKit Go.Conc.Lib Go.ConcR.Gen
def tC(a:Array Ĥ)(t:Array Ì)(i:Nat):Ì:=t.getD (((a[i]?).bind (·.dst)).getD 0) Δ
def Oe(p:Nat->Ĥ->Prop):Nat->List Ĥ->Prop
 |_,[]=>True
 |n,o::r=>p n o/\Oe p (n+1) r
def atF{p:Nat->Ĥ->Prop}:∀(l:List Ĥ) (n i:Nat) (o:Ĥ),Oe p n l->l[i]?=Ã o->p (n+i) o:=by
 intro l
 induction l with
 |nil=>intro n i o _ e;simp at e
 |cons x l a=>
  intro n i o h e;cases i with
  |zero=>
   rw[List.getElem?_cons_zero]at e;obtain rfl:=ú e;exact h.1
  |succ i=>
   rw[List.getElem?_cons_succ]at e;rw[show n+(i+1)=n+1+i by omega];exact a _ i o h.2 e
section
variable{J:Jd}{l:fe}{c:Array Ì}{a:Λ}
def lR.N(h:lR Q q (tC Q c) wJ a)(i:∀d,Q.toList.all (λo=>o.dst !=Ã d)=Î->c[d]?=q[d]?)(k:c.size=q.size)(l:rA Q q.size=Î){d:Nat}(m:∀j o,Q[j]?=Ã o->o.dst=Ã d->wJ.getD j È=Î):a.tmps[d]?=c[d]?:=by
 by_cases b:Q.toList.all (λo=>o.dst !=Ã d)=Î
 .rw[h.C b,i d b]
 .obtain⟨j,n,e⟩:∃j,∃h:j<Q.size,Q[j].dst=Ã d:=by simpa using b
  have f:=õ n;have g:d<c.size:=by rw[k];exact Zq l f e
  rw[h.r j _ d f (m j _ f e) e,tC,f,õ g];simp[e,g]
def F2:List Ĥ->List Ì->Array Ì->Array Ì
 |o::os,v::vs,t=>F2 os vs (match o.dst with|some d=>t.setIfInBounds d v|none=>t)
 |_,_,t=>t
def F3:∀(a:List Ĥ) (b:List Ì) (t:Array Ì),(F2 a b t).size=t.size/\∀d,a.all (λo=>o.dst !=Ã d)=Î->(F2 a b t)[d]?=t[d]?
 |[],_,t=>⟨U,λ_ _=>rfl⟩
 |o::a,[],t=>⟨U,λ_ _=>rfl⟩
 |o::a,v::b,t=>by
  unfold F2;cases c:o.dst with
  |none=>
   refine⟨(F3 a b t).1,λd h=>(F3 a b t).2 d ?_⟩;simp only[Κ,Ė]at h;exact h.2
  |some e=>
   refine⟨by rw[(F3 a b _).1];simp,λd h=> ?_⟩;simp only[Κ,Ė,c]at h;rw[(F3 a b _).2 d h.2,Array.getElem?_setIfInBounds_ne (by simpa using h.1)]
end
def adv(a:Array Ĥ):Bool:=(ć a.size).all λi=>match a[i]? with
 |none=>Î
 |some o=>(match o.op with|.select _ _=>È|_=>Î)&&(o.op.operands.toList.all λx=>match x with
  |.tmp d=>(ć a.size).all λj=>((a[j]?).bind (·.dst)) !=Ã d||o.after.toList.any λe=>e.on==j&&vx e
  |_=>Î)&&o.guard.isNone
section
variable{J:Jd}{l:fe}{T:Nat->Array Ì}{ob c:Obj}
theorem atG{b:fe}{w₁:Ý}(s:gq l)(h:iA l b)(r:fI b b.w w₁):iA l (gF b w₁ ob):=by
 have a:=h.I r;have d:w₁.heap.size<=(w₁.alloc ob).heap.size:=by rw[EY];omega
 have c:∀{j},j<l.w.heap.size->j<w₁.heap.size:=λq=>Č q a.r.r;refine⟨λj q=>É<|a.O j q,λj q=>q.elim (a.a j) λe=>Ð<|e▸a.r.r,a.N,a.S,a.Y,a.K,a.q,⟨Õ a.r.r d,λj q=>(uf<|c<|s.fv j q).trans<|a.r.I j q,λy q=>(gK<|uf<|c<|s.I y q).trans<|a.r.N y q,λy q=>(uX<|uf<|c<|s.I y q).trans<|a.r.Y y q,λy q z=> ?_⟩,λj q=> ?_⟩
 .show((w₁.alloc ob).cell? y).isSome=Î;rw[gK<|uf<|c (s.N y q).2.1];exact a.r.S y q z
 .show j<(w₁.alloc ob).heap.size;rw[EY];rcases q with q|q
  .have:=a.fv j q;grind
  .omega
def atH{b:fe}{w₁:Ý}(s:gq l)(h:iA l b)(r:fI b b.w w₁)(g:l.w.heap.size<=i)(d:u.heap.size=w₁.heap.size)(f:∀j,j≠i->u.heap[j]?=w₁.heap[j]?):iA l {b with w:=u}:=by
 have a:=h.I r;have c:∀{j},j<l.w.heap.size->u.heap[j]?=w₁.heap[j]?:=λq=>f _ Z;refine⟨a.O,a.a,a.N,a.S,a.Y,a.K,a.q,⟨by show l.w.heap.size<=u.heap.size;rw[d];exact a.r.r,λj q=>(c<|s.fv j q).trans<|a.r.I j q,λy q=>(gK<|c<|s.I y q).trans<|a.r.N y q,λy q=>(uX<|c<|s.I y q).trans<|a.r.Y y q,λy q z=> ?_⟩,λj q=> ?_⟩
 .show(u.cell? y).isSome=Î;rw[gK<|c (s.N y q).2.1];exact a.r.S y q z
 .show j<u.heap.size;rw[d];exact a.fv j q
def adw{a b:fe}{o:Obj}(h:gA a i o)(L:iA a b):gA b i o:=⟨L.O i h.fg,(L.r.I i<|É h.fg).trans h.I⟩
def OpR(P:ar)(yQ:Bool)(l:fe)(qX:List į)(Q:Array Ĥ)(b:Array Ì)(i:Nat)(o:Ĥ):Prop:=
 (∀a,iA l a->∀f,fI a a.w f->(Ę (Đ ⟨b,[]⟩) o).run P f=.ok (.value<|tC Q b i) f/\∀e∈(Ę (Đ ⟨b,[]⟩) o).events P f #[],tZ a e)\/
  ∃f e,(∀w,(Ę (Đ ⟨b,[]⟩) o).run P w=.ok (.enter f e) w)/\(∀w,(Ę (Đ ⟨b,[]⟩) o).events P w #[]=#[])/\
   ∀a,iA l a->a.d=l.d->∀c,fi P yQ (λg h=>iA a g/\g.d=a.d/\h=G (c.finish<|tC Q b i) qX) a<|G (ó P f e ę)<|c::qX
theorem atI{id:Nat}(s:gq l)(hq:¬l.q)(M:f.kind≠.early)(H:rA Q d.size=Î)(hd:adv Q=Î)(ho:∀N,LY N Q (ć Q.size) []=Î)(iO:∀e,(T e).size=d.size)(hold:∀e b,Q.toList.all (λo=>o.dst !=Ã b)=Î->(T e)[b]?=d[b]?) (atJ:∀e e' j,j≠i->tC Q (T e) j=tC Q (T e') j) (hAv:∀e,tC Q (T e) i=Æ (Ã ⟨e,0,Å⟩)) (hA:i<Q.size) (hS:n<Q.size) (lN:i≠n) (hAo:∀o,Q[i]?=Ã o->∀e w,(Ę (Đ ⟨T e,[]⟩) o).run P w=.ok (.value<|Æ<|Ã ⟨w.heap.size,0,Å⟩) (w.alloc ob)/\(Ę (Đ ⟨T e,[]⟩) o).events P w #[]=#[]) (hSo:∀o,Q[n]?=Ã o->o.dst=Å/\o.after.toList.any (λe=>e.on==i&&vx e)=Î/\∀e k,iA l k->gA k e ob->∀u,fI k k.w u->∃E,(Ę (Đ ⟨T e,[]⟩) o).run P u=.ok .skip E/\E.heap.size=u.heap.size/\(∀j,j≠e->E.heap[j]?=u.heap[j]?)/\(E.os=u.os/\E.output=u.output/\E.tape=u.tape)/\E.heap[e]?=Ã c/\∀ev∈(Ę (Đ ⟨T e,[]⟩) o).events P u #[],tZ k ev) (yj:Oe (λh o=>h=i\/h=n\/∀e,OpR P yQ l qX Q (T e) h o) 0 Q.toList) (hn:∀k e,iA l k->k.d=l.d->gA k e c->l.w.heap.size<=e->fi P yQ J k (G (f.at ⟨T e,[]⟩<|æ Q []::L) qX)):fi P yQ J l (G (f.at ⟨d,[]⟩<|aC (.region id Q Î)::L) qX):=by
 refine LX (λy a k=>∃e,lR Q d (tC Q<|T e) y a/\iA l k/\k.d=l.d/\(y.getD i È=Î->l.w.heap.size<=e/\gA k e (if y.getD n È=Î then c else ob))) s.r hq (λu r=>⟨0,lR.Y _ _ _,(iA.fV s.r).I (w₁:={u with drawn:=u.drawn+1}) ⟨r.r,r.I,r.N,r.Y,r.S⟩,U,λq=>by simp only[Ĵ,Array.getElem?_replicate]at q;split at q<;>cases q⟩) (λN y a k h rest hI C=> ?_) λN y a k hI hz hr=> ?_
 .let⟨e,D,m,I,O⟩:=hI;have Iy:¬k.q:=by rwa[m.q]
  obtain⟨o,t⟩:∃o,Q[h]?=Ã o:=⟨_,õ<|At C⟩;have Vv:=Ņ.1 hd h<|Ŕ.2<|At C;rw[t]at Vv;simp only[Ė]at Vv;let⟨⟨hsel,KV⟩,IN⟩:=Vv;have F:Ę a.eval o=Ę (Đ ⟨T e,[]⟩) o:=execOp_congr o (λqX f e=>by rw[e]at hsel;cases hsel) λx hx=>by
   have z:=Ņ.1 KV x<|ŕ.2 hx;cases x with
   |tmp b=>
    show a.tmps.getD b Δ=(T e).getD b Δ;have:=D.N (hold e) (iO e) H (d:=b) λj K S v=>by have:=Ņ.1 z j<|Ŕ.2 (ï.1 S).1;simp only[S,Option.bind_some,v,bne_self_eq_false,Bool.false_or]at this;exact il C t this
    simp only[Ĵ,this]
   |const v=>rfl
   |global g=>rfl
   |func g=>rfl
  have V:Region.wanted o (yielded Q a.tmps)=Î:=Hl (by simpa using IN) _;have Sm:=(mem_ready.1 C).1;have adx:h≠i->h≠n->∀{W:fe},iA k W->(y.setIfInBounds h Î).getD i È=Î->l.w.heap.size<=e/\gA W e (if(y.setIfInBounds h Î).getD n È=Î then c else ob):=λn1 n2 W k2 q=>by rw[Ź È n1]at q;rw[Ź È n2];exact⟨(O q).1,adw (O q).2 k2⟩
  by_cases X:h=i
  .subst X;have nS:y.getD n È=È:=by
    cases hz:y.getD n È with
    |false=>rfl
    |true=>
     obtain⟨z,B⟩:∃o,Q[n]?=Ã o:=⟨_,õ hS⟩;let⟨K,Y,v⟩:=List.any_eq_true.1 (hSo z B).2.1;simp only[Ė,beq_iff_eq]at v;have:=D.S n z K B hz (ŕ.1 Y) v.2;rw[v.1]at this;grind
   refine Cs (ob:=ob) t V M m.fv Iy (λw=>by rw[F];exact(hAo o t e w).1) (λw=>by rw[F];exact(hAo o t e w).2) λu r=> .fD λB v=> ?_;refine⟨_,U,u.heap.size,(D.G λj K=>atJ _ _ j λz=>by subst z;grind).fO H t C λ_=>(hAv _).symm,(atG s m r).I v,I,λ_=>⟨Õ m.r.r r.r,?_⟩⟩;rw[Ź È lN,nS];exact⟨Ð U,(v.I _<|É<|Ð U).trans nU⟩
  .by_cases Y:h=n
   .subst Y;let⟨hdn,haf,iJ⟩:=hSo o t;let⟨z,K⟩:=O<|il C t haf;have nS:y.getD h È=È:=by grind
    rw[nS]at K;refine tY t V M λu r=> ?_;let⟨E,z1,z2,z3,z4,z5,z6⟩:=iJ e k m K u r;rw[F,z1];refine⟨_,EZ (p:=e) (lQ m.fv r) Iy K.fg z2 z3 z4 λev he=>z6 ev (by rw[<-F];exact ag he),.fD λB v=>⟨_,U,e,D.fO H t C λq=>absurd hdn q,(atH s m r z z2 z3).I v,I,λ_=>⟨z,K.fg,?_⟩⟩⟩;have:(y.setIfInBounds h Î).getD h È=Î:=by
     have gE:h<y.size:=by grind
     simp[gE]
    rw[this];exact(v.I e<|É K.fg).trans z5
   .have r:=atF _ _ _ _ yj (show Q.toList[h]?=Ã o by rwa[ĥ]);rw[Ĕ]at r;rcases(r.resolve_left X).resolve_left Y e with xa|⟨g,args,hr,he,hW⟩
    .refine oC t V M m.fv Iy (λB v=>by rw[F];exact(xa k m B v).1) (λB v=>by rw[F];exact(xa k m B v).2)<|.fD λB v=>⟨_,U,e,D.fO H t C λ_=>rfl,m.I v,I,adx X Y<|(iA.fV m.fv).I v⟩
    .refine .mk U λB v=>⟨G (ó P g args ę)<|f.at a (æ Q (h::rest)::L)::qX,B,#[],{k with w:=B},?_,LK B<|lQ m.fv v,(hW _ (m.I v) I _).ff ?_⟩
     .rw[stepG_enter t V M (by rw[F];exact hr B)];unfold aD;rw[F,he B,seen_none]
     .rintro W g2 ⟨K,pF,rfl⟩;refine⟨_,by rw[Ě],e,?_,(m.I v).fj K,pF.trans I,adx X Y<|((iA.fV m.fv).I v).fj K⟩;rw[show(Q[h]?).bind (·.dst)=o.dst by rw[t];rfl];exact D.fO H t C λ_=>rfl
 .let⟨e,D,m,I,O⟩:=hI;have v:=qe hr hz _ [] (ho N) λ_ q=>by cases q
  have K:a=⟨T e,[]⟩:=by let⟨g,r⟩:=a;have z:=D.M;simp only at z;subst z;congr 1;refine Array.ext_getElem? λb=>D.N (hold e) (iO e) H λj o S _=>v j<|Ŕ.2 (ï.1 S).1
  grind
def atK{id:Nat}(i n:Nat)(ob c:Obj)(m:Nat->List Ì)(s:gq l)(p:¬l.q)(r:f.kind≠.early)(t:rA Q d.size=Î)(u:adv Q=Î)(v:∀x,LY x Q (ć Q.size) []=Î)(y:i<Q.size)(z:n<Q.size)(B:i≠n) (h:∀T:Nat->Array Ì,(T=λe=>F2 Q.toList (m e) d)->((∀e C j,j≠i->tC Q (T e) j=tC Q (T C) j)/\∀e,tC Q (T e) i=Æ (Ã ⟨e,0,Å⟩))/\ (∀o,Q[i]?=Ã o->∀e w,(Ę (Đ ⟨T e,[]⟩) o).run P w=.ok (.value<|Æ<|Ã ⟨w.heap.size,0,Å⟩) (w.alloc ob)/\(Ę (Đ ⟨T e,[]⟩) o).events P w #[]=#[])/\ (∀o,Q[n]?=Ã o->o.dst=Å/\o.after.toList.any (λe=>e.on==i&&vx e)=Î/\∀e b,iA l b->gA b e ob->∀g,fI b b.w g->∃k,(Ę (Đ ⟨T e,[]⟩) o).run P g=.ok .skip k/\k.heap.size=g.heap.size/\(∀j,j≠e->k.heap[j]?=g.heap[j]?)/\(k.os=g.os/\k.output=g.output/\k.tape=g.tape)/\k.heap[e]?=Ã c/\∀D∈(Ę (Đ ⟨T e,[]⟩) o).events P g #[],tZ b D)/\ Oe (λa o=>a=i\/a=n\/∀e,OpR P yQ l qX Q (T e) a o) 0 Q.toList/\ ∀b e,iA l b->b.d=l.d->gA b e c->l.w.heap.size<=e->fi P yQ J b (G (f.at ⟨T e,[]⟩<|æ Q []::L) qX)):fi P yQ J l (G (f.at ⟨d,[]⟩<|aC (.region id Q Î)::L) qX):=by let⟨⟨E,F⟩,H,I,K,M⟩:=h _ U;exact atI s p r t u v (λe=>(F3 _ _ _).1) (λe=>(F3 _ _ _).2) E F y z B H I K M
end
end Go.Proofs.Y.fA
namespace Go.Proofs.Y.iV
open Go Go.Conc Go.Proofs Go.RowKit Go.Proofs.Y.Lift Go.Proofs.Y.gu Go.Proofs.Y.fA Go.Proofs.Y.lB
open Go.Conc.Lib Go.ConcR.Gen Go.Proofs.YtgpphkdoanciiaaGreatDoor
def Vw:∀(c:List Pr) (j:Nat) (a b:Pr),c[j]?=Ã a->b.x=a.x->b.y=a.y->tB (c.set j b)=tB c
 |[],j,a,b,h,_,_=>by cases h
 |q::r,0,a,b,h,e1,e2=>by cases h;simp[tB,e1,e2]
 |q::r,j+1,a,b,h,e1,e2=>by have:=Vw r j a b h e1 e2;simp only[ķ,tB,ù]at this|-;rw[this]
def r9.C{l a:fe}{t:Nat->Nat}{o:Obj}(h:r9 l t a D)(q:gA l b o)(z:t b=0):gA a b o/\D b=0:=by let⟨c,d,e⟩:=h b q.fg Z;exact⟨⟨c,d.trans q.I⟩,e.trans z⟩
section
variable{l:fe}{D:List Pr}{t:Nat->Nat}{E:Int}
def atL(S:ic l)(k:pQ l D t n v)(h0:0<D.length)(hN:D.length<=2^42)(nH:∀a∈D,a.s=a.d)(He:-9223372036854775808<=c)(hW1:c<=9223372036854775807)(hB:B.size<=č)(oT:E≠1)(mI:E=3->∀r∈(gy B).2.2,iF r) (hJ:∀C zG t' Vx,ic C->pQ C zG t' n Vx->wm l t C t'->D.length<=zG.length->zG.length<=D.length+1->(∀a∈zG,a.s=a.d)->jm vQ C (G (f.at (y.put ((Q[i]?).bind (·.dst))<|ì Î)<|æ Q jJ::L) qX)): jm vQ l (G (ó Á 34 #[Æ<|Ã ⟨n,0,Å⟩,ý #[Â Ä E,Â Ä h,Â Ä c,Ê B]] ę)<|f.at y (æ Q (i::jJ)::L)::qX):=by
 have hF:True:=trivial;have e1:(E==1)=È:=by rwa[beq_eq_false_iff_ne]
 rw[Dz [_,_] 88 ī];simp only[ÿ,ħ,ď];conv in mg _ _=>whnf
 apply uG;apply fR (n:=60) S.r.r;repeat w_go fy
 refine Ï λ_ _=> ?_;refine pE (V:=λp=>Æ<|Ã ⟨p,0,Å⟩) (ob:=Ó #[Â Ä E,Â Ä h,Â Ä c,Ê B] 57) U fL (by k_ne) S.r.r S.q (λw=>by go_simp) (λw=>by simp[go_sem]) λp kT=> ?_;have k1:=mL (X:=fh) (ob:=Ó #[Â Ä E,Â Ä h,Â Ä c,Ê B] 57) S.r kT;have N:gA (gF l p<|Ó #[Â Ä E,Â Ä h,Â Ä c,Ê B] 57) p.heap.size (Ó #[Â Ä E,Â Ä h,Â Ä c,Ê B] 57):=⟨Ð U,ĺ _ _⟩;walk_nrm;generalize gF l p (Ó #[Â Ä E,Â Ä h,Â Ä c,Ê B] 57)=l1 at k1 N|-;have hob:¬l.O p.heap.size:=λq=>by have:=S.r.fv _<|É q;have:=kT.r;omega
 generalize p.heap.size=ob at N hob|-;have I:=DW k1 S;have a1:nA l l1:=λb q=>⟨k1.O b q,k1.r b (É q) id⟩;have M:=k.I a1 k1.I;have s1:wm l t l1 t:=a1.fE.r;have t1:t ob=0:=k.m.I ob hob;clear k1 a1;apply fR (n:=60) I.r.r;repeat w_go fy
 refine Ï λ_ _=> ?_;apply kA (x:=⟨ob,0,Å⟩) (v:=Â Ä E) U fL (by k_ne) I.r.r I.q (É<|É N.fg) (N.r U) (λw k=>by go_simp) (λw k=>by simp[go_sem,k]);walk_nrm;by_cases e2:E=2
 .have e3:(E==2)=Î:=by rwa[beq_iff_eq]
  apply fR (n:=60) I.r.r;repeat w_go fy
  refine Ï λ_ _=> ?_;apply kA (x:=⟨ob,1,Å⟩) (v:=Â Ä h) U fL (by k_ne) I.r.r I.q (É<|É N.fg) (N.r U) (λw k=>by go_simp) (λw k=>by simp[go_sem,k]);walk_nrm;refine xF (f:=32) (args:=#[Æ<|Ã ⟨n,0,Å⟩,Â Ä h]) U fL (by k_ne) I.r.r (λw=>by go_simp) (λw=>ç U ľ U U #[]) λj F=> ?_;refine ads (I.C F) (M.r F) h hN λJ z e g u P o T W _ Y=> ?_;walk_nrm;apply fR (n:=60) u.r.r;repeat w_go fy
  u_in fy hF
  refine ġ (t:=4) U U ī U ⟨by u_nil,?_⟩;refine Ï λ_ _=> ?_;exact .fD λyA H=>⟨u.C H,U,hJ _ z e g (u.C H) (P.r H) (((s1.fj (qy F).r).fj o).fj (qy H).r) T W λa q=>(Y a q).elim (nH a) id⟩
 .have e3:(E==2)=È:=by rwa[beq_eq_false_iff_ne]
  have e4:((D.length:Int)==0)=È:=by rw[beq_eq_false_iff_ne];omega
  obtain⟨J,gc,xP⟩:∃J gc,v=Ç (Ã ⟨J,0,Å⟩) D.length gc:=by
   rcases k.N.2 with⟨z,W⟩|⟨g,F,e,z,_⟩
   .omega
   .exact⟨g,F,z⟩
  have hgO:v.ownBlock=Ã J:=by rw[xP];rfl
  apply fR (n:=60) I.r.r;repeat w_go fy
  refine Ï λ_ _=> ?_;refine kA (x:=⟨n,0,Å⟩) (v:=Ç (Ã ⟨J,0,Å⟩) D.length gc) U fL (by k_ne) I.r.r I.q (É<|É M.C.fg) (by rw[<-xP];exact M.C.r U) (λw k=>by go_simp) (λw k=>by simp[go_sem,k]) ?_;walk_nrm;apply fR (n:=60) I.r.r;repeat w_go fy
  refine Ï λ_ _=> ?_;let⟨j,hj,AL⟩:=atB c h0;obtain⟨a,ha⟩:∃a,D[j]?=Ã a:=⟨_,Í AL⟩;have CB:∀C,iA l1 C->∀p,fI C C.w p->(p.cell? ⟨n,0,Å⟩=Ã (Ç (Ã ⟨J,0,Å⟩) D.length gc)/\p.cell? ⟨ob,2,Å⟩=Ã (Â Ä c)/\p.cell? ⟨J,j*2,Å⟩=Ã (Æ<|Ã ⟨a.x,0,Å⟩)/\p.cell? ⟨J,j*2+1,Å⟩=Ã (Æ<|Ã ⟨a.y,0,Å⟩))/\∀g,gQ C ⟨n,g,Å⟩/\gQ C ⟨ob,g,Å⟩/\gQ C ⟨J,g,Å⟩:=λC K p r=>by have F:∀b g e,l1.O b->l1.w.cell? ⟨b,g,Å⟩=Ã e->p.cell? ⟨b,g,Å⟩=Ã e:=λb g e q z=>(gK<|(r.I b<|É<|K.O b q).trans<|K.r.I b<|É q).trans z;have W:=(M.M J hgO).1;have o:=M.N.cells hgO;let⟨x0,x1⟩:=Dj (λa:Pr=>Æ<|Ã ⟨a.x,0,Å⟩) (λa=>Æ<|Ã ⟨a.y,0,Å⟩) D j _ ha;have T:=o (j*2) _ x0;have Y:=o (j*2+1) _ x1;rw[Addr.add_lit,Ĕ]at T Y;exact⟨⟨F n 0 _ M.C.fg (by rw[<-xP];exact M.C.r U),F ob 2 _ N.fg<|N.r U,F J _ _ W T,F J _ _ W Y⟩,λg=>⟨É<|É<|K.O n M.C.fg,É<|É<|K.O ob N.fg,É<|É<|K.O J W⟩⟩
  have HC:=eZ CB;clear CB;have atM:(j:Int)<(D.length:Int):=Z
  refine atK 14 15 (Ó #[Æ Å,Æ Å] 76 (0,0)) (Ó #[Æ<|Ã ⟨a.x,0,Å⟩,Æ<|Ã ⟨a.y,0,Å⟩] 76 (0,0)) (λe=>[Æ<|Ã ⟨n,0,Å⟩,Æ<|Ã ⟨n,0,Å⟩,Æ<|Ã ⟨n,0,Å⟩,Ç (Ã ⟨J,0,Å⟩) D.length gc,Æ<|Ã ⟨ob,2,Å⟩,Â Ä c,Æ<|Ã ⟨n,0,Å⟩,Æ<|Ã ⟨n,0,Å⟩,Æ<|Ã ⟨n,0,Å⟩,Ç (Ã ⟨J,0,Å⟩) D.length gc,Â Ä D.length,Â Ä j,Æ<|Ã ⟨J,j*2,Å⟩,ý #[Æ<|Ã ⟨a.x,0,Å⟩,Æ<|Ã ⟨a.y,0,Å⟩],Æ<|Ã ⟨e,0,Å⟩,Δ]) I.r I.q (by k_ne) fL fL (λW=>by cases W<;>rfl) A A A λT hT=> ?_;simp only[F2]at hT;simp at hT;subst hT;refine⟨⟨λe e' g hn=> ?_,λe=>rfl⟩,λo ho e w=> ?_,λo ho=> ?_,?_,λl4 Y F4 JL p4 z4=> ?_⟩
  .rcases g with _|_|_|_|_|_|_|_|_|_|_|_|_|_|_|_|g<;>first|rfl|exact absurd U hn
  .obtain rfl:=ú ho;exact⟨by go_simp,by simp[go_sem]⟩
  .obtain rfl:=ú ho;refine⟨U,fL,λe C K P p r=> ?_⟩;have u:p.heap[e]?=_:=(r.I e<|É P.fg).trans P.I;have yF:p.cell? ⟨e,0,Å⟩=Ã (Æ Å):=by simp[ã,u]
   have sK:p.cell? ⟨e,1,Å⟩=Ã (Æ Å):=by simp[ã,u]
   have hz:∀j,p.frozen? ⟨e,j,Å⟩=È:=λj=>by simp[Ś,u]
   refine⟨(p.setCell ⟨e,0,Å⟩<|Æ<|Ã ⟨a.x,0,Å⟩).setCell ⟨e,1,Å⟩<|Æ<|Ã ⟨a.y,0,Å⟩,by go_simp,fp,λj hj=> ?_,⟨U,U,U⟩,?_,λev F=> ?_⟩
   .rw[ğ _ _ _ _ hj,ğ _ _ _ _ hj]
   .unfold Ι;simp[ŏ,u]
   .simp[go_sem,ĕ _ _ _ _ _ _ (show ß (Æ<|Ã ⟨a.x,0,Å⟩)=Î from rfl),ĕ _ _ _ _ _ _ (show ß (Æ<|Ã ⟨a.y,0,Å⟩)=Î from rfl),yF,sK,hz]at F;have W:∀j,pD C ⟨e,j,Å⟩:=λj=>É P.fg;rcases F with rfl|rfl
    .exact(W _).r
    .exact(W _).r
  .iterate 11 refine⟨Ð (Ð λe=>É λC K p r=>⟨by
    let⟨⟨P,W,d2,d3⟩,_⟩:=HC.out C K p r;simp only[tC];go_simp,λev F=>by
    let⟨⟨P,W,d2,d3⟩,hs⟩:=HC.out C K p r;first
    |(simp[go_sem]at F;done)
    |(simp[go_sem,P,W]at F;subst F;first|exact(hs _).1.rd|exact(hs _).2.1.rd)⟩),?_⟩
   refine⟨Ð (Ð λe=>Ð ⟨42,#[Â Ä c,Â Ä D.length],λw=>by go_simp,λw=>ç U Ÿ U U #[],λC K u fr=> ?_⟩),?_⟩
   .have:=JK (iA.xl I K u) (Õ M.m.C.fv K.r.r) (f:=42) fL (λu hu=>by simp at hu;rcases hu with rfl|rfl<;>exact .iB _ _) (λk=>by cases k;rfl) (atC c He hW1 h0 Z) Î fr<|f.at y (æ Q (i::jJ)::L)::qX;rwa[hj]at this
   iterate 2 refine⟨Ð (Ð λe=>É λC K p r=>⟨by
    let⟨⟨P,W,d2,d3⟩,_⟩:=HC.out C K p r;simp only[tC];go_simp,λev F=>by
    let⟨⟨P,W,d2,d3⟩,hs⟩:=HC.out C K p r;first
    |(simp[go_sem,atM]at F;done)
    |(simp[go_sem,d2,d3]at F;rcases F with rfl|rfl<;>exact(hs _).2.2.rd)⟩),?_⟩
   exact⟨É U,Ð<|É U,trivial⟩
  dsimp only;have F:=iA.xl I F4 JL;have a4:nA l1 l4:=λb q=>⟨F4.O b q,F4.r.I b<|É q⟩;have h4:=M.I a4 F4.r.r;have po:gA l4 ob _:=adw N F4;have s4:wm l t l4 t:=s1.fj a4.fE.r;have tp:t Y=0:=M.m.I Y λq=>by have:=I.r.fv Y<|É q;omega
  clear HC F4 JL a4 M N I s1;apply fR (n:=60) F.r.r;repeat w_go fy
  refine Ï λ_ _=> ?_;apply kA (x:=⟨ob,0,Å⟩) (v:=Â Ä E) U fL (by k_ne) F.r.r F.q (É<|É po.fg) (po.r U) (λw k=>by go_simp) (λw k=>by simp[go_sem,k]);walk_nrm;by_cases e5:E=3
  .have e6:(E==3)=Î:=by rwa[beq_iff_eq]
   apply fR (n:=60) F.r.r;repeat w_go fy
   refine Ï λ_ _=> ?_;apply kA (x:=⟨Y,0,Å⟩) (v:=Æ<|Ã ⟨a.x,0,Å⟩) U fL (by k_ne) F.r.r F.q (É<|É p4.fg) (p4.r U) (λw k=>by go_simp) (λw k=>by simp[go_sem,k]);walk_nrm;apply fR (n:=60) F.r.r;repeat w_go fy
   refine Ï λ_ _=> ?_;apply kA (x:=⟨ob,3,Å⟩) (v:=Ê B) U fL (by k_ne) F.r.r F.q (É<|É po.fg) (po.r U) (λw k=>by go_simp) (λw k=>by simp[go_sem,k]);walk_nrm;refine .fD λoF P=>⟨F.C P,U,?_⟩;refine NC (f:=17) (args:=#[Æ<|Ã ⟨a.x,0,Å⟩,Ê B]) (F.C P) U fL (by k_ne) (λw=>by go_simp) (λw=>ç U Tryz.func17 U U #[]) λatN AH=> ?_;refine atr ((h4.r P).r AH).m ha ((F.C P).C AH) hB (mI e5) λl7 uH m7 s7=> ?_;have W:r9 l4 t l7 t:=((qy P).fj<|qy AH).fj s7;let⟨po7,_⟩:=W.C po t1;let⟨p7,_⟩:=W.C p4 tp;have h7:=h4.fE m7 W (Vw D j a _ ha U U) fp;have s8:=s4.fj W.r;clear m7 s7 W h4 po p4 s4 F;have Vy:(D.set j {a with s:=(jR a.s B).2.2})[j]?=Ã {a with s:=(jR a.s B).2.2}:=by simp[AL]
   walk_nrm;apply uG;apply fR (n:=60) uH.r.r;repeat w_go fy
   refine Ï λ_ _=> ?_;apply kA (x:=⟨Y,1,Å⟩) (v:=Æ<|Ã ⟨a.y,0,Å⟩) U fL (by k_ne) uH.r.r uH.q (É<|É p7.fg) (p7.r U) (λw k=>by go_simp) (λw k=>by simp[go_sem,k]);walk_nrm;apply fR (n:=60) uH.r.r;repeat w_go fy
   refine Ï λ_ _=> ?_;apply kA (x:=⟨ob,3,Å⟩) (v:=Ê B) U fL (by k_ne) uH.r.r uH.q (É<|É po7.fg) (po7.r U) (λw k=>by go_simp) (λw k=>by simp[go_sem,k]);walk_nrm;refine xF (f:=43) (args:=#[Æ<|Ã ⟨a.y,0,Å⟩,Ê B]) U fL (by k_ne) uH.r.r (λw=>by go_simp) (λw=>ç U ŷ U U #[]) λZV Vz=> ?_;refine atu (a:={a with s:=(jR a.s B).2.2}) (h7.r Vz).m Vy (uH.C Vz) hB (mI e5) λl9 t9 Bo m9 s9=> ?_;have W:=(qy (t:=t) Vz).fj s9;have h9:=h7.fE m9 W (Vw _ j _ _ Vy U U) fp;have s10:=s8.fj W.r;have yw:=nH a<|â ha;have VA:∀b∈(D.set j {a with s:=(jR a.s B).2.2}).set j {a with s:=(jR a.s B).2.2,d:=(jR a.d B).2.2},b.s=b.d:=λb S=>by
    rw[η]at S;rcases List.mem_or_eq_of_mem_set S with z|z
    .exact nH b z
    .rw[z];simp only;rw[yw]
   clear m9 s9 W h7 s8 Vy;dsimp only;rw[<-yw]at h9 VA|-;generalize jR a.s B=u at*;let⟨u1,u2,u3⟩:=u;dsimp only at h9 VA|-;walk_nrm;apply fR (n:=60) Bo.r.r;repeat w_go fy
   refine Ï λ_ _=> ?_;refine F1 Bo h9.m.C.fv œ (λC z VB cl qX=>Vt z VB u2 cl qX) λl10 z k10 i_=> ?_;walk_nrm;apply fR (n:=60) z.r.r;repeat w_go fy
   u_in fy hF
   refine ġ (t:=4) U U ī U ⟨by u_nil,?_⟩;refine Ï λ_ _=> ?_;exact .fD λyA H=>⟨z.C H,U,hJ _ _ t9 v (z.C H) ((h9.I k10 i_).r H) ((s10.fj k10.fE.r).fj (qy H).r) fp fp VA⟩
  .have e6:(E==3)=È:=by rwa[beq_eq_false_iff_ne]
   by_cases e7:E=4
   .have e8:(E==4)=Î:=by rwa[beq_iff_eq]
    apply fR (n:=60) F.r.r;repeat w_go fy
    refine Ï λ_ _=> ?_;apply kA (x:=⟨Y,0,Å⟩) (v:=Æ<|Ã ⟨a.x,0,Å⟩) U fL (by k_ne) F.r.r F.q (É<|É p4.fg) (p4.r U) (λw k=>by go_simp) (λw k=>by simp[go_sem,k]);walk_nrm;refine xF (f:=22) (args:=#[Æ<|Ã ⟨a.x,0,Å⟩]) U fL (by k_ne) F.r.r (λw=>by go_simp) (λw=>ç U Tryz.func22 U U #[]) λoF P=> ?_;have z:=h4.r P;have u:=F.C P;have p5:gA ({l4 with w:=oF}:fe) Y _:=p4.N P;have s5:=s4.fj (qy P).r;let⟨_,sl,V,hA,_⟩:=z.m.x j a ha;let⟨_,W,_⟩:=z.m.y j a ha;let⟨av,ps,hR,U6⟩:=W.I;have yw:=nH a<|â ha;have FD:ps.length=a.s.length:=by rw[yw,<-U6,Ĭ]
    have atO:=W.C.C;rw[<-yw]at atO;let⟨ap,ac,J8⟩:=jv hR.fg;have cy:=hR.r.r 0 _ U;rw[J8,FD]at cy;apply aq6 u hA;walk_nrm;apply fR (n:=60) u.r.r;repeat w_go fy
    refine Ï λ_ _=> ?_;apply kA (x:=⟨Y,1,Å⟩) (v:=Æ<|Ã ⟨a.y,0,Å⟩) U fL (by k_ne) u.r.r u.q (É<|É p5.fg) (p5.r U) (λw k=>by go_simp) (λw k=>by simp[go_sem,k]);walk_nrm;apply fR (n:=60) u.r.r;repeat w_go fy
    refine Ï λ_ _=> ?_;apply kA (x:=⟨a.y,0,Å⟩) (v:=Ç ap a.s.length ac) U fL (by k_ne) u.r.r u.q (É<|É<|W.fg _ W.y) cy (λw k=>by go_simp) (λw k=>by simp[go_sem,k]);walk_nrm;apply fR (n:=60) u.r.r;repeat w_go fy
    u_in fy hF
    refine ġ (t:=4) U U ī U ⟨by u_nil,?_⟩;refine Ï λ_ _=> ?_;exact .fD λyA H=>⟨u.C H,U,hJ _ D t v (u.C H) (z.r H) (s5.fj (qy H).r) (Ù _) Z nH⟩
   .have e8:(E==4)=È:=by rwa[beq_eq_false_iff_ne]
    apply fR (n:=60) F.r.r;repeat w_go fy
    u_in fy hF
    refine ġ (t:=4) U U ī U ⟨by u_nil,?_⟩;refine Ï λ_ _=> ?_;exact .fD λyA H=>⟨F.C H,U,hJ _ D t v (F.C H) (h4.r H) (s4.fj (qy H).r) (Ù _) Z nH⟩
end
structure DY where
 k:Int
 n:Int
 w:Int
 s:ByteArray
structure DY.Ok(o:DY):Prop where
 w0:-9223372036854775808<=o.w
 w1:o.w<=9223372036854775807
 s:o.s.size<=č
def zH(l:fe)(c:Option ś)(N:Nat)(f:Nat->DY):Prop:=∀j,j<N->(f j).Ok/\∃a b,c=Ã ⟨a,b,Å⟩/\l.O a/\l.w.rangeAt a (b+j*4) [Â Ä (f j).k,Â Ä (f j).n,Â Ä (f j).w,Ê (f j).s]
noncomputable def Og:Code:=mg aE [1,1,1,1,0,1,0,0]
noncomputable def ady:Code:=mg aE [1,1,1,1,1]
noncomputable def F5 (a:Array Ì) (b:List į):ψ:=G ((base 14).at ⟨a,[]⟩<|aC Og::.inLoop Og::[.inBlock 0,aC ady]) b
structure LF(bv:Ì)(lo hi:Int)(pl:Bool)(wb j:Nat)(tt:Array Ì):Prop where
 r:tt.size=61
 C:tt[0]?=Ã bv
 t1:tt[1]?=Ã (Â Ä lo)
 t2:tt[2]?=Ã (Â Ä hi)
 t3:tt[3]?=Ã (ì pl)
 t9:tt[9]?=Ã (Æ<|Ã ⟨wb,0,Å⟩)
 I:tt[11]?=Ã (Â Ä j)
section
variable{l D:fe}{g:List Pr}{t:Nat->Nat}{wb:Nat}{C:į}{rest:List Nat}{k:List aG}{cs:List į}{c:Nat}{f:Nat->DY}{lo hi:Int}{pl:Bool}{tt:Array Ì}
def atP(d:ic l)(a:LF (Ç O b c) lo hi pl wb b tt) (g:∀e,ic e->nA l e->jm vQ e (G (C.at (y.put ((Q[i]?).bind (·.dst))<|ì Î)<|æ Q rest::k) cs)):jm vQ l (F5 tt<|C.at y (æ Q (i::rest)::k)::cs):=by
 have hF:True:=trivial;obtain⟨u,rfl⟩:=Aw tt a.r;have h:u 0=Ç O b c:=by simpa using a.C
 have j:u 11=Â Ä b:=by simpa using a.I
 clear a;apply uG;apply fR (n:=60) d.r.r;simp only[F5,ć,List.range.loop,aF,h,j];conv in Og=>whnf
 conv in ady=>whnf
 repeat w_go fy
 u_in fy hF
 refine ġ (t:=8) U U ź U ⟨by u_nil,?_⟩;refine Ï λ_ _=> ?_;exact .fD λm f=>⟨d.C f,U,g _ (d.C f)<|DX f⟩
def atQ(G:ic l)(h:pQ l g t wb v)(h0:0<g.length)(hq:g.length<=2^42)(nH:∀a∈g,a.s=a.d)(hx:zH l O b f)(ht:∀E N,O=Ã ⟨E,N,Å⟩->t E=0)(L:LF (Ç O b c) lo hi pl wb j tt)(hj:j<b)(hN:b<=9223372036854775807)(Kk:1<lo)(mI:pl=Î\/∀B,∀r∈(gy B).2.2,iF r) (hJ:∀H zG t' Vx tt',ic H->pQ H zG t' wb Vx->wm l t H t'->g.length<=zG.length->zG.length<=g.length+1->(∀a∈zG,a.s=a.d)->LF (Ç O b c) lo hi pl wb (j+1) tt'->jm vQ H (F5 tt' cs)):jm vQ l (F5 tt cs):=by
 have hF:True:=trivial;obtain⟨u,rfl⟩:=Aw tt L.r;have e0:u 0=Ç O b c:=by simpa using L.C
 have e1:u 1=Â Ä lo:=by simpa using L.t1
 have e2:u 2=Â Ä hi:=by simpa using L.t2
 have e3:u 3=ì pl:=by simpa using L.t3
 have e9:u 9=Æ (Ã ⟨wb,0,Å⟩):=by simpa using L.t9
 have e11:u 11=Â Ä j:=by simpa using L.I
 clear L;have q2:Ä.wrap ((j:Int)+1)=((j+1:Nat):Int):=IntWalk.i64_in _ ⟨Z,Z⟩;obtain⟨ok,E,N,rfl,hO,P⟩:=hx j hj;have tr:=ht E N U;generalize f j=o at ok P;let⟨kd,F,W,B⟩:=o;dsimp only at P;let⟨w0,w1,hB⟩:=ok;dsimp only at w0 w1 hB;apply uG;apply fR (n:=60) G.r.r;simp only[F5,ć,List.range.loop,aF,e0,e1,e2,e3,e9,e11];conv in(occs:=1) Og=>whnf
 repeat w_go fy
 refine Ï λ_ _=> ?_;have VC:∀{H:fe},nA l H->∀y,fI H H.w y->y.cell? ⟨E,N+j*4,Å⟩=Ã (Â Ä kd)/\y.cell? ⟨E,N+j*4+1,Å⟩=Ã (Â Ä F)/\y.cell? ⟨E,N+j*4+2,Å⟩=Ã (Â Ä W)/\y.cell? ⟨E,N+j*4+3,Å⟩=Ã (Ê B):=λ{H} k y r=>by have i:∀n e,l.w.cell? ⟨E,n,Å⟩=Ã e->y.cell? ⟨E,n,Å⟩=Ã e:=λn e z=>(gK<|(r.I E<|É (k E hO).1).trans (k E hO).2).trans z;exact⟨i _ _<|P 0 _ U,i _ _<|P 1 _ U,i _ _<|P 2 _ U,i _ _<|P 3 _ U⟩
 refine oC (v:=ý #[Â Ä kd,Â Ä F,Â Ä W,Ê B]) U fL (by k_ne) G.r.r G.q (λy r=> ?_) (λy r e Q=> ?_) ?_
 .let⟨V,X,Y,g3⟩:=VC (λi q=>⟨q,U⟩) y r;go_simp
 .let⟨V,X,Y,g3⟩:=VC (λi q=>⟨q,U⟩) y r;have own:∀n,gQ l ⟨E,n,Å⟩:=λn=>É<|É hO;simp[go_sem,V,X,Y,g3]at Q;rcases Q with rfl|rfl|rfl|rfl<;>exact(own _).rd
 walk_nrm;refine Cs (ob:=Ó #[Â Ä 0,Â Ä 0,Â Ä 0,Ê ⟨#[]⟩] 57) U fL (by k_ne) G.r.r G.q (λw=>by go_simp) (λw=>by simp[go_sem]) λy kT=> ?_;walk_nrm;have k1:gd fh l (gF l y<|Ó #[Â Ä 0,Â Ä 0,Â Ä 0,Ê ⟨#[]⟩] 57):=mL G.r kT;have M:gA (gF l y<|Ó #[Â Ä 0,Â Ä 0,Â Ä 0,Ê ⟨#[]⟩] 57) y.heap.size (Ó #[Â Ä 0,Â Ä 0,Â Ä 0,Ê ⟨#[]⟩] 57):=⟨Ð U,ĺ _ _⟩;have qP:l.w.heap.size<=y.heap.size:=kT.r;generalize gF l y (Ó #[Â Ä 0,Â Ä 0,Â Ä 0,Ê ⟨#[]⟩] 57)=l₁ at k1 M|-;generalize y.heap.size=ob at M qP|-;have VD:=DW k1 G;refine tY U fL (by k_ne) λI lT=> ?_;have S:I.heap[ob]?=_:=(lT.I ob<|É M.fg).trans M.I;have yF:I.cell? ⟨ob,0,Å⟩=Ã (Â Ä 0):=by simp[ã,S]
 have sK:I.cell? ⟨ob,1,Å⟩=Ã (Â Ä 0):=by simp[ã,S]
 have sL:I.cell? ⟨ob,2,Å⟩=Ã (Â Ä 0):=by simp[ã,S]
 have xc:I.cell? ⟨ob,3,Å⟩=Ã (Ê ⟨#[]⟩):=by simp[ã,S]
 have hz:∀j,I.frozen? ⟨ob,j,Å⟩=È:=λj=>by simp[Ś,S]
 go_simp;refine⟨{l₁ with w:=iK I ob (Â Ä kd) (Â Ä F) (Â Ä W) (Ê B)},EZ (p:=ob) (lQ VD.r.r lT) VD.q M.fg wW (λj hj=>yC hj) ⟨U,U,U⟩ λe Q=> ?_,?_⟩
 .have C:=ag Q;have own:∀j,pD l₁ ⟨ob,j,Å⟩:=λj=>É M.fg;simp[go_sem,ĕ _ _ _ _ _ _ (show ß (Â Ä kd)=Î from rfl),ĕ _ _ _ _ _ _ (show ß (Â Ä F)=Î from rfl),ĕ _ _ _ _ _ _ (show ß (Â Ä W)=Î from rfl),ĕ _ _ _ _ _ _ (show ß (Ê B)=Î from rfl),yF,sK,sL,xc,hz]at C;rcases C with rfl|rfl|rfl|rfl<;>exact(own _).r
 have T:gd fh l ({l₁ with w:=iK I ob (Â Ä kd) (Â Ä F) (Â Ä W) (Ê B)}:fe):=k1.iK G.r lT qP;have J:gA ({l₁ with w:=iK I ob (Â Ä kd) (Â Ä F) (Â Ä W) (Ê B)}:fe) ob (Ó #[Â Ä kd,Â Ä F,Â Ä W,Ê B] 57):=⟨M.fg,Z3 S⟩;generalize({l₁ with w:=iK I ob (Â Ä kd) (Â Ä F) (Â Ä W) (Ê B)}:fe)=l2 at T J|-;have D:=DW T G;have a2:nA l l2:=λi q=>⟨T.O i q,T.r i (É q) id⟩;have h2:=h.I a2 T.I;have s2:wm l t l2 t:=a2.fE.r;have tob:t ob=0:=h.m.I ob λq=>by have:=G.r.fv ob<|É q;omega
 clear M k1 VD S yF sK sL xc hz lT VC P T G h a2;apply fR (n:=60) D.r.r;repeat w_go fy
 refine Ï λ_ _=> ?_;apply kA (x:=⟨ob,0,Å⟩) (v:=Â Ä kd) U fL (by k_ne) D.r.r D.q (É<|É J.fg) (J.r U) (λw h=>by go_simp) (λw h=>by simp[go_sem,h]);walk_nrm;by_cases z1:kd<lo
 .apply fR (n:=80) D.r.r;repeat w_nl fy
  w_go fy
  refine Ï λ_ _=> ?_;exact .fD λOh C=>⟨D.C C,U,hJ _ g t v _ (D.C C) (h2.r C) (s2.fj (qy C).r) (Ù _) Z nH ⟨U,U,U,U,U,U,U⟩⟩
 .apply fR (n:=80) D.r.r;repeat w_nl fy
  refine Ï λ_ _=> ?_;apply kA (x:=⟨ob,0,Å⟩) (v:=Â Ä kd) U fL (by k_ne) D.r.r D.q (É<|É J.fg) (J.r U) (λw h=>by go_simp) (λw h=>by simp[go_sem,h]);walk_nrm;by_cases z2:hi<kd
  .apply fR (n:=80) D.r.r;repeat w_nl fy
   w_go fy
   refine Ï λ_ _=> ?_;exact .fD λOh C=>⟨D.C C,U,hJ _ g t v _ (D.C C) (h2.r C) (s2.fj (qy C).r) (Ù _) Z nH ⟨U,U,U,U,U,U,U⟩⟩
  .apply fR (n:=80) D.r.r;repeat w_nl fy
   refine Ï λ_ _=> ?_;apply kA (x:=⟨ob,3,Å⟩) (v:=Ê B) U fL (by k_ne) D.r.r D.q (É<|É J.fg) (J.r U) (λw h=>by go_simp) (λw h=>by simp[go_sem,h]);walk_nrm;refine F1 D h2.m.C.fv χ (args:=#[Ê B]) (v:=ì<|decide<|(40:UInt8)∈B.data.toList) (λH kU VB cl cs=>JK kU VB fL (λu K=>by simp at K;subst K;exact .kt _) (λh=>by cases h;rfl) (atD B hB) Î cl cs) λl3 K k3 z3=> ?_;have h3:=h2.I k3 z3;have s3:=s2.fj k3.fE.r;have p3:gA l3 ob _:=⟨(k3 ob J.fg).1,(k3 ob J.fg).2.trans J.I⟩;generalize KY:decide ((40:UInt8)∈B.data.toList)=cc;walk_nrm;by_cases z4:(pl&&cc)=Î
   .simp only[Ė]at z4;obtain⟨rfl,rfl⟩:=z4;apply fR (n:=80) K.r.r;repeat w_nl fy
    w_go fy
    refine Ï λ_ _=> ?_;exact .fD λOh C=>⟨K.C C,U,hJ _ g t v _ (K.C C) (h3.r C) (s3.fj (qy C).r) (Ù _) Z nH ⟨U,U,U,U,U,U,U⟩⟩
   .have EX:kd=3->∀r∈(gy B).2.2,iF r:=λ_=>by
     rcases mI with rfl|q
     .refine as5 (atE λz=>z4 ?_);rw[<-KY,decide_eq_true z];rfl
     .exact q B
    have HP:=eZ EX;clear EX mI KY;have atS:kd≠1:=Z
    cases pl;rotate_left;obtain rfl:cc=È:=by simpa using z4
    rotate_left;all_goals
     apply fR (n:=80) K.r.r;repeat w_nl fy
     refine Ï λ_ _=> ?_;refine oC (v:=ý #[Â Ä kd,Â Ä F,Â Ä W,Ê B]) U fL (by k_ne) K.r.r K.q (λy r=> ?_) (λy r e Q=> ?_) ?_
     .have e:y.heap[ob]?=_:=(r.I ob<|É p3.fg).trans p3.I;have V:y.cell? ⟨ob,0,Å⟩=Ã (Â Ä kd):=by simp[ã,e]
      have X:y.cell? ⟨ob,1,Å⟩=Ã (Â Ä F):=by simp[ã,e]
      have Y:y.cell? ⟨ob,2,Å⟩=Ã (Â Ä W):=by simp[ã,e]
      have g3:y.cell? ⟨ob,3,Å⟩=Ã (Ê B):=by simp[ã,e]
      go_simp
     .have e:y.heap[ob]?=_:=(r.I ob<|É p3.fg).trans p3.I;have V:y.cell? ⟨ob,0,Å⟩=Ã (Â Ä kd):=by simp[ã,e]
      have X:y.cell? ⟨ob,1,Å⟩=Ã (Â Ä F):=by simp[ã,e]
      have Y:y.cell? ⟨ob,2,Å⟩=Ã (Â Ä W):=by simp[ã,e]
      have g3:y.cell? ⟨ob,3,Å⟩=Ã (Ê B):=by simp[ã,e]
      have own:∀n,gQ l3 ⟨ob,n,Å⟩:=λn=>É<|É p3.fg;simp[go_sem,V,X,Y,g3]at Q;rcases Q with rfl|rfl|rfl|rfl<;>exact(own _).rd
     walk_nrm;refine .fD λoF e=>⟨K.C e,U,?_⟩;refine NC (f:=34) (args:=#[Æ<|Ã ⟨wb,0,Å⟩,ý #[Â Ä kd,Â Ä F,Â Ä W,Ê B]]) (K.C e) U fL (by k_ne) (λw=>by go_simp) (λw=>ç U ī U U #[]) λatN z=> ?_;refine atL ((K.C e).C z) ((h3.r e).r z) h0 hq nH w0 w1 hB atS HP.out λl7 V X Y Q h7 s7 y1 y2 y3=> ?_;have s8:=s3.fj<|((qy e).fj<|qy z).r.fj s7;walk_nrm;apply uG;apply fR (n:=80) Q.r.r;repeat w_nl fy
     w_go fy
     refine Ï λ_ _=> ?_;exact .fD λOh C=>⟨Q.C C,U,hJ _ V X Y _ (Q.C C) (h7.r C) (s8.fj (qy C).r) y1 y2 y3 ⟨U,U,U,U,U,U,U⟩⟩
end
section
variable{l g:fe}{o:į}{c:Nat}{f:Nat->DY}{u:Int}
def zH.r{l l':fe}(h:zH l O n f)(L:∀b,l.O b->l'.O b/\l'.w.heap[b]?=l.w.heap[b]?):zH l' O n f:=λj d=>by let⟨e,a,g,k,c,m⟩:=h j d;exact⟨e,a,g,k,(L a c).1,λi v o=>xD (L a c).2<|m i v o⟩
def adz(z:zH g O n f)(I:n<2^42)(D:1<u)(E:yQ=Î\/∀B,∀r∈(gy B).2.2,iF r) (F:∀p,ic p->(∀b,g.O b->p.O b/\p.w.heap[b]?=g.w.heap[b]?)->jm vQ p (G (o.at (y.put ((Q[i]?).bind (·.dst))<|ì Î)<|æ Q jJ::L) qX)):∀(m k:Nat) (l:fe) (v:List Pr) (t:Nat->Nat) (C:Ì) (x:Array Ì),n-k=m->k<=n->ic l->pQ l v t j C->0<v.length->v.length<=k+1->(∀a∈v,a.s=a.d)->(∀b,g.O b->l.O b/\l.w.heap[b]?=g.w.heap[b]?/\t b=0)->LF (Ç O n c) u h yQ j k x->jm vQ l (F5 x<|o.at y (æ Q (i::jJ)::L)::qX)
 |0,k,l,v,t,C,x,hm,hj,hb,h,h0,hq,nH,hk,hT=>by
  have e:k=n:=Z
  subst e;exact atP hb hT λp a H=>F p a λb q=>⟨(H b (hk b q).1).1,(H b (hk b q).1).2.trans (hk b q).2.1⟩
 |m+1,k,l,v,t,C,x,hm,hj,hb,h,h0,hq,nH,hk,hT=>by
  refine atQ hb h h0 Z nH (z.r (l':=l) λb q=>⟨(hk b q).1,(hk b q).2.1⟩) (λH J e=> ?_) hT Z Z D E λp J K M N a P S y1 y2 T V=>adz z I D E F m (k+1) p J K M N Z Z a P Z Z T (λb q=> ?_) V
  .let⟨_,W,X,H,q,_⟩:=z k Z;rw[e]at H;cases H;exact(hk _ q).2.2
  .let⟨H,e,W⟩:=hk b q;let⟨X,Y,z3⟩:=S b H W;exact⟨X,Y.trans e,z3⟩
def atT(e:ic l)(T:mS l.w)(I:∀b,b=1\/b=2\/b=3\/b=4->l.O b)(hx:zH l O n f)(hN:n<2^42)(Kk:1<u)(mI:yQ=Î\/∀B,∀r∈(gy B).2.2,iF r) (hJ:∀F,ic F->(∀b,l.O b->F.O b/\F.w.heap[b]?=l.w.heap[b]?)->jm vQ F (G (o.at (y.put ((Q[i]?).bind (·.dst))<|ì Î)<|æ Q jJ::L) qX)): jm vQ l (G (ó Á 14 #[Ç O n c,Â Ä u,Â Ä h,ì yQ] ę)<|o.at y (æ Q (i::jJ)::L)::qX):=by
 have hF:True:=trivial;rw[Dz [_,_,_,_] 57 ź];simp only[ÿ,ħ,ď];conv in mg _ _=>whnf
 apply uG;apply fR (n:=60) e.r.r;repeat w_go fy
 refine Ï λ_ _=> ?_;refine pE (V:=λp=>Æ<|Ã ⟨p,0,Å⟩) (ob:=Ó #[Ç Å 0 0] 54) U fL (by k_ne) e.r.r e.q (λw=>by go_simp) (λw=>by simp[go_sem]) λm W=> ?_;walk_nrm;have g:=mL (X:=fh) (ob:=Ó #[Ç Å 0 0] 54) e.r W;have C:gA (gF l m<|Ó #[Ç Å 0 0] 54) m.heap.size (Ó #[Ç Å 0 0] 54):=⟨Ð U,ĺ _ _⟩;generalize gF l m (Ó #[Ç Å 0 0] 54)=l1 at g C|-;have J:¬l.O m.heap.size:=λq=>by have:=e.r.fv _<|É q;have:=W.r;omega
 generalize m.heap.size=j at C J|-;have K:=DW g e;have D:nA l l1:=λb q=>⟨g.O b q,g.r b (É q) id⟩;have Y:pQ l1 [] (λb=>if b=j then 1 else 0) j (Ç Å 0 0):=by refine⟨⟨λi a q=>(by cases q),λi a q=>(by cases q),T.r (Õ T.fv g.I) λb q=>(D b<|I b q).2,λb q=>⟨(D b<|I b q).1,if_neg<|by rintro rfl;exact J<|I _ q⟩,λb q=>if_neg<|by rintro rfl;exact q C.fg⟩,C,if_pos U,ð _ _ _ _,λb q=>by cases q⟩
 have t1:∀b,l.O b->(if b=j then 1 else 0)=0:=λb q=>if_neg (by rintro rfl;exact J q);clear g C;apply fR (n:=60) K.r.r;repeat w_go fy
 refine Ï λ_ _=> ?_;refine xF (f:=32) (args:=#[Æ<|Ã ⟨j,0,Å⟩,Â Ä 3]) U fL (by k_ne) K.r.r (λw=>by go_simp) (λw=>ç U ľ U U #[]) λBE M=> ?_;refine ads (K.C M) (Y.r M) 3 A λN qs t pv k E s2 _ _ z1 z2=> ?_;have hl:=z1 A A;simp only[List.length_nil]at hl;let⟨gp,gc,xP⟩:=jv E.N;have st:=((qy M).r.fj s2);have k2:∀b,l.O b->N.O b/\N.w.heap[b]?=l.w.heap[b]?/\t b=0:=λb q=>by let⟨H,P,S⟩:=st b (D b q).1<|t1 b q;exact⟨H,P.trans (D b q).2,S⟩
 have nH:∀a∈qs,a.s=a.d:=λa q=>(z2 a q).elim (λz=>by cases z) id;rw[hl]at xP;have z:=eZ<|À E<|À k2 nH;have hwo:=E.C.fg;have hwc:N.w.cell? ⟨j,0,Å⟩=Ã (Ç gp (0+1) gc):=by rw[<-xP];exact E.C.r U
 clear E s2 z1 z2 st k2 nH Y D t1;walk_nrm;apply fR (n:=60) k.r.r;repeat w_go fy
 refine Ï λ_ _=> ?_;apply kA (x:=⟨j,0,Å⟩) (v:=Ç gp (0+1) gc) U fL (by k_ne) k.r.r k.q (É<|É hwo) hwc (λw p=>by go_simp) (λw p=>by simp[go_sem,p]);walk_nrm;apply fR (n:=80) k.r.r;repeat w_bar fy
 w_go fy
 refine Ï λ_ _=> ?_;refine .fD λOh p=>⟨k.C p,U,adz hx hN Kk mI hJ n 0 _ qs t pv _ Z (Û _) (k.C p) (z.out.1.r p) Z Z z.out.2.2 (λb q=> ?_) ⟨U,U,U,U,U,U,U⟩⟩;let⟨H,P,S⟩:=z.out.2.1 b q;exact⟨H,(p.I b<|É H).trans P,S⟩
def atU(d:ic l)(j:mS l.w)(k:∀b,b=1\/b=2\/b=3\/b=4->l.O b)(p:zH l O n f)(r:n<2^42) (s:∀e,ic e->(∀b,l.O b->e.O b/\e.w.heap[b]?=l.w.heap[b]?)->vQ (ì Î) e.w): jm vQ l (G (ó Á 3 #[Ç O n c] ę) []):=by
 have hF:True:=trivial;rw[Dz [_] 4 ah];simp only[ÿ,ħ,ď];conv in mg _ _=>whnf
 apply uG;apply fR (n:=40) d.r.r;repeat w_go fy
 refine Ï λ_ _=> ?_;refine .fD λv g=>⟨d.C g,U,?_⟩;refine NC (f:=14) (args:=#[Ç O n c,Â Ä 2,Â Ä 4,ì Î]) (d.C g) U fL (by k_ne) (λw=>by go_simp) (λw=>ç U ź U U #[]) λu a=> ?_;have h:fI l l.w u:=g.fj ⟨a.r,a.I,a.N,a.Y,a.S⟩;refine atT ((d.C g).C a) (j.r (Õ j.fv h.r) λb q=>h.I b<|É<|k b q) k (p.r λb q=>⟨q,h.I b<|É q⟩) r A (É U) λx m i=> ?_;walk_nrm;apply aqy;apply fR (n:=60) m.r.r;repeat w_nl fy
 refine Ï λ_ _=> ?_;exact .fD λy o=>⟨U,ì Î,λw=>aq7 (t:=2) U U ah U fx,s _ (m.C o) λb q=>⟨(i b q).1,(o.I b<|É (i b q).1).trans<|(i b q).2.trans<|h.I b<|É q⟩⟩
end
def atV(a:mS W){N c:Nat}{f:Nat->DY}(d:zH (NH W) O N f)(e:N<2^42): tu (λv w'=>v=ì Î/\oj W w') #[G (ó Á 3 #[Ç O N c] ę) []] W Å #[]:= aq8 (l:=NH W) (atU (ab1 W) a (aq9 a) d e λh g v=>⟨U,λb q=>(v b q).2,(by
  rcases Ĝ W.heap.size with z|z
  .rw[z];exact Û _
  .have:=g.r.fv _ (É (v (W.heap.size-1) (show W.heap.size-1<W.heap.size by omega)).1);omega)⟩) (ab1 W) U
end Go.Proofs.Y.iV
