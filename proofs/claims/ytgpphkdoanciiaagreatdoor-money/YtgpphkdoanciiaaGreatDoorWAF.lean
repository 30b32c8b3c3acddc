import Derived.Test.YtgpphkdoanciiaaGreatDoorWAE
import Derived.Lib.LaidTab
import Derived.OpenShut
import Derived.Test.YtgpphkdoanciiaaGreatDoorRows
import Derived.Conc.LeavingOf
import Derived.LaidMore
import Derived.Stop.Joined
import Derived.Carry
set_option linter.all false
set_option maxRecDepth 1000000
set_option maxHeartbeats 8000000
open Go.Proofs.Tryz renaming prog->À,func18->ò,func20->ó,func17->Č,underlying36->Ē,t9->ĕ,underlying25->Ė,underlying3->Ę,underlying5->ę,func24->ğ,func26->Ġ,func19->ġ,func5->Ĩ,ntmps18->ĳ,f5->Ĵ,func21->ķ,func16->Ĺ,type9->Ļ,f24->Ň,f19->Ŋ
open Go.Value renaming string->Á,int->Æ,pointer->Ë,slice->Ô,bool->ï,tuple->ň
open Go.Conc.Goes renaming stop->Â
open Go.IntKind renaming i64->Ã,wrap_i64->æ,u64->ī,wrap_u64->Ł,u8->ō
open Option renaming some->Ä,map_eq_some_iff->Û,none->à,map_some->ģ
open Go.Item renaming inRegion->Å,inBlock->Ĕ,code->Ğ,inLoop->ı
open List renaming range->Ç,cons_append->Ù,mem_singleton->Ý,nil_append->Þ,getElem?_map->ß,replicate->å,getElem?_eq_getElem->è,length_append->ì,drop_eq_getElem_cons->ö,extract_eq_take_drop->ø,foldl_append->ù,take->ü,drop->ý,getD->þ,map->ÿ,mem_map->Ā,drop_eq_nil_of_le->Ă,getElem?_range->č,map_congr_left->Ď,getElem?_drop->Đ,take_add_one->ē,append_nil->Ĥ,mem_append->ĥ,mem_range->ħ,mem_cons->Ī
open Nat renaming le_refl->È,zero_le->Í,le_trans->õ,strongRecOn->ă,one_pos->ĉ,pow_succ->Ĳ
open Go.Frame renaming enter->É
open Go renaming Value->Ê,World->Ì,maxLen->î,Frame->ą,Goroutine->ě,execOp->ĝ,laidMetH->Ħ,Act->ĩ,Code->ĭ,TypeId->ĵ,DataW->Ķ,IntKind->ļ,Oper->ń,Calls->ņ
open Bool renaming true->Î,false->ç
open ByteArray renaming size_append->Ï,data_extract->Ü,getElem_eq_getElem_data->í,data_append->ð,ext->ď,append_assoc->Į,append_empty->į,extract->ľ,size->ŉ
open Go.Proofs.YtgpphkdoanciiaaGreatDoor.Rows renaming laid_math_bits_deBruijn32tab->Ð,laid_math_bits_deBruijn64tab->Ñ,laid_attic_attic_stepRules->Õ,laid_internal_strconv_uint64pow10->á
open And renaming intro->Ò
open List.range renaming loop->Ó
open Array renaming length_toList->Ö,toList_extract->ã,getElem_toList->ñ,toList_append->ô
open Or renaming inl->Ø,inr->Ċ
open Go.Conc renaming events_call_body->Ú,goes_leave1->ċ
open UInt8 renaming ofNat->â,toNat_inj->Ą
open Go.IntWalk renaming i64_in->ä
open Option.some renaming inj->é,injEq->Ľ
open Go.CallKind renaming normal->ê
open Go.DataW renaming trod->ë,trod_int->ć,agg->ŏ
open Go.Obj renaming cells->ú,row?->Ņ
open Go.Instr renaming sliceAt->û,sliceBound->Ĝ,slice->ĸ
open Go.Code renaming wp->ā,wp_mono->İ,loop->ŀ
open Go.Lib renaming tabData->Ć,nDigits_small->ė
open Go.World renaming cell?->Ĉ,var?->ĺ
variable{i n j b k m J j9 j7 j6:Nat}{w u W jX:Ì}{v x z jQ:Ê}{h c:Int}{e t T:ĵ}{d q:Array Ê}{P:Go.Program}{y:ĩ}{B:ByteArray}{X:Nat->Prop}{O:Option Go.Addr}{l:List Ê}{yQ:Bool}{K H:ĩ->Ì->Prop}{o:ń}{D:Nat->Nat}{L:List Go.Item}{jJ:List Nat}{qX:List ą}{zQ:List Int}{xJ:Nat×Nat}{vX:List ByteArray}{vQ:Ê->Ì->Prop}{Q:Array ń}{f:ą}
namespace Go.Proofs.Y.kS
open Go Go.Conc Go.Proofs Go.RowKit Go.Proofs.Y.Lift Go.Proofs.Y.gP Go.Proofs.Y.fv Go.Proofs.Y.om
open Go.Proofs.YtgpphkdoanciiaaGreatDoor (Rows.laid_math_bits_deBruijn32tab Rows.laid_math_bits_deBruijn64tab Rows.laid_internal_strconv_uint64pow10 Rows.laid_attic_attic_stepRules)
def ML:List (String×DataW Unit):=[("math/bits.deBruijn32tab",Ð),("math/bits.deBruijn64tab",Ñ),("internal/strconv.uint64pow10",á),("attic/attic.stepRules",Õ)]
theorem MN(h:W.ShapedOpen À)(g:Nat)(t:ĵ)(b:g<À.globals.size)(e:(((begin À (λ_ _=>0) default).world.heap[g]?).bind Ņ).map (·.2)=Ä t): ∃a,W.heap[g]?=Ä (ú a t):=by let⟨⟨z,c⟩,d,f⟩:=Û.1 e;let⟨a,i,_⟩:=h.1 g z c b d;grind
theorem abX{n:String}(b:À.globalNamed n=Ä i)(h:W.heap[i]?=Ä (ú q t xJ))(a:W.var? À n=Ä d):q=d:=by unfold ĺ at a;grind
def Us{n:String}{N:Nat}{k:ļ}{p:List MemPlace} (a:À.globalNamed n=Ä i) (f:(À.globals[i]?).map (·.type)=Ä t) (h:À.underlying t=Ä (.array N e)) (l:À.underlying e=Ä (.int k)) (m:À.cellsOf e=1) (o:À.cellsOf t=N) (r:W.heap[i]?=Ä (ú d t xJ)) (s:À.globalNamed n=Ä b) (u:(À.globals[b]?).map (·.type)=Ä T) (v:W.var? À n=Ä q) (w:ë (λ_=>()) À W 0 (λ_=>Î) ç j T q.toList=Ä (Ć k zQ,p)):d=(zQ.map λz=>Æ k z).toArray:=by obtain rfl:=é<|a.symm.trans s;obtain rfl:=é<|f.symm.trans u;rw[abX a r v,<-Lib.cells_of_tab h l m o w]
def asy:À.cellsOf 299=3:=fu
def abY:À.cellsOf 36=1:=fu
def asz:À.cellsOf 3=1:=fu
def asA:À.cellsOf 300=69:=fu
def asB{p:List MemPlace}(v:ë (λ_=>()) À W 0 (λ_=>Î) ç n 300 l=Ä (Õ,p)): l.length=69/\∀(i:Nat) (r:Int×Int×Int),iY[i]?=Ä r->l[i*3]?=Ä (Æ ī r.1)/\l[i*3+1]?=Ä (Æ Ã r.2.1)/\l[i*3+2]?=Ä (Æ Ã r.2.2):=by
 obtain⟨f,m,rfl,w,y,K,z⟩:=DataW.trod_array Tryz.underlying300 v;refine⟨y.trans asA,λi r o=> ?_⟩;have B:i<23:=by have:=(List.getElem?_eq_some_iff.1 o).1;exact this
 have g:=z i B;rw[asy]at g;have C:f.map (·.1)=iY.map λr=>(ŏ [.lit<|.int ī r.1,.lit<|.int Ã r.2.1,.lit<|.int Ã r.2.2]:Ķ Unit):=by have:=congrArg Prod.fst w;simp only[Õ,DataW.agg.injEq]at this;exact this.symm
 obtain⟨x,q⟩:∃x,f[i]?=Ä x:=⟨_,è Z⟩;rw[q]at g;have d:(f.map (·.1))[i]?=Ä x.1:=by simp[q]
 rw[C]at d;simp only[ß,o,ģ,Ľ]at d;obtain⟨e,h,rfl,j,L,D,k⟩:=DataW.trod_struct Tryz.underlying299 g;have a:=k 0 _ U;have b:=k 1 _ U;have c:=k 2 _ U;have a:ë _ À W 0 _ ç h 36 (ü (À.cellsOf 36)<|ý 0<|ü 3<|ý (i*3) l)=e[0]?:=a;have b:ë _ À W 0 _ ç h 3 (ü (À.cellsOf 3)<|ý 1<|ü 3<|ý (i*3) l)=e[1]?:=b;have c:ë _ À W 0 _ ç h 3 (ü (À.cellsOf 3)<|ý 2<|ü 3<|ý (i*3) l)=e[2]?:=c;rw[abY]at a;rw[asz]at b c;match e,D,j,a,b,c with
 |[y0,y1,y2],_,j,a,b,c=>
  let⟨M,E,F,_⟩:=ć Ē (show ë _ _ _ _ _ _ _ 36 _=Ä y0 from a);let⟨N,G,H,_⟩:=ć Ę (show ë _ _ _ _ _ _ _ 3 _=Ä y1 from b);let⟨O,I,J,_⟩:=ć Ę (show ë _ _ _ _ _ _ _ 3 _=Ä y2 from c);subst F;subst H;subst J;rw[j]at d;simp only[List.map_cons,List.map_nil,DataW.agg.injEq,List.cons.injEq,DataW.lit.injEq,Lit.int.injEq,true_and,and_true]at d;obtain⟨rfl,rfl,rfl⟩:=d;have s:=congrArg (·[0]?) E;have t:=congrArg (·[0]?) G;have u:=congrArg (·[0]?) I;simp[List.getElem?_take,Đ]at s t u;exact⟨s,t,u⟩
def abZ(h:∀v∈d.toList,∃k n,v=Æ k n):fR (lh X i) d d:=pv λv a=>by obtain⟨k,n,rfl⟩:=h v a;exact .iE _ _
def asC{l:List (String×DataW Unit)}(h:Ħ P l W)(a:(l.filter λx=>x.2.handleName?.isSome)=[]):∃b,DataW.LaidVars P W l b:=by unfold Ħ at h;rw[a]at h;exact⟨h.choose,h.choose_spec.1⟩
def asD:À.cellsOf 304=32:=fu
def asE:À.cellsOf 305=64:=fu
def asF:À.cellsOf 291=20:=fu
def ab0:À.cellsOf 5=1:=fu
def gn1:À.globalNamed "internal/strconv.uint64pow10"=Ä 1:=fu
def gn2:À.globalNamed "attic/attic.stepRules"=Ä 2:=fu
def gn3:À.globalNamed "math/bits.deBruijn32tab"=Ä 3:=fu
def gn4:À.globalNamed "math/bits.deBruijn64tab"=Ä 4:=fu
def MO(g:Nat)(t:ĵ)(h:(g,t)∈[(1,291),(2,300),(3,304),(4,305)]):(À.globals[g]?).map (·.type)=Ä t/\g<À.globals.size/\(((begin À (λ_ _=>0) default).world.heap[g]?).bind Ņ).map (·.2)=Ä t:=by
 simp only[Ī,List.not_mem_nil,or_false,Prod.mk.injEq]at h;rcases h with⟨rfl,rfl⟩|⟨rfl,rfl⟩|⟨rfl,rfl⟩|⟨rfl,rfl⟩
 .exact⟨fu,of_decide_eq_true fu,fu⟩
 .exact⟨fu,of_decide_eq_true fu,fu⟩
 .exact⟨fu,of_decide_eq_true fu,fu⟩
 .exact⟨fu,of_decide_eq_true fu,fu⟩
def asG:Ķ Unit->Int
 |.lit (.int _ z)=>z
 |_=>0
def ab1:Ķ Unit->List Int
 |ŏ l=>l.map asG
 |_=>[]
def asH:(Ð:Ķ Unit)=Ć ō (ab1 Ð):=rfl
def asI:(Ñ:Ķ Unit)=Ć ō (ab1 Ñ):=rfl
def asJ:(á:Ķ Unit)=Ć ī Lib.pow10Tab:=rfl
def asK{k:ļ}:∀v∈(zQ.map λz=>Æ k z).toArray.toList,∃k n,v=Æ k n:=λv a=>by simp only[Ā]at a;obtain⟨z,_,rfl⟩:=a;exact⟨_,_,U⟩
def asL(k:Nat)(h:k<69):∃i j,i<23/\j<3/\k=i*3+j:=⟨k/3,k%3,Z,Z,Z⟩
theorem asM{W:Ì}(hs:W.ShapedOpen À)(hl:Ħ À ML W):nz W:=by
 obtain⟨ps,g3,t3,cs3,f3,p3,q3,Uk,ht3,hv3,w7,⟨g4,t4,cs4,f4,p4,q4,hg4,GB,hv4,Sz,⟨g1,t1,cs1,f1,p1,q1,vA,A9,hv1,By,⟨g2,t2,cs2,f2,p2,q2,K8,Jc,Mi,oG,_,_⟩,_⟩,_⟩,_⟩:=asC hl (by kernel_rfl);obtain⟨y1,s1,z1⟩:=MO 1 291 (by simp);obtain⟨y2,s2,z2⟩:=MO 2 300 (by simp);obtain⟨y3,s3,z3⟩:=MO 3 304 (by simp);obtain⟨y4,s4,z4⟩:=MO 4 305 (by simp);obtain⟨c1,b1⟩:=MN hs 1 291 s1 z1;obtain⟨c2,b2⟩:=MN hs 2 300 s2 z2;obtain⟨c3,b3⟩:=MN hs 3 304 s3 z3;obtain⟨c4,b4⟩:=MN hs 4 305 s4 z4;rw[asH]at w7;rw[asI]at Sz;rw[asJ]at By;have e3:=Us gn3 y3 Tryz.underlying304 ę ab0 asD b3 Uk ht3 hv3 w7;have e4:=Us gn4 y4 Tryz.underlying305 ę ab0 asE b4 hg4 GB hv4 Sz;have e1:=Us gn1 y1 Tryz.underlying291 Ē abY asF b1 vA A9 hv1 By;obtain rfl:=é (gn2.symm.trans K8);obtain rfl:=é (y2.symm.trans Jc);obtain⟨hlen,mr⟩:=asB oG;have e2:=abX gn2 b2 Mi;subst e2;have asN:=λi r hr=>by have:=mr i r hr;simpa using this
 have ab2:∀(k:Nat) (v:Ê),c2[k]?=Ä v->∃(kd:ļ) (n:Int),v=Æ kd n/\kd≠ō:=λk v hv=>by
  have hk:k<69:=by grind
  obtain⟨i,j,hi,hj,rfl⟩:=asL k hk;obtain⟨r,hr⟩:∃r,iY[i]?=Ä r:=⟨_,è (show i<iY.length from hi)⟩;grind
 have jR:=(Array.getElem?_eq_some_iff.1 b4).1;refine⟨?_,?_,⟨c3,_,b3,Í _,Í _,?_,?_⟩,⟨c4,_,b4,Í _,Í _,?_,?_⟩,?_,⟨⟨c2,_,b2⟩,λi r hr=> ?_⟩,?_⟩
 .have h5:nB=5:=by kernel_rfl
  omega
 .rintro b (rfl|rfl)
  .refine⟨c1,291,_,b1,Í _,abZ (by rw[e1];exact asK),by rw[e1];exact of_decide_eq_true (by kernel_rfl),λk v hv=> ?_,by decide,by decide⟩;rw[e1]at hv;simp only[List.getElem?_toArray,ß,Û]at hv;obtain⟨z,_,rfl⟩:=hv;rfl
  .refine⟨c2,300,_,b2,Í _,abZ λv hv=> ?_,?_,λk v hv=> ?_,by decide,by decide⟩
   .obtain⟨k,hk,e⟩:=List.mem_iff_getElem.1 hv;obtain⟨kd,n,e',_⟩:=ab2 k v (by rw[<-e];simp);grind
   .grind
   .obtain⟨kd,n,rfl,hn⟩:=ab2 k v hv;cases kd<;>first|rfl|exact absurd rfl hn
 .rw[e3];exact of_decide_eq_true (by kernel_rfl)
 .grind
 .rw[e4];exact of_decide_eq_true (by kernel_rfl)
 .grind
 .unfold gP.lH Lib.TabIs ĺ;rw[gn1];grind
 .obtain⟨h0,h1,h2⟩:=asN i r hr;exact⟨by simp only[Ĉ,b2];exact h0,by simp only[Ĉ,b2];exact h1,by simp only[Ĉ,b2];exact h2⟩
 .unfold qc;simp only[Ĉ,b4,e4];rfl
end Go.Proofs.Y.kS
namespace Go.Proofs.Y.kS
open Go Go.Conc Go.Proofs Go.RowKit Go.Proofs.Y.Lift Go.Proofs.Y.gP Go.Proofs.Y.fv Go.Proofs.Y.om
open Go.Proofs.YtgpphkdoanciiaaGreatDoor (Rows.workersSpec Rows.workersRow Rows.WorkersSaid Tryz.pinned)
open Go.ChangeShapes Go.WideShapes Go.ChangeAt
def fp:ownKnob À.godebug=à:=fu
def asO:laidOutB À=Î:=fu
def asP{w':Ì}(h:nF W w')(a:w'.os=W.os)(b:w'.output=W.output):Below W.heap.size W {w' with tape:=W.tape}:=⟨a,U,b,h.CY,h.qT⟩
def asQ(os:Os)(a:Array Ê):Ħ À ML ((World.doorLaid À 400 os).forCall (λ_ _=>0) ⟨#[],a,[]⟩).memory:= laidMetH_of_parts3 (fuel:=8) (laidMet_of_run' 8 fu fu) fu fu
end Go.Proofs.Y.kS
namespace Go.Proofs.Y.gP
open Go Go.Proofs Go.RowKit Go.Proofs.Y.Lift
def lz(s:St):Int:=(s 0).fq+(s 1).fq+(s 2).fq+(s 3).fq+(s 4).fq+(s 5).fq+(s 6).fq+(s 7).fq
section
variable{s:St}{T:Int}
theorem Cp(a:i<8)(b:Int):lz (s.fq i b)=lz s-(s i).fq+b:=by
 have h:i=0\/i=1\/i=2\/i=3\/i=4\/i=5\/i=6\/i=7:=Z
 unfold lz St.fq St.fX;rcases h with rfl|rfl|rfl|rfl|rfl|rfl|rfl|rfl<;>simp<;>omega
def ab3(a:gE s)(b:i<8):(s i).fq<=lz s:=by
 have h:i=0\/i=1\/i=2\/i=3\/i=4\/i=5\/i=6\/i=7:=Z
 have:=λi=>(a.fq i).1;have c:=this 0;have d:=this 1;have e:=this 2;have f:=this 3;have g:=this 4;have j:=this 5;have k:=this 6;have l:=this 7;unfold lz;rcases h with rfl|rfl|rfl|rfl|rfl|rfl|rfl|rfl<;>omega
def ab4{a:Ee}(h:a.fq=(s i).fq):lz (s.fX i a)=lz s:=by
 have e:∀j,(s.fX i a j).fq=(s j).fq:=λj=>by
  unfold St.fX;split
  .rename_i q;rw[h,q]
  .rfl
 unfold lz;simp only[e]
theorem Iz(a:gE s)(b:i<8)(c:0<=h)(d:lz s+h<18446744073709551616):lz (s.fq i<|wu<|(s i).fq+h)=lz s+h:=by have:=ab3 a b;have e:=(a.fq i).1;grind [Z2,Cp]
def asR(f:T<18446744073709551616)(q:Int)(a:gE s)(b:i<8)(d:fZ c)(h:lz s=T):lz (pe s i q c).2=T:=by
 unfold pe;split
 .exact h
 .rename_i g;have e:=d.1;have j:=(a.fq i).2;rw[Iz (a.r i ⟨Z,Z⟩) Z e (by rw[Cp b];omega),Cp b];omega
def asS(a:T<18446744073709551616):LW (λs _=>lz s=T) gl:=Tm ⟨λy j v h=>by rw[<-h];exact ab4 fQ,λq _ b c d h=>asR a q b c d h,λ_ _ h=>h⟩ 4
def asT(r:T<18446744073709551616)(d:gE s)(h:lz s=T){ls:List (Nat×Int)}{t:Tx}(a:t.Ok)(u:(ls.length:Int)+400<=1000000)(c:(lb s ls t).2.1=Î):lz (lb s ls t).2.2.1=T-(lb s ls t).1.1:=by
 have l:=a.I;have v:=a.M;unfold lb at c|-;split
 .rename_i f;rw[if_pos f]at c;unfold vB at c|-;split
  .rename_i q;rw[if_pos q]at c;cases c
  .have m:=(d.fq t.x).2;show lz ((s.fq t.x _).fq t.y _)=T-10;rw[Iz (d.r t.x ⟨Z,Z⟩) a.y l (by rw[Cp a.x];omega),Cp a.x];omega
 .rename_i f;rw[if_neg f]at c;split
  .rename_i g;rw[if_pos g]at c;unfold vC at c|-;split
   .rename_i q;rw[if_pos q]at c;cases c
   .show lz ((s.fq t.x _).C t.x _)=T-20;refine(ab4 fQ).trans ?_;rw[Cp a.x];omega
  .rename_i g;rw[if_neg g]at c;unfold xA at c|-;split
   .rename_i q;rw[if_pos q]at c;cases c
   .rename_i q;have m:=(d.fq t.x).2;have i:=d.r t.x (b:=(s t.x).fq-t.n) ⟨Z,Z⟩;have j:fZ t.k:=⟨a.r,by have:=a.C;omega⟩;have w:=Cp (s:=s) a.x<|(s t.x).fq-t.n;have e:=HB _ ls t.x t.y (t.n-10) t.k i a.x a.y j Z Z Z;have o:=asS (T:=T-t.n) Z _ ls t.x t.y (t.n-10) t.k i a.x a.y j Z Z Z Z;have z:=e.C;have B:=e.r;have p:=e.N;simp only at o;show lz ((gl _ _ _ _ _ _).s.fq t.x _)=T-(_+10);rw[Iz p a.x Z Z];omega
def ab5(c:m<8)(f:T<18446744073709551616):∀(a:List Tx) {s:St} {ls:List (Nat×Int)} {b:List (Int×Bool)} {r:St×List (Nat×Int)×List (Int×Bool)},(∀t∈a,t.Ok)->gE s->ls.length+400*a.length<=400000->lz s=T->rG m s ls b a=Ä r->lz r.1=T/\gE r.1
 |[],s,ls,b,r,_,hs,_,e,h=>by cases h;exact⟨e,hs⟩
 |t::q,s,ls,b,r,ht,hs,n1,e,h=>by
  unfold rG at h;simp only[List.length_cons]at n1;split at h
  .rename_i g;have d:=S9 (ls:=ls) hs (ht t fj) Z;have k:=d.r;have l:=asT f hs e (ht t fj) Z g;exact ab5 c f q (λi j=>ht i<|List.mem_cons_of_mem _ j) (d.s.r m<|xx _) Z (by rw[Iz d.s c d.g0 Z];omega) h
  .cases h
def asU(b:m<8){a:List Tx}{r:St×List (Nat×Int)×List (Int×Bool)}(c:∀t∈a,t.Ok)(d:gE s)(j:a.length<=1000)(k:T+50<18446744073709551616)(h:lz s=T)(e:sT m s a=Ä r):lz r.1=T+50:=by unfold sT at e;obtain⟨f,g,rfl⟩:=Û.1 e;let⟨l,i⟩:=ab5 b Z a c d (by simp;omega) h g;show lz (f.1.fq m _)=_;rw[Iz i b A Z];omega
end
end Go.Proofs.Y.gP
namespace Go.Proofs.Y.om
open Go Go.Proofs Go.RowKit Go.Proofs.Y.Lift Go.Proofs.Y.gP
def s6(B:ByteArray)(c:UInt8):Nat->Nat->Nat->List ByteArray
 |0,fr,_=>[B.extract fr B.size]
 |f+1,fr,i=>if h:i<B.size then if B[i]=c then B.extract fr i::s6 B c f (i+1) (i+1)else s6 B c f fr (i+1)else[B.extract fr B.size]
def ab6:List Int->List (List Int)
 |[]=>[[]]
 |a::l=>(a::l)::ab6 l
def Cq:List (List Int):=[[86,58,120,47,66],[86,58,120,115],[86,58,120],[86,58,120,62,121,40,110,44,107,41],[86,58,120,62,121,40,107,41],[86,58,87],[86],[121,61,110],[80],[120,84],[82]].flatMap ab6
def asV:∀r∈Cq,r.tail∈Cq:=A
def asW(k:Int):pA k∈Cq/\pA k≠[82]:=by
 unfold pA;repeat' split
 all_goals decide
end Go.Proofs.Y.om
namespace Go.Proofs.Y.kS
open Go Go.Conc Go.Proofs Go.RowKit Go.Proofs.Y.Lift Go.Proofs.Y.gP Go.Proofs.Y.fv Go.Proofs.Y.om
open Go.Conc.Lib Go.ConcR.Gen Go.Proofs.YtgpphkdoanciiaaGreatDoor
def qK(r:PR):Int×Nat×List Tx:=(r.c.getD 5 0,(r.c.getD 0 0).toNat,r.r.map toTx)
def xU(r:PR)(s:List fF):ByteArray:=if r.c.getD 4 0=1 then(pg (kG s) (qK r).1 (qK r).2.1 (qK r).2.2).2 else qd (kG s) (toQn r)
def zW(s:List fF)(r:PR):List fF:=if r.c.getD 4 0=1 then zK s (qK r)else s
def rD(s:List fF)(rs:List PR):List fF:=rs.foldl zW s
def ab7{kd:Nat->Int}(h:kd i=1):∀n,i<n->(gX kd n).getD (fK kd i) 0=i
 |0,q=>by omega
 |n+1,q=>by
  have a:i<n->∀x,(gX kd n++x).getD (fK kd i) 0=i:=λz x=>by
   have b:fK kd i<(gX kd n).length:=by
    have e:∀m,i+1<=m->(gX kd<|i+1).length<=(gX kd m).length:=λm=>by
     induction m with
     |zero=>intro z;omega
     |succ m c=>
      intro z;rcases Nat.lt_or_ge i m with y|y
      .apply õ (c y);by_cases q:kd m=1
       .rw[sM q];simp
       .rw[vr q];exact È _
      .rw[show m=i by omega];exact È _
    have:=e n z;rw[sM h]at this;unfold fK;simp at this;omega
   have:=ab7 h n z;simp only[þ,List.getElem?_append_left b]at this|-;exact this
  by_cases z:i<n
  .by_cases q:kd n=1
   .rw[sM q];exact a z _
   .rw[vr q];have:=a z [];rwa[Ĥ]at this
  .obtain rfl:i=n:=Z
   rw[sM h];simp[þ,fK]
section
variable{rs:List PR}{s:List fF}{P:ByteArray}
def Ut:∀p,p<=rs.length->pz (vO rs) (gX (kO rs) rs.length) s (fK (kO rs) p)=rD s (rs.take p)
 |0,_=>by simp[fK,gX,pz,rD]
 |p+1,h=>by
  have a:=Ut p Z;have b:rs.take (p+1)=rs.take p++[rs.getD p oL]:=by rw[ē];congr 1;simp[þ,show p<rs.length by omega]
  unfold rD at a|-;rw[b,ù,<-a];show _=zW _ _;unfold zW;by_cases q:kO rs p=1
  .rw[if_pos (show(rs.getD p oL).c.getD 4 0=1 from q)];have e:fK (kO rs) (p+1)=fK (kO rs) p+1:=by unfold fK;rw[sM q];simp
   rw[e];show zK _ _=_;rw[ab7 q _ Z];rfl
  .rw[if_neg (show¬(rs.getD p oL).c.getD 4 0=1 from q)];have e:fK (kO rs) (p+1)=fK (kO rs) p:=by unfold fK;rw[vr q]
   rw[e]
def asX{p:Nat}(h:p<rs.length):(kP rs s)[p]?=Ä (xU (rs.getD p oL)<|rD s<|rs.take p):=by unfold kP;rw[ß,č h,ģ,Ut p Z];rfl
theorem asY:vP rs s=rD s rs:=by unfold vP;rw[Ut _<|È _,List.take_length]
theorem ab8{r:PR}(h:iB P=(0,0,[r])):ly s P=(xU r s,0,zW s r):=by
 have a:=asX (rs:=[r]) (s:=s) (p:=0) ĉ;have e:kP [r] s=[xU r s]:=by
  match hx:kP [r] s,MJ with
  |[y],_=>
   rw[hx]at a;simpa[rD]using a
 unfold ly;rw[h];simp only[if_true,e,asY];rw[show kE ⟨#[59]⟩ [xU r s]=xU r s from ď (by simp[kE,aat,oh])];rfl
end
theorem ab9(h:(iB B).1=0):iB B=(0,0,(iB B).2.2):=by unfold iB at h|-;grind
def asZ{α β:Type}(f:α->β)(d:α)(l:List α):((Ç l.length).map λi=>f<|l.getD i d)=l.map f:=by
 refine List.ext_getElem fj λi b a=> ?_;have h:i<l.length:=by simpa using a
 simp[þ,h]
def as0{s:List fF}{a:List PR}(h:iB B=(0,0,a))(f:∀r∈a,r.c.getD 4 0≠1):ly s B=(kE ⟨#[59]⟩ (a.map λr=>qd (kG s)<|toQn r),0,s):=by
 have d:∀p,p<a.length->kO a p≠1:=λp b=>f _ (by simp[þ,b]);have e:∀p,p<=a.length->gX (kO a) p=[]:=λp b=>by unfold gX;rw[List.filter_eq_nil_iff];intro j g;have:=ħ.1 g;simpa using d j Z
 have g:kP a s=a.map λr=>qd (kG s) (toQn r):=by rw[<-asZ (λr=>qd (kG s)<|toQn r) oL];unfold kP;refine Ď λp b=> ?_;have b:=ħ.1 b;unfold fK vG;rw[e p Z,if_neg<|d p b];rfl
 have j:vP a s=s:=by unfold vP fK;rw[e _<|È _];rfl
 unfold ly;rw[h];simp only[g,j,if_true]
def zY(d:Nat):ByteArray:=ľ ⟨#[48,49,50,51,52,53,54,55,56,57]⟩ d<|d+1
def as1:(Ç 10).map zY=(Ç 10).map λd=>⟨#[â<|48+d]⟩:=fu
theorem zZ(h:i<10):zY i=⟨#[â<|48+i]⟩:=by have:=congrArg (λl=>l[i]?) as1;simpa[h]using this
theorem IA(h:i<10):gh i=zY i:=by unfold gh;grind [Lib.decDigits_one,zZ]
theorem IB(h:¬n<10):gh n=gh (n/10)++zY (n%10):=by rw[zZ Z];unfold gh;rw[Lib.decDigits,dif_neg h];apply ď;simp_all
noncomputable def MP:ĭ:=(Tryz.f21.body.bind gP.km).getD .skip
def E6(n:Int)(s:ByteArray)(u:Nat->Ê):ĩ:=⟨#[Æ ī n,u 1,u 2,Á s,u 4,u 5,u 6,u 7,u 8,u 9,u 10,u 11,u 12,u 13,u 14,u 15,u 16,u 17,u 18,u 19,u 20,u 21,u 22,u 23,u 24,u 25,u 26],[]⟩
def E7(n:Int)(s:ByteArray)(a:ĩ):Prop:=∃u,a=E6 n s u
theorem acd{s:ByteArray}(h:i<10)(a:s.size<=20):Ã.wrap ((i:Int)+1)=(i:Int)+1/\Ã.wrap (i:Int)=i/\(0:Int)<=(i:Int)+1/\(i:Int)+1<=10/\(i:Int)<=(i:Int)+1/\((i:Int)+1).toNat=i+1/\¬9223372036854775807<min (i+1) 10-i+s.size:=by grind [æ]
section
variable{s:ByteArray}
def as2(u:Nat->Ê)(c:n<10)(b:∀a,E7 n s a->H a w):ā À MP (Exit.then K<|QE 0 H) (E6 n s u) w:=by
 unfold E6;conv=>arg 2;whnf
 go_wp2_with fail
 exact⟨U,b _ (gP.gk _)⟩
def as3(u:Nat->Ê)(f:¬n<10)(g:n<18446744073709551616)(h:s.size<=20)(c:∀a,E7 ((n/10:Nat):Int) (zY (n%10)++s) a->K a w):ā À MP (Exit.then K<|QE 0 H) (E6 n s u) w:=by
 unfold E6;conv=>arg 2;whnf
 have i:(n:Int).tmod 10=((n%10:Nat):Int):=by rw[Int.tmod_eq_emod_of_nonneg Z];omega
 have j:(n:Int).tdiv 10=((n/10:Nat):Int):=by rw[Int.tdiv_eq_ediv_of_nonneg Z];omega
 have b:=fe c;clear c;have e:n%10<10:=Z
 have k:n/10<18446744073709551616:=Z
 generalize n%10=d at*;generalize n/10=q at*;let⟨l,m,o,p,r,t,v⟩:=acd e (s:=s) Z;go_wp2_with fail;exact b.out _ (gP.gk _)
def Uu(b:ByteArray)(c:Ì)(a:ĩ)(w:Ì):Prop:=∃(n:Nat) (s:ByteArray),E7 n s a/\n<18446744073709551616/\gh n++s=b/\w=c
def Uv(b:ByteArray)(c:Ì)(a:ĩ)(w:Ì):Prop:=∃(n:Nat) (s:ByteArray),E7 n s a/\n<10/\zY n++s=b/\w=c
def xC(a:ĩ)(_:Ì):Nat:=match a.tmps.getD 0 undef with
 |Æ _ i=>i.toNat
 |_=>0
def HT(b:E7 n s y):xC y w=n:=by obtain⟨u,rfl⟩:=b;show(n:Int).toNat=_;simp
theorem as4(i:B.size<=20)(a:ĩ)(w:Ì)(g:Uu B u a w): ā À MP (Exit.then (λb c=>Uu B u b c/\xC b c<xC a w)<|QE 0<|Uv B u) a w:=by
 let⟨n,s,d,h,e,f⟩:=g;rw[HT d];obtain⟨b,rfl⟩:=d;have j:(gh n).size+s.size=B.size:=by rw[<-e,Ï]
 by_cases c:n<10
 .exact as2 b c λa q=>⟨n,s,q,c,by rwa[<-IA c],f⟩
 .refine as3 b c h Z λa q=>⟨⟨n/10,_,q,Z,?_,f⟩,by rw[HT q];omega⟩;grind [Į,IB]
def as5(n:Nat)(b:n<18446744073709551616)(w:Ì):ņ À 21 #[Æ ī n] w λe f=>e=.returned (Á<|gh n)/\f=w:=by
 have L:∀a,E7 n ⟨#[]⟩ a->ā À (ŀ MP) (QE 0<|Uv (gh n) w) a w:=λa g=>
  wp_loop (Uu (gh n) w) xC ⟨n,⟨#[]⟩,g,b,į,U⟩<|as4<|pj n b
 have H:=fe<|Ò L<|pj n b;generalize gh n=res at*;clear L;go_enter ķ,Tryz.ntmps21;go_wp2_with fail;refine İ (Q:=QE 0<|Uv res w) ?_ (H.out.1 _ (gP.gk _));rintro(_|_|_|_|_|_) a v hq;all_goals first|exact absurd hq id|skip
 obtain⟨rfl,d,s,h,i,c,rfl⟩:=hq;obtain⟨u,rfl⟩:=h;unfold E6;have j:(zY d).size+s.size=res.size:=by rw[<-c,Ï]
 have l:=H.out.2;let⟨m,o,p,q,r,t,x⟩:=acd i (s:=s) Z;have k:=fe c;clear j c;go_wp2_with fail;go_ret;exact⟨by rw[<-k.out];rfl,U⟩
end
abbrev nW(B:ByteArray):Prop:=(59:UInt8)∉B.data.toList
def nW.r{a:ByteArray}(h:nW a)(k:nW B):nW (a++B):=by unfold nW at*;simp_all
theorem nW.C(h:nW B)(i j:Nat):nW (B.extract i j):=by grind [Ü,ã]
theorem as6(n:Nat):nW (gh n):=by
 induction n using ă with
 |_ n b=>
  have a:∀d,nW (zY d):=λd=>nW.C A _ _;by_cases h:n<10
  .rw[IA h];exact a n
  .rw[IB h];exact(b _ Z).r<|a _
theorem as7{α:Type}(f:α->ByteArray)(h:∀x,nW<|f x)(l:List α):∀x∈l.map f,nW x:=λx a=>by obtain⟨y,_,rfl⟩:=Ā.1 a;exact h y
def oM(c:UInt8):List UInt8->List UInt8->List (List UInt8)
 |cur,[]=>[cur]
 |cur,x::r=>if x=c then cur::oM c [] r else oM c (cur++[x]) r
def Uw(B:ByteArray)(c:UInt8):∀f a i,B.size-i=f->a<=i->i<=B.size->s6 B c f a i=(oM c (B.extract a i).data.toList<|B.data.toList.drop i).map λl=>⟨l.toArray⟩
 |0,a,i,hf,h1,h2=>by
  obtain rfl:i=B.size:=Z
  rw[Ă (by rw[Ö];exact È _)];rfl
 |f+1,a,i,hf,h1,h2=>by
  have b:i<B.size:=Z
  have d:i<B.data.toList.length:=by rwa[Ö]
  have e:B.data.toList[i]=B[i]:=by rw[ñ];rfl
  rw[ö d,e];unfold s6 oM;rw[dif_pos b];split
  .have g:(B.extract (i+1)<|i+1).data.toList=[]:=by
    rw[Ü,ã];simp
   rw[Uw B c f (i+1) (i+1) Z (È _) Z,g];rfl
  .rw[Uw B c f a (i+1) Z Z Z];congr 2;rw[Ü,Ü,ã,ã,ø,ø,show i+1-a=i-a+1 by omega,ē,Đ,show a+(i-a)=i by omega,è d,e];rfl
def ace{c:UInt8}:∀(x a r:List UInt8),c∉x->oM c a (x++c::r)=(a++x)::oM c [] r
 |[],a,r,_=>by simp[oM]
 |y::x,a,r,h=>by rw[show oM c a (y::x++c::r)=if y=c then a::oM c [] (x++c::r)else oM c (a++[y]) (x++c::r)from U,if_neg λq=>h (by simp[q]),ace x _ r λq=>h (by simp[q])];simp
def acf{c:UInt8}:∀(x a:List UInt8),c∉x->oM c a x=[a++x]
 |[],a,_=>by simp[oM]
 |y::x,a,h=>by unfold oM;rw[if_neg λq=>h (by simp[q]),acf x _ λq=>h (by simp[q])];simp
def acg:∀(r:List ByteArray) (x:ByteArray) (a:List UInt8),nW x->(∀y∈r,nW y)->oM 59 a (x.data.toList++oh ⟨#[59]⟩ r)=(a++x.data.toList)::r.map λy=>y.data.toList
 |[],x,a,h,_=>by show oM 59 a (x.data.toList++[])=_;rw[Ĥ,acf _ _ h];rfl
 |y::r,x,a,h,k=>by show oM 59 a (x.data.toList++59::(y.data.toList++oh ⟨#[59]⟩ r))=_;rw[ace _ _ _ h,acg r y [] (k y fj) λz b=>k z (by simp[b])];rfl
def as8(a:vX≠[])(h:∀x∈vX,nW x):s6 (kE ⟨#[59]⟩ vX) 59 (kE ⟨#[59]⟩ vX).size 0 0=vX:=by
 rw[Uw _ _ _ 0 0 (Nat.sub_zero _) (È _)<|Í _];match vX,a with
 |x::r,_=>
  have e:((kE ⟨#[59]⟩<|x::r).extract 0 0).data.toList=[]:=by simp_all
  rw[e,List.drop_zero];show(oM 59 []<|x.data.toList++oh ⟨#[59]⟩ r).map _=_;rw[acg r x [] (h x fj) λy b=>h y (by simp[b])];simp[Function.comp_def]
end Go.Proofs.Y.kS
namespace Go.Proofs.Y.om
open Go Go.Proofs Go.RowKit Go.Proofs.Y.Lift Go.Proofs.Y.gP
structure I0(o:Int)(st:PS):Prop where
 M:st.d.S=[]
 I:st.d.r=Î
 r:st.d.I.c.getD 4 0=1
 C:st.d.I.c.getD 5 0=o
 N:st.C∈Cq
 S:82∉st.C/\86∉st.C
 Y:0<st.r->st.M≠86
section
variable{st a:PS}{o:Int}{d:PD}
def MQ(h:i≠j):(zQ.set i c).getD j 0=zQ.getD j 0:=by simp[þ,List.getElem?_set_ne h]
def Ux{n z:Int}(a:n≠86):(d.fX n z).S=d.S/\(d.fX n z).r=d.r/\(d.fX n z).I.c.getD 4 0=d.I.c.getD 4 0/\(d.fX n z).I.c.getD 5 0=d.I.c.getD 5 0:=by
 have b:∀i,i<4->(d.jL i z).S=d.S/\(d.jL i z).r=d.r/\(d.jL i z).I.c.getD 4 0=d.I.c.getD 4 0/\(d.jL i z).I.c.getD 5 0=d.I.c.getD 5 0:=λi e=>by
  unfold PD.jL;split
  .exact⟨U,U,U,U⟩
  .exact⟨U,U,MQ Z,MQ Z⟩
 unfold PD.fX;rw[if_neg a];repeat' split
 all_goals first|exact b _ A|exact⟨U,U,U,U⟩|exact⟨U,U,MQ A,MQ A⟩
def I0.G(h:I0 o st)(e:st.r=0)(d:c≠59)(b:rQ st c=Ä a):I0 o a:=by
 unfold rQ at b;rw[if_neg λq=>d q.1]at b;split at b
 .cases b;exact⟨h.M,h.I,h.r,h.C,(by decide:[120,84]∈Cq),(by decide:(82:Int)∉[120,84]/\(86:Int)∉[120,84]),λq=>by have:0<st.r:=q;omega⟩
 .cases b
def I0.as9(h:I0 o st)(r:st.r=0)(s:c≠59)(b:lr B k st c=Ä a):I0 o a:=by
 have f:0<st.r->st.M≠86:=λq=>by omega
 have g:=asV _ h.N;unfold lr at b;cases i:st.C with
 |nil=>
  rw[i]at b;exact h.G r s b
 |cons w t=>
  have e:=h.S;rw[i]at b g e;have x:w≠82:=λq=>e.1 (by simp[q]);have u:w≠86:=λq=>e.2 (by simp[q]);have v:82∉t/\86∉t:=⟨λq=>e.1 (by simp[q]),λq=>e.2<|by simp[q]⟩;simp only[if_neg x]at b;split at b
  .split at b
   .cases b;let⟨j,l,m,p⟩:=Ux (d:=st.d.rO) (n:=120) (z:=mR 120 c) A;exact⟨j.trans h.M,l.trans h.I,m.trans h.r,p.trans h.C,(by decide:[84]∈Cq),(by decide:(82:Int)∉[84]/\(86:Int)∉[84]),λ_=>(by decide:(120:Int)≠86)⟩
   .exact h.G r s b
  .split at b
   .unfold xL at b;split at b
    .cases b
    .cases b;refine⟨h.M,h.I,h.r,h.C,(asW _).1,?_,f⟩;show 82∉pA _/\86∉pA _;unfold pA;repeat' split
     all_goals decide
   .split at b
    .split at b
     .cases b;exact⟨h.M,h.I,h.r,h.C,g,v,f⟩
     .split at b
      .cases b
      .cases b;exact⟨h.M,h.I,h.r,h.C,i▸h.N,e,f⟩
    .split at b
     .cases b;let⟨j,l,m,p⟩:=Ux (d:=st.d) (n:=w) (z:=mR w c) u;exact⟨j.trans h.M,l.trans h.I,m.trans h.r,p.trans h.C,g,v,λ_=>u⟩
     .cases b
def I0.ju(h:I0 o st)(e:c≠59)(b:qI B k st c=Ä a):I0 o a:=by
 unfold qI at b;split at b
 .rename_i q;cases b;let⟨f,g,i,j⟩:=Ux (d:=st.d) (n:=st.M) (z:=rP (st.d.G st.M) c)<|h.Y q.1;exact⟨f.trans h.M,g.trans h.I,i.trans h.r,j.trans h.C,h.N,h.S,λ_=>h.Y q.1⟩
 .exact I0.as9 (st:={st with r:=0}) ⟨h.M,h.I,h.r,h.C,h.N,h.S,λq=>by cases q⟩ rfl e b
def I0.mZ(b:59∉B.data.toList):∀(f k:Nat) (st:PS),I0 o st->I0 o (ot B f k st).2
 |0,k,st,h=>h
 |f+1,k,st,h=>by
  unfold ot;split
  .rename_i d;split
   .exact h
   .rename_i a c;refine I0.mZ b f (k+1) a (h.ju (λq=>b ?_) c);have e:B[k]=59:=Ą.1 (by show B[k].toNat=59;omega);rw[<-e];exact Array.mem_toList_iff.2<|Array.getElem_mem _
  .exact h
def I0.ata(h:I0 o st):∃r,st.d.C=[r]/\r.c.getD 4 0=1/\r.c.getD 5 0=o:=by unfold PD.C;rw[h.I,h.M];exact⟨_,U,h.r,h.C⟩
theorem Uy(b:k<B.size)(c:qI B k st (B[k].toNat:Int)=Ä a):ot B (i+1) k st=ot B i (k+1) a:=by rw[ot,dif_pos b,c]
def atb{e:UInt8}(f:e=48/\o=0\/e=104/\o=-1)(l:59∉B.data.toList){g:List PR}(h:iB (⟨#[105,e,58]⟩++B)=(0,0,g)):∃r,g=[r]/\r.c.getD 4 0=1/\r.c.getD 5 0=o:=by
 obtain⟨T,b⟩:∃T,(⟨#[105,e,58]⟩++B:ByteArray)=T:=⟨_,U⟩;have a:T.data.toList=105::e::58::B.data.toList:=by rw[<-b,ð,ô];rfl
 have m:T.size=B.size+3:=by rw[<-b,Ï,Nat.add_comm];rfl
 have d:∀i (j:i<T.size),T[i]=T.data.toList[i]'(by rwa[Ö]):=λi j=>by rw[ñ];rfl
 have n:T[0]'Z=105:=by rw[d];simp[a]
 have p:T[1]'Z=e:=by rw[d];simp[a]
 have s:T[2]'Z=58:=by rw[d];simp[a]
 rw[b]at h;have t:I0 o ⟨[120,47,66],0,0,58,⟨[],Î,⟨[0,0,0,0,1,o,0,0],[]⟩,ç,⟨[],⟨#[]⟩⟩⟩⟩:=⟨U,U,U,U,(by decide:[120,47,66]∈Cq),(by decide:(82:Int)∉[120,47,66]/\(86:Int)∉[120,47,66]),λq=>by cases q⟩;have u:mT T=ot T B.size 3 ⟨[120,47,66],0,0,58,⟨[],Î,⟨[0,0,0,0,1,o,0,0],[]⟩,ç,⟨[],⟨#[]⟩⟩⟩⟩:=by unfold mT;rcases f with⟨rfl,rfl⟩|⟨rfl,rfl⟩<;>(rw[m,Uy Z (by rw[n];rfl),Uy Z (by rw[p];rfl),Uy Z (by rw[s];rfl)];rfl)
 have k:=t.mZ (by rw[a];rcases f with⟨rfl,_⟩|⟨rfl,_⟩<;>simp[l]) B.size 3;rw[<-u]at k;have v:T.size≠0:=Z
 unfold iB mF at h;split at h
 .cases h
 .split at h
  .have:=congrArg (λx=>x.2.2) h;simp only at this;rw[<-this];exact k.ata
  .cases h
end
end Go.Proofs.Y.om
namespace Go.Proofs.Y.kS
open Go Go.Conc Go.Proofs Go.RowKit Go.Proofs.Y.Lift Go.Proofs.Y.gP Go.Proofs.Y.fv Go.Proofs.Y.om
open Go.Conc.Lib Go.ConcR.Gen Go.Proofs.YtgpphkdoanciiaaGreatDoor
def IC(r:PR)(a:fF):Option fF:=(sT (qK r).2.1 a.s (qK r).2.2).map λq=>⟨q.1,q.2.1,q.2.2,a.h+1⟩
theorem ach{s:List fF}{r:PR}(d:r.c.getD 4 0=1){a:fF}(b:mh (kG s) (r.c.getD 5 0)=Ä (0,a))(e:s.length<40): xU r s=(match IC r a with
  |none=>nI 5
  |some _=>nt s.length)/\zW s r=match IC r a with
  |none=>s
  |some v=>s++[v]:=by
 have f:(kG s).length=s.length:=by simp[kG]
 have g:pg (kG s) (qK r).1 (qK r).2.1 (qK r).2.2=match IC r a with
  |none=>(à,nI 5)
  |some v=>(Ä v,nt s.length):=by
  unfold pg IC;rw[show(qK r).1=r.c.getD 5 0 from rfl,b];grind
 unfold xU zW zK qH;grind [EN]
def aci(m:Int):∀(l:List (Nat×fF)) (d:Nat×fF),d.2.h<=m->(∀x∈l,x.2.h<=m)->(l.foldl oe d).2.h<=m
 |[],d,h,_=>h
 |x::l,d,h,k=>aci m l (oe d x) (by
  unfold oe;split
  .exact k x fj
  .exact h) λy a=>k y (by simp[a])
structure s7(n:Nat)(s l:List fF)(v:fF):Prop where
 r:s=l++[v]
 M:l.length=n
 h:v.h=n
 I:∀x∈l,x.h<n
 N:lz v.s=8000+50*n
 C:n<=39
section
variable{s l:List fF}{v:fF}
def Uz(M:s7 n s l v):mh (kG s) (-1)=Ä (0,v):=by
 have b:kG s=kG l++[(0,v)]:=by rw[M.r];simp[kG]
 unfold mh sU;rw[if_pos U,b];cases l with
 |nil=>
  show Ä (oe (0,v) (0,v))=_;unfold oe;rw[if_neg<|Int.lt_irrefl _]
 |cons x r=>
  show Ä (((0,x)::kG r++[(0,v)]).foldl oe (0,x))=_;rw[ù];have d:=aci (n-1) ((0,x)::kG r) (0,x) (by have:=M.I x fj;show x.h<=_;omega) λy c=>by
   obtain⟨z,a,rfl⟩:∃z,z∈x::r/\y=(0,z):=by
    rcases Ī.1 c with q|q
    .exact⟨x,fj,q⟩
    .let⟨z,a,e⟩:=Ā.1 q;exact⟨z,by simp[a],e.symm⟩
   have:=M.I z a;show z.h<=_;omega
  show Ä (oe ((((0,x)::kG r)).foldl oe (0,x)) (0,v))=_;generalize((0,x)::kG r).foldl oe (0,x)=z at*;unfold oe;rw[if_pos (by rw[M.h];omega)]
def acj(h:i<100):nt i=gh i:=by
 have a:∀k:_root_.Fin 100,(nt k.val).data.toList=(gh k.val).data.toList:=by decide+kernel
 exact ď<|Array.toList_inj.1<|a ⟨i,h⟩
def acn{r:PR}(a:r.c.getD 4 0=1)(b:mh (kG s) (r.c.getD 5 0)=Ä (0,v))(d:s.length=40):xU r s=⟨#[33,52]⟩/\zW s r=s:=by
 have e:(kG s).length=s.length:=by simp[kG]
 have f:pg (kG s) (qK r).1 (qK r).2.1 (qK r).2.2=(à,nI 4):=by unfold pg;rw[show(qK r).1=r.c.getD 5 0 from rfl,b];simp only[e,if_pos d]
 unfold xU zW zK qH;rw[if_pos a,if_pos a,EN,f];exact⟨U,fj⟩
def atc(o:59∉B.data.toList)(p:kV s)(M:s7 n s l v):(∃E,E≠0/\ly s (⟨#[105,104,58]⟩++B)=(⟨#[]⟩,E,s))\/(n=39/\ly s (⟨#[105,104,58]⟩++B)=(⟨#[33,52]⟩,0,s))\/ly s (⟨#[105,104,58]⟩++B)=(⟨#[33,53]⟩,0,s)\/∃E,ly s (⟨#[105,104,58]⟩++B)=(gh<|n+1,0,s++[E])/\s7 (n+1) (s++[E]) s E:=by
 have g:=E3 (B:=⟨#[105,104,58]⟩++B);by_cases h:(iB<|⟨#[105,104,58]⟩++B).1=0
 .let⟨r,u,i,w⟩:=atb (Ċ ⟨U,U⟩) o<|ab9 h;have j:=ab9 h;rw[u]at j g;have k:mh (kG s) (r.c.getD 5 0)=Ä (0,v):=by rw[w];exact Uz M
  have m:s.length=n+1:=by rw[M.r,ì,M.M];rfl
  have I:=M.C;rw[ab8 j];by_cases y:n=39
  .let⟨b,d⟩:=acn i k Z;rw[b,d];exact Ċ<|Ø ⟨y,U⟩
  .let⟨b,d⟩:=ach i k Z;rw[b,d];cases C:IC r v with
   |none=>exact Ċ<|Ċ<|Ø U
   |some E=>
    refine Ċ<|Ċ<|Ċ ⟨E,?_,?_⟩
    .show(nt s.length,_,_)=_;rw[m,acj Z]
    .obtain⟨q,D,rfl⟩:=Û.1 C;have f:=g.1 r fj;have F:=f.c.r 0 A;have J:=f.n;simp only[lu]at F;have G:v∈s:=by rw[M.r];simp
     have H:=M.N;have e:=asU (T:=8000+50*n) (by show(r.c.getD 0 0).toNat<8;omega) (λt z=>by obtain⟨x,a,rfl⟩:=Ā.1 z;exact toTx_ok<|f.C x a) (p.r v G).2.1 (by show(r.r.map toTx).length<=1000;rw[List.length_map];omega) Z H D;refine⟨U,m,by show v.h+1=_;rw[M.h];omega,λx a=> ?_,by rw[e];omega,Z⟩;rw[M.r]at a;rcases ĥ.1 a with z|z
     .have:=M.I x z;omega
     .rw[Ý.1 z,M.h];omega
 .exact Ø ⟨_,h,if_neg h⟩
def atd:iB ⟨#[105,104,58,97,47]⟩=(0,0,[⟨[0,0,0,0,1,-1,0,0],[]⟩]):=fu
def ate(M:s7 n s l v):∃S b,ly s ⟨#[105,104,58,97,47]⟩=(S,0,b)/\(n<39->S=gh (n+1))/\(¬n<39->S=⟨#[33,52]⟩):=by
 have a:=Uz M;have c:s.length=n+1:=by rw[M.r,ì,M.M];rfl
 have d:=M.C;refine⟨_,_,ab8 atd,λh=> ?_,λh=>(acn U a Z).1⟩;rw[(ach U a Z).1,<-acj Z,<-c];rfl
def MR:ByteArray:=⟨#[98,104,58,97,59,98,104,58,98,59,98,104,58,99,59,98,104,58,100,59,98,104,58,101,59,98,104,58,102,59,98,104,58,103,59,98,104,58,104]⟩
def MS(i:Nat):PR:=⟨[i,0,0,0,3,-1,0,0],[]⟩
def atf:iB MR=(0,0,(Ç 8).map MS):=fu
def Cr(v:fF)(i:Nat):Nat:=(v.s i).fq.toNat
def UA(v:fF):List ByteArray:=(Ç 8).map λi=>gh<|Cr v i
def Cs(b:Nat->Nat):Nat->Nat
 |0=>0
 |i+1=>Cs b i+b i
def atg(M:s7 n s l v):ly s MR=(kE ⟨#[59]⟩<|UA v,0,s):=by rw[as0 atf (by simp[MS])];have a:=Uz M;apply congrArg λl=>(kE ⟨#[59]⟩ l,(0:Int),s);unfold UA Cr;rw[List.map_map];refine Ď λi _=> ?_;show qd (kG s) (toQn<|MS i)=_;simp only[qd,toQn,MS,List.getD_cons_zero,List.getD_cons_succ,a,Cb];simp
def ath(c:kV s)(M:s7 n s l v):(∀i,i<8->Cr v i<10000)/\Cs (Cr v) 8=8000+50*n:=by
 have d:v∈s:=by rw[M.r];simp
 have a:=(c.r v d).2.1;have e:=M.N;have g:=M.C;refine⟨λi f=> ?_,?_⟩
 .have:=ab3 a f;unfold Cr;omega
 .have b:=λi=>(a.fq i).1;have h:=b 0;have j:=b 1;have k:=b 2;have m:=b 3;have o:=b 4;have p:=b 5;have q:=b 6;have r:=b 7;unfold lz at e;simp only[Cs,Cr];omega
end
section
variable{c l a:fc}{s t:List fF}{e:Ê}{V:Nat->Prop}{g:List Ê}
def ati(h:gi X l a)(b:gB l):gB a:= ⟨h.N b.r,h.d.trans b.d,by rw[h.q];exact b.q,by rw[h.S];exact b.N,by rw[h.Y];exact b.I,by rw[h.b];exact b.M,by rw[h.K];exact b.k⟩
end
noncomputable def MU:ĭ:=jZ Ň [1,1,1,0,1,0,0]
noncomputable def aco:ĭ:=jZ Ň [1,1,1,1]
noncomputable def Ct (a:Array Ê) (b:List ą):ě:=G ((base 24).at ⟨a,[]⟩<|Ğ MU::ı MU::[Ĕ 0,Ğ aco]) b
structure IF(B:ByteArray)(c:UInt8)(lv:Ê)(fr i:Nat)(tt:Array Ê):Prop where
 r:tt.size=35
 C:tt[0]?=Ä (Á B)
 t1:tt[1]?=Ä (Æ ō c.toNat)
 I:tt[5]?=Ä lv
 M:tt[6]?=Ä (Æ Ã fr)
 N:tt[7]?=Ä (Æ Ã i)
def acp(S:ByteArray)(w:Ì):Sem.events À (Builtin.len_ #[9] 3 #[Á S]) w #[]=#[]:=fu
def atj(B:ByteArray)(w:Ì)(a:i<=j)(b:j<=B.size):Sem.events À (û 9 (Á B) (Ä<|Æ Ã i) (Ä<|Æ Ã j) à) w #[]=#[]:=by simp[û,ĸ,go_sem,a,b,Ĝ]
def atl(B:ByteArray)(w:Ì)(a:i<=B.size):Sem.events À (û 9 (Á B) (Ä<|Æ Ã i) à à) w #[]=#[]:=by simp[û,ĸ,go_sem,a,Ĝ]
structure uP(il l:fc)(lv:Ê)(xs:List ByteArray):Prop where
 r:gi ff il l
 C:l.w.ownsRow 0 9 1 lv xs.length (jl xs)
 fp:∀k,lv.ownBlock=Ä k->l.O k/\il.w.heap.size<=k
section
variable{J:Jd}{il l:fc}{S:ByteArray}{c:UInt8}{lv:Ê}{fr:Nat}{xs:List ByteArray}{tt:Array Ê}{k:List Item}
def uP.I(h:uP il l lv xs)(f:gy il)(c:gB l){ob:Obj}(g:fH l l.w u)(d:fH (gI l u ob) (gI l u ob).w W)(i:jX.ownsRow 0 9 1 v (xs.length+1) (jl xs++[Á S]))(m:W.grownBy jX lv.ownBlock)(n:∀k,v.ownBlock=Ä k->(mQ (gI l u ob) W jX).O k)(o:v.ownBlock=lv.ownBlock\/v.ownBlock=Ä W.heap.size): gB (mQ (gI l u ob) W jX)/\uP il (mQ (gI l u ob) W jX) v (xs++[S]):=by
 have a:=mP (X:=λb=>Ä b=lv.ownBlock) (ob:=ob) c.r g;have b:=a.fg (Ku (a.N c.r) d m λk e=>⟨a.O k (h.fp k e).1,e.symm⟩);refine⟨ati b c,h.r.vt b λj q e=> ?_,?_,λk e=>⟨n k e,?_⟩⟩
 .have:=(h.fp j e.symm).2;have:=f.fx j q;omega
 .rwa[ì,show jl (xs++[S])=jl xs++[Á S] by simp[jl]]
 .rcases o with z|z
  .exact(h.fp k<|z.symm.trans e).2
  .have e:=é<|z.symm.trans e;have:=h.r.I;have:=a.I;have:=d.r;omega
def atm{a b:UInt8}(h:a≠b):((a.toNat:Int)==(b.toNat:Int))=ç:=by rw[beq_eq_false_iff_ne];exact λq=>h<|Ą.1 Z
def atn(h:uP il l lv xs)(C:gy il)(a:gB l)(b:IF B c lv fr i tt)(D:i<B.size)(E:fr<=i)(hB:B.size<=10^12)(tM:xs.length<=fr) (o:B[i]≠c->∀d g,gB d->uP il d lv xs->IF B c lv fr (i+1) g->fv.fi À Î J d (Ct g qX)) (r:B[i]=c->∀d g v,gB d->uP il d v (xs++[B.extract fr i])->IF B c v (i+1) (i+1) g->fv.fi À Î J d (Ct g qX)):fv.fi À Î J l (Ct tt qX):=by
 have hF:True:=trivial;let⟨s,t,f⟩:=jg h.C;obtain⟨u,rfl⟩:=rn tt b.r;have F:u 0=Á B:=by simpa using b.C
 have G:u 1=Æ ō c.toNat:=by simpa using b.t1
 have I:u 5=Ô s xs.length t:=by rw[<-f];simpa using b.I
 have K:u 6=Æ Ã fr:=by simpa using b.M
 have L:u 7=Æ Ã i:=by simpa using b.N
 clear b;have k1:(i:Int)<(B.size:Int):=Z
 have k2:(0:Int)<=(i:Int):=Z
 have k3:(0:Int)<=(fr:Int):=Z
 have k4:(fr:Int)<=(i:Int):=Z
 have k5:(i:Int)<=(B.size:Int):=Z
 have M:i<=B.size:=Z
 have m:Ã.wrap ((i:Int)+1)=((i+1:Nat):Int):=ä _ ⟨Z,Z⟩;have H:=fe<|Ò o r;clear o r;apply fP (n:=60) a.r.r;simp only[Ct,Ç,Ó,ÿ,F,G,I,K,L];conv in MU=>whnf
 repeat w_go fw
 refine Â λ_ _=> ?_;apply o5 (v:=Æ Ã B.size) U fQ (by k_ne) a.r.r a.q (λw _=>by go_simp) (λw _ e p=>by simp[go_sem,acp]at p);walk_nrm;apply fP (n:=60) a.r.r;repeat w_nl fw
 refine Â λ_ _=> ?_;apply o5 (v:=Æ ō B[i].toNat) U fQ (by k_ne) a.r.r a.q (λw _=>by go_simp) (λw _ e p=>by simp[go_sem,Instr.index,D]at p);walk_nrm;by_cases j:B[i]=c
 .rw[j];apply fP (n:=60) a.r.r;repeat w_nl fw
  refine Â λ_ _=> ?_;apply o5 (v:=Á<|B.extract fr i) U fQ (by k_ne) a.r.r a.q (λw _=>by go_simp) (λw _ e p=>by simp[go_sem,atj B w E M]at p);walk_nrm;refine o7 (V:=λp=>Ô (Ä ⟨p,0,à⟩) 1 1) (ob:=ú #[Á<|B.extract fr i] 9) U U (by k_ne) a.r.r a.q (λw=>by go_simp) (λw=>by simp[go_sem]) λw x=> ?_;walk_nrm;have p:=mP (X:=ff) (ob:=ú #[Á<|B.extract fr i] 9) a.r x;have y:hD (gI l w<|ú #[Á<|B.extract fr i] 9) w.heap.size (ú #[Á<|B.extract fr i] 9):=⟨Ċ U,fv.mO⟩;have N:À.info? 9=Ä ĕ:=Ļ;refine GH (v:=Ô s xs.length t) (us:=[Á<|B.extract fr i]) (px:=w.heap.size) (c:=1) (n:=xs.length) (xs:=jl xs) (inf:=ĕ) (z:=Á ⟨#[]⟩) U U (by k_ne) (p.N a.r) (by rw[p.q];exact a.q) U U U Ė N U U ĉ U U (by simp[ĕ];omega) (by simp only[î];omega) (f▸nQ h.C λk e=>p.r k (Ø (h.fp k e).1) id) (f▸λk e=>p.O k (h.fp k e).1) y.fp (Rf<|y.C U) (λ_ e=>Ý.1 e▸rfl) λato v Rp P Q S T W=> ?_;let⟨e,Y⟩:=h.I C a x P Q (f▸S) T<|f▸W;walk_nrm;apply fP (n:=80) e.r.r;repeat w_nl fw
  w_go fw
  refine Â λ_ _=> ?_;refine H.out.2 j _ _ _ e Y ⟨U,U,U,U,?_,?_⟩
  .simp[m]
  .simp[m]
 .have e:=atm j;apply fP (n:=60) a.r.r;repeat w_nl fw
  w_go fw
  refine Â λ_ _=> ?_;refine H.out.1 j _ _ a h ⟨U,U,U,by rw[f];rfl,U,?_⟩;simp[m]
def atp(h:uP il l lv xs)(s:gy il)(a:gB l)(b:IF B c lv fr B.size tt)(x:fr<=B.size)(T:B.size<=10^12)(W:xs.length<=fr) (C:∀g v,gB g->uP il g v (xs++[B.extract fr B.size])->fv.fi À Î J g (G (f.at (y.put ((Q[j]?).bind (·.dst)) v)<|Å Q jJ::k) qX)):fv.fi À Î J l (Ct tt<|f.at y (Å Q (j::jJ)::k)::qX):=by
 have hF:True:=trivial;let⟨i,m,d⟩:=jg h.C;obtain⟨u,rfl⟩:=rn tt b.r;have D:u 0=Á B:=by simpa using b.C
 have E:u 5=Ô i xs.length m:=by rw[<-d];simpa using b.I
 have F:u 6=Æ Ã fr:=by simpa using b.M
 have H:u 7=Æ Ã B.size:=by simpa using b.N
 clear b;have Y:(0:Int)<=(fr:Int):=Z
 have k4:(fr:Int)<=(B.size:Int):=Z
 apply fP (n:=60) a.r.r;simp only[Ct,Ç,Ó,ÿ,D,E,F,H];conv in MU=>whnf
 conv in aco=>whnf
 repeat w_go fw
 refine Â λ_ _=> ?_;apply o5 (v:=Æ Ã B.size) U fQ (by k_ne) a.r.r a.q (λw _=>by go_simp) (λw _ e p=>by simp[go_sem,acp]at p);walk_nrm;apply fP (n:=60) a.r.r;repeat w_nl fw
 refine Â λ_ _=> ?_;apply o5 (v:=Á<|B.extract fr B.size) U fQ (by k_ne) a.r.r a.q (λw _=>by go_simp) (λw _ e p=>by simp[go_sem,atl B w x]at p);walk_nrm;refine o7 (V:=λp=>Ô (Ä ⟨p,0,à⟩) 1 1) (ob:=ú #[Á<|B.extract fr B.size] 9) U U (by k_ne) a.r.r a.q (λw=>by go_simp) (λw=>by simp[go_sem]) λw o=> ?_;walk_nrm;have p:=mP (X:=ff) (ob:=ú #[Á<|B.extract fr B.size] 9) a.r o;have r:hD (gI l w<|ú #[Á<|B.extract fr B.size] 9) w.heap.size (ú #[Á<|B.extract fr B.size] 9):=⟨Ċ U,fv.mO⟩;have I:À.info? 9=Ä ĕ:=Ļ;refine GH (v:=Ô i xs.length m) (us:=[Á<|B.extract fr B.size]) (px:=w.heap.size) (c:=1) (n:=xs.length) (xs:=jl xs) (inf:=ĕ) (z:=Á ⟨#[]⟩) U U (by k_ne) (p.N a.r) (by rw[p.q];exact a.q) U U U Ė I U U ĉ U U (by simp[ĕ];omega) (by simp only[î];omega) (d▸nQ h.C λk e=>p.r k (Ø (h.fp k e).1) id) (d▸λk e=>p.O k (h.fp k e).1) r.fp (Rf<|r.C U) (λ_ e=>Ý.1 e▸rfl) λato v Rp K L M N P=> ?_;let⟨e,S⟩:=h.I s a o K L (d▸M) N<|d▸P;walk_nrm;apply fP (n:=80) e.r.r;repeat w_nl fw
 u_in fw hF
 refine ċ (t:=4) U U ğ U ⟨by u_nil,?_⟩;refine Â λ_ _=> ?_;exact C _ _ e S
def UB(e:gy il)(g:B.size<=10^12) (n:∀a v,gB a->uP il a v (s6 B c B.size 0 0)->fv.fi À Î J a (G (f.at (y.put ((Q[j]?).bind (·.dst)) v)<|Å Q jJ::k) qX)): ∀(m fr i:Nat) (l:fc) (lv:Ê) (xs:List ByteArray) (tt:Array Ê),B.size-i=m->fr<=i->i<=B.size->xs.length<=fr->xs++s6 B c m fr i=s6 B c B.size 0 0->uP il l lv xs->gB l->IF B c lv fr i tt->fv.fi À Î J l (Ct tt<|f.at y (Å Q (j::jJ)::k)::qX)
 |0,fr,i,l,lv,xs,tt,hm,hfr,hi,tM,he,h,hb,hT=>by
  obtain rfl:i=B.size:=Z
  exact atp h e hb hT hfr g tM λa v b d=>n a v b<|he▸d
 |m+1,fr,i,l,lv,xs,tt,hm,hfr,hi,tM,he,h,hb,hT=>by
  have r:i<B.size:=Z
  rw[show s6 B c (m+1) fr i=if B[i]=c then B.extract fr i::s6 B c m (i+1) (i+1)else s6 B c m fr (i+1)from dif_pos r]at he;refine atn h e hb hT r hfr g tM (λq a o b d p=> ?_) λq a o v b d p=> ?_
  .rw[if_neg q]at he;exact UB e g n m fr (i+1) a lv xs o Z Z Z tM he d b p
  .rw[if_pos q]at he;exact UB e g n m (i+1) (i+1) a v _ o Z Z Z (by rw[ì,List.length_singleton];omega) (by rwa[List.append_assoc]) d b p
def atq(a:gB l)(d:B.size<=10^12) (g:∀b v,gB b->uP l b v (s6 B c B.size 0 0)->fv.fi À Î J b (G (f.at (y.put ((Q[j]?).bind (·.dst)) v)<|Å Q jJ::k) qX)):fv.fi À Î J l (G (É À 24 #[Á B,Æ ō c.toNat] ê)<|f.at y (Å Q (j::jJ)::k)::qX):=by
 have hF:True:=trivial;rw[vR [_,_] 33 ğ];simp only[å,Ù,Þ];conv in jZ _ _=>whnf
 apply fP (n:=60) a.r.r;repeat w_bar fw
 w_go fw
 refine Â λ_ _=> ?_;exact UB a.r d g B.size 0 0 l (Ô à 0 0) [] _ U (È _) (Í _) (È _) U ⟨gi.fU a.r.r,⟨U,Ø ⟨U,U⟩⟩,λk e=>by cases e⟩ a ⟨rfl,rfl,rfl,rfl,rfl,rfl⟩
end
structure jb(R:Nat->Prop)(W:Ì)(l:fc)(x nx:Nat)(s:List fF):Prop where
 a:∃sl V,nV l x nx s sl V
 C:∀b,R b->(l.O b/\l.w.heap[b]?=W.heap[b]?)/\b≠x
section
variable{R:Nat->Prop}{l d:fc}{x nx:Nat}{s g:List fF}
def jb.M(h:jb R W l x nx s)(c:∀b,l.O b->d.O b/\d.w.heap[b]?=l.w.heap[b]?)(e:l.w.heap.size<=d.w.heap.size):jb R W d x nx s:=by let⟨f,V,a⟩:=h.a;exact⟨⟨f,V,a.S (λb q=>(c b q).1) (λb q=>(c b q).2) e⟩,λb q=>⟨⟨(c b (h.C b q).1.1).1,(c b (h.C b q).1.1).2.trans (h.C b q).1.2⟩,(h.C b q).2⟩⟩
def jb.r(h:jb R W l x nx s)(r:fH l l.w u):jb R W {l with w:=u} x nx s:=h.M (λb q=>⟨q,r.I b<|Ø q⟩) r.r
def jb.I(h:jb R W l x nx s):kV s:=by let⟨_,_,a⟩:=h.a;let⟨_,_,q,_⟩:=a.I;exact q
def jb.N(h:jb R W l x nx s):nB<=l.w.heap.size:=by let⟨_,_,a⟩:=h.a;exact a.r.fx
def MV(h:jb R W l x nx s)(j:gB l)(k:B.size<=î) (m:∀d,gB d->jb R W d x nx (ly s B).2.2->iC vQ d (G (f.at (y.put ((Q[i]?).bind (·.dst))<|ň #[Á (ly s B).1,Æ Ã (ly s B).2.1])<|Å Q jJ::L) qX)): iC vQ l (G (É À 17 #[Ë<|Ä ⟨x,0,à⟩,Á B] ê)<|f.at y (Å Q (i::jJ)::L)::qX):=by let⟨v,V,n⟩:=h.a;refine abM j n k (λ_=>abQ h.I) λd o ⟨e,p,r,t,w⟩=>m d o ⟨⟨p,r,t⟩,λb q=> ?_⟩;let⟨⟨g,u⟩,c⟩:=h.C b q;exact⟨⟨(e b g c).1,(e b g c).2.trans u⟩,c⟩
def atr(h:jb R W l x nx s)(o:gB l)(C:B.size<=î)(D:ly s B=(kE ⟨#[59]⟩ vX,0,g))(E:vX≠[])(F:∀a∈vX,nW a)(M:vX.length=n)(N:(kE ⟨#[59]⟩ vX).size<=10^12) (P:∀d m,gB d->jb R W d x nx g->d.w.ownsRow 0 9 1 m n (jl vX)->(∀b,m.ownBlock=Ä b->d.O b)->iC vQ d (G (f.at (y.put ((Q[i]?).bind (·.dst))<|ň #[m,ï Î])<|Å Q jJ::L) qX)): iC vQ l (G (É À 26 #[Ë<|Ä ⟨x,0,à⟩,Á B,Æ Ã n] ê)<|f.at y (Å Q (i::jJ)::L)::qX):=by
 have hF:True:=trivial;subst M;rw[vR [_,_,_] 25 Ġ];simp only[å,Ù,Þ];conv in jZ _ _=>whnf
 apply lI;apply fP (n:=60) o.r.r;repeat w_go fw
 refine Â λ_ _=> ?_;refine .fB λX p=>⟨o.C p,U,?_⟩;have r:=o.C p;have H:=h.r p;refine E4 (f:=17) (args:=#[Ë<|Ä ⟨x,0,à⟩,Á B]) r U fQ (by k_ne) (λw=>by go_simp) (λw=>Ú U Č U U #[]) λT k=> ?_;refine MV (H.r k) (r.C k) C λY t u=> ?_;have I:=as8 E F;rw[D]at u|-;dsimp only at u|-;generalize kE ⟨#[59]⟩ vX=S at*;clear D h H r C;walk_nrm;apply lI;apply fP (n:=60) t.r.r;repeat w_nl fw
 refine Â λ_ _=> ?_;refine zU (f:=24) (args:=#[Á S,Æ ō 59]) U fQ (by k_ne) t.r.r (λw=>by go_simp) (λw=>Ú U ğ U U #[]) λasq J=> ?_;refine atq (c:=59) (t.C J) N λl5 m v j=> ?_;have V:=(u.r J).M (λb q=>⟨j.r.O b q,j.r.r b (Ø q) id⟩) j.r.I;rw[I]at j;let⟨pk,ck,K⟩:=jg j.C;have z:=fe (Ò j.C λb q=>(j.fp b q).1);clear j I F E;rw[K];walk_nrm;apply fP (n:=60) v.r.r;repeat w_nl fw
 u_in fw hF
 refine goes_leave2 U U Ġ U ⟨by u_nil,?_⟩;refine Â λ_ _=> ?_;refine .fB λT k=>⟨v.C k,U,?_⟩;have:=P _ m (v.C k) (V.r k) (nQ z.out.1 λL e=>k.I L<|Ø<|z.out.2 L e) z.out.2;rwa[K]at this
end
def xV(l a:fc):Prop:=∀b,l.O b->a.O b/\a.w.heap[b]?=l.w.heap[b]?
structure z8(l:fc)(kb:Nat)(xs:List ByteArray):Prop where
 fp:l.O kb
 C:∀i y,xs[i]?=Ä y->l.w.cell? ⟨kb,i,à⟩=Ä (Á y)
section
variable{J:Jd}{kg:Ê->Ì->Prop}{R:Nat->Prop}{l l':fc}{x nx:Nat}{s j:List fF}{b m:ą}{a p:ĩ}{ops:Array ń}{rest:List Nat}{k:List Item}{cs:List ą}{f:FuncId}{args:Array Ê}{fn:Func}{ags:Array Operand}{ats:Array ĵ}{kb:Nat}{xs:List ByteArray}{y:ByteArray}{t:Operand}
def xV.r{a:fc}(h:xV l l')(k:xV l' a):xV l a:=λb q=>⟨(k b (h b q).1).1,(k b (h b q).1).2.trans (h b q).2⟩
def UC(r:fH l l.w u):xV l {l with w:=u}:=λb q=>⟨q,r.I b<|Ø q⟩
def z8.r(h:z8 l kb xs)(k:xV l l'):z8 l' kb xs:=⟨(k kb h.fp).1,λi y q=>(gK (k kb h.fp).2).trans<|h.C i y q⟩
def yZ(h:jb R W l x nx s)(hb:gB l)(hf:Tryz.prog.funcs[f]?=some fn) (hc:∀l',gB l'->nB<=l'.w.heap.size->∀(cl:Frame) (cs:List Frame),fv.fi Tryz.prog true (λl'' g'=>jI l' l''/\l''.d=l'.d/\g'=G (cl.finish v) cs) l'<|G (Frame.enter Tryz.prog f args .normal)<|cl::cs) (hn:∀l',gB l'->jb R W l' x nx s->xV l l'->fv.fi Tryz.prog true J l' (G (b.at (a.put o.dst v)<|.inRegion ops rest::k) cs)) (ho:ops[i]?=some o:=by rfl) (oU:o.op=.call {callee:=.value<|.func f,args:=ags,argTypes:=ats}:=by rfl) (hw:Region.wanted o (yielded ops a.tmps)=true:=by rfl) (hk:b.kind≠.early:=by k_ne) (hr:∀w,(execOp a.eval o).run Tryz.prog w=.ok (.enter f args) w:=by intro w;go_simp) (hm:(fn.name== "runtime.NumGoroutine")=false:=by rfl) (hd:fn.body.isNone=false:=by rfl): fv.fi Tryz.prog true J l (G (b.at a<|.inRegion ops (i::rest)::k) cs):=by refine zU ho hw hk hb.r.r hr (λw=>Ú oU hf hm hd #[]) λw₁ kB=> ?_;refine fv.fi.lU ?_<|hc _ (hb.C kB) (h.r kB).N _ _;rintro l2 g2 ⟨ha,hd,rfl⟩;rw[Frame.finish_at,ho];have k2:xV {l with w:=w₁} l2:=λb q=>⟨ha.O b q,ha.r.I b<|Ø q⟩;exact hn l2 (jI.BM (hb.C kB) ha hd) ((h.r kB).M k2 ha.r.r)<|(UC kB).r k2
def E8(h:jb R W l x nx s)(hb:gB l)(hf:Tryz.prog.funcs[f]?=some fn) (hn:∀l',gB l'->jb R W l' x nx s->xV l l'->l.w.heap.size<=l'.w.heap.size->iC kg l' (G (Frame.enter Tryz.prog f args .normal)<|b.at a (.inRegion ops (i::rest)::k)::cs)) (ho:ops[i]?=some o:=by rfl) (oU:o.op=.call {callee:=.value<|.func f,args:=ags,argTypes:=ats}:=by rfl) (hw:Region.wanted o (yielded ops a.tmps)=true:=by rfl) (hk:b.kind≠.early:=by k_ne) (hr:∀w,(execOp a.eval o).run Tryz.prog w=.ok (.enter f args) w:=by intro w;go_simp) (hm:(fn.name== "runtime.NumGoroutine")=false:=by rfl) (hd:fn.body.isNone=false:=by rfl): fv.fi Tryz.prog true (xR kg) l (G (b.at a<|.inRegion ops (i::rest)::k) cs):= .fB λw₁ kB=>⟨hb.C kB,U,E4 (hb.C kB) ho hw hk hr (λw=>Ú oU hf hm hd #[]) λAo n7=>hn _ ((hb.C kB).C n7) ((h.r kB).r n7) ((UC kB).r<|UC n7)<|õ kB.r n7.r⟩
def atu(hb:gB l)(h:z8 l kb xs)(n:Nat)(hx:xs[n]?=some y)(hn:fv.fi Tryz.prog true J l (G (b.at (a.put o.dst<|.string y)<|.inRegion ops rest::k) cs)) (ho:ops[i]?=some o:=by rfl) (oU:o.op=.load 9 t:=by rfl) (ht:a.eval t=.pointer (some ⟨kb,n,none⟩):=by rfl) (hw:Region.wanted o (yielded ops a.tmps)=true:=by rfl) (hk:b.kind≠.early:=by k_ne): fv.fi Tryz.prog true J l (G (b.at a<|.inRegion ops (i::rest)::k) cs):=by
 have e:ĝ a.eval o=ĝ a.eval {o with op:=.load 9 t}:=by unfold ĝ;rw[oU]
 refine nP ho hw hk hb.r.r hb.q (Ø<|Ø h.fp) (h.C n y hx) (λw c=> ?_) (λw c=> ?_) hn
 .rw[e];unfold ĝ;simp only[ht];go_simp
 .rw[e];unfold ĝ;simp only[ht];simp[go_sem,c]
def atv(h:jb R W l x nx s)(f:gB l)(o:B.size<=î)(r:ly s B=(kE ⟨#[59]⟩ xs,0,j))(t:∀y∈xs,nW y)(a:xs.length=n+1)(u:(kE ⟨#[59]⟩ xs).size<=10^12) (v:∀l' kb b,gB l'->jb R W l' x nx j->z8 l' kb xs->iC kg l' (G (m.at (p.put ((ops[i]?).bind (·.dst))<|ň #[Ô (Ä ⟨kb,0,à⟩) (n+1) b,ï Î])<|Å ops rest::k) cs)): iC kg l (G (É À 26 #[Ë<|Ä ⟨x,0,à⟩,Á B,Æ Ã ((n+1:Nat):Int)] ê)<|m.at p (Å ops (i::rest)::k)::cs):=by
 refine atr (n:=n+1) h f o r (λe=>by rw[e]at a;cases a) t a u λw z C D c E=> ?_;let⟨F,b,d⟩:=jg c;obtain⟨kb,rfl⟩:∃kb,F=Ä ⟨kb,0,à⟩:=by
  rcases c.2 with⟨e,q⟩|⟨g,_,_,e,_⟩
  .omega
  .rw[d]at e;cases e;exact⟨g,U⟩
 have e:z.ownBlock=Ä kb:=by rw[d];rfl
 rw[d];refine v w kb b C D ⟨E kb e,λi y q=> ?_⟩;have q:=c.cells e i (Á y) (by unfold jl;rw[ß,q];rfl);rwa[Addr.add_lit,Nat.zero_add]at q
end
end Go.Proofs.Y.kS
namespace Go.Proofs.Y.om
open Go Go.Proofs Go.RowKit Go.Proofs.Y.Lift Go.Proofs.Y.gP Go.Proofs.Y.kS
section
variable{a b:PS}{d:PD}{l c:List UInt8}
def MW(h:n<10):(â<|48+n).toNat=48+n:=by
 have a:∀k:_root_.Fin 10,(â<|48+k.val).toNat=48+k.val:=A
 exact a ⟨n,h⟩
def acr:∀k n,n<10^(k+1)->Lib.nDigits n<=k+1
 |0,n,h=>by rw[ė (by simpa using h)];exact È _
 |k+1,n,h=>by
  by_cases q:n<10
  .rw[ė q];omega
  .have:=acr k (n/10) (by rw[Ĳ]at h;omega);rw[Lib.nDigits_big q];omega
end
section
variable{a b:PS}{d:PD}{l c:List UInt8}
def atw(h:n<1000000):(gh n).size<=6:=by unfold gh;rw[ŉ,List.size_toArray,Lib.decDigits_length];exact acr 5 n h
end
end Go.Proofs.Y.om
namespace Go.Proofs.Y.kS
open Go Go.Conc Go.Proofs Go.RowKit Go.Proofs.Y.Lift Go.Proofs.Y.gP Go.Proofs.Y.fv Go.Proofs.Y.om
open Go.Conc.Lib Go.ConcR.Gen Go.Proofs.YtgpphkdoanciiaaGreatDoor
noncomputable def MX:ĭ:=(Tryz.f16.body.bind gP.km).getD .skip
def Cu(B:ByteArray)(c:UInt8)(r:Bool)(i:Int)(u:Nat->Ê):ĩ:=⟨#[Á B,Æ ō c.toNat,u 2,u 3,ï r,Æ Ã i,u 6,u 7,u 8,u 9,u 10,u 11,u 12,u 13,u 14,u 15,u 16],[]⟩
def Aa(B:ByteArray)(c:UInt8)(r:Bool)(i:Int)(a:ĩ):Prop:=∃u,a=Cu B c r i u
section
variable{Y:ĩ->Ì->Prop}{c:UInt8}
def atx(u:Nat->Ê)(b:∀a,Aa B c ç B.size a->H a w):ā À MX (Exit.then K<|QN H Y) (Cu B c ç B.size u) w:=by
 unfold Cu;conv=>arg 2;whnf
 go_wp2_with fail
 exact b _ (gP.gk _)
theorem aty(u:Nat->Ê)(i:Nat)(j:i<B.size)(e:B.size<=î)(f:B[i]≠c->∀a,Aa B c ç ((i+1:Nat):Int) a->K a w)(g:B[i]=c->∀a,Aa B c Î i a->Y a w):ā À MX (Exit.then K<|QN H Y) (Cu B c ç i u) w:=by
 unfold Cu;conv=>arg 2;whnf
 have k:Ã.wrap ((i:Int)+1)=((i+1:Nat):Int):=by unfold î at e;exact ä _ ⟨Z,Z⟩
 have b:=fe<|Ò f g;clear f g e;by_cases d:B[i]=c
 .have h:((B[i].toNat:Int)==(c.toNat:Int))=Î:=by rw[d];simp
  go_wp2_with fail
  exact b.out.2 d _ (gP.gk _)
 .have h:((B[i].toNat:Int)==(c.toNat:Int))=ç:=by
   grind [Ą]
  go_wp2_with fail
  exact b.out.1 d _ (gP.gk _)
def UD(B:ByteArray)(c:UInt8)(yQ:Bool)(u:Ì)(a:ĩ)(w:Ì):Prop:=∃i:Nat,Aa B c ç i a/\i<=B.size/\decide (c∈B.data.toList.drop i)=yQ/\w=u
def HsE(B:ByteArray)(c:UInt8)(yQ:Bool)(u:Ì)(a:ĩ)(w:Ì):Prop:=Aa B c ç B.size a/\yQ=ç/\w=u
def HsR(B:ByteArray)(c:UInt8)(yQ:Bool)(u:Ì)(a:ĩ)(w:Ì):Prop:=∃i:Nat,Aa B c Î i a/\yQ=Î/\w=u
def xB(B:ByteArray)(a:ĩ)(_:Ì):Nat:=match a.tmps.getD 5 undef with
 |Æ _ i=>B.size-i.toNat
 |_=>0
def HL{r:Bool}(b:Aa B c r i y):xB B y w=B.size-i:=by obtain⟨u,rfl⟩:=b;show B.size-(i:Int).toNat=_;simp
theorem atz(h:B.size<=î)(a:ĩ)(w:Ì)(j:UD B c yQ u a w): ā À MX (Exit.then (λb d=>UD B c yQ u b d/\xB B b d<xB B a w)<|QN (HsE B c yQ u)<|HsR B c yQ u) a w:=by
 let⟨i,e,n,f,d⟩:=j;rw[HL e];obtain⟨b,rfl⟩:=e;by_cases l:i=B.size
 .subst l;refine atx b λa q=>⟨q,?_,d⟩;rw[<-f,Ă (by rw[Ö];exact È _)];rfl
 .have g:i<B.size:=Z
  have m:i<B.data.toList.length:=by rwa[Ö]
  rw[ö m,show B.data.toList[i]=B[i] by rw[ñ];rfl]at f;refine aty b i g h (λq a k=>⟨⟨i+1,k,Z,?_,d⟩,by rw[HL k];omega⟩) λq a k=>⟨i,k,?_,d⟩;all_goals grind
def atA(B:ByteArray)(c:UInt8)(d:B.size<=î)(w:Ì):ņ À 16 #[Á B,Æ ō c.toNat] w λe f=>e=.returned (ï<|decide<|c∈B.data.toList)/\f=w:=by
 have L:∀a,Aa B c ç (0:Nat) a->ā À (ŀ MX) (QN (HsE B c (decide<|c∈B.data.toList) w)<|HsR B c (decide<|c∈B.data.toList) w) a w:=λa g=>
  wp_loop (UD B c (decide<|c∈B.data.toList) w) (xB B) ⟨0,g,Í _,U,U⟩<|atz d
 have H:=fe L;generalize decide (c∈B.data.toList)=yQ at*;clear L;go_enter Ĺ,Tryz.ntmps16;go_wp2_with fail;refine İ ?_ (H.out _ (gP.gk _));rintro(_|(_|_)|_|_|_|_) a v hq;all_goals first|exact absurd hq id|skip
 .obtain⟨b,rfl,rfl⟩:=hq;obtain⟨u,rfl⟩:=b;unfold Cu;go_wp2_with fail;go_ret;exact⟨U,U⟩
 .obtain⟨i,b,rfl,rfl⟩:=hq;obtain⟨u,rfl⟩:=b;unfold Cu;go_ret;exact⟨U,U⟩
end
def atB{l:fc}(e:gB l)(f:nB<=l.w.heap.size)(c:UInt8)(g:B.size<=î)(a:ą)(b:List ą): fv.fi À Î (λh u=>jI l h/\h.d=l.d/\u=G (a.finish<|ï<|decide<|c∈B.data.toList) b) l (G (É À 16 #[Á B,Æ ō c.toNat] ê)<|a::b):= Ix e f fQ (λu h=>by simp at h;rcases h with rfl|rfl;exact .kq _;exact .iE _ _) (λh=>by cases h;rfl) (atA B c g) Î a b
def s8(n:Nat)(l:List UInt8):Nat:=l.foldl (λn c=>10*n+(c.toNat-48)) n
def atC(g:Nat):s8 0 (gh g).data.toList=g:=by
 induction g using ă with
 |_ g a=>
  by_cases h:g<10
  .rw[IA h,zZ h];show 10*0+((â<|48+g).toNat-48)=g;rw[MW h];omega
  .rw[IB h,ð,ô,zZ Z];unfold s8 at a|-;rw[ù,a (g/10) Z];show 10*(g/10)+((â<|48+g%10).toNat-48)=g;rw[MW Z];omega
def atD(g:Nat):∀c∈(gh g).data.toList,48<=c.toNat/\c.toNat<=57:=by
 induction g using ă with
 |_ g b=>
  by_cases h:g<10
  .rw[IA h,zZ h];intro c a;rw[Ý.1 (show c∈[â<|48+g]from a),MW h];omega
  .rw[IB h,ð,ô,zZ Z];intro c a;rcases ĥ.1 a with q|q
   .exact b (g/10) Z c q
   .rw[Ý.1 (show c∈[â<|48+g%10]from q),MW Z];omega
theorem acs(n:Nat)(l:List UInt8)(c:UInt8):s8 n (l++[c])=10*s8 n l+(c.toNat-48):=by unfold s8;grind
def acu(s:ByteArray)(k:Nat)(h:k<s.size):s.data.toList.take (k+1)=s.data.toList.take k++[s[k]]:=by rw[List.take_succ_eq_append_getElem (by simpa using h)];rfl
def acv:∀(k:Nat) (T:ByteArray),k<=T.size->(∀c∈T.data.toList,48<=c.toNat/\c.toNat<=57)->s8 0 (T.data.toList.take k)<10^k
 |0,_,_,_=>ĉ
 |k+1,T,h,hd=>by have c:=acv k T (Nat.le_of_succ_le h) hd;rw[acu T k h,acs,Ĳ];have:=hd T[k] (by simp[í]);omega
def atE(j:1<=B.size)(l:B.size<=6)(a:∀c∈B.data.toList,48<=c.toNat/\c.toNat<=57)(w:Ì): ņ À 18 #[Á B] w λe d=>e=.returned (Æ Ã<|s8 0 B.data.toList)/\d=w:=by
 have b:=fe a;clear a;go_enter ò,ĳ;go_wp2;go_loop [3,4] (λn i=>∃k:Nat,k<=B.size/\i=Æ Ã k/\n=Æ Ã (s8 0<|B.data.toList.take k)) λ_ i=>B.size-(intOf i).toNat
 case atStart=>exact⟨0,Í _,U,U⟩
 case round=>
  obtain⟨k,f,rfl,rfl⟩:=hrel;by_cases g:k<B.size
  .have m:s8 0 (B.data.toList.take k)<100000:=Nat.lt_of_lt_of_le (acv k B f b.out) (Nat.pow_le_pow_right A<|show k<=5 by omega);have h:Hid (s8 0 (B.data.toList.take<|k+1)=10*s8 0 (B.data.toList.take k)+(B[k].toNat-48)):=fe (by rw[acu B k g,acs]);have o:=b.out B[k] (by simp[í]);generalize s8 0 (B.data.toList.take k)=x at*;have p:¬(B[k].toNat:Int)<48:=Z
   have q:¬(57:Int)<B[k].toNat:=Z
   go_wp2;go_round
   case rel=>exact⟨k+1,Z,by go_num,by rw[h.out];go_num⟩
   case measure=>simp[intOf];omega
  .rw[(List.take_of_length_le<|by simp;omega)];go_wp2;go_ret;exact⟨U,U⟩
def atF(g:Nat):1<=(gh g).size:=by
 by_cases h:g<10
 .rw[IA h,zZ h];exact È 1
 .rw[IB h,Ï,zZ Z];exact Nat.le_add_left 1 _
def acw{l:fc}(a:gB l)(b:nB<=l.w.heap.size){g:Nat}(c:g<1000000): fv.fi À Î (λe h=>jI l e/\e.d=l.d/\h=G (f.finish<|Æ Ã g) qX) l (G (É À 18 #[Á<|gh g] ê)<|f::qX):= Ix a b fQ (λu e=>by simp at e;subst e;exact .kq _) (λh=>by cases h;rfl) (λw=>(atE (atF g) (atw c) (atD g) w).mono λe h q=>by rwa[atC]at q) Î f qX
noncomputable def MY:ĭ:=jZ Ŋ [1,1,1,0,1,0,0]
noncomputable def acy:ĭ:=jZ Ŋ [1,1,1,1]
noncomputable def E9 (a:Array Ê) (b:List ą):ě:=G ((base 19).at ⟨a,[]⟩<|Ğ MY::ı MY::[Ĕ 0,Ğ acy]) b
structure OF(kb ck n i z:Nat)(tt:Array Ê):Prop where
 r:tt.size=42
 C:tt[1]?=Ä (Æ Ã n)
 I:tt[5]?=Ä (Ô (Ä ⟨kb,0,à⟩) 8 ck)
 M:tt[6]?=Ä (ï Î)
 N:tt[7]?=Ä (Æ Ã z)
 S:tt[8]?=Ä (Æ Ã i)
section
variable{l:fc}{kb ck z:Nat}{s:List fF}{b:Nat->Nat}{tt:Array Ê}
def atG(h:jb X W l m J s)(d:gB l)(f:z8 l kb ((Ç 8).map λi=>gh<|b i))(a:OF kb ck n i z tt)(p:i<8)(E:z<1000000)(F:b i<10000) (q:∀c j,gB c->jb X W c m J s->z8 c kb ((Ç 8).map λi=>gh<|b i)->OF kb ck n (i+1) (z+b i) j->fv.fi À Î (xR vQ) c (E9 j qX)):fv.fi À Î (xR vQ) l (E9 tt qX):=by
 have hF:True:=trivial;obtain⟨u,rfl⟩:=rn tt a.r;have r:u 1=Æ Ã n:=by simpa using a.C
 have t:u 5=Ô (Ä ⟨kb,0,à⟩) 8 ck:=by simpa using a.I
 have v:u 6=ï Î:=by simpa using a.M
 have w:u 7=Æ Ã z:=by simpa using a.N
 have x:u 8=Æ Ã i:=by simpa using a.S
 clear a;have e:=fe f;clear f;have G:(i:Int)<8:=Z
 have H:¬(8:Int)<=i:=Z
 have I:Ã.wrap ((z:Int)+b i)=((z+b i:Nat):Int):=by rw[æ];omega
 have K:Ã.wrap ((i:Int)+1)=((i+1:Nat):Int):=by rw[æ];omega
 have L:(0:Int)<=(b i:Int):=Z
 have k:((Ç 8).map λi=>gh<|b i)[i]?=Ä (gh<|b i):=by rw[ß,č p];rfl
 apply fP (n:=60) d.r.r;simp only[E9,Ç,Ó,ÿ,r,t,v,w,x];conv in(occs:=1) MY=>whnf
 repeat w_go fw
 refine Â λ_ _=> ?_;apply atu d e.out i k;walk_nrm;refine yZ h d ò (λc o B C qX=>acw o B (g:=b i) Z) λM o B C=> ?_;have D:=e.out.r C;clear e h k;generalize b i=y at*;walk_nrm;apply fP (n:=80) o.r.r;repeat w_nl fw
 w_go fw
 refine Â λ_ _=> ?_;exact q _ _ o B D ⟨U,U,U,U,U,U⟩
def atH(h:jb X W l m J s)(c:gB l)(b:OF kb ck n 8 (8000+50*n) tt)(B:n<=39) (p:∀d,gB d->jb X W d m J s->iC vQ d (G (f.at (y.put ((Q[j]?).bind (·.dst))<|ï Î)<|Å Q jJ::L) qX)):fv.fi À Î (xR vQ) l (E9 tt<|f.at y (Å Q (j::jJ)::L)::qX):=by
 have hF:True:=trivial;obtain⟨u,rfl⟩:=rn tt b.r;have q:u 1=Æ Ã n:=by simpa using b.C
 have r:u 5=Ô (Ä ⟨kb,0,à⟩) 8 ck:=by simpa using b.I
 have v:u 6=ï Î:=by simpa using b.M
 have e:u 7=Æ Ã ((8000+50*n:Nat):Int):=by simpa using b.N
 have w:u 8=Æ Ã 8:=by simpa using b.S
 clear b;have x:Ã.wrap (50*(n:Int))=((50*n:Nat):Int):=by rw[æ];omega
 have i:Ã.wrap (8000+((50*n:Nat):Int))=((8000+50*n:Nat):Int):=by rw[æ];omega
 obtain⟨a,k⟩:∃a,50*n=a:=⟨_,U⟩;rw[k]at x i e;obtain⟨z,o⟩:∃z,8000+a=z:=⟨_,U⟩;rw[o]at i e;clear k o;apply fP (n:=60) c.r.r;simp only[E9,Ç,Ó,ÿ,q,r,v,e,w];conv in MY=>whnf
 conv in acy=>whnf
 repeat w_go fw
 u_in fw hF
 refine ċ (t:=4) U U ġ U ⟨by u_nil,?_⟩;refine Â λ_ _=> ?_;exact .fB λC g=>⟨c.C g,U,p _ (c.C g)<|h.r g⟩
def acz(d:∀i,i<8->b i<10000)(e:n<=39)(g:Cs b 8=8000+50*n) (k:∀c,gB c->jb X W c m J s->iC vQ c (G (f.at (y.put ((Q[j]?).bind (·.dst))<|ï Î)<|Å Q jJ::L) qX)):∀(a i:Nat) (l:fc) (tt:Array Ê),8-i=a->i<=8->Cs b i<=10000*i->jb X W l m J s->gB l->z8 l kb ((Ç 8).map λi=>gh<|b i)->OF kb ck n i (Cs b i) tt->fv.fi À Î (xR vQ) l (E9 tt<|f.at y (Å Q (j::jJ)::L)::qX)
 |0,i,l,tt,hm,hi,_,h,hb,hT,hF=>by
  obtain rfl:i=8:=Z
  rw[g]at hF;exact atH h hb hF e k
 |a+1,i,l,tt,hm,hi,hz,h,hb,hT,hF=>by have:=d i Z;exact atG h hb hT hF Z Z this λc o p q r t=>acz d e g k a (i+1) c o Z Z (by show Cs b i+b i<=_;omega) q p r t
def atI{x:List fF}{v:fF}(h:jb X W l m J s)(k:gB l)(M:s7 n s x v) (o:∀d,gB d->jb X W d m J s->iC vQ d (G (f.at (y.put ((Q[j]?).bind (·.dst))<|ï Î)<|Å Q jJ::L) qX)): iC vQ l (G (É À 19 #[Ë<|Ä ⟨m,0,à⟩,Æ Ã n] ê)<|f.at y (Å Q (j::jJ)::L)::qX):=by
 have hF:True:=trivial;let⟨p,q⟩:=ath h.I M;have e:=atg M;have g:=asc h.I MR;rw[e]at g;have r:∀a∈UA v,nW a:=as7 _ (λi=>as6 _) _;have c:=fe<|Ò p<|Ò q<|Ò e<|Ò g<|Ò r<|Ò M.C o;clear p q e g r o M;rw[vR [_,_] 40 ġ];simp only[å,Ù,Þ];conv in jZ _ _=>whnf
 apply lI;apply fP (n:=60) k.r.r;repeat w_go fw
 refine Â λ_ _=> ?_;refine E8 h k Ġ (args:=#[Ë<|Ä ⟨m,0,à⟩,Á MR,Æ Ã 8]) (hr:=λw=>by go_simp;rfl) λE z w _ _=> ?_;refine atv (n:=7) w z A c.out.2.2.1 c.out.2.2.2.2.1 U c.out.2.2.2.1 λB kb ck t C u=> ?_;have D:=fe u;clear h w u;walk_nrm;apply lI;apply fP (n:=60) t.r.r;repeat w_bar fw
 w_go fw
 refine Â λ_ _=> ?_;exact acz (b:=Cr v) c.out.1 c.out.2.2.2.2.2.1 c.out.2.1 c.out.2.2.2.2.2.2 8 0 B _ U A (È _) C t D.out ⟨U,U,U,U,U,U⟩
end
def atJ{T:ByteArray}(w:Ì)(h:B.size+T.size<=10^15):Sem.events À (Go.Op.stringOp BinOp.add B T) w #[]=#[]:=by
 have a:¬î<B.size+T.size:=by unfold î;omega
 simp[go_sem,Op.stringOp,a]
def atK{J:Jd}{l:fc}{b:Frame}{a:Act}{ops:Array Oper}{i:Nat}{rest:List Nat}{k:List Item}{cs:List Frame}{o:Oper}{x y:Operand}(S T U:ByteArray)(hb:gB l)(hU:S++T=U)(h:S.size+T.size<=10^15)(hn:fv.fi Tryz.prog true J l (G (b.at (a.put o.dst<|.string U)<|.inRegion ops rest::k) cs)) (ho:ops[i]?=some o:=by rfl) (oU:o.op=.binOp .add 9 x y 9:=by rfl) (hx:a.eval x=.string S:=by rfl) (hy:a.eval y=.string T:=by rfl) (hw:Region.wanted o (yielded ops a.tmps)=true:=by rfl) (hk:b.kind≠.early:=by k_ne): fv.fi Tryz.prog true J l (G (b.at a<|.inRegion ops (i::rest)::k) cs):=by
 subst hU;have h2:¬9223372036854775807<S.size+T.size:=Z
 refine o5 (v:=Á<|S++T) ho hw hk hb.r.r hb.q (λw _=> ?_) (λw _ e he=> ?_) hn
 .let⟨d,p,t,q,af,g⟩:=o;simp only at oU;subst oU;simp only[ĝ,hx,hy];go_simp
 .let⟨d,p,t,q,af,g⟩:=o;simp only at oU;subst oU;simp only[ĝ,hx,hy]at he;simp[go_sem,atJ w h]at he
section
variable{l a:fc}{s c:List fF}{S p:ByteArray}
def atL(h:jb X W l j b s)(d:gB l)(o:B.size<=î)(p:ly s B=(S,0,c)) (q:∀a,gB a->jb X W a j b c->iC vQ a (G (f.at (y.put ((Q[i]?).bind (·.dst))<|ï Î)<|Å Q jJ::L) qX)): iC vQ l (G (É À 20 #[Ë<|Ä ⟨j,0,à⟩,Á B,Á S] ê)<|f.at y (Å Q (i::jJ)::L)::qX):=by
 have hF:True:=trivial;rw[vR [_,_,_] 19 ó];simp only[å,Ù,Þ];conv in jZ _ _=>whnf
 apply lI;apply fP (n:=60) d.r.r;repeat w_go fw
 refine Â λ_ _=> ?_;refine .fB λu e=>⟨d.C e,U,?_⟩;have m:=d.C e;refine E4 (f:=17) (args:=#[Ë<|Ä ⟨j,0,à⟩,Á B]) m U fQ (by k_ne) (λw=>by go_simp) (λw=>Ú U Č U U #[]) λr w=> ?_;refine MV ((h.r e).r w) (m.C w) o λv g k=> ?_;rw[p]at k|-;dsimp only at k|-;walk_nrm;apply lI;apply fP (n:=60) g.r.r;repeat w_nl fw
 u_in fw hF
 refine ċ (t:=6) U U ó U ⟨by u_nil,?_⟩;refine Â λ_ _=> ?_;exact .fB λr w=>⟨g.C w,U,q _ (g.C w)<|k.r w⟩
end
def atM(c:UInt8)(w:Ì):ņ À 18 #[Á ⟨#[33,c]⟩] w λe a=>e=.returned (Æ Ã<|-1)/\a=w:=by
 go_enter ò,ĳ;go_wp2;go_loop [3,4] (λn i=>i=Æ Ã 0/\n=Æ Ã 0) λ_ _=>0
 case atStart=>exact⟨U,U⟩
 case round=>
  obtain⟨rfl,rfl⟩:=hrel;go_wp2;go_ret;exact⟨U,U⟩
def acA{l:fc}(a:gB l)(b:nB<=l.w.heap.size)(c:UInt8): fv.fi À Î (λh u=>jI l h/\h.d=l.d/\u=G (f.finish<|Æ Ã<|-1) qX) l (G (É À 18 #[Á ⟨#[33,c]⟩] ê)<|f::qX):= Ix a b fQ (λu h=>by simp at h;subst h;exact .kq _) (λh=>by cases h;rfl) (atM c) Î f qX
noncomputable def IG:ĭ:=jZ Ĵ [1,1,1,1,0,1,0,0]
noncomputable def UE:ĭ:=jZ Ĵ [1,1,1,1,1]
noncomputable def Cv (a:Array Ê):ě:=G ((base 5).at ⟨a,[]⟩<|Ğ IG::ı IG::[Ĕ 0,Ğ UE]) []
noncomputable def mOk:ĭ:=jZ Ĵ [1,1,1,1,0,1,0,0,1,0,0,1,1,1,1,1]
noncomputable def mUp:ĭ:=jZ Ĵ [1,1,1,1,0,1,0,0,1,1]
noncomputable def acB (a:Array Ê):ě:=G ((base 5).at ⟨a,[]⟩<|Ğ mOk::Ĕ 1::Ğ mUp::ı IG::[Ĕ 0,Ğ UE]) []
structure MF(bv:Ê)(x n j:Nat)(tt:Array Ê):Prop where
 r:tt.size=82
 C:tt[0]?=Ä bv
 I:tt[5]?=Ä (Ë<|Ä ⟨x,0,à⟩)
 M:tt[6]?=Ä (Æ Ã n)
 N:tt[7]?=Ä (Æ Ã j)
section
variable{l a:fc}{x c:Nat}{s o:List fF}{v:fF}{f:Nat->ByteArray}{tt:Array Ê}
def MZ(h:jb X W l x b s)(g:gB l)(M:s7 n s o v)(a:MF (Ô O i c) x n j tt)(B:j<9223372036854775807) (p:∀d k,gB d->jb X W d x b s->MF (Ô O i c) x n (j+1) k->iC vQ d (Cv k)):iC vQ l (acB tt):=by
 have hF:True:=trivial;obtain⟨u,rfl⟩:=rn tt a.r;have q:u 0=Ô O i c:=by simpa using a.C
 have r:u 5=Ë (Ä ⟨x,0,à⟩):=by simpa using a.I
 have t:u 6=Æ Ã n:=by simpa using a.M
 have w:u 7=Æ Ã j:=by simpa using a.N
 clear a;have C:Ã.wrap ((j:Int)+1)=((j+1:Nat):Int):=ä _ ⟨Z,Z⟩;apply lI;apply fP (n:=60) g.r.r;simp only[acB,Ç,Ó,ÿ,q,r,t,w];conv in mOk=>whnf
 repeat w_go fw
 refine Â λ_ _=> ?_;refine E8 h g ġ (args:=#[Ë<|Ä ⟨x,0,à⟩,Æ Ã n]) λD y m _ _=> ?_;refine atI m y M λE e z=> ?_;clear h m;walk_nrm;apply lI;apply fP (n:=60) e.r.r;repeat w_nl fw
 conv in mUp=>whnf
 repeat w_nl fw
 w_go fw
 refine Â λ_ _=> ?_;exact .fB λF f=>⟨e.C f,U,p _ _ (e.C f) (z.r f) ⟨U,U,U,U,U⟩⟩
def Rk(h:jb a.O a.w l x b s)(L:gB l)(hx:xT a O i f)(M:s7 n s o v)(y:MF (Ô O i c) x n j tt)(hN:i<=9223372036854775807)(hj:j<i)(Zk:(f j).size<=10^15-3) (I:∀d z n' J ls' W,gB d->jb a.O a.w d x b J->s7 n' J ls' W->MF (Ô O i c) x n' (j+1) z->iC vQ d (Cv z)):iC vQ l (Cv tt):=by
 have hF:True:=trivial;obtain⟨u,rfl⟩:=rn tt y.r;have e0:u 0=Ô O i c:=by simpa using y.C
 have e5:u 5=Ë (Ä ⟨x,0,à⟩):=by simpa using y.I
 have e6:u 6=Æ Ã n:=by simpa using y.M
 have e7:u 7=Æ Ã j:=by simpa using y.N
 clear y;have q2:Ã.wrap ((j:Int)+1)=((j+1:Nat):Int):=ä _ ⟨Z,Z⟩;obtain⟨jR,N,X,rfl,_,_⟩:=hx j hj;have see:∀{d:fc} {J:List fF},jb a.O a.w d x b J->d.O N/\d.w.cell? ⟨N,X+j,à⟩=Ä (Á<|f j):=λ{d J} k=>by let⟨_,r,t,e,p,q2⟩:=(hx.r λE q=>(k.C E q).1) j hj;cases e;exact⟨p,q2⟩
 let⟨hO,hc⟩:=see h;apply lI;apply fP (n:=60) L.r.r;simp only[Cv,Ç,Ó,ÿ,e0,e5,e6,e7];conv in(occs:=1) IG=>whnf
 repeat w_go fw
 refine Â λ_ _=> ?_;apply nP (x:=⟨N,X+j,à⟩) (v:=Á<|f j) U fQ (by k_ne) L.r.r L.q (Ø<|Ø hO) hc (λw h=>by go_simp) (λw h=>by simp[go_sem,h]);walk_nrm;refine yZ h L Ĺ (λd p F P Q=>atB p F (B:=f j) 59 jR P Q) λl2 D S _=> ?_;by_cases Y:(59:UInt8)∈(f j).data.toList
 .rw[decide_eq_true Y];walk_nrm;apply fP (n:=80) D.r.r;repeat w_nl fw
  w_go fw
  refine Â λ_ _=> ?_;exact .fB λV e=>⟨D.C e,U,I _ _ n s o v (D.C e) (S.r e) M ⟨U,U,U,U,U⟩⟩
 .rw[decide_eq_false Y];let⟨wY,hc2⟩:=see S;have UF:=atc Y S.I M;obtain⟨T,y⟩:∃T,(⟨#[105,104,58]⟩++f j:ByteArray)=T:=⟨_,U⟩;have hTs:T.size=3+(f j).size:=by rw[<-y,Ï];rfl
  rw[y]at UF;have HI:=fe UF;clear UF h;walk_nrm;apply fP (n:=80) D.r.r;repeat w_nl fw
  refine Â λ_ _=> ?_;refine nP (x:=⟨N,X+j,à⟩) (v:=Á<|f j) U fQ (by k_ne) D.r.r D.q (Ø<|Ø wY) hc2 (λw h=>by go_simp) (λw h=>by simp[go_sem,h]) ?_;walk_nrm;refine atK _ (f j) T D y (by show 3+(f j).size<=_;omega) ?_;walk_nrm;refine E8 S D Č (args:=#[Ë<|Ä ⟨x,0,à⟩,Á T]) λl3 Rr h3 _ _=> ?_;refine MV h3 Rr (by unfold î;omega) λl4 C r=> ?_;have le:=M.C;have hwn:Ã.wrap ((n:Int)+1)=((n+1:Nat):Int):=ä _ ⟨Z,Z⟩;rcases HI.out with⟨E,hE,q⟩|⟨h39,q⟩|q|⟨W,q,M'⟩
  .rw[q]at r|-;have t:(E==0)=ç:=by rwa[beq_eq_false_iff_ne]
   have K:(E !=0)=Î:=by simp[hE]
   dsimp only at r|-;walk_nrm;apply lI;apply fP (n:=80) C.r.r;iterate 47 w_nl fw
   refine Â λ_ _=> ?_;exact .fB λV e=>⟨C.C e,U,MZ (r.r e) (C.C e) M ⟨U,U,U,U,U⟩ Z λd z p G H=>I d z n s o v p G M H⟩
  .clear h39;rw[q]at r|-;dsimp only at r|-;walk_nrm;apply lI;apply fP (n:=80) C.r.r;repeat w_nl fw
   refine Â λ_ _=> ?_;refine yZ r C ò (λd p F P Q=>acA p F 52) λl5 t K _=> ?_;have k1:((-1:Int)==(n:Int)+1)=ç:=by rw[beq_eq_false_iff_ne];omega
   have k2:¬(-1:Int)=(n:Int)+1:=Z
   walk_nrm;apply fP (n:=80) t.r.r;iterate 21 w_nl fw
   refine Â λ_ _=> ?_;exact .fB λV e=>⟨t.C e,U,MZ (K.r e) (t.C e) M ⟨U,U,U,U,U⟩ Z λd z p G H=>I d z n s o v p G M H⟩
  .rw[q]at r|-;dsimp only at r|-;walk_nrm;apply lI;apply fP (n:=80) C.r.r;repeat w_nl fw
   refine Â λ_ _=> ?_;refine yZ r C ò (λd p F P Q=>acA p F 53) λl5 t K _=> ?_;have k1:((-1:Int)==(n:Int)+1)=ç:=by rw[beq_eq_false_iff_ne];omega
   have k2:¬(-1:Int)=(n:Int)+1:=Z
   walk_nrm;apply fP (n:=80) t.r.r;iterate 21 w_nl fw
   refine Â λ_ _=> ?_;exact .fB λV e=>⟨t.C e,U,MZ (K.r e) (t.C e) M ⟨U,U,U,U,U⟩ Z λd z p G H=>I d z n s o v p G M H⟩
  .rw[q]at r|-;dsimp only at r|-;walk_nrm;apply lI;apply fP (n:=80) C.r.r;repeat w_nl fw
   refine Â λ_ _=> ?_;refine yZ r C ò (λd p F P Q=>acw p F (g:=n+1) Z) λl5 t K _=> ?_;generalize n+1=m at*;walk_nrm;apply fP (n:=80) t.r.r;iterate 11 w_nl fw
   refine Â λ_ _=> ?_;exact .fB λV e=>⟨t.C e,U,MZ (K.r e) (t.C e) M' ⟨U,U,U,U,U⟩ Z λd z p G H=>I d z m _ s W p G M' H⟩
end
section
variable{l a:fc}{s e:List fF}{c:ą}
def atN(b:gB l)(e:nB<=l.w.heap.size)(f:n<18446744073709551616): fv.fi À Î (λa h=>jI l a/\a.d=l.d/\h=G (c.finish<|Á<|gh n) qX) l (G (É À 21 #[Æ ī n] ê)<|c::qX):= Ix b e fQ (λu h=>by simp at h;subst h;exact .iE _ _) (λh=>by cases h;rfl) (as5 n f) Î c qX
end
section
variable{l p g:fc}{c:Nat}{s o r:List fF}{v:fF}{f:Nat->ByteArray}{z:ą}{S T:ByteArray}
def atO(h:jb X W l m J s)(d:gB l)(e:B.size<=î)(f:ly s B=(T,0,o))(q:(T.toList==S.toList)=ç) (j:∀g,gB g->jb X W g m J o->iC vQ g (G (z.at (y.put ((Q[i]?).bind (·.dst))<|ï ç)<|Å Q jJ::L) qX)): iC vQ l (G (É À 20 #[Ë<|Ä ⟨m,0,à⟩,Á B,Á S] ê)<|z.at y (Å Q (i::jJ)::L)::qX):=by
 have hF:True:=trivial;rw[vR [_,_,_] 19 ó];simp only[å,Ù,Þ];conv in jZ _ _=>whnf
 apply lI;apply fP (n:=60) d.r.r;repeat w_go fw
 refine Â λ_ _=> ?_;refine E8 h d Č (args:=#[Ë<|Ä ⟨m,0,à⟩,Á B]) λr k p _ _=> ?_;refine MV p k e λu a b=> ?_;rw[f]at b|-;dsimp only at b|-;walk_nrm;apply lI;apply fP (n:=60) a.r.r;repeat w_nl fw
 u_in fw hF
 refine ċ (t:=6) U U ó U ⟨by u_nil,?_⟩;refine Â λ_ _=> ?_;exact .fB λv c=>⟨a.C c,U,j _ (a.C c)<|b.r c⟩
def atP(h:jb X W l m J s)(B:gB l)(M:s7 n s r v)(f:MF (Ô O b c) m n b d)(hN:b<=9223372036854775807) (C:∀g o,gB g->jb X W g m J o->vQ (ï Î) g.w):iC vQ l (Cv d):=by
 have hF:True:=trivial;obtain⟨u,rfl⟩:=rn d f.r;have I:u 0=Ô O b c:=by simpa using f.C
 have K:u 5=Ë (Ä ⟨m,0,à⟩):=by simpa using f.I
 have L:u 6=Æ Ã n:=by simpa using f.M
 have N:u 7=Æ Ã b:=by simpa using f.N
 clear f;have le:=M.C;have P:Ã.wrap ((n:Int)+1)=((n+1:Nat):Int):=ä _ ⟨Z,Z⟩;have Q:ī.wrap ((n+1:Nat):Int)=((n+1:Nat):Int):=by rw[Ł];omega
 let⟨S,o,E,e,F⟩:=ate M;obtain⟨a,x⟩:∃a,n+1=a:=⟨_,U⟩;rw[x]at P Q e;have T:a<18446744073709551616:=Z
 have i:=fe<|Ò E<|Ò e<|Ò F x;clear E e F M x;apply lI;apply fP (n:=60) B.r.r;simp only[Cv,Ç,Ó,ÿ,I,K,L,N];conv in IG=>whnf
 conv in UE=>whnf
 repeat w_go fw
 refine Â λ_ _=> ?_;refine yZ h B ķ (λg j k p qX=>atN (n:=a) j k T) λl2 G q _=> ?_;clear h;by_cases H:n<39
 .have k1:¬(39:Int)<=n:=Z
  have k2:(n:Int)<39:=Z
  have e:=i.out.2.1 H;generalize gh a=D at*;walk_nrm;refine E8 q G ó (args:=#[Ë<|Ä ⟨m,0,à⟩,Á ⟨#[105,104,58,97,47]⟩,Á D]) λV y j _ _=> ?_;refine atL j y A (by rw[i.out.1,e]) λY k z=> ?_;clear q j;walk_nrm;apply abH;apply fP (n:=60) k.r.r;repeat w_nl fw
  refine Â λ_ _=> ?_;exact .fB λA1 p=>⟨U,ï Î,λw=>abU (t:=4) U U Ĩ U fu,C _ _ (k.C p)<|z.r p⟩
 .obtain rfl:n=39:=Z
  obtain rfl:=i.out.2.2.2;have e:=i.out.2.2.1 H;walk_nrm;refine E8 q G ó (args:=#[Ë<|Ä ⟨m,0,à⟩,Á ⟨#[105,104,58,97,47]⟩,Á<|gh 40]) λV y j _ _=> ?_;refine atO j y A (by rw[i.out.1,e]) (by decide+kernel) λY k z=> ?_;clear q j;walk_nrm;apply abH;apply fP (n:=60) k.r.r;repeat w_nl fw
  refine Â λ_ _=> ?_;exact .fB λA1 p=>⟨U,ï Î,λw=>abU (t:=4) U U Ĩ U fu,C _ _ (k.C p)<|z.r p⟩
def acC(k:xT p O b f)(q:∀j,j<b->(f j).size<=10^15-3)(i:b<=9223372036854775807)(t:∀g s,gB g->jb p.O p.w g m J s->vQ (ï Î) g.w):∀(a j:Nat) (l:fc) (n:Nat) (s r:List fF) (v:fF) (d:Array Ê),b-j=a->j<=b->jb p.O p.w l m J s->gB l->s7 n s r v->MF (Ô O b c) m n j d->iC vQ l (Cv d)
 |0,j,l,n,s,r,v,d,hm,hj,h,hb,M,hT=>by
  have e:j=b:=Z
  subst e;exact atP h hb M hT i t
 |a+1,j,l,n,s,r,v,d,hm,hj,h,hb,M,hT=>Rk h hb k M hT i Z (q j Z) λg e u o x y z B C D=>acC k q i t a (j+1) g u o x y e Z Z B z C D
def atQ(p:gB l)(u:nz l.w)(x:∀d,d=1\/d=2\/d=3\/d=4->l.O d)(C:xT l O b f)(D:∀j,j<b->(f j).size<=10^15-3)(E:b<=9223372036854775807)(k:Int)(F:-9223372036854775808<=k)(H:k<=9223372036854775807) (I:∀g,gB g->(∀d,l.O d->g.O d/\g.w.heap[d]?=l.w.heap[d]?)->l.w.heap.size<=g.w.heap.size->vQ (ï Î) g.w): iC vQ l (G (É À 5 #[Ô O b c,Æ Ã k] ê) []):=by
 have hF:True:=trivial;rw[vR [_,_] 80 Ĩ];simp only[å,Ù,Þ];conv in jZ _ _=>whnf
 apply lI;apply fP (n:=40) p.r.r;repeat w_go fw
 refine Â λ_ _=> ?_;refine .fB λQ t=>⟨p.C t,U,?_⟩;have y:=p.C t;refine E4 (f:=15) (args:=#[Æ Ã k]) y U fQ (by k_ne) (λw=>by go_simp) (λw=>Ú U Tryz.func15 U U #[]) λK h=> ?_;have r:fH l l.w K:=t.fg ⟨h.r,h.I,h.N,h.Y,h.S⟩;refine asj (y.C h) (u.r (õ u.fx r.r) λd q=>r.I d<|Ø<|x d q) x k F H λL m J M V i o=> ?_;have N:l.w.heap.size<=m:=õ r.r o.I;have P:jb l.O l.w L m J [gP.mD]:=⟨⟨M,V,o.r⟩,λd q=>⟨⟨(o.C d q).1,(o.C d q).2.trans<|r.I d<|Ø q⟩,by have:=p.r.fx d<|Ø q;omega⟩⟩;clear o;walk_nrm;apply lI;apply fP (n:=40) i.r.r;repeat w_go fw
 refine Â λ_ _=> ?_;apply o5 (v:=ï ç) U fQ (by k_ne) i.r.r i.q (λw _=>by go_simp) (λw _ e z=>by simp[go_sem,abR]at z);walk_nrm;apply fP (n:=60) i.r.r;repeat w_bar fw
 w_go fw
 refine Â λ_ _=> ?_;exact .fB λS e=>⟨i.C e,U,acC C D E (λg s z B=>I g z (λd q=>(B.C d q).1) (by let⟨_,_,q⟩:=B.a;exact õ N<|Nat.le_of_lt<|z.r.fx m<|Ø q.fp)) b 0 _ 0 _ [] gP.mD _ Z (Í _) (P.r e) (i.C e) ⟨U,U,U,(λ_ q=>by cases q),rfl,A⟩ ⟨rfl,rfl,rfl,rfl,rfl⟩⟩
end
def atS(d:nz W){N c:Nat}{f:Nat->ByteArray}(e:xT (Iy W) O N f)(g:∀j,j<N->(f j).size<=10^15-3)(h:N<=9223372036854775807)(a:Int)(i:-9223372036854775808<=a)(k:a<=9223372036854775807): rV (λv w'=>v=ï Î/\nF W w') #[G (É À 5 #[Ô O N c,Æ Ã a] ê) []] W à #[]:= asu (l:=Iy W) (atQ (abV W) d (asv d) e g h a i k λn _ v m=>⟨U,λb q=>(v b q).2,m⟩) (abV W) U
end Go.Proofs.Y.kS
