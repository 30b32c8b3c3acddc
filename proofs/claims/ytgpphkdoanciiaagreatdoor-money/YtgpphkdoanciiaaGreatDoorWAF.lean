import Derived.Test.YtgpphkdoanciiaaGreatDoorWAE
import Derived.Lib.LaidTab
import Derived.OpenShut
import Derived.Test.YtgpphkdoanciiaaGreatDoorRows
import Derived.Conc.LeavingOf
import Derived.LaidMore
import Derived.Stop.Joined
import Derived.Carry
set_option linter.all false
set_option maxRecDepth 1000000
set_option maxHeartbeats 8000000
open Go.Proofs.Tryz renaming prog->À,func18->ò,func20->ó,func17->Č,underlying36->Ē,t9->ĕ,underlying25->Ė,underlying3->Ę,underlying5->ę,func24->ğ,func26->Ġ,func19->ġ,func5->Ĩ,ntmps18->ĳ,f5->Ĵ,func21->ķ,func16->Ĺ,type9->Ļ,f24->Ň,f19->Ŋ
open Go.Value renaming string->Á,int->Æ,pointer->Ë,slice->Ô,bool->ï,tuple->ň
open Go.Conc.Goes renaming stop->Â
open Go.IntKind renaming i64->Ã,wrap_i64->Ø,u64->ī,wrap_u64->Ł,u8->ō
open Option renaming some->Ä,map_eq_some_iff->Ü,none->á,map_some->ģ
open Go.Item renaming inRegion->Å,inBlock->Ĕ,code->Ğ,inLoop->ı
open List renaming range->Ç,cons_append->Ú,mem_singleton->Þ,nil_append->ß,getElem?_map->à,replicate->æ,getElem?_eq_getElem->è,length_append->ì,drop_eq_getElem_cons->ö,extract_eq_take_drop->ø,foldl_append->ù,take->ü,drop->ý,getD->þ,map->ÿ,mem_map->Ā,drop_eq_nil_of_le->Ă,getElem?_range->č,map_congr_left->Ď,getElem?_drop->Đ,take_add_one->ē,append_nil->Ĥ,mem_append->ĥ,mem_range->ħ,mem_cons->Ī
open Nat renaming le_refl->È,zero_le->Í,le_trans->õ,strongRecOn->ă,one_pos->ĉ,pow_succ->Ĳ
open Go.Frame renaming enter->É
open Go renaming Value->Ê,World->Ì,maxLen->î,Frame->ą,Goroutine->ě,execOp->ĝ,laidMetH->Ħ,Act->ĩ,Code->ĭ,TypeId->ĵ,DataW->Ķ,IntKind->ļ,Oper->ń,Calls->ņ
open Bool renaming true->Î,false->ç
open ByteArray renaming size_append->Ï,data_extract->Ý,getElem_eq_getElem_data->í,data_append->ð,ext->ď,append_assoc->Į,append_empty->į,extract->ľ,size->ŉ
open Go.Proofs.YtgpphkdoanciiaaGreatDoor.Rows renaming laid_math_bits_deBruijn32tab->Ð,laid_math_bits_deBruijn64tab->Ñ,laid_attic_attic_stepRules->Õ,laid_internal_strconv_uint64pow10->â
open And renaming intro->Ò
open List.range renaming loop->Ó
open Array renaming length_toList->Ö,toList_extract->ä,getElem_toList->ñ,toList_append->ô
open Or renaming inl->Ù,inr->Ċ
open Go.Conc renaming events_call_body->Û,goes_leave1->ċ
open UInt8 renaming ofNat->ã,toNat_inj->Ą
open Go.IntWalk renaming i64_in->å
open Option.some renaming inj->é,injEq->Ľ
open Go.CallKind renaming normal->ê
open Go.DataW renaming trod->ë,trod_int->ć,agg->ŏ
open Go.Obj renaming cells->ú,row?->Ņ
open Go.Instr renaming sliceAt->û,sliceBound->Ĝ,slice->ĸ
open Go.Code renaming wp->ā,wp_mono->İ,loop->ŀ
open Go.Lib renaming tabData->Ć,nDigits_small->ė
open Go.World renaming cell?->Ĉ,var?->ĺ
variable{i n j b k m J j9 j7 j6:Nat}{w u W jX:Ì}{v x z jQ:Ê}{h c:Int}{e t T:ĵ}{d q:Array Ê}{P:Go.Program}{y:ĩ}{B:ByteArray}{X:Nat->Prop}{O:Option Go.Addr}{l:List Ê}{yQ:Bool}{K H:ĩ->Ì->Prop}{o:ń}{D:Nat->Nat}{L:List Go.Item}{jJ:List Nat}{qX:List ą}{zQ:List Int}{xJ:Nat×Nat}{vX:List ByteArray}{vQ:Ê->Ì->Prop}{Q:Array ń}{f:ą}
namespace Go.Proofs.Y.kT
open Go Go.Conc Go.Proofs Go.RowKit Go.Proofs.Y.Lift Go.Proofs.Y.gO Go.Proofs.Y.fu Go.Proofs.Y.ot
open Go.Proofs.YtgpphkdoanciiaaGreatDoor (Rows.laid_math_bits_deBruijn32tab Rows.laid_math_bits_deBruijn64tab Rows.laid_internal_strconv_uint64pow10 Rows.laid_attic_attic_stepRules)
def N6:List (String×DataW Unit):=[("math/bits.deBruijn32tab",Ð),("math/bits.deBruijn64tab",Ñ),("internal/strconv.uint64pow10",â),("attic/attic.stepRules",Õ)]
theorem N7(h:W.ShapedOpen À)(g:Nat)(t:ĵ)(b:g<À.globals.size)(e:(((begin À (λ_ _=>0) default).world.heap[g]?).bind Ņ).map (·.2)=Ä t): ∃a,W.heap[g]?=Ä (ú a t):=by let⟨⟨z,c⟩,d,f⟩:=Ü.1 e;let⟨a,i,_⟩:=h.1 g z c b d;grind
theorem abY{n:String}(b:À.globalNamed n=Ä i)(h:W.heap[i]?=Ä (ú q t xJ))(a:W.var? À n=Ä d):q=d:=by unfold ĺ at a;grind
def Uy{n:String}{N:Nat}{k:ļ}{p:List MemPlace} (a:À.globalNamed n=Ä i) (f:(À.globals[i]?).map (·.type)=Ä t) (h:À.underlying t=Ä (.array N e)) (l:À.underlying e=Ä (.int k)) (m:À.cellsOf e=1) (o:À.cellsOf t=N) (r:W.heap[i]?=Ä (ú d t xJ)) (s:À.globalNamed n=Ä b) (u:(À.globals[b]?).map (·.type)=Ä T) (v:W.var? À n=Ä q) (w:ë (λ_=>()) À W 0 (λ_=>Î) ç j T q.toList=Ä (Ć k zQ,p)):d=(zQ.map λz=>Æ k z).toArray:=by obtain rfl:=é<|a.symm.trans s;obtain rfl:=é<|f.symm.trans u;rw[abY a r v,<-Lib.cells_of_tab h l m o w]
def asv:À.cellsOf 299=3:=ft
def abZ:À.cellsOf 36=1:=ft
def asw:À.cellsOf 3=1:=ft
def asx:À.cellsOf 300=69:=ft
def asy{p:List MemPlace}(v:ë (λ_=>()) À W 0 (λ_=>Î) ç n 300 l=Ä (Õ,p)): l.length=69/\∀(i:Nat) (r:Int×Int×Int),iY[i]?=Ä r->l[i*3]?=Ä (Æ ī r.1)/\l[i*3+1]?=Ä (Æ Ã r.2.1)/\l[i*3+2]?=Ä (Æ Ã r.2.2):=by
 obtain⟨f,m,rfl,w,y,K,z⟩:=DataW.trod_array Tryz.underlying300 v;refine⟨y.trans asx,λi r o=> ?_⟩;have B:i<23:=by have:=(List.getElem?_eq_some_iff.1 o).1;exact this
 have g:=z i B;rw[asv]at g;have C:f.map (·.1)=iY.map λr=>(ŏ [.lit<|.int ī r.1,.lit<|.int Ã r.2.1,.lit<|.int Ã r.2.2]:Ķ Unit):=by have:=congrArg Prod.fst w;simp only[Õ,DataW.agg.injEq]at this;exact this.symm
 obtain⟨x,q⟩:∃x,f[i]?=Ä x:=⟨_,è Z⟩;rw[q]at g;have d:(f.map (·.1))[i]?=Ä x.1:=by simp[q]
 rw[C]at d;simp only[à,o,ģ,Ľ]at d;obtain⟨e,h,rfl,j,L,D,k⟩:=DataW.trod_struct Tryz.underlying299 g;have a:=k 0 _ U;have b:=k 1 _ U;have c:=k 2 _ U;have a:ë _ À W 0 _ ç h 36 (ü (À.cellsOf 36)<|ý 0<|ü 3<|ý (i*3) l)=e[0]?:=a;have b:ë _ À W 0 _ ç h 3 (ü (À.cellsOf 3)<|ý 1<|ü 3<|ý (i*3) l)=e[1]?:=b;have c:ë _ À W 0 _ ç h 3 (ü (À.cellsOf 3)<|ý 2<|ü 3<|ý (i*3) l)=e[2]?:=c;rw[abZ]at a;rw[asw]at b c;match e,D,j,a,b,c with
 |[y0,y1,y2],_,j,a,b,c=>
  let⟨M,E,F,_⟩:=ć Ē (show ë _ _ _ _ _ _ _ 36 _=Ä y0 from a);let⟨N,G,H,_⟩:=ć Ę (show ë _ _ _ _ _ _ _ 3 _=Ä y1 from b);let⟨O,I,J,_⟩:=ć Ę (show ë _ _ _ _ _ _ _ 3 _=Ä y2 from c);subst F;subst H;subst J;rw[j]at d;simp only[List.map_cons,List.map_nil,DataW.agg.injEq,List.cons.injEq,DataW.lit.injEq,Lit.int.injEq,true_and,and_true]at d;obtain⟨rfl,rfl,rfl⟩:=d;have s:=congrArg (·[0]?) E;have t:=congrArg (·[0]?) G;have u:=congrArg (·[0]?) I;simp[List.getElem?_take,Đ]at s t u;exact⟨s,t,u⟩
def ab0(h:∀v∈d.toList,∃k n,v=Æ k n):fQ (lh X i) d d:=pA λv a=>by obtain⟨k,n,rfl⟩:=h v a;exact .iD _ _
def asz{l:List (String×DataW Unit)}(h:Ħ P l W)(a:(l.filter λx=>x.2.handleName?.isSome)=[]):∃b,DataW.LaidVars P W l b:=by unfold Ħ at h;rw[a]at h;exact⟨h.choose,h.choose_spec.1⟩
def asA:À.cellsOf 304=32:=ft
def asB:À.cellsOf 305=64:=ft
def asC:À.cellsOf 291=20:=ft
def ab1:À.cellsOf 5=1:=ft
def gn1:À.globalNamed "internal/strconv.uint64pow10"=Ä 1:=ft
def gn2:À.globalNamed "attic/attic.stepRules"=Ä 2:=ft
def gn3:À.globalNamed "math/bits.deBruijn32tab"=Ä 3:=ft
def gn4:À.globalNamed "math/bits.deBruijn64tab"=Ä 4:=ft
def N8(g:Nat)(t:ĵ)(h:(g,t)∈[(1,291),(2,300),(3,304),(4,305)]):(À.globals[g]?).map (·.type)=Ä t/\g<À.globals.size/\(((begin À (λ_ _=>0) default).world.heap[g]?).bind Ņ).map (·.2)=Ä t:=by
 simp only[Ī,List.not_mem_nil,or_false,Prod.mk.injEq]at h;rcases h with⟨rfl,rfl⟩|⟨rfl,rfl⟩|⟨rfl,rfl⟩|⟨rfl,rfl⟩
 .exact⟨ft,of_decide_eq_true ft,ft⟩
 .exact⟨ft,of_decide_eq_true ft,ft⟩
 .exact⟨ft,of_decide_eq_true ft,ft⟩
 .exact⟨ft,of_decide_eq_true ft,ft⟩
def asD:Ķ Unit->Int
 |.lit (.int _ z)=>z
 |_=>0
def ab2:Ķ Unit->List Int
 |ŏ l=>l.map asD
 |_=>[]
def asE:(Ð:Ķ Unit)=Ć ō (ab2 Ð):=rfl
def asF:(Ñ:Ķ Unit)=Ć ō (ab2 Ñ):=rfl
def asG:(â:Ķ Unit)=Ć ī Lib.pow10Tab:=rfl
def asH{k:ļ}:∀v∈(zQ.map λz=>Æ k z).toArray.toList,∃k n,v=Æ k n:=λv a=>by simp only[Ā]at a;obtain⟨z,_,rfl⟩:=a;exact⟨_,_,U⟩
def asI(k:Nat)(h:k<69):∃i j,i<23/\j<3/\k=i*3+j:=⟨k/3,k%3,Z,Z,Z⟩
theorem asJ{W:Ì}(hs:W.ShapedOpen À)(hl:Ħ À N6 W):nA W:=by
 obtain⟨ps,g3,t3,cs3,f3,p3,q3,Uq,ht3,hv3,rJ,⟨g4,t4,cs4,f4,p4,q4,hg4,H5,hv4,SF,⟨g1,t1,cs1,f1,p1,q1,uD,Cj,hv1,CL,⟨g2,t2,cs2,f2,p2,q2,Mv,Ky,Ny,mT,_,_⟩,_⟩,_⟩,_⟩:=asz hl (by kernel_rfl);obtain⟨y1,s1,z1⟩:=N8 1 291 (by simp);obtain⟨y2,s2,z2⟩:=N8 2 300 (by simp);obtain⟨y3,s3,z3⟩:=N8 3 304 (by simp);obtain⟨y4,s4,z4⟩:=N8 4 305 (by simp);obtain⟨c1,b1⟩:=N7 hs 1 291 s1 z1;obtain⟨c2,b2⟩:=N7 hs 2 300 s2 z2;obtain⟨c3,b3⟩:=N7 hs 3 304 s3 z3;obtain⟨c4,b4⟩:=N7 hs 4 305 s4 z4;rw[asE]at rJ;rw[asF]at SF;rw[asG]at CL;have e3:=Uy gn3 y3 Tryz.underlying304 ę ab1 asA b3 Uq ht3 hv3 rJ;have e4:=Uy gn4 y4 Tryz.underlying305 ę ab1 asB b4 hg4 H5 hv4 SF;have e1:=Uy gn1 y1 Tryz.underlying291 Ē abZ asC b1 uD Cj hv1 CL;obtain rfl:=é (gn2.symm.trans Mv);obtain rfl:=é (y2.symm.trans Ky);obtain⟨hlen,mr⟩:=asy mT;have e2:=abY gn2 b2 Ny;subst e2;have asK:=λi r hr=>by have:=mr i r hr;simpa using this
 have ab3:∀(k:Nat) (v:Ê),c2[k]?=Ä v->∃(kd:ļ) (n:Int),v=Æ kd n/\kd≠ō:=λk v hv=>by
  have hk:k<69:=by grind
  obtain⟨i,j,hi,hj,rfl⟩:=asI k hk;obtain⟨r,hr⟩:∃r,iY[i]?=Ä r:=⟨_,è (show i<iY.length from hi)⟩;grind
 have jr:=(Array.getElem?_eq_some_iff.1 b4).1;refine⟨?_,?_,⟨c3,_,b3,Í _,Í _,?_,?_⟩,⟨c4,_,b4,Í _,Í _,?_,?_⟩,?_,⟨⟨c2,_,b2⟩,λi r hr=> ?_⟩,?_⟩
 .have h5:nB=5:=by kernel_rfl
  omega
 .rintro b (rfl|rfl)
  .refine⟨c1,291,_,b1,Í _,ab0 (by rw[e1];exact asH),by rw[e1];exact of_decide_eq_true (by kernel_rfl),λk v hv=> ?_,by decide,by decide⟩;rw[e1]at hv;simp only[List.getElem?_toArray,à,Ü]at hv;obtain⟨z,_,rfl⟩:=hv;rfl
  .refine⟨c2,300,_,b2,Í _,ab0 λv hv=> ?_,?_,λk v hv=> ?_,by decide,by decide⟩
   .obtain⟨k,hk,e⟩:=List.mem_iff_getElem.1 hv;obtain⟨kd,n,e',_⟩:=ab3 k v (by rw[<-e];simp);grind
   .grind
   .obtain⟨kd,n,rfl,hn⟩:=ab3 k v hv;cases kd<;>first|rfl|exact absurd rfl hn
 .rw[e3];exact of_decide_eq_true (by kernel_rfl)
 .grind
 .rw[e4];exact of_decide_eq_true (by kernel_rfl)
 .grind
 .unfold gO.lL Lib.TabIs ĺ;rw[gn1];grind
 .obtain⟨h0,h1,h2⟩:=asK i r hr;exact⟨by simp only[Ĉ,b2];exact h0,by simp only[Ĉ,b2];exact h1,by simp only[Ĉ,b2];exact h2⟩
 .unfold qt;simp only[Ĉ,b4,e4];rfl
end Go.Proofs.Y.kT
namespace Go.Proofs.Y.kT
open Go Go.Conc Go.Proofs Go.RowKit Go.Proofs.Y.Lift Go.Proofs.Y.gO Go.Proofs.Y.fu Go.Proofs.Y.ot
open Go.Proofs.YtgpphkdoanciiaaGreatDoor (Rows.workersSpec Rows.workersRow Rows.WorkersSaid Tryz.pinned)
open Go.ChangeShapes Go.WideShapes Go.ChangeAt
def fp:ownKnob À.godebug=á:=ft
def asL:laidOutB À=Î:=ft
def asM{w':Ì}(h:nI W w')(a:w'.os=W.os)(b:w'.output=W.output):Below W.heap.size W {w' with tape:=W.tape}:=⟨a,U,b,h.Ep,h.ru⟩
def asN(os:Os)(a:Array Ê):Ħ À N6 ((World.doorLaid À 400 os).forCall (λ_ _=>0) ⟨#[],a,[]⟩).memory:= laidMetH_of_parts3 (fuel:=8) (laidMet_of_run' 8 ft ft) ft ft
end Go.Proofs.Y.kT
namespace Go.Proofs.Y.gO
open Go Go.Proofs Go.RowKit Go.Proofs.Y.Lift
def lA(s:St):Int:=(s 0).fl+(s 1).fl+(s 2).fl+(s 3).fl+(s 4).fl+(s 5).fl+(s 6).fl+(s 7).fl
section
variable{s:St}{T:Int}
def DR(a:i<8)(b:Int):lA (s.fl i b)=lA s-(s i).fl+b:=by
 have h:i=0\/i=1\/i=2\/i=3\/i=4\/i=5\/i=6\/i=7:=Z
 unfold lA St.fl St.fW;rcases h with rfl|rfl|rfl|rfl|rfl|rfl|rfl|rfl<;>simp<;>omega
def ab4(a:gF s)(b:i<8):(s i).fl<=lA s:=by
 have h:i=0\/i=1\/i=2\/i=3\/i=4\/i=5\/i=6\/i=7:=Z
 have:=λi=>(a.fl i).1;have c:=this 0;have d:=this 1;have e:=this 2;have f:=this 3;have g:=this 4;have j:=this 5;have k:=this 6;have l:=this 7;unfold lA;rcases h with rfl|rfl|rfl|rfl|rfl|rfl|rfl|rfl<;>omega
def ab5{a:Fw}(h:a.fl=(s i).fl):lA (s.fW i a)=lA s:=by
 have e:∀j,(s.fW i a j).fl=(s j).fl:=λj=>by
  unfold St.fW;split
  .rename_i q;rw[h,q]
  .rfl
 unfold lA;simp only[e]
def JZ(a:gF s)(b:i<8)(c:0<=h)(d:lA s+h<18446744073709551616):lA (s.fl i<|wu<|(s i).fl+h)=lA s+h:=by have:=ab4 a b;have e:=(a.fl i).1;rw[Z6 Z Z,DR b];omega
def asO(f:T<18446744073709551616)(q:Int)(a:gF s)(b:i<8)(d:fY c)(h:lA s=T):lA (pn s i q c).2=T:=by
 unfold pn;split
 .exact h
 .rename_i g;have e:=d.1;have j:=(a.fl i).2;rw[JZ (a.r i ⟨Z,Z⟩) Z e (by rw[DR b];omega),DR b];omega
def asP(a:T<18446744073709551616):Nd (λs _=>lA s=T) gk:=Tt ⟨λy j v h=>by rw[<-h];exact ab5 fO,λq _ b c d h=>asO a q b c d h,λ_ _ h=>h⟩ 4
def asQ(r:T<18446744073709551616)(d:gF s)(h:lA s=T){ls:List (Nat×Int)}{t:Tx}(a:t.Ok)(u:(ls.length:Int)+400<=1000000)(c:(lb s ls t).2.1=Î):lA (lb s ls t).2.2.1=T-(lb s ls t).1.1:=by
 have l:=a.I;have v:=a.M;unfold lb at c|-;split
 .rename_i f;rw[if_pos f]at c;unfold vG at c|-;split
  .rename_i q;rw[if_pos q]at c;cases c
  .have m:=(d.fl t.x).2;show lA ((s.fl t.x _).fl t.y _)=T-10;rw[JZ (d.r t.x ⟨Z,Z⟩) a.y l (by rw[DR a.x];omega),DR a.x];omega
 .rename_i f;rw[if_neg f]at c;split
  .rename_i g;rw[if_pos g]at c;unfold vH at c|-;split
   .rename_i q;rw[if_pos q]at c;cases c
   .show lA ((s.fl t.x _).C t.x _)=T-20;refine(ab5 fO).trans ?_;rw[DR a.x];omega
  .rename_i g;rw[if_neg g]at c;unfold xD at c|-;split
   .rename_i q;rw[if_pos q]at c;cases c
   .rename_i q;have m:=(d.fl t.x).2;have i:=d.r t.x (b:=(s t.x).fl-t.n) ⟨Z,Z⟩;have j:fY t.k:=⟨a.r,by have:=a.C;omega⟩;have w:=DR (s:=s) a.x<|(s t.x).fl-t.n;have e:=Jb _ ls t.x t.y (t.n-10) t.k i a.x a.y j Z Z Z;have o:=asP (T:=T-t.n) Z _ ls t.x t.y (t.n-10) t.k i a.x a.y j Z Z Z Z;have z:=e.C;have B:=e.r;have p:=e.N;simp only at o;show lA ((gk _ _ _ _ _ _).s.fl t.x _)=T-(_+10);rw[JZ p a.x Z Z];omega
def ab6(c:m<8)(f:T<18446744073709551616):∀(a:List Tx) {s:St} {ls:List (Nat×Int)} {b:List (Int×Bool)} {r:St×List (Nat×Int)×List (Int×Bool)},(∀t∈a,t.Ok)->gF s->ls.length+400*a.length<=400000->lA s=T->rR m s ls b a=Ä r->lA r.1=T/\gF r.1
 |[],s,ls,b,r,_,hs,_,e,h=>by cases h;exact⟨e,hs⟩
 |t::q,s,ls,b,r,ht,hs,n1,e,h=>by
  unfold rR at h;simp only[List.length_cons]at n1;split at h
  .rename_i g;have d:=Te (ls:=ls) hs (ht t fj) Z;have k:=d.r;have l:=asQ f hs e (ht t fj) Z g;exact ab6 c f q (λi j=>ht i<|List.mem_cons_of_mem _ j) (d.s.r m<|xA _) Z (by rw[JZ d.s c d.g0 Z];omega) h
  .cases h
def asR(b:m<8){a:List Tx}{r:St×List (Nat×Int)×List (Int×Bool)}(c:∀t∈a,t.Ok)(d:gF s)(j:a.length<=1000)(k:T+50<18446744073709551616)(h:lA s=T)(e:s8 m s a=Ä r):lA r.1=T+50:=by unfold s8 at e;obtain⟨f,g,rfl⟩:=Ü.1 e;let⟨l,i⟩:=ab6 b Z a c d (by simp;omega) h g;show lA (f.1.fl m _)=_;rw[JZ i b A Z];omega
end
end Go.Proofs.Y.gO
namespace Go.Proofs.Y.ot
open Go Go.Proofs Go.RowKit Go.Proofs.Y.Lift Go.Proofs.Y.gO
def tw(B:ByteArray)(c:UInt8):Nat->Nat->Nat->List ByteArray
 |0,fr,_=>[B.extract fr B.size]
 |f+1,fr,i=>if h:i<B.size then if B[i]=c then B.extract fr i::tw B c f (i+1) (i+1)else tw B c f fr (i+1)else[B.extract fr B.size]
def ab7:List Int->List (List Int)
 |[]=>[[]]
 |a::l=>(a::l)::ab7 l
def DU:List (List Int):=[[86,58,120,47,66],[86,58,120,115],[86,58,120],[86,58,120,62,121,40,110,44,107,41],[86,58,120,62,121,40,107,41],[86,58,87],[86],[121,61,110],[80],[120,84],[82]].flatMap ab7
def asS:∀r∈DU,r.tail∈DU:=A
def asT(k:Int):pE k∈DU/\pE k≠[82]:=by
 unfold pE;repeat' split
 all_goals decide
end Go.Proofs.Y.ot
namespace Go.Proofs.Y.kT
open Go Go.Conc Go.Proofs Go.RowKit Go.Proofs.Y.Lift Go.Proofs.Y.gO Go.Proofs.Y.fu Go.Proofs.Y.ot
open Go.Conc.Lib Go.ConcR.Gen Go.Proofs.YtgpphkdoanciiaaGreatDoor
def rf(r:PR):Int×Nat×List Tx:=(r.c.getD 5 0,(r.c.getD 0 0).toNat,r.r.map toTx)
def xY(r:PR)(s:List fG):ByteArray:=if r.c.getD 4 0=1 then(pv (kH s) (rf r).1 (rf r).2.1 (rf r).2.2).2 else qu (kH s) (toQn r)
def zY(s:List fG)(r:PR):List fG:=if r.c.getD 4 0=1 then zL s (rf r)else s
def qV(s:List fG)(rs:List PR):List fG:=rs.foldl zY s
def ab8{kd:Nat->Int}(h:kd i=1):∀n,i<n->(gW kd n).getD (fJ kd i) 0=i
 |0,q=>by omega
 |n+1,q=>by
  have a:i<n->∀x,(gW kd n++x).getD (fJ kd i) 0=i:=λz x=>by
   have b:fJ kd i<(gW kd n).length:=by
    have e:∀m,i+1<=m->(gW kd<|i+1).length<=(gW kd m).length:=λm=>by
     induction m with
     |zero=>intro z;omega
     |succ m c=>
      intro z;rcases Nat.lt_or_ge i m with y|y
      .apply õ (c y);by_cases q:kd m=1
       .rw[sX q];simp
       .rw[vz q];exact È _
      .rw[show m=i by omega];exact È _
    have:=e n z;rw[sX h]at this;unfold fJ;simp at this;omega
   have:=ab8 h n z;simp only[þ,List.getElem?_append_left b]at this|-;exact this
  by_cases z:i<n
  .by_cases q:kd n=1
   .rw[sX q];exact a z _
   .rw[vz q];have:=a z [];rwa[Ĥ]at this
  .obtain rfl:i=n:=Z
   rw[sX h];simp[þ,fJ]
section
variable{rs:List PR}{s:List fG}{P:ByteArray}
def Uz:∀p,p<=rs.length->pD (vU rs) (gW (kO rs) rs.length) s (fJ (kO rs) p)=qV s (rs.take p)
 |0,_=>by simp[fJ,gW,pD,qV]
 |p+1,h=>by
  have a:=Uz p Z;have b:rs.take (p+1)=rs.take p++[rs.getD p oQ]:=by rw[ē];congr 1;simp[þ,show p<rs.length by omega]
  unfold qV at a|-;rw[b,ù,<-a];show _=zY _ _;unfold zY;by_cases q:kO rs p=1
  .rw[if_pos (show(rs.getD p oQ).c.getD 4 0=1 from q)];have e:fJ (kO rs) (p+1)=fJ (kO rs) p+1:=by unfold fJ;rw[sX q];simp
   rw[e];show zL _ _=_;rw[ab8 q _ Z];rfl
  .rw[if_neg (show¬(rs.getD p oQ).c.getD 4 0=1 from q)];have e:fJ (kO rs) (p+1)=fJ (kO rs) p:=by unfold fJ;rw[vz q]
   rw[e]
def asU{p:Nat}(h:p<rs.length):(kP rs s)[p]?=Ä (xY (rs.getD p oQ)<|qV s<|rs.take p):=by unfold kP;rw[à,č h,ģ,Uz p Z];rfl
def asV:vV rs s=qV s rs:=by unfold vV;rw[Uz _<|È _,List.take_length]
def ab9{r:PR}(h:iA P=(0,0,[r])):lz s P=(xY r s,0,zY s r):=by
 have a:=asU (rs:=[r]) (s:=s) (p:=0) ĉ;have e:kP [r] s=[xY r s]:=by
  match hx:kP [r] s,N4 with
  |[y],_=>
   rw[hx]at a;simpa[qV]using a
 unfold lz;rw[h];simp only[if_true,e,asV];rw[show kF ⟨#[59]⟩ [xY r s]=xY r s from ď (by simp[kF,aau,om])];rfl
end
theorem acd(h:(iA B).1=0):iA B=(0,0,(iA B).2.2):=by unfold iA at h|-;grind
def asW{α β:Type}(f:α->β)(d:α)(l:List α):((Ç l.length).map λi=>f<|l.getD i d)=l.map f:=by
 refine List.ext_getElem fj λi b a=> ?_;have h:i<l.length:=by simpa using a
 simp[þ,h]
def asX{s:List fG}{a:List PR}(h:iA B=(0,0,a))(f:∀r∈a,r.c.getD 4 0≠1):lz s B=(kF ⟨#[59]⟩ (a.map λr=>qu (kH s)<|toQn r),0,s):=by
 have d:∀p,p<a.length->kO a p≠1:=λp b=>f _ (by simp[þ,b]);have e:∀p,p<=a.length->gW (kO a) p=[]:=λp b=>by unfold gW;rw[List.filter_eq_nil_iff];intro j g;have:=ħ.1 g;simpa using d j Z
 have g:kP a s=a.map λr=>qu (kH s) (toQn r):=by rw[<-asW (λr=>qu (kH s)<|toQn r) oQ];unfold kP;refine Ď λp b=> ?_;have b:=ħ.1 b;unfold fJ vM;rw[e p Z,if_neg<|d p b];rfl
 have j:vV a s=s:=by unfold vV fJ;rw[e _<|È _];rfl
 unfold lz;rw[h];simp only[g,j,if_true]
def zZ(d:Nat):ByteArray:=ľ ⟨#[48,49,50,51,52,53,54,55,56,57]⟩ d<|d+1
def asY:(Ç 10).map zZ=(Ç 10).map λd=>⟨#[ã<|48+d]⟩:=ft
def z8(h:i<10):zZ i=⟨#[ã<|48+i]⟩:=by have:=congrArg (λl=>l[i]?) asY;simpa[h]using this
def J0(h:i<10):gf i=zZ i:=by unfold gf;rw[Lib.decDigits_one h,z8 h]
def J3(h:¬n<10):gf n=gf (n/10)++zZ (n%10):=by rw[z8 Z];unfold gf;rw[Lib.decDigits,dif_neg h];apply ď;simp_all
noncomputable def N9:ĭ:=(Tryz.f21.body.bind gO.km).getD .skip
def Gr(n:Int)(s:ByteArray)(u:Nat->Ê):ĩ:=⟨#[Æ ī n,u 1,u 2,Á s,u 4,u 5,u 6,u 7,u 8,u 9,u 10,u 11,u 12,u 13,u 14,u 15,u 16,u 17,u 18,u 19,u 20,u 21,u 22,u 23,u 24,u 25,u 26],[]⟩
def Gs(n:Int)(s:ByteArray)(a:ĩ):Prop:=∃u,a=Gr n s u
def ace{s:ByteArray}(h:i<10)(a:s.size<=20):Ã.wrap ((i:Int)+1)=(i:Int)+1/\Ã.wrap (i:Int)=i/\(0:Int)<=(i:Int)+1/\(i:Int)+1<=10/\(i:Int)<=(i:Int)+1/\((i:Int)+1).toNat=i+1/\¬9223372036854775807<min (i+1) 10-i+s.size:=by rw[Ø,Ø];omega
section
variable{s:ByteArray}
def asZ(u:Nat->Ê)(c:n<10)(b:∀a,Gs n s a->H a w):ā À N9 (Exit.then K<|QE 0 H) (Gr n s u) w:=by
 unfold Gr;conv=>arg 2;whnf
 go_wp2_with fail
 exact⟨U,b _ (gO.gi _)⟩
def as0(u:Nat->Ê)(f:¬n<10)(g:n<18446744073709551616)(h:s.size<=20)(c:∀a,Gs ((n/10:Nat):Int) (zZ (n%10)++s) a->K a w):ā À N9 (Exit.then K<|QE 0 H) (Gr n s u) w:=by
 unfold Gr;conv=>arg 2;whnf
 have i:(n:Int).tmod 10=((n%10:Nat):Int):=by rw[Int.tmod_eq_emod_of_nonneg Z];omega
 have j:(n:Int).tdiv 10=((n/10:Nat):Int):=by rw[Int.tdiv_eq_ediv_of_nonneg Z];omega
 have b:=fe c;clear c;have e:n%10<10:=Z
 have k:n/10<18446744073709551616:=Z
 generalize n%10=d at*;generalize n/10=q at*;let⟨l,m,o,p,r,t,v⟩:=ace e (s:=s) Z;go_wp2_with fail;exact b.out _ (gO.gi _)
def UA(b:ByteArray)(c:Ì)(a:ĩ)(w:Ì):Prop:=∃(n:Nat) (s:ByteArray),Gs n s a/\n<18446744073709551616/\gf n++s=b/\w=c
def UB(b:ByteArray)(c:Ì)(a:ĩ)(w:Ì):Prop:=∃(n:Nat) (s:ByteArray),Gs n s a/\n<10/\zZ n++s=b/\w=c
def xF(a:ĩ)(_:Ì):Nat:=match a.tmps.getD 0 undef with
 |Æ _ i=>i.toNat
 |_=>0
def Jo(b:Gs n s y):xF y w=n:=by obtain⟨u,rfl⟩:=b;show(n:Int).toNat=_;simp
def as1(i:B.size<=20)(a:ĩ)(w:Ì)(g:UA B u a w): ā À N9 (Exit.then (λb c=>UA B u b c/\xF b c<xF a w)<|QE 0<|UB B u) a w:=by
 let⟨n,s,e,h,d,f⟩:=g;rw[Jo e];obtain⟨b,rfl⟩:=e;have j:(gf n).size+s.size=B.size:=by rw[<-d,Ï]
 by_cases c:n<10
 .exact asZ b c λa q=>⟨n,s,q,c,by rwa[<-J0 c],f⟩
 .refine as0 b c h Z λa q=>⟨⟨n/10,_,q,Z,?_,f⟩,by rw[Jo q];omega⟩;rwa[<-Į,<-J3 c]
def as2(n:Nat)(b:n<18446744073709551616)(w:Ì):ņ À 21 #[Æ ī n] w λe f=>e=.returned (Á<|gf n)/\f=w:=by
 have L:∀a,Gs n ⟨#[]⟩ a->ā À (ŀ N9) (QE 0<|UB (gf n) w) a w:=λa g=>
  wp_loop (UA (gf n) w) xF ⟨n,⟨#[]⟩,g,b,į,U⟩<|as1<|pw n b
 have H:=fe<|Ò L<|pw n b;generalize gf n=res at*;clear L;go_enter ķ,Tryz.ntmps21;go_wp2_with fail;refine İ (Q:=QE 0<|UB res w) ?_ (H.out.1 _ (gO.gi _));rintro(_|_|_|_|_|_) a v hq;all_goals first|exact absurd hq id|skip
 obtain⟨rfl,d,s,h,i,c,rfl⟩:=hq;obtain⟨u,rfl⟩:=h;unfold Gr;have j:(zZ d).size+s.size=res.size:=by rw[<-c,Ï]
 have l:=H.out.2;let⟨m,o,p,q,r,t,x⟩:=ace i (s:=s) Z;have k:=fe c;clear j c;go_wp2_with fail;go_ret;exact⟨by rw[<-k.out];rfl,U⟩
end
abbrev nF(B:ByteArray):Prop:=(59:UInt8)∉B.data.toList
def nF.r{a:ByteArray}(h:nF a)(k:nF B):nF (a++B):=by unfold nF at*;simp_all
theorem nF.C(h:nF B)(i j:Nat):nF (B.extract i j):=by unfold nF at*;rw[Ý,ä];grind
def as3(n:Nat):nF (gf n):=by
 induction n using ă with
 |_ n b=>
  have a:∀d,nF (zZ d):=λd=>nF.C A _ _;by_cases h:n<10
  .rw[J0 h];exact a n
  .rw[J3 h];exact(b _ Z).r<|a _
def as4{α:Type}(f:α->ByteArray)(h:∀x,nF<|f x)(l:List α):∀x∈l.map f,nF x:=λx a=>by obtain⟨y,_,rfl⟩:=Ā.1 a;exact h y
def oR(c:UInt8):List UInt8->List UInt8->List (List UInt8)
 |cur,[]=>[cur]
 |cur,x::r=>if x=c then cur::oR c [] r else oR c (cur++[x]) r
def UC(B:ByteArray)(c:UInt8):∀f a i,B.size-i=f->a<=i->i<=B.size->tw B c f a i=(oR c (B.extract a i).data.toList<|B.data.toList.drop i).map λl=>⟨l.toArray⟩
 |0,a,i,hf,h1,h2=>by
  obtain rfl:i=B.size:=Z
  rw[Ă (by rw[Ö];exact È _)];rfl
 |f+1,a,i,hf,h1,h2=>by
  have b:i<B.size:=Z
  have d:i<B.data.toList.length:=by rwa[Ö]
  have e:B.data.toList[i]=B[i]:=by rw[ñ];rfl
  rw[ö d,e];unfold tw oR;rw[dif_pos b];split
  .have g:(B.extract (i+1)<|i+1).data.toList=[]:=by
    rw[Ý,ä];simp
   rw[UC B c f (i+1) (i+1) Z (È _) Z,g];rfl
  .rw[UC B c f a (i+1) Z Z Z];congr 2;rw[Ý,Ý,ä,ä,ø,ø,show i+1-a=i-a+1 by omega,ē,Đ,show a+(i-a)=i by omega,è d,e];rfl
def acf{c:UInt8}:∀(x a r:List UInt8),c∉x->oR c a (x++c::r)=(a++x)::oR c [] r
 |[],a,r,_=>by simp[oR]
 |y::x,a,r,h=>by rw[show oR c a (y::x++c::r)=if y=c then a::oR c [] (x++c::r)else oR c (a++[y]) (x++c::r)from U,if_neg λq=>h (by simp[q]),acf x _ r λq=>h (by simp[q])];simp
def acg{c:UInt8}:∀(x a:List UInt8),c∉x->oR c a x=[a++x]
 |[],a,_=>by simp[oR]
 |y::x,a,h=>by unfold oR;rw[if_neg λq=>h (by simp[q]),acg x _ λq=>h (by simp[q])];simp
def ach:∀(r:List ByteArray) (x:ByteArray) (a:List UInt8),nF x->(∀y∈r,nF y)->oR 59 a (x.data.toList++om ⟨#[59]⟩ r)=(a++x.data.toList)::r.map λy=>y.data.toList
 |[],x,a,h,_=>by show oR 59 a (x.data.toList++[])=_;rw[Ĥ,acg _ _ h];rfl
 |y::r,x,a,h,k=>by show oR 59 a (x.data.toList++59::(y.data.toList++om ⟨#[59]⟩ r))=_;rw[acf _ _ _ h,ach r y [] (k y fj) λz b=>k z (by simp[b])];rfl
def as5(a:vX≠[])(h:∀x∈vX,nF x):tw (kF ⟨#[59]⟩ vX) 59 (kF ⟨#[59]⟩ vX).size 0 0=vX:=by
 rw[UC _ _ _ 0 0 (Nat.sub_zero _) (È _)<|Í _];match vX,a with
 |x::r,_=>
  have e:((kF ⟨#[59]⟩<|x::r).extract 0 0).data.toList=[]:=by simp_all
  rw[e,List.drop_zero];show(oR 59 []<|x.data.toList++om ⟨#[59]⟩ r).map _=_;rw[ach r x [] (h x fj) λy b=>h y (by simp[b])];simp[Function.comp_def]
end Go.Proofs.Y.kT
namespace Go.Proofs.Y.ot
open Go Go.Proofs Go.RowKit Go.Proofs.Y.Lift Go.Proofs.Y.gO
structure I0(o:Int)(st:PS):Prop where
 M:st.d.S=[]
 I:st.d.r=Î
 r:st.d.I.c.getD 4 0=1
 C:st.d.I.c.getD 5 0=o
 N:st.C∈DU
 S:82∉st.C/\86∉st.C
 Y:0<st.r->st.M≠86
section
variable{st a:PS}{o:Int}{d:PD}
def Oa(h:i≠j):(zQ.set i c).getD j 0=zQ.getD j 0:=by simp[þ,List.getElem?_set_ne h]
def UD{n z:Int}(a:n≠86):(d.fW n z).S=d.S/\(d.fW n z).r=d.r/\(d.fW n z).I.c.getD 4 0=d.I.c.getD 4 0/\(d.fW n z).I.c.getD 5 0=d.I.c.getD 5 0:=by
 have b:∀i,i<4->(d.jB i z).S=d.S/\(d.jB i z).r=d.r/\(d.jB i z).I.c.getD 4 0=d.I.c.getD 4 0/\(d.jB i z).I.c.getD 5 0=d.I.c.getD 5 0:=λi e=>by
  unfold PD.jB;split
  .exact⟨U,U,U,U⟩
  .exact⟨U,U,Oa Z,Oa Z⟩
 unfold PD.fW;rw[if_neg a];repeat' split
 all_goals first|exact b _ A|exact⟨U,U,U,U⟩|exact⟨U,U,Oa A,Oa A⟩
def I0.G(h:I0 o st)(e:st.r=0)(d:c≠59)(b:se st c=Ä a):I0 o a:=by
 unfold se at b;rw[if_neg λq=>d q.1]at b;split at b
 .cases b;exact⟨h.M,h.I,h.r,h.C,(by decide:[120,84]∈DU),(by decide:(82:Int)∉[120,84]/\(86:Int)∉[120,84]),λq=>by have:0<st.r:=q;omega⟩
 .cases b
def I0.as6(h:I0 o st)(r:st.r=0)(s:c≠59)(b:lu B k st c=Ä a):I0 o a:=by
 have f:0<st.r->st.M≠86:=λq=>by omega
 have g:=asS _ h.N;unfold lu at b;cases i:st.C with
 |nil=>
  rw[i]at b;exact h.G r s b
 |cons w t=>
  have e:=h.S;rw[i]at b g e;have x:w≠82:=λq=>e.1 (by simp[q]);have u:w≠86:=λq=>e.2 (by simp[q]);have v:82∉t/\86∉t:=⟨λq=>e.1 (by simp[q]),λq=>e.2<|by simp[q]⟩;simp only[if_neg x]at b;split at b
  .split at b
   .cases b;let⟨j,l,m,p⟩:=UD (d:=st.d.rZ) (n:=120) (z:=mU 120 c) A;exact⟨j.trans h.M,l.trans h.I,m.trans h.r,p.trans h.C,(by decide:[84]∈DU),(by decide:(82:Int)∉[84]/\(86:Int)∉[84]),λ_=>(by decide:(120:Int)≠86)⟩
   .exact h.G r s b
  .split at b
   .unfold xO at b;split at b
    .cases b
    .cases b;refine⟨h.M,h.I,h.r,h.C,(asT _).1,?_,f⟩;show 82∉pE _/\86∉pE _;unfold pE;repeat' split
     all_goals decide
   .split at b
    .split at b
     .cases b;exact⟨h.M,h.I,h.r,h.C,g,v,f⟩
     .split at b
      .cases b
      .cases b;exact⟨h.M,h.I,h.r,h.C,i▸h.N,e,f⟩
    .split at b
     .cases b;let⟨j,l,m,p⟩:=UD (d:=st.d) (n:=w) (z:=mU w c) u;exact⟨j.trans h.M,l.trans h.I,m.trans h.r,p.trans h.C,g,v,λ_=>u⟩
     .cases b
def I0.jv(h:I0 o st)(e:c≠59)(b:re B k st c=Ä a):I0 o a:=by
 unfold re at b;split at b
 .rename_i q;cases b;let⟨f,g,i,j⟩:=UD (d:=st.d) (n:=st.M) (z:=sd (st.d.G st.M) c)<|h.Y q.1;exact⟨f.trans h.M,g.trans h.I,i.trans h.r,j.trans h.C,h.N,h.S,λ_=>h.Y q.1⟩
 .exact I0.as6 (st:={st with r:=0}) ⟨h.M,h.I,h.r,h.C,h.N,h.S,λq=>by cases q⟩ rfl e b
def I0.nh(b:59∉B.data.toList):∀(f k:Nat) (st:PS),I0 o st->I0 o (ou B f k st).2
 |0,k,st,h=>h
 |f+1,k,st,h=>by
  unfold ou;split
  .rename_i d;split
   .exact h
   .rename_i a c;refine I0.nh b f (k+1) a (h.jv (λq=>b ?_) c);have e:B[k]=59:=Ą.1 (by show B[k].toNat=59;omega);rw[<-e];exact Array.mem_toList_iff.2<|Array.getElem_mem _
  .exact h
def I0.as7(h:I0 o st):∃r,st.d.C=[r]/\r.c.getD 4 0=1/\r.c.getD 5 0=o:=by unfold PD.C;rw[h.I,h.M];exact⟨_,U,h.r,h.C⟩
def UE(b:k<B.size)(c:re B k st (B[k].toNat:Int)=Ä a):ou B (i+1) k st=ou B i (k+1) a:=by rw[ou,dif_pos b,c]
def as8{e:UInt8}(f:e=48/\o=0\/e=104/\o=-1)(l:59∉B.data.toList){g:List PR}(h:iA (⟨#[105,e,58]⟩++B)=(0,0,g)):∃r,g=[r]/\r.c.getD 4 0=1/\r.c.getD 5 0=o:=by
 obtain⟨T,b⟩:∃T,(⟨#[105,e,58]⟩++B:ByteArray)=T:=⟨_,U⟩;have a:T.data.toList=105::e::58::B.data.toList:=by rw[<-b,ð,ô];rfl
 have m:T.size=B.size+3:=by rw[<-b,Ï,Nat.add_comm];rfl
 have d:∀i (j:i<T.size),T[i]=T.data.toList[i]'(by rwa[Ö]):=λi j=>by rw[ñ];rfl
 have n:T[0]'Z=105:=by rw[d];simp[a]
 have p:T[1]'Z=e:=by rw[d];simp[a]
 have s:T[2]'Z=58:=by rw[d];simp[a]
 rw[b]at h;have t:I0 o ⟨[120,47,66],0,0,58,⟨[],Î,⟨[0,0,0,0,1,o,0,0],[]⟩,ç,⟨[],⟨#[]⟩⟩⟩⟩:=⟨U,U,U,U,(by decide:[120,47,66]∈DU),(by decide:(82:Int)∉[120,47,66]/\(86:Int)∉[120,47,66]),λq=>by cases q⟩;have u:mW T=ou T B.size 3 ⟨[120,47,66],0,0,58,⟨[],Î,⟨[0,0,0,0,1,o,0,0],[]⟩,ç,⟨[],⟨#[]⟩⟩⟩⟩:=by unfold mW;rcases f with⟨rfl,rfl⟩|⟨rfl,rfl⟩<;>(rw[m,UE Z (by rw[n];rfl),UE Z (by rw[p];rfl),UE Z (by rw[s];rfl)];rfl)
 have k:=t.nh (by rw[a];rcases f with⟨rfl,_⟩|⟨rfl,_⟩<;>simp[l]) B.size 3;rw[<-u]at k;have v:T.size≠0:=Z
 unfold iA mG at h;split at h
 .cases h
 .split at h
  .have:=congrArg (λx=>x.2.2) h;simp only at this;rw[<-this];exact k.as7
  .cases h
end
end Go.Proofs.Y.ot
namespace Go.Proofs.Y.kT
open Go Go.Conc Go.Proofs Go.RowKit Go.Proofs.Y.Lift Go.Proofs.Y.gO Go.Proofs.Y.fu Go.Proofs.Y.ot
open Go.Conc.Lib Go.ConcR.Gen Go.Proofs.YtgpphkdoanciiaaGreatDoor
def J4(r:PR)(a:fG):Option fG:=(s8 (rf r).2.1 a.s (rf r).2.2).map λq=>⟨q.1,q.2.1,q.2.2,a.h+1⟩
theorem aci{s:List fG}{r:PR}(b:r.c.getD 4 0=1){a:fG}(d:lr (kH s) (r.c.getD 5 0)=Ä (0,a))(f:s.length<40): xY r s=(match J4 r a with
  |none=>nL 5
  |some _=>nu s.length)/\zY s r=match J4 r a with
  |none=>s
  |some v=>s++[v]:=by
 have g:(kH s).length=s.length:=by simp[kH]
 have e:pv (kH s) (rf r).1 (rf r).2.1 (rf r).2.2=match J4 r a with
  |none=>(á,nL 5)
  |some v=>(Ä v,nu s.length):=by
  unfold pv J4;rw[show(rf r).1=r.c.getD 5 0 from rfl,d];grind
 unfold xY zY zL qZ;rw[if_pos b,if_pos b,F6,e];grind
def acj(m:Int):∀(l:List (Nat×fG)) (d:Nat×fG),d.2.h<=m->(∀x∈l,x.2.h<=m)->(l.foldl oh d).2.h<=m
 |[],d,h,_=>h
 |x::l,d,h,k=>acj m l (oh d x) (by
  unfold oh;split
  .exact k x fj
  .exact h) λy a=>k y (by simp[a])
structure tx(n:Nat)(s l:List fG)(v:fG):Prop where
 r:s=l++[v]
 M:l.length=n
 h:v.h=n
 I:∀x∈l,x.h<n
 N:lA v.s=8000+50*n
 C:n<=39
section
variable{s l:List fG}{v:fG}
def UF(M:tx n s l v):lr (kH s) (-1)=Ä (0,v):=by
 have b:kH s=kH l++[(0,v)]:=by rw[M.r];simp[kH]
 unfold lr s9;rw[if_pos U,b];cases l with
 |nil=>
  show Ä (oh (0,v) (0,v))=_;unfold oh;rw[if_neg<|Int.lt_irrefl _]
 |cons x r=>
  show Ä (((0,x)::kH r++[(0,v)]).foldl oh (0,x))=_;rw[ù];have d:=acj (n-1) ((0,x)::kH r) (0,x) (by have:=M.I x fj;show x.h<=_;omega) λy c=>by
   obtain⟨z,a,rfl⟩:∃z,z∈x::r/\y=(0,z):=by
    rcases Ī.1 c with q|q
    .exact⟨x,fj,q⟩
    .let⟨z,a,e⟩:=Ā.1 q;exact⟨z,by simp[a],e.symm⟩
   have:=M.I z a;show z.h<=_;omega
  show Ä (oh ((((0,x)::kH r)).foldl oh (0,x)) (0,v))=_;generalize((0,x)::kH r).foldl oh (0,x)=z at*;unfold oh;rw[if_pos (by rw[M.h];omega)]
def acn(h:i<100):nu i=gf i:=by
 have a:∀k:_root_.Fin 100,(nu k.val).data.toList=(gf k.val).data.toList:=by decide+kernel
 exact ď<|Array.toList_inj.1<|a ⟨i,h⟩
def aco{r:PR}(a:r.c.getD 4 0=1)(b:lr (kH s) (r.c.getD 5 0)=Ä (0,v))(d:s.length=40):xY r s=⟨#[33,52]⟩/\zY s r=s:=by
 have e:(kH s).length=s.length:=by simp[kH]
 have f:pv (kH s) (rf r).1 (rf r).2.1 (rf r).2.2=(á,nL 4):=by unfold pv;rw[show(rf r).1=r.c.getD 5 0 from rfl,b];simp only[e,if_pos d]
 unfold xY zY zL qZ;rw[if_pos a,if_pos a,F6,f];exact⟨U,fj⟩
def as9(o:59∉B.data.toList)(p:kV s)(M:tx n s l v):(∃E,E≠0/\lz s (⟨#[105,104,58]⟩++B)=(⟨#[]⟩,E,s))\/(n=39/\lz s (⟨#[105,104,58]⟩++B)=(⟨#[33,52]⟩,0,s))\/lz s (⟨#[105,104,58]⟩++B)=(⟨#[33,53]⟩,0,s)\/∃E,lz s (⟨#[105,104,58]⟩++B)=(gf<|n+1,0,s++[E])/\tx (n+1) (s++[E]) s E:=by
 have g:=Gn (B:=⟨#[105,104,58]⟩++B);by_cases h:(iA<|⟨#[105,104,58]⟩++B).1=0
 .let⟨r,u,i,w⟩:=as8 (Ċ ⟨U,U⟩) o<|acd h;have j:=acd h;rw[u]at j g;have k:lr (kH s) (r.c.getD 5 0)=Ä (0,v):=by rw[w];exact UF M
  have m:s.length=n+1:=by rw[M.r,ì,M.M];rfl
  have I:=M.C;rw[ab9 j];by_cases y:n=39
  .let⟨b,d⟩:=aco i k Z;rw[b,d];exact Ċ<|Ù ⟨y,U⟩
  .let⟨b,d⟩:=aci i k Z;rw[b,d];cases C:J4 r v with
   |none=>exact Ċ<|Ċ<|Ù U
   |some E=>
    refine Ċ<|Ċ<|Ċ ⟨E,?_,?_⟩
    .show(nu s.length,_,_)=_;rw[m,acn Z]
    .obtain⟨q,D,rfl⟩:=Ü.1 C;have f:=g.1 r fj;have F:=f.c.r 0 A;have J:=f.n;simp only[ly]at F;have G:v∈s:=by rw[M.r];simp
     have H:=M.N;have e:=asR (T:=8000+50*n) (by show(r.c.getD 0 0).toNat<8;omega) (λt z=>by obtain⟨x,a,rfl⟩:=Ā.1 z;exact toTx_ok<|f.C x a) (p.r v G).2.1 (by show(r.r.map toTx).length<=1000;rw[List.length_map];omega) Z H D;refine⟨U,m,by show v.h+1=_;rw[M.h];omega,λx a=> ?_,by rw[e];omega,Z⟩;rw[M.r]at a;rcases ĥ.1 a with z|z
     .have:=M.I x z;omega
     .rw[Þ.1 z,M.h];omega
 .exact Ù ⟨_,h,if_neg h⟩
def ata:iA ⟨#[105,104,58,97,47]⟩=(0,0,[⟨[0,0,0,0,1,-1,0,0],[]⟩]):=ft
def atb(M:tx n s l v):∃S b,lz s ⟨#[105,104,58,97,47]⟩=(S,0,b)/\(n<39->S=gf (n+1))/\(¬n<39->S=⟨#[33,52]⟩):=by
 have a:=UF M;have c:s.length=n+1:=by rw[M.r,ì,M.M];rfl
 have d:=M.C;refine⟨_,_,ab9 ata,λh=> ?_,λh=>(aco U a Z).1⟩;rw[(aci U a Z).1,<-acn Z,<-c];rfl
def Ob:ByteArray:=⟨#[98,104,58,97,59,98,104,58,98,59,98,104,58,99,59,98,104,58,100,59,98,104,58,101,59,98,104,58,102,59,98,104,58,103,59,98,104,58,104]⟩
def Oc(i:Nat):PR:=⟨[i,0,0,0,3,-1,0,0],[]⟩
def atc:iA Ob=(0,0,(Ç 8).map Oc):=ft
def DV(v:fG)(i:Nat):Nat:=(v.s i).fl.toNat
def UG(v:fG):List ByteArray:=(Ç 8).map λi=>gf<|DV v i
def DW(b:Nat->Nat):Nat->Nat
 |0=>0
 |i+1=>DW b i+b i
def atd(M:tx n s l v):lz s Ob=(kF ⟨#[59]⟩<|UG v,0,s):=by rw[asX atc (by simp[Oc])];have a:=UF M;apply congrArg λl=>(kF ⟨#[59]⟩ l,(0:Int),s);unfold UG DV;rw[List.map_map];refine Ď λi _=> ?_;show qu (kH s) (toQn<|Oc i)=_;simp only[qu,toQn,Oc,List.getD_cons_zero,List.getD_cons_succ,a,Ds];simp
def ate(c:kV s)(M:tx n s l v):(∀i,i<8->DV v i<10000)/\DW (DV v) 8=8000+50*n:=by
 have d:v∈s:=by rw[M.r];simp
 have a:=(c.r v d).2.1;have e:=M.N;have g:=M.C;refine⟨λi f=> ?_,?_⟩
 .have:=ab4 a f;unfold DV;omega
 .have b:=λi=>(a.fl i).1;have h:=b 0;have j:=b 1;have k:=b 2;have m:=b 3;have o:=b 4;have p:=b 5;have q:=b 6;have r:=b 7;unfold lA at e;simp only[DW,DV];omega
end
section
variable{c l a:fc}{s t:List fG}{e:Ê}{V:Nat->Prop}{g:List Ê}
def atf(h:gh X l a)(b:gA l):gA a:= ⟨h.N b.r,h.d.trans b.d,by rw[h.q];exact b.q,by rw[h.S];exact b.N,by rw[h.Y];exact b.I,by rw[h.b];exact b.M,by rw[h.K];exact b.k⟩
end
noncomputable def Od:ĭ:=jZ Ň [1,1,1,0,1,0,0]
noncomputable def acp:ĭ:=jZ Ň [1,1,1,1]
noncomputable def DX (a:Array Ê) (b:List ą):ě:=G ((base 24).at ⟨a,[]⟩<|Ğ Od::ı Od::[Ĕ 0,Ğ acp]) b
structure J5(B:ByteArray)(c:UInt8)(lv:Ê)(fr i:Nat)(tt:Array Ê):Prop where
 r:tt.size=35
 C:tt[0]?=Ä (Á B)
 t1:tt[1]?=Ä (Æ ō c.toNat)
 I:tt[5]?=Ä lv
 M:tt[6]?=Ä (Æ Ã fr)
 N:tt[7]?=Ä (Æ Ã i)
def acr(S:ByteArray)(w:Ì):Sem.events À (Builtin.len_ #[9] 3 #[Á S]) w #[]=#[]:=ft
def atg(B:ByteArray)(w:Ì)(a:i<=j)(b:j<=B.size):Sem.events À (û 9 (Á B) (Ä<|Æ Ã i) (Ä<|Æ Ã j) á) w #[]=#[]:=by simp[û,ĸ,go_sem,a,b,Ĝ]
def ath(B:ByteArray)(w:Ì)(a:i<=B.size):Sem.events À (û 9 (Á B) (Ä<|Æ Ã i) á á) w #[]=#[]:=by simp[û,ĸ,go_sem,a,Ĝ]
structure uT(ik l:fc)(lv:Ê)(xs:List ByteArray):Prop where
 r:gh (λ_=>False) ik l
 C:l.w.ownsRow 0 9 1 lv xs.length (jl xs)
 fp:∀k,lv.ownBlock=Ä k->l.O k/\ik.w.heap.size<=k
section
variable{J:Jd}{ik l:fc}{S:ByteArray}{c:UInt8}{lv:Ê}{fr:Nat}{xs:List ByteArray}{tt:Array Ê}{k:List Item}
def uT.I(h:uT ik l lv xs)(f:gw ik)(c:gA l){ob:Obj}(g:fI l l.w u)(d:fI (gI l u ob) (gI l u ob).w W)(i:jX.ownsRow 0 9 1 v (xs.length+1) (jl xs++[Á S]))(m:W.grownBy jX lv.ownBlock)(n:∀k,v.ownBlock=Ä k->(mS (gI l u ob) W jX).O k)(o:v.ownBlock=lv.ownBlock\/v.ownBlock=Ä W.heap.size): gA (mS (gI l u ob) W jX)/\uT ik (mS (gI l u ob) W jX) v (xs++[S]):=by
 have a:=mR (X:=λb=>Ä b=lv.ownBlock) (ob:=ob) c.r g;have b:=a.ff (LH (a.N c.r) d m λk e=>⟨a.O k (h.fp k e).1,e.symm⟩);refine⟨atf b c,h.r.vA b λj q e=> ?_,?_,λk e=>⟨n k e,?_⟩⟩
 .have:=(h.fp j e.symm).2;have:=f.fx j q;omega
 .rwa[ì,show jl (xs++[S])=jl xs++[Á S] by simp[jl]]
 .rcases o with z|z
  .exact(h.fp k<|z.symm.trans e).2
  .have e:=é<|z.symm.trans e;have:=h.r.I;have:=a.I;have:=d.r;omega
def ati{a b:UInt8}(h:a≠b):((a.toNat:Int)==(b.toNat:Int))=ç:=by rw[beq_eq_false_iff_ne];exact λq=>h<|Ą.1 Z
def atj(h:uT ik l lv xs)(C:gw ik)(a:gA l)(b:J5 B c lv fr i tt)(D:i<B.size)(E:fr<=i)(hB:B.size<=10^12)(tX:xs.length<=fr) (o:B[i]≠c->∀d g,gA d->uT ik d lv xs->J5 B c lv fr (i+1) g->fu.fh À Î J d (DX g qX)) (r:B[i]=c->∀d g v,gA d->uT ik d v (xs++[B.extract fr i])->J5 B c v (i+1) (i+1) g->fu.fh À Î J d (DX g qX)):fu.fh À Î J l (DX tt qX):=by
 have hF:True:=trivial;let⟨s,t,f⟩:=jh h.C;obtain⟨u,rfl⟩:=rF tt b.r;have F:u 0=Á B:=by simpa using b.C
 have G:u 1=Æ ō c.toNat:=by simpa using b.t1
 have I:u 5=Ô s xs.length t:=by rw[<-f];simpa using b.I
 have K:u 6=Æ Ã fr:=by simpa using b.M
 have L:u 7=Æ Ã i:=by simpa using b.N
 clear b;have k1:(i:Int)<(B.size:Int):=Z
 have k2:(0:Int)<=(i:Int):=Z
 have k3:(0:Int)<=(fr:Int):=Z
 have k4:(fr:Int)<=(i:Int):=Z
 have k5:(i:Int)<=(B.size:Int):=Z
 have M:i<=B.size:=Z
 have m:Ã.wrap ((i:Int)+1)=((i+1:Nat):Int):=å _ ⟨Z,Z⟩;have H:=fe<|Ò o r;clear o r;apply fN (n:=60) a.r.r;simp only[DX,Ç,Ó,ÿ,F,G,I,K,L];conv in Od=>whnf
 repeat w_go fv
 refine Â λ_ _=> ?_;apply pd (v:=Æ Ã B.size) U fO (by k_ne) a.r.r a.q (λw _=>by go_simp) (λw _ e p=>by simp[go_sem,acr]at p);walk_nrm;apply fN (n:=60) a.r.r;repeat w_nl fv
 refine Â λ_ _=> ?_;apply pd (v:=Æ ō B[i].toNat) U fO (by k_ne) a.r.r a.q (λw _=>by go_simp) (λw _ e p=>by simp[go_sem,Instr.index,D]at p);walk_nrm;by_cases j:B[i]=c
 .rw[j];apply fN (n:=60) a.r.r;repeat w_nl fv
  refine Â λ_ _=> ?_;apply pd (v:=Á<|B.extract fr i) U fO (by k_ne) a.r.r a.q (λw _=>by go_simp) (λw _ e p=>by simp[go_sem,atg B w E M]at p);walk_nrm;refine pf (V:=λp=>Ô (Ä ⟨p,0,á⟩) 1 1) (ob:=ú #[Á<|B.extract fr i] 9) U U (by k_ne) a.r.r a.q (λw=>by go_simp) (λw=>by simp[go_sem]) λw x=> ?_;walk_nrm;have p:=mR (X:=λ_=>False) (ob:=ú #[Á<|B.extract fr i] 9) a.r x;have y:gZ (gI l w<|ú #[Á<|B.extract fr i] 9) w.heap.size (ú #[Á<|B.extract fr i] 9):=⟨Ċ U,fu.mQ⟩;have N:À.info? 9=Ä ĕ:=Ļ;refine H9 (v:=Ô s xs.length t) (us:=[Á<|B.extract fr i]) (px:=w.heap.size) (c:=1) (n:=xs.length) (xs:=jl xs) (inf:=ĕ) (z:=Á ⟨#[]⟩) U U (by k_ne) (p.N a.r) (by rw[p.q];exact a.q) U U U Ė N U U ĉ U U (by simp[ĕ];omega) (by simp only[î];omega) (f▸nU h.C λk e=>p.r k (Ù (h.fp k e).1) id) (f▸λk e=>p.O k (h.fp k e).1) y.fp (Rj<|y.C U) (λ_ e=>Þ.1 e▸rfl) λatl v Rs P Q S T W=> ?_;let⟨e,Y⟩:=h.I C a x P Q (f▸S) T<|f▸W;walk_nrm;apply fN (n:=80) e.r.r;repeat w_nl fv
  w_go fv
  refine Â λ_ _=> ?_;refine H.out.2 j _ _ _ e Y ⟨U,U,U,U,?_,?_⟩
  .simp[m]
  .simp[m]
 .have e:=ati j;apply fN (n:=60) a.r.r;repeat w_nl fv
  w_go fv
  refine Â λ_ _=> ?_;refine H.out.1 j _ _ a h ⟨U,U,U,by rw[f];rfl,U,?_⟩;simp[m]
def atm(h:uT ik l lv xs)(s:gw ik)(a:gA l)(b:J5 B c lv fr B.size tt)(x:fr<=B.size)(T:B.size<=10^12)(W:xs.length<=fr) (C:∀g v,gA g->uT ik g v (xs++[B.extract fr B.size])->fu.fh À Î J g (G (f.at (y.put ((Q[j]?).bind (·.dst)) v)<|Å Q jJ::k) qX)):fu.fh À Î J l (DX tt<|f.at y (Å Q (j::jJ)::k)::qX):=by
 have hF:True:=trivial;let⟨i,m,d⟩:=jh h.C;obtain⟨u,rfl⟩:=rF tt b.r;have D:u 0=Á B:=by simpa using b.C
 have E:u 5=Ô i xs.length m:=by rw[<-d];simpa using b.I
 have F:u 6=Æ Ã fr:=by simpa using b.M
 have H:u 7=Æ Ã B.size:=by simpa using b.N
 clear b;have Y:(0:Int)<=(fr:Int):=Z
 have k4:(fr:Int)<=(B.size:Int):=Z
 apply fN (n:=60) a.r.r;simp only[DX,Ç,Ó,ÿ,D,E,F,H];conv in Od=>whnf
 conv in acp=>whnf
 repeat w_go fv
 refine Â λ_ _=> ?_;apply pd (v:=Æ Ã B.size) U fO (by k_ne) a.r.r a.q (λw _=>by go_simp) (λw _ e p=>by simp[go_sem,acr]at p);walk_nrm;apply fN (n:=60) a.r.r;repeat w_nl fv
 refine Â λ_ _=> ?_;apply pd (v:=Á<|B.extract fr B.size) U fO (by k_ne) a.r.r a.q (λw _=>by go_simp) (λw _ e p=>by simp[go_sem,ath B w x]at p);walk_nrm;refine pf (V:=λp=>Ô (Ä ⟨p,0,á⟩) 1 1) (ob:=ú #[Á<|B.extract fr B.size] 9) U U (by k_ne) a.r.r a.q (λw=>by go_simp) (λw=>by simp[go_sem]) λw o=> ?_;walk_nrm;have p:=mR (X:=λ_=>False) (ob:=ú #[Á<|B.extract fr B.size] 9) a.r o;have r:gZ (gI l w<|ú #[Á<|B.extract fr B.size] 9) w.heap.size (ú #[Á<|B.extract fr B.size] 9):=⟨Ċ U,fu.mQ⟩;have I:À.info? 9=Ä ĕ:=Ļ;refine H9 (v:=Ô i xs.length m) (us:=[Á<|B.extract fr B.size]) (px:=w.heap.size) (c:=1) (n:=xs.length) (xs:=jl xs) (inf:=ĕ) (z:=Á ⟨#[]⟩) U U (by k_ne) (p.N a.r) (by rw[p.q];exact a.q) U U U Ė I U U ĉ U U (by simp[ĕ];omega) (by simp only[î];omega) (d▸nU h.C λk e=>p.r k (Ù (h.fp k e).1) id) (d▸λk e=>p.O k (h.fp k e).1) r.fp (Rj<|r.C U) (λ_ e=>Þ.1 e▸rfl) λatl v Rs K L M N P=> ?_;let⟨e,S⟩:=h.I s a o K L (d▸M) N<|d▸P;walk_nrm;apply fN (n:=80) e.r.r;repeat w_nl fv
 u_in fv hF
 refine ċ (t:=4) U U ğ U ⟨by u_nil,?_⟩;refine Â λ_ _=> ?_;exact C _ _ e S
def UH(e:gw ik)(g:B.size<=10^12) (n:∀a v,gA a->uT ik a v (tw B c B.size 0 0)->fu.fh À Î J a (G (f.at (y.put ((Q[j]?).bind (·.dst)) v)<|Å Q jJ::k) qX)): ∀(m fr i:Nat) (l:fc) (lv:Ê) (xs:List ByteArray) (tt:Array Ê),B.size-i=m->fr<=i->i<=B.size->xs.length<=fr->xs++tw B c m fr i=tw B c B.size 0 0->uT ik l lv xs->gA l->J5 B c lv fr i tt->fu.fh À Î J l (DX tt<|f.at y (Å Q (j::jJ)::k)::qX)
 |0,fr,i,l,lv,xs,tt,hm,hfr,hi,tX,he,h,hb,hT=>by
  obtain rfl:i=B.size:=Z
  exact atm h e hb hT hfr g tX λa v b d=>n a v b<|he▸d
 |m+1,fr,i,l,lv,xs,tt,hm,hfr,hi,tX,he,h,hb,hT=>by
  have r:i<B.size:=Z
  rw[show tw B c (m+1) fr i=if B[i]=c then B.extract fr i::tw B c m (i+1) (i+1)else tw B c m fr (i+1)from dif_pos r]at he;refine atj h e hb hT r hfr g tX (λq a o b d p=> ?_) λq a o v b d p=> ?_
  .rw[if_neg q]at he;exact UH e g n m fr (i+1) a lv xs o Z Z Z tX he d b p
  .rw[if_pos q]at he;exact UH e g n m (i+1) (i+1) a v _ o Z Z Z (by rw[ì,List.length_singleton];omega) (by rwa[List.append_assoc]) d b p
def atn(a:gA l)(d:B.size<=10^12) (g:∀b v,gA b->uT l b v (tw B c B.size 0 0)->fu.fh À Î J b (G (f.at (y.put ((Q[j]?).bind (·.dst)) v)<|Å Q jJ::k) qX)):fu.fh À Î J l (G (É À 24 #[Á B,Æ ō c.toNat] ê)<|f.at y (Å Q (j::jJ)::k)::qX):=by
 have hF:True:=trivial;rw[vW [_,_] 33 ğ];simp only[æ,Ú,ß];conv in jZ _ _=>whnf
 apply fN (n:=60) a.r.r;repeat w_bar fv
 w_go fv
 refine Â λ_ _=> ?_;exact UH a.r d g B.size 0 0 l (Ô á 0 0) [] _ U (È _) (Í _) (È _) U ⟨gh.fT a.r.r,⟨U,Ù ⟨U,U⟩⟩,λk e=>by cases e⟩ a ⟨rfl,rfl,rfl,rfl,rfl,rfl⟩
end
structure jc(R:Nat->Prop)(W:Ì)(l:fc)(x nx:Nat)(s:List fG):Prop where
 a:∃sl V,nZ l x nx s sl V
 C:∀b,R b->(l.O b/\l.w.heap[b]?=W.heap[b]?)/\b≠x
section
variable{R:Nat->Prop}{l d:fc}{x nx:Nat}{s g:List fG}
def jc.M(h:jc R W l x nx s)(c:∀b,l.O b->d.O b/\d.w.heap[b]?=l.w.heap[b]?)(e:l.w.heap.size<=d.w.heap.size):jc R W d x nx s:=by let⟨f,V,a⟩:=h.a;exact⟨⟨f,V,a.S (λb q=>(c b q).1) (λb q=>(c b q).2) e⟩,λb q=>⟨⟨(c b (h.C b q).1.1).1,(c b (h.C b q).1.1).2.trans (h.C b q).1.2⟩,(h.C b q).2⟩⟩
def jc.r(h:jc R W l x nx s)(r:fI l l.w u):jc R W {l with w:=u} x nx s:=h.M (λb q=>⟨q,r.I b<|Ù q⟩) r.r
def jc.I(h:jc R W l x nx s):kV s:=by let⟨_,_,a⟩:=h.a;let⟨_,_,q,_⟩:=a.I;exact q
def jc.N(h:jc R W l x nx s):nB<=l.w.heap.size:=by let⟨_,_,a⟩:=h.a;exact a.r.fx
def Oe(h:jc R W l x nx s)(j:gA l)(k:B.size<=î) (m:∀d,gA d->jc R W d x nx (lz s B).2.2->iB vQ d (G (f.at (y.put ((Q[i]?).bind (·.dst))<|ň #[Á (lz s B).1,Æ Ã (lz s B).2.1])<|Å Q jJ::L) qX)): iB vQ l (G (É À 17 #[Ë<|Ä ⟨x,0,á⟩,Á B] ê)<|f.at y (Å Q (i::jJ)::L)::qX):=by let⟨v,V,n⟩:=h.a;refine abN j n k (λ_=>abR h.I) λd o ⟨e,p,r,t,w⟩=>m d o ⟨⟨p,r,t⟩,λb q=> ?_⟩;let⟨⟨g,u⟩,c⟩:=h.C b q;exact⟨⟨(e b g c).1,(e b g c).2.trans u⟩,c⟩
def ato(h:jc R W l x nx s)(o:gA l)(C:B.size<=î)(D:lz s B=(kF ⟨#[59]⟩ vX,0,g))(E:vX≠[])(F:∀a∈vX,nF a)(M:vX.length=n)(N:(kF ⟨#[59]⟩ vX).size<=10^12) (P:∀d m,gA d->jc R W d x nx g->d.w.ownsRow 0 9 1 m n (jl vX)->(∀b,m.ownBlock=Ä b->d.O b)->iB vQ d (G (f.at (y.put ((Q[i]?).bind (·.dst))<|ň #[m,ï Î])<|Å Q jJ::L) qX)): iB vQ l (G (É À 26 #[Ë<|Ä ⟨x,0,á⟩,Á B,Æ Ã n] ê)<|f.at y (Å Q (i::jJ)::L)::qX):=by
 have hF:True:=trivial;subst M;rw[vW [_,_,_] 25 Ġ];simp only[æ,Ú,ß];conv in jZ _ _=>whnf
 apply lM;apply fN (n:=60) o.r.r;repeat w_go fv
 refine Â λ_ _=> ?_;refine .fA λX p=>⟨o.C p,U,?_⟩;have r:=o.C p;have H:=h.r p;refine Gp (f:=17) (args:=#[Ë<|Ä ⟨x,0,á⟩,Á B]) r U fO (by k_ne) (λw=>by go_simp) (λw=>Û U Č U U #[]) λT k=> ?_;refine Oe (H.r k) (r.C k) C λY t u=> ?_;have I:=as5 E F;rw[D]at u|-;dsimp only at u|-;generalize kF ⟨#[59]⟩ vX=S at*;clear D h H r C;walk_nrm;apply lM;apply fN (n:=60) t.r.r;repeat w_nl fv
 refine Â λ_ _=> ?_;refine zV (f:=24) (args:=#[Á S,Æ ō 59]) U fO (by k_ne) t.r.r (λw=>by go_simp) (λw=>Û U ğ U U #[]) λasl J=> ?_;refine atn (c:=59) (t.C J) N λl5 m v j=> ?_;have V:=(u.r J).M (λb q=>⟨j.r.O b q,j.r.r b (Ù q) id⟩) j.r.I;rw[I]at j;let⟨pk,ck,K⟩:=jh j.C;have z:=fe (Ò j.C λb q=>(j.fp b q).1);clear j I F E;rw[K];walk_nrm;apply fN (n:=60) v.r.r;repeat w_nl fv
 u_in fv hF
 refine goes_leave2 U U Ġ U ⟨by u_nil,?_⟩;refine Â λ_ _=> ?_;refine .fA λT k=>⟨v.C k,U,?_⟩;have:=P _ m (v.C k) (V.r k) (nU z.out.1 λL e=>k.I L<|Ù<|z.out.2 L e) z.out.2;rwa[K]at this
end
def xZ(l a:fc):Prop:=∀b,l.O b->a.O b/\a.w.heap[b]?=l.w.heap[b]?
structure Aa(l:fc)(kb:Nat)(xs:List ByteArray):Prop where
 fp:l.O kb
 C:∀i y,xs[i]?=Ä y->l.w.cell? ⟨kb,i,á⟩=Ä (Á y)
section
variable{J:Jd}{kg:Ê->Ì->Prop}{R:Nat->Prop}{l l':fc}{x nx:Nat}{s j:List fG}{b m:ą}{a p:ĩ}{ops:Array ń}{rest:List Nat}{k:List Item}{cs:List ą}{f:FuncId}{args:Array Ê}{fn:Func}{ags:Array Operand}{ats:Array ĵ}{kb:Nat}{xs:List ByteArray}{y:ByteArray}{t:Operand}
def xZ.r{a:fc}(h:xZ l l')(k:xZ l' a):xZ l a:=λb q=>⟨(k b (h b q).1).1,(k b (h b q).1).2.trans (h b q).2⟩
def UI(r:fI l l.w u):xZ l {l with w:=u}:=λb q=>⟨q,r.I b<|Ù q⟩
def Aa.r(h:Aa l kb xs)(k:xZ l l'):Aa l' kb xs:=⟨(k kb h.fp).1,λi y q=>(gK (k kb h.fp).2).trans<|h.C i y q⟩
def za(h:jc R W l x nx s)(hb:gA l)(hf:Tryz.prog.funcs[f]?=some fn) (hc:∀l',gA l'->nB<=l'.w.heap.size->∀(cl:Frame) (cs:List Frame),fu.fh Tryz.prog true (λl'' g'=>jL l' l''/\l''.d=l'.d/\g'=G (cl.finish v) cs) l'<|G (Frame.enter Tryz.prog f args .normal)<|cl::cs) (hn:∀l',gA l'->jc R W l' x nx s->xZ l l'->fu.fh Tryz.prog true J l' (G (b.at (a.put o.dst v)<|.inRegion ops rest::k) cs)) (ho:ops[i]?=some o:=by rfl) (oZ:o.op=.call {callee:=.value<|.func f,args:=ags,argTypes:=ats}:=by rfl) (hw:Region.wanted o (yielded ops a.tmps)=true:=by rfl) (hk:b.kind≠.early:=by k_ne) (hr:∀w,(execOp a.eval o).run Tryz.prog w=.ok (.enter f args) w:=by intro w;go_simp) (hm:(fn.name== "runtime.NumGoroutine")=false:=by rfl) (hd:fn.body.isNone=false:=by rfl): fu.fh Tryz.prog true J l (G (b.at a<|.inRegion ops (i::rest)::k) cs):=by refine zV ho hw hk hb.r.r hr (λw=>Û oZ hf hm hd #[]) λw₁ kC=> ?_;refine fu.fh.lV ?_<|hc _ (hb.C kC) (h.r kC).N _ _;rintro l2 g2 ⟨ha,hd,rfl⟩;rw[Frame.finish_at,ho];have k2:xZ {l with w:=w₁} l2:=λb q=>⟨ha.O b q,ha.r.I b<|Ù q⟩;exact hn l2 (jL.CY (hb.C kC) ha hd) ((h.r kC).M k2 ha.r.r)<|(UI kC).r k2
def Gt(h:jc R W l x nx s)(hb:gA l)(hf:Tryz.prog.funcs[f]?=some fn) (hn:∀l',gA l'->jc R W l' x nx s->xZ l l'->l.w.heap.size<=l'.w.heap.size->iB kg l' (G (Frame.enter Tryz.prog f args .normal)<|b.at a (.inRegion ops (i::rest)::k)::cs)) (ho:ops[i]?=some o:=by rfl) (oZ:o.op=.call {callee:=.value<|.func f,args:=ags,argTypes:=ats}:=by rfl) (hw:Region.wanted o (yielded ops a.tmps)=true:=by rfl) (hk:b.kind≠.early:=by k_ne) (hr:∀w,(execOp a.eval o).run Tryz.prog w=.ok (.enter f args) w:=by intro w;go_simp) (hm:(fn.name== "runtime.NumGoroutine")=false:=by rfl) (hd:fn.body.isNone=false:=by rfl): fu.fh Tryz.prog true (xU kg) l (G (b.at a<|.inRegion ops (i::rest)::k) cs):= .fA λw₁ kC=>⟨hb.C kC,U,Gp (hb.C kC) ho hw hk hr (λw=>Û oZ hf hm hd #[]) λqC n8=>hn _ ((hb.C kC).C n8) ((h.r kC).r n8) ((UI kC).r<|UI n8)<|õ kC.r n8.r⟩
def atp(hb:gA l)(h:Aa l kb xs)(n:Nat)(hx:xs[n]?=some y)(hn:fu.fh Tryz.prog true J l (G (b.at (a.put o.dst<|.string y)<|.inRegion ops rest::k) cs)) (ho:ops[i]?=some o:=by rfl) (oZ:o.op=.load 9 t:=by rfl) (ht:a.eval t=.pointer (some ⟨kb,n,none⟩):=by rfl) (hw:Region.wanted o (yielded ops a.tmps)=true:=by rfl) (hk:b.kind≠.early:=by k_ne): fu.fh Tryz.prog true J l (G (b.at a<|.inRegion ops (i::rest)::k) cs):=by
 have e:ĝ a.eval o=ĝ a.eval {o with op:=.load 9 t}:=by unfold ĝ;rw[oZ]
 refine nT ho hw hk hb.r.r hb.q (Ù<|Ù h.fp) (h.C n y hx) (λw c=> ?_) (λw c=> ?_) hn
 .rw[e];unfold ĝ;simp only[ht];go_simp
 .rw[e];unfold ĝ;simp only[ht];simp[go_sem,c]
def atq(h:jc R W l x nx s)(f:gA l)(o:B.size<=î)(r:lz s B=(kF ⟨#[59]⟩ xs,0,j))(t:∀y∈xs,nF y)(a:xs.length=n+1)(u:(kF ⟨#[59]⟩ xs).size<=10^12) (v:∀l' kb b,gA l'->jc R W l' x nx j->Aa l' kb xs->iB kg l' (G (m.at (p.put ((ops[i]?).bind (·.dst))<|ň #[Ô (Ä ⟨kb,0,á⟩) (n+1) b,ï Î])<|Å ops rest::k) cs)): iB kg l (G (É À 26 #[Ë<|Ä ⟨x,0,á⟩,Á B,Æ Ã ((n+1:Nat):Int)] ê)<|m.at p (Å ops (i::rest)::k)::cs):=by
 refine ato (n:=n+1) h f o r (λe=>by rw[e]at a;cases a) t a u λw z C D c E=> ?_;let⟨F,b,d⟩:=jh c;obtain⟨kb,rfl⟩:∃kb,F=Ä ⟨kb,0,á⟩:=by
  rcases c.2 with⟨e,q⟩|⟨g,_,_,e,_⟩
  .omega
  .rw[d]at e;cases e;exact⟨g,U⟩
 have e:z.ownBlock=Ä kb:=by rw[d];rfl
 rw[d];refine v w kb b C D ⟨E kb e,λi y q=> ?_⟩;have q:=c.cells e i (Á y) (by unfold jl;rw[à,q];rfl);rwa[Addr.add_lit,Nat.zero_add]at q
end
end Go.Proofs.Y.kT
namespace Go.Proofs.Y.ot
open Go Go.Proofs Go.RowKit Go.Proofs.Y.Lift Go.Proofs.Y.gO Go.Proofs.Y.kT
section
variable{a b:PS}{d:PD}{l c:List UInt8}
def Og(h:n<10):(ã<|48+n).toNat=48+n:=by
 have a:∀k:_root_.Fin 10,(ã<|48+k.val).toNat=48+k.val:=A
 exact a ⟨n,h⟩
def acs:∀k n,n<10^(k+1)->Lib.nDigits n<=k+1
 |0,n,h=>by rw[ė (by simpa using h)];exact È _
 |k+1,n,h=>by
  by_cases q:n<10
  .rw[ė q];omega
  .have:=acs k (n/10) (by rw[Ĳ]at h;omega);rw[Lib.nDigits_big q];omega
end
section
variable{a b:PS}{d:PD}{l c:List UInt8}
def atr(h:n<1000000):(gf n).size<=6:=by unfold gf;rw[ŉ,List.size_toArray,Lib.decDigits_length];exact acs 5 n h
end
end Go.Proofs.Y.ot
namespace Go.Proofs.Y.kT
open Go Go.Conc Go.Proofs Go.RowKit Go.Proofs.Y.Lift Go.Proofs.Y.gO Go.Proofs.Y.fu Go.Proofs.Y.ot
open Go.Conc.Lib Go.ConcR.Gen Go.Proofs.YtgpphkdoanciiaaGreatDoor
noncomputable def Oh:ĭ:=(Tryz.f16.body.bind gO.km).getD .skip
def DY(B:ByteArray)(c:UInt8)(r:Bool)(i:Int)(u:Nat->Ê):ĩ:=⟨#[Á B,Æ ō c.toNat,u 2,u 3,ï r,Æ Ã i,u 6,u 7,u 8,u 9,u 10,u 11,u 12,u 13,u 14,u 15,u 16],[]⟩
def Ab(B:ByteArray)(c:UInt8)(r:Bool)(i:Int)(a:ĩ):Prop:=∃u,a=DY B c r i u
section
variable{Y:ĩ->Ì->Prop}{c:UInt8}
def atu(u:Nat->Ê)(b:∀a,Ab B c ç B.size a->H a w):ā À Oh (Exit.then K<|QN H Y) (DY B c ç B.size u) w:=by
 unfold DY;conv=>arg 2;whnf
 go_wp2_with fail
 exact b _ (gO.gi _)
def atv(u:Nat->Ê)(i:Nat)(j:i<B.size)(e:B.size<=î)(f:B[i]≠c->∀a,Ab B c ç ((i+1:Nat):Int) a->K a w)(g:B[i]=c->∀a,Ab B c Î i a->Y a w):ā À Oh (Exit.then K<|QN H Y) (DY B c ç i u) w:=by
 unfold DY;conv=>arg 2;whnf
 have k:Ã.wrap ((i:Int)+1)=((i+1:Nat):Int):=by unfold î at e;exact å _ ⟨Z,Z⟩
 have b:=fe<|Ò f g;clear f g e;by_cases d:B[i]=c
 .have h:((B[i].toNat:Int)==(c.toNat:Int))=Î:=by rw[d];simp
  go_wp2_with fail
  exact b.out.2 d _ (gO.gi _)
 .have h:((B[i].toNat:Int)==(c.toNat:Int))=ç:=by
   rw[beq_eq_false_iff_ne];exact λq=>d<|Ą.1 Z
  go_wp2_with fail
  exact b.out.1 d _ (gO.gi _)
def UJ(B:ByteArray)(c:UInt8)(yQ:Bool)(u:Ì)(a:ĩ)(w:Ì):Prop:=∃i:Nat,Ab B c ç i a/\i<=B.size/\decide (c∈B.data.toList.drop i)=yQ/\w=u
def HsE(B:ByteArray)(c:UInt8)(yQ:Bool)(u:Ì)(a:ĩ)(w:Ì):Prop:=Ab B c ç B.size a/\yQ=ç/\w=u
def HsR(B:ByteArray)(c:UInt8)(yQ:Bool)(u:Ì)(a:ĩ)(w:Ì):Prop:=∃i:Nat,Ab B c Î i a/\yQ=Î/\w=u
def xE(B:ByteArray)(a:ĩ)(_:Ì):Nat:=match a.tmps.getD 5 undef with
 |Æ _ i=>B.size-i.toNat
 |_=>0
def Jh{r:Bool}(b:Ab B c r i y):xE B y w=B.size-i:=by obtain⟨u,rfl⟩:=b;show B.size-(i:Int).toNat=_;simp
theorem atw(h:B.size<=î)(a:ĩ)(w:Ì)(j:UJ B c yQ u a w): ā À Oh (Exit.then (λb d=>UJ B c yQ u b d/\xE B b d<xE B a w)<|QN (HsE B c yQ u)<|HsR B c yQ u) a w:=by
 let⟨i,e,n,f,d⟩:=j;rw[Jh e];obtain⟨b,rfl⟩:=e;by_cases l:i=B.size
 .subst l;refine atu b λa q=>⟨q,?_,d⟩;rw[<-f,Ă (by rw[Ö];exact È _)];rfl
 .have g:i<B.size:=Z
  have m:i<B.data.toList.length:=by rwa[Ö]
  rw[ö m,show B.data.toList[i]=B[i] by rw[ñ];rfl]at f;refine atv b i g h (λq a k=>⟨⟨i+1,k,Z,?_,d⟩,by rw[Jh k];omega⟩) λq a k=>⟨i,k,?_,d⟩;all_goals grind
def atx(B:ByteArray)(c:UInt8)(d:B.size<=î)(w:Ì):ņ À 16 #[Á B,Æ ō c.toNat] w λe f=>e=.returned (ï<|decide<|c∈B.data.toList)/\f=w:=by
 have L:∀a,Ab B c ç (0:Nat) a->ā À (ŀ Oh) (QN (HsE B c (decide<|c∈B.data.toList) w)<|HsR B c (decide<|c∈B.data.toList) w) a w:=λa g=>
  wp_loop (UJ B c (decide<|c∈B.data.toList) w) (xE B) ⟨0,g,Í _,U,U⟩<|atw d
 have H:=fe L;generalize decide (c∈B.data.toList)=yQ at*;clear L;go_enter Ĺ,Tryz.ntmps16;go_wp2_with fail;refine İ ?_ (H.out _ (gO.gi _));rintro(_|(_|_)|_|_|_|_) a v hq;all_goals first|exact absurd hq id|skip
 .obtain⟨b,rfl,rfl⟩:=hq;obtain⟨u,rfl⟩:=b;unfold DY;go_wp2_with fail;go_ret;exact⟨U,U⟩
 .obtain⟨i,b,rfl,rfl⟩:=hq;obtain⟨u,rfl⟩:=b;unfold DY;go_ret;exact⟨U,U⟩
end
def aty{l:fc}(e:gA l)(f:nB<=l.w.heap.size)(c:UInt8)(g:B.size<=î)(a:ą)(b:List ą): fu.fh À Î (λh u=>jL l h/\h.d=l.d/\u=G (a.finish<|ï<|decide<|c∈B.data.toList) b) l (G (É À 16 #[Á B,Æ ō c.toNat] ê)<|a::b):= JX e f fO (λu h=>by simp at h;rcases h with rfl|rfl;exact .kq _;exact .iD _ _) (λh=>by cases h;rfl) (atx B c g) Î a b
def tA(n:Nat)(l:List UInt8):Nat:=l.foldl (λn c=>10*n+(c.toNat-48)) n
def atz(g:Nat):tA 0 (gf g).data.toList=g:=by
 induction g using ă with
 |_ g a=>
  by_cases h:g<10
  .rw[J0 h,z8 h];show 10*0+((ã<|48+g).toNat-48)=g;rw[Og h];omega
  .rw[J3 h,ð,ô,z8 Z];unfold tA at a|-;rw[ù,a (g/10) Z];show 10*(g/10)+((ã<|48+g%10).toNat-48)=g;rw[Og Z];omega
def atA(g:Nat):∀c∈(gf g).data.toList,48<=c.toNat/\c.toNat<=57:=by
 induction g using ă with
 |_ g b=>
  by_cases h:g<10
  .rw[J0 h,z8 h];intro c a;have a:=Þ.1 (show c∈[ã<|48+g]from a);rw[a,Og h];omega
  .rw[J3 h,ð,ô,z8 Z];intro c a;rcases ĥ.1 a with q|q
   .exact b (g/10) Z c q
   .have q:=Þ.1 (show c∈[ã<|48+g%10]from q);rw[q,Og Z];omega
theorem acu(n:Nat)(l:List UInt8)(c:UInt8):tA n (l++[c])=10*tA n l+(c.toNat-48):=by unfold tA;grind
def acv(s:ByteArray)(k:Nat)(h:k<s.size):s.data.toList.take (k+1)=s.data.toList.take k++[s[k]]:=by rw[List.take_succ_eq_append_getElem (by simpa using h)];rfl
def acw:∀(k:Nat) (T:ByteArray),k<=T.size->(∀c∈T.data.toList,48<=c.toNat/\c.toNat<=57)->tA 0 (T.data.toList.take k)<10^k
 |0,_,_,_=>ĉ
 |k+1,T,h,hd=>by have c:=acw k T (Nat.le_of_succ_le h) hd;rw[acv T k h,acu,Ĳ];have:=hd T[k] (by simp[í]);omega
def atB(j:1<=B.size)(l:B.size<=6)(a:∀c∈B.data.toList,48<=c.toNat/\c.toNat<=57)(w:Ì): ņ À 18 #[Á B] w λe d=>e=.returned (Æ Ã<|tA 0 B.data.toList)/\d=w:=by
 have b:=fe a;clear a;have m:¬(B.size:Int)<1:=Z
 have o:¬(6:Int)<B.size:=Z
 go_enter ò,ĳ;go_wp2;go_loop [3,4] (λn i=>∃k:Nat,k<=B.size/\i=Æ Ã k/\n=Æ Ã (tA 0<|B.data.toList.take k)) λ_ i=>B.size-(intOf i).toNat
 case atStart=>exact⟨0,Í _,U,U⟩
 case round=>
  obtain⟨k,f,rfl,rfl⟩:=hrel;by_cases g:k<B.size
  .have p:tA 0 (B.data.toList.take k)<100000:=Nat.lt_of_lt_of_le (acw k B f b.out) (Nat.pow_le_pow_right A<|show k<=5 by omega);have h:Hid (tA 0 (B.data.toList.take<|k+1)=10*tA 0 (B.data.toList.take k)+(B[k].toNat-48)):=fe (by rw[acv B k g,acu]);have q:=b.out B[k] (by simp[í]);generalize tA 0 (B.data.toList.take k)=x at*;have r:¬(B[k].toNat:Int)<48:=Z
   have s:¬(57:Int)<B[k].toNat:=Z
   go_wp2;go_round
   case rel=>exact⟨k+1,Z,by go_num,by rw[h.out];go_num⟩
   case measure=>simp[intOf];omega
  .have e:B.data.toList.take k=B.data.toList:=List.take_of_length_le (by simp;omega);rw[e];go_wp2;go_ret;exact⟨U,U⟩
def atC(g:Nat):1<=(gf g).size:=by
 by_cases h:g<10
 .rw[J0 h,z8 h];exact È 1
 .rw[J3 h,Ï,z8 Z];exact Nat.le_add_left 1 _
def acy{l:fc}(a:gA l)(b:nB<=l.w.heap.size){g:Nat}(c:g<1000000): fu.fh À Î (λe h=>jL l e/\e.d=l.d/\h=G (f.finish<|Æ Ã g) qX) l (G (É À 18 #[Á<|gf g] ê)<|f::qX):= JX a b fO (λu e=>by simp at e;subst e;exact .kq _) (λh=>by cases h;rfl) (λw=>(atB (atC g) (atr c) (atA g) w).mono λe h q=>by rwa[atz]at q) Î f qX
noncomputable def Oi:ĭ:=jZ Ŋ [1,1,1,0,1,0,0]
noncomputable def acz:ĭ:=jZ Ŋ [1,1,1,1]
noncomputable def Gu (a:Array Ê) (b:List ą):ě:=G ((base 19).at ⟨a,[]⟩<|Ğ Oi::ı Oi::[Ĕ 0,Ğ acz]) b
structure OF(kb ck n i z:Nat)(tt:Array Ê):Prop where
 r:tt.size=42
 C:tt[1]?=Ä (Æ Ã n)
 I:tt[5]?=Ä (Ô (Ä ⟨kb,0,á⟩) 8 ck)
 M:tt[6]?=Ä (ï Î)
 N:tt[7]?=Ä (Æ Ã z)
 S:tt[8]?=Ä (Æ Ã i)
section
variable{l:fc}{kb ck z:Nat}{s:List fG}{b:Nat->Nat}{tt:Array Ê}
def atD(h:jc X W l m J s)(d:gA l)(f:Aa l kb ((Ç 8).map λi=>gf<|b i))(a:OF kb ck n i z tt)(p:i<8)(E:z<1000000)(F:b i<10000) (q:∀c j,gA c->jc X W c m J s->Aa c kb ((Ç 8).map λi=>gf<|b i)->OF kb ck n (i+1) (z+b i) j->fu.fh À Î (xU vQ) c (Gu j qX)):fu.fh À Î (xU vQ) l (Gu tt qX):=by
 have hF:True:=trivial;obtain⟨u,rfl⟩:=rF tt a.r;have r:u 1=Æ Ã n:=by simpa using a.C
 have t:u 5=Ô (Ä ⟨kb,0,á⟩) 8 ck:=by simpa using a.I
 have v:u 6=ï Î:=by simpa using a.M
 have w:u 7=Æ Ã z:=by simpa using a.N
 have x:u 8=Æ Ã i:=by simpa using a.S
 clear a;have e:=fe f;clear f;have G:(i:Int)<8:=Z
 have H:¬(8:Int)<=i:=Z
 have I:Ã.wrap ((z:Int)+b i)=((z+b i:Nat):Int):=by rw[Ø];omega
 have K:Ã.wrap ((i:Int)+1)=((i+1:Nat):Int):=by rw[Ø];omega
 have L:(0:Int)<=(b i:Int):=Z
 have k:((Ç 8).map λi=>gf<|b i)[i]?=Ä (gf<|b i):=by rw[à,č p];rfl
 apply fN (n:=60) d.r.r;simp only[Gu,Ç,Ó,ÿ,r,t,v,w,x];conv in(occs:=1) Oi=>whnf
 repeat w_go fv
 refine Â λ_ _=> ?_;apply atp d e.out i k;walk_nrm;refine za h d ò (λc o B C qX=>acy o B (g:=b i) Z) λM o B C=> ?_;have D:=e.out.r C;clear e h k;generalize b i=y at*;walk_nrm;apply fN (n:=80) o.r.r;repeat w_nl fv
 w_go fv
 refine Â λ_ _=> ?_;exact q _ _ o B D ⟨U,U,U,U,U,U⟩
def atE(h:jc X W l m J s)(c:gA l)(b:OF kb ck n 8 (8000+50*n) tt)(B:n<=39) (p:∀d,gA d->jc X W d m J s->iB vQ d (G (f.at (y.put ((Q[j]?).bind (·.dst))<|ï Î)<|Å Q jJ::L) qX)):fu.fh À Î (xU vQ) l (Gu tt<|f.at y (Å Q (j::jJ)::L)::qX):=by
 have hF:True:=trivial;obtain⟨u,rfl⟩:=rF tt b.r;have q:u 1=Æ Ã n:=by simpa using b.C
 have r:u 5=Ô (Ä ⟨kb,0,á⟩) 8 ck:=by simpa using b.I
 have v:u 6=ï Î:=by simpa using b.M
 have e:u 7=Æ Ã ((8000+50*n:Nat):Int):=by simpa using b.N
 have w:u 8=Æ Ã 8:=by simpa using b.S
 clear b;have x:Ã.wrap (50*(n:Int))=((50*n:Nat):Int):=by rw[Ø];omega
 have i:Ã.wrap (8000+((50*n:Nat):Int))=((8000+50*n:Nat):Int):=by rw[Ø];omega
 obtain⟨a,k⟩:∃a,50*n=a:=⟨_,U⟩;rw[k]at x i e;obtain⟨z,o⟩:∃z,8000+a=z:=⟨_,U⟩;rw[o]at i e;clear k o;apply fN (n:=60) c.r.r;simp only[Gu,Ç,Ó,ÿ,q,r,v,e,w];conv in Oi=>whnf
 conv in acz=>whnf
 repeat w_go fv
 u_in fv hF
 refine ċ (t:=4) U U ġ U ⟨by u_nil,?_⟩;refine Â λ_ _=> ?_;exact .fA λC g=>⟨c.C g,U,p _ (c.C g)<|h.r g⟩
def acA(d:∀i,i<8->b i<10000)(e:n<=39)(g:DW b 8=8000+50*n) (k:∀c,gA c->jc X W c m J s->iB vQ c (G (f.at (y.put ((Q[j]?).bind (·.dst))<|ï Î)<|Å Q jJ::L) qX)):∀(a i:Nat) (l:fc) (tt:Array Ê),8-i=a->i<=8->DW b i<=10000*i->jc X W l m J s->gA l->Aa l kb ((Ç 8).map λi=>gf<|b i)->OF kb ck n i (DW b i) tt->fu.fh À Î (xU vQ) l (Gu tt<|f.at y (Å Q (j::jJ)::L)::qX)
 |0,i,l,tt,hm,hi,_,h,hb,hT,hF=>by
  obtain rfl:i=8:=Z
  rw[g]at hF;exact atE h hb hF e k
 |a+1,i,l,tt,hm,hi,hz,h,hb,hT,hF=>by have:=d i Z;exact atD h hb hT hF Z Z this λc o p q r t=>acA d e g k a (i+1) c o Z Z (by show DW b i+b i<=_;omega) q p r t
def atF{x:List fG}{v:fG}(h:jc X W l m J s)(k:gA l)(M:tx n s x v) (o:∀d,gA d->jc X W d m J s->iB vQ d (G (f.at (y.put ((Q[j]?).bind (·.dst))<|ï Î)<|Å Q jJ::L) qX)): iB vQ l (G (É À 19 #[Ë<|Ä ⟨m,0,á⟩,Æ Ã n] ê)<|f.at y (Å Q (j::jJ)::L)::qX):=by
 have hF:True:=trivial;let⟨p,q⟩:=ate h.I M;have e:=atd M;have g:=ar9 h.I Ob;rw[e]at g;have r:∀a∈UG v,nF a:=as4 _ (λi=>as3 _) _;have c:=fe<|Ò p<|Ò q<|Ò e<|Ò g<|Ò r<|Ò M.C o;clear p q e g r o M;rw[vW [_,_] 40 ġ];simp only[æ,Ú,ß];conv in jZ _ _=>whnf
 apply lM;apply fN (n:=60) k.r.r;repeat w_go fv
 refine Â λ_ _=> ?_;refine Gt h k Ġ (args:=#[Ë<|Ä ⟨m,0,á⟩,Á Ob,Æ Ã 8]) (hr:=λw=>by go_simp;rfl) λE z w _ _=> ?_;refine atq (n:=7) w z A c.out.2.2.1 c.out.2.2.2.2.1 U c.out.2.2.2.1 λB kb ck t C u=> ?_;have D:=fe u;clear h w u;walk_nrm;apply lM;apply fN (n:=60) t.r.r;repeat w_bar fv
 w_go fv
 refine Â λ_ _=> ?_;exact acA (b:=DV v) c.out.1 c.out.2.2.2.2.2.1 c.out.2.1 c.out.2.2.2.2.2.2 8 0 B _ U A (È _) C t D.out ⟨U,U,U,U,U,U⟩
end
def atG{T:ByteArray}(w:Ì)(h:B.size+T.size<=10^15):Sem.events À (Go.Op.stringOp BinOp.add B T) w #[]=#[]:=by
 have a:¬î<B.size+T.size:=by unfold î;omega
 simp[go_sem,Op.stringOp,a]
def atH{J:Jd}{l:fc}{b:Frame}{a:Act}{ops:Array Oper}{i:Nat}{rest:List Nat}{k:List Item}{cs:List Frame}{o:Oper}{x y:Operand}(S T U:ByteArray)(hb:gA l)(hU:S++T=U)(h:S.size+T.size<=10^15)(hn:fu.fh Tryz.prog true J l (G (b.at (a.put o.dst<|.string U)<|.inRegion ops rest::k) cs)) (ho:ops[i]?=some o:=by rfl) (oZ:o.op=.binOp .add 9 x y 9:=by rfl) (hx:a.eval x=.string S:=by rfl) (hy:a.eval y=.string T:=by rfl) (hw:Region.wanted o (yielded ops a.tmps)=true:=by rfl) (hk:b.kind≠.early:=by k_ne): fu.fh Tryz.prog true J l (G (b.at a<|.inRegion ops (i::rest)::k) cs):=by
 subst hU;have h2:¬9223372036854775807<S.size+T.size:=Z
 refine pd (v:=Á<|S++T) ho hw hk hb.r.r hb.q (λw _=> ?_) (λw _ e he=> ?_) hn
 .let⟨d,p,t,q,af,g⟩:=o;simp only at oZ;subst oZ;simp only[ĝ,hx,hy];go_simp
 .let⟨d,p,t,q,af,g⟩:=o;simp only at oZ;subst oZ;simp only[ĝ,hx,hy]at he;simp[go_sem,atG w h]at he
section
variable{l a:fc}{s c:List fG}{S p:ByteArray}
def atI(h:jc X W l j b s)(d:gA l)(o:B.size<=î)(p:lz s B=(S,0,c)) (q:∀a,gA a->jc X W a j b c->iB vQ a (G (f.at (y.put ((Q[i]?).bind (·.dst))<|ï Î)<|Å Q jJ::L) qX)): iB vQ l (G (É À 20 #[Ë<|Ä ⟨j,0,á⟩,Á B,Á S] ê)<|f.at y (Å Q (i::jJ)::L)::qX):=by
 have hF:True:=trivial;rw[vW [_,_,_] 19 ó];simp only[æ,Ú,ß];conv in jZ _ _=>whnf
 apply lM;apply fN (n:=60) d.r.r;repeat w_go fv
 refine Â λ_ _=> ?_;refine .fA λu e=>⟨d.C e,U,?_⟩;have m:=d.C e;refine Gp (f:=17) (args:=#[Ë<|Ä ⟨j,0,á⟩,Á B]) m U fO (by k_ne) (λw=>by go_simp) (λw=>Û U Č U U #[]) λr w=> ?_;refine Oe ((h.r e).r w) (m.C w) o λv g k=> ?_;rw[p]at k|-;dsimp only at k|-;walk_nrm;apply lM;apply fN (n:=60) g.r.r;repeat w_nl fv
 u_in fv hF
 refine ċ (t:=6) U U ó U ⟨by u_nil,?_⟩;refine Â λ_ _=> ?_;exact .fA λr w=>⟨g.C w,U,q _ (g.C w)<|k.r w⟩
end
def atJ(c:UInt8)(w:Ì):ņ À 18 #[Á ⟨#[33,c]⟩] w λe a=>e=.returned (Æ Ã<|-1)/\a=w:=by
 go_enter ò,ĳ;go_wp2;go_loop [3,4] (λn i=>i=Æ Ã 0/\n=Æ Ã 0) λ_ _=>0
 case atStart=>exact⟨U,U⟩
 case round=>
  obtain⟨rfl,rfl⟩:=hrel;go_wp2;go_ret;exact⟨U,U⟩
def acB{l:fc}(a:gA l)(b:nB<=l.w.heap.size)(c:UInt8): fu.fh À Î (λh u=>jL l h/\h.d=l.d/\u=G (f.finish<|Æ Ã<|-1) qX) l (G (É À 18 #[Á ⟨#[33,c]⟩] ê)<|f::qX):= JX a b fO (λu h=>by simp at h;subst h;exact .kq _) (λh=>by cases h;rfl) (atJ c) Î f qX
noncomputable def J6:ĭ:=jZ Ĵ [1,1,1,1,0,1,0,0]
noncomputable def UK:ĭ:=jZ Ĵ [1,1,1,1,1]
noncomputable def DZ (a:Array Ê):ě:=G ((base 5).at ⟨a,[]⟩<|Ğ J6::ı J6::[Ĕ 0,Ğ UK]) []
noncomputable def mOk:ĭ:=jZ Ĵ [1,1,1,1,0,1,0,0,1,0,0,1,1,1,1,1]
noncomputable def mUp:ĭ:=jZ Ĵ [1,1,1,1,0,1,0,0,1,1]
noncomputable def acC (a:Array Ê):ě:=G ((base 5).at ⟨a,[]⟩<|Ğ mOk::Ĕ 1::Ğ mUp::ı J6::[Ĕ 0,Ğ UK]) []
structure MF(bv:Ê)(x n j:Nat)(tt:Array Ê):Prop where
 r:tt.size=82
 C:tt[0]?=Ä bv
 I:tt[5]?=Ä (Ë<|Ä ⟨x,0,á⟩)
 M:tt[6]?=Ä (Æ Ã n)
 N:tt[7]?=Ä (Æ Ã j)
section
variable{l a:fc}{x c:Nat}{s o:List fG}{v:fG}{f:Nat->ByteArray}{tt:Array Ê}
def Oj(h:jc X W l x b s)(g:gA l)(M:tx n s o v)(a:MF (Ô O i c) x n j tt)(B:j<9223372036854775807) (p:∀d k,gA d->jc X W d x b s->MF (Ô O i c) x n (j+1) k->iB vQ d (DZ k)):iB vQ l (acC tt):=by
 have hF:True:=trivial;obtain⟨u,rfl⟩:=rF tt a.r;have q:u 0=Ô O i c:=by simpa using a.C
 have r:u 5=Ë (Ä ⟨x,0,á⟩):=by simpa using a.I
 have t:u 6=Æ Ã n:=by simpa using a.M
 have w:u 7=Æ Ã j:=by simpa using a.N
 clear a;have C:Ã.wrap ((j:Int)+1)=((j+1:Nat):Int):=å _ ⟨Z,Z⟩;apply lM;apply fN (n:=60) g.r.r;simp only[acC,Ç,Ó,ÿ,q,r,t,w];conv in mOk=>whnf
 repeat w_go fv
 refine Â λ_ _=> ?_;refine Gt h g ġ (args:=#[Ë<|Ä ⟨x,0,á⟩,Æ Ã n]) λD y m _ _=> ?_;refine atF m y M λE e z=> ?_;clear h m;walk_nrm;apply lM;apply fN (n:=60) e.r.r;repeat w_nl fv
 conv in mUp=>whnf
 repeat w_nl fv
 w_go fv
 refine Â λ_ _=> ?_;exact .fA λF f=>⟨e.C f,U,p _ _ (e.C f) (z.r f) ⟨U,U,U,U,U⟩⟩
def Rn(h:jc a.O a.w l x b s)(L:gA l)(hx:xW a O i f)(M:tx n s o v)(y:MF (Ô O i c) x n j tt)(hN:i<=9223372036854775807)(hj:j<i)(Zo:(f j).size<=10^15-3) (I:∀d z n' J ls' W,gA d->jc a.O a.w d x b J->tx n' J ls' W->MF (Ô O i c) x n' (j+1) z->iB vQ d (DZ z)):iB vQ l (DZ tt):=by
 have hF:True:=trivial;obtain⟨u,rfl⟩:=rF tt y.r;have e0:u 0=Ô O i c:=by simpa using y.C
 have e5:u 5=Ë (Ä ⟨x,0,á⟩):=by simpa using y.I
 have e6:u 6=Æ Ã n:=by simpa using y.M
 have e7:u 7=Æ Ã j:=by simpa using y.N
 clear y;have q2:Ã.wrap ((j:Int)+1)=((j+1:Nat):Int):=å _ ⟨Z,Z⟩;obtain⟨jr,N,X,rfl,_,_⟩:=hx j hj;have see:∀{d:fc} {J:List fG},jc a.O a.w d x b J->d.O N/\d.w.cell? ⟨N,X+j,á⟩=Ä (Á<|f j):=λ{d J} k=>by let⟨_,r,t,e,p,q2⟩:=(hx.r λE q=>(k.C E q).1) j hj;cases e;exact⟨p,q2⟩
 let⟨hO,hc⟩:=see h;apply lM;apply fN (n:=60) L.r.r;simp only[DZ,Ç,Ó,ÿ,e0,e5,e6,e7];conv in(occs:=1) J6=>whnf
 repeat w_go fv
 refine Â λ_ _=> ?_;apply nT (x:=⟨N,X+j,á⟩) (v:=Á<|f j) U fO (by k_ne) L.r.r L.q (Ù<|Ù hO) hc (λw h=>by go_simp) (λw h=>by simp[go_sem,h]);walk_nrm;refine za h L Ĺ (λd p F P Q=>aty p F (B:=f j) 59 jr P Q) λl2 D S _=> ?_;by_cases Y:(59:UInt8)∈(f j).data.toList
 .rw[decide_eq_true Y];walk_nrm;apply fN (n:=80) D.r.r;repeat w_nl fv
  w_go fv
  refine Â λ_ _=> ?_;exact .fA λV e=>⟨D.C e,U,I _ _ n s o v (D.C e) (S.r e) M ⟨U,U,U,U,U⟩⟩
 .rw[decide_eq_false Y];let⟨xa,hc2⟩:=see S;have UL:=as9 Y S.I M;obtain⟨T,y⟩:∃T,(⟨#[105,104,58]⟩++f j:ByteArray)=T:=⟨_,U⟩;have hTs:T.size=3+(f j).size:=by rw[<-y,Ï];rfl
  rw[y]at UL;have HI:=fe UL;clear UL h;walk_nrm;apply fN (n:=80) D.r.r;repeat w_nl fv
  refine Â λ_ _=> ?_;refine nT (x:=⟨N,X+j,á⟩) (v:=Á<|f j) U fO (by k_ne) D.r.r D.q (Ù<|Ù xa) hc2 (λw h=>by go_simp) (λw h=>by simp[go_sem,h]) ?_;walk_nrm;refine atH _ (f j) T D y (by show 3+(f j).size<=_;omega) ?_;walk_nrm;refine Gt S D Č (args:=#[Ë<|Ä ⟨x,0,á⟩,Á T]) λl3 Ru h3 _ _=> ?_;refine Oe h3 Ru (by unfold î;omega) λl4 C r=> ?_;have le:=M.C;have hwn:Ã.wrap ((n:Int)+1)=((n+1:Nat):Int):=å _ ⟨Z,Z⟩;rcases HI.out with⟨E,hE,q⟩|⟨h39,q⟩|q|⟨W,q,M'⟩
  .rw[q]at r|-;have t:(E==0)=ç:=by rwa[beq_eq_false_iff_ne]
   have K:(E !=0)=Î:=by simp[hE]
   dsimp only at r|-;walk_nrm;apply lM;apply fN (n:=80) C.r.r;iterate 47 w_nl fv
   refine Â λ_ _=> ?_;exact .fA λV e=>⟨C.C e,U,Oj (r.r e) (C.C e) M ⟨U,U,U,U,U⟩ Z λd z p G H=>I d z n s o v p G M H⟩
  .clear h39;rw[q]at r|-;dsimp only at r|-;walk_nrm;apply lM;apply fN (n:=80) C.r.r;repeat w_nl fv
   refine Â λ_ _=> ?_;refine za r C ò (λd p F P Q=>acB p F 52) λl5 t K _=> ?_;have k1:((-1:Int)==(n:Int)+1)=ç:=by rw[beq_eq_false_iff_ne];omega
   have k2:¬(-1:Int)=(n:Int)+1:=Z
   walk_nrm;apply fN (n:=80) t.r.r;iterate 21 w_nl fv
   refine Â λ_ _=> ?_;exact .fA λV e=>⟨t.C e,U,Oj (K.r e) (t.C e) M ⟨U,U,U,U,U⟩ Z λd z p G H=>I d z n s o v p G M H⟩
  .rw[q]at r|-;dsimp only at r|-;walk_nrm;apply lM;apply fN (n:=80) C.r.r;repeat w_nl fv
   refine Â λ_ _=> ?_;refine za r C ò (λd p F P Q=>acB p F 53) λl5 t K _=> ?_;have k1:((-1:Int)==(n:Int)+1)=ç:=by rw[beq_eq_false_iff_ne];omega
   have k2:¬(-1:Int)=(n:Int)+1:=Z
   walk_nrm;apply fN (n:=80) t.r.r;iterate 21 w_nl fv
   refine Â λ_ _=> ?_;exact .fA λV e=>⟨t.C e,U,Oj (K.r e) (t.C e) M ⟨U,U,U,U,U⟩ Z λd z p G H=>I d z n s o v p G M H⟩
  .rw[q]at r|-;dsimp only at r|-;walk_nrm;apply lM;apply fN (n:=80) C.r.r;repeat w_nl fv
   refine Â λ_ _=> ?_;refine za r C ò (λd p F P Q=>acy p F (g:=n+1) Z) λl5 t K _=> ?_;generalize n+1=m at*;walk_nrm;apply fN (n:=80) t.r.r;iterate 11 w_nl fv
   refine Â λ_ _=> ?_;exact .fA λV e=>⟨t.C e,U,Oj (K.r e) (t.C e) M' ⟨U,U,U,U,U⟩ Z λd z p G H=>I d z m _ s W p G M' H⟩
end
section
variable{l a:fc}{s e:List fG}{c:ą}
def atK(b:gA l)(e:nB<=l.w.heap.size)(f:n<18446744073709551616): fu.fh À Î (λa h=>jL l a/\a.d=l.d/\h=G (c.finish<|Á<|gf n) qX) l (G (É À 21 #[Æ ī n] ê)<|c::qX):= JX b e fO (λu h=>by simp at h;subst h;exact .iD _ _) (λh=>by cases h;rfl) (as2 n f) Î c qX
end
section
variable{l p g:fc}{c:Nat}{s o r:List fG}{v:fG}{f:Nat->ByteArray}{z:ą}{S T:ByteArray}
def atL(h:jc X W l m J s)(d:gA l)(e:B.size<=î)(f:lz s B=(T,0,o))(q:(T.toList==S.toList)=ç) (j:∀g,gA g->jc X W g m J o->iB vQ g (G (z.at (y.put ((Q[i]?).bind (·.dst))<|ï ç)<|Å Q jJ::L) qX)): iB vQ l (G (É À 20 #[Ë<|Ä ⟨m,0,á⟩,Á B,Á S] ê)<|z.at y (Å Q (i::jJ)::L)::qX):=by
 have hF:True:=trivial;rw[vW [_,_,_] 19 ó];simp only[æ,Ú,ß];conv in jZ _ _=>whnf
 apply lM;apply fN (n:=60) d.r.r;repeat w_go fv
 refine Â λ_ _=> ?_;refine Gt h d Č (args:=#[Ë<|Ä ⟨m,0,á⟩,Á B]) λr k p _ _=> ?_;refine Oe p k e λu a b=> ?_;rw[f]at b|-;dsimp only at b|-;walk_nrm;apply lM;apply fN (n:=60) a.r.r;repeat w_nl fv
 u_in fv hF
 refine ċ (t:=6) U U ó U ⟨by u_nil,?_⟩;refine Â λ_ _=> ?_;exact .fA λv c=>⟨a.C c,U,j _ (a.C c)<|b.r c⟩
def atM(h:jc X W l m J s)(B:gA l)(M:tx n s r v)(f:MF (Ô O b c) m n b d)(hN:b<=9223372036854775807) (C:∀g o,gA g->jc X W g m J o->vQ (ï Î) g.w):iB vQ l (DZ d):=by
 have hF:True:=trivial;obtain⟨u,rfl⟩:=rF d f.r;have I:u 0=Ô O b c:=by simpa using f.C
 have K:u 5=Ë (Ä ⟨m,0,á⟩):=by simpa using f.I
 have L:u 6=Æ Ã n:=by simpa using f.M
 have N:u 7=Æ Ã b:=by simpa using f.N
 clear f;have le:=M.C;have P:Ã.wrap ((n:Int)+1)=((n+1:Nat):Int):=å _ ⟨Z,Z⟩;have Q:ī.wrap ((n+1:Nat):Int)=((n+1:Nat):Int):=by rw[Ł];omega
 let⟨S,o,E,e,F⟩:=atb M;obtain⟨a,x⟩:∃a,n+1=a:=⟨_,U⟩;rw[x]at P Q e;have T:a<18446744073709551616:=Z
 have i:=fe<|Ò E<|Ò e<|Ò F x;clear E e F M x;apply lM;apply fN (n:=60) B.r.r;simp only[DZ,Ç,Ó,ÿ,I,K,L,N];conv in J6=>whnf
 conv in UK=>whnf
 repeat w_go fv
 refine Â λ_ _=> ?_;refine za h B ķ (λg j k p qX=>atK (n:=a) j k T) λl2 G q _=> ?_;clear h;by_cases H:n<39
 .have k1:¬(39:Int)<=n:=Z
  have k2:(n:Int)<39:=Z
  have e:=i.out.2.1 H;generalize gf a=D at*;walk_nrm;refine Gt q G ó (args:=#[Ë<|Ä ⟨m,0,á⟩,Á ⟨#[105,104,58,97,47]⟩,Á D]) λV y j _ _=> ?_;refine atI j y A (by rw[i.out.1,e]) λY k z=> ?_;clear q j;walk_nrm;apply abI;apply fN (n:=60) k.r.r;repeat w_nl fv
  refine Â λ_ _=> ?_;exact .fA λCl p=>⟨U,ï Î,λw=>abV (t:=4) U U Ĩ U ft,C _ _ (k.C p)<|z.r p⟩
 .obtain rfl:n=39:=Z
  obtain rfl:=i.out.2.2.2;have e:=i.out.2.2.1 H;walk_nrm;refine Gt q G ó (args:=#[Ë<|Ä ⟨m,0,á⟩,Á ⟨#[105,104,58,97,47]⟩,Á<|gf 40]) λV y j _ _=> ?_;refine atL j y A (by rw[i.out.1,e]) (by decide+kernel) λY k z=> ?_;clear q j;walk_nrm;apply abI;apply fN (n:=60) k.r.r;repeat w_nl fv
  refine Â λ_ _=> ?_;exact .fA λCl p=>⟨U,ï Î,λw=>abV (t:=4) U U Ĩ U ft,C _ _ (k.C p)<|z.r p⟩
def acD(k:xW p O b f)(q:∀j,j<b->(f j).size<=10^15-3)(i:b<=9223372036854775807)(t:∀g s,gA g->jc p.O p.w g m J s->vQ (ï Î) g.w):∀(a j:Nat) (l:fc) (n:Nat) (s r:List fG) (v:fG) (d:Array Ê),b-j=a->j<=b->jc p.O p.w l m J s->gA l->tx n s r v->MF (Ô O b c) m n j d->iB vQ l (DZ d)
 |0,j,l,n,s,r,v,d,hm,hj,h,hb,M,hT=>by
  have e:j=b:=Z
  subst e;exact atM h hb M hT i t
 |a+1,j,l,n,s,r,v,d,hm,hj,h,hb,M,hT=>Rn h hb k M hT i Z (q j Z) λg e u o x y z B C D=>acD k q i t a (j+1) g u o x y e Z Z B z C D
def atN(p:gA l)(u:nA l.w)(x:∀d,d=1\/d=2\/d=3\/d=4->l.O d)(C:xW l O b f)(D:∀j,j<b->(f j).size<=10^15-3)(E:b<=9223372036854775807)(k:Int)(F:-9223372036854775808<=k)(H:k<=9223372036854775807) (I:∀g,gA g->(∀d,l.O d->g.O d/\g.w.heap[d]?=l.w.heap[d]?)->l.w.heap.size<=g.w.heap.size->vQ (ï Î) g.w): iB vQ l (G (É À 5 #[Ô O b c,Æ Ã k] ê) []):=by
 have hF:True:=trivial;rw[vW [_,_] 80 Ĩ];simp only[æ,Ú,ß];conv in jZ _ _=>whnf
 apply lM;apply fN (n:=40) p.r.r;repeat w_go fv
 refine Â λ_ _=> ?_;refine .fA λQ t=>⟨p.C t,U,?_⟩;have y:=p.C t;refine Gp (f:=15) (args:=#[Æ Ã k]) y U fO (by k_ne) (λw=>by go_simp) (λw=>Û U Tryz.func15 U U #[]) λK h=> ?_;have r:fI l l.w K:=t.ff ⟨h.r,h.I,h.N,h.Y,h.S⟩;refine asg (y.C h) (u.r (õ u.fx r.r) λd q=>r.I d<|Ù<|x d q) x k F H λL m J M V i o=> ?_;have N:l.w.heap.size<=m:=õ r.r o.I;have P:jc l.O l.w L m J [gO.mE]:=⟨⟨M,V,o.r⟩,λd q=>⟨⟨(o.C d q).1,(o.C d q).2.trans<|r.I d<|Ù q⟩,by have:=p.r.fx d<|Ù q;omega⟩⟩;clear o;walk_nrm;apply lM;apply fN (n:=40) i.r.r;repeat w_go fv
 refine Â λ_ _=> ?_;apply pd (v:=ï ç) U fO (by k_ne) i.r.r i.q (λw _=>by go_simp) (λw _ e z=>by simp[go_sem,abS]at z);walk_nrm;apply fN (n:=60) i.r.r;repeat w_bar fv
 w_go fv
 refine Â λ_ _=> ?_;exact .fA λS e=>⟨i.C e,U,acD C D E (λg s z B=>I g z (λd q=>(B.C d q).1) (by let⟨_,_,q⟩:=B.a;exact õ N<|Nat.le_of_lt<|z.r.fx m<|Ù q.fp)) b 0 _ 0 _ [] gO.mE _ Z (Í _) (P.r e) (i.C e) ⟨U,U,U,(λ_ q=>by cases q),rfl,A⟩ ⟨rfl,rfl,rfl,rfl,rfl⟩⟩
end
def atO(d:nA W){N c:Nat}{f:Nat->ByteArray}(e:xW (JY W) O N f)(g:∀j,j<N->(f j).size<=10^15-3)(h:N<=9223372036854775807)(a:Int)(i:-9223372036854775808<=a)(k:a<=9223372036854775807): sr (λv w'=>v=ï Î/\nI W w') #[G (É À 5 #[Ô O N c,Æ Ã a] ê) []] W á #[]:= aso (l:=JY W) (atN (abW W) d (asq d) e g h a i k λn _ v m=>⟨U,λb q=>(v b q).2,m⟩) (abW W) U
end Go.Proofs.Y.kT
