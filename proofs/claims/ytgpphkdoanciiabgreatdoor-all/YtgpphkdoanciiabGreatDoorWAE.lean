import Derived.Test.YtgpphkdoanciiabGreatDoorWAD
import Derived.Deep.LoopGhost
set_option linter.all false
set_option maxRecDepth 1000000
set_option maxHeartbeats 8000000
open And renaming intro->À
open Go.Proofs.Tryz renaming prog->Á,func16->ö,underlying70->ø,ntmps168->ú,func168->ā,underlying121->ă,func22->ć,func14->Ĉ,func23->Ď,ntmps165->Đ,ntmps166->đ,underlying113->ē,ntmps66->Ę,ntmps65->Ě,ntmps64->ě,ntmps41->Ĝ,func165->ĝ,func166->Ġ,ntmps22->ġ,func66->Ĥ,func65->ĥ,func64->Ħ,func41->ħ,func26->ĩ,func25->Ī,ntmps116->İ,ntmps164->ı,ntmps150->Ĳ,func116->ķ,ntmps42->Ĺ,func164->Ļ,func150->ļ,ntmps68->Ŀ,ntmps70->Ł,ntmps43->ł,ntmps26->Ń,ntmps25->ń,func42->ň,func68->ŋ,func70->Ō,func43->ō,func17->ŏ,func15->Ő,func24->ő,func11->Œ,f11->Ś
open Go.Value renaming int->Â,pointer->Æ,slice->È,string->Ï,agg->Ú,bool->Û,tuple->Þ,oneCell'->à
open Option renaming some->Ã,none->Å,map_eq_some_iff->Ð
open Go.IntKind renaming i64->Ä,u64->Ø,wrap_i64->ß,u8->ą
open Bool renaming false->Ç,true->Ì,false_eq_true->Î,or_true->Ğ
open Go.Ending renaming returned->É
open Go renaming Value->Ê,World->Ô,bodyPost_ret->Õ,Calls->Ü,all_oneCell_toArray->å,execOp->ì,maxLen->í,Operand->ð,wpList_store_mid->ò,Frame->õ,Oper->ü,TypeId->þ,results_none->Ā,info_parts->ĉ,wpList_load_mid->ċ,wpList->Ē,Act->ģ,getD_set_ne->ī,yielded->ĭ,Addr->ĵ,cell_two_new->ĺ,events_store->Ņ,FuncId->ņ,undef->Ň,binOp->Ŏ,TypeInfo->Ŕ,Program->Ŗ,Item->ŗ,Exit->ŝ
open Go.Great renaming wpList_runTo->Ë
open Or renaming inl->Í,inr->Ó
open Go.Obj renaming cells->Ñ
open List renaming length_append->Ò,length_nil->ä,drop_eq_getElem_cons->è,eq_nil_of_length_eq_zero->ë,getD->ñ,idxOf_lt_length_of_mem->ÿ,take_append_drop->Č,replicate->ď,range->ĕ,take_length->Ģ,set_set->ŀ,length->ŉ,map->ś
open Nat renaming le_trans->Ö,one_pos->Ŋ
open Go.Calls renaming mono->Ù,quiet_of_same->ê,quiet_of->Į
open Go.Item renaming inRegion->Ý,code->Ř
open False renaming elim->á
open Go.TypeDesc renaming isRow->â
open Go.World renaming ownsRow_nil->ã,drewN_drewN->ę,cell?->Ĩ
open Go.Region renaming wanted->æ
open Go.Frame renaming enter->ç,finish_at->ô
open Int renaming lt_irrefl->é,emod_nonneg->ý,sub_zero->Ă,not_lt->Ċ,emod_lt_of_pos->Ĕ,add_comm->ľ
open Go.Conc renaming goes_leave1->î,events_call_body->ù,listed->ř
open Go.Act renaming eval->ï
open Go.RowKit renaming intOf->ó
open Go.CallKind renaming normal->û
open Go.Sem renaming events->Ą
open Decidable renaming byContradiction->Ć
open Go.Next renaming value->č
open Go.Oper renaming wp->ğ
open Go.BinOp renaming eql->ĳ,neq->Ĵ
variable{i n j b k m J j9 j7 j6:Nat}{w u W jX:Ô}{v x z jQ:Ê}{a p:ĵ}{h c:Int}{e t T:þ}{d q:Array Ê}{P:Ŗ}{y:ģ}{B:ByteArray}{X:Nat->Prop}{O:Option ĵ}{l:List Ê}{yQ:Bool}{cX cQ:ģ->Ô->Prop}{o:ü}{D:Nat->Nat}{L:List ŗ}{jJ:List Nat}{qX:List õ}{qQ:ð}{zQ:List Int}{zJ:Ŕ}{xX:ð->Ê}{vX:List ByteArray}{vQ:Ê->Ô->Prop}{vJ:ŝ->ģ->Ô->Prop}{Q:Array ü}{f:õ}{F:ņ}{s:Go.Func}{gJ kX:List (Nat×Int)}{bJ:List (Int×Bool)}{fX:List ü}{bX:Array þ}{bQ:Prop}
namespace Go.Proofs.Y
namespace gO
open RowKit Lift jg
abbrev VR:=gf×Value×Value×Value
def gU(p:VR):List Ê:=zV p.1 p.2.1 p.2.2.1 p.2.2.2
def vq(a:List VR):List Ê:=a.flatMap gU
structure xa(p:VR)(w:Ô):Prop where
 C:ie 229 p.2.1 p.1.C.length (je p.1.C) w
 I:ie 4 p.2.2.1 p.1.r.length (wZ p.1.r) w
 r:ie 3 p.2.2.2 p.1.r.length (wY p.1.r) w
structure RA(y:Nat)(av:Ê)(ps:List VR)(w:Ô):Prop where
 r:fy y [av] 72 w
 fE:w.ownsRow 0 116 148 av ps.length (vq ps)
 C:∀p∈ps,xa p w
section
variable{w':Ô}{y:Nat}{av:Ê}{ps:List VR}
def xa.fH{p:VR}(h:xa p w)(k:fw fB w w'):xa p w':=⟨h.C.fH k,h.I.fH k,h.r.fH k⟩
def RA.fH(h:RA y av ps w)(k:fw fB w w'):RA y av ps w':=⟨h.r.C k id,ia h.fE k λ_ _=>id,λp q=>(h.C p q).fH k⟩
def acj:∀(ps:List VR)(i j:Nat)(p:VR)(x:Ê),ps[i]?=Ã p->(gU p)[j]?=Ã x->(vq ps)[i*148+j]?=Ã x
 |[],i,j,p,x,h,_=>by cases h
 |q::r,0,j,p,x,h,hx=>by cases h;rwa[bR,dQ,vq,eL,eR (eP.1 hx).1]
 |q::r,i+1,j,p,x,h,hx=>by have a:(gU q).length=148:=pY _ _ _ _;rw[vq,eL,eT (by rw[a];omega),a,show(i+1)*148+j-148=i*148+j by omega];exact acj r i j p x h hx
theorem RA.I(h:RA y av ps w){p:VR}(a:ps[i]?=Ã p):∃b c,av=È (Ã ⟨b,0,Å⟩) ps.length c/\∀j x,(gU p)[j]?=Ã x->w.cell? ⟨b,i*148+j,Å⟩=Ã x:=by obtain⟨_,⟨f,k⟩|⟨g,d,l,rfl,_⟩⟩:=id h.fE;grind;refine⟨g,d,U,λj x e=> ?_⟩;have:=h.fE.cells (g:=g) U _ _<|acj ps i j p x a e;rwa[Addr.add_mid,dQ]at this
def qn(vs:List gf):Nat->Nat|0=>0|n+1=>if(vs.getD (qn vs n) kh).h<(vs.getD n kh).h then n else qn vs n
def sD(vs:List gf)(v:Int):Int:=if(vs.length:Int)<=v then-1 else if 0<=v then v else qn vs vs.length
def UX{vs:List gf}(h:0<vs.length):∀n,n<=vs.length->qn vs n<vs.length|0,_=>h|n+1,hn=>by unfold qn;split;omega;exact UX h n Z
def asb(h:RA y av ps w)(k:0<ps.length)(I:ps.length<=40)(J:∀p∈ps,0<=p.1.h/\p.1.h<=40)(v:Int)(P:-1<=v)(Q:v<=1000000):Ü Á 66 #[Æ<|Ã ⟨y,0,Å⟩,Â Ä v] w λe w'=>e=É (Â Ä (sD (ps.map (·.1)) v))/\∃n,w'=w.drewN n:=by
 have z:=h.r.r 0 _ U;obtain⟨b,c,rfl,_⟩:=h.I (i:=0)<|fe k;have l:∀i,i<ps.length->w.cell? ⟨b,i*148+144,Å⟩=Ã (Â Ä ((ps.map (·.1)).getD i kh).h):=λi B=>by let⟨S,T,e,o⟩:=h.I<|fe B;cases e;rw[show((ps.map (·.1)).getD i kh).h=ps[i].1.h by simp[ñ,B]];exact o 144 _<|tf 0 U
 have f:(ps.map (·.1)).length=ps.length:=dw _;have g:=λn (q:n<=ps.length)=>UX (vs:=ps.map (·.1)) (by rwa[f]) n (by rwa[f]);rw[sD,f];obtain⟨N,C⟩:∃N,ps.length=N:=⟨_,U⟩;rw[C]at z k I f|-;simp only[C]at l g;rw[f]at g;generalize ps.map (·.1)=vs at*;have s:=fv<|À l g;clear l g h J;by_cases D:(N:Int)<=v
 .rw[if_pos D];go_enter Ĥ,Ę;go_wp2;go_ret;exact⟨U,0,U⟩
 rw[if_neg D];by_cases E:0<=v
 .rw[if_pos E];go_enter Ĥ,Ę;go_wp2;go_ret;exact⟨U,0,U⟩
 rw[if_neg E];generalize F:qn vs N=r;have K:=fv F;clear F;go_enter Ĥ,Ę;go_wp2;go_loopw [5,6] (λx i wr=>∃j m:Nat,j<=N/\i=Â Ä j/\x=Â Ä (qn vs j)/\wr=w.drewN m) λ_ i _=>N-(ó i).toNat
 case atStart=>exact⟨0,0,eD _,U,U,U⟩
 case round=>
  obtain⟨j,m,L,rfl,rfl,a⟩:=hrel;have V:wr.cell? ⟨y,0,Å⟩=Ã (È (Ã ⟨b,0,Å⟩) N c):=by rwa[a]
  have G:=fv a;by_cases t:j<N
  .have W:wr.cell? ⟨b,j*148+144,Å⟩=Ã (Â Ä (vs.getD j kh).h):=by rw[a];exact s.1 j t
   have M:=s.2 j L;have X:wr.cell? ⟨b,qn vs j*148+144,Å⟩=Ã (Â Ä (vs.getD (qn vs j) kh).h):=by rw[a];exact s.1 _ M
   have d:qn vs (j+1)=if(vs.getD (qn vs j) kh).h<(vs.getD j kh).h then j else qn vs j:=U
   generalize(vs.getD j kh).h=o at*;generalize(vs.getD (qn vs j) kh).h=h2 at*;by_cases H:h2<o
   .rw[if_pos H]at d;have u:=fv d;clear d a;generalize qn vs j=q at*;go_wp2;go_quiet (fail);go_wp2;go_roundw
    case rel=>exact⟨j+1,m+_,t,by go_num,by rw[u.oQ],by rw[G.oQ,ę]⟩
    case measure=>simp[ó];omega
   rw[if_neg H]at d;have u:=fv d;clear d a;generalize qn vs j=q at*;go_wp2;go_quiet (fail);go_wp2;go_roundw
   case rel=>exact⟨j+1,m+_,t,by go_num,by rw[u.oQ],by rw[G.oQ,ę]⟩
   case measure=>simp[ó];omega
  .obtain rfl:j=N:=Z;have O:=fv<|K.oQ;go_wp2;go_ret;exact⟨by rw[<-O.oQ];rfl,m,U⟩
end
section
variable{ops:Array ü}{rest:List ü}{op o1 o2:ü}{a:ģ}{Q:ŝ->ģ->Ô->Prop}{x y:ð}{o:Nat}{d:Tmp}{cs:List Ê}
def fy.G(h:fy b cs t w):w.rangeAt b 0 cs:=fy.Y (tl:=[])<|by rwa[ep]
def tg(hr:(Tryz.prog.underlying T).map TypeDesc.isRow=some true)(hz:(Tryz.prog.info? T).map (·.size)=some n)(hl:cs.length=n)(hc:w.rangeAt b o cs)(h:wpList Tryz.prog ops Q rest (a.put op.dst<|.agg cs.toArray) w)(ho:op.op=.load T x:=by rfl)(hg:op.guard=none:=by rfl)(hx:a.eval x=.pointer (some ⟨b,o,none⟩):=by rfl):wpList Tryz.prog ops Q (op::rest) a w:=by let⟨td,hu,hd⟩:=Ð.1 hr;exact ċ hg T x ho b o hx cs td hc hu hd (by rw[hz,hl]) h
def zW(hi:(Tryz.prog.info? T).map (λi=>(i.size,i.zero.map (·.cells.size)))=some (n,some n))(cs:List Value)(hl:cs.length=n)(h1:∀v∈cs,v.oneCell'=true)(h:∀w',fy w.heap.size cs T w'->fw fB w w'->w'.heap.size=w.heap.size+1->wpList Tryz.prog ops Q rest (a.put (some d)<|.pointer<|some ⟨w.heap.size,0,none⟩) w')(e1:o1.op=.alloc T:=by rfl)(g1:o1.guard=none:=by rfl)(g2:o2.guard=none:=by rfl)(d1:o1.dst=some d:=by rfl)(e2:o2.op=.store T x y:=by rfl)(d2:o2.dst=none:=by rfl)(hx:(a.put (some d)<|.pointer<|some ⟨w.heap.size,0,none⟩).eval x=.pointer (some ⟨w.heap.size,0,none⟩):=by rfl)(hy:(a.put (some d)<|.pointer<|some ⟨w.heap.size,0,none⟩).eval y=.agg cs.toArray:=by rfl)(hT:my T=false:=by decide):wpList Tryz.prog ops Q (o1::o2::rest) a w:=by let⟨i,z,h2,h3,h4,h5⟩:=FP hi;exact Tm g1 g2 T e1 d d1 x y e2 d2 h2 h4 cs (by rw[h3,hl]) (by rw[h5,hl]) hx hy h1 h hT
def sE{t:Tmp}(a:fy b cs T w)(c:(Á.underlying T).map â=Ã Ì)(d:(Á.info? T).map (·.size)=Ã cs.length)(h:s.results=#[.cell t T])(e:q.getD t Ň=Æ (Ã ⟨b,0,Å⟩)):(results s q).run Á w=.ok (Ú cs.toArray) w:=by let⟨i,f,g⟩:=Ð.1 c;exact M4 h e a.G f g d
end
end gO
namespace me
open RowKit Lift gO
abbrev RS:=Nat×Bool
def jv(B:ByteArray)(E:RS):Option Int:=if E.2 then Å else(iV B)[E.1]?
def gF(B:ByteArray)(E:RS)(L:List Int):Nat×RS:=match jv B E with|some c=>if c∈L then(L.idxOf c,E.1+1,Ç)else(0,E.1,Ì)|none=>(0,E.1,Ì)
def oA(B:ByteArray):Nat->Int->RS->Int×RS
 |0,n,E=>(n,E)
 |m+1,n,E=>match jv B E with|some c=>if 0<n/\kE c=Ì then oA B m (10*n+(c-48)) (E.1+1,Ç)else(n,E)|none=>(n,E)
def vr:List Int:=[48,49,50,51,52,53,54,55,56,57]
def kS:List Int:=[97,98,99,100,101,102,103,104]
def BV:List Int:=vr++[97,98,99,100,101,102]
def qR(B:ByteArray)(m:Nat)(E:RS):Int×RS:=oA B m (gF B E vr).1 (gF B E vr).2
def BW(B:ByteArray)(E:RS):Int×RS:=if jv B E=Ã 104 then(-1,E.1+1,E.2)else qR B 1 E
def ly(B:ByteArray)(w:Int)(E:RS):Int×RS:=
 if w=86\/w=87 then BW B E else if w=110\/w=107 then qR B 5 E
 else if w=120\/w=121 then((gF B E kS).1,(gF B E kS).2)else if w=115 then((gF B E BV).1,(gF B E BV).2)else(0,(gF B E [w]).2)
def pC(c:List Int)(w z:Int):List Int:=
 if w=86 then c.set 5 z else if w=87 then c.set 6 z else if w=120 then c.set 0 z else if w=121 then c.set 1 z
 else if w=110 then c.set 2 z else if w=107 then c.set 3 z else if w=115 then c.set 7 z else c
def rJ(B:ByteArray):List Int->List Int->RS->List Int×RS|[],c,E=>(c,E)|w::tl,c,E=>rJ B tl (pC c w (ly B w E).1) (ly B w E).2
def nA(B:ByteArray):Nat->RS->RS
 |0,E=>E
 |n+1,E=>match jv B E with|some c=>if il c=0 then E else nA B n (E.1+1,Ç)|none=>E
def BX(B:ByteArray)(x:Int)(k:Nat)(E:RS):PT×RS:=
 if k=1 then(⟨[x,0,0,0,2],B.extract E.1 (nA B 40 E).1⟩,(gF B (nA B 40 E) [125]).2)
 else(⟨(rJ B (qN<|k+1) [x,0,0,0,(k+1:Nat)] E).1,⟨#[]⟩⟩,(rJ B (qN<|k+1) [x,0,0,0,(k+1:Nat)] E).2)
def pD(B:ByteArray)(E:RS):PT×RS:=BX B (ly B 120 E).1 (gF B (ly B 120 E).2 [62,123,58]).1 (gF B (ly B 120 E).2 [62,123,58]).2
def pZ(B:ByteArray):Nat->List PT->RS->List PT×RS|0,ts,E=>(ts,E)|n+1,ts,E=>if E.2 then(ts,E)else if jv B (pD B E).2=Ã 44/\n≠0 then pZ B n (ts++[(pD B E).1]) (gF B (pD B E).2 [44]).2 else(ts++[(pD B E).1],(pD B E).2)
def tj(k:Nat):List Int:=(ua<|k+1).filter (· ≠66)
def Gk(B:ByteArray)(k:Nat)(s:List Int×RS):PR×RS:=
 if k≠0\/s.2.2\/s.2.1=B.size\/jv B s.2=Ã 59 then(⟨s.1,[]⟩,s.2)else(⟨s.1,(pZ B 8 [] s.2).1⟩,(pZ B 8 [] s.2).2)
def mh:List Int:=[105,103,98,99,109,114,108,117,100]
def nD(B:ByteArray)(E:RS):PR×RS:=
 if(gF B E mh).2.2 then(PD.BR 1,(gF B E mh).2)else Gk B (gF B E mh).1 (rJ B (tj (gF B E mh).1) (PD.BR ((gF B E mh).1+1:Nat)).c (gF B E mh).2)
def BY(B:ByteArray):Nat->Nat->List PR->List PR×Int
 |0,a,_=>([],a)
 |n+1,a,l=>if(nD B (a,Ç)).2.2 then([],(nD B (a,Ç)).2.1)else if(nD B (a,Ç)).2.1=B.size then(l++[(nD B (a,Ç)).1],-1)
  else if jv B (nD B (a,Ç)).2=Ã 59/\n≠0 then BY B n ((nD B (a,Ç)).2.1+1) (l++[(nD B (a,Ç)).1])else([],(nD B (a,Ç)).2.1)
def BZ(B:ByteArray):List PR×Int:=if B.size=0 then([],-1)else BY B 24 0 []
def pR(B:ByteArray)(k:Nat)(st:PS):Nat×PS:=qO B (B.size-k) k st
section
variable{a:Nat}{st:PS}{tl r:List Int}{d:PD}{E:RS}
def ym:(iV B)[k]?=if h:k<B.size then Ã (B[k].toNat:Int)else Å:=by
 split;rename_i h;have a:k<(iV B).length:=by rwa[F4]
 rw[fe a];simp[iV,dX];exact da<|by rw[F4];omega
def B1(h:(iV B)[k]?=Å):pR B k st=(k,st):=by
 have:¬k<B.size:=by rw[ym]at h;split at h;cases h;assumption
 rw[pR,show B.size-k=0 by omega];rfl
theorem vt(h:(iV B)[k]?=Ã c):k<B.size/\pR B k st=match uf B k st c with|none=>(k,st)|some s=>pR B (k+1) s:=by
 rw[ym]at h;split at h;rename_i a;cases h;refine⟨a,?_⟩;unfold pR;rw[show B.size-k=(B.size-(k+1))+1 by omega,qO,dif_pos a];grind;cases h
def Nd(B:ByteArray)(a:Nat)(st:PS):Prop:=∀c,(iV B)[a]?=Ã c->¬(0<st.r/\kE c=Ì)
structure pF(B:ByteArray)(a:Nat)(r:List Int)(d:PD)(st:PS):Prop where
 C:st.C=r
 d:st.d=d
 M:Nd B a st
def yn(B:ByteArray)(a:Nat)(st:PS)(b:Nat):Prop:=∃s,pR B a st=(b,s)/\(b<B.size\/∃h tl,s.C=h::tl/\h≠66)
def Gs(B:ByteArray)(a:Nat)(st:PS)(E:RS)(r:List Int)(d:PD):Prop:=if E.2 then yn B a st E.1 else∃s,pF B E.1 r d s/\pR B a st=pR B E.1 s
def pF.I(h:pF B a r d st)(b:(iV B)[a]?=Ã c):pR B a st=match ki B a {st with r:=0} c with|none=>(a,st)|some s=>pR B (a+1) s:=by
 rw[(vt b).2,uf,if_neg<|h.M c b]
def PD.ui(d:PD)(c:List Int):PD:=if d.C then{d with N:={d.N with c:=c}}else{d with M:={d.M with c:=c}}
def PD.gC(d:PD):List Int:=if d.C then d.N.c else d.M.c
def JX(c:List Int):(d.ui c).C=d.C:=by unfold PD.ui;split<;>rfl
def NT(c:List Int):(d.ui c).gC=c:=by rw[PD.gC,JX];unfold PD.ui;split<;>rfl
def acn(c a:List Int):(d.ui c).ui a=d.ui a:=by let⟨_,_,_,t,_⟩:=d;cases t<;>rfl
def asc:d.ui d.gC=d:=by let⟨_,_,_,t,_⟩:=d;cases t<;>rfl
def uj(a:Bool):List Int:=if a then[120,121,110,107,61,40,44,41]else[86,87,120,121,110,107,115,58,62,40,44,41,47]
def UY(a:h∈uj d.C)(z:Int):d.fR h z=d.ui (pC d.gC h z):=by let⟨_,_,_,t,_⟩:=d;cases t;revert a;simp only[uj,Î,if_false,eK,dr,or_false];rintro(rfl|rfl|rfl|rfl|rfl|rfl|rfl|rfl|rfl|rfl|rfl|rfl|rfl)<;>rfl;revert a;simp only[uj,if_true,eK,dr,or_false];rintro(rfl|rfl|rfl|rfl|rfl|rfl|rfl|rfl)<;>rfl
def NU(b:pF B a (h::tl) d st)(g:h∈uj d.C)(j:∀c,oL h c=decide (c∈zQ))(k:∀c∈zQ,d.fR h (mf h c)=d.fR h (zQ.idxOf c))(l:∀c,mL h c=0): Gs B a st (gF B (a,Ç) zQ).2 tl (d.fR h (gF B (a,Ç) zQ).1):=by
 have i:h≠82/\h≠66/\h≠84/\h≠80:=by unfold uj at g;cases q:d.C<;>simp[q]at g<;>omega
 unfold gF jv;simp only[Î,if_false];cases f:(iV B)[a]? with
 |none=>exact⟨st,B1 f,Ó ⟨h,tl,b.C,i.2.1⟩⟩|some c=>
  have e:=b.I f;unfold ki at e;simp only[b.C,i,if_false,j]at e;by_cases q:c∈zQ;simp only[q,decide_true,if_true]at e|-;refine⟨_,⟨U,?_,λ_ _ z=> ?_⟩,e⟩;show st.d.fR h (mf h c)=_;rw[b.d];exact k c q;have:(0:Int)<mL h c:=z.1;rw[l]at this;omega;simp only[q,decide_false,Î,if_false]at e|-;exact⟨st,e,Í (vt (st:=st) f).1⟩
end
end me
namespace gO
open RowKit Lift me
structure p8(b:Nat)(B:ByteArray)(E:RS)(w:Ô):Prop where
 r:fy b [Ï B,Â Ä E.1,Û E.2] 173 w
 C:E.1<=B.size
 I:B.size<=1200
def kG(b:Nat)(B:ByteArray)(E:RS)(w a:Ô):Prop:=p8 b B E a/\fw (λk=>k=b) w a
section
variable{L:ByteArray}{E:RS}{w':Ô}
def p8.fH(h:p8 b B E w)(k:fw fB w w'):p8 b B E w':=⟨h.r.C k id,h.C,h.I⟩
def kG.fH(h:kG b B E w u)(k:fw fB u w'):kG b B E w w':=⟨h.1.fH k,h.2.fA<|k.fG λ_ _=>á⟩
def kG.N{a:RS}(h:kG b B E w u)(k:kG b B a u w'):kG b B a w w':=⟨k.1,h.2.fA k.2⟩
def kG.M(h:kG b B E w u){v:Int}(a:v=E.1+1)(c:E.1<B.size):kG b B (E.1+1,E.2) w (u.setCell ⟨b,1,Å⟩<|Â Ä v):=by subst a;exact⟨⟨h.1.r.fR 1 _,c,h.1.I⟩,h.2.fA<|fw.I (X:=λk=>k=b) (p:=⟨b,1,Å⟩) U _<|Ó h.1.r.S⟩
def kG.ase(h:kG b B E w u):kG b B (E.1,Ì) w (u.setCell ⟨b,2,Å⟩<|Û Ì):=⟨⟨h.1.r.fR 2 _,h.1.C,h.1.I⟩,h.2.fA<|fw.I (X:=λk=>k=b) (p:=⟨b,2,Å⟩) U _<|Ó h.1.r.S⟩
def Gl(h:jv B E=Ã c):E.2=Ç/\∃b:E.1<B.size,c=(B[E.1].toNat:Int):=by
 let⟨a,t⟩:=E;unfold jv at h;cases t with
 |true=>cases h
 |false=>
  rw[if_neg fD,ym]at h;split at h;rename_i b;cases h;exact⟨U,b,U⟩;cases h
def zY(h:p8 b B E w)(c:Int):Ü Á 65 #[Æ<|Ã ⟨b,0,Å⟩,Â ą c] w λe w'=>e=É (Û<|decide<|jv B E=Ã c)/\∃n,w'=w.drewN n:=by
 let⟨a,t⟩:=E;have i:=h.r.r 0 _ U;have f:=h.r.r 1 _ U;have g:=h.r.r 2 _ U;have j:=h.I;rw[jv,ym];simp only at f g;clear h;cases t
 .by_cases d:a<B.size
  .rw[dif_pos d];go_enter ĥ,Ě;go_wp2;go_quiet (fail);go_wp2;go_ret;exact⟨SV (by rw[dA];simp),_,U⟩
  rw[dif_neg d];go_enter ĥ,Ě;go_wp2;go_quiet (fail);go_wp2;go_ret;exact⟨U,_,U⟩
 go_enter ĥ,Ě;go_wp2;go_quiet (fail);go_wp2;go_ret;exact⟨U,_,U⟩
theorem asf(h:jv B E=Ã c)(a:zQ[j]?=Ã c)(b:c∉zQ.take j):gF B E zQ=(j,E.1+1,Ç):=by
 have d:j<zQ.length:=(eP.1 a).1;have e:zQ.idxOf c=j:=by rw[<-Č j zQ,List.idxOf_append,if_neg b,è d,(eP.1 a).2,List.idxOf_cons_self];simp;omega
 unfold gF;grind
theorem asg(h:∀c,jv B E=Ã c->c∉zQ):gF B E zQ=(0,E.1,Ì):=by unfold gF;grind
def D9(h:p8 b B E w)(p:L.size<=1200):Ü Á 115 #[Æ<|Ã ⟨b,0,Å⟩,Ï L] w λe w'=>e=É (Â Ä (gF B E<|iV L).1)/\kG b B (gF B E<|iV L).2 w w':=by
 have q:=h.I;have r:=h.C;go_enter Tryz.func115,Tryz.ntmps115;go_wp2;go_loopw [5] (λi wr=>∃j:Nat,j<=L.size/\i=Â Ä j/\kG b B E w wr/\∀c,jv B E=Ã c->c∉(iV L).take j) λi _=>L.size-(ó i).toNat
 case atStart=>exact⟨0,eD _,U,⟨h,fw.gy _ _⟩,λ_ _=>by simp⟩
 case round=>
  obtain⟨j,s,rfl,k,l⟩:=hrel;have H:=fv<|À k l;clear k l h;by_cases m:j<L.size
  .have f:(iV L)[j]?=Ã (L[j].toNat:Int):=by rw[ym,dif_pos m]
   by_cases d:jv B E=Ã (L[j].toNat:Int)
   .have o:=(Gl d).2.1;have a:=fv<|À d f;clear d f;go_wp2_with (go_at_call 65;refine(zY H.1.1 _).mono ?_;rintro e u ⟨rfl,n,rfl⟩;rw[decide_eq_true a.oQ.1];have t:=(H.1.fH<|fw.iQ _ _ n).1.r.r 1 _ U;have x:=(H.1.fH<|fw.iQ _ _ n).1.r.I 1);go_ret;rw[asf a.oQ.1 a.oQ.2<|H.oQ.2 _ a.oQ.1];have:=(H.1.fH<|fw.iQ _ _ n).M (v:=(E.1:Int)+1) Z o;rw[(Gl a.oQ.1).1]at this;exact⟨U,this⟩
   have a:=fv<|À d f;clear d f;go_wp2_with (go_at_call 65;refine(zY H.1.1 _).mono ?_;rintro e u ⟨rfl,n,rfl⟩;rw[decide_eq_false a.oQ.1]);go_roundw
   case rel=>exact⟨j+1,m,by go_num,H.1.fH<|fw.iQ _ _ _,λc g=>by rw[cD,a.oQ.2];simp only[cg,dx,eY,not_or];exact⟨H.2 c g,λe=>a.1<|e▸g⟩⟩
   case measure=>simp[ó];omega
  .have y:=H.1.1.r.r 2 _ U;have z:=H.1.1.r.I 2;go_wp2;go_ret;rw[asg λc g=>by have:=H.oQ.2 c g;rwa[eG (by rw[F4];omega)]at this];exact⟨U,H.1.ase⟩
end
def NV(c:Int)(w:Ô):Ü Á 148 #[Â ą c] w λe a=>e=É (Â Ä (jf<|il c).1)/\a=w:=by
 go_enter Tryz.func148,Tryz.ntmps148;go_wp2;all_goals
  go_ret;refine⟨Du ?_,U⟩;simp only[beq_iff_eq,beq_eq_false_iff_ne]at*;first|(subst_vars;rfl)|(rw[show il c=0 by simp[il, *];omega];rfl)
section
variable{S:ByteArray}{E:RS}{x:Int}
def ash(h:j<S.size):iV (S.extract j<|j+1)=[(S[j].toNat:Int)]:=by rw[iV,cC,cP,dE,è<|fN h];simp[dX]
def B2(h:p8 b B E w)(m:S.size=1)(a:iV S=[x]):Ü Á 117 #[Æ<|Ã ⟨b,0,Å⟩,Ï S] w λe u=>e=É (Þ #[])/\kG b B (gF B E [x]).2 w u:=by
 have f:iV (S.extract 0 1)=[x]:=by rw[ash (j:=0) Z,<-a];have:=aa1 S Z;rw[a]at this;rw[a,(List.cons.inj this).1]
 have g:(S.extract 0 1).size<=1200:=by rw[ByteArray.size_extract];omega
 have H:=fv<|À f g;clear f g a;go_enter Tryz.func117,Tryz.ntmps117;go_wp2;go_loopw [4] (λi wr=>(i=Â Ä 0/\kG b B E w wr)\/(i=Â Ä 1/\kG b B (gF B E [x]).2 w wr)) λi _=>1-(ó i).toNat
 case atStart=>exact Í ⟨U,h,fw.gy _ _⟩
 case round=>
  clear h;obtain⟨rfl,c⟩|⟨rfl,c⟩:=hrel
  .have k:=fv c;clear c;go_wp2_with (go_at_call 115;refine gl (D9 k.1 H.2) λW d=> ?_;rw[H.oQ.1]at d;have l:=fv d;clear d);go_roundw
   case rel=>exact Ó ⟨U,k.N l⟩
   case measure=>decide
  .go_wp2;go_end0;exact⟨U,c⟩
def JY(h:p8 b B E w):Ü Á 119 #[Æ<|Ã ⟨b,0,Å⟩] w λe u=>e=É (Â Ä (gF B E kS).1)/\kG b B (gF B E kS).2 w u:=by go_enter Tryz.func119,Tryz.ntmps119;go_wp2_with (go_at_call 115;refine gl (D9 h A) λW a=> ?_);go_ret;exact⟨U,a⟩
def JZ:Nat->Int|0=>1|k+1=>10*JZ k
def asi:∀j:Nat,j<=6->JZ j<=1000000:=A
def UZ{l:List Int}:(gF B E l).1=0\/(gF B E l).1<l.length:=by unfold gF;split;split;exact Ó<|ÿ ‹_›;exact Í U;exact Í U
def J0{t:Bool}{a:Nat}(h:t=Ì\/¬0<x\/¬((a:Int)<B.size)\/∃i:a<B.size,¬(48<=(B[a].toNat:Int))\/¬((B[a].toNat:Int)<=57)):oA B m x (a,t)=(x,a,t):=by
 cases m with
 |zero=>rfl|succ m=>
  unfold oA;split;rename_i c e;obtain⟨d,f,rfl⟩:=Gl e;rw[if_neg];rintro⟨g,b⟩;rw[BQ]at b;obtain h|h|h|⟨_,h|h⟩:=h;rw[h]at d;cases d;exact h g;exact h (by simp only at f;omega);exact h b.1;exact h b.2;rfl
def NW(h:p8 b B E w)(M:Nat)(O:M<=5):Ü Á 120 #[Æ<|Ã ⟨b,0,Å⟩,Â Ä<|(M:Int)+1] w λe u=>e=É (Â Ä (qR B M E).1)/\kG b B (qR B M E).2 w u:=by
 have P:=h.I;have G:(gF B E vr).1<10:=by obtain e|e:=UZ (B:=B) (E:=E) (l:=vr);omega;exact e
 have C:=D9 (L:=⟨#[48,49,50,51,52,53,54,55,56,57]⟩) h A;unfold qR;rw[show iV ⟨#[48,49,50,51,52,53,54,55,56,57]⟩=vr from rfl]at C;generalize gF B E vr=q at*;let⟨v,s⟩:=q;go_enter Tryz.func120,Tryz.ntmps120;go_wp2_with (go_at_call 115;refine gl C λW y=> ?_);go_loopw [5,6] (λn i wr=>∃(x:Int)(j:Nat)(τ:RS),n=Â Ä x/\i=Â Ä j/\1<=j/\j<=M+1/\kG b B τ w wr/\0<=x/\x<JZ j/\oA B M v s=oA B (M+1-j) x τ) λ_ i _=>10-(ó i).toNat
 case atStart=>exact⟨v,1,s,U,U,eE _,Z,y,Z,by show(v:Int)<10;omega,U⟩
 case round=>
  clear y h G C;obtain⟨x,j,⟨a,t⟩,rfl,rfl,Q,S,c,T,V,z⟩:=hrel;have X:=c.1.r.r 0 _ U;have I:=c.1.r.r 1 _ U;have J:=c.1.r.r 2 _ U;have Y:=c.1.r.I 1;have hp:=asi j Z;have K:=c.1.C;simp only at I J K;have H:=fv<|À c z;clear c z;by_cases D:(j:Int)<(M:Int)+1;by_cases f:0<x;cases t;by_cases F:(a:Int)<(B.size:Int);have g:a<B.size:=Z;by_cases k:48<=(B[a].toNat:Int);by_cases o:(B[a].toNat:Int)<=57
  .have r:oA B (M+1-j) x (a,Ç)=oA B (M+1-(j+1)) (10*x+((B[a].toNat:Int)-48)) (a+1,Ç):=by
    rw[show M+1-j=(M+1-(j+1))+1 by omega,oA];have:jv B (a,Ç)=Ã (B[a].toNat:Int):=by unfold jv;rw[if_neg fD,ym,dif_pos g]
    rw[this];simp only[f,apa ⟨k,o⟩,and_self,if_true]
   have N:=fv r;clear r;go_wp2;go_quiet (fail);go_wp2;go_quiet (fail);go_wp2;go_roundw
   case rel=>exact⟨_,j+1,(a+1,Ç),U,by go_num,Z,Z,kG.M (H.1.fH<|fw.iQ _ _ _) U g,Z,by rw[show JZ (j+1)=10*JZ j from rfl];omega,by rw[H.oQ.2,N.oQ]⟩
   case measure=>simp[ó];omega
  all_goals
   first|(have p:=decide_eq_false o;have d:=fv<|J0 (B:=B) (x:=x) (m:=M+1-j) (t:=Ç)<|Ó<|Ó<|Ó ⟨g,Ó o⟩;clear o)|(have p:=decide_eq_false k;have d:=fv<|J0 (B:=B) (x:=x) (m:=M+1-j) (t:=Ç)<|Ó<|Ó<|Ó ⟨g,Í k⟩;clear k)|(have p:=decide_eq_false F;have d:=fv<|J0 (B:=B) (x:=x) (m:=M+1-j) (t:=Ç)<|Ó<|Ó<|Í F;have r:¬a<B.size:=by omega)|(have p:=decide_eq_false f;have d:=fv<|J0 (B:=B) (x:=x) (m:=M+1-j) (a:=a) (t:=t)<|Ó<|Í f;clear f)|(have p:=decide_eq_false D;have d:=fv (show oA B (M+1-j) x (a,t)=(x,a,t) by rw[show M+1-j=0 by omega];rfl);clear D)|have d:=fv<|J0 (B:=B) (x:=x) (m:=M+1-j) (a:=a) (t:=Ì)<|Í U
   go_wp2;go_quiet (fail);go_wp2;go_ret;rw[H.oQ.2,d.oQ];exact⟨U,H.1.fH<|fw.iQ _ _ _⟩
def NY(h:p8 b B E w):Ü Á 116 #[Æ<|Ã ⟨b,0,Å⟩] w λe u=>e=É (Â Ä (BW B E).1)/\kG b B (BW B E).2 w u:=by
 have g:=h.I;have i:=h.C;unfold BW;by_cases a:jv B E=Ã 104
 .have d:=(Gl a).2.1;rw[if_pos a];have c:=fv a;clear a;go_enter ķ,İ;go_wp2_with (go_at_call 65;refine(zY h _).mono ?_;rintro e W ⟨rfl,n,rfl⟩;rw[decide_eq_true c.oQ];have f:=(h.fH<|fw.iQ _ _ n).r.r 1 _ U;have j:=(h.fH<|fw.iQ _ _ n).r.I 1);go_ret;exact⟨U,kG.M ⟨h.fH<|fw.iQ _ _ n,fw.iQ _ _ n⟩ U d⟩
 rw[if_neg a];have c:=fv a;clear a;go_enter ķ,İ;go_wp2_with (first|(go_at_call 65;refine(zY h _).mono ?_;rintro e W ⟨rfl,n,rfl⟩;rw[decide_eq_false c.oQ])|(go_at_call 120;refine gl (NW (h.fH (fw.iQ _ _ n)) 1 A) λj d=> ?_;have f:=fv d;clear d))
 go_ret;exact⟨U,f.1,(fw.iQ _ _ n).fA f.2⟩
def asj:∀k,k<=22->(0<(jf k).1↔k≠0)/\0<=(jf k).1:=A
def NZ{a:Nat}{t:Bool}(h:m=0\/t=Ì\/¬((a:Int)<B.size)\/∃f:a<B.size,il (B[a].toNat:Int)=0):nA B m (a,t)=(a,t):=by
 cases m with
 |zero=>rfl|succ m=>
  unfold nA;split;rename_i c d;obtain⟨b,e,rfl⟩:=Gl d;rw[if_pos];obtain h|h|h|⟨_,h⟩:=h;cases h;rw[h]at b;cases b;exact absurd e (by simp only;omega);exact h;rfl
def asl(h:p8 b B E w):Ü Á 163 #[Æ<|Ã ⟨b,0,Å⟩] w λe u=>e=É (Ï<|B.extract E.1 (nA B 40 E).1)/\kG b B (gF B (nA B 40 E) [125]).2 w u:=by
 have F:=h.I;have v:=h.C;have g:=h.r.r 1 _ U;let⟨c,t⟩:=E;simp only at g v|-;go_enter Tryz.func163,Tryz.ntmps163;go_wp2;clear g;go_loopg [] 40 (λn wr=>∃a:Nat,n+(a-c)=40/\c<=a/\kG b B (a,t) w wr/\nA B 40 (c,t)=nA B n (a,t))
 case atStart=>exact⟨c,Z,eE _,⟨h,fw.gy _ _⟩,U⟩
 case round=>
  clear h;let⟨a,k,G,d,o⟩:=hrel;have I:=d.1.r.r 0 _ U;have g:=d.1.r.r 1 _ U;have x:=d.1.r.r 2 _ U;have J:=d.1.r.I 1;have y:=d.1.C;simp only at g x y;have H:=fv<|À d o;have z:=fv k;clear d o;have K:(0:Int)<=(a:Int)-(c:Int):=Z
  have L:(a:Int)-(c:Int)<=40:=Z;cases t;by_cases p:(a:Int)<(B.size:Int);have l:a<B.size:=Z;by_cases C:(a:Int)-(c:Int)<40;have i:=asj _<|MW (B[a].toNat:Int);by_cases j:0<(jf<|il (B[a].toNat:Int)).1
  .obtain⟨n,rfl⟩:∃n,gk=n+1:=⟨gk-1,Z⟩;have q:nA B (n+1) (a,Ç)=nA B n (a+1,Ç):=by
    have:jv B (a,Ç)=Ã (B[a].toNat:Int):=by rw[jv,if_neg fD,ym,dif_pos l]
    rw[nA,this];simp only;rw[if_neg<|i.1.1 j]
   have f:=fv<|H.2.trans q;clear q i k;go_wp2;go_quiet ((go_at_call 148;exact ê<|NV _ _));go_wp2;go_roundg n
   case measure=>omega
   case rel=>exact⟨a+1,by have:=z.oQ;omega,Z,kG.M (H.1.fH<|fw.iQ _ _ _) U l,f⟩
  all_goals
   first|(have r:=decide_eq_false j;have f:=fv (NZ (m:=gk) (t:=Ç)<|Ó<|Ó<|Ó ⟨l,Ć λe=>j<|i.1.2 e⟩);clear j i)|(have r:=decide_eq_false C;have f:=fv<|NZ (B:=B) (m:=gk) (a:=a) (t:=Ç)<|Í Z)|(have r:=decide_eq_false p;have f:=fv<|NZ (B:=B) (m:=gk) (t:=Ç)<|Ó<|Ó<|Í p;have k:¬a<B.size:=by omega)|have f:=fv<|NZ (B:=B) (m:=gk) (a:=a) (t:=Ì)<|Ó<|Í U
   go_wp2;first|go_quiet (fail)|go_quiet ((go_at_call 148;exact ê<|NV _ _))
   go_wp2;go_quiet (fail);go_wp2_with (go_at_call 117;refine gl (B2 (H.1.1.fH<|fw.iQ _ _ _) U U) λM s=> ?_;have D:=fv s;clear s);go_ret;rw[H.oQ.2,f.oQ];exact⟨U,(H.1.fH<|fw.iQ _ _ _).N D⟩
end
structure LS(w0:Ô)(b:Nat)(B:ByteArray)(T:þ)(jt jo:Nat)(vs us:List Ê)(E:RS)(w:Ô):Prop where
 rd:p8 b B E w
 t:fy jt vs T w
 o:fy jo us T w
 kp:fw (λk=>k=b) w0 w
 lt:w0.heap.size<=jt/\w0.heap.size<=jo/\jt≠jo/\b<w0.heap.size
 fl:my T=Ç
section
variable{w0 w':Ô}{jt jo:Nat}{vs us:List Ê}{E E':RS}{x:Int}
def LS.iA(h:LS w0 b B T jt jo vs us E w)(k:kG b B E' w w'):LS w0 b B T jt jo vs us E' w':=by have:=h.lt;exact⟨k.1,h.t.C k.2 Z,h.o.C k.2 Z,h.kp.fA k.2,h.lt,h.fl⟩
def LS.fH(h:LS w0 b B T jt jo vs us E w)(k:fw fB w w'):LS w0 b B T jt jo vs us E w':=h.iA ⟨h.rd.fH k,k.fG λ_ _=>á⟩
def LS.fR(h:LS w0 b B T jt jo vs us E w)(i:Nat)(v:Ê):LS w0 b B T jt jo (vs.set i v) us E (w.setCell ⟨jt,i,Å⟩ v):=by have:=h.lt;have k:=fw.I (X:=λk=>k=jt) (p:=⟨jt,i,Å⟩) U v<|Ó<|h.t.S h.fl;exact⟨⟨h.rd.r.C k Z,h.rd.C,h.rd.I⟩,h.t.fR i v,h.o.C k Z,h.kp.C k λk a q=>by omega,h.lt,h.fl⟩
def LS.nL(h:LS w0 b B T jt jo vs us E w)(i:Nat)(e:vs[i]?=Ã v):w.cell? ⟨jt,i,Å⟩=Ã v:=h.t.r i v e
def LS.c6{a c d:Ê}(h:LS w0 b B T jt jo [v,z,jQ,a,c,d] us E w):(w.cell? ⟨jt,0,Å⟩=Ã v/\w.cell? ⟨jt,1,Å⟩=Ã z/\w.cell? ⟨jt,2,Å⟩=Ã jQ/\w.cell? ⟨jt,3,Å⟩=Ã a/\w.cell? ⟨jt,4,Å⟩=Ã c/\w.cell? ⟨jt,5,Å⟩=Ã d)/\∀i,w.frozen? ⟨jt,i,Å⟩=Ç:=⟨⟨h.nL 0 U,h.nL 1 U,h.nL 2 U,h.nL 3 U,h.nL 4 U,h.nL 5 U⟩,h.t.I⟩
def zZ(t:PT):List Ê:=[Â ą (if t.c.getD 4 0=1 then 62 else if t.c.getD 4 0=2 then 123 else 58),Â Ä<|t.c.getD 0 0,Â Ä<|t.c.getD 1 0,Â Ä<|t.c.getD 2 0,Â Ä<|t.c.getD 3 0,Ï t.p]
def J2:ly B 120 E=(((gF B E kS).1:Int),(gF B E kS).2)/\ly B 121 E=(((gF B E kS).1:Int),(gF B E kS).2)/\ly B 115 E=(((gF B E BV).1:Int),(gF B E BV).2)/\ly B 110 E=qR B 5 E/\ly B 107 E=qR B 5 E/\ly B 86 E=BW B E/\ly B 87 E=BW B E:=⟨U,U,U,U,U,U,U⟩
def N0:ly B 61 E=(0,(gF B E [61]).2)/\ly B 40 E=(0,(gF B E [40]).2)/\ly B 44 E=(0,(gF B E [44]).2)/\ly B 41 E=(0,(gF B E [41]).2)/\ly B 58 E=(0,(gF B E [58]).2)/\ly B 62 E=(0,(gF B E [62]).2)/\ly B 47 E=(0,(gF B E [47]).2):=⟨U,U,U,U,U,U,U⟩
def N4(c:List Int)(z:Int):(pC c 120 z=c.set 0 z/\pC c 121 z=c.set 1 z/\pC c 110 z=c.set 2 z/\pC c 107 z=c.set 3 z/\pC c 86 z=c.set 5 z/\pC c 87 z=c.set 6 z/\pC c 115 z=c.set 7 z)/\pC c 61 z=c/\pC c 40 z=c/\pC c 44 z=c/\pC c 41 z=c/\pC c 58 z=c/\pC c 62 z=c/\pC c 47 z=c:=⟨⟨U,U,U,U,U,U,U⟩,U,U,U,U,U,U,U⟩
def ty0:BX B x 0 E=(⟨[x,(gF B E kS).1,(qR B 5 (gF B (gF B E kS).2 [61]).2).1,0,1],⟨#[]⟩⟩,(qR B 5 (gF B (gF B E kS).2 [61]).2).2):=by simp[BX,qN,rJ,J2,N0,N4]
def ty1:BX B x 1 E=(⟨[x,0,0,0,2],B.extract E.1 (nA B 40 E).1⟩,(gF B (nA B 40 E) [125]).2):=rfl
def ty2:BX B x 2 E=(⟨[x,(gF B E kS).1,(qR B 5 (gF B (gF B E kS).2 [40]).2).1,(qR B 5 (gF B (qR B 5 (gF B (gF B E kS).2 [40]).2).2 [44]).2).1,3],⟨#[]⟩⟩,(gF B (qR B 5 (gF B (qR B 5 (gF B (gF B E kS).2 [40]).2).2 [44]).2).2 [41]).2):=by simp[BX,qN,rJ,J2,N0,N4]
def LS.gN{c:Array ü}{a:ģ}{x:ð}(H:LS w0 b B T jt jo vs us E w)(j:(Á.info? T).map (·.size)=Ã l.length)(f:us.length=l.length)(m:∀v∈l,v.oneCell'=Ì)(h:∀w',fy jo l T w'->kG b B E w0 w'->fw (λk=>k=jo) w w'->Ē Á c vJ fX (a.put Å Ň) w')(g:o.guard=Å)(e:o.op=.store T x qQ)(d:o.dst=Å)(n:a.eval x=Æ (Ã ⟨jo,0,Å⟩))(p:a.eval qQ=Ú l.toArray):Ē Á c vJ (o::fX) a w:=by refine ò g T x qQ e jo 0 l.toArray n p (H.o.K<|by simp[f]) (by rw[j];simp) (å m) ?_;rw[d];have r:=x7 l [] [] w us f (by simpa using H.o);have k:=uX (b:=jo) l 0 w<|H.o.S H.fl;have:=H.lt;exact h _ (by simpa using r) ⟨⟨H.rd.r.C k Z,H.rd.C,H.rd.I⟩,H.kp.C k λi s q=>by omega⟩ k
def LS.qe{ops:Array ü}{rest:List ü}{c:ü}{a:ģ}{x:ð}{d:Tmp}(H:LS w0 b B T jt jo vs us E w)(f:(Á.underlying T).map â=Ã Ì)(e:(Á.info? T).map (·.size)=Ã vs.length)(g:us.length=vs.length)(i:∀v∈vs,v.oneCell'=Ì)(h:∀w',fy jo vs T w'->kG b B E w0 w'->fw (λk=>k=jo) w w'->Ē Á ops vJ rest (a.put (Ã d)<|Ú vs.toArray) w')(j:o.guard=Å)(l:o.op=.load T x)(m:o.dst=Ã d)(n:c.guard=Å)(p:c.op=.store T qQ (.tmp d))(q:c.dst=Å)(r:a.eval x=Æ (Ã ⟨jt,0,Å⟩))(s:(a.put (Ã d)<|Ú vs.toArray).eval qQ=Æ (Ã ⟨jo,0,Å⟩))(u:(a.put (Ã d)<|Ú vs.toArray).eval (.tmp d)=Ú vs.toArray):Ē Á ops vJ (o::c::rest) a w:=by let⟨z,C,D⟩:=Ð.1 f;apply ċ j T x l jt 0 r vs z H.t.G C D e;rw[m];exact H.gN e g i h n p q s u
def aco{a b c d e f:Value}(h:∀v∈[a,b,c,d,e,f],v.oneCell'=true:=by simp[Value.oneCell']):∀v∈[a,b,c,d,e,f],v.oneCell'=true:=h
def U0:(Á.info? 253).map (·.size)=Ã 6:=fK
def U1:(Á.underlying 253).map â=Ã Ì:=fK
theorem asn(h:p8 b B E w):Ü Á 147 #[Æ<|Ã ⟨b,0,Å⟩] w λe w'=>e=É (Ú (zZ (pD B E).1).toArray)/\kG b B (pD B E).2 w w':=by
 have c:(gF B (gF B E kS).2 [62,123,58]).1=0\/(gF B (gF B E kS).2 [62,123,58]).1=1\/(gF B (gF B E kS).2 [62,123,58]).1=2:=by have:=UZ (B:=B) (E:=(gF B E kS).2) (l:=[62,123,58]);grind
 have L:LS w b B 253 (w.heap.size+1) w.heap.size [Â ą 0,Â Ä 0,Â Ä 0,Â Ä 0,Â Ä 0,Ï ⟨#[]⟩] [Â ą 0,Â Ä 0,Â Ä 0,Â Ä 0,Â Ä 0,Ï ⟨#[]⟩] E ((w.alloc<|Ñ #[Â ą 0,Â Ä 0,Â Ä 0,Â Ä 0,Â Ä 0,Ï ⟨#[]⟩] 253).alloc<|Ñ #[Â ą 0,Â Ä 0,Â Ä 0,Â Ä 0,Â Ä 0,Ï ⟨#[]⟩] 253):=⟨h.fH kp,by have:=fy.N (w.alloc<|Ñ #[Â ą 0,Â Ä 0,Â Ä 0,Â Ä 0,Â Ä 0,Ï ⟨#[]⟩] 253) [Â ą 0,Â Ä 0,Â Ä 0,Â Ä 0,Â Ä 0,Ï ⟨#[]⟩] 253;simpa using this,(fy.N w [Â ą 0,Â Ä 0,Â Ä 0,Â Ä 0,Â Ä 0,Ï ⟨#[]⟩] 253).C (kp (X:=fB)) id,kp,⟨Z,Z,Z,h.r.M⟩,U⟩;have H:=fv L;clear L h;simp only[pD,J2];obtain c|c|c:=c;all_goals
  rw[c];simp only[ty0,ty1,ty2];have o:=fv c;clear c;go_enter Tryz.func147,Tryz.ntmps147;go_wp2_with (first|(go_at_call 119;(first|with_reducible refine(JY H.oQ.rd).mono ?_|refine(JY (H.oQ.fR _ _).rd).mono ?_);rintro e d ⟨rfl,a⟩;(first|with_reducible have H:=fv (H.oQ.iA a)|have H:=fv<|(H.oQ.fR _ _).iA a);clear a;let⟨⟨f,g,i,j,k,m⟩,n⟩:=H.oQ.c6)|(go_at_call 115;refine gl (D9 (H.fR _ _).rd A) λd a=> ?_;have H:=fv<|(H.fR _ _).iA a;clear a;rw[show(gF B (gF B E kS).2<|iV ⟨#[62,123,58]⟩).1=_ from o.oQ];let⟨⟨f,g,i,j,k,m⟩,n⟩:=H.c6)|(go_at_call 117;(first|with_reducible refine(B2 H.oQ.rd U U).mono ?_|refine(B2 (H.oQ.fR _ _).rd U U).mono ?_);rintro e d ⟨rfl,a⟩;(first|with_reducible have H:=fv (H.oQ.iA a)|have H:=fv<|(H.oQ.fR _ _).iA a);clear a;let⟨⟨f,g,i,j,k,m⟩,n⟩:=H.oQ.c6)|(go_at_call 120;refine gl (NW H.rd 5 A) λd a=> ?_;have H:=fv<|H.iA a;clear a;let⟨⟨f,g,i,j,k,m⟩,n⟩:=H.c6)|(go_at_call 163;refine gl (asl (H.fR _ _).rd) λd a=> ?_;have H:=fv<|(H.fR _ _).iA a;clear a;let⟨⟨f,g,i,j,k,m⟩,n⟩:=H.c6)|(refine sw 253 U ?_;(first|refine LS.qe (H.fR _ _) U1 U0 U aco ?_ U U U U U U U U U|refine LS.qe H U1 U0 U aco ?_ U U U U U U U U U);intro f a d _))
  exact Õ (sE a U1 U0 U U) U ⟨U,d⟩
end
def B3(w:World)(cs:List Value)(T:TypeId){n:Nat}(hn:n=w.heap.size:=by simp):∀j u,cs[j]?=some u->(w.alloc<|.cells cs.toArray T).cell? ((⟨n,0,none⟩:Addr).add j)=some u:=λj u h=>by rw[Addr.add_mid,hn];exact(fy.N w cs T).r _ _<|by rwa[dQ]
def J3{base z:Nat}{xs:List Ê}(h:w.ownsRow base T z v n xs):ie T v n xs w:=by obtain⟨a,cp,rfl⟩:=jj h;obtain⟨b,c⟩|⟨g,i,k,b,c,d,e,_⟩:=h.2;cases b;have:=h.1;rw[bR]at this;rw[ë this];exact ie.C _ _;cases b;refine⟨_,_,U,e,λj x f=>⟨g,0,U,⟨_,_,d⟩,?_⟩⟩;have:=h.cells (g:=g) U j x f;rwa[Addr.add_mid]at this
section
variable{w':Ô}{vs:List Ê}{E r:RS}{x:Int}
def LS.Cq{base:Nat}{xs f:List Ê}(h:LS W b B T j9 J vs l E w)(o:w.ownsRow base e i v n xs)(g:W.heap.size<=base)(a:nU w base e i v n xs m f jQ w')(d:e≠T/\e≠173):LS W b B T j9 J vs l E w':=⟨⟨h.rd.r.C a.r<|iG o h.rd.r d.2,h.rd.C,h.rd.I⟩,h.t.C a.r<|iG o h.t d.1,h.o.C a.r<|iG o h.o d.1,h.kp.C a.r λc j q=>by have:=(o.lt c q).1;omega,h.lt,h.fl⟩
def LS.aso{base:Nat}{xs:List Ê}(h:LS W b B T j9 J vs l E w)(o:w.ownsRow base e j v n xs)(a:e≠T)(i:Nat)(u:Ê):(w.setCell ⟨j9,i,Å⟩ u).ownsRow base e j v n xs:=ia o (fw.I (X:=λk=>k=j9) (p:=⟨j9,i,Å⟩) U u<|Ó<|h.t.S h.fl) λk q e=>iG o h.t a<|e▸q
def LS.c9{a d e f g c:Ê}(h:LS W b B T j9 J [v,z,jQ,a,d,e,f,g,c] l E w):(w.cell? ⟨j9,0,Å⟩=Ã v/\w.cell? ⟨j9,3,Å⟩=Ã a/\w.cell? ⟨j9,8,Å⟩=Ã c)/\(w.cell? ⟨b,0,Å⟩=Ã (Ï B)/\w.cell? ⟨b,1,Å⟩=Ã (Â Ä E.1)/\w.cell? ⟨b,2,Å⟩=Ã (Û E.2))/\∀i,w.frozen? ⟨j9,i,Å⟩=Ç:=⟨⟨h.nL 0 U,h.nL 3 U,h.nL 8 U⟩,⟨h.rd.r.r 0 _ U,h.rd.r.r 1 _ U,h.rd.r.r 2 _ U⟩,h.t.I⟩
def yo(B:ByteArray)(E:RS):List PT×RS:=if E.2\/E.1=B.size\/jv B E=Ã 59 then([],E)else pZ B 8 [] E
def p9(a:List PT):List Ê:=a.flatMap zZ
def asq(a:List PT)(t:PT):p9 (a++[t])=p9 a++zZ t:=by simp[p9]
def sF:(Á.info? 127).map (·.size)=Ã 9:=fK
def tu:(Á.underlying 127).map â=Ã Ì:=fK
def asr:(Á.info? 253).map iF=Ã (Ã<|Ú #[Â ą 0,Â Ä 0,Â Ä 0,Â Ä 0,Â Ä 0,Ï ⟨#[]⟩],6,56):=fK
def Ea{a b c d e f g h i:Value}(k:∀v∈[a,b,c,d,e,f,g,h,i],v.oneCell'=true:=by simp[Value.oneCell']):∀v∈[a,b,c,d,e,f,g,h,i],v.oneCell'=true:=k
def Eb:List Ê:=[Â ą 0,Â Ä 0,Â Ä 0,Â Ä 0,Â Ä 0,Â Ä 0,Â Ä 0,Â Ä 0,È Å 0 0]
def asu(h:p8 b B E w)(kd v z Q C D F G:Int):Ü Á 118 #[Æ<|Ã ⟨b,0,Å⟩,Ú #[Â ą kd,Â Ä v,Â Ä z,Â Ä Q,Â Ä C,Â Ä D,Â Ä F,Â Ä G,È Å 0 0]] w λe w'=>
 ∃tv,e=É (Ú #[Â ą kd,Â Ä v,Â Ä z,Â Ä (gF B E kS).1,Â Ä C,Â Ä D,Â Ä F,Â Ä G,tv])/\ie 253 tv (yo B (gF B (gF B E kS).2 [47]).2).1.length (p9 (yo B (gF B (gF B E kS).2 [47]).2).1) w'/\kG b B (yo B (gF B (gF B E kS).2 [47]).2).2 w w':=by
 have L:LS w b B 127 w.heap.size (w.heap.size+1) [Â ą kd,Â Ä v,Â Ä z,Â Ä Q,Â Ä C,Â Ä D,Â Ä F,Â Ä G,È Å 0 0] Eb E ((w.alloc<|Ñ #[Â ą kd,Â Ä v,Â Ä z,Â Ä Q,Â Ä C,Â Ä D,Â Ä F,Â Ä G,È Å 0 0] 127).alloc<|Ñ #[Â ą 0,Â Ä 0,Â Ä 0,Â Ä 0,Â Ä 0,Â Ä 0,Â Ä 0,Â Ä 0,È Å 0 0] 127):=⟨h.fH kp,(fy.N w [Â ą kd,Â Ä v,Â Ä z,Â Ä Q,Â Ä C,Â Ä D,Â Ä F,Â Ä G,È Å 0 0] 127).C (kp (X:=fB)) id,by have:=fy.N (w.alloc<|Ñ #[Â ą kd,Â Ä v,Â Ä z,Â Ä Q,Â Ä C,Â Ä D,Â Ä F,Â Ä G,È Å 0 0] 127) Eb 127;simpa[Eb]using this,kp,⟨Z,Z,Z,h.r.M⟩,U⟩;have H:=fv L;clear L h;have C1:=JY H.rd;have Y:=λw' (h:p8 b B (gF B E kS).2 w')=>B2 (S:=⟨#[47]⟩) (x:=47) h U U;generalize gF B E kS=y at*;let⟨x,σ1⟩:=y;simp only at C1 Y|-;generalize gF B σ1 [47]=y at*;let⟨y,a,t⟩:=y;simp only at Y|-;go_enter Tryz.func118,Tryz.ntmps118;go_wp2_with (first|(go_at_call 119;refine gl C1 λw2 l=> ?_;have H:=fv<|H.iA l;clear l C1;let⟨⟨J,K,r⟩,_,d⟩:=H.c9)|(go_at_call 117;refine gl (Y _ (H.fR _ _).rd) λw3 l=> ?_;have H:=fv ((H.fR _ _).iA l);clear l Y))
 clear J K r d;let⟨⟨J,K,r⟩,⟨c0,M,N⟩,d⟩:=H.c9;have hle:=H.rd.C;simp only at M N hle;cases t;by_cases e1:a=B.size;rotate_left;by_cases O:jv B (a,Ç)=Ã 59;rotate_left
 .have hE:yo B (a,Ç)=pZ B 8 [] (a,Ç):=if_neg (by rintro(q|q|q);cases q;exact e1 q;exact O q);have e3:((a:Int)==(B.size:Int))=Ç:=by rw[beq_eq_false_iff_ne];omega
  have P:=fv hE;have e4:=decide_eq_false O;clear hE O;go_wp2;go_quiet ((go_at_call 65;exact Į<|zY (H.rd.fH<|fw.iQ _ _ _) _));let⟨i0,pe,mX,Bz,BA⟩:=ĉ asr;have HI:=fv<|À pe<|À mX<|À Bz BA;clear pe mX Bz BA J K r c0 M N d e3 e4;go_wp2;go_loopw [5] (λi wr=>∃(c:List PT)(τ:RS)(p:Option ĵ)(cp:Nat),c.length<=8/\i=Â Ä c.length/\LS w b B 127 w.heap.size (w.heap.size+1) [Â ą kd,Â Ä v,Â Ä z,Â Ä x,Â Ä C,Â Ä D,Â Ä F,Â Ä G,È p c.length cp] Eb τ wr/\wr.ownsRow w.heap.size 253 6 (È p c.length cp) c.length (p9 c)/\pZ B 8 [] (a,Ç)=pZ B (8-c.length) c τ) λi _=>8-(ó i).toNat
  case atStart=>exact⟨[],(a,Ç),Å,0,fD,U,H.fH<|fw.iQ _ _ _,ã _ _ _ _,U⟩
  case round=>
   clear H;obtain⟨c,⟨k,t⟩,p,cp,hts,rfl,hL,hO,hF⟩:=hrel;obtain⟨n,hn⟩:∃n,c.length=n:=⟨_,U⟩;let⟨⟨J,K,r⟩,⟨c0,M,N⟩,d⟩:=hL.c9;have f8:=d 8;simp only[hn]at M N r hts|-;have H:=fv<|À hL<|À hO<|À hF hn;clear hL hO hF hn d;cases t;by_cases hj:(n:Int)<8
   .have hx:=H.1.rd;have s:=asn hx;have wB:∀m,n=m->pZ B (8-m) c (k,Ç)=if jv B (pD B (k,Ç)).2=Ã 44/\8-m-1≠0 then pZ B (8-m-1) (c++[(pD B (k,Ç)).1]) (gF B (pD B (k,Ç)).2 [44]).2 else(c++[(pD B (k,Ç)).1],(pD B (k,Ç)).2):=by
     rintro m rfl;rw[show 8-n=(8-n-1)+1 by omega];rfl
    have HB:=fv wB;clear wB hx;generalize pD B (k,Ç)=q at*;let⟨⟨f,tp⟩,τ⟩:=q;simp only[zZ]at s;generalize wG:(if f.getD 4 0=1 then(62:Int)else if f.getD 4 0=2 then 123 else 58)=k0 at s;generalize h0:f.getD 0 0=t0 at s;generalize h1:f.getD 1 0=t1 at s;generalize l:f.getD 2 0=t2 at s;generalize h3:f.getD 3 0=t3 at s;have HK:=fv (show p9 (c++[⟨f,tp⟩])=p9 c++[Â ą k0,Â Ä t0,Â Ä t1,Â Ä t2,Â Ä t3,Ï tp] by rw[asq];simp only[zZ,wG,h0,h1,l,h3]);clear wG h0 h1 l h3;have g:=HB n U;clear HB;by_cases u:jv B τ=Ã 44;by_cases T:n+1=8;have Lq:=decide_eq_true u;have h7':((n:Int)+1==8)=Ì:=by rw[beq_iff_eq];omega
    rw[if_neg (by rintro⟨_,q⟩;exact q Z)]at g;have I:=fv g;clear g u T;rotate_left;have Lq:=decide_eq_true u;rw[if_pos ⟨u,Z⟩]at g;have I:=fv g;clear g u;rotate_left;have Lq:=decide_eq_false u;rw[if_neg λq=>u q.1]at g;have I:=fv g;clear g u;all_goals
     go_wp2_with (first|(go_at_call 147;refine gl s λw4 h4=> ?_;have H:=fv (À (H.1.iA h4)<|À (ia H.2.1 h4.2 λj q e=>iG H.2.1 H.1.rd.r A<|e▸q) H.2.2);clear h4 s;let⟨⟨J,K,r⟩,⟨c0,M,N⟩,d⟩:=H.1.c9;simp only[H.oQ.2.2.2]at r;have f8:=d 8;have l4:=H.1.t.M)|(at_builtin;refine xU (n:=c.length) (xs:=p9 c) (m:=1) U _ _ 125 U Tryz.underlying125 HI.1 HI.2.1 HI.2.2.1 HI.2.2.2 U (by rw[H.oQ.2.2.2];rfl) (ia H.2.1 (kp (X:=fB)) λ_ _=>id) ⟨_,0,Å⟩ _ U Z U (B3 _ [Â ą k0,Â Ä t0,Â Ä t1,Â Ä t2,Â Ä t3,Ï tp] 253) (by simp[à]) (by rw[H.oQ.2.2.2];unfold í;omega) (by rw[H.oQ.2.2.2];omega) (by simp;have:=H.1.kp.M;omega) ?_;intro tv w5 ha;obtain⟨tq,tcp,rfl⟩:=jj ha.fE;have H:=fv (À (LS.Cq (H.1.fH<|kp (X:=fB)) (ia H.2.1 (kp (X:=fB)) λ_ _=>id) (eE _) ha A)<|À ha.fE H.2.2);clear ha;let⟨⟨J,K,r⟩,⟨c0,M,N⟩,d⟩:=H.1.c9;have f8:=d 8)|(go_at_call 65;refine(zY (H.1.fR _ _).rd _).mono ?_;rintro e w6 ⟨rfl,m,rfl⟩;have H:=fv<|À ((H.1.fR 8<|È tq (c.length+1) tcp).fH<|fw.iQ fB _ m)<|À (ia (H.1.aso H.2.1 A 8<|È tq (c.length+1) tcp) (fw.iQ fB _ m) λ_ _=>id) H.2.2)|(go_at_call 117;refine gl (B2 H.1.rd U U) λw7 T=> ?_;have H:=fv (À (H.1.iA T)<|À (ia H.2.1 T.2 λj q e=>iG H.2.1 H.1.rd.r A<|e▸q) H.2.2);clear T)|(refine sw 127 U ?_;refine LS.qe H.1 tu sF U Ea ?_ U U U U U U U U U;intro w9 V W k9))
    iterate 2 (apply Õ (sE V tu sF U U) U;rw[P.oQ,H.oQ.2.2.1,(by rw[H.oQ.2.2.2];exact I.oQ:pZ B (8-c.length) c (k,Ç)=(c++[⟨f,tp⟩],τ))];exact⟨_,U,by have:=J3 (ia H.2.1 k9 λj q e=>iG H.2.1 H.1.o A<|e▸q);rw[HK.oQ,Ò];exact this,W⟩)
    go_roundw
    case rel=>exact⟨c++[⟨f,tp⟩],(gF B τ [44]).2,tq,tcp,by simp[H.oQ.2.2.2];omega,by rw[Ò,H.oQ.2.2.2];go_num,by rw[Ò];exact H.1,by rw[HK.oQ,Ò];exact H.2.1,by rw[H.oQ.2.2.1,H.oQ.2.2.2,I.oQ,Ò,H.oQ.2.2.2];rfl⟩
    case measure=>simp[ó];omega
   all_goals
    first|(have hd:=decide_eq_false hj;have I:=fv<|show pZ B (8-n) c (k,Ç)=(c,k,Ç) by rw[show 8-n=0 by omega];rfl)|have I:=fv<|show pZ B (8-n) c (k,Ì)=(c,k,Ì) by cases 8-n<;>rfl
    go_wp2_with (apply sw 127 U;refine LS.qe H.1 tu sF U Ea ?_ U U U U U U U U U;intro w9 V W k9)
    all_goals
     apply Õ (sE V tu sF U U) U;rw[P.oQ,H.oQ.2.2.1,H.oQ.2.2.2,I.oQ];exact⟨_,U,by have:=J3 (ia H.2.1 k9 λj q e=>iG H.2.1 H.1.o A<|e▸q);rwa[H.oQ.2.2.2]at this|-,W⟩
 have P:=fv (show yo B (a,Ì)=([],a,Ì)from if_pos<|Í U);rotate_left;have P:=fv (show yo B (a,Ç)=([],a,Ç)from if_pos<|Ó<|Í e1);have e3:((a:Int)==(B.size:Int))=Ì:=by rw[beq_iff_eq,e1]
 clear e1;rotate_left;have P:=fv (show yo B (a,Ç)=([],a,Ç)from if_pos<|Ó<|Ó O);have e3:((a:Int)==(B.size:Int))=Ç:=by rw[beq_eq_false_iff_ne];omega
 have e4:=decide_eq_true O;clear O;all_goals
  go_wp2;first|go_quiet (fail)|go_quiet ((go_at_call 65;exact Į<|zY (H.rd.fH<|fw.iQ _ _ _) _))
  go_wp2_with (apply sw 127 U;refine LS.qe (H.fH<|fw.iQ _ _ _) tu sF U Ea ?_ U U U U U U U U U;intro w9 V W k9)
  apply Õ (sE V tu sF U U) U;rw[P.oQ];exact⟨_,U,ie.C _ _,W⟩
end
def j0(r:PR)(a:Ê):List Ê:=[Â ą<|mh.getD (r.c.getD 4 0-1).toNat 0,Â Ä<|r.c.getD 5 0,Â Ä<|r.c.getD 6 0,Â Ä<|r.c.getD 0 0,Â Ä<|r.c.getD 1 0,Â Ä<|r.c.getD 7 0,Â Ä<|r.c.getD 2 0,Â Ä<|r.c.getD 3 0,a]
section
variable{d g:List Ê}{E f:RS}{x:Int}
def LS.d9{c d e f j k:Ê}(h:LS W b B T n i [v,z,jQ,c,d,e,f,j,k] g E w):(w.cell? ⟨n,0,Å⟩=Ã v/\w.cell? ⟨n,1,Å⟩=Ã z/\w.cell? ⟨n,2,Å⟩=Ã jQ/\w.cell? ⟨n,3,Å⟩=Ã c/\w.cell? ⟨n,4,Å⟩=Ã d/\w.cell? ⟨n,5,Å⟩=Ã e/\w.cell? ⟨n,6,Å⟩=Ã f/\w.cell? ⟨n,7,Å⟩=Ã j/\w.cell? ⟨n,8,Å⟩=Ã k)/\w.cell? ⟨b,2,Å⟩=Ã (Û E.2)/\∀a,w.frozen? ⟨n,a,Å⟩=Ç:=⟨⟨h.nL 0 U,h.nL 1 U,h.nL 2 U,h.nL 3 U,h.nL 4 U,h.nL 5 U,h.nL 6 U,h.nL 7 U,h.nL 8 U⟩,h.rd.r.r 2 _ U,h.t.I⟩
def asv{l:List Int}(h:(gF B E l).2.2=Ì):(gF B E l).1=0:=by unfold gF at*;split at h;split at h;cases h;rw[if_neg ‹_›];rfl
def U2(h:p8 b B E w)(a:kG b B f (w.alloc<|Ñ Eb.toArray 127) jX)(d:List Ê):LS w b B 127 jX.heap.size w.heap.size d Eb f (jX.alloc<|Ñ d.toArray 127):=by have c:=h.r.M;have e:=a.2.M;simp at e;exact⟨a.1.fH kp,fy.N jX d 127,((fy.N w Eb 127).C a.2 Z).C (kp (X:=fB)) id,((kp (X:=λk=>k=b)).fA a.2).fA kp,⟨Z,eE _,Z,c⟩,U⟩
def acr:tj 0=[86,58,120,47]/\tj 1=[86,58,120,115]/\tj 2=[86,58,120]/\tj 3=[86,58,120,62,121,40,110,44,107,41]/\tj 4=[86,58,120,62,121,40,107,41]/\tj 5=[86]/\tj 6=[86]/\tj 7=[86]/\tj 8=[86,58,87]:=A
def asw(h:p8 b B E w):Ü Á 64 #[Æ<|Ã ⟨b,0,Å⟩] w λe u=>∃J,e=É (Ú (j0 (nD B E).1 J).toArray)/\ie 253 J (nD B E).1.r.length (p9 (nD B E).1.r) u/\kG b B (nD B E).2 w u:=by
 have O:p8 b B E (w.alloc<|Ñ #[Â ą 0,Â Ä 0,Â Ä 0,Â Ä 0,Â Ä 0,Â Ä 0,Â Ä 0,Â Ä 0,È Å 0 0] 127):=h.fH kp;have i:=D9 (L:=⟨#[105,103,98,99,109,114,108,117,100]⟩) O A;rw[show iV ⟨#[105,103,98,99,109,114,108,117,100]⟩=mh from rfl]at i;have T:(gF B E mh).1<9:=by have:=UZ (B:=B) (E:=E) (l:=mh);have:mh.length=9:=rfl;omega
 have K:=asv (B:=B) (E:=E) (l:=mh);unfold nD;generalize gF B E mh=q at*;let⟨k,a,t⟩:=q;simp only at K T i|-;have M:=fv h;clear h O;cases t
 .simp only[Î,if_false];clear K;by_cases V:k=0
  .subst V;have e:∀(c:List Int)(p:RS),Gk B 0 (c,p)=(⟨c,(yo B p).1⟩,(yo B p).2):=λc p=>by
    unfold Gk yo;simp only[ne_eq,not_true,false_or];split<;>rfl
   simp only[acr,rJ,J2,N0,N4,PD.BR,cN,cO,e];clear e;go_enter Ħ,ě;go_wp2_with (first|(go_at_call 115;refine gl i λP f=> ?_;have g:=f.1.r.r 2 _ U;have Q:=f.1.r.M;have H:=fv<|U2 M.oQ f [Â ą 105,Â Ä 0,Â Ä 0,Â Ä 0,Â Ä 0,Â Ä 0,Â Ä 0,Â Ä 0,È Å 0 0];clear i f)|(go_at_call 116;refine gl (NY H.rd) λm d=> ?_;have H:=fv<|H.iA d;clear d;let⟨⟨n,r,s,v,x,y,z,C,D⟩,g,F⟩:=H.d9)|(go_at_call 117;refine gl (B2 (H.fR _ _).rd U U) λm d=> ?_;have H:=fv<|(H.fR _ _).iA d;clear d;let⟨⟨n,r,s,v,x,y,z,C,D⟩,g,F⟩:=H.d9)|(go_at_call 118;refine(asu H.rd _ _ _ _ _ _ _ _).mono ?_;rintro e N ⟨J,rfl,j,G⟩;let⟨tp,S,I,_⟩:=id j;subst I;have H:=fv<|À (H.iA G) j;clear j G)|(refine LS.gN H.1 (by exact sF) gq Ea ?_ U U U U U;intro S G I N))
   exact Õ (sE G tu sF U U) U ⟨_,U,H.2.I N (λj W X e q=>by subst e;rw[H.oQ.1.o]at q;cases q),I⟩
  obtain rfl|rfl|rfl|rfl|rfl|rfl|rfl|rfl:k=1\/k=2\/k=3\/k=4\/k=5\/k=6\/k=7\/k=8:=Z;all_goals
   simp only[Gk,acr,rJ,J2,N0,N4,PD.BR,cN,cO,ne_eq,show¬(1=0) by decide,not_false_eq_true,true_or,if_true];go_enter Ħ,ě;go_wp2_with (first|(go_at_call 115;refine gl i λP f=> ?_;have g:=f.1.r.r 2 _ U;have Q:=f.1.r.M;have H:=fv λj=>U2 M.oQ f [Â ą j,Â Ä 0,Â Ä 0,Â Ä 0,Â Ä 0,Â Ä 0,Â Ä 0,Â Ä 0,È Å 0 0];clear i f)|(go_at_call 116;refine gl (NY (H _).rd) λm d=> ?_;have H:=fv<|(H.oQ _).iA d;clear d;let⟨⟨n,r,s,v,x,y,z,C,D⟩,g,F⟩:=H.d9)|(go_at_call 116;(first|with_reducible refine(NY H.oQ.rd).mono ?_|refine(NY (H.oQ.put _ _).rd).mono ?_);rintro e m ⟨rfl,d⟩;(first|with_reducible have H:=fv (H.oQ.iA d)|have H:=hide<|(H.oQ.put _ _).call d);clear d;let⟨⟨n,r,s,v,x,y,z,C,D⟩,g,F⟩:=H.oQ.d9)|(go_at_call 115;(first|with_reducible refine(D9 H.oQ.rd A).mono ?_|refine(D9 (H.oQ.fR _ _).rd A).mono ?_);rintro e m ⟨rfl,d⟩;(first|with_reducible have H:=fv (H.oQ.iA d)|have H:=fv<|(H.oQ.fR _ _).iA d);clear d;let⟨⟨n,r,s,v,x,y,z,C,D⟩,g,F⟩:=H.oQ.d9)|(go_at_call 117;(first|with_reducible refine(B2 H.oQ.rd U U).mono ?_|refine(B2 (H.oQ.fR _ _).rd U U).mono ?_);rintro e m ⟨rfl,d⟩;(first|with_reducible have H:=fv (H.oQ.iA d)|have H:=fv<|(H.oQ.fR _ _).iA d);clear d;let⟨⟨n,r,s,v,x,y,z,C,D⟩,g,F⟩:=H.oQ.d9)|(go_at_call 119;(first|with_reducible refine(JY H.oQ.rd).mono ?_|refine(JY (H.oQ.put _ _).rd).mono ?_);rintro e m ⟨rfl,d⟩;(first|with_reducible have H:=fv (H.oQ.iA d)|have H:=hide<|(H.oQ.put _ _).call d);clear d;let⟨⟨n,r,s,v,x,y,z,C,D⟩,g,F⟩:=H.oQ.d9)|(go_at_call 120;(first|refine(NW H.rd 5 A).mono ?_|refine(NW (H.put _ _).rd 5 A).mono ?_);rintro e m ⟨rfl,d⟩;(first|with_reducible have H:=fv (H.oQ.iA d)|have H:=hide<|(H.oQ.put _ _).call d);clear d;let⟨⟨n,r,s,v,x,y,z,C,D⟩,g,F⟩:=H.oQ.d9)|(refine sw 127 U ?_;(first|refine LS.qe (H.fR _ _) tu sF U Ea ?_ U U U U U U U U U|refine LS.qe H tu sF U Ea ?_ U U U U U U U U U);intro S G I N))
   exact Õ (sE G tu sF U U) U ⟨_,U,ie.C _ _,I⟩
 obtain rfl:=K U;simp only[if_true];go_enter Ħ,ě;go_wp2_with (first|(go_at_call 115;refine gl i λP f=> ?_;have H:=fv<|U2 M.oQ f [Â ą 105,Â Ä 0,Â Ä 0,Â Ä 0,Â Ä 0,Â Ä 0,Â Ä 0,Â Ä 0,È Å 0 0];have g:=f.1.r.r 2 _ U;have Q:=f.1.r.M;clear i f)|(refine sw 127 U ?_;refine LS.qe H tu sF U Ea ?_ U U U U U U U U U;intro S G I N))
 exact Õ (sE G tu sF U U) U ⟨_,U,ie.C _ _,I⟩
end
def vu(a:List (PR×Value)):List Ê:=a.flatMap λp=>j0 p.1 p.2
def uk(v:Ê)(rs:List PR)(w:Ô):Prop:=∃a:List (PR×Value),a.map (·.1)=rs/\ie 127 v rs.length (vu a) w/\∀p∈a,ie 253 p.2 p.1.r.length (p9 p.1.r) w
def uk.r(w:Ô):uk (È Å 0 0) [] w:=⟨[],U,ie.C _ _,λ_ q=>by cases q⟩
def asx:(Á.info? 127).map iF=Ã (Ã<|Ú #[Â ą 0,Â Ä 0,Â Ä 0,Â Ä 0,Â Ä 0,Â Ä 0,Â Ä 0,Â Ä 0,È Å 0 0],9,88):=fK
structure RL(w0:Ô)(b:Nat)(B:ByteArray)(a:Nat)(t:Bool)(v:Ê)(ps:List (PR×Value))(w:Ô):Prop where
 rd:p8 b B (a,t) w
 fE:w.ownsRow w0.heap.size 127 9 v ps.length (vu ps)
 C:∀p∈ps,ie 253 p.2 p.1.r.length (p9 p.1.r) w
 kp:fw fB w0 w
 r:w0.heap.size<=b
section
variable{w0 w':Ô}{a:Nat}{ps:List (PR×Value)}{t:Bool}{E:RS}
def RL.fH(h:RL w0 b B a t v ps w)(k:fw fB w w'):RL w0 b B a t v ps w':=⟨h.rd.fH k,ia h.fE k λ_ _=>id,λp q=>(h.C p q).fH k,h.kp.fA k,h.r⟩
def RL.iA(h:RL w0 b B a t v ps w)(k:kG b B E w w'):RL w0 b B E.1 E.2 v ps w':=⟨k.1,ia h.fE k.2 λj q e=>iG h.fE h.rd.r A<|e▸q,λp q=>(h.C p q).r k.2 h.rd.r,h.kp.C k.2 λi c q=>by have:=h.r;omega,h.r⟩
theorem RL.I{r:PR}(h:RL w0 b B a t v ps w)(l:ie 253 z r.r.length (p9 r.r) w)(k:nU w w0.heap.size 127 9 v ps.length (vu ps) 1 (j0 r z) x w'):RL w0 b B a t x (ps++[(r,z)]) w':=by
 have g:∀{c:Ê} {n:Nat} {f:List Ê},ie 253 c n f w->ie 253 c n f w':=λq=>q.I k.r λj f m e d=>by let⟨p,i⟩:=lN h.fE e;rw[i]at d;cases d
 refine⟨⟨h.rd.r.C k.r<|iG h.fE h.rd.r A,h.rd.C,h.rd.I⟩,?_,λp q=> ?_,h.kp.C k.r λi o q=>by have:=(h.fE.lt i q).1;omega,h.r⟩;have:=k.fE;rw[show vu (ps++[(r,z)])=vu ps++j0 r z by simp[vu],Ò];exact this;obtain q|q:=dx.1 q;exact g<|h.C p q;grind
def RL.rq(h:RL w0 b B a t v ps w):uk v (ps.map (·.1)) w:=⟨ps,U,by rw[dw];exact J3 h.fE,h.C⟩
def acs(hB:B.size<=1200)(w:Ô):Ü Á 42 #[Ï B] w λe w'=>∃v,e=É (Þ #[v,Â Ä (BZ B).2])/\uk v (BZ B).1 w'/\fw fB w w':=by
 unfold BZ;by_cases u:B.size=0
 .rw[if_pos u];obtain rfl:B=⟨#[]⟩:=by
   let⟨d⟩:=B;have:d=#[]:=dY u;rw[this]
  go_enter ň,Ĺ;go_wp2;go_ret2;exact⟨_,U,uk.r _,fw.gy _ _⟩
 rw[if_neg u];have ht:(B.toList==[])=Ç:=by
  rw[ByteArray.toList_eq];cases hl:B.data.toList with|nil=>exact absurd (by have:=congrArg ŉ hl;simpa using this) u|cons a l=>rfl
 let⟨i0,Q,S,T,V⟩:=ĉ asx;have k:=fv<|À Q<|À S<|À T V;clear Q S T V;have W:=fy.N w [Ï B,Â Ä 0,Û Ç] 173;have L:RL w w.heap.size B 0 Ç (È Å 0 0) [] (w.alloc<|Ñ #[Ï B,Â Ä 0,Û Ç] 173):=⟨⟨W,eD _,hB⟩,ã _ _ _ _,(λ_ q=>by cases q),kp,eE _⟩;have H:=fv L;clear W L;go_enter ň,Ĺ;go_wp2;generalize w.alloc (Ñ #[Ï B,Â Ä 0,Û Ç] 173)=wa at*;go_loopw [4] (λl wr=>∃(ps:List (PR×Value))(a:Nat)(p:Option ĵ)(cp:Nat),l=È p ps.length cp/\ps.length<=24/\RL w w.heap.size B a Ç (È p ps.length cp) ps wr/\BY B 24 0 []=BY B (24-ps.length) a (ps.map (·.1))) (λl _=>match l with|È _ n _=>24-n|_=>0)
 case atStart=>exact⟨[],0,Å,0,U,fD,H,U⟩
 case round=>
  clear H ht u;obtain⟨ps,a,p,cp,rfl,U3,K,hF⟩:=hrel;obtain⟨n,N⟩:∃n,ps.length=n:=⟨_,U⟩;simp only[N]at hF U3|-;have b:=K.rd.r.r 1 _ U;simp only at b;have C:=asw K.rd;have H:=fv<|À K<|À hF N;clear K hF N;by_cases iu:(n:Int)<24
  .have i:BY B (24-n) a (ps.map (·.1))=if(nD B (a,Ç)).2.2 then([],((nD B (a,Ç)).2.1:Int))else if(nD B (a,Ç)).2.1=B.size then(ps.map (·.1)++[(nD B (a,Ç)).1],-1) else if jv B (nD B (a,Ç)).2=Ã 59/\24-n-1≠0 then BY B (24-n-1) ((nD B (a,Ç)).2.1+1) (ps.map (·.1)++[(nD B (a,Ç)).1])else([],((nD B (a,Ç)).2.1:Int)):=by
    rw[show 24-n=(24-n-1)+1 by omega];rfl
   simp only[j0]at C;generalize nD B (a,Ç)=q at*;let⟨r,E,t⟩:=q;simp only at C i;generalize u:mh.getD (r.c.getD 4 0-1).toNat 0=k0 at C;generalize X:r.c.getD 5 0=k1 at C;generalize Y:r.c.getD 6 0=k2 at C;generalize h3:r.c.getD 0 0=k3 at C;generalize o:r.c.getD 1 0=k4 at C;generalize h5:r.c.getD 7 0=k5 at C;generalize h6:r.c.getD 2 0=k6 at C;generalize h7:r.c.getD 3 0=k7 at C;have O:=fv (λI=>show j0 r I=[Â ą k0,Â Ä k1,Â Ä k2,Â Ä k3,Â Ä k4,Â Ä k5,Â Ä k6,Â Ä k7,I] by simp only[j0,u,X,Y,h3,o,h5,h6,h7]);clear u X Y h3 o h5 h6 h7;cases t;by_cases M:E=B.size
   .rw[if_neg fD,if_pos M]at i;have e3:((E:Int)==(B.size:Int))=Ì:=by rw[beq_iff_eq,M]
    have y:=fv i;clear i M;go_wp2_with (first|(go_at_call 64;apply C.mono;rintro e w4 ⟨I,rfl,s,o⟩;let⟨tp,F,J,_⟩:=id s;subst J;have H:=fv<|À (H.1.iA o)<|À s H.2;clear s o C;have b:=H.1.rd.r.r 1 _ U;have f:=H.1.rd.r.r 2 _ U;have z:=H.1.rd.r.I 1;have D:=H.1.rd.r.M;have g:=H.1.rd.C;simp only at b f g)|(at_builtin;refine xU (n:=ps.length) (xs:=vu ps) (m:=1) U _ _ 121 U ă k.1 k.2.1 k.2.2.1 k.2.2.2 U (by rw[H.oQ.2.2.2];rfl) (H.1.fH kp).fE ⟨_,0,Å⟩ _ U Z U (B3 _ [Â ą k0,Â Ä k1,Â Ä k2,Â Ä k3,Â Ä k4,Â Ä k5,Â Ä k6,Â Ä k7,È tp r.r.length F] 127) (by simp[à]) (by rw[H.oQ.2.2.2];unfold í;omega) (by rw[H.oQ.2.2.2];omega) (H.1.fH kp).kp.M ?_;intro v5 w5 j;obtain⟨q,P,rfl⟩:=jj j.fE;rw[<-O.oQ]at j;have H:=fv (À (RL.I (H.1.fH kp) (H.2.1.fH kp) j) H.2.2);clear j;have b:=H.1.rd.r.r 1 _ U;have f:=H.1.rd.r.r 2 _ U;have z:=H.1.rd.r.I 1;have D:=H.1.rd.r.M;have g:=H.1.rd.C;simp only at b f g))
    go_ret2;rw[H.oQ.2.1,y.oQ];exact⟨_,U,by have:=H.1.rq;rwa[bW]at this,H.1.kp⟩
   have e3:((E:Int)==(B.size:Int))=Ç:=by rw[beq_eq_false_iff_ne];omega
   rw[if_neg fD,if_neg M]at i;by_cases x:jv B (E,Ç)=Ã 59/\24-n-1≠0
   .rw[if_pos x]at i;have G:=decide_eq_true x.1;have e6:((ps.length:Int)+1==24)=Ç:=by rw[beq_eq_false_iff_ne,H.oQ.2.2];omega
    have y:=fv i;have HL:=fv (Gl x.1).2.1;clear i x;go_wp2_with (first|(go_at_call 64;apply C.mono;rintro e w4 ⟨I,rfl,s,o⟩;let⟨tp,F,J,_⟩:=id s;subst J;have H:=fv<|À (H.1.iA o)<|À s H.2;clear s o C;have b:=H.1.rd.r.r 1 _ U;have f:=H.1.rd.r.r 2 _ U;have z:=H.1.rd.r.I 1;have D:=H.1.rd.r.M;have g:=H.1.rd.C;simp only at b f g)|(at_builtin;refine xU (n:=ps.length) (xs:=vu ps) (m:=1) U _ _ 121 U ă k.1 k.2.1 k.2.2.1 k.2.2.2 U (by rw[H.oQ.2.2.2];rfl) (H.1.fH kp).fE ⟨_,0,Å⟩ _ U Z U (B3 _ [Â ą k0,Â Ä k1,Â Ä k2,Â Ä k3,Â Ä k4,Â Ä k5,Â Ä k6,Â Ä k7,È tp r.r.length F] 127) (by simp[à]) (by rw[H.oQ.2.2.2];unfold í;omega) (by rw[H.oQ.2.2.2];omega) (H.1.fH kp).kp.M ?_;intro v5 w5 j;obtain⟨q,P,rfl⟩:=jj j.fE;rw[<-O.oQ]at j;have H:=fv<|À (RL.I (H.1.fH kp) (H.2.1.fH kp) j) H.2.2;clear j;have b:=H.1.rd.r.r 1 _ U;have f:=H.1.rd.r.r 2 _ U;have z:=H.1.rd.r.I 1;have D:=H.1.rd.r.M;have g:=H.1.rd.C;simp only at b f g)|(go_at_call 65;refine(zY H.1.rd _).mono ?_;rintro e w6 ⟨rfl,m,rfl⟩;have H:=fv (À (H.1.fH (fw.iQ _ _ m)) H.2);have b:=H.1.rd.r.r 1 _ U;have f:=H.1.rd.r.r 2 _ U;have z:=H.1.rd.r.I 1;have D:=H.1.rd.r.M;have g:=H.1.rd.C;simp only at b f g))
    go_roundw
    case rel=>exact⟨ps++[(r,È tp r.r.length F)],E+1,q,P,by rw[Ò];rfl,by rw[Ò,H.oQ.2.2];simp;omega,by rw[Ò];exact H.1.iA<|kG.M ⟨H.1.rd,fw.gy _ _⟩ U HL,by rw[H.oQ.2.1,y.oQ,Ò,H.oQ.2.2,bW];rfl⟩
    case measure=>simp[H.oQ.2.2];omega
   rw[if_neg x]at i;have y:=fv i;clear i;by_cases G:jv B (E,Ç)=Ã 59;have e6:((ps.length:Int)+1==24)=Ì:=by rw[beq_iff_eq,H.oQ.2.2];have:¬(24-n-1≠0):=λq=>x ⟨G,q⟩;omega
   have e7:=decide_eq_true G;clear x G;rotate_left;have e7:=decide_eq_false G;clear x G;rotate_left;rw[if_pos U]at i;have y:=fv i;clear i;all_goals
    go_wp2_with (first|(go_at_call 64;apply C.mono;rintro e w4 ⟨I,rfl,s,o⟩;let⟨tp,F,J,_⟩:=id s;subst J;have H:=fv<|À (H.1.iA o)<|À s H.2;clear s o C;have b:=H.1.rd.r.r 1 _ U;have f:=H.1.rd.r.r 2 _ U;have z:=H.1.rd.r.I 1;have D:=H.1.rd.r.M;have g:=H.1.rd.C;simp only at b f g)|(at_builtin;refine xU (n:=ps.length) (xs:=vu ps) (m:=1) U _ _ 121 U ă k.1 k.2.1 k.2.2.1 k.2.2.2 U (by rw[H.oQ.2.2.2];rfl) (H.1.fH kp).fE ⟨_,0,Å⟩ _ U Z U (B3 _ [Â ą k0,Â Ä k1,Â Ä k2,Â Ä k3,Â Ä k4,Â Ä k5,Â Ä k6,Â Ä k7,È tp r.r.length F] 127) (by simp[à]) (by rw[H.oQ.2.2.2];unfold í;omega) (by rw[H.oQ.2.2.2];omega) (H.1.fH kp).kp.M ?_;intro v5 w5 j;obtain⟨q,P,rfl⟩:=jj j.fE;rw[<-O.oQ]at j;have H:=fv<|À (RL.I (H.1.fH kp) (H.2.1.fH kp) j) H.2.2;clear j;have b:=H.1.rd.r.r 1 _ U;have f:=H.1.rd.r.r 2 _ U;have z:=H.1.rd.r.I 1;have D:=H.1.rd.r.M;have g:=H.1.rd.C;simp only at b f g)|(go_at_call 65;refine(zY H.1.rd _).mono ?_;rintro e w6 ⟨rfl,m,rfl⟩;have H:=fv (À (H.1.fH (fw.iQ _ _ m)) H.2);have b:=H.1.rd.r.r 1 _ U;have f:=H.1.rd.r.r 2 _ U;have z:=H.1.rd.r.I 1;have D:=H.1.rd.r.M;have g:=H.1.rd.C;simp only at b f g))
    go_quiet (fail)
    go_wp2;go_ret2;first|rw[H.oQ.2.1,y.oQ]|rw[H.oQ.2.2.1,y.oQ]
    exact⟨_,U,uk.r _,H.1.kp.fA kp⟩
  .go_wp2;go_quiet (fail);go_wp2;go_ret2;rw[H.oQ.2.1,show 24-n=0 by omega];exact⟨_,U,uk.r _,H.1.kp.fA kp⟩
def Ec(B:ByteArray):Int×Int:=if 1200<B.size then(1,0)else if 0<=(BZ B).2 then(2,(BZ B).2)else(0,0)
def acu(b:B.size<=í)(w:Ô):Ü Á 41 #[Ï B] w λe w'=>e=É (Þ #[Â Ä (Ec B).1,Â Ä (Ec B).2])/\fw fB w w':=by
 unfold Ec;by_cases h:1200<B.size
 .rw[if_pos h];go_enter ħ,Ĝ;go_wp2;go_ret2;exact⟨U,fw.gy _ _⟩
 rw[if_neg h];have C:=acs (B:=B) Z w;generalize BZ B=q at*;let⟨c,z⟩:=q;simp only at C|-;by_cases a:0<=z
 .rw[if_pos a];go_enter ħ,Ĝ;go_wp2_with (go_at_call 42;apply C.mono;rintro e u ⟨v,rfl,_,k⟩);go_ret2;exact⟨U,k⟩
 rw[if_neg a];go_enter ħ,Ĝ;go_wp2_with (go_at_call 42;apply C.mono;rintro e u ⟨v,rfl,_,k⟩);go_ret2;exact⟨U,k⟩
end
def acv:(Á.info? 229).map iF=Ã (Ã<|Ú #[Â Ä 0,Â Ø 0],2,16):=fK
def MK.asy(k:fw fB w u)(h:MK u T i v n l W):MK w T i v n l W:=by refine⟨⟨h.fE.1,h.fE.2.imp id ?_⟩,k.fA h.r⟩;rintro⟨g,a,b,c,d,e⟩;exact⟨g,a,b,c,Ö k.M d,e⟩
def asz(h:ie 229 v gJ.length (je gJ) w)(G:gJ.length<=900000)(a:Nat)(x:Int): Ü Á 179 #[v,Ú #[Â Ä a,Â Ø x]] w λe H=>∃o,e=É o/\MK w 229 2 o (gJ.length+1) (je<|gJ++[(a,x)]) H:=by
 obtain⟨p,cp,rfl,I,r⟩:=h;obtain⟨n,g⟩:∃n,gJ.length=n:=⟨_,U⟩;rw[g]at G I|-;have d:=fv<|À r g;clear r g;have B:=fy.N w [Â Ä a,Â Ø x] 229;have J:=B.r 0 _ U;have K:=B.r 1 _ U;have s:=fw.gP fB w #[Â Ä a,Â Ø x] 229;have k:=fv s;clear B s;go_enter Tryz.func179,Tryz.ntmps179;go_wp2_with fail;generalize w.alloc (Ñ #[Â Ä a,Â Ø x] 229)=w0 at*;generalize w.heap.size=q at*;go_loopw [5,6] (λv i wr=>∃j:Nat,j<=n/\MK w0 229 2 v j (je<|gJ.take j) wr/\i=Â Ä j) λ_ i _=>n-(ó i).toNat
 case atStart=>exact⟨0,eD _,MK.C w0,U⟩
 case round=>
  obtain⟨j,T,b,rfl⟩:=hrel;obtain⟨t,u,rfl⟩:=jj b.fE;have V:=b.r.r J id;have W:=b.r.r K id;have f:=fv b;clear b;by_cases L:j=n
  .subst L;go_wp2_with (at_builtin;refine D7 acv ē (f.fH kp) Z U ?_ (ĺ _ _ _ _) (by simp[à]) U U U U U U;intro t u M c;have l:=fv c;clear c);go_ret;obtain⟨_,rfl⟩:=d.oQ;rw[show je (gJ++[(a,x)])=je (gJ.take gJ.length)++[Â Ä a,Â Ø x] by rw[Ģ];simp[je,kt,jW]];exact⟨_,U,l.asy k⟩
  .obtain⟨⟨y,z⟩,m⟩:∃y,gJ[j]?=Ã y:=⟨_,fe<|by rw[d.oQ.2];omega⟩;let⟨g0,C⟩:=BI (λp:Nat×Int=>Â Ä p.1) (λp=>Â Ø p.2) gJ j _ m;obtain⟨N,O,rfl,X,D⟩:=d.1 (j*2) _ g0;let⟨Y,so2,P,_,E⟩:=d.1 (j*2+1) _ C;cases P;have xx:=f.r.r (k.r D id) id;have zF:wr.cell? ⟨N,O+j*2+1,Å⟩=Ã (Â Ø z):=f.r.r (k.r E id) id;have F:je (gJ.take<|j+1)=je (gJ.take j)++[Â Ä y,Â Ø z]:=by rw[cD,m];simp[je,kt,jW]
   have Q:=fv F;have S:j<n:=Z;clear F m D E g0 C;go_wp2_with (at_builtin;refine D7 acv ē (f.fH kp) Z U ?_ (ĺ _ _ _ _) (by simp[à]) U U U U U U;intro t u M c;have l:=fv c;clear c);go_roundw
   case rel=>exact⟨j+1,S,by rw[Q.oQ];exact l,by go_num⟩
   case measure=>
    simp[ó];omega
section
variable{c:RC}{lv sv:Ê}{t:RT}{b:Bool}{w':Ô}
def FO.N(h:FO i c t b w u)(a:t.r.length<=32):Ü Á 149 #[Æ<|Ã ⟨i,0,Å⟩] u λe w'=>e=É (Â Ø<|fV t.r)/\FO i c {t with r:=gO.fU t.r} (b||decide (t.r.length<1)) w w':=by let⟨⟨lv,sv,h⟩,k⟩:=h;rw[show decide (t.r.length<1)=t.r.isEmpty by cases t.r<;>simp];refine gl (ar1 h a) λw' ⟨q,d⟩=> ?_;exact⟨U,q,k.fA d⟩
def FO.S(h:FO i c t b w u)(d:t.r.length<32)(x:Int):Ü Á 167 #[Æ<|Ã ⟨i,0,Å⟩,Â Ø x] u λe w'=>e=É (Þ #[])/\FO i c {t with r:=t.r++[x]} b w w':=by let⟨⟨lv,sv,h⟩,k⟩:=h;refine gl (ab3 h Z x) λw' ⟨q,a⟩=> ?_;rw[if_neg Z,beq_eq_false_iff_ne.2 Z,bO]at q;exact⟨U,q,k.fA a⟩
def FO.C(h:FO i c t b w u):u.cell? ⟨i,151,Å⟩=Ã (Û b):=by let⟨⟨lv,sv,h⟩,k⟩:=h;exact h.at 7 U
def FO.r(h:FO i c t b w u):i<u.heap.size:=by let⟨⟨lv,sv,h⟩,k⟩:=h;exact h.r.M
def FO.fH(h:FO i c t b w u)(k:fw fB u w'):FO i c t b w w':=by let⟨⟨lv,sv,h⟩,a⟩:=h;exact⟨⟨lv,sv,h.fH k⟩,a.fA<|k.fG λ_ _=>á⟩
def rkK(k:Int):Int:=if k=43 then 2 else if k=45 then 3 else if k=42 then 4 else if k=47 then 5 else if k=60 then 6 else 7
def FB(i:Nat)(c:RC)(p:Prop)(t:RT)(w w':Ô):Prop:=(p/\FO i c t Ç w w')\/(¬p/\∃a,FO i c a Ì w w')
def asA(h:FO i c t Ç w u)(n:t.r.length<=32)(b:∀p∈t.r,gL p)(k:Int)(x:k=43\/k=45\/k=42\/k=47\/k=60\/k=61): Ü Á 164 #[Æ<|Ã ⟨i,0,Å⟩,Â ą k] u λe w'=>e=É (Þ #[])/\FB i c (2<=t.r.length) {t with r:=fU (fU t.r)++[xV (rkK k) (fV<|fU t.r)<|fV t.r]} w w':=by
 have j:=h.N n;have y:=lF t.r;have z:=lF<|fU t.r;let⟨B,C⟩:=ot b;let⟨D,E⟩:=ot<|nW b;have H:=fv<|À h<|À j b;clear j h b;by_cases l:2<=t.r.length
 .have d:(Ç||decide (t.r.length<1)||decide ((fU t.r).length<1))=Ç:=by simp only[cG,cU,decide_eq_false_iff_not];omega
  go_enter Ļ,ı;go_wp2_with (first|(go_at_call 149;refine gl H.2.1 λo a=> ?_;have f:=fv a;clear a)|(go_at_call 149;refine gl (f.N<|by simp only;omega) λq e=> ?_;rw[d]at e;have r:=e.C;have s:=e.r;have g:=fv e;clear e)|(go_at_call 128;refine iT (UJ _ _) ?_)|(go_at_call 167;refine gl (g.S (by simp only;omega) _) λF m=> ?_;have v:=fv m;clear m))
  all_goals simp only[beq_iff_eq,beq_eq_false_iff_ne,bne_iff_ne,bne_eq_false_iff_eq,ne_eq]at*
  all_goals first|(exfalso;simp_all;done)|(go_end0;refine⟨U,Í ⟨l,?_⟩⟩;have:=v.oQ;unfold rkK xV;simp[wu, *]at this|-;first|done|exact this)
 .have d:(Ç||decide (t.r.length<1)||decide ((fU t.r).length<1))=Ì:=by simp only[cG,eg,decide_eq_true_iff];omega
  go_enter Ļ,ı;go_wp2_with (first|(go_at_call 149;refine gl H.2.1 λo a=> ?_;have f:=fv a;clear a)|(go_at_call 149;refine gl (f.N<|by simp only;omega) λq e=> ?_;rw[d]at e;have r:=e.C;have s:=e.r;have g:=fv e;clear e)|(go_at_call 128;refine iT (UJ _ _) ?_))
  all_goals first|(go_end0;exact⟨U,Ó ⟨l,_,g⟩⟩)|(exfalso;simp_all;done)
end
theorem U4{s c:St}(e:i<144)(f:mg c i=v)(g:∀b,b<144->b≠i->mg c b=mg s b):(gI s).set i v=gI c:=by apply dP;intro b;rw[List.getElem?_set];by_cases d:b<144;rw[vo c d,vo s d,iM];grind;rw[da (by rw[iM];omega),da (by rw[iM];omega)];grind
theorem J4(s:St)(a:i<8)(x:Int):(gI s).set i (Â Ø x)=gI (s.fC i x):=by refine U4 Z ?_ λj b c=> ?_;simp[mg,a,St.fC,St.fR,jW];unfold mg St.fC St.fR;grind
theorem asB(s:St)(c:i<8)(d:j<16)(x:Int):(gI s).set (16+i*16+j) (Â Ø x)=gI (s.C i j x):=by refine U4 Z ?_ λk e f=> ?_;have a:(16+i*16+j-16)/16=i:=Z;have b:(16+i*16+j-16)%16=j:=Z;simp only[mg,a,b,St.C,St.fR];rw[if_neg Z,if_neg Z];simp[jW];unfold mg St.C St.fR;grind
section
variable{c:RC}{t:RT}{b:Bool}{w':Ô}
def FO.at(h:FO n c t b w u)(a:i<144):u.cell? ⟨n,i,Å⟩=Ã (mg t.s i):=by let⟨⟨d,e,h⟩,k⟩:=h;exact h.r.r _ _<|by rw[eR (by rwa[iM]),vo _ a]
def FO.acw(h:FO n c t b w u):u.cell? ⟨n,146,Å⟩=Ã (Â Ä c.y):=by let⟨⟨a,d,h⟩,k⟩:=h;exact h.at 2 U
def FO.K(h:FO n c t b w u)(i:Nat):u.frozen? ⟨n,i,Å⟩=Ç:=by let⟨⟨a,d,h⟩,k⟩:=h;exact h.r.I i
def FO.iy(h:FO n c t b w u)(f:i<144){d:St}(e:(gI t.s).set i v=gI d):FO n c {t with s:=d} b w (u.setCell ⟨n,i,Å⟩ v):=by let⟨⟨g,j,h⟩,k⟩:=h;have a:=fw.I (X:=λk=>k=n) (p:=⟨n,i,Å⟩) U v<|Ó h.r.S;refine⟨⟨g,j,?_,h.I.r a h.r,h.C.r a h.r⟩,k.fA a⟩;have:=h.r.fR i v;rwa[ei _ _ (by rwa[iM]),e]at this
def asC(h:FO n c t Ç w u)(k:t.r.length<=32)(g:∀p∈t.r,gL p)(I:ic t.s)(l:c.y<8): Ü Á 165 #[Æ<|Ã ⟨n,0,Å⟩] u λe w'=>e=É (Þ #[])/\FB n c (2<=t.r.length) {t with r:=fU (fU t.r)++[(qk t.s c.y (fV t.r)<|fV<|fU t.r).1],s:=(qk t.s c.y (fV t.r)<|fV<|fU t.r).2} w w':=by
 have M:=lF t.r;have N:=lF<|fU t.r;let⟨O,P⟩:=ot g;let⟨Q,S⟩:=ot<|nW g;let⟨T,V⟩:=I.fC c.y;have H:=fv<|À h g;clear h g;by_cases o:2<=t.r.length
 .have i:(Ç||decide (t.r.length<1)||decide ((fU t.r).length<1))=Ç:=by simp only[cG,cU,decide_eq_false_iff_not];omega
  by_cases z:(t.s c.y).fC<fV (fU t.r)
  .have q:qk t.s c.y (fV t.r) (fV<|fU t.r)=(0,t.s):=by rw[qk,if_pos z]
   rw[q];go_enter ĝ,Đ;go_wp2_with (first|(go_at_call 149;refine gl (H.1.N k) λB a=> ?_;have b:=fv a;clear a)|(go_at_call 149;refine gl (b.N (by simp only;omega)) λr e=> ?_;rw[i]at e;have C:=e.C;have D:=e.r;have j:=e.at (show c.y<144 by omega);have m:=e.acw;rw[show mg _ c.y=Â Ø (t.s c.y).fC from if_pos l]at j;have d:=fv e;clear e))
   go_quiet (fail)
   go_wp2_with (go_at_call 167;refine gl (FO.S (d.fH kp) (by simp only;omega) _) λJ f=> ?_;have v:=fv f;clear f)
   refine Õ (Ā U _ _ _) U ⟨U,Í ⟨o,v⟩⟩
  have q:qk t.s c.y (fV t.r) (fV<|fU t.r)=(1,(t.s.fC c.y<|(t.s c.y).fC-fV (fU t.r)).fC (fV t.r%8).toNat<|wu<|(t.s.fC c.y ((t.s c.y).fC-fV (fU t.r)) (fV t.r%8).toNat).fC+fV (fU t.r)):=by rw[qk,if_neg z]
  rw[q];go_enter ĝ,Đ;go_wp2_with (first|(go_at_call 149;refine gl (H.1.N k) λB a=> ?_;have b:=fv a;clear a)|(go_at_call 149;refine gl (b.N (by simp only;omega)) λr e=> ?_;rw[i]at e;have C:=e.C;have D:=e.r;have j:=e.at (show c.y<144 by omega);have m:=e.acw;have x:=e.K c.y;rw[show mg _ c.y=Â Ø (t.s c.y).fC from if_pos l]at j;have d:=fv e;clear e))
  go_quiet (fail)
  have E:(fV t.r%8).toNat<8:=Z;have j:=λm=>(d.fH<|fw.iQ fB r m).iy (show c.y<144 by omega)<|J4 _ l<|(t.s c.y).fC-fV (fU t.r);have F:=λm=>(j m).at (show(fV t.r%8).toNat<144 by omega);simp only[mg,if_pos E,jW]at F;have W:=λm=>(j m).K (fV t.r%8).toNat;have K:=fv j;clear j;obtain⟨G,x⟩:∃G,(t.s.fC c.y ((t.s c.y).fC-fV (fU t.r)) (fV t.r%8).toNat).fC=G:=⟨_,U⟩;rw[x]at F;have L:=fv x;clear x;go_wp2;go_region;go_wp2;go_region;go_wp2_with (go_at_call 167;refine gl (FO.S (((K _).fH<|fw.gM _ _).iy (show(fV t.r%8).toNat<144 by omega)<|J4 _ E _) (by simp only;omega) _) λJ f=> ?_;have v:=fv f;clear f);go_end0;obtain rfl:=L.oQ;exact⟨U,Í ⟨o,v⟩⟩
 .have i:(Ç||decide (t.r.length<1)||decide ((fU t.r).length<1))=Ì:=by simp only[cG,eg,decide_eq_true_iff];omega
  go_enter ĝ,Đ;go_wp2_with (first|(go_at_call 149;refine gl (H.1.N k) λB a=> ?_;have b:=fv a;clear a)|(go_at_call 149;refine gl (b.N (by simp only;omega)) λr e=> ?_;rw[i]at e;have C:=e.C;have D:=e.r;have d:=fv e;clear e))
  exact Õ (Ā U _ _ _) U ⟨U,Ó ⟨o,_,d⟩⟩
end
open jg
structure BK(w0:Ô)(nb:Nat)(u1 u2:List (Int×Bool))(p:VR)(w:Ô):Prop where
 r:fy nb (gU p) 116 w
 M:ie 229 p.2.1 p.1.C.length (je p.1.C) w
 I:w.ownsRow w0.heap.size 4 1 p.2.2.1 u1.length (wZ u1)
 C:w.ownsRow w0.heap.size 3 1 p.2.2.2 u2.length (wY u2)
 kp:fw fB w0 w
 N:w0.heap.size<=nb
section
variable{w0 w':Ô}{nb:Nat}{v:gf}{lv:Ê}{p:VR}{u1 u2:List (Int×Bool)}
def BK.fH(h:BK w0 nb u1 u2 p w)(k:fw fB w w'):BK w0 nb u1 u2 p w':=⟨h.r.C k id,h.M.fH k,ia h.I k λ_ _=>id,ia h.C k λ_ _=>id,h.kp.fA k,h.N⟩
def BK.fR(h:BK w0 nb u1 u2 (v,lv,jQ,z) w)(i:Nat)(x:Ê){b:gf}(e:(gU (v,lv,jQ,z)).set i x=gU (b,lv,jQ,z))(c:b.C=v.C):BK w0 nb u1 u2 (b,lv,jQ,z) (w.setCell ⟨nb,i,Å⟩ x):=by have k:=fw.I (X:=λk=>k=nb) (p:=⟨nb,i,Å⟩) U x<|Ó h.r.S;refine⟨by rw[<-e];exact h.r.fR i x,?_,?_,?_,h.kp.C k λj d q=>by have:=h.N;omega,h.N⟩;show ie 229 lv b.C.length (je b.C) _;rw[c];exact h.M.r k h.r;exact ia h.I k λj q a=>iG h.I h.r A<|a▸q;exact ia h.C k λj q a=>iG h.C h.r A<|a▸q
def BK.fC(h:BK w0 nb u1 u2 (v,lv,jQ,z) w)(a:i<8)(x:Int):BK w0 nb u1 u2 ({v with s:=v.s.fC i x},lv,jQ,z) (w.setCell ⟨nb,i,Å⟩<|Â Ø x):=h.fR i _ (by show(gI v.s++_).set i _=gI (v.s.fC i x)++_;rw[ei _ _ (by rw[iM];omega),J4 v.s a]) U
theorem asD(s:St)(a:i<8)(x:ByteArray):(gI s).set (8+i) (Ï x)=gI (s.r i x):=by refine U4 Z ?_ λj b c=> ?_;rw[JU a];simp[St.r,St.fR];unfold mg St.r St.fR;grind
def BK.FH(h:BK w0 nb u1 u2 (v,lv,jQ,z) w)(a:i<8)(x:ByteArray):BK w0 nb u1 u2 ({v with s:=v.s.r i x},lv,jQ,z) (w.setCell ⟨nb,8+i,Å⟩<|Ï x):=h.fR (8+i) _ (by show(gI v.s++_).set (8+i) _=gI (v.s.r i x)++_;rw[ei _ _ (by rw[iM];omega),asD v.s a]) U
def BK.at(h:BK w0 nb u1 u2 (v,lv,jQ,z) w)(a:i<144):w.cell? ⟨nb,i,Å⟩=Ã (mg v.s i):=h.r.r _ _<|by show(gI v.s++_)[i]?=_;rw[eR (by rwa[iM]),vo _ a]
def BK.S(h:BK w0 nb u1 u2 (v,lv,jQ,z) w):w.cell? ⟨nb,144,Å⟩=Ã (Â Ä v.h)/\w.cell? ⟨nb,145,Å⟩=Ã lv/\w.cell? ⟨nb,146,Å⟩=Ã jQ/\w.cell? ⟨nb,147,Å⟩=Ã z:=⟨h.r.r _ _<|tf 0 U,h.r.r _ _<|tf 1 U,h.r.r _ _<|tf 2 U,h.r.r _ _<|tf 3 U⟩
theorem BK.U5{e:Int×Bool}(h:BK w0 nb u1 u2 (v,lv,jQ,z) w)(k:nU w w0.heap.size 4 1 jQ u1.length (wZ u1) 1 [Û e.2] x w'):BK w0 nb (u1++[e]) u2 (v,lv,x,z) (w'.setCell ⟨nb,146,Å⟩ x):=by
 have c:=h.r.C k.r<|iG h.I h.r A;have d:=fw.I (X:=λk=>k=nb) (p:=⟨nb,146,Å⟩) U x<|Ó c.S;have g:∀{T:þ} {a:Ê} {n:Nat} {f:List Ê},T≠4->ie T a n f w->ie T a n f w':=λl q=>q.I k.r λj f m e b=>by let⟨i,o⟩:=lN h.I e;grind
 refine⟨?_,(g A h.M).r d c,?_,?_,(h.kp.C k.r λi o q=>by have:=(h.I.lt i q).1;omega).C d λj i q=>by have:=h.N;omega,h.N⟩;have:=c.fR 146 x;rwa[show(gU (v,lv,jQ,z)).set 146 x=gU (v,lv,x,z) by show(gI v.s++_).set 146 _=gI v.s++_;rw[eF _ _ (by rw[iM];omega),iM];rfl]at this;have:=ia k.fE d λj q b=>iG k.fE c A<|b▸q;rwa[show u1.length+1=(u1++[e]).length by simp,show wZ u1++[Û e.2]=wZ (u1++[e]) by simp[wZ]]at this;refine ia (ia h.C k.r λj q b=> ?_) d λj q b=> ?_;exact I3 h.C h.I A q b;exact iG (ia h.C k.r λj q b=>I3 h.C h.I A q b) c A<|b▸q
theorem BK.U6{e:Int×Bool}(h:BK w0 nb u1 u2 (v,lv,jQ,z) w)(k:nU w w0.heap.size 3 1 z u2.length (wY u2) 1 [Â Ä e.1] x w'):BK w0 nb u1 (u2++[e]) (v,lv,jQ,x) (w'.setCell ⟨nb,147,Å⟩ x):=by
 have c:=h.r.C k.r<|iG h.C h.r A;have d:=fw.I (X:=λk=>k=nb) (p:=⟨nb,147,Å⟩) U x<|Ó c.S;have g:∀{T:þ} {a:Ê} {n:Nat} {f:List Ê},T≠3->ie T a n f w->ie T a n f w':=λl q=>q.I k.r λj f m e b=>by let⟨i,o⟩:=lN h.C e;grind
 refine⟨?_,(g A h.M).r d c,?_,?_,(h.kp.C k.r λi o q=>by have:=(h.C.lt i q).1;omega).C d λj i q=>by have:=h.N;omega,h.N⟩;have:=c.fR 147 x;rwa[show(gU (v,lv,jQ,z)).set 147 x=gU (v,lv,jQ,x) by show(gI v.s++_).set 147 _=gI v.s++_;rw[eF _ _ (by rw[iM];omega),iM];rfl]at this;refine ia (ia h.I k.r λj q b=> ?_) d λj q b=> ?_;exact I3 h.I h.C A q b;exact iG (ia h.I k.r λj q b=>I3 h.I h.C A q b) c A<|b▸q;have:=ia k.fE d λj q b=>iG k.fE c A<|b▸q;rwa[show u2.length+1=(u2++[e]).length by simp,show wY u2++[Â Ä e.1]=wY (u2++[e]) by simp[wY]]at this
theorem asE{s:St}(l:ic s)(p:0<=c)(h:c+10<=(s i).fC):(((s.fC i<|(s i).fC-c).fC b<|wu<|(s.fC i ((s i).fC-c) b).fC+c).fC i<|wu<|(((s.fC i<|(s i).fC-c).fC b<|wu<|(s.fC i ((s i).fC-c) b).fC+c) i).fC-10)=(uY s i b c).2:=by have k:=l.fC i;rw[uY,if_neg Z];have e:∀z:Int,0<=z->z<18446744073709551616->wu z=z:=λz a d=>sj a d;funext j;unfold St.fC St.fR;by_cases g:b=i;subst g;by_cases f:j=b;subst f;simp;have m:=k.2;grind;simp[f];have o:¬i=b:=λq=>g q.symm;by_cases f:j=i;subst f;simp[o,g];have m:=k.2;grind;simp[f,g]
def asF{s:St}(b:ic s)(h:20<=(s i).fC):((s.r i B).fC i<|wu<|((s.r i B) i).fC-20)=(uZ s i B).2:=by have c:=b.fC i;rw[uZ,if_neg Z];funext j;unfold St.fC St.r St.fR;by_cases a:j=i;subst a;simp;have d:=c.2;exact sj Z Z;simp[a]
end
abbrev jP(K n:Nat):Prop:=(jf K).2.1<=(n:Int)/\(n:Int)-(jf K).2.1+(jf K).2.2<=32
def zp{p:Prop}(h:p:=by(try simp only[lF]);omega):p:=h
section
variable{c:RC}{lv:Ê}{t:RT}
def FO.M(h:FO i c t yQ w W)(a:t.r.length<=32)(b:1<=t.r.length):Ü Á 149 #[Æ<|Ã ⟨i,0,Å⟩] W λe u=>e=É (Â Ø<|fV t.r)/\FO i c {t with r:=gO.fU t.r} yQ w u:=by have:=h.N a;rwa[decide_eq_false Z,bO]at this
def FO.Y(h:FO i c t yQ w W)(a:t.r.length<1):Ü Á 149 #[Æ<|Ã ⟨i,0,Å⟩] W λe u=>e=É (Â Ø<|fV t.r)/\FO i c {t with r:=gO.fU t.r} Ì w u:=by have:=h.N Z;rwa[decide_eq_true a,Ğ]at this
def FO.U7(h:FO i c t yQ w W)(a:t.r.length=32)(x:Int):Ü Á 167 #[Æ<|Ã ⟨i,0,Å⟩,Â Ø x] W λe u=>e=É (Þ #[])/\FO i c t Ì w u:=by let⟨⟨lv,v,h⟩,k⟩:=h;refine gl (ab3 h Z x) λu ⟨q,b⟩=> ?_;rw[if_pos a,beq_iff_eq.2 a,Ğ]at q;exact⟨U,q,k.fA b⟩
def FO.I(h:FO i c t yQ w W):(W.cell? ⟨i,145,Å⟩=Ã (Â Ä c.x)/\W.cell? ⟨i,146,Å⟩=Ã (Â Ä c.y)/\W.cell? ⟨i,147,Å⟩=Ã (Â Ø c.k))/\W.cell? ⟨i,151,Å⟩=Ã (Û yQ)/\i<W.heap.size:=by let⟨⟨lv,v,h⟩,k⟩:=h;exact⟨⟨h.at 1 U,h.at 2 U,h.at 3 U⟩,h.at 7 U,h.r.M⟩
def asG(F:kZ)(h:FO i c t Ç w W)(n:t.r.length<=32)(o:∀p∈t.r,gL p)(q:ic t.s)(r:c.x<8)(v:c.y<8)(B:t.C.length<=900000)(k:Int)(K:Nat)(b:(k,K)∈([(100,8),(120,9),(112,10),(107,11),(99,12),(121,13)]:List (Int×Nat))): Ü Á 168 #[Æ<|Ã ⟨i,0,Å⟩,Â ą k] W λe u=>e=É (Þ #[])/\FB i c (jP K t.r.length) (lu F c K t) w u:=by
 have C:=lF t.r;have D:=lF<|fU t.r;let⟨⟨d,f,g⟩,j,l⟩:=h.I;have H:=fv h;clear h;by_cases a:jP K t.r.length;all_goals
  have m:=a;simp only[eK,dr,or_false,dJ]at b;obtain z|z:=ey t.r.length 1
 all_goals
  obtain⟨rfl,rfl⟩|⟨rfl,rfl⟩|⟨rfl,rfl⟩|⟨rfl,rfl⟩|⟨rfl,rfl⟩|⟨rfl,rfl⟩:=b
 all_goals
  simp only[jP,jf,jx,dt,dC,bU]at m
 all_goals try(exfalso;omega;done)
 all_goals
  go_enter ā,ú;go_wp2_with (first|(go_at_call 149;(first|refine(H.M zp zp).mono ?_|refine(H.Y zp).mono ?_);rintro e m ⟨rfl,z⟩;let⟨⟨d,f,g⟩,j,l⟩:=z.I;have H:=fv z;clear z)|(go_at_call 167;(first|refine(H.S (by(try simp only[lF,Ò,eH,ä]);omega) _).mono ?_|refine(H.U7 (by(try simp only[lF,Ò,eH,ä]);omega) _).mono ?_);rintro e m ⟨rfl,z⟩;let⟨⟨d,f,g⟩,j,l⟩:=z.I;have H:=fv z;clear z))
  go_end0;first|exact⟨U,Í ⟨a,H⟩⟩|exact⟨U,Í ⟨a,by have:=H.oQ;simp only[dL]at this;exact this⟩⟩|exact⟨U,Ó ⟨a,_,H⟩⟩
end
section
variable{c:RC}{t:RT}
def asH(F:kZ)(h:FO i c t Ç w W)(j:t.r.length<=32)(d:c.y<8): Ü Á 168 #[Æ<|Ã ⟨i,0,Å⟩,Â ą 98] W λe u=>e=É (Þ #[])/\FB i c (jP 14 t.r.length) (lu F c 14 t) w u:=by
 let⟨⟨k,l,m⟩,n,o⟩:=h.I;have f:=h.at (show c.y<144 by omega);rw[show mg _ c.y=Â Ø (t.s c.y).fC from if_pos d]at f;have H:=fv h;clear h;by_cases a:jP 14 t.r.length;all_goals
  have g:=a;simp only[jP,jf,jx,dt,dC,bU]at g;go_enter ā,ú;go_wp2;go_region_with (go_at_call 167;(first|refine Ù ((H.fH<|fw.gM _ _).S Z _) ?_|refine Ù ((H.fH<|fw.gM _ _).U7 Z _) ?_);rintro e p ⟨rfl,b⟩;have H:=fv b;clear b);go_wp2;go_end0;first|exact⟨U,Í ⟨a,H⟩⟩|exact⟨U,Ó ⟨a,_,H⟩⟩
def asI(F:kZ)(h:FO i c t Ç w W)(q:t.r.length<=32)(d:∀p∈t.r,gL p)(r:c.y<8): Ü Á 168 #[Æ<|Ã ⟨i,0,Å⟩,Â ą 108] W λe u=>e=É (Þ #[])/\FB i c (jP 15 t.r.length) (lu F c 15 t) w u:=by
 let⟨⟨g,j,k⟩,l,m⟩:=h.I;let⟨s,v⟩:=ot d;have x:=lF t.r;have H:=fv h;clear h d;by_cases b:jP 15 t.r.length;all_goals
  have n:=b;simp only[jP,jf,jx,dt,dC,bU]at n;go_enter ā,ú;go_wp2_with (go_at_call 149;(first|refine(H.M zp zp).mono ?_|refine(H.Y zp).mono ?_);rintro e o ⟨rfl,a⟩;let⟨⟨g,j,k⟩,l,m⟩:=a.I;have f:=a.at (show 16+c.y*16+(fV t.r%16).toNat<144 by omega);have H:=fv a;clear a)
 .simp only[mg,jW]at f;rw[if_neg Z,if_neg Z,show(16+c.y*16+(fV t.r%16).toNat-16)/16=c.y by omega,show(16+c.y*16+(fV t.r%16).toNat-16)%16=(fV t.r%16).toNat by omega]at f;go_region_with (go_at_call 167;refine gl ((H.fH<|fw.gM _ _).S zp _) λo a=> ?_;have H:=fv a;clear a);go_wp2;go_end0;exact⟨U,Í ⟨b,H⟩⟩
 .go_end0;exact⟨U,Ó ⟨b,_,H⟩⟩
end
section
variable{c:RC}{t:RT}
def asJ(F:kZ)(h:FO i c t Ç w W)(n:t.r.length<=32)(b:∀p∈t.r,gL p)(d:c.y<8): Ü Á 168 #[Æ<|Ã ⟨i,0,Å⟩,Â ą 116] W λe u=>e=É (Þ #[])/\FB i c (jP 16 t.r.length) (lu F c 16 t) w u:=by
 let⟨⟨f,g,j⟩,k,l⟩:=h.I;let⟨o,q⟩:=ot b;have r:=lF t.r;have H:=fv h;clear h b;by_cases a:jP 16 t.r.length;all_goals
  have m:=a;simp only[jP,jf,jx,dt,dC,bU]at m;obtain z|z:=ey t.r.length 1
 all_goals try(exfalso;omega;done)
 all_goals
  go_enter ā,ú;go_wp2_with (go_at_call 149;(first|refine(H.M zp zp).mono ?_|refine(H.Y zp).mono ?_);rintro e s ⟨rfl,z⟩;let⟨⟨f,g,j⟩,k,l⟩:=z.I;have m:=z.at (show 16+c.y*16+(fV t.r%16).toNat<144 by omega);have x:=z.K<|16+c.y*16+(fV t.r%16).toNat;have H:=fv z;clear z)
 .generalize mg _ _=v at m;go_region;go_wp2;go_end0;exact⟨U,Í ⟨a,(H.fH<|fw.gM _ _).iy Z<|asB _ d Z _⟩⟩
 all_goals
  go_end0;exact⟨U,Ó ⟨a,_,H⟩⟩
def asK(F:kZ)(h:FO i c t Ç w W)(q:t.r.length<=32)(r:t.C.length<=900000): Ü Á 168 #[Æ<|Ã ⟨i,0,Å⟩,Â ą 101] W λe u=>e=É (Þ #[])/\FB i c (jP 19 t.r.length) (lu F c 19 t) w u:=by
 obtain⟨⟨l,m,n⟩,o,j⟩:=h.I;have s:=lF t.r;have H:=fv h;clear h;by_cases f:jP 19 t.r.length;all_goals
  have d:=f;simp only[jP,jf,jx,dt,dC,bU]at d;go_enter ā,ú;go_wp2_with (go_at_call 149;(first|refine(H.M zp zp).mono ?_|refine(H.Y zp).mono ?_);rintro e b ⟨rfl,a⟩;obtain⟨⟨l,m,n⟩,o,j⟩:=a.I;have H:=fv a;clear a)
 .obtain⟨⟨v,x,hF⟩,k⟩:=H.oQ;obtain⟨y,z,rfl,_,_⟩:=hF.C;have p:=hF.at 0 U;have a:=fv<|À (hF.fH<|fw.gM fB b)<|k.fA<|fw.gM _ b;clear hF k;go_region_with (go_at_call 179;refine Ù (asz a.1.C (by simp only;omega) _ _) ?_;rintro e B ⟨C,rfl,b⟩;obtain⟨D,E,rfl⟩:=jj b.fE;have d:=a.1.fH b.r;have p:=d.at 0 U;have G:=d.r.I 144;have j:=d.r.M;have g:=fv b;clear b d);all_goals
   go_wp2
   go_end0;refine⟨U,Í ⟨f,?_⟩⟩;obtain⟨b,d⟩:=a.1.fR 0 _ (lu F c 19 t) g.r (a.1.I.fH g.r) (by have:=g.I;simpa[lu]using this) U U;exact⟨b,a.2.fA d⟩
 .go_end0;exact⟨U,Ó ⟨f,_,H⟩⟩
end
def zS:St:=λ_=>⟨0,⟨#[]⟩,λ_=>0⟩
def oO(e:mU)(lv:Ê):List Ê:=gI (if e.C then e.s else zS)++[lv,Û e.C,jW e.M,kt e.r]
def B4(F:kZ)(d:Int):Prop:=∀(s:St)(b:Ê)(a:List (Nat×Int))(x y:Nat)(g k:Int)(w:Ô),ie 229 b a.length (je a) w->ic s->x<8->y<8->0<=g->g<=100000->gL k->(a.length:Int)+g<=900000->
 Ü Á 122 #[Ú (gI s).toArray,b,Â Ä x,Â Ä y,Â Ø k,Â Ä g,Â Ä d] w λe c=>
  ∃p n f,e=É (Ú (oO (F s a x y g k)<|È p n f).toArray)/\fw fB w c/\((F s a x y g k).C=Ì->ie 229 (È p n f) (F s a x y g k).I.length (je (F s a x y g k).I) c)
section
variable{c:RC}{lv:Ê}{t:RT}{b:Bool}{w':Ô}
def FO.H(h:FO i c t b w u):u.cell? ⟨i,148,Å⟩=Ã (Â Ä c.d)/\u.cell? ⟨i,150,Å⟩=Ã (Â Ä t.g):=by let⟨⟨lv,v,h⟩,k⟩:=h;exact⟨h.at 4 U,h.at 6 U⟩
end
section
variable{ops:Array ü}{a:ģ}{Q:ŝ->ģ->Ô->Prop}
def acy(b:P.info? T=Ã zJ)(c:zJ.zero=Ã z)(h:cX (a.put o.dst<|Æ<|Ã ⟨w.heap.size,0,Å⟩) (w.alloc<|Ñ z.cells T))(d:o.guard=Å)(e:o.op=.alloc T): if æ o (ĭ ops a.tmps)=Ì then ğ P o a w cX Q else bQ:=by rw[if_pos (by simp[æ,d])];unfold ğ;rwa[FM e b c]
def U8{p:Nat}{cs:List Ê}{d:TypeDesc}(c:w.rangeAt b p cs)(e:P.underlying T=Ã d)(f:d.isRow=Ì)(g:(P.info? T).map (·.size)=Ã cs.length)(h:o.op=.load T qQ)(i:a.eval qQ=Æ (Ã ⟨b,p,Å⟩)):(ì a.eval o).run P w=.ok (č<|Ú cs.toArray) w:=by simp only[ì,h,i,Instr.loadAt,Instr.sureAddr,Sem.run_bind,Sem.run_pure,Result.andThen_ok,run_loadVar_mid w b p T cs d c e f g]
def J5{x:Operand}{b p n:Nat}{cs:List Value}(hr:(P.underlying T).map TypeDesc.isRow=some true)(hz:(P.info? T).map (·.size)=some n)(hl:cs.length=n)(hc:w.rangeAt b p cs)(ho:o.op=.load T x:=by rfl)(hx:a.eval x=.pointer (some ⟨b,p,none⟩):=by rfl):(execOp a.eval o).run P w=.ok (.value<|.agg cs.toArray) w:=by let⟨td,hu,hd⟩:=Ð.1 hr;exact U8 hc hu hd (by rw[hz,hl]) ho hx
def N5{y:ð}{cs:List Ê}(c:w.there b 0 cs.length)(d:(P.info? T).map (·.size)=Ã cs.length)(e:∀v∈cs,v.oneCell'=Ì)(h:cX (a.put o.dst Ň) (w.setCells b 0 cs))(f:o.guard=Å)(g:o.op=.store T qQ y)(i:a.eval qQ=Æ (Ã ⟨b,0,Å⟩))(hy:a.eval y=Ú cs.toArray): if æ o (ĭ ops a.tmps)=Ì then ğ P o a w cX Q else bQ:=by rw[if_pos (by simp[æ,f])];exact wp_store_mid T qQ y g b 0 cs.toArray i hy (fN c) (fN d) (å e) h
end
section
variable{md:Region.Mode}{ops:Array ü}{Q:ŝ->ģ->Ô->Prop}{S:Ô->Prop}{X:List Nat}
def asL(i j:Nat){oi oj:Oper}{fuel:Nat}{listed:Array Bool}{a0 a:Act}{w:World}(h1:∀K':Act->World->Prop,Shut (∀a w,(i∉X->S w)->mV P md ops Q S X fuel (listed.setIfInBounds i true) a w->K' a w)->if Region.wanted oi (yielded ops a.tmps)=true then Oper.wp P oi a w K' Q else K' (a.put oi.dst undef) w)(h2:∀K':Act->World->Prop,Shut (∀a w,(j∉X->S w)->mV P md ops Q S X fuel (listed.setIfInBounds j true) a w->K' a w)->if Region.wanted oj (yielded ops a.tmps)=true then Oper.wp P oj a w K' Q else K' (a.put oj.dst undef) w)(h0:a0=a:=by(try simp only[Act.put,List.setIfInBounds_toArray,List.set_cons_zero,List.set_cons_succ]);rfl)(hr:Region.ready md ops listed=[i,j]:=by kernel_rfl)(hi:ix ops.toList i=some oi:=by rfl)(hj:ix ops.toList j=some oj:=by rfl):mV P md ops Q S X (fuel+1) listed a0 w:=h0▸F_ hr (FK hi) (FK hj) h1 h2
end
def Ed{g:Array ü}{c:ü}{a:ģ}{y:ð}{d:Tmp}{cs us:List Ê}(m:fy i cs T w)(e:fy n us T w)(p:my T=Ç)(q:(Á.underlying T).map â=Ã Ì)(j:(Á.info? T).map (·.size)=Ã cs.length)(l:us.length=cs.length)(r:∀v∈cs,v.oneCell'=Ì)(h:∀f,fy n cs T f->fw (λk=>k=n) w f->Ē Á g vJ fX (a.put (Ã d)<|Ú cs.toArray) f)(s:o.guard=Å)(t:o.op=.load T qQ)(u:o.dst=Ã d)(z:c.guard=Å)(B:c.op=.store T y (.tmp d))(C:c.dst=Å)(D:a.eval qQ=Æ (Ã ⟨i,0,Å⟩))(hy:(a.put (Ã d)<|Ú cs.toArray).eval y=Æ (Ã ⟨n,0,Å⟩))(E:(a.put (Ã d)<|Ú cs.toArray).eval (.tmp d)=Ú cs.toArray):Ē Á g vJ (o::c::fX) a w:=by let⟨F,G,H⟩:=Ð.1 q;apply ċ s T qQ t i 0 D cs F m.G G H j;rw[u];refine ò z T y (.tmp d) B n 0 cs.toArray hy E (e.K<|by simp[l]) (by rw[j];simp) (å r) ?_;rw[C];exact h _ (by have:=x7 cs [] [] w us l (by simpa using e);simpa using this)<|uX (b:=n) cs 0 w<|e.S p
def sG:(Á.underlying 112).map â=Ã Ì:=fK
def rK:(Á.info? 112).map (·.size)=Ã 144:=fK
def Gm:(Á.info? 222).map (λi=>(i.size,i.zero.map (·.cells.size)))=Ã (148,Ã 148):=fK
def J6(s:St):∀v∈gI s,v.oneCell'=Ì:=λv a=>by
 obtain⟨i,b,rfl⟩:=cI.1 a;unfold mg;repeat' split
 all_goals rfl
def Ee(e:mU){lv:Ê}(h:lv.oneCell'=Ì):∀v∈oO e lv,v.oneCell'=Ì:=λv a=>by obtain q|q:=dx.1 a;exact J6 _ v q;simp at q;obtain rfl|rfl|rfl|rfl:=q;exact h;all_goals rfl
def yp(e:mU)(lv:Ê):(oO e lv).length=148:=by simp[oO,iM]
def N6(F:kZ):Prop:=∀s a x y g k,(F s a x y g k).C=Ç->(F s a x y g k).M=0/\(F s a x y g k).s=s/\(F s a x y g k).I=a
section
variable{fb:Nat}{c:RC}{lv:Ê}{t:RT}{b:Bool}{w':Ô}
structure qS(fb eb:Nat)(c:RC)(t:RT)(e:mU)(w w':Ô):Prop where
 r:FO fb c t Ç w w'
 KE:∃lv,lv.oneCell'=Ì/\fy eb (oO e lv) 222 w'/\(e.C=Ì->ie 229 lv e.I.length (je e.I) w')
def asM(F:kZ)(h:FO fb c t Ç w u)(m:t.r.length<=32)(b:¬jP 20 t.r.length): Ü Á 166 #[Æ<|Ã ⟨fb,0,Å⟩] u λe w'=>e=É (Þ #[])/\FB fb c (jP 20 t.r.length) (lu F c 20 t) w w':=by
 let⟨⟨d,f,g⟩,i,j⟩:=h.I;have H:=fv h;clear h;have k:=b;simp only[jP,jf,jx,dt,dC,bU]at k;obtain z|z:=ey t.r.length 1;rotate_left;obtain l|l:=ey t.r.length 2;all_goals
  go_enter Ġ,đ;go_wp2_with (go_at_call 149;(first|refine(H.M zp zp).mono ?_|refine(H.Y zp).mono ?_);rintro e n ⟨rfl,a⟩;let⟨⟨d,f,g⟩,i,j⟩:=a.I;have H:=fv a;clear a);apply Õ (Ā U _ _ _) U;exact⟨U,Ó ⟨b,_,H⟩⟩
def asN(F:kZ)(h:FO fb c t Ç w u)(l:t.r.length<=32)(b:jP 20 t.r.length)(f:c.d=4): Ü Á 166 #[Æ<|Ã ⟨fb,0,Å⟩] u λe w'=>e=É (Þ #[])/\FB fb c (jP 20 t.r.length) (lu F c 20 t) w w':=by
 let⟨g,i⟩:=h.H;have H:=fv h;clear h;have j:=b;simp only[jP,jf,jx,dt,dC,bU]at j;have e:lu F c 20 t={t with r:=fU (fU<|fU t.r)++[0,0]}:=by unfold lu jy;simp[f]
 rw[e];go_enter Ġ,đ;go_wp2_with (first|(go_at_call 149;refine gl (H.M zp zp) λk a=> ?_;let⟨⟨m,n,o⟩,p,q⟩:=a.I;let⟨g,i⟩:=a.H;rw[f]at g;have H:=fv a;clear a)|(go_at_call 167;refine gl (H.S (by(try simp only[lF,Ò,eH,ä]);omega) _) λk a=> ?_;have H:=fv a;clear a))
 apply Õ (Ā U _ _ _) U;exact⟨U,Í ⟨b,by have:=H.oQ;simp only[dL]at this;exact this⟩⟩
end
section
variable{l:Array ü}{a:ģ}{E:Prop}
def N7(h:Ü P F d w λe b=>∃v,e=É v/\cX (a.put o.dst v) b)(c:o.guard=Å)(g:(ì a.eval o).run P w=.ok (.enter F d) w): if æ o (ĭ l a.tmps)=Ì then ğ P o a w cX vJ else E:=by rw[if_pos (by simp[æ,c])];rw[ğ,g,Oper.upon_enter];apply h.mono;rintro e b ⟨v,rfl,k⟩;exact k
end
def qo:(Á.info? 222).map (·.size)=Ã 148:=fK
def Va{b:Array ü}{a:ģ}{y:ð}(T:þ)(_:o.op=.store T qQ y)(h:Ē P b vJ (o::fX) a w):Ē P b vJ (o::fX) a w:=h
section
variable{eb:Nat}{c:RC}{lv sv:Ê}{t:RT}{b:Bool}{w':Ô}
def FR.M(h:FR i c lv sv t b w):w.cell? ⟨i,144,Å⟩=Ã lv/\w.cell? ⟨i,146,Å⟩=Ã (Â Ä c.y)/\w.cell? ⟨i,148,Å⟩=Ã (Â Ä c.d)/\w.rangeAt i 0 (gI t.s):=⟨h.at 0 U,h.at 2 U,h.at 4 U,fy.Y h.r⟩
def acz{e:mU}{lv:Ê}(h:FO i c t Ç w u)(k:fw fB u W)(m:d.size=148)(n:lv.oneCell'=Ì)(o:W.heap[eb]?=Ã (Ñ d 222 (0,0)))(x:u.heap.size<=eb)(p:e.C=Ì->ie 229 lv e.I.length (je e.I) W):qS i eb c t e w (W.setCells eb 0<|oO e lv):=by
 have f:fy eb d.toList 222 W:=by unfold fy;simpa using o
 have g:=uX (b:=eb) (oO e lv) 0 W f.S;have r:=x7 (T:=222) (b:=eb) (oO e lv) [] [] W d.toList (by rw[yp,dU,m])<|fN f;let⟨⟨s,v,hF⟩,l⟩:=h;have j:=hF.fH k;have y:=hF.r.M;refine⟨⟨⟨s,v,j.r.C g Z,j.I.r g f,j.C.r g f⟩,?_⟩,lv,n,fN r,λq=>(p q).r g f⟩;exact(l.C (k.fG λ_ _=>á) λa _ q=>q).C g λa z q=>by have:=l.M;omega
def qS.I{e:mU}{a:RT}(h:qS i eb c t e w u)(f:FO i c a Ç u w'):qS i eb c a e w w':=by let⟨⟨⟨k,l,hF⟩,d⟩,lv,g,b,j⟩:=h;exact⟨⟨f.1,d.fA f.2⟩,lv,g,b.C f.2 λq=>fy.H b hF.r A q,λq=>(j q).r f.2 hF.r⟩
def qS.fH{e:mU}(h:qS i eb c t e w u)(k:fw fB u w'):qS i eb c t e w w':=h.I<|FO.fH ⟨h.r.1,fw.gy _ _⟩ k
def qS.C{e:mU}(h:qS i eb c t e w u):∃lv,(∀j a,[lv,Û e.C,Â Ø e.M,Â Ä e.r][j]?=Ã a->u.cell? ⟨eb,144+j,Å⟩=Ã a)/\(e.C=Ì->u.rangeAt eb 0 (gI e.s)/\(∃p n b,lv=È p n b)/\qS i eb c {t with C:=e.I} e w (u.setCell ⟨i,144,Å⟩ lv)):=by have g:=h;let⟨⟨⟨k,l,hF⟩,m⟩,lv,o,d,f⟩:=h;refine⟨lv,λj a q=>d.r _ _ (by rw[oO,eT (by rw[iM];omega),iM,dD];exact q),λq=>⟨?_,(by let⟨p,b,e,_⟩:=f q;exact⟨p,_,b,e⟩),g.I<|hF.fR 0 lv {t with C:=e.I} (fw.gy _ _) hF.I (f q) U U⟩⟩;have:=fy.Y (tl:=[lv,Û e.C,jW e.M,kt e.r]) (vs:=gI<|if e.C then e.s else zS) d;rwa[if_pos q]at this
def qS.Vb{e:mU}(h:qS i eb c t e w u)(g:Int):qS i eb c {t with g:=g} e w (u.setCell ⟨i,150,Å⟩<|Â Ä g):=by let⟨⟨a,b,hF⟩,d⟩:=h.r;exact h.I<|hF.fR 6 _ {t with g:=g} (fw.gy _ _) hF.I hF.C U U
def qS.Vd{e:mU}(h:qS i eb c t e w u)(s:St):qS i eb c {t with s:=s} e w (u.setCells i 0<|gI s):=by let⟨⟨d,f,hF⟩,g⟩:=h.r;have a:=uX (b:=i) (gI s) 0 u hF.r.S;refine h.I ⟨⟨d,f,?_,hF.I.r a hF.r,hF.C.r a hF.r⟩,a⟩;exact x7 (T:=257) (gI s) [] _ u (gI t.s) (by rw[iM,iM]) hF.r
def FO.th(h:FO i c t b w u):u.there i 0 144:=by let⟨⟨a,d,hF⟩,e⟩:=h;exact hF.r.K<|by rw[Ò,iM];omega
def asO(F:kZ)(h:FO i c t Ç w u)(hn:t.r.length<=32)(L:∀p∈t.r,gL p)(P:ic t.s)(hx:c.x<8)(hy:c.y<8)(oY:0<=c.d)(hd:c.d<4)(hF:B4 F (c.d+1))(hI:qF F)(Q:N6 F)(rn:0<=t.g)(rz:t.g<=100000)(Y:jP 20 t.r.length)(hlen:(t.C.length:Int)+t.g<=900000): Ü Á 166 #[Æ<|Ã ⟨i,0,Å⟩] u λe w'=>e=É (Þ #[])/\FB i c (jP 20 t.r.length) (lu F c 20 t) w w':=by
 have n1:=lF t.r;have n2:=lF<|fU t.r;have n3:=lF<|fU<|fU t.r;let⟨q0,q1⟩:=ot L;let⟨r0,r1⟩:=ot<|nW L;have hk:=ot<|nW<|nW L;have H:=fv h;have Dy:(c.d==4)=Ç:=by rw[beq_eq_false_iff_ne];omega
 have J7:=Y;simp only[jP,jf,jx,dt,dC,bU]at J7;have hm8:Ä.wrap ((fV t.r).tmod 8)=(((fV t.r%8).toNat:Nat):Int):=by rw[ß,eX q0];omega
 have hdd:Ä.wrap (c.d+1)=c.d+1:=by rw[ß];omega
 have hwg:Ø.wrap t.g=t.g:=sj rn Z;obtain⟨G,hG⟩:∃G,min (fV<|fU t.r) t.g=G:=⟨_,U⟩;have hGb:0<=G/\G<=t.g:=Z;have C:∀lv W,ie 229 lv t.C.length (je t.C) W->Ü Á 122 #[Ú (gI t.s).toArray,lv,Â Ä c.y,Â Ä ((fV t.r%8).toNat:Nat),Â Ø<|fV<|fU<|fU t.r,Â Ä G,Â Ä<|c.d+1] W _:=λlv W q=>hF t.s lv t.C c.y (fV t.r%8).toNat G (fV<|fU<|fU t.r) W q P hy Z hGb.1 Z hk Z;have S:=hI t.s t.C c.y (fV t.r%8).toNat G (fV<|fU<|fU t.r) P hy Z hk hGb.1 Z Z;have hEb:=Q t.s t.C c.y (fV t.r%8).toNat G<|fV<|fU<|fU t.r;have hD:lu F c 20 t={(⟨fU (fU<|fU t.r)++[(F t.s t.C c.y (fV t.r%8).toNat G<|fV<|fU<|fU t.r).M,uU (F t.s t.C c.y (fV t.r%8).toNat G<|fV<|fU<|fU t.r).C],(F t.s t.C c.y (fV t.r%8).toNat G<|fV<|fU<|fU t.r).s,(F t.s t.C c.y (fV t.r%8).toNat G<|fV<|fU<|fU t.r).I,t.g-(F t.s t.C c.y (fV t.r%8).toNat G<|fV<|fU<|fU t.r).r⟩:RT)with}:=by unfold lu jy;simp[hG,show¬c.d=4 by omega]
 rw[hD];generalize F t.s t.C c.y (fV t.r%8).toNat G (fV<|fU<|fU t.r)=E at*;have u0:=S.C;have u1:=S.r;have I:=fv<|À C<|À S<|À hEb<|À P L;clear C S hEb hD hF hI Q h P L;let⟨i0,k,pe,jV,mX,mS⟩:=FP Gm;have l:=fv<|À pe<|À mX mS;clear pe jV mX mS;obtain⟨Kq,hKq⟩:∃z,fV (fU<|fU t.r)=z:=⟨_,U⟩;rw[hKq]at hk I;obtain⟨m8,hm⟩:∃z,(((fV t.r%8).toNat:Nat):Int)=z:=⟨_,U⟩;rw[hm]at hm8 I;by_cases IZ:fV (fU t.r)<t.g;have hGe:G=fV (fU t.r):=Z
 have hwi:Ä.wrap (fV<|fU t.r)=fV (fU t.r):=by rw[ß];omega
 rotate_left;have hGe:G=t.g:=Z;have awp:=decide_eq_false IZ;rotate_left;all_goals
  clear hG;subst hGe;go_enter Ġ,đ;go_upto_region 10 with(go_at_call 149;refine gl (H.M zp zp) λM f=> ?_;let⟨⟨a1,a2,a3⟩,a4,T⟩:=f.I;let⟨a6,a7⟩:=f.H;have H:=fv f;clear f);go_cut [6] λv wc=>∃eb,v=Æ (Ã ⟨eb,0,Å⟩)/\qS i eb c {t with r:=fU (fU<|fU t.r)} E w wc
  case first=>
   let⟨⟨lv,sv,hR⟩,kR⟩:=H.oQ;have Ve:=hR.fH<|fw.gM fB M;obtain⟨la,lc,rfl,_,_⟩:=hR.C;have HS:=fv Ve.M;have m:=fv<|À Ve<|H.fH<|fw.gM fB M;clear hR Ve kR a1 a2 a3 a4 T a6 a7;refine mI (λw'=>w'.cell? ⟨i,144,Å⟩=Ã (È la t.C.length lc)/\w'.cell? ⟨i,146,Å⟩=Ã (Â Ä c.y)/\w'.cell? ⟨i,148,Å⟩=Ã (Â Ä c.d)/\w'.rangeAt i 0 (gI t.s)) [24] fK ?_;generalize M.drew=w3 at*;iterate 3 apply tk HS
   refine tk (v:=Ú (gI t.s).toArray) HS 3 ?_ (hy:=λw h=>J5 sG rK (iM _) h.2.2.2);iterate 18 apply tk HS
   refine asL 22 23 ?_ ?_
   .intro K b;refine N7 (Ù (I.1 _ _ m.1.C) ?_) U (by go_simp);rintro e j ⟨p,n,cp,rfl,o,hr4⟩;refine⟨_,U,b.out _ _ (λ_=>(m.1.fH o).M) ?_⟩;clear b K;apply np 23;intro K b;refine acy l.1 l.2.1 ?_ U U;have r:=fw.gP fB j k.cells 222;apply b.out _ _ λ_=>((m.1.fH o).fH r).M;clear b K;have a:=acz (eb:=j.heap.size) (lv:=È p n cp) (e:=E) m.2 (o.fA r) l.2.2 U (heap_alloc_new j _) o.M λq=>(hr4 q).fH r;have V:=(show fy j.heap.size k.cells.toList 222 (j.alloc<|Ñ k.cells 222) by have:=fy.N j k.cells.toList 222;simpa using this).K (n:=148) (by rw[dU,l.oQ.2.2];omega);apply np 24;intro K b;refine N5 (cs:=oO E<|È p n cp) (by rw[yp];exact V) (by rw[yp];exact qo) (Ee E U) ?_ U U U U;apply b.out _ _ λq=>absurd fD q;clear b K;generalize(j.alloc<|Ñ k.cells 222).setCells j.heap.size 0 (oO E<|È p n cp)=w5 at*;refine ma ?_;go_wp2;go_meet
    case rel=>exact⟨_,U,a⟩
   .intro K b;refine acy l.1 l.2.1 ?_ U U;have r:=fw.gP fB w3 k.cells 222;have Q:fy w3.heap.size k.cells.toList 222 (w3.alloc<|Ñ k.cells 222):=by have:=fy.N w3 k.cells.toList 222;simpa using this
    apply b.out _ _ λ_=>(m.1.fH r).M;clear b K;apply np 22;intro K b;refine N7 (Ù (I.1 _ _ (m.1.fH r).C) ?_) U (by go_simp);rintro e j ⟨p,n,cp,rfl,o,hr4⟩;refine⟨_,U,b.out _ _ (λ_=>((m.1.fH r).fH o).M) ?_⟩;clear b K;have hB4:=Q.C o id;have a:=acz (eb:=w3.heap.size) (lv:=È p n cp) (e:=E) m.2 (r.fA o) l.2.2 U (by simpa[fy]using hB4) (eE _) hr4;apply np 24;intro K b;refine N5 (cs:=oO E<|È p n cp) (by rw[yp];exact hB4.K<|by rw[dU,l.oQ.2.2];omega) (by rw[yp];exact qo) (Ee E U) ?_ U U U U;apply b.out _ _ λq=>absurd fD q;clear b K;generalize j.setCells w3.heap.size 0 (oO E<|È p n cp)=w5 at*;refine ma ?_;go_wp2;go_meet
    case rel=>exact⟨_,U,a⟩
  case rest=>
   obtain⟨eb,rfl,J⟩:=hcut;let⟨lv,B,N⟩:=J.C;have s3:=B 3 _ U;let⟨a6,a7⟩:=J.r.H;have T:=J.r.r;have f1:=J.r.K 150;have hwu:Ä.wrap (t.g-E.r)=t.g-E.r:=by rw[ß];omega
   have O:=fv<|(J.Vb<|t.g-E.r).fH<|fw.gM fB _;clear B N J;go_wp2;go_region;generalize(wc.setCell ⟨i,150,Å⟩<|Â Ä<|t.g-E.r).drew=w5 at*;clear s3 a6 a7 T f1;have T:=O.r.r;let⟨lv,B,N⟩:=O.C;have e1:=B 1 _ U;have e2:=B 2 _ U;cases D:E.C
   .rw[D]at e1;have HB:=fv<|I.2.2.1 D;have H:=fv O.r;clear B N I l;go_wp2_with (go_at_call 167;refine gl (H.S (by(try simp only[lF,Ò,eH,ä]);omega) _) λM f=> ?_;have H:=fv f;clear f);go_end0;refine⟨U,Í ⟨Y,?_⟩⟩;have:=H.oQ;simp only[dL]at this;rw[HB.oQ.1,HB.oQ.2.1,HB.oQ.2.2,D];exact this
   .rw[D]at e1;have X:=fv<|O.Vd E.s;have V:=O.r.th;let⟨lv4,t1,t2⟩:=X.C;obtain⟨_,⟨p4,n4,m4,rfl⟩,d4⟩:=t2 D;have d0:=t1 0 _ U;have d2:=t1 2 _ U;have f4:=X.r.K 144;have l4:=X.r.r;let⟨⟨_,_,hF4⟩,_⟩:=X.r;have c4:=hF4.at 0 U;have HT:=fv<|À (N D).1 V;have H:=fv d4.r;have d5:((w5.setCells i 0<|gI E.s).setCell ⟨i,144,Å⟩<|È p4 n4 m4).cell? ⟨eb,146,Å⟩=Ã (Â Ø E.M):=by
     let⟨lv5,t5,_⟩:=d4.C;exact t5 2 _ U
    clear B N t1 t2 d4 hF4 V;go_wp2_with (first|(refine tg sG rK (iM _) HT.1 ?_)|(refine Va 112 U ?_;refine ò U 112 _ _ U i 0 (gI E.s).toArray U U (by rw[eN,iM];exact HT.2) (by rw[rK,eN,iM]) (å<|J6 _) ?_;generalize w5.setCells i 0 (gI E.s)=w6 at*)|(go_at_call 167;refine gl (H.S (by(try simp only[lF,Ò,eH,ä]);omega) _) λM f=> ?_;have H:=fv f;clear f))
    apply Õ (Ā U _ _ _) U;refine⟨U,Í ⟨Y,?_⟩⟩;rw[D];have:=H.oQ;simp only[dL]at this;exact this
end
def yq(F:kZ)(c:RC)(k:Int)(t:RT):RT:=if il k=1 then{t with r:=t.r++[k-48]}else lu F c (il k) t
section
variable{c:RC}{t:RT}
def FB.r{q:Prop}{b:RT}(h:FB i c bQ t w u)(e:bQ↔q)(d:t=b):FB i c q b w u:=by subst d;exact h.imp (λ⟨a,yQ⟩=>⟨e.1 a,yQ⟩) λ⟨a,yQ⟩=>⟨λr=>a<|e.2 r,yQ⟩
theorem asP(a:1<=il h)(b:il h<=20)(c:il h≠17):(il h=1/\48<=h/\h<=57)\/h∈([43,45,42,47,60,61,118,111,100,120,112,107,99,121,98,108,116,101]:List Int):=by simp only[eK,dr,or_false];unfold il at*;grind
def asQ(F:kZ)(h:FO i c t Ç w W)(b:t.r.length<=32)(f:∀p∈t.r,gL p)(m:ic t.s)(G:c.x<8)(hy:c.y<8)(L:0<=c.d)(P:c.d<=4)(hF:c.d<4->B4 F (c.d+1))(I:qF F)(J:N6 F)(M:0<=t.g)(N:t.g<=100000)(O:(t.C.length:Int)+t.g<=900000)(k:Int)(B:1<=il k)(a:il k<=20)(C:il k≠17): Ü Á 150 #[Æ<|Ã ⟨i,0,Å⟩,Â ą k] W λe u=>e=É (Þ #[])/\FB i c (jP (il k) t.r.length) (yq F c k t) w u:=by
 have D:∀p,(jf p).2=(2,1)->(2<=t.r.length↔jP p t.r.length):=λp h=>by rw[jP,h];simp only;omega
 have r:∀q,q=164/\k∈([43,45,42,47,60,61]:List Int)\/q=168/\k∈([100,120,112,107,99,121,98,108,116,101]:List Int)->Ü Á q #[Æ<|Ã ⟨i,0,Å⟩,Â ą k] W λe u=>e=É (Þ #[])/\FB i c (jP (il k) t.r.length) (yq F c k t) w u:=λq K=>by
  simp only[eK,dr,or_false]at K;obtain⟨rfl,j⟩|⟨rfl,j⟩:=K
  .refine gl (asA h b f k j) λu q=> ?_;refine⟨U,q.r ?_ ?_⟩<;>obtain rfl|rfl|rfl|rfl|rfl|rfl:=j;all_goals first|exact D _ U|rfl
  obtain rfl|rfl|rfl|rfl|rfl|rfl|rfl|rfl|rfl|rfl:=j;iterate 6 exact asG F h b f m G hy Z _ _ A
  exact asH F h b hy;exact asI F h b f hy;exact asJ F h b f hy;exact asK F h b Z
 have v:Ü Á 165 #[Æ<|Ã ⟨i,0,Å⟩] W λe u=>e=É (Þ #[])/\FB i c (jP 18 t.r.length) (lu F c 18 t) w u:=by refine gl (asC h b f m hy) λu q=> ?_;exact⟨U,q.r (D _ U) U⟩
 have o:Ü Á 166 #[Æ<|Ã ⟨i,0,Å⟩] W λe u=>e=É (Þ #[])/\FB i c (jP 20 t.r.length) (lu F c 20 t) w u:=by by_cases n:jP 20 t.r.length;by_cases e:c.d=4;exact asN F h b n e;exact asO F h b f m G hy L Z (hF Z) I J M N n O;exact asM F h b n
 have l:=fv<|À r<|À v o;have H:=fv h;clear h r v o hF I J f m D;obtain⟨E,Q,S⟩|j:=asP B a C
 .rw[yq,if_pos E,E];clear E B a C l;by_cases n:t.r.length<32;all_goals
   go_enter ļ,Ĳ;go_wp2_with (go_at_call 167;(first|refine Ù (H.S Z _) ?_|refine Ù (H.U7 Z _) ?_);rintro e z ⟨rfl,a⟩;have H:=fv a;clear a);go_end0;first|exact⟨U,Í ⟨by simp[jP,jf,jx];omega,H⟩⟩|exact⟨U,Ó ⟨by simp[jP,jf,jx];omega,_,H⟩⟩
 .clear B a C;simp only[eK,dr,or_false]at j;obtain rfl|rfl|rfl|rfl|rfl|rfl|rfl|rfl|rfl|rfl|rfl|rfl|rfl|rfl|rfl|rfl|rfl|rfl:=j;all_goals
   go_enter ļ,Ĳ;go_wp2_with (first|(go_at_call 164;refine gl (l.1 _ A) λz a=> ?_;have n:=fv a;clear a)|(go_at_call 168;refine gl (l.1 _ A) λz a=> ?_;have n:=fv a;clear a)|(go_at_call 165;refine gl l.2.1 λz a=> ?_;have n:=fv a;clear a)|(go_at_call 166;refine gl l.2.2 λz a=> ?_;have n:=fv a;clear a))
   go_end0;exact⟨U,n⟩
end
def Vf:List Ê->List (Nat×Value)->List Ê|zs,[]=>zs|zs,p::r=>Vf (zs.set p.1 p.2) r
def Vg{place:Nat->Option (Nat×Nat)}{cs:List Ê}:∀(b:List (Nat×Value))(a:List Ê),(∀p∈b,p.2.cells=#[p.2]/\p.1<a.length/\place (p.1+1)=Ã (cs.length+p.1,1))->Instr.fill place (cs++a).toArray (b.map λp=>(p.1+1,p.2))=Ã (cs++Vf a b).toArray|[],a,_=>rfl|(i,v)::r,a,h=>by let⟨b,c,d⟩:=h (i,v)<|eZ ..;simp only at b c d;have:=zy (place:=place) (pre:=cs++a.take i) (old:=[a[i]]) (suf:=a.drop<|i+1) (i:=i+1) (size:=1) (v:=v) (rest:=r.map λp=>(p.1+1,p.2)) (by rw[d];simp;omega) (by rw[b];rfl) U;rw[b]at this;rw[show cs++a=cs++a.take i++[a[i]]++a.drop (i+1) by simp,dR,this,show cs++a.take i++#[v].toList++a.drop (i+1)=cs++a.set i v by simp[List.set_eq_take_append_cons_drop,c]];exact Vg r (a.set i v) λp e=>by have:=h p<|fi _ e;simpa using this
def asR:Bx Á 257=Ã [(0,144),(144,1),(145,1),(146,1),(147,1),(148,1),(149,1),(150,1),(151,1)]:=fK
def Vh:Bx Á 222=Ã [(0,144),(144,1),(145,1),(146,1),(147,1)]:=fK
def asS:((Á.info? 257).bind (·.zero)).map (λz=>z.cells.toList.drop 144)=Ã (vp ⟨0,0,0,0,0⟩ 0 (È Å 0 0) (È Å 0 0) Ç):=fK
def asT:((Á.info? 257).bind (·.zero)).map (λz=>z.cells.size)=Ã 152:=fK
def qp(g:Int):List Ê:=gI zS++[È Å 0 0,Û Ç,Â Ø 0,Â Ä g]
def acA:((Á.info? 222).bind (·.zero)).map (λz=>z.cells.toList)=Ã (qp 0):=fK
def Vi{b:List (Nat×Nat)}{old cs:List Ê}(c:Bx Á T=Ã b)(e:(Á.info? T).bind (·.zero)=Ã z)(f:z.cells=(old++l).toArray)(g:old.length=144)(h:cs.length=144)(j:b[0]?=Ã (0,144))(a:List (Nat×Value))(k:∀p∈a,p.2.cells=#[p.2]/\p.1<l.length/\b[p.1+1]?=Ã (144+p.1,1)):Á.built T ((0,Ú cs.toArray)::a.map λp=>(p.1+1,p.2))=Ã (cs++Vf l a).toArray:=by rw[DJ c e,f];have d:=zy (place:=λi=>b.toArray[i]?) (pre:=[]) (old:=old) (suf:=l) (i:=0) (v:=Ú cs.toArray) (rest:=a.map λp=>(p.1+1,p.2)) (fN j) (by show cs.toArray.size=144;simp[h]) g;rw[ec,show(Ú cs.toArray).cells.toList=cs from rfl]at d;rw[d];exact Vg a l λp c=>by simpa[h]using k p c
def Vj(h:v.oneCell'=Ì):v.cells=#[v]:=by cases v<;>first|rfl|cases h
def asU(c:RC)(g:Int)(h:l.length=144)(b:v.oneCell'=Ì):Á.built 257 [(0,Ú l.toArray),(1,v),(2,kt c.x),(3,kt c.y),(4,jW c.k),(5,kt c.d),(7,kt g)]=Ã (l++vp c g v (È Å 0 0) Ç).toArray:=by let⟨z,j,e,f,i⟩:=Ji asS asT A;refine Vi asR e i f h U [(0,v),(1,kt c.x),(2,kt c.y),(3,jW c.k),(4,kt c.d),(6,kt g)] λp a=> ?_;simp only[eK,dr,or_false]at a;obtain rfl|rfl|rfl|rfl|rfl|rfl:=a;exact⟨Vj b,by simp[vp],U⟩;all_goals exact⟨U,by simp[vp],U⟩
def Vk{cs:List Ê}{lv:Ê}(v g:Int)(h:cs.length=144)(d:lv.oneCell'=Ì):Á.built 222 [(0,Ú cs.toArray),(1,lv),(2,Û Ì),(3,jW v),(4,kt g)]=Ã (cs++[lv,Û Ì,jW v,kt g]).toArray/\Á.built 222 [(0,Ú cs.toArray),(1,lv),(2,Û Ì),(4,kt g)]=Ã (cs++[lv,Û Ì,jW 0,kt g]).toArray/\Á.built 222 [(4,kt g)]=Ã (qp g).toArray:=by
 let⟨z,b,e⟩:=Ð.1 acA;have c:z.cells=(gI zS++[È Å 0 0,Û Ç,Â Ø 0,Â Ä 0]).toArray:=by rw[show z.cells=z.cells.toList.toArray by simp,e];rfl
 refine⟨Vi Vh b c (iM _) h U [(0,lv),(1,Û Ì),(2,jW v),(3,kt g)] λp a=> ?_,Vi Vh b c (iM _) h U [(0,lv),(1,Û Ì),(3,kt g)] λp a=> ?_,?_⟩
 .simp only[eK,dr,or_false]at a;obtain rfl|rfl|rfl|rfl:=a;exact⟨Vj d,fD,U⟩;all_goals exact⟨U,fD,U⟩
 .simp only[eK,dr,or_false]at a;obtain rfl|rfl|rfl:=a;exact⟨Vj d,fD,U⟩;all_goals exact⟨U,fD,U⟩
 rw[DJ Vh b,c];exact Vg (cs:=gI zS) [(3,kt g)] _ λp a=>by simp only[eK,dr,or_false]at a;subst a;exact⟨U,fD,by rw[iM];rfl⟩
section
variable{a b m l q C:ð}{cs:List Ê}{lv:Ê}{v:Int}
def asV(c:RC)(f:o.op=.build 257 #[(0,qQ),(1,a),(2,b),(3,m),(4,l),(5,q),(7,C)])(g:xX qQ=Ú cs.toArray)(i:xX a=lv)(j:xX b=kt c.x)(n:xX m=kt c.y)(p:xX l=jW c.k)(r:xX q=kt c.d)(s:xX C=kt h)(e:cs.length=144)(t:lv.oneCell'=Ì):(ì xX o).run Á w=.ok (č<|Ú (cs++vp c h lv (È Å 0 0) Ç).toArray) w:=by apply zz f;simp only[eJ,dR,dG,g,i,j,n,p,r,s];exact asU c h e t
def acB(a:o.op=.build 222 #[(4,qQ)])(b:xX qQ=kt h):(ì xX o).run Á w=.ok (č<|Ú (qp h).toArray) w:=by apply zz a;simp only[eJ,dR,dG,b];exact(Vk (cs:=gI zS) (lv:=È Å 0 0) 0 h (iM _) U).2.2
def vv(s:St)(lv:Ê)(u h:Int):List Ê:=gI s++[lv,Û Ì,jW u,kt h]
def z8(s:St)(lv:Ê)(u h:Int):(vv s lv u h).length=148:=yp ⟨h,Ì,u,s,[]⟩ lv
def acC(s:St){lv:Ê}(u h:Int)(a:lv.oneCell'=Ì):∀v∈vv s lv u h,v.oneCell'=Ì:=Ee ⟨h,Ì,u,s,[]⟩ a
def asW{s:St}(c:o.op=.build 222 #[(0,qQ),(1,a),(2,b),(3,m),(4,l)])(d:xX qQ=Ú (gI s).toArray)(e:xX a=lv)(f:xX b=Û Ì)(g:xX m=jW v)(i:xX l=kt h)(j:lv.oneCell'=Ì):(ì xX o).run Á w=.ok (č<|Ú (vv s lv v h).toArray) w:=by apply zz c;simp only[eJ,dR,dG,d,e,f,g,i];exact(Vk v h (iM s) j).1
def asX{s:St}(c:o.op=.build 222 #[(0,qQ),(1,a),(2,b),(4,l)])(d:xX qQ=Ú (gI s).toArray)(e:xX a=lv)(f:xX b=Û Ì)(g:xX l=kt h)(i:lv.oneCell'=Ì):(ì xX o).run Á w=.ok (č<|Ú (vv s lv 0 h).toArray) w:=by apply zz c;simp only[eJ,dR,dG,d,e,f,g];exact(Vk 0 h (iM s) i).2.1
end
section
variable{F:kZ}{c:RC}{t:RT}{k:Int}
theorem asY(d:n<B.size)(a:DC B n=k)(f:1<=il k):nt F c B (i+1) n t= if(jf<|il k).1<=t.g/\jP (il k) t.r.length then
  if il k=17 then nt F c B i (if fV (fU t.r)=0 then n+1 else fV t.r) {t with r:=fU<|fU t.r,g:=t.g-(jf<|il k).1}
  else if il k=21 then(fV t.r,Ì,{t with r:=fU t.r,g:=t.g-(jf<|il k).1})
  else if il k=22 then(0,Ç,{t with g:=t.g-(jf<|il k).1})
  else nt F c B i (n+1) (yq F c k {t with g:=t.g-(jf<|il k).1})
 else(0,Ç,{t with g:=0}):=by
 have e:mJ B n=il k:=by rw[mJ,a]
 have b:qE t.g t.r.length (jf<|il k).1 (jf<|il k).2.1 (jf<|il k).2.2=decide ((jf<|il k).1<=t.g/\jP (il k) t.r.length):=by unfold qE jP;rw[dA];simp
 rw[nt,if_neg Z,if_neg Z,e,b];unfold yq;grind
def asZ(h:(B.size:Int)<k):nt F c B (i+1) k t=(0,Ç,{t with g:=0}):=by rw[nt,if_neg Z,if_pos h]
def as0:nt F c B (i+1) B.size t=(0,Ì,t):=by rw[nt,if_pos U]
def acD:∀(i:Nat)(a:Int)(t:RT),(nt F c B i a t).2.1=Ç->(nt F c B i a t).1=0
 |0,a,t=>λ_=>U
 |i+1,a,t=>by
  unfold nt;repeat' split
  all_goals first|exact acD i _ _|exact λ_=>U|exact λh=>by cases h
def as1(i:qF F)(j:c.x<8)(hy:c.y<8)(l:gL c.k)(m:1<=il k)(n:il k<=20)(o:il k≠17)(a:mW t)(p:(jf<|il k).1<=t.g)(d:jP (il k) t.r.length): mW (yq F c k {t with g:=t.g-(jf<|il k).1})/\(yq F c k {t with g:=t.g-(jf<|il k).1}).g<=t.g-(jf<|il k).1/\((yq F c k {t with g:=t.g-(jf<|il k).1}).C.length:Int)+(yq F c k {t with g:=t.g-(jf<|il k).1}).g<=t.C.length+t.g:=by have q:=Tg m Z;have v:=a.C;have r:=a.I;have h:=Tb (show il k<=22 by omega);have u:il k=1->48<=k/\k<=57:=Tf;unfold yq;unfold jP at d;generalize il k=K at*;generalize jf K=ro at*;let⟨b,w,z⟩:=ro;simp only at d p q|-;have f:mW {t with g:=t.g-b}:=⟨a.r,a.M,a.s,by show 0<=t.g-b;omega,by show t.g-b<=100000;omega,by show(t.C.length:Int)+(t.g-b)<=1000000;omega⟩;split;rename_i e;subst e;have:=u U;refine⟨⟨tV a.r<|xZ ⟨Z,Z⟩,?_,a.s,f.g0,f.C,f.I⟩,cK _,by show(t.C.length:Int)+(t.g-b)<=_;omega⟩;simp[jx]at h;simp;omega;exact Te (t:={t with g:=t.g-b}) i j hy l Z n o h U f r d.1 d.2
end
def B5{E:mU}(j:Nat)(h:[v,Û E.C,Â Ø E.M,Â Ä E.r][j]?=Ã x):(oO E v)[144+j]?=Ã x:=by rw[oO,eT (by rw[iM];omega),iM,dD];exact h
def N8:∀n,N6<|sk n|0=>λs a x y g k _=>⟨U,U,U⟩|n+1=>λs a x y g k h=>by have b:(ou (sk n) ⟨x,y,k,4-(n:Int),g⟩ s a).2.1=Ç:=h;refine⟨?_,?_,?_⟩;exact acD _ _ _ b;show(if(ou (sk n) ⟨x,y,k,4-(n:Int),g⟩ s a).2.1=Ì then _ else s)=s;rw[b];rfl;show(if(ou (sk n) ⟨x,y,k,4-(n:Int),g⟩ s a).2.1=Ì then _ else a)=a;rw[b];rfl
def um:(Á.underlying 222).map â=Ã Ì:=fK
def Ef(g:Int):∀v∈qp g,v.oneCell'=Ì:=Ee ⟨g,Ç,0,zS,[]⟩ U
def mj(g:Int):(qp g).length=148:=yp ⟨g,Ç,0,zS,[]⟩ _
def N9(a:Nat)(w:Ô):Nat:=match w.cell? ⟨a,150,Å⟩with|some (Â _ n)=>n.toNat|_=>0
structure RB(w wa:Ô)(fb rb xb:Nat)(g:Int):Prop where
 kp:fw fB w wa
 N:w.heap.size<=fb/\w.heap.size<=rb
 S:rb≠fb/\xb≠fb
 as2:fy rb (qp 0) 222 wa
 OY:fy xb (qp g) 222 wa
section
variable{wa:Ô}{fb rb xb:Nat}{g:Int}{c:RC}{t:RT}{b:Bool}
def RB.r(h:RB w wa fb rb xb g)(f:FO fb c t b wa W):fy xb (qp g) 222 W/\fy rb (qp 0) 222 W:=⟨h.OY.C f.2 h.S.2,h.as2.C f.2 h.S.1⟩
def RB.I(h:RB w wa fb rb xb g)(f:FO fb c t b wa W)(k:fw (λi=>i=rb) W jX):fw fB w jX:=(h.kp.C f.2 λi a q=>by have:=h.N.1;omega).C k λi a q=>by have:=h.N.2;omega
def RB.fR(h:RB w wa fb rb xb g)(f:FO fb c t b wa W){cs:List Ê}(d:cs.length=148):fy rb cs 222 (W.setCells rb 0 cs)/\fw (λi=>i=rb) W (W.setCells rb 0 cs):=by have a:=(h.r f).2;have:=x7 (T:=222) cs [] [] W (qp 0) (by rw[d,mj]) (by simpa using a);exact⟨by simpa using this,uX cs 0 W a.S⟩
def FO.uI(h:FO fb c t b w W)(g:Int):FO fb c {t with g:=g} b w (W.setCell ⟨fb,150,Å⟩<|Â Ä g):=by let⟨⟨a,d,h⟩,k⟩:=h;let⟨p,q⟩:=h.fR 6 (Â Ä g) {t with g:=g} (fw.gy _ _) h.I h.C U U;exact⟨p,k.fA q⟩
def FO.G(h:FO fb c t b w W):N9 fb W=t.g.toNat:=by rw[N9,h.H.2]
def AU(E:mU)(w:Ô)(e:Ending)(a:Ô):Prop:=∃p n b,e=É (Ú (oO E<|È p n b).toArray)/\fw fB w a/\(E.C=Ì->ie 229 (È p n b) E.I.length (je E.I) a)
end
section
variable{wa:Ô}{fb rb xb:Nat}{g v:Int}{c:RC}{t j a:RT}{b:Bool}{l:St}{E:mU}
def RB.C(d:RB w wa fb rb xb g)(f:FO fb c t b wa W)(o:fy rb (qp h) 222 jX)(k:fw (λi=>i=rb) W jX)(e:(0,Ç,j)=(v,yQ,a))(m:(⟨g-a.g,yQ,v,l,gJ⟩:mU)=E)(n:g-j.g=h):AU E w (É<|Ú (qp h).toArray) jX:=by cases e;subst m n;exact⟨Å,0,0,by simp[oO,qp,jW,kt],d.I f k,λq=>by cases q⟩
def RB.M(d:RB w wa fb rb xb g)(f:FR fb c x z t b W)(i:fw (λk=>k=fb) wa W)(e:(h,Ì,j)=(v,yQ,a))(n:(⟨g-a.g,yQ,v,if yQ then a.s else l,if yQ then a.C else gJ⟩:mU)=E)(o:j.s=t.s)(q:j.C=t.C):AU E w (É<|Ú (vv t.s x h<|g-j.g).toArray) (W.setCells rb 0<|vv t.s x h<|g-j.g):=by simp only[dJ]at e;obtain⟨rfl,rfl,rfl⟩:=e;subst n;let⟨p,cp,e,_⟩:=id f.C;let⟨r,m⟩:=d.fR ⟨⟨_,_,f⟩,i⟩<|z8 t.s x h<|g-j.g;refine⟨p,_,cp,by rw[<-e,<-o];rfl,d.I ⟨⟨_,_,f⟩,i⟩ m,λ_=> ?_⟩;simp only[if_true,q];rw[<-e];exact f.C.r m (d.r ⟨⟨_,_,f⟩,i⟩).2
theorem Vl:(il h=22->h=102)/\(il h=21->h=114)/\(il h=17->h=106):=by unfold il;grind (splits:=40)
end
def acE{F:kZ}{d:Int}(oY:0<=d)(hd:d<=4)(hF:d<4->B4 F (d+1))(hI:qF F)(hB:N6 F):B4 (λs B x y g k=>qG F ⟨x,y,k,d,g⟩ s B) d:=by
 intro s lv B x y g k w Vm hs hx hy rn rz hk hlen;obtain⟨v,b,T,zx⟩:∃v b t,ou F ⟨x,y,k,d,g⟩ s B=(v,b,t):=⟨_,_,_,U⟩;have jh:qG F ⟨x,y,k,d,g⟩ s B=⟨g-T.g,b,v,if b then T.s else s,if b then T.C else B⟩:=by rw[qG,zx]
 have Oa:=To (c:=⟨x,y,k,d,g⟩) hI hs hx hy hk rn rz (by show(B.length:Int)+g<=_;omega);rw[zx]at Oa;have tg0:0<=T.g:=Oa.g0;have tg1:T.g<=g:=Oa.C;clear Oa;show Ü _ _ _ _ (AU (qG F ⟨x,y,k,d,g⟩ s B) w);rw[jh];obtain⟨E,hE⟩:∃E,(⟨g-T.g,b,v,if b then T.s else s,if b then T.C else B⟩:mU)=E:=⟨_,U⟩;rw[hE];have Y:=fv hE;clear hE;let⟨i0,z0,pe,jV,mX,mS⟩:=FP Gm;have J8:z0.cells=(qp 0).toArray:=by have:=acA;rw[pe]at this;simp only[ef,mX,dT,dI]at this;rw[<-this]
 have xy:=fy.N w (gI s) 112;have k0:=fw.gP fB w (gI s).toArray 112;have wB:fy (w.alloc<|Ñ (gI s).toArray 112).heap.size (qp 0) 222 ((w.alloc<|Ñ (gI s).toArray 112).alloc<|Ñ z0.cells 222):=by rw[J8];exact fy.N _ _ _
 have k1:=fw.gP fB (w.alloc<|Ñ (gI s).toArray 112) z0.cells 222;have n9:(w.alloc<|Ñ (gI s).toArray 112).heap.size=w.heap.size+1:=fD;have rW:((w.alloc<|Ñ (gI s).toArray 112).alloc<|Ñ z0.cells 222).heap.size=w.heap.size+2:=fD;rw[n9]at wB;have acG:=xy.C k1 id;have acH:=k0.fA k1;let⟨la,lc,zE,_⟩:=id Vm;subst zE;have HI:=fv<|À pe mX;have HA:=fv<|À acG<|À wB<|À acH rW;have HL:=fv<|À Vm<|À hs zx;clear pe mX jV mS acG wB acH rW Vm hs jh xy k0 k1 n9 J8 zx;go_enter Tryz.func122,Tryz.ntmps122;go_upto_region 2 with(first|(with_reducible refine Ë U (Ã 7) U _ _ (oJ U U) ?_)|(with_reducible refine Ë U (Ã 14) U _ _ (FM U HI.oQ.1 HI.oQ.2) ?_;generalize(w.alloc<|Ñ (gI s).toArray 112).alloc (Ñ z0.cells 222)=wa at*)|(refine tg sG rK (iM _) HA.1.G ?_)|(refine Ë U (Ã 30) U _ _ (asV ⟨x,y,k,d,g⟩ U U U U U U U U (iM s) U) ?_)|(refine Ë U (Ã 31) U _ _ (oJ U U) ?_))
 have hB:=fy.N wa (gI s++vp ⟨x,y,k,d,g⟩ g (È la B.length lc) (È Å 0 0) Ç) 257;have O:=fw.gP fB wa (gI s++vp ⟨x,y,k,d,g⟩ g (È la B.length lc) (È Å 0 0) Ç).toArray 257;generalize wa.alloc (Ñ (gI s++vp ⟨x,y,k,d,g⟩ g (È la B.length lc) (È Å 0 0) Ç).toArray 257)=wb at*;have c9:=(HA.1.C O id).r (8+y) (Ï (s y).C) (by rw[vo _ Z,JU hy]);have HB:=fv<|À hB O;have l9:=((HA.1.C O id)).M;clear hB O;obtain⟨P,hP⟩:∃P,(s y).C=P:=⟨_,U⟩;rw[hP]at c9;go_wp2_with (first|(refine Ë U (Ã 37) U _ _ (acB U U) ?_)|(refine zW Gm (qp g) (mj _) (Ef g) ?_;intro w1 DF J9 sf))
 have hfb:wa.heap.size=w.heap.size+2:=HA.2.2.2;have R:RB w w1 wa.heap.size (w.heap.size+1) wb.heap.size g:=⟨(HA.2.2.1.fA HB.2).fA J9,⟨Z,Z⟩,⟨Z,by have:=HB.1.M;omega⟩,(HA.2.1.C HB.2 id).C J9 id,DF⟩;have hF0:FO wa.heap.size ⟨x,y,k,d,g⟩ ⟨[],s,B,g⟩ Ç w1 w1:=⟨⟨_,_,HB.1.C J9 id,ie.C _ _,HL.1.fH<|(HA.2.2.1.fA HB.2).fA J9⟩,fw.gy _ _⟩;have a:=HL.2.2;unfold ou at a;simp only[hP]at a;have H:=fv<|À hF0<|À HL.2.1 a;have o:=fv R;have HP:=fv (À (HL.2.1.I y) λn hn=>MY HL.2.1 y (n:=n) hn);rw[hP]at HP;have awq:=HP.1.1;have HC:=fv<|À hF<|À hI hB;generalize wa.heap.size=fb at*;generalize w.heap.size+1=rb at*;generalize wb.heap.size=xb at*;clear HA HB HL R hF0 a DF J9 sf hfb c9 l9 hF hI hB;go_loopw [18] (λi wr=>∃(Q:Nat)(t:RT)(f:Nat),i=Â Ä Q/\Q<=P.size/\FO fb ⟨x,y,k,d,g⟩ t Ç w1 wr/\mW t/\nt F ⟨x,y,k,d,g⟩ P f Q t=(v,b,T)/\t.g<f/\(t.C.length:Int)+t.g<=900000) λ_ wr=>N9 fb wr
 case atStart=>exact⟨0,⟨[],s,B,g⟩,g.toNat+1,U,eD _,H.1,⟨fD,fD,H.2.1,rn,rz,by show(B.length:Int)+g<=_;omega⟩,H.2.2,by show g<_;omega,hlen⟩
 case round=>
  clear H;obtain⟨Q,t,f,rfl,xu,S,ht,a,hf,Ti⟩:=hrel;have g0:=ht.g0;have g1:=ht.C;have Ka:=S.G;obtain⟨f,rfl⟩:∃q,f=q+1:=⟨f-1,Z⟩;by_cases Gn:Q<P.size
  .have rU:=MX Gn;go_upto_region 8 with fail;generalize((P[Q]'Gn).toNat:Int)=q at*;have ni:1<=il q:=by have:=HP.2 Q Gn;unfold mJ at this;rwa[rU]at this
   have as3:=MW q;have Tk:=Tg ni as3;rw[asY Gn rU ni]at a;let⟨_,a7⟩:=S.H;have I:=S.r;by_cases hc:t.g<(jf<|il q).1
   .rw[if_neg Z]at a;have G:=fv a;have H:=fv S;clear a S;go_quiet ((go_at_call 148;exact ê<|NV _ _));go_wp2_with (apply sw 222 U;refine Ed (o.r<|H.fH kp).1 (o.r<|H.fH kp).2 U um (by rw[qo,mj]) (by rw[mj,mj]) (Ef g) ?_ U U U U U U U U U;intro w9 p J);apply Õ (sE p um (by rw[qo,mj]) U U) U;exact o.C (H.fH kp) p J G Y<|Ă g
   obtain⟨l,Tn⟩:∃l,(jf<|il q).1=l:=⟨_,U⟩;have f7:=S.K 150;have hwu:Ä.wrap (t.g-l)=t.g-l:=by rw[ß];omega
   have CO:=NV q;rw[Tn]at CO a hc Tk;have G:=fv<|À a<|À Tn ht;have H:=fv S;clear a S rU ht;go_quiet ((go_at_call 148;exact ê<|CO _));go_upto_region 10 with fail;go_cut [19] λv wc=>v=Â ą q/\FO fb ⟨x,y,k,d,g⟩ {t with g:=t.g-l} Ç w1 wc
   case first=>
    go_region_with (go_at_call 148;refine iT (CO _) ?_)
    all_goals
     go_wp2
     go_meet
     case rel=>exact⟨U,(H.fH<|fw.iQ fB wr _).uI<|t.g-l⟩
   case rest=>
    obtain⟨rfl,hF1⟩:=hcut;have Ka:N9 fb wr=t.g.toNat:=Ka;have H:=fv hF1;clear hF1 a7 I f7;have V:=H.C;have I:=H.r;let⟨_,a7⟩:=H.H;have acI:=G.2.2.M;have a:=G.1;have TQ:Ä.wrap (g-(t.g-l))=g-(t.g-l):=by rw[ß];omega
    by_cases Kb:il q=22
    .obtain rfl:=Vl.1 Kb;rw[if_pos ⟨Z,by rw[Kb];simp[jP,jf,jx];omega⟩,if_neg A,if_neg A,if_pos Kb]at a;have u:=fv a;clear a;go_wp2_with (first|(refine Ë U (Ã 77) U _ _ (acB U U) ?_)|(refine Va 222 U ?_;refine ò U 222 _ _ U rb 0 (qp (g-(t.g-l))).toArray U U (by rw[eN,mj];exact(o.r H).2.K (by rw[mj];omega)) (by rw[qo,eN,mj]) (å (Ef _)) ?_;let⟨p,J⟩:=o.fR H (mj (g-(t.g-l)));generalize wc.setCells rb 0 (qp (g-(t.g-l)))=w9 at*))
     apply Õ (sE p um (by rw[qo,mj]) U U) U;exact o.C H p J u Y U
    by_cases Ob:il q=21
    .obtain rfl:=Vl.2.1 Ob;by_cases hz:t.r.length<1
     .rw[if_neg (by rintro⟨_,z,_⟩;have:(1:Int)<=t.r.length:=z;omega)]at a;have u:=fv a;clear a;go_wp2_with (first|(go_at_call 149;refine gl (H.Y hz) λW j=> ?_;have V:=j.C;have I:=j.r;have H:=fv j;clear j)|(refine sw 222 U ?_;refine Ed (o.r H).1 (o.r H).2 U um (by rw[qo,mj]) (by rw[mj,mj]) (Ef g) ?_ U U U U U U U U U;intro w9 p J))
      apply Õ (sE p um (by rw[qo,mj]) U U) U;exact o.C H p J u Y<|Ă g
     rw[if_pos ⟨Z,by unfold jP;show(1:Int)<=_/\(_:Int)-1+0<=32;omega⟩,if_neg A,if_pos Ob]at a;have u:=fv a;clear a;go_upto_region 19 with(go_at_call 149;refine gl (H.M acI<|Nat.not_lt.1 hz) λW j=> ?_;have V:=j.C;have I:=j.r;have H:=fv j;clear j);let⟨⟨lv,sv,hR⟩,kR⟩:=H.oQ;obtain⟨L,M,rfl,_⟩:=id hR.C;have N:=hR.fH<|fw.gM fB W;have X:=fv<|À (N.at 0 rfl)<|À (N.at 6 rfl)<|fy.Y N.r;have C:=fv<|À N<|kR.fA<|fw.gM _ _;clear hR N kR V I;refine mI (λw'=>w'.cell? ⟨fb,144,Å⟩=Ã (È L t.C.length M)/\w'.cell? ⟨fb,150,Å⟩=Ã (Â Ä<|t.g-l)/\w'.rangeAt fb 0 (gI t.s)) [16] fK ?_;generalize W.drew=w3 at*;iterate 3 apply tk X
     refine tk (v:=Ú (gI t.s).toArray) X 3 ?_ (hy:=λw h=>J5 sG rK (iM _) h.2.2);iterate 11 apply tk X
     refine tk (v:=Ú (vv t.s (È L t.C.length M) (fV t.r)<|g-(t.g-l)).toArray) X 15 ?_ (hy:=λw h=>asW gq gq gq gq gq gq U);apply np 16;intro K O;have GD:=o.M C.1 C.2 u Y U U;let⟨p,_⟩:=o.fR ⟨⟨_,_,C.1⟩,C.2⟩<|z8 t.s (È L t.C.length M) (fV t.r)<|g-(t.g-l);refine N5 (cs:=vv t.s (È L t.C.length M) (fV t.r)<|g-(t.g-l)) (by rw[z8];exact(o.r ⟨⟨_,_,C.1⟩,C.2⟩).2.K<|by rw[mj];exact eE _) (by rw[qo,z8]) (acC _ _ _ U) ?_ U U U U;apply O.out _ _ λq=>absurd fD q;clear O K;generalize w3.setCells rb 0 (vv t.s (È L t.C.length M) (fV t.r)<|g-(t.g-l))=w9 at*;have Ke:=fv<|À GD p;clear GD p;refine ma ?_;go_wp2_with fail;refine Õ (sE Ke.2 um (by rw[qo,z8]) U U) U Ke.1
    by_cases Gp:il q=17
    .obtain rfl:=Vl.2.2 Gp;have n1:=lF t.r;let⟨r0,r1⟩:=ot G.2.2.r;have jV:Ø.wrap (P.size:Int)=P.size:=sj Z Z;by_cases hz:t.r.length<2
     .rw[if_neg (by rintro⟨_,z,_⟩;have:(2:Int)<=t.r.length:=z;omega)]at a;have u:=fv a;clear a;by_cases sf:t.r.length<1;all_goals
       go_wp2_with (first|(go_at_call 149;(first|refine Ù (H.M zp zp) ?_|refine Ù (H.Y zp) ?_);rintro e W ⟨rfl,j⟩;have V:=j.C;have I:=j.r;have H:=fv j;clear j)|(refine sw 222 U ?_;refine Ed (o.r H).1 (o.r H).2 U um (by rw[qo,mj]) (by rw[mj,mj]) (Ef g) ?_ U U U U U U U U U;intro w9 p J))
       apply Õ (sE p um (by rw[qo,mj]) U U) U;exact o.C H p J u Y<|Ă g
     rw[if_pos ⟨Z,by unfold jP;show(2:Int)<=_/\(_:Int)-2+0<=32;omega⟩,if_pos Gp]at a;have tok:mW {t with r:=fU<|fU t.r,g:=t.g-l}:=⟨nW<|nW G.2.2.r,by show(fU<|fU t.r).length<=32;rw[lF];omega,G.2.2.s,by show 0<=t.g-l;omega,by show t.g-l<=_;omega,by show(t.C.length:Int)+(t.g-l)<=_;omega⟩;by_cases hp:fV (fU t.r)=0
     .rw[if_pos hp]at a;have u:=fv<|À a tok;clear a tok;go_wp2_with (go_at_call 149;refine gl (H.M zp zp) λW j=> ?_;have V:=j.C;have I:=j.r;have H:=fv j;clear j);go_roundw
      case rel=>exact⟨Q+1,_,f,by go_num,Gn,H,u.2,u.1,by show t.g-l<_;omega,by show(t.C.length:Int)+(t.g-l)<=_;omega⟩
      case measure=>
       rw[H.oQ.G,Ka];show(t.g-l).toNat<_;omega
     rw[if_neg hp]at a;have Gd:(fV (fU t.r) !=0)=Ì:=fN hp;by_cases Vo:(P.size:Int)<fV t.r
     .obtain⟨f,rfl⟩:∃r,f=r+1:=⟨f-1,Z⟩;rw[asZ Vo]at a;have u:=fv a;clear a tok;go_wp2_with (first|(go_at_call 149;refine gl (H.M zp zp) λW j=> ?_;have V:=j.C;have I:=j.r;have H:=fv j;clear j)|(refine sw 222 U ?_;refine Ed (o.r H).1 (o.r H).2 U um (by rw[qo,mj]) (by rw[mj,mj]) (Ef g) ?_ U U U U U U U U U;intro w9 p J))
      apply Õ (sE p um (by rw[qo,mj]) U U) U;exact o.C H p J u Y<|Ă g
     have hfd:=decide_eq_false Vo;obtain⟨m,hm⟩:∃m:Nat,fV t.r=m:=⟨(fV t.r).toNat,Z⟩;have hwm:Ä.wrap (m:Int)=m:=by rw[ß];omega
     rw[hm]at a Vo hfd;have u:=fv<|À a tok;clear a tok;go_wp2_with (go_at_call 149;refine gl (H.M zp zp) λW j=> ?_;have V:=j.C;have I:=j.r;have H:=fv j;clear j);go_roundw
     case rel=>exact⟨m,_,f,by go_num,Z,H,u.2,u.1,by show t.g-l<_;omega,by show(t.C.length:Int)+(t.g-l)<=_;omega⟩
     case measure=>
      rw[H.oQ.G,Ka];show(t.g-l).toNat<_;omega
    have e1:(q==102)=Ç:=by rw[beq_eq_false_iff_ne];rintro rfl;exact Kb U
    have e2:(q==114)=Ç:=by rw[beq_eq_false_iff_ne];rintro rfl;exact Ob U
    have e3:(q==106)=Ç:=by rw[beq_eq_false_iff_ne];rintro rfl;exact Gp U
    have D:=asQ F H acI G.2.2.r G.2.2.s hx hy oY hd HC.1 HC.2.1 HC.2.2 (by show 0<=t.g-l;omega) (by show t.g-l<=_;omega) (by show(t.C.length:Int)+(t.g-l)<=_;omega) q ni Z Gp;have HD:=fv D;clear D;by_cases D6:jP (il q) t.r.length
    .rw[if_pos ⟨Z,D6⟩,if_neg Gp,if_neg Ob,if_neg Kb]at a;let⟨s1,s2,s3⟩:=as1 (c:=⟨x,y,k,d,g⟩) HC.2.1 hx hy hk ni Z Gp G.2.2 (by rw[G.oQ.2.1];omega) D6;rw[G.oQ.2.1]at s1 s2 s3;have u:=fv<|À a s1;clear a s1;go_wp2_with (go_at_call 150;refine gl HD λW j=> ?_;replace j:=(j.resolve_right λz=>z.1 D6).2;have V:=j.C;have I:=j.r;have H:=fv j;clear j);go_roundw
     case rel=>exact⟨Q+1,_,f,by go_num,Gn,H,u.2,u.1,Z,Z⟩
     case measure=>
      rw[H.oQ.G,Ka];omega
    .rw[if_neg λz=>D6 z.2]at a;have u:=fv a;clear a;go_wp2_with (first|(go_at_call 150;refine gl HD λW j=> ?_;let⟨t2,j⟩:=(j.resolve_left λz=>D6 z.1).2;have V:=j.C;have I:=j.r;have H:=fv j;clear j)|(refine sw 222 U ?_;refine Ed (o.r H).1 (o.r H).2 U um (by rw[qo,mj]) (by rw[mj,mj]) (Ef g) ?_ U U U U U U U U U;intro w9 p J))
     apply Õ (sE p um (by rw[qo,mj]) U U) U;exact o.C H p J u Y<|Ă g
  .obtain rfl:Q=P.size:=Z;rw[as0]at a;have TQ:Ä.wrap (g-t.g)=g-t.g:=by rw[ß];omega
   have u:=fv a;have H:=fv S;clear a S ht;go_upto_region 29 with fail;let⟨⟨lv,sv,hR⟩,kR⟩:=H.oQ;obtain⟨L,M,rfl,_⟩:=id hR.C;have N:=hR.fH<|fw.gM fB wr;have X:=fv<|À (N.at 0 rfl)<|À (N.at 6 rfl)<|fy.Y N.r;have C:=fv<|À N<|kR.fA<|fw.gM _ _;clear hR N kR;refine mI (λw'=>w'.cell? ⟨fb,144,Å⟩=Ã (È L t.C.length M)/\w'.cell? ⟨fb,150,Å⟩=Ã (Â Ä t.g)/\w'.rangeAt fb 0 (gI t.s)) [15] fK ?_;generalize wr.drew=w3 at*;iterate 3 apply tk X
   refine tk (v:=Ú (gI t.s).toArray) X 3 ?_ (hy:=λw h=>J5 sG rK (iM _) h.2.2);iterate 10 apply tk X
   refine tk (v:=Ú (vv t.s (È L t.C.length M) 0<|g-t.g).toArray) X 14 ?_ (hy:=λw h=>asX gq gq gq gq gq U);apply np 15;intro K O;have GD:=o.M C.1 C.2 u Y U U;let⟨p,_⟩:=o.fR ⟨⟨_,_,C.1⟩,C.2⟩<|z8 t.s (È L t.C.length M) 0<|g-t.g;refine N5 (cs:=vv t.s (È L t.C.length M) 0<|g-t.g) (by rw[z8];exact(o.r ⟨⟨_,_,C.1⟩,C.2⟩).2.K<|by rw[mj];exact eE _) (by rw[qo,z8]) (acC _ _ _ U) ?_ U U U U;apply O.out _ _ λq=>absurd fD q;clear O K;generalize w3.setCells rb 0 (vv t.s (È L t.C.length M) 0<|g-t.g)=w9 at*;have Ke:=fv<|À GD p;clear GD p;refine ma ?_;go_wp2_with fail;refine Õ (sE Ke.2 um (by rw[qo,z8]) U U) U Ke.1
def acJ:∀n,n<=3->B4 (sk<|n+1) (4-(n:Int))|0,_=>acE (F:=sk 0) A A (λh=>absurd h A) (DG 0)<|N8 0|n+1,h=>acE (F:=sk<|n+1) Z Z (λ_=>by rw[show(4:Int)-((n+1:Nat):Int)+1=4-(n:Int) by omega];exact acJ n Z) (DG<|n+1)<|N8<|n+1
def Vp:B4 gS 1:=acJ 3 A
def as4:((Á.info? 116).bind (·.zero)).map (λz=>z.cells.toList.drop 144)=Ã [Â Ä 0,È Å 0 0,È Å 0 0,È Å 0 0]:=fK
def as5:((Á.info? 116).bind (·.zero)).map (λz=>z.cells.size)=Ã 148:=fK
def acK:Bx Á 116=Ã [(0,144),(144,1),(145,1),(146,1),(147,1)]:=fK
def Kf:(Á.info? 116).map (λi=>(i.size,i.zero.map (·.cells.size)))=Ã (148,Ã 148):=fK
def Aa:(Á.info? 116).map (·.size)=Ã 148:=fK
def Ab:(Á.underlying 116).map â=Ã Ì:=fK
theorem as6(h:l.length=144)(a:v.cells=#[v]):Á.built 116 [(0,Ú l.toArray),(1,v)]=Ã (l++[v,È Å 0 0,È Å 0 0,È Å 0 0]).toArray:=by let⟨z,g,c,d,f⟩:=Ji as4 as5 A;rw[DJ acK c,f];have b:=zy (place:=λi=>[(0,144),(144,1),(145,1),(146,1),(147,1)].toArray[i]?) (pre:=[]) (suf:=[Â Ä 0,È Å 0 0,È Å 0 0,È Å 0 0]) (i:=0) (v:=Ú l.toArray) (rest:=[(1,v)]) U (by show l.toArray.size=144;simp[h]) d;simp only[ec]at b;rw[b];have e:(Ú l.toArray).cells.toList=l:=rfl;rw[e];rw[show(l++[Â Ä 0,È Å 0 0,È Å 0 0,È Å 0 0])=l++[Â Ä 0]++[È Å 0 0,È Å 0 0,È Å 0 0] by simp,(zy (place:=λi=>[(0,144),(144,1),(145,1),(146,1),(147,1)].toArray[i]?) (old:=[Â Ä 0]) (suf:=[È Å 0 0,È Å 0 0,È Å 0 0]) (i:=1) (rest:=[]) (by show Ã (144,1)=Ã (l.length,1);rw[h]) (by rw[a];rfl) U)];simp[Instr.fill,a]
theorem as7{y:ð}(a:o.op=.build 116 #[(0,qQ),(1,y)])(b:xX qQ=Ú l.toArray)(c:xX y=v)(d:l.length=144)(e:v.cells=#[v]):(ì xX o).run Á w=.ok (č<|Ú (l++[v,È Å 0 0,È Å 0 0,È Å 0 0]).toArray) w:=by apply zz a;grind [as6]
def Oc{p:VR}(b:p.2.1.oneCell'=Ì)(c:p.2.2.1.oneCell'=Ì)(d:p.2.2.2.oneCell'=Ì):∀v∈gU p,v.oneCell'=Ì:=λv a=>by obtain q|q:=dx.1 a;exact J6 _ v q;simp at q;obtain rfl|rfl|rfl|rfl:=q;rfl;all_goals assumption
def acM{t u:Tmp}{vs:List Ê}(a:fy i vs T w)(b:(Á.underlying T).map â=Ã Ì)(c:(Á.info? T).map (·.size)=Ã vs.length)(h:s.results=#[.cell t T,.tmp u])(e:d.getD t Ň=Æ (Ã ⟨i,0,Å⟩)):(results s d).run Á w=.ok (Þ #[Ú vs.toArray,d.getD u Ň]) w:=by let⟨j,f,g⟩:=Ð.1 b;exact DI h e a.G f g c
def acN{base:Nat}(h:w.ownsRow base T i v n l):v.oneCell'=Ì:=by obtain⟨a,c,rfl⟩:=jj h;rfl
def BK.Y{b:List (Int×Bool)}{q:VR}(h:BK u i bJ b q w):∀v∈gU q,v.oneCell'=Ì:=Oc (by let⟨a,c,e,_⟩:=h.M;rw[e];rfl) (acN h.I)<|acN h.C
structure BL(w0:Ô)(nb rb m:Nat)(p:VR)(ts:List PT)(zc:List Ê)(j:Nat)(q:VR)(w:Ô):Prop where
 r:BK w0 nb q.1.r q.1.r q w
 I:fy rb zc 116 w
 M:ic q.1.s
 h:q.1.h=p.1.h+1
 us:q.1.r.length=j
 ll:(q.1.C.length:Int)<=400*j
 N:va m p.1.s [] [] (ts.map toTx)=va m q.1.s q.1.C q.1.r ((ts.drop j).map toTx)
 C:nb≠rb/\w0.heap.size<=rb
def acO:∀(a:List PT)(j i:Nat)(t:PT)(u:Ê),a[j]?=Ã t->(zZ t)[i]?=Ã u->(p9 a)[j*6+i]?=Ã u
 |[],j,i,t,u,h,_=>by cases h
 |q::r,0,i,t,u,h,hx=>by cases h;rwa[bR,dQ,p9,eL,eR (eP.1 hx).1]
 |q::r,j+1,i,t,u,h,hx=>by have b:(zZ q).length=6:=U;rw[p9,eL,eT (by rw[b];omega),b,show(j+1)*6+i-6=j*6+i by omega];exact acO r j i t u h hx
def Vq{zc:List Ê}(h:fy j zc T w)(a:fy n l T w)(b:my T=Ç)(c:n≠j)(i:Nat)(x:Ê):fy j zc T (w.setCell ⟨n,i,Å⟩ x):=h.C (fw.I (X:=λk=>k=n) (p:=⟨n,i,Å⟩) U x<|Ó<|a.S b) λe=>c e.symm
structure BT(w0:Ô)(nb rb tb:Nat)(u1 u2:List (Int×Bool))(q:VR)(zc C:List Ê)(w:Ô):Prop where
 r:BK w0 nb u1 u2 q w
 I:fy rb zc 116 w
 C:fy tb C 253 w
 M:nb≠rb
def BT.fH{a:List (Int×Bool)}{w':Ô}{rb tb:Nat}{q:VR}{zc:List Ê}(h:BT u i rb tb bJ a q zc l w)(k:fw fB w w'):BT u i rb tb bJ a q zc l w':=⟨h.r.fH k,h.I.C k id,h.C.C k id,h.M⟩
def BT.Y{a:List (Int×Bool)}{tb:Nat}{q b:VR}{zc:List Ê}(h:BT u n j tb bJ a q zc l w)(k:BK u n bJ a b (w.setCell ⟨n,i,Å⟩ x)):BT u n j tb bJ a b zc l (w.setCell ⟨n,i,Å⟩ x):=⟨k,Vq h.I h.r.r U h.M i x,h.C.C (fw.I (X:=λk=>k=n) (p:=⟨n,i,Å⟩) U x<|Ó h.r.r.S) λe=>fy.H h.C h.r.r A e,h.M⟩
def BT.fC{a:List (Int×Bool)}{rb tb:Nat}{v:gf}{lv:Ê}{zc:List Ê}(h:BT u n rb tb bJ a (v,lv,z,jQ) zc l w)(b:i<8)(x:Int):BT u n rb tb bJ a ({v with s:=v.s.fC i x},lv,z,jQ) zc l (w.setCell ⟨n,i,Å⟩<|Â Ø x):=h.Y<|h.r.fC b x
def BT.at{a:List (Int×Bool)}{w0:Ô}{rb tb:Nat}{v:gf}{lv:Ê}{zc:List Ê}(h:BT w0 n rb tb bJ a (v,lv,x,z) zc l w)(b:i<8):w.cell? ⟨n,i,Å⟩=Ã (Â Ø (v.s i).fC)/\w.frozen? ⟨n,i,Å⟩=Ç:=⟨by rw[h.r.at Z,D8 b],h.r.r.I i⟩
def BT.U5{c:List (Int×Bool)}{w':Ô}{tb:Nat}{v:gf}{a:Ê}{zc:List Ê}{e:Int×Bool}(h:BT u i n tb bJ c (v,x,z,jQ) zc l w)(k:nU w u.heap.size 4 1 z bJ.length (wZ bJ) 1 [Û e.2] a w'):(w'.cell? ⟨i,146,Å⟩=Ã z/\w'.frozen? ⟨i,146,Å⟩=Ç)/\BT u i n tb (bJ++[e]) c (v,x,a,jQ) zc l (w'.setCell ⟨i,146,Å⟩ a):=by have b:=h.r.r.C k.r<|iG h.r.I h.r.r A;have d:=fw.I (X:=λk=>k=i) (p:=⟨i,146,Å⟩) U a<|Ó b.S;exact⟨⟨b.r _ _<|tf 2 U,b.I _⟩,h.r.U5 k,(h.I.C k.r<|iG h.r.I h.I A).C d λe=>h.M e.symm,(h.C.C k.r<|iG h.r.I h.C A).C d λe=>fy.H h.C h.r.r A e,h.M⟩
def BT.U6{a:List (Int×Bool)}{w':Ô}{tb:Nat}{v:gf}{b:Ê}{zc:List Ê}{e:Int×Bool}(h:BT u i n tb bJ a (v,x,z,jQ) zc l w)(k:nU w u.heap.size 3 1 jQ a.length (wY a) 1 [Â Ä e.1] b w'):(w'.cell? ⟨i,147,Å⟩=Ã jQ/\w'.frozen? ⟨i,147,Å⟩=Ç)/\BT u i n tb bJ (a++[e]) (v,x,z,b) zc l (w'.setCell ⟨i,147,Å⟩ b):=by have c:=h.r.r.C k.r<|iG h.r.C h.r.r A;have d:=fw.I (X:=λk=>k=i) (p:=⟨i,147,Å⟩) U b<|Ó c.S;exact⟨⟨c.r _ _<|tf 3 U,c.I _⟩,h.r.U6 k,(h.I.C k.r<|iG h.r.C h.I A).C d λe=>h.M e.symm,(h.C.C k.r<|iG h.r.C h.C A).C d λe=>fy.H h.C h.r.r A e,h.M⟩
def as8:(Á.info? 4).map iF=Ã (Ã<|Û Ç,1,1):=fK
def as9:(Á.info? 3).map iF=Ã (Ã<|Â Ä 0,1,8):=fK
structure Dn(s:St)(ls:List (Nat×Int))(x:Nat)(t:Tx)(s1:St)(wK:List (Nat×Int))(g:Int)(b:Bool):Prop where
 eq:nX s ls t=((g,b),Ì,s1.fC x<|wu<|(s1 x).fC-g,wK)
 ata:ic s1
 Vb:0<=g/\g<=1000
 ll:(wK.length:Int)<=ls.length+400
abbrev Ac(kd:Int):Int:=if kd=1 then 62 else if kd=2 then 123 else 58
theorem atb{s:St}{n kd:Int}{pr:ByteArray}(h:¬(nX s gJ ⟨i,j,n,c,kd,pr⟩).2.1=Ì):Ac kd=62/\(s i).fC<n+10\/Ac kd=123/\(s i).fC<20\/Ac kd=58/\n<10\/Ac kd=58/\¬n<10/\400<n\/Ac kd=58/\¬n<10/\¬400<n/\(s i).fC<n:=by unfold nX uY uZ x8 at h;unfold Ac;grind
theorem atc{s:St}{n kd:Int}{pr:ByteArray}(h:(nX s gJ ⟨i,j,n,c,kd,pr⟩).2.1=Ì):kd=1/\n+10<=(s i).fC\/kd=2/\20<=(s i).fC\/¬kd=1/\¬kd=2/\10<=n/\n<=400/\n<=(s i).fC:=by unfold nX uY uZ x8 at h;grind
def atd{s:St}{n:Int}{pr:ByteArray}(a:ic s)(b:0<=n)(h:n+10<=(s i).fC):Dn s gJ i ⟨i,j,n,c,1,pr⟩ ((s.fC i<|(s i).fC-n).fC j<|wu<|(s.fC i ((s i).fC-n) j).fC+n) gJ 10 Ì:=by refine⟨?_,(a.r i ⟨Z,by have:=(a.fC i).2;omega⟩).r j<|uW _,A,Z⟩;rw[asE a b h];simp[nX,uY,Ċ.2 h]
def ate{s:St}{n:Int}{pr:ByteArray}(b:ic s)(d:pr.size<=40/\∀a∈pr.data.toList,xW a=Ì)(h:20<=(s i).fC):Dn s gJ i ⟨i,j,n,c,2,pr⟩ (s.r i pr) gJ 20 Ì:=by refine⟨?_,b.fR (b.fC i) (b.C i) d,A,Z⟩;rw[asF b h];simp[nX,uZ,Ċ.2 h]
def atf{s:St}{n kd:Int}{pr:ByteArray}{E:mU}(d:ic s)(l:i<8)(m:b<8)(o:gL h)(p:¬kd=1)(r:¬kd=2)(w:10<=n)(B:n<=400)(C:n<=(s i).fC)(D:(gJ.length:Int)<=10000)(g:gS (s.fC i<|(s i).fC-n) gJ i b (n-10) h=E): S9 gJ (n-10) E/\(E.C=Ì->Dn s gJ i ⟨i,b,n,h,kd,pr⟩ (E.s.fC i<|wu<|(E.s i).fC+n) E.I (10+E.r) Ì)/\(E.C=Ç->Dn s gJ i ⟨i,b,n,h,kd,pr⟩ s gJ (10+E.r) Ç):=by
 let⟨F,G⟩:=d.fC i;have t:ic (s.fC i<|(s i).fC-n):=d.r i ⟨Z,Z⟩;have a:=FQ _ gJ i b (n-10) h t l m o Z Z Z;have f:=N8 4 (s.fC i<|(s i).fC-n) gJ i b (n-10) h;change(gS _ _ _ _ _ _).C=Ç->_/\(gS _ _ _ _ _ _).s=_/\(gS _ _ _ _ _ _).I=_ at f;rw[g]at a f;have H:=a.C;have I:=a.r;have J:=a.I;have e:nX s gJ ⟨i,b,n,h,kd,pr⟩=((E.r+10,E.C),Ì,E.s.fC i<|wu<|(E.s i).fC+(n-(E.r+10)),E.I):=by unfold nX x8;simp only[p,r,if_false];rw[if_neg Z,g]
 refine⟨a,λq=>⟨?_,a.N.r i<|uW _,⟨Z,Z⟩,Z⟩,λq=>⟨?_,d,⟨Z,Z⟩,Z⟩⟩;rw[e,q,ľ 10];apply congrArg λz=>((E.r+10,Ì),Ì,z,E.I);funext j;unfold St.fC St.fR;by_cases c:j=i;subst c;simp only[if_true,MP];congr 1;omega;simp[c];let⟨_,u,v⟩:=f q;rw[e,q,u,v,ľ 10];apply congrArg λz=>((E.r+10,Ç),Ì,z,gJ);funext j;unfold St.fC St.fR;by_cases c:j=i;subst c;simp only[if_true,MP];congr 1;omega;simp[c]
def BK.us{a z:List (Int×Bool)}{v:gf}{b:Ê}(h:BK u i bJ a (v,x,jQ,b) w):BK u i bJ a ({v with r:=z},x,jQ,b) w:=⟨h.r,h.M,h.I,h.C,h.kp,h.N⟩
def BK.mv{e:List (Int×Bool)}{v c:gf}{d:Ê}(h:BK u i bJ e (v,x,jQ,d) w)(k:fw (λa=>a=i) w W)(f:fy i (gU (c,z,jQ,d)) 116 W)(g:ie 229 z c.C.length (je c.C) w):BK u i bJ e (c,z,jQ,d) W:=⟨f,g.r k h.r,ia h.I k λj q b=>iG h.I h.r A<|b▸q,ia h.C k λj q b=>iG h.C h.r A<|b▸q,h.kp.C k λj l q=>by have:=h.N;omega,h.N⟩
def BT.S{d:List (Int×Bool)}{tb:Nat}{v b:gf}{c:Ê}{zc:List Ê}(h:BT u i n tb bJ d (v,x,jQ,c) zc l w)(k:fw (λa=>a=i) w W)(f:fy i (gU (b,z,jQ,c)) 116 W)(g:ie 229 z b.C.length (je b.C) w):BT u i n tb bJ d (b,z,jQ,c) zc l W:=⟨h.r.mv k f g,h.I.C k λe=>h.M e.symm,h.C.C k λe=>fy.H h.C h.r.r A e,h.M⟩
def BT.Vd{a:List (Int×Bool)}{tb:Nat}{v:gf}{lv:Ê}{zc:List Ê}(h:BT u i n tb bJ a (v,lv,x,z) zc l w)(s:St):BT u i n tb bJ a ({v with s:=s},lv,x,z) zc l (w.setCells i 0<|gI s):=h.S (uX (gI s) 0 w h.r.r.S) (x7 (T:=116) (gI s) [] _ w (gI v.s) (by rw[iM,iM]) h.r.r) h.r.M
def BT.wE{b:List (Int×Bool)}{tb:Nat}{v:gf}{a:Ê}{zc:List Ê}(h:BT u i n tb bJ b (v,x,jQ,a) zc l w)(c:ie 229 z gJ.length (je gJ) w):BT u i n tb bJ b ({v with C:=gJ},z,jQ,a) zc l (w.setCell ⟨i,145,Å⟩ z):=by refine h.S (fw.I (X:=λk=>k=i) (p:=⟨i,145,Å⟩) U z<|Ó h.r.r.S) ?_ c;have:=h.r.r.fR 145 z;rwa[show(gU (v,x,jQ,a)).set 145 z=gU ({v with C:=gJ},z,jQ,a) by show(gI v.s++_).set 145 _=gI v.s++_;rw[eF _ _ (by rw[iM];omega),iM];rfl]at this
def BT.cp{d:List (Int×Bool)}{w':Ô}{tb:Nat}{q:VR}{zc cs:List Ê}(h:BT u i n tb bJ d q zc l w)(c:fy j cs 112 w)(e:u.heap.size<=j)(k:fw (λa=>a=j) w w'):BT u i n tb bJ d q zc l w':=⟨⟨h.r.r.C k<|fy.H h.r.r c A,h.r.M.r k c,ia h.r.I k λb q z=>iG h.r.I c A<|z▸q,ia h.r.C k λb q z=>iG h.r.C c A<|z▸q,h.r.kp.C k λb f q=>by omega,h.r.N⟩,h.I.C k<|fy.H h.I c A,h.C.C k<|fy.H h.C c A,h.M⟩
def atg:(Á.info? 112).map (λi=>(i.size,i.zero.map (·.cells.size)))=Ã (144,Ã 144):=fK
def BT.N{a:List (Int×Bool)}{tb:Nat}{v:gf}{b:Ê}{zc:List Ê}(h:BT u n j tb bJ a (v,z,jQ,b) zc l w)(c:i<8)(x:Int):BT u n j tb bJ a ({v with s:=v.s.fC i (wu x)},z,jQ,b) zc l (w.setCell ⟨n,i,Å⟩<|Â Ø<|Ø.wrap x):=h.fC c<|wu x
section
variable{w':Ô}{p:VR}
def ath(hs:ic p.1.s)(hh:0<=p.1.h/\p.1.h<=40)(hm:m<8){f:List PT}(ht:ie 253 jQ f.length (p9 f) w)(M:∀t∈f,me.mW t)(hn:f.length<=8):Ü Á 121 #[Ú (gU p).toArray,Â Ä m,jQ] w λe w'=>∃q:VR,e=É (Þ #[Ú (gU q).toArray,Û (o9 m p.1.s<|f.map toTx).isSome])/\fw fB w w'/\(∀v∈gU q,v.oneCell'=Ì)/\∀r,o9 m p.1.s (f.map toTx)=Ã r->q.1=⟨r.1,r.2.1,r.2.2,p.1.h+1⟩/\xa q w':=by
 let⟨i0,O,pe,jV,mX,mS⟩:=FP Kf;let⟨d0,hu0,oY⟩:=Ð.1 sG;have V:=fy.N w (gU p) 116;have k0:=fw.gP fB w (gU p).toArray 116;have Jg:fy (w.alloc<|Ñ (gU p).toArray 116).heap.size O.cells.toList 116 ((w.alloc<|Ñ (gU p).toArray 116).alloc<|Ñ O.cells 116):=by have:=fy.N (w.alloc<|Ñ (gU p).toArray 116) O.cells.toList 116;simpa using this
 have k1:=fw.gP fB (w.alloc<|Ñ (gU p).toArray 116) O.cells 116;have n9:(w.alloc<|Ñ (gU p).toArray 116).heap.size=w.heap.size+1:=fD;rw[n9]at Jg;have ati:=(V.C k1 id).r 144 _<|tf 0 U;have qh:((w.alloc<|Ñ (gU p).toArray 116).alloc<|Ñ O.cells 116).rangeAt w.heap.size 0 (gI p.1.s):=fy.Y<|V.C k1 id;have W:=fv<|À (k0.fA k1)<|À Jg<|À qh<|À pe<|À jV<|À mX<|À mS<|À hu0 oY;have HT:=fv<|À ht<|À M hs;clear pe jV mX mS hu0 oY V k0 Jg k1 n9 qh ht M hs;obtain⟨tp,tcp,htv⟩:∃tp tcp,jQ=È tp f.length tcp:=by let⟨a,b,e,_⟩:=HT.1;exact⟨a,b,e⟩
 subst htv;go_enter Tryz.func121,Tryz.ntmps121;go_wp2_with (first|(with_reducible refine Ë U (Ã 3) U _ _ (oJ U U) ?_)|(with_reducible refine Ë U (Ã 6) U _ _ (FM U W.oQ.2.2.2.1 W.oQ.2.2.2.2.2.1) ?_;generalize(w.alloc<|Ñ (gU p).toArray 116).alloc (Ñ O.cells 116)=wa at*)|(refine tg sG rK (iM _) W.2.2.1 ?_)|(with_reducible refine Ë U (Ã 21) U _ _ (as7 U U U (iM _) U) ?_)|(refine zW Kf (gU (⟨p.1.s,[],[],p.1.h+1⟩,È Å 0 0,È Å 0 0,È Å 0 0)) (pY _ _ _ _) (Oc U U U) ?_;intro w1 IL ni sf))
 have L:BL w wa.heap.size (w.heap.size+1) m p f O.cells.toList 0 (⟨p.1.s,[],[],p.1.h+1⟩,È Å 0 0,È Å 0 0,È Å 0 0) w1:=⟨⟨IL,ie.C _ _,ã _ _ _ _,ã _ _ _ _,W.1.fA ni,W.1.M⟩,W.2.1.C ni id,HT.2.2,U,U,fD,by rw[List.drop_zero],by have:=W.2.1.M;omega,Z⟩;have hzl:O.cells.toList.length=148:=by rw[dU,W.oQ.2.2.2.2.2.2.1]
 have H:=fv<|À L hzl;clear L hzl IL ni sf ati;generalize wa.heap.size=nb at*;generalize w.heap.size+1=rb at*;generalize O.cells.toList=zc at*;obtain⟨N,hN⟩:∃N,f.length=N:=⟨_,U⟩;rw[hN]at hn;simp only[hN];have HN:=fv hN;clear hN;have HZ:=fv<|H.2;go_loopw [9] (λi wr=>∃(j:Nat)(q:VR),j<=N/\i=Â Ä j/\BL w nb rb m p f zc j q wr) λi _=>N-(ó i).toNat
 case atStart=>exact⟨0,_,eD _,U,H.1⟩
 case round=>
  clear H;obtain⟨j,q,hj,rfl,hL⟩:=hrel;have H:=fv hL;clear hL;by_cases iu:j<N
  .let⟨v,lv,wv,gv⟩:=q;obtain⟨⟨c,pr⟩,Kg⟩:∃t,f[j]?=Ã t:=⟨_,fe<|by rwa[HN.oQ]⟩;have Gq:=HT.2.1 _<|eU Kg;have o0:=Gq.c.r 0 A;have o1:=Gq.c.r 1 A;have o2:=Gq.c.r 2 A;have o3:=Gq.c.r 3 A;simp only[mC]at o0 o1 o2 o3;have wI:(f.drop j).map toTx=toTx ⟨c,pr⟩::(f.drop<|j+1).map toTx:=by
    rw[è (eP.1 Kg).1,(eP.1 Kg).2];rfl
   have P:=H.N;rw[wI]at P;have CH:∀i u,(zZ ⟨c,pr⟩)[i]?=Ã u->∃b o,tp=Ã ⟨b,o,Å⟩/\wr.cell? ⟨b,o+j*6+i,Å⟩=Ã u:=λi u hu=>by let⟨_,_,e,_,hc⟩:=HT.1.fH H.r.kp;cases e;let⟨b,o,h1,_,h2⟩:=hc (j*6+i) u<|acO f j i ⟨c,pr⟩ u Kg hu;exact⟨b,o,h1,by rwa[c8]⟩
   obtain⟨b,o,rfl,t0⟩:=CH 0 _ U;have tc:∀i u,(zZ ⟨c,pr⟩)[i]?=Ã u->wr.cell? ⟨b,o+j*6+i,Å⟩=Ã u:=λi u hu=>by let⟨b',o',e,h⟩:=CH i u hu;cases e;exact h
   have t1:=tc 1 _ U;have t2:=tc 2 _ U;have t3:=tc 3 _ U;have t4:=tc 4 _ U;have t5:=tc 5 _ U;rw[dm]at t0;simp only at t0 t1 t2 t3 t4 t5;have zK:toTx ⟨c,pr⟩=⟨(c.getD 0 0).toNat,(c.getD 1 0).toNat,c.getD 2 0,c.getD 3 0,c.getD 4 0,pr⟩:=U;rw[zK]at P;obtain⟨x,hx⟩:∃x:Nat,c.getD 0 0=x:=⟨(c.getD 0 0).toNat,Z⟩;obtain⟨y,hy⟩:∃y:Nat,c.getD 1 0=y:=⟨(c.getD 1 0).toNat,Z⟩;obtain⟨n,x6⟩:∃n:Nat,c.getD 2 0=n:=⟨(c.getD 2 0).toNat,Z⟩;obtain⟨k,sN⟩:∃k:Nat,c.getD 3 0=k:=⟨(c.getD 3 0).toNat,Z⟩;rw[hx]at o0 t1 P;rw[hy]at o1 t2 P;rw[x6]at o2 t3 P;rw[sN]at o3 t4 P;simp only[dO]at P;generalize c.getD 4 0=kd at*;have hp5:=Gq.p;have HG:=fv<|À P hp5;clear P hp5 CH tc wI zK hx hy x6 sN Gq Kg;have l:x<8:=Z;have B:=H.r.at (show x<144 by omega);rw[D8 l]at B;let⟨q0,q1⟩:=H.M.fC x;have l1:=H.r.r.M;have f1:=H.r.r.I x;obtain⟨kb,Y⟩:∃z:Int,Ac kd=z:=⟨_,U⟩;change _=Ã (Â ą<|Ac kd)at t0;rw[Y]at t0;obtain⟨C,Q⟩:∃C,(v.s x).fC=C:=⟨_,U⟩;rw[Q]at B q0 q1;go_upto_block 2 with fail;have D:=BT.mk (H.r.fH<|kp (w':=wr.alloc<|Ñ #[Â ą kb,Â Ä x,Â Ä y,Â Ä n,Â Ä k,Ï pr] 253)) (H.I.C (kp (X:=fB)) id) (fy.N wr [Â ą kb,Â Ä x,Â Ä y,Â Ä n,Â Ä k,Ï pr] 253) H.C.1;have g:=fv<|À H.M<|À H.C<|À H.h<|À H.us H.ll;clear H B t0 t1 t2 t3 t4 t5 l1 f1;generalize wr.alloc (Ñ #[Â ą kb,Â Ä x,Â Ä y,Â Ä n,Â Ä k,Ï pr] 253)=wt at*;generalize wr.heap.size=tb at*;have J:=D.C.r 1 _ U;have e2:=D.C.r 2 _ U;have S:=D.C.r 3 _ U;have e4:=D.C.r 4 _ U;have e5:=D.C.r 5 _ U;let⟨B,f1⟩:=D.at l;rw[Q]at B;have H:=fv D;clear D;by_cases M:(nX v.s v.C ⟨x,y,n,k,kd,pr⟩).2.1=Ì
   .go_cut [12,13] λwl gs wc=>∃s1 wK se d B,wl=Û B/\gs=Â Ä d/\Dn v.s v.C x ⟨x,y,n,k,kd,pr⟩ s1 wK d B/\BT w nb rb tb v.r v.r (⟨s1,wK,v.r,v.h⟩,se,wv,gv) zc [Â ą kb,Â Ä x,Â Ä y,Â Ä n,Â Ä k,Ï pr] wc
    case first=>
     have FX:Ø.wrap ((n:Int)+10)=(n:Int)+10:=sj Z Z;have Dz:Ø.wrap (n:Int)=(n:Int):=sj Z Z;have acP:=atc M;rw[Q]at acP;clear M;have Od:y<8:=Z;obtain⟨rfl,xc⟩|⟨rfl,xc⟩|⟨ni,sN,M5,Jf,xc⟩:=acP
     .obtain rfl:62=kb:=Y;have uQ:=decide_eq_false<|Ċ.2 xc;have F:=fv<|(H.fC l<|C-n).fH<|fw.gM fB _;go_wp2;go_region;clear B f1 J e2 S e4 e5;generalize(wt.setCell ⟨nb,x,Å⟩<|Â Ø<|C-n).drew=wu1 at*;as_aux_lemma=>
       have e2:=F.C.r 2 _ U;have S:=F.C.r 3 _ U;let⟨b2,f2⟩:=F.at Od;obtain⟨by1,pP⟩:∃z,(v.s.fC x (C-n) y).fC=z:=⟨_,U⟩;simp only[pP]at b2;have H2:=fv<|(F.N Od<|by1+n).fH<|fw.gM fB _;go_wp2;go_region;go_wp2;go_meet
       case rel=>
        subst pP Q;exact⟨_,_,_,_,_,U,U,atd g.1 (cu n) xc,H2⟩
     .obtain rfl:123=kb:=Y;have uQ:=decide_eq_false<|Ċ.2 xc;have b5:=H.r.at (show 8+x<144 by omega);rw[JU l]at b5;have f5:=H.r.r.I<|8+x;go_wp2;go_meet
      case rel=>exact⟨_,_,_,_,_,U,U,ate g.1 HG.2 Z,H.Y<|H.r.FH l pr⟩
     .obtain rfl:58=kb:=by rw[<-Y];simp[Ac,ni,sN]
      have uQ:=decide_eq_false (show¬(n:Int)<10 by omega);have ry:=decide_eq_false (show¬400<(n:Int) by omega);have wz:=decide_eq_false (show¬C<n by omega);have hll:=g.2.2.2.2;simp only at hll;obtain⟨E,K⟩:∃E,gS (v.s.fC x<|(v.s x).fC-n) v.C x y (n-10) k=E:=⟨_,U⟩;let⟨Vr,acQ,acR⟩:=atf (pr:=pr) g.1 l Od ⟨Z,Z⟩ ni sN M5 Jf (by rwa[Q]) Z K;have R:=Vp (v.s.fC x<|C-n) lv v.C x y (n-10) k;rw[Q]at K;rw[K]at R;have u0:=Vr.C;have u1:=Vr.r;have xl:ic (v.s.fC x<|C-n):=g.1.r x ⟨Z,Z⟩;obtain⟨la,lc,zE⟩:∃la lc,lv=È la v.C.length lc:=by let⟨a,c,e,_⟩:=H.r.M;exact⟨a,c,e⟩
      subst zE;have HR:=fv<|À R<|À acQ<|À acR xl;clear R acQ acR xl K Vr Y;go_upto_region 13 with(first|(refine tg sG rK (iM _) (fy.Y H.r.r) ?_)|(refine zW atg (gI v.s) (iM _) (J6 _) ?_;intro wq hQ kQ zQ))
      clear B f1 J e2 S e4 e5 zQ;have Uw:w.heap.size<=wt.heap.size:=H.r.kp.M;generalize wt.heap.size=cb at*;have D:=H.fH kQ;have J:=D.C.r 1 _ U;have S:=D.C.r 3 _ U;have b2:=hQ.r x (Â Ø C) (by rw[vo _ Z,D8 l,Q]);have f2:=hQ.I x;have l2:=hQ.M;have F:=fv ((D.cp hQ Uw<|fw.I (X:=λk=>k=cb) (p:=⟨cb,x,Å⟩) U (Â Ø<|C-n)<|Ó hQ.S).fH<|fw.gM fB _);have hS:=(hQ.fR x<|Â Ø<|C-n).C (fw.gM fB _) id;rw[J4 v.s l]at hS;have HS:=fv hS;clear D hQ kQ hS;go_wp2;go_region;clear J S b2 f2 l2 H;generalize(wq.setCell ⟨cb,x,Å⟩<|Â Ø<|C-n).drew=ws at*;as_aux_lemma=>
       have J:=F.C.r 1 _ U;have e2:=F.C.r 2 _ U;have S:=F.C.r 3 _ U;have e4:=F.C.r 4 _ U;have c5:=F.r.S.2.1;have H0:Ø.wrap (k:Int)=k:=sj Z Z;go_upto_region 15 with(first|(refine tg sG rK (iM _) HS.G ?_)|(go_at_call 122;apply Ù (HR.1 ws F.r.M HR.2.2.2 l Od Z Z ⟨Z,Z⟩ Z);rintro e w4 ⟨pE,nE,cE,rfl,k4,hr4⟩)|(refine zW Gm (oO E (È pE nE cE)) (yp _ _) (Ee _ U) ?_;intro w5 G k5 z5))
       have d:=G.r 145 _<|B5 1 U;have g3:=G.r 147 _<|B5 3 U;have D:=(F.fH k4).fH k5;generalize w4.heap.size=eb at*;clear J e2 S e4 c5 z5;cases hw:E.C
       .rw[hw]at d;have I:=fv D;clear D G k4 k5 hr4;go_wp2;go_meet
        case rel=>exact⟨_,_,_,_,_,U,U,HR.2.2.1 hw,I⟩
       .rw[hw]at d;have k6:=uX (gI E.s) 0 w5 D.r.r.S;have D2:=D.Vd E.s;have h6:=G.C k6<|fy.H G D.r.r A;have g0:=h6.r 144 _<|B5 0 U;have D3:=D2.wE<|((hr4 hw).fH k5).r k6 D.r.r;have rg:w5.rangeAt eb 0 (gI E.s):=by have:=fy.Y (tl:=[È pE nE cE,Û E.C,gO.jW E.M,gO.kt E.r]) (vs:=gI<|if E.C then E.s else zS) G;rwa[if_pos hw]at this
        have th:=D.r.r.K (n:=144) (by show 144<=(gI _++_).length;rw[Ò,iM];omega);have c5:=D2.r.S.2.1;have f5:=D2.r.r.I 145;have l5:=D2.r.r.M;have I:=fv<|À rg<|À th D3;clear D D2 D3 k6 h6 G k4 k5 hr4 rg th;go_upto_region 19 with(first|(refine tg sG rK (iM _) I.1 ?_)|(refine Va 112 U ?_;refine ò U 112 _ _ U nb 0 (gI E.s).toArray U U (by rw[eN,iM];exact I.2.1) (by rw[rK,eN,iM]) (å (J6 _)) ?_;generalize w5.setCells nb 0 (gI E.s)=w6 at*))
        as_aux_lemma=>
         go_upto_region 20 with fail;generalize w6.setCell ⟨nb,145,Å⟩ (È pE nE cE)=w7 at*;as_aux_lemma=>
          have J:=I.2.2.C.r 1 _ U;have S:=I.2.2.C.r 3 _ U;let⟨b3,f3⟩:=I.2.2.at l;obtain⟨z3,yr⟩:∃z,(E.s x).fC=z:=⟨_,U⟩;simp only[yr]at b3;have H2:=fv<|(I.2.2.N l<|z3+n).fH<|fw.gM fB _;clear g0 d g3 c5 f5 l5;go_region;go_wp2;go_meet
          case rel=>
           subst yr;exact⟨_,_,_,_,_,U,U,HR.2.1 hw,H2⟩
    case rest=>
     clear H J e2 S e4 e5 B f1 M Y q0 q1 Q;obtain⟨s1,wK,se,d,bb,rfl,rfl,hD,V⟩:=hcut;let⟨Mw,gg1⟩:=hD.Vb;have I:=fv hD;have J:=V.C.r 1 _ U;let⟨b3,f3⟩:=V.at l;obtain⟨z3,yr⟩:∃z,(s1 x).fC=z:=⟨_,U⟩;simp only[yr]at b3;obtain⟨s3,D4⟩:∃s,Ø.wrap (z3-d)=s:=⟨_,U⟩;have hwg:Ø.wrap d=d:=sj Mw Z;have H3:=fv<|(V.fC l s3).fH<|fw.gM fB _;have HV:=fv yr;clear yr hD V;go_wp2;go_region;clear b3 f3 J;generalize(wc.setCell ⟨nb,x,Å⟩<|Â Ø s3).drew=wu3 at*;as_aux_lemma=>
      have HS3:=fv D4;clear D4;let⟨b4,f4⟩:=H3.at hm;obtain⟨z4,Vt⟩:∃z,(s1.fC x s3 m).fC=z:=⟨_,U⟩;simp only[Vt]at b4;obtain⟨s4,atj⟩:∃s,Ø.wrap (z4+d)=s:=⟨_,U⟩;have H4:=fv<|H3.fC hm s4;let⟨_,_,c6,c7⟩:=H4.r.S;let⟨i4,hi4,acS,hs4,Fs⟩:=ĉ as8;let⟨i3,hi3,acT,D4,Fq⟩:=ĉ as9;have HI:=fv<|À hi4<|À acS<|À hs4<|À Fs<|À hi3<|À acT<|À D4 Fq;have HZ4:=fv Vt;clear hi4 acS hs4 Fs hi3 acT D4 Fq Vt;have l4:=H4.r.r.M;go_wp2_with (first|(at_builtin;refine xU (n:=v.r.length) (xs:=wZ v.r) (m:=1) U _ _ 114 U Tryz.underlying114 HI.1 HI.2.1 HI.2.2.1 HI.2.2.2.1 U U (H4.fH kp).r.I ⟨_,0,Å⟩ [Û bb] U Z U (B3 _ [Û bb] 4) (by simp[à]) (by rw[g.oQ.2.2.2.1];unfold í;omega) (by rw[g.oQ.2.2.2.1];omega) (H4.fH kp).r.kp.M ?_;intro w1v w5 ha;obtain⟨p5,r5,rfl⟩:=jj ha.fE;let⟨c5,G⟩:=BT.U5 (e:=(d,bb)) (H4.fH kp) ha;let⟨c5,f5⟩:=c5;let⟨_,_,_,c7⟩:=G.r.S;have l5:=G.r.r.M;have H5:=fv G;clear G ha)|(at_builtin;refine xU (n:=v.r.length) (xs:=wY v.r) (m:=1) U _ _ 30 U Tryz.underlying30 HI.2.2.2.2.1 HI.2.2.2.2.2.1 HI.2.2.2.2.2.2.1 HI.2.2.2.2.2.2.2 U U (H5.fH kp).r.C ⟨_,0,Å⟩ [Â Ä d] U Z U (B3 _ [Â Ä d] 3) (by simp[à]) (by rw[g.oQ.2.2.2.1];unfold í;omega) (by rw[g.oQ.2.2.2.1];omega) (H5.fH kp).r.kp.M ?_;intro g1v w6 ha;obtain⟨p6,r6,rfl⟩:=jj ha.fE;let⟨c6,h6⟩:=BT.U6 (e:=(d,bb)) (H5.fH kp) ha;let⟨c6,f6⟩:=c6;have H6:=fv h6;clear h6 ha))
      obtain rfl:=HS3.oQ;obtain rfl:=HZ4.oQ;obtain rfl:=atj;obtain rfl:=HV.oQ;exact⟨⟨j+1,(⟨_,wK,v.r++[(d,bb)],v.h⟩,se,È p5 (v.r.length+1) r5,È p6 (v.r.length+1) r6),iu,fD,⟨H6.r.us (z:=v.r++[(d,bb)]),H6.I,(I.ata.r x<|uW _).r m<|uW _,g.2.2.1,by simp[g.oQ.2.2.2.1],by have:=I.ll;have hf:(v.C.length:Int)<=400*j:=g.2.2.2.2;show(wK.length:Int)<=_;omega,by rw[HG.oQ.1,gO.va,I.oQ.eq];rfl,g.2.1⟩⟩,by simp[ó];omega⟩
   have HX:=fv (show o9 m p.1.s (f.map toTx)=Å by rw[o9,HG.oQ.1,gO.va,if_neg M];rfl);have FX:Ø.wrap ((n:Int)+10)=(n:Int)+10:=sj Z Z;have Dz:Ø.wrap (n:Int)=(n:Int):=sj Z Z;have vF:=atb M;rw[Y,Q]at vF;clear Y M;obtain⟨rfl,vF⟩|⟨rfl,vF⟩|⟨rfl,vF⟩|⟨rfl,atl,vF⟩|⟨rfl,atl,awr,vF⟩:=vF;all_goals
    go_wp2_with (apply sw 116 U;refine Ed (H.r.fH kp).r (H.I.C (kp (X:=fB)) id) U Ab (by rw[Aa];exact congrArg Ã (pY _ _ _ _).symm) (by rw[HZ.oQ];exact(pY _ _ _ _).symm) H.r.Y ?_ U U U U U U U U U;intro w9 Gr k9)
   all_goals
    refine Õ (acM Gr Ab (by rw[Aa];exact congrArg Ã (pY _ _ _ _).symm) U U) U ?_;rw[HX.oQ];exact⟨v,lv,wv,gv,U,(H.r.fH kp).kp.C k9 λi hi q=>(by have:=g.2.1.2;omega),H.r.Y,by intros;contradiction⟩
  .obtain rfl:j=N:=Z;let⟨v,lv,wv,gv⟩:=q;have B:=H.r.at (show m<144 by omega);rw[D8 hm]at B;have f1:=H.r.r.I m;have wC:o9 m p.1.s (f.map toTx)=Ã (v.s.fC m<|wu<|(v.s m).fC+50,v.C,v.r):=by rw[o9,H.oQ.N,List.drop_of_length_le (by rw[HN.oQ];exact eE _)];rfl
   have HX:=fv wC;clear wC;generalize hbm:(v.s m).fC=bm at*;go_wp2_with (apply sw 116 U;refine Ed (H.r.fC hm<|wu<|bm+50).r (Vq H.I H.r.r U H.C.1 m<|Â Ø<|wu<|bm+50) U Ab (by rw[Aa];exact congrArg Ã (pY _ _ _ _).symm) (by rw[HZ.oQ];exact(pY _ _ _ _).symm) (H.r.fC hm<|wu<|bm+50).Y ?_ U U U U U U U U U;intro w9 Gr k9);refine Õ (acM Gr Ab (by rw[Aa];exact congrArg Ã (pY _ _ _ _).symm) U U) U ?_;rw[HX.oQ];have K:=H.r.fC hm<|wu<|bm+50;have kr:∀{T:þ} {x:Ê} {n:Nat} {cs:List Ê},T≠116->ie T x n cs (wr.setCell ⟨nb,m,Å⟩<|Â Ø<|wu<|bm+50)->ie T x n cs w9:=λhT q=>q.r k9 (Vq H.I H.r.r U H.C.1 m _) hT;refine⟨({v with s:=v.s.fC m (wu<|bm+50)},lv,wv,gv),U,?_,K.Y,λr hr=> ?_⟩;exact K.kp.C k9 λi hi q=>by have:=H.C.2;omega
   cases hr;exact⟨by have:=H.h;simp only at this|-;rw[this],kr A K.M,kr A<|J3 K.I,kr A<|J3 K.C⟩
end
section
variable{d:Array ü}{a:ģ}
def acU{i:Ŕ}{cs:List Ê}(b:P.underlying t=Ã (.slice e))(c:P.info? e=Ã i)(f:i.zero=Ã z)(g:i.size=cs.length)(p:0<cs.length)(q:cs.length<=1000)(h:cX (a.put o.dst<|È (Ã ⟨w.heap.size,0,Å⟩) 1 1) (w.alloc<|Ñ cs.toArray e))(k:o.guard=Å)(l:o.op=.buildSlice t 1 #[(0,qQ)])(m:a.eval qQ=Ú cs.toArray): if æ o (ĭ d a.tmps)=Ì then ğ P o a w cX vJ else bQ:=by rw[if_pos (by simp[æ,k])];refine wp_buildSlice t e 1 _ l cs.toArray i z b c f Z Z ?_ h;generalize n:(Array.range<|1*i.size).map (z.cells[· %z.cells.size]!)=A;have:=zy (place:=λj=>Ã (j*i.size,i.size)) (pre:=[]) (old:=A.toList) (suf:=[]) (i:=0) (size:=i.size) (v:=Ú cs.toArray) (rest:=[]) fD (by show cs.toArray.size=_;simp[g]) (by rw[<-n];simp);rw[ec,ep,Array.toArray_toList]at this;simp only[eJ,dR,dG,m];rw[this];simp[Instr.fill,Value.cells]
end
section
variable{b:List VR}{p:VR}
theorem RA.N(h:RA j v b w)(r:xa p w)(k:nU w 0 116 148 v b.length (vq b) 1 (gU p) x u):fy j [v] 72 u/\RA j x (b++[p]) (u.setCell ⟨j,0,Å⟩ x)/\fw (λi=>i=j\/v.ownBlock=Ã i) w (u.setCell ⟨j,0,Å⟩ x):=by
 have d:=h.r.C k.r<|iG h.fE h.r A;have f:=fw.I (X:=λk=>k=j) (p:=⟨j,0,Å⟩) U x<|Ó d.S;have g:∀{T:þ} {a:Ê} {n:Nat} {l:List Ê},T≠116->T≠72->ie T a n l w->ie T a n l (u.setCell ⟨j,0,Å⟩ x):=λs m q=>(q.I k.r λc l o e z=>by let⟨t,y⟩:=lN h.fE e;grind).r f d m;refine⟨d,⟨d.fR 0 x,?_,λq o=> ?_⟩,(k.r.fG λi _ q=>Ó q).C f λi _ q=>Í q⟩;have:=ia k.fE f λc q z=>iG k.fE d A<|z▸q;rwa[show b.length+1=(b++[p]).length by simp,show vq b++gU p=vq (b++[p]) by simp[vq]]at this;have c:xa q w:=by obtain e|e:=dx.1 o;exact h.C q e;grind
 exact⟨g A A c.C,g A A c.I,g A A c.r⟩
def vz(n:Nat):VR:=(⟨kg n,[],[],0⟩,È Å 0 0,È Å 0 0,È Å 0 0)
def acV:(Á.info? 116).map (λi=>(i.size,i.bytes,i.zero.map λz=>z.cells.toList))=Ã (148,1296,Ã<|gU<|vz 0):=fK
def acW(n:Nat):∀v∈gU (vz n),v.oneCell'=Ì:=Oc U U U
def Ad(n:Nat):(gU<|vz n).length=148:=pY _ _ _ _
def atm(h:n<8):(gU<|vz n).set n (Â Ø 1000)=gU (vz<|n+1):=by show(gI (kg n)++_).set n _=gI (kg<|n+1)++_;rw[ei _ _ (by rw[iM];omega),J4 _ h,aam];rfl
def atn{n:Int}(h:n<1\/8<n)(w:Ô):Ü Á 22 #[Â Ä n] w λe u=>e=É (Þ #[Æ Å,Â Ä 7])/\u=w:=by
 by_cases a:n<1
 .go_enter ć,ġ;go_wp2;go_ret2;exact⟨U,U⟩
 go_enter ć,ġ;go_wp2;go_ret2;exact⟨U,U⟩
def ato(n:Int)(h1:1<=n)(h8:n<=8)(w:Ô):Ü Á 22 #[Â Ä n] w λe u=>∃j v,e=É (Þ #[Æ<|Ã ⟨j,0,Å⟩,Â Ä 0])/\RA j v [vz 8] u/\fw fB w u:=by
 let⟨i0,y,O⟩:=Ð.1 acV;simp only[dJ,Ð]at O;let⟨B,P,C,D,Q⟩:=O;have s:C.cells=(gU<|vz 0).toArray:=by rw[<-Q]
 have S:Á.built 116 []=Ã (gU<|vz 0).toArray:=by rw[DJ acK (z:=C) (by rw[y];exact D),s];rfl
 let⟨dd,T,V⟩:=Ð.1 Ab;have b:=fv (À y<|À D<|À (B.trans (Ad 0).symm)<|À (show C.cells.size=_ by rw[s])<|À S<|À T<|À V P);have E:=fv<|À B s;clear y B P D Q s S T V;go_enter ć,ġ;go_wp2_with (first|(with_reducible refine Ë U (Ã 13) U _ _ (zz U b.oQ.2.2.2.2.1) ?_)|(refine zW Kf (gU (vz 0)) (Ad 0) (acW 0) ?_;intro w1 F W sf))
 obtain⟨d,Y⟩:∃d,w.heap.size=d:=⟨_,U⟩;rw[Y]at F;simp only[Y];have H:=fv<|À F W;clear F W sf;go_loopw [5] (λi wr=>∃a:Nat,a<=8/\i=Â Ä a/\fy d (gU<|vz a) 116 wr/\fw fB w wr) λi _=>8-(ó i).toNat
 case atStart=>exact⟨0,eD _,U,H.1,H.2⟩
 case round=>
  clear H;obtain⟨a,hj,rfl,g,t⟩:=hrel;by_cases G:a<8
  .have c:=g.r a (Â Ø 0) (by
    show(gI (kg a)++_)[a]?=_;rw[eR (by rw[iM];omega),vo _ Z];simp[mg,G,kg,jW])
   have f:=g.I a;have l:=g.M;have H:=fv<|À g t;clear g t;go_wp2;go_roundw
   case rel=>exact⟨a+1,G,by go_num,by rw[<-atm G];exact H.1.fR a _,H.2.C (fw.I (X:=λk=>k=d) (p:=⟨d,a,Å⟩) U _<|Ó H.1.S) λi hi q=>by omega⟩
   case measure=>simp[ó];omega
  .obtain rfl:a=8:=Z;have H:=fv<|À g t;clear g t;go_wp2;have I:=fw.gP fB wr #[È Å 0 0] 72;have J:=H.1.C (I.fA<|fw.gM _ _) id;have L:fy wr.heap.size [È Å 0 0] 72 (wr.alloc<|Ñ #[È Å 0 0] 72).drew:=(fy.N wr [È Å 0 0] 72).C (fw.gM fB _) id;have ne:=H.1.M;have HK:=fv<|(H.2.fA I).fA<|fw.gM _ _;generalize wr.heap.size=j at*;have HS:=fv<|À (L.r 0 _ rfl) J.G;have o:=fv<|À L<|À J ne;clear I J L ne H;refine mI (λu=>u.cell? ⟨j,0,Å⟩=Ã (È Å 0 0)/\u.rangeAt d 0 (gU<|vz 8)) [10] fK ?_;generalize(wr.alloc<|Ñ #[È Å 0 0] 72).drew=w2 at*;iterate 5 apply tk HS
   refine tk (v:=Ú (gU<|vz 8).toArray) HS 5 ?_ (hy:=λw h=>U8 h.2 b.2.2.2.2.2.1 b.2.2.2.2.2.2.1 (by rw[Aa];exact congrArg Ã (Ad 8).symm) gq gq);apply np 6;intro K r;refine acU (cs:=gU<|vz 8) ø b.1 b.2.1 (E.1.trans (Ad 8).symm) (by rw[Ad];decide) (by rw[Ad];decide) ?_ U U U;have m:=fw.gP fB w2 (gU<|vz 8).toArray 116;refine r.out _ _ (λ_=>⟨(o.1.C m id).r 0 _ U,fy.Y (tl:=[])<|by rw[ep];exact o.2.1.C m id⟩) ?_;clear r K;apply np 7;intro K r;have M:RA j (È Å 0 0) [] (w2.alloc<|Ñ (gU<|vz 8).toArray 116):=⟨o.1.C m id,ã _ _ _ _,λ_ q=>by cases q⟩;refine FJ U _ _ 70 U ø b.1 b.2.1 E.1 b.2.2.2.2.2.2.2 (by rw[E.oQ.2];exact Ad 0) U M.fE ⟨_,0,Å⟩ (gU<|vz 8) U Ŋ (Ad 8) (B3 w2 (gU<|vz 8) 116) (acW 8) A A (eD _) ?_;intro v' w4 x;let⟨N,g2,g3⟩:=M.N ⟨ie.C _ _,ie.C _ _,ie.C _ _⟩ x;have g4:=N.r 0 _ U;have g5:=N.I 0;have S4:w4.cell? ⟨j,0,Å⟩=Ã (È Å 0 0)/\w4.rangeAt d 0 (gU<|vz 8):=⟨g4,fy.Y (tl:=[])<|by rw[ep];exact(o.2.1.C m id).C x.r λq=>by cases q⟩;apply r.out _ _ λ_=>S4;clear r K;obtain⟨p,c,rfl⟩:=jj x.fE;have HE:=fv (À g2 ((HK.fA m).C g3 λi hi q=>by have:=o.2.2;obtain q|q:=q;omega;cases q));have HG:=fv S4;clear x N g2 g3 m M;refine jM 8 (λ_=>HG) ?_;refine jM 9 (λ_=>HG) ?_;refine jM 10 (λq=>absurd fD q) ?_;refine ma ?_;go_wp2;go_ret2;exact⟨j,_,U,HE.1,HE.2⟩
end
end gO
namespace jg
open Conc RowKit Lift gO fO me
section
variable{Y:fL}{Sh:Nat->Prop}{w':Ô}{f:List VR}
def LR(Y:fL)(a b:List Ê):Prop:=a.length=b.length/\∀(j:Nat)(x c:Ê),a[j]?=Ã x->b[j]?=Ã c->fI Y x c
def LR.acX{a b:List Ê}(h:LR Y (a++b) l):∃g i,l=g++i/\LR Y a g/\LR Y b i:=by have m:=h.1;rw[Ò]at m;refine⟨l.take a.length,l.drop a.length,(Č _ _).symm,⟨by rw[dB];omega,λj x e d f=> ?_⟩,⟨by rw[List.length_drop];omega,λj x e d f=> ?_⟩⟩;have k:=(eP.1 d).1;exact h.2 j x e (by rwa[eR k]) (by rwa[eM k]at f);exact h.2 (a.length+j) x e (by rwa[eT Z,dD])<|by rwa[cB]at f
def LR.eq{a b:List Ê}(h:LR Y a b)(k:∀x∈a,∀c,fI Y x c->c=x):b=a:=by
 refine dP λj=> ?_;obtain q|q:=ey j a.length;have d:j<b.length:=by rwa[<-h.1]
 rw[fe q,fe d];exact congrArg Ã<|k _ (List.getElem_mem q) _<|h.2 j _ _ (fe q)<|fe d;rw[da q,da (by rwa[<-h.1])]
def Vu(h:jI Y Sh u w)(m:fI Y v x)(s:∀a∈l,kN a=Ì)(k:ie T v n l u):ie T x n l w:=by obtain⟨p,cp,rfl,q,r⟩:=k;obtain⟨t,rfl,y⟩:=Ju m;refine⟨t,cp,U,q,λj a d=> ?_⟩;let⟨b,o,e,⟨E,F,f⟩,z⟩:=r j a d;obtain⟨G,rfl,B⟩:=y _ e;obtain⟨g,rfl,i⟩:=wP B;let⟨c,H,e,I,J,C,D,_⟩:=h.r b g i;rw[C]at f;cases f;exact⟨g,o,U,⟨_,_,D⟩,(zG h).C (s a<|eU d) i z⟩
def atp(us:List (Int×Bool)):∀x∈wY us,kN x=Ì:=λx a=>by obtain⟨e,_,rfl⟩:=cI.1 a;rfl
def atq(us:List (Int×Bool)):∀x∈wZ us,kN x=Ì:=λx a=>by obtain⟨e,_,rfl⟩:=cI.1 a;rfl
def acY(h:jI Y Sh u w):∀(f:List VR)(j:List Ê),(∀p∈f,xa p u)->LR Y (vq f) j->∃g:List VR,j=vq g/\g.map (·.1)=f.map (·.1)/\∀p∈g,xa p w
 |[],j,_,hy=>⟨[],ë hy.1.symm,U,λ_ q=>by cases q⟩
 |(v,lv,wv,gv)::r,j,hp,hy=>by
  obtain⟨D,l,rfl,m,n⟩:=LR.acX (a:=gI v.s++[Â Ä v.h,lv,wv,gv]) (b:=vq r) hy;obtain⟨E,o,rfl,t,e⟩:=m.acX;obtain⟨g,rfl,y,z⟩:=acY h r l (λp q=>hp p<|fi _ q) n;obtain rfl:=t.eq λx B F k=>by
   obtain⟨i,C,rfl⟩:=cI.1 B;revert k;unfold mg;repeat' split
   all_goals(intro k;cases k;rfl)
  match o,e with
  |[a,b,c,d],e=>
   have C:=e.2 0 _ _ U U;cases C;have i:=hp _<|eZ ..;refine⟨(v,b,c,d)::g,U,by simp[y],λp q=> ?_⟩;obtain rfl|q:=eK.1 q;exact⟨Vu h (e.2 1 _ _ U U) (S7 _) i.C,Vu h (e.2 2 _ _ U U) (atq _) i.I,Vu h (e.2 3 _ _ U U) (atp _) i.r⟩;exact z p q
theorem acZ(h:jI Y (λ_=>False) u w)(z:Y i n)(k:RA i v f u):∃B a,RA n B a w/\a.map (·.1)=f.map (·.1):=by
 let⟨c,C,e,D,E,b,l,F,_,G,_⟩:=h.r i n z;rw[k.r]at b;cases b;cases G id;have m:=F.r id;let⟨H⟩:=C;match H,m.r with
 |[x],_=>
  have o:fI Y v x:=m.C 0 fD fD;obtain⟨I,⟨J,K⟩|⟨g,L,cur,rfl,hb,M,N,O,P,Q⟩⟩:=id k.fE;obtain rfl:f=[]:=ë K;subst J;cases o;exact⟨_,[],⟨l,ã _ _ _ _,λ_ q=>by cases q⟩,rfl⟩;cases o with
  |lh q=>
   obtain⟨p,rfl,S⟩:=wP q;let⟨c,r,e,D,E,b,T,V,_,W,_⟩:=h.r g p S;rw[M]at b;cases b;cases W id;have d:=V.r id;have s:LR Y (vq f) (r.toList.take<|f.length*148):=by
    rw[<-Q];refine⟨by simp[d.r],λj x x' t y=> ?_⟩;have X:j<f.length*148:=by grind
    rw[eM X,eV]at t y;obtain⟨y1,rfl⟩:=fp.1 t;obtain⟨y2,rfl⟩:=fp.1 y;exact d.C j y1 y2
   let⟨a,j,t,y⟩:=acY h f _ k.C s;have X:a.length=f.length:=by have:=congrArg ŉ t;simpa using this
   refine⟨_,a,⟨l,?_,y⟩,t⟩;rw[X];refine⟨by rwa[<-j,<-s.1],Ó ⟨p,L,r,U,eD _,T,N,O,by rwa[<-d.r],j⟩⟩
def atr(h:fI (nk X i) (È (Ã a) n j) v):X a.block:=by
 cases h with|lh q=>exact q.1.2
theorem ac0(h:zr X Sh i w)(a:X b)(d:w.cell? ⟨b,n,Å⟩=Ã v):fI (nk X i) v v:=by let⟨c,e,j,f,_,g,_⟩:=h.r b a;simp only[Ĩ,f,eW,Î,if_false]at d;obtain⟨q,_⟩|⟨x,k,l,m,p⟩:=g.M n;all_goals grind
def Vv(k:ie T v n l w)(h:∀b,v.ownBlock=Ã b->w'.heap[b]?=w.heap[b]?):ie T v n l w':=by obtain⟨p,cp,rfl,q,r⟩:=k;refine⟨p,cp,U,q,λj x a=> ?_⟩;obtain⟨b,o,rfl,⟨c,d,f⟩,g⟩:=r j x a;have e:=h b U;exact⟨b,o,U,⟨c,d,e.trans f⟩,yj e g⟩
def RA.atu(h:RA i v f w)(r:zr X Sh n w)(s:X i)(k:∀b,X b->w'.heap[b]?=w.heap[b]?):RA i v f w':=by
 have t:=ac0 r s<|h.r.r 0 _ U;have m:∀{l:Ê},fI (nk X n) l l->∀b,l.ownBlock=Ã b->X b:=λ{l} q b e=>by
  cases l with
  |slice a d c=>cases a with
   |none=>cases e
   |some a=>cases e;exact atr q
  |_=>cases e
 refine⟨h.r.Al<|k i s,?_,λp u=> ?_⟩;refine⟨h.fE.1,h.fE.2.imp id ?_⟩;rintro⟨g,a,d,rfl,j,o,x⟩;exact⟨g,a,d,U,j,(k g<|m t g U).trans o,x⟩;let⟨a,y⟩:=ek u;let⟨b,c,e,z⟩:=h.I y;have C:X b:=m t b (by rw[e];rfl);have g:∀j x,(gU p)[144+j]?=Ã x->∀b,x.ownBlock=Ã b->w'.heap[b]?=w.heap[b]?:=λj x D d e=>k d<|m (ac0 r C<|z _ x D) d e;have o:=h.C p u;exact⟨Vv o.C<|g 1 _<|tf 1 U,Vv o.I<|g 2 _<|tf 2 U,Vv o.r<|g 3 _<|tf 3 U⟩
def RA.kL(h:RA i v f w)(T:Tape)(n:Nat):RA i v f (World.tp (kL (λ_=>False) w) T n):=by
 have k:∀(b:Nat)(c:Array Ê)(e:þ)(d:Nat×Nat),w.heap[b]?=Ã (Ñ c e d)->(World.tp (fO.kL (λ_=>False) w) T n).heap[b]?=Ã (Ñ c e d):=λb c e d q=>by show(fO.kL (λ_=>False) w).heap[b]?=_;rw[Dr,q];simp[qD]
 refine⟨k _ _ _ _ h.r,⟨h.fE.1,h.fE.2.imp id ?_⟩,λp l=> ?_⟩;rintro⟨g,a,j,rfl,m,o,s⟩;exact⟨g,a,j,U,m,k _ _ _ _ o,s⟩;have g:∀{e:þ} {a:Ê} {m:Nat} {s:List Ê},ie e a m s w->ie e a m s (World.tp (fO.kL (λ_=>False) w) T n):=λq=>by obtain⟨p,cp,rfl,q,r⟩:=q;refine⟨p,cp,U,q,λj x u=> ?_⟩;obtain⟨b,o,rfl,⟨y,z,t⟩,B⟩:=r j x u;have e:=k _ _ _ _ t;exact⟨b,o,U,⟨y,z,e⟩,yj (e.trans t.symm) B⟩
 exact⟨g (h.C p l).C,g (h.C p l).I,g (h.C p l).r⟩
end
end jg
namespace gO
open RowKit Lift jg me
def Gt(n:Nat)(v:gf)(r:PR):Option gf×ByteArray:=if n=40 then(Å,pK 4)else match o9 (r.c.getD 0 0).toNat v.s (r.r.map toTx)with|none=>(Å,pK 5)|some q=>(Ã ⟨q.1,q.2.1,q.2.2,v.h+1⟩,pg n)
section
variable{y:Nat}{a:List VR}{p:VR}{r:PR}
def atv(h:RA y x a w)(h40:a.length<=40)(Q:xa p w)(S:ic p.1.s)(hh:0<=p.1.h/\p.1.h<=40)(F:me.sC r)(T:ie 253 z r.r.length (p9 r.r) w): Ü Á 68 #[Æ<|Ã ⟨y,0,Å⟩,Ú (j0 r z).toArray,Ú (gU p).toArray] w λe g=>∃f b,e=É (Ï (Gt a.length p.1 r).2)/\RA y f b g/\b.map (·.1)=a.map (·.1)++(Gt a.length p.1 r).1.toList/\fw (λi=>i=y\/x.ownBlock=Ã i) w g:=by
 let⟨i0,V,X⟩:=Ð.1 acV;simp only[dJ,Ð]at X;let⟨Y,pP,z0,mX,J8⟩:=X;have mS:z0.cells.size=148:=by rw[show z0.cells=(gU<|vz 0).toArray by rw[<-J8]];exact Ad 0
 clear J8;let⟨dd,Bv,wI⟩:=Ð.1 Ab;have d:=fv<|À V<|À mX<|À Y<|À mS<|À pP<|À Bv wI;clear V mX Y mS pP Bv wI;have G:fw fB w ((w.alloc<|Ñ (j0 r z).toArray 127).alloc<|Ñ (gU p).toArray 116):=(fw.gP fB w (j0 r z).toArray 127).fA<|fw.gP fB _ (gU p).toArray 116;have C:=(fy.N w (j0 r z) 127).C (fw.gP fB _ (gU p).toArray 116) id;have I:=fy.N (w.alloc<|Ñ (j0 r z).toArray 127) (gU p) 116;have n9:(w.alloc<|Ñ (j0 r z).toArray 127).heap.size=w.heap.size+1:=fD
 rw[n9]at I;have o:=h.fH G;have c0:=o.r.r 0 _ U;let⟨J,L,Kh⟩:=jj h.fE;subst Kh;have qh:=fy.Y (tl:=[]) (by rwa[ep]);have q3:=C.r 3 _ U;have q8:=C.r 8 _ U;have l1:=C.M;have o0:=F.c.r 0 A;simp only[mC]at o0;obtain⟨m,hm⟩:∃m:Nat,r.c.getD 0 0=m:=⟨(r.c.getD 0 0).toNat,Z⟩;have H:=fv<|À o<|À Q<|À S<|À F<|À T<|À G qh;clear h o Q S F T G C I qh;unfold Gt;rw[hm]at q3 o0|-;rw[dO];by_cases M:a.length=40
 .rw[if_pos M];rw[M]at c0;go_enter ŋ,Ŀ;go_wp2_with (first|(with_reducible refine Ë U (Ã 4) U _ _ (oJ U U) ?_)|(with_reducible refine Ë U (Ã 5) U _ _ (oJ U U) ?_;generalize(w.alloc<|Ñ (j0 r z).toArray 127).alloc (Ñ (gU p).toArray 116)=wa at*)|(go_at_call 67;refine iT (JS 4 Z _) ?_))
  go_ret;exact⟨_,a,U,H.1,fD,H.2.2.2.2.2.1.fG λ_ _=>á⟩
 .rw[if_neg M];have e41:((a.length:Int)==40)=Ç:=by rw[beq_eq_false_iff_ne];omega
  have hC:∀W,fw fB w W->Ü Á 121 #[Ú (gU p).toArray,Â Ä m,z] W λe g=>∃q:VR,e=É (Þ #[Ú (gU q).toArray,Û (o9 m p.1.s<|r.r.map toTx).isSome])/\fw fB W g/\(∀v∈gU q,v.oneCell'=Ì)/\∀i,o9 m p.1.s (r.r.map toTx)=Ã i->q.1=⟨i.1,i.2.1,i.2.2,p.1.h+1⟩/\xa q g:=λW k=>
   ath H.2.2.1 hh Z (H.2.2.2.2.1.fH k) H.2.2.2.1.C H.2.2.2.1.n
  generalize wC:o9 m p.1.s (r.r.map toTx)=nx at*;have HC:=fv hC;clear hC;obtain _|i:=nx;all_goals
   go_enter ŋ,Ŀ;go_wp2_with (first|(with_reducible refine Ë U (Ã 4) U _ _ (oJ U U) ?_)|(with_reducible refine Ë U (Ã 5) U _ _ (oJ U U) ?_;generalize(w.alloc<|Ñ (j0 r z).toArray 127).alloc (Ñ (gU p).toArray 116)=wa at*)|(refine tg Ab Aa (pY _ _ _ _) H.2.2.2.2.2.2 ?_)|(go_at_call 121;refine(HC _ H.2.2.2.2.2.1).mono ?_;rintro e t ⟨q,rfl,b,f,l⟩;have j:=fv<|À l<|À b f;clear l b f)|(refine zW Kf (gU q) (pY _ _ _ _) j.2.2 ?_;intro D b f l;have u:=fv<|À b f;clear b f l)|(go_at_call 67;refine iT (JS 5 Z _) ?_))
  .go_ret;exact⟨_,a,U,H.1.fH<|j.2.1.fA u.2,fD,(H.2.2.2.2.2.1.fA<|j.2.1.fA u.2).fG λ_ _=>á⟩
  let⟨qj,r9⟩:=j.1 i U;have N:=j.2.1.fA<|u.2.fA<|fw.gM fB D;have o:=H.1.fH N;have hv:=r9.fH<|u.2.fA<|fw.gM fB D;have O:=u.1.C (fw.gM fB D) id;have nv:(È J a.length L).ownBlock≠Ã t.heap.size:=λe=>by have:=(H.1.fE.lt t.heap.size e).2;have:=j.2.1.M;omega
  have nb:y≠t.heap.size:=λe=>by have:=H.1.r.M;have:=j.2.1.M;omega
  have HS:=fv<|À (o.r.r 0 _ rfl) O.G;have f:=fv<|À o<|À hv<|À O<|À nv<|À (H.2.2.2.2.2.1.fA N) qj;clear qj r9 N o hv O nv;refine mI (λg=>g.cell? ⟨y,0,Å⟩=Ã (È J a.length L)/\g.rangeAt t.heap.size 0 (gU q)) [10] fK ?_;generalize t.heap.size=vb at*;generalize D.drew=w5 at*;iterate 5 apply tk HS
  refine tk (v:=Ú (gU q).toArray) HS 5 ?_ (hy:=λw h=>U8 h.2 d.2.2.2.2.2.1 d.2.2.2.2.2.2 (by rw[Aa];exact congrArg Ã (pY _ _ _ _).symm) gq gq);apply np 6;intro K B;refine acU (cs:=gU q) ø d.1 d.2.1 (d.2.2.1.trans (pY _ _ _ _).symm) (by rw[gU,pY];decide) (by rw[gU,pY];decide) ?_ U U U;have l:=fw.gP fB w5 (gU q).toArray 116;refine B.out _ _ (λ_=>⟨(f.1.fH l).r.r 0 _ U,fy.Y (tl:=[])<|by rw[ep];exact f.2.2.1.C l id⟩) ?_;clear B K;apply np 7;intro K B;refine FJ U _ _ 70 U ø d.1 d.2.1 d.2.2.1 d.2.2.2.2.1 d.2.2.2.1 U (f.1.fH l).fE ⟨_,0,Å⟩ (gU q) U Ŋ (pY _ _ _ _) (B3 w5 (gU q) 116) j.2.2 (by unfold í;omega) Z (eD _) ?_;intro v' w6 E;let⟨P,g2,g3⟩:=(f.1.fH l).N (f.2.1.fH l) E;have g4:=P.r 0 _ U;have g5:=P.I 0;have S4:w6.cell? ⟨y,0,Å⟩=Ã (È J a.length L)/\w6.rangeAt vb 0 (gU q):=⟨g4,fy.Y (tl:=[])<|by rw[ep];exact(f.2.2.1.C l id).C E.r f.2.2.2.1⟩;apply B.out _ _ λ_=>S4;clear B K;obtain⟨p',c',rfl⟩:=jj E.fE;have HE:=fv (À g2<|((f.2.2.2.2.1.fA l).fG λ_ _=>á).fA g3);have HG:=fv S4;clear E P g2 g3 l;refine jM 8 (λ_=>HG) ?_;refine jM 9 (λ_=>HG) ?_;refine jM 10 (λq=>absurd fD q) ?_;refine ma ?_;go_wp2_with (go_at_call 69;refine iT (yk a.length Z _) ?_);go_ret;exact⟨_,_,congrArg (λb=>É<|Ï b)<|NO _ Z,HE.1,by rw[bW,dR,f.oQ.2.2.2.2.2];rfl,HE.2⟩
end
end gO
namespace me
open RowKit Lift gO
section
variable{st:PS}{tl:List Int}{d:PD}{E:RS}
def Ki(h:Int):Nat:=if h=86 then 5 else if h=87 then 6 else if h=110 then 2 else 3
def Kj:Nat->Int|0=>1000000|1=>100000|2=>10000|3=>1000|4=>100|_=>10
def atw:∀m,m<5->10*Kj (m+1)=Kj m/\Kj m<=1000000:=A
def atx:∀m,m<=5->10<=Kj m:=A
def Kk:kE c=Ì↔(48<=c/\c<=57):=BQ c
def Ae(a:Bool)(h:Int):Prop:=h=110\/h=107\/(a=Ç/\(h=86\/h=87))
def ac1(a:Ae yQ h):h∈uj yQ:=by unfold Ae at a;unfold uj;cases yQ<;>simp at a|-<;>omega
def ac2(b:Ae d.C h)(g:Ki h<d.gC.length)(z:Int):(d.fR h z).H h=z/\∀f,(d.fR h z).fR h f=d.fR h f:=by
 have e:=λy=>UY (ac1 b) (d:=d) y;have i:∀(d:PD),Ae d.C h->d.H h=d.gC.getD (Ki h) 0:=λd a=>by let⟨_,_,_,t,_⟩:=d;cases t;obtain rfl|rfl|⟨_,rfl|rfl⟩:=a<;>rfl;obtain rfl|rfl|⟨a,_⟩:=a;rfl;rfl;cases a
 have t:∀(c:List Int)(y:Int),pC c h y=c.set (Ki h) y:=λc y=>by obtain rfl|rfl|⟨_,rfl|rfl⟩:=b<;>rfl
 refine⟨?_,λf=> ?_⟩;rw[i _ (by rwa[e,JX]),e,NT,t,ñ,List.getElem?_set_self g];rfl;rw[UY (by rw[e,JX];exact ac1 b),e,e,acn,NT,t,t,t,ŀ]
def aty{n:Int}(h:0<=n/\n<1000000)(a:kE c=Ì):sB n c=10*n+(c-48):=by rw[Kk]at a;rw[sB,ß,ß];omega
def ac3(a:Ae d.C h)(b:Ki h<d.gC.length):∀(m:Nat)(n:Int)(i:Nat)(st:PS),m<=5->st.C=tl->st.M=h->st.r=m->st.d=d.fR h n->0<n->n<Kj m-> (oA B m n (i,Ç)).2.2=Ç/\∃s,pF B (oA B m n (i,Ç)).2.1 tl (d.fR h (oA B m n (i,Ç)).1) s/\pR B i st=pR B (oA B m n (i,Ç)).2.1 s
 |0,n,i,st,_,h1,h2,h3,h4,_,_=>⟨U,st,⟨h1,h4,λ_ _ q=>by rw[h3]at q;exact absurd q.1 A⟩,U⟩
 |m+1,n,i,st,hm,h1,h2,h3,h4,h5,h6=>by
  let⟨g,j⟩:=atw m Z;unfold oA jv;simp only[Î,if_false];cases f:(iV B)[i]? with
  |none=>exact⟨U,st,⟨h1,h4,λc q=>by rw[f]at q;cases q⟩,rfl⟩|some c=>
   by_cases s:kE c=Ì;simp only[h5,s,and_self,if_true];have z:=Kk.1 s;have e:=(vt (st:=st) f).2;rw[uf,if_pos ⟨by rw[h3];omega,s⟩]at e;rw[e];refine ac3 a b m _ (i+1) _ Z h1 h2 (show st.r-1=_ by rw[h3];omega) ?_ Z Z;show st.d.fR st.M (sB (st.d.H st.M) c)=_;rw[h2,h4,(ac2 a b n).1,(aty (n:=n) ⟨Z,Z⟩ s),(ac2 a b n).2];dsimp only;rw[if_neg λq=>s q.2];exact⟨U,st,⟨h1,h4,λe q z=>by rw[f]at q;cases q;exact s z.2⟩,U⟩
def Vw(m:Nat)(E:RS):oA B m 0 E=(0,E):=by
 cases m with|zero=>rfl|succ m=>unfold oA;cases jv B E<;>simp
def atz{c:Int}(h:kE c=Ì):c∈vr/\(vr.idxOf c:Int)=c-48/\(c-48)%256=c-48:=by rw[Kk]at h;obtain rfl|rfl|rfl|rfl|rfl|rfl|rfl|rfl|rfl|rfl:c=48\/c=49\/c=50\/c=51\/c=52\/c=53\/c=54\/c=55\/c=56\/c=57:=Z;all_goals decide
def atA{c:Int}(h:¬kE c=Ì):c∉vr:=by rw[Kk]at h;unfold vr;simp;omega
def atB(j:Ae d.C h)(u:Ki h<d.gC.length)(a:pF B i (h::tl) d st):Gs B i st (ly B h (i,Ç)).2 tl (d.fR h (ly B h (i,Ç)).1):=by
 have l:h≠82/\h≠66/\h≠84/\h≠80:=by unfold Ae at j;omega
 obtain⟨M,G,n,v,w⟩:∃M:Nat,1<=M/\M<=5/\(ly B h (i,Ç)=if(h=86\/h=87)/\jv B (i,Ç)=Ã 104 then(-1,i+1,Ç)else qR B M (i,Ç))/\∀c,kE c=Ì->c≠48->mL h c=M:=by unfold ly BW mL;obtain rfl|rfl|⟨_,rfl|rfl⟩:=j;exact⟨5,A,A,fD,λc a k=>by simp[a,k]⟩;exact⟨5,A,A,fD,λc a k=>by simp[a,k]⟩;exact⟨1,A,A,fD,λc a k=>by simp[a,k]⟩;exact⟨1,A,A,fD,λc a k=>by simp[a,k]⟩
 have m:∀c,oL h c=((decide (h=86\/h=87)&&(c==104))||kE c):=λc=>by unfold oL;obtain rfl|rfl|⟨_,rfl|rfl⟩:=j<;>simp
 have o:∀c,mf h c=if c=104 then-1 else(c-48)%256:=λc=>by unfold mf;obtain rfl|rfl|⟨_,rfl|rfl⟩:=j<;>rfl
 rw[v];simp only[jv,Î,if_false];have x:∀{c:Int},(iV B)[i]?=Ã c->oL h c=Ç->pR B i st=(i,st):=λ{c} b q=>by have e:=a.I b;unfold ki at e;simpa only[a.C,l,if_false,q,Î]using e
 have p:∀{c:Int},(iV B)[i]?=Ã c->oL h c=Ì->pR B i st=pR B (i+1) {yg {st with r:=0} h c with C:=tl}:=λ{c} b q=>by have e:=a.I b;unfold ki at e;simpa only[a.C,l,if_false,q,if_true]using e
 by_cases f:(h=86\/h=87)/\(iV B)[i]?=Ã 104;rw[if_pos f];refine⟨_,⟨U,?_,λ_ _ z=> ?_⟩,p f.2<|by rw[m];simp[f.1]⟩;show st.d.fR h (mf h 104)=_;rw[a.d,o];rfl;have:(0:Int)<mL h 104:=z.1;unfold mL at this;simp[kE]at this;rw[if_neg f];unfold qR gF jv;simp only[Î,if_false];cases b:(iV B)[i]? with
 |none=>
  show Gs B i st (oA B M 0 (i,Ì)).2 _ _;rw[Vw];exact⟨st,B1 b,Ó ⟨h,tl,a.C,l.2.1⟩⟩|some c=>
  rw[b]at f;by_cases g:kE c=Ì;let⟨y,C,D⟩:=atz g;have H:=Kk.1 g;have e:=p b (by rw[m,g,Ğ]);simp only[y,if_true];rw[C];have r:({yg {st with r:=0} h c with C:=tl}:PS).d=d.fR h (c-48):=by show st.d.fR h (mf h c)=_;rw[a.d,o,if_neg Z,D]
  by_cases t:c=48;subst t;show Gs B i st (oA B M 0 (i+1,Ç)).2 tl (d.fR h (oA B M 0 (i+1,Ç)).1);rw[Vw];exact⟨_,⟨U,r,λ_ _ z=>absurd z.1<|by show¬(0:Int)<mL h 48;simp[mL]⟩,e⟩;let⟨z,s,E,F⟩:=ac3 (B:=B) (tl:=tl) j u M (c-48) (i+1) _ n U (show h=h from rfl) (w c g t) r Z (by have:=atx M n;omega);rw[Gs,z];exact⟨s,E,e.trans F⟩;simp only[atA g,if_false];show Gs B i st (oA B M 0 (i,Ì)).2 _ _;rw[Vw];refine⟨st,x b ?_,Í (vt (st:=st) b).1⟩;rw[m];simp only[dI]at f;simp[g];omega
end
section
variable{st:PS}{tl g:List Int}{d j:PD}{E f:RS}
def Gs.C(h:Gs B i st E zQ d)(a:E.2=Ì->f=E)(c:E.2=Ç->∀s,pF B E.1 zQ d s->Gs B E.1 s f g j):Gs B i st f g j:=by
 let⟨x,b⟩:=E;cases b with
 |true=>rwa[a U]|false=>
  let⟨s,e,k⟩:=h;have:=c U s e;unfold Gs yn at*;rw[k];exact this
def atC(m:Nat)(n:Int):oA B m n (i,Ì)=(n,i,Ì):=by cases m<;>rfl
def atD:(ly B h (i,Ì)).2=(i,Ì):=by
 unfold ly BW qR;repeat' split
 all_goals first|exact congrArg Prod.snd (atC _ _)|rfl|(rename_i q;cases q)
def Kl:∀(a c:List Int),(rJ B a c (i,Ì)).2=(i,Ì)|[],_=>rfl|h::tl,c=>by rw[rJ,atD];exact Kl tl _
theorem atE(c:List Int)(h z:Int):(pC c h z).length=c.length:=by unfold pC;grind
def Lg(d:PD):Prop:=d.gC.length=if d.C then 5 else 8
def ac4:∀c∈kS,mf 120 c=kS.idxOf c/\mf 121 c=kS.idxOf c:=A
def atF:∀c∈BV,mf 115 c=BV.idxOf c:=A
def ac5(a:pF B i (h::tl) d st)(b:h∈uj d.C)(j:Lg d):Gs B i st (ly B h (i,Ç)).2 tl (d.ui<|pC d.gC h (ly B h (i,Ç)).1):=by
 rw[<-UY b];by_cases f:Ae d.C h
 .refine atB f ?_ a;rw[j];obtain rfl|rfl|⟨e,rfl|rfl⟩:=f;cases d.C<;>decide;cases d.C<;>decide;all_goals rw[e];decide
 have g:∀c,qM c=decide (c∈kS):=λc=>by rw[dA,aa0];simp[kS];omega
 have k:∀c,(kE c||(decide (97<=c)&&decide (c<=102)))=decide (c∈BV):=λc=>by rw[dA];simp[kE,BV,vr];omega
 have l:∀h,h=58\/h=62\/h=61\/h=40\/h=44\/h=41\/h=47->(∀c,oL h c=decide (c∈[h]))/\(∀z,d.fR h z=d)/\(∀c,mL h c=0)/\ly B h (i,Ç)=(0,(gF B (i,Ç) [h]).2):=λh q=>by
  obtain rfl|rfl|rfl|rfl|rfl|rfl|rfl:=q<;>
   exact⟨λc=>by rw[dA];simp[oL],λ_=>U,λc=>by simp[mL],U⟩
 have q:(h=120\/h=121\/h=115)\/(h=58\/h=62\/h=61\/h=40\/h=44\/h=41\/h=47):=by unfold uj at b;unfold Ae at f;cases q:d.C<;>simp[q]at b f<;>omega
 obtain(rfl|rfl|rfl)|q:=q;exact NU a b (λc=>g c) (λc e=>by rw[(ac4 c e).1]) λc=>by simp[mL]
 exact NU a b (λc=>g c) (λc e=>by rw[(ac4 c e).2]) λc=>by simp[mL]
 exact NU a b (λc=>by rw[<-k];rfl) (λc e=>by rw[atF c e]) λc=>by simp[mL]
 let⟨m,z,n,o⟩:=l h q;rw[o];have:=NU a b m (λc e=>by rw[z,z]) n;rwa[z]at this|-
def Vx:∀(a:List Int)(d:PD)(i:Nat)(st:PS),pF B i (a++tl) d st->(∀h∈a,h∈uj d.C)->Lg d->Gs B i st (rJ B a d.gC (i,Ç)).2 tl (d.ui (rJ B a d.gC (i,Ç)).1)|[],d,i,st,hh,_,_=>⟨st,by rwa[show rJ B [] d.gC (i,Ç)=(d.gC,i,Ç)from U,asc],U⟩|h::a,d,i,st,hh,hw,hl=>by refine(ac5 (tl:=a++tl) hh (hw h fD) hl).C (λe=> ?_) λe s c=> ?_;rw[rJ];generalize(ly B h (i,Ç)).2=E at e;let⟨x,b⟩:=E;subst e;exact Kl _ _;have:=Vx a _ _ s c (λf q=>by rw[JX];exact hw f<|by simp[q]) (by unfold Lg at*;rwa[NT,JX,atE]);rw[NT,acn]at this;rw[rJ];generalize(ly B h (i,Ç)).2=E at*;let⟨x,b⟩:=E;subst e;exact this
def ac6:∀(n i:Nat)(st:PS),st.C=[80]->st.r=0->st.d=d->st.I+n=40->0<=st.I->Gs B i st (gF B (nA B n (i,Ç)) [125]).2 [] (d.sZ<|B.extract (i-st.I.toNat) (nA B n (i,Ç)).1)
 |n,i,st,h1,h2,h3,h4,h5=>by
  cases a:(iV B)[i]? with
  |none=>
   rw[show nA B n (i,Ç)=(i,Ç) by cases n<;>simp[nA,jv,a]];simp only[gF,jv,Î,if_false,a];exact⟨st,B1 a,Ó ⟨80,[],h1,A⟩⟩|some c=>
   have e:=(vt (st:=st) a).2;have b:=(vt (st:=st) a).1;rw[uf,if_neg (by rw[h2];simp)]at e;unfold ki at e;simp only[h1,show(80:Int)≠82 by decide,show(80:Int)≠66 by decide,show(80:Int)≠84 by decide,if_false,if_true]at e;by_cases q:c=125;subst q;rw[show nA B n (i,Ç)=(i,Ç) by cases n<;>simp[nA,jv,a,show il 125=0 by decide]];simp only[gF,jv,Î,if_false,a,eY,if_true]at e|-;refine⟨_,⟨U,?_,λ_ _ z=>é 0 z.1⟩,e⟩;show st.d.sZ _=_;rw[h3];rw[if_neg q]at e;by_cases z:st.I=40\/il c=0;rw[if_pos z]at e;rw[show nA B n (i,Ç)=(i,Ç) by obtain rfl|y:=dV n;rfl;obtain⟨m,rfl⟩:∃m,n=m+1:=⟨n-1,Z⟩;simp[nA,jv,a,z.resolve_left Z]];simp only[gF,jv,Î,if_false,a,eY,q];exact⟨st,e,Í b⟩;rw[if_neg z]at e;obtain⟨m,rfl⟩:∃m,n=m+1:=⟨n-1,Z⟩;rw[show nA B (m+1) (i,Ç)=nA B m (i+1,Ç) by simp[nA,jv,a,show¬il c=0 from λy=>z<|Ó y]];have:=ac6 m (i+1) ⟨[80],0,st.I+1,st.M,st.d⟩ U U h3 (by simp only;omega) (by simp only;omega);unfold Gs yn at*;rw[e];rwa[show i+1-(st.I+1).toNat=i-st.I.toNat by omega]at this
def atG(h:pF B i [84] d st):if(gF B (i,Ç) [62,123,58]).2.2 then yn B i st (gF B (i,Ç) [62,123,58]).2.1 else∃s,pF B (i+1) (qN<|(gF B (i,Ç) [62,123,58]).1+1) (d.vj 4<|(gF B (i,Ç) [62,123,58]).1+1) s/\s.I=0/\s.r=0/\pR B i st=pR B (i+1) s/\(gF B (i,Ç) [62,123,58]).2.1=i+1:=by
 unfold gF jv;simp only[Î,if_false];cases a:(iV B)[i]? with
 |none=>exact⟨st,B1 a,Ó ⟨84,[],h.C,A⟩⟩|some c=>
  have e:=h.I a;unfold ki at e;simp only[h.C,show(84:Int)≠82 by decide,show(84:Int)≠66 by decide,if_false,if_true,zO]at e;by_cases q:c∈([62,123,58]:List Int);simp only[q,if_true];have:(BP c:Int)=(([62,123,58]:List Int).idxOf c:Nat)+1/\BP c≠0:=by revert q;simp only[eK,dr,or_false];rintro(rfl|rfl|rfl)<;>decide
  rw[if_neg this.2,this.1]at e;exact⟨_,⟨U,by show st.d.vj _ _=_;rw[h.d],λ_ _ z=>é 0 z.1⟩,U,U,e,trivial⟩;simp only[q,if_false];have:BP c=0:=by unfold BP;simp at q;simp[q]
  rw[if_pos this]at e;exact⟨st,e,Í (vt (st:=st) a).1⟩
end
section
variable{st:PS}{tl j:List Int}{d m:PD}{E o:RS}{l:List PR}
def atH:∀k:Nat,k<3->∀h∈qN (k+1),k≠1->h∈uj Ì:=A
theorem atI(a:pF B i [120,84] d st)(m:d.C=Ì)(n:d.N=PD.zH):Gs B i st (pD B (i,Ç)).2 [] {d with N:=(pD B (i,Ç)).1}:=by
 let⟨o,on,p,r,t⟩:=d;obtain rfl:r=Ì:=m;obtain rfl:t=PD.zH:=n;refine(ac5 (tl:=[84]) a (show(120:Int)∈uj Ì by decide) U).C (λe=> ?_) λe s u=> ?_;all_goals
  unfold pD;generalize(ly B 120 (i,Ç)).1=x at*;generalize(ly B 120 (i,Ç)).2=E at*;let⟨f,b⟩:=E;subst e
 exact Kl _ _;have g:=atG u;generalize j:gF B (f,Ç) [62,123,58]=q at*;let⟨k,C,b⟩:=q;cases b with
 |true=>
  obtain rfl:k=0:=by unfold gF at j;grind
  simp only[if_true]at g;unfold Gs BX;simp only[show(0:Nat)≠1 by decide,if_false,Kl,if_true];exact g|false=>
  obtain⟨e,s,v,w,l,rfl⟩:=g;have y:k<3:=by unfold gF at j;grind
  have c:e.d=⟨o,on,p,Ì,⟨[x,0,0,0,(k:Int)+1],⟨#[]⟩⟩⟩:=s.d;unfold BX;by_cases z:k=1;subst z;rw[if_pos U];have:=ac6 (B:=B) 40 (f+1) e s.C w c Z Z;rw[v]at this;unfold Gs yn at*;rw[l];exact this;rw[if_neg z];have:=Vx (B:=B) (tl:=[]) (qN<|k+1) e.d (f+1) e ⟨by rw[ep];exact s.C,U,s.M⟩ (by rw[c];exact λh f=>atH k y h f z) (by rw[c];rfl);rw[c]at this;unfold Gs yn at*;rw[l];exact this
def Eg(B:ByteArray)(i:Nat)(st:PS)(l:List PR)(zQ:PR×RS):Prop:=if zQ.2.2 then yn B i st zQ.2.1 else∃s,pR B i st=pR B zQ.2.1 s/\(s.C=[]\/s.C=[66])/\Nd B zQ.2.1 s/\s.d.I=l++[zQ.1]/\s.d.Y=l/\∀c,(iV B)[zQ.2.1]?=Ã c->c≠59->pR B zQ.2.1 s=(zQ.2.1,s)
theorem ac7{s:PS}(h:pF B i [] d s)(a:(iV B)[i]?=Ã c)(b:c≠59)(f:c=44->¬(0<d.S.length/\d.S.length<8)):pR B i s=(i,s):=by have e:=h.I a;unfold ki rF at e;simp only[h.C,h.d]at e;grind
def ac8:∀(n:Nat)(d:PD)(i:Nat)(st:PS),pF B i [120,84] d st->d.C=Ì->d.N=PD.zH->d.r=Ì->d.M.r.length+n=8->0<n->Eg B i st d.Y (⟨d.M.c,(pZ B n d.M.r (i,Ç)).1⟩,(pZ B n d.M.r (i,Ç)).2)
 |n+1,d,i,st,h,h1,h2,h3,h4,_=>by
  have l:=atI h h1 h2;simp only[pZ,Î,if_false];generalize pD B (i,Ç)=t at*;let⟨t,f,b⟩:=t;cases b with
  |true=>
   rwa[if_neg (by simp[jv])]|false=>
   let⟨s,a,k⟩:=l;have g:({d with N:=t}:PD).S=d.M.r++[t]:=by rw[PD.S,h1];rfl
   dsimp only at a k|-;by_cases z:jv B (f,Ç)=Ã 44/\n≠0;rw[if_pos z];have j:(iV B)[f]?=Ã 44:=z.1;have e:=a.I j;unfold ki rF at e;simp only[a.C,a.d]at e;rw[if_neg λq=>absurd q.1 A,if_pos ⟨trivial,by rw[g];simp,by rw[g];simp;omega⟩]at e;rw[show gF B (f,Ç) [44]=(0,f+1,Ç) by simp[gF,jv,j]];show Eg B i st d.Y (⟨d.M.c,(pZ B n (d.M.r++[t]) (f+1,Ç)).1⟩,(pZ B n (d.M.r++[t]) (f+1,Ç)).2);rw[<-g];unfold Eg yn at*;rw[k,e];exact(ac8 n ({d with N:=t}:PD).K (f+1) ⟨[120,84],0,s.I,s.M,({d with N:=t}:PD).K⟩ ⟨U,U,λ_ _ z=>é 0 z.1⟩ U U h3 (by show(({d with N:=t}:PD).S).length+n=8;rw[g];simp;omega) Z);rw[if_neg z];refine⟨s,k,Í a.C,a.M,?_,by rw[a.d],λc j e=>ac7 a j e λq=> ?_⟩;rw[a.d];rw[PD.I,g];simp only[h3,if_true];subst q;have:n=0:=Ć λy=>z ⟨j,y⟩;rw[g];simp;omega
def atJ:∀c∈kS,qM c=Ì:=A
def ac9:∀(f k:Nat)(st:PS),k<=B.size->(qO B f k st).1<=B.size
 |0,_,_,h=>h
 |f+1,k,st,h=>by
  unfold qO;split;rename_i a;cases uf B k st (B[k].toNat:Int)with|none=>exact h|some s=>exact ac9 f (k+1) s a
  exact h
def ada(h:i<=B.size):(pR B i st).1<=B.size:=ac9 _ _ _ h
def atK:∀k:Nat,k<9->ua (k+1)=tj k++(if k=0 then[66]else[])/\∀h∈tj k,h∈uj Ç:=A
def atL:∀c∈mh,vi c=(mh.idxOf c:Nat)+1:=A
def atM(h:pF B i [82] d st):Eg B i st d.I (nD B (i,Ç)):=by
 unfold nD gF jv;simp only[Î,if_false];cases o:(iV B)[i]? with
 |none=>exact⟨st,B1 o,Ó ⟨82,[],h.C,A⟩⟩|some c=>
  have e:=h.I o;unfold ki zN at e;simp only[h.C,h.d,if_true]at e;by_cases q:c∈mh;simp only[q,if_true,Î,if_false];rw[atL c q,if_neg Z]at e;have H:mh.idxOf c<9:=ÿ q;generalize mh.idxOf c=k at*;let⟨I,l⟩:=atK k H;have t:=Vx (B:=B) (tl:=if k=0 then[66]else[]) (tj k) (d.wS<|(k:Int)+1) (i+1) ⟨ua<|k+1,0,st.I,st.M,d.wS<|(k:Int)+1⟩ ⟨I,U,λ_ _ z=>é 0 z.1⟩ l U;have w:∀c,((d.wS<|(k:Int)+1).ui c).I=d.I++[⟨c,[]⟩]:=λ_=>U;rw[show(d.wS<|(k:Int)+1).gC=(PD.BR ((k+1:Nat):Int)).c from rfl]at t;generalize rJ B (tj k) (PD.BR ((k+1:Nat):Int)).c (i+1,Ç)=p at*;let⟨x,a,b⟩:=p;cases b with
  |true=>
   unfold Gk;rw[if_pos<|Ó<|Í U];unfold Eg yn;rwa[e]|false=>
   let⟨s,n,r⟩:=t;have m:=n.d;have E:pR B i st=pR B a s:=e.trans r;unfold Gk;by_cases z:k=0;subst z;simp only[ne_eq,not_true,false_or,Î];have C:s.C=[66]:=n.C;by_cases y:a=B.size\/jv B (a,Ç)=Ã 59;rw[if_pos y];refine⟨s,e.trans r,Ó C,n.M,by rw[m];exact w x,by rw[m];rfl,λj f u=> ?_⟩;obtain y|y:=y;subst y;exact absurd (vt (st:=st) f).1<|Nat.lt_irrefl _;have:(iV B)[a]?=Ã 59:=y;rw[this]at f;cases f;exact absurd U u;rw[if_neg y];have D:=ac8 (B:=B) 8 s.d.K a ⟨[120,84],0,s.I,s.M,s.d.K⟩ ⟨U,U,λ_ _ z=>é 0 z.1⟩ U U (by rw[m];rfl) (by rw[m];rfl) A;cases f:(iV B)[a]? with
   |none=>
    have g:=ada (B:=B) (st:=st)<|dp (vt (st:=st) o).1;rw[E,B1 f]at g;rw[ym]at f;split at f;cases f;have:a<=B.size:=g;omega
   |some j=>
    have F:jv B (a,Ç)=Ã j:=f;have l:=n.I f;unfold ki rF at l;simp only[C,show(66:Int)≠82 by decide,if_false,if_true]at l;by_cases g:qM j=Ì;rw[if_pos g]at l;have v:=pF.I (st:=⟨[120,84],0,s.I,s.M,s.d.K⟩) ⟨U,U,λ_ _ z=>é 0 z.1⟩ f;unfold ki at v;simp only[show(120:Int)≠82 by decide,show(120:Int)≠66 by decide,show(120:Int)≠84 by decide,show(120:Int)≠80 by decide,if_false,show oL 120 j=qM j from rfl,g,if_true]at v;have G:pR B a s=pR B a ⟨[120,84],0,s.I,s.M,s.d.K⟩:=l.trans v.symm;rw[m]at D G;unfold Eg yn at*;rwa[E,G];rw[if_neg g,if_neg (show¬(j=59/\_)from λq=>y<|Ó<|q.1▸F),if_neg (λq=>by rw[m]at q;exact absurd q.2.1<|by show¬0<([]:List PT).length;decide)]at l;have v:ly B 120 (a,Ç)=(0,a,Ì):=by show(((gF B (a,Ç) kS).1:Int),(gF B (a,Ç) kS).2)=_;have:j∉kS:=λq=>g<|atJ j q;simp[gF,F,this]
    have G:(pZ B 8 [] (a,Ç)).2=(a,Ì):=by
     have J:(pD B (a,Ç)).2=(a,Ì):=by unfold pD;rw[v];exact Kl _ _
     unfold pZ;rw[J];rfl
    unfold Eg;rw[G];exact⟨s,(e.trans r).trans l,Í (vt (st:=s) f).1⟩
   .rw[if_pos<|Í z];have g:pF B a [] ((d.wS<|(k:Int)+1).ui x) s:=by have:=n;rwa[if_neg z]at this
    exact⟨s,e.trans r,Í g.C,n.M,by rw[m];exact w x,by rw[m];rfl,λj f u=>ac7 g f u λ_ q=>absurd q.1<|by show¬0<([]:List PT).length;decide⟩
  .simp only[q,if_false];have:vi c=0:=by
    unfold vi;simp[mh]at q;simp[q]
   rw[if_pos this]at e;exact⟨st,e,Í (vt (st:=st) o).1⟩
def adb:∀(n:Nat)(d:PD)(i:Nat)(st:PS),i<=B.size->pF B i [82] d st->d.I.length+n=24->0<n->BY B n i d.I=if(pR B i st).1=B.size/\((pR B i st).2.C=[]\/(pR B i st).2.C=[66])then((pR B i st).2.d.I,-1)else([],((pR B i st).1:Int))
 |n+1,d,i,st,ha,h,hn,_=>by
  have r:=atM h;have t:=ada (st:=st) ha;unfold BY;generalize nD B (i,Ç)=q at*;let⟨q,e,b⟩:=q;cases b with
  |true=>
   let⟨s,g,a⟩:=r;simp only[if_true,g];rw[if_neg];rintro⟨l,f⟩;obtain a|⟨h,tl,a,j⟩:=a;exact absurd l<|Nat.ne_of_lt a;rw[a]at f;simp[j]at f|false=>
   let⟨s,g,a,j,m,l,u⟩:=r;simp only[Î,if_false]at*;by_cases z:e=B.size;rw[g,(B1 (B:=B) (k:=e) (st:=s)<|by rw[ym,dif_neg Z]),if_pos z,if_pos ⟨z,a⟩,m];rw[if_neg z];have o:∃c,(iV B)[e]?=Ã c/\e<B.size:=by
    cases f:(iV B)[e]? with
    |none=>
     rw[g,B1 f]at t;rw[ym]at f;split at f;cases f;exact absurd t<|by show¬e<=B.size;omega
    |some c=>exact⟨c,U,(vt (st:=st) f).1⟩
   let⟨c,f,o⟩:=o;have v:jv B (e,Ç)=Ã c:=f;rw[v];by_cases y:c=59/\n≠0;rw[if_pos ⟨by rw[y.1],y.2⟩];obtain⟨rfl,x⟩:=y;have p:pR B e s=pR B (e+1) ⟨[82],0,s.I,s.M,s.d⟩:=by rw[pF.I (st:=s) ⟨U,U,j⟩ f];unfold ki rF;obtain a|a:=a;simp only[a];rw[if_pos ⟨trivial,by rw[l];omega⟩];simp only[a,show(66:Int)≠82 by decide,if_false,if_true,show qM 59=Ç by decide,Î];rw[if_pos ⟨trivial,by rw[l];omega⟩]
   rw[g,p,<-m];exact(adb n s.d (e+1) ⟨[82],0,s.I,s.M,s.d⟩ o ⟨U,U,λ_ _ z=>é 0 z.1⟩ (by rw[m];simp;omega) Z);rw[if_neg λq=>y ⟨dh q.1,q.2⟩];have p:pR B e s=(e,s):=by by_cases x:c=59;subst x;rw[pF.I (st:=s) ⟨U,U,j⟩ f];unfold ki rF;obtain a|a:=a;simp only[a];rw[if_neg (by rw[l];omega),if_neg λq=>absurd q.1 A];simp only[a,show(66:Int)≠82 by decide,if_false,if_true,show qM 59=Ç by decide,Î];rw[if_neg (by rw[l];omega),if_neg λq=>absurd q.1 A];exact u c f x
   rw[g,p,if_neg λq=>z q.1]
theorem Vy(h:¬1200<B.size):BZ B=if(iC B).1=0 then((iC B).2.2,-1)else([],(iC B).2.1):=by unfold iC ny BZ;rw[if_neg h];by_cases a:B.size=0;simp[a];have e:=adb (B:=B) 24 Ua 0 vk (eD _) ⟨U,U,λ_ _ z=>é 0 z.1⟩ U A;rw[if_neg a,if_neg a];rw[show Ua.I=[]from U]at e;rw[e];unfold pR oz;grind
end
end me
namespace gO
open RowKit Lift jg me
def ade{s:List gf}:∀n,n<=s.length->((pA s).take n).foldl zC (0,s.getD 0 kh)=(0,s.getD (qn s n) kh)
 |0,_=>rfl
 |n+1,h=>by
  have e:(pA s)[n]?=Ã (0,s.getD n kh):=by rw[pA,dN,fe (show n<s.length by omega)];simp[ñ,show n<s.length by omega]
  rw[cD,e,cg,b9,ade n Z];simp only[dS,List.foldl_nil,zC,qn];split<;>rfl
theorem Km{s:List gf}{v:Int}(b:0<s.length)(d:-1<=v):pn (pA s) v=if sD s v<0 then Å else Ã (0,s.getD (sD s v).toNat kh):=by
 have f:(pA s).length=s.length:=by simp[pA]
 have c:∀i,i<s.length->(pA s)[i]?=Ã (0,s.getD i kh):=λi g=>by unfold pA;grind
 unfold pn sD;by_cases e:v=-1;subst e;have a:=ade (s:=s) s.length<|eE _;rw[eG Z]at a;rw[if_pos U,if_neg (show¬(s.length:Int)<=-1 by omega),if_neg (show¬(0:Int)<=-1 by decide),if_neg Z,c 0 b,dT,dO];exact congrArg Ã a;grind
section
variable{r:PR}{p:VR}{x y:Nat}{k:Int}
def atN(q:B4 gS 1)(t:ic p.1.s)(u:r.c.getD 0 0=x)(hy:r.c.getD 1 0=y)(B:r.c.getD 3 0=k)(Q:x<8)(S:y<8)(T:0<=k)(ni:k<1000000): Ü Á 71 #[Ú (j0 r v).toArray,Ú (gU p).toArray] w λe V=>e=É (Ï<|tZ p.1.s x y k 0 401)/\fw fB w V:=by
 have D:fw fB w ((w.alloc<|Ñ (j0 r v).toArray 127).alloc<|Ñ (gU p).toArray 116):=(fw.gP fB w (j0 r v).toArray 127).fA<|fw.gP fB _ (gU p).toArray 116;have b:=(fy.N w (j0 r v) 127).C (fw.gP fB _ (gU p).toArray 116) id;have d:=fy.N (w.alloc<|Ñ (j0 r v).toArray 127) (gU p) 116;have F:(w.alloc<|Ñ (j0 r v).toArray 127).heap.size=w.heap.size+1:=fD;rw[F]at d;have l:=fv<|À D<|À b d;obtain⟨R,n⟩:∃R,tZ p.1.s x y k 0 401=R:=⟨_,U⟩;rw[n];have f:=fv<|À q<|À t<|À n<|À u<|À hy B;clear D b d F q t n u hy B;go_enter Tryz.func71,Tryz.ntmps71;go_upto_region 1 with(first|(with_reducible refine Ë U (Ã 2) U _ _ (oJ U U) ?_)|(with_reducible refine Ë U (Ã 3) U _ _ (oJ U U) ?_;generalize(w.alloc (Ñ (j0 r v).toArray 127)).alloc (Ñ (gU p).toArray 116)=wa at*))
 go_wp2_with fail
 generalize w.heap.size=qb at*;go_loopw [5] (λi wr=>∃j:Nat,j<=401/\i=Â Ä j/\fw fB wa wr/\tZ p.1.s x y k j (401-j)=R) λi _=>401-(ó i).toNat
 case atStart=>exact⟨0,eD _,U,fw.gy _ _,f.2.2.1⟩
 case round=>
  obtain⟨j,hj,rfl,g,a⟩:=hrel;by_cases W:j<401
  .have b:=l.2.1.C g id;have d:=l.2.2.C g id;have G:=b.r 3 _ U;have I:=b.r 4 _ U;have J:=b.r 7 _ U;rw[f.oQ.2.2.2.1]at G;rw[f.oQ.2.2.2.2.1]at I;rw[f.oQ.2.2.2.2.2]at J;rw[show 401-j=(401-(j+1))+1 by omega,tZ]at a;have H:=fv<|À g<|À a<|fy.Y d;obtain⟨E,K⟩:∃E,gS p.1.s [] x y j k=E:=⟨_,U⟩;have C:=f.1 p.1.s (È Å 0 0) [] x y j k wr (ie.C _ _) f.2.1 Q S Z Z ⟨T,Z⟩ (by show(0:Int)+j<=_;omega);rw[K]at C H;have X:=fv C;clear g a b d C K;go_upto_region 5 with(first|(refine tg sG rK (iM _) H.2.2 ?_)|(go_at_call 122;apply Ù X;rintro e Y ⟨pE,nE,cE,rfl,L,hr4⟩;clear hr4)|(refine zW Gm (oO E (È pE nE cE)) (yp _ _) (Ee _ U) ?_;intro w5 M N z5))
   have O:=M.r 145 _<|B5 1 U;generalize Y.heap.size=eb at*;have P:=fv<|(H.1.fA L).fA N;clear M L N z5 G I J;cases m:E.C
   .rw[m]at O;have a:=H.2.1;rw[m]at a;have o:=fv a;clear a;go_wp2;go_roundw
    case rel=>exact⟨j+1,W,by go_num,P,fN o.oQ⟩
    case measure=>
     simp[ó];omega
   rw[m]at O;have a:=H.2.1;rw[m,if_pos U]at a;have o:=fv a;clear a;go_wp2_with (go_at_call 69;refine iT (yk j Z _) ?_);go_ret;exact⟨congrArg (λz=>É<|Ï z) o,l.1.fA P⟩
  .obtain rfl:j=401:=Z;have H:=fv<|À g a;clear g a;go_wp2;go_ret;exact⟨congrArg (λz=>É<|Ï z) H.2,l.1.fA H.1⟩
end
def Vz{b:ByteArray}(h:B.data.toList=b.data.toList):B=b:=by let⟨⟨B⟩⟩:=B;let⟨⟨b⟩⟩:=b;cases h;rfl
def VA:gR 0=⟨#[48]⟩/\gR 1=⟨#[49]⟩:=⟨NO 0 A,NO 1 A⟩
def atO{E:mU}(h:E.C=Ç)(a:E.M=0)(b:E.I=[]):yd E=⟨#[48,44,48,44]⟩++gR E.r.toNat:=by rw[yd,h,a,b];apply Vz;simp[lG,BJ,nu,VA.1]
def atP{E:mU}(h:E.C=Ì):yd E=if E.I.length=0 then((⟨#[49,44]⟩++gR E.M.toNat)++⟨#[44]⟩)++gR E.r.toNat else((((⟨#[49,44]⟩++gR E.M.toNat)++⟨#[44]⟩)++gR E.r.toNat)++⟨#[44]⟩)++jU (E.I.map kO):=by
 rw[yd,h];cases b:E.I with
 |nil=>
  apply Vz;simp[lG,BJ,nu,VA.2]|cons a l=>
  apply Vz;simp[lG,BJ,jU,nu,VA.2]
section
variable{r:PR}{p:VR}{x y g:Nat}{k:Int}
def atQ(hR:B4 gS 1)(I:ic p.1.s)(hx:r.c.getD 0 0=x)(hy:r.c.getD 1 0=y)(hg:r.c.getD 2 0=g)(hk:r.c.getD 3 0=k)(T:x<8)(V:y<8)(rz:g<1000000)(wG:0<=k)(ni:k<1000000): Ü Á 70 #[Ú (j0 r v).toArray,Ú (gU p).toArray] w λe J=>e=É (Ï<|if 400<g then pK 6 else yd (gS p.1.s [] x y g k))/\fw fB w J:=by
 have k1:fw fB w ((w.alloc<|Ñ (j0 r v).toArray 127).alloc<|Ñ (gU p).toArray 116):=(fw.gP fB w (j0 r v).toArray 127).fA<|fw.gP fB _ (gU p).toArray 116;have m:=(fy.N w (j0 r v) 127).C (fw.gP fB _ (gU p).toArray 116) id;have X:=fy.N (w.alloc<|Ñ (j0 r v).toArray 127) (gU p) 116;have n9:(w.alloc<|Ñ (j0 r v).toArray 127).heap.size=w.heap.size+1:=fD;rw[n9]at X;have c3:=m.r 3 _ U;have c4:=m.r 4 _ U;have c6:=m.r 6 _ U;have c7:=m.r 7 _ U;rw[hx]at c3;rw[hy]at c4;rw[hg]at c6;rw[hk]at c7;have N:=fv<|À k1<|fy.Y X;have H0:Ø.wrap k=k:=sj wG Z;clear k1 m X n9 hx hy hg hk;by_cases xc:400<g
 .rw[if_pos xc];have atS:(400:Int)<g:=Z;go_enter Ō,Ł;go_wp2_with (first|(with_reducible refine Ë U (Ã 2) U _ _ (oJ U U) ?_)|(with_reducible refine Ë U (Ã 3) U _ _ (oJ U U) ?_;generalize(w.alloc<|Ñ (j0 r v).toArray 127).alloc (Ñ (gU p).toArray 116)=wa at*)|(go_at_call 67;refine iT (JS 6 Z _) ?_))
  go_ret;exact⟨U,N.1⟩
 .rw[if_neg xc];have atS:¬(400:Int)<g:=Z;have Y:gL k:=⟨wG,Z⟩;obtain⟨E,hE⟩:∃E,gS p.1.s [] x y g k=E:=⟨_,U⟩;have C:=λW=>hR p.1.s (È Å 0 0) [] x y g k W (ie.C _ _) I T V Z Z Y (by show(0:Int)+g<=_;omega);have j:=FQ p.1.s [] x y g k I T V Y Z Z (by show(0:Int)+g<=_;omega);have lg:=Nc p.1.s [] x y g k I T V Y Z Z (by show(0:Int)+g<=_;omega) (λ_ h=>by cases h);have O:=N8 4 p.1.s [] x y g k;change(gS _ _ _ _ _ _).C=Ç->(gS _ _ _ _ _ _).M=_/\(gS _ _ _ _ _ _).s=_/\(gS _ _ _ _ _ _).I=_ at O;rw[hE]at j lg O|-;simp only[hE]at C;have n:=j.C;have o:=j.r;have f:=j.I;let⟨t,B⟩:=j.M;obtain⟨R,hX⟩:∃R,yd E=R:=⟨_,U⟩;rw[hX];have d:=fv<|À C<|À lg<|À O hX;clear C j lg O hE hR I hX;go_enter Ō,Ł;go_upto_region 4 with(first|(with_reducible refine Ë U (Ã 2) U _ _ (oJ U U) ?_)|(with_reducible refine Ë U (Ã 3) U _ _ (oJ U U) ?_;generalize(w.alloc<|Ñ (j0 r v).toArray 127).alloc (Ñ (gU p).toArray 116)=wa at*)|(refine tg sG rK (iM _) N.2 ?_)|(go_at_call 122;apply Ù (d.1 _);rintro e w4 ⟨pE,nE,cE,rfl,k4,hr4⟩)|(refine zW Gm (oO E (È pE nE cE)) (yp _ _) (Ee _ U) ?_;intro D F k5 z5))
  obtain⟨u,hu⟩:∃u:Nat,E.r=u:=⟨E.r.toNat,Z⟩;obtain⟨G,hv⟩:∃u:Nat,E.M=u:=⟨E.M.toNat,Z⟩;have g1:=F.r 145 _<|B5 1 U;have g2:=F.r 146 _<|B5 2 U;have g3:=F.r 147 _<|B5 3 U;rw[hu]at g3 n o f;rw[hv]at g2 t B;have hwu:Ø.wrap (u:Int)=u:=sj Z Z;have P:=pw u Z;have Q:=pw G Z;have g0:=F.r 144 _<|B5 0 U;generalize w4.heap.size=eb at*;have S:=fv<|(N.1.fA k4).fA k5;have HR:=fv λq=>(hr4 q).fH k5;clear F k4 k5 z5 c3 c4 c6 c7 hr4;cases i:E.C
  .have a:=atO i (d.2.2.1 i).1 (d.2.2.1 i).2.2;rw[hu,dO,d.oQ.2.2.2]at a;rw[i]at g1;have l:=fv a;clear a;go_wp2_with (go_at_call 69;refine iT (yk u Z _) ?_);go_ret;exact⟨congrArg (λz=>É<|Ï z) l.symm,S⟩
  have a:=atP i;rw[hu,hv,dO,dO,d.oQ.2.2.2]at a;rw[i]at g1;have vC:=HR i;obtain rfl:nE=E.I.length:=by let⟨_,_,e,_⟩:=vC;cases e;rfl
  have HW:=fv vC;clear vC;go_upto_region 6 with fail;generalize Ú (oO E<|È pE E.I.length cE).toArray=ag1 at*;generalize Ú (gI p.1.s).toArray=ag2 at*;generalize Ú (j0 r v).toArray=ag3 at*;generalize Ú (gU p).toArray=ag4 at*;generalize uQ:gR G=D1 at*;generalize ry:gR u=D2 at*;have C1:=λW=>yk G Z W;have C2:=λW=>yk u Z W;rw[uQ]at C1;rw[ry]at C2;have H1:=fv C1;have H2:=fv C2;have s1:¬9223372036854775807<2+D1.size:=Z;have s2:¬9223372036854775807<2+D1.size+1:=Z;have s3:¬9223372036854775807<2+D1.size+1+D2.size:=Z;have HZ:=fv<|À P<|À Q<|À n<|À o<|À f<|À t<|À B a;clear C1 C2 uQ ry P Q n o f t B a;have b:=fv (show D.drew.cell? ⟨eb,146,Å⟩=Ã (Â Ø G)/\D.drew.cell? ⟨eb,147,Å⟩=Ã (Â Ä u)from⟨g2,g3⟩);go_cut [6] λz wc=>z=Ï (((⟨#[49,44]⟩++D1)++⟨#[44]⟩)++D2)/\wc=D.drew
  case first=>
   refine mI (λJ=>J.cell? ⟨eb,146,Å⟩=Ã (Â Ø G)/\J.cell? ⟨eb,147,Å⟩=Ã (Â Ä u)) [] fK ?_;generalize D.drew=wd at*;clear g0 g1 g2 g3 d N HW HR S HZ;iterate 2 apply tk b
   apply tk b 5;apply tk b 6;apply tk b 7;apply np 2;intro K H;refine N7 (Ù (H1 _) ?_) U (by go_simp);rintro e w6 ⟨rfl,rfl⟩;refine⟨_,U,H.out _ _ (λ_=>b) ?_⟩;clear H K;apply tk b 3;apply tk b 4;apply np 8;intro K H;refine N7 (Ù (H2 _) ?_) U (by go_simp);rintro e w6 ⟨rfl,rfl⟩;refine⟨_,U,H.out _ _ (λ_=>b) ?_⟩;clear H K;apply tk b 9;apply tk b 10;refine ma ?_;go_wp2;go_meet
   case rel=>exact⟨U,U⟩
  case rest=>
  obtain⟨rfl,rfl⟩:=hcut;let⟨P,Q,n,o,f,t,B,a⟩:=HZ.oQ;by_cases h0:E.I.length=0
  .rw[if_pos h0]at a;have l:=fv a;clear a;rw[h0]at g0;go_wp2;go_ret;exact⟨congrArg (λz=>É<|Ï z) l.symm,S.fA<|fw.gM _ _⟩
  rw[if_neg h0]at a;have ao3:(0:Int)<E.I.length:=Z;have yr:=NQ (xs:=E.I.map kO) (M:=21) (λz hz=>by obtain⟨e,he,rfl⟩:=cI.1 hz;exact F2 (d.2.1 e he).2) A (by rw[dw];simp only[ä]at f;omega);have L:=ab7 (HW.fH<|fw.gM fB D) (by simp only[ä]at f;omega) d.2.1;generalize jU (E.I.map kO)=D3 at*;have s4:¬9223372036854775807<2+D1.size+1+D2.size+1:=Z;have s5:¬9223372036854775807<2+D1.size+1+D2.size+1+D3.size:=Z;have l:=fv<|À a L;clear a L P Q yr n o f t B;go_wp2_with (go_at_call 75;refine gl l.2 λw6 ⟨m6,Mc⟩=> ?_;subst Mc);go_ret;exact⟨congrArg (λz=>É<|Ï z) l.1.symm,S.fA<|fw.iQ _ _ _⟩
end
end gO
namespace jg
open Conc RowKit Lift gO fO me
open Conc.Lib ConcR.Gen YtgpphkdoanciiabGreatDoor
def Gu(r:PR):Int×Nat×List Tx:=(r.c.getD 5 0,(r.c.getD 0 0).toNat,r.r.map toTx)
def vw(r:PR)(s:List gf):ByteArray:=if r.c.getD 4 0=1 then(sW (pA s) (Gu r).1 (Gu r).2.1 (Gu r).2.2).2 else vh (pA s) (toQn r)
def xd(s:List gf)(r:PR):List gf:=if r.c.getD 4 0=1 then BO s (Gu r)else s
def om(s:List gf)(rs:List PR):List gf:=rs.foldl xd s
def adf{kd:Nat->Int}(h:kd i=1):∀n,i<n->(iP kd n).getD (gw kd i) 0=i
 |0,q=>by omega
 |n+1,q=>by
  have a:i<n->∀x,(iP kd n++x).getD (gw kd i) 0=i:=λz x=>by
   have b:gw kd i<(iP kd n).length:=by
    have e:∀m,i+1<=m->(iP kd<|i+1).length<=(iP kd m).length:=λm=>by
     induction m with
     |zero=>intro z;omega|succ m c=>
      intro z;obtain y|y:=ey i m;apply Ö (c y);by_cases q:kd m=1;rw[uR q];simp;rw[xN q];exact eE _;rw[show m=i by omega];exact eE _
    have:=e n z;rw[uR h]at this;unfold gw;simp at this;omega
   have:=adf h n z;simp only[ñ,eR b]at this|-;exact this
  by_cases z:i<n;by_cases q:kd n=1;rw[uR q];exact a z _;rw[xN q];have:=a z [];rwa[ep]at this;obtain rfl:i=n:=Z;rw[uR h];simp[ñ,gw]
section
variable{rs:List PR}{s:List gf}{P:ByteArray}
def VB:∀p,p<=rs.length->rE (wW rs) (iP (mD rs) rs.length) s (gw (mD rs) p)=om s (rs.take p)
 |0,_=>by simp[gw,iP,rE,om]
 |p+1,h=>by
  have a:=VB p Z;have b:rs.take (p+1)=rs.take p++[rs.getD p rI]:=by rw[cD];congr 1;simp[ñ,show p<rs.length by omega]
  unfold om at a|-;rw[b,b9,<-a];show _=xd _ _;unfold xd;by_cases q:mD rs p=1;rw[if_pos (show(rs.getD p rI).c.getD 4 0=1 from q)];have e:gw (mD rs) (p+1)=gw (mD rs) p+1:=by unfold gw;rw[uR q];simp
  rw[e];show BO _ _=_;rw[adf q _ Z];rfl;rw[if_neg (show¬(rs.getD p rI).c.getD 4 0=1 from q)];have e:gw (mD rs) (p+1)=gw (mD rs) p:=by unfold gw;rw[xN q]
  rw[e]
def atT(h:i<rs.length):(kP rs s)[i]?=Ã (vw (rs.getD i rI)<|om s<|rs.take i):=by rw[kP,dN,dW h,dT,VB i Z];rfl
theorem adg:zU rs s=om s rs:=by rw[zU,VB _<|eE _,Ģ]
theorem atU(h:iC B=(0,0,rs)):kF s B=(lG ⟨#[59]⟩<|kP rs s,0,om s rs):=by unfold kF;grind [adg]
end
def atV(a:ByteArray)(l:List ByteArray)(x:ByteArray):nu a (l++[x])=nu a l++(a.data.toList++x.data.toList):=by simp[nu]
def atW(l:List ByteArray)(x:ByteArray):lG ⟨#[59]⟩ (l++[x])=(if l.length=0 then lG ⟨#[59]⟩ l else lG ⟨#[59]⟩ l++⟨#[59]⟩)++x:=by
 cases l with
 |nil=>exact bM<|by simp[lG,BJ,nu]|cons y r=>
  rw[if_neg fD];apply bM;show(y.data.toList++nu _ (r++[x])).toArray=_;rw[atV];simp[lG,BJ,cj]
theorem atX(h:(iC B).1=0):B.size<=1200:=by unfold iC at h;grind
theorem adh(h:(iC B).1=0):iC B=(0,0,(iC B).2.2):=by unfold iC at h|-;grind
end jg
namespace gO
open RowKit Lift jg me
section
variable{s:List gf}{r:PR}{a:Nat}
def adi{v:Int}(d:0<s.length)(e:-1<=v)(h:¬sD s v<0):∃a:Nat,sD s v=a/\a<s.length:=by unfold sD at*;split at h;exact absurd (show(-1:Int)<0 by decide) h;split at h;rename_i b c;exact⟨v.toNat,by rw[if_neg b,if_pos c];omega,Z⟩;rename_i b c;exact⟨qn s s.length,by rw[if_neg b,if_neg c],UX d _<|eE _⟩
def atY(a:0<s.length)(b:-1<=r.c.getD 5 0)(h:sD s (r.c.getD 5 0)<0):vw r s=pK 3/\xd s r=s:=by have e:=Km a b;rw[if_pos h]at e;unfold vw xd;split;simp only[Gu,sW,e,BO,sY,F3,Option.toList_none,ep,and_self];simp only[vh,toQn,e,and_self]
def atZ(d:0<s.length)(f:-1<=r.c.getD 5 0)(g:sD s (r.c.getD 5 0)=a)(b:r.c.getD 4 0=1):vw r s=(Gt s.length (s.getD a kh) r).2/\xd s r=s++(Gt s.length (s.getD a kh) r).1.toList:=by
 have e:=Km d f;rw[g,if_neg Z,dO]at e;have h:(pA s).length=s.length:=by simp[pA]
 unfold vw xd Gt;rw[if_pos b,if_pos b];simp only[Gu,BO,sY,F3,sW,e,h];cases o9 (r.c.getD 0 0).toNat (s.getD a kh).s (r.r.map toTx)<;>exact⟨U,U⟩
def at0(d:0<s.length)(f:-1<=r.c.getD 5 0)(g:sD s (r.c.getD 5 0)=a)(b:r.c.getD 4 0≠1):vw r s=qL (pA s) (s.getD a kh) (toQn r)/\xd s r=s:=by have e:=Km d f;rw[g,if_neg Z,dO]at e;unfold vw xd;rw[if_neg b,if_neg b];simp only[vh,toQn,e,and_self]
end
def at5{k:Int}(a:1<=k)(b:k<10):(k=1/\mh.getD (k-1).toNat 0=105)\/(k=2/\mh.getD (k-1).toNat 0=103)\/(k=3/\mh.getD (k-1).toNat 0=98)\/(k=4/\mh.getD (k-1).toNat 0=99)\/(k=5/\mh.getD (k-1).toNat 0=109)\/(k=6/\mh.getD (k-1).toNat 0=114)\/(k=7/\mh.getD (k-1).toNat 0=108)\/(k=8/\mh.getD (k-1).toNat 0=117)\/(k=9/\mh.getD (k-1).toNat 0=100):=by have:k=1\/k=2\/k=3\/k=4\/k=5\/k=6\/k=7\/k=8\/k=9:=Z;obtain rfl|rfl|rfl|rfl|rfl|rfl|rfl|rfl|rfl:=this<;>decide
structure ON(y:Nat)(av:Ê)(ps:List VR)(qb vb:Nat)(r:PR)(tv:Ê)(p:VR)(w0 w:Ô):Prop where
 C:RA y av ps w
 q:fy qb (j0 r tv) 127 w
 v:fy vb (gU p) 116 w
 kp:fw fB w0 w
def adj(h:∀x∈vX,0<x.size)(w:Ô):Ü Á 74 #[Ï<|jU vX] w λe a=>e=É (Ï<|wO vX)/\a=w:=by have:=abY (jU vX) w;rwa[ab5 h]at this
def at6(h:ya gJ):∀x∈gJ.map kO,0<x.size:=λx a=>by obtain⟨e,b,rfl⟩:=cI.1 a;exact ab6 (h e b).1
section
variable{y qb vb:Nat}{av:Ê}{ps:List VR}{p:VR}{w0 w':Ô}{r:PR}{tv:Ê}{s:List gf}
def ON.fH(h:ON y av ps qb vb r tv p w0 w)(k:fw fB w w'):ON y av ps qb vb r tv p w0 w':=⟨h.C.fH k,h.q.C k id,h.v.C k id,h.kp.fA k⟩
def ON.fC(h:ON y av ps qb vb r tv p w0 w)(a:i<8):w.cell? ⟨vb,i,Å⟩=Ã (Â Ø (p.1.s i).fC):=h.v.r _ _<|by show(gI p.1.s++_)[i]?=_;rw[eR (by rw[iM];omega),vo _ Z,D8 a]
def ON.aaE(h:ON y av ps qb vb r tv p w0 w)(b:i<8)(a:k<16):w.cell? ⟨vb,16+i*16+k,Å⟩=Ã (Â Ø<|(p.1.s i).r k):=h.v.r _ _<|by show(gI p.1.s++_)[16+i*16+k]?=_;rw[eR (by rw[iM];omega),vo _ Z,NR a]
def ON.wE(h:ON y av ps qb vb r tv p w0 w):w.cell? ⟨vb,145,Å⟩=Ã p.2.1:=h.v.r _ _<|tf 1 U
def RA.M(h:RA y av ps w)(f:ps[i]?=Ã p):∃b c,av=È (Ã ⟨b,0,Å⟩) ps.length c/\w.rangeAt b (i*148) (gU p):=by let⟨b,c,e,g⟩:=h.I f;exact⟨b,c,e,λd v j=>g d v j⟩
def at7(h:RA y av ps w)(F:ps.map (·.1)=s)(G:lA s)(o:me.sC r)(ht:ie 253 tv r.r.length (p9 r.r) w): Ü Á 43 #[Æ<|Ã ⟨y,0,Å⟩,Ú (j0 r tv).toArray] w λe w'=>∃VC Oe,e=É (Ï<|vw r s)/\RA y VC Oe w'/\Oe.map (·.1)=xd s r/\fw (λi=>i=y\/av.ownBlock=Ã i) w w':=by
 have hlen:ps.length=s.length:=by rw[<-F,dw]
 have I:=G.I;have h40:=G.C;have hN:∀W v,fw fB w W->-1<=v->v<1000000->Ü Á 66 #[Æ<|Ã ⟨y,0,Å⟩,Â Ä v] W λe w'=>e=É (Â Ä<|sD s v)/\fw fB W w':=λW v k P Q=>by refine Ù (asb (h.fH k) Z Z (λp M=> ?_) v P Z) ?_;have:=(G.r p.1<|by rw[<-F];exact List.mem_map_of_mem M).2.2;omega;rintro e w' ⟨rfl,n,rfl⟩;rw[F];exact⟨U,fw.iQ _ _ _⟩
 have B:=o.c.r 5 A;have J:=o.c.r 6 A;have o0:=o.c.r 0 A;have o7:=o.c.r 7 A;have o4:=o.c.r 4 A;have C:=o.c.r 1 A;have D:=o.c.r 2 A;have o3:=o.c.r 3 A;simp only[mC]at B J o0 o7 o4 C D o3;have T:=fy.N w (j0 r tv) 127;have Y:=fw.gP fB w (j0 r tv).toArray 127;have q1:=T.r 1 _ U;have lq:=T.M;let⟨ap,VD,Kh⟩:=jj h.fE;subst Kh;have HN:=fv hN;by_cases VE:sD s (r.c.getD 5 0)<0
 .let⟨d,b⟩:=atY I B.1 VE;rw[d,b];have H:=fv<|À h<|À F Y;clear h hN F ht o G T Y d b;generalize r.c.getD 5 0=V at*;go_enter ō,ł;go_wp2_with (first|(with_reducible refine Ë U (Ã 3) U _ _ (oJ U U) ?_;generalize w.alloc (Ñ (j0 r tv).toArray 127)=wa at*)|(go_at_call 66;refine gl (HN _ _ H.2.2 B.1 B.2) λw2 m=> ?_;have K:=fv m;clear m)|(go_at_call 67;refine iT (JS 3 Z _) ?_))
  go_ret;exact⟨_,ps,U,H.1.fH<|H.2.2.fA K,H.2.1,(H.2.2.fA K).fG λ_ _=>á⟩
 .let⟨a,ha,hal⟩:=adi I B.1 VE;obtain⟨p,M⟩:∃p,ps[a]?=Ã p:=⟨_,fe Z⟩;have Jb:p.1=s.getD a kh:=by rw[<-F];simp[ñ,M]
  have Eh:=h.C p<|eU M;let⟨Jr,adk,vh0,vh1⟩:=G.r p.1 (by rw[Jb];simp[ñ,hal]);have hA:=h.fH Y;let⟨N,rc,hrv,qh⟩:=hA.M M;cases hrv;have h1p:∀v∈gU p,v.oneCell'=Ì:=by let⟨⟨_,_,d,_⟩,⟨_,_,b,_⟩,⟨_,_,z,_⟩⟩:=Eh;exact Oc (by rw[d];rfl) (by rw[b];rfl)<|by rw[z];rfl
  have HI:=fv h1p;have l:=fv<|À h<|À F<|À G<|À o<|À ht<|À Eh Jb;have O:=fv<|À hA<|À T<|À Y qh;have j:=fv<|À ha<|À Jr adk;clear h hN F ht o G T Y hA qh Eh Jr adk h1p;generalize L:r.c.getD 5 0=V at*;obtain⟨V2,Og⟩:∃V2,r.c.getD 6 0=V2:=⟨_,U⟩;rw[Og]at J;obtain⟨X,hX⟩:∃X:Nat,r.c.getD 0 0=X:=⟨(r.c.getD 0 0).toNat,Z⟩;obtain⟨S,hS⟩:∃S:Nat,r.c.getD 7 0=S:=⟨(r.c.getD 7 0).toNat,Z⟩;have Oh:X<8:=Z;have aua:S<16:=Z;have hkd:=at5 o4.1 o4.2;have P:=λe=>atZ I (by rw[L];exact B.1) (by rwa[L]) e;have Q:=λe=>at0 I (by rw[L];exact B.1) (by rwa[L]) e;have hq:toQn r=⟨X,(r.c.getD 1 0).toNat,(r.c.getD 2 0).toNat,(r.c.getD 3 0).toNat,r.c.getD 4 0,V,V2,S⟩:=by simp only[toQn,hX,hS,L,Og,dO]
  rw[<-Jb]at P Q;rw[hq]at Q;obtain⟨bn,hbn⟩:∃n:Nat,(p.1.s X).fC=n:=⟨(p.1.s X).fC.toNat,by have:=(j.2.2.fC X).1;omega⟩;obtain⟨sn,hsn⟩:∃n:Nat,(p.1.s X).r S=n:=⟨((p.1.s X).r S).toNat,by have:=(j.2.2.C X S).1;omega⟩;have aub:bn<18446744073709551616:=by have:=(j.2.2.fC X).2;omega
  have NS:sn<18446744073709551616:=by have:=(j.2.2.C X S).2;omega
  obtain⟨lp,lc,zE⟩:∃lp lc,p.2.1=È lp p.1.C.length lc:=by let⟨⟨a,b,e,_⟩,_,_⟩:=l.2.2.2.2.2.1;exact⟨a,b,e⟩
  have f:=fv<|À hX<|À hS<|À L<|À hbn<|À hsn<|À zE<|À P<|À Q Og;clear hX hS L Og VE P Q hq hbn hsn zE ha Jb;obtain⟨e,E⟩|⟨e,E⟩|⟨e,E⟩|⟨e,E⟩|⟨e,E⟩|⟨e,E⟩|⟨e,E⟩|⟨e,E⟩|⟨e,E⟩:=hkd;rotate_left 8;by_cases x6:sD s V2<0;rotate_left 2;all_goals
   go_enter ō,ł;go_wp2_with (first|(with_reducible refine Ë U (Ã 3) U _ _ (oJ U U) ?_;generalize w.alloc (Ñ (j0 r tv).toArray 127)=wa at*)|(go_at_call 66;refine gl (HN _ _ H.kp J.1 J.2) λu d=> ?_;have H:=fv<|H.fH d;clear d)|(go_at_call 66;refine gl (HN _ V O.2.2.1 B.1 B.2) λw2 m=> ?_;rw[j.oQ.1];have c0:=(O.1.fH m).r.r 0 _ U;have qh:w2.rangeAt N (a*148) (gU p):=(by let⟨_,_,e,z⟩:=(O.1.fH m).M M;cases e;exact z);have H2:=fv<|À m qh;clear m qh)|(refine sw 116 U ?_;first|refine tg Ab Aa (pY _ _ _ _) H2.2 ?_|refine tg Ab Aa (pY _ _ _ _) H.v.G ?_)|(refine zW Kf (gU p) (pY _ _ _ _) HI ?_;intro w3 hB3 IF yr;have m:ON y (È (Ã ⟨N,0,Å⟩) ps.length VD) ps w.heap.size w2.heap.size r tv p w w3:=⟨O.1.fH<|H2.1.fA IF,O.2.1.C (H2.1.fA IF) id,hB3,O.2.2.1.fA<|H2.1.fA IF⟩;have q0:=m.q.r 0 _ U;have q2:=m.q.r 2 _ U;have q3:=m.q.r 3 _ U;have q5:=m.q.r 5 _ U;have c0:=m.C.r.r 0 _ U;have l3:=m.v.M;have vb:=m.fC Oh;have vs:=m.aaE Oh aua;have vl:=m.wE;rw[E]at q0;rw[f.oQ.2.2.2.2.2.2.2.2]at q2;rw[f.oQ.1]at q3;rw[f.oQ.2.1]at q5;rw[f.oQ.2.2.2.1]at vb;rw[f.oQ.2.2.2.2.1]at vs;rw[f.oQ.2.2.2.2.2.1]at vl;have H:=fv m;clear m hB3 IF yr)|(refine tg tu sF U H.q.G ?_)|(refine tg sG rK (iM _) (fy.Y H.v) ?_)|(go_at_call 67;refine iT (JS 3 Z _) ?_)|(go_at_call 68;apply Ù (atv H.C Z (l.2.2.2.2.2.1.fH H.kp) j.2.2 Z l.2.2.2.1<|l.2.2.2.2.1.fH H.kp);rintro e u ⟨VC,Oe,rfl,m,Kn,Ko⟩;have HE:=fv<|À m<|À Kn Ko;clear m Kn Ko)|(go_at_call 69;refine iT (yk bn aub _) ?_)|(go_at_call 70;apply Ù (atQ (x:=X) (y:=(r.c.getD 1 0).toNat) (g:=(r.c.getD 2 0).toNat) (k:=(r.c.getD 3 0).toNat) Vp j.2.2 f.1 Z Z Z Oh Z Z Z Z);rintro e u ⟨m,d⟩;have H:=fv<|H.fH d;clear d;generalize hcS:(if 400<(r.c.getD 2 0).toNat then pK 6 else _)=cS at m;subst m)|(go_at_call 71;refine gl (atN (x:=X) (y:=(r.c.getD 1 0).toNat) (k:=(r.c.getD 3 0).toNat) Vp j.2.2 f.1 Z Z Oh Z Z Z) λu d=> ?_;have H:=fv<|H.fH d;clear d)|(go_at_call 72;refine iT (ar0 _ (aaF _) _) ?_)|(go_at_call 73;refine gl (ar8 j.2.2) λu d=> ?_;have H:=fv<|H.fH d;clear d)|(go_at_call 74;refine iT (adj (at6 j.2.1.C) _) ?_)|(go_at_call 75;refine gl (ab7 (by rw[<-f.oQ.2.2.2.2.2.1];exact l.2.2.2.2.2.1.C.fH H.kp) j.2.1.I j.2.1.C) λu ⟨m,hw⟩=> ?_;have d:fw fB _ u:=(by rw[hw];exact fw.iQ _ _ m);have H:=fv<|H.fH d;clear d hw)|(go_at_call 76;refine gl (ar2 (l.2.2.2.2.2.1.r.fH H.kp) (l.2.2.2.2.2.1.I.fH H.kp) j.2.1.M j.2.1.r) λu d=> ?_;have H:=fv (H.fH d);clear d))
  .go_ret;let⟨C,D⟩:=f.2.2.2.2.2.2.1 e;rw[C,D,<-hlen];exact⟨VC,Oe,U,HE.1,by rw[HE.oQ.2.1,l.oQ.2.1],(H.kp.fG λ_ _=>á).fA HE.2.2⟩
  .go_quiet ((go_at_call 69;exact ê<|yk sn NS _))
   go_wp2;go_ret;let⟨C,D⟩:=f.2.2.2.2.2.2.2.1 (by rw[e];decide);refine⟨_,ps,?_,H.C.fH kp,by rw[D];exact l.2.1,(H.kp.fA kp).fG λ_ _=>á⟩;rw[C,e];simp[qL,f.oQ.2.2.2.2.1]
  rotate_right 1
  .let⟨b,hb,X2⟩:=adi I J.1<|Ċ.2 x6;obtain⟨m,Gd⟩:∃p,ps[b]?=Ã p:=⟨_,fe Z⟩;have hp3:m.1=s.getD b kh:=by rw[<-l.oQ.2.1];simp[ñ,Gd]
   have Ei:b<ps.length:=Z;have d:=Km I J.1;rw[hb,if_neg Z,dO,<-hp3]at d;simp only[hb];have hR:∀W,fw fB u W->W.cell? ⟨y,0,Å⟩=Ã (È (Ã ⟨N,0,Å⟩) ps.length VD)/\W.rangeAt w2.heap.size 0 (gI p.1.s)/\W.rangeAt N (b*148) (gI m.1.s):=λW k=>by refine⟨(H.fH k).C.r.r 0 _ U,fy.Y (H.fH k).v,?_⟩;let⟨_,_,e,z⟩:=(H.fH k).C.M Gd;cases e;exact λi v hv=>z i v<|by show(gI m.1.s++_)[i]?=_;rwa[eR (eP.1 hv).1]
   have HR:=fv hR;have z:=fv<|hR _<|fw.gM fB u;have HF:=fv d;clear hR d hp3;refine mI (λW=>W.cell? ⟨y,0,Å⟩=Ã (È (Ã ⟨N,0,Å⟩) ps.length VD)/\W.rangeAt w2.heap.size 0 (gI p.1.s)/\W.rangeAt N (b*148) (gI m.1.s)) [] fK ?_;apply tk z;refine tk (v:=Ú (gI p.1.s).toArray) z 1 ?_ (hy:=λw h=>J5 sG rK (iM _) h.2.1);iterate 7 apply tk z
   refine tk (v:=Ú (gI m.1.s).toArray) z 9 ?_ (hy:=λw h=>J5 sG rK (iM _) h.2.2);refine nN 10 ?_;refine nV ar3 λw5 k5=> ?_;have i:=(fw.gM fB u).fA k5;refine⟨λ_=>HR _ i,?_⟩;apply np 11;intro K hK;go_simp;go_at_call 74;refine Ù (adj (λx hx=> ?_) _) ?_;rw[(US (s:=p.1.s) (t:=m.1.s) 8<|eE _).2 x hx];decide;rintro e w6 ⟨rfl,hw⟩;subst hw;apply hK.out _ _ λ_=>HR _ i;clear hK K;refine jM 12 (λ_=>HR _ i) ?_;refine ma ?_;go_wp2;go_ret;let⟨C,D⟩:=f.2.2.2.2.2.2.2.1 (by rw[e];decide);refine⟨_,ps,?_,(H.fH i).C,by rw[D];exact l.2.1,(H.fH i).kp.fG λ_ _=>á⟩;rw[C,e];simp[qL,HF.oQ]
  all_goals
   go_ret;let⟨C,D⟩:=f.2.2.2.2.2.2.2.1 (by rw[e];decide);refine⟨_,ps,?_,H.C,by rw[D];exact l.2.1,H.kp.fG λ_ _=>á⟩;rw[C,e];first|(simp[qL,f.oQ.2.2.2.1];done)|(rw[<-hcS];simp[qL];done)|(have d:=Km I J.1;rw[if_pos ‹sD s V2<0›]at d;simp[qL,d])
end
section
variable{y:Nat}{c:List VR}{w':Ô}{s:List gf}{rs:List PR}
def RA.S(h:RA y x c w)(k:fw (λi=>i=y\/x.ownBlock=Ã i) w w')(a:T≠72)(d:T≠116)(q:ie T v n l w):ie T v n l w':=q.I k λb l g e z=>by obtain rfl|e:=e;have:=h.r;rw[this]at z;cases z;exact a U;let⟨j,f⟩:=lN h.fE e;rw[f]at z;cases z;exact d U
def uk.PE(q:uk v rs w)(h:RA y x c w)(k:fw (λi=>i=y\/x.ownBlock=Ã i) w w'):uk v rs w':=by let⟨c,a,b,d⟩:=q;exact⟨c,a,h.S k A A b,λp q=>h.S k A A<|d p q⟩
def VF:∀(c:List (PR×Value))(j i:Nat)(p:PR×Value)(u:Ê),c[j]?=Ã p->(j0 p.1 p.2)[i]?=Ã u->(vu c)[j*9+i]?=Ã u
 |[],j,i,p,u,h,_=>by cases h
 |q::r,0,i,p,u,h,hx=>by cases h;rwa[bR,dQ,vu,eL,eR (eP.1 hx).1]
 |q::r,j+1,i,p,u,h,hx=>by have a:(j0 q.1 q.2).length=9:=U;rw[vu,eL,eT (by rw[a];omega),a,show(j+1)*9+i-9=j*9+i by omega];exact VF r j i p u h hx
theorem uk.at(q:uk v rs w){r:PR}(k:rs[j]?=Ã r):∃b o cp d,v=È (Ã ⟨b,o,Å⟩) rs.length cp/\w.rangeAt b (o+j*9) (j0 r d)/\ie 253 d r.r.length (p9 r.r) w:=by
 obtain⟨c,l,⟨p,cp,rfl,_,f⟩,m⟩:=q;have g:(c.map (·.1))[j]?=Ã r:=by rwa[l]
 rw[dN]at g;obtain⟨x,a,rfl⟩:=Ð.1 g;let⟨b,o,e,_⟩:=f (j*9) _<|VF c j 0 x _ a U;refine⟨b,o,cp,x.2,by rw[e],λi u n=> ?_,m x<|eU a⟩;let⟨s,t,h,_,y⟩:=f (j*9+i) u<|VF c j i x u a n;rw[e]at h;cases h;grind
def JD(ok:lA s)(a:∀r∈rs,sC r):lA (jg.om s rs):=by rw[<-adg];exact abN ok a
theorem auc:Ec B=((iC B).1,(iC B).2.1):=by
 unfold Ec;by_cases h:1200<B.size;rw[if_pos h];rw[iC,if_pos h];rw[if_neg h,Vy h];by_cases e:(iC B).1=0;rw[if_pos e,adh e];rfl;have a:0<=(ny B).1:=by unfold ny;grind
 rw[if_neg e,if_pos (by rw[iC,if_neg h];split;exact cK _;exact a)];unfold iC at e|-;grind
theorem aud(h:RA y x c w)(f:c.map (·.1)=s)(p:lA s)(hB:B.size<=í): Ü Á 26 #[Æ<|Ã ⟨y,0,Å⟩,Ï B] w λe w'=>∃M G,e=É (Þ #[Ï (kF s B).1,Â Ä (kF s B).2.1])/\RA y M G w'/\G.map (·.1)=(kF s B).2.2/\fw (λ_=>True) w w':=by
 have n:=λW=>acu hB W;rw[auc]at n;by_cases k:(iC B).1=0
 .have hle:=atX k;have O:=λW=>acs hle W;rw[Vy Z,if_pos k]at O;rw[atU<|adh k];let⟨P,UD⟩:=JJ (B:=B);simp only[k]at n;generalize(iC B).2.1=z at*;generalize(iC B).2.2=rs at*;have vN:=abM p P UD;have H:=fv<|À n O;have v:=fv<|À P<|À vN p;have D:=fv<|À h f;clear n O P vN p h f;obtain⟨N,Q⟩:∃N,rs.length=N:=⟨_,U⟩;rw[Q]at UD;have u:=fv Q;clear Q;go_enter ĩ,Ń;go_wp2_with (first|(go_at_call 41;refine gl (H.1 _) λw1 E=> ?_;have K:=fv E;clear E)|(go_at_call 42;apply Ù (H.2 _);rintro e w2 ⟨lv,rfl,g,k2⟩;obtain⟨S,T,zE⟩:∃S T,lv=È S rs.length T:=(by let⟨_,_,⟨a,b,e,_⟩,_⟩:=id g;exact⟨a,b,e⟩);subst zE;rw[u.oQ]at g|-;have K:=fv (À (K.fA k2) g);clear k2 g))
  go_loopw [10,11] (λd i wr=>∃(j:Nat)(x:Ê)(c:List VR),j<=N/\i=Â Ä j/\d=Ï (lG ⟨#[59]⟩<|(kP rs s).take j)/\RA y x c wr/\c.map (·.1)=jg.om s (rs.take j)/\uk (È S N T) rs wr/\fw (λ_=>True) w wr) λ_ i _=>N-(ó i).toNat
  case atStart=>exact⟨0,x,c,eD _,U,U,D.1.fH K.1,D.2,K.2,K.1.fG λ_ _=>á⟩
  case round=>
   obtain⟨j,x,c,hj,rfl,rfl,F,f,g,I⟩:=hrel;by_cases V:j<N
   .obtain⟨r,J⟩:∃r,rs[j]?=Ã r:=⟨_,fe<|by rwa[u.oQ]⟩;let⟨b,o,cp,tv,hv,qh,zK⟩:=g.at J;cases hv;have aue:=eU J;have p:=JD v.2.2 (rs:=rs.take j) λr q=>v.1 r<|cT q;have C:=at7 F f p (v.1 r aue) zK;have wC:jg.om s (rs.take<|j+1)=xd (jg.om s<|rs.take j) r:=by
     rw[cD,J,cg,jg.om,b9];rfl
    have X:(kP rs s).take (j+1)=(kP rs s).take j++[vw r<|jg.om s<|rs.take j]:=by rw[cD,atT (by rwa[u.oQ]),ñ,J];rfl
    have L:=atW ((kP rs s).take j)<|vw r<|jg.om s<|rs.take j;rw[<-X]at L;have jV:(lG ⟨#[59]⟩<|(kP rs s).take j).size<=2400000024:=by have h1:=Nn ⟨#[59]⟩ U<|(kP rs s).take j;have Y:=Nj (kP rs s) j;have h3:=v.2.1;grind
    have hz:(vw r<|jg.om s<|rs.take j).size<=2400000024:=by have Y:=Nj (kP rs s)<|j+1;have h3:=v.2.1;rw[X,TU]at Y;simp[jH]at Y;unfold jH at h3;omega
    have hl:((kP rs s).take j).length=j:=by rw[dB,NH,u.oQ];omega
    rw[hl]at L;generalize vw r (jg.om s<|rs.take j)=t at*;generalize lG ⟨#[59]⟩ ((kP rs s).take j)=d at*;have l:=fv<|À wC<|À L<|À C<|À g<|À I<|À F qh;clear wC X L C g I F qh f p zK hl;obtain rfl|hj0:=dV j;have H8:((if(0:Nat)=0 then d else d++⟨#[59]⟩):ByteArray)=d:=U;rotate_left;have H8:((if j=0 then d else d++⟨#[59]⟩):ByteArray)=d++⟨#[59]⟩:=if_neg Z;rotate_left;all_goals
     rw[H8]at l;clear H8;go_wp2_with (first|(refine tg tu sF U l.2.2.2.2.2.2 ?_)|(go_at_call 43;apply Ù l.2.2.1;rintro e w4 ⟨M,G,rfl,Fu,Kn,Ko⟩;have m:=fv (À Fu (À Kn Ko));clear Fu Kn Ko))
     go_roundw
     case rel=>exact⟨_+1,M,G,V,by go_num,by rw[l.oQ.2.1],m.1,by rw[l.oQ.1];exact m.2.1,l.2.2.2.1.PE l.2.2.2.2.2.1 m.2.2,l.2.2.2.2.1.fA<|m.2.2.fG λ_ _ _=>trivial⟩
     case measure=>simp[ó];omega
   .obtain rfl:j=N:=Z;rw[eG (by rw[NH,u.oQ];exact eE _)];rw[eG (by rw[u.oQ];exact eE _)]at f;have m:=fv<|À F<|À f I;clear F f I g;go_wp2;go_ret2;exact⟨x,c,U,m.1,m.2.1,m.2.2⟩
 .rw[kF,if_neg k];obtain⟨z,hz⟩:∃z,(iC B).1=z:=⟨_,U⟩;simp only[hz]at n k|-;have e1:(z !=0)=Ì:=fN k;have H:=fv n;have D:=fv<|À h f;clear n h f k hz;go_enter ĩ,Ń;go_wp2_with (go_at_call 41;refine gl (H _) λw1 E=> ?_;have K:=fv E;clear E);go_ret2;exact⟨_,c,U,D.1.fH K,D.2,K.fG λ_ _=>á⟩
end
end gO
namespace jg
open Conc RowKit Lift gO fO me
open Conc.Lib ConcR.Gen YtgpphkdoanciiabGreatDoor
structure Af(l:fx)(y:Nat)(s:List gf)(U:Nat->Prop):Prop where
 I:∃av ps,RA y av ps l.w/\ps.map (·.1)=s
 C:lA s
 r:zr U (λ_=>False) nB l.w
 fE:∀b,U b->l.O b
 y:U y
section
variable{J:Jd}{l l':fx}{y:Nat}{s:List gf}{a:Nat->Prop}{c:ģ}
def Af.M(h:Af l y s a)(c:∀b,a b->l'.O b/\l'.w.heap[b]?=l.w.heap[b]?)(d:nB<=l'.w.heap.size):Af l' y s a:=by let⟨e,f,g,i⟩:=h.I;refine⟨⟨e,f,RA.atu g h.r h.y λb q=>(c b q).2,i⟩,h.C,⟨λb q=> ?_,d⟩,λb q=>(c b q).1,h.y⟩;rw[(c b q).2];exact h.r.r b q
structure adl(l l':fx)(y:Nat)(s':List gf)(a U':Nat->Prop):Prop where
 r:∀b,l.O b->l'.O b/\(¬a b->l'.w.heap[b]?=l.w.heap[b]?)
 AA:l.w.heap.size<=l'.w.heap.size
 auf:Af l' y s' U'
 xg:∀b,U' b->a b\/l.w.heap.size<=b
def Oi{a:List VR}(h:RA y v a u)(T:Tape)(D:Nat):RA y v a {u with tape:=T,drawn:=D}:=⟨h.r,h.fE,λp q=>⟨(h.C p q).C,(h.C p q).I,(h.C p q).r⟩⟩
def aug(h:lA s):lA (kF s B).2.2:=by unfold kF;split;exact abN h JJ.1;exact h
def auh(r:iw l)(h:Af l y s a)(t:B.size<=í)(w:∀l' C,iw l'->adl l l' y (kF s B).2.2 a C->fO.fF Á Ì J l' (G (f.at (c.put ((Q[i]?).bind (·.dst))<|Þ #[Ï (kF s B).1,Â Ä (kF s B).2.1])<|Ý Q jJ::L) qX)): fO.fF Á Ì J l (G (ç Á 26 #[Æ<|Ã ⟨y,0,Å⟩,Ï B] û)<|f.at c (Ý Q (i::jJ)::L)::qX):=by
 let⟨k,d,E,F⟩:=h.I;refine fO.fF.nH ?_ (abW (Post:=λv u=>v=Þ #[Ï (kF s B).1,Â Ä (kF s B).2.1]/\∃k d,RA y k d u/\d.map (·.1)=(kF s B).2.2) r h.fE h.r gq (pz λv m=> ?_) (λv u T D q=> ?_) (λT=> ?_) Ì _ _);rintro H W ⟨I,e,Y,u,v,K,M,n,N,⟨rfl,X,ps2,g,j⟩,rfl,o⟩;obtain rfl:K=Þ #[Ï (kF s B).1,Â Ä (kF s B).2.1]:=by
  generalize(kF s B).1=x at*;generalize(kF s B).2.1=z at*;cases N with
  |@nG _ mO hs lC=>
   let⟨O⟩:=mO;match O,hs with
   |[x,y],_=>
    have b:=lC 0 fD fD;have p:=lC 1 fD fD;simp at b p;cases b;cases p;rfl
 have p:Y y y:=M.1 _ _ ⟨U,h.y⟩;let⟨O,P,S,V⟩:=acZ n p<|Oi g _ _;rw[ô];exact w H _ I ⟨e.C,e.r,⟨⟨O,P,S,V.trans j⟩,aug h.C,abX n<|Ö h.r.fM e.r,λb ⟨i,q⟩=>(o i b q).1,⟨y,p⟩⟩,λb ⟨i,q⟩=>(o i b q).2⟩;simp at m;obtain rfl|rfl:=m;exact fI.kn (Y:=nk a nB) ⟨⟨U,h.y⟩,U,U⟩;exact .lb B;let⟨e,k,d,g,j⟩:=q;exact⟨e,k,d,Oi g T D,j⟩;apply Ù (aud (RA.kL E T 0) F h.C t);rintro e O ⟨b,p,rfl,g,j,L⟩;exact⟨⟨U,b,p,g,j⟩,L.iH zI⟩
def aui(r:iw l)(g:nB<=l.w.heap.size){n:Int}(s:1<=n)(t:n<=8)(B:∀l' y C,iw l'->adl l l' y [gO.kh] (λ_=>False) C->fO.fF Á Ì J l' (G (f.at (c.put ((Q[i]?).bind (·.dst))<|Þ #[Æ<|Ã ⟨y,0,Å⟩,Â Ä 0])<|Ý Q jJ::L) qX)): fO.fF Á Ì J l (G (ç Á 22 #[Â Ä n] û)<|f.at c (Ý Q (i::jJ)::L)::qX):=by
 refine fO.fF.nH ?_ (abW (V:=λ_=>False) (Post:=λv u=>∃y d,v=Þ #[Æ<|Ã ⟨y,0,Å⟩,Â Ä 0]/\RA y d [vz 8] u) r (λ_ q=>q.elim) ⟨λ_ q=>q.elim,g⟩ gq (pz λv h=> ?_) (λv u T D q=> ?_) (λT=> ?_) Ì _ _);rintro E W ⟨F,e,Y,u,v,X,q1,j,H,⟨y,d,rfl,a⟩,rfl,k⟩;cases H with
 |@nG _ mO hs lC=>
  let⟨I⟩:=mO;match I,hs with
  |[x,z],_=>
   have m:=lC 0 fD fD;have o:=lC 1 fD fD;simp at m o;cases o;obtain⟨a2,rfl,K⟩:=Jt m;obtain⟨M,rfl,p⟩:=wP K;let⟨N,O,P,S⟩:=acZ j p<|Oi a _ _;rw[ô];exact B E M _ F ⟨e.C,e.r,⟨⟨N,O,P,S⟩,abD,abX j<|Ö g e.r,λb ⟨i,q⟩=>(k i b q).1,⟨y,p⟩⟩,λb ⟨i,q⟩=>(k i b q).2⟩
 .simp at h;subst h;exact .iZ _ _
 let⟨y,d,e,a⟩:=q;exact⟨y,d,e,Oi a T D⟩;apply Ù (ato n s t _);rintro e d ⟨y,b,rfl,a,L⟩;exact⟨⟨y,b,U,a⟩,L.iH zI⟩
end
section
variable{m l a:fx}{x:Nat}{s t:List gf}{c:Ê}{V:Nat->Prop}{p:List Ê}
def oN.H(h:oN l x n s c V)(d:∀b,l.O b->¬X b->a.O b/\a.w.heap[b]?=l.w.heap[b]?)(f:∀b,X b->¬V b/\b≠x/\¬(b=1\/b=2\/b=3\/b=4))(i:nB<=a.w.heap.size):oN a x n s c V:=by have g:=λb q=>d b (h.C b q) λe=>(f b e).2.2 q;have v:=λb q=>d b (h.I b q) λe=>(f b e).1 q;have o:=d x h.fE λe=>(f x e).2.1 U;exact⟨h.r.r i λb q=>(g b q).2,λb q=>(g b q).1,h.S.r o.2,o.1,h.rd.r λb q=>(v b q).2,λb q=>(v b q).1,h.d,h.a,h.c,h.N⟩
def Kp(h:iz X l a)(b:iw l):iw a:=⟨h.N b.r,h.d.trans b.d,by rw[h.q];exact b.q,by rw[h.S];exact b.rd,by rw[h.Y];exact b.I,by rw[h.b];exact b.M,by rw[h.K];exact b.k⟩
end
def qa(l a:fx):Prop:=∀b,l.O b->a.O b/\a.w.heap[b]?=l.w.heap[b]?
section
variable{J:Jd}{l c:fx}{x:Nat}{s d:List gf}{b e:õ}{a g:ģ}{f:ņ}{args:Array Ê}{p:Func}{u:Array ð}{y:ByteArray}{t:ð}
def qa.r{a:fx}(h:qa l c)(L:qa c a):qa l a:=λb q=>⟨(L b (h b q).1).1,(L b (h b q).1).2.trans (h b q).2⟩
def Ej(r:gd l l.w W):qa l {l with w:=W}:=λb q=>⟨q,r.I b<|Í q⟩
end
structure Pr where
 x:Nat
 n:Nat
 s:List gf
 y:Nat
 d:List gf
structure qT(l:fx)(qs:List Pr)(t:Nat->Nat):Prop where
 x:∀(i:Nat)(a:Pr),qs[i]?=Ã a->t a.x=2*i+2/\∃sl V,oN l a.x a.n a.s sl V/\∀b,V b->t b=0
 y:∀(i:Nat)(a:Pr),qs[i]?=Ã a->∃U,Af l a.y a.d U/\∀b,U b->t b=2*i+3
 r:oy l.w
 C:∀b,b=1\/b=2\/b=3\/b=4->l.O b/\t b=0
 I:∀b,¬l.O b->t b=0
def tw(l:fx)(t:Nat->Nat)(a:fx)(c:Nat->Nat):Prop:=∀b,l.O b->t b<=1->a.O b/\a.w.heap[b]?=l.w.heap[b]?/\c b=t b
section
variable{Post:Ê->Ô->Prop}{J:Jd}{l l' u:fx}{qs:List Pr}{a:Pr}{t C:Nat->Nat}{m:õ}{p:ģ}{ops:Array ü}{c:Nat}{rest:List Nat}{k:List ŗ}{cs:List õ}
def tw.fA(h:tw l t l' D)(k:tw l' D u C):tw l t u C:=λb q z=>by let⟨a,c,d⟩:=h b q z;let⟨e,f,g⟩:=k b a Z;exact⟨e,f.trans c,g.trans d⟩
def qa.fH(h:qa l l'):tw l t l' t:=λb q _=>⟨(h b q).1,(h b q).2,U⟩
def rL(r:gd l l.w W):tw l t {l with w:=W} t:=(Ej r).fH
def qT.M(h:qT l qs t)(k:qa l l')(e:l.w.heap.size<=l'.w.heap.size):qT l' qs t:=by have f:=Ö h.r.fM e;refine⟨λi a q=> ?_,λi a q=> ?_,h.r.r f λb q=>(k b (h.C b q).1).2,λb q=>⟨(k b (h.C b q).1).1,(h.C b q).2⟩,λb q=>h.I b λz=>q (k b z).1⟩;let⟨c,g,V,d,j⟩:=h.x i a q;exact⟨c,g,V,d.M (λb q=>(k b q).1) (λb q=>(k b q).2) e,j⟩;let⟨U,c,d⟩:=h.y i a q;exact⟨U,c.M (λb z=>k b<|c.fE b z) f,d⟩
def qT.N(h:qT l qs t)(m:∀b,l.O b->t b≠c->l'.O b/\l'.w.heap[b]?=l.w.heap[b]?)(o:nB<=l'.w.heap.size)(p:c≠0): (∀(i:Nat)(a:Pr),qs[i]?=Ã a->2*i+2≠c->∃k V,oN l a.x a.n a.s k V/\oN l' a.x a.n a.s k V/\∀b,V b->t b=0)/\(∀(i:Nat)(a:Pr),qs[i]?=Ã a->2*i+3≠c->∃f,Af l a.y a.d f/\Af l' a.y a.d f/\∀b,f b->t b=2*i+3)/\oy l'.w/\∀b,b=1\/b=2\/b=3\/b=4->l'.O b:=by have r:=λb q=>m b (h.C b q).1 (by rw[(h.C b q).2];exact p.symm);refine⟨λi a q z=> ?_,λi a q z=> ?_,h.r.r o λb q=>(r b q).2,λb q=>(r b q).1⟩;let⟨g,k,V,j,u⟩:=h.x i a q;exact⟨k,V,j,j.H (X:=λb=>t b=c) m (λb e=>⟨λv=>p (by rw[<-e];exact u b v),λv=>z (by rw[<-e,v];exact g.symm),λv=>p<|by rw[<-e];exact(h.C b v).2⟩) o,u⟩;let⟨f,g,j⟩:=h.y i a q;exact⟨f,g,g.M (λb v=>m b (g.fE b v)<|by rwa[j b v]) o,j⟩
theorem adn{b:Pr}(h:(qs.set i a)[j]?=Ã b)(c:i<qs.length):(j=i/\b=a)\/(j≠i/\qs[j]?=Ã b):=by grind
theorem auj(h:qT l qs t)(f:qs[j]?=Ã a)(g:iw l)(y:B.size<=í)(C:∀l',iw l'->qT l' (qs.set j {a with s:=(kF a.s B).2.2}) t->tw l t l' t->jB Post l' (G (m.at (p.put ((ops[i]?).bind (·.dst))<|Þ #[Ï (kF a.s B).1,Â Ä (kF a.s B).2.1])<|Ý ops rest::k) cs)): jB Post l (G (ç Á 13 #[Æ<|Ã ⟨a.x,0,Å⟩,Ï B] û)<|m.at p (Ý ops (i::rest)::k)::cs):=by
 let⟨n,o,V,r,D⟩:=h.x j a f;have E:=(eP.1 f).1;refine arh g r y (λ_=>arn (by let⟨_,_,q,_⟩:=r.rd;exact q)) λl' F ⟨u,H,I,c,J⟩=> ?_;have d:∀b,l.O b->t b≠2*j+2->l'.O b/\l'.w.heap[b]?=l.w.heap[b]?:=λb q z=>u b q λe=>z (by rwa[e]);let⟨K,P,L,M⟩:=h.N d c.r.fM Z;refine C l' F ⟨λi b q=> ?_,λi b q=> ?_,L,λb q=>⟨M b q,(h.C b q).2⟩,λb q=>h.I b λz=>q ?_⟩ λb q z=>⟨(d b q Z).1,(d b q Z).2,U⟩;obtain⟨rfl,rfl⟩|⟨e,q⟩:=adn q E;refine⟨n,H,I,c,λb q=> ?_⟩;obtain z|z|z:=J b q;exact D b z;exact(h.C b z).2;exact h.I b λv=>by have:=g.r.fM b<|Í v;omega
 let⟨o,V,_,v,N⟩:=K i b q Z;exact⟨(h.x i b q).1,o,V,v,N⟩;grind;by_cases e:b=a.x;rw[e];exact c.fE;exact(u b z e).1
theorem auk(h:qT l qs t)(H:qs[j]?=Ã a)(I:iw l)(N:B.size<=í)(P:∀l' D,iw l'->qT l' (qs.set j {a with d:=(kF a.d B).2.2}) D->tw l t l' D->fO.fF Á Ì J l' (G (m.at (p.put ((ops[i]?).bind (·.dst))<|Þ #[Ï (kF a.d B).1,Â Ä (kF a.d B).2.1])<|Ý ops rest::k) cs)): fO.fF Á Ì J l (G (ç Á 26 #[Æ<|Ã ⟨a.y,0,Å⟩,Ï B] û)<|m.at p (Ý ops (i::rest)::k)::cs):=by
 let⟨U,Q,K⟩:=h.y j a H;have S:=(eP.1 H).1;refine auh I Q N λl' f T ⟨u,hs,L,W⟩=> ?_;have C:∀b,l.O b->t b≠2*j+3->l'.O b/\l'.w.heap[b]?=l.w.heap[b]?:=λb q z=>⟨(u b q).1,(u b q).2 λe=>z<|K b e⟩;let⟨X,Y,c3,c4⟩:=h.N C L.r.fM Z;have:=λb=>Classical.propDecidable<|f b;have o:∀b,l.O b->t b≠2*j+3->(if f b then 2*j+3 else t b)=t b:=λb q z=>if_neg λv=>(W b v).elim (λe=>z<|K b e) λe=>by have:=I.r.fM b<|Í q;omega
 refine P l' (λb=>if f b then 2*j+3 else t b) T ⟨λi b q=> ?_,λi b q=> ?_,c3,λb q=>⟨c4 b q,?_⟩,λb q=> ?_⟩ λb q z=>⟨(C b q Z).1,(C b q Z).2,?_⟩;have key:∀(c:Pr),qs[i]?=Ã c->(if f c.x then 2*j+3 else t c.x)=2*i+2/\∃E V,oN l' c.x c.n c.s E V/\∀b,V b->(if f b then 2*j+3 else t b)=0:=λc M=>by let⟨E,V,r,F,g⟩:=X i c M Z;have e1:=(h.x i c M).1;refine⟨by rwa[o _ r.fE Z],E,V,F,λb v=> ?_⟩;rw[o b (r.I b v) (by have:=g b v;omega)];exact g b v
 grind;obtain⟨rfl,rfl⟩|⟨e,q⟩:=adn q S;grind;let⟨V,r,F,g⟩:=Y i b q Z;refine⟨V,F,λb v=> ?_⟩;rw[o b (r.fE b v) (by rw[g b v];omega)];exact g b v;have:=(h.C b q).2;exact(o b (h.C b q).1 Z).trans this;refine(if_neg λv=>q<|L.fE b v).trans ?_;exact h.I b λv=>q (u b v).1;grind
end
def kH{J:Jd}{l:fx}{g g':Goroutine}(hl:kC l)(h:fO.fF Tryz.prog true J l g')(hg:∀K:Goroutine->Prop,K g'->Goes Tryz.prog true RT Go.ConcR.DC0 (λg' _=>K g') 160 g l.w:=by intro K hK;(try walk_nrm);(repeat w_go fW);exact Goes.stop λ_ _=>hK):fO.fF Tryz.prog true J l g:=gY hl<|hg _ h
section
variable{J:Jd}{Post:Ê->Ô->Prop}{l:fx}{b:õ}{a:ģ}{ops:Array ü}{rest:List Nat}{k:List ŗ}{cs:List õ}{f:ņ}{args:Array Ê}{fn:Func}{Oj:Array ð}{Ol:Array þ}
def Gv(hf:Tryz.prog.funcs[f]?=some fn)(hl:kC l)(hn:∀w₁,gd l l.w w₁->fO.fF Tryz.prog true J {l with w:=w₁} (G (Frame.enter Tryz.prog f args .normal)<|b.at a (.inRegion ops (i::rest)::k)::cs))(ho:ops[i]?=some o:=by rfl)(oF:o.op=.call {callee:=.value<|.func f,args:=Oj,argTypes:=Ol}:=by rfl)(hw:Region.wanted o (yielded ops a.tmps)=true:=by rfl)(hk:b.kind≠.early:=by k_ne)(hr:∀w,(execOp a.eval o).run Tryz.prog w=.ok (.enter f args) w:=by intro w;go_simp;try rfl)(hm:(fn.name== "runtime.NumGoroutine")=false:=by rfl)(hd:fn.body.isNone=false:=by rfl): fO.fF Tryz.prog true J l (G (b.at a<|.inRegion ops (i::rest)::k) cs):=JK ho hw hk hl hr (λw=>ù oF hf hm hd #[]) hn
def VG(hf:Tryz.prog.funcs[f]?=some fn)(hb:iw l)(hn:∀w₁,gd l l.w w₁->jB Post {l with w:=w₁} (G (Frame.enter Tryz.prog f args .normal)<|b.at a (.inRegion ops (i::rest)::k)::cs))(ho:ops[i]?=some o:=by rfl)(oF:o.op=.call {callee:=.value<|.func f,args:=Oj,argTypes:=Ol}:=by rfl)(hw:Region.wanted o (yielded ops a.tmps)=true:=by rfl)(hk:b.kind≠.early:=by k_ne)(hr:∀w,(execOp a.eval o).run Tryz.prog w=.ok (.enter f args) w:=by intro w;go_simp;try rfl)(hm:(fn.name== "runtime.NumGoroutine")=false:=by rfl)(hd:fn.body.isNone=false:=by rfl): jB Post l (G (b.at a<|.inRegion ops (i::rest)::k) cs):=abI hb ho hw hk hr (λw=>ù oF hf hm hd #[]) hn
end
def yt(b:List Pr):List Ê:=b.flatMap λa=>[Æ<|Ã ⟨a.x,0,Å⟩,Æ<|Ã ⟨a.y,0,Å⟩]
structure qU(l:fx)(qs:List Pr)(t:Nat->Nat)(wb:Nat)(pv:Ê):Prop where
 m:qT l qs t
 I:iO l wb (Ñ #[pv] 42 (0,0))
 S:t wb=1
 N:l.w.ownsRow 0 67 2 pv qs.length (yt qs)
 M:∀b,pv.ownBlock=Ã b->l.O b/\t b=1
def xe(l:fx)(t:Nat->Nat)(a:fx)(c:Nat->Nat):Prop:=∀b,l.O b->t b=0->a.O b/\a.w.heap[b]?=l.w.heap[b]?/\c b=0
section
variable{J:Jd}{l l' l2:fx}{qs j:List Pr}{t g:Nat->Nat}{wb:Nat}{pv:Ê}{p:õ}{ops:Array ü}{rest:List Nat}{k:List ŗ}{cs:List õ}
def tw.r(h:tw l t l' D):xe l t l' D:=λb q z=>by let⟨a,c,d⟩:=h b q Z;exact⟨a,c,d.trans z⟩
def xe.fA(h:xe l t l' D)(k:xe l' D l2 g):xe l t l2 g:=λb q z=>by let⟨a,c,d⟩:=h b q z;let⟨e,f,i⟩:=k b a d;exact⟨e,f.trans c,i⟩
def qU.fH(h:qU l qs t wb pv)(m:qT l' j D)(k:tw l t l' D)(e:yt j=yt qs)(a:j.length=qs.length):qU l' j D wb pv:=by let⟨c,d,f⟩:=k wb h.I.fE (by rw[h.S];exact eE _);refine⟨m,⟨c,d.trans h.I.r⟩,f.trans h.S,?_,λb q=> ?_⟩;rw[e,a];exact wA h.N λb q=>(k b (h.M b q).1<|by rw[(h.M b q).2];exact eE _).2.1;let⟨g,n,i⟩:=k b (h.M b q).1 (by rw[(h.M b q).2];exact eE _);exact⟨g,i.trans (h.M b q).2⟩
def qU.C(h:qU l qs t wb pv)(k:qa l l')(a:l.w.heap.size<=l'.w.heap.size):qU l' qs t wb pv:=h.fH (h.m.M k a) k.fH U U
def qU.r(h:qU l qs t wb pv)(r:gd l l.w u):qU {l with w:=u} qs t wb pv:=h.C (Ej r) r.r
def ado{Y:fL}(h:fI Y (Þ #[Æ Å,Â Ä 7]) v):v=Þ #[Æ Å,Â Ä 7]:=by
 cases h with
 |@nG _ mO hs lC=>
  let⟨c⟩:=mO;match c,hs with
  |[x,y],_=>
   have a:=lC 0 fD fD;have b:=lC 1 fD fD;simp at a b;cases a;cases b;rfl
def adp(e:Int)(w:Ô):Ü Á 23 #[Â Ä e] w λr a=>r=É (Â Ä e)/\a=w:=by go_enter Ď,Tryz.ntmps23;go_wp2;go_ret;exact⟨U,U⟩
def qT.fE(h:qT l qs t)(g:∀b,l.O b->t b≠1->l'.w.heap[b]?=l.w.heap[b]?)(j:∀b,l.O b->l'.O b)(k:nB<=l'.w.heap.size)(d:∀b,l.O b->D b=t b)(m:∀b,¬l'.O b->D b=0):qT l' qs D:=by let⟨n,o,p,r⟩:=h.N (c:=1) (λb q z=>⟨j b q,g b q z⟩) k A;refine⟨λi a q=> ?_,λi a q=> ?_,p,λb q=>⟨r b q,(d b (h.C b q).1).trans (h.C b q).2⟩,m⟩;let⟨s,V,z,e,f⟩:=n i a q Z;exact⟨(d _ z.fE).trans (h.x i a q).1,s,V,e,λb v=>(d b<|z.I b v).trans<|f b v⟩;let⟨U,z,e,f⟩:=o i a q Z;exact⟨U,e,λb v=>(d b<|z.fE b v).trans<|f b v⟩
def qT.jl{x:Nat}{sl:Ê}{c:Nat->Prop}(h:qT l qs t)(k:qa l l')(r:l.w.heap.size<=l'.w.heap.size)(o:oN l' x n [gO.kh] sl X)(s:Af l' b [gO.kh] c)(u:¬l.O x)(B:∀d,X d->¬l.O d)(p:∀d,c d->¬l.O d/\¬X d/\d≠x): ∃D,qT l' (qs++[⟨x,n,[gO.kh],b,[gO.kh]⟩]) D/\∀d,l.O d->D d=t d:=by
 have:=λd=>Classical.propDecidable<|c d;have f:∀d,l.O d->(if d=x then 2*qs.length+2 else if c d then 2*qs.length+3 else t d)=t d:=λd q=>by rw[if_neg (by rintro rfl;exact u q),if_neg λe=>(p d e).1 q]
 have m:=h.M k r;refine⟨λd=>if d=x then 2*qs.length+2 else if c d then 2*qs.length+3 else t d,⟨λi a q=> ?_,λi a q=> ?_,m.r,λd q=>⟨(m.C d q).1,(f d (h.C d q).1).trans (h.C d q).2⟩,λd q=> ?_⟩,f⟩;obtain z|z:=ey i qs.length;rw[eR z]at q;let⟨g,sl,X,j,C⟩:=h.x i a q;exact⟨(f _ j.fE).trans g,sl,X,j.M (λd q=>(k d q).1) (λd q=>(k d q).2) r,λd v=>(f d<|j.I d v).trans<|C d v⟩;rw[eT z]at q;obtain e:i-qs.length=0:=by have:=(eP.1 q).1;simp at this;omega
 rw[e]at q;cases q;obtain rfl:i=qs.length:=Z;refine⟨if_pos U,sl,X,o,λd v=> ?_⟩;show(if d=x then _ else if c d then _ else t d)=0;rw[if_neg (by rintro rfl;exact o.d v),if_neg λe=>(p d e).2.1 v];exact h.I d<|B d v;obtain z|z:=ey i qs.length;rw[eR z]at q;let⟨c,g,j⟩:=h.y i a q;exact⟨c,g.M (λd z=>k d<|g.fE d z) m.r.fM,λd v=>(f d<|g.fE d v).trans<|j d v⟩;rw[eT z]at q;obtain e:i-qs.length=0:=by have:=(eP.1 q).1;simp at this;omega
 rw[e]at q;cases q;obtain rfl:i=qs.length:=Z;exact⟨c,s,λd v=>(if_neg (p d v).2.2).trans<|if_pos v⟩;show(if d=x then _ else if c d then _ else t d)=0;rw[if_neg (by rintro rfl;exact q o.fE),if_neg λe=>q<|s.fE d e];exact h.I d λz=>q (k d z).1
def Ek{b:Frame}{a:Act}{o:Oper}{f:FuncId}{args:Array Value}{fn:Func}{Oj:Array Operand}{Ol:Array TypeId}{v:Value}(hb:iw l)(IZ:nB<=l.w.heap.size)(hf:Tryz.prog.funcs[f]?=some fn)(hc:∀l',iw l'->nB<=l'.w.heap.size->∀(cl:Frame)(cs:List Frame),fO.fF Tryz.prog true (λl'' g'=>iX l' l''/\l''.d=l'.d/\g'=G (cl.finish v) cs) l'<|G (Frame.enter Tryz.prog f args .normal)<|cl::cs)(hn:∀l',iw l'->qa l l'->l.w.heap.size<=l'.w.heap.size->fO.fF Tryz.prog true J l' (G (b.at (a.put o.dst v)<|.inRegion ops rest::k) cs))(ho:ops[i]?=some o:=by rfl)(oF:o.op=.call {callee:=.value<|.func f,args:=Oj,argTypes:=Ol}:=by rfl)(hw:Region.wanted o (yielded ops a.tmps)=true:=by rfl)(hk:b.kind≠.early:=by k_ne)(hr:∀w,(execOp a.eval o).run Tryz.prog w=.ok (.enter f args) w:=by intro w;go_simp)(hm:(fn.name== "runtime.NumGoroutine")=false:=by rfl)(hd:fn.body.isNone=false:=by rfl): fO.fF Tryz.prog true J l (G (b.at a<|.inRegion ops (i::rest)::k) cs):=by refine JK ho hw hk hb.r.r hr (λw=>ù oF hf hm hd #[]) λw₁ yR=> ?_;refine fO.fF.nH ?_<|hc _ (hb.C yR) (Ö IZ yR.r) _ _;rintro l2 g2 ⟨ha,hd,rfl⟩;rw[ô,ho];exact hn l2 (iX.xT (hb.C yR) ha hd) ((Ej yR).r λb q=>⟨ha.O b q,ha.r.I b<|Í q⟩)<|Ö yR.r ha.r.r
def VH(b:iw l)(c:nB<=l.w.heap.size)(e:Int)(a:õ)(cs:List õ):fO.fF Á Ì (λl' h=>iX l l'/\l'.d=l.d/\h=G (a.finish<|Â Ä e) cs) l (G (ç Á 23 #[Â Ä e] û)<|a::cs):=JO b c gq (λu h=>by simp at h;subst h;exact .iZ _ _) (λh=>by cases h;rfl) (adp e) Ì a cs
def aul(a:ĵ)(w:Ô):Ą Á (Ŏ ĳ 62 (Æ<|Ã a)<|Æ Å) w #[]=#[]:=fK
def aum(a:ĵ)(w:Ô):Ą Á (Ŏ Ĵ 25 (Æ<|Ã a)<|Æ Å) w #[]=#[]:=fK
def VI(w:Ô):Ą Á (Ŏ ĳ 25 (Æ Å)<|Æ Å) w #[]=#[]/\Ą Á (Ŏ ĳ 62 (Æ Å)<|Æ Å) w #[]=#[]/\Ą Á (Ŏ Ĵ 25 (Æ Å)<|Æ Å) w #[]=#[]:=⟨fK,fK,fK⟩
def adq(b:Bool)(w:Ô):Ą Á (Ŏ Ĵ 4 (Û b)<|Û b) w #[]=#[]:=by cases b<;>kernel_rfl
def aun:(Á.info? 67).map iF=Ã (Ã<|Ú #[Æ Å,Æ Å],2,16):=fK
def adr(I:iw l)(h:qU l qs t wb pv)(n:Int)(hN:qs.length<=2^42)(hJ:∀l' j D C,iw l'->qU l' j D wb C->xe l t l' D->qs.length<=j.length->j.length<=qs.length+1->(1<=n->n<=8->j.length=qs.length+1)->(∀a∈j,a∈qs\/a.s=a.d)->fO.fF Á Ì J l' (G (p.at (y.put ((ops[i]?).bind (·.dst))<|Û Ì)<|Ý ops rest::k) cs)): fO.fF Á Ì J l (G (ç Á 14 #[Æ<|Ã ⟨wb,0,Å⟩,Â Ä n] û)<|p.at y (Ý ops (i::rest)::k)::cs):=by
 have hF:True:=trivial;rw[D5 [_,_] 42 Ĉ];simp only[ď,ck,ec];conv in mr _ _=>whnf
 refine kH I.r.r ?_;by_cases hn:1<=n/\n<=8
 .obtain⟨m,rfl⟩:∃m:Nat,n=m:=⟨n.toNat,Z⟩;refine Gv ŏ I.r.r λw₁ E=> ?_;refine fO.fF.nH ?_<|aqH (I.C E).r I.q (h.r E).m.r.fM (n:=(m:Int)) hn.1 hn.2 Ì _ _;rintro W g1 ⟨ha,hd,x,sl,rfl,lC,Om,hx,V,sd,hnV,Kr⟩;have F:iw W:=iX.xT (I.C E) ha hd;have X:qa l W:=(Ej E).r λb q=>⟨ha.O b q,ha.r.I b<|Í q⟩;have s1:l.w.heap.size<=W.w.heap.size:=Ö E.r ha.r.r;rw[ô];refine kH F.r.r ?_;refine Gv ć F.r.r λG4 Y=> ?_;refine aui (F.C Y) (Ö (h.C X s1).m.r.fM Y.r) hn.1 hn.2 λl2 f o Ei H=> ?_;have k2:qa l l2:=X.r ((Ej Y).r λb q=>⟨(H.r b q).1,(H.r b q).2 id⟩);have s2:l.w.heap.size<=l2.w.heap.size:=Ö s1<|Ö Y.r H.AA;have iu:∀b,l.O b->b<l.w.heap.size:=λb q=>I.r.fM b<|Í q;have Ks:qa W l2:=(Ej Y).r λb q=>⟨(H.r b q).1,(H.r b q).2 id⟩;have B:=h.C k2 s2;have hA:oN l2 x m [gO.kh] sl V:=⟨B.m.r,λb q=>(B.m.C b q).1,lC.r (Ks x Om).2,(Ks x Om).1,sd.r λb q=>(Ks b (Kr b q).1).2,λb q=>(Ks b (Kr b q).1).1,hnV,Z,Z,λq=>by have:=iu x (h.m.C x q).1;have:=Ö E.r hx;omega⟩;let⟨g,hM,vD⟩:=h.m.jl k2 s2 hA H.auf (λq=>by have:=iu x q;have:=Ö E.r hx;omega) (λb v q=>by have:=iu b q;have:=Ö E.r (Kr b v).2;omega) λb v=>by
   have h1:W.w.heap.size<=b:=Ö Y.r<|(H.xg b v).resolve_left id;refine⟨λq=>by have:=iu b q;omega,λq=>by have:=F.r.fM b<|Í (Kr b q).1;omega,λq=>by rw[q]at h1;have:=F.r.fM x<|Í Om;omega⟩
  have HH:=fv<|À B<|À hM<|À vD k2;clear hA hM vD B Ks H X lC sd hnV Kr ha Om;refine kH Ei.r.r ?_;refine Ek Ei HH.1.m.r.fM Ď (λl' K L M cs=>VH K L 0 M cs) λl3 r N s3=> ?_;refine kH r.r.r ?_;refine AY (Û Ç) r.r.r r.q ?_ (he:=λw=>by simp[go_sem,aro]);refine kH r.r.r ?_;refine AY (Û Ç) r.r.r r.q ?_ (he:=λw=>by simp[go_sem,aul]);refine kH r.r.r ?_;refine AY (Û Ç) r.r.r r.q ?_ (he:=λw=>by simp[go_sem,adq]);refine kH r.r.r ?_;refine AY (Û Ì) r.r.r r.q ?_ (he:=λw=>by simp[go_sem,aum]);refine kH r.r.r ?_;have P:=HH.1.C N s3;apply qi 0 P.I r.r r.q;refine kH r.r.r ?_;let⟨inf,pe,mX,jV,pP⟩:=ĉ aun;refine L0 (z:=Ú #[Æ Å,Æ Å]) [Æ<|Ã ⟨x,0,Å⟩,Æ<|Ã ⟨f,0,Å⟩] ⟨P.N,λk q=>(P.M k q).1⟩ Tryz.underlying40 pe (by rw[pP];omega) (by simp only[í];omega) r.r r.q (λl5 C px Q R5 auo _ _=> ?_) (hz:=mX) (hsize:=jV);walk_nrm;have Gf:=Kp Q r;have hnw:pv.ownBlock≠Ã wb:=λe=>by let⟨cur,S⟩:=lN P.N e;rw[P.I.r]at S;cases S
  have Be:=P.I.C Q λe=>hnw e.symm;have ads:C.ownBlock≠Ã wb:=λe=>by let⟨cur,S⟩:=lN R5.r e;rw[Be.r]at S;cases S
  refine kH Gf.r.r ?_;obtain⟨pp,pc,rfl⟩:=jj R5.r;apply Ie 0 (È pp (qs.length+1) pc) Be Gf.r Gf.q;walk_nrm;intro l6 T a6 _ _;have JN:=Kp T Gf;have R6:=R5.C T λb e z=>ads<|z▸e;apply gY JN.r.r;repeat w_go fW
  u_in fW hF
  refine î (t:=4) U U Ĉ U ⟨by u_nil,?_⟩;apply gZ;generalize(È pp (qs.length+1) pc)=C at*;let⟨B,hM,vD,k2'⟩:=HH.oQ;have t2w:g wb=1:=(vD wb h.I.fE).trans h.S;have t2r:∀b,pv.ownBlock=Ã b->l2.O b/\g b=1:=λb e=>⟨(B.M b e).1,(vD b (h.M b e).1).trans (h.M b e).2⟩;have adt:∀b,l2.O b->g b≠1->l6.O b/\l6.w.heap[b]?=l2.w.heap[b]?:=λb q z=>by let⟨q1,q2⟩:=N b q;have q4:=Q.O b q1;exact⟨T.O b q4,(T.r b (Í q4) λe=>z<|by rwa[e]).trans<|(Q.r b (Í q1) λe=>z (t2r b e.symm).2).trans q2⟩
  have aup:∀b,l2.O b->C.ownBlock=Ã b->g b=1:=λb q e=>by exact(auo b e).elim (λz=>(t2r b z).2) λz=>by have:=(λb q=>ff (Ei.r.fM b<|Í q) s3) _ q;omega
  have NM:∀b,l2.O b->(if C.ownBlock=Ã b then 1 else g b)=g b:=λb q=>by split;rename_i e;exact(aup b q e).symm;rfl
  refine hJ l6 (qs++[⟨x,m,[gO.kh],f,[gO.kh]⟩]) (λb=>if C.ownBlock=Ã b then 1 else g b) C JN ⟨hM.fE (λb q z=>(adt b q z).2) (λb q=>T.O b<|Q.O b (N b q).1) (Ö P.m.r.fM<|Ö Q.I T.I) NM λb q=> ?_,a6,(if_neg ads).trans t2w,?_,λb e=>⟨R6.fE b e,if_pos e⟩⟩ (λb q z=> ?_) fD fD (λ_ _=>by simp) λc S=> ?_;rw[if_neg λe=>q<|R6.fE b e];exact hM.I b λz=>q<|T.O b<|Q.O b (N b z).1;have e1:(qs++[(⟨x,m,[gO.kh],f,[gO.kh]⟩:Pr)]).length=qs.length+1:=fD;have e2:yt (qs++[⟨x,m,[gO.kh],f,[gO.kh]⟩])=yt qs++[Æ<|Ã ⟨x,0,Å⟩,Æ<|Ã ⟨f,0,Å⟩]:=by simp[yt]
  rw[e1,e2];exact R6.r;have z2:g b=0:=(vD b q).trans z;let⟨q1,q2⟩:=adt b (k2' b q).1 Z;exact⟨q1,q2.trans (k2' b q).2,(NM b (k2' b q).1).trans z2⟩;obtain z|z:=dx.1 S;exact Í z;rw[eY.1 z];exact Ó U
 .have xc:n<1\/8<n:=Z;refine Ek I h.m.r.fM ŏ (args:=#[Â Ä n]) (v:=Þ #[Æ Å,Â Ä 7]) (λl' K L M cs=>JO K L gq (λu hu=>by simp at hu;subst hu;exact .iZ _ _) ado (λw=>xc.elim (λq=>anL n q w) λq=>anM n q w) Ì M cs) λW F X s1=> ?_;have h1:=h.C X s1;refine kH F.r.r ?_;refine Ek F h1.m.r.fM ć (args:=#[Â Ä n]) (v:=Þ #[Æ Å,Â Ä 7]) (λl' K L M cs=>JO K L gq (λu hu=>by simp at hu;subst hu;exact .iZ _ _) ado (atn xc) Ì M cs) λl2 Ei k2 s2=> ?_;have B:=h1.C k2 s2;refine kH Ei.r.r ?_;refine Ek Ei B.m.r.fM Ď (λl' K L M cs=>VH K L 7 M cs) λl3 r N s3=> ?_;refine kH r.r.r ?_;refine AY (Û Ì) r.r.r r.q ?_ (he:=λw=>by simp[go_sem,(VI _).1]);refine kH r.r.r ?_;refine AY (Û Ì) r.r.r r.q ?_ (he:=λw=>by simp[go_sem,(VI _).2.1]);refine kH r.r.r ?_;refine AY (Û Ç) r.r.r r.q ?_ (he:=λw=>by simp[go_sem,adq]);refine kH r.r.r ?_;refine AY (Û Ç) r.r.r r.q ?_ (he:=λw=>by simp[go_sem,(VI _).2.2]);walk_nrm;apply gY r.r.r;repeat w_go fW
  u_in fW hF
  refine î (t:=4) U U Ĉ U ⟨by u_nil,?_⟩;apply gZ;exact hJ l3 qs t pv r (B.C N s3) ((X.r k2).r N).fH.r (eE _) Z (λq1 q2=>absurd ⟨q1,q2⟩ hn) λa q=>Í q
end
def Kt(c:Int)(n:Nat):Int:=if c<0 then(-(c+1))%n else c%n
def auq(c:Int)(a:0<n):∃j:Nat,Kt c n=j/\j<n:=by have b:=ý (-(c+1)) (show(n:Int)≠0 by omega);have d:=Ĕ (-(c+1)) (show 0<(n:Int) by omega);have e:=ý c (show(n:Int)≠0 by omega);have f:=Ĕ c (show 0<(n:Int) by omega);refine⟨(Kt c n).toNat,?_,?_⟩<;>unfold Kt<;>split<;>omega
def aur(c:Int)(f:-9223372036854775808<=c)(g:c<=9223372036854775807)(i:0<n)(j:n<=2^43)(w:Ô):Ü Á 25 #[Â Ä c,Â Ä n] w λe d=>e=É (Â Ä<|Kt c n)/\d=w:=by
 have b:(n:Int)≠0:=Z;unfold Kt;by_cases h:c<0
 .rw[if_pos h];have a:=ý (-(c+1)) b;have e:-(c+1).tmod n=(-(c+1))%n:=by rw[<-Int.neg_tmod,eX Z]
  have H:=fv<|À e.symm a;clear e a;go_enter Ī,ń;go_wp2;go_ret;exact⟨by rw[H.oQ.1];rfl,U⟩
 rw[if_neg h];have a:=ý c b;have e:c.tmod n=c%n:=eX Z;have H:=fv<|À e.symm a;clear e a;go_enter Ī,ń;go_wp2;go_ret;simp_all
def aus(B:ByteArray)(f:B.size<=í)(w:Ô):Ü Á 15 #[Ï B] w λe g=>e=É (Û<|decide<|(40:UInt8)∈B.data.toList)/\g=w:=by
 generalize d:decide ((40:UInt8)∈B.data.toList)=res;unfold í at f;go_enter Ő,Tryz.ntmps15;go_wp2;go_loop [3] (λv=>∃i:Nat,i<=B.size/\decide ((40:UInt8)∈B.data.toList.drop i)=res/\v=Â Ä i) λv=>B.size-(ó v).toNat
 case atStart=>exact⟨0,eD _,d,U⟩
 case round=>
  obtain⟨i,j,a,rfl⟩:=hrel;clear d;by_cases b:i<B.size
  .have h:i<B.data.toList.length:=by rwa[dU]
   rw[è h,show B.data.toList[i]=B[i] by rw[cH];rfl]at a;have H:=fv a;clear a;by_cases c:B[i]=40
   .go_wp2;go_ret;exact⟨by rw[<-H.oQ,c];simp,U⟩
   have k:((B[i].toNat:Int)==40)=Ç:=by rw[beq_eq_false_iff_ne];intro e;exact c<|bP.1<|by show B[i].toNat=40;omega
   go_wp2;go_round
   case rel=>exact⟨i+1,b,by rw[<-H.oQ];simp[cR c],by go_num⟩
   case measure=>simp[ó];omega
  .rw[di (by rw[dU];exact dz b)]at a;subst a;go_wp2;go_ret;exact⟨U,U⟩
end jg
namespace fO
open Conc Lift RowKit Conc.Lib ConcR.Gen
section
variable{J:Jd}{l:fx}{T:Nat->Array Ê}{ob c:Obj}
theorem aut{b:fx}{w₁:Ô}(s:gT l)(h:iX l b)(r:gd b b.w w₁):iX l (E9 b w₁ ob):=by
 have a:=h.I r;have d:w₁.heap.size<=(w₁.alloc ob).heap.size:=by rw[Fa];omega
 have c:∀{j},j<l.w.heap.size->j<w₁.heap.size:=λq=>ff q a.r.r;refine⟨λj q=>Í<|a.O j q,λj q=>q.elim (a.a j) λe=>Ó<|e▸a.r.r,a.N,a.S,a.Y,a.K,a.q,⟨Ö a.r.r d,λj q=>(uO<|c<|s.fM j q).trans<|a.r.I j q,λy q=>(iE<|uO<|c<|s.I y q).trans<|a.r.N y q,λy q=>(yI<|uO<|c<|s.I y q).trans<|a.r.Y y q,λy q z=> ?_⟩,λj q=> ?_⟩;show((w₁.alloc ob).cell? y).isSome=Ì;rw[iE<|uO<|c (s.N y q).2.1];exact a.r.S y q z;show j<(w₁.alloc ob).heap.size;rw[Fa];obtain q|q:=q;have:=a.fM j q;grind;omega
def auu{b:fx}{w₁:Ô}(s:gT l)(h:iX l b)(r:gd b b.w w₁)(g:l.w.heap.size<=i)(d:u.heap.size=w₁.heap.size)(f:∀j,j≠i->u.heap[j]?=w₁.heap[j]?):iX l {b with w:=u}:=by have a:=h.I r;have c:∀{j},j<l.w.heap.size->u.heap[j]?=w₁.heap[j]?:=λq=>f _ Z;refine⟨a.O,a.a,a.N,a.S,a.Y,a.K,a.q,⟨by show l.w.heap.size<=u.heap.size;rw[d];exact a.r.r,λj q=>(c<|s.fM j q).trans<|a.r.I j q,λy q=>(iE<|c<|s.I y q).trans<|a.r.N y q,λy q=>(yI<|c<|s.I y q).trans<|a.r.Y y q,λy q z=> ?_⟩,λj q=> ?_⟩;show(u.cell? y).isSome=Ì;rw[iE<|c (s.N y q).2.1];exact a.r.S y q z;show j<u.heap.size;rw[d];exact a.fM j q
def adu{a b:fx}{o:Obj}(h:iO a i o)(L:iX a b):iO b i o:=⟨L.O i h.fE,(L.r.I i<|Í h.fE).trans h.r⟩
def OpR(P:Ŗ)(yQ:Bool)(l:fx)(qX:List õ)(Q:Array ü)(b:Array Ê)(i:Nat)(o:ü):Prop:=
 (∀a,iX l a->∀f,gd a a.w f->(ì (ï ⟨b,[]⟩) o).run P f=.ok (č<|jT Q b i) f/\∀e∈(ì (ï ⟨b,[]⟩) o).events P f #[],r8 a e)\/
  ∃f e,(∀w,(ì (ï ⟨b,[]⟩) o).run P w=.ok (.enter f e) w)/\(∀w,(ì (ï ⟨b,[]⟩) o).events P w #[]=#[])/\
   ∀a,iX l a->a.d=l.d->∀c,fF P yQ (λg h=>iX a g/\g.d=a.d/\h=G (c.finish<|jT Q b i) qX) a<|G (ç P f e û)<|c::qX
theorem auv{id:Nat}(s:gT l)(hq:¬l.q)(I:f.kind≠.early)(F:tO Q d.size=Ì)(hd:Fc Q=Ì)(I4:Q.toList.all (·.guard.isNone)=Ì)(ho:∀K,C6 K Q (ĕ Q.size) []=Ì)(jV:∀e,(T e).size=d.size)(hold:∀e b,Q.toList.all (λo=>o.dst !=Ã b)=Ì->(T e)[b]?=d[b]?)(auw:∀e e' j,j≠i->jT Q (T e) j=jT Q (T e') j)(hAv:∀e,jT Q (T e) i=Æ (Ã ⟨e,0,Å⟩))(hA:i<Q.size)(hS:n<Q.size)(mP:i≠n)(hAo:∀o,Q[i]?=Ã o->∀e w,(ì (ï ⟨T e,[]⟩) o).run P w=.ok (č<|Æ<|Ã ⟨w.heap.size,0,Å⟩) (w.alloc ob)/\(ì (ï ⟨T e,[]⟩) o).events P w #[]=#[])(hSo:∀o,Q[n]?=Ã o->o.dst=Å/\o.after.toList.any (λe=>e.on==i&&uN e)=Ì/\∀e h,iX l h->iO h e ob->∀u,gd h h.w u->∃y,(ì (ï ⟨T e,[]⟩) o).run P u=.ok .skip y/\y.heap.size=u.heap.size/\(∀j,j≠e->y.heap[j]?=u.heap[j]?)/\(y.os=u.os/\y.output=u.output/\y.tape=u.tape)/\y.heap[e]?=Ã c/\∀X∈(ì (ï ⟨T e,[]⟩) o).events P u #[],r8 h X)(oF:C9 (λg o=>g=i\/g=n\/∀e,OpR P yQ l qX Q (T e) g o) 0 Q.toList)(hn:∀h e,iX l h->h.d=l.d->iO h e c->l.w.heap.size<=e->fF P yQ J h (G (f.at ⟨T e,[]⟩<|Ý Q []::L) qX)):fF P yQ J l (G (f.at ⟨d,[]⟩<|Ř (.region id Q Ì)::L) qX):=by
 refine RY (λv a h=>∃e,lD Q d (jT Q<|T e) v a/\iX l h/\h.d=l.d/\(v.getD i Ç=Ì->l.w.heap.size<=e/\iO h e (if v.getD n Ç=Ì then c else ob))) s.r hq (λu r=>⟨0,lD.M _ _ _,(iX.gy s.r).I (w₁:={u with drawn:=u.drawn+1}) ⟨r.r,r.I,r.N,r.Y,r.S⟩,U,λq=>by simp only[fq,fc]at q;split at q<;>cases q⟩) (λK v a h g rest Y B=> ?_) λK v a h Y hz hr=> ?_;let⟨e,C,k,E,H⟩:=Y;have xG:¬h.q:=by rwa[k.q]
 obtain⟨o,t⟩:∃o,Q[g]?=Ã o:=⟨_,fj<|AZ B⟩;let⟨D,_⟩:=C.N (hold e) (jV e) F hd B t;have M:æ o (ĭ Q a.tmps)=Ì:=A1 (by simpa using eI.1 I4 o<|eS.2<|fg t) _;have hun:=(mem_ready.1 B).1;have adv:g≠i->g≠n->∀{N:fx},iX h N->(v.setIfInBounds g Ì).getD i Ç=Ì->l.w.heap.size<=e/\iO N e (if(v.setIfInBounds g Ì).getD n Ç=Ì then c else ob):=λn1 n2 N k2 q=>by rw[ī Ç n1]at q;rw[ī Ç n2];exact⟨(H q).1,adu (H q).2 k2⟩
 by_cases O:g=i;subst O;have nS:v.getD n Ç=Ç:=by
  cases hz:v.getD n Ç with
  |false=>rfl|true=>
   obtain⟨m,x⟩:∃o,Q[n]?=Ã o:=⟨_,fj hS⟩;let⟨S,W,z⟩:=du.1 (hSo m x).2.1;simp only[eC,beq_iff_eq]at z;have:=C.C n m S x hz (eS.1 W) z.2;rw[z.1]at this;grind
 refine Za (V:=λp=>Æ<|Ã ⟨p,0,Å⟩) (ob:=ob) t M I k.fM xG (λw=>by rw[D];exact(hAo o t e w).1) (λw=>by rw[D];exact(hAo o t e w).2) λu r=> .fS λx m=> ?_;refine⟨_,U,u.heap.size,(C.K λj S=>auw _ _ j λz=>by subst z;grind).fR F t B λ_=>(hAv _).symm,(aut s k r).I m,E,λ_=>⟨Ö k.r.r r.r,?_⟩⟩;rw[ī Ç mP,nS];exact⟨Ó U,(m.I _<|Í<|Ó U).trans Y6⟩;by_cases S:g=n;subst S;let⟨Ik,haf,jh⟩:=hSo o t;let⟨W,z⟩:=H<|zd B t haf;have nS:v.getD g Ç=Ç:=by grind
 rw[nS]at z;refine C5 t M I λu r=> ?_;let⟨y,z1,z2,z3,z4,z5,z6⟩:=jh e h k z u r;rw[D,z1];refine⟨_,Y7 (p:=e) (o5 k.fM r) xG z.fE z2 z3 z4 λX he=>z6 X (by rw[<-D];exact mem_listed he),.fS λx m=>⟨_,U,e,C.fR F t B λq=>absurd Ik q,(auu s k r W z2 z3).I m,E,λ_=>⟨W,z.fE,?_⟩⟩⟩;have:(v.setIfInBounds g Ì).getD g Ç=Ì:=by
  have iu:g<v.size:=by grind
  simp[iu]
 rw[this];exact(m.I e<|Í z.fE).trans z5;have hO:=Fe _ _ _ _ oF (show Q.toList[g]?=Ã o by rwa[eV]);rw[dQ]at hO;rcases(hO.resolve_left O).resolve_left S e with xM|⟨r,args,hr,he,hW⟩;refine AW t M I k.fM xG (λx m=>by rw[D];exact(xM h k x m).1) (λx m=>by rw[D];exact(xM h k x m).2) (.fS λx m=>⟨_,U,e,C.fR F t B λ_=>U,k.I m,E,adv O S<|(iX.gy k.fM).I m⟩);refine .mk U λx m=>⟨G (ç P r args û)<|f.at a (Ý Q (g::rest)::L)::qX,x,#[],{h with w:=x},?_,LI x<|o5 k.fM m,(hW _ (k.I m) E _).fG ?_⟩;rw[stepG_enter t M I (by rw[D];exact hr x)];rw[ř,D,he x,seen_none];rintro N g2 ⟨ha2,ry,rfl⟩;refine⟨_,by rw[ô],e,?_,(k.I m).fA ha2,ry.trans E,adv O S<|((iX.gy k.fM).I m).fA ha2⟩;rw[show(Q[g]?).bind (·.dst)=o.dst by rw[t];rfl];exact C.fR F t B λ_=>U;let⟨e,C,k,E,H⟩:=Y;have r:=C7 hr hz _ [] (ho K) λ_ q=>by cases q
 obtain rfl:=C.H (hold e) (jV e) F r;let⟨W,z⟩:=H<|r i<|dZ.2 hA;rw[r n<|dZ.2 hS,if_pos U]at z;exact hn h e k E z W
def auy{id:Nat}(i n:Nat)(ob c:Obj)(m:Nat->List Ê)(s:gT l)(p:¬l.q)(r:f.kind≠.early)(t:tO Q d.size=Ì)(u:Fc Q=Ì)(v:Q.toList.all (·.guard.isNone)=Ì)(x:∀y,C6 y Q (ĕ Q.size) []=Ì)(z:i<Q.size)(B:n<Q.size)(C:i≠n)(h:∀T:Nat->Array Ê,(T=λe=>lj Q.toList (m e) d)->((∀e D j,j≠i->jT Q (T e) j=jT Q (T D) j)/\∀e,jT Q (T e) i=Æ (Ã ⟨e,0,Å⟩))/\ (∀o,Q[i]?=Ã o->∀e w,(ì (ï ⟨T e,[]⟩) o).run P w=.ok (č<|Æ<|Ã ⟨w.heap.size,0,Å⟩) (w.alloc ob)/\(ì (ï ⟨T e,[]⟩) o).events P w #[]=#[])/\ (∀o,Q[n]?=Ã o->o.dst=Å/\o.after.toList.any (λe=>e.on==i&&uN e)=Ì/\∀e b,iX l b->iO b e ob->∀g,gd b b.w g->∃k,(ì (ï ⟨T e,[]⟩) o).run P g=.ok .skip k/\k.heap.size=g.heap.size/\(∀j,j≠e->k.heap[j]?=g.heap[j]?)/\(k.os=g.os/\k.output=g.output/\k.tape=g.tape)/\k.heap[e]?=Ã c/\∀E∈(ì (ï ⟨T e,[]⟩) o).events P g #[],r8 b E)/\ C9 (λa o=>a=i\/a=n\/∀e,OpR P yQ l qX Q (T e) a o) 0 Q.toList/\ ∀b e,iX l b->b.d=l.d->iO b e c->l.w.heap.size<=e->fF P yQ J b (G (f.at ⟨T e,[]⟩<|Ý Q []::L) qX)):fF P yQ J l (G (f.at ⟨d,[]⟩<|Ř (.region id Q Ì)::L) qX):=by let⟨⟨F,H⟩,I,K,M,N⟩:=h _ U;exact auv s p r t u v x (λe=>(oI _ _ _).1) (λe=>(oI _ _ _).2) F H z B C I K M N
end
end fO
namespace jg
open Conc RowKit Lift gO fO me
open Conc.Lib ConcR.Gen YtgpphkdoanciiabGreatDoor
def VJ:∀(c:List Pr)(j:Nat)(a b:Pr),c[j]?=Ã a->b.x=a.x->b.y=a.y->yt (c.set j b)=yt c
 |[],j,a,b,h,_,_=>by cases h
 |q::r,0,a,b,h,e1,e2=>by cases h;simp[yt,e1,e2]
 |q::r,j+1,a,b,h,e1,e2=>by have:=VJ r j a b h e1 e2;simp only[cO,yt,eL]at this|-;rw[this]
def tw.C{l a:fx}{t:Nat->Nat}{o:Obj}(h:tw l t a D)(q:iO l b o)(z:t b=0):iO a b o/\D b=0:=by let⟨c,d,e⟩:=h b q.fE Z;exact⟨⟨c,d.trans q.r⟩,e.trans z⟩
def auz{l:fx}(a:iw l)(t:nB<=l.w.heap.size){f:ņ}{args:Array Ê}{r:Ê}(n:Bo f=Ì)(x:∀v∈args.toList,fI (nk (λ_=>False) Á.globals.size) v v)(y:∀{Y v},fI Y r v->v=r)(z:∀w,Ü Á f args w λe o=>e=É r/\fw fB w o)(p:Bool)(c:õ)(i:List õ): fO.fF Á p (λm s=>iX l m/\m.d=l.d/\s=G (c.finish r) i) l (G (ç Á f args û)<|c::i):=by
 let⟨F,H,B,C⟩:=uT f n;have E:∀T,Ü Á f args (World.tp (kL (λj=>False/\¬(nR l).O j) l.w) T 0) fun|É v,j=>v=r/\kU j|_,_=>False:=λT=>by refine(z _).mono ?_;rintro e o ⟨rfl,k⟩;exact⟨U,k.iH zI⟩
 refine((Bl xj FG uT (λv u T D h=>h) n B C (Ds a.r) a.q (λb q=>q.elim) ⟨λb q=>q.elim,t⟩ (λg q=>by cases q) (pz x) E p c i).nR a.r).fG ?_;rintro m s ⟨u,⟨Y,j,v,D,_,_,g,rfl,b,_,_,h⟩,rfl,k,_,_,_⟩;rw[y g]at b;exact⟨k,h,b⟩
theorem auA(B:ByteArray):Ec B=((iC B).1,(iC B).2.1):=by unfold Ec;by_cases h:1200<B.size;rw[if_pos h,iC,if_pos h];rw[if_neg h,Vy h];unfold iC ny;rw[if_neg h];grind
def auB(a:B.size<=í)(w:Ô):Ü Á 40 #[Ï B] w λe b=>e=É (Þ #[Â Ä (iC B).1,Â Ä (iC B).2.1])/\fw fB w b:=by have C:=abx (w:=w) a;generalize iC B=q at*;go_enter Tryz.func40,Tryz.ntmps40;go_wp2_with (go_at_call 19;apply Ù C;rintro e d ⟨c,v,rfl,_⟩);go_ret2;exact⟨U,c⟩
def auC(a:B.size<=í)(w:Ô):Ü Á 24 #[Ï B] w λe c=>e=É (Û Ì)/\fw fB w c:=by
 have d:=auB a;have b:=acu a;rw[auA]at b;generalize(iC B).1=q at*;generalize(iC B).2.1=r at*;go_enter ő,Tryz.ntmps24;go_wp2_with (first|(go_at_call 40;refine gl (d _) λg f=> ?_)|(go_at_call 41;refine gl (b _) λi g=> ?_)|(go_at_call 23;refine iT (adp _ _) ?_))
 go_ret;exact⟨U,f.fA g⟩
section
variable{l:fx}{E:List Pr}{t:Nat->Nat}{H:õ}{F:Int}
def auD(W:iw l)(k:qU l E t n v)(h0:0<E.length)(hN:E.length<=2^42)(qZ:∀a∈E,a.s=a.d)(HQ:-9223372036854775808<=c)(hW1:c<=9223372036854775807)(hB:B.size<=í)(hJ:∀C On t' VK,iw C->qU C On t' n VK->xe l t C t'->E.length<=On.length->On.length<=E.length+1->(∀a∈On,a.s=a.d)->jB vQ C (G (H.at (y.put ((Q[i]?).bind (·.dst))<|Û Ì)<|Ý Q jJ::L) qX)): jB vQ l (G (ç Á 16 #[Æ<|Ã ⟨n,0,Å⟩,Ú #[Â Ä F,Â Ä h,Â Ä c,Ï B]] û)<|H.at y (Ý Q (i::jJ)::L)::qX):=by
 have hF:True:=trivial;rw[D5 [_,_] 88 ö];simp only[ď,ck,ec];conv in mr _ _=>whnf
 apply vn;refine kH W.r.r ?_;refine o8 (λp=>Æ<|Ã ⟨p,0,Å⟩) (Ñ #[Â Ä F,Â Ä h,Â Ä c,Ï B] 45) W.r W.q λl1 S k1 X hob _ _=> ?_;walk_nrm;have hob:¬l.O S:=λq=>by have:=W.r.fM _<|Í q;omega
 have D:=Kp k1 W;have a1:qa l l1:=λb q=>⟨k1.O b q,k1.r b (Í q) id⟩;have N:=k.C a1 k1.I;have s1:xe l t l1 t:=a1.fH.r;have t1:t S=0:=k.m.I S hob;clear k1 a1;refine kH D.r.r ?_;apply qi 0 X D.r D.q;walk_nrm;by_cases e0:F=1
 .have e1:(F==1)=Ì:=by rwa[beq_iff_eq]
  refine kH D.r.r ?_;apply qi 3 X D.r D.q;walk_nrm;refine Ek D N.m.r.fM ő (args:=#[Ï B]) (v:=Û Ì) (λC lL J7 cl qX=>auz lL J7 gq (λu P=>by simp at P;subst P;exact .lb _) (λk=>by cases k;rfl) (auC hB) Ì cl qX) λz V Y I=> ?_;walk_nrm;apply gY V.r.r;repeat w_go fW
  u_in fW hF
  refine î (t:=4) U U ö U ⟨by u_nil,?_⟩;apply gZ;exact .fS λE5 p=>⟨V.C p,U,hJ _ E t v (V.C p) ((N.C Y I).r p) ((s1.fA Y.fH.r).fA (rL p).r) (eE _) Z qZ⟩
 have e1:(F==1)=Ç:=by rwa[beq_eq_false_iff_ne]
 by_cases e2:F=2
 .have e3:(F==2)=Ì:=by rwa[beq_iff_eq]
  refine kH D.r.r ?_;apply qi 1 X D.r D.q;walk_nrm;refine Gv Ĉ D.r.r λJ e=> ?_;refine adr (D.C e) (N.r e) h hN λK z g T V Y j r o _ I=> ?_;walk_nrm;apply gY V.r.r;repeat w_go fW
  u_in fW hF
  refine î (t:=4) U U ö U ⟨by u_nil,?_⟩;apply gZ;exact .fS λE5 p=>⟨V.C p,U,hJ _ z g T (V.C p) (Y.r p) (((s1.fA (rL e).r).fA j).fA (rL p).r) r o λa q=>(I a q).elim (qZ a) id⟩
 .have e3:(F==2)=Ç:=by rwa[beq_eq_false_iff_ne]
  have e4:((E.length:Int)==0)=Ç:=by rw[beq_eq_false_iff_ne];omega
  obtain⟨K,gc,Eh⟩:∃K gc,v=È (Ã ⟨K,0,Å⟩) E.length gc:=by obtain⟨z,o⟩|⟨g,I,e,z,_⟩:=k.N.2;omega;exact⟨g,I,z⟩
  have hgO:v.ownBlock=Ã K:=by rw[Eh];rfl
  refine kH D.r.r ?_;refine ru (x:=⟨n,0,Å⟩) (v:=È (Ã ⟨K,0,Å⟩) E.length gc) (by rw[<-Eh];exact N.I.I U) (Í<|Í N.I.fE) D.r.r D.q ?_;refine kH D.r.r ?_;let⟨j,hj,Mi⟩:=auq c h0;obtain⟨a,ha⟩:∃a,E[j]?=Ã a:=⟨_,fe Mi⟩;have CB:∀C,iX l1 C->∀J,gd C C.w J->(J.cell? ⟨n,0,Å⟩=Ã (È (Ã ⟨K,0,Å⟩) E.length gc)/\J.cell? ⟨S,2,Å⟩=Ã (Â Ä c)/\J.cell? ⟨K,j*2,Å⟩=Ã (Æ<|Ã ⟨a.x,0,Å⟩)/\J.cell? ⟨K,j*2+1,Å⟩=Ã (Æ<|Ã ⟨a.y,0,Å⟩))/\∀g,jO C ⟨n,g,Å⟩/\jO C ⟨S,g,Å⟩/\jO C ⟨K,g,Å⟩:=λC M J r=>by have I:∀b g e,l1.O b->l1.w.cell? ⟨b,g,Å⟩=Ã e->J.cell? ⟨b,g,Å⟩=Ã e:=λb g e q z=>(iE<|(r.I b<|Í<|M.O b q).trans<|M.r.I b<|Í q).trans z;have o:=(N.M K hgO).1;have T:=N.N.cells hgO;let⟨x0,x1⟩:=BI (λa:Pr=>Æ<|Ã ⟨a.x,0,Å⟩) (λa=>Æ<|Ã ⟨a.y,0,Å⟩) E j _ ha;have y0:=T (j*2) _ x0;have y1:=T (j*2+1) _ x1;rw[Addr.add_lit,dQ]at y0 y1;exact⟨⟨I n 0 _ N.I.fE (by rw[<-Eh];exact N.I.I U),I S 2 _ X.fE<|X.I U,I K _ _ o y0,I K _ _ o y1⟩,λg=>⟨Í<|Í<|M.O n N.I.fE,Í<|Í<|M.O S X.fE,Í<|Í<|M.O K o⟩⟩
  have HC:=fv CB;clear CB;have auE:(j:Int)<(E.length:Int):=Z;refine auy 14 15 (Ñ #[Æ Å,Æ Å] 67 (0,0)) (Ñ #[Æ<|Ã ⟨a.x,0,Å⟩,Æ<|Ã ⟨a.y,0,Å⟩] 67 (0,0)) (λe=>[Æ<|Ã ⟨n,0,Å⟩,Æ<|Ã ⟨n,0,Å⟩,Æ<|Ã ⟨n,0,Å⟩,È (Ã ⟨K,0,Å⟩) E.length gc,Æ<|Ã ⟨S,2,Å⟩,Â Ä c,Æ<|Ã ⟨n,0,Å⟩,Æ<|Ã ⟨n,0,Å⟩,Æ<|Ã ⟨n,0,Å⟩,È (Ã ⟨K,0,Å⟩) E.length gc,Â Ä E.length,Â Ä j,Æ<|Ã ⟨K,j*2,Å⟩,Ú #[Æ<|Ã ⟨a.x,0,Å⟩,Æ<|Ã ⟨a.y,0,Å⟩],Æ<|Ã ⟨e,0,Å⟩,Ň]) D.r D.q ji gq gq gq (λI=>by cases I<;>rfl) A A A λT hT=> ?_;simp only[lj]at hT;simp at hT;subst hT;refine⟨⟨λe e' g hn=> ?_,λe=>U⟩,λo ho e w=> ?_,λo ho=> ?_,?_,λl4 pb Gw Dy p4 z4=> ?_⟩;obtain _|_|_|_|_|_|_|_|_|_|_|_|_|_|_|_|g:=g<;>first|rfl|exact absurd U hn
  obtain rfl:=dh ho;exact⟨by go_simp,by simp[go_sem]⟩;obtain rfl:=dh ho;refine⟨U,gq,λe C M Y J r=> ?_⟩;have V:J.heap[e]?=_:=(r.I e<|Í Y.fE).trans Y.r;have TP:J.cell? ⟨e,0,Å⟩=Ã (Æ Å):=by simp[Ĩ,V]
  have FX:J.cell? ⟨e,1,Å⟩=Ã (Æ Å):=by simp[Ĩ,V]
  have hz:∀j,J.frozen? ⟨e,j,Å⟩=Ç:=λj=>by simp[World.frozen?,V]
  refine⟨(J.setCell ⟨e,0,Å⟩<|Æ<|Ã ⟨a.x,0,Å⟩).setCell ⟨e,1,Å⟩<|Æ<|Ã ⟨a.y,0,Å⟩,by go_simp,fD,λj hj=> ?_,⟨U,U,U⟩,?_,λev I=> ?_⟩;rw[Below.heap_setCell _ _ _ _ hj,Below.heap_setCell _ _ _ _ hj];simp[World.setCell,fh,V];simp[go_sem,Ņ _ _ _ _ _ _ (show à (Æ<|Ã ⟨a.x,0,Å⟩)=Ì from rfl),Ņ _ _ _ _ _ _ (show à (Æ<|Ã ⟨a.y,0,Å⟩)=Ì from rfl),TP,FX,hz]at I;have own:∀j,za C ⟨e,j,Å⟩:=λj=>Í Y.fE;obtain rfl|rfl:=I;exact(own _).r;exact(own _).r
  .iterate 11 refine⟨Ó (Ó λe=>Í λC M J r=>⟨by
    let⟨⟨V,Y,d2,d3⟩,_⟩:=HC C M J r;simp only[jT];go_simp,λev I=>by
    let⟨⟨V,Y,d2,d3⟩,hs⟩:=HC C M J r;first|(simp[go_sem]at I;done)|(simp[go_sem,V,Y]at I;subst I;first|exact(hs _).1.rd|exact(hs _).2.1.rd)⟩),?_⟩
   refine⟨Ó (Ó λe=>Ó ⟨25,#[Â Ä c,Â Ä E.length],λw=>by go_simp,λw=>ù U Ī U U #[],λC M hd' fr=> ?_⟩),?_⟩;have:=JO (iX.xT D M hd') (Ö N.m.r.fM M.r.r) (f:=25) gq (λu P=>by simp at P;obtain rfl|rfl:=P<;>exact .iZ _ _) (λk=>by cases k;rfl) (aur c HQ hW1 h0 Z) Ì fr<|H.at y (Ý Q (i::jJ)::L)::qX;rwa[hj]at this;iterate 2 refine⟨Ó (Ó λe=>Í λC M J r=>⟨by
    let⟨⟨V,Y,d2,d3⟩,_⟩:=HC C M J r;simp only[jT];go_simp,λev I=>by
    let⟨⟨V,Y,d2,d3⟩,hs⟩:=HC C M J r;first|(simp[go_sem,auE]at I;done)|(simp[go_sem,d2,d3]at I;obtain rfl|rfl:=I<;>exact(hs _).2.2.rd)⟩),?_⟩
   exact⟨Í U,Ó<|Í U,trivial⟩
  dsimp only;have I:=iX.xT D Gw Dy;have a4:qa l1 l4:=λb q=>⟨Gw.O b q,Gw.r.I b<|Í q⟩;have h4:=N.C a4 Gw.r.r;have po:iO l4 S _:=adu X Gw;have s4:xe l t l4 t:=s1.fA a4.fH.r;have tp:t pb=0:=N.m.I pb λq=>by have:=D.r.fM pb<|Í q;omega
  clear HC Gw Dy a4 N X D s1;refine kH I.r.r ?_;apply qi 0 po I.r I.q;walk_nrm;by_cases e5:F=3
  .have e6:(F==3)=Ì:=by rwa[beq_iff_eq]
   refine kH I.r.r ?_;apply qi 0 p4 I.r I.q;refine kH I.r.r ?_;apply qi 3 po I.r I.q;walk_nrm;refine .fS λVL P=>⟨I.C P,U,?_⟩;refine VG Tryz.func13 (I.C P) λauF VM=> ?_;refine auj ((h4.r P).r VM).m ha ((I.C P).C VM) hB λl7 Y m7 s7=> ?_;have V:tw l4 t l7 t:=((rL P).fA<|rL VM).fA s7;let⟨po7,_⟩:=V.C po t1;let⟨p7,_⟩:=V.C p4 tp;have h7:=h4.fH m7 V (VJ E j a _ ha U U) fD;have s8:=s4.fA V.r;clear m7 s7 V h4 po p4 s4 I;have VN:(E.set j {a with s:=(kF a.s B).2.2})[j]?=Ã {a with s:=(kF a.s B).2.2}:=by simp[Mi]
   walk_nrm;apply vn;refine kH Y.r.r ?_;apply qi 1 p7 Y.r Y.q;refine kH Y.r.r ?_;apply qi 3 po7 Y.r Y.q;walk_nrm;refine Gv ĩ Y.r.r λZx VO=> ?_;refine auk (a:={a with s:=(kF a.s B).2.2}) (h7.r VO).m VN (Y.C VO) hB λl9 t9 Gr m9 s9=> ?_;have V:=(rL (t:=t) VO).fA s9;have h9:=h7.fH m9 V (VJ _ j _ _ VN U U) fD;have s10:=s8.fA V.r;have yU:=qZ a<|eU ha;have VP:∀b∈(E.set j {a with s:=(kF a.s B).2.2}).set j {a with s:=(kF a.s B).2.2,d:=(kF a.d B).2.2},b.s=b.d:=λb W=>by rw[ŀ]at W;obtain z|z:=eO W;exact qZ b z;rw[z];simp only;rw[yU]
   clear m9 s9 V h7 s8 VN;dsimp only;rw[<-yU]at h9 VP|-;generalize kF a.s B=u at*;let⟨u1,u2,u3⟩:=u;dsimp only at h9 VP|-;refine kH Gr.r.r ?_;refine Ek Gr h9.m.r.fM Ď (λC lL J7 cl qX=>VH lL J7 u2 cl qX) λl10 z k10 ZV=> ?_;walk_nrm;apply gY z.r.r;repeat w_go fW
   u_in fW hF
   refine î (t:=4) U U ö U ⟨by u_nil,?_⟩;apply gZ;exact .fS λE5 p=>⟨z.C p,U,hJ _ _ t9 v (z.C p) ((h9.C k10 ZV).r p) ((s10.fA k10.fH.r).fA (rL p).r) fD fD VP⟩
  have e6:(F==3)=Ç:=by rwa[beq_eq_false_iff_ne]
  by_cases e7:F=4
  .have e8:(F==4)=Ì:=by rwa[beq_iff_eq]
   refine kH I.r.r ?_;apply qi 0 p4 I.r I.q;walk_nrm;refine Gv Tryz.func18 I.r.r λVL P=> ?_;have z:=h4.r P;have u:=I.C P;have p5:iO ({l4 with w:=VL}:fx) pb _:=p4.Y P;have s5:=s4.fA (rL P).r;let⟨_,sl,V,hA,_⟩:=z.m.x j a ha;let⟨_,Y,_⟩:=z.m.y j a ha;let⟨av,ps,hR,U3⟩:=Y.I;have yU:=qZ a<|eU ha;have F1:ps.length=a.s.length:=by rw[yU,<-U3,dw]
   have auG:=Y.C.C;rw[<-yU]at auG;let⟨ap,ac,Kh⟩:=jj hR.fE;have cy:=hR.r.r 0 _ U;rw[Kh,F1]at cy;apply arp u hA;refine kH u.r.r ?_;apply qi 1 p5 u.r u.q;refine kH u.r.r ?_;apply ru cy (Í<|Í<|Y.fE _ Y.y) u.r.r u.q;walk_nrm;apply gY u.r.r;repeat w_go fW
   u_in fW hF
   refine î (t:=4) U U ö U ⟨by u_nil,?_⟩;apply gZ;exact .fS λE5 p=>⟨u.C p,U,hJ _ E t v (u.C p) (z.r p) (s5.fA (rL p).r) (eE _) Z qZ⟩
  have e8:(F==4)=Ç:=by rwa[beq_eq_false_iff_ne]
  apply gY I.r.r;repeat w_go fW
  u_in fW hF
  refine î (t:=4) U U ö U ⟨by u_nil,?_⟩;apply gZ;exact .fS λE5 p=>⟨I.C p,U,hJ _ E t v (I.C p) (h4.r p) (s4.fA (rL p).r) (eE _) Z qZ⟩
end
structure B6 where
 k:Int
 n:Int
 w:Int
 s:ByteArray
structure B6.Ok(o:B6):Prop where
 w0:-9223372036854775808<=o.w
 w1:o.w<=9223372036854775807
 s:o.s.size<=í
def Ag(l:fx)(c:Option ĵ)(N:Nat)(f:Nat->B6):Prop:=∀j,j<N->(f j).Ok/\∃a b,c=Ã ⟨a,b,Å⟩/\l.O a/\l.w.rangeAt a (b+j*4) [Â Ä (f j).k,Â Ä (f j).n,Â Ä (f j).w,Ï (f j).s]
noncomputable def Oo:Code:=mr Ś [1,1,1,1,0,1,0,0]
noncomputable def adw:Code:=mr Ś [1,1,1,1,1]
noncomputable def Gx (a:Array Ê) (b:List õ):Goroutine:=G ((base 11).at ⟨a,[]⟩<|Ř Oo::.inLoop Oo::[.inBlock 0,Ř adw]) b
structure LF(bv:Ê)(lo hi:Int)(pl:Bool)(wb j:Nat)(tt:Array Ê):Prop where
 r:tt.size=61
 C:tt[0]?=Ã bv
 t1:tt[1]?=Ã (Â Ä lo)
 t2:tt[2]?=Ã (Â Ä hi)
 t3:tt[3]?=Ã (Û pl)
 t9:tt[9]?=Ã (Æ<|Ã ⟨wb,0,Å⟩)
 I:tt[11]?=Ã (Â Ä j)
section
variable{l r:fx}{e:List Pr}{t:Nat->Nat}{wb:Nat}{g:õ}{rest:List Nat}{k:List ŗ}{cs:List õ}{c:Nat}{f:Nat->B6}{lo hi:Int}{pl:Bool}{tt:Array Ê}
def auH(d:iw l)(a:LF (È O b c) lo hi pl wb b tt)(h:∀e,iw e->qa l e->jB vQ e (G (g.at (y.put ((Q[i]?).bind (·.dst))<|Û Ì)<|Ý Q rest::k) cs)):jB vQ l (Gx tt<|g.at y (Ý Q (i::rest)::k)::cs):=by
 have hF:True:=trivial;obtain⟨u,rfl⟩:=xF tt a.r;have j:u 0=È O b c:=fN a.C;have m:u 11=Â Ä b:=fN a.I;clear a;apply vn;apply gY d.r.r;simp only[Gx,ĕ,List.range.loop,ś,j,m];conv in Oo=>whnf
 conv in adw=>whnf
 repeat w_go fW
 u_in fW hF
 refine î (t:=8) U U Œ U ⟨by u_nil,?_⟩;apply gZ;exact .fS λn f=>⟨d.C f,U,h _ (d.C f)<|Ej f⟩
def auI(i:iw l)(h:qU l e t wb v)(h0:0<e.length)(hq:e.length<=2^42)(I:∀a∈e,a.s=a.d)(hx:Ag l O b f)(ht:∀D E,O=Ã ⟨D,E,Å⟩->t D=0)(k:LF (È O b c) lo hi Ç wb j tt)(hj:j<b)(hN:b<=9223372036854775807)(J:∀z F S VK T,iw z->qU z F S wb VK->xe l t z S->e.length<=F.length->F.length<=e.length+1->(∀a∈F,a.s=a.d)->LF (È O b c) lo hi Ç wb (j+1) T->jB vQ z (Gx T cs)):jB vQ l (Gx tt cs):=by
 have hF:True:=trivial;obtain⟨u,rfl⟩:=xF tt k.r;have e0:u 0=È O b c:=fN k.C;have e1:u 1=Â Ä lo:=fN k.t1;have e2:u 2=Â Ä hi:=fN k.t2;have e3:u 3=Û Ç:=fN k.t3;have e9:u 9=Æ (Ã ⟨wb,0,Å⟩):=fN k.t9;have L_:u 11=Â Ä j:=fN k.I;clear k;have q2:Ä.wrap ((j:Int)+1)=((j+1:Nat):Int):=IntWalk.i64_in _ ⟨Z,Z⟩;obtain⟨ok,D,E,rfl,hO,r⟩:=hx j hj;have tr:=ht D E U;generalize f j=o at ok r;let⟨kd,nn,W,B⟩:=o;dsimp only at r;let⟨V,X,K⟩:=ok;dsimp only at V X K;apply vn;apply gY i.r.r;simp only[Gx,ĕ,List.range.loop,ś,e0,e1,e2,e3,e9,L_];conv in(occs:=1) Oo=>whnf
 repeat w_go fW
 apply gZ;apply Fb (j:=E+j*4) (λn=>Í<|Í hO) ⟨r 0 _ U,r 1 _ U,r 2 _ U,r 3 _ U⟩ i.r i.q;walk_nrm;refine o8 (λp=>Æ<|Ã ⟨p,0,Å⟩) (Ñ #[Â Ä 0,Â Ä 0,Â Ä 0,Ï ⟨#[]⟩] 45) i.r i.q λDc L Y b1 wy tR qj=> ?_;walk_nrm;refine Ig (Â Ä kd) (Â Ä nn) (Â Ä W) (Ï B) b1 tR qj λl2 w x _ _=> ?_;replace w:=Y.H i.r wy w;have p:=Kp w i;have M:qa l l2:=λn q=>⟨w.O n q,w.r n (Í q) id⟩;have G:=h.C M w.I;have N:xe l t l2 t:=M.fH.r;clear b1 Y tR qj r w i h M;refine kH p.r.r ?_;apply qi 0 x p.r p.q;walk_nrm;by_cases z1:kd<lo
 .apply gY p.r.r;repeat w_nl fW
  w_go fW
  apply gZ;exact .fS λVQ g=>⟨p.C g,U,J _ e t v _ (p.C g) (G.r g) (N.fA (rL g).r) (eE _) Z I ⟨U,U,U,U,U,U,U⟩⟩
 .apply gY p.r.r;repeat w_nl fW
  apply gZ;apply qi 0 x p.r p.q;walk_nrm;by_cases z2:hi<kd
  .apply gY p.r.r;repeat w_nl fW
   w_go fW
   apply gZ;exact .fS λVQ g=>⟨p.C g,U,J _ e t v _ (p.C g) (G.r g) (N.fA (rL g).r) (eE _) Z I ⟨U,U,U,U,U,U,U⟩⟩
  apply gY p.r.r;repeat w_nl fW
  apply gZ;apply qi 3 x p.r p.q;walk_nrm;refine Ek p G.m.r.fM Ő (args:=#[Ï B]) (v:=Û<|decide<|(40:UInt8)∈B.data.toList) (λz C H P cs=>JO C H gq (λu y=>by simp at y;subst y;exact .lb _) (λh=>by cases h;rfl) (aus B K) Ì P cs) λl3 y H z3=> ?_;have p3:iO l3 L _:=⟨(H L x.fE).1,(H L x.fE).2.trans x.r⟩;generalize Pb:decide ((40:UInt8)∈B.data.toList)=cc;walk_nrm;clear Pb;apply gY y.r.r;repeat w_nl fW
  apply gZ;apply Fb p3.S p3.M y.r y.q;walk_nrm;refine .fS λVL C=>⟨y.C C,U,?_⟩;refine VG ö (y.C C) λauF P=> ?_;refine auD ((y.C C).C P) (((G.C H z3).r C).r P) h0 hq I V X K λl7 qs7 t7 pv7 Q h7 s7 y1 y2 y3=> ?_;have s8:=(N.fA H.fH.r).fA<|((rL C).fA<|rL P).r.fA s7;walk_nrm;apply vn;apply gY Q.r.r;repeat w_nl fW
  w_go fW
  apply gZ;exact .fS λVQ g=>⟨Q.C g,U,J _ qs7 t7 pv7 _ (Q.C g) (h7.r g) (s8.fA (rL g).r) y1 y2 y3 ⟨U,U,U,U,U,U,U⟩⟩
end
section
variable{l g:fx}{o:õ}{f:Nat->B6}{u:Int}
def Ag.r{l l':fx}(h:Ag l O n f)(L:∀b,l.O b->l'.O b/\l'.w.heap[b]?=l.w.heap[b]?):Ag l' O n f:=λj d=>by let⟨e,a,g,k,c,m⟩:=h j d;exact⟨e,a,g,k,(L a c).1,λi v o=>yj (L a c).2<|m i v o⟩
def adx(x:Ag g O n f)(D:n<2^42)(B:∀p,iw p->(∀c,g.O c->p.O c/\p.w.heap[c]?=g.w.heap[c]?)->jB vQ p (G (o.at (y.put ((Q[i]?).bind (·.dst))<|Û Ì)<|Ý Q jJ::L) qX)):∀(m k:Nat)(l:fx)(r:List Pr)(t:Nat->Nat)(z:Ê)(v:Array Ê),n-k=m->k<=n->iw l->qU l r t b z->0<r.length->r.length<=k+1->(∀a∈r,a.s=a.d)->(∀c,g.O c->l.O c/\l.w.heap[c]?=g.w.heap[c]?/\t c=0)->LF (È O n j) u h Ç b k v->jB vQ l (Gx v<|o.at y (Ý Q (i::jJ)::L)::qX)|0,k,l,r,t,z,v,hm,hj,hb,h,h0,hq,qZ,hk,hT=>by have e:k=n:=Z;subst e;exact auH hb hT λp a C=>B p a λc q=>⟨(C c (hk c q).1).1,(C c (hk c q).1).2.trans (hk c q).2.1⟩|m+1,k,l,r,t,z,v,hm,hj,hb,h,h0,hq,qZ,hk,hT=>by refine auI hb h h0 Z qZ (x.r (l':=l) λc q=>⟨(hk c q).1,(hk c q).2.1⟩) (λC E e=> ?_) hT Z Z λp E F H I a J K W X M N=>adx x D B m (k+1) p E F H I Z Z a J Z Z M (λc q=> ?_) N;let⟨_,P,S,C,q,_⟩:=x k Z;rw[e]at C;cases C;exact(hk _ q).2.2;let⟨C,e,P⟩:=hk c q;let⟨S,T,V⟩:=K c C P;exact⟨S,T.trans e,V⟩
def auJ(e:iw l)(K:oy l.w)(x:∀c,c=1\/c=2\/c=3\/c=4->l.O c)(hx:Ag l O n f)(hN:n<2^42)(hJ:∀r,iw r->(∀c,l.O c->r.O c/\r.w.heap[c]?=l.w.heap[c]?)->jB vQ r (G (o.at (y.put ((Q[i]?).bind (·.dst))<|Û Ì)<|Ý Q jJ::L) qX)): jB vQ l (G (ç Á 11 #[È O n j,Â Ä u,Â Ä h,Û Ç] û)<|o.at y (Ý Q (i::jJ)::L)::qX):=by
 have hF:True:=trivial;rw[D5 [_,_,_,_] 57 Œ];simp only[ď,ck,ec];conv in mr _ _=>whnf
 apply vn;refine kH e.r.r ?_;refine o8 (λp=>Æ<|Ã ⟨p,0,Å⟩) (Ñ #[È Å 0 0] 42) e.r e.q λM b g B C _ _=> ?_;walk_nrm;have C:¬l.O b:=λq=>by have:=e.r.fM _<|Í q;omega
 have D:=Kp g e;have k:qa l M:=λc q=>⟨g.O c q,g.r c (Í q) id⟩;have N:qU M [] (λc=>if c=b then 1 else 0) b (È Å 0 0):=by refine⟨⟨λi a q=>(by cases q),λi a q=>(by cases q),K.r (Ö K.fM g.I) λc q=>(k c<|x c q).2,λc q=>⟨(k c<|x c q).1,if_neg<|by rintro rfl;exact C<|x _ q⟩,λc q=>if_neg<|by rintro rfl;exact q B.fE⟩,B,if_pos U,ã _ _ _ _,λc q=>by cases q⟩
 have P:∀c,l.O c->(if c=b then 1 else 0)=0:=λc q=>if_neg (by rintro rfl;exact C q);clear g B;refine kH D.r.r ?_;refine Gv Ĉ D.r.r λG4 E=> ?_;refine adr (D.C E) (N.r E) 3 A λF S t pv p m T _ _ V W=> ?_;have X:=V A A;simp only[ä]at X;let⟨gp,gc,Y⟩:=jj m.N;have st:=((rL E).r.fA T);have k2:∀c,l.O c->F.O c/\F.w.heap[c]?=l.w.heap[c]?/\t c=0:=λc q=>by let⟨v,H,I⟩:=st c (k c q).1<|P c q;exact⟨v,H.trans (k c q).2,I⟩
 have qZ:∀a∈S,a.s=a.d:=λa q=>(W a q).elim (λz=>by cases z) id;rw[X]at Y;have J:=fv<|À m<|À k2 qZ;have hwo:=m.I.fE;have hwc:F.w.cell? ⟨b,0,Å⟩=Ã (È gp (0+1) gc):=by rw[<-Y];exact m.I.I U
 clear m T V W st k2 qZ N k P;refine kH p.r.r ?_;apply ru hwc (Í<|Í hwo) p.r.r p.q;walk_nrm;apply gY p.r.r;repeat w_bar fW
 w_go fW
 apply gZ;refine .fS λVQ z=>⟨p.C z,U,adx hx hN hJ n 0 _ S t pv _ Z (eD _) (p.C z) (J.1.r z) Z Z J.2.2 (λc q=> ?_) ⟨U,U,U,U,U,U,U⟩⟩;let⟨v,H,I⟩:=J.2.1 c q;exact⟨v,(z.I c<|Í v).trans H,I⟩
end
end jg
end Go.Proofs.Y
