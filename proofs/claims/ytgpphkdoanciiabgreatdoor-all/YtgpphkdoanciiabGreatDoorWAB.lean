import Derived.Test.YtgpphkdoanciiabGreatDoorWAA
import Derived.Conc.WgGenN3
import Derived.Conc.MuWords
import Derived.Test.YtgpphkdoanciiabGreatDoorRows
import Derived.Conc.WgLib
import Derived.Orders
import Derived.Conc.AppendWalk
set_option linter.all false
set_option maxRecDepth 1000000
set_option maxHeartbeats 8000000
open Or renaming inl->À,inr->Á
open Option renaming some->Â,none->Ã,isSome_iff_exists->Ý,map_eq_some_iff->æ
open Go.Value renaming pointer->Ä,int->Û,slice->à,string->ä,nilIface->Ă,tuple->ĉ,chan->ĭ,oneCell'->Ļ,func->ž
open Go renaming undef->Å,Goroutine->Ç,Value->Ì,World->Î,execOp->Õ,deafBehind->Ø,Frame->Ü,Oper->Þ,stepG->é,Trace->ï,yielded->ò,Addr->õ,mem_ready->ă,MemOp->Ą,Program->č,getD_set_ne->Ğ,getD_set_true->Ģ,resolve->ħ,Item->Į,FuncId->ļ,Act->Ł,TypeId->Ņ,events_store->Ō,Code->Ŗ,Event->ŗ,goexitEntry->ŝ,invoke->Ű,callFunc->ű,runT->ŵ,Operand->ź,callDeferred->Ξ,Deferred->Χ,unwind->ai,maxLen->ak,Mark->au,Obj->ay,runNT->aD,Loc->aR
open Bool renaming false->Æ,true->Ê
open Go.Item renaming inRegion->È,inBlock->ð,code->ü,inLoop->ċ
open Go.GoStatus renaming running->É,blocked->í,finished->Ĉ
open Go.Proofs.Tryz renaming prog->Ë,underlying20->Ŋ,underlying92->Ŏ,func47->ş,func30->š,t148->Β,func48->ν,func31->ξ,func32->ο,f34->π,func33->ρ,func34->ς,f32->aL,f47->aN
open Go.Operand renaming tmp->Í,const->þ,func->ĥ
open Go.IntKind renaming u64->Ï,u32->è,i64->ê,wrap_i64->ax
open Nat renaming le_trans->Ð,le_mul_of_pos_right->ã,mul_le_mul_left->ñ,add_mul_mod_self_right->Ē,lt_succ_of_lt->ŋ,mod_eq_of_lt->ő,mul_add->Ř,reduceAdd->Ź,mod_lt->χ
open Go.Region renaming ready->Ñ,wanted->Ó,Mode->á,binds->Ο
open Go.Code renaming region->Ò,block->ı,cond->Ś,skip->ť,exit->ż
open Go.ConcN renaming sumTo->Ô,wraps_u64_63->ø,sumTo_congr->Υ
open Go.Ground renaming data->Ö,phase->î,textOnly->ć,gcOnly->đ
open Go.ConcR renaming DC0->Ù
open Go.Departure renaming lateStores->Ú
open Go.Act renaming eval->ß,put->ŉ
open Go.MemAct renaming ofEvent->â,mark->Ĝ,touch?->ľ,start->ł,go->aT
open List renaming range->å,length_nil->ţ,all_cons->Ÿ
open Go.ConcR.Gen renaming x_semrelease_b->ç,x_semrelease_n->Ĕ,x_semrelease_x->ĕ,x_semrelease_f->Ė,x_enable_n->ė,x_enable_b->Ę,x_enable_x->ę,x_enable_f->Ě,mayWake_entry->ġ,x_disable_n->Ĳ,x_disable_b->ĳ,x_disable_x->Ĵ,x_disable_f->ĵ,x_loadU64_n->Ķ,x_loadU64_b->ķ,x_loadU64_x->ĸ,x_loadU64_f->Ĺ,body_done->Œ,x_addU64_n->ŧ,x_addU64_b->Ũ,x_addU64_x->ũ,x_addU64_f->Ū,nm_uLoad->ū,x_semacquire_n->Ŭ,x_semacquire_b->ŭ,x_semacquire_x->Ů,x_semacquire_f->ů,body_wait->Ž,x_relMerge_n->Ε,x_relMerge_b->Ζ,x_relMerge_x->Η,x_relMerge_f->Θ,x_storeU64_n->Κ,x_storeU64_b->Λ,x_storeU64_x->Μ,x_storeU64_f->Ν,x_acquire_n->δ,x_acquire_b->ε,x_acquire_x->ζ,x_acquire_f->η,x_casU64_n->ω,x_casU64_b->ae,x_casU64_x->af,x_casU64_f->ag,nm_uAdd->ar,nm_add->aF
open Array renaming replicate->ë
open Go.Mark renaming enable->ì,disable->ó,releaseMerge->ğ,acquire->Ť,write->aA
open Go.Deferred renaming ofValue->ô
open Go.Conc renaming seen_none->ö,crowd->ù,stepG_markAt->ą,stepG_load_atomic->Ć,stepG_semrelease->Ċ,stepG_mark0->Č,stepG_add_atomic->Ĥ,Goes->Ħ,mem_listed->Ĩ,woken->ĩ,mem_ofEvents->İ,stepG_store_atomic->ń,rcase->Ň,stepG_region->ō,deafBehind_still->ŏ,parked->Ő,stepG_region_end->Ŕ,events_call_body->ŕ,stepG_value->Ŝ,stepG_none->Ŧ,semEvents->Ż,stepG_seq->ſ,goes_go->Γ,stepG_enter->ι,QuitsD->σ,touch_mute->υ,stepG_oper->ah,baseD->aJ,listed->aK,born->aQ
open Go.MemOp renaming ofEvents->ú
open Go.FrameMode renaming returning->û
open Go.Region.linearise renaming go->ý
open Go.Callee renaming value->ÿ,builtin->Ų
open Go.CallKind renaming early->Ā,deferred->œ,normal->Ρ
open Go.Conc.Goes renaming stop->ā
open Go.Frame renaming finish_at->Ď,enter->ĺ
open Go.Loc renaming cell->ď,mark->aB
open Go.Op renaming call->Đ,move->Ġ,fieldAddr->Ľ,assign->ř,load->Ş,nilCheck->Ŵ,makeFunc->Α,binOp->Δ,equalIn->aj
open Go.Conc.Lib renaming WgLink->ē,WgLib->ś,uLoadFn->Ι,doneFn->ψ,addFn->aG,uAddFn->aH,waitFn->aI
open Go.Obj renaming cells->ě,chan->ņ
open Go.GStep renaming after->ĝ,go->Ŷ
open Go.Goroutine renaming again->Ī
open Go.Fn renaming func->ī
open List.range renaming loop->Ĭ
open Go.Stepped renaming next->į
open Go.World renaming setChan->Ŀ,setCell->ŀ,alloc->Š,frozen?->ŷ,cell?->κ
open Go.Next renaming value->Ń,skip->Ω
variable{i n j b k m J j9 j7 j6:Nat}{w u W jX:Î}{v x z jQ:Ì}{g:Ç}{a p:õ}{h c:Int}{e t T:Ņ}{d q:Array Ì}{P:č}{y:Ł}{B:ByteArray}{X:Nat->Prop}{O:Option õ}{l:List Ì}{yQ:Bool}{cX cQ:Ł->Î->Prop}{o:Þ}{D:Nat->Nat}{E:Array Ç}{L:List Į}{jJ:List Nat}{qX:List Ü}{qQ:ź}{qJ:ï}{zX:aR->Prop}{zQ:List Int}{zJ:Go.TypeInfo}{xX:ź->Ì}{xQ:Go.Tape}{xJ:Nat×Nat}{wX:Ŗ}{wQ:Ą}{wJ:Array Bool}{vX:List ByteArray}{vQ:Ì->Î->Prop}{vJ:Go.Exit->Ł->Î->Prop}{yX:á}{Q:Array Þ}{f:Ü}{V:Array ŗ}{F:ļ}{s:Go.Func}{gX gQ:Type}{gJ kX:List (Nat×Int)}{bJ:List (Int×Bool)}{kJ:Option (Nat×Nat)}{pX:Î->Prop}{pQ:Option Ì}{pJ:ļ->Prop}{fX:List Þ}{fQ:Nat->Int}{fJ:Nat->ByteArray}{bX:Array Ņ}{bQ:Prop}
namespace Go.Proofs.Y
namespace fO
open Conc Lift
open Go.ConcN (sumTo sumTo_congr)
theorem yP{f f':Nat->Nat}:∀{n:Nat},j<n->(∀i,i≠j->f' i=f i)->Ô n f'+f j=Ô n f+f' j|n+1,h,hf=>by simp only[Ô];obtain iu|a:=ey j n;have:=yP (n:=n) iu hf;rw[hf n Z];omega;obtain rfl:j=n:=Z;rw[Υ λi b=>hf i Z];omega
def Hq{f:Nat->Nat}:∀{n:Nat},(∀i,f i<=1)->Ô n f<=n|0,_=>eE _|n+1,h=>by simp only[Ô];have:=Hq (n:=n) h;have:=h n;omega
def PU{f:Nat->Nat}:∀{n:Nat},j<n->f j<=Ô n f|n+1,h=>by simp only[Ô];obtain iu|a:=ey j n;have:=PU (f:=f) (n:=n) iu;omega;obtain rfl:j=n:=Z;omega
def Hr{f:Nat->Nat}:∀n:Nat,(Ô n λi=>f i+D i)=Ô n f+Ô n D|0=>rfl|n+1=>by simp only[Ô];rw[Hr n];omega
def PV{f:Nat->Nat}(c:Nat):∀n:Nat,(Ô n λi=>c*f i)=c*Ô n f|0=>by simp[Ô]|n+1=>by simp only[Ô];rw[PV c n,Ř]
section
variable{F:Ph}{E E':gE F}{S:Nat->Jd}{tr z:Nat->gW}{C:Nat->jc}{o:Nat->fx}{gs gs':Array Ç}{u:ï}{sl:Option (Nat×Nat)}
def lJ(F:Ph)(b:Nat)(zX:aR->Prop)(E:gE F)(tr:Nat->gW)(gs:Array Ç)(w:Î)(qJ:ï)(sl:Option (Nat×Nat))(i:Nat):Prop:=
 ∃(E':gE F)(a:Nat->Jd)(z:Nat->gW)(c:Nat->jc)(d:Nat->fx)(gs':Array Ç)(W:Î) (u:ï),ŵ F.P (ù gs w sl) i=(į<|ù gs' W sl,u)/\gs'.size=gs.size/\(E'.N=.gN->E.N=.gN)/\PI F b zX E' a z c d gs' W (qJ++u)/\rj F.N (E'.mu z gs') (E.mu tr gs)
def tF(F:Ph)(b:Nat)(zX:aR->Prop)(E:gE F)(tr:Nat->gW)(gs:Array Ç)(w:Î)(qJ:ï):Prop:=
 ∃(E':gE F)(a:Nat->Jd)(z:Nat->gW)(c:Nat->jc)(d:Nat->fx),(E'.N=.gN->E.N=.gN)/\PI F b zX E' a z c d gs w qJ/\rj F.N (E'.mu z gs) (E.mu tr gs)
def ahB(i:Nat):gS gs i<=1:=by unfold gS;split<;>omega
theorem XU(a:∀k,k<F.N->E'.G z k=E.G tr k)(b:i<F.N)(e:E'.mQ i<E.mQ i)(c:∀k,k≠i->E'.mQ k=E.mQ k):rj F.N (E'.mu z gs') (E.mu tr gs):=by refine Á ⟨a,?_⟩;show(Ô F.N λi=>(F.N+1)*E'.mQ i+gS gs' i)<Ô F.N λi=>(F.N+1)*E.mQ i+gS gs i;rw[Hr,Hr,PV,PV];have g:=yP b c;have h:=Hq (f:=gS gs') (n:=F.N) ahB;have d:Ô F.N E'.mQ+1<=Ô F.N E.mQ:=Z;have j:(F.N+1)*(Ô F.N E'.mQ+1)<=(F.N+1)*Ô F.N E.mQ:=ñ _ d;grind
theorem PW(a:∀k,k<F.N->E.G z k=E.G tr k)(b:i<F.N)(c:gS gs i=1)(d:gS gs' i=0)(e:∀k,k≠i->gS gs' k=gS gs k):rj F.N (E.mu z gs') (E.mu tr gs):=by refine Á ⟨a,?_⟩;show(Ô F.N λi=>(F.N+1)*E.mQ i+gS gs' i)<Ô F.N λi=>(F.N+1)*E.mQ i+gS gs i;rw[Hr,Hr];grind [yP]
theorem XV(ok:F.Ok)(j:Nat):E.mQ (F.L+1+j)=match E.C j with|.fT r p=>p.mQ F.B (E.a<|F.r<|j+r*F.n).st|_=>0:=by have:=ok.r;unfold gE.mQ;grind
def ahC{x:iD}(a:k≠F.L+1+j):(iy E j x).mQ k=E.mQ k:=by unfold gE.mQ;split;rfl;split;rfl;rw[jA x Z];rfl
def ahD(ok:F.Ok){r:Nat}{p a:SP}{T:gW}(d:F.L+1+j<F.N)(b:E.M (j+1)=Ã)(c:E.C j=.fT r (.nO p))(f:tr (F.L+1+j)=.fS)(g:T=.fS)(h:a.rk F.B (E.a<|F.r<|j+r*F.n).st<p.rk F.B (E.a<|F.r<|j+r*F.n).st): rj F.N ((iy E j<|.fT r (.nO a)).mu (fP tr (F.L+1+j) T) gs') (E.mu tr gs):=by refine XU (λk _=> ?_) d ?_ λk e=>ahC e;by_cases e:k=F.L+1+j;subst e;rw[vL ok (E:=iy E j _) (show(iy E j _).M (j+1)=Ã from b),vL ok b,kK,ig,c,f,g];rfl;refine AE (λ_=>U) (λ_ _=>U) (λ_=>U) (λ_ _=>U) (λi _=> ?_)<|gi tr _ e;rw[jA _ Z];rwa[XV ok,XV ok,kK,c]
def PI.EO(H:iL F)(p:PI F b zX E S tr C o gs w qJ){v:km}(d:j+2<=E.r)(e:E.M (j+1)=Ã)(f:gs[F.L+1+j]?=Â g)(h:g.status=É)(k:tr (F.L+1+j)=.fS)(l:E.C j=.fT i v): ∀w₁,gd (o<|F.L+1+j) (o<|F.L+1+j).w w₁->sL F.P Æ F.B (F.I<|F.r<|j+i*F.n) (F.e (E.I j)<|j+i*F.n) v {o (F.L+1+j)with w:=w₁} g:=by
 let⟨a,c⟩:=p.g j d e;rw[l]at a c;have m:C (F.L+1+j)=.no\/C (F.L+1+j)=.jd:=by rw[c];cases v<;>first|exact À U|exact Á U
 intro w₁ i;have:=p.I.N f h k m w₁ i;rwa[a]at this
def AH(ok:F.Ok)(j:Nat):(F.L+1+j==0)=Æ:=by have:=ok.r;simp
theorem PI.PX(H:iL F)(p:PI F b zX E S tr C o gs w qJ){x:iD}{l:fx}{T:gW}(u:j+2<=E.r)(m:E.M (j+1)=Ã)(n:gs[F.L+1+j]?=Â g)(v:g.status=É\/g.status=Ĉ)(z:jD F.S (λi=>i<gs.size) E.Y (gV o (F.L+1+j) l) w qJ)(hF:mG F.P Æ (JW F (E.I j) j x) T l g)(B:jm F (iy E j x) (gV o (F.L+1+j) l) gs.size w)(D:Wd F (iy E j x) w)(G:Ps F (iy E j x))(I:x.rk F<(E.C j).rk F)(V:∀r,x≠ .iA r):tF F b zX E tr gs w qJ:=by refine⟨iy E j x,_,_,_,_,λh=>h,.r (p.N.N H.C u m) p.b (p.I.M (K:=kW F (E.I j) x) n v z<|by rwa[AH H.C]) B D G p.d (λk y J M=> ?_) λa r f c d=> ?_,EM H.C (p.H<|jE n) m I⟩;by_cases e:k=F.L+1+j;grind;obtain f|⟨a,q,t,c,d|⟨r,N,s,O,d,Q⟩⟩:=p.c k y J M;exact À f;exact Á ⟨a,q,t,c,À<|by rwa[jA x Z]⟩;exact Á ⟨a,q,t,c,Á ⟨r,N,s,O,by rwa[jA x Z],Q⟩⟩;by_cases e:a=j;grind [kK];rw[jA x e]at c;exact p.f a r f c d
theorem PI.ahE(H:iL F)(p:PI F b zX E S tr C o gs w qJ){r:Nat}(e:j+2<=E.r)(l:E.M (j+1)=Ã)(m:gs[F.L+1+j]?=Â g)(n:g.status=É)(s:tr (F.L+1+j)=.fS)(c:E.C j=.fT r .jG):tF F b zX E tr gs w qJ:=by have f:=jE m;let⟨k,y,t,u⟩:=(p.EO H e l m n s c) w<|p.I.r.r _ f;have v:jD F.S (λi=>i<gs.size) E.Y (gV o (F.L+1+j) {o (F.L+1+j)with w:=w}) w qJ:=p.I.r.C f (λ_ q=>q) (λa q=>À<|Á q) (λ_ q=>q) (λa q=>À<|Á q) U U U (p.I.r.m _ f)<|p.I.r.g _ f;refine p.PX H (x:=.fT r (.nO (.fV k))) (T:=.fS) e l m (À n) v (λh a=>⟨t,K4 u a⟩) ?_ (p.M.Y (by rw[c];rfl)<|by rw[c];rfl) (p.C.G e l (λk=>by rw[c];rfl) (λa h=> ?_) (λa h=> ?_) (λa h=>by cases h) λa h=>by cases h) (by rw[c];simp only[iD.rk,km.rk];omega) (λa h=>by cases h);have:=(p.a.r (x:=.fT r (.nO (.fV k)))<|by rw[c];rfl).C (i:=F.L+1+j) (d:=(o<|F.L+1+j).d) (w0:=w)<|eE _;exact this;obtain⟨_,h⟩|h|h:=h<;>cases h;exact p.C.d j r e<|À ⟨_,c⟩;grind
def XW{y z:Int->Jd}{p:SP}{l:fx}{G:GS}(h:EF P yQ (gu b) i y z p l g)(j:iR w b G):g.status=É/\ ((∃f a e,é P yQ g w=Ŷ a w e/\(e=#[]\/e=#[lP<|gu b])/\EF P yQ (gu b) i y z f l a/\f.rk i G.st<p.rk i G.st)\/ (∃a,é P yQ g w=Ŷ a w #[lP<|gu b]/\(∀c q,G=.cl c q->c=0)/\fF P yQ (y G.st) l a)\/ (∃a c q,G=.cl c q/\0<c/\é P yQ g w=Ŷ a (w.setCell (gu b)<|Û Ï<|Ï.wrap<|G.st+1) #[lP<|gu b,oH<|gu b]/\fF P yQ (z G.st) l a)):=by
 let⟨T,C,x⟩:=h;let⟨J,d⟩:=x p g C;refine⟨J,?_⟩;have D:∀u,T u g->(∀n,u≠ .fV (n+1))->(∀v n,u≠ .ld v (n+1))->u.rk i G.st<=p.rk i G.st->((∃f a e,é P yQ g w=Ŷ a w e/\(e=#[]\/e=#[lP<|gu b])/\EF P yQ (gu b) i y z f l a/\f.rk i G.st<p.rk i G.st)\/ (∃a,é P yQ g w=Ŷ a w #[lP<|gu b]/\(∀c q,G=.cl c q->c=0)/\fF P yQ (y G.st) l a)\/ (∃a c q,G=.cl c q/\0<c/\é P yQ g w=Ŷ a (w.setCell (gu b)<|Û Ï<|Ï.wrap<|G.st+1) #[lP<|gu b,oH<|gu b]/\fF P yQ (z G.st) l a)):=by
  intro u C K L F;have d:=(x u g C).2;match u,d with
  |.fV (n+1),_=>exact absurd U<|K n|.ld v (n+1),_=>exact absurd U<|L v n|.fV 0,d=>
   let⟨a,o,k⟩:=d G.st;by_cases f:0<=G.st/\G.st<gK;rw[if_pos f]at k;have e:G.st<1000000:=by
    have t:=j.r;cases G with
    |cl c q=>
     let⟨H,I,m⟩:=t;simp only[GS.st,gK]at f|-;have:c=0:=Z
     have:=m this;omega|ky q=>simp only[GS.ok]at t;simp only[GS.st];omega|iK r s=>simp only[GS.st];omega
   exact Á<|À ⟨a,o w j.C,j.ahc.1 f,k e⟩;rw[if_neg f]at k;have e:gK<=G.st/\G.st<gK*2147483648/\G.st%gK<1000000:=by
    have t:=j.r;cases G with
    |cl c q=>
     let⟨H,I,_⟩:=t;simp only[GS.st,gK]at f|-;omega|ky q=>simp only[GS.ok]at t;simp only[GS.st,gK]at f;omega|iK r s=>simp only[GS.st,gK]at f;omega
   let⟨m,M,E⟩:=k e;exact À ⟨.ld G.st m,a,_,o w j.C,Á U,⟨T,E,x⟩,ff (by simp only[SP.rk,if_true];omega) F⟩
  |.ld v 0,⟨f,⟨a,o,k⟩,g'',E,n,hn,h4⟩=>
   by_cases e:G.st=v;subst e;have:∃c q,G=.cl c q/\0<c:=by
    have t:=j.r;cases G with
    |cl c q=>
     refine⟨c,q,U,?_⟩;let⟨H,I,_⟩:=t;simp only[GS.st,gK]at f;omega|ky q=>simp only[GS.ok]at t;simp only[GS.st,gK]at f;omega|iK r s=>simp only[GS.st,gK]at f;omega
   let⟨c,q,r,s⟩:=this;exact Á<|Á ⟨a,c,q,r,s,o w j.C j.M,k⟩;exact À ⟨.fV n,g'',_,E w G.st e j.C j.M,Á U,⟨T,h4,x⟩,ff (by simp only[SP.rk,if_neg e];omega) F⟩
 match p,d with
 |.fV (n+1),⟨hn,d⟩=>
  obtain d|d:=d;exact D (.fV 0) d (λn q=>by cases q) (λv n q=>by cases q) (by simp only[SP.rk];omega);let⟨a,o,k⟩:=d w;exact À ⟨.fV n,a,#[],o,À U,⟨T,k,x⟩,by simp only[SP.rk];omega⟩|.fV 0,_=>exact D (.fV 0) C (λn q=>by cases q) (λv n q=>by cases q)<|eE _|.ld v (m+1),⟨_,M,d⟩=>
  obtain d|d:=d;exact D (.ld v 0) d (λn q=>by cases q) (λv n q=>by cases q) (by simp only[SP.rk];split<;>omega);let⟨a,o,k⟩:=d w;exact À ⟨.ld v m,a,#[],o,À U,⟨T,k,x⟩,by simp only[SP.rk];split<;>omega⟩|.ld v 0,_=>exact D (.ld v 0) C (λn q=>by cases q) (λv n q=>by cases q)<|eE _
def PI.ahF(H:iL F)(p:PI F b zX E S tr C o gs w qJ){r:Nat}{v:SP}(G:j+2<=E.r)(s:E.M (j+1)=Ã)(hi:gs[F.L+1+j]?=Â g)(jh:g.status=É)(ht:tr (F.L+1+j)=.fS)(m:E.C j=.fT r (.nO v)):lJ F b zX E tr gs w qJ sl (F.L+1+j):=by
 have iu:=jE hi;have rm:=p.C.d j r G<|À ⟨_,m⟩;have N:=Hp H.C rm;have X:=H.C.I _ rm;have hG:=p.M.I _ X;obtain⟨hd,qy⟩:=(p.EO H G s hi jh ht m) w<|p.I.r.r _ iu;have xw:j<F.n:=by have:=EL p.C;omega
 have ns:=Lp (E:=E) s;have mw:=AH H.C j;have Cw:=p.H iu;obtain⟨_,qy⟩:=XW qy hG;obtain⟨p',g',es,h1,I,h3,h4⟩|⟨g',h1,I,h3⟩|⟨g',c,K,Q,xx,h1,I⟩:=qy;have hes:∀e∈es,vM F.toFx e:=by obtain rfl|rfl:=I;intro e s;simp at s;exact AG N
 obtain⟨T',PY,Cx⟩:=h3;obtain⟨gs',u,q1,V,q3,q4,q5,q6,q7⟩:=p.Y (J:=JW F (E.I j) j<|.fT r (.nO p')) (T:=.fS) H (kW F (E.I j)<|.fT r (.nO p')) hi (EN G) N (by rwa[mw]) (À U) hes (by obtain rfl|rfl:=I<;>rfl) (λx hs e=>(ns x hs e).elim) (by rw[mw];exact λw₁ yR=>⟨hd,K4 ⟨T',PY,Cx⟩ yR⟩)<|À (Cx _ _ PY).1;refine⟨iy E j<|.fT r (.nO p'),_,_,_,_,gs',w,u,q1,V,λh=>h,.r (p.N.N H.C G s) (V.trans p.b) q5 (q7.r<|by rw[m];rfl) (p.M.Y (by rw[m];rfl)<|by rw[m];rfl) (p.C.G G s (λk=>by rw[m];rfl) (λf h=> ?_) (λf h=> ?_) (λf h=>by cases h) λf h=>by cases h) q6 (p.c.yO (E':=iy E j _) q3 (by rw[(Cx _ _ PY).1];simp) q4 (λ_ _=>U) U U (λ_ _=>U) (λ_=>U) (λt e=>jA _ Z) (λ_ _ h=>À h) λ_ _ _ _ h=>À h) λt f O z Y=> ?_,ahD H.C Cw s m ht U h4⟩;obtain⟨_,h⟩|h|h:=h<;>cases h;exact rm;obtain h|h|h:=h<;>cases h;rw[jA _ (λe=>by subst e;rw[kK]at z;cases z)]at z;exact(p.f t f O z Y).app u;obtain⟨T,hT⟩:=j1 h3;have qw:=nh (λl g h=>À h.2.1) h3;obtain⟨gs',u,q1,V,q3,q4,q5,q6,q7⟩:=p.Y H (kW F (E.I j)<|.fT r .na) hi (EN G) N (by rwa[mw]) (À U) (AG N) U (λx hs e=>(ns x hs e).elim) (by rwa[mw]) qw;refine⟨iy E j<|.fT r .na,_,_,_,_,gs',w,u,q1,V,λh=>h,.r (p.N.N H.C G s) (V.trans p.b) q5 (q7.r<|by rw[m];rfl) (p.M.Y (by rw[m];rfl)<|by rw[m];rfl) (p.C.G G s (λk=>by rw[m];rfl) (λf h=> ?_) (λf h=> ?_) (λf h=>by cases h) λf h=>by cases h) q6 (p.c.yO (E':=iy E j _) q3 (by obtain q|q:=qw<;>rw[q]<;>simp) q4 (λ_ _=>U) U U (λ_ _=>U) (λ_=>U) (λt e=>jA _ Z) (λ_ _ h=>À h) λ_ _ _ _ h=>À h) λt f O z Y=> ?_,EM H.C Cw s<|by rw[m];simp only[iD.rk,km.rk];omega⟩;obtain⟨_,h⟩|h|h:=h<;>cases h;exact rm;have:f=r:=by obtain h|h|h:=h<;>cases h;rfl
 subst this;refine dz λCy=> ?_;have:=I _ _<|p.C.e _ Z X Cy;omega;rw[jA _ (λe=>by subst e;rw[kK]at z;cases z)]at z;exact(p.f t f O z Y).app u;have Lq:E.S.od<F.r (j+r*F.n):=by refine b8 λhle=> ?_;obtain⟨W,_,q,_⟩|⟨_,_,_,_,q,_⟩|⟨_,⟨q,_⟩|⟨_,q,_⟩⟩:=p.C.Y _ X hle<;>(rw[Q]at q;cases q);omega
 have Cz:=p.C.e _ Z X Lq;have e0:=Q.symm.trans Cz;injection e0 with e1 e2;subst e1;have XX:K<=F.n:=by rw[e2];exact Hq λi=>by cases E.C i<;>simp only[iD.ik]<;>first|omega|(split<;>first|omega|(rename_i q _;cases q<;>simp[km.uH]))
 have vN:=H.C.gL;have Hs:=(Q▸hG:iR w (F.I<|F.r<|j+r*F.n) (.cl 1 K)).XF Z Z;obtain⟨hv,Hs⟩:=Hs;obtain⟨x,EP,CC,XY,Lr,hx4⟩:∃(x:km)(EP:Nat->Option Nat),(x=.wr\/x=.lQ)/\fF F.P Æ (sL F.P Æ F.B (F.I<|F.r<|j+r*F.n) (F.e (E.I j)<|j+r*F.n) x) {o (F.L+1+j)with w:=w} g'/\((∀M,M≠F.r (j+r*F.n)->EP M=E.d M)/\∀y,E.d (F.r<|j+r*F.n)=Â y->EP (F.r<|j+r*F.n)=Â y)/\(x=.wr->EP (F.r<|j+r*F.n)=Â j):=by
  by_cases hz:K=0;subst hz;refine⟨.wr,fP E.d (F.r<|j+r*F.n)<|Â j,À U,?_,⟨λM rU=>gi _ _ rU,λy hy=> ?_⟩,λ_=>ig _ _ _⟩;have:E.a (F.r<|j+r*F.n)=.cl 1 0:=Q;rw[this]at I;have e:(GS.cl 1 0).st%gK=0:=A;simp only[e,if_true]at I;exact I;rw[p.C.y _ X Q]at hy;cases hy;refine⟨.lQ,E.d,Á U,?_,⟨λ_ _=>U,λ_ h=>h⟩,λh=>by cases h⟩;have:E.a (F.r<|j+r*F.n)=.cl 1 K:=Q;rw[this]at I;have e:¬(GS.cl 1 K).st%gK=0:=by simp only[GS.st,gK];omega
  simp only[e,if_false]at I;exact I
 have hxw:x.uH=1:=by obtain rfl|rfl:=CC<;>rfl
 have XZ:=XY.mF (w₁:=w.setCell (gu<|F.I<|F.r<|j+r*F.n)<|Û Ï<|Ï.wrap<|(GS.cl 1 K).st+1) (by have D:=(lZ.r (Á ⟨gu<|F.I<|F.r<|j+r*F.n,_,À U,U⟩:lZ (F.I<|F.r<|j+r*F.n) w (w.setCell (gu<|F.I<|F.r<|j+r*F.n)<|Û Ï<|Ï.wrap<|(GS.cl 1 K).st+1)) p.a H.C N);exact⟨cZ D.r.symm,λd lL=>D.lB d<|p.I.r.I _ iu d lL,λa ha=>D.M _ iu a ha,λa ha=>D.N _ iu a ha,λa _=>D.I a⟩);obtain⟨T,hT⟩:=j1 XZ;have X0:=nh (λl g h=>by obtain rfl|rfl:=CC<;>exact À h.2.1) XY;have PZ:lZ (F.I<|F.r<|j+r*F.n) w (w.setCell (gu<|F.I<|F.r<|j+r*F.n)<|Û Ï<|Ï.wrap<|(GS.cl 1 K).st+1):=Á ⟨_,_,À U,U⟩;obtain⟨gs',u,q1,V,q3,q4,q5,q6,q7⟩:=p.Y H (kW F (E.I j)<|.fT r x) hi (EN G) N (by rw[mw];exact(Q▸h1)) PZ (Cv N) U (λx hs e=>(ns x hs e).elim) (by rwa[mw]) X0;have uJ:=yP (f':=λi=>((iy E j<|.fT r x).C i).ik F i<|F.r<|j+r*F.n) xw (λi mR=>by rw[jA _ mR]);simp only[kK,m]at uJ;have n9:iD.ik F j (F.r<|j+r*F.n) (.fT r x)=1:=by simp only[iD.ik,if_true,hxw]
 have rW:iD.ik F j (F.r<|j+r*F.n) (.fT r (.nO v))=0:=by simp only[iD.ik,if_true];rfl
 rw[n9,rW]at uJ;refine⟨uI E j (.fT r x) (F.r<|j+r*F.n) (.cl 1 (K+1)) EP,_,_,_,_,gs',_,u,q1,V,λh=>h,.r ?_ (V.trans p.b) q5 ?_ ?_ (p.C.XR G s (λM rU=> ?_) (λ_ _=> ?_) (λh=>by omega) (λ⟨a,d,h⟩=> ?_) (λh=>by injection h with _ h;omega) Lr.1 Lr.2 (λf h=> ?_) (λf h=> ?_) (λf h=> ?_) λf h=> ?_) (q6.ahf λM y hy=> ?_) ?_ λt f O z Y=> ?_,?_⟩;have:=p.N.N (x:=.fT r x) (T:=T) H.C G s;exact⟨this.M,this.Y,this.I,this.C,this.r⟩;have:=q7.r (x:=.fT r x) (by rw[m];rfl);exact⟨this.iH,this.o,this.nI,this.e,this.f,this.h,this.l,this.S,this.M,this.c,this.I,this.N,this.g,this.d⟩;have W1:=PZ.I H p.a p.C p.M N (Gg:=fP E.a (F.r<|j+r*F.n)<|.cl 1 (K+1)) ⟨λe=>absurd e<|H.C.M _ X,λ_=>U⟩ (λM rU=>⟨λe=> ?_,λe=>gi _ _ λe'=>e<|by rw[e']⟩);have W2:=W1.Y (x:=.fT r x) (by show _=(E.C j).lS;rw[m];rfl) (by show _=(E.C j).jz;rw[m];rfl);exact⟨W2.C,W2.I,W2.kz,W2.M,W2.S,W2.N⟩;rwa[<-(H.C.S _ _ X rU e),ig];rw[m];simp only[iD.ik,if_neg<|cR rU];congr 1;rw[<-e2]at uJ;omega;rw[Q]at h;cases h;obtain⟨_,h⟩|h|h:=h<;>cases h;exact rm;obtain h|h|h:=h<;>cases h<;>(obtain h|h:=CC<;>cases h);cases h;obtain h|h:=CC<;>cases h;cases h;exact hx4 U;by_cases e:M=F.r (j+r*F.n);subst e;exact Lr.2 y hy;show EP M=Â y;rwa[Lr.1 M e];refine p.c.yO (E':=uI E j _ _ _ _) q3 (by obtain q|q:=X0<;>rw[q]<;>simp) q4 (λt qB=>PZ.C p.C N qB) U U (λ_ _=>U) (λ_=>U) (λt e=>jA _ Z) (λ_ _ h=>À h) λt f _ _ h=>À ?_;by_cases e:F.r (t+f*F.n)=F.r (j+r*F.n);show(fP E.a _ _ _).sm=0;rw[e,ig];rfl;show(fP E.a _ _ _).sm=0;rwa[gi _ _ e];have e:t≠j:=λe=>by subst e;have:(iy E t<|.fT r x).C t=.iA f:=z;rw[kK]at this;cases this
 have CF:(iy E j<|.fT r x).C t=.iA f:=z;rw[jA _ e]at CF;exact(p.f t f O CF Y).app u;have:=EM (E:=E) (tr:=tr) (gs:=gs) (gs':=gs') (x:=.fT r x) (T:=T) H.C Cw s (by rw[m];obtain rfl|rfl:=CC<;>simp only[iD.rk,km.rk]<;>omega);obtain⟨i,O,z,Y⟩|⟨O,_⟩:=this;exact À ⟨i,O,z,Y⟩;exfalso;have:=O _ Cw;change(iy E j<|.fT r x).G (fP tr (F.L+1+j) T) (F.L+1+j)=E.G tr (F.L+1+j)at this;rw[vL H.C (E:=iy E j _) (show(iy E j _).M (j+1)=Ã from s),vL H.C s,kK,m]at this;injection this with e _;obtain rfl|rfl:=CC<;>simp only[iD.rk,km.rk]at e<;>omega
end
section
variable{F:Ph}{E E':gE F}{S:Nat->Jd}{s D:Nat->gW}{B:Nat->jc}{f:Nat->fx}{c o:Array Ç}{u:ï}{sl:Option (Nat×Nat)}
def PI.P0(H:iL F)(p:PI F j zX E S s B f c w qJ){x:iD}{a:Ç}{T:gW}(y:i+2<=E.r)(d:E.M (i+1)=Ã)(z:c[F.L+1+i]?=Â g)(C:ŵ F.P (ù c w sl) (F.L+1+i)=(į<|ù o w sl,u))(l:o.size=c.size)(D:o[F.L+1+i]?=Â a)(G:a.status=É\/a.status=Ĉ)(I:∀k,k≠F.L+1+i->o[k]?=c[k]?.map (ĩ F.P g a w))(J:iB F.P F.S E.Y (fP S (F.L+1+i)<|JW F (E.I i) i x) (fP s (F.L+1+i) T) (fP B (F.L+1+i)<|kW F (E.I i) x) (gV f (F.L+1+i) {f (F.L+1+i)with w:=w}) o w (qJ++u))(K:TI F.toFx j zX E.r E.S.rl E.V E.e E.d E.K E.f (qJ++u))(M:jm F E (gV f (F.L+1+i) {f (F.L+1+i)with w:=w}) o.size w)(m:x.lS=(E.C i).lS)(N:x.jz=(E.C i).jz)(O:Ps F (iy E i x))(Q:x.rk F<(E.C i).rk F)(W:∀r,x=.iA r->1<=F.r (i+r*F.n)->Knows (qJ++u) (F.L+1+i) (E.e<|F.r<|i+r*F.n)):lJ F j zX E s c w qJ sl (F.L+1+i):=by refine⟨iy E i x,_,_,_,_,o,w,u,C,l,λh=>h,.r (p.N.N H.C y d) (l.trans p.b) J (M.r m) (p.M.Y m N) O K (p.c.yO (E':=iy E i _) D (by obtain q|q:=G<;>rw[q]<;>simp) I (λ_ _=>U) U U (λ_ _=>U) (λ_=>U) (λb e=>jA _ Z) (λ_ _ h=>À h) λ_ _ _ _ h=>À h) λb t X q v=> ?_,EM H.C (p.H<|jE z) d Q⟩;by_cases e:b=i;subst e;rw[kK]at q;exact W t q v;rw[jA _ e]at q;exact(p.f b t X q v).app u
def P1{r:Nat}{v:km}(h:v.uH=0):iD.ik F j k (.fT r v)=0:=by simp only[iD.ik,h];split<;>rfl
def yS{a:Ą}(h:a∈#[wQ]):a=wQ:=fN h
def ahG{i:Nat}{fn:ļ}{pos:String}{m:au}:∃y:Ą,ú i fn pos #[kV m]=#[y]/\y.g=i/\y.act=Ĝ m:=⟨{g:=i,fn,pos,act:=Ĝ m},by simp[ú,kV,â],U,U⟩
def PI.CG(H:iL F)(p:PI F j zX E S s B f c w qJ){a:Ç}{m:au}{J:Jd}{T:gW}(K:jc)(v:c[i]?=Â g)(x:é F.P (i==0) g w=Ŷ a w #[kV m])(z:m≠ó)(C:m≠ì)(D:∀y:Ą,y.act=Ĝ m->(∀b,y.act.touch?=Â b->G7 (λi=>i<c.size) E.Y f b)/\y.act.low w.heap.size)(G:∀y:Ą,y.g=i->y.act=Ĝ m->∀I,¬Race I (qJ++#[y]))(hF:mG F.P (i==0) J T {f i with w:=w} a)(L:a.status=É\/a.status=Ĉ): ∃o y,y.g=i/\y.act=Ĝ m/\ŵ F.P (ù c w sl) i=(į<|ù o w sl,#[y])/\o.size=c.size/\o[i]?=Â a/\(∀k,k≠i->o[k]?=c[k]?.map (ĩ F.P g a w))/\ iB F.P F.S E.Y (fP S i J) (fP s i T) (fP B i K) (gV f i {f i with w:=w}) o w (qJ++#[y])/\jm F E (gV f i {f i with w:=w}) o.size w:=by
 obtain⟨y,l,n,h⟩:=ahG;have r:Ø (f i).d #[kV m]=(f i).d:=ŏ (λe k=>by have:e=kV m:=fN k;subst this;exact⟨λq=>z (by injection q),λq=>C (by injection q)⟩) _;have M:∀e∈#[kV m],â e=y.act:=λe k=>by have:e=kV m:=fN k;subst this;rw[h];rfl
 obtain⟨o,q,t,N,O,u⟩:=p.I.K v x (rT.gy _ _ _ _) (by rwa[r]) L (λe k=>by rw[M e k];exact D y h) (by rw[l];exact G y n h);rw[r,l]at u;rw[l]at q;refine⟨o,y,n,h,q,t,N,O,u,?_⟩;rw[t];exact p.a.C<|eE _
def P3(H:iL F)(p:PI F j zX E S s B f c w qJ)(hb:F.M b)(D:AF E i){m:au}(N:m=.read (iJ b)\/m=aA (iJ b))(T:F.K E.d (iJ b) (Â i))(W:∀x,E.K x->i≠F.L+x): (∀y:Ą,y.act=Ĝ m->(∀b,y.act.touch?=Â b->G7 (λi=>i<c.size) E.Y f b)/\y.act.low w.heap.size)/\(∀y:Ą,y.g=i->y.act=Ĝ m->∀O,¬Race O (qJ++#[y]))/\∀y:Ą,y.g=i->y.act=Ĝ m->TI F.toFx j zX E.r E.S.rl E.V E.e E.d E.K E.f (qJ++#[y]):=by
 have C:=p.I.r;have G:∀y:Ą,y.act=Ĝ m->∀a,y.act.touch?=Â a->a.loc=ď (iJ b)/\a.kind=.said:=λy t a l=>by rw[t]at l;obtain rfl|rfl:=N<;>simp[ľ]at l<;>subst l<;>exact⟨U,U⟩
 have u:=(yM hb).2;refine⟨λy t=>⟨λa l=>À ⟨_,(G y t a l).1,yN u,λk D=>p.a.Y H.C u k D⟩,?_⟩,λy I t=>λO=> ?_,λy I t=> ?_⟩;have:=C.N _<|yN (E:=E) u;rw[t];obtain rfl|rfl:=N<;>exact this;refine noRace_append (C.l O) (λd h=>by rw[yS h,I]) λq a l d h z hz X=> ?_;have:d=y:=fN h;subst this;let⟨n,P⟩:=G d t z hz;obtain⟨J,o⟩|r|⟨_,r⟩:=p.d.I q a _ l (X.1.trans n) u;exact XS p.d D J o;let⟨_,_,_,v⟩:=X;rw[r,P]at v;obtain v|v|⟨_,v,_⟩:=v<;>cases v;have e:qJ.g? q=Â i:=by obtain⟨K,M⟩|⟨k,v,K,M,s3,s4⟩:=T;obtain⟨_,o⟩|⟨k,v,Q,o,_,_⟩:=r;rw[o,M];rw[K]at o;exact absurd (by injection o with o _ _;exact o.symm)<|H.C.M k Q;obtain⟨J,_⟩|⟨k',j',Q,o,r3,r4⟩:=r;rw[M]at J;exact absurd (by injection J)<|H.C.M k K;rw[M]at o;have:k=k':=H.C.S _ _ K Q (by injection o);subst this;rw[s3]at r3;obtain rfl:=dh r3;rw[r4,s4]
 let⟨M,v,K⟩:=æ.1 e;have:=knows_own v;rwa[K]at this;refine p.d.r ⟨λd h a _=>by rw[yS h,I],D.imp id À,λd h a x l o K=> ?_,λd h a z l Q o k X J=> ?_,λd h b' _ e=> ?_,λx K q=>⟨λr M=>M.appOther (λd h=>by rw[yS h,I])<|W x q,λe=>absurd e.symm<|W x q⟩⟩;have:d=y:=fN h
 subst this;let⟨n,P⟩:=G d t a l;rw[o]at n;injection n with n;subst n;exact Á ⟨P,T⟩;have:d=y:=fN h
 subst this;let⟨n,_⟩:=G d t a l;rw[o]at n;injection n with n;subst n;exact⟨λv=>(p.a.I k (Ð J<|Lj p.C) _ v).2.1<|yN u,λe=>by simp[iJ,jS]at e⟩;have:d=y:=fN h
 subst this;rw[t]at e;obtain rfl|rfl:=N<;>simp at e
theorem PI.ahH(H:iL F)(p:PI F j zX E S s B f c w qJ){r:Nat}(b:i+2<=E.r)(d:E.M (i+1)=Ã)(q:c[F.L+1+i]?=Â g)(z:g.status=É)(C:s (F.L+1+i)=.fS)(a:E.C i=.fT r .wr):lJ F j zX E s c w qJ sl (F.L+1+i):=by let⟨Y,_,g',D,t⟩:=p.EO H b d q z C a w<|p.I.r.r _<|jE q;have u:=p.C.d i r b<|À ⟨_,a⟩;have v:=AH H.C i;let⟨G,I,K⟩:=P3 H p (Hp H.C u) (EN b) (m:=aA<|iJ<|F.I<|F.r<|i+r*F.n) (Á U) (Á ⟨_,i,H.C.I _ u,U,p.C.D i r b a,U⟩) λx h e=>(Lp (E:=E) d) x h e;let⟨T,M⟩:=j1 t;have x:=nh (λl g h=>À h.2.1) t;obtain⟨o,y,l,N,O,P,Q,V,W,X⟩:=p.CG (J:=JW F (E.I i) i<|.fT r .lQ) H (kW F (E.I i)<|.fT r .lQ) q (by rw[v];exact D w) fD fD G I (by rwa[v]) x;refine p.P0 H b d q O P Q x V W (K y l N) X (by rw[a];rfl) (by rw[a];rfl) (p.C.G b d (λk=>by rw[a];rfl) (λe h=> ?_) (λe h=> ?_) (λe h=>by cases h) λe h=>by cases h) (by rw[a];simp only[iD.rk,km.rk];omega) (λe h=>by cases h);all_goals grind
theorem PI.ahI(H:iL F)(p:PI F j zX E S s B f c w qJ){r:Nat}(m:i+2<=E.r)(n:E.M (i+1)=Ã)(q:c[F.L+1+i]?=Â g)(G:g.status=É)(I:s (F.L+1+i)=.fS)(d:E.C i=.fT r .ij):lJ F j zX E s c w qJ sl (F.L+1+i):=by let⟨hd,_,K⟩:=p.EO H m n q G I d w<|p.I.r.r _<|jE q;have v:=p.C.d i r m<|À ⟨_,d⟩;have y:=Hp H.C v;have z:=AH H.C i;let⟨a,b,M⟩:=p.C.H i r m d;have C:=p.M.I _<|H.C.I _ v;rw[M]at C;let⟨g',N,t⟩:=K 0;simp only[if_true]at t;let⟨T,O⟩:=j1 t;have D:=nh (λl g h=>À h.2.1) t;obtain⟨o,u,l,P,Q,V,W,X,Y⟩:=p.Y (J:=JW F (E.I i) i<|.fT r .na) H (kW F (E.I i)<|.fT r .na) q (EN m) y (by rw[z];exact N w C.C) (À U) (AG y) U (λx k e=>(Lp n x k e).elim) (by rwa[z]) D;refine p.P0 H m n q l P Q D V W X Y (by rw[d];rfl) (by rw[d];rfl) (p.C.G m n (λk=>by rw[d];rfl) (λe h=> ?_) (λe h=> ?_) (λe h=>by cases h) λe h=>by cases h) (by rw[d];simp only[iD.rk,km.rk];omega) (λe h=>by cases h);grind;obtain h|h|h:=h<;>cases h;exact p.C.w i r m<|À d
theorem PI.ahJ(H:iL F)(p:PI F j zX E S s B f c w qJ){r:Nat}(d:i+2<=E.r)(t:E.M (i+1)=Ã)(q:c[F.L+1+i]?=Â g)(I:g.status=É)(K:s (F.L+1+i)=.fS)(a:E.C i=.fT r .na):lJ F j zX E s c w qJ sl (F.L+1+i):=by
 have v:=jE q;let⟨M,_,g',N,x⟩:=p.EO H d t q I K a w<|p.I.r.r _ v;have O:=p.C.d i r d<|À ⟨_,a⟩;have C:=Hp H.C O;have D:=AH H.C i;have u:∀y:Ą,y.act=Ĝ (Ť<|gu<|F.I<|F.r<|i+r*F.n)->y.act.touch?=Ã:=λy m=>by rw[m];rfl
 let⟨T,P⟩:=j1 x;have G:=nh (λl g h=>À<|H.Y _ _ _ _ h) x;obtain⟨o,y,Q,l,V,W,X,Y,q5,q7⟩:=p.CG (J:=JW F (E.I i) i<|.iA r) H (kW F (E.I i)<|.iA r) q (by rw[D];exact N w) fD fD (λy m=>⟨λz k=>(by rw[u y m]at k;cases k),by rw[m];exact p.I.r.N _<|À C⟩) (λy _ m=>Cm p.I.r.l λz k=>by rw[yS k];exact u y m) (by rwa[D]) G;have P4:=p.d.r (Az (λz k=>by rw[yS k];exact u y l) λz k b _ e=>by grind);refine p.P0 H d t q V W X G Y q5 P4 q7 (by rw[a];rfl) (by rw[a];rfl) (p.C.G d t (λk=>by rw[a,P1 U];rfl) (λk h=> ?_) (λk h=> ?_) (λk h=>by cases h) λk h=>by cases h) (by rw[a];simp only[iD.rk,km.rk];omega) λk h z=> ?_;grind;obtain h|h|h:=h<;>cases h;exact p.C.w i r d<|Á<|À a;cases h;let⟨k,b,e⟩:=p.d.S _ z<|Ð (p.C.w i r d<|Á<|À a)<|PQ _;exact XI k b e (p.d.c _ C) Q l<|(p.I.r.f _ v).trans M
end
section
variable{F:Ph}{E E':gE F}{S:Nat->Jd}{tr o:Nat->gW}{f:Nat->jc}{d:Nat->fx}{gs gs':Array Ç}{u:ï}{sl:Option (Nat×Nat)}
def X1{G:GS}(h:G.sm≠0):∃a s,G=.iK a (s+1):=by
 cases G with
 |cl c b|ky b=>exact absurd U h
 |iK a s=>cases s with|zero=>exact absurd U h|succ s=>exact⟨a,s,U⟩
def ER(h:gs[i]?=Â g):gS gs i=if g.status=É then 1 else 0:=by rw[gS,h];simp
def P5(h:gs'[i]?=gs[i]?):gS gs' i=gS gs i:=by unfold gS;rw[h]
theorem PI.ahK(H:iL F)(p:PI F n zX E S tr f d gs w qJ){j r:Nat}{g:Ç}(t:j+2<=E.r)(m:E.M (j+1)=Ã)(v:gs[F.L+1+j]?=Â g)(z:g.status=É)(ht:tr (F.L+1+j)=.fS)(c:E.C j=.fT r .lQ):lJ F n zX E tr gs w qJ sl (F.L+1+j):=by
 have B:=jE v;obtain⟨hd,_,ho,X2,g',h1,h2⟩:=(p.EO H t m v z ht c) w<|p.I.r.r _ B;have Q:=p.C.d j r t<|À ⟨_,c⟩;have C:=Hp H.C Q;have G:=H.C.I _ Q;have V:=AH H.C j;have X:=p.H B;have xw:j<F.n:=by have:=EL p.C;omega
 have hG:=p.M.I _ G;by_cases K:(E.a<|F.r<|j+r*F.n).sm=0;have q:=hG.I;rw[K]at q;obtain⟨n9,I⟩:=p.g j t m;rw[c]at n9 I;obtain⟨gs',q1,o,M,q4⟩:=Pp v (by rw[V];exact(X2 w q));have s:∀x,ĩ F.P g {g with status:=í} w x=x:=by intro x;rw[ĩ,if_neg fD]
 have b:∀k,k≠F.L+1+j->gs'[k]?=gs[k]?:=by
  intro k a;rw[q4 k a];cases gs[k]? with|none=>rfl|some x=>simp[s]
 have D:iB F.P F.S E.Y S tr f d gs' w (qJ++#[]):=by
  rw[dK];obtain⟨g0,J,l,W,O⟩:=p.I.C _ g v;have N:g=g0:=by
   rw[I]at l;cases l with|gS=>rfl|qz h ho=>cases z
  subst N;refine⟨?_,λk y a=> ?_,λk a=>p.I.I k<|by rwa[<-o]⟩;rw[show(λi=>i<gs'.size)=(λi=>i<gs.size) by rw[o]];exact p.I.r;by_cases e:k=F.L+1+j;subst e;rw[M]at a;obtain rfl:=dh a;refine⟨g,J,?_,À z,Á ht⟩;rw[I];exact .qz z ho;rw[b k e]at a;exact p.I.C k y a
 refine⟨E,S,tr,f,d,gs',w,#[],q1,o,λh=>h,.r p.N (o.trans p.b) D (by rw[o];exact p.a) p.M p.C (by rw[dK];exact p.d) (λk y a l=> ?_) (by rw[dK];exact p.f),PW (λ_ _=>U) X (by rw[ER v,if_pos z]) (by rw[ER M,if_neg fD]) λk a=>P5<|b k a⟩;by_cases e:k=F.L+1+j;subst e;exact Á ⟨j,t,m,U,À ⟨r,c,K⟩⟩;rw[b k e]at a;exact p.c k y a l;obtain⟨a,s,y⟩:=X1 K;have AI:=y▸hG;have ES:=h1 w _ (by simp only[GS.sm];omega) AI.I AI.N;have N:lZ (F.I<|F.r<|j+r*F.n) w (w.setCell (iJ<|F.I<|F.r<|j+r*F.n)<|Û è<|(GS.iK a<|s+1).sm-1):=Á ⟨_,_,Á U,U⟩;have D:=N.r p.a H.C C;obtain⟨T,hT⟩:=j1 (h2.mF (w₁:=w.setCell (iJ<|F.I<|F.r<|j+r*F.n)<|Û è<|(GS.iK a<|s+1).sm-1) ⟨cZ D.r.symm,λb l=>D.lB b<|p.I.r.I _ B b l,λa k=>D.M _ B a k,λa k=>D.N _ B a k,λa _=>D.I a⟩);have qw:=nh (λl g h=>À h.2.1) h2;obtain⟨gs',u,q1,o,M,q4,q5,q6,q7⟩:=p.Y H (kW F (E.I j)<|.fT r .ij) v (EN t) C (by rwa[V]) N (Hn C) (Ho _).2.2.2 (λx l e=>(Lp m x l e).elim) (by rwa[V]) qw;have hle:F.r (j+r*F.n)<=E.S.od:=by refine dz λl=> ?_;have:=p.C.e _ Z G l;rw[y]at this;cases this
 have uJ:=yP (f':=λi=>((iy E j<|.fT r .ij).C i).ik F i<|F.r<|j+r*F.n) xw (λi l=>by rw[jA _ l]);simp only[kK,c]at uJ;have n9:iD.ik F j (F.r<|j+r*F.n) (.fT r .ij)=0:=by simp only[iD.ik,if_true];rfl
 have I:iD.ik F j (F.r<|j+r*F.n) (.fT r .lQ)=1:=by simp only[iD.ik,if_true];rfl
 rw[n9,I]at uJ;refine⟨uI E j (.fT r .ij) (F.r<|j+r*F.n) (.iK a s) E.d,_,_,_,_,gs',_,u,q1,o,λh=>h,.r ?_ (o.trans p.b) q5 ?_ ?_ (p.C.XR t m (λl q=> ?_) (λ_ h=>by omega) (λ_=> ?_) (λ_=>⟨a,s,U⟩) (λh=>by cases h) (λ_ _=>U) (λ_ h=>h) (λb h=> ?_) (λb h=> ?_) (λb h=> ?_) λb h=>by cases h) q6 ?_ λk b J O a3=> ?_,?_⟩;have:=p.N.N (x:=.fT r .ij) (T:=T) H.C t m;exact⟨this.M,this.Y,this.I,this.C,this.r⟩;have:=q7.r (x:=.fT r .ij) (by rw[c];rfl);exact⟨this.iH,this.o,this.nI,this.e,this.f,this.h,this.l,this.S,this.M,this.c,this.I,this.N,this.g,this.d⟩;have W:=N.I H p.a p.C p.M C (Gg:=fP E.a (F.r<|j+r*F.n)<|.iK a s) ⟨λe=>absurd e<|H.C.M _ G,λ_=>U⟩ (λl q=>⟨λe=> ?_,λe=>gi _ _ λe'=>e<|by rw[e']⟩);have l:=W.Y (x:=.fT r .ij) (by show _=(E.C j).lS;rw[c];rfl) (by show _=(E.C j).jz;rw[c];rfl);exact⟨l.C,l.I,l.kz,l.M,l.S,l.N⟩;rw[<-(H.C.S _ _ G q e),ig];exact AI.lQ;rw[c];simp only[iD.ik,if_neg<|cR q];obtain⟨W,_,q,_⟩|⟨r1,s1,l,z2,q,z3⟩|⟨l,⟨q,_⟩|⟨s1,q,z3⟩⟩:=p.C.Y _ G hle;rw[y]at q;cases q;rw[y]at q;injection q with e1 e2;subst e1 e2;exact Á<|À ⟨a,s,l,z2,U,Z⟩;rw[y]at q;cases q;rw[y]at q;injection q with e1 e2;subst e1 e2;exact Á<|Á ⟨l,Á ⟨s,U,Z⟩⟩;obtain⟨_,h⟩|h|h:=h<;>cases h;exact Q;obtain h|h|h:=h<;>cases h;exact hle;cases h;exact⟨a,s,ig _ _ _⟩;refine p.c.yO (E':=uI E j _ _ _ _) M (by obtain q|q:=qw<;>rw[q]<;>simp) q4 (λk l=>N.C p.C C l) U U (λ_ _=>U) (λ_=>U) (λk e=>jA _ Z) (λ_ _ h=>À h) λk b _ _ h=>À ?_;by_cases e:F.r (k+b*F.n)=F.r (j+r*F.n);rw[e]at h;exact absurd h K;show(fP E.a _ _ _).sm=0;rwa[gi _ _ e];have e:k≠j:=λe=>by subst e;have:(iy E k<|.fT r .ij).C k=.iA b:=O;rw[kK]at this;cases this
 have l:(iy E j<|.fT r .ij).C k=.iA b:=O;rw[jA _ e]at l;exact(p.f k b J l a3).app u;have:=EM (E:=E) (tr:=tr) (gs:=gs) (gs':=gs') (x:=.fT r .ij) (T:=T) H.C X m (by rw[c];simp only[iD.rk,km.rk];omega);obtain⟨i,J,O,a3⟩|⟨J,_⟩:=this;exact À ⟨i,J,O,a3⟩;exfalso;have:=J _ X;change(iy E j<|.fT r .ij).G (fP tr (F.L+1+j) T) (F.L+1+j)=E.G tr (F.L+1+j)at this;rw[vL H.C (E:=iy E j _) (show(iy E j _).M (j+1)=Ã from m),vL H.C m,kK,c]at this;injection this with e _;simp only[iD.rk,km.rk]at e;omega
theorem jm.ahL(L:jm F E d i w){l:fx}(H:∀b,l.O b->(d n).O b)(I:∀b,(d n).I b->l.I b)(J:∀a,l.r a->(d n).r a)(K:∀a,(d n).r a->l.r a)(M:∀a,(d n).N a->l.N a)(N:∀a,l.C a->(∃k,k<=F.m/\a=jS F.toFx k)\/∃p,p≠F.f/\a=j4 F p)(P:l.q=(d n).q)(s:¬l.q):jm F E (gV d n l) i w:=by
 have D:∀k,d k=lR (d k)->k≠n:=λk f e=>by
  subst e;have:(d k).q:=by rw[f];trivial
  grind
 have Q:∀k b,(gV d n l k).O b->(d k).O b:=λk b h=>by grind [iI,iq]
 have t:∀k a,(gV d n l k).r a↔(d k).r a:=λk a=>by grind [iI,iq]
 have y:∀k b,(d k).I b->(gV d n l k).I b:=λk b h=>by grind [iI,iq]
 have z:∀k a,(d k).N a->(gV d n l k).N a:=λk a h=>by grind [iI,iq]
 refine⟨λk f a v=> ?_,λx c o a v=>(t _ _).2<|L.o x c o a v,λh=>⟨z _ _ (L.nI h).1,λb s=>y _ _<|(L.nI h).2 b s⟩,λh k c o=>⟨(t _ _).2 (L.e h k c o).1,(t _ _).2 (L.e h k c o).2⟩,λh u=>⟨z _ _ (L.f h u).1,λb s=>y _ _<|(L.f h u).2 b s⟩,λj g u r B c=>(t _ _).2<|L.h j g u r B c,λj g u=>⟨z _ _ (L.l j g u).1,λb s=>y _ _<|(L.l j g u).2 b s⟩,λx G=> ?_,λk f=> ?_,λk c o=> ?_,λk f b s=> ?_,λk f j g h=>L.N k f j g<|(t _ _).1 h,λk c o j g h=>L.g k c o j g<|(t _ _).1 h,λj g r B c k f h=>L.d j g r B c k f<|(t _ _).1 h⟩;by_cases e:k=n;grind [iI];rw[iq d _ e]at v;exact L.iH k f a v;rw[iq d _<|D _<|L.S x G];exact L.S x G;by_cases e:k=n;grind [iI];rw[iq d _ e];exact L.M k f;rw[iq d _<|D _<|L.c k c o];exact L.c k c o;let⟨S,T,V⟩:=L.I k f b s;grind
theorem PI.ahM(H:iL F)(p:PI F n zX E S tr f d gs w qJ){r:Nat}(o:j+2<=E.r)(s:E.M (j+1)=Ã)(u:gs[F.L+1+j]?=Â g)(x:g.status=É)(I:tr (F.L+1+j)=.fS)(m:E.C j=.iA r):tF F n zX E tr gs w qJ:=by
 have c:=jE u;have C:=p.I.r;obtain⟨y,z⟩:=p.g j o s;rw[m]at y z;have B:=p.I.N u x I (À z) w<|C.r _ c;rw[y]at B;have v:=p.C.d j r o<|Á<|À m;have J:=H.C.I _ v;have D:=p.C.w j r o<|Á<|Á m;have t:=Ð D<|Ð (PQ _)<|Lj p.C;obtain⟨K,M⟩:=p.M.M _ t;have N:=λa l=>by by_cases e:1<=F.r (j+r*F.n);exact(p.d.C _ e (Ð D<|PQ _) a l).ahd<|p.f j r o m e;have h:F.r (j+r*F.n)=0:=Z;obtain⟨i,b⟩:=p.a.l j o s;rw[h]at l;obtain l|rfl:=l;rw[p.C.v]at l;exact(C.S _ c).rd a<|b _ l;exact(C.S _ c).r _ i
 have G:jD F.S (λi=>i<gs.size) E.Y (gV d (F.L+1+j) {d (F.L+1+j)with I:=λb=>(d<|F.L+1+j).I b\/E.V (F.r<|j+r*F.n) b,N:=λa=>(d<|F.L+1+j).N a\/a=jS F.toFx (F.r<|j+r*F.n),w:=w}) w qJ:=by refine C.C c (λ_ q=>q) (λb q=> ?_) (λ_ q=>q) (λa q=> ?_) U U U (λb h q=> ?_) λa l q=> ?_;obtain q|q:=q;exact À<|Á q;obtain⟨i,k,O⟩:=p.a.I _ t b q;grind;obtain q|rfl:=q;exact À<|Á q;exact Á ⟨À<|Á ⟨_,J,U⟩,λk e=>p.a.N _ t k e,N _<|Á U⟩;obtain q|q:=q;exact C.m _ c b h q;exact(p.a.I _ t b q).2.2 _ c h;obtain q|rfl:=q;exact C.g _ c a l q;exact p.a.N _ t _ c l
 have i:=G.M c;rw[iI]at i;obtain⟨T,O⟩:=j1 (H.iA (E.I j) j r _ _ _ g v B {d (F.L+1+j)with I:=λb=>(d<|F.L+1+j).I b\/E.V (F.r<|j+r*F.n) b,N:=λa=>(d<|F.L+1+j).N a\/a=jS F.toFx (F.r<|j+r*F.n),w:=w} i U (λb q=>q) U U U U U K M (Á U)<|p.a.h j o s r v<|by rw[m];exact eE _);refine p.PX H o s u (À x) G O ?_ (p.M.Y (by rw[m];rfl)<|by rw[m];rfl) (p.C.G o s (λk=>by rw[m];rfl) (λe h=> ?_) (λe h=> ?_) (λe h=>by cases h) λe h=>by cases h) ?_ (λe h=>by cases h);refine(p.a.r<|by rw[m];rfl).ahL (λ_ q=>q) (λ_ q=>À q) (λ_ q=>q) (λ_ q=>q) (λ_ q=>À q) (λa l=> ?_) U (p.a.M (F.L+1+j)<|Á ⟨j+1,Z,Z,λ⟨e,h,_⟩=>by rw[s]at h;cases h⟩);obtain q|q|rfl:=l;exact p.a.iH _ c a<|À q;exact p.a.iH _ c a<|Á q;grind;grind;grind;rw[m];simp only[iD.rk];have h:F.n+3000<=(F.n+3000)*(F.q+3-r):=ã _ (by
  have:r<=F.q:=by have:r*1<=r*F.n:=ñ _ H.C.N;omega
  omega)
 omega
def PI.ahN(H:iL F)(p:PI F n zX E S tr f d gs w qJ){r:Nat}(G:j+2<=E.r)(I:E.M (j+1)=Ã)(V:gs[F.L+1+j]?=Â g)(jh:g.status=É)(ht:tr (F.L+1+j)=.fS)(u:E.C j=.qx r):tF F n zX E tr gs w qJ:=by
 have D:=jE V;have C:=p.I.r;let⟨n9,rW⟩:=p.g j G I;rw[u]at n9 rW;have hJ:=p.I.N V jh ht<|À rW;rw[n9]at hJ;let⟨CH,hrecv⟩:=hJ w<|C.r _ D;have rm:=p.C.d j r G<|Á<|Á u;have Ls:=p.a.h j G I r rm (by rw[u];exact eE _);have Lt:r<=F.q:=by have:r*1<=r*F.n:=ñ _ H.C.N;omega
 have AJ:jD F.S (λi=>i<gs.size) E.Y (gV d (F.L+1+j)<|xv F {d (F.L+1+j)with w:=w}<|j+r*F.n) w qJ:=by refine C.C D (λ_ q=>q) (λb q=>À<|Á q) (λ_ q=>q.1) (λa q=> ?_) U U U (λb t q=>C.m _ D b t q) λa s q=> ?_;obtain q|rfl:=q;exact À<|Á q;exact À<|À Ls;obtain q|q:=q;exact C.g _ D a s.1 q;exact s.2 q
 have hF:mG F.P Æ (JW F (E.I j) j<|.oU (r+1)) .fS (xv F {d (F.L+1+j)with w:=w}<|j+r*F.n) g:=λw₁ yR=>by let⟨Q,W,c,e⟩:=hrecv;exact⟨Q,W,c,λx=>(e x).mF yR⟩
 refine p.PX H G I V (À jh) AJ hF ?_ ?_ (p.C.G G I (λk=>by rw[u];rfl) (λm h=> ?_) (λm h=> ?_) (λm h=>by cases h) λm h=>by cases h) ?_ (λm h=>by cases h);have L:=p.a;have J:∀k a,(gV d (F.L+1+j) (xv F {d (F.L+1+j)with w:=w}<|j+r*F.n) k).r a->(d k).r a:=λk a h=>by by_cases e:k=F.L+1+j;subst e;rw[iI]at h;exact h.1;rwa[iq d _ e]at h
 have K:∀k a,(d k).r a->a≠j4 F (F.a<|j+r*F.n)->(gV d (F.L+1+j) (xv F {d (F.L+1+j)with w:=w}<|j+r*F.n) k).r a:=λk a h mP=>by by_cases e:k=F.L+1+j;subst e;rw[iI];exact⟨h,mP⟩;rwa[iq d _ e]
 have X:∀k a,(d k).N a->(gV d (F.L+1+j) (xv F {d (F.L+1+j)with w:=w}<|j+r*F.n) k).N a:=λk a h=>by by_cases e:k=F.L+1+j;subst e;rw[iI];exact À h;rwa[iq d _ e]
 have M:∀k,(gV d (F.L+1+j) (xv F {d (F.L+1+j)with w:=w}<|j+r*F.n) k).I=(d k).I/\(gV d (F.L+1+j) (xv F {d (F.L+1+j)with w:=w}<|j+r*F.n) k).O=(d k).O/\(gV d (F.L+1+j) (xv F {d (F.L+1+j)with w:=w}<|j+r*F.n) k).q=(d k).q:=λk=>by by_cases e:k=F.L+1+j;subst e;rw[iI];exact⟨U,U,U⟩;rw[iq d _ e];exact⟨U,U,U⟩
 have nb:∀k,d k=lR (d k)->k≠F.L+1+j:=λk W e=>by
  subst e;have:(d<|F.L+1+j).q:=by rw[W];trivial
  exact(p.a.M (F.L+1+j)<|Á ⟨j+1,Z,Z,λ⟨e,c,_⟩=>by rw[I]at c;cases c⟩) this
 have N:∀k,k≠F.L+1+j->k<gs.size->∀a,(d k).r a->a≠j4 F (F.a<|j+r*F.n):=λk W Ht a s e=>C.h _ _ Ht D W a s (by rw[e];exact À Ls);refine⟨λk W a s=> ?_,λx c v a s=>K _ _ (L.o x c v a s) (N 0 (by have:=H.C.r;omega) (by have:=p.b;have:=H.C.r;omega) a<|L.o x c v a s),λh=>⟨X _ _ (L.nI h).1,λb t=>by rw[(M 0).1];exact(L.nI h).2 b t⟩,λh k c v=> ?_,λh B=>⟨X _ _ (L.f h B).1,λb t=>by rw[(M _).1];exact(L.f h B).2 b t⟩,λl o B m y c=> ?_,λl o B=>⟨X _ _ (L.l l o B).1,λb t=>by rw[(M _).1];exact(L.l l o B).2 b t⟩,λx CI=>by rw[iq d _<|nb _<|L.S x CI];exact L.S x CI,λk W=>by rw[(M k).2.2];exact L.M k W,λk c v=>by rw[iq d _<|nb _<|L.c k c v];exact L.c k c v,λk W b t=>⟨(L.I k W b t).1,(L.I k W b t).2.1,λi z=>by rw[(M i).2.1];exact(L.I k W b t).2.2 i z⟩,λk W i z h=>L.N k W i z<|J _ _ h,λk c v i z h=>L.g k c v i z<|J _ _ h,λl o m y c i z h=> ?_⟩;by_cases e:k=F.L+1+j;subst e;rw[iI]at s;obtain q|q|q:=s;exact L.iH _ D a<|À q.1;exact L.iH _ D a<|Á q;exact Á ⟨_,H.C.Y.2 _ (by assumption),q⟩;rw[iq d _ e]at s;exact L.iH k W a s;have Q:F.L<gs.size:=by have:=p.b;have:0<E.r:=h;omega
 have:=L.e h k c v;exact⟨K _ _ this.1<|N _ Z Q _ this.1,K _ _ this.2<|N _ Z Q _ this.2⟩;by_cases e:l=j;subst e;rw[kK]at c;simp only[iD.lS]at c;refine K _ _ (L.h l o B m y<|by rw[u];simp only[iD.lS];omega) λq=> ?_;have Q:=H.C.a _ _ y rm (by injection q);have T:m*F.n=r*F.n:=Z;have:=Nat.eq_of_mul_eq_mul_right H.C.N T;omega;rw[jA _ e]at c;have q:=L.h l o B m y c;have yT:l+2<=E.r:=o;exact K _ _ q (N _ Z (by have:=p.b;omega) _ q);by_cases e:l=j;subst e;rw[kK]at c;simp only[iD.lS]at c;by_cases Q:m=r;subst Q;by_cases T:i=F.L+1+l;subst T;rw[iI]at h;exact h.2 U;exact N i T z _ (J _ _ h) U;exact L.d l o m y (by rw[u];simp only[iD.lS];omega) i z<|J _ _ h;rw[jA _ e]at c;exact L.d l o m y c i z<|J _ _ h;have W:=p.M;refine⟨W.C,W.I,λl o=> ?_,W.M,W.S,λl o m y c=> ?_⟩;by_cases e:l=j;subst e;have:=W.kz l o;rw[u]at this;rw[kK];exact this;rw[jA _ e];exact W.kz l o;by_cases e:l=j;subst e;rw[kK]at c;simp only[iD.lS]at c;by_cases Q:m=r;subst Q;exact CH;exact W.N l o m y (by rw[u];simp only[iD.lS];omega);rw[jA _ e]at c;exact W.N l o m y c;obtain⟨_,h⟩|h|h:=h<;>cases h;obtain h|h|h:=h<;>cases h;rw[u];simp only[iD.rk];have e:F.q+3-r=(F.q+3-(r+1))+1:=Z;rw[e,Ř];omega
end
def ahO(f:Nat->gX)(i:Nat)(x y:gX):fP (fP f i x) i y=fP f i y:=by funext k;unfold fP;split<;>rfl
section
variable{F:Ph}{E E':gE F}{S:Nat->Jd}{tr o:Nat->gW}{d:Nat->jc}{lot:Nat->fx}{gs gs':Array Ç}{u:ï}{sl:Option (Nat×Nat)}{sz:Nat}
def rX{r:Nat}{a:Bool}(h:b≠i):(w.setChan i n q yQ j r a).heap[b]?=w.heap[b]?:=by unfold Ŀ;exact eA<|cR h
def Lu{r:Nat}{a:Bool}(h:i<w.heap.size):(w.setChan i n q yQ j r a).heap[i]?=Â (ņ n q yQ j r a):=by simp[Ŀ,h]
def Hu{r:Nat}{a:Bool}:(w.setChan i n q yQ j r a).heap.size=w.heap.size:=by unfold Ŀ;simp
def ahP(f:Ps F E)(c:j+2<=E.r){cap s r:Nat}{buf:Array Ì}{cl tm:Bool}:Hj F E lot sz w (w.setChan (E.I j) cap buf cl s r tm):=by let⟨g,d,_⟩:=f.o j c;refine⟨cZ Hu.symm,λb _ h _=>rX λe=>h<|Á<|Á ⟨j,c,e⟩,λa i _=>iE (rX λe=> ?_),yH (rX λe=>d e.symm),U,U⟩;obtain⟨k,l,rfl⟩|⟨p,rfl⟩:=i;exact g<|Á ⟨k,l,e.symm⟩;exact d e.symm
def X3(a:Ps F E)(c:j+2<=E.r){cap s r:Nat}{buf:Array Ì}{cl tm:Bool}(d:F.M b){G:GS}(h:iR w b G):iR (w.setChan (E.I j) cap buf cl s r tm) b G:=by have e:b≠E.I j:=λe=>(a.o j c).1<|e▸d;exact h.K (iE<|rX e) (iE<|rX e) (yI<|rX e)<|yI<|rX e
def Wd.H(W:Wd F E w)(H:iL F)(L:jm F E lot sz w)(g:Ps F E)(h:j+2<=E.r){cap s r:Nat}{buf:Array Ì}{cl tm:Bool}: (∀k,k<=E.S.md->oW F k (E.c k)/\F.d k (E.c k) (E.V k) (w.setChan (E.I j) cap buf cl s r tm))/\(∀k,1<=k->k<=E.S.md->(w.setChan (E.I j) cap buf cl s r tm).cell? (j4 F (F.b k))=Â (ä (F.o k)))/\(∀c,c+2<=E.r->∀d,c+d*F.n<F.q->d<(E.C c).lS->(w.setChan (E.I j) cap buf cl s r tm).cell? (j4 F (F.a (c+d*F.n)))=Â (ä (F.k (c+d*F.n))))/\iR (w.setChan (E.I j) cap buf cl s r tm) F.C E.b/\(∀k,k<=F.m->iR (w.setChan (E.I j) cap buf cl s r tm) (F.I k) (E.a k)):=by have e:=ahP (lot:=lot) (sz:=sz) (w:=w) g h (cap:=cap) (s:=s) (r:=r) (buf:=buf) (cl:=cl) (tm:=tm);refine⟨λk a=>⟨(W.M k a).1,H.S _ _ _ _ _ (W.M k a).2 (λb f=>e.C b (L.I k a b f).1 (L.I k a b f).2.1 (L.I k a b f).2.2) (e.r _ (À ⟨k,Ð a (Li g),U⟩) (L.N k a)) (e.r _ (Á ⟨_,U⟩) (L.PO H.C)) e.I e.M⟩,λk b f=>(e.r _ (Á ⟨_,U⟩) (L.g k b f)).trans (W.S k b f),λc b d f i=>(e.r _ (Á ⟨_,U⟩) (L.d c b d f i)).trans (W.N c b d f i),X3 g h (À U) W.C,λk a=>X3 g h (Á ⟨k,a,U⟩) (W.I k a)⟩
def jm.G(L:jm F E lot sz w)(h:w.heap.size<=W.heap.size):jm F E lot sz W:=⟨L.iH,L.o,L.nI,L.e,L.f,L.h,L.l,L.S,L.M,L.c,λk a b c=>⟨ff (L.I k a b c).1 h,(L.I k a b c).2⟩,L.N,L.g,L.d⟩
def Lv(c:TI F.toFx i zX E.r E.S.rl E.V E.e E.d E.K E.f qJ)(h:yL u):TI F.toFx i zX E.r E.S.rl E.V E.e E.d E.K E.f (qJ++u):=c.r<|Az (λa b=>(h a b).1) λa b _ _=>(h a b).2 _
def ja(E:gE F)(x:Nat)(e:iW):gE F:={E with M:=fP E.M x (Â e)}
theorem sM.H(h:sM F E S tr d)(ok:F.Ok){x:Nat}{e:iW}{T:gW}(m:(∃N,e=.kl N)->T=.fS):sM F (fO.ja E x e) (fP S (F.L+x)<|JE F e) (fP tr (F.L+x) T) (fP d (F.L+x) .no):=by
 have:=ok.r;have c:∀y,y≠x->(fO.ja E x e).M y=E.M y:=λy k=>gi _ _ k;have g:(fO.ja E x e).M x=Â e:=ig _ _ _;refine⟨by rw[gi S _ Z,gi d _ Z];exact h.M,λb a=> ?_,λj b a=> ?_,λy l b a=> ?_,λi b a=>by rw[gi S _ Z,gi d _ Z,gi tr _ Z];exact h.r i b a⟩;have f:x≠0:=λq=>by subst q;rw[g]at a;cases a
 rw[c 0<|cR f]at a;rw[gi S _ Z,gi d _ Z];exact h.Y b a;have f:x≠j+1:=λq=>by subst q;rw[g]at a;cases a
 rw[c _<|cR f]at a;rw[gi S _ Z,gi d _ Z];exact h.I j b a;by_cases q:y=x;grind [ig];rw[c y q]at a;rw[gi S _ Z,gi d _ Z,gi tr _ Z];exact h.C y l b a
def tH(F:Ph)(E:gE F)(x:Nat):Nat×Nat:=match E.M x with|some e=>e.rk F|none=>if x=0 then(E.S.rk F,0)else((E.C<|x-1).rk F,0)
def ahQ(ok:F.Ok)(x:Nat):E.G tr (F.L+x)=((tH F E x).1,(tH F E x).2,tr<|F.L+x):=by
 have:=ok.r;unfold tH;cases a:E.M x with
 |some e=>rw[Lm ok a]|none=>
  cases x with|zero=>rw[dm,XP ok a];simp|succ j=>rw[show F.L+(j+1)=F.L+1+j by omega,vL ok a];simp
def EU(ok:F.Ok){x:Nat}{e:iW}{T:gW}(b:F.L+x<F.N)(h:(e.rk F).1<(tH F E x).1\/((e.rk F).1=(tH F E x).1/\(e.rk F).2<(tH F E x).2)):rj F.N ((fO.ja E x e).mu (fP tr (F.L+x) T) gs') (E.mu tr gs):=by refine Hl b ?_ λk c=>AE (λ_=>U) (λ_ _=>U) (λa=>gi _ _ Z) (λ_ _=>U) (λ_ _=>U)<|gi tr _ c;rw[Lm ok (E:=fO.ja E x e)<|ig _ _ _,ahQ ok];obtain h|⟨a,d⟩:=h;exact À h;exact Á ⟨a,À d⟩
def ahR{e:iW}(h:e.mH=nP (E.M i))(y:Nat):(fO.ja E i e).H y=E.H y:=by unfold gE.H;by_cases q:y=i;subst q;show(if y<E.N.ad F.n then nP (fP E.M y (Â e) y)else 0)=_;rw[ig];show(if y<E.N.ad F.n then e.mH else 0)=_;rw[h];show(if y<E.N.ad F.n then nP (fP E.M i (Â e) y)else 0)=_;rw[gi _ _ q]
def ahS{e:iW}(h:e.mH=nP (E.M i)):Ô (F.n+1) (fO.ja E i e).H=Ô (F.n+1) E.H:=Υ λy _=>ahR h y
theorem Ps.ja(h:Ps F E){x:Nat}{e:iW}(J:x<E.r)(v:e.mH=nP (E.M x))(w:∀p,E.M x=Â (.gN p)->∀W,p≠ .ij W/\p≠ .jN W/\p≠ .jd W)(K:∀p,e=.gN p->∀W,p≠ .ij W/\p≠ .jN W/\p≠ .jd W)(z:∀j,x=j+1->j<E.N.jR F.n/\∃r,E.C j=.oU r/\∀i,j+i*F.n<F.q->i<r)(B:x=0->E.S=.lY F.m):Ps F (fO.ja E x e):=by
 have b:∀y,y≠x->(fO.ja E x e).M y=E.M y:=λy a=>gi _ _ a;have L:(fO.ja E x e).M x=Â e:=ig _ _ _;have g:=ahS (E:=E) v;refine⟨h.v,h.C,h.K,h.L,h.J,h.I,h.z,h.d,λj C d=> ?_,λd=> ?_,λy a=> ?_,h.M,h.o,λc k f=>by rw[g];exact h.t c k f,λk f=> ?_,λr s f=> ?_,λy p a=> ?_,λD=>by rw[g];exact h.B D,h.e,h.Y,h.w,h.H,h.O,h.S,h.y,h.D⟩;by_cases q:j+1=x;exact z j q.symm;rw[b _ q]at d;exact h.l j C d;by_cases q:0=x;exact B q.symm;rw[b _ q]at d;exact h.f d;have:E.r<=y:=a;rw[b y Z];exact h.h y a;rw[g];let⟨l,o,y,t,u,G⟩:=h.g k f;refine⟨l,o,y,t,u,?_⟩;grind;rw[g];let⟨l,o,t⟩:=h.u r s f;refine⟨l,o,λG=> ?_⟩;let⟨y,H,I,u⟩:=t G;have:y≠x:=λq=>by subst q;exact(w _ u r).2.2 U
 exact⟨y,H,I,by rwa[b y this]⟩;by_cases q:y=x;grind;rw[b y q]at a;exact h.N y p a
theorem X4{x:Nat}{e:iW}(h:i≠x):(fO.ja E x e).K i↔E.K i:=by unfold gE.K;show(∃a,fP E.M x (Â e) i=Â a/\a.rR)↔_;rw[gi _ _ h]
theorem ahT{e:iW}:(fO.ja E i e).K i↔e.rR:=by unfold gE.K;show(∃a,fP E.M i (Â e) i=Â a/\a.rR)↔_;rw[ig];grind
theorem ahU{e:iW}(h:e.rR↔E.K i)(y:Nat):(fO.ja E i e).K y↔E.K y:=by grind [ahT,X4]
theorem X5{e:iW}(h:e.qg↔E.qg i)(y:Nat):(fO.ja E i e).qg y↔E.qg y:=by unfold gE.qg at h|-;show(∃a,fP E.M i (Â e) y=Â a/\a.qg)↔_;grind [ig,gi]
theorem jm.K(L:jm F E lot sz w){x:Nat}{e:iW}(h:e.qg↔E.qg x):jm F (fO.ja E x e) lot sz w:=by
 have d:∀y,(fO.ja E x e).M y=Ã->E.M y=Ã:=λy c=>by by_cases q:y=x;subst q;have:fP E.M y (Â e) y=Ã:=c;grind [ig];have:fP E.M x (Â e) y=Ã:=c;grind [gi]
 exact⟨L.iH,L.o,L.nI,L.e,λa b=>L.f a<|d _ b,λj a b=>L.h j a<|d _ b,λj a b=>L.l j a<|d _ b,λy c=>L.S y<|(X5 h y).1 c,λi f=>L.M i (f.imp id λ⟨y,a,b,g⟩=>⟨y,a,b,λq=>g<|(X5 h y).2 q⟩),L.c,L.I,L.N,L.g,L.d⟩
def Wd.K(W:Wd F E w){x:Nat}{e:iW}:Wd F (fO.ja E x e) w:=⟨W.C,W.I,W.kz,W.M,W.S,W.N⟩
def TI.Y(a:TI F.toFx i zX E.r E.S.rl E.V E.e E.d E.K E.f qJ){x:Nat}{e:iW}(h:e.rR↔E.K x):TI F.toFx i zX (fO.ja E x e).r (fO.ja E x e).S.rl (fO.ja E x e).V (fO.ja E x e).e (fO.ja E x e).d (fO.ja E x e).K (fO.ja E x e).f qJ:= {a with jq:=λy b c=>a.jq y b ((ahU h y).1 c)}
def PI.ahV(H:iL F)(p:PI F i zX E S tr d lot gs w qJ){r:Nat}(t:j+2<=E.r)(o:E.M (j+1)=Ã)(M:gs[F.L+1+j]?=Â g)(jh:g.status=É)(ht:tr (F.L+1+j)=.fS)(C:E.C j=.oU r):lJ F i zX E tr gs w qJ sl (F.L+1+j):=by
 have Cw:=p.H<|jE M;obtain⟨n9,rW⟩:=p.g j t o;rw[C]at n9 rW;have P7:S (F.L+1+j)=yJ F.P (F.L+1+j==0) (E.I j) F.z λx=>match x with|some v=>λl g=>v=F.c (j+r*F.n)->sL F.P Æ F.B (F.I<|F.r<|j+r*F.n) (F.e (E.I j)<|j+r*F.n) .jG l g|none=>Cs F:=by rwa[AH H.C j]
 have hY:E.Y (E.I j):=Á<|Á ⟨j,t,U⟩;obtain⟨buf,s,D,vO,X6,AK,AL⟩:=p.M.kz j t;rw[C]at D X6 AK AL;simp only[iD.jz]at D X6 AK AL;have EV:=(p.I.r).N _ hY;by_cases Cy:r<s;have xy:=AL 0 Z;rw[dm]at xy;have rm:j+r*F.n<F.q:=by
  have:=(vO r).1 Cy;have:E.N.n8 F.q<=F.q:=by cases E.N<;>simp only[gH.n8]<;>omega
  omega
 obtain⟨gs',u,T,g',O,f,Q,V,I,W,q7⟩:=p.I.oU M jh rW ht P7 hY D xy<|kW F (E.I j)<|.fT r .jG;have q8:=q7.lY (λl g h=>by rw[ig]at h;exact h U);rw[ahO]at q8;obtain⟨z1,z2,z3,z4,z5⟩:=p.M.H H p.a p.C t;refine⟨iy E j<|.fT r .jG,_,_,_,_,gs',_,u,O,f,λh=>h,.r (p.N.N H.C t o) (f.trans p.b) q8 ?_ ⟨z4,z5,λv m=> ?_,z1,z2,λv m c qW a=> ?_⟩ (p.C.G t o (λk=>by rw[C,P1 U];rfl) (λc h=> ?_) (λc h=> ?_) (λc h=>by cases h) λc h=>by cases h) (Lv p.d W) (λk y b G=> ?_) λv c a1 J a3=> ?_,EM H.C Cw o ?_⟩;rw[f];exact((p.a.r<|by rw[C];rfl).G<|cZ Hu.symm);by_cases e:v=j;subst e;rw[kK];refine⟨buf.extract 1 buf.size,s,Lu EV,vO,Cy,by rw[Array.size_extract];simp only[iD.jz];omega,λl mR=> ?_⟩;simp only[iD.jz]at mR|-;rw[de];rw[if_pos Z];have:=AL (1+l) Z;rw[this,show r+(1+l)=r+1+l by omega];rw[jA _ e];obtain⟨K,X,y1,y2⟩:=p.M.kz v m;refine⟨K,X,?_,y2⟩;show(w.setChan (E.I j) _ _ _ _ _ _).heap[E.I v]?=_;rwa[rX λq=>e<|p.C.M _ _ m t q];by_cases e:v=j;subst e;rw[kK]at a;exact z3 v m c qW (by rwa[C]);rw[jA _ e]at a;exact z3 v m c qW a;obtain⟨_,h⟩|h|h:=h<;>cases h;exact rm;obtain h|h|h:=h<;>cases h;by_cases e:k=F.L+1+j;subst e;rw[Q]at b;obtain rfl:=dh b;rw[V]at G;cases G;rw[I k e]at b;obtain a|⟨v,m,AN,K,X|⟨r1,cap,s1,c,X,h4⟩⟩:=p.c k y b G;exact À a;exact Á ⟨v,m,AN,K,À<|by rwa[jA _ Z]⟩;have e2:v≠j:=Z;exact Á ⟨v,m,AN,K,Á ⟨r1,cap,s1,c,by rwa[jA _ e2],by show(w.setChan (E.I j) _ _ _ _ _ _).heap[E.I v]?=_;rwa[rX λq=>e2<|p.C.M _ _ m t q]⟩⟩;rw[jA _ (λe=>by subst e;rw[kK]at J;cases J)]at J;exact(p.f v c a1 J a3).app u;rw[C];simp only[iD.rk,km.rk];have hm:F.n+3000<=(F.n+3000)*(F.q+3-r):=ã _ (by have:r*1<=r*F.n:=ñ _ H.C.N;omega);omega;have P8:buf=#[]:=Array.size_eq_zero_iff.1 Z;subst P8;have ahW:r=s:=Z;by_cases rS:j<E.N.jR F.n;rw[show decide (j<E.N.jR F.n)=Ê by simpa using rS]at D;obtain⟨gs',u,T,g',O,f,Q,V,I,W,q7⟩:=p.I.jR (sl:=sl) M jh rW ht P7 hY D .no;have X7:F.L+1+j=F.L+(j+1):=Z;have Hv:E.N.n8 F.q=F.q:=by revert rS;cases E.N<;>simp only[gH.jR,gH.n8]<;>intro h<;>first|trivial|omega
 have P9:¬E.K (j+1):=λ⟨e,a,_⟩=>by rw[o]at a;cases a
 have yU:iW.rR .qA↔E.K (j+1):=⟨λh=>h.elim,λh=>(P9 h).elim⟩;refine⟨fO.ja E (j+1) .qA,_,_,_,_,gs',w,u,O,f,λh=>h,.r (p.N.H H.C λ⟨N,h⟩=>by cases h) (f.trans p.b) (by rwa[<-X7]) (by rw[f];exact p.a.K ⟨λh=>h.elim,λ⟨e,a,_⟩=>by rw[o]at a;cases a⟩) p.M.K (p.C.ja Z (by rw[o];rfl) (λp' h=>by rw[o]at h;cases h) (λp' h=>by cases h) (λv h=> ?_) λh=>by omega) ((Lv p.d W).Y yU) (λk y b G=> ?_) λv c a1 J a3=>(p.f v c a1 J a3).app u,EU H.C (by rwa[<-X7])<|À ?_⟩;have:v=j:=Z;subst this;exact⟨rS,r,C,λl mR=>by rw[ahW];exact(vO l).2<|by rwa[Hv]⟩;by_cases e:k=F.L+1+j;subst e;rw[Q]at b;obtain rfl:=dh b;rw[V]at G;cases G;rw[I k e]at b;have l:∀v,F.L+1+v=k->(fO.ja E (j+1) .qA).M (v+1)=E.M (v+1):=λv h=>gi _ _ Z;obtain a|⟨v,m,AN,K,X⟩:=p.c k y b G;exact À a;exact Á ⟨v,m,by rwa[l v K.symm],K,X⟩;rw[tH,o];simp only[iW.rk];rw[if_neg Z,Nat.add_sub_cancel,C];simp only[iD.rk];have hm:F.n+3000<=(F.n+3000)*(F.q+3-r):=ã _ (by have a:=H.C.N;obtain l|l:=dV r;omega;have K:=(vO<|r-1).1 Z;have:(r-1)*1<=(r-1)*F.n:=ñ _ a;omega);omega;rw[show decide (j<E.N.jR F.n)=Æ by simpa using rS]at D;obtain⟨gs',g',O,f,Q,V,I,W⟩:=p.I.ag6 M jh rW ht P7 D;refine⟨E,S,tr,d,lot,gs',w,#[],O,f,λh=>h,.r p.N (f.trans p.b) (by rwa[dK]) (by rw[f];exact p.a) p.M p.C (by rw[dK];exact p.d) (λk y b l=> ?_) (by rw[dK];exact p.f),PW (λ_ _=>U) Cw (by rw[ER M,if_pos jh]) (by rw[ER Q,if_neg (by rw[V];simp)]) λk b=>P5<|I k b⟩;by_cases e:k=F.L+1+j;subst e;exact Á ⟨j,t,o,U,Á ⟨r,F.q,s,r,C,D⟩⟩;rw[I k e]at b;exact p.c k y b l
end
section
variable{F:Ph}{E E':gE F}{S:Nat->Jd}{tr o:Nat->gW}{m:Nat->jc}{f:Nat->fx}{gs gs':Array Ç}{u:ï}
def EW(ok:F.Ok)(x:Nat):(F.L+x==0)=Æ:=by have:=ok.r;simp;omega
def Hw(a:i<E.r):AF E (F.L+i):=Á ⟨i,a,U⟩
def PI.EX(p:PI F n zX E S tr m f gs w qJ){x:Nat}{e:iW}(b:x<E.r)(c:E.M x=Â e)(d:gs[F.L+x]?=Â g)(h:g.status=É)(i:tr (F.L+x)=.fS):∀a,gd (f<|F.L+x) (f<|F.L+x).w a->JE F e {f (F.L+x)with w:=a} g:=by let⟨k,j,_⟩:=p.k x e b c;intro a r;have:=p.I.N d h i (À j) a r;simp_all
theorem Qa(B:fy F E gs w){x:Nat}{e:iW}(c:∀k y,gs[k]?=Â y->y.status=í->k≠F.L+x):fy F (fO.ja E x e) gs w:=by intro k y a b;have h:=c k y a b;obtain h1|⟨j,d,i,f,g⟩:=B k y a b;exact À h1;refine Á ⟨j,d,?_,f,g⟩;show fP E.M x (Â e) (j+1)=Ã;grind [gi]
theorem PI.ahX(H:iL F)(p:PI F n zX E S tr m f gs w qJ)(V:J<E.r)(s:E.M J=Â .qA)(D:gs[F.L+J]?=Â g)(X:g.status=É)(ht:tr (F.L+J)=.fS):tF F n zX E tr gs w qJ:=by
 have G:=jE D;have C:=p.I.r;have P9:¬E.K J:=λ⟨e,c,d⟩=>by rw[s]at c;cases c;exact d
 have yU:iW.rR (.gN .kv)↔E.K J:=⟨λh=>h.elim,λh=>(P9 h).elim⟩;have AJ:jD F.S (λi=>i<gs.size) E.Y (gV f (F.L+J)<|lR {f (F.L+J)with w:=w}) w qJ:=C.C G (λ_ q=>q.elim) (λ_ q=>q.elim) (λ_ q=>q.elim) (λ_ q=>q.elim) U U U (λ_ q=>q.elim) λ_ q=>q.elim;have hF:mG F.P (F.L+J==0) (JE F<|.gN .kv) .fS (lR {f (F.L+J)with w:=w}) g:=by rw[EW H.C J];intro l T;let⟨W,a,b,j,k⟩:=p.EX V s D X ht w<|C.r _ G;exact⟨W,a,b,j,k.mF T⟩
 refine⟨fO.ja E J<|.gN .kv,_,_,_,_,λh=>h,.r (p.N.H H.C λ⟨N,h⟩=>by cases h) p.b (p.I.M (K:=.no) D (À X) AJ hF) ?_ p.M.K (p.C.ja V (by rw[s];rfl) (λT h=>by rw[s]at h;cases h) (λT h W=>by cases h;exact⟨fD,fD,fD⟩) (λj h=> ?_) λh=>(p.C.f<|by rw[<-h,s];simp)) (p.d.Y yU) (Qa p.c λk y W z e=> ?_) p.f,EU H.C (p.H G)<|À ?_⟩;have L:=p.a;have B:(gV f (F.L+J)<|lR {f (F.L+J)with w:=w}) (F.L+J)=lR {f (F.L+J)with w:=w}:=iI _ _ _;have l:∀k,k≠F.L+J->(gV f (F.L+J)<|lR {f (F.L+J)with w:=w}) k=f k:=λk W=>iq f _ W;have h0:(0:Nat)≠F.L+J:=by have:=H.C.r;omega
 have I:∀k a,(gV f (F.L+J) (lR {f (F.L+J)with w:=w}) k).r a->(f k).r a:=λk a h=>by by_cases q:k=F.L+J;subst q;rw[B]at h;exact h.elim;grind
 have sO:∀k a,(gV f (F.L+J) (lR {f (F.L+J)with w:=w}) k).O a->(f k).O a:=λk a h=>by by_cases q:k=F.L+J;subst q;rw[B]at h;exact h.elim;grind
 have ee:(fO.ja E J<|.gN .kv).M J=Â (.gN .kv):=ig _ _ _;have v:∀y,y≠J->(fO.ja E J<|.gN .kv).M y=E.M y:=λy M=>gi _ _ M;refine⟨λk W a u=> ?_,λy c d a u=>by rw[l 0 h0];exact L.o y c d a u,λh=>by rw[l 0 h0];exact L.nI h,λh k c d=> ?_,λc d=> ?_,λj c d r t Q=> ?_,λj c d=> ?_,λy M=> ?_,λi o=> ?_,λk c d=>by rw[l k Z];exact L.c k c d,λk W b z=>⟨(L.I k W b z).1,(L.I k W b z).2.1,λi o h=>(L.I k W b z).2.2 i o<|sO _ _ h⟩,λk W i o h=>L.N k W i o<|I _ _ h,λk c d i o h=>L.g k c d i o<|I _ _ h,λj c r d t i o h=>L.d j c r d t i o<|I _ _ h⟩;by_cases q:k=F.L+J;subst q;rw[B]at u;obtain h|h:=u<;>exact h.elim;rw[l k q]at u;exact L.iH k W a u;by_cases q:F.L=F.L+J;have X8:J=0:=Z;subst X8;have:=p.C.f (by rw[s];simp);have T:E.S.md<k:=c;rw[this]at T;simp only[ko.md]at T;omega;rw[l _ q];exact L.e h k c d;by_cases q:F.L=F.L+J;grind;rw[l _ q];exact L.f c (by rwa[<-v 0 Z]);by_cases q:F.L+1+j=F.L+J;grind;rw[l _ q];exact L.h j c (by rwa[<-v (j+1) Z]) r t Q;by_cases q:F.L+1+j=F.L+J;grind;rw[l _ q];exact L.l j c (by rwa[<-v (j+1) Z]);by_cases q:F.L+y=F.L+J;rw[q,B];rfl;rw[l _ q];exact L.S y (by let⟨T,c,d⟩:=M;exact⟨T,by rwa[<-v y Z],d⟩);by_cases q:i=F.L+J;subst q;obtain q|⟨y,c,d,t⟩:=o;grind;have:y=J:=Z;subst this;exact absurd ⟨_,ee,trivial⟩ t;rw[l _ q];refine L.M i (o.imp id λ⟨y,c,d,t⟩=>⟨y,c,d,λ⟨T,Q,h5⟩=>t ⟨T,by rwa[v y Z],h5⟩⟩);have:=p.C.l j Z (by rw[<-h,s];simp);exact this;grind;rw[tH,s];simp only[iW.rk,kI.rk];omega
def CJ(E:gE F)(x:Nat)(e:iW)(G:GS)(a:Option Nat):gE F:={fO.ja E x e with b:=G,g:=a}
theorem Ps.Hx(h:Ps F E){e:iW}{G:GS}{la:Option Nat}(v:i<E.r)(D:∃w,E.M i=Â w)(O:∀y,y≠i->∀p,E.M y=Â (.gN p)->∀W,p≠ .ij W/\p≠ .jN W/\p≠ .jd W)(H:∀c d,G=.cl c d->c=Ô (F.n+1) (fO.ja E i e).H/\d=E.N.ik)(I:∀d,G=.ky d->Ô (F.n+1) (fO.ja E i e).H=0/\d=E.N.ik/\la=Â i/\(e=.gN (.ij d)\/e=.gN (.jN d)))(J:∀r s,G=.iK r s->Ô (F.n+1) (fO.ja E i e).H=0/\r+s=E.N.ik/\(0<r->la=Â i/\e=.gN (.jd r)))(K:∀p,e=.gN p->(∀W,p=.ij W\/p=.jN W->la=Â i/\G=.ky W)/\(∀r,p=.jd r->0<r/\la=Â i/\∃s,G=.iK r s))(L:E.N=.fT .ij\/E.N=.fT .na\/E.N=.gN->Ô (F.n+1) (fO.ja E i e).H=0)(M:E.N=.fT .ij->∃a b,G=.iK a b)(N:(∀p,E.N≠ .fT p)->E.N≠ .gN->∃c,G=.cl c 0):Ps F (CJ E i e G la):=by have l:∀y,y≠i->(CJ E i e G la).M y=E.M y:=λy f=>gi _ _ f;have m:(CJ E i e G la).M i=Â e:=ig _ _ _;let⟨w,z⟩:=D;refine⟨h.v,h.C,h.K,h.L,h.J,h.I,h.z,h.d,λj B g=> ?_,λg=> ?_,λy f=> ?_,h.M,h.o,H,λd o=> ?_,λr s o=> ?_,λy p f=> ?_,L,h.e,h.Y,h.w,h.H,M,N,h.y,h.D⟩;by_cases q:j+1=i;exact h.l j B (by rw[q,z];simp);rw[l _ q]at g;exact h.l j B g;by_cases q:0=i;exact h.f (by rw[q,z];simp);rw[l _ q]at g;exact h.f g;have:E.r<=y:=f;rw[l y Z];exact h.h y f;let⟨t,u,k,C⟩:=I d o;exact⟨t,u,i,v,k,by rw[m];exact C.imp (λq=>by rw[q]) λq=>by rw[q]⟩;let⟨t,u,k⟩:=J r s o;exact⟨t,u,λC=>⟨i,v,(k C).1,by rw[m,(k C).2]⟩⟩;by_cases q:y=i;subst q;rw[m]at f;exact K p<|dh f;grind
def ahY{G:GS}(a:iR W F.C G)(h:Wd F {E with b:=G,a:=E.a} W){x:Nat}{e:iW}{b:Option Nat}:Wd F (CJ E x e G b) W:=⟨a,h.I,h.kz,h.M,h.S,h.N⟩
theorem PI.Hz(H:iL F)(p:PI F n zX E S tr m f gs w qJ){x:Nat}{a e:iW}{G:GS}{la:Option Nat}{c:Ç}{T:gW}(hx:x<E.r)(d:E.M x=Â a)(s:a.rR)(D:e.rR)(I:e.qg)(t:gs[F.L+x]?=Â g)(v:lZ F.C w W)(z:iR W F.C G)(J:ŵ F.P (ù gs w kJ) (F.L+x)=(į<|ù gs' W kJ,u))(B:gs'.size=gs.size)(K:gs'[F.L+x]?=Â c)(M:c.status=É\/c.status=Ĉ)(O:∀k,k≠F.L+x->gs'[k]?=gs[k]?.map (ĩ F.P g c W))(Q:iB F.P F.S E.Y (fP S (F.L+x)<|JE F e) (fP tr (F.L+x) T) (fP m (F.L+x) .no) (gV f (F.L+x) {f (F.L+x)with w:=W}) gs' W (qJ++u))(X:TI F.toFx n zX E.r E.S.rl E.V E.e E.d E.K E.f (qJ++u))(q7:jm F E (gV f (F.L+x) {f (F.L+x)with w:=W}) gs'.size W)(hT:(∃N,e=.kl N)->T=.fS)(hP:Ps F (CJ E x e G la))(X9:(e.rk F).1<(a.rk F).1\/((e.rk F).1=(a.rk F).1/\(e.rk F).2<(a.rk F).2))(vN:E.N=.fT .lQ->E.b.sm=0->G.sm=0\/∀y,gs'[0]?=Â y->y.status≠í):lJ F n zX E tr gs w qJ kJ (F.L+x):=by
 have C:F.M F.C:=À U;refine⟨CJ E x e G la,_,_,_,_,gs',W,u,J,B,λh=>h,.r ?_ (B.trans p.b) Q ?_ (ahY z<|v.I H p.a p.C p.M C ⟨λ_=>z,λq=>absurd U q⟩ λk b=>⟨λq=>absurd q.symm<|H.C.M k b,λ_=>U⟩) hP (X.Y<|⟨λ_=>⟨a,d,s⟩,λ_=>D⟩) ?_ λj r b l o=>(p.f j r b l o).app u,?_⟩;have:=p.N.H (x:=x) H.C hT;exact⟨this.M,this.Y,this.I,this.C,this.r⟩;have:=q7.K (⟨λ_=>XK ⟨a,d,s⟩,λ_=>I⟩);exact⟨this.iH,this.o,this.nI,this.e,this.f,this.h,this.l,this.S,this.M,this.c,this.I,this.N,this.g,this.d⟩;refine p.c.yO (E':=CJ E x e G la) K (by obtain q|q:=M<;>rw[q]<;>simp) O (λj i=>v.C p.C C i) U U (λy i=>gi _ _ Z) (λ_=>U) (λ_ _=>U) (λ_ i j=>vN i j) λ_ _ _ _ h=>À h;have j:tH F E x=a.rk F:=by rw[tH,d]
 have:=EU (E:=E) (tr:=tr) (gs:=gs) (gs':=gs') (T:=T) H.C (p.H<|jE t) (by rwa[j]);obtain⟨i,b,l,o⟩|⟨b,_⟩:=this;exact À ⟨i,b,l,o⟩;exfalso;have:=b _<|p.H<|jE t;change(fO.ja E x e).G (fP tr (F.L+x) T) (F.L+x)=E.G tr (F.L+x)at this;rw[Lm H.C (E:=fO.ja E x e)<|ig _ _ _,Lm H.C d]at this;grind
theorem ahZ(h:V=#[lP<|gu F.C,oH<|gu F.C]\/V=#[lP<|gu F.C]\/V=#[oH<|gu F.C]\/V=Ż (iJ F.C)):∀e∈V,∀b,(â e).touch?=Â b->∃y:õ,b.loc=ď y/\y.block=F.C:=by
 intro e c b f;have:∃x:õ,x.block=F.C/\(e.loc=ď x\/e.loc=aB ó\/e.loc=aB ì):=by obtain rfl|rfl|rfl|rfl:=h;simp at c;obtain rfl|rfl:=c<;>exact⟨gu F.C,U,À U⟩;simp at c;subst c;exact⟨gu F.C,U,À U⟩;simp at c;subst c;exact⟨gu F.C,U,À U⟩;simp[Ż]at c;obtain rfl|rfl|rfl|rfl:=c;exact⟨iJ F.C,U,Á<|À U⟩;exact⟨iJ F.C,U,À U⟩;exact⟨iJ F.C,U,À U⟩;exact⟨iJ F.C,U,Á<|Á U⟩
 let⟨x,g,a⟩:=this;let⟨i,wr,d⟩:=e;obtain a|a|a:=a;simp only at a;subst a;have:(â ⟨ď x,wr,d⟩).touch?=Â ⟨ď x,wr,if d then .atomic else .plain⟩:=by cases wr<;>cases d<;>rfl
 grind;simp only at a;subst a;simp[â,ľ]at f;simp only at a;subst a;simp[â,ľ]at f
def HJ(p:PI F n zX E S tr m f gs w qJ)(a:F.L+i<gs.size)(c:(f<|F.L+i).d=1)(h:V=#[lP<|gu F.C,oH<|gu F.C]\/V=#[lP<|gu F.C]\/V=#[oH<|gu F.C]\/V=Ż (iJ F.C)): ∀y,E.K y->F.L+i=F.L+y->(∀e∈V,∀b,(â e).touch?=Â b->∃y:õ,b.loc=ď y/\y.block=F.C)/\Cu (Deaf qJ<|F.L+i) V:=by intro y _ _;refine⟨ahZ h,?_⟩;rw[p.I.r.f _ a,c];obtain rfl|rfl|rfl|rfl:=h;exact Ln.1;exact Ln.2.1;exact Ln.2.2.1;exact Ln.2.2.2
def PI.ah0(H:iL F)(p:PI F n zX E S tr m f gs w qJ){x:Nat}(i:x<E.r)(a:E.M x=Â (.gN .kv))(k:gs[F.L+x]?=Â g)(D:g.status=É)(G:tr (F.L+x)=.fS):lJ F n zX E tr gs w qJ kJ (F.L+x):=by
 have o:=jE k;have C:=p.I.r;let⟨I,_,g',c,d⟩:=p.EX i a k D G w<|C.r _ o;have s:=EW H.C x;have t:∀y:Ą,y.act=Ĝ (ğ<|gu F.C)->y.act.touch?=Ã:=λy b=>by rw[b];rfl
 let⟨T,J⟩:=j1 d;have u:=nh (λl g h=>À h.2.1) d;obtain⟨gs',y,K,M,O,v,P,Q,V,X⟩:=p.CG H .no k (by rw[s];exact c w) fD fD (λy b=>⟨λz l=>(by rw[t y b]at l;cases l),by rw[b];exact C.N _<|À<|À U⟩) (λy _ b=>Cm C.l λq j=>by rw[yS j];exact t y b) (by rwa[s]) u;have B:=p.d.ahi i K M ((C.f _ o).trans I) (λ⟨e,c,d⟩=>by rw[a]at c;cases c;exact d);refine⟨{fO.ja E x (.gN .jl)with f:=fP E.f x qJ.size},_,_,_,_,gs',w,#[y],O,v,λh=>h,.r ?_ (v.trans p.b) V ?_ (⟨p.M.C,p.M.I,p.M.kz,p.M.M,p.M.S,p.M.N⟩) ?_ ?_ ?_ λj r q W Y=>(p.f j r q W Y).app _,EU H.C (p.H o)<|À ?_⟩;have:=p.N.H (x:=x) (e:=.gN .jl) (T:=T) H.C (λ⟨N,h⟩=>by cases h);exact⟨this.M,this.Y,this.I,this.C,this.r⟩;have:=X.K (x:=x) (e:=.gN .jl) (⟨λ_=>⟨_,a,trivial⟩,λ_=>trivial⟩);exact⟨this.iH,this.o,this.nI,this.e,this.f,this.h,this.l,this.S,this.M,this.c,this.I,this.N,this.g,this.d⟩;have h:=p.C.ja (x:=x) (e:=.gN .jl) i (by rw[a];rfl) (λq h W=>by rw[a]at h;cases h;exact⟨fD,fD,fD⟩) (λq h W=>by cases h;exact⟨fD,fD,fD⟩) (λj h=>p.C.l j Z<|by rw[<-h,a];simp) (λh=>p.C.f<|by rw[<-h,a];simp);exact⟨h.v,h.C,h.K,h.L,h.J,h.I,h.z,h.d,h.l,h.f,h.h,h.M,h.o,h.t,h.g,h.u,h.N,h.B,h.e,h.Y,h.w,h.H,h.O,h.S,h.y,h.D⟩;refine{B with jq:=λz l j=>B.jq z l ?_};by_cases q:z=x;exact Á q;exact À<|(X4 q).1 j;refine p.c.yO (E':={fO.ja E x (.gN .jl)with f:=fP E.f x qJ.size}) P (by obtain q|q:=u<;>rw[q]<;>simp) Q (λ_ _=>U) U U (λy b=>gi _ _ Z) (λ_=>U) (λ_ _=>U) (λ_ _ h=>À h) λ_ _ _ _ h=>À h;rw[tH,a];simp only[iW.rk,kI.rk];omega
end
section
variable{F:Ph}{E J:gE F}{S:Nat->Jd}{o K:Nat->gW}{G:Nat->jc}{B:Nat->fx}{m I:Array Ç}{u:ï}
def Ya{N:Nat}{l:fx}(h:σ P N l.d g):mG P Æ (ri P N) .fS l g:=λ_ _=>h
def Yb(a:Ps F E):E.r<=E.N.ad F.n:=by unfold gE.r;cases E.N<;>simp only[gH.sp,gH.ad]<;>omega
theorem HM(b:Ps F E){e:iW}(d:i<E.r):Ô (F.n+1) (fO.ja E i e).H+nP (E.M i)=Ô (F.n+1) E.H+e.mH:=by
 have g:=Yb b;have h:=EL b;have:=yP (f:=E.H) (f':=(fO.ja E i e).H) (j:=i) (n:=F.n+1) Z (λa c=>by unfold gE.H;show(if a<E.N.ad F.n then nP (fP E.M i (Â e) a)else 0)=_;rw[gi _ _ c]);have a:E.H i=nP (E.M i):=by rw[gE.H,if_pos Z]
 have c:(fO.ja E i e).H i=e.mH:=by unfold gE.H;show(if i<E.N.ad F.n then nP (fP E.M i (Â e) i)else 0)=_;rw[if_pos Z,ig];rfl
 grind
theorem Yc(a:Ps F E)(h:E.b=.cl i n):∀y p,E.M y=Â (.gN p)->∀W,p≠ .ij W/\p≠ .jN W/\p≠ .jd W:=by intro y p b W;let⟨d,e⟩:=a.N y p b;grind
theorem Qb(a:Ps F E)(h:E.g=Â i):∀y,y≠i->∀p,E.M y=Â (.gN p)->∀W,p≠ .ij W/\p≠ .jN W/\p≠ .jd W:=by intro y c p b W;let⟨d,e⟩:=a.N y p b;grind
theorem PI.ah1(H:iL F)(p:PI F n zX E S o G B m w qJ)(t:i<E.r)(v:E.M i=Â (.gN .jl))(K:m[F.L+i]?=Â g)(jh:g.status=É)(ht:o (F.L+i)=.fS):lJ F n zX E o m w qJ kJ (F.L+i):=by
 have avP:1<=Ô (F.n+1) E.H:=by
  have h1:=Yb p.C;have h2:=EL p.C;have:=PU (f:=E.H) (j:=i) (n:=F.n+1) Z;have e1:E.H i=1:=by rw[gE.H,if_pos Z,v];rfl
  omega
 obtain⟨c,d,hc⟩:∃c d,E.b=.cl (c+1) d:=by
  cases l:E.b with
  |cl c d=>
   have:=(p.C.t c d l).1;exact⟨c-1,d,by congr 1;omega⟩|ky d=>have:=(p.C.g d l).1;omega|iK r s=>have:=(p.C.u r s l).1;omega
 obtain⟨Lw,ah2⟩:=p.C.t _ _ hc;have Lx:¬(E.N=.fT .ij\/E.N=.fT .na\/E.N=.gN):=λq=>by have:=p.C.B q;omega
 have M:=jE K;have C:=p.I.r;obtain⟨hd,_,CK⟩:=p.EX t v K jh ht w<|C.r _ M;have mc:=EW H.C i;have Q:F.M F.C:=À U;have AI:=hc▸p.M.C;obtain⟨ev,V⟩:=AI.jq;have key:=CK (GS.cl (c+1) d).st;rw[ev]at key V;obtain⟨k,O⟩:∃k,(GS.jq<|.cl (c+1) d).st=k:=⟨_,U⟩;rw[O]at key;obtain⟨g',h1,h2⟩:=key;have X:=h1 w AI.C AI.M;rw[<-O]at X;obtain⟨k1,k2,k3⟩:=AI.r;have z:lZ F.C w (w.setCell (gu F.C)<|Û Ï (GS.jq<|.cl (c+1) d).st):=Á ⟨_,_,À U,U⟩;have D:=z.r p.a H.C Q;have AO:gd {B (F.L+i)with w:=w} w (w.setCell (gu F.C)<|Û Ï (GS.jq<|.cl (c+1) d).st):=⟨cZ D.r.symm,λb lL=>D.lB b<|C.I _ M b lL,λa ha=>D.M _ M a ha,λa ha=>D.N _ M a ha,λa _=>D.I a⟩;by_cases hl:c=0/\0<d;have ed:GS.jq (.cl (c+1) d)=.ky d:=by simp only[GS.jq,if_pos hl]
 rw[ed]at X V z D AO O;have hW:fF F.P Æ (Lc F.P Æ F.C (Hg F) d) {B (F.L+i)with w:=w} g':=by
  have e0:k=(d:Int):=O.symm;have e1:¬(k=0\/(gK<=k/\k<1000000*gK/\k%gK<1000000)):=by simp only[gK];omega
  grind
 obtain⟨T,hT⟩:=j1<|hW.mF AO;have Y:=nh (λl g h=>À h.2.1) hW;obtain⟨I,u,l,J,q3,q4,q5,q6,q7⟩:=p.Y H .no K (Hw t) Q (by rwa[mc]) z (Cv Q) U (HJ p M hd<|À U) (by rwa[mc]) Y;have AP:=HM p.C (e:=.gN (.ij d)) t;rw[v]at AP;refine p.Hz H (e:=.gN (.ij d)) (la:=Â i) t v trivial trivial trivial K z V l J q3 Y q4 q5 q6 q7 (λ⟨N,h⟩=>by cases h) (p.C.Hx t ⟨_,v⟩ (λy _ p' hy W=>Yc p.C hc y p' hy W) (λc' HO h=>by cases h) (λHO h=> ?_) (λr s h=>by cases h) (λp' h=> ?_) (λq=>absurd q Lx) (λq=>absurd (À q) Lx) λl J=> ?_) (À ?_) λ_ _=>À rfl;injection h with h;subst h;exact⟨(by simp only[nP,iW.mH,kI.mH]at AP;omega),ah2,U,À U⟩;grind;obtain⟨c',h'⟩:=p.C.S l J;grind;simp only[iW.rk,kI.rk];grind;have ed:GS.jq (.cl (c+1) d)=.cl c d:=by simp only[GS.jq,if_neg hl]
 rw[ed]at X V z D AO O;obtain⟨N,T⟩:Hg F {B (F.L+i)with w:=w} g':=by
  have e0:k=(c:Int)*gK+(d:Int):=O.symm;have e1:k=0\/(gK<=k/\k<1000000*gK/\k%gK<1000000):=by simp only[gK]at e0|-;omega
  grind
 have Y:=T.status;obtain⟨I,u,l,J,q3,q4,q5,q6,q7⟩:=p.Y H .no K (Hw t) Q (by rwa[mc]) z (Cv Q) U (HJ p M hd<|À U) (by rw[mc];exact Ya T) Y;have AP:=HM p.C (e:=.kl N) t;rw[v]at AP;have hz:Ô (F.n+1) (fO.ja E i<|.kl N).H=c:=by simp only[nP,iW.mH,kI.mH]at AP;omega
 refine p.Hz H (e:=.kl N) (la:=E.g) t v trivial trivial trivial K z V l J q3 Y q4 q5 q6 q7 (λ_=>U) (p.C.Hx t ⟨_,v⟩ (λy _ p' hy W=>Yc p.C hc y p' hy W) (λc' HO h=> ?_) (λHO h=>by cases h) (λr s h=>by cases h) (λp' h=>by cases h) (λq=>absurd q Lx) (λq=>absurd (À q) Lx) λl J=> ?_) (À ?_) λ_ _=>À rfl;grind;obtain⟨c',h'⟩:=p.C.S l J;grind;simp only[iW.rk,kI.rk];omega
theorem PI.ah3(H:iL F)(p:PI F n zX E S o G B m w qJ)(c:i<E.r)(d:E.M i=Â (.gN (.ij j)))(f:m[F.L+i]?=Â g)(M:g.status=É)(O:o (F.L+i)=.fS):lJ F n zX E o m w qJ kJ (F.L+i):=by
 have y:=jE f;let⟨P,_,Q⟩:=p.EX c d f M O w<|(p.I.r).r _ y;have z:=EW H.C i;have C:F.M F.C:=À U;let⟨V,k⟩:=(p.C.N i _ d).1 j<|À U;have D:=k▸p.M.C;let⟨g',X,t⟩:=Q (j:Int);simp only[if_true]at t;let⟨T,Y⟩:=j1 t;have J:=nh (λl g h=>À h.2.1) t;obtain⟨I,u,l,v,q3,q4,q5,q6,q7⟩:=p.Y H .no f (Hw c) C (by rw[z];exact X w D.C) (À U) (AG C) U (HJ p y P<|Á<|À U) (by rwa[z]) J;have K:=HM p.C (e:=.gN (.jN j)) c;rw[d]at K;let⟨b1,b2,_⟩:=p.C.g j k;have hz:Ô (F.n+1) (fO.ja E i<|.gN (.jN j)).H=0:=by simp only[nP,iW.mH,kI.mH]at K;omega
 refine p.Hz H (e:=.gN (.jN j)) (la:=E.g) c d trivial trivial trivial f (À U) D l v q3 J q4 q5 q6 q7 (λ⟨N,h⟩=>by cases h) (p.C.Hx c ⟨_,d⟩ (Qb p.C V) (λc' a h=>by cases h) (λa h=> ?_) (λr s h=>by cases h) (λa h=> ?_) (λ_=>hz) (λq=> ?_) λl v=> ?_) (À ?_) λ_ h=>À rfl;grind;grind;let⟨a,b,h⟩:=p.C.O q;rw[k]at h;cases h;let⟨c',a⟩:=p.C.S l v;grind;simp only[iW.rk,kI.rk];omega
theorem PI.ah4(H:iL F)(p:PI F n zX E S o G B m w qJ)(c:i<E.r)(d:E.M i=Â (.gN (.jN j)))(k:m[F.L+i]?=Â g)(O:g.status=É)(P:o (F.L+i)=.fS):lJ F n zX E o m w qJ kJ (F.L+i):=by
 have f:=jE k;have C:=p.I.r;let⟨Q,_,g',V,z⟩:=p.EX c d k O P w<|C.r _ f;have J:=EW H.C i;have v:F.M F.C:=À U;let⟨X,K⟩:=(p.C.N i _ d).1 j<|Á U;have t:=K▸p.M.C;have HQ:=t.r.1;have y:lZ F.C w (w.setCell (gu F.C)<|Û Ï 0):=Á ⟨_,_,À U,U⟩;have D:=y.r p.a H.C v;let⟨T,Y⟩:=j1 (z.mF ⟨cZ D.r.symm,λb l=>D.lB b<|C.I _ f b l,λa h=>D.M _ f a h,λa h=>D.N _ f a h,λa _=>D.I a⟩);have M:=nh (λl g h=>by
  cases j with|zero=>omega|succ j=>exact À h.2.1) z
 obtain⟨I,u,a,b,q3,q4,q5,q6,q7⟩:=p.Y H .no k (Hw c) v (by rw[J];exact V w _ t.C t.M) y (XT v) U (HJ p f Q<|Á<|Á<|À U) (by rwa[J]) M;have l:=HM p.C (e:=.gN (.jd j)) c;rw[d]at l;let⟨b1,b2,_⟩:=p.C.g j K;have hz:Ô (F.n+1) (fO.ja E i<|.gN (.jd j)).H=0:=by simp only[nP,iW.mH,kI.mH]at l;omega
 refine p.Hz H (e:=.gN (.jd j)) (la:=E.g) c d trivial trivial trivial k y t.XG a b q3 M q4 q5 q6 q7 (λ⟨N,h⟩=>by cases h) (p.C.Hx c ⟨_,d⟩ (Qb p.C X) (λc' q h=>by cases h) (λq h=>by cases h) (λr s h=> ?_) (λq h=> ?_) (λ_=>hz) (λq=>⟨j,0,rfl⟩) λa b=> ?_) (À ?_) λ_ h=>À rfl;grind;cases h;simp_all;let⟨c',q⟩:=p.C.S a b;grind;simp only[iW.rk,kI.rk];omega
def Yd(p:PI F n zX E S o G B m w qJ){a y:Ç}(d:mayWake F.P g=Ê)(f:a.status=É)(i:m[k]?=Â y)(j:G k=.jd):(ĩ F.P g a W y).status≠í:=by
 intro h;let⟨e,l⟩:=Hk h;let⟨g0,_,b,c,_⟩:=p.I.C k y i;rw[j]at b;cases b with
 |gS=>rw[l]at c;obtain q|q:=c<;>cases q
 |qz r q=>
  unfold ĩ at h;rw[if_pos (by simp[d,f])]at h;unfold Ī at h;simp only[q]at h;cases h
def PI.ah5(H:iL F)(p:PI F n zX E S o G B m w qJ)(c:i<E.r)(d:E.M i=Â (.gN (.jd j)))(k:m[F.L+i]?=Â g)(jh:g.status=É)(ht:o (F.L+i)=.fS):lJ F n zX E o m w qJ kJ (F.L+i):=by
 have f:=jE k;have C:=p.I.r;let⟨hr0,J,s,K⟩:=(p.C.N i _ d).2 j U;obtain⟨j,rfl⟩:∃M,j=M+1:=⟨j-1,Z⟩;let⟨hd,_,H0,g',O,h1,h2⟩:=p.EX c d k jh ht w<|C.r _ f;have mc:=EW H.C i;have Q:F.M F.C:=À U;have V:=K▸p.M.C;have W:lZ F.C w (w.setCell (iJ F.C)<|Û è<|è.wrap<|(GS.iK (j+1) s).sm+1):=Á ⟨_,_,Á U,U⟩;have D:=W.r p.a H.C Q;let⟨b1,b2,_⟩:=p.C.u _ _ K;obtain⟨e,T,hF,X,AQ,he3,Ye⟩:∃(e:iW)(T:gW),mG F.P Æ (JE F e) T {B (F.L+i)with w:=w.setCell (iJ F.C) (Û è<|è.wrap<|(GS.iK (j+1) s).sm+1)} g'/\(e.rR/\e.qg/\e.mH=0)/\((∃N,e=.kl N)->T=.fS)/\((e.rk F).1<((iW.gN<|.jd (j+1)).rk F).1)/\((j=0/\∃N,e=.kl N)\/(0<j/\e=.gN (.jd j))):=by
  cases j with
  |zero=>
   obtain⟨N,hN⟩:Hg F {B (F.L+i)with w:=w} g':=h2;exact⟨.kl N,.fS,Ya hN,⟨trivial,trivial,U⟩,λ_=>U,by simp only[iW.rk,kI.rk];omega,À ⟨U,N,U⟩⟩|succ j=>
   let⟨T,hT⟩:=j1 (h2.mF ⟨cZ D.r.symm,λb lL=>D.lB b<|C.I _ f b lL,λa Y=>D.M _ f a Y,λa Y=>D.N _ f a Y,λa _=>D.I a⟩);have XX:j+1+1+s<=1:=by rw[b2];cases E.N<;>simp only[gH.ik]<;>first|omega|(rename_i v;cases v<;>simp[km.uH])
   omega
 obtain⟨I,u,q1,q2,q3,q4,q5,q6,q7⟩:=p.Y H .no k (Hw c) Q (by rw[mc];exact h1 w _ V.I V.N) W (Hn Q) (Ho _).2.2.2 (HJ p f hd<|Á<|Á<|Á U) (by rwa[mc])<|À O;have AP:=HM p.C (e:=e) c;rw[d,X.2.2]at AP;have hz:Ô (F.n+1) (fO.ja E i e).H=0:=by simp only[nP,iW.mH,kI.mH]at AP;omega
 refine p.Hz H (la:=E.g) c d trivial X.1 X.2.1 k W V.kv q1 q2 q3 (À O) q4 q5 q6 q7 AQ (p.C.Hx c ⟨_,d⟩ (Qb p.C J) (λc' HO h=>by cases h) (λHO h=>by cases h) (λM s' h=> ?_) (λp' h=> ?_) (λ_=>hz) (λq=>⟨j,s+1,rfl⟩) λq1 q2=> ?_) (À he3) λhm _=>Á λy hy=> ?_;injection h with h l;subst h l;refine⟨hz,Z,λhr=>⟨J,?_⟩⟩;obtain⟨q,_⟩|⟨_,q⟩:=Ye;omega;exact q;subst h;obtain⟨_,N,q⟩|⟨hr,q⟩:=Ye;cases q;cases q;exact⟨λW' t=>(by obtain t|t:=t<;>cases t),λM qW=>by cases qW;exact⟨hr,J,s+1,U⟩⟩;let⟨c',l⟩:=p.C.S q1 q2;rw[K]at l;cases l;have h0:(0:Nat)≠F.L+i:=by have:=H.C.r;omega
 rw[q4 0 h0]at hy;obtain⟨z,uK,rfl⟩:=æ.1 hy;exact Yd p H0 O uK<|by rw[p.h.2,hm];rfl
end
section
variable{F:Ph}{E E':gE F}{S:Nat->Jd}{f D:Nat->gW}{o:Nat->jc}{v:Nat->fx}{l z:Array Ç}{u:ï}
def CL(ok:F.Ok):(F.L==0)=Æ:=by have:=ok.r;simp;omega
def EY(h:0<E.r):AF E F.L:=Á ⟨0,h,U⟩
def EZ(b:E.M 0=Ã):∀x,E.K x->F.L=F.L+x->False:=λx ⟨e,a,_⟩ h2=>by have:x=0:=Z;subst this;rw[b]at a;cases a
def PI.CM(p:PI F n zX E S f o v l w qJ)(b:0<E.r)(c:E.M 0=Ã)(d:l[F.L]?=Â g)(e:g.status=É)(h:f F.L=.fS):∀a,gd (v F.L) (v F.L).w a->JI F E.c E.S {v F.L with w:=a} g:=by let⟨j,i⟩:=p.m b c;intro a r;have:=p.I.N d e h (À i) a r;simp_all
theorem sM.G(h:sM F E S f o)(ok:F.Ok){ip:ko}{sg:Nat->F.γ}{T:gW}(c:E.M 0=Ã):sM F {E with S:=ip,c:=sg} (fP S F.L<|JI F sg ip) (fP f F.L T) (fP o F.L .no):=by
 have:=ok.r;refine⟨by rw[gi S _ Z,gi o _ Z];exact h.M,λa b=>by rw[ig,ig];exact⟨U,U⟩,λj a b=>by rw[gi S _ Z,gi o _ Z];exact h.I j a b,λy e a b=> ?_,λi a b=>by rw[gi S _ Z,gi o _ Z,gi f _ Z];exact h.r i a b⟩;have d:y≠0:=λq=>by grind
 rw[gi S _ Z,gi o _ Z,gi f _ Z];exact h.C y e a b
theorem Ly(ok:F.Ok){T:gW}(b:F.L<F.N)(i:E.M 0=Ã)(c:E'.M=E.M)(d:E'.N=E.N)(e:E'.h=E.h)(g:E'.C=E.C)(h:E'.S.rk F<E.S.rk F):rj F.N (E'.mu (fP f F.L T) z) (E.mu f l):=by refine Hl b (À ?_) λk a=>AE (λ_=>by rw[d]) (λ_ _=>by rw[e]) (λ_=>by rw[c]) (λq=>absurd q a) (λ_ _=>by rw[g])<|gi f _ a;grind [XP]
theorem Qd(B:fy F E l w)(i:E'.N=E.N)(b:E'.r=E.r)(c:E'.M=E.M)(m:E'.C=E.C)(n:E'.I=E.I)(o:E'.b=E.b)(p:E'.a=E.a):fy F E' l w:=by intro k y d e;obtain⟨q,a,f⟩|⟨j,g,h,a,f⟩:=B k y d e;grind;refine Á ⟨j,by rwa[b],by rwa[c],a,?_⟩;grind
theorem Ps.Lz(h:Ps F E){ip:ko}{G:GS}(i:E.M 0=Ã)(x:0<E.r)(l:∀c,(ip=.lY c->c<=F.m)/\(ip=.mk c->1<=c/\c<=F.m)/\∀p,ip=.dn c p->1<=c/\c<=F.m)(o:∀c,1<=c->c<=F.m->ip.od<c->fP E.a k G c=.cl 1 (Ô F.n λj=>(E.C j).ik F j c))(t:∀c,c<=F.m->c<=ip.od->(∃W,(ip=.dn c (.ij W)\/ip=.dn c (.jN W))/\fP E.a k G c=.ky W/\W=Ô F.n λj=>(E.C j).ik F j c)\/(∃r s,ip=.dn c (.jd r)/\0<r/\fP E.a k G c=.iK r s/\r+s=Ô F.n λj=>(E.C j).ik F j c)\/((∀p,ip≠ .dn c p)/\((fP E.a k G c=.cl 0 0/\(Ô F.n λj=>(E.C j).ik F j c)=0)\/∃s,fP E.a k G c=.iK 0 s/\s=Ô F.n λj=>(E.C j).ik F j c)))(u:E.S.od<=ip.od)(v:(∃a b,E.a k=.iK a b)->∃a b,G=.iK a b)(y:G=.cl 1 0->E.d k=Ã){sg:Nat->F.γ}{V:Nat->Nat->Prop}(w:V 0=F.i){pk:Nat->Nat}:Ps F {E with S:=ip,a:=fP E.a k G,c:=sg,V:=V,e:=pk}:=by refine⟨w,h.C,h.K,h.L,λq=> ?_,l,h.z,h.d,h.l,λq=>absurd i q,h.h,h.M,h.o,h.t,h.g,h.u,h.N,h.B,o,t,λj r d f=>Ð (h.w j r d f) u,λj r d f=> ?_,h.O,h.S,λc d f=> ?_,h.D⟩;have:E.r=0:=q;omega;have:=h.H j r d f;show∃a b,fP E.a k G _=_;by_cases e:F.r (j+r*F.n)=k;rw[e]at this|-;rw[ig];exact v this;grind [gi];have g:fP E.a k G c=.cl 1 0:=f;by_cases e:c=k;grind [ig];rw[gi _ _ e]at g;exact h.y c d g
def PI.ah6(H:iL F)(p:PI F n zX E S f o v l w qJ)(D:0<E.r)(u:E.M 0=Ã)(I:l[F.L]?=Â g)(M:g.status=É)(ht:f F.L=.fS)(t:E.S=.lY k):tF F n zX E f l w qJ:=by
 have B:=jE I;have C:=p.I.r;have O:=p.CM D u I M ht w<|C.r _ B;rw[t]at O;have Yf:=(p.C.I k).1 t;have X:=CL H.C;have AJ:jD F.S (λi=>i<l.size) E.Y (gV v F.L {v F.L with w:=w}) w qJ:=C.C B (λ_ q=>q) (λb q=>À<|Á q) (λ_ q=>q) (λa q=>À<|Á q) U U U (C.m _ B)<|C.g _ B;have Yg:=p.a.C (i:=F.L) (d:=(v F.L).d) (w0:=w)<|eE _;have z:E.S.md=k:=by rw[t];rfl
 by_cases Cy:k<F.m;let⟨H7,CN⟩:=p.M.M k (by rw[z];exact eE _);let⟨r1,r2⟩:=p.a.f D u;rw[z]at r1 r2;let⟨o1,o2⟩:=p.a.e D (k+1) (by rw[z];omega) Cy;let⟨T,P⟩:=j1<|H.e k _ _ _ g Cy O (C.M B) H7 CN r2 r1 o1 o2 E.c U;have Q:=p.I.M (J:=JI F E.c<|.mk (k+1)) (T:=T) (K:=.no) I (À M) AJ (by rwa[X]);have y:fP E.a 0 (E.a 0)=E.a:=by funext j;unfold fP;split<;>simp[*]
 refine⟨{E with S:=.mk (k+1)},_,_,_,_,λh=>h,.r (p.N.G H.C (sg:=E.c) u) p.b Q ?_ ?_ ?_ ?_ (Qd p.c U U U U U U U) p.f,Ly H.C (p.H B) u U U U U ?_⟩;have L:=Yg;exact⟨L.iH,L.o,L.nI,λa e b c=>L.e a e (by rwa[z]) c,λa b=>by have:=L.f a b;rwa[z]at this,L.h,L.l,L.S,L.M,L.c,λe b=>L.I e (by rwa[z]),λe b=>L.N e (by rwa[z]),λe a b=>L.g e a (by rwa[z]),L.d⟩;have W:=p.M;exact⟨W.C,W.I,W.kz,λe b=>W.M e (by rwa[z]),λe a b=>W.S e a (by rwa[z]),W.N⟩;have:=p.C.Lz (k:=0) (ip:=.mk (k+1)) (G:=E.a 0) (sg:=E.c) (V:=E.V) (pk:=E.e) u D (λe=>⟨λq=>(by cases q),λq=>(by cases q;exact⟨Z,Z⟩),λp q=>by cases q⟩) (λe a b c=> ?_) (λe a b=> ?_) (by rw[t];exact eE _) id (λq=>p.C.y 0 (eD _) q) p.C.v;rwa[y]at this;rw[y];exact p.C.e e a b (by rwa[t]);rw[y];obtain⟨W,q,_⟩|⟨r,s,q,_⟩|q:=p.C.Y e a (by rwa[t]);rw[t]at q;obtain q|q:=q<;>cases q;rw[t]at q;cases q;exact Á (Á ⟨λp q=>(by cases q),q.2⟩);have:E.S.rl=(ko.mk<|k+1).rl:=by rw[t];rfl
 have a:=p.d;rwa[this]at a;rw[t];simp only[ko.rk];have:F.m+3-(k+1)=F.m+2-k:=Z;rw[this];omega;have q:k=F.m:=Z;subst q;let⟨T,P⟩:=j1<|H.f _ g O<|C.M B;have Q:=p.I.M (J:=JE F .qA) (T:=T) (K:=.no) I (À M) AJ (by rwa[X]);have s:¬E.K 0:=λ⟨e,a,_⟩=>by rw[u]at a;cases a
 have W:¬E.qg 0:=λ⟨e,a,_⟩=>by rw[u]at a;cases a
 refine⟨fO.ja E 0 .qA,_,_,_,_,λh=>h,.r (p.N.H (x:=0) H.C λ⟨N,h⟩=>by cases h) p.b Q (Yg.K ⟨λh=>h.elim,λh=>(W h).elim⟩) p.M.K (p.C.ja D (by rw[u];rfl) (λb h=>by rw[u]at h;cases h) (λb h=>by cases h) (λj h=>by omega) λ_=>t) (p.d.Y ⟨λh=>h.elim,λh=>(s h).elim⟩) (Qa p.c λk y b c e=> ?_) p.f,EU H.C (p.H B)<|À ?_⟩;subst e;rw[dm,I]at b;obtain rfl:=dh b;rw[M]at c;cases c;rw[tH,u];simp only[iW.rk,if_true,t,ko.rk];have:F.m+2-F.m=2:=Z;rw[this];omega
end
section
variable{F:Ph}{E E':gE F}{S:Nat->Jd}{o D:Nat->gW}{v:Nat->jc}{d:Nat->fx}{f B:Array Ç}{u:ï}
def Yh(ok:F.Ok)(a:k<=F.m):jS F.toFx k≠j4 F i:=λe=>ok.C (by
 have:F.I k=F.Y:=by injection e
 rw[<-this];exact Á ⟨k,a,U⟩)
def ah7(ok:F.Ok)(a:k<=F.m)(b:i<=F.m)(h:jS F.toFx k=jS F.toFx i):k=i:=ok.S k i a b<|by injection h
def ah8(h:j4 F i=j4 F n):i=n:=by injection h
theorem PI.ah9(H:iL F)(p:PI F n zX E S o v d f w qJ)(h0:0<E.r)(he:E.M 0=Ã)(hi:f[F.L]?=Â g)(jh:g.status=É)(ht:o F.L=.fS)(B:E.S=.mk k):tF F n zX E o f w qJ:=by
 have y:=jE hi;have C:=p.I.r;have hJ:=p.CM h0 he hi jh ht w<|C.r _ y;rw[B]at hJ;let⟨k1,N⟩:=(p.C.I k).2.1 B;have D:E.S.md=k-1:=by rw[B];rfl
 let⟨M,z,hn,CN,Yi,CH,hdone⟩:=hJ;let⟨o1,o2⟩:=p.a.e h0 k (by rw[D];omega) N;have AJ:jD F.S (λi=>i<f.size) E.Y (gV d F.L<|rV F {d F.L with w:=w} k) w qJ:=by refine C.C y (λ_ q=>q.elim) (λb q=>À q) (λ_ q=>q.1) (λa q=> ?_) U U U (λ_ q=>q.elim) λa c q=> ?_;obtain q|rfl|rfl:=q;exact À<|Á q;exact À<|À o2;exact À<|À o1;obtain q|q|q:=q;exact C.g _ y a c.1 q;exact c.2.1 q;exact c.2.2 q
 have hF:mG F.P (F.L==0) (JI F (fP E.c k M)<|.dn k .kv) .fS (rV F {d F.L with w:=w} k) g:=by rw[CL H.C];intro J s;let⟨Q,X,W,a3,e⟩:=hdone;exact⟨Q,X,W,a3,e.mF s⟩
 have hG:fP E.a 0 (E.a 0)=E.a:=by funext j;unfold fP;split<;>simp[*]
 have Vn:∀l,l≠k->fP E.V k z l=E.V l:=λl h=>gi _ _ h;have Vs:fP E.V k z k=z:=ig _ _ _;refine⟨{E with S:=.dn k .kv,c:=fP E.c k M,V:=fP E.V k z},_,_,_,_,λh=>h,.r ?_ p.b (p.I.M (K:=.no) hi (À jh) AJ hF) ?_ ?_ ?_ ?_ (Qd p.c U U U U U U U) p.f,Ly H.C (p.H y) he U U U U ?_⟩;have:=p.N.G (ip:=.dn k .kv) (sg:=fP E.c k M) (T:=.fS) H.C he;exact⟨this.M,this.Y,this.I,this.C,this.r⟩;have L:=p.a;have G:(gV d F.L<|rV F {d F.L with w:=w} k) F.L=rV F {d F.L with w:=w} k:=iI _ _ _;have W:∀i,i≠F.L->(gV d F.L<|rV F {d F.L with w:=w} k) i=d i:=λi h=>iq d _ h;have Yj:(0:Nat)≠F.L:=by have:=H.C.r;omega
 have Qe:∀i a,(gV d F.L (rV F {d F.L with w:=w} k) i).r a->(d i).r a:=λi a h=>by by_cases q:i=F.L;subst q;rw[G]at h;exact h.1;grind
 have sO:∀i b,(gV d F.L (rV F {d F.L with w:=w} k) i).O b->(d i).O b/\i≠F.L:=λi b h=>by by_cases q:i=F.L;subst q;rw[G]at h;exact h.elim;grind
 have nOc:∀i,i<f.size->∀a,(a=j4 F (F.b k)\/a=jS F.toFx k)->¬(gV d F.L (rV F {d F.L with w:=w} k) i).r a:=λi s a c h=>by by_cases q:i=F.L;subst q;rw[G]at h;obtain c|c:=c;exact h.2.1 c;exact h.2.2 c;rw[W i q]at h;refine C.h i F.L s y q a h<|À ?_;grind
 refine⟨λi s a c=> ?_,λx t u a c=>by rw[W 0 Yj];exact L.o x t u a c,λh=>by rw[W 0 Yj];exact L.nI h,λh l t u=> ?_,λh AN=> ?_,λj hj AN r hr t=>by rw[W _ Z];exact L.h j hj AN r hr t,λj hj AN=>by rw[W _ Z];exact L.l j hj AN,λx CI=> ?_,λi s=> ?_,λi t u=>by rw[W i Z];exact L.c i t u,λl I b hb=> ?_,λl I i s h=> ?_,λl t u i s h=> ?_,λj hj r hr t i s h=>L.d j hj r hr t i s<|Qe _ _ h⟩;by_cases q:i=F.L;subst q;rw[G]at c;obtain q|q|q|q:=c;exact L.iH _ y a<|À q.1;exact L.iH _ y a<|Á q;exact Á ⟨_,H.C.Y.1 _ Z Z,q⟩;grind;rw[W i q]at c;exact L.iH i s a c;rw[G];have CR:k<l:=t;let⟨J,q2⟩:=L.e h l (by rw[D];omega) u;exact⟨⟨J,Yh H.C u,λe=>by have:=ah7 H.C u N e;omega⟩,⟨q2,λe=>by have:=H.C.pi l k Z u k1 N<|ah8 e;omega,λe=>Yh H.C N e.symm⟩⟩;rw[G];show(rV F _ k).N (jS F.toFx k)/\∀b,fP E.V k z k b->(rV F _ k).I b;rw[Vs];exact⟨Á<|Á U,Yi⟩;have:F.L+x≠F.L:=λq=>by have J:x=0:=Z;subst J;let⟨e,t,_⟩:=CI;grind
 rw[W _ this];exact L.S x CI;by_cases q:i=F.L;subst q;rw[G];exact L.M _ s;rw[W _ q];exact L.M i s;have ni:l<=k:=I;by_cases q:l=k;subst q;have J:fP E.V l z l b:=hb;rw[Vs]at J;have hM:=Yi b J;refine⟨C.fM _ y b hM,C.I _ y b hM,λi s h=> ?_⟩;let⟨Q,X⟩:=sO i b h;exact C.o i F.L s y X b Q hM;have J:fP E.V k z l b:=hb;rw[Vn l q]at J;let⟨Q,X,a3⟩:=L.I l (by rw[D];omega) b J;exact⟨Q,X,λi s h=>a3 i s (sO i b h).1⟩;have ni:l<=k:=I;by_cases q:l=k;grind;exact L.N l (by rw[D];omega) i s<|Qe _ _ h;have ni:l<=k:=u;by_cases q:l=k;grind;exact L.g l t (by rw[D];omega) i s<|Qe _ _ h;have W:=p.M;refine⟨W.C,W.I,W.kz,λl I=> ?_,λl t I=> ?_,W.N⟩;have ni:l<=k:=I;show oW F l (fP E.c k M l)/\F.d l (fP E.c k M l) (fP E.V k z l) w;by_cases q:l=k;subst q;rw[ig,ig];refine⟨?_,CN⟩;have:=(W.M (l-1)<|by rw[D];exact eE _).1;have u:=oW.EI this hn;grind;rw[gi _ _ q,gi _ _ q];exact W.M l (by rw[D];omega);have ni:l<=k:=I;by_cases q:l=k;subst q;exact CH;exact W.S l t<|by rw[D];omega
 .have:=p.C.Lz (ip:=.dn k .kv) (sg:=fP E.c k M) (V:=fP E.V k z) (pk:=E.e) he h0 (λl=>⟨λq=>(by cases q),λq=>(by cases q),λp q=>by cases q;exact⟨k1,N⟩⟩) (λl a b c=> ?_) (λl a b=> ?_) (by rw[B];exact eE _) id (λq=>p.C.y 0 (eD _) q) (by rw[Vn 0 Z];exact p.C.v);grind;rw[hG];exact p.C.e l a b (by rwa[B]);rw[hG];have J:l<=k-1:=b;obtain⟨W,q,_⟩|⟨r,s,q,_⟩|q:=p.C.Y l a (by rwa[B]);all_goals grind
 have c:=p.d;have e:E.S.rl=k-1:=by rw[B];rfl
 rw[e]at c;refine{c with C:=λl a b x CI=> ?_};have J:l<=k-1:=b;refine c.C l a b x (CI.imp (λq=> ?_) id);rwa[<-Vn l Z];rw[B];simp only[ko.rk,kI.rk];have:F.m+3-k=(F.m+2-k)+1:=Z;grind [Ř]
theorem PI.aia(H:iL F)(p:PI F n zX E S o v d f w qJ)(x:0<E.r)(m:E.M 0=Ã)(D:f[F.L]?=Â g)(jh:g.status=É)(ht:o F.L=.fS)(e:E.S=.dn k .kv):lJ F n zX E o f w qJ kJ F.L:=by
 have t:=jE D;have C:=p.I.r;have I:=p.CM x m D jh ht w<|C.r _ t;rw[e]at I;let⟨k1,J⟩:=(p.C.I k).2.2 _ e;have K:=CL H.C;let⟨hd,_,g',h1,M⟩:=I;have N:∀y:Ą,y.act=Ĝ (ğ<|gu<|F.I k)->y.act.touch?=Ã:=λy i=>by rw[i];rfl
 let⟨T,hT⟩:=j1 M;have O:=nh (λl g h=>À h.2.1) M;obtain⟨B,y,y1,y2,q1,P,q3,q4,q5,q7⟩:=p.CG H .no D (by rw[K];exact h1 w) fD fD (λy i=>⟨λz l=>(by rw[N y i]at l;cases l),by rw[i];exact C.N _<|À<|Á ⟨k,J,U⟩⟩) (λy _ i=>Cm C.l λl u=>by rw[yS u];exact N y i) (by rwa[K]) O;have z:E.S.md=k:=by rw[e];rfl
 have Qf:E.S.rl=k-1:=by rw[e];rfl
 let⟨Q,V⟩:=p.a.f x m;rw[z]at Q V;have X:=p.d;rw[Qf]at X;have G:k-1+1=k:=Z
 have Y:=X.ahh y1 (by rwa[G]) ((C.f _ t).trans hd) (by rw[G];intro a l;obtain l|rfl:=l;exact(C.S _ t).rd a<|V _ l;exact(C.S _ t).r _ Q);rw[G]at Y;have hG:fP E.a 0 (E.a 0)=E.a:=by funext j;unfold fP;split<;>simp[*]
 refine⟨{E with S:=.dn k .jl,e:=fP E.e k qJ.size},_,_,_,_,B,w,#[y],q1,P,λh=>h,.r ?_ (P.trans p.b) q5 ?_ ?_ ?_ Y (p.c.yO (E':={E with S:=.dn k .jl,e:=fP E.e k qJ.size}) q3 (by obtain q|q:=O<;>rw[q]<;>simp) q4 (λ_ _=>U) U U (λ_ _=>U) (λ_=>U) (λ_ _=>U) (λ_ _ h=>À h) λ_ _ _ _ h=>À h) λj r a1 a2 a3=> ?_,Ly H.C (p.H t) m U U U U ?_⟩;have:=p.N.G (ip:=.dn k .jl) (sg:=E.c) (T:=T) H.C m;exact⟨this.M,this.Y,this.I,this.C,this.r⟩;have L:=q7;exact⟨L.iH,L.o,L.nI,λa l b c=>L.e a l (by rwa[z]) c,λa b=>by have:=L.f a b;rwa[z]at this,L.h,L.l,L.S,L.M,L.c,λl b=>L.I l (by rwa[z]),λl b=>L.N l (by rwa[z]),λl a b=>L.g l a (by rwa[z]),L.d⟩;have W:=p.M;exact⟨W.C,W.I,W.kz,λl b=>W.M l (by rwa[z]),λl a b=>W.S l a (by rwa[z]),W.N⟩
 .have:=p.C.Lz (ip:=.dn k .jl) (sg:=E.c) (pk:=fP E.e k qJ.size) m x (λl=>⟨λq=>(by cases q),λq=>(by cases q),λp q=>by cases q;exact⟨k1,J⟩⟩) (λl a b c=> ?_) (λl a b=> ?_) (by rw[e];exact eE _) id (λq=>p.C.y 0 (eD _) q) p.C.v;grind;rw[hG];exact p.C.e l a b (by rwa[e]);rw[hG];have c:l<=k-1:=b;obtain⟨W,q,_⟩|⟨r,s,q,_⟩|q:=p.C.Y l a (by rwa[e]);all_goals grind
 have u:=p.C.w j r a1<|Á<|Á a2;rw[e]at u;simp only[ko.od]at u;show Knows _ _ (fP E.e k qJ.size _);rw[gi _ _ Z];exact(p.f j r a1 a2 a3).app _;rw[e];simp only[ko.rk,kI.rk];omega
end
section
variable{F:Ph}{E E':gE F}{S:Nat->Jd}{v K:Nat->gW}{I:Nat->jc}{B:Nat->fx}{o f:Array Ç}{u:ï}
def CS(E:gE F)(ip:ko)(k:Nat)(G:GS):gE F:={E with S:=ip,a:=fP E.a k G}
theorem PI.E0(H:iL F)(p:PI F j zX E S v I B o w qJ){d:kI}{ip:ko}{G:GS}{s:Ç}{T:gW}(h0:0<E.r)(C:E.M 0=Ã)(t:E.S=.dn k d)(N:d≠ .kv)(O:o[F.L]?=Â g)(D:lZ (F.I k) w W)(Q:iR W (F.I k) G)(X:ŵ F.P (ù o w kJ) F.L=(į<|ù f W kJ,u))(J:f.size=o.size)(q3:f[F.L]?=Â s)(qw:s.status=É\/s.status=Ĉ)(q4:∀k,k≠F.L->f[k]?=o[k]?.map (ĩ F.P g s W))(q5:iB F.P F.S E.Y (fP S F.L<|JI F E.c ip) (fP v F.L T) (fP I F.L .no) (gV B F.L {B F.L with w:=W}) f W (qJ++u))(q6:TI F.toFx j zX E.r E.S.rl E.V E.e E.d E.K E.f (qJ++u))(q7:jm F E (gV B F.L {B F.L with w:=W}) f.size W)(x:ip.md=k/\ip.rl=k)(hP:Ps F (CS E ip k G))(X9:ip.rk F<E.S.rk F)(vN:∀i r,E.C i=.fT r .lQ->F.r (i+r*F.n)=k->(E.a k).sm=0->G.sm=0\/∀y,f[F.L+1+i]?=Â y->y.status≠í):lJ F j zX E v o w qJ kJ F.L:=by
 let⟨k1,z⟩:=(p.C.I k).2.2 _ t;have K:F.M (F.I k):=Á ⟨k,z,U⟩;have M:E.S.md=k:=by rw[t];rfl
 have Qf:E.S.rl=k:=by rw[t];cases d<;>first|rfl|exact absurd U N
 have m:=D.I H p.a p.C p.M K ⟨λq=>absurd q<|H.C.M k z,λ_=>U⟩ (λl a=>⟨λq=>by rwa[<-H.C.S _ _ z a q,ig],λq=>gi _ _ λe=>q<|by rw[e]⟩);refine⟨CS E ip k G,_,_,_,_,f,W,u,X,J,λh=>h,.r ?_ (J.trans p.b) q5 ?_ ?_ hP ?_ ?_ λi r a b c=>(p.f i r a b c).app u,Ly H.C (p.H<|jE O) C U U U U X9⟩;have:=p.N.G (ip:=ip) (sg:=E.c) (T:=T) H.C C;exact⟨this.M,this.Y,this.I,this.C,this.r⟩;have L:=q7;have e:(CS E ip k G).S.md=E.S.md:=by rw[M];exact x.1
 exact⟨L.iH,L.o,L.nI,λa l b c=>L.e a l (by rwa[<-e]) c,λa b=>by have:=L.f a b;rwa[<-e]at this,L.h,L.l,L.S,L.M,L.c,λl b=>L.I l (by rwa[<-e]),λl b=>L.N l (by rwa[<-e]),λl a b=>L.g l a (by rwa[<-e]),L.d⟩;have e:(CS E ip k G).S.md=E.S.md:=by rw[M];exact x.1
 exact⟨m.C,m.I,m.kz,λl b=>m.M l (by show l<=E.S.md;rwa[<-e]),λl a b=>m.S l a (by show l<=E.S.md;rwa[<-e]),m.N⟩;have e:(CS E ip k G).S.rl=E.S.rl:=by rw[Qf];exact x.2
 rwa[e];refine p.c.yO (E':=CS E ip k G) q3 (by obtain q|q:=qw<;>rw[q]<;>simp) q4 (λi a=>D.C p.C K a) U U (λ_ _=>U) (λ_=>U) (λ_ _=>U) (λ_ _ h=>À h) λi r _ a b=> ?_;show(fP E.a k G _).sm=0\/_;grind [ig,gi]
theorem PI.E1(p:PI F j zX E S v I B o w qJ){d:kI}{f:ko}{G:GS}(m:0<E.r)(t:E.M 0=Ã)(l:E.S=.dn k d)(D:f=.lY k\/∃u,f=.dn k u)(i:f.od=k)(H:(∃W,(f=.dn k (.ij W)\/f=.dn k (.jN W))/\G=.ky W/\W=Ô F.n λe=>(E.C e).ik F e k)\/(∃r s,f=.dn k (.jd r)/\0<r/\G=.iK r s/\r+s=Ô F.n λe=>(E.C e).ik F e k)\/((∀p,f≠ .dn k p)/\((G=.cl 0 0/\(Ô F.n λe=>(E.C e).ik F e k)=0)\/∃s,G=.iK 0 s/\s=Ô F.n λe=>(E.C e).ik F e k)))(x:(∃a b,E.a k=.iK a b)->∃a b,G=.iK a b)(y:G≠ .cl 1 0):Ps F (CS E f k G):=by
 let⟨J,K⟩:=(p.C.I k).2.2 _ l;have C:k-1<=E.S.od/\E.S.od<=k:=by rw[l];cases d<;>simp only[ko.od]<;>omega
 have:=p.C.Lz (sg:=E.c) (pk:=E.e) t m (λg=> ?_) (λg a b c=> ?_) (λg a b=> ?_) (by rw[i];exact C.2) x (λq=>absurd q y) p.C.v;exact this;grind;rw[i]at c;rw[gi _ _ Z];exact p.C.e g a b Z
 .by_cases q:g=k;grind [ig];rw[gi _ _ q];rw[i]at b;refine Á (Á ⟨λc h=> ?_,?_⟩);grind;obtain⟨W,z,_⟩|⟨r,s,z,_⟩|z:=p.C.Y g a Z;all_goals grind
theorem PI.aib(H:iL F)(p:PI F j zX E S v I B o w qJ)(d:0<E.r)(i:E.M 0=Ã)(s:o[F.L]?=Â g)(jh:g.status=É)(ht:v F.L=.fS)(c:E.S=.dn k .jl):lJ F j zX E v o w qJ kJ F.L:=by
 have N:=jE s;have C:=p.I.r;have hJ:=p.CM d i s jh ht w<|C.r _ N;rw[c]at hJ;obtain⟨k1,X⟩:=(p.C.I k).2.2 _ c;have O:=CL H.C;have y:F.M (F.I k):=Á ⟨k,X,U⟩;obtain⟨hd,_,CK⟩:=hJ;have Y:=p.C.e k k1 X (by rw[c];simp only[ko.od];omega);obtain⟨W,hW⟩:∃W,(Ô F.n λa=>(E.C a).ik F a k)=W:=⟨_,U⟩;rw[hW]at Y;have Q:=Y▸p.M.I k X;obtain⟨ev,z⟩:=Q.jq;have key:=CK (GS.cl (0+1) W).st;rw[ev]at key z;obtain⟨m,t⟩:∃m,(GS.jq<|.cl (0+1) W).st=m:=⟨_,U⟩;rw[t]at key;obtain⟨g',h1,h2⟩:=key;have G:=h1 w Q.C Q.M;rw[<-t]at G;obtain⟨k1',k2,k3⟩:=Q.r;have r:lZ (F.I k) w (w.setCell (gu<|F.I k)<|Û Ï (GS.jq<|.cl (0+1) W).st):=Á ⟨_,_,À U,U⟩;have D:=r.r p.a H.C y;have V:gd {B F.L with w:=w} w (w.setCell (gu<|F.I k)<|Û Ï (GS.jq<|.cl (0+1) W).st):=⟨cZ D.r.symm,λb lL=>D.lB b<|C.I _ N b lL,λa ha=>D.M _ N a ha,λa ha=>D.N _ N a ha,λa _=>D.I a⟩;have Yk:¬∃a b,E.a k=.iK a b:=λ⟨a,b,q⟩=>by rw[Y]at q;cases q
 by_cases hl:0<W;have ed:GS.jq (.cl (0+1) W)=.ky W:=by simp only[GS.jq];rw[if_pos ⟨trivial,hl⟩]
 rw[ed]at G z r D V t;have K:fF F.P Æ (Lc F.P Æ (F.I k) (fF F.P Æ<|F.h k) W) {B F.L with w:=w} g':=by
  have e:m=(W:Int):=t.symm;have h:¬(m=0\/(gK<=m/\m<1000000*gK/\m%gK<1000000)):=by simp only[gK];omega
  grind
 obtain⟨T,hT⟩:=j1<|K.mF V;have M:=nh (λl g h=>À h.2.1) K;obtain⟨f,u,q1,q2,q3,q4,q5,q6,q7⟩:=p.Y (J:=JI F E.c<|.dn k (.ij W)) H .no s (EY d) y (by rwa[O]) r (Cv y) U (λx hs e=>(EZ i x hs e).elim) (by rwa[O]) M;refine p.E0 H d i c fD s r z q1 q2 q3 M q4 q5 q6 q7 ⟨U,U⟩ (p.E1 d i c (Á ⟨_,U⟩) U (À ⟨W,À U,U,hW.symm⟩) (λq=>absurd q Yk) fD) ?_ λ_ _ _ _ _=>À U;rw[c];simp only[ko.rk,kI.rk];omega;have HQ:W=0:=Z;subst HQ;have ed:GS.jq (.cl (0+1) 0)=.cl 0 0:=U;rw[ed]at G z r D V t;have K:fF F.P Æ (F.h k) {B F.L with w:=w} g':=by simp only[t.symm,true_or,if_true]at h2;exact h2
 obtain⟨T,hT⟩:=j1<|K.mF V;have M:=nh (λl g h=>À<|H.N _ _ _ h) K;obtain⟨f,u,q1,q2,q3,q4,q5,q6,q7⟩:=p.Y (J:=JI F E.c<|.lY k) H .no s (EY d) y (by rwa[O]) r (Cv y) U (λx hs e=>(EZ i x hs e).elim) (by rwa[O]) M;refine p.E0 H d i c fD s r z q1 q2 q3 M q4 q5 q6 q7 ⟨U,U⟩ (p.E1 d i c (À U) U (Á<|Á ⟨λp q=>(by cases q),À ⟨rfl,hW⟩⟩) (λq=>absurd q Yk) fD) ?_ λ_ _ _ _ _=>À rfl;rw[c];simp only[ko.rk,kI.rk];omega
theorem PI.Yl(p:PI F j zX E S v I B o w qJ)(b:E.S=.dn k (.ij i)\/E.S=.dn k (.jN i)):E.a k=.ky i/\i=Ô F.n λa=>(E.C a).ik F a k:=by
 have c:k<=F.m:=by obtain b|b:=b<;>exact((p.C.I k).2.2 _ b).2
 obtain⟨d,z,e,f⟩|⟨r,s,z,_⟩|⟨z,_⟩:=p.C.Y k c (by rcases b with b|b<;>(rw[b];exact eE _));all_goals grind
def PI.aic(H:iL F)(p:PI F j zX E S v I B o w qJ)(d:0<E.r)(m:E.M 0=Ã)(n:o[F.L]?=Â g)(K:g.status=É)(M:v F.L=.fS)(c:E.S=.dn k (.ij i)):lJ F j zX E v o w qJ kJ F.L:=by have s:=p.CM d m n K M w<|(p.I.r).r _<|jE n;rw[c]at s;let⟨k1,t⟩:=(p.C.I k).2.2 _ c;have y:=CL H.C;have z:F.M (F.I k):=Á ⟨k,t,U⟩;let⟨hd,_,N⟩:=s;let⟨C,O⟩:=p.Yl<|À c;have D:=C▸p.M.I k t;let⟨g',P,r⟩:=N (i:Int);simp only[if_true]at r;let⟨T,Q⟩:=j1 r;have G:=nh (λl g h=>À h.2.1) r;obtain⟨f,u,h,l,V,X,Y,q6,q7⟩:=p.Y (J:=JI F E.c<|.dn k (.jN i)) H .no n (EY d) z (by rw[y];exact P w D.C) (À U) (AG z) U (λx a e=>(EZ m x a e).elim) (by rwa[y]) G;refine p.E0 H d m c fD n (À U) D h l V G X Y q6 q7 ⟨U,U⟩ (p.E1 d m c (Á ⟨_,U⟩) U (À ⟨i,Á U,U,O⟩) (λ⟨a,b,q⟩=>by rw[C]at q;cases q) fD) ?_ λ_ _ _ _ _=>À rfl;rw[c];simp only[ko.rk,kI.rk];omega
def PI.aie(H:iL F)(p:PI F j zX E S v I B o w qJ)(d:0<E.r)(m:E.M 0=Ã)(n:o[F.L]?=Â g)(M:g.status=É)(N:v F.L=.fS)(c:E.S=.dn k (.jN i)):lJ F j zX E v o w qJ kJ F.L:=by
 have q:=jE n;have C:=p.I.r;have y:=p.CM d m n M N w<|C.r _ q;rw[c]at y;let⟨k1,z⟩:=(p.C.I k).2.2 _ c;have G:=CL H.C;have s:F.M (F.I k):=Á ⟨k,z,U⟩;let⟨hd,_,g',O,K⟩:=y;let⟨P,Q⟩:=p.Yl<|Á c;have r:=P▸p.M.I k z;have V:=r.r.1;have t:lZ (F.I k) w (w.setCell (gu<|F.I k)<|Û Ï 0):=Á ⟨_,_,À U,U⟩;have D:=t.r p.a H.C s;let⟨T,X⟩:=j1 (K.mF ⟨cZ D.r.symm,λb h=>D.lB b<|C.I _ q b h,λa e=>D.M _ q a e,λa e=>D.N _ q a e,λa _=>D.I a⟩);have a:=nh (λl g h=>by
  cases i with|zero=>omega|succ i=>exact À h.2.1) K
 obtain⟨f,u,h,b,l,Y,q5,q6,q7⟩:=p.Y (J:=JI F E.c<|.dn k (.jd i)) H .no n (EY d) s (by rw[G];exact O w _ r.C r.M) t (XT s) U (λx hs e=>(EZ m x hs e).elim) (by rwa[G]) a;refine p.E0 H d m c fD n t r.XG h b l a Y q5 q6 q7 ⟨U,U⟩ (p.E1 d m c (Á ⟨_,U⟩) U (Á<|À ⟨i,0,U,V,U,by rwa[dm]⟩) (λ_=>⟨i,0,U⟩) fD) ?_ λ_ _ _ _ _=>À U;rw[c];simp only[ko.rk,kI.rk];omega
theorem PI.aif(H:iL F)(p:PI F j zX E S v I B o w qJ)(l:0<E.r)(t:E.M 0=Ã)(G:o[F.L]?=Â g)(jh:g.status=É)(ht:v F.L=.fS)(h:E.S=.dn k (.jd j9)):lJ F j zX E v o w qJ kJ F.L:=by
 have V:=jE G;have C:=p.I.r;have hJ:=p.CM l t G jh ht w<|C.r _ V;rw[h]at hJ;obtain⟨k1,X⟩:=(p.C.I k).2.2 _ h;have W:=CL H.C;have N:F.M (F.I k):=Á ⟨k,X,U⟩;obtain⟨s,hr0,hc,uJ⟩:∃s,0<j9/\E.a k=.iK j9 s/\j9+s=Ô F.n λc=>(E.C c).ik F c k:=by obtain⟨W',z,z1,z2⟩|⟨K,s,z,z1,z2,z3⟩|⟨z,_⟩:=p.C.Y k X (by rw[h];exact eE _);all_goals grind
 obtain⟨j9,rfl⟩:∃K,j9=K+1:=⟨j9-1,Z⟩;obtain⟨hd,_,H0,g',O,h1,h2⟩:=hJ;have M:=hc▸p.M.I k X;have Q:lZ (F.I k) w (w.setCell (iJ<|F.I k)<|Û è<|è.wrap<|(GS.iK (j9+1) s).sm+1):=Á ⟨_,_,Á U,U⟩;have D:=Q.r p.a H.C N;have AO:gd {B F.L with w:=w} w (w.setCell (iJ<|F.I k)<|Û è<|è.wrap<|(GS.iK (j9+1) s).sm+1):=⟨cZ D.r.symm,λb lL=>D.lB b<|C.I _ V b lL,λa Y=>D.M _ V a Y,λa Y=>D.N _ V a Y,λa _=>D.I a⟩;have wake:∀f:Array Ç,(∀k,k≠F.L->f[k]?=o[k]?.map (ĩ F.P g g'<|w.setCell (iJ<|F.I k)<|Û è<|è.wrap<|(GS.iK (j9+1) s).sm+1))\/(∀m,m≠F.L->f[m]?=o[m]?.map (ĩ F.P g g'<|w.setCell (iJ<|F.I k)<|Û è<|è.wrap<|(GS.iK (j9+1) s).sm+1))->∀c K,E.C c=.fT K .lQ->F.r (c+K*F.n)=k->(E.a k).sm=0->(GS.iK j9<|s+1).sm=0\/∀y,f[F.L+1+c]?=Â y->y.status≠í:=by
  intro f d c K hj _ _;refine Á λy hy=> ?_;by_cases Ym:c+2<=E.r;by_cases LA:E.M (c+1)=Ã;obtain⟨_,hk⟩:=p.g c Ym LA;rw[hj]at hk;obtain d|d:=d<;>
  .rw[d _ Z]at hy;obtain⟨z,uK,rfl⟩:=æ.1 hy;exact Yd p H0 O uK hk
  obtain⟨_,r0,q,_⟩:=p.C.l c Ym LA;grind;have:=p.C.z c Z;grind
 cases j9 with
 |zero=>
  obtain⟨T,hT⟩:=j1<|h2.mF AO;obtain⟨f,u,q1,q2,q3,d,q5,q6,q7⟩:=p.Y (J:=JI F E.c<|.lY k) H .no G (EY l) N (by rw[W];exact h1 w _ M.I M.N) Q (Hn N) (Ho _).2.2.2 (λx hs e=>(EZ t x hs e).elim) (by rwa[W])<|À O;refine p.E0 H l t h fD G Q M.kv q1 q2 q3 (À O) d q5 q6 q7 ⟨U,U⟩ (p.E1 l t h (À U) U (Á<|Á ⟨λp q=>(by cases q),Á ⟨s+1,rfl,Z⟩⟩) (λ_=>⟨0,s+1,rfl⟩) fD) ?_<|wake f<|Á d;rw[h];simp only[ko.rk,kI.rk];omega|succ j9=>
  obtain⟨T,hT⟩:=j1<|h2.mF AO;obtain⟨f,u,q1,q2,q3,d,q5,q6,q7⟩:=p.Y (J:=JI F E.c<|.dn k (.jd (j9+1))) H .no G (EY l) N (by rw[W];exact h1 w _ M.I M.N) Q (Hn N) (Ho _).2.2.2 (λx hs e=>(EZ t x hs e).elim) (by rwa[W])<|À O;refine p.E0 H l t h fD G Q M.kv q1 q2 q3 (À O) d q5 q6 q7 ⟨U,U⟩ (p.E1 l t h (Á ⟨_,U⟩) U (Á<|À ⟨j9+1,s+1,U,Z,U,Z⟩) (λ_=>⟨j9+1,s+1,U⟩) fD) ?_<|wake f<|Á d;rw[h];simp only[ko.rk,kI.rk];have:Ô F.n (λc=>(E.C c).ik F c k)<=F.n:=Hq λi=>by cases E.C i<;>simp only[iD.ik]<;>first|omega|(split<;>first|omega|(rename_i q _;cases q<;>simp[km.uH]))
  omega
theorem PI.aii(H:iL F)(p:PI F j zX E S v I B o w qJ){N:Nat}(s:i<E.r)(a:E.M i=Â (.kl N))(t:o[F.L+i]?=Â g)(J:g.status=É):lJ F j zX E v o w qJ kJ (F.L+i):=by
 let⟨K,n,M⟩:=p.k i _ s a;have Y:=H.C.r;obtain⟨f,O,P,hn,Q,l,T,u,z⟩:=p.I.Pq t Z J n (M ⟨N,U⟩) K;have C:=jE t;have D:∀c∈ú (F.L+i) g.frame.fn g.frame.place O,c.act.touch?=Ã/\∀b,F.M b->c.act≠Ĝ (.release<|gu b):=λc d=>by obtain⟨e,h,rfl⟩:=İ d;refine⟨υ<|u e h,λb _ q=> ?_⟩;have:=u e h;let⟨k,wr,y⟩:=e;cases k<;>simp_all[Event.mute,â]
 obtain⟨m,G⟩:∃m,f[F.L+i]?=Â m:=⟨f[F.L+i]'(by rwa[l]),fj _⟩;have V:m.status≠í:=by
  let⟨g0,y,h,k,r⟩:=z.C _ m G;rw[n]at h;cases h with|gS=>obtain q|q:=k<;>rw[q]<;>simp
 have W:fP v (F.L+i) .fS=v:=by funext q;unfold fP;split<;>simp[*]
 have X:fP I (F.L+i) .no=I:=by funext q;unfold fP;split<;>simp[*]
 refine⟨fO.ja E i<|.kl P,_,_,_,_,f,w,_,Q,l,λh=>h,.r (p.N.H H.C λ_=>U) (l.trans p.b) (by rwa[W,X]) (by rw[l];exact(p.a.C<|eE _).K<|⟨λ_=>⟨_,a,trivial⟩,λ_=>trivial⟩) p.M.K (p.C.ja s (by rw[a];rfl) (λk h=>by rw[a]at h;cases h) (λk h=>by cases h) (λq h=>p.C.l q Z<|by rw[<-h,a];simp) λh=>p.C.f<|by rw[<-h,a];simp) ((p.d.r<|Az (λc d=>(D c d).1) λc d=>(D c d).2).Y<|⟨λ_=>⟨_,a,trivial⟩,λ_=>trivial⟩) (Qa (p.c.Ha G V T λ_ _=>U) λk y n r e=> ?_) λq r k e y=>(p.f q r k e y).app _,EU H.C (p.H C)<|Á ?_⟩;grind;rw[tH,a];simp only[iW.rk];grind
theorem PI.aij(H:iL F)(p:PI F j zX E S v I B o w qJ)(M:0<i)(t:i<F.L)(u:o[i]?=Â g)(N:g.status=É):lJ F j zX E v o w qJ kJ i:=by
 let⟨O,Q,m⟩:=p.l i M t;obtain⟨f,x,z,X,T,n,V,C,D⟩:=p.I.Pq u Z N m Q O;have G:=jE u;have J:∀c∈ú i g.frame.fn g.frame.place x,c.act.touch?=Ã/\∀b,F.M b->c.act≠Ĝ (.release<|gu b):=λc l=>by obtain⟨e,a,rfl⟩:=İ l;refine⟨υ<|C e a,λb _ q=> ?_⟩;have:=C e a;let⟨h,wr,k⟩:=e;cases h<;>simp_all[Event.mute,â]
 obtain⟨s,K⟩:∃s,f[i]?=Â s:=⟨f[i]'(by rwa[n]),fj _⟩;have W:s.status≠í:=by
  let⟨g0,k,a,h,y⟩:=D.C _ s K;rw[m]at a;cases a with|gS=>obtain q|q:=h<;>rw[q]<;>simp
 refine⟨{E with h:=fP E.h i z},_,_,_,_,f,w,_,T,n,λh=>h,.r ?_ (n.trans p.b) D ?_ ⟨p.M.C,p.M.I,p.M.kz,p.M.M,p.M.S,p.M.N⟩ ?_ (p.d.r<|Az (λc l=>(J c l).1) λc l=>(J c l).2) (Qd (p.c.Ha K W V λ_ _=>U) U U U U U U U) λq r a k y=>(p.f q r a k y).app _,Hl (p.H G) ?_ λk m=>AE (λ_=>U) (λ_ _=>gi _ _ m) (λ_=>U) (λ_ _=>U) (λ_ _=>U) U⟩;have h:=p.N;refine⟨by rw[gi S _ Z];exact h.M,λa b=>by rw[gi S _ Z];exact h.Y a b,λq a b=>by rw[gi S _ Z];exact h.I q a b,λy e a b=>by rw[gi S _ Z];exact h.C y e a b,λq a b=> ?_⟩;by_cases e:q=i;grind [ig];rw[gi S _ e];refine⟨?_,(h.r q a b).2⟩;show _=ri F.P (fP E.h i z q);rw[gi _ _ e];exact(h.r q a b).1;rw[n];have L:=p.a.C (i:=i) (d:=Ø (B i).d x) (w0:=w)<|eE _;exact⟨L.iH,L.o,L.nI,L.e,L.f,L.h,L.l,L.S,L.M,L.c,L.I,L.N,L.g,L.d⟩;have h:=p.C;exact⟨h.v,h.C,h.K,h.L,h.J,h.I,h.z,h.d,h.l,h.f,h.h,h.M,h.o,h.t,h.g,h.u,h.N,h.B,h.e,h.Y,h.w,h.H,h.O,h.S,h.y,h.D⟩;unfold gE.G;rw[if_neg Z,if_pos t,if_neg Z,if_pos t];refine Á ⟨U,À ?_⟩;grind [ig]
end
section
variable{F:Ph}{E I:gE F}{S:Nat->Jd}{d J:Nat->gW}{o:Nat->jc}{m:Nat->fx}{f D:Array Ç}{u:ï}
def jw(E:gE F)(x:gH)(G:GS)(dk:Nat->Nat):gE F:={E with N:=x,b:=G,I:=dk}
structure jF(E:gE F)(x:gH)(C:Nat->Nat):Prop where
 r:x.sp F.n=E.r
 C:∀j,j+2<=E.r->C j=E.I j
def CU{x:gH}{G:GS}{d:Nat->Nat}(a:jF E x d):(jw E x G d).Y=E.Y:=by have e:(jw E x G d).r=E.r:=a.r;funext b;rw[gE.Y,e];refine propext<|or_congr Iff.rfl<|or_congr Iff.rfl ⟨λ⟨j,c,f⟩=>⟨j,c,f.trans<|a.C j c⟩,λ⟨j,c,f⟩=>⟨j,c,f.trans (a.C j c).symm⟩⟩
def jm.H(L:jm F E m i w){x:gH}{G:GS}{d:Nat->Nat}(a:jF E x d):jm F (jw E x G d) m i w:=by have e:(fO.jw E x G d).r=E.r:=a.r;exact⟨L.iH,λy f=>L.o y Z,λh=>L.nI Z,λh=>L.e Z,λh=>L.f Z,λj h=>L.h j Z,λj h=>L.l j Z,L.S,λc g=>L.M c (g.imp id λ⟨y,f,b⟩=>⟨y,Z,b⟩),L.c,λk l b n=>by rw[CU a];exact L.I k l b n,L.N,L.g,λj h=>L.d j Z⟩
def Wd.r{G:GS}(W:Wd F {E with b:=G,a:=E.a} w){x:gH}{dk:Nat->Nat}(a:jF E x dk)(c:x.n8 F.q=E.N.n8 F.q)(d:x.jR F.n=E.N.jR F.n):Wd F (jw E x G dk) w:=by have e:(fO.jw E x G dk).r=E.r:=a.r;refine⟨W.C,W.I,λj f=> ?_,W.M,W.S,λj f=>W.N j<|show j+2<=E.r by omega⟩;have b:j+2<=E.r:=Z;have:=W.kz j b;show∃g s,w.heap[dk j]?=Â (ņ F.q g (decide<|j<x.jR F.n) s (E.C j).jz Æ)/\vI F.n j (x.n8 F.q) s/\_;rw[a.C j b,c,d];exact this
def Qg{x:gH}{G:GS}{dk:Nat->Nat}(h:x.ad F.n=E.N.ad F.n):(jw E x G dk).H=E.H:=by
 funext y;show(if y<x.ad F.n then _ else _)=if y<E.N.ad F.n then _ else _
 rw[h];rfl
def Ps.jw(h:Ps F E){x:gH}{G:GS}{dk:Nat->Nat}(d:jF E x dk)(o:E.N.jR F.n<=x.jR F.n)(t:∀j,x=.go j\/x=.ng j\/x=.rd j\/x=.jl j->j<=F.n)(u:∀j,x=.ng j\/x=.rd j\/x=.jl j->1<=j)(v:∀r,(x=.jr r->r<=F.q)/\(x=.mq r->r<=F.n))(w:∀c f,G=.cl c f->c=Ô (F.n+1) (fO.jw E x G dk).H/\f=x.ik)(z:∀f,G=.ky f->Ô (F.n+1) (fO.jw E x G dk).H=0/\f=x.ik/\∃y,y<E.r/\E.g=Â y/\(E.M y=Â (.gN (.ij f))\/E.M y=Â (.gN (.jN f))))(B:∀r s,G=.iK r s->Ô (F.n+1) (fO.jw E x G dk).H=0/\r+s=x.ik/\(0<r->∃y,y<E.r/\E.g=Â y/\E.M y=Â (.gN (.jd r))))(C:∀y p,E.M y=Â (.gN p)->(∀W,p=.ij W\/p=.jN W->E.g=Â y/\G=.ky W)/\(∀r,p=.jd r->0<r/\E.g=Â y/\∃s,G=.iK r s))(D:x=.fT .ij\/x=.fT .na\/x=.gN->Ô (F.n+1) (fO.jw E x G dk).H=0)(H:x=.fT .ij->∃a b,G=.iK a b)(I:(∀p,x≠ .fT p)->x≠ .gN->∃c,G=.cl c 0):Ps F (fO.jw E x G dk):=by have e:(fO.jw E x G dk).r=E.r:=d.r;refine⟨h.v,t,u,v,λq=>h.J Z,h.I,λj q=>h.z j Z,λj r q=>h.d j r Z,λj q J=> ?_,h.f,λy q=>h.h y Z,λj g N O K=> ?_,λj q=> ?_,w,λf i=> ?_,λr s i=> ?_,C,D,h.e,h.Y,λj r q=>h.w j r Z,λj r q=>h.H j r Z,H,I,h.y,λj r q=>h.D j r Z⟩;let⟨a,b⟩:=h.l j Z J;exact⟨ff a o,b⟩;have k:dk j=dk g:=K;rw[d.C j Z,d.C g Z]at k;exact h.M j g Z Z k;show¬F.M (dk j)/\dk j≠F.Y/\F.S<=dk j;rw[d.C j Z];exact h.o j Z;let⟨k,l,y,m,L⟩:=z f i;exact⟨k,l,y,Z,L⟩;let⟨k,l,m⟩:=B r s i;refine⟨k,l,λL=> ?_⟩;let⟨y,P,M⟩:=m L;exact⟨y,Z,M⟩
def Ps.r(h:Ps F E){x:gH}{dk:Nat->Nat}(d:jF E x dk)(g:E.N.jR F.n<=x.jR F.n)(i:x.ad F.n=E.N.ad F.n)(f:x.ik=E.N.ik)(k:∀j,x=.go j\/x=.ng j\/x=.rd j\/x=.jl j->j<=F.n)(l:∀j,x=.ng j\/x=.rd j\/x=.jl j->1<=j)(m:∀r,(x=.jr r->r<=F.q)/\(x=.mq r->r<=F.n))(o:x=.fT .ij\/x=.fT .na\/x=.gN->Ô (F.n+1) E.H=0)(s:x=.fT .ij->∃a b,E.b=.iK a b)(t:(∀p,x≠ .fT p)->x≠ .gN->∃c,E.b=.cl c 0):Ps F (fO.jw E x E.b dk):=by have e:=Qg (E:=E) (G:=E.b) (dk:=dk) i;refine h.jw d g k l m ?_ ?_ ?_ h.N ?_ s t;rw[e,f];exact h.t;rw[e,f];exact h.g;rw[e,f];exact h.u;rwa[e]
def sM.K(h:sM F E S d o)(ok:F.Ok){x:gH}{G:GS}{c:Nat->Nat}{T:gW}(a:jF E x c):sM F (fO.jw E x G c) (fP S 0<|JM F c x) (fP d 0 T) (fP o 0<|kM x):=by have:=ok.r;have e:(fO.jw E x G c).r=E.r:=a.r;refine⟨by rw[ig,ig];exact⟨U,U⟩,λf b=>by rw[gi S _ Z,gi o _ Z];exact h.Y Z b,λj f b=> ?_,λy g f b=>by rw[gi S _ Z,gi o _ Z,gi d _ Z];exact h.C y g Z b,λi f b=>by rw[gi S _ Z,gi o _ Z,gi d _ Z];exact h.r i f b⟩;rw[gi S _ Z,gi o _ Z];show _=JW F (c j) j (E.C j)/\_=kW F (c j) (E.C j);rw[a.C j Z];exact h.I j Z b
def tJ{x:gH}{G:GS}{dk:Nat->Nat}{T:gW}(h:x.rk F<E.N.rk F):rj F.N ((jw E x G dk).mu (fP d 0 T) D) (E.mu d f):=by refine Hl (by unfold Ph.N;omega) (À ?_) λk a=>AE (λh=>absurd h a) (λ_ _=>U) (λ_=>U) (λ_ _=>U) (λ_ _=>U)<|gi d _ a;rwa[EK,EK]
theorem Yn:E.mQ 0=match E.N with|.fT p=>p.mQ F.B E.b.st|_=>0:=by unfold gE.mQ;grind
def aik{p a:SP}(b:E.N=.fT (.nO p))(g:d 0=.fS)(h:a.rk F.B E.b.st<p.rk F.B E.b.st):rj F.N ((jw E (.fT (.nO a)) E.b E.I).mu (fP d 0 .fS) D) (E.mu d f):=by refine XU (i:=0) (λk _=> ?_) (by unfold Ph.N;omega) ?_ λk c=> ?_;by_cases e:k=0;subst e;rw[EK,EK,ig,b,g];rfl;exact AE (λh=>absurd h e) (λ_ _=>U) (λ_=>U) (λ_ _=>U) (λ_ _=>U)<|gi d _ e;rwa[Yn,Yn,b];unfold gE.mQ;rw[if_neg c,if_neg c];rfl
def PI.K(p:PI F b zX E S d o m f w qJ)(c:f[0]?=Â g)(e:g.status=É)(h:d 0=.fS):∀a,gd (m 0) (m 0).w a->JM F E.I E.N {m 0 with w:=a} g:=by
 let⟨k,i⟩:=p.h;have j:o 0=.no\/o 0=.jd:=by
  rw[i];cases E.N with
  |fT v=>cases v<;>first|exact À U|exact Á U
  |_=>exact À U
 intro a r;have:=p.I.N c e h j a r;simp_all
def AR(ok:F.Ok):∀x,E.K x->0=F.L+x->False:=λx _ e=>by have:=ok.r;omega
theorem PI.G(H:iL F)(p:PI F b zX E S d o m f w qJ){x:gH}{G:GS}{dk:Nat->Nat}{c:Ç}{T:gW}(a:jF E x dk)(C:ŵ F.P (ù f w kJ) 0=(į<|ù D W kJ,u))(l:D.size=f.size)(q3:D[0]?=Â c)(qw:c.status=É\/c.status=Ĉ)(I:∀k,k≠0->D[k]?=f[k]?.map (ĩ F.P g c W))(J:∀j,j+2<=E.r->W.heap[E.I j]?=w.heap[E.I j]?)(K:iB F.P F.S E.Y (fP S 0<|JM F dk x) (fP d 0 T) (fP o 0<|kM x) (gV m 0 {m 0 with w:=W}) D W (qJ++u))(L:TI F.toFx b zX E.r E.S.rl E.V E.e E.d E.K E.f (qJ++u))(M:jm F E (gV m 0 {m 0 with w:=W}) D.size W)(O:Wd F (jw E x G dk) W)(Q:Ps F (jw E x G dk))(X:rj F.N ((jw E x G dk).mu (fP d 0 T) D) (E.mu d f))(hxf:x=.gN->E.N=.gN):lJ F b zX E d f w qJ kJ 0:=by have e:(jw E x G dk).r=E.r:=a.r;refine⟨jw E x G dk,_,_,_,_,D,W,u,C,l,hxf,.r (p.N.K H.C a) (by rw[e];exact l.trans p.b) (by rwa[CU a]) (M.H a) O Q (by rwa[e]) ?_ λi h s n q=>(p.f i h Z n q).app u,X⟩;intro k y n hb;by_cases q:k=0;grind;rw[I k q]at n;obtain⟨z,hz,rfl⟩:=æ.1 n;let⟨_,hzb⟩:=Hk hb;obtain⟨h1,_⟩|⟨j,t,v,B,i|⟨r,cap,s,h,i,h4⟩⟩:=p.c k z hz hzb;exact absurd h1 q;exact Á ⟨j,Z,v,B,À i⟩;refine Á ⟨j,Z,v,B,Á ⟨r,cap,s,h,i,?_⟩⟩;show W.heap[dk j]?=_;rwa[a.C j t,J j t]
theorem PI.LB(H:iL F)(p:PI F b zX E S d o m f w qJ){x:gH}{h:Nat->Nat}{T:gW}(c:jF E x h)(v:f[0]?=Â g)(B:g.status=É)(hF:mG F.P Ê (JM F h x) T {m 0 with w:=w} g)(t:x.n8 F.q=E.N.n8 F.q)(l:x.jR F.n=E.N.jR F.n)(D:Ps F (jw E x E.b h))(G:rj F.N ((jw E x E.b h).mu (fP d 0 T) f) (E.mu d f))(I:x=.gN->E.N=.gN):tF F b zX E d f w qJ:=by have u:=jE v;have C:=p.I.r;have e:(jw E x E.b h).r=E.r:=c.r;have J:jD F.S (λi=>i<f.size) E.Y (gV m 0 {m 0 with w:=w}) w qJ:=C.C u (λ_ q=>q) (λa q=>À<|Á q) (λ_ q=>q) (λa q=>À<|Á q) U U U (C.m _ u)<|C.g _ u;have L:=p.I.M (K:=kM x) v (À B) J hF;refine⟨jw E x E.b h,_,_,_,_,I,.r (p.N.K H.C c) (by rw[e];exact p.b) (by rwa[CU c]) ((p.a.C<|eE _).H c) (Wd.r p.M c t l) D (by rw[e];exact p.d) (λk y M O=> ?_) λi a z j s=>p.f i a Z j s,G⟩;by_cases Q:k=0;grind;obtain⟨t,_⟩|⟨j,V,z,l,i|⟨r,W,s,a,i,X⟩⟩:=p.c k y M O;exact absurd t Q;exact Á ⟨j,Z,z,l,À i⟩;refine Á ⟨j,Z,z,l,Á ⟨r,W,s,a,i,?_⟩⟩;show w.heap[h j]?=_;rwa[c.C j V]
def oD{x:gH}(h:x.sp F.n=E.N.sp F.n):jF E x E.I:=⟨h,λ_ _=>U⟩
theorem oX:F.M F.C:=À U
theorem PI.ail(H:iL F)(p:PI F b zX E S d o m f w qJ)(k:f[0]?=Â g)(l:g.status=É)(s:d 0=.fS)(e:E.N=.ng j):tF F b zX E d f w qJ:=by
 have i:=p.K k l s w<|p.I.r.r _<|jE k;rw[e]at i;let⟨c,i⟩:=i;have t:E.r=j:=by rw[gE.r,e];rfl
 have a:jF E (.go j) (fP E.I (j-1) c):=⟨t.symm,λn h=>gi _ _ Z⟩;refine p.LB H (T:=.fS) a k l (λr q=>H.Hi _ _ _ _ _ i q) (by rw[e];rfl) (by rw[e];rfl) (p.C.r a (by rw[e];exact eE _) (by rw[e];rfl) (by rw[e];rfl) (λn h=> ?_) (λn h=> ?_) (λr=>⟨λh=>(by cases h),λh=>(by cases h)⟩) (λh=>by obtain h|h|h:=h<;>cases h) (λh=>by cases h) λ_ _=>p.C.S (λv q=>by rw[e]at q;cases q) λq=>by rw[e]at q;cases q) (tJ<|by rw[e];simp only[gH.rk];omega) (λh=>by cases h);obtain h|h|h|h:=h<;>cases h;exact p.C.C j<|Á<|À e;grind
def PI.ain(H:iL F)(p:PI F b zX E S d o m f w qJ)(k:f[0]?=Â g)(t:g.status=É)(u:d 0=.fS)(i:E.N=.rd j):lJ F b zX E d f w qJ kJ 0:=by
 have n:=p.K k t u w<|p.I.r.r _<|jE k;rw[i]at n;let⟨P,_,Q,z,s⟩:=n;have B:E.r=j:=by rw[gE.r,i];rfl
 have a:jF E (.ng j) E.I:=⟨B.symm,λ_ _=>U⟩;let⟨C,G,I⟩:=P3 H p oX (À U) (À U) (À ⟨U,U⟩) λx c e=>AR H.C x c e;let⟨T,x⟩:=j1 s;have e:=nh (λl g ⟨c,h⟩=>À<|H.I _ _ _ _ h) s;obtain⟨D,y,c,l,J,K,L,M,N,O⟩:=p.CG H (kM<|.ng j) k (z w) fD fD C G x e;refine p.G H a J K L e M (λ_ _=>U) N (I y c l) O (Wd.r p.M a (by rw[i];rfl)<|by rw[i];rfl) (p.C.r a (by rw[i];exact eE _) (by rw[i];rfl) (by rw[i];rfl) (λq h=> ?_) (λq h=> ?_) (λr=>⟨λh=>(by cases h),λh=>(by cases h)⟩) (λh=>by obtain h|h|h:=h<;>cases h) (λh=>by cases h) λ_ _=>p.C.S (λv q=>by rw[i]at q;cases q) λq=>by rw[i]at q;cases q) (tJ<|by rw[i];simp only[gH.rk];omega) (λh=>by cases h);obtain h|h|h|h:=h<;>cases h;exact p.C.C j<|Á<|Á<|À i;obtain h|h|h:=h<;>cases h;exact p.C.K j<|Á<|À i
end
section
variable{F:Ph}{E C:gE F}{S:Nat->Jd}{m I:Nat->gW}{z:Nat->jc}{o:Nat->fx}{d B:Array Ç}{u:ï}
def aio(y:Nat):E.H y<=1:=by
 unfold gE.H;split;cases E.M y with
 |none=>exact eE _
 |some e=>cases e with
  |qA=>exact eE _|gN p=>cases p<;>simp[nP,iW.mH,kI.mH]
  |kl N=>simp[nP,iW.mH]
 omega
def Yo(v:Int):lZ F.C w (w.setCell (gu F.C)<|Û Ï v):=Á ⟨_,_,À U,U⟩
def Qh(H:iL F)(p:PI F n zX E S m z o d w qJ)(h:lZ F.C w W){G:GS}(a:iR W F.C G):Wd F {E with b:=G,a:=E.a} W:=h.I H p.a p.C p.M oX (Ga:=G) (Gg:=E.a) ⟨λ_=>a,λe=>absurd U e⟩ λb c=>⟨λe=>absurd e.symm<|H.C.M b c,λ_=>U⟩
def Qi(H:iL F)(p:PI F n zX E S m z o d w qJ)(h:lZ F.C w W)(c:i<d.size):gd {o i with w:=w} w W:=by have D:=h.r p.a H.C oX;exact⟨cZ D.r.symm,λb f=>D.lB b<|p.I.r.I _ c b f,λa e=>D.M _ c a e,λa e=>D.N _ c a e,λa _=>D.I a⟩
def AS{l:fx}{b:Î}(r:gd {l with w:=W} jX b):gd l jX b:=⟨r.r,r.I,r.N,r.Y,r.S⟩
def PI.aip(H:iL F)(p:PI F n zX E S m z o d w qJ)(C:d[0]?=Â g)(Y:g.status=É)(ht:m 0=.fS)(a:E.N=.jl j):lJ F n zX E m d w qJ kJ 0:=by
 have N:=jE C;have O:=p.K C Y ht w<|p.I.r.r _ N;rw[a]at O;let⟨hd,_,hA⟩:=O;have hj:=p.C.C j<|Á<|Á<|Á a;have H8:=p.C.K j<|Á<|Á a;have qy:E.r=j:=by rw[gE.r,a];rfl
 have vN:=H.C.gL;let⟨c,D⟩:=p.C.S (λv q=>by rw[a]at q;cases q) (λq=>by rw[a]at q;cases q);let⟨Lw,_⟩:=p.C.t c 0 D;have hcn:c<=F.n+1:=by rw[Lw];exact Hq aio
 have G:=D▸p.M.C;let⟨hv,I⟩:=G.ahb Z;have J:=hA (GS.cl c 0).st;rw[hv]at J I;obtain⟨b,Q⟩:∃b,(GS.cl (c+1) 0).st=b:=⟨_,U⟩;rw[Q]at J I;let⟨K,h1,k⟩:=J;have ES:=h1 w G.C G.M;have t:=Yo (F:=F) (w:=w) b;have AO:=Qi H p t N;have L:b=(c+1:Int)*gK:=by rw[<-Q];simp only[GS.st,gK];omega
 obtain⟨x,v,M⟩:∃x:gH,(x=.rd j\/x=.ng j)/\fF F.P Ê (JM F E.I x) {o 0 with w:=w} K:=by
  by_cases l:c=0;have e:b=gK:=by rw[L,l];simp[gK]
  simp only[if_pos e]at k;exact⟨.rd j,À U,k⟩;have r:¬b=gK:=by simp only[gK]at L|-;omega
  have s:gK<b/\b<1000000*gK/\b%gK=0:=by simp only[gK]at L|-;omega
  simp only[if_neg r,if_pos s]at k;exact⟨.ng j,Á U,k⟩
 let⟨T,hT⟩:=j1<|M.mF AO;have V:K.status=É\/K.status=Ĉ:=by obtain rfl|rfl:=v;exact nh (λl g h=>À h.2.1) M;exact nh (λl g ⟨c,h⟩=>À<|H.I _ _ _ _ h) M
 obtain⟨B,u,q1,q2,q3,q4,q5,q6,q7⟩:=p.Y H (kM x) C (À U) oX ES t (Cv oX) U (λx l e=>(AR H.C x l e).elim) hT V;have l:x.ad F.n=j+1:=by obtain rfl|rfl:=v<;>rfl
 have X:E.N.ad F.n=j:=by rw[a];rfl
 have E2:x.sp F.n=j:=by obtain rfl|rfl:=v<;>rfl
 have hxr:x.ik=0:=by obtain rfl|rfl:=v<;>rfl
 have e:jF E x E.I:=⟨E2.trans qy.symm,λ_ _=>U⟩;have uJ:Ô (F.n+1) (jw E x (.cl (c+1) 0) E.I).H=c+1:=by
  have h:=yP (f:=E.H) (f':=(jw E x (.cl (c+1) 0) E.I).H) (j:=j) (n:=F.n+1) Z (λi y=>by
   show(if i<x.ad F.n then nP (E.M i)else 0)=if i<E.N.ad F.n then nP (E.M i)else 0
   rw[l,X];by_cases q:i<j;rw[if_pos q,if_pos Z];rw[if_neg q,if_neg Z])
  have r:E.H j=0:=by rw[gE.H,X,if_neg Z]
  have s:(jw E x (.cl (c+1) 0) E.I).H j=1:=by show(if j<x.ad F.n then nP (E.M j)else 0)=1;rw[l,if_pos Z,p.C.h j Z];rfl
  rw[r,s]at h;omega
 refine p.G H e q1 q2 q3 V q4 (λr s=>t.C p.C oX s) q5 q6 q7 (Wd.r (Qh H p t I) e (by rw[a];obtain rfl|rfl:=v<;>rfl) (by rw[a];obtain rfl|rfl:=v<;>rfl)) (p.C.jw e (by rw[a];exact eD _) (λr h=> ?_) (λr h=> ?_) (λr=>⟨λh=> ?_,λh=> ?_⟩) (λi s h=> ?_) (λs h=>by cases h) (λr s h=>by cases h) (λy i h=> ?_) (λh=> ?_) (λh=> ?_) λ_ _=>⟨_,rfl⟩) (tJ (by rw[a];obtain rfl|rfl:=v<;>simp only[gH.rk]<;>omega)) (λh=>by obtain rfl|rfl:=v<;>cases h);obtain rfl|rfl:=v<;>obtain h|h|h|h:=h<;>cases h<;>exact hj;obtain rfl|rfl:=v<;>obtain h|h|h:=h<;>cases h<;>exact H8;obtain rfl|rfl:=v<;>cases h;obtain rfl|rfl:=v<;>cases h;cases h;exact⟨uJ.symm,hxr.symm⟩;have:=p.C.N y i h;rw[D]at this;exact⟨λW q=>(by have:=(this.1 W q).2;cases this),λr hr=>(by let⟨_,_,s,h⟩:=this.2 r hr;cases h)⟩;obtain rfl|rfl:=v<;>obtain h|h|h:=h<;>cases h;obtain rfl|rfl:=v<;>cases h
theorem PI.aiq(H:iL F)(p:PI F n zX E S m z o d w qJ)(c:d[0]?=Â g)(e:g.status=É)(i:m 0=.fS)(b:E.N=.jr 0):tF F n zX E m d w qJ:=by have f:=p.K c e i;rw[b]at f;have a:jF E (.mq F.n) E.I:=oD (by rw[b];rfl);refine p.LB H (T:=.fS) a c e (λh q=>f h<|(p.I.r.r _<|jE c).fA<|AS q) (by rw[b];simp[gH.n8]) (by rw[b];simp[gH.jR]) (p.C.r a (by rw[b];exact eD _) (by rw[b];rfl) (by rw[b];rfl) (λq h=> ?_) (λq h=> ?_) (λr=>⟨λh=>(by cases h),λh=> ?_⟩) (λh=>by obtain h|h|h:=h<;>cases h) (λh=>by cases h) λ_ _=>p.C.S (λv q=>by rw[b]at q;cases q) λq=>by rw[b]at q;cases q) (tJ<|by rw[b];simp only[gH.rk];omega) (λh=>by cases h);all_goals grind
theorem PI.air(H:iL F)(p:PI F n zX E S m z o d w qJ)(c:d[0]?=Â g)(e:g.status=É)(i:m 0=.fS)(b:E.N=.mq 0):tF F n zX E m d w qJ:=by have f:=p.K c e i;rw[b]at f;have a:jF E (.fT .jG) E.I:=oD (by rw[b];rfl);refine p.LB H (T:=.fS) a c e (λh r=>f h<|(p.I.r.r _<|jE c).fA<|AS r) (by rw[b];rfl) (by rw[b];simp[gH.jR]) (p.C.r a (by rw[b];simp[gH.jR]) (by rw[b];rfl) (by rw[b];rfl) (λr h=> ?_) (λr h=> ?_) (λr=>⟨λh=>(by cases h),λh=>(by cases h)⟩) (λh=>by obtain h|h|h:=h<;>cases h) (λh=>by cases h) λh _=>absurd rfl<|h _) (tJ<|by rw[b];simp only[gH.rk,km.rk];omega) (λh=>by cases h);all_goals grind
def CV{v:km}:∀j,(gH.fT v=.go j\/gH.fT v=.ng j\/gH.fT v=.rd j\/gH.fT v=.jl j)->j<=F.n:=λj h=>by obtain h|h|h|h:=h<;>cases h
def CW{v:km}:∀j,(gH.fT v=.ng j\/gH.fT v=.rd j\/gH.fT v=.jl j)->1<=j:=λj h=>by obtain h|h|h:=h<;>cases h
def CX{v:km}:∀r,(gH.fT v=.jr r->r<=F.q)/\(gH.fT v=.mq r->r<=F.n):=λr=>⟨λh=>(by cases h),λh=>(by cases h)⟩
def PI.ais(H:iL F)(p:PI F n zX E S m z o d w qJ)(c:d[0]?=Â g)(e:g.status=É)(i:m 0=.fS)(b:E.N=.fT .jG):tF F n zX E m d w qJ:=by have f:=p.K c e i w<|p.I.r.r _<|jE c;rw[b]at f;let⟨k,q,j,l⟩:=f;have a:jF E (.fT (.nO (.fV k))) E.I:=oD (by rw[b];rfl);exact p.LB H (T:=.fS) a c e (λr h=>⟨j,K4 l h⟩) (by rw[b];rfl) (by rw[b];rfl) (p.C.r a (by rw[b];exact eE _) (by rw[b];rfl) (by rw[b];rfl) CV CW CX (λh=>by obtain h|h|h:=h<;>cases h) (λh=>by cases h) λh _=>absurd rfl<|h _) (tJ<|by rw[b];simp only[gH.rk,km.rk];omega) λh=>by cases h
theorem PI.ait(H:iL F)(p:PI F n zX E S m z o d w qJ){v:SP}(k:d[0]?=Â g)(jh:g.status=É)(ht:m 0=.fS)(b:E.N=.fT (.nO v)):lJ F n zX E m d w qJ kJ 0:=by
 have iu:=jE k;have hJ:=p.K k jh ht w<|p.I.r.r _ iu;rw[b]at hJ;obtain⟨hd,W⟩:=hJ;have hG:=p.M.C;obtain⟨_,W⟩:=XW W hG;have X:E.N.jR F.n<=F.n:=by rw[b];exact eE _
 obtain⟨q,g',es,j,i,O,h4⟩|⟨g',j,i,O⟩|⟨g',c,f,P,xx,j,i⟩:=W;have r:∀e∈es,vM F.toFx e:=by grind [AG,oX]
 obtain⟨s,Q,l⟩:=O;obtain⟨B,u,t,C,D,I,K,L,M⟩:=p.Y (J:=JM F E.I<|.fT (.nO q)) (T:=.fS) H (kM<|.fT (.nO q)) k (À U) oX j (À U) r (by obtain rfl|rfl:=i<;>rfl) (λx y e=>(AR H.C x y e).elim) (λh a=>⟨hd,K4 ⟨s,Q,l⟩ a⟩)<|À (l _ _ Q).1;have a:jF E (.fT (.nO q)) E.I:=oD (by rw[b];rfl);exact p.G H a t C D (À (l _ _ Q).1) I (λ_ _=>U) K L M (Wd.r p.M a (by rw[b];rfl)<|by rw[b];rfl) (p.C.r a X (by rw[b];rfl) (by rw[b];rfl) CV CW CX (λh=>by obtain h|h|h:=h<;>cases h) (λh=>by cases h) λh _=>absurd rfl<|h _) (aik b ht h4) (λh=>by cases h);obtain⟨T,Y⟩:=j1 O;have N:=nh (λl g h=>À h.2.1) O;obtain⟨B,u,t,C,D,I,K,L,M⟩:=p.Y H (kM<|.fT .na) k (À U) oX j (À U) (AG oX) U (λx y e=>(AR H.C x y e).elim) Y N;have a:jF E (.fT .na) E.I:=oD (by rw[b];rfl);refine p.G H a t C D N I (λ_ _=>U) K L M (Wd.r p.M a (by rw[b];rfl)<|by rw[b];rfl) (p.C.r a X (by rw[b];rfl) (by rw[b];rfl) CV CW CX (λ_=> ?_) (λh=>by cases h) λh _=>absurd rfl<|h _) (tJ<|by rw[b];simp only[gH.rk,km.rk];omega) (λh=>by cases h);cases Q:E.b with|cl c f=>have:=i c f Q;have:=(p.C.t c f Q).1;omega|ky f=>exact(p.C.g f Q).1|iK r s=>exact(p.C.u r s Q).1
 obtain⟨e1,Q⟩:=p.C.t c f P;rw[b]at Q;have Q:f=0:=Q;subst Q;obtain⟨hv,Hs⟩:=(P▸hG).XF xx Z;rw[P,hv]at j;rw[hv]at Hs;rw[P]at i;have e:(GS.cl c 0).st%gK=0:=by simp only[GS.st,gK];omega
 simp only[e,if_true]at i;have V:=Yo (F:=F) (w:=w) (GS.cl c<|0+1).st;obtain⟨T,Y⟩:=j1<|i.mF<|Qi H p V iu;have N:=nh (λl g h=>À h.2.1) i;obtain⟨B,u,t,C,D,I,K,L,M⟩:=p.Y H (kM<|.fT .wr) k (À U) oX j V (Cv oX) U (λx y e=>(AR H.C x y e).elim) Y N;have a:jF E (.fT .wr) E.I:=oD (by rw[b];rfl);refine p.G H a t C D N I (λy l=>V.C p.C oX l) K L M (Wd.r (Qh H p V Hs) a (by rw[b];rfl)<|by rw[b];rfl) (p.C.jw a X CV CW CX (λl f h=> ?_) (λf h=>by cases h) (λr s h=>by cases h) (λy q h=> ?_) (λh=>by obtain h|h|h:=h<;>cases h) (λh=>by cases h) λh _=>absurd rfl<|h _) (tJ<|by rw[b];simp only[gH.rk,km.rk];omega) (λh=>by cases h);rw[(Qg (E:=E) (x:=.fT .wr) (G:=.cl c (0+1)) (dk:=E.I)<|by rw[b];rfl)];cases h;exact⟨e1,U⟩;have:=p.C.N y q h;grind
def PI.aiu(H:iL F)(p:PI F n zX E S m z o d w qJ)(c:d[0]?=Â g)(j:g.status=É)(k:m 0=.fS)(b:E.N=.fT .wr):lJ F n zX E m d w qJ kJ 0:=by have f:=p.K c j k w<|p.I.r.r _<|jE c;rw[b]at f;let⟨K,_,L,q,i⟩:=f;have a:jF E (.fT .lQ) E.I:=oD (by rw[b];rfl);let⟨r,s,t⟩:=P3 H p oX (À U) (Á U) (À ⟨U,U⟩) λx h e=>AR H.C x h e;let⟨T,x⟩:=j1 i;have e:=nh (λl g h=>À h.2.1) i;obtain⟨B,y,l,u,v,C,D,G,I,J⟩:=p.CG H (kM<|.fT .lQ) c (q w) fD fD r s x e;exact p.G H a v C D e G (λ_ _=>U) I (t y l u) J (Wd.r p.M a (by rw[b];rfl)<|by rw[b];rfl) (p.C.r a (by rw[b];exact eE _) (by rw[b];rfl) (by rw[b];rfl) CV CW CX (λh=>by obtain h|h|h:=h<;>cases h) (λh=>by cases h) λh _=>absurd rfl<|h _) (tJ<|by rw[b];simp only[gH.rk,km.rk];omega) λh=>by cases h
def PI.aiv(H:iL F)(p:PI F n zX E S m z o d w qJ)(i:d[0]?=Â g)(s:g.status=É)(t:m 0=.fS)(f:E.N=.fT .ij):lJ F n zX E m d w qJ kJ 0:=by have k:=p.K i s t w<|p.I.r.r _<|jE i;rw[f]at k;let⟨O,_,v⟩:=k;let⟨a,b,y⟩:=p.C.O f;have q:=p.M.C;rw[y]at q;let⟨P,C,j⟩:=v 0;simp only[if_true]at j;have c:jF E (.fT .na) E.I:=oD (by rw[f];rfl);let⟨T,D⟩:=j1 j;have r:=nh (λl g h=>À h.2.1) j;obtain⟨B,u,l,G,I,J,K,L,M⟩:=p.Y H (kM<|.fT .na) i (À U) oX (C w q.C) (À U) (AG oX) U (λx N e=>(AR H.C x N e).elim) D r;exact p.G H c l G I r J (λ_ _=>U) K L M (Wd.r p.M c (by rw[f];rfl)<|by rw[f];rfl) (p.C.r c (by rw[f];exact eE _) (by rw[f];rfl) (by rw[f];rfl) CV CW CX (λ_=>p.C.B<|À f) (λh=>by cases h) λh _=>absurd rfl<|h _) (tJ<|by rw[f];simp only[gH.rk,km.rk];omega) λh=>by cases h
theorem PI.aiw(H:iL F)(p:PI F n zX E S m z o d w qJ){g:Ç}(f:d[0]?=Â g)(j:g.status=É)(v:m 0=.fS)(b:E.N=.fT .lQ):lJ F n zX E m d w qJ kJ 0:=by
 have C:=jE f;have D:=p.K f j v w<|p.I.r.r _ C;rw[b]at D;obtain⟨hd,_,I,X,g',h1,J⟩:=D;have K:=p.M.C;by_cases L:E.b.sm=0;have s:=K.I;rw[L]at s;obtain⟨O,l⟩:=p.h;rw[b]at O l;obtain⟨B,t,c,q,M⟩:=Pp f<|X w s;have hw:∀x,ĩ F.P g {g with status:=í} w x=x:=by intro x;unfold ĩ;grind
 have r:∀k,k≠0->B[k]?=d[k]?:=by grind
 have Q:iB F.P F.S E.Y S m z o B w (qJ++#[]):=by
  rw[dK];obtain⟨g0,V,T,f3,f4⟩:=p.I.C _ g f;have W:g=g0:=by
   rw[l]at T;cases T with|gS=>rfl|qz h I=>cases j
  subst W;refine⟨?_,λk y a=> ?_,λk a=>p.I.I k<|by rwa[<-c]⟩;rw[show(λi=>i<B.size)=(λi=>i<d.size) by rw[c]];exact p.I.r;by_cases e:k=0;subst e;rw[q]at a;obtain rfl:=dh a;refine⟨g,V,?_,À j,Á v⟩;rw[l];exact .qz j I;rw[r k e]at a;exact p.I.C k y a
 refine⟨E,S,m,z,o,B,w,#[],t,c,λh=>h,.r p.N (c.trans p.b) Q (by rw[c];exact p.a) p.M p.C (by rw[dK];exact p.d) (λk y a i=> ?_) (by rw[dK];exact p.f),PW (λ_ _=>U) (by unfold Ph.N;omega) (by rw[ER f,if_pos j]) (by rw[ER q,if_neg fD]) λk a=>P5<|r k a⟩;by_cases e:k=0;grind;rw[r k e]at a;exact p.c k y a i;obtain⟨a,s,O⟩:=X1 L;have k:=O▸K;have ES:=h1 w _ (by simp only[GS.sm];omega) k.I k.N;have i:lZ F.C w (w.setCell (iJ F.C)<|Û è<|(GS.iK a<|s+1).sm-1):=Á ⟨_,_,Á U,U⟩;obtain⟨T,hT⟩:=j1<|J.mF<|Qi H p i C;have Q:=nh (λl g h=>À h.2.1) J;obtain⟨B,u,t,c,q,M,q5,q6,q7⟩:=p.Y H (kM<|.fT .ij) f (À U) oX ES i (Hn oX) (Ho _).2.2.2 (λx l e=>(AR H.C x l e).elim) hT Q;obtain⟨V,l,b3⟩:=p.C.u a (s+1) O;rw[b]at l;have l:a+(s+1)=1:=l;have ha:a=0:=Z;have Qj:s=0:=Z;subst ha Qj;have e:jF E (.fT .ij) E.I:=oD (by rw[b];rfl);have W:=Qg (E:=E) (x:=.fT .ij) (G:=.iK 0 0) (dk:=E.I) (by rw[b];rfl);refine p.G H e t c q Q M (λj' r=>i.C p.C oX r) q5 q6 q7 (Wd.r (Qh H p i k.lQ) e (by rw[b];rfl)<|by rw[b];rfl) (p.C.jw e (by rw[b];exact eE _) CV CW CX (λc' r h=>by cases h) (λr h=>by cases h) (λr s h=> ?_) (λy r h=> ?_) (λ_=>by rwa[W]) (λ_=>⟨0,0,U⟩) λh _=>absurd U<|h _) (tJ<|by rw[b];simp only[gH.rk,km.rk];omega) (λh=>by cases h);rw[W];cases h;exact⟨V,U,λh=>by omega⟩;have:=p.C.N y r h;grind
end
section
variable{S:Nat->Jd}{a:Nat->gW}{d:Nat->jc}{f:Nat->fx}{b:Array Ç}
def iB.aix(q:iB P i X S a d f b w qJ)(r:b[k]?=Â g)(h:Aw n Æ g):∃z,d k=.uG n z:=by
 let⟨l,u,v,j,s,m,y,t⟩:=h;let⟨g0,_,o,p,_⟩:=q.C k g r;generalize d k=K at o;cases o with
 |gS=>rw[l]at p;obtain e|e:=p<;>cases e
 |qz h e=>simp only[e]at j;cases j
 |vG e z h=>
  simp only[Ő,dI,dJ]at j;rw[<-j.1]at m;have:s=Ň e z:=fN m;subst this;have:e=n:=by simpa[Ň]using t
  subst this;exact⟨z,U⟩|oT e z h=>cases l
def iB.Yp(o:iB P i X S a d f b w qJ){x:Ç}(p:b[k]?=Â x)(j:x.status=í)(q:d k=.uG n z):∃g,x=Ő g #[Ň n z] (.recv Ê):=by
 let⟨g,_,l,m,_⟩:=o.C k x p;rw[q]at l;cases l with
 |gS=>rw[j]at m;obtain e|e:=m<;>cases e
 |vG _ _ h=>exact⟨g,U⟩|oT _ _ h=>cases j
def aiy{g0:Ç}:Aw i Æ (Ő g0 #[Ň i z]<|.recv Ê):=⟨U,_,_,U,Ň i z,fD,U,by simp[Ň]⟩
theorem aiz{g0:Ç}{r:Nat}(h:w.heap[i]?=Â (ņ n q Ê j r yQ)):((Ő g0 #[Ň i z]<|.recv Ê).again w).status=É:=by unfold Ī Ő;simp[Ň,h]
theorem aiA(h:(g.again w).status=í):g.again w=g/\g.status=í:=by unfold Ī at h|-;grind
end
section
variable{F:Ph}{E o:gE F}{S:Nat->Jd}{a C:Nat->gW}{d:Nat->jc}{f:Nat->fx}{b m:Array Ç}{u:ï}
def PI.Yq(p:PI F j zX E S a d f b w qJ){x:Ç}(n:b[k]?=Â x)(h:Aw i Æ x):∃g,g+2<=E.r/\E.M (g+1)=Ã/\k=F.L+1+g/\E.I g=i/\∃r,E.C g=.oU r:=by
 let⟨z,l⟩:=p.I.aix n h;have s:=jE n;by_cases o:k=0;subst o;rw[p.h.2]at l;revert l;cases E.N with
 |fT v=>cases v<;>intro h<;>cases h
 |_=>intro h;cases h
 by_cases q:k<F.L;rw[(p.l k Z q).2.2]at l;cases l;have t:=p.b;obtain⟨y,rfl⟩:∃y,k=F.L+y:=⟨k-F.L,Z⟩;cases m:E.M y with
 |some e=>rw[(p.k y e Z m).2.1]at l;cases l
 |none=>
  cases y with
  |zero=>rw[dm,(p.m Z m).2]at l;cases l
  |succ g=>
   rw[show F.L+(g+1)=F.L+1+g by omega,(p.g g Z m).2]at l;cases e:E.C g with
   |oU r=>
    rw[e]at l;injection l with l _;exact⟨g,Z,m,Z,l,r,e⟩
   |fT r v=>rw[e]at l;cases v<;>cases l
   |iA r|qx r=>rw[e]at l;cases l
theorem Yr(h:vI n j i k)(c:1<=n)(a:j=i%n):i=j+k*n:=by
 have e:i=j+i/n*n:=by rw[a,Nat.mul_comm];exact(bT i n).symm
 have b:k=i/n:=by refine bS (dz λq=> ?_) (dz λq=> ?_);have:=(h<|i/n).1 q;omega;have d:=mt (h k).2 Z;have f:(k+1)*n<=i/n*n:=eB n q;grind
 rwa[b]
theorem Ys(h:vI n j i k)(b:1<=n)(c:j=i%n):vI n j (i+1) (k+1):=by have e:=Yr h b c;intro a;constructor;intro q;have:a*n<=k*n:=eB n Z;omega;intro q;refine b8 λd=> ?_;have:(k+1)*n<=a*n:=eB n d;grind
theorem Yt(h:vI n j i k)(b:j<n)(c:j≠i%n):vI n j (i+1) k:=by intro a;rw[h a];grind [Ē,ő]
def PI.aiB(H:iL F)(p:PI F j zX E S a d f b w qJ){r:Nat}(hi:b[0]?=Â g)(jh:g.status=É)(ht:a 0=.fS)(C:E.N=.jr (r+1)):lJ F j zX E a b w qJ kJ 0:=by
 have hn:=H.C.N;have Lt:=(p.C.L<|r+1).1 C;have qy:E.r=F.n+1:=by rw[gE.r,C];rfl
 obtain⟨hs,hk⟩:=p.h;rw[C]at hs hk;obtain⟨Q,hQ⟩:∃Q,Q=F.q-(r+1):=⟨_,U⟩;obtain⟨c,hj⟩:∃c,c=Q%F.n:=⟨_,U⟩;have hs:S 0=G9 F.P (0==0) (E.I c) (F.c Q) (Hh F E.I r):=by rw[hs,hj,hQ];rfl
 have xw:c<F.n:=by rw[hj];exact χ _ hn
 have O:c+2<=E.r:=Z;have hY:E.Y (E.I c):=Á<|Á ⟨c,O,U⟩;obtain⟨W,s,hc,vO,LC,AK,AL⟩:=p.M.kz c O;have rS:decide (c<E.N.jR F.n)=Æ:=by rw[C];simp[gH.jR]
 rw[rS]at hc;have Hv:E.N.n8 F.q=Q:=by rw[C,hQ];rfl
 rw[Hv]at vO;have eQ:=Yr vO hn hj;have hsQ:s<=s*F.n:=ã _ hn;have Yu:(gH.jr r).n8 F.q=Q+1:=by simp only[gH.n8];omega
 have EV:=(p.I.r).N _ hY;have Yv:∀o,(gH.jr r=.go o\/gH.jr r=.ng o\/gH.jr r=.rd o\/gH.jr r=.jl o)->o<=F.n:=λo h=>by obtain h|h|h|h:=h<;>cases h
 have Yw:∀o,(gH.jr r=.ng o\/gH.jr r=.rd o\/gH.jr r=.jl o)->1<=o:=λo h=>by obtain h|h|h:=h<;>cases h
 have Yx:∀I,(gH.jr r=.jr I->I<=F.q)/\(gH.jr r=.mq I->I<=F.n):=λI=>⟨λh=>(by cases h;omega),λh=>(by cases h)⟩;have aM:=p.C.S (λv q=>by rw[C]at q;cases q) (λq=>by rw[C]at q;cases q);by_cases hp:∃(k:Nat)(x:Ç),b[k]?=Â x/\Aw (E.I c) Æ x;obtain⟨k,gj,EG,lC⟩:=hp;obtain⟨o,qB,he,rfl,CY,I,CZ⟩:=p.Yq EG lC;have ej:=p.C.M _ _ qB O CY;subst ej;have hb:=lC.1;obtain⟨K8,K7⟩:=p.g o qB he;rw[CZ]at K8 K7;have aiC:S (F.L+1+o)=yJ F.P (F.L+1+o==0) (E.I o) F.z λx=>match x with|some v=>λl g=>v=F.c (o+I*F.n)->sL F.P Æ F.B (F.I<|F.r<|o+I*F.n) (F.e (E.I o)<|o+I*F.n) .jG l g|none=>Cs F:=by rw[AH H.C o];exact K8
 have mP:F.L+1+o≠0:=Z;have Px:a (F.L+1+o)=.fS:=by obtain⟨g0,_,i,e,X⟩:=p.I.C _ gj EG;refine X.resolve_left λq=> ?_;subst q;rw[hb]at e;obtain q|q:=e<;>cases q
 have P8:W=#[]:=by obtain⟨h1,_⟩|⟨t,_,_,h2,⟨D,V,_⟩|⟨D,cap,i,e,V,X⟩⟩:=p.c _ gj EG hb;exact absurd h1 mP;have:t=o:=Z;subst this;rw[CZ]at V;cases V;have:t=o:=Z;subst this;rw[hc]at X;injection X with X;injection X
 subst P8;rw[CZ]at hc LC AK;simp only[iD.jz]at hc LC AK;have hsr:s=I:=by simp at AK;omega
 subst hsr;obtain⟨m,u,T,Tj,g',gj',q1,q2,q3,q4,q5,q6,q7,q8,q9⟩:=p.I.ag7 hi hk ht hs hY hc mP EG hb K7 Px aiC (kW F (E.I o)<|.fT s .jG) (λG M K e i=>by obtain⟨j3,a1,_,a3,y,_⟩:=p.Yq e i;have:=p.C.M _ _ a1 O y;omega);have Yy:=q9.lY (J:=JW F (E.I o) o<|.fT s .jG) (λl g h=>by rw[gi _ _ mP,ig]at h;exact h<|by rw[eQ]);have Yz:fP (fP (fP S (F.L+1+o) ((match(Â (F.c Q):Option Ì)with|some v=>λl g=>v=F.c (o+s*F.n)->sL F.P Æ F.B (F.I<|F.r<|o+s*F.n) (F.e (E.I o)<|o+s*F.n) .jG l g|none=>Cs F))) 0 (Hh F E.I r)) (F.L+1+o) (JW F (E.I o) o (.fT s .jG))=fP (fP S (F.L+1+o) (JW F (E.I o) o (.fT s .jG))) 0 (JM F E.I (.jr r)):=by
  funext k;by_cases v:k=F.L+1+o;subst v;rw[ig,gi _ _ mP,ig];by_cases k2:k=0;subst k2;rw[gi _ _<|cR mP,ig,ig];rfl;rw[gi _ _ v,gi _ _ k2,gi _ _ v,gi _ _ k2,gi _ _ v]
 rw[Yz]at Yy;have Pw:=p.C.G (x:=.fT s .jG) O he (λk=>by rw[CZ,P1 U];rfl) (λD h=>by obtain⟨_,h⟩|h|h:=h<;>cases h;exact Z) (λD h=>by obtain h|h|h:=h<;>cases h) (λD h=>by cases h) (λD h=>by cases h);have l:jF (iy E o<|.fT s .jG) (.jr r) E.I:=⟨by show _=E.N.sp F.n;rw[C];rfl,λ_ _=>U⟩;have e:(jw (iy E o<|.fT s .jG) (.jr r) E.b E.I).r=E.r:=l.r;obtain⟨z1,z2,z3,z4,z5⟩:=p.M.H H p.a p.C O;refine⟨jw (iy E o<|.fT s .jG) (.jr r) E.b E.I,_,_,_,_,m,_,u,q1,q2,(λh=>by have h:=h;cases h),.r ((p.N.N H.C O he).K H.C l) (by rw[e];exact q2.trans p.b) (by rw[CU l];exact Yy) ?_ ⟨z4,z5,λt yT=> ?_,z1,z2,λt yT D Cl h1=> ?_⟩ (Pw.r l (by show E.N.jR F.n<=_;rw[C];exact eD _) (by show _=E.N.ad F.n;rw[C];rfl) (by show _=E.N.ik;rw[C];rfl) Yv Yw Yx (λh=>by obtain h|h|h:=h<;>cases h) (λh=>by cases h) λ_ _=>aM) (by rw[e];exact Lv p.d q8) (λk y K lL=> ?_) λt D a1 a2 a3=> ?_,?_⟩;rw[q2];exact(((p.a.r<|by rw[CZ];rfl).H l).G<|cZ Hu.symm);have AT:t+2<=E.r:=Z;show∃W G,(w.setChan (E.I o) _ _ _ _ _ _).heap[E.I t]?=Â (ņ F.q W (decide<|t<(gH.jr r).jR F.n) G ((iy E o<|.fT s .jG).C t).jz Æ)/\vI F.n t ((gH.jr r).n8 F.q) G/\((iy E o<|.fT s .jG).C t).jz<=G/\W.size=G-((iy E o<|.fT s .jG).C t).jz/\∀i,i<G-((iy E o<|.fT s .jG).C t).jz->W[i]?=Â (F.c<|t+(((iy E o<|.fT s .jG).C t).jz+i)*F.n);rw[Yu];by_cases M:t=o;subst M;rw[kK];refine⟨#[],s+1,by rw[Lu EV];rfl,Ys vO hn hj,eE _,by simp[iD.jz],λi mR=> ?_⟩;have hi2:i<s+1-(s+1):=mR;omega;rw[jA _ M,rX λq=>M<|p.C.M _ _ AT O q];obtain⟨Qk,G,y1,y2,y3⟩:=p.M.kz t AT;rw[Hv]at y2;refine⟨Qk,G,?_,Yt y2 Z Z,y3⟩;rw[y1,C];rfl;have AT:t+2<=E.r:=Z;have CR:D<((iy E o<|.fT s .jG).C t).lS:=h1;by_cases M:t=o;subst M;rw[kK]at CR;exact z3 t AT D Cl (by rw[CZ];exact CR);rw[jA _ M]at CR;exact z3 t AT D Cl CR;by_cases v:k=0;subst v;rw[q3]at K;obtain rfl:=dh K;rw[q4]at lL;cases lL;by_cases k2:k=F.L+1+o;subst k2;rw[q5]at K;obtain rfl:=dh K;rw[q6]at lL;cases lL;rw[q7 k v k2]at K;obtain⟨h1,_⟩|⟨t,yT,AQ,h2,V|⟨r1,cap,s1,I,V,X⟩⟩:=p.c k y K lL;exact absurd h1 v;exact Á ⟨t,Z,AQ,h2,À (by show∃D,(iy E o _).C t=_/\_;rw[jA _ Z];exact V)⟩;have M:t≠o:=Z;exact Á ⟨t,Z,AQ,h2,Á ⟨r1,cap,s1,I,by show(iy E o _).C t=_;rw[jA _ M];exact V,by show(w.setChan (E.I o) _ _ _ _ _ _).heap[E.I t]?=_;rw[rX λq=>M<|p.C.M _ _ yT O q];exact X⟩⟩;have CF:(iy E o<|.fT s .jG).C t=.iA D:=a2;rw[jA _ (λe=>by subst e;rw[kK]at CF;cases CF)]at CF;exact(p.f t D Z CF a3).app u;refine À ⟨0,by unfold Ph.N;omega,À ?_,λk ni sN=> ?_⟩;show((jw (iy E o<|.fT s .jG) (.jr r) E.b E.I).G _ 0).1<(E.G a 0).1;rw[EK,EK,C];show(gH.jr r).rk F<(gH.jr<|r+1).rk F;simp only[gH.rk];omega;show(jw (iy E o<|.fT s .jG) (.jr r) E.b E.I).G _ k=E.G a k\/AB ((jw (iy E o<|.fT s .jG) (.jr r) E.b E.I).G _ k) (E.G a k);by_cases k2:k=F.L+1+o;subst k2;refine Á<|À ?_;rw[vL H.C (E:=jw (iy E o<|.fT s .jG) (.jr r) E.b E.I) (show E.M (o+1)=Ã from he),vL H.C he];show((iy E o<|.fT s .jG).C o).rk F<(E.C o).rk F;rw[kK,CZ];simp only[iD.rk,km.rk];have hm:F.n+3000<=(F.n+3000)*(F.q+3-s):=ã _ Z;omega;refine À (AE (λh=>absurd h sN) (λ_ _=>U) (λ_=>U) (λ_ _=>U) (λh1 _=> ?_)<|by rw[gi _ _ sN,gi _ _ k2]);show((iy E o<|.fT s .jG).C _).rk F=_;rw[jA _ Z];obtain⟨m,u,T,g',q1,q2,q3,q4,q5,q6,q7⟩:=p.I.jr hi hk ht hs hY hc Z λk x hkx lC=>hp ⟨k,x,hkx,lC⟩;have e0:d=fP d 0 (kM<|.jr r):=by funext k;by_cases v:k=0;subst v;rw[ig,hk];rfl;rw[gi _ _ v]
 rw[e0]at q7;have l:jF E (.jr r) E.I:=oD (by rw[C];rfl);have e:(jw E (.jr r) E.b E.I).r=E.r:=l.r;obtain⟨z1,z2,z3,z4,z5⟩:=p.M.H H p.a p.C O;refine⟨jw E (.jr r) E.b E.I,_,_,_,_,m,_,u,q1,q2,(λh=>by have h:=h;cases h),.r (p.N.K H.C l) (by rw[e];exact q2.trans p.b) (by rw[CU l];exact q7) ?_ ⟨z4,z5,λt yT=> ?_,z1,z2,λt yT=>z3 t Z⟩ (p.C.r l (by rw[C];exact eD _) (by rw[C];rfl) (by rw[C];rfl) Yv Yw Yx (λh=>by obtain h|h|h:=h<;>cases h) (λh=>by cases h) λ_ _=>aM) (by rw[e];exact Lv p.d q6) (λk y K lL=> ?_) λt D a1 a2 a3=>(p.f t D Z a2 a3).app u,tJ<|by rw[C];simp only[gH.rk];omega⟩;rw[q2];exact((p.a.H l).G<|cZ Hu.symm);have AT:t+2<=E.r:=Z;show∃W G,(w.setChan (E.I c) _ _ _ _ _ _).heap[E.I t]?=Â (ņ F.q W (decide<|t<(gH.jr r).jR F.n) G (E.C t).jz Æ)/\vI F.n t ((gH.jr r).n8 F.q) G/\(E.C t).jz<=G/\W.size=G-(E.C t).jz/\∀i,i<G-(E.C t).jz->W[i]?=Â (F.c<|t+((E.C t).jz+i)*F.n);rw[Yu];by_cases M:t=c;subst M;refine⟨W.push<|F.c Q,s+1,by rw[Lu EV];rfl,Ys vO hn hj,Z,by rw[Array.size_push];omega,λi mR=> ?_⟩;rw[cF];by_cases D:i=W.size;rw[if_pos D,eQ,show(E.C t).jz+i=s by omega];rw[if_neg D];exact AL i Z;rw[rX λq=>M<|p.C.M _ _ AT O q];obtain⟨Qk,G,y1,y2,y3⟩:=p.M.kz t AT;rw[Hv]at y2;refine⟨Qk,G,?_,Yt y2 Z Z,y3⟩;rw[y1,C];rfl;by_cases v:k=0;subst v;rw[q3]at K;obtain rfl:=dh K;rw[q4]at lL;cases lL;rw[q5 k v]at K;obtain⟨h1,_⟩|⟨t,yT,AQ,h2,V|⟨r1,cap,s1,I,V,X⟩⟩:=p.c k y K lL;exact absurd h1 v;exact Á ⟨t,Z,AQ,h2,À V⟩;have M:t≠c:=λe=>by subst e;have D:=(p.g t yT AQ).2;rw[V,<-h2]at D;obtain⟨g0,i⟩:=p.I.Yp K lL D;exact hp ⟨k,y,K,by rw[i];exact aiy⟩
 exact Á ⟨t,Z,AQ,h2,Á ⟨r1,cap,s1,I,V,by show(w.setChan (E.I c) _ _ _ _ _ _).heap[E.I t]?=_;rw[rX λq=>M<|p.C.M _ _ yT O q];exact X⟩⟩
end
section
variable{F:Ph}{E B:gE F}{S:Nat->Jd}{m D:Nat->gW}{o:Nat->jc}{G:Nat->fx}{c d:Array Ç}{u:ï}{sl:Option (Nat×Nat)}
theorem PI.aiD(H:iL F)(p:PI F n zX E S m o G c w qJ)(hi:c[0]?=Â g)(ht:m 0=.fS)(l:E.N=.mq (J+1)):lJ F n zX E m c w qJ sl 0:=by
 have C:=p.I.r;have hL:=H.C.r;have Py:=(p.C.L<|J+1).2 l;have qy:E.r=F.n+1:=by rw[gE.r,l];rfl
 obtain⟨L,Q⟩:=p.h;rw[l]at L Q;obtain⟨j,hj⟩:∃j,j=F.n-(J+1):=⟨_,U⟩;have L:S 0=K3 F.P (0==0) (E.I j) (Ct F E.I J):=by rw[L,hj];rfl
 have z:j+2<=E.r:=Z;have X:E.Y (E.I j):=Á<|Á ⟨j,z,U⟩;obtain⟨M,s,hc,vO,LC,AK,AL⟩:=p.M.kz j z;have rS:decide (j<E.N.jR F.n)=Æ:=by rw[l];simp only[gH.jR];exact decide_eq_false Z
 rw[rS]at hc;have EV:=C.N _ X;have Cz:(w.setChan (E.I j) F.q M Ê s (E.C j).jz Æ).heap[E.I j]?=Â (ņ F.q M Ê s (E.C j).jz Æ):=Lu EV;have aM:=p.C.S (λv q=>by rw[l]at q;cases q) (λq=>by rw[l]at q;cases q);obtain⟨d,u,T,g',q1,V,q3,q4,q5,q6,q7,q8,q9⟩:=p.I.mq hi Q ht L X (p.C.o j z).2.2 hc;have e0:o=fP o 0 (kM<|.mq J):=by funext k;by_cases B:k=0;subst B;rw[ig,Q];rfl;rw[gi _ _ B]
 rw[e0]at q9;have v:jF E (.mq J) E.I:=oD (by rw[l];rfl);have e:(jw E (.mq J) E.b E.I).r=E.r:=v.r;obtain⟨z1,z2,z3,z4,z5⟩:=p.M.H H p.a p.C z;have P4:=p.d.r ⟨λD I a _=>q6 D I,À U,λD I a x ha hl _=> ?_,λD I a y ha _ hl=> ?_,λD I b _=>q8 D I _,λx _ _=>⟨λJ hr=>hr.appOther q6 Z,λe=>by omega⟩⟩;refine⟨jw E (.mq J) E.b E.I,_,_,_,_,d,_,u,q1,V,(λh=>by have h:=h;cases h),.r (p.N.K H.C v) (by rw[e];exact V.trans p.b) (by rwa[CU v]) ?_ ⟨z4,z5,λf N=> ?_,z1,z2,λf N=>z3 f Z⟩ (p.C.r v (by rw[l];simp only[gH.jR];omega) (by rw[l];rfl) (by rw[l];rfl) (λi h=> ?_) (λi h=> ?_) (λr'=>⟨λh=>(by cases h),λh=> ?_⟩) (λh=>by obtain h|h|h:=h<;>cases h) (λh=>by cases h) λ_ _=>aM) (by rwa[e]) (λk y rU lL=> ?_) λf i W t K=>(p.f f i Z t K).app u,tJ<|by rw[l];simp only[gH.rk];omega⟩;rw[V];exact((p.a.C<|cZ Hu.symm).H v);have W:f+2<=E.r:=Z;show∃K t,(w.setChan (E.I j) F.q M Ê s (E.C j).jz Æ).heap[E.I f]?=Â (ņ F.q K (decide<|f<(gH.mq J).jR F.n) t (E.C f).jz Æ)/\vI F.n f ((gH.mq J).n8 F.q) t/\(E.C f).jz<=t/\K.size=t-(E.C f).jz/\∀i,i<t-(E.C f).jz->K[i]?=Â (F.c<|f+((E.C f).jz+i)*F.n);have aiE:(gH.mq J).n8 F.q=E.N.n8 F.q:=by rw[l];rfl
 rw[aiE];by_cases O:f=j;subst O;refine⟨M,s,?_,vO,LC,AK,AL⟩;rw[Cz,show decide (f<(gH.mq J).jR F.n)=Ê from decide_eq_true (by simp only[gH.jR];omega)];rw[rX λq=>O<|p.C.M _ _ W z q];obtain⟨K,t,y1,y2⟩:=p.M.kz f W;refine⟨K,t,?_,y2⟩;rw[y1,l];have:decide (f<(gH.mq<|J+1).jR F.n)=decide (f<(gH.mq J).jR F.n):=by apply decide_eq_decide.2;simp only[gH.jR];omega
 rw[this];grind;grind;cases h;omega;by_cases B:k=0;grind;obtain⟨h,t⟩:∃h,c[k]?=Â h:=by grind
 rw[q5 k h B t]at rU;obtain rfl:=dh rU;obtain⟨_,Ql⟩:=aiA lL;obtain⟨h1,_⟩|⟨f,N,K,W,i|⟨r1,cap,s1,r',i,h4⟩⟩:=p.c k h t Ql;exact absurd h1 B;exact Á ⟨f,Z,K,W,À i⟩;have O:f≠j:=λe=>by subst e;have YA:=(p.g f N K).2;rw[i,<-W]at YA;obtain⟨g0,rn⟩:=p.I.Yp t Ql YA;grind [aiz]
 exact Á ⟨f,Z,K,W,Á ⟨r1,cap,s1,r',i,by show(w.setChan (E.I j) _ _ _ _ _ _).heap[E.I f]?=_;rwa[rX λq=>O<|p.C.M _ _ N z q]⟩⟩;grind;grind
def AU(F:Ph)(zX:aR->Prop)(qJ:ï):Prop:=
 (∀p a,touchAt qJ p=Â a->a.loc.isMemory=Ê->Knows qJ 0 p\/((zX a.loc\/∃x:õ,a.loc=ď x/\x.block=F.C)/\a.kind=.atomic))/\qJ.HandedOver
def Qm{f:Nat->Nat}:∀{n:Nat},Ô n f=0->∀i,i<n->f i=0|n+1,h,i,hi=>by simp only[Ô]at h;obtain q|q:=ey i n;exact Qm Z i q;have:i=n:=Z;subst this;omega
theorem PI.aiF(H:iL F)(p:PI F n zX E S m o G c w qJ)(r:c[0]?=Â g)(K:g.status=É)(L:m 0=.fS)(f:E.N=.fT .na): ∃(B:gE F)(b:Nat->Jd)(D:Nat->gW)(j:Nat->jc)(h:Nat->fx)(d:Array Ç)(W:Î) (u:ï),ŵ F.P (ù c w sl) 0=(į<|ù d W sl,u)/\d.size=c.size/\PI F n zX B b D j h d W (qJ++u)/\B.N=.gN/\AU F zX (qJ++u):=by
 have v:=jE r;have C:=p.K r K L w<|p.I.r.r _ v;rw[f]at C;let⟨M,_,g',s,q⟩:=C;have O:=(p.I.r.f _ v).trans M;have t:∀y:Ą,y.act=Ĝ (Ť<|gu F.C)->y.act.touch?=Ã:=λy i=>by rw[i];rfl
 have qy:E.r=F.n+1:=by rw[gE.r,f];rfl
 have a:jF E .gN E.I:=oD (by rw[f];rfl);have e:(jw E .gN E.b E.I).r=E.r:=a.r;let⟨T,Q⟩:=j1 q;have V:=nh (λl g h=>À<|H.M _ _ _ h) q;obtain⟨d,y,X,I,Y,J,q3,q4,q5,q7⟩:=p.CG H (kM .gN) r (s w) fD fD (λy i=>⟨λz l=>(by rw[t y i]at l;cases l),by rw[i];exact p.I.r.N _<|À oX⟩) (λy _ i=>Cm p.I.r.l λk j=>by rw[yS j];exact t y i) Q V;have P4:=p.d.r (Az (λk j=>by rw[yS j];exact t y I) λk j b _ e=>by grind);have l:=p.C.B<|Á<|À f;refine⟨jw E .gN E.b E.I,_,_,_,_,d,w,_,Y,J,.r (p.N.K H.C a) (by rw[e];exact J.trans p.b) (by rwa[CU a]) (q7.H a) (Wd.r p.M a (by rw[f];rfl)<|by rw[f];rfl) (p.C.r a (by rw[f];exact eE _) (by rw[f];rfl) (by rw[f];rfl) (λb h=> ?_) (λb h=> ?_) (λb=>⟨λh=>(by cases h),λh=>(by cases h)⟩) (λ_=>l) (λh=>by cases h) λ_ h=>absurd rfl h) (by rwa[e]) ?_ λb j N h k=>(p.f b j Z h k).app _,U,p.d.mq X I O λx E2=> ?_⟩;grind;grind;intro k z b hb;by_cases N:k=0;grind;rw[q4 k N]at b;obtain⟨z',uK,rfl⟩:=æ.1 b;let⟨_,hzb⟩:=Hk hb;obtain⟨s,_⟩|⟨j,hj,h,q,h3⟩:=p.c k z' uK hzb;exact absurd s N;exact Á ⟨j,Z,h,q,h3⟩;have b:=Qm l x Z;have k:E.N.ad F.n=F.n+1:=by rw[f];rfl
 rw[gE.H,k,if_pos Z]at b;cases h:E.M x with
 |none=>rw[h]at b;cases b
 |some j=>
  rw[h]at b;refine⟨j,h,?_⟩;cases j with
  |qA=>cases b
  |gN N=>cases N with
   |kv=>cases b
   |_=>trivial
  |kl N=>trivial
end
section
variable{D:Nat->Prop}{S:Nat->Jd}{G:Nat->gW}{I:Nat->jc}{o:Nat->fx}{f:Array Ç}{sl:Option (Nat×Nat)}
def YB{y:Ą}(b:wQ.act=aT k)(c:y.act=ł):yL #[wQ,y]:=by intro d a;simp at a;obtain rfl|rfl:=a;rw[b];exact⟨U,fD⟩;rw[c];exact⟨U,fD⟩
theorem jD.Hf(h:jD i (λf=>f<n) X o w qJ){v:fx}{y:Ą}(F:0<n)(P:wQ.g=0/\wQ.act=aT n)(Q:y.g=n/\y.act=ł)(oY:Deaf qJ 0=0)(CY:Deaf qJ n=0)(V:∀b,¬v.O b)(W:∀b,v.I b->(o 0).I b)(J:∀a,v.r a->X a.block/\(∀k,k<n->¬(o k).C a)/\sJ qJ 0 (ď a))(H:∀a,v.N a->(o 0).N a)(lK:∀a,v.K a->(o 0).K a)(lKO:∀k,k<n->∀a,(o k).K a->¬v.r a)(ld:v.d=0)(lw:v.w=w)(Y:∀b,X b->D b)(YC:∀b,D b->X b\/(b<w.heap.size/\∀f,f<n->¬(o f).M b)):jD i (λf=>f<n+1) D (gV o n v) w (qJ++#[wQ,y]):=by
 have L:=YB P.2 Q.2;have B:∀f,f<n+1->f=n\/f<n:=λf t=>by omega
 have G:gV o n v n=v:=iI _ _ _;have E:∀f,f<n->gV o n v f=o f:=λf t=>iq o _ Z;have N:∀b,v.M b->(o 0).I b:=λb s=>s.elim (λq=>absurd q (V b)) (W b);have aiG:=λf t b s Cb=>(YC b Cb).elim (h.I f t b s) (λq=>q.2 f t s);refine⟨λf j t S T b s=> ?_,λf j t S T a r=> ?_,λf t b s=> ?_,λf t a r=> ?_,λf t b s=> ?_,λf t a r=> ?_,λf t b s=> ?_,λb s=> ?_,λf t=> ?_,λf t=> ?_,λf t=> ?_,Cm h.l λu z=>(L u z).1,λu z=> ?_,λp a c r hl hk=> ?_,λf t a r=> ?_⟩;obtain rfl|m:=B f t;grind;rw[E f m]at s;obtain rfl|I:=B j S;rw[G];intro q;by_cases e:f=0;subst e;exact h.m _ m b s (N b q);exact h.o f 0 m F e b s (Á (N b q));rw[E j I];exact h.o f j m I T b s;obtain rfl|m:=B f t;grind;rw[E f m]at r;obtain rfl|I:=B j S;rw[G];rintro(q|q);exact(J a q).2.1 f m (À r);by_cases e:f=0;subst e;exact h.g _ m a r (H a q);exact h.h f 0 m F e a r (Á (H a q));rw[E j I];exact h.h f j m I T a r;obtain rfl|m:=B f t;grind;rw[E f m]at s|-;exact h.m f m b s;obtain rfl|m:=B f t;rw[G]at r|-;exact λq=>(J a r).2.1 0 F (Á (H a q));rw[E f m]at r|-;exact h.g f m a r;obtain rfl|m:=B f t;rw[G]at s;exact aiG 0 F b (Á (N b s));grind;obtain rfl|m:=B f t;rw[G]at r;exact Y _ (r.elim (λq=>(J a q).1) (λq=>h.e 0 F a (Á (H a q))));rw[E f m]at r;exact Y _ (h.e f m a r);obtain rfl|m:=B f t;rw[G]at s;exact h.fM 0 F b (Á (N b s));rw[E f m]at s;exact h.fM f m b s;exact(YC b s).elim (h.N b) (λq=>q.1);obtain rfl|m:=B f t;rw[G,lw];exact gd.gy _ _;rw[E f m];exact h.r f m;obtain rfl|m:=B f t;rw[G];have e:=λl=>ahg P Q oY CY (l:=l);exact⟨λa r=>absurd r (V _),λa r=>(e _).2 ((h.S 0 F).rd a (W _ r)),λa r=>(e _).1 (J a r).2.2,λa r=>(e _).2 ((h.S 0 F).r a (H _ r))⟩;rw[E f m];have e:∀u∈#[wQ,y],∀b,u.act.touch?=Â b->False:=λu z b s=>by rw[(L u z).1]at s;cases s
 exact⟨λa r=>((h.S f m).fE a r).C λu z b s _=>(e u z b s).elim,λa r=>((h.S f m).rd a r).r λu z b s _ _=>(e u z b s).elim,λa r=>((h.S f m).C a r).C λu z b s _=>(e u z b s).elim,λa r=>((h.S f m).r a r).r λu z b s _ _=>(e u z b s).elim⟩;rw[K5 L];obtain rfl|m:=B f t;grind;rw[E f m];exact h.f f m;refine(dq.1 z).elim (h.q u) λq=> ?_;simp at q;obtain rfl|rfl:=q;rw[P.2];trivial;rw[Q.2];trivial;obtain⟨_,e⟩|⟨_,u,e,q,_⟩:=oG r;exact h.s p a c e hl hk;rw[(L u e).1]at q;cases q;obtain⟨e,m,q⟩:∃e,e<n/\(o e).K a:=by grind
 let⟨I,z2⟩:=h.n e m a q;grind
theorem iB.Hf(p:iB P i X S G I o f w qJ){c b:Ç}{J q:Jd}{T r:gW}{K Kc:jc}{m n:fx}(s:f[0]?=Â g)(L:é P Ê g w=.spawn c b w #[])(V:∀x y:Ą,(x.g=0/\x.act=aT f.size)->(y.g=f.size/\y.act=ł)->jD i (λa=>a<f.size+1) D (gV (gV o 0 m) f.size n) w (qJ++#[x,y]))(hF:mG P Ê J T m c)(M:c.status=É)(N:mG P Æ q r n b)(O:b.status=É): ∃d x y,(x.g=0/\x.act=aT f.size)/\(y.g=f.size/\y.act=ł)/\ŵ P (ù f w sl) 0=(į<|ù d w sl,#[x,y])/\d.size=f.size+1/\d[0]?=Â c/\d[f.size]?=Â b/\(∀k,k≠0->k<f.size->d[k]?=f[k]?)/\ iB P i D (fP (fP S 0 J) f.size q) (fP (fP G 0 T) f.size r) (fP (fP I 0 K) f.size Kc) (gV (gV o 0 m) f.size n) d w (qJ++#[x,y]):=by
 have W:=(fp.1 s).1;have t:=runT_crowd_spawn (sl:=sl) s L;obtain⟨x,u⟩:∃x:Ą,x={g:=0,fn:=g.frame.fn,pos:=g.frame.place,act:=aT f.size}:=⟨_,U⟩;obtain⟨y,v⟩:∃y:Ą,y={g:=f.size,fn:=b.frame.fn,pos:=g.frame.place,act:=ł}:=⟨_,U⟩;have e:((ú 0 g.frame.fn g.frame.place #[]).push {g:=0,fn:=g.frame.fn,pos:=g.frame.place,act:=aT f.size}).push {g:=f.size,fn:=b.frame.fn,pos:=g.frame.place,act:=ł}=#[x,y]:=by rw[u,v];simp[ú]
 rw[e]at t;have B:x.g=0/\x.act=aT f.size:=by rw[u];exact⟨U,U⟩
 have C:y.g=f.size/\y.act=ł:=by rw[v];exact⟨U,U⟩
 have E:((f.setIfInBounds 0 c).push b)[0]?=Â c:=by grind
 have F:((f.setIfInBounds 0 c).push b)[f.size]?=Â b:=by grind
 have H:∀k,k≠0->k<f.size->((f.setIfInBounds 0 c).push b)[k]?=f[k]?:=λk Y h2=>by grind
 refine⟨_,x,y,B,C,t,fD,E,F,H,?_,λk z d=> ?_,λj Q=> ?_⟩;simp_all;have Ht:k<f.size+1:=by have:=(fp.1 d).1;simpa using this
 by_cases l:k=f.size;subst l;rw[F]at d;obtain rfl:=dh d;rw[ig,ig,ig,iI,show(f.size==0)=Æ from beq_eq_false_iff_ne.2 Z];exact⟨b,N,.gS,À O,À U⟩;rw[gi _ _ l,gi _ _ l,gi _ _ l,iq _ _ l];by_cases h:k=0;subst h;rw[E]at d;obtain rfl:=dh d;rw[ig,ig,ig,iI];exact⟨c,hF,.gS,À M,À U⟩;rw[H k h Z]at d;rw[gi _ _ h,gi _ _ h,gi _ _ h,iq _ _ h];exact p.C k z d;rw[K5<|YB B.2 C.2];exact p.I j<|by simp at Q;omega
end
section
variable{F:Ph}{E N:gE F}{S:Nat->Jd}{G Q:Nat->gW}{I:Nat->jc}{o:Nat->fx}{f B:Array Ç}{u:ï}{sl:Option (Nat×Nat)}
theorem aiH(ok:F.Ok)(h:i≠n)(c:nK F i a)(d:nK F n a):False:=by
 have q:∀{i n:Nat},i=0->n≠0->nK F i a->nK F n a->False:=by
  intro i n g j c d;unfold nK at c d;rw[if_pos g]at c;rw[if_neg j]at d;let⟨k,o,m,e⟩:=c;let⟨b,l,p,f⟩:=d;obtain e|e:=e;rw[f]at e;have:F.Y=F.I k:=by injection e
  exact ok.C<|Á ⟨k,m,this⟩;rw[f]at e;exact ok.PN b k l o m<|by injection e
 by_cases g:i=0;grind;by_cases j:n=0;grind;unfold nK at c d;rw[if_neg g]at c;rw[if_neg j]at d;let⟨b,l,p,f⟩:=c;let⟨m,k,o,e⟩:=d;rw[f]at e;have:=ok.a _ _ l k (by injection e);subst this;omega
theorem aiI(ok:F.Ok)(h:nK F i a):(∃k,k<=F.m/\a=jS F.toFx k)\/∃p,p≠F.f/\a=j4 F p:=by unfold nK at h;by_cases b:i=0;rw[if_pos b]at h;obtain⟨k,d,e,c|c⟩:=h;grind;exact Á ⟨_,ok.Y.1 k d e,c⟩;rw[if_neg b]at h;let⟨k,c,_,d⟩:=h;exact Á ⟨_,ok.Y.2 k c,d⟩
def xA(F:Ph)(j:Nat):gH:=if j<F.n then .jl (j+1)else .jr F.q
def AV(E:gE F)(j:Nat):gE F:={E with N:=xA F j}
def PI.aiJ(H:iL F)(p:PI F j zX E S G I o f w qJ)(hi:f[0]?=Â g)(jh:g.status=É)(ht:G 0=.fS)(hx:E.N=.go m): ∃(N:gE F)(c:Nat->Jd)(Q:Nat->gW)(r:Nat->jc)(s:Nat->fx)(B:Array Ç)(W:Î) (u:ï),ŵ F.P (ù f w sl) 0=(į<|ù B W sl,u)/\B.size=f.size+1/\N.N≠ .gN/\PI F j zX N c Q r s B W (qJ++u):=by
 have iu:=jE hi;have C:=p.I.r;have L:=p.a;have hL1:=H.C.r;have hn:=H.C.N;have xw:=p.C.C m<|À hx;have qy:E.r=m:=by rw[gE.r,hx];rfl
 have jV:f.size=F.L+m:=by rw[p.b,qy]
 have hJ:=p.K hi jh ht w<|C.r _ iu;rw[hx]at hJ;obtain⟨hd,g',child,X,YD,Cl,ES,hX,C0,aiK,aiL⟩:=H.go m E.I _ g xw hJ<|C.M iu;have hd:=hd;have hX:=hX;have C0:=C0;have oY:=(C.f _ iu).trans hd;have CY:=p.I.I _<|eE _;have nq:=L.M 0<|À U;obtain⟨m',vP⟩:∃m',m'=xA F m:=⟨_,U⟩;have vR:(m<F.n/\m'=.jl (m+1))\/(m=F.n/\m'=.jr F.q):=by rw[vP];unfold xA;by_cases q:m<F.n;exact À ⟨q,if_pos q⟩;exact Á ⟨Z,if_neg q⟩
 have avQ:m'.sp F.n=m+1:=by obtain⟨_,rfl⟩|⟨q,rfl⟩:=vR<;>simp only[gH.sp];omega
 have aiM:m'.ad F.n=m+1:=by obtain⟨_,rfl⟩|⟨q,rfl⟩:=vR<;>simp only[gH.ad];omega
 have Qo:m'.n8 F.q=0:=by obtain⟨_,rfl⟩|⟨q,rfl⟩:=vR<;>simp[gH.n8]
 have hmh:m'.jR F.n=0:=by obtain⟨_,rfl⟩|⟨q,rfl⟩:=vR<;>rfl
 have hmr:m'.ik=0:=by obtain⟨_,rfl⟩|⟨q,rfl⟩:=vR<;>rfl
 have H9:(∀v,m'≠ .fT v)/\m'≠ .gN:=by obtain⟨_,rfl⟩|⟨q,rfl⟩:=vR<;>exact⟨λv h=>(by cases h),λh=>(by cases h)⟩
 have hkM:kM m'=.no:=by obtain⟨_,rfl⟩|⟨q,rfl⟩:=vR<;>rfl
 obtain⟨l0,oa⟩:∃l0:fx,l0={o 0 with O:=λb=>(o 0).O b/\¬X b/\(1<=m->b≠E.I (m-1)),I:=λb=>X b\/(o 0).I b,r:=λa=>(o 0).r a/\¬nK F m a,w:=w}:=⟨_,U⟩;obtain⟨lc,lM⟩:∃lc:fx,lc={O:=λ_=>False,I:=λb=>X b\/(o 0).I b,r:=nK F m,N:=(o 0).N,K:=(o 0).K,d:=0,q:=False,w:=w}:=⟨_,U⟩;have YE:jD F.S (λi=>i<f.size) E.Y (gV o 0 l0) w qJ:=by rw[oa];refine C.C iu (λ_ q=>q.1) (λb q=>À<|q.elim (λz=>À<|hX b z) Á) (λ_ q=>q.1) (λa q=>À<|Á q) U U U (λb hb q=> ?_) λa J q=>C.g _ iu a J.1 q;obtain q|q:=q;exact hb.2.1 q;exact C.m _ iu b hb.1 q
 have z0:gV o 0 l0 0=l0:=iI _ _ _;have C3:=L.o m Z xw;have oZ:(AV E m).r=m+1:=by show(xA F m).sp F.n=_;rwa[<-vP]
 have YF:∀b,(AV E m).Y b->E.Y b\/(1<=m/\b=E.I (m-1)):=λb hb=>by obtain q|q|⟨l,t,D⟩:=hb;exact À<|À q;exact À<|Á<|À q;rw[oZ]at t;by_cases e:l+1=m;exact Á ⟨Z,by rw[D,show l=m-1 by omega];rfl⟩;exact À<|Á<|Á ⟨l,Z,D⟩
 have Qp:∀x y:Ą,(x.g=0/\x.act=aT f.size)->(y.g=f.size/\y.act=ł)->jD F.S (λi=>i<f.size+1) (AV E m).Y (gV (gV o 0 l0) f.size lc) w (qJ++#[x,y]):=λx y LD LG=>by
  refine YE.Hf iu LD LG oY CY (by rw[lM];exact λb q=>q) (by rw[z0,lM,oa];exact λb q=>q) (λa J=> ?_) (by rw[z0,lM,oa];exact λb q=>q) (by rw[z0,lM,oa];exact λb q=>q) (λk hk a J q=> ?_) (by rw[lM]) (by rw[lM]) (λb hb=> ?_) λb hb=> ?_;have r:nK F m a:=by rwa[lM]at J
  have c:=C3 a r;refine⟨C.e 0 iu a<|À c,λk hk q=> ?_,(C.S 0 iu).C a c⟩;by_cases e:k=0;subst e;rw[z0,oa]at q;obtain q|q:=q;exact q.2 r;exact C.g 0 iu a c q;rw[iq _ _ e]at q;exact C.h 0 k iu hk (cR e) a c q;have c:(o k).K a:=by by_cases e:k=0;subst e;rwa[z0,oa]at J;rwa[iq _ _ e]at J
  rw[lM]at q;exact(C.n k hk a c).2 0 iu<|C3 a q;obtain q|q|⟨l,t,D⟩:=hb;exact À q;exact Á<|À q;exact Á (Á ⟨l,by rw[oZ];omega,D⟩);obtain q|⟨t,rfl⟩:=YF b hb;exact À q;obtain⟨a1,a2,a3,a4⟩:=C0 t;refine Á ⟨C.fM 0 iu _<|À a1,λi mR q=> ?_⟩;by_cases e:i=0;subst e;rw[z0,oa]at q;obtain q|q|q:=q;exact q.2.2 t U;exact a2 q;exact C.m 0 iu _ a1 q;rw[iq _ _ e]at q;exact C.o 0 i iu mR (cR e) _ a1 q
 have hWm:fF F.P Ê (JM F E.I m') l0 g':=by
  have r:=YE.M iu;rw[z0]at r;have s:{l0 with w:=w}=l0:=by rw[oa]
  rw[s]at r;have:=aiL l0 r (by rw[oa]) (λb q=>by rwa[oa]) (by rw[oa]) (by rwa[oa]) (by rw[oa]) (by rw[oa]) (by rw[oa]) (λa q=>by rw[oa]at q;exact q.1);rw[vP];unfold xA;exact this
 have Qq:∀b,lc.M b->(o 0).M b:=λb hb=>by rw[lM]at hb;obtain q|q|q:=hb;exact q.elim;exact À<|hX b q;exact Á q
 have YG:∀a,lc.C a->(o 0).C a:=λa J=>by rw[lM]at J;exact J.elim (λq=>À<|C3 a q) Á
 have Qr:lc.w=w:=by rw[lM]
 have aiN:gT lc:=⟨λb hb=>(by rw[lM]at hb;exact hb.elim),λa J q=>(by rw[lM]at J q;exact C.g 0 iu a (C3 a J) q),λa J hb=>C.I 0 iu _ (Qq _ hb)<|C.e 0 iu a<|YG a J,λb hb=>(by rw[Qr];exact C.fM 0 iu b<|Qq b hb),λa J=>(by rw[Qr];exact C.N _<|C.e 0 iu a<|YG a J),λa J=>by
  have c:(o 0).K a:=by rwa[lM]at J
  obtain⟨k1,k2⟩:=C.n 0 iu a c;exact⟨λq=>C.I 0 iu _ (Qq _ q) k1,by rw[Qr];exact C.N _ k1,λq=>by rw[lM]at q;exact k2 0 iu (C3 a q)⟩⟩
 have hWc:=aiK lc aiN (λb q=>by rwa[lM]) (by rw[lM]) (by rw[lM]) (by rw[lM];exact λq=>q) (λb=>by rw[lM];exact λq=>q) (by rw[lM]) (by rw[lM]) (λa q=>C3 a<|by rwa[lM]at q);obtain⟨T,hT⟩:=j1 hWm;obtain⟨Tc,hTc⟩:=j1 hWc;obtain⟨B,x,y,LD,LG,q1,q2,q3,q4,q5,q6⟩:=p.I.Hf (Kc:=if m=0 then .no else kW F (E.I<|m-1) (.oU 0)) hi (ES w) Qp hT YD hTc Cl;have cs:∀i,i<f.size+1->i=f.size\/i=0\/(i≠0/\i<f.size):=λi hi=>by omega
 have es:gV (gV o 0 l0) f.size lc f.size=lc:=iI _ _ _;have e0:gV (gV o 0 l0) f.size lc 0=l0:=by rwa[iq _ _ Z]
 have en:∀i,i≠0->i≠f.size->gV (gV o 0 l0) f.size lc i=o i:=λi t D=>by rw[iq _ _ D,iq _ _ t]
 have yV:=p.C.z;have LA:=p.C.h m Z;have aiO:∀y,E.qg y->y<m:=λy ⟨e,t,_⟩=>b8 λq=>by rw[p.C.h y Z]at t;cases t
 have Qs:∀i,i<f.size+1->∀a,(gV (gV o 0 l0) f.size lc i).r a->∃k,k<f.size/\(o k).r a:=λi hi a J=>by obtain rfl|rfl|⟨t,D⟩:=cs i hi;rw[es,lM]at J;exact⟨0,iu,C3 a J⟩;rw[e0,oa]at J;exact⟨0,iu,J.1⟩;rw[en i t Z]at J;exact⟨i,D,J⟩
 refine⟨AV E m,_,_,_,_,B,w,_,q1,q2,(by show xA F m≠ .gN;rw[<-vP];exact H9.2),.r ⟨?_,λt D=> ?_,λl t D=> ?_,λy e t D=> ?_,λi t D=> ?_⟩ (by rw[q2,oZ,jV];omega) q6 ?_ ?_ ?_ ?_ (λk z hk hb=> ?_) λl r2 a1 a2 a3=> ?_⟩;have c:(0:Nat)≠f.size:=Z;rw[gi _ _ c,ig,gi _ _ c,ig];rw[vP];exact⟨U,U⟩;by_cases e:m=0;have c:f.size=F.L:=Z;rw[c,ig,ig,if_pos e,if_pos e];show F.h 0=JI F E.c E.S/\_;rw[p.C.J Z];exact⟨U,U⟩;rw[gi _ _ Z,gi _ _ Z,gi _ _ Z,gi _ _ Z];exact p.m Z D;rw[oZ]at t;by_cases e:l+1=m;have c:F.L+1+l=f.size:=Z;rw[c,ig,ig,if_neg Z,if_neg Z];show EJ F (E.I<|m-1) (m-1) 0=JW F (E.I l) l (E.C l)/\_=kW F (E.I l) (E.C l);rw[yV l Z,show m-1=l by omega];exact⟨U,U⟩;rw[gi _ _ Z,gi _ _ Z,gi _ _ Z,gi _ _ Z];exact p.g l Z D;have s:=b8 λq=>by have r:E.M y=Â e:=D;rw[p.C.h y Z]at r;cases r
 rw[gi _ _ Z,gi _ _ Z,gi _ _ Z,gi _ _ Z,gi _ _ Z,gi _ _ Z];exact p.k y e Z D;rw[gi _ _ Z,gi _ _ Z,gi _ _ Z,gi _ _ Z,gi _ _ Z,gi _ _ Z];exact p.l i t D;rw[q2];obtain⟨f1,f2⟩:=L.nI Z;refine⟨λi mR a J=> ?_,λy t D a J=> ?_,λ_=> ?_,λ_ k t D=> ?_,λ_ D=> ?_,λl t D r h3 h4=> ?_,λl t D=> ?_,λy s=> ?_,λi mR=> ?_,λi t D=> ?_,λk hk b hb=> ?_,λk hk i mR q=> ?_,λk t D i mR q=> ?_,λl t r D h3 i mR q=> ?_⟩;obtain rfl|rfl|⟨t,D⟩:=cs i mR;rw[es,lM]at J;obtain q|q:=J;exact aiI H.C q;exact L.iH 0 iu a<|Á q;rw[e0,oa]at J;obtain q|q:=J;exact L.iH 0 iu a<|À q.1;exact L.iH 0 iu a<|Á q;rw[en i t Z]at J;exact L.iH i D a J;rw[oZ]at t;rw[e0,oa];exact⟨L.o y Z D a J,λq=>aiH H.C Z q J⟩;rw[e0,oa];exact⟨f1,λb hb=>Á<|f2 b hb⟩;have CR:=t;by_cases e:m=0;have c:F.L=f.size:=Z;rw[c,es,lM];exact⟨by show nK F m _;rw[nK,if_pos e];exact⟨k,Z,D,À U⟩,by show nK F m _;rw[nK,if_pos e];exact⟨k,Z,D,Á U⟩⟩;rw[en F.L Z Z];exact L.e Z k CR D;by_cases e:m=0;have c:F.L=f.size:=Z;rw[c,es,lM];show(o 0).N (jS F.toFx E.S.md)/\∀b,E.V E.S.md b->X b\/(o 0).I b;rw[p.C.J Z];show(o 0).N (jS F.toFx 0)/\∀b,E.V 0 b->X b\/(o 0).I b;rw[p.C.v];exact⟨f1,λb hb=>Á<|f2 b hb⟩;rw[en F.L Z Z];exact L.f Z D;rw[oZ]at t;by_cases e:l+1=m;have c:F.L+1+l=f.size:=Z;rw[c,es,lM];show nK F m _;rw[nK,if_neg Z];exact⟨_,h3,by rw[Ē,ő Z];omega,U⟩;rw[en _ Z Z];exact L.h l Z D r h3 h4;rw[oZ]at t;by_cases e:l+1=m;have c:F.L+1+l=f.size:=Z;rw[c,es,lM];exact⟨f1,λb hb=>Á<|f2 b hb⟩;rw[en _ Z Z];exact L.l l Z D;have:=aiO y s;rw[en _ Z Z];exact L.S y s;obtain rfl|⟨y,t,rfl,h3⟩:=mR;rwa[e0,oa];rw[oZ]at t;by_cases e:y=m;subst e;rw[<-jV,es,lM];exact λq=>q;rw[en _ Z Z];exact L.M _<|Á ⟨y,Z,U,h3⟩;rw[en i Z Z];exact L.c i t D;obtain⟨b1,b2,c⟩:=L.I k hk b hb;refine⟨b1,λq=> ?_,λi mR q=> ?_⟩;obtain q|⟨t,rfl⟩:=YF b q;exact b2 q;exact c 0 iu (C0 t).1;obtain rfl|rfl|⟨t,D⟩:=cs i mR;rwa[es,lM]at q;rw[e0,oa]at q;exact c 0 iu q.1;rw[en i t Z]at q;exact c i D q;obtain⟨c,a1,a2⟩:=Qs i mR _ q;exact L.N k hk c a1 a2;obtain⟨c,a1,a2⟩:=Qs i mR _ q;exact L.g k t D c a1 a2;rw[oZ]at t;have yW:r<(E.C l).lS:=h3;obtain⟨c,a1,a2⟩:=Qs i mR _ q;by_cases e:l+1=m;rw[yV l Z]at yW;simp only[iD.lS]at yW;omega;exact L.d l Z r D yW c a1 a2;have c:=p.M;refine⟨c.C,c.I,λl t=> ?_,c.M,c.S,λl t r D h3=> ?_⟩;rw[oZ]at t;show∃buf s,w.heap[E.I l]?=Â (ņ F.q buf (decide<|l<(xA F m).jR F.n) s (E.C l).jz Æ)/\vI F.n l ((xA F m).n8 F.q) s/\(E.C l).jz<=s/\buf.size=s-(E.C l).jz/\∀i,i<s-(E.C l).jz->buf[i]?=Â (F.c<|l+((E.C l).jz+i)*F.n);rw[<-vP,hmh,Qo];by_cases e:l+1=m;rw[yV l Z];obtain⟨a1,a2,a3,a4⟩:=C0 Z;rw[show m-1=l by omega]at a3;refine⟨#[],0,by rw[a3];rfl,λi=>⟨λq=>by omega,λq=>by omega⟩,eE _,U,λi mR=> ?_⟩;simp only[iD.jz]at mR;omega;have:=c.kz l Z;rwa[hx]at this;rw[oZ]at t;have yW:r<(E.C l).lS:=h3;by_cases e:l+1=m;rw[yV l Z]at yW;simp only[iD.lS]at yW;omega;exact c.N l Z r D yW;have h:=p.C;have eo:(AV E m).H=E.H:=by
  funext y;have t:(AV E m).N.ad F.n=E.N.ad F.n:=by show(xA F m).ad F.n=_;rw[<-vP,aiM,hx];rfl
  rw[gE.H,t];rfl
 have Qt:(AV E m).N.ik=E.N.ik:=by show(xA F m).ik=_;rw[<-vP,hmr,hx];rfl
 have emp:(AV E m).N=m':=vP.symm;refine⟨h.v,λl q=> ?_,λl q=> ?_,λr=>⟨λq=> ?_,λq=> ?_⟩,λq=>by omega,h.I,λl q=>h.z l Z,λl r vS rY=> ?_,λl vS rY=> ?_,h.f,λy q=>h.h y Z,λl j3 vS rY q3'=> ?_,λl q=> ?_,λc reg hc=> ?_,λreg hc=> ?_,λr s hc=> ?_,h.N,λq=> ?_,h.e,h.Y,λl r vS rY=> ?_,λl r vS rY=> ?_,λq=> ?_,λ_ _=>h.S (λv q=>by rw[hx]at q;cases q) (λq=>by rw[hx]at q;cases q),h.y,λl r vS rY=> ?_⟩;rw[emp]at q;obtain⟨_,rfl⟩|⟨_,rfl⟩:=vR<;>obtain q|q|q|q:=q<;>cases q;omega;rw[emp]at q;obtain⟨_,rfl⟩|⟨_,rfl⟩:=vR<;>obtain q|q|q:=q<;>cases q;omega;rw[emp]at q;obtain⟨_,rfl⟩|⟨_,rfl⟩:=vR<;>cases q;exact eE _;rw[emp]at q;obtain⟨_,rfl⟩|⟨_,rfl⟩:=vR<;>cases q;rw[oZ]at vS;by_cases e:l+1=m;have qC:(∃p,E.C l=.fT r p)\/E.C l=.iA r\/E.C l=.qx r:=rY;rw[yV l Z]at qC;obtain⟨_,q⟩|q|q:=qC<;>cases q;exact h.d l r Z rY;rw[oZ]at vS;have qC:E.M (l+1)≠Ã:=rY;have:l+1<m:=b8 λq=>qC<|h.h _ Z;obtain⟨a,_⟩:=h.l l Z qC;rw[hx]at a;simp only[gH.jR]at a;omega;rw[oZ]at vS rY;have Qu:E.I l=E.I j3:=q3';have key:∀a b,a+1=m->b+2<=E.r->E.I a=E.I b->False:=λa b J hb he=>by have t:=(C0 Z).1;rw[show m-1=a by omega,he]at t;exact C.I 0 iu _ (À t)<|Á<|Á ⟨b,hb,U⟩
 by_cases e:l+1=m;by_cases e':j3+1=m;omega;exact(key l j3 e Z Qu).elim;by_cases e':j3+1=m;exact(key j3 l e' Z Qu.symm).elim;exact h.M l j3 Z Z Qu;rw[oZ]at q;show¬F.M (E.I l)/\E.I l≠F.Y/\F.S<=E.I l;by_cases e:l+1=m;obtain⟨a1,_,_,a4⟩:=C0 Z;rw[show m-1=l by omega]at a1 a4;have YH:=C.I 0 iu _<|À a1;exact⟨λq=>YH<|À q,λq=>YH<|Á<|À q,a4⟩;exact h.o l Z;rw[eo,Qt];exact h.t c reg hc;rw[eo,Qt];obtain⟨a1,a2,y,a3,a4⟩:=h.g reg hc;exact⟨a1,a2,y,Z,a4⟩;rw[eo,Qt];obtain⟨a1,a2,a3⟩:=h.u r s hc;refine⟨a1,a2,λhr=> ?_⟩;obtain⟨y,b1,b2⟩:=a3 hr;exact⟨y,Z,b2⟩;rw[emp]at q;obtain q|q|q:=q;exact absurd q<|H9.1 _;exact absurd q<|H9.1 _;exact absurd q H9.2;rw[oZ]at vS;by_cases e:l+1=m;have qC:E.C l=.fT r .ij\/E.C l=.fT r .na\/E.C l=.iA r:=rY;rw[yV l Z]at qC;obtain q|q|q:=qC<;>cases q;exact h.w l r Z rY;rw[oZ]at vS;by_cases e:l+1=m;have qC:E.C l=.fT r .ij:=rY;rw[yV l Z]at qC;cases qC;exact h.H l r Z rY;rw[emp]at q;exact absurd q<|H9.1 _;rw[oZ]at vS;by_cases e:l+1=m;have qC:E.C l=.fT r .wr:=rY;rw[yV l Z]at qC;cases qC;exact h.D l r Z rY;rw[oZ];have c:=p.d;rw[qy]at c;rw[jV]at LD LG CY;exact c.Hf LD LG oY CY (λ⟨e,t,_⟩=>by rw[LA]at t;cases t) (λy ⟨e,t,_⟩=>b8 λq=>by rw[p.C.h y Z]at t;cases t);have r:=jE hk;obtain rfl|rfl|⟨k1,k2⟩:=cs k Z;rw[q4]at hk;obtain rfl:=dh hk;rw[Cl]at hb;cases hb;rw[q3]at hk;obtain rfl:=dh hk;rw[YD]at hb;cases hb;rw[q5 k k1 k2]at hk;obtain⟨t,_⟩|⟨l,s,c,D,h3⟩:=p.c k z hk hb;exact absurd t k1;exact Á ⟨l,Z,c,D,h3⟩;rw[oZ]at a1;by_cases e:l+1=m;have qC:E.C l=.iA r2:=a2;rw[yV l Z]at qC;cases qC;exact(p.f l r2 Z a2 a3).app _
end
section
variable{F:Ph}{E E':gE F}{S:Nat->Jd}{tr o:Nat->gW}{m:Nat->jc}{lot:Nat->fx}{gs gs':Array Ç}{w':Î}{t u:ï}{sl:Option (Nat×Nat)}
def PI.at(H:iL F)(p:PI F n zX E S tr m lot gs w t)(d:Nat):PI F n zX E S tr m lot gs (w.at d) t:=⟨p.b,p.I.at d,p.h,p.m,p.g,p.k,p.l,p.a.G<|eE _,⟨⟨p.M.C.C,p.M.C.I,p.M.C.M,p.M.C.N,p.M.C.r⟩,λk a=>⟨(p.M.I k a).C,(p.M.I k a).I,(p.M.I k a).M,(p.M.I k a).N,(p.M.I k a).r⟩,p.M.kz,λk a=>⟨(p.M.M k a).1,H.S _ _ _ _ _ (p.M.M k a).2 (λ_ _=>U) U U U ⟨U,U⟩⟩,p.M.S,p.M.N⟩,p.C,p.d,p.c,p.f⟩
def Go1(F:Ph)(n:Nat)(zX:aR->Prop)(gs:Array Ç)(w:Î)(t:ï)(sl:Option (Nat×Nat))(i:Nat):Prop:=
 ∃(E':gE F)(a:Nat->Jd)(o:Nat->gW)(b:Nat->jc)(c:Nat->fx)(gs':Array Ç)(w':Î) (u:ï),ŵ F.P (ù gs w sl) i=(į<|ù gs' w' sl,u)/\gs'.size=gs.size+1/\E'.N≠ .gN/\PI F n zX E' a o b c gs' w' (t++u)
def aiP(F:Ph)(n:Nat)(zX:aR->Prop)(gs:Array Ç)(w:Î)(t:ï)(sl:Option (Nat×Nat))(i:Nat):Prop:=
 ∃(E':gE F)(a:Nat->Jd)(o:Nat->gW)(b:Nat->jc)(c:Nat->fx)(gs':Array Ç)(w':Î) (u:ï),ŵ F.P (ù gs w sl) i=(į<|ù gs' w' sl,u)/\gs'.size=gs.size/\PI F n zX E' a o b c gs' w' (t++u)/\E'.N=.gN/\AU F zX (t++u)
def PI.aiQ(H:iL F)(p:PI F n zX E S tr m lot gs w t)(l:E.N≠ .gN)(a:gs[i]?=Â g)(c:g.status=É):lJ F n zX E tr gs w t sl i\/tF F n zX E tr gs w t\/Go1 F n zX gs w t sl i\/aiP F n zX gs w t sl i:=by
 have z:=jE a;have B:=p.b;cases b:tr i with
 |kx k=>
  obtain⟨gs',w',u,o,e,d,f,j,q⟩:=p.fE H a b;exact À ⟨E,S,o,m,e,gs',w',u,d,f,λh=>h,j,q⟩|fS=>
  by_cases s:i=0;subst s;cases h:E.N with
  |go j=>exact Á<|Á<|À<|p.aiJ H a c b h|ng j=>exact Á<|À<|p.ail H a c b h|rd j=>exact À<|p.ain H a c b h|jl j=>exact À<|p.aip H a c b h
  |jr r=>cases r with|zero=>exact Á<|À<|p.aiq H a c b h|succ r=>exact À<|p.aiB H a c b h
  |mq r=>cases r with|zero=>exact Á<|À<|p.air H a c b h|succ r=>exact À<|p.aiD H a b h
  |fT v=>cases v with|jG=>exact Á<|À<|p.ais H a c b h|nO q=>exact À<|p.ait H a c b h|wr=>exact À<|p.aiu H a c b h|lQ=>exact À<|p.aiw H a c b h|ij=>exact À<|p.aiv H a c b h|na=>exact Á<|Á<|Á<|p.aiF H a c b h
  |gN=>exact absurd h l
  by_cases y:i<F.L;exact À<|p.aij H Z y a c;obtain⟨x,rfl⟩:∃x,i=F.L+x:=⟨i-F.L,Z⟩;have f:x<E.r:=Z;cases d:E.M x with
  |some e=>cases e with
   |qA=>exact Á<|À<|p.ahX H f d a c b
   |gN v=>cases v with|kv=>exact À<|p.ah0 H f d a c b|jl=>exact À<|p.ah1 H f d a c b|ij W=>exact À<|p.ah3 H f d a c b|jN W=>exact À<|p.ah4 H f d a c b|jd r=>exact À<|p.ah5 H f d a c b
   |kl N=>exact À<|p.aii H f d a c
  |none=>cases x with
   |zero=>
    rw[dm]at a b|-;cases h:E.S with
    |lY k=>exact Á<|À<|p.ah6 H f d a c b h|mk k=>exact Á<|À<|p.ah9 H f d a c b h
    |dn k v=>cases v with|kv=>exact À<|p.aia H f d a c b h|jl=>exact À<|p.aib H f d a c b h|ij W=>exact À<|p.aic H f d a c b h|jN W=>exact À<|p.aie H f d a c b h|jd r=>exact À<|p.aif H f d a c b h
   |succ j=>
    rw[show F.L+(j+1)=F.L+1+j by omega]at a b|-;have e:j+2<=E.r:=Z;cases h:E.C j with
    |oU r=>exact À<|p.ahV H e d a c b h
    |fT r v=>cases v with|jG=>exact Á<|À<|p.ahE H e d a c b h|nO q=>exact À<|p.ahF H e d a c b h|wr=>exact À<|p.ahH H e d a c b h|lQ=>exact À<|p.ahK H e d a c b h|ij=>exact À<|p.ahI H e d a c b h|na=>exact À<|p.ahJ H e d a c b h
    |iA r=>exact Á<|À<|p.ahM H e d a c b h|qx r=>exact Á<|À<|p.ahN H e d a c b h
def aiR{J:Jd}{T:gW}{l:fx}(a:∀l g,J l g->g.status=É)(h:mG P yQ J T l g):g.status=É:=by
 cases T with|fS=>exact a _ _<|h _<|gd.gy _ _|kx k=>exact h.1
def iB.Y{Y:Nat->Prop}(c:iB P n Y S tr m lot gs w t)(d:gs[i]?=Â g)(e:∀l g,S i l g->g.status=É)(a:g.status≠í):g.status=É:=by
 let⟨g0,f,b,_,_⟩:=c.C i g d;generalize m i=K at b;cases b with|gS=>exact aiR e f|qz _ _|vG _ _ _=>exact absurd U a|oT _ _ _=>rfl
def YI{J:Jd}{p:kI}(a:∀r,p=.jd r->0<r){l:fx}(h:EH P yQ b J p l g):g.status=É:=by
 cases p with
 |kv|jl|ij W|jN W=>exact h.2.1
 |jd r=>cases r with|zero=>exact absurd (a 0 U) Z|succ r=>exact h.2.1
def Qv{J:Jd}{p:km}{l:fx}(h:sL P yQ i b J p l g):g.status=É:=by
 cases p with|jG=>let⟨k,_,_,T,a,c⟩:=h;exact(c _ _ a).1|nO p=>let⟨_,T,a,c⟩:=h;exact(c _ _ a).1|wr|lQ|ij|na=>exact h.2.1
def YJ{l:fx}(h:Ct F D i l g):g.status=É:=by
 cases i with|zero=>exact Qv h|succ i=>exact h.1
def aiS(H:iL F){x:gH}{l:fx}(h:JM F D x l g):g.status=É:=by
 cases x with
 |go j=>exact H.I _ _ _ _ h|ng j=>let⟨c,h⟩:=h;exact H.I _ _ _ _ h|rd j|jl j=>exact h.2.1
 |jr r=>cases r with|zero=>exact YJ h|succ r=>exact h.1
 |mq r=>exact YJ h|fT v=>exact Qv h|gN=>exact H.M _ _ _ h
def PI.GA(p:PI F n zX E S tr m lot gs w t){x:Nat}(a:x<E.r):∃g,gs[F.L+x]?=Â g:=by have:=p.b;simp_all
def PI.Ia(H:iL F)(p:PI F n zX E S tr m lot gs w t)(d:0<E.r)(e:E.M 0=Ã):∃(i:Nat)(g:Ç),gs[i]?=Â g/\g.status=É:=by
 have f:=H.C.r;let⟨g,c⟩:=p.GA d;rw[dm]at c;refine⟨F.L,g,c,p.I.Y c (λl g h=> ?_) λl=> ?_⟩;rw[(p.m d e).1]at h;cases i:E.S with
 |lY k=>rw[i]at h;exact H.N _ _ _ h|mk k=>rw[i]at h;let⟨j,V,_,_,_,_,h⟩:=h;exact h.2.1|dn k v=>
  rw[i]at h;refine YI (λr j=> ?_) h;subst j;let⟨_,_,r⟩:=p.C.I k;let⟨a,b⟩:=r _ i;obtain⟨W,q|q,_⟩|⟨o,s,q,V,_⟩|⟨q,_⟩:=p.C.Y k b (by rw[i];exact eE _);rw[i]at q;cases q;rw[i]at q;cases q;rw[i]at q;cases q;exact V;exact absurd i<|q _
 .obtain⟨q,_⟩|⟨j,_,_,q,_⟩:=p.c _ g c l<;>omega
theorem PI.LH(H:iL F)(p:PI F n zX E S tr m lot gs w t){x:Nat}{e:iW}(a:x<E.r)(b:E.M x=Â e)(c:∀N,e≠ .kl N):∃(i:Nat)(g:Ç),gs[i]?=Â g/\g.status=É:=by
 have d:=H.C.r;let⟨g,i⟩:=p.GA a;refine⟨F.L+x,g,i,p.I.Y i (λl g h=> ?_) λl=> ?_⟩;rw[(p.k x e a b).1]at h;cases e with|qA=>exact h.2.1|gN v=>exact YI (λr j=>by subst j;exact((p.C.N x _ b).2 r U).1) h|kl N=>exact absurd U<|c N
 obtain⟨q,_⟩|⟨j,_,h,q,_⟩:=p.c _ g i l;all_goals grind
def YK{f:Nat->Nat}:∀{n:Nat},0<Ô n f->∃i,i<n/\0<f i|0,h=>absurd h<|Nat.lt_irrefl _|n+1,h=>by simp only[Ô]at h;by_cases q:0<f n;exact⟨n,Z,q⟩;let⟨i,b,a⟩:=YK (f:=f) (n:=n) Z;exact⟨i,Z,a⟩
theorem PI.aiT(H:iL F)(p:PI F n zX E S tr m lot gs w t):∃(i:Nat)(g:Ç),gs[i]?=Â g/\g.status=É:=by
 have hL:=H.C.r;have jV:=p.b;obtain⟨g,C⟩:∃g,gs[0]?=Â g:=⟨_,fj Z⟩;by_cases O:g.status=í;obtain⟨_,o,P⟩|⟨j,_,_,q,_⟩:=p.c 0 g C O;have qy:E.r=F.n+1:=by rw[gE.r,o];rfl
 have Y:E.N.ad F.n=F.n+1:=by rw[o];rfl
 have qh:E.N.ik=1:=by rw[o];rfl
 have Q:=p.M.C.r;cases d:E.b with
 |cl c D=>
  let⟨h1,h2⟩:=p.C.t c D d;rw[d]at Q;let⟨_,_,T⟩:=Q;have V:0<c:=by grind
  rw[h1]at V;let⟨x,b,u⟩:=YK V;rw[gE.H,Y,if_pos b]at u;cases y:E.M x with
  |some e=>
   rw[y]at u;exact p.LH H Z y λN q=>by subst q;simp[nP,iW.mH]at u
  |none=>cases x with
   |zero=>exact p.Ia H Z y|succ j=>
    let⟨G,z⟩:=p.GA (x:=j+1) Z;rw[show F.L+(j+1)=F.L+1+j by omega]at z;have I:j+2<=E.r:=Z
    by_cases X:G.status=í;obtain⟨q,_⟩|⟨l,_,_,q,⟨r,a,B⟩|⟨r,cap,s,r',a,B⟩⟩:=p.c _ G z X;omega;have:l=j:=Z;subst this;have Yf:=H.C.I _<|p.C.d l r I<|À ⟨_,a⟩;have XX:1<=Ô F.n λi=>(E.C i).ik F i (F.r<|l+r*F.n):=by
     have:=PU (f:=λi=>(E.C i).ik F i<|F.r<|l+r*F.n) (j:=l) (n:=F.n) Z;simp only[a]at this;have h:iD.ik F l (F.r<|l+r*F.n) (.fT r .lQ)=1:=by simp only[iD.ik,if_true];rfl
     grind
    by_cases J:F.r (l+r*F.n)<=E.S.od;have K:∀k v,E.S=.dn k v->E.M 0=Ã:=λk v h=>by
     cases M:E.M 0 with|none=>rfl|some e=>have:=p.C.f (by rw[M];simp);rw[this]at h;cases h
    obtain⟨W,q|q,_⟩|⟨r',s,q,_⟩|⟨_,⟨_,q⟩|⟨s,q1,q2⟩⟩:=p.C.Y _ Yf J;exact p.Ia H Z<|K _ _ q;exact p.Ia H Z<|K _ _ q;exact p.Ia H Z<|K _ _ q;omega;rw[q1]at B;simp only[GS.sm]at B;omega;apply p.Ia H Z;cases M:E.M 0 with
    |none=>rfl|some e=>
     have:=p.C.f (by rw[M];simp);rw[this]at J;simp only[ko.od]at J;omega
    .have:l=j:=Z;subst this;let⟨i,k,e,_⟩:=p.M.kz l I;rw[B,o]at e;injection e with e;injection e with _ _ Cz _ _ _;have:decide (l<(gH.fT .lQ).jR F.n)=Ê:=decide_eq_true (by simp only[gH.jR];omega);rw[this]at Cz;cases Cz
    refine⟨_,G,z,p.I.Y z (λl g h=> ?_) X⟩;rw[(p.g j I y).1]at h;cases e:E.C j with|oU r=>rw[e]at h;exact h.1|fT r v=>rw[e]at h;exact Qv h|iA r=>rw[e]at h;exact H.Y _ _ _ _ h|qx r=>rw[e]at h;exact h.2.1
 |ky D=>
  let⟨_,_,x,b,_,a⟩:=p.C.g D d;obtain a|a:=a;exact p.LH H b a (λN q=>by cases q);exact p.LH H b a λN q=>by cases q
 |iK r s=>
  let⟨_,h2,T⟩:=p.C.u r s d;rw[d]at P;simp only[GS.sm]at P;let⟨x,b,_,a⟩:=T Z;exact p.LH H b a λN q=>by cases q
 .omega
 refine⟨0,g,C,p.I.Y C (λl g h=> ?_) O⟩;rw[p.h.1]at h;exact aiS H h
def PI.aiU(p:PI F n zX E S tr m lot gs w t):∀g∈gs,awake g:=by
 intro g d;obtain⟨i,e,rfl⟩:=Array.mem_iff_getElem.1 d;let⟨g0,_,b,c,_⟩:=p.I.C i _<|fj e;intro τ a;generalize gs[i]=g at b a;generalize m i=K at b;cases b with
 |gS=>rw[a]at c;obtain q|q:=c<;>cases q
 |qz _ _|vG _ _ _|oT _ _ _=>cases a
def aiV(H:iL F):∀(k:Nat)(μ:Mu)(E:gE F)(S:Nat->Jd)(tr:Nat->gW)(m:Nat->jc)(lot:Nat->fx) (gs:Array Ç) (w:Î) (sl:Option (Nat×Nat)) (t:ï),F.n+1-E.r=k->E.mu tr gs=μ->PI F n zX E S tr m lot gs w t->E.N≠ .gN-> ∃(N:Nat)(E':gE F)(b:Nat->Jd)(o:Nat->gW)(c:Nat->jc)(d:Nat->fx)(gs':Array Ç) (w':Î) (l:Option (Nat×Nat)) (a:ï),aD F.P N (ù gs w sl) t=(į<|ù gs' w' l,a)/\PI F n zX E' b o c d gs' w' a/\E'.N=.gN/\AU F zX a:=by
 intro k
 induction k using Nat.strongRecOn with
 |_ k Y=>
  intro μ
  induction (aho F.N).apply μ with
  |intro μ _ T=>
   intro E S tr m lot gs w sl t hk V p y;let⟨i,g,d,l,hi,jh,z⟩:=crowd_pick (P:=F.P) (w:=w) (sl:=sl) p.aiU<|p.aiT H;have p':=p.at H d;have jV:=p.b;obtain⟨b,c,e,f,h,r,s,u,v,W,j,a,x⟩|⟨b,c,e,f,h,j,a,x⟩|⟨b,c,e,f,h,r,s,u,v,W,j,a⟩|⟨b,c,e,f,h,r,s,u,v,W,j,a,x⟩:=p'.aiQ H (sl:=l) y hi jh;have X:=a.b;let⟨N,B,C,D,G,I,J,K,L,M,O,Q⟩:=T _ (V▸x) b c e f h r s l (t++u) Z U a λq=>y<|j q;exact⟨N+1,B,C,D,G,I,J,K,L,M,by simp only[aD,z,v];exact O,Q⟩;have X:=a.b;have h6:=a.at H w.drawn;exact T _ (V▸x) b c e f h gs w sl t Z U h6 λq=>y<|j q;have X:=a.b;have q:=EL a.C;let⟨N,B,C,D,G,I,J,K,L,M,O,Q⟩:=Y (F.n+1-b.r) Z _ b c e f h r s l (t++u) U U a j;exact⟨N+1,B,C,D,G,I,J,K,L,M,by simp only[aD,z,v];exact O,Q⟩;exact⟨1,b,c,e,f,h,r,s,l,t++u,by simp only[aD,z,v],j,a,x⟩
end
open RowKit Conc.Lib ConcR.Gen
def ji{p:Prop}(h:p:=by k_ne):p:=h
section
variable{J:Jd}{l:fx}
def LI(w:Î)(b:∀j,l.O j->j<w.heap.size):n7 l {l with w:=w} w w #[]:=⟨eE _,λ_ h=>À h,b,U,U,U,U,λ_ _ _ _=>U,λ_ _ _ _=>U,λ_ _ _=>U,U,U,U,λe a=>by simp at a,by simp[Ø],U,λ_=>⟨U,λe a=>by simp at a,U⟩,U⟩
def o5(a:∀j,l.O j->j<l.w.heap.size){w₁:Î}(r:gd l l.w w₁):∀j,l.O j->j<w₁.heap.size:=λj b=>ff (a j b) r.r
def Qw{R:Î->Î->Prop}{m:Ç->Î->Prop}:∀{n:Nat} {g:Ç} {l:fx},Ħ P yQ R Ù m n g l.w->(∀w c,gd l w c->R w c)->(∀j,l.O j->j<l.w.heap.size)->(∀c d,gd l l.w c->m d c->fF P yQ J {l with w:=c} d)->fF P yQ J l g:=by
 intro n
 induction n with
 |zero=>
  intro g l h j i e;exact(fF.fS λc r=>e c g r<|h c<|j _ _ r).fA|succ n p=>
  intro g l h j i e;obtain h|⟨s,h⟩:=h;exact(fF.fS λc r=>e c g r<|h c<|j _ _ r).fA;refine .mk s λc r=> ?_;have f:=h c<|j _ _ r;cases o:é P yQ g c with
  |go d k y=>
   rw[o,Γ]at f;let⟨⟨t,u⟩,v⟩:=f;subst t u;exact⟨d,k,#[],{l with w:=k},U,LI k<|o5 i r,p v (λa b q=>j a b<|AS q) (o5 i r) λa b q x=>e a b (r.fA<|AS q) x⟩|_=>rw[o]at f;exact f.elim
def aiW{m:au}(b:m=ó\/m=ì)(w:Î)(c:∀j,l.O j->j<w.heap.size):n7 l {l with d:=Ø l.d #[kV m],w:=w} w w #[kV m]:=by refine⟨eE _,λ_ h=>À h,c,U,U,U,U,λ_ _ _ _=>U,λ_ _ _ _=>U,λ_ _ _=>U,U,U,U,λe a=> ?_,U,U,λ_=>⟨U,λe a=> ?_,U⟩,U⟩;have:e=kV m:=fN a;subst this;obtain rfl|rfl:=b;exact Á<|Á<|Á<|À U;exact Á<|Á<|Á<|Á<|À U;have:e=kV m:=fN a;subst this;obtain rfl|rfl:=b<;>rfl
def fF.aiX{m:au}{b:Ç}(c:m=ó\/m=ì)(e:g.status=É)(f:∀j,l.O j->j<l.w.heap.size)(h:∀a,é P yQ g a=Ŷ b a #[kV m])(i:∀a,gd l l.w a->fF P yQ J {l with d:=Ø l.d #[kV m],w:=a} b):fF P yQ J l g:= .mk e λa r=>⟨b,a,_,_,h a,aiW c a<|o5 f r,i a r⟩
def o6(b:Nat)(w:Î):Prop:=(w.cell? ⟨b,0,Ã⟩).isSome=Ê/\(w.cell? ⟨b,1,Ã⟩).isSome=Ê
def o6.r(h:o6 b w):∃v,w.cell? ⟨b,0,Ã⟩=Â v:=Ý.1 h.1
def o6.C(h:o6 b w):∃v,w.cell? ⟨b,1,Ã⟩=Â v:=Ý.1 h.2
def RS(Ψ:Î->Prop)(b:Nat)(w a:Î):Prop:=w.heap.size<=a.heap.size/\(o6 b w->o6 b a)/\(Ψ w->Ψ a)
def SW(Ψ:Î->Prop)(l:fx)(b:Nat)(w:Î):Prop:=(∀j,l.O j->j<w.heap.size)/\o6 b w/\Ψ w
def gG(h:SW pX l b w)(r:RS pX b w u):SW pX l b u:=⟨λj a=>ff (h.1 j a) r.1,r.2.1 h.2.1,r.2.2 h.2.2⟩
def kY{P:č}{yQ:Bool}{l:fx}{g:Ç}{w:Î}{Q:Ç->Î->Prop}(hF:SW pX l b w)(h:∀a,SW pX l b a->Q g a):Ħ P yQ (RS pX b) Ù Q n g w:=ā λa r=>h a<|gG hF r
def nQ(Ψ:Î->Prop)(l:fx)(b:Nat):Prop:=(l.K ⟨b,0,Ã⟩\/l.M b)/\(l.K ⟨b,1,Ã⟩\/l.M b)/\∀w c:Î,w.heap.size<=c.heap.size->(∀j,l.M j->c.heap[j]?=w.heap[j]?)->(∀a,l.C a->c.cell? a=w.cell? a)->(∀a,l.C a->c.frozen? a=w.frozen? a)->(∀a,l.K a->(w.cell? a).isSome=Ê->(c.cell? a).isSome=Ê)->Ψ w->Ψ c
def nQ.r(h:nQ pX l b)(r:gd l w u):RS pX b w u:=⟨r.r,λq=>⟨h.1.elim (λk=>r.S _ k q.1) λm=>(by rw[iE<|r.I b m];exact q.1),h.2.1.elim (λk=>r.S _ k q.2) λm=>(by rw[iE<|r.I b m];exact q.2)⟩,h.2.2 w u r.r r.I r.N r.Y r.S⟩
def kA(a:nQ pX l b)(hF:SW pX l b l.w)(c:Ħ P yQ (RS pX b) Ù (λd e=>fF P yQ J {l with w:=e} d) n g l.w):fF P yQ J l g:=Qw c (λ_ _ r=>a.r r) hF.1 λ_ _ _ h=>h
def pM(c:nQ pX l b)(hF:SW pX l b l.w)(h:∀a,SW pX l b a->J {l with w:=a} g):fF P yQ J l g:=.fS λa r=>h a<|gG hF<|c.r r
def xB(e:nQ pX l b)(hF:SW pX l b l.w){m:au}{c:Ç}(f:m=ó\/m=ì)(i:g.status=É)(h:∀a,é P yQ g a=Ŷ c a #[kV m])(j:∀a,SW pX l b a->fF P yQ J {l with d:=Ø l.d #[kV m],w:=a} c):fF P yQ J l g:= .aiX f i hF.1 h λa r=>j a<|gG hF<|e.r r
end
section
variable{b:Ü}{a:Ł}{f:ļ}{i:List Χ}
def LJ(m:au)(d:∀g,m≠.extern g)(e:a.defers=dcall f #[]::i)(j:P.funcs[f]?=Â s)(k:(s.name== "runtime.NumGoroutine")=Æ)(l:s.body.isNone=Ê)(n:Extern.findNext s=Ã)(o:Extern.find s=Â λ_=>do mark m;pure Extern.Race.none_)(w:Î):é P yQ (G {b.at a L with mode:=û} qX) w=Ŷ (G {b.at ⟨a.tmps,i⟩ L with mode:=û} qX) w #[kV m]:=stepG_unwind_entry (v:=ĉ #[]) e j k l n o (by simp[Extern.Race.none_,kV]) (by simp[kV])<|by intro x c;simp[kV]at c;subst c;exact⟨U,λg h=>d g<|Loc.mark.inj h⟩
end
theorem YL(s:Nat)(h:s%4294967296<2147483648):s&&&2147483648=0:=by
 have e:(2147483648:Nat)=(2^32-1)&&&2147483648:=A;have a:(2:Nat)^32=4294967296:=A;rw[e,<-Nat.and_assoc,ew,a];have c:s%4294967296=(s%4294967296)&&&(2^31-1):=by rw[ew];have b:(2:Nat)^31=2147483648:=A;rw[b];omega
 grind
theorem E3(s:Int)(a:0<=s)(b:s<1000000*4294967296)(h:s%4294967296<1000000):bits .and Ï s 2147483648=0:=by obtain⟨n,rfl⟩:=Int.eq_ofNat_of_zero_le a;have h:=(bits_nat Ï 63 A ø n 2147483648 Z A).1;grind [YL]
theorem E4(s:Int)(a:0<=s)(b:s<1000000*4294967296)(h:s%4294967296<1000000):bits .and Ï s 2147483647=s%4294967296:=by have h:=bits_mask Ï 63 A ø 31 A s a Z;grind
def LK(L:ē):Array Þ:=#[{dst:=Â 113,op:=Ġ<|Í 0,type:=L.tWgP,pos:= "waitgroup.go:142",after:=#[],guard:=Ã},{dst:=Â 114,op:=Ŵ<|Í 113,type:=0,pos:= "waitgroup.go:142",after:=#[{on:=0,ground:=Ö}],guard:=Ã},{dst:=Â 115,op:=Ľ L.tWg (Í 114) 2,type:=0,pos:= "waitgroup.go:142",after:=#[{on:=1,ground:=Ö}],guard:=Ã},{dst:=Â 116,op:=Đ {callee:=ÿ<|ĥ L.semrelease,args:=#[Í 115,þ<|Value.bool Æ,þ<|Û ê 0],argTypes:=#[L.tPU32,4,3]},type:=0,pos:= "waitgroup.go:142",after:=#[{on:=2,ground:=Ö}],guard:=Ã}]
def LL(L:ē):Array Þ:=#[{dst:=Â 111,op:=Ġ<|Í 8,type:=L.tU32,pos:= "waitgroup.go:141",after:=#[],guard:=Ã},{dst:=Â 112,op:=Δ BinOp.sub L.tU32 (Í 111) (þ<|Û è 1) L.tU32,type:=L.tU32,pos:= "waitgroup.go:141",after:=#[{on:=0,ground:=Ö}],guard:=Ã},{dst:=Â 8,op:=ř<|Í 112,type:=L.tU32,pos:= "waitgroup.go:141",after:=#[{on:=1,ground:=Ö},{on:=0,ground:=î},{on:=1,ground:=î}],guard:=Ã}]
def LN(L:ē)(b:Nat)(t:Array Ì)(a:List Ü):Ç:=G ((base L.add).at ⟨t,[dcall L.enable #[]]⟩ [È (LK L) [3],ð 2,ü<|Ò 33 (LL L) Æ,ċ<|((Ò 32 #[{dst:=Â 109,op:=Ġ<|Í 8,type:=L.tU32,pos:= "waitgroup.go:141",after:=#[],guard:=Ã},{dst:=Â 110,op:=Δ BinOp.neq L.tU32 (Í 109) (þ<|Û è 0) L.tU32,type:=4,pos:= "waitgroup.go:141",after:=#[{on:=0,ground:=Ö}],guard:=Ã}] Æ).seq<|Ś (Í 110) ť<|ż 1).seq<|(ı 2<|Ò 34 (LK L) Æ).seq<|Ò 33 (LL L) Æ,ð 1])<|(base L.done).at {tmps:=#[Ä<|Â {block:=b,off:=0},Å,Ä<|Â {block:=b,off:=0},Å],defers:=[]} [È #[{dst:=Â 2,op:=Ġ<|Í 0,type:=L.tWgP,pos:= "waitgroup.go:156",after:=#[],guard:=Ã},{dst:=Â 3,op:=Đ {callee:=ÿ<|ĥ L.add,args:=#[Í 2,þ<|Û ê<|-1],argTypes:=#[L.tWgP,3]},type:=0,pos:= "waitgroup.go:156",after:=#[{on:=0,ground:=Ö}],guard:=Ã}] [1]]::a
section
variable{L:ē}{l:fx}{e:Jd}{k:List Į}
def aiY(H:ś P L)(g:nQ pX l b)(q:∀a,SW pX l b a->fF P Æ e {l with d:=0,w:=a} (G (f.at (y.put ((Q[i]?).bind (·.dst))<|ĉ #[])<|È Q jJ::k) qX)): ∀(r:Nat)(c:Int)(s t u v x z B C D E F I J K M N O S T V W X Y xC yY sP sQ tK tL tM xD vT vU uL uM vV vW vY vZ we wh wi wj wm rZ r7 yZ Qx Qy Qz QA QB QC QD QE QF QG QH QI QJ QK QL QM QN QO QP QQ QR QS QU QV QW QX QY QZ Q0 Q5 Q6 Q7 Q8 Q9 Ra Rb Rc Re Rf Rh Ri Rj Rk Rl Rm Rn Ro Rp Rq Rr Rs Rt Ru Rv Rw Rx Ry Rz RE RF RG RH RI RJ RN RO RP:Ì)(a:Î),SW pX l b a->(c<=(r:Int)+1/\(r:Int)+1<=c)->r+1<1000000-> fF P Æ (Hb P Æ b (fF P Æ e)<|r+1) {l with d:=1,w:=a} (LN L b #[Ä<|Â ⟨b,0,Ã⟩,s,t,u,v,x,z,B,Û è c,C,D,E,F,I,J,K,M,N,O,S,T,V,W,X,Y,xC,yY,sP,sQ,tK,tL,tM,xD,vT,vU,uL,uM,vV,vW,vY,vZ,we,wh,wi,wj,wm,rZ,r7,yZ,Qx,Qy,Qz,QA,QB,QC,QD,QE,QF,QG,QH,QI,QJ,QK,QL,QM,QN,QO,QP,QQ,QR,QS,QU,QV,QW,QX,QY,QZ,Q0,Q5,Q6,Q7,Q8,Q9,Ra,Rb,Rc,Re,Rf,Rh,Ri,Rj,Rk,Rl,Rm,Rn,Ro,Rp,Rq,Rr,Rs,Rt,Ru,Rv,Rw,Rx,Ry,Rz,RE,RF,RG,RH,RI,RJ,RN,RO,Ä<|Â ⟨b,1,Ã⟩,RP]<|f.at y (È Q (i::jJ)::k)::qX):=by
 intro r;unfold LN LK LL;lib_facts
 induction r with
 |zero=>
  intro c;intros;rename_i a hF o p;have e1:c=1:=Z;subst e1;clear o p;refine pM (l:={l with d:=1,w:=a}) g hF λh hF=>⟨U,U,ġ U U H.f_semrelease<|ç L,_,U,λa n j m=>(Ċ U U ji U H.f_semrelease (Ĕ L) (ç L) (ĕ L) (Ė L) (by simp[ß,iJ]) j m).trans gq,?_⟩;walk_nrm;apply kA (l:={l with d:=1,w:=h}) g hF (n:=50);iterate 17 w_go gG
  refine kY hF λa hF=> ?_;refine xB (l:={l with d:=1,w:=a}) g hF (Á U) U (λw=>LJ ì fD U H.f_enable (ė L) (Ę L) (ę L) (Ě L) w) λE5 hF=> ?_;have oY:Ø 1 #[kV ì]=0:=rfl;rw[oY];apply kA (l:={l with d:=0,w:=E5}) g hF (n:=10);u_leave0 H.f_add gG hF;iterate 2 w_go gG
  u_leave0 H.f_done gG hF
  refine kY hF λa hF=> ?_;exact q _ hF|succ r ih=>
  intro c;intros;rename_i a hF o p;have g1:(c-1)%4294967296=c-1:=Z;have g2:(c-1 !=0)=Ê:=by simp;omega
  refine pM (l:={l with d:=1,w:=a}) g hF λh hF=>⟨U,U,ġ U U H.f_semrelease<|ç L,_,U,λa n j m=>(Ċ U U ji U H.f_semrelease (Ĕ L) (ç L) (ĕ L) (Ė L) (by simp[ß,iJ]) j m).trans gq,?_⟩;walk_nrm;apply kA (l:={l with d:=1,w:=h}) g hF (n:=50);iterate 22 w_go gG
  refine kY hF λa hF=> ?_;apply ih (c-1)<;>first|exact hF|omega
end
section
variable{b:Ü}{a:Ł}{k:List Į}{cs:List Ü}{d:Nat}
def tN(P:č)(d:Nat)(g:Ç):Prop:=∃N,σ P N d g
def E6(P:č):Jd:=λl g=>tN P l.d g
def LO{a:Ç}(b:g.status=É)(h:∀w,é P Æ g w=Ŷ a w)(c:tN P d a):tN P d g:=let⟨n,q⟩:=c;⟨n+1,.ctl b h q⟩
def avR(f:Q[i]?=Â o)(g:Ó o (ò Q a.tmps)=Ê)(j:b.kind≠Ā)(h:∀(w:Î)(K:Ł->Î->Prop),K y w->uponK o a K ((Õ a.eval o).run P w))(n:∀w,(Õ a.eval o).events P w #[]=#[])(p:tN P d (G (b.at y<|È Q jJ::k) cs)):tN P d (G (b.at a<|È Q (i::jJ)::k) cs):=by
 refine LO U (λw=> ?_) p;have e:=h w (λx c=>x=y/\c=w) ⟨U,U⟩;have l:listed P b.fn a o w=#[]:=by rw[listed,n w,ö]
 revert e;generalize m:(Õ a.eval o).run P w=r;intro e;match r,e with|.ok (Ń v) w',⟨c,x⟩=>subst x;rw[Ŝ f g j m,l,c]|.ok Ω w',⟨c,x⟩=>subst x;rw[Ŧ f g j m,l,c]
def RR:∀{n m d:Nat} {g:Ç},n<=m->σ P n d g->σ P m d g|0,0,_,_,_,h=>h|0,_+1,_,_,_,h=>À h|_+1,0,_,_,e,_=>absurd e Z|_+1,_+1,_,_,e,h=>h.imp id λ⟨a,b,c,f,i,j⟩=>⟨a,b,c,f,i,RR (Nat.le_of_succ_le_succ e) j⟩
def Ib{n:Nat}{ops:Array Oper}{i:Nat}{rest:List Nat}{o:Oper}{a':Act}(hq:QuitsD P n d (G (b.at a'<|.inRegion ops rest::k) cs))(ho:ops[i]?=some o:=by rfl)(hw:Region.wanted o (yielded ops a.tmps)=true:=by rfl)(hk:b.kind≠.early:=by k_ne)(h:∀(w:World)(K:Act->World->Prop),K a' w->uponK o a K ((execOp a.eval o).run P w):=by intro w K hK;go_simp;(try w_num);exact hK)(he:∀w,(execOp a.eval o).events P w #[]=#[]:=by intro _;simp[go_sem, *]): QuitsD P (n+1) d (G (b.at a<|.inRegion ops (i::rest)::k) cs):=by
 refine QuitsD.ctl U (λw=> ?_) hq;have h1:=h w (λx y=>x=a'/\y=w) ⟨U,U⟩;have h2:listed P b.fn a o w=#[]:=by rw[listed,he w,ö]
 revert h1;generalize hr:(Õ a.eval o).run P w=r;intro h1;match r,h1 with|.ok (Ń v) w',⟨e1,e2⟩=>subst e2;rw[Ŝ ho hw hk hr,h2,e1]|.ok Ω w',⟨e1,e2⟩=>subst e2;rw[Ŧ ho hw hk hr,h2,e1]
end
section
variable{Ψ:Î->Prop}{L:ē}{b:Nat}{l:fx}{a:Ł}{ops:Array Þ}{rest:List Nat}{k:List Į}{cs:List Ü}
def aiZ(H:ś P L)(g:nQ Ψ l b)(h:tN P 0 (G (f.at (a.put ((ops[i]?).bind (·.dst))<|ĉ #[])<|È ops rest::k) cs)): ∀(r:Nat)(c:Int)(s t u v x y z B C D E F I J K M N O Q S T V W X Y sP sQ tK tL tM xD vT vU uL uM vV vW vY vZ we wh wi wj wm rZ r7 yZ Qx Qy Qz QA QB QC QD QE QF QG QH QI QJ QK QL QM QN QO QP QQ QR QS QU QV QW QX QY QZ Q0 Q5 Q6 Q7 Q8 Q9 Ra Rb Rc Re Rf Rh Ri Rj Rk Rl Rm Rn Ro Rp Rq Rr Rs Rt Ru Rv Rw Rx Ry Rz RE RF RG RH RI RJ RN RO RP:Ì)(e:Î),SW Ψ l b e->(c<=(r:Int)+1/\(r:Int)+1<=c)->r+1<1000000-> fF P Æ (Hb P Æ b (E6 P)<|r+1) {l with d:=1,w:=e} (LN L b #[Ä<|Â ⟨b,0,Ã⟩,s,t,u,v,x,y,z,Û è c,B,C,D,E,F,I,J,K,M,N,O,Q,S,T,V,W,X,Y,sP,sQ,tK,tL,tM,xD,vT,vU,uL,uM,vV,vW,vY,vZ,we,wh,wi,wj,wm,rZ,r7,yZ,Qx,Qy,Qz,QA,QB,QC,QD,QE,QF,QG,QH,QI,QJ,QK,QL,QM,QN,QO,QP,QQ,QR,QS,QU,QV,QW,QX,QY,QZ,Q0,Q5,Q6,Q7,Q8,Q9,Ra,Rb,Rc,Re,Rf,Rh,Ri,Rj,Rk,Rl,Rm,Rn,Ro,Rp,Rq,Rr,Rs,Rt,Ru,Rv,Rw,Rx,Ry,Rz,RE,RF,RG,RH,RI,RJ,RN,RO,Ä<|Â ⟨b,1,Ã⟩,RP]<|f.at a (È ops (i::rest)::k)::cs):=by
 intro r;unfold LN LK LL;lib_facts
 induction r with
 |zero=>
  intro c;intros;rename_i e hF o p;have e1:c=1:=Z;subst e1;clear o p;refine pM (l:={l with d:=1,w:=e}) g hF λq hF=>⟨U,U,ġ U U H.f_semrelease<|ç L,_,U,λe n j m=>(Ċ U U ji U H.f_semrelease (Ĕ L) (ç L) (ĕ L) (Ė L) (by simp[ß,iJ]) j m).trans gq,?_⟩;walk_nrm;show tN P 1 _;let⟨n,h⟩:=h;refine⟨n+150,?_⟩;repeat(first|refine Ib ?_|q_go)
  q_en H L
  q_leave0 H.f_add
  repeat(first|refine Ib ?_|q_go)
  q_leave0 H.f_done
  exact RR Z h|succ r ih=>
  intro c;intros;rename_i e hF o p;have g1:(c-1)%4294967296=c-1:=Z;have g2:(c-1 !=0)=Ê:=by simp;omega
  refine pM (l:={l with d:=1,w:=e}) g hF λq hF=>⟨U,U,ġ U U H.f_semrelease<|ç L,_,U,λe n j m=>(Ċ U U ji U H.f_semrelease (Ĕ L) (ç L) (ĕ L) (Ė L) (by simp[ß,iJ]) j m).trans gq,?_⟩;walk_nrm;apply kA (l:={l with d:=1,w:=q}) g hF (n:=50);iterate 22 w_go gG
  refine kY hF λe hF=> ?_;apply ih (c-1)<;>first|exact hF|omega
end
section
variable{L:ē}{l:fx}{k:List Į}
def ai0(H:ś P L)(I:l.K ⟨b,0,Ã⟩/\l.K ⟨b,1,Ã⟩)(u:nQ pX l b)(hF:SW pX l b l.w)(z:l.d=0)(p:tN P 0 (G (f.at (y.put ((Q[i]?).bind (·.dst))<|ĉ #[])<|È Q jJ::k) qX)): fF P Æ (λl g=>Ay P Æ b (E6 P) (lR l) g) l (G ((base L.done).at ⟨#[Ä<|Â ⟨b,0,Ã⟩,Å,Å,Å],[]⟩ [ü<|Œ L])<|f.at y (È Q (i::jJ)::k)::qX):=by
 lib_facts;simp only[Œ,ψ,bU];apply kA u hF (n:=40);iterate 2 w_go gG
 u_call H.f_add (aF L) aG gG hF
 iterate 11 w_go gG
 u_conv H.underlying_tWgP H.room_tWg (o6.r hF.2.1).choose_spec gG hF
 refine kY hF λg hF=> ?_;refine pM (l:={l with w:=g}) u hF λa hF=>⟨z,U,_,λ_=>ą ğ fD U U ji U H.f_relMerge (Ε L) (Ζ L) (Η L) (Θ L) (by simp[ß,gu]),?_⟩;walk_nrm;have c:nQ (λ_=>True) (lR {l with w:=a}) b:=⟨À I.1,À I.2,λ_ _ _ _ _ _ _ _=>trivial⟩;have B:SW (λ_=>True) (lR {l with w:=a}) b (lR {l with w:=a}).w:=⟨λj h=>h.elim,hF.2.1,trivial⟩;have J:(lR {l with w:=a}).d=0:=z;generalize lR {l with w:=a}=l2 at c B J|-;replace hF:=B;clear B u z;apply kA c hF (n:=10);iterate 3 w_go gG
 refine kY hF λg hF=> ?_;refine xB (l:={l2 with w:=g}) c hF (À U) U (λ_=>Č ó fD U U ji U H.f_disable (Ĳ L) (ĳ L) (Ĵ L)<|ĵ L) λS hF=> ?_;walk_nrm;have T:Ø l2.d #[kV ó]=1:=by rw[J];rfl
 rw[T];apply kA (l:={l2 with d:=1,w:=S}) c hF (n:=50);iterate 2 w_go gG
 u_defer gG hF
 iterate 8 w_go gG
 u_bub gG hF
 iterate 11 w_go gG
 u_call H.f_uAdd (ar L) aH gG hF
 iterate 10 w_go gG
 refine kY hF λg hF=> ?_;refine pM (l:={l2 with d:=1,w:=g}) c hF λa hF=>⟨U,U,λv=>⟨_,λg o C=>(Ĥ U U ji U H.f_addU64 (ŧ L) (Ũ L) (ũ L) Ï (Ū L) U U o C).trans gq,?_⟩⟩;walk_nrm;have M:Ï.wrap (v+18446744069414584320)=Ï.wrap (v+sK):=rfl;rw[M];clear M;obtain⟨s,D⟩:∃s,Ï.wrap (v+sK)=s:=⟨_,U⟩;simp only[D];have E:0<=s:=by rw[<-D];have:Ï.wrap (v+sK)=(v+sK)%18446744073709551616:=rfl;rw[this];omega
 clear D v;by_cases m:s=0\/(gK<=s/\s<1000000*gK/\s%gK<1000000)
 .rw[if_pos m];by_cases e:s=0;focus
   subst e;clear m E
  rotate_left;focus
   have V:=m.resolve_left e;clear m e E;let⟨W,X,c6⟩:=V;have Y:(4294967296:Int)<=s:=W;have F:s<1000000*4294967296:=X;have N:s%4294967296<1000000:=c6;have f1:=E3 s Z F N;have q:=E4 s Z F N;obtain⟨x,g1⟩:∃x,(s/4294967296+2147483648)%4294967296-2147483648=x:=⟨_,U⟩;have g2:¬x<0:=Z
   have g3:0<x:=Z;by_cases t:s%4294967296=0;focus rw[t]at q
   rotate_left;focus
    obtain⟨r,g4⟩:∃r,s%4294967296=r:=⟨_,U⟩;rw[g4]at q t;have O:r%4294967296=r:=Z;have g6:(r !=0)=Ê:=fN t
  all_goals
   show tN P 1 _;let⟨n,p⟩:=p;refine⟨n+150,?_⟩;repeat(first|refine Ib ?_|q_go)
   q_leave1 H.f_uAdd
   repeat(first|refine Ib ?_|q_go)
   q_en H L
   q_leave0 H.f_add
   repeat(first|refine Ib ?_|q_go)
   q_leave0 H.f_done
   exact RR Z p
 .rw[if_neg m];by_cases e:0<s/\s<1000000
  .rw[if_pos e];let⟨Y,F⟩:=e;clear m E;have f1:=E3 s Z Z Z;have q:=E4 s Z Z Z;have g1:(s/4294967296+2147483648)%4294967296-2147483648=0:=Z
   have O:s%4294967296=s:=Z;rw[O]at q;have g6:(s !=0)=Ê:=by simp;omega
   have W:(s==0)=Æ:=by simp;omega
   have N:(s.toNat:Int)=s:=Z;apply kA (l:={l2 with d:=1,w:=a}) c hF (n:=150);iterate 3 w_go gG
   u_leave1 H.f_uAdd gG hF
   iterate 89 w_go gG
   u_call H.f_uLoad (ū L) Ι gG hF
   iterate 9 w_go gG
   refine kY hF λg hF=> ?_;refine pM (l:={l2 with d:=1,w:=g}) c hF λa hF=>⟨U,U,λv=>⟨_,λg o=>Ć U U ji U H.f_loadU64 (Ķ L) (ķ L) (ĸ L) Ï (Ĺ L) U o,?_⟩⟩;show fF P Æ (if v=(s.toNat:Int)then Lb P Æ b (E6 P) s.toNat else λ_ _=>True) _ _;by_cases t:v=(s.toNat:Int)
   .rw[if_pos t];rw[N]at t;subst t;walk_nrm;have X:(v !=v)=Æ:=fD;apply kA (l:={l2 with d:=1,w:=a}) c hF (n:=150);iterate 3 w_go gG
    u_leave1 H.f_uLoad gG hF
    iterate 10 w_go gG
    u_call H.f_uStore (nm_uStore L) uStoreFn gG hF
    iterate 5 w_go gG
    refine kY hF λg hF=> ?_;refine pM (l:={l2 with d:=1,w:=g}) c hF λa hF=>⟨U,U,_,λg x o C=>ń U U ji U H.f_storeU64 (Κ L) (Λ L) (Μ L) (Ν L) U U o C,?_⟩;walk_nrm;obtain⟨r,V⟩:∃r,v.toNat=r+1:=⟨v.toNat-1,Z⟩;rw[V];apply kA (l:={l2 with d:=1,w:=a}) c hF (n:=150);iterate 2 w_go gG
    u_leave0 H.f_uStore gG hF
    iterate 24 w_go gG
    refine kY hF λg hF=> ?_;apply aiZ H c p r v<;>first|exact hF|omega
   rw[if_neg t];exact .fS λ_ _=>trivial
  rw[if_neg e];trivial
end
def RT(_ _:Î):Prop:=True
def fW(_:True)(_:RT w u):True:=trivial
def ai1(s:Int)(a:0<=s)(b:s<9223372036854775808)(h:s%4294967296<1000000):bits .and Ï s 2147483648=0:=by obtain⟨n,rfl⟩:=Int.eq_ofNat_of_zero_le a;have h:=(bits_nat Ï 63 A ø n 2147483648 Z A).1;rw[YL n Z]at h;simpa using h
def ai2(s:Int)(a:0<=s)(c:s<9223372036854775808)(h:s%4294967296<1000000):bits .and Ï s 2147483647=s%4294967296:=by have h:=bits_mask Ï 63 A ø 31 A s a Z;have e:((2:Int)^31-1)=2147483647:=A;have b:((2:Int)^31)=2147483648:=A;rw[e,b]at h;rw[h];omega
section
variable(P:č)(L:ē)(f:Bool)(b:Nat)(j:Jd)(c:Ü)(cs:List Ü)(l:fx)
def YM(g:Ç):Prop:=∃T:Array Ì,g=G ((base L.wait).at ⟨T,[]⟩ [ü<|L7 L,ċ<|L7 L,ð 0]) (c::cs)/\T.size=84/\T[0]?=Â (Ä<|Â ⟨b,0,Ã⟩)
def YN(v:Int)(g:Ç):Prop:=g.status=É/\
 (∃a,(∀w:Î,w.cell? (gu b)=Â (Û Ï v)->w.frozen? (gu b)=Æ->é P f g w=Ŷ a (w.setCell (gu b)<|Û Ï<|Ï.wrap<|v+1) #[lP<|gu b,oH<|gu b])/\fF P f (if v%gK=0 then PG P f b j else Ld P f b j) l a)/\
 ∃a,(∀(w:Î)(x:Int),x≠v->w.cell? (gu b)=Â (Û Ï x)->w.frozen? (gu b)=Æ->é P f g w=Ŷ a w #[lP<|gu b])/\∀w,Ħ P f RT Ù (λg _=>YM L b c cs g) 10 a w
def RU(g:Ç):Prop:=g.status=É/\∀v,∃a,(∀w:Î,w.cell? (gu b)=Â (Û Ï v)->é P f g w=Ŷ a w #[lP<|gu b])/\(0<=v/\v<1000000->fF P f (Hc P f b j) l a)/\
 ((gK<=v/\v<gK*2147483648/\v%gK<1000000)->∀w,Ħ P f RT Ù (λg _=>YN P L f b j c cs l v g) 60 a w)
end
section
variable{Ψ:Î->Prop}{P:č}{L:ē}{f:Bool}{b:Nat}{l:fx}{j:Jd}{c:Ü}{a:Ł}{k:List Į}{cs:List Ü}
def YO(H:ś P L)(m:nQ Ψ l b)(I:SW Ψ l b l.w)(s:l.d=1)(u:∀e,SW Ψ l b e->fF P f j {l with d:=0,w:=e} (G (c.at (a.put ((Q[i]?).bind (·.dst))<|ĉ #[])<|È Q jJ::k) cs))(h:YM L b (c.at a<|È Q (i::jJ)::k) cs g)(w:Î):Ħ P f RT Ù (λg _=>RU P L f b j (c.at a<|È Q (i::jJ)::k) cs l g) 30 g w:=by
 lib_facts;obtain⟨T,rfl,S,J⟩:=h;obtain⟨v0,v1,v2,v3,v4,v5,v6,v7,v8,v9,v10,v11,v12,v13,v14,v15,v16,v17,v18,v19,v20,v21,v22,v23,v24,v25,v26,v27,v28,v29,v30,v31,v32,v33,v34,v35,v36,v37,v38,v39,v40,v41,v42,v43,v44,v45,v46,v47,v48,v49,v50,v51,v52,v53,v54,v55,v56,v57,v58,v59,v60,v61,v62,v63,v64,v65,v66,v67,v68,v69,v70,v71,v72,v73,v74,v75,v76,v77,v78,v79,v80,v81,v82,v83,rfl⟩:=array84 T S;simp only[eu,dC,dI]at J;subst J;have hF:True:=trivial;simp only[L7,Ž,aI,bU];iterate 6 w_go fW
 u_call H.f_uLoad (ū L) Ι fW hF
 iterate 9 w_go fW
 refine ā λe y=> ?_;clear y hF e;refine⟨U,λv=>⟨_,λe o=>Ć U U ji U H.f_loadU64 (Ķ L) (ķ L) (ĸ L) Ï (Ĺ L) U o,λz=> ?_,λz w=> ?_⟩⟩
 .walk_nrm;let⟨r,t⟩:=z;have V:=E3 v Z Z Z;have B:=E4 v Z Z Z;have W:(v/4294967296+2147483648)%4294967296-2147483648=0:=Z
  have K:v%4294967296=v:=Z;rw[K]at B;have hF:=I;apply kA (l:=l) m hF (n:=150);iterate 3 w_go gG
  u_leave1 H.f_uLoad gG hF
  iterate 27 w_go gG
  refine kY hF λe hF=> ?_;refine xB (l:={l with w:=e}) m hF (Á U) U (λ_=>Č ì fD U U ji U H.f_enable (ė L) (Ę L) (ę L)<|Ě L) λC hF=> ?_;have D:Ø l.d #[kV ì]=0:=by rw[s];rfl
  rw[D];walk_nrm;apply kA (l:={l with d:=0,w:=C}) m hF (n:=50);iterate 3 w_go gG
  u_conv H.underlying_tWgP H.room_tWg (o6.r hF.2.1).choose_spec gG hF
  refine kY hF λe hF=> ?_;refine pM (l:={l with d:=0,w:=e}) m hF λp hF=>⟨U,U,_,λ_=>ą Ť fD U U ji U H.f_acquire (δ L) (ε L) (ζ L) (η L) (by simp[ß,gu]),?_⟩;walk_nrm;by_cases q:v=0
  .subst q;apply kA (l:={l with d:=0,w:=p}) m hF (n:=50);iterate 19 w_go gG
   u_leave0 H.f_wait gG hF
   refine kY hF λe hF=> ?_;exact u _ hF
  have O:(v==0)=Æ:=by simp;omega
  apply kA (l:={l with d:=0,w:=p}) m hF (n:=50);iterate 19 w_go gG
  u_leave0 H.f_wait gG hF
  refine kY hF λe hF=> ?_;exact u _ hF
 .walk_nrm;let⟨M,N,c6⟩:=z;have q4:(4294967296:Int)<=v:=M;have q5:v<4294967296*2147483648:=N;have E:v%4294967296<1000000:=c6;clear M N;have B:=ai2 v Z Z E;obtain⟨F,W⟩:∃F,(v/4294967296+2147483648)%4294967296-2147483648=F:=⟨_,U⟩;have g2:(F==0)=Æ:=by simp;omega
  have g3:(v+1)%18446744073709551616=v+1:=Z;have X:Ï.wrap (v+1)=v+1:=La Z Z;obtain⟨r,Y⟩:∃r,v%4294967296=r:=⟨_,U⟩;have V:=ai1 v Z Z E;rw[Y]at B E;have K:r%4294967296=r:=Z;have hF:True:=trivial;iterate 3 w_go fW
  u_leave1 H.f_uLoad fW hF
  iterate 32 w_go fW
  u_call H.f_uCas (nm_uCas L) uCasFn fW hF
  iterate 11 w_go fW
  refine ā λe y=> ?_;clear y hF e;refine⟨U,⟨_,λe o t=>(stepG_cas_hit (v:=v) (n:=v+1) U U ji U H.f_casU64 (ω L) (ae L) (af L) Ï (ag L) U U U o t).trans (by rw[X];rfl),?_⟩,_,λe x mP o t=>stepG_cas_miss (v:=x) (old:=v) (n:=v+1) U U ji U H.f_casU64 (ω L) (ae L) (af L) Ï (ag L) U U U o t mP,λw=> ?_⟩
  .walk_nrm;have hF:=I;by_cases q:v%gK=0;focus
    rw[if_pos q];have q:v%4294967296=0:=q;have:r=0:=Z;subst this;apply kA (l:=l) m hF (n:=150);iterate 3 w_go gG
    u_leave1 H.f_uCas gG hF
    iterate 15 w_go gG
    u_conv H.underlying_tPU32 H.room_tU32 (o6.C hF.2.1).choose_spec gG hF
    refine kY hF λe hF=> ?_;refine pM (l:={l with w:=e}) m hF λp hF=>⟨s,U,_,λ_=>ą aA fD U U ji U H.f_raceWrite (x_raceWrite_n L) (x_raceWrite_b L) (x_raceWrite_x L) (x_raceWrite_f L) (by simp[ß,iJ]),?_⟩;walk_nrm;apply kA (l:={l with w:=p}) m hF (n:=150);iterate 23 w_go gG
   rotate_left;focus
    rw[if_neg q];have q:¬v%4294967296=0:=q;have O:(r==0)=Æ:=by simp;omega
    apply kA (l:=l) m hF (n:=150);iterate 3 w_go gG
    u_leave1 H.f_uCas gG hF
    iterate 34 w_go gG
   all_goals
    refine kY hF λe hF=> ?_;refine pM (l:={l with w:=e}) m hF λp hF=>⟨s,U,U,λe o=>stepG_semacquire_wait U U U H.f_semacquire (Ŭ L) (ŭ L) (Ů L) (ů L) (by simp[ß,iJ]) o,_,λe n hn o t=>(stepG_semacquire (n:=n) U U ji U H.f_semacquire (Ŭ L) (ŭ L) (Ů L) (ů L) (by simp[ß,iJ]) o hn t).trans gq,?_⟩;walk_nrm;apply kA (l:={l with w:=p}) m hF (n:=50);iterate 6 w_go gG
    u_call H.f_uLoad (ū L) Ι gG hF
    iterate 9 w_go gG
    refine kY hF λe hF=> ?_;refine pM (l:={l with w:=e}) m hF λp hF=>⟨s,U,λx=>⟨_,λe o=>Ć U U ji U H.f_loadU64 (Ķ L) (ķ L) (ĸ L) Ï (Ĺ L) U o,?_⟩⟩;show fF P f (if x=0 then Hc P f b j else λ_ _=>True) _ _;by_cases O:x=0
    .subst O;rw[if_pos U];walk_nrm;apply kA (l:={l with w:=p}) m hF (n:=50);iterate 3 w_go gG
     u_leave1 H.f_uLoad gG hF
     iterate 7 w_go gG
     refine kY hF λe hF=> ?_;refine xB (l:={l with w:=e}) m hF (Á U) U (λ_=>Č ì fD U U ji U H.f_enable (ė L) (Ę L) (ę L)<|Ě L) λC hF=> ?_;have D:Ø l.d #[kV ì]=0:=by rw[s];rfl
     rw[D];walk_nrm;apply kA (l:={l with d:=0,w:=C}) m hF (n:=50);iterate 3 w_go gG
     u_conv H.underlying_tWgP H.room_tWg (o6.r hF.2.1).choose_spec gG hF
     refine kY hF λe hF=> ?_;refine pM (l:={l with d:=0,w:=e}) m hF λp hF=>⟨U,U,_,λ_=>ą Ť fD U U ji U H.f_acquire (δ L) (ε L) (ζ L) (η L) (by simp[ß,gu]),?_⟩;walk_nrm;apply kA (l:={l with d:=0,w:=p}) m hF (n:=50);iterate 9 w_go gG
     u_leave0 H.f_wait gG hF
     refine kY hF λe hF=> ?_;exact u _ hF
    rw[if_neg O];exact .fS λ_ _=>trivial
  walk_nrm;have hF:True:=trivial;iterate 3 w_go fW
  u_leave1 H.f_uCas fW hF
  iterate 5 w_go fW
  exact ā λ_ _=>⟨_,U,fD,fD⟩
end
section
variable{Ψ:Î->Prop}{L:ē}{l:fx}{e:Jd}{k:List Į}
def ai3{D:Î->Î->Array ŗ->Prop}{b:Ç->Î->Prop}(h:Ħ P yQ RT D b n g w):Ħ P yQ RT D b n g u:=by
 cases n with|zero=>exact λa _=>h a trivial|succ n=>exact h.imp (λq a _=>q a trivial) λq=>⟨q.1,λa _=>q.2 a trivial⟩
def YP{D:Î->Î->Array ŗ->Prop}{b c:Ç->Prop}(d:∀g,b g->∀w,Ħ P yQ RT D (λg _=>c g) m g w):∀{n:Nat} {g:Ç} {w:Î},Ħ P yQ RT D (λg _=>b g) n g w->Ħ P yQ RT D (λg _=>c g) (n+m) g w:=by
 intro n
 induction n with
 |zero=>intro g w h;rw[dQ];exact d g (h w trivial) w|succ n i=>
  intro g w h;obtain h|⟨j,h⟩:=h;exact(d g (h w trivial) w).mono Z;rw[show n+1+m=(n+m)+1 by omega];refine Goes.step j λe r=> ?_;have a:=h e r;cases f:é P yQ g e with
  |go k l o=>
   rw[f,Γ]at a;rw[Γ];exact⟨a.1,i a.2⟩|_=>rw[f]at a;exact a.elim
theorem YQ{S:Ç->Prop}(l:∀g,S g->g.status=É)(h:∀w,Ħ P yQ RT Ù (λg _=>S g) (n+1) g w):g.status=É/\(S g\/∀a,∃b,é P yQ g a=Ŷ b a #[]/\∀w,Ħ P yQ RT Ù (λg _=>S g) n b w):=by
 by_cases e:S g;grind;obtain q|⟨f,q⟩:=h default;exact absurd (q default trivial) e;refine⟨f,Á λa=> ?_⟩;have c:=q a trivial;cases d:é P yQ g a with
 |go b m o=>
  rw[d,Γ]at c;let⟨⟨i,j⟩,k⟩:=c;subst i j;exact⟨b,U,λw=>ai3 k⟩|_=>rw[d]at c;exact c.elim
def ai4(H:ś P L)(B:60<=j)(D:nQ Ψ l b)(E:SW Ψ l b l.w)(C:l.d=1)(F:∀a,SW Ψ l b a->fF P yQ e {l with d:=0,w:=a} (G (f.at (y.put ((Q[i]?).bind (·.dst))<|ĉ #[])<|È Q jJ::k) qX))(I:n<=j)(h:∀w,Ħ P yQ RT Ù (λg _=>RU P L yQ b e (f.at y<|È Q (i::jJ)::k) qX l g) n g w):PH P yQ j b e (.fV n) l g:=by
 refine⟨C,λp g=>match p with|.fV n=>n<=j/\∀w,Ħ P yQ RT Ù (λg _=>RU P L yQ b e (f.at y<|È Q (i::jJ)::k) qX l g) n g w|.ld v m=>m<=j/\gK<=v/\∀w,Ħ P yQ RT Ù (λg _=>YN P L yQ b e (f.at y (È Q (i::jJ)::k)) qX l v g) m g w,⟨I,h⟩,λp g J=> ?_⟩
 match p,J with
 |.fV (n+1),⟨h1,h2⟩=>
  let⟨r,u⟩:=YQ (λg h=>h.1) h2;refine⟨r,h1,u.imp (λq=>⟨eD _,λw a _=>q⟩) λq a=> ?_⟩;let⟨s,c,o⟩:=q a;exact⟨s,c,Z,o⟩|.fV 0,⟨_,h2⟩=>
  have q:=h2 default default trivial;refine⟨q.1,λv=> ?_⟩;let⟨s,c,o,x⟩:=q.2 v;refine⟨s,c,?_⟩;by_cases z:0<=v/\v<gK;rw[if_pos z];exact λt=>o ⟨z.1,t⟩;rw[if_neg z];exact λt=>⟨60,B,B,t.1,x t⟩|.ld v (m+1),⟨h1,h0,h2⟩=>
  let⟨r,u⟩:=YQ (λg h=>h.1) h2;refine⟨r,h0,h1,u.imp (λq=>⟨eD _,h0,λw a _=>q⟩) λq a=> ?_⟩;let⟨s,c,o⟩:=q a;exact⟨s,c,Z,h0,o⟩|.ld v 0,⟨_,h0,h2⟩=>
  let⟨r,⟨m,c,o⟩,q,x,s⟩:=h2 default default trivial;exact⟨r,h0,⟨m,c,o⟩,q,x,40,Z,Z,λw=>YP (λg t=>YO H D E C F t)<|s w⟩
def YR(H:ś P L)(o:60<=j)(a:nQ Ψ l b)(hF:SW Ψ l b l.w)(p:l.d=0)(h:∀c,SW Ψ l b c->fF P yQ e {l with d:=0,w:=c} (G (f.at (y.put ((Q[i]?).bind (·.dst))<|ĉ #[])<|È Q jJ::k) qX)): fF P yQ (sL P yQ j b e .jG) l (G ((base L.wait).at ⟨#[Ä<|Â ⟨b,0,Ã⟩,Å,Å,Å,Å,Å,Å,Å,Å,Å,Å,Å,Å,Å,Å,Å,Å,Å,Å,Å,Å,Å,Å,Å,Å,Å,Å,Å,Å,Å,Å,Å,Å,Å,Å,Å,Å,Å,Å,Å,Å,Å,Å,Å,Å,Å,Å,Å,Å,Å,Å,Å,Å,Å,Å,Å,Å,Å,Å,Å,Å,Å,Å,Å,Å,Å,Å,Å,Å,Å,Å,Å,Å,Å,Å,Å,Å,Å,Å,Å,Å,Å,Å,Å],[]⟩ [ü<|Ž L])<|f.at y (È Q (i::jJ)::k)::qX):=by
 lib_facts;simp only[Ž,aI,bU];apply kA a hF (n:=40);iterate 3 w_go gG
 refine ā λc q=> ?_;replace hF:=gG hF q;refine xB a hF (À U) U (λ_=>Č ó fD U U ji U H.f_disable (Ĳ L) (ĳ L) (Ĵ L)<|ĵ L) λt hF=> ?_;walk_nrm;have r:Ø l.d #[kV ó]=1:=by rw[p];rfl
 rw[r];refine pM a hF λm hF=>⟨40,Z,ai4 (l:={l with d:=1,w:=m}) H o a hF U h Z λw=>YP (λg s=>YO (l:={l with d:=1,w:=m}) H a hF U h s) ?_⟩;replace hF:True:=trivial;iterate 3 w_go fW
 exact ā λ_ _=>⟨_,U,fD,fD⟩
end
section
variable(P:č)(e:Bool)(b:Nat)(J:Jd)
def rd1:Jd:=λl g=>l.d=1/\G8 P e (.read<|iJ b) J l g
def LP:Jd:=λl g=>l.d=1/\Pn P e (gu b) gK (λs=>if s=gK then fF P e (rd1 P e b J)else if gK<s/\s<1000000*gK/\s%gK=0 then fF P e J else λ_ _=>True) l g
end
def ai5(F:Ph)(j:Nat)(a:Nat->Nat):PL F j a=LP F.P Ê F.C (Lh F j a):=rfl
section
variable{Ψ:Î->Prop}{P:č}{L:ē}{e:Bool}{b:Nat}{l:fx}{h:Jd}{k:List Į}
def YS(H:ś P L)(c:nQ Ψ l b)(hF:SW Ψ l b l.w)(C:l.d=0)(r:∀a,SW Ψ l b a->fF P e h {l with d:=0,w:=a} (G (f.at (y.put ((Q[i]?).bind (·.dst))<|ĉ #[])<|È Q jJ::k) qX)): fF P e (LP P e b h) l (G ((base L.add).at ⟨#[Ä<|Â ⟨b,0,Ã⟩,Û ê 1,Å,Å,Å,Å,Å,Å,Å,Å,Å,Å,Å,Å,Å,Å,Å,Å,Å,Å,Å,Å,Å,Å,Å,Å,Å,Å,Å,Å,Å,Å,Å,Å,Å,Å,Å,Å,Å,Å,Å,Å,Å,Å,Å,Å,Å,Å,Å,Å,Å,Å,Å,Å,Å,Å,Å,Å,Å,Å,Å,Å,Å,Å,Å,Å,Å,Å,Å,Å,Å,Å,Å,Å,Å,Å,Å,Å,Å,Å,Å,Å,Å,Å,Å,Å,Å,Å,Å,Å,Å,Å,Å,Å,Å,Å,Å,Å,Å,Å,Å,Å,Å,Å,Å,Å,Å,Å,Å,Å,Å,Å,Å,Å,Å,Å,Å],[]⟩ [ü<|body_add L])<|f.at y (È Q (i::jJ)::k)::qX):=by
 lib_facts;simp only[body_add,aG,bU];apply kA c hF (n:=40);iterate 12 w_go gG
 refine kY hF λa hF=> ?_;refine xB (l:={l with w:=a}) c hF (À U) U (λ_=>Č ó fD U U ji U H.f_disable (Ĳ L) (ĳ L) (Ĵ L)<|ĵ L) λg hF=> ?_;walk_nrm;have D:Ø l.d #[kV ó]=1:=by rw[C];rfl
 rw[D];apply kA (l:={l with d:=1,w:=g}) c hF (n:=50);iterate 2 w_go gG
 u_defer gG hF
 iterate 8 w_go gG
 u_bub gG hF
 iterate 11 w_go gG
 u_call H.f_uAdd (ar L) aH gG hF
 iterate 10 w_go gG
 refine kY hF λa hF=> ?_;refine pM (l:={l with d:=1,w:=a}) c hF λp hF=>⟨U,U,λv=>⟨_,λa E F=>(Ĥ U U ji U H.f_addU64 (ŧ L) (Ũ L) (ũ L) Ï (Ū L) U U E F).trans gq,?_⟩⟩;walk_nrm;have t:Ï.wrap (v+4294967296)=Ï.wrap (v+gK):=rfl;rw[t];clear t;obtain⟨s,u⟩:∃s,Ï.wrap (v+gK)=s:=⟨_,U⟩;simp only[u];clear u v;by_cases j:s=gK
 .rw[if_pos j];have m:s=4294967296:=j;clear j;subst m;apply kA (l:={l with d:=1,w:=p}) c hF (n:=150);iterate 3 w_go gG
  u_leave1 H.f_uAdd gG hF
  iterate 48 w_go gG
  u_conv H.underlying_tPU32 H.room_tU32 (o6.C hF.2.1).choose_spec gG hF
  refine kY hF λa hF=> ?_;refine pM (l:={l with d:=1,w:=a}) c hF λp hF=>⟨U,U,_,λ_=>ą .read fD U U ji U H.f_raceRead (x_raceRead_n L) (x_raceRead_b L) (x_raceRead_x L) (x_raceRead_f L) (by simp[ß,iJ]),?_⟩;walk_nrm;apply kA (l:={l with d:=1,w:=p}) c hF (n:=150);iterate 39 w_go gG
  refine kY hF λa hF=> ?_;refine xB (l:={l with d:=1,w:=a}) c hF (Á U) U (λw=>LJ ì fD U H.f_enable (ė L) (Ę L) (ę L) (Ě L) w) λg hF=> ?_;have q:Ø 1 #[kV ì]=0:=rfl;rw[q];apply kA (l:={l with d:=0,w:=g}) c hF (n:=10);u_leave0 H.f_add gG hF;refine kY hF λa hF=> ?_;exact r _ hF
 .rw[if_neg j];by_cases m:gK<s/\s<1000000*gK/\s%gK=0
  .rw[if_pos m];let⟨x,z,c6⟩:=m;have K:(4294967296:Int)<s:=x;have B:s<1000000*4294967296:=z;have I:s%4294967296=0:=c6;clear j x z c6;have M:=E3 s Z B Z;have J:=E4 s Z B Z;rw[I]at J;obtain⟨o,N⟩:∃o,(s/4294967296+2147483648)%4294967296-2147483648=o:=⟨_,U⟩;have O:¬o<0:=Z
   have S:0<o:=Z;have T:(o==1)=Æ:=by simp;omega
   apply kA (l:={l with d:=1,w:=p}) c hF (n:=150);iterate 3 w_go gG
   u_leave1 H.f_uAdd gG hF
   iterate 83 w_go gG
   refine kY hF λa hF=> ?_;refine xB (l:={l with d:=1,w:=a}) c hF (Á U) U (λw=>LJ ì fD U H.f_enable (ė L) (Ę L) (ę L) (Ě L) w) λg hF=> ?_;have q:Ø 1 #[kV ì]=0:=rfl;rw[q];apply kA (l:={l with d:=0,w:=g}) c hF (n:=10);u_leave0 H.f_add gG hF;refine kY hF λa hF=> ?_;exact r _ hF
  rw[if_neg m];trivial
end
def Cr:Ŗ->Nat->Ŗ|.seq a _,0=>a|.seq _ b,_=>b|Ś _ a _,0=>a|Ś _ _ b,_=>b|ı _ a,_|.loop a,_=>a|c,_=>c
def mr(f:Func)(l:List Nat):Ŗ:=l.foldl Cr<|f.body.getD ť
def rp(f:ļ)(a b:Array Ì):Χ:={target:=.fn (ī f) a,args:=b}
def pN(P:č):Ü:={(default:Ü)with fn:=P.funcs.size,defers:=[],mode:=.panicking [ŝ]}
section
variable{main:Bool}{b:Ü}{a:Ł}{k:List Į}{cs:List Ü}{ops:Array Þ}{rest:List Nat}
def YT(c:ops[i]?=Â o)(h:Ó o (ò ops a.tmps)=Ê)(j:b.kind≠Ā)(e:o.op=.defer {callee:=ÿ qQ,args:=#[],argTypes:=bX})(g:a.eval qQ=ž (ī F) #[] d): é P main (G (b.at a<|È ops (i::rest)::k) cs) w=Ŷ (G (b.at (ŉ ⟨a.tmps,rp F d #[]::a.defers⟩ o.dst Å)<|È ops rest::k) cs) w #[]:=by
 have l:(Õ a.eval o).run P w=.ok (.defer<|rp F d #[]) w:=by simp[Õ,e,ħ,ô,g,rp]
 have m:(Õ a.eval o).events P w #[]=#[]:=by simp[Õ,e,ħ,ô,g]
 have n:(b.at ⟨a.tmps,rp F d #[]::a.defers⟩<|È ops (i::rest)::k).finish Å=b.at (ŉ ⟨a.tmps,rp F d #[]::a.defers⟩ o.dst Å) (È ops rest::k):=by rw[Ď,c];rfl
 have p:(b.kind==Ā)=Æ:=fN j;rw[ah c h,<-n];simp[stepG.apply,l,m,G,Frame.at,p,ĝ,ö]
def YU(m:ops[i]?=Â o)(n:Ó o (ò ops a.tmps)=Ê)(p:b.kind≠Ā)(h:o.op=Đ {callee:=ÿ qQ,args:=#[],argTypes:=bX})(j:a.eval qQ=ž (ī F) #[] d)(e:P.funcs[F]?=Â s)(q:(s.name== "runtime.NumGoroutine")=Æ)(g:s.body=Â wX): é P main (G (b.at a<|È ops (i::rest)::k) cs) w=Ŷ (G ((base F).at {tmps:=d++ë (s.ntmps-d.size) Å,defers:=[]} [ü wX])<|b.at a (È ops (i::rest)::k)::cs) w #[]:=by
 have l:¬s.name= "runtime.NumGoroutine":=fN q;have r:(Õ a.eval o).run P w=.ok (.enter F d) w:=by simp[Õ,h,ħ,ô,j,Ű,ű,e,l,g]
 have t:(Õ a.eval o).events P w #[]=#[]:=by simp[Õ,h,ħ,ô,j,Ű,ű,e,l,g]
 rw[ι m n p r,<-enter_at d e g];rw[listed,t,ö]
def ai6(d:ops[i]?=Â o)(g:Ó o (ò ops a.tmps)=Ê)(h:b.kind=œ)(j:b.roundOf=Ã)(l:f.mode=û)(e:o.op=Đ {callee:=Ų .recover,args:=#[],argTypes:=bX})(q:o.type=t): é P main (G (b.at a<|È ops (i::rest)::k)<|f::cs) w=Ŷ (G (b.at (a.put o.dst Ă)<|È ops rest::k)<|f::cs) w #[]:=by
 have m:(Õ a.eval o).run P w=.ok .recover w:=by simp[Õ,e,ħ,Ű,builtin]
 have n:(Õ a.eval o).events P w #[]=#[]:=by simp[Õ,e,ħ,Ű,builtin]
 have p:(b.at a<|È ops (i::rest)::k).finish Ă=b.at (a.put o.dst Ă) (È ops rest::k):=by rw[Ď,d];rfl
 rw[ah d g,<-p];simp[stepG.apply,m,n,G,Frame.at,h,ĝ,ö,j,tryRecover,l]
def ai7{e:List Χ}(i:a.defers=rp F d #[]::e)(g:P.funcs[F]?=Â s)(j:(s.name== "runtime.NumGoroutine")=Æ)(h:s.body=Â wX): é P main (G {b.at a L with mode:=û} cs) w= Ŷ (G ((aJ F).at {tmps:=d++ë (s.ntmps-d.size) Å,defers:=[]} [ü wX])<|{b.at ⟨a.tmps,e⟩ L with mode:=û}::cs) w #[]:=by have k:¬s.name= "runtime.NumGoroutine":=fN j;rw[<-enter_atD d g h];simp[G,é,ai,Ξ,Frame.at,i,rp,Ű,ű,g,k,h,ĝ,ö]
def YV(a:P.funcs[F]?=Â s)(e:(s.name== "runtime.NumGoroutine")=Æ)(b:s.body=Â wX): é P main (aQ P<|rp F d #[]) w=Ŷ (G ((aJ F).at {tmps:=d++ë (s.ntmps-d.size) Å,defers:=[]} [ü wX]) [pN P]) w #[]:=by have g:¬s.name= "runtime.NumGoroutine":=fN e;rw[<-enter_atD d a b];simp[G,é,ai,Ξ,aQ,pN,rp,Ű,ű,a,g,b,ĝ,ö]
def ai8(d:b.kind=œ)(e:a.defers=[])(f:P.funcs[b.fn]?=Â s)(c:s.results=#[]): é P main (G {b.at a L with mode:=û} [pN P]) w=Ŷ (G (pN P) []) w:=by have g:=results_none c a.tmps P w;have h:=events_results_none (P:=P) (w:=w) c a.tmps #[];simp[G,é,ai,doReturn,Frame.at,d,e,f,g,h,pN,ŝ,seen,ĝ]
def ai9(w:Î):é P Æ (G (pN P) []) w=Ŷ {frame:=pN P,callers:=[],status:=Ĉ,dying:=Ã} w:=by simp[G,é,ai,pN,ŝ,Frame.catches];rfl
def aja:tN P 0 (G (pN P) []):=⟨1,.ctl U ai9 ⟨U,U⟩⟩
def ajb(c:b.kind=œ)(d:a.defers=[])(e:P.funcs[b.fn]?=Â s)(f:s.results=#[]):tN P 0 (G {b.at a L with mode:=û} [pN P]):=LO U (λ_=>ai8 c d e f) aja
def ajc(e:b.kind=œ)(g:a.defers=[])(h:P.funcs[b.fn]?=Â s)(j:s.results=#[])(k:f.mode=û)(l:tN P i (G f cs)):tN P i (G {b.at a L with mode:=û}<|f::cs):=let⟨n,q⟩:=l;⟨n+1,.leaveD e g h j k q⟩
end
def ajd(d:Nat)(t:Ņ)(w:Î)(a:Array ŗ)(h:P.underlying t=Â (.interface<|P.methodsAt t)):(aj (d+1) t Ă Ă).events P w a=a:=by simp[aj,run_underlying h,go_sem]
def aje(t:Ņ)(w:Î)(a:Array ŗ)(h:P.underlying t=Â (.interface<|P.methodsAt t)):(Op.equal t Ă Ă).events P w a=a:=ajd 9999 t w a h
def ajf(t:Ņ)(w:Î)(a:Array ŗ)(h:P.underlying t=Â (.interface<|P.methodsAt t)):(binOp .neq t Ă Ă).events P w a=a:=by simp only[binOp];simp[aje t w a h]
section
variable{main:Bool}{J:Jd}{l:fx}{b:Ü}{a:Ł}{k:List Į}{cs:List Ü}{ops:Array Þ}{rest:List Nat}
def kC(l:fx):Prop:=∀j,l.O j->j<l.w.heap.size
def YW(a:kC l)(b:Ħ P main RT Ù (λc _=>fF P main J l c) n g l.w):fF P main J l g:=Qw b (λ_ _ _=>trivial) a λ_ _ r h=>h.mF r
def gY(a:kC l)(b:Ħ P main RT Ù (λc _=>fF P main J l c) 160 g l.w):fF P main J l g:=YW a b
def gZ(h:fF P main J l g):Ħ P main RT Ù (λa _=>fF P main J l a) n g w:=ā λ_ _=>h
def C5(m:ops[i]?=Â o)(n:Ó o (ò ops a.tmps)=Ê)(p:b.kind≠Ā)(h:∀c,gd l l.w c->uponK o a (λs e=>∃d,n7 l d c e (listed P b.fn a o c)/\fF P main J d (G (b.at s<|È ops rest::k) cs)) ((Õ a.eval o).run P c)): fF P main J l (G (b.at a<|È ops (i::rest)::k) cs):=by
 refine .mk U λc r=> ?_;have f:=h c r;revert f;generalize q:(Õ a.eval o).run P c=res;intro f;match res,f with|.ok (Ń v) e,⟨d,g,j⟩=>exact⟨_,e,_,d,Ŝ m n p q,g,j⟩|.ok Ω e,⟨d,g,j⟩=>exact⟨_,e,_,d,Ŧ m n p q,g,j⟩
def r8(l:fx)(e:ŗ):Prop:=xr l e/\e.loc≠aB ó/\e.loc≠aB ì
def LQ(h:∀e∈V,r8 l e)(d:Nat):Ø d V=d:=ŏ (λe a=>⟨(h e a).2.1,(h e a).2.2⟩) d
def ajg(b:∀j,l.O j->j<w.heap.size)(c:¬l.q)(a:∀e∈V,r8 l e):n7 l {l with w:=w} w w V:=⟨eE _,λ_ h=>À h,b,U,U,U,U,λ_ _ _ _=>U,λ_ _ _ _=>U,λ_ _ _=>U,U,U,U,λe h=>(a e h).1,(LQ a _).symm,U,λq=>absurd q c,U⟩
def AW(d:ops[i]?=Â o)(f:Ó o (ò ops a.tmps)=Ê)(g:b.kind≠Ā)(j:kC l)(m:¬l.q)(n:∀c,gd l l.w c->(Õ a.eval o).run P c=.ok (Ń v) c)(p:∀c,gd l l.w c->∀e∈(Õ a.eval o).events P c #[],r8 l e)(s:fF P main J l (G (b.at (a.put o.dst v)<|È ops rest::k) cs)):fF P main J l (G (b.at a<|È ops (i::rest)::k) cs):=by refine C5 d f g λc r=> ?_;rw[n c r];exact⟨_,ajg (o5 j r) m λe h=>p c r e<|Ĩ h,s.mF r⟩
def jO(l:fx)(x:õ):Prop:=l.M x.block\/l.C x
def jO.r(h:jO l p)(r:gd l l.w u):u.cell? p=l.w.cell? p:=h.elim (λq=>iE<|r.I _ q)<|r.N p
def jO.rd{x:õ}(h:jO l x):r8 l ⟨ď x,Æ,Æ⟩:=by refine⟨À ⟨x,U,?_⟩,fD,fD⟩;obtain(q|q)|(q|q):=h;exact À q;exact Á<|Á ⟨À q,U,U⟩;exact Á<|À q;exact Á<|Á ⟨Á q,U,U⟩
def ajh(f:ops[i]?=Â o)(g:Ó o (ò ops a.tmps)=Ê)(j:b.kind≠Ā)(m:kC l)(n:¬l.q)(c:jO l p)(d:l.w.cell? p=Â v)(s:∀w,w.cell? p=Â v->(Õ a.eval o).run P w=.ok (Ń v) w)(t:∀w,w.cell? p=Â v->(Õ a.eval o).events P w #[]=#[⟨ď p,Æ,Æ⟩])(u:fF P main J l (G (b.at (a.put o.dst v)<|È ops rest::k) cs)):fF P main J l (G (b.at a<|È ops (i::rest)::k) cs):=AW f g j m n (λw r=>s w<|(c.r r).trans d) (λw r e h=>by rw[t w<|(c.r r).trans d]at h;have:e=⟨ď p,Æ,Æ⟩:=fN h;subst this;exact c.rd) u
structure AX(ops:Array Þ)(i:Nat)(o:Þ)(b:Ü)(a:Ł):Prop where
 avS:ops[i]?=Â o
 wn:Ó o (ò ops a.tmps)=Ê
 kd:b.kind≠Ā
def ru{x:Addr}{v:Value}(hc:l.w.cell? x=some v)(hs:jO l x)(hl:kC l)(hq:¬l.q)(hn:fF P main J l (G (b.at (a.put o.dst v)<|.inRegion ops rest::k) cs))(ho:AX ops i o b a:=by exact⟨rfl,rfl,by k_ne⟩)(hr:∀w,w.cell? x=some v->(execOp a.eval o).run P w=.ok (.value v) w:=by intro w h;go_simp)(he:∀w,w.cell? x=some v->(execOp a.eval o).events P w #[]=#[⟨.cell x,false,false⟩]:=by intro w h;simp[go_sem,h]):fF P main J l (G (b.at a<|.inRegion ops (i::rest)::k) cs):=ajh ho.1 ho.2 ho.3 hl hq hs hc hr he hn
def AY(v:Value)(hl:kC l)(hq:¬l.q)(hn:fF P main J l (G (b.at (a.put o.dst v)<|.inRegion ops rest::k) cs))(ho:AX ops i o b a:=by exact⟨rfl,rfl,by k_ne⟩)(hr:∀w,(execOp a.eval o).run P w=.ok (.value v) w:=by intro w;go_simp)(he:∀w,(execOp a.eval o).events P w #[]=#[]:=by intro w;simp[go_sem]):fF P main J l (G (b.at a<|.inRegion ops (i::rest)::k) cs):=AW ho.1 ho.2 ho.3 hl hq (λw _=>hr w) (λw _ e h=>by rw[he w]at h;simp at h) hn
def za(l:fx)(x:õ):Prop:=l.O x.block\/l.r x
def za.C(h:za l p):jO l p:=h.elim (λq=>À<|À q) λq=>Á<|À q
def za.r{x:õ}(h:za l x):r8 l ⟨ď x,Ê,Æ⟩:=⟨À ⟨x,U,h.elim À λq=>Á<|À q⟩,fD,fD⟩
end
section
variable{main:Bool}{J:Jd}{l:fx}{b:Ü}{k:List Į}{cs:List Ü}{ops:Array Þ}
def RV(a:∀j,l.O j->j<w.heap.size)(b:¬l.q):n7 l {l with w:={w with drawn:=w.drawn+1}} w {w with drawn:=w.drawn+1} #[]:=⟨eE _,λ_ h=>À h,a,U,U,U,U,λ_ _ _ _=>U,λ_ _ _ _=>U,λ_ _ _=>U,U,U,U,λe c=>by simp at c,by simp[Ø],U,λq=>absurd q b,U⟩
def kl(listed:Array Bool):Nat:=listed.countP λx=> !x
theorem LU{listed:Array Bool}(h:listed.getD i Ê=Æ):kl (listed.setIfInBounds i Ê)+1=kl listed:=by
 have a:i<listed.size:=by grind
 have b:listed[i]=Æ:=by simpa[a]using h
 unfold kl;grind [Array.countP_pos_iff,Array.getElem_mem]
def RX{md:á}{listed:Array Bool}(c:listed.size=ops.size)(h:kl listed=0):Ñ md ops listed=[]:=by rw[ea];intro j a;let⟨b,o,d,_⟩:=ă.1 a;have:=LU b;omega
def YX{md:á}(I:Array Bool->Ł->fx->Prop)(q:∀c a l i m,I c a l->i∈Ñ md ops c->fF P main (λh n=>∃f,n=G (b.at f<|È ops m::k) cs/\I (c.setIfInBounds i Ê) f h) l (G (b.at a<|È ops (i::m)::k) cs))(o:∀c a l,I c a l->c.size=ops.size->Ñ md ops c=[]->fF P main J l (G (b.at a<|È ops []::k) cs)): ∀(d t:Nat)(c:Array Bool)(a:Ł)(l:fx),c.size=ops.size->kl c<=d->I c a l->fF P main J l (G (b.at a<|È ops (ý md ops d t c [])::k) cs):=by
 intro d
 induction d with
 |zero=>
  intro t c a l e r g;simpa[ý]using o c a l g e<|RX e Z|succ d s=>
  intro t c a l e r g;simp only[ý];change fF P main J l (G (b.at a (È ops (match(Ñ md ops c)[t%(Ñ md ops c).length]? with|some i=>ý md ops d (t/(Ñ md ops c).length) (c.setIfInBounds i Ê) [i]|none=>[].reverse)::k)) cs)
  cases j:(Ñ md ops c)[t%(Ñ md ops c).length]? with
  |none=>
   have u:Ñ md ops c=[]:=by
    cases v:Ñ md ops c with
    |nil=>rfl|cons x p=>
     rw[v]at j;have w:t%(x::p).length<(x::p).length:=χ _ fD;simp at j;simp at w;omega
   simpa using o c a l g e u
  |some i=>
   simp only[];rw[linearise_go_acc,ez,eh];have p:=eU j;refine(q c a l i _ g p).nH ?_;rintro h n ⟨f,rfl,u⟩;exact s _ _ f h (fN e) (by have:=LU (ă.1 p).1;omega) u
theorem E7(n:Nat):kl (ë n Æ)=n:=by unfold kl;grind [Array.countP_replicate]
def RY{id:Nat}(I:Array Bool->Ł->fx->Prop)(n:kC l)(o:¬l.q)(f:∀d,gd l l.w d->I (ë ops.size Æ) y {l with w:={d with drawn:=d.drawn+1}})(g:∀e c y l i h,I c y l->i∈Ñ e ops c->fF P main (λp s=>∃j,s=G (b.at j<|È ops h::k) cs/\I (c.setIfInBounds i Ê) j p) l (G (b.at y<|È ops (i::h)::k) cs))(m:∀e c y l,I c y l->c.size=ops.size->Ñ e ops c=[]->fF P main J l (G (b.at y<|È ops []::k) cs)): fF P main J l (G (b.at y<|ü (Ò id ops Ê)::k) cs):=by refine .mk U λd r=>⟨_,_,_,_,stepG_region_draw,RV (o5 n r) o,?_⟩;unfold Region.schedule;split;exact YX I (g _) (m _) _ _ _ _ _ fD (by rw[E7];exact eE _)<|f d r;exact YX I (g _) (m _) _ _ _ _ _ fD (by rw[E7];exact eE _)<|f d r
end
def uN(e:Edge):Bool:=match e.ground with|ć _=>Æ|đ _=>Æ|_=>Ê
theorem YY{md:á}{e:Edge}(h:uN e=Ê):Ο md e=Ê:=by unfold uN at h;unfold Ο;grind
structure lD(ops:Array Þ)(t0:Array Ì)(val:Nat->Ì)(listed:Array Bool)(a:Ł):Prop where
 I:a.defers=[]
 S:a.tmps.size=t0.size
 b:∀d,(∀j o,ops[j]?=Â o->listed.getD j Æ=Ê->o.dst≠Â d)->a.tmps[d]?=t0[d]?
 r:∀j o d,ops[j]?=Â o->listed.getD j Æ=Ê->o.dst=Â d->a.tmps[d]?=Â (val j)
 C:∀j o e,ops[j]?=Â o->listed.getD j Æ=Ê->e∈o.after->uN e=Ê->listed.getD e.on Æ=Ê
def tO(a:Array Þ)(n:Nat):Bool:=(å a.size).all λi=>match(a.getD i default).dst with|none=>Ê|some d=>decide (d<n)&&(å a.size).all λj=>i==j||(a.getD j default).dst !=Â d
section
variable{ops:Array Þ}{t0:Array Ì}{val:Nat->Ì}{listed:Array Bool}{a:Ł}
def YZ(h:tO ops t0.size=Ê)(a:ops[i]?=Â o)(b:o.dst=Â n):n<t0.size:=by have:=(eI.1 h) i<|dZ.2<|(fp.1 a).1;simp_all
theorem Y0(h:tO ops t0.size=Ê){d:Nat}{a:Þ}(b:ops[i]?=Â o)(e:ops[j]?=Â a)(f:j≠i)(c:o.dst=Â d):a.dst≠Â d:=by have:=(eI.1 h) i<|dZ.2<|(fp.1 b).1;simp[b,c]at this;grind
def lD.gA(h:lD ops t0 val listed a)(b:ops.toList.all (λo=>o.dst !=Â i)=Ê):a.tmps[i]?=t0[i]?:=h.b i λj o c _ e=>by have:=eI.1 b o<|eS.2<|fg c;simp[e]at this
def RZ(h:(listed.setIfInBounds i Ê).getD j Æ=Ê):j=i\/listed.getD j Æ=Ê:=by by_cases e:i=j;all_goals simp_all
theorem lD.fR(h:lD ops t0 val listed a)(u:tO ops t0.size=Ê){md:á}(l:ops[i]?=Â o)(p:i∈Ñ md ops listed)(w:o.dst≠Ã->v=val i):lD ops t0 val (listed.setIfInBounds i Ê) (a.put o.dst v):=by
 have y:=(ă.1 p).1;have r:∀j c e,ops[j]?=Â c->(listed.setIfInBounds i Ê).getD j Æ=Ê->e∈c.after->uN e=Ê->(listed.setIfInBounds i Ê).getD e.on Æ=Ê:=λj c e b f s t=>by obtain rfl|q:=RZ f;let⟨_,n,d,g⟩:=ă.1 p;rw[b]at d;obtain rfl:=dh d;exact Ģ<|g e s<|YY t;exact Ģ<|h.C j c e b q s t
 have x:(listed.setIfInBounds i Ê).getD i Æ=Ê:=by
  have n:i<listed.size:=by grind
  simp[n]
 cases k:o.dst with
 |none=>
  refine⟨h.I,h.S,λd m=>h.b d λj c b f=>m j c b<|Ģ f,λj c d b f g=> ?_,r⟩;obtain rfl|q:=RZ f;rw[l]at b;obtain rfl:=dh b;rw[k]at g;cases g;exact h.r j c d b q g
 |some e=>
  refine⟨h.I,by simp[ŉ,h.S],λd m=> ?_,λj c d b f g=> ?_,r⟩;simp only[ŉ];rw[eA (λq=>m i o l x<|by rw[k,q])];exact h.b d λj c b f=>m j c b<|Ģ f;simp only[ŉ];obtain rfl|q:=RZ f;rw[l]at b;obtain rfl:=dh b;rw[k]at g;obtain rfl:=dh g;have n:e<a.tmps.size:=by rw[h.S];exact YZ u l k
  simp[n,(w<|by rw[k];simp)];have n:e≠d:=by grind [Y0]
  rw[eA n];exact h.r j c d b q g
def lD.K(h:lD ops t0 val listed a){b:Nat->Ì}(e:∀j,listed.getD j Æ=Ê->b j=val j):lD ops t0 b listed a:=⟨h.I,h.S,h.b,λj o d f c g=>(by rw[e j c];exact h.r j o d f c g),h.C⟩
theorem zd{md:á}(h:i∈Ñ md ops listed)(b:ops[i]?=Â o)(c:o.after.toList.any (λe=>e.on==j&&uN e)=Ê):listed.getD j Æ=Ê:=by let⟨_,f,a,g⟩:=ă.1 h;rw[b]at a;obtain rfl:=dh a;let⟨e,k,d⟩:=du.1 c;simp only[eC,beq_iff_eq]at d;grind [YY]
theorem R0(h:listed.getD i Ê=Æ):¬listed.getD i Æ=Ê:=by grind
def C6(md:á)(ops:Array Þ):List Nat->List Nat->Bool|[],_=>Ê|i::r,seen=>(match ops[i]? with|some o=>o.after.toList.all (λe=> !Region.binds md e||seen.contains e.on)|none=>Æ)&&C6 md ops r (i::seen)
theorem C7{md:á}(h:Ñ md ops listed=[])(l:listed.size=ops.size):∀(b a:List Nat),C6 md ops b a=Ê->(∀i∈a,listed.getD i Æ=Ê)->∀i∈b,listed.getD i Æ=Ê:=by
 intro b
 induction b with
 |nil=>intro a _ _ i c;cases c
 |cons j r m=>
  intro a n p i c;let⟨d,s⟩:=cV.1 (show(_&&_)=Ê from n);have f:listed.getD j Æ=Ê:=by
   split at d;rename_i o g;have v:j<listed.size:=by rw[l];exact(fp.1 g).1
   by_cases t:listed.getD j Ê=Æ;have:j∈Ñ md ops listed:=ă.2 ⟨t,o,g,λe w x=>by grind⟩;grind;grind;cases d
  obtain rfl|q:=eK.1 c;exact f;exact m (j::a) s (λk u=>(eK.1 u).elim (λe=>e▸f)<|p k) i q
def lD.M(t:Array Ì)(val:Nat->Ì)(n:Nat):lD ops t val (ë n Æ) ⟨t,[]⟩:=by
 have a:∀j,¬(ë n Æ).getD j Æ=Ê:=λj q=>by obtain z|z:=ey j n;all_goals simp_all
 exact⟨U,U,λ_ _=>U,λj _ _ _ z=>absurd z<|a j,λj _ _ _ z=>absurd z<|a j⟩
theorem AZ{md:á}(h:i∈Ñ md ops listed):i<ops.size:=by let⟨_,o,a,_⟩:=ă.1 h;grind
def aji{md:á}(h:i∈Ñ md ops listed):listed.getD i Ê=Æ:=(ă.1 h).1
end
theorem ajj(h:a.spot.isSome=Ê):w.cell? a=Ã:=by unfold κ;grind
theorem E8{x:õ}(c:x.spot=Ã)(h:a≠x):(w.setCell x v).cell? a=w.cell? a:=by
 by_cases d:a.spot.isSome=Ê;grind [ajj];apply Cn;let⟨e,f,g⟩:=x;let⟨i,j,b⟩:=a;simp only at c d|-;have:b=Ã:=by cases b<;>simp_all
 grind
section
variable{main:Bool}{J:Jd}{l:fx}{b:Ü}{a:Ł}{k:List Į}{cs:List Ü}{ops:Array Þ}{rest:List Nat}
theorem Y1(b:p.spot=Ã)(d:(w.cell? p).isSome=Ê)(f:(u.cell? p).isSome=Ê)(r:gd l w u):gd l (w.setCell p v) (u.setCell p v):=by refine⟨by rw[ml,ml];exact r.r,λj c=> ?_,λy a=> ?_,λy a=> ?_,λy a h=> ?_⟩;by_cases e:j=p.block;subst e;simp only[ŀ,fh];rw[r.I _ c];rw[oV e,oV e];exact r.I j c;by_cases e:y=p;grind [Ý,K9];rw[E8 b e,E8 b e];exact r.N y a;rw[vH,vH];exact r.Y y a;by_cases e:y=p;grind [Co];rw[E8 b e]at h|-;exact r.S y a h
def Y2(f:p.spot=Ã)(g:∀j,l.O j->j<w.heap.size)(i:¬l.q)(c:za l p)(d:∀e∈V,r8 l e):n7 l {l with w:=w.setCell p v} w (w.setCell p v) V:=by refine⟨by rw[ml];exact eE _,λ_ h=>À h,λj k=>by rw[ml];exact g j k,U,U,U,U,λj _ a b=>oV λe=>c.elim (λq=>a<|e▸q) λq=>b p e.symm q,λy _ a b=>E8 f λe=> ?_,λ_ _ _=>Pz,U,U,U,λe h=>(d e h).1,(LQ d _).symm,U,λq=>absurd q i,U⟩;subst e;exact c.elim a b
def ajk{x:õ}(n:ops[i]?=Â o)(p:Ó o (ò ops a.tmps)=Ê)(s:b.kind≠Ā)(t:kC l)(u:¬l.q)(g:x.spot=Ã)(c:za l x)(j:(l.w.cell? x).isSome=Ê)(y:o.dst=Ã)(z:l.w.frozen? x=Æ)(B:∀w,(w.cell? x).isSome=Ê->w.frozen? x=Æ->(Õ a.eval o).run P w=.ok Ω (w.setCell x v))(C:∀w,(w.cell? x).isSome=Ê->w.frozen? x=Æ->(Õ a.eval o).events P w #[]=#[⟨ď x,Ê,Æ⟩])(D:fF P main J {l with w:=l.w.setCell x v} (G (b.at a<|È ops rest::k) cs)):fF P main J l (G (b.at a<|È ops (i::rest)::k) cs):=by
 refine C5 n p s λd r=> ?_;have f:(d.cell? x).isSome=Ê:=by rwa[c.C.r r]
 have m:d.frozen? x=Æ:=by rw[<-z];exact c.C.elim (λq=>yI<|r.I _ q)<|r.Y x
 rw[B d f m];refine⟨_,Y2 g (o5 t r) u c λe h=> ?_,?_⟩;have:=Ĩ h;rw[C d f m]at this;have:e=⟨ď x,Ê,Æ⟩:=fN this;subst this;exact c.r;have:(a.put o.dst Å)=a:=by rw[y];rfl
 rw[this];exact D.mF<|AS<|Y1 g j f r
end
def nR(l:fx):fx:={l with O:=λ_=>False,I:=l.M,r:=λ_=>False,N:=l.C}
def oc(l x:fx):fx:={x with O:=λb=>x.O b\/l.O b,I:=l.I,r:=l.r,N:=l.N}
structure iX(l l':fx):Prop where
 O:∀j,l.O j->l'.O j
 a:∀j,l'.O j->l.O j\/l.w.heap.size<=j
 N:l'.I=l.I
 S:l'.r=l.r
 Y:l'.N=l.N
 K:l'.K=l.K
 q:l'.q=l.q
 r:gd l l.w l'.w
 fM:kC l'
theorem iX.gy{l:fx}(h:kC l):iX l l:=⟨λ_ h=>h,λ_ h=>À h,U,U,U,U,U,gd.gy _ _,h⟩
def iX.C{l a:fx}(h:iX l a):a.C=l.C:=by unfold fx.C;rw[h.S,h.Y]
def iX.M{l a:fx}(h:iX l a)(c:l.M b):a.M b:=c.imp (h.O b)<|by rw[h.N];exact id
def iX.H{l d:fx}(h:iX l d)(r:gd d w u):gd l w u:=⟨r.r,λj e=>r.I j<|h.M e,λx b=>r.N x (by rwa[h.C]),λx b=>r.Y x (by rwa[h.C]),λx b=>r.S x<|by rwa[h.K]⟩
def iX.fA{a b c:fx}(h:iX a b)(k:iX b c):iX a c:=⟨λj d=>k.O j<|h.O j d,λj d=>(k.a j d).elim (h.a j) λq=>Á<|Ð h.r.r q,k.N.trans h.N,k.S.trans h.S,k.Y.trans h.Y,k.K.trans h.K,k.q.trans h.q,h.r.fA<|h.H k.r,k.fM⟩
def iX.I{l a:fx}(h:iX l a){w₁:Î}(r:gd a a.w w₁):iX l {a with w:=w₁}:=⟨h.O,h.a,h.N,h.S,h.Y,h.K,h.q,h.r.fA<|h.H r,o5 h.fM r⟩
def gT.mF{l:fx}(s:gT l){w₁:Î}(h:l.w.heap.size<=w₁.heap.size):gT {l with w:=w₁}:=⟨s.c,s.Y,s.S,λb d=>ff (s.fM b d) h,λa c=>ff (s.I a c) h,λa c=>let⟨e,f,g⟩:=s.N a c;⟨e,ff f h,g⟩⟩
def gT.r{l:fx}(s:gT l):kC l:=λj a=>s.fM j<|À a
section
variable{J:Jd}
theorem ajl{l x:fx}(d:x.I=l.M)(g:x.r=λ_=>False)(f:x.N=l.C){e:ŗ}(h:xr x e):xr (oc l x) e:=by obtain⟨a,b,c⟩|h|h|h|h|⟨a,b,c⟩:=h;refine À ⟨a,b,?_⟩;obtain q|q|⟨q|q,z⟩:=c;exact À<|À q;grind;rw[d]at q;obtain q|q:=q;exact À<|Á q;exact Á<|Á ⟨À q,z⟩;rw[f]at q;obtain q|q:=q;exact Á<|À q;exact Á<|Á ⟨Á q,z⟩;exact Á<|À h;exact Á<|Á<|À h;exact Á<|Á<|Á<|À h;exact Á<|Á<|Á<|Á<|À h;exact Á<|Á<|Á<|Á<|Á ⟨a,À b,c⟩
def Y3{l x:fx}(a:x.I=l.M):(oc l x).M=x.M:=by funext b;refine propext ⟨λh=> ?_,λh=> ?_⟩;obtain(q|q)|q:=h;exact À q;exact Á (by rw[a];exact À q);exact Á (by rw[a];exact Á q);obtain q|q:=h;exact À<|À q;rw[a]at q;exact q.elim (λz=>À<|Á z) Á
theorem LV{l x:fx}(c:x.r=λ_=>False)(b:x.N=l.C):(oc l x).C=x.C:=by funext a;refine propext ⟨λh=>Á (by rwa[b]),λh=> ?_⟩;obtain q|q:=h;grind;rwa[b]at q
def fF.ajm{l:fx}(s:gT l){x:fx}(h:fF P yQ J x g):x.I=l.M->x.r=(λ_=>False)->x.N=l.C->x.K=l.K->x.q=l.q->gd l l.w x.w->(∀j,x.O j->l.w.heap.size<=j)->kC x-> fF P yQ (λb c=>∃a,J a c/\b=oc l a/\iX l b/\a.I=l.M/\a.N=l.C/\a.r=λ_=>False) (oc l x) g:=by
 induction h with
 |@fS x g h=>
  intro m f d o B p v E;refine .fS λc r=>⟨{x with w:=c},(h c ⟨r.r,λj b=>r.I j (by rwa[Y3 m]),λy a=>r.N y (by rwa[LV f d]),λy a=>r.Y y (by rwa[LV f d]),r.S⟩),U,?_,m,d,f⟩;refine⟨λj b=>Á b,λj b=>b.elim (λq=>Á<|v j q) À,U,U,U,o,B,p.fA ⟨r.r,λj b=>r.I j (b.elim (λq=>À<|Á q) Á),λy a=>r.N y a,λy a=>r.Y y a,λy a=>r.S y ?_⟩,λj b=> ?_⟩;show x.K y;rwa[o];refine ff ?_ r.r;obtain q|q:=b;exact E j q;exact ff (s.fM j<|À q) p.r|@kx x g G' W' E' L' jh h hd _ ih=>
  intro m f d o B p v E;refine .mk jh λc r=> ?_;have i:gd x x.w c:=⟨r.r,λj b=>r.I j (by rwa[Y3 m]),λy a=>r.N y (by rwa[LV f d]),λy a=>r.Y y (by rwa[LV f d]),r.S⟩;have D:=hd c i;have n:=Ð p.r i.r;have z:∀j,j<l.w.heap.size->¬x.O j:=λj b q=>by have:=v j q;omega
  have t:∀y:õ,¬x.r y:=λy q=>by rwa[f]at q
  have hrel:gd l c (W' c):=⟨D.C,λj b=>D.lB j (ff (s.fM j b) n) (z j<|s.fM j b) λy _=>t y,λy a=>D.S y (ff (s.I y a) n) (z _<|s.I y a)<|t y,λy a=>K2<|D.Y y (ff (s.I y a) n)<|z _<|s.I y a,λy a q=>by rwa[D.S y (ff (s.N y a).2.1 n) (z _ (s.N y a).2.1)<|t y]⟩;refine⟨G' c,W' c,E' c,oc l<|L' c,h c i,?_,(ih c i (D.rd.trans m) (D.r.trans f) (D.I.trans d) (D.k.trans o) (D.q.trans B) (by rw[D.N];exact(p.fA ⟨i.r,λj b=>i.I j (Á<|by rwa[m]),λy a=>i.N y (Á<|by rwa[d]),λy a=>i.Y y (Á<|by rwa[d]),λy a=>i.S y<|by rwa[o]⟩).fA hrel) (λj b=>(D.M j b).elim (v j) λq=>Ð n q) λj b=>by rw[D.N];exact D.fM j b)⟩;refine⟨D.C,λj b=> ?_,λj b=> ?_,U,U,U,D.k,λj b u F=>D.lB j b (λq=>u<|À q) λy _=>t y,λy a u F=>D.S y a (λq=>u<|À q)<|t y,λy a u=>D.Y y a λq=>u<|À q,D.c,D.f,D.i,λe G=>ajl (D.rd.trans m) (D.r.trans f) (D.I.trans d)<|D.b e G,D.g,D.q,λH=> ?_,D.N⟩;obtain q|q:=b;exact(D.M j q).imp À id;exact À<|Á q;obtain q|q:=b;exact D.fM j q;exact ff (s.fM j<|À q)<|Ð n D.C;let⟨I,L,N⟩:=D.h H;exact⟨I,L,by funext j;show((L' c).O j\/l.O j)=(x.O j\/l.O j);rw[N]⟩
theorem fF.nR{l:fx}(s:gT l)(h:fF P yQ J (fO.nR l) g):fF P yQ (λe j=>∃b,J b j/\e=oc l b/\iX l e/\b.I=l.M/\b.N=l.C/\b.r=λ_=>False) l g:=by
 have:=h.ajm s U U U U U (gd.gy _ _) (λj q=>q.elim) λj q=>q.elim;have e:oc l (fO.nR l)=l:=by
  have:(λb=>False\/l.O b)=l.O:=by funext b;simp
  unfold oc fO.nR;simp only[this]
 grind
end
structure ju(E:õ->Prop)(l l':fx):Prop where
 O:∀j,l.O j->l'.O j
 h:∀j,l'.O j->l.O j\/l.w.heap.size<=j
 S:l'.I=l.I
 I:l'.r=l.r
 c:l'.N=l.N
 K:l'.K=l.K
 q:l'.q=l.q
 d:l'.d=l.d
 fM:kC l'
 f:l.w.heap.size<=l'.w.heap.size
 r:∀j,l.M j->l'.w.heap[j]?=l.w.heap[j]?
 e:∀a,l.C a->¬E a->l'.w.cell? a=l.w.cell? a
 b:∀a,l.C a->l'.w.frozen? a=l.w.frozen? a
 Y:∀a,l.K a->(l.w.cell? a).isSome=Ê->(l'.w.cell? a).isSome=Ê
 g:∀a,E a->(l.w.cell? a).isSome=Ê->(l'.w.cell? a).isSome=Ê
section
variable{E:õ->Prop}{l l' l'':fx}
theorem ju.gy(h:kC l):ju E l l:=⟨λ_ h=>h,λ_ h=>À h,U,U,U,U,U,U,h,eE _,λ_ _=>U,λ_ _ _=>U,λ_ _=>U,λ_ _ h=>h,λ_ _ h=>h⟩
def ju.C(h:ju E l l'):l'.C=l.C:=by unfold fx.C;rw[h.I,h.c]
def ju.M(h:ju E l l')(a:l.M b):l'.M b:=a.imp (h.O b)<|by rw[h.S];exact id
def ju.G(h:ju E l l')(f:∀a,E a->l.r a)(k:iX l' l'')(g:l''.d=l'.d):ju E l l'':=by have e:=h.C;refine⟨λj c=>k.O j<|h.O j c,λj c=>(k.a j c).elim (h.h j) λq=>Á<|Ð h.f q,k.N.trans h.S,k.S.trans h.I,k.Y.trans h.c,k.K.trans h.K,k.q.trans h.q,g.trans h.d,k.fM,Ð h.f k.r.r,λj c=>(k.r.I j<|h.M c).trans<|h.r j c,λa b i=>(k.r.N a<|by rwa[e]).trans<|h.e a b i,λa b=>(k.r.Y a<|by rwa[e]).trans<|h.b a b,λa b q=>k.r.S a (by rwa[h.K])<|h.Y a b q,λa b q=> ?_⟩;rw[k.r.N a (by rw[e];exact À<|f a b)];exact h.g a b q
def ju.N(h:ju E l l')(b:∀a,E a->l.r a)(r:gd l' l'.w u):ju E l {l' with w:=u}:=h.G b (l'':={l' with w:=u}) ((iX.gy h.fM).I r) U
def ju.A0(h:ju E l l')(s:gT l)(i:∀a,E a->l.r a){x:õ}(f:E x)(k:x.spot=Ã)(m:(l'.w.cell? x).isSome=Ê):ju E l {l' with w:=l'.w.setCell x v}:=by refine⟨h.O,h.h,h.S,h.I,h.c,h.K,h.q,h.d,λj c=> ?_,?_,λj c=>(oV λe=>s.S x (À<|i x f)<|e▸c).trans<|h.r j c,λa b g=>((E8 k λe=>g<|by rwa[e]).trans<|h.e a b g),λa b=>vH.trans<|h.b a b,λa b q=>Co<|h.Y a b q,λa b q=>Co<|h.g a b q⟩;show j<(l'.w.setCell x v).heap.size;rw[ml];exact h.fM j c;show l.w.heap.size<=(l'.w.setCell x v).heap.size;rw[ml];exact h.f
def ju.H(h:ju E l l')(s:gT l):gT l' where
 c b hb:=by rw[h.S];obtain q|q:=h.h b hb;exact s.c b q;exact λz=>by have:=s.fM b<|Á z;omega
 Y a ha:=by rw[h.c];exact s.Y a<|by rwa[<-h.I]
 S a ha hb:=by rw[h.C]at ha;obtain q|q:=hb;obtain z|z:=h.h _ q;exact s.S a ha<|À z;have:=s.I a ha;omega;rw[h.S]at q;exact s.S a ha<|Á q
 fM b hb:=by obtain q|q:=hb;exact h.fM b q;rw[h.S]at q;exact ff (s.fM b<|Á q) h.f
 I a ha:=by rw[h.C]at ha;exact ff (s.I a ha) h.f
 N a ha:=by rw[h.K]at ha;let⟨c,d,e⟩:=s.N a ha;refine⟨λq=> ?_,ff d h.f,by rwa[h.I]⟩;obtain q|q:=q;obtain z|z:=h.h _ q;exact c<|À z;omega;rw[h.S]at q;exact c<|Á q
end
section
variable{X:Type}{c:Array Ì}{f:X->Nat->Ì}{g:Array Bool->X->fx->Prop}{l:fx}{b:Ü}{a:Ł}{k:List Į}{cs:List Ü}{x:X}
def II(Q:Array Þ)(c:Array Ì)(f:X->Nat->Ì)(g:Array Bool->X->fx->Prop)(wJ:Array Bool)(a:Ł)(l:fx):Prop:=∃x,lD Q c (f x) wJ a/\g wJ x l
def A1(a:o.guard=Ã)(y:Nat->Option Bool):Ó o y=Ê:=by rw[Ó,a]
def C8(j:tO Q c.size=Ê)(m:lD Q c (f x) wJ a)(h:Q[i]?=Â o)(n:o.guard=Ã){md:á}(p:i∈Ñ md Q wJ)(s:b.kind≠Ā)(t:kC l)(u:¬l.q)(v:∀d,gd l l.w d->(Õ a.eval o).run P d=.ok (Ń<|f x i) d)(y:∀d,gd l l.w d->∀e∈(Õ a.eval o).events P d #[],r8 l e)(z:∀d,gd l l.w d->g (wJ.setIfInBounds i Ê) x {l with w:=d}): fF P yQ (λB C=>∃r,C=G (b.at r<|È Q jJ::k) cs/\II Q c f g (wJ.setIfInBounds i Ê) r B) l (G (b.at a<|È Q (i::jJ)::k) cs):=AW h (A1 n _) s t u v y<|.fS λd r=>⟨_,U,x,m.fR j h p λ_=>U,z d r⟩
end
end fO
end Go.Proofs.Y
namespace Go.Proofs.YtgpphkdoanciiabGreatDoor
open Go Go.Conc Go.Conc.Lib
def Lk:ē:={add:=46,done:=49,wait:=36,relMerge:=89,disable:=52,enable:=54,inBubble:=60,associate:=90,fatal:=91,uOr:=92,uAdd:=93,raceRead:=94,uLoad:=53,uStore:=95,disassociate:=58,semrelease:=96,acquire:=55,isAssociated:=56,uCas:=57,raceWrite:=59,semacquire:=61,orU64:=134,addU64:=135,loadU64:=111,storeU64:=136,casU64:=112,tWgP:=155,tUP:=163,tAssoc:=195,tWg:=88,tAU:=85,tU64:=23,tUint:=161,tU32:=86,tPU32:=167,tPAU:=212,tPU64:=214,tNoCopy:=81,tANoCopy:=82,tAlign64:=83}
def sR:ś Ë Lk where
 f_add:=Tryz.func46;f_done:=Tryz.func49;f_wait:=Tryz.func36;f_relMerge:=Tryz.func89;f_disable:=Tryz.func52;f_enable:=Tryz.func54;f_inBubble:=Tryz.func60;f_associate:=Tryz.func90;f_fatal:=Tryz.func91;f_uOr:=Tryz.func92;f_uAdd:=Tryz.func93;f_raceRead:=Tryz.func94;f_uLoad:=Tryz.func53;f_uStore:=Tryz.func95;f_disassociate:=Tryz.func58;f_semrelease:=Tryz.func96;f_acquire:=Tryz.func55;f_isAssociated:=Tryz.func56;f_uCas:=Tryz.func57;f_raceWrite:=Tryz.func59;f_semacquire:=Tryz.func61;f_orU64:=Tryz.func134;f_addU64:=Tryz.func135;f_loadU64:=Tryz.func111;f_storeU64:=Tryz.func136;f_casU64:=Tryz.func112;underlying_tWgP:=Tryz.underlying155;runUnderlying_tWgP:=Tryz.runUnderlying155;sizeOf_tWgP:=Tryz.sizeOf155;isAgg_tWgP:=Tryz.isAgg155;zeroValue_tWgP:=Tryz.zeroValue155;underlying_tUP:=Tryz.underlying163;runUnderlying_tUP:=Tryz.runUnderlying163;sizeOf_tUP:=Tryz.sizeOf163;isAgg_tUP:=Tryz.isAgg163;zeroValue_tUP:=Tryz.zeroValue163;underlying_tI32:=Tryz.underlying195;runUnderlying_tI32:=Tryz.runUnderlying195;sizeOf_tI32:=Tryz.sizeOf195;isAgg_tI32:=Tryz.isAgg195;zeroValue_tI32:=Tryz.zeroValue195;underlying_tWg:=Tryz.underlying88;runUnderlying_tWg:=Tryz.runUnderlying88;sizeOf_tWg:=Tryz.sizeOf88;isAgg_tWg:=Tryz.isAgg88;zeroValue_tWg:=Tryz.zeroValue88;underlying_tAU:=Tryz.underlying85;runUnderlying_tAU:=Tryz.runUnderlying85;sizeOf_tAU:=Tryz.sizeOf85;isAgg_tAU:=Tryz.isAgg85;zeroValue_tAU:=Tryz.zeroValue85;underlying_tU64:=Tryz.underlying23;runUnderlying_tU64:=Tryz.runUnderlying23;sizeOf_tU64:=Tryz.sizeOf23;isAgg_tU64:=Tryz.isAgg23;zeroValue_tU64:=Tryz.zeroValue23;underlying_tSh:=Tryz.underlying161;runUnderlying_tSh:=Tryz.runUnderlying161;sizeOf_tSh:=Tryz.sizeOf161;isAgg_tSh:=Tryz.isAgg161;zeroValue_tSh:=Tryz.zeroValue161;underlying_tU32:=Tryz.underlying86;runUnderlying_tU32:=Tryz.runUnderlying86;sizeOf_tU32:=Tryz.sizeOf86;isAgg_tU32:=Tryz.isAgg86;zeroValue_tU32:=Tryz.zeroValue86;underlying_tPU32:=Tryz.underlying167;runUnderlying_tPU32:=Tryz.runUnderlying167;sizeOf_tPU32:=Tryz.sizeOf167;isAgg_tPU32:=Tryz.isAgg167;zeroValue_tPU32:=Tryz.zeroValue167;underlying_tPAU:=Tryz.underlying212;runUnderlying_tPAU:=Tryz.runUnderlying212;sizeOf_tPAU:=Tryz.sizeOf212;isAgg_tPAU:=Tryz.isAgg212;zeroValue_tPAU:=Tryz.zeroValue212;underlying_tPU64:=Tryz.underlying214;runUnderlying_tPU64:=Tryz.runUnderlying214;sizeOf_tPU64:=Tryz.sizeOf214;isAgg_tPU64:=Tryz.isAgg214;zeroValue_tPU64:=Tryz.zeroValue214;underlying_t0:=Tryz.underlying0;runUnderlying_t0:=Tryz.runUnderlying0;sizeOf_t0:=Tryz.sizeOf0;isAgg_t0:=Tryz.isAgg0;zeroValue_t0:=Tryz.zeroValue0;underlying_t3:=Tryz.underlying3;runUnderlying_t3:=Tryz.runUnderlying3;sizeOf_t3:=Tryz.sizeOf3;isAgg_t3:=Tryz.isAgg3;zeroValue_t3:=Tryz.zeroValue3;underlying_t4:=Tryz.underlying4;runUnderlying_t4:=Tryz.runUnderlying4;sizeOf_t4:=Tryz.sizeOf4;isAgg_t4:=Tryz.isAgg4;zeroValue_t4:=Tryz.zeroValue4;underlying_t9:=Tryz.underlying9;runUnderlying_t9:=Tryz.runUnderlying9;sizeOf_t9:=Tryz.sizeOf9;isAgg_t9:=Tryz.isAgg9;zeroValue_t9:=Tryz.zeroValue9;underlying_t20:=Ŋ;runUnderlying_t20:=Tryz.runUnderlying20;sizeOf_t20:=Tryz.sizeOf20;isAgg_t20:=Tryz.isAgg20;zeroValue_t20:=Tryz.zeroValue20;underlying_t21:=Tryz.underlying21;runUnderlying_t21:=Tryz.runUnderlying21;sizeOf_t21:=Tryz.sizeOf21;isAgg_t21:=Tryz.isAgg21;zeroValue_t21:=Tryz.zeroValue21;room_tWg:=by decide+kernel
 room_tU32:=by decide+kernel
end Go.Proofs.YtgpphkdoanciiabGreatDoor
namespace Go.Proofs.Y
namespace fO
open Conc Lift RowKit Conc.Lib ConcR.Gen
open YtgpphkdoanciiabGreatDoor
def Y4:Array Þ:=#[⟨Â 3,Ş 1<|Í 1,1, "waitgroup.go:258",#[],Ã⟩,
 ⟨Â 4,Đ {callee:=ÿ (Í 3),args:=#[],argTypes:=#[]},0, "waitgroup.go:258",#[⟨0,Ö⟩],Ã⟩]
section
variable{Ψ:Î->Prop}{l:fx}
def Y5(b:l.K ⟨i,0,Ã⟩/\l.K ⟨i,1,Ã⟩)(c:nQ Ψ l i)(a:SW Ψ l i l.w)(e:l.d=0)(f:¬l.q)(h:jO l ⟨n,0,Ã⟩)(j:l.w.cell? ⟨n,0,Ã⟩=Â (Ä<|Â ⟨i,0,Ã⟩)): fF Ë Æ (λl g=>Ay Ë Æ i (E6 Ë) (lR l) g) l (G ((aJ 47).at ⟨#[Ä<|Â ⟨n,0,Ã⟩,v,x,z,jQ],[rp 48 #[Ä<|Â ⟨n,0,Ã⟩] #[]]⟩ [È Y4 []]) [pN Ë]):=by
 apply gY a.1;have hF:=trivial;iterate 2 w_go fW
 u_c (ai7 U ν gq U) fW hF
 walk_nrmf Tryz.f48;iterate 3 w_go fW
 u_c (ai6 U U U U U U U) fW hF
 walk_nrm;have k:=λw g=>ajf 20 w g Ŋ;repeat w_go fW
 apply gZ;apply ru j h a.1 f;walk_nrm;apply gY a.1;u_call sR.f_done (nm_done Lk) ψ fW hF;apply gZ;apply ai0 sR b c a e;walk_nrm;apply LO U λ_=>Ŕ;apply LO U λ_=>stepG_end;refine ajc U U ν U U<|ajb U U ş U
end
section
variable{E:õ->Prop}{l l' l'':fx}
def ju.fA(h:ju E l l')(k:ju E l' l''):ju E l l'':=by have e:=h.C;exact⟨λj c=>k.O j<|h.O j c,λj c=>(k.h j c).elim (h.h j) λq=>Á<|Ð h.f q,k.S.trans h.S,k.I.trans h.I,k.c.trans h.c,k.K.trans h.K,k.q.trans h.q,k.d.trans h.d,k.fM,Ð h.f k.f,λj c=>(k.r j<|h.M c).trans<|h.r j c,λa b f=>(k.e a (by rwa[e]) f).trans<|h.e a b f,λa b=>(k.b a<|by rwa[e]).trans<|h.b a b,λa b q=>k.Y a (by rwa[h.K])<|h.Y a b q,λa b q=>k.g a b<|h.g a b q⟩
end
def E9(l:fx)(a:Î)(o:ay):fx:={l with O:=λb=>l.O b\/b=a.heap.size,w:=a.alloc o}
theorem uO{o:ay}(h:j<w.heap.size):(w.alloc o).heap[j]?=w.heap[j]?:=by unfold Š;grind
theorem Y6{o:ay}:(w.alloc o).heap[w.heap.size]?=Â o:=by unfold Š;simp
def Fa{o:ay}:(w.alloc o).heap.size=w.heap.size+1:=by unfold Š;simp
section
variable{main:Bool}{J:Jd}{l:fx}{b:Ü}{a:Ł}{k:List Į}{cs:List Ü}{ops:Array Þ}{rest:List Nat}{ob:ay}{E:õ->Prop}
def ajn(b:∀j,l.O j->j<w.heap.size)(c:¬l.q):n7 l (E9 l w ob) w (w.alloc ob) #[]:=⟨by rw[Fa];omega,λj h=>h.imp id λe=>by omega,λj h=>by rw[Fa];exact h.elim (λq=>ŋ<|b j q) λe=>by omega,U,U,U,U,λj d _ _=>uO d,λx a _ _=>iE<|uO a,λx a _=>yH<|uO a,U,U,U,λe f=>by simp at f,by simp[Ø,E9],U,λq=>absurd q c,U⟩
def ajo(s:gT l)(d:∀a,E a->l.r a)(r:gd l l.w u):ju E l (E9 l u ob):=by
 have c:=r.r;refine⟨λj h=>À h,λj h=>h.imp id λe=>by omega,U,U,U,U,U,U,λj h=> ?_,?_,λj f=>(uO<|ff (s.fM j f) c).trans<|r.I j f,λx b _=>(iE<|uO<|ff (s.I x b) c).trans<|r.N x b,λx b=>(yI<|uO<|ff (s.I x b) c).trans<|r.Y x b,λx b q=> ?_,λx b q=> ?_⟩;show j<(u.alloc ob).heap.size;rw[Fa];exact h.elim (λq=>ŋ<|ff (s.fM j<|À q) c) λe=>by omega
 show l.w.heap.size<=(u.alloc ob).heap.size;rw[Fa];omega;show((u.alloc ob).cell? x).isSome=Ê;rw[iE<|uO<|ff (s.N x b).2.1 c];exact r.S x b q;show((u.alloc ob).cell? x).isSome=Ê;rwa[iE<|uO<|ff (s.I x<|À<|d x b) c,r.N x<|À<|d x b]
def Y7{w':Î}{p:Nat}(g:∀j,l.O j->j<w.heap.size)(i:¬l.q)(b:l.O p)(k:w'.heap.size=w.heap.size)(c:∀j,j≠p->w'.heap[j]?=w.heap[j]?)(d:w'.os=w.os/\w'.output=w.output/\w'.tape=w.tape)(f:∀e∈V,r8 l e):n7 l {l with w:=w'} w w' V:=by refine⟨Z,λ_ h=>À h,λj h=>by rw[k];exact g j h,U,U,U,U,λj _ a _=>c j λe=>a<|e▸b,λx _ a _=>iE (c _ λe=>a<|e▸b),λx _ a=>yH (c _ λe=>a<|e▸b),d.1,d.2.1,d.2.2,λe h=>(f e h).1,(LQ f _).symm,U,λq=>absurd q i,U⟩
end
def xE(w:Î)(p:Nat)(a b c d:Ì):Î:=(((w.setCell ⟨p,0,Ã⟩ a).setCell ⟨p,1,Ã⟩ b).setCell ⟨p,2,Ã⟩ c).setCell ⟨p,3,Ã⟩ d
section
variable{p:Nat}{v0 v1 v2 v3 x0 x1 x2 x3:Ì}
def Y8:(xE w p v0 v1 v2 v3).heap.size=w.heap.size:=by rw[xE,ml,ml,ml,ml]
def Y9(h:j≠p):(xE w p v0 v1 v2 v3).heap[j]?=w.heap[j]?:=by rw[xE,oV h,oV h,oV h,oV h]
def ajp(h:w.heap[p]?=Â (ě #[x0,x1,x2,x3] e)):(xE w p v0 v1 v2 v3).heap[p]?=Â (ě #[v0,v1,v2,v3] e):=by unfold xE ŀ;simp[fh,h]
end
structure iz(X:Nat->Prop)(l l':fx):Prop where
 O:∀j,l.O j->l'.O j
 c:∀j,l'.O j->l.O j\/l.w.heap.size<=j
 S:l'.I=l.I
 Y:l'.r=l.r
 b:l'.N=l.N
 K:l'.K=l.K
 q:l'.q=l.q
 d:l'.d=l.d
 fM:kC l'
 I:l.w.heap.size<=l'.w.heap.size
 r:∀j,l.M j->¬X j->l'.w.heap[j]?=l.w.heap[j]?
 f:∀a,l.C a->l'.w.cell? a=l.w.cell? a
 g:∀a,l.C a->l'.w.frozen? a=l.w.frozen? a
 e:∀a,l.K a->(l.w.cell? a).isSome=Ê->(l'.w.cell? a).isSome=Ê
section
variable{l l' l'':fx}
theorem iz.gy(h:kC l):iz X l l:=⟨λ_ h=>h,λ_ h=>À h,U,U,U,U,U,U,h,eE _,λ_ _ _=>U,λ_ _=>U,λ_ _=>U,λ_ _ h=>h⟩
def iz.C(h:iz X l l'):l'.C=l.C:=by unfold fx.C;rw[h.Y,h.b]
def iz.M(h:iz X l l')(a:l.M b):l'.M b:=a.imp (h.O b)<|by rw[h.S];exact id
def iz.fA(h:iz X l l')(k:iz X l' l''):iz X l l'':=by have e:=h.C;exact⟨λj c=>k.O j<|h.O j c,λj c=>(k.c j c).elim (h.c j) λq=>Á<|Ð h.I q,k.S.trans h.S,k.Y.trans h.Y,k.b.trans h.b,k.K.trans h.K,k.q.trans h.q,k.d.trans h.d,k.fM,Ð h.I k.I,λj c f=>(k.r j (h.M c) f).trans<|h.r j c f,λa b=>(k.f a<|by rwa[e]).trans<|h.f a b,λa b=>(k.g a<|by rwa[e]).trans<|h.g a b,λa b q=>k.e a (by rwa[h.K])<|h.e a b q⟩
def iz.G(h:iz X l l')(r:gd l' l'.w u):iz X l {l' with w:=u}:=h.fA ⟨λ_ q=>q,λ_ q=>À q,U,U,U,U,U,U,o5 h.fM r,r.r,λj a _=>r.I j a,r.N,r.Y,r.S⟩
def iz.fG{a:Nat->Prop}(h:iz X l l')(c:∀j,l.M j->X j->a j):iz a l l':=⟨h.O,h.c,h.S,h.Y,h.b,h.K,h.q,h.d,h.fM,h.I,λj b e=>h.r j b λq=>e<|c j b q,h.f,h.g,h.e⟩
def iz.N(h:iz X l l')(s:gT l):gT l' where
 c b hb:=by rw[h.S];obtain q|q:=h.c b hb;exact s.c b q;exact λz=>by have:=s.fM b<|Á z;omega
 Y a ha:=by rw[h.b];exact s.Y a<|by rwa[<-h.Y]
 S a ha hb:=by rw[h.C]at ha;obtain q|q:=hb;obtain z|z:=h.c _ q;exact s.S a ha<|À z;have:=s.I a ha;omega;rw[h.S]at q;exact s.S a ha<|Á q
 fM b hb:=by obtain q|q:=hb;exact h.fM b q;rw[h.S]at q;exact ff (s.fM b<|Á q) h.I
 I a ha:=by rw[h.C]at ha;exact ff (s.I a ha) h.I
 N a ha:=by rw[h.K]at ha;let⟨c,d,e⟩:=s.N a ha;refine⟨λq=> ?_,ff d h.I,by rwa[h.Y]⟩;obtain q|q:=q;obtain z|z:=h.c _ q;exact c<|À z;omega;rw[h.S]at q;exact c<|Á q
def ajq{ob:ay}(s:gT l)(r:gd l l.w u):iz X l (E9 l u ob):=by have h:=ajo (E:=fB) (ob:=ob) s (λ_ q=>q.elim) r;exact⟨h.O,h.h,h.S,h.I,h.c,h.K,h.q,h.d,h.fM,h.f,λj b _=>h.r j b,λa c=>h.e a c id,h.b,h.Y⟩
def R2{w':Î}{p:Nat}(s:gT l)(r:gd l l.w u)(c:l.O p)(g:X p)(d:w'.heap.size=u.heap.size)(b:∀j,j≠p->w'.heap[j]?=u.heap[j]?):iz X l {l with w:=w'}:=by have f:∀a:õ,l.C a->a.block≠p:=λa h e=>s.S a h<|À<|e▸c;refine⟨λ_ q=>q,λ_ q=>À q,U,U,U,U,U,U,λj q=> ?_,?_,λj q n=>(b j λe=>n<|e▸g).trans<|r.I j q,λa q=>(iE<|b _<|f a q).trans<|r.N a q,λa q=>(yI<|b _<|f a q).trans<|r.Y a q,λa q z=> ?_⟩;show j<w'.heap.size;rw[d];exact ff (s.fM j<|À q) r.r;show l.w.heap.size<=w'.heap.size;rw[d];exact r.r;show(w'.cell? a).isSome=Ê;rw[iE (b a.block λe=>(s.N a q).1<|À<|e▸c)];exact r.S a q z
end
section
variable{l l':fx}
structure iO(l:fx)(b:Nat)(o:ay):Prop where
 fE:l.O b
 r:l.w.heap[b]?=Â o
def iO.C{o:ay}(h:iO l b o)(k:iz X l l')(a:¬X b):iO l' b o:=⟨k.O b h.fE,(k.r b (À h.fE) a).trans h.r⟩
def iO.I(h:iO l b (ě d e xJ))(a:d[i]?=Â v):l.w.cell? ⟨b,i,Ã⟩=Â v:=by simp[κ,h.r,a]
def iO.Y{l:fx}{o:ay}(h:iO l b o)(r:gd l l.w u):iO {l with w:=u} b o:=⟨h.fE,(r.I b<|À h.fE).trans h.r⟩
def iz.Ic{Y:Nat->Prop}{e:fx}(h:iz X l l')(k:iz Y l' e)(f:∀j,l.M j->¬Y j):iz X l e:=⟨λj q=>k.O j<|h.O j q,λj q=>(k.c j q).elim (h.c j) λz=>Á<|Ð h.I z,k.S.trans h.S,k.Y.trans h.Y,k.b.trans h.b,k.K.trans h.K,k.q.trans h.q,k.d.trans h.d,k.fM,Ð h.I k.I,λj c g=>(k.r j (h.M c)<|f j c).trans<|h.r j c g,λa b=>(k.f a<|by rwa[h.C]).trans<|h.f a b,λa b=>(k.g a<|by rwa[h.C]).trans<|h.g a b,λa b z=>k.e a (by rwa[h.K])<|h.e a b z⟩
def iz.H{a:fx}(h:iz X l l')(s:gT l)(d:l.w.heap.size<=i)(k:iz (λb=>b=i) l' a):iz X l a:=h.Ic k λj c e=>by have:=s.fM j c;omega
def iz.toE{E:õ->Prop}(h:iz fB l l')(b:∀a,E a->l.r a):ju E l l':=⟨h.O,h.c,h.S,h.Y,h.b,h.K,h.q,h.d,h.fM,h.I,λj q=>h.r j q id,λa q _=>h.f a q,h.g,h.e,λa q z=>by rwa[h.f a<|À<|b a q]⟩
end
section
variable{main:Bool}{J:Jd}{l:fx}{b:Ü}{a:Ł}{k:List Į}{cs:List Ü}{ops:Array Þ}{rest:List Nat}{ob:ay}
def Za{V:Nat->Ì}(d:ops[i]?=Â o)(e:Ó o (ò ops a.tmps)=Ê)(f:b.kind≠Ā)(g:kC l)(h:¬l.q)(j:∀w,(Õ a.eval o).run P w=.ok (Ń<|V w.heap.size) (w.alloc ob))(m:∀w,(Õ a.eval o).events P w #[]=#[])(n:∀c,gd l l.w c->fF P main J (E9 l c ob) (G (b.at (a.put o.dst<|V c.heap.size)<|È ops rest::k) cs)):fF P main J l (G (b.at a<|È ops (i::rest)::k) cs):=by
 refine C5 d e f λc r=> ?_;rw[j c];refine⟨_,?_,n c r⟩;have:listed P b.fn a o c=#[]:=by rw[listed,m c,ö]
 rw[this];exact ajn (o5 g r) h
def Zb{p off:Nat}{u:Ì}(m:ops[i]?=Â o)(n:Ó o (ò ops a.tmps)=Ê)(s:b.kind≠Ā)(t:kC l)(x:¬l.q)(c:l.O p)(f:l.w.cell? ⟨p,off,Ã⟩=Â u)(y:l.w.frozen? ⟨p,off,Ã⟩=Æ)(z:o.dst=Ã)(B:∀w,w.cell? ⟨p,off,Ã⟩=Â u->w.frozen? ⟨p,off,Ã⟩=Æ->(Õ a.eval o).run P w=.ok Ω (w.setCell ⟨p,off,Ã⟩ v))(C:∀w,w.cell? ⟨p,off,Ã⟩=Â u->w.frozen? ⟨p,off,Ã⟩=Æ->(Õ a.eval o).events P w #[]=#[⟨ď ⟨p,off,Ã⟩,Ê,Æ⟩])(D:fF P main J {l with w:=l.w.setCell ⟨p,off,Ã⟩ v} (G (b.at a<|È ops rest::k) cs)):fF P main J l (G (b.at a<|È ops (i::rest)::k) cs):=by
 have E:jO l ⟨p,off,Ã⟩:=À<|À c;refine C5 m n s λg r=> ?_;have d:=(E.r r).trans f;have j:=(yI<|r.I p<|À c).trans y;rw[B g d j];refine⟨_,Y2 U (o5 t r) x (À c) λe h=> ?_,?_⟩;have:=Ĩ h;rw[C g d j]at this;have:e=⟨ď ⟨p,off,Ã⟩,Ê,Æ⟩:=fN this;subst this;exact za.r<|À c;have:(a.put o.dst Å)=a:=by rw[z];rfl
 rw[this];exact D.mF<|AS<|Y1 U (by rw[f];rfl) (by rw[d];rfl) r
def o8(V:Nat->Value)(ob:Obj)(s:gT l)(hq:¬l.q)(hn:∀l' p,iz fB l l'->iO l' p ob->l.w.heap.size<=p->gT l'->¬l'.q->fF P main J l' (G (b.at (a.put o.dst<|V p)<|.inRegion ops rest::k) cs))(ho:AX ops i o b a:=by exact⟨rfl,rfl,by k_ne⟩)(hr:∀w,(execOp a.eval o).run P w=.ok (.value<|V w.heap.size) (w.alloc ob):=by intro w;go_simp)(he:∀w,(execOp a.eval o).events P w #[]=#[]:=by intro w;simp[go_sem]):fF P main J l (G (b.at a<|.inRegion ops (i::rest)::k) cs):=Za ho.1 ho.2 ho.3 s.r hq hr he λw₁ r=>by have k:=ajq (X:=fB) (ob:=ob) s r;exact hn _ _ k ⟨Á U,Y6⟩ r.r (k.N s)<|by rwa[k.q]
def Ie{p:Nat}{xs:Array Value}{ty:TypeId}(j:Nat)(v:Value)(c:iO l p (.cells xs ty))(s:gT l)(hq:¬l.q)(hn:∀l',iz (λb=>b=p) l l'->iO l' p (.cells (xs.setIfInBounds j v) ty)->gT l'->¬l'.q->fF P main J l' (G (b.at a<|.inRegion ops rest::k) cs))(hj:j<xs.size:=by simp)(ho:AX ops i o b a:=by exact⟨rfl,rfl,by k_ne⟩)(hd:o.dst=none/\v.oneCell'=true:=by exact⟨rfl,rfl⟩)(hr:o.dst=none/\v.oneCell'=true->∀w u,w.cell? ⟨p,j,none⟩=some u->w.frozen? ⟨p,j,none⟩=false->(execOp a.eval o).run P w=.ok .skip (w.setCell ⟨p,j,none⟩ v)/\(execOp a.eval o).events P w #[]=#[⟨.cell ⟨p,j,none⟩,true,false⟩]:=by intro h0 w u h1 h2;exact⟨by go_simp,by simp[go_sem,events_store _ _ _ _ _ _ h0.2,h1,h2]⟩):fF P main J l (G (b.at a<|.inRegion ops (i::rest)::k) cs):=by obtain⟨u,hu⟩:∃u,xs[j]?=Â u:=⟨_,fj hj⟩;refine Zb ho.1 ho.2 ho.3 s.r hq c.fE (c.I hu) (by simp[ŷ,c.r]) hd.1 (λw h1 h2=>(hr hd w u h1 h2).1) (λw h1 h2=>(hr hd w u h1 h2).2) ?_;have k:=R2 (X:=λb=>b=p) (w':=l.w.setCell ⟨p,j,Ã⟩ v) s (gd.gy _ _) c.fE U ml λj hj=>oV hj;refine hn _ k ⟨c.fE,?_⟩ (k.N s) (by rwa[k.q]);show(l.w.setCell ⟨p,j,Ã⟩ v).heap[p]?=_;simp[ŀ,fh,c.r]
def C4(w:Î)(p j:Nat)(a b c d:Ì):Prop:=w.cell? ⟨p,j,Ã⟩=Â a/\w.cell? ⟨p,j+1,Ã⟩=Â b/\w.cell? ⟨p,j+2,Ã⟩=Â c/\w.cell? ⟨p,j+3,Ã⟩=Â d
def iO.M{p:Nat}(c:iO l p (ě #[v,x,z,jQ] e)):C4 l.w p 0 v x z jQ:=⟨c.I U,c.I U,c.I U,c.I U⟩
def Ig{p:Nat}{x0 x1 x2 x3:Value}{ty:TypeId}(v0 v1 v2 v3:Value)(c:iO l p (.cells #[x0,x1,x2,x3] ty))(s:gT l)(hq:¬l.q)(hn:∀l',iz (λb=>b=p) l l'->iO l' p (.cells #[v0,v1,v2,v3] ty)->gT l'->¬l'.q->fF P main J l' (G (b.at a<|.inRegion ops rest::k) cs))(ho:AX ops i o b a:=by exact⟨rfl,rfl,by k_ne⟩)(hd:o.dst=none/\v0.oneCell'=true/\v1.oneCell'=true/\v2.oneCell'=true/\v3.oneCell'=true:=by exact⟨rfl,rfl,rfl,rfl,rfl⟩)(hr:o.dst=none/\v0.oneCell'=true/\v1.oneCell'=true/\v2.oneCell'=true/\v3.oneCell'=true->∀w,C4 w p 0 x0 x1 x2 x3->(∀j,w.frozen? ⟨p,j,none⟩=false)->(execOp a.eval o).run P w=.ok .skip (xE w p v0 v1 v2 v3)/\∀e∈(execOp a.eval o).events P w #[],∃j,e=⟨.cell ⟨p,j,none⟩,true,false⟩:=by rintro⟨-,a0,a1,a2,a3⟩ w ⟨h0,h1,h2,h3⟩ hz;simp only[Nat.zero_add]at h1 h2 h3;refine⟨by unfold xE;go_simp,λe he=> ?_⟩;simp[go_sem,events_store _ _ _ _ _ _ a0,events_store _ _ _ _ _ _ a1,events_store _ _ _ _ _ _ a2,events_store _ _ _ _ _ _ a3,h0,h1,h2,h3,hz]at he;obtain rfl|rfl|rfl|rfl:=he<;>exact⟨_,rfl⟩):fF P main J l (G (b.at a<|.inRegion ops (i::rest)::k) cs):=by
 refine C5 ho.1 ho.2 ho.3 λw₁ r=> ?_;have c1:iO {l with w:=w₁} p _:=c.Y r;let⟨z1,z2⟩:=hr hd w₁ c1.M λj=>by simp[ŷ,show w₁.heap[p]?=_ from c1.r]
 rw[z1];have k:=R2 (X:=λb=>b=p) (w':=xE w₁ p v0 v1 v2 v3) s r c.fE U Y8 λj hj=>Y9 hj;refine⟨{l with w:=xE w₁ p v0 v1 v2 v3},Y7 (p:=p) (o5 s.r r) hq c.fE Y8 (λj hj=>Y9 hj) ⟨U,U,U⟩ λe h=> ?_,?_⟩;obtain⟨j,rfl⟩:=z2 e<|Ĩ h;exact za.r<|À c.fE;have:a.put o.dst Å=a:=by rw[hd.1];rfl
 rw[this];exact hn _ k ⟨c.fE,ajp c1.r⟩ (k.N s)<|by rwa[k.q]
def qi(j:Nat){p:Nat}{xs:Array Value}{ty:TypeId}{fz:Nat×Nat}{v:Value}(c:iO l p (.cells xs ty fz))(s:gT l)(hq:¬l.q)(hn:fF P main J l (G (b.at (a.put o.dst v)<|.inRegion ops rest::k) cs))(hv:xs[j]?=some v:=by rfl)(ho:AX ops i o b a:=by exact⟨rfl,rfl,by k_ne⟩)(hr:∀w,w.cell? ⟨p,j,none⟩=some v->(execOp a.eval o).run P w=.ok (.value v) w:=by intro w h;go_simp)(he:∀w,w.cell? ⟨p,j,none⟩=some v->(execOp a.eval o).events P w #[]=#[⟨.cell ⟨p,j,none⟩,false,false⟩]:=by intro w h;simp[go_sem,h]):fF P main J l (G (b.at a<|.inRegion ops (i::rest)::k) cs):=ru (c.I hv) (À<|À c.fE) s.r hq hn ho hr he
def Fb{p j:Nat}{v0 v1 v2 v3:Value}(hs:∀j,jO l ⟨p,j,none⟩)(h:C4 l.w p j v0 v1 v2 v3)(s:gT l)(hq:¬l.q)(hn:fF P main J l (G (b.at (a.put o.dst<|.agg #[v0,v1,v2,v3])<|.inRegion ops rest::k) cs))(ho:AX ops i o b a:=by exact⟨rfl,rfl,by k_ne⟩)(hr:∀w,C4 w p j v0 v1 v2 v3->(execOp a.eval o).run P w=.ok (.value<|.agg #[v0,v1,v2,v3]) w/\∀e∈(execOp a.eval o).events P w #[],∃j,e=⟨.cell ⟨p,j,none⟩,false,false⟩:=by rintro w ⟨h0,h1,h2,h3⟩;(try simp only[Nat.zero_add]at h1 h2 h3);refine⟨by go_simp,λe he=> ?_⟩;simp[go_sem,h0,h1,h2,h3]at he;obtain rfl|rfl|rfl|rfl:=he<;>exact⟨_,rfl⟩):fF P main J l (G (b.at a<|.inRegion ops (i::rest)::k) cs):=by have c:=λw (r:gd l l.w w)=>hr w ⟨((hs _).r r).trans h.1,((hs _).r r).trans h.2.1,((hs _).r r).trans h.2.2.1,((hs _).r r).trans h.2.2.2⟩;refine AW ho.1 ho.2 ho.3 s.r hq (λw r=>(c w r).1) (λw r e h=> ?_) hn;obtain⟨j,rfl⟩:=(c w r).2 e h;exact(hs j).rd
def iO.S{o:ay}(c:iO l i o)(j:Nat):jO l ⟨i,j,Ã⟩:=À<|À c.fE
end
def xF(t:Array Ì)(h:t.size=n):∃u:Nat->Ì,t=((å n).map u).toArray:=by subst h;refine⟨λi=>t.getD i Å,Array.ext fD λi a _=> ?_⟩;simp_all
def Zc(t:Array Ì)(h:t.size=37):∃a b c d e f g i j k l m n o p q r s u v w x y z B C D E F G H I J K L M N:Ì,t=#[a,b,c,d,e,f,g,i,j,k,l,m,n,o,p,q,r,s,u,v,w,x,y,z,B,C,D,E,F,G,H,I,J,K,L,M,N]:=by obtain⟨_,rfl⟩:=xF t h;exact⟨_,_,_,_,_,_,_,_,_,_,_,_,_,_,_,_,_,_,_,_,_,_,_,_,_,_,_,_,_,_,_,_,_,_,_,_,_,U⟩
def Fc(a:Array Þ):Bool:=(å a.size).all λi=>match a[i]? with
 |none=>Ê
 |some o=>(match o.op with|.select _ _=>Æ|_=>Ê)&&(o.op.operands.toList.all λx=>match x with
  |Í d=>(å a.size).all λj=>((a[j]?).bind (·.dst)) !=Â d||o.after.toList.any λe=>e.on==j&&uN e|_=>Ê)&&(match o.guard with
  |none=>Ê|some (j,_)=>o.after.toList.any λe=>e.on==j&&uN e)
def jT(a:Array Þ)(t:Array Ì)(i:Nat):Ì:=t.getD (((a[i]?).bind (·.dst)).getD 0) Å
def C9(p:Nat->Þ->Prop):Nat->List Þ->Prop|_,[]=>True|n,o::r=>p n o/\C9 p (n+1) r
def Fe{p:Nat->Þ->Prop}:∀(l:List Þ)(n i:Nat)(o:Þ),C9 p n l->l[i]?=Â o->p (n+i) o:=by
 intro l
 induction l with
 |nil=>intro n i o _ e;simp at e|cons x l a=>
  intro n i o h e;cases i with
  |zero=>
   rw[dC]at e;obtain rfl:=dh e;exact h.1|succ i=>
   rw[dt]at e;rw[show n+(i+1)=n+1+i by omega];exact a _ i o h.2 e
section
variable{J:Jd}{l:fx}{c:Array Ì}{a:Ł}
def lD.Y(h:lD Q q (jT Q c) wJ a)(i:∀d,Q.toList.all (λo=>o.dst !=Â d)=Ê->c[d]?=q[d]?)(k:c.size=q.size)(l:tO Q q.size=Ê){d:Nat}(m:∀j o,Q[j]?=Â o->o.dst=Â d->wJ.getD j Æ=Ê):a.tmps[d]?=c[d]?:=by
 by_cases b:Q.toList.all (λo=>o.dst !=Â d)=Ê;rw[h.gA b,i d b];obtain⟨j,n,e⟩:∃j,∃h:j<Q.size,Q[j].dst=Â d:=fN b;have f:=fj n;have g:d<c.size:=by rw[k];exact YZ l f e
 rw[h.r j _ d f (m j _ f e) e,jT,f,fj g];simp[e,g]
theorem lD.N(n:lD Q q (jT Q c) wJ a)(r:∀d,Q.toList.all (λo=>o.dst !=Â d)=Ê->c[d]?=q[d]?)(s:c.size=q.size)(t:tO Q q.size=Ê)(y:Fc Q=Ê){md:á}(h:i∈Ñ md Q wJ)(k:Q[i]?=Â o):Õ a.eval o=Õ (ß ⟨c,[]⟩) o/\Ó o (ò Q a.tmps)=Ó o (ò Q c):=by
 have l:=eI.1 y i<|dZ.2<|AZ h;rw[k]at l;simp only[eC]at l;let⟨⟨u,z⟩,w⟩:=l;refine⟨execOp_congr o (λqX f e=>by rw[e]at u;cases u) λx B=> ?_,?_⟩;have p:=eI.1 z x<|eS.2 B;cases x with
 |tmp d=>
  show a.tmps.getD d Å=c.getD d Å;have:=n.Y r s t (d:=d) λj C m b=>by have:=eI.1 p j<|dZ.2 (fp.1 m).1;simp only[m,ef,b,bne_self_eq_false,cG]at this;exact zd h k this
  simp only[fq,this]|const v|global g|func e=>rfl
 unfold Ó;cases e:o.guard with
 |none=>rfl|some p=>
  let⟨j,v⟩:=p;rw[e]at w;have D:=zd h k w;have:ò Q a.tmps j=ò Q c j:=by
   unfold ò;cases m:Q[j]? with
   |none=>rfl|some g=>
    cases b:g.dst with
    |none=>simp[b]|some d=>
     have:=n.Y r s t (d:=d) λE C F G=>by grind [Y0]
     simp only[ef,b,this]
  simp only[this]
def lD.H(b:lD Q q (jT Q c) wJ a)(f:∀d,Q.toList.all (λo=>o.dst !=Â d)=Ê->c[d]?=q[d]?)(g:c.size=q.size)(h:tO Q q.size=Ê)(i:∀j,j∈å Q.size->wJ.getD j Æ=Ê):a=⟨c,[]⟩:=by let⟨l,m⟩:=a;have e:=b.I;simp only at e;subst e;congr 1;exact cx λd=>b.Y f g h λj o k _=>i j<|dZ.2 (fp.1 k).1
def lj:List Þ->List Ì->Array Ì->Array Ì|o::os,v::vs,t=>lj os vs (match o.dst with|some d=>t.setIfInBounds d v|none=>t)|_,_,t=>t
def oI:∀(a:List Þ)(b:List Ì)(t:Array Ì),(lj a b t).size=t.size/\∀d,a.all (λo=>o.dst !=Â d)=Ê->(lj a b t)[d]?=t[d]?
 |[],_,t|o::a,[],t=>⟨U,λ_ _=>U⟩
 |o::a,v::b,t=>by
  unfold lj;cases c:o.dst with
  |none=>
   refine⟨(oI a b t).1,λd h=>(oI a b t).2 d ?_⟩;simp only[Ÿ,eC]at h;exact h.2|some e=>
   refine⟨by rw[(oI a b _).1];simp,λd h=> ?_⟩;simp only[Ÿ,eC,c]at h;rw[(oI a b _).2 d h.2,eA<|fN h.1]
end
def Ff:Ŗ->Array Þ|Ò _ o _=>o|_=>#[]
def Ih(a:Array Þ):List Nat->List Nat->Bool|_,[]=>Ê|s,j::r=>(match a[j]? with|some o=>o.after.toList.any (λe=>uN e&&s.contains e.on)|none=>Æ)&&Ih a (j::s) r
def lD.R4{n:Nat->Ì}{listed:Array Bool}(h:lD Q d n listed y)(p:¬listed.getD i Æ=Ê):∀(D s:List Nat),Ih Q s D=Ê->(∀j∈s,¬listed.getD j Æ=Ê)->∀j∈D,¬listed.getD j Æ=Ê
 |[],_,_,_,j,g=>by cases g
 |b::D,s,f,hs,j,g=>by
  simp only[Ih,eC]at f;have m:¬listed.getD b Æ=Ê:=λq=>by split at f;rename_i o r;let⟨e,t,l⟩:=du.1 f.1;simp only[eC,List.contains_iff_mem]at l;exact hs _ l.2<|h.C b o e r q (eS.1 t) l.1;cases f.1
  obtain rfl|g:=eK.1 g;exact m;exact h.R4 p D (b::s) f.2 (λk f=>(eK.1 f).elim (λe=>e▸m)<|hs k) j g
def Ii(a:Array Þ):List Nat->List Nat->Bool|_,[]=>Ê|s,j::r=>(s.any λi=>match a[i]? with|some o=>o.after.toList.any (λe=>uN e&&e.on==j)|none=>Æ)&&Ii a (j::s) r
def lD.G{q:Nat->Ì}{listed:Array Bool}(h:lD Q d q listed y):∀(L s:List Nat),Ii Q s L=Ê->(∀i∈s,∀o e,Q[i]?=Â o->e∈o.after->uN e=Ê->listed.getD e.on Æ=Ê)->∀j∈L,listed.getD j Æ=Ê
 |[],_,_,_,j,b=>by cases b
 |i::L,s,c,hs,j,b=>by
  simp only[Ii,eC]at c;have p:listed.getD i Æ=Ê:=by let⟨m,g,f⟩:=du.1 c.1;split at f;rename_i o r;let⟨e,l,n⟩:=du.1 f;simp only[eC,beq_iff_eq]at n;rw[<-n.2];exact hs m g o e r (eS.1 l) n.1;cases f
  obtain rfl|b:=eK.1 b;exact p;exact h.G L (i::s) c.2 (λk c=>(eK.1 c).elim (λe o x g f l=>h.C k o x g (e▸p) f l)<|hs k) j b
section
variable{J:Jd}{g:fx}{X:Type}
def ze(b:List (Nat×Addr×(X->Ì)))(a:õ):Prop:=∃p∈b,p.2.1=a
def OpM(P:č)(g:fx)(Q:Array Þ)(T d:Array Ì)(x:X)(V:X->Ì)(c:Nat)(D:List Nat)(f:ļ)(h:Array Ì)(b:List (Nat×Addr×(X->Ì)))(i:Nat)(o:Þ):Prop:=
 o.guard=Ã/\(i=c\/i∈D\/jT Q T i=jT Q d i)/\((i≠c/\(∀p∈b,p.1≠i)/\∀l,ju (ze b) g l->∀a,gd l l.w a->(Õ (ß ⟨T,[]⟩) o).run P a=.ok (Ń<|jT Q T i) a/\∀e∈(Õ (ß ⟨T,[]⟩) o).events P a #[],r8 l e)\/
  (i=c/\jT Q T i=V x/\(∀w,(Õ (ß ⟨T,[]⟩) o).run P w=.ok (.enter f h) w)/\∀w,(Õ (ß ⟨T,[]⟩) o).events P w #[]=#[])\/
  (o.dst=Ã/\∃p∈b,p.1=i/\∀w,(w.cell? p.2.1).isSome=Ê->w.frozen? p.2.1=Æ->(Õ (ß ⟨T,[]⟩) o).run P w=.ok Ω (w.setCell p.2.1 (p.2.2 x))/\(Õ (ß ⟨T,[]⟩) o).events P w #[]=#[⟨ď p.2.1,Ê,Æ⟩]))
theorem Zd{id:Nat}(K:X->List Ì)(V:X->Ì)(c:Nat)(D:List Nat)(b:ļ)(args:Array Ì)(t:List (Nat×Addr×(X->Ì)))(Qc:X->fx->Prop)(x0:X)(tP:gT g)(hq:¬g.q)(hk:f.kind≠Ā)(hs:tO Q d.size=Ê)(hd:Fc Q=Ê)(hD:Ih Q [c] D=Ê)(ho:∀md,∃k,C6 md Q k []=Ê/\(å Q.size).all (k.contains ·)=Ê)(F:∀p∈t,p.1∈D/\p.1≠c/\p.1<Q.size/\p.2.1.spot=Ã/\g.r p.2.1/\(g.w.cell? p.2.1).isSome=Ê/\g.w.frozen? p.2.1=Æ/\∀q∈t,q=p\/q.1≠p.1/\q.2.1≠p.2.1)(Ij:∀l,ju (ze t) g l->∀cl mO,fF P yQ (λl' g'=>l'.d=l.d/\∃x,g'=G (cl.finish<|V x) mO/\Qc x l') (nR l)<|G (ĺ P b args Ρ)<|cl::mO)(oF:∀x T T0,T=lj Q.toList (K x) d->T0=lj Q.toList (K x0) d->C9 (OpM P g Q T T0 x V c D b args t) 0 Q.toList)(hn:∀l x,ju (ze t) g l->(∃y,Qc x y/\∀f,y.M f->l.M f/\l.w.heap[f]?=y.w.heap[f]?)->(∀p∈t,l.w.cell? p.2.1=Â (p.2.2 x))->fF P yQ J l (G (f.at ⟨lj Q.toList (K x) d,[]⟩<|È Q []::L) qX))(hc:c<Q.size):fF P yQ J g (G (f.at ⟨d,[]⟩<|ü (Ò id Q Ê)::L) qX):=by
 have N:∀y,ze t y->g.r y:=λy ⟨p,m,e⟩=>e▸(F p m).2.2.2.2.1;refine RY (λE a l=>E.size=Q.size/\∃x,lD Q d (jT Q<|lj Q.toList (K x) d) E a/\ju (ze t) g l/\(E.getD c Æ=Ê->∃y,Qc x y/\∀f,y.M f->l.M f/\l.w.heap[f]?=y.w.heap[f]?)/\∀p∈t,E.getD p.1 Æ=Ê->l.w.cell? p.2.1=Â (p.2.2 x)) tP.r hq (λs r=>⟨fD,x0,lD.M _ _ _,(ju.gy tP.r).N N ⟨r.r,r.I,r.N,r.Y,r.S⟩,λq=> ?_,λp _ q=> ?_⟩) (λmd E a l i h hI O=> ?_) λmd E a l hI hz hr=> ?_;simp[fq,fc]at q;split at q<;>cases q;simp[fq,fc]at q;split at q<;>cases q;let⟨hz,x,H,n,hC,hS⟩:=hI;obtain⟨o,B⟩:∃o,Q[i]?=Â o:=⟨_,fj<|AZ O⟩;let⟨S,_⟩:=H.N (oI _ _ _).2 (oI _ _ _).1 hs hd O B;have hO:=Fe _ _ _ _ (oF x _ _ U U) (show Q.toList[i]?=Â o by rwa[eV]);rw[dQ]at hO;have hl:=n.fM;have xG:¬l.q:=by rwa[n.q]
 have cE:∀p∈t,l.C p.2.1:=λp m=>by rw[n.C];exact À (F p m).2.2.2.2.1
 have uK:(E.setIfInBounds i Ê).size=Q.size:=fN hz;obtain⟨hg,_,⟨W,h2,h3⟩|⟨rfl,_,W,h2⟩|⟨Ik,p,m,rfl,W⟩⟩:=hO;refine AW B (A1 hg _) hk hl xG (λs r=>by rw[S];exact(h3 l n s r).1) (λs r=>by rw[S];exact(h3 l n s r).2) (.fS λs r=>⟨_,U,uK,x,H.fR hs B O λ_=>U,n.N N r,λq=> ?_,λp m q=> ?_⟩);rw[Ğ Æ W]at q;let⟨y,z1,I⟩:=hC q;exact⟨y,z1,λf u=>⟨(I f u).1,(r.I f (I f u).1).trans (I f u).2⟩⟩;rw[Ğ Æ λe=>h2 p m e.symm]at q;exact(r.N _<|cE p m).trans<|hS p m q;have vF:=R0 (ă.1 O).1;have late:=H.R4 vF D [i] hD (λj Y=>by rwa[eY.1 Y]);refine .mk U λs r=>⟨G (ĺ P b args Ρ)<|f.at a (È Q (i::h)::L)::qX,s,#[],{l with w:=s},?_,LI s<|o5 hl r,?_⟩;rw[ι B (A1 hg _) hk (by rw[S];exact W s)];rw[aK,S,h2 s,ö];have wx:=n.N N r;refine((Ij _ wx _ _).nR<|wx.H tP).fG ?_;rintro l' g' ⟨y,⟨hy0,x',rfl,hQ⟩,rfl,hA',hyR,avT,avU⟩;have hv:jT Q (lj Q.toList (K x') d) i=V x':=by have:=(Fe _ _ _ _ (oF x' _ _ U U)<|show Q.toList[i]?=Â o by rwa[eV]).2.2;rw[dQ]at this;obtain⟨h,_⟩|⟨_,h,_⟩|⟨_,p,m,h,_⟩:=this;exact absurd U h;exact h;exact absurd h (F p m).2.1
 rw[<-hv];refine⟨a.put o.dst<|jT Q (lj Q.toList (K x') d) i,by grind [Ď],uK,x',(H.K λj Y=> ?_).fR hs B O λ_=>U,wx.G N hA' hy0,λ_=>⟨y,hQ,λf u=>⟨?_,U⟩⟩,λp m q=> ?_⟩;obtain⟨oj,z⟩:∃o,Q.toList[j]?=Â o:=⟨_,fe<|by grind⟩;have h:=λx=>(Fe _ _ _ _ (oF x _ _ U U) z).2.1;simp only[dQ]at h;have e:=λx=>((h x).resolve_left λe=>vF<|e▸Y).resolve_left λe=>late j e Y;rw[e x,e x'];obtain q|q:=u;exact À<|À q;rw[hyR]at q;exact q.elim (λz=>À<|Á z) Á;rw[Ğ Æ λe=>(F p m).2.1 e.symm]at q;exact absurd q<|late _ (F p m).1;let⟨_,pc,_,i,pO,pa,pf,pd⟩:=F p m;have Ck:(l.w.cell? p.2.1).isSome=Ê:=n.g _ ⟨p,m,U⟩ pa;refine ajk B (A1 hg _) hk hl xG i (Á<|by rwa[n.I]) Ck Ik ((n.b _<|À pO).trans pf) (λw z1 I=>by rw[S];exact(W w z1 I).1) (λw z1 I=>by rw[S];exact(W w z1 I).2) (.fS λs r=>⟨_,U,uK,x,?_,?_⟩);have:=H.fR hs B O (v:=Å) λq=>absurd Ik q;rwa[Ik]at this;have r:=AS r;refine⟨(n.A0 tP N (x:=p.2.1) (v:=p.2.2 x) ⟨p,m,U⟩ i Ck).N N ⟨r.r,r.I,r.N,r.Y,r.S⟩,λq=> ?_,λq s z=> ?_⟩;rw[Ğ Æ pc]at q;let⟨y,I,h⟩:=hC q;refine⟨y,I,λf u=>⟨(h f u).1,?_⟩⟩;have hnb:f≠p.2.1.block:=λe=>(n.H tP).S _ (cE p m)<|e▸(h f u).1;exact(r.I f (h f u).1).trans<|(oV hnb).trans (h f u).2;obtain rfl|⟨h,I⟩:=pd q s;exact(r.N _<|cE q m).trans<|K9 (Ý.1 Ck).choose_spec;rw[Ğ Æ<|cR h]at z;exact(r.N _<|cE q s).trans<|(E8 i I).trans<|hS q s z;let⟨_,x,H,n,hC,hS⟩:=hI;let⟨k,I,i⟩:=ho md;have h:∀j∈å Q.size,E.getD j Æ=Ê:=λj Y=>C7 hr hz k [] I (λ_ q=>by cases q) j (by simpa using eI.1 i j Y);obtain rfl:=H.H (oI _ _ _).2 (oI _ _ _).1 hs h;refine hn l x n (hC<|h c<|dZ.2 hc) λp m=>hS p m<|h _<|dZ.2 (F p m).2.2.1
end
section
variable{L:ē}{l:fx}{e:Jd}{k:List Į}
def R8(pX:Î->Prop)(l:fx)(b:Nat)(w:Î):Prop:=SW pX l b w/\gd l l.w w
def rv(a:nQ pX l b)(h:R8 pX l b w)(r:gd l w u):R8 pX l b u:=⟨gG h.1<|a.r r,h.2.fA r⟩
def ajr{J:Jd}(a:SW pX l b l.w)(c:Ħ P yQ (gd l) Ù (λd e=>fF P yQ J {l with w:=e} d) n g l.w):fF P yQ J l g:=Qw c (λ_ _ r=>r) a.1 λ_ _ _ h=>h
def ajs(H:ś P L)(τ:fx->fx)(Φ:fx->Prop)(c:nQ pX l b)(u:SW pX l b l.w)(M:∀a,gd l l.w a->Φ {l with w:=a}/\(τ {l with w:=a}).d=0/\∃p:Î->Prop,nQ p (τ {l with w:=a}) b/\SW p (τ {l with w:=a}) b (τ {l with w:=a}).w/\ ∀h,SW p (τ {l with w:=a}) b h->fF P Æ e {τ {l with w:=a}with d:=0,w:=h} (G (f.at (y.put ((Q[i]?).bind (·.dst))<|ĉ #[])<|È Q jJ::k) qX)): fF P Æ (λl g=>Φ l/\Ay P Æ b (fF P Æ e) (τ l) g) l (G ((base L.done).at ⟨#[Ä<|Â ⟨b,0,Ã⟩,Å,Å,Å],[]⟩ [ü<|Œ L])<|f.at y (È Q (i::jJ)::k)::qX):=by
 lib_facts;simp only[Œ,ψ,bU];have hF:R8 pX l b l.w:=⟨u,gd.gy _ _⟩;apply ajr u (n:=40);u_reg (rv c) hF;u_op (rv c) hF;u_call H.f_add (aF L) aG (rv c) hF;u_c ſ (rv c) hF;u_cond Ê (rv c) hF;u_c ſ (rv c) hF;u_c ſ (rv c) hF;u_reg (rv c) hF;u_op (rv c) hF;u_op (rv c) hF;u_c Ŕ (rv c) hF;u_cond Ê (rv c) hF;u_reg (rv c) hF;u_op (rv c) hF;u_conv H.underlying_tWgP H.room_tWg (o6.r hF.1.2.1).choose_spec (rv c) hF;refine ā λa N=> ?_;replace hF:=rv c hF N;clear N;refine .fS λh r=> ?_;let⟨O,z,p,g,B,C⟩:=M h<|hF.2.fA<|AS r;refine⟨O,z,U,_,λ_=>ą ğ fD U U ji U H.f_relMerge (Ε L) (Ζ L) (Η L) (Θ L) (by simp[ß,gu]),?_⟩;walk_nrm;show fF P Æ (PF P Æ b<|fF P Æ e) (τ {l with w:=h}) _;clear O r;generalize τ {l with w:=h}=l2 at g B z C|-;replace hF:=B;clear B c u M;apply kA g hF (n:=10);iterate 3 w_go gG
 refine kY hF λa hF=> ?_;refine xB (l:={l2 with w:=a}) g hF (À U) U (λ_=>Č ó fD U U ji U H.f_disable (Ĳ L) (ĳ L) (Ĵ L)<|ĵ L) λD hF=> ?_;walk_nrm;have W:Ø l2.d #[kV ó]=1:=by rw[z];rfl
 rw[W];apply kA (l:={l2 with d:=1,w:=D}) g hF (n:=50);iterate 2 w_go gG
 u_defer gG hF
 iterate 8 w_go gG
 u_bub gG hF
 iterate 11 w_go gG
 u_call H.f_uAdd (ar L) aH gG hF
 iterate 10 w_go gG
 refine kY hF λa hF=> ?_;refine pM (l:={l2 with d:=1,w:=a}) g hF λh hF=>⟨U,U,λv=>⟨_,λa o E=>(Ĥ U U ji U H.f_addU64 (ŧ L) (Ũ L) (ũ L) Ï (Ū L) U U o E).trans gq,?_⟩⟩;walk_nrm;have S:Ï.wrap (v+18446744069414584320)=Ï.wrap (v+sK):=rfl;rw[S];clear S;obtain⟨s,F⟩:∃s,Ï.wrap (v+sK)=s:=⟨_,U⟩;simp only[F];have I:0<=s:=by rw[<-F];have:Ï.wrap (v+sK)=(v+sK)%18446744073709551616:=rfl;rw[this];omega
 clear F v;by_cases m:s=0\/(gK<=s/\s<1000000*gK/\s%gK<1000000)
 .rw[if_pos m];by_cases j:s=0;focus
   subst j;clear m I
  rotate_left;focus
   have X:=m.resolve_left j;clear m j I;let⟨Y,c5,c6⟩:=X;have q4:(4294967296:Int)<=s:=Y;have J:s<1000000*4294967296:=c5;have T:s%4294967296<1000000:=c6;have f1:=E3 s Z J T;have q:=E4 s Z J T;obtain⟨t,g1⟩:∃t,(s/4294967296+2147483648)%4294967296-2147483648=t:=⟨_,U⟩;have g2:¬t<0:=Z
   have g3:0<t:=Z;by_cases K:s%4294967296=0;focus rw[K]at q
   rotate_left;focus
    obtain⟨x,g4⟩:∃x,s%4294967296=x:=⟨_,U⟩;rw[g4]at q K;have V:x%4294967296=x:=Z;have g6:(x !=0)=Ê:=fN K
  all_goals
   apply kA (l:={l2 with d:=1,w:=h}) g hF (n:=150);iterate 3 w_go gG
   u_leave1 H.f_uAdd gG hF
   iterate 83 w_go gG
   refine kY hF λa hF=> ?_;refine xB (l:={l2 with d:=1,w:=a}) g hF (Á U) U (λw=>LJ ì fD U H.f_enable (ė L) (Ę L) (ę L) (Ě L) w) λD hF=> ?_;have t:Ø 1 #[kV ì]=0:=rfl;rw[t];apply kA (l:={l2 with d:=0,w:=D}) g hF (n:=10);u_leave0 H.f_add gG hF;iterate 2 w_go gG
   u_leave0 H.f_done gG hF
   refine kY hF λa hF=> ?_;exact C _ hF
 .rw[if_neg m];by_cases j:0<s/\s<1000000
  .rw[if_pos j];let⟨q4,J⟩:=j;clear m I;have f1:=E3 s Z Z Z;have q:=E4 s Z Z Z;have g1:(s/4294967296+2147483648)%4294967296-2147483648=0:=Z
   have V:s%4294967296=s:=Z;rw[V]at q;have g6:(s !=0)=Ê:=by simp;omega
   have X:(s==0)=Æ:=by simp;omega
   have K:(s.toNat:Int)=s:=Z;apply kA (l:={l2 with d:=1,w:=h}) g hF (n:=150);iterate 3 w_go gG
   u_leave1 H.f_uAdd gG hF
   iterate 89 w_go gG
   u_call H.f_uLoad (ū L) Ι gG hF
   iterate 9 w_go gG
   refine kY hF λa hF=> ?_;refine pM (l:={l2 with d:=1,w:=a}) g hF λh hF=>⟨U,U,λv=>⟨_,λa o=>Ć U U ji U H.f_loadU64 (Ķ L) (ķ L) (ĸ L) Ï (Ĺ L) U o,?_⟩⟩;show fF P Æ (if v=(s.toNat:Int)then Lb P Æ b (fF P Æ e) s.toNat else λ_ _=>True) _ _;by_cases t:v=(s.toNat:Int)
   .rw[if_pos t];rw[K]at t;subst t;walk_nrm;have Y:(v !=v)=Æ:=fD;apply kA (l:={l2 with d:=1,w:=h}) g hF (n:=150);iterate 3 w_go gG
    u_leave1 H.f_uLoad gG hF
    iterate 10 w_go gG
    u_call H.f_uStore (nm_uStore L) uStoreFn gG hF
    iterate 5 w_go gG
    refine kY hF λa hF=> ?_;refine pM (l:={l2 with d:=1,w:=a}) g hF λh hF=>⟨U,U,_,λa x o E=>ń U U ji U H.f_storeU64 (Κ L) (Λ L) (Μ L) (Ν L) U U o E,?_⟩;walk_nrm;obtain⟨r,T⟩:∃r,v.toNat=r+1:=⟨v.toNat-1,Z⟩;rw[T];apply kA (l:={l2 with d:=1,w:=h}) g hF (n:=150);iterate 2 w_go gG
    u_leave0 H.f_uStore gG hF
    iterate 24 w_go gG
    refine kY hF λa hF=> ?_;apply aiY H g C r v<;>first|exact hF|omega
   rw[if_neg t];exact .fS λ_ _=>trivial
  rw[if_neg j];trivial
end
noncomputable def LW:Ŗ:=mr aL [1,0,0]
noncomputable def A2 (t:Array Ì) (a:List Ü):Ç:=G ((base 32).at ⟨t,[]⟩ [ü LW,ċ LW,ð 0]) a
structure Da(an N:Nat)(ib:Option õ)(m c kk:Nat)(t:Array Ì):Prop where
 r:t.size=37
 t1:t[1]?=Â (à (Â ⟨an,0,Ã⟩) N N)
 t6:t[6]?=Â (à ib m c)
 C:t[7]?=Â (Û ê m)
 I:t[8]?=Â (Û ê kk)
theorem Db(a:0<=h)(b:h<1000000):ê.wrap h=h:=by rw[ax];omega
section
variable{f:Jd}{l:fx}{t:Array Ì}{an N ib c kk:Nat}{Q:Ì->ByteArray->fx->Prop}{τ:fx->fx}{Φ:fx->Prop}
def ajt(H:gT l)(hq:¬l.q)(hd:l.d=0)(D:Da an N (Â ⟨ib,0,Ã⟩) m c kk t)(hkk:kk<m)(hm:m<1000)(hN:N<1000000)(xu:j<N)(A3:l.M ib)(i0:l.w.cell? ⟨ib,kk*4,Ã⟩=Â (Ä O))(i1:l.w.cell? ⟨ib,kk*4+1,Ã⟩=Â (Û ê j))(i2:l.w.cell? ⟨ib,kk*4+2,Ã⟩=Â (Ä<|Â ⟨i,0,Ã⟩))(i3:l.w.cell? ⟨ib,kk*4+3,Ã⟩=Â (Ä<|Â ⟨n,0,Ã⟩))(K:l.N ⟨i,2,Ã⟩)(rS:l.w.cell? ⟨i,2,Ã⟩=Â v)(L:l.r ⟨n,2,Ã⟩)(P:l.r ⟨an,j,Ã⟩)(e1:(l.w.cell? ⟨n,2,Ã⟩).isSome=Ê)(e2:(l.w.cell? ⟨an,j,Ã⟩).isSome=Ê)(z1:l.w.frozen? ⟨n,2,Ã⟩=Æ)(z2:l.w.frozen? ⟨an,j,Ã⟩=Æ)(mP:(⟨n,2,Ã⟩:õ)≠⟨an,j,Ã⟩)(CK:∀s,ju (λa=>a=⟨n,2,Ã⟩\/a=⟨an,j,Ã⟩) l s->∀S V,fF Ë Æ (λl'' g'=>l''.d=s.d/\∃p o c W,g'=G (S.finish<|ĉ #[à p o c,ä W]) V/\Q (à p o c) W l'') (nR s)<|G (ĺ Ë 50 #[v,Ä O] Ρ)<|S::V)(xl:∀s (x:(Option Addr×Nat×Nat)×ByteArray),ju (λa=>a=⟨n,2,Ã⟩\/a=⟨an,j,Ã⟩) l s->(∃y,Q (à x.1.1 x.1.2.1 x.1.2.2) x.2 y/\(∀b,y.M b->s.M b/\s.w.heap[b]?=y.w.heap[b]?))->s.w.cell? ⟨n,2,Ã⟩=Â (à x.1.1 x.1.2.1 x.1.2.2)->s.w.cell? ⟨an,j,Ã⟩=Â (ä x.2)-> nQ (λ_=>True) s n/\SW (λ_=>True) s n s.w/\Φ s/\(τ s).d=0/\∃E:Î->Prop,nQ E (τ s) n/\SW E (τ s) n (τ s).w/\∀I J,SW E (τ s) n I->Da an N (Â ⟨ib,0,Ã⟩) m c (kk+1) J->fF Ë Æ f {τ s with d:=0,w:=I} (A2 J qX)): fF Ë Æ (λl g=>Φ l/\Ay Ë Æ n (fF Ë Æ f) (τ l) g) l (A2 t qX):=by
 obtain⟨y0,y1,Y,y3,y4,y5,y6,y7,y8,y9,zf,A4,A5,Il,Im,A6,A7,A8,A9,zg,zh,xH,xI,xK,zi,xC,yY,sP,sQ,tK,tL,tM,xD,vT,vU,uL,uM,rfl⟩:=Zc t D.r;obtain rfl:y1=à (Â ⟨an,0,Ã⟩) N N:=fN D.t1;obtain rfl:y6=à (Â ⟨ib,0,Ã⟩) m c:=fN D.t6;obtain rfl:y7=Û ê m:=fN D.C;obtain rfl:y8=Û ê kk:=fN D.I;have xL:∀y:õ,(y=⟨n,2,Ã⟩\/y=⟨an,j,Ã⟩)->l.r y:=λy ha=>by obtain rfl|rfl:=ha;exact L;exact P
 have avV:(kk:Int)<(m:Int):=Z;simp only[A2];conv in LW=>whnf
 refine gY H.r ?_;have hF:True:=trivial;repeat w_go fW
 refine gZ ?_;have R9:∀g,jO l ⟨ib,g,Ã⟩:=λg=>À A3;refine Fb R9 ⟨i0,i1,i2,i3⟩ H hq ?_;walk_nrm;refine o8 (λp=>Ä<|Â ⟨p,0,Ã⟩) (ě #[Ä Ã,Û ê 0,Ä Ã,Ä Ã] 148) H hq λDc B k1 b1 wy tR qj=> ?_;walk_nrm;refine Ig (Ä O) (Û ê j) (Ä<|Â ⟨i,0,Ã⟩) (Ä<|Â ⟨n,0,Ã⟩) b1 tR qj λIo k2 b2 Ba r9=> ?_;have F:=(k1.H H wy k2).toE xL;have xM:=b2.fE;let⟨c0,c1,c2,c3⟩:=b2.M;rw[dQ]at c1 c2 c3;clear b1 k1 k2 b2 tR qj;have aju:Io.N ⟨i,2,Ã⟩:=by rwa[F.c]
 have nE:¬((⟨i,2,Ã⟩:õ)=⟨n,2,Ã⟩\/(⟨i,2,Ã⟩:õ)=⟨an,j,Ã⟩):=λq=>by obtain q|q:=q;exact H.Y _ L<|q▸K;exact H.Y _ P<|q▸K
 have ajv:Io.w.cell? ⟨i,2,Ã⟩=Â v:=(F.e _ (Á K) nE).trans rS;have Ze:∀y:õ,(y=⟨n,2,Ã⟩\/y=⟨an,j,Ã⟩)->Io.r y:=λy hy=>by rw[F.I];exact xL y hy
 refine gY Ba.r ?_;iterate 2 w_go fW
 refine gZ ?_;have hE:ze [(18,(⟨n,2,Ã⟩:õ),λx:(Option Addr×Nat×Nat)×ByteArray=>à x.1.1 x.1.2.1 x.1.2.2),(20,(⟨an,j,Ã⟩:õ),λx=>ä x.2)]=λa=>a=⟨n,2,Ã⟩\/a=⟨an,j,Ã⟩:=by funext a;simp[ze,eq_comm]
 have Sb:(j:Int)<(N:Int):=Z;have HC:∀s,ju (λa=>a=⟨n,2,Ã⟩\/a=⟨an,j,Ã⟩) Io s->∀z,gd s s.w z->(z.cell? ⟨B,0,Ã⟩=Â (Ä O)/\z.cell? ⟨B,1,Ã⟩=Â (Û ê j)/\z.cell? ⟨B,2,Ã⟩=Â (Ä<|Â ⟨i,0,Ã⟩)/\z.cell? ⟨B,3,Ã⟩=Â (Ä<|Â ⟨n,0,Ã⟩)/\z.cell? ⟨i,2,Ã⟩=Â v)/\(∀g,jO s ⟨B,g,Ã⟩)/\jO s ⟨i,2,Ã⟩:=λs C z r=>by have u:∀g,jO s ⟨B,g,Ã⟩:=λg=>À<|À<|C.O B xM;have s2:jO s ⟨i,2,Ã⟩:=Á (Á<|by rwa[C.c]);have k:=λg=>((u g).r r).trans<|iE<|C.r B<|À xM;exact⟨⟨(k 0).trans c0,(k 1).trans c1,(k 2).trans c2,(k 3).trans c3,(s2.r r).trans<|(C.e _ (Á aju) nE).trans ajv⟩,u,s2⟩
 refine Zd (X:=(Option Addr×Nat×Nat)×ByteArray) (λx=>[Ä<|Â ⟨B,3,Ã⟩,Ä<|Â ⟨n,0,Ã⟩,à (Â ⟨an,0,Ã⟩) N N,Ä<|Â ⟨B,1,Ã⟩,Û ê j,Ä<|Â ⟨B,2,Ã⟩,Ä<|Â ⟨i,0,Ã⟩,Ä<|Â ⟨i,0,Ã⟩,Ä<|Â ⟨i,2,Ã⟩,v,Ä<|Â ⟨B,0,Ã⟩,Ä O,ĉ #[à x.1.1 x.1.2.1 x.1.2.2,ä x.2],ĉ #[à x.1.1 x.1.2.1 x.1.2.2,ä x.2],à x.1.1 x.1.2.1 x.1.2.2,ä x.2,Ä<|Â ⟨n,0,Ã⟩,Ä<|Â ⟨n,2,Ã⟩,Å,Ä<|Â ⟨an,j,Ã⟩,Å]) (λx=>ĉ #[à x.1.1 x.1.2.1 x.1.2.2,ä x.2]) 12 [13,14,15,18,20] 50 #[v,Ä O] [(18,⟨n,2,Ã⟩,λx=>à x.1.1 x.1.2.1 x.1.2.2),(20,⟨an,j,Ã⟩,λx=>ä x.2)] (λx=>Q (à x.1.1 x.1.2.1 x.1.2.2) x.2) ((Ã,0,0),ByteArray.empty) Ba r9 ji gq gq gq (λmd=> ?_) (λp e=> ?_) (λs h S V=> ?_) (λx T k D Sc=> ?_) (λk x C ajw hS=> ?_) A
 .cases md;rotate_left;exact⟨[0,1,5,6,7,8,9,10,11,12,13,14,16,17,18,2,3,4,15,19,20],gq,gq⟩;all_goals exact⟨å 21,gq,gq⟩
 simp at e;obtain rfl|rfl:=e;exact⟨fD,fD,fD,U,Ze _<|À U,F.g _ (À U) e1,(F.b _<|À L).trans z1,by simp[mP.symm]⟩;exact⟨fD,fD,fD,U,Ze _<|Á U,F.g _ (Á U) e2,(F.b _<|À P).trans z2,by simp[mP]⟩;rw[hE]at h;exact(CK s (F.fA h) S V).fG λl'' g' ⟨e,p,o,c,W,T,q3⟩=>⟨e,((p,o,c),W),T,q3⟩
 .simp only[lj]at D Sc;simp at D Sc;subst D Sc;rw[<-hE]at HC;iterate 12 refine⟨⟨U,Á<|Á U,À ⟨A,fD,λs C z r=>⟨by
   let⟨⟨d0,d1,d2,T,d4⟩,_⟩:=HC s C z r;simp only[jT];go_simp,λe h=>by
   let⟨⟨d0,d1,d2,T,d4⟩,u,s2⟩:=HC s C z r;simp[go_sem,d0,d1,d2,T,d4]at h<;>(subst h;first|exact(u _).rd|exact s2.rd)⟩⟩⟩,?_⟩
  refine⟨⟨U,À U,Á<|À ⟨U,U,λw=>by go_simp,λw=>ŕ U Tryz.func50 U U #[]⟩⟩,?_⟩;iterate 5 refine⟨⟨U,by first|exact Á (Á U)|simp,À ⟨A,fD,λs C z r=>⟨by simp only[jT];go_simp,λe h=>by simp[go_sem]at h⟩⟩⟩,?_⟩
  refine⟨⟨U,Á<|À fD,Á<|Á ⟨U,_,eZ ..,U,λw hw hz=> ?_⟩⟩,⟨U,Á<|Á U,À ⟨A,fD,λs C z r=>⟨by simp only[jT];go_simp,λe h=>by simp[go_sem,xu,Sb]at h⟩⟩⟩,⟨U,Á<|À fD,Á<|Á ⟨U,_,fi _<|eZ ..,U,λw hw hz=> ?_⟩⟩,trivial⟩;all_goals
   let⟨u,hu⟩:=Ý.1 hw;exact⟨by go_simp,by simp[go_sem,Ō _ _ _ _ _ _ (show Ļ (ä x.2)=Ê from rfl),Ō _ _ _ _ _ _ (show Ļ (à x.1.1 x.1.2.1 x.1.2.2)=Ê from rfl),hu,hz]⟩
 rw[hE]at C;have ajx:=hS _<|eZ ..;have ajy:=hS _<|fi _<|eZ ..;have h:=F.fA C;have u:=h.H H;have Dd:¬k.q:=by rwa[h.q]
 simp only[lj];simp;have T:k.w.cell? ⟨B,3,Ã⟩=Â (Ä<|Â ⟨n,0,Ã⟩):=(iE<|C.r B<|À xM).trans c3;have s3:jO k ⟨B,3,Ã⟩:=À<|À<|C.O B xM;clear hS;refine gY u.r ?_;iterate 3 w_go fW
 refine gZ ?_;refine ru T s3 u.r Dd ?_;walk_nrm;refine gY u.r ?_;iterate 2 w_go fW
 u_call sR.f_done (nm_done Lk) ψ fW hF
 refine gZ ?_;have wz:∀z,gd k k.w z->nQ (λ_=>True) {k with w:=z} n/\SW (λ_=>True) {k with w:=z} n z/\Φ {k with w:=z}/\(τ {k with w:=z}).d=0/\∃E:Î->Prop,nQ E (τ {k with w:=z}) n/\SW E (τ {k with w:=z}) n (τ {k with w:=z}).w/\∀I J,SW E (τ {k with w:=z}) n I->Da an N (Â ⟨ib,0,Ã⟩) m c (kk+1) J->fF Ë Æ f {τ {k with w:=z}with d:=0,w:=I} (A2 J qX):=λz r=>by refine xl {k with w:=z} x (h.N xL r) ?_ ?_ ?_;let⟨y,y1,Y⟩:=ajw;exact⟨y,y1,λb e=>⟨(Y b e).1,(r.I b (Y b e).1).trans (Y b e).2⟩⟩;exact(r.N _<|À<|by rwa[h.I]).trans ajx;exact(r.N _<|À<|by rwa[h.I]).trans ajy
 let⟨k1,k2,_⟩:=wz k.w<|gd.gy _ _;refine ajs sR τ Φ k1 k2 λz r=> ?_;let⟨_,_,f1,f4,E,f2,f3,f5⟩:=wz z r;refine⟨f1,f4,E,f2,f3,λI e=> ?_⟩;walk_nrm;refine gY e.1 ?_;iterate 7 w_go fW
 refine gZ ?_;refine f5 I _ e ⟨U,U,U,U,?_⟩;simp;exact Db Z Z
end
def ajz:Array Þ:=#[⟨Â 2,Ş 76<|Í 0,76, "work.go:24",#[],Ã⟩,
 ⟨Â 3,Ş 54<|Í 1,54, "work.go:24",#[],Ã⟩,
 ⟨Â 4,Đ {callee:=ÿ (ĥ 32),args:=#[Í 2,Í 3],argTypes:=#[76,54]},0, "work.go:24",#[⟨0,Ö⟩,⟨1,Ö⟩],Ã⟩]
def Bb(a:Nat)(b c d e:Ì):Ü:=(aJ 47).at ⟨#[Ä<|Â ⟨a,0,Ã⟩,b,c,d,e],[rp 48 #[Ä<|Â ⟨a,0,Ã⟩] #[]]⟩ [È Y4 [1]]
def Sd(a b c d e:Ì):Ü:=(base 31).at ⟨#[a,b,c,d,e],[]⟩ [È ajz [2]]
section
variable{Ψ:Î->Prop}{J:Jd}{l:fx}{a e f h o:Ì}
def ajA(c:kC l)(g:¬l.q)(k:jO l ⟨j9,0,Ã⟩)(p:jO l ⟨j7,0,Ã⟩)(r:jO l ⟨b,0,Ã⟩)(s:l.w.cell? ⟨j9,0,Ã⟩=Â (ž (ī 31) #[] #[Ä<|Â ⟨j7,0,Ã⟩,Ä<|Â ⟨b,0,Ã⟩]))(t:l.w.cell? ⟨j7,0,Ã⟩=Â (à O m n))(u:l.w.cell? ⟨b,0,Ã⟩=Â (à (Â ⟨j,0,Ã⟩) i i))(y:∀d a e f h v x z jQ o,Da j i O m n 0 d->fF Ë Æ J l (A2 d [Sd v x z jQ o,Bb j6 a e f h,pN Ë])): fF Ë Æ J l (aQ Ë<|rp 47 #[Ä<|Â ⟨j6,0,Ã⟩,Ä<|Â ⟨j9,0,Ã⟩] #[]):=by
 apply gY c;have hF:=trivial;u_c (YV ş gq U) fW hF;walk_nrmf aN;iterate 3 w_go fW
 u_c (YT U U ji U U) fW hF
 walk_nrm;repeat w_go fW
 apply gZ;apply ru s k c g;walk_nrm;apply gY c;u_c (YU U U ji U U ξ gq U) fW hF;walk_nrmf Tryz.f31;w_go fW;apply gZ;apply ru t p c g;walk_nrm;apply ru u r c g;walk_nrm;apply gY c;u_call ο gq aL fW hF;iterate 8 w_go fW
 apply gZ;exact y _ _ _ _ _ _ _ _ _ _ ⟨U,U,U,U,U⟩
def ajB(b:Da j i O m n m d)(p:l.K ⟨k,0,Ã⟩/\l.K ⟨k,1,Ã⟩)(r:nQ Ψ l k)(c:SW Ψ l k l.w)(s:l.d=0)(t:¬l.q)(u:jO l ⟨j6,0,Ã⟩)(y:l.w.cell? ⟨j6,0,Ã⟩=Â (Ä<|Â ⟨k,0,Ã⟩)): fF Ë Æ (λl g=>Ay Ë Æ k (E6 Ë) (lR l) g) l (A2 d [Sd v x z jQ o,Bb j6 a e f h,pN Ë]):=by
 obtain⟨C,D,E,F,G,H,I,g,B,J,L,M,N,P,Q,S,T,V,W,X,Y,xH,xI,xK,zi,xC,yY,sP,sQ,tK,tL,tM,xD,vT,vU,uL,uM,rfl⟩:=Zc d b.r;obtain rfl:g=Û ê m:=fN b.C;obtain rfl:B=Û ê m:=fN b.I;have hmm:¬(m:Int)<(m:Int):=Z;simp only[A2];conv in LW=>whnf
 apply gY c.1;have hF:=trivial;iterate 8 w_go fW
 u_leave0 ο fW hF
 iterate 2 w_go fW
 u_leave0 ξ fW hF
 apply gZ;exact Y5 p r c s t u y
end
noncomputable def Se:Array Þ:=Ff<|mr π [1,0,0,1,1,0,1,1]
def Bc:Array Þ:=#[⟨Â 6,.recv 158 (Í 5) Ê,0, "work.go:63",#[],Ã⟩,⟨Â 7,.extract (Í 6) 1,4, "work.go:63",#[⟨0,Ö⟩],Ã⟩]
def Zf:Array Þ:=#[⟨Â 8,.extract (Í 6) 0,148, "work.go:63",#[],Ã⟩,⟨Â 4,.alloc 148,0, "work.go:63",#[],Ã⟩,⟨Ã,.store 148 (Í 4)<|Í 8,0, "work.go:63",#[⟨1,Ö⟩,⟨0,Ö⟩,⟨0,î⟩,⟨1,î⟩],Ã⟩]
def Sf:Array Þ:=#[⟨Â 9,Ľ 148 (Í 4) 2,0, "work.go:64",#[],Ã⟩,⟨Â 10,Ş 77<|Í 9,77, "work.go:64",#[⟨0,Ö⟩],Ã⟩,⟨Â 11,Ŵ<|Í 10,0, "work.go:64",#[⟨1,Ö⟩],Ã⟩,⟨Â 12,Ľ 96 (Í 11) 0,0, "work.go:64",#[⟨2,Ö⟩],Ã⟩,⟨Â 13,Đ {callee:=ÿ<|ĥ 36,args:=#[Í 12],argTypes:=#[88]},0, "work.go:64",#[⟨3,Ö⟩],Ã⟩]
noncomputable def Fg:Ŗ:=((Ś (Í 7) ť<|ż 0).seq<|ı 1<|(Ò 2 Zf Æ).seq<|(Ò 3 Sf Æ).seq<|Ò 4 Se Ê)
noncomputable def De:Ŗ:=(Ò 1 Bc Æ).seq Fg
def ajC:Array Þ:=#[⟨Â 2,Ş 92<|Í 0,92, "work.go:30",#[],Ã⟩,
 ⟨Â 3,Ş 54<|Í 1,54, "work.go:30",#[],Ã⟩,
 ⟨Â 4,Đ {callee:=ÿ (ĥ 34),args:=#[Í 2,Í 3],argTypes:=#[158,54]},0, "work.go:30",#[⟨0,Ö⟩,⟨1,Ö⟩],Ã⟩]
def Ip(a b c d e:Ì):Ü:=(base 33).at ⟨#[a,b,c,d,e],[]⟩ [È ajC [2]]
noncomputable def Zg (t:Array Ì) (a:List Ü):Ç:=G ((base 34).at ⟨t,[]⟩ [ü De,ċ De,ð 0]) a
noncomputable def Bd (t:Array Ì) (a:List Ü):Ç:=G ((base 34).at ⟨t,[]⟩ [È Bc [0,1],ü Fg,ċ De,ð 0]) a
noncomputable def LX (t:Array Ì) (a:List Ü):Ç:=G ((base 34).at ⟨t,[]⟩ [È Sf [],ü<|Ò 4 Se Ê,ð 1,ċ De,ð 0]) a
noncomputable def Sg (t:Array Ì) (a:List Ü):Ç:=G ((base 34).at ⟨t,[]⟩ [È Bc [1],ü Fg,ċ De,ð 0]) a
def Zh(t:Array Ì)(v:Ì)(a:List Ü):({Bd t a with frame:=(Bd t a).frame.finish v}:Ç)=Sg (t.setIfInBounds 6 v) a:=by have:(Bd t a).frame.finish v=(base 34).at (ŉ ⟨t,[]⟩ (Â 6) v) [È Bc [1],ü Fg,ċ De,ð 0]:=Ď _ _ _ _ _ _ _;rw[this];rfl
def zT:Ì:=.agg #[Ä Ã,Û ê 0,Ä Ã,Ä Ã]
structure QT(an N ch:Nat)(t:Array Ì):Prop where
 r:t.size=26
 C:t[1]?=Â (à (Â ⟨an,0,Ã⟩) N N)
 I:t[5]?=Â (ĭ<|Â ch)
def ajD(t:Array Ì)(h:t.size=26):∃a b c d e f g i j k l m n o p q r s u v w x y z B C:Ì,t=#[a,b,c,d,e,f,g,i,j,k,l,m,n,o,p,q,r,s,u,v,w,x,y,z,B,C]:=by obtain⟨_,rfl⟩:=xF t h;exact⟨_,_,_,_,_,_,_,_,_,_,_,_,_,_,_,_,_,_,_,_,_,_,_,_,_,_,U⟩
section
variable{Ψ:Î->Prop}{J C:Jd}{l:fx}{t:Array Ì}{ch an N:Nat}{u:Option õ}{Q:ByteArray->Prop}{f o r s a c:Ì}{τ:fx->fx}
def Zi(a:kC l)(b:fF Ë Æ J l (Bd t qX)):fF Ë Æ J l (Zg t qX):=by apply gY a;have hF:=trivial;simp only[Zg,De];w_go fW;u_c ō fW hF;exact ā λ_ _=>b
def ajE(d:kC l)(e:¬l.q)(g:jO l ⟨k,0,Ã⟩)(h:jO l ⟨b,0,Ã⟩)(i:jO l ⟨n,0,Ã⟩)(j:l.w.cell? ⟨k,0,Ã⟩=Â (ž (ī 33) #[] #[Ä<|Â ⟨b,0,Ã⟩,Ä<|Â ⟨n,0,Ã⟩]))(p:l.w.cell? ⟨b,0,Ã⟩=Â (ĭ<|Â ch))(u:l.w.cell? ⟨n,0,Ã⟩=Â (à (Â ⟨an,0,Ã⟩) N N))(v:∀t f o r s x z jQ a c,QT an N ch t->fF Ë Æ J l (Bd t [Ip x z jQ a c,Bb m f o r s,pN Ë])): fF Ë Æ J l (aQ Ë<|rp 47 #[Ä<|Â ⟨m,0,Ã⟩,Ä<|Â ⟨k,0,Ã⟩] #[]):=by
 apply gY d;have hF:=trivial;u_c (YV ş gq U) fW hF;walk_nrmf aN;iterate 3 w_go fW
 u_c (YT U U ji U U) fW hF
 walk_nrm;repeat w_go fW
 apply gZ;apply ru j g d e;walk_nrm;apply gY d;u_c (YU U U ji U U ρ gq U) fW hF;walk_nrmf Tryz.f33;w_go fW;apply gZ;apply ru p h d e;walk_nrm;apply ru u i d e;walk_nrm;apply gY d;u_call ς gq π fW hF;iterate 6 w_go fW
 apply gZ;exact Zi d<|v _ _ _ _ _ _ _ _ _ _ ⟨U,U,U⟩
def ajF{I:Ì}(E:gT l)(W:¬l.q)(F:l.d=0)(J:QT an N ch t)(hB:60<=i)(ajG:I=.agg #[Ä u,Û ê j7,Ä<|Â ⟨j9,0,Ã⟩,Ä O])(G:l.K ⟨j9,0,Ã⟩/\l.K ⟨j9,1,Ã⟩)(X:o6 j9 l.w)(L:l.K ⟨j,0,Ã⟩/\l.K ⟨j,1,Ã⟩)(hsa:o6 j l.w)(hs:jO l ⟨m,0,Ã⟩)(hc:l.w.cell? ⟨m,0,Ã⟩=Â (Ä<|Â ⟨j,0,Ã⟩))(Ij:∀B k M,ju fB l B->B.d=0->B.O k->B.w.cell? ⟨k,0,Ã⟩=Â (Ä u)->B.w.cell? ⟨k,1,Ã⟩=Â (Û ê j7)->B.w.cell? ⟨k,2,Ã⟩=Â (Ä<|Â ⟨j9,0,Ã⟩)->QT an N ch M->M[4]?=Â (Ä<|Â ⟨k,0,Ã⟩)->C B (LX M [Ip x z jQ a c,Bb m f o r s,pN Ë])): yJ Ë Æ ch zT (λb=>match b with|some v=>λl g=>v=I->sL Ë Æ i j9 C .jG l g|none=>λl g=>Ay Ë Æ j (E6 Ë) (lR l) g) l (Bd t [Ip x z jQ a c,Bb m f o r s,pN Ë]):=by
 obtain⟨y0,y1,y2,y3,y4,y5,y6,y7,y8,y9,zf,A4,A5,Il,Im,A6,A7,A8,A9,zg,zh,xH,xI,xK,zi,xC,rfl⟩:=ajD t J.r;obtain rfl:y1=à (Â ⟨an,0,Ã⟩) N N:=fN J.C;obtain rfl:y5=ĭ (Â ch):=fN J.I;have hF:=trivial;refine⟨U,U,λP=> ?_,λb=> ?_⟩;refine(stepG_comm (cases:=#[Ň ch zT]) (blocking:=Ê) (shape:=.recv Ê) (w':=P) rfl rfl ji ?_).trans ?_;simp[go_sem,Bc,Õ,Ň,zT];simp[listed,go_sem,Bc,Õ,ö];rfl;cases b with
 |none=>
  rw[Zh];simp only[Sg,Fg,Bc,Option.getD_none,eW,dH,cO,cN];apply gY E.r;iterate 6 w_go fW
  u_leave0 ς fW hF
  iterate 2 w_go fW
  u_leave0 ρ fW hF
  apply gZ;exact Y5 (Ψ:=λ_=>True) L ⟨À L.1,À L.2,λ_ _ _ _ _ _ _ _=>trivial⟩ ⟨E.r,hsa,trivial⟩ F W hs hc|some v=>
  by_cases Y:v=I
  .subst Y;subst ajG;apply fF.fG λl g h _=>h;rw[Zh];simp only[Sg,Fg,Bc,bU,Option.isSome_some,dH,cO,cN];apply gY E.r;iterate 7 w_go fW
   u_c ō fW hF
   simp only[Zf,eN,eH,ţ,Ź,dQ,å,Ĭ];w_go fW;apply gZ;have xL:∀y:õ,False->l.r y:=λy ha=>ha.elim;refine o8 (λp=>Ä<|Â ⟨p,0,Ã⟩) (ě #[Ä Ã,Û ê 0,Ä Ã,Ä Ã] 148) E W λDc k k1 b1 wy tR qj=> ?_;walk_nrm;refine Ig (Ä u) (Û ê j7) (Ä<|Â ⟨j9,0,Ã⟩) (Ä O) b1 tR qj λp Q S H r9=> ?_;have D:=(k1.H E wy Q).toE xL;have xM:=S.fE;obtain⟨c0,c1,c2,_⟩:=S.M;rw[dQ]at c1 c2;apply gY H.r;iterate 2 w_go fW
   u_c ō fW hF
   simp only[Sf,eN,eH,ţ,Ź,dQ,å,Ĭ];w_go fW;apply gZ;apply qi 2 S H r9;walk_nrm;apply gY H.r;iterate 2 w_go fW
   u_call sR.f_wait (nm_wait Lk) aI fW hF
   apply gZ;have Q:nQ (λw=>gd p p.w w) p j9:=⟨À (by rw[D.K];exact G.1),À (by rw[D.K];exact G.2),λw P h1 h2 h3 h4 h5 h=>h.fA ⟨h1,h2,h3,h4,h5⟩⟩;have s2:SW (λw=>gd p p.w w) p j9 p.w:=⟨H.r,⟨D.Y _ G.1 X.1,D.Y _ G.2 X.2⟩,gd.gy _ _⟩;refine YR sR hB Q s2 (D.d.trans F) λP Zj=> ?_;walk_nrm;refine .fS λT n=> ?_;have g:=D.N xL<|Zj.2.2.fA ⟨n.r,n.I,n.N,n.Y,n.S⟩;have hdd:=D.d.trans F;have hA4:ju fB l ({p with d:=0,w:=T}:fx):=⟨g.O,g.h,g.S,g.I,g.c,g.K,g.q,F.symm,g.fM,g.f,g.r,g.e,g.b,g.Y,g.g⟩;have rr:=Zj.2.2.fA ⟨n.r,n.I,n.N,n.Y,n.S⟩;have V:∀e,T.cell? ⟨k,e,Ã⟩=p.w.cell? ⟨k,e,Ã⟩:=λe=>iE<|rr.I k<|À xM;exact Ij {p with d:=0,w:=T} k _ hA4 U xM ((V 0).trans c0) ((V 1).trans c1) ((V 2).trans c2) ⟨U,U,U⟩ U
  exact .fS λ_ _ e=>absurd e Y
end
section
variable{J:Jd}{l:fx}{Q:ByteArray->Prop}
def ajH(s:gT l)(E:¬l.q)(o:QT n i j d)(h4:d[4]?=Â (Ä<|Â ⟨m,0,Ã⟩))(L:l.O m)(c0:l.w.cell? ⟨m,0,Ã⟩=Â (Ä O))(c1:l.w.cell? ⟨m,1,Ã⟩=Â (Û ê k))(c2:l.w.cell? ⟨m,2,Ã⟩=Â (Ä<|Â ⟨b,0,Ã⟩))(F:l.N ⟨b,2,Ã⟩)(rS:l.w.cell? ⟨b,2,Ã⟩=Â v)(t:l.r ⟨n,k,Ã⟩)(e2:(l.w.cell? ⟨n,k,Ã⟩).isSome=Ê)(z2:l.w.frozen? ⟨n,k,Ã⟩=Æ)(xu:k<i)(ajI:∀c,ju (λa=>a=⟨n,k,Ã⟩) l c->∀z B,fF Ë Æ (λM N=>M.d=c.d/\∃C,N=G (z.finish<|ä C) B/\Q C) (nR c)<|G (ĺ Ë 51 #[v,Ä O] Ρ)<|z::B)(hJ:∀c x P,ju (λa=>a=⟨n,k,Ã⟩) l c->Q x->c.w.cell? ⟨n,k,Ã⟩=Â (ä x)->QT n i j P->J c (Bd P qX)): fF Ë Æ J l (LX d qX):=by
 have hF:=trivial;have H:ze [(12,(⟨n,k,Ã⟩:õ),ä)]=λa=>a=⟨n,k,Ã⟩:=by funext a;simp[ze,eq_comm]
 have I:Se=Ff (mr π [1,0,0,1,1,0,1,1]):=U;conv at I=>rhs;arg 1;whnf
 simp only[Ff]at I;apply gY s.r;simp only[LX];w_go fW;apply gZ;obtain⟨u,rfl⟩:=xF d o.r;simp only[å,Ĭ,List.map];have S:u 1=à (Â ⟨n,0,Ã⟩) i i:=fN o.C;have u4:u 4=Ä (Â ⟨m,0,Ã⟩):=fN h4;have u5:u 5=ĭ (Â j):=fN o.I;have Sb:(k:Int)<(i:Int):=Z;have K:∀c,ju (λa=>a=⟨n,k,Ã⟩) l c->∀g,gd c c.w g->(g.cell? ⟨m,0,Ã⟩=Â (Ä O)/\g.cell? ⟨m,1,Ã⟩=Â (Û ê k)/\g.cell? ⟨m,2,Ã⟩=Â (Ä<|Â ⟨b,0,Ã⟩)/\g.cell? ⟨b,2,Ã⟩=Â v)/\(∀e,jO c ⟨m,e,Ã⟩)/\jO c ⟨b,2,Ã⟩:=λc f g r=>by have y:∀e,jO c ⟨m,e,Ã⟩:=λe=>À<|À<|f.O m L;have D:jO c ⟨b,2,Ã⟩:=Á (Á<|by rwa[f.c]);have h:=λe=>((y e).r r).trans<|iE<|f.r m<|À L;exact⟨⟨(h 0).trans c0,(h 1).trans c1,(h 2).trans c2,(D.r r).trans<|(f.e _ (Á F) λq=>s.Y _ t<|q▸F).trans rS⟩,y,D⟩
 rw[I];refine Zd (λx=>[u 1,Ä<|Â ⟨m,1,Ã⟩,Û ê k,Ä<|Â ⟨m,2,Ã⟩,Ä<|Â ⟨b,0,Ã⟩,Ä<|Â ⟨b,0,Ã⟩,Ä<|Â ⟨b,2,Ã⟩,v,Ä<|Â ⟨m,0,Ã⟩,Ä O,ä x,Ä<|Â ⟨n,k,Ã⟩,Å]) ä 10 [12] 51 #[v,Ä O] [(12,⟨n,k,Ã⟩,ä)] (λx _=>Q x) ByteArray.empty s E ji gq gq gq (λh=>⟨å 13,by cases h<;>rfl,gq⟩) (λp e=> ?_) (λc h z B=> ?_) (λx T V o p=> ?_) (λc x f hy T=> ?_) A;obtain rfl:=eY.1 e;exact⟨fD,fD,fD,U,t,e2,z2,λq E=>À<|eY.1 E⟩;rw[H]at h;exact(ajI c h z B).fG λM N ⟨e,C,V,W⟩=>⟨e,C,V,W⟩
 .simp only[lj]at o p;simp at o p;subst o p;rw[<-H]at K;iterate 10 refine⟨⟨U,Á<|Á U,À ⟨A,fD,λc f g r=>⟨by
   let⟨⟨V,W,X,Y⟩,_⟩:=K c f g r;simp only[jT];go_simp,λe h=>by
   let⟨⟨V,W,X,Y⟩,y,D⟩:=K c f g r;simp[go_sem,u4,V,W,X,Y]at h<;>(subst h;first|exact(y _).rd|exact D.rd)⟩⟩⟩,?_⟩
  refine⟨⟨U,À U,Á<|À ⟨U,U,λw=>by go_simp,λw=>ŕ U Tryz.func51 U U #[]⟩⟩,⟨U,Á<|Á U,À ⟨A,fD,λc f g r=>⟨by simp only[jT];go_simp,λe h=>by simp[go_sem,S,xu,Sb]at h⟩⟩⟩,⟨U,Á<|À fD,Á<|Á ⟨U,_,eY.2 U,U,λw y V=> ?_⟩⟩,trivial⟩;let⟨u,W⟩:=Ý.1 y;exact⟨by go_simp,by simp[go_sem,Ō _ _ _ _ _ _ (show Ļ (ä x)=Ê from rfl),W,V]⟩
 have T:=T _<|eY.2 U;rw[H]at f;have e:∀y:õ,y=⟨n,k,Ã⟩->l.r y:=λy V=>by rwa[V]
 have h:=f.H s;apply gY h.r;iterate 3 w_go fW
 apply gZ;refine Zi h.r<|.fS λg r=>hJ {c with w:=g} x _ (f.N e r) hy.choose_spec.1 ((r.N _<|À<|by rwa[f.I]).trans T) ⟨by rw[(oI _ _ _).1];simp,by rw[(oI _ _ _).2 _ gq];simpa using S,by rw[(oI _ _ _).2 _ gq];simpa using u5⟩
end
section
variable{main:Bool}{J:Jd}{l:fx}{b:Ü}{a:Ł}{k:List Į}{cs:List Ü}{ops:Array Þ}{rest:List Nat}{d:ay}
def Iq(l:fx)(w₁ a:Î):fx:={l with O:=λb=>l.O b\/(w₁.heap.size<=b/\b<a.heap.size),w:=a}
def ajJ(s:gT l)(r:gd l l.w u){a:Option Nat}(d:u.grownBy W a)(c:∀k,a=Â k->l.O k/\X k):iz X l (Iq l u W):=by have i:=r.r;have m:=d.size;have b:∀j,j<l.w.heap.size->Â j≠a->W.heap[j]?=u.heap[j]?:=λj o g=>d.block j Z g;have f:∀x:õ,l.C x->Â x.block≠a:=λx h e=>s.S x h<|À (c _ e.symm).1;refine⟨λ_ q=>À q,λj q=>q.imp id λz=>by omega,U,U,U,U,U,U,λj q=> ?_,?_,λj q n=>(b j (s.fM j q) λe=>n (c j e.symm).2).trans<|r.I j q,λx q=>(iE<|b _ (s.I x q)<|f x q).trans<|r.N x q,λx q=>(yI<|b _ (s.I x q)<|f x q).trans<|r.Y x q,λx q z=> ?_⟩;show j<W.heap.size;obtain q|q:=q;have:=s.fM j<|À q;omega;exact q.2;show l.w.heap.size<=W.heap.size;omega;show(W.cell? x).isSome=Ê;rw[iE (b x.block (s.N x q).2.1 λe=>(s.N x q).1<|À (c _ e.symm).1)];exact r.S x q z
def wA{w₁:Î}{a:List Ì}(h:w.ownsRow i e j v n a)(b:∀k,v.ownBlock=Â k->w₁.heap[k]?=w.heap[k]?):w₁.ownsRow i e j v n a:=by refine⟨h.1,h.2.imp id ?_⟩;rintro⟨g,c,d,rfl,f,l,m⟩;exact⟨g,c,d,U,f,(b g U).trans l,m⟩
def ajK{q us:List Ì}(d:P.underlying t=Â (.slice e))(f:P.info? e=Â zJ)(r:zJ.zero=Â z)(h:zJ.size=j9)(s:us.length=j9)(D:(n+1)*zJ.bytes<=140737488355328)(E:n+1<=ak)(k:w.ownsRow 0 e j9 v n q)(l:∀j y,us[j]?=Â y->w.cell? ((⟨m,0,Ã⟩:õ).add j)=Â y)(F:∀u∈us,u.oneCell'=Ê)(a:(Builtin.append_ #[t,t] T #[v,à (Â ⟨m,0,Ã⟩) 1 i]).run P w=.ok x W):x.ownBlock=v.ownBlock\/x.ownBlock=Â w.heap.size:=by
 have o:us.length=1*zJ.size:=by rw[h,s];omega
 have J:n+1<=9223372036854775807:=by simp only[ak]at E;omega
 obtain⟨rfl,rfl⟩|⟨g,p,B,rfl,_,G,K,L,H,M⟩:=k.2;have b:=run_append_nil (P:=P) w t T e zJ z d f r ⟨m,0,Ã⟩ 1 i us o l Z Z Z;rw[b]at a;cases a;exact Á U;by_cases C:n+1<=p;have I:n*zJ.size+us.length<=B.size:=by rw[H,h,s,show n*j9+j9=(n+1)*j9 by rw[Nat.add_mul];omega];exact eB _ C
 have b:=run_append_room (P:=P) w t T e zJ d f g n p B G ⟨m,0,Ã⟩ 1 i us o l F C I;rw[b]at a;cases a;exact À U;have b:=run_append_grow (P:=P) w t T e zJ z d f r ⟨g,0,Ã⟩ n p q (by rw[h];exact k.1) (k.cells (g:=g) U) ⟨m,0,Ã⟩ 1 i us o l Z Z<|growslice_fits Z D;rw[b]at a;cases a;exact Á U
theorem ajL{x:ź}{px:Nat}{E us:List Ì}(ho:ops[i]?=Â o)(hw:Ó o (ò ops a.tmps)=Ê)(hk:b.kind≠Ā)(sn:gT l)(hq:¬l.q)(V:o.op=Đ {callee:=Ų .append,args:=#[qQ,x],argTypes:=#[t,t]})(W:a.eval qQ=v)(X:a.eval x=à (Â ⟨px,0,Ã⟩) 1 j9)(F:P.underlying t=Â (.slice e))(H:P.info? e=Â zJ)(I:zJ.zero=Â z)(K:zJ.size=j7)(jV:0<j7)(Fh:us.length=j7)(mS:z.cells.size=j7)(L:(n+1)*zJ.bytes<=140737488355328)(M:n+1<=ak)(zj:l.w.ownsRow 0 e j7 v n E)(C:∀k,v.ownBlock=Â k->l.O k)(hpx:l.O px)(hu:∀j u,us[j]?=Â u->l.w.cell? ⟨px,j,Ã⟩=Â u)(f:∀u∈us,u.oneCell'=Ê)(hn:∀d B g,gd l l.w d->g.ownsRow 0 e j7 B (n+1) (E++us)->d.grownBy g v.ownBlock->(∀k,B.ownBlock=Â k->(Iq l d g).O k)->(B.ownBlock=v.ownBlock\/B.ownBlock=Â d.heap.size)->fF P main J (Iq l d g) (G (b.at (a.put o.dst B)<|È ops rest::k) cs)): fF P main J l (G (b.at a<|È ops (i::rest)::k) cs):=by
 refine C5 ho hw hk λd r=> ?_;have hM:∀k,l.O k->d.heap[k]?=l.w.heap[k]?:=λk q=>r.I k<|À q;have N:=wA zj (w₁:=d) λk q=>hM k<|C k q;have Q:∀j w,us[j]?=Â w->d.cell? ((⟨px,0,Ã⟩:õ).add j)=Â w:=λj w h=>by rw[Addr.add_lit,dQ];grind [iE]
 have Y:us.length=1*j7:=Z;let⟨B,g,jh,hown',p,LY⟩:=run_append_own (P:=P) d 0 t o.type e zJ z j7 zJ.bytes F H I K U mS jV v n E N ⟨px,0,Ã⟩ 1 j9 us Y Q f M L<|eD _;have LZ:=ajK F H I K Fh L M N Q f jh;refine uponK_append qQ x t V W X jh ⟨Iq l d g,?_,hn d B g r hown' p (λk q=> ?_) LZ⟩;have he:∀D∈listed P b.fn a o d,r8 (Iq l d g) D:=λD S=>by have h2:=Ĩ S;rw[events_append_op qQ x t V W X]at h2;rcases(events_append_where (P:=P) d 0 t o.type e zJ z j7 zJ.bytes F H I K rfl v n E N ⟨px,0,Ã⟩ 1 j9 us Y Q f M L) D h2 with⟨ad,T,y⟩|⟨m,rfl,ajM⟩;refine⟨À ⟨ad,T,À ?_⟩,by rw[T];simp,by rw[T];simp⟩;obtain⟨_,y⟩|y:=y;exact À (by rwa[y]);exact À<|C _ y.symm;have vP:m=.noRoom:=ajM;subst vP;exact⟨Á<|À U,fD,fD⟩
 refine⟨p.size,λj q=>q.imp id λz=>z.1,λj q=> ?_,U,U,U,U,λj T f _=>p.block j T λe=>f<|C j e.symm,λy m f _=>iE (p.block _ m λe=>f<|C _ e.symm),λy m f=>yH (p.block _ m λe=>f<|C _ e.symm),p.os,p.output,p.tape,λD S=>(he D S).1,(LQ he _).symm,U,λq=>absurd q hq,U⟩;obtain q|q:=q;exact ff ((o5 sn.r r) j q) p.size;exact q.2;have y:k<g.heap.size:=(hown'.lt k q).2;obtain m|m:=LZ;exact À (C k<|by rwa[<-m]);rw[m]at q;obtain rfl:=dh q;exact Á ⟨eE _,y⟩
structure Df(l:fx)(e:Ņ)(sz:Nat)(v:Ì)(n:Nat)(xs:List Ì):Prop where
 r:l.w.ownsRow 0 e sz v n xs
 fE:∀k,v.ownBlock=Â k->l.O k
def Df.C{a:List Ì}{c:fx}(h:Df l e i v n a)(k:iz X l c)(d:∀b,v.ownBlock=Â b->¬X b):Df c e i v n a:=⟨wA h.r λj e=>k.r j (À<|h.fE j e)<|d j e,λj e=>k.O j<|h.fE j e⟩
def L0{s x:Operand}{t e:TypeId}{inf:TypeInfo}{z v:Value}{n sz i':Nat}{xs:List Value}{o':Oper}(us:List Value)(R:Df l e sz v n xs)(ht:P.underlying t=some (.slice e))(hi:P.info? e=some inf)(pP:(n+1)*inf.bytes<=140737488355328)(ajN:n+1<=maxLen)(sn:gT l)(hq:¬l.q)(hn:∀l' v' px,iz (λb=>some b=v.ownBlock) l l'->Df l' e sz v' (n+1) (xs++us)->(∀k,v'.ownBlock=some k->v.ownBlock=some k\/l.w.heap.size<=k)->gT l'->¬l'.q->fF P main J l' (G (b.at ((a.put o.dst<|.slice (some ⟨px,0,none⟩) 1 1).put o'.dst v')<|.inRegion ops rest::k) cs))(ho:AX ops i o b a:=by exact⟨rfl,rfl,by k_ne⟩)(ho':ops[i']?=some o':=by rfl)(hw':∀px,Region.wanted o' (yielded ops (a.put o.dst<|.slice (some ⟨px,0,none⟩) 1 1).tmps)=true:=by intro _;rfl)(hr:∀w,(execOp a.eval o).run P w=.ok (.value<|.slice (some ⟨w.heap.size,0,none⟩) 1 1) (w.alloc<|.cells us.toArray e):=by intro w;go_simp)(he:∀w,(execOp a.eval o).events P w #[]=#[]:=by intro w;simp[go_sem])(oF:o'.op=.call {callee:=.builtin .append,args:=#[s,x],argTypes:=#[t,t]}:=by rfl)(hs:∀px,(a.put o.dst<|.slice (some ⟨px,0,none⟩) 1 1).eval s=v:=by intro _;rfl)(hx:∀px,(a.put o.dst<|.slice (some ⟨px,0,none⟩) 1 1).eval x=.slice (some ⟨px,0,none⟩) 1 1:=by intro _;rfl)(hz:inf.zero=some z:=by rfl)(hsize:inf.size=sz:=by rfl)(jV:0<sz:=by decide)(Fh:us.length=sz:=by rfl)(mS:z.cells.size=sz:=by rfl)(h1:us.all (·.oneCell')=true:=by rfl): fF P main J l (G (b.at a<|.inRegion ops (i::i'::rest)::k) cs):=by refine o8 (λp=>à (Â ⟨p,0,Ã⟩) 1 1) _ sn hq (λDc px k1 p1 hpx tR qj=> ?_) ho hr he;have R1:=R.C k1 λ_ _=>id;refine ajL (us:=us) (px:=px) ho' (hw' px) ho.3 tR qj oF (hs px) (hx px) ht hi hz hsize jV Fh mS pP ajN R1.r R1.fE p1.fE (λj u hu=>p1.I<|fN hu) (λu hu=>eI.1 h1 u hu) λw₁ v' w' r vC hgr hrO LZ=> ?_;have k2:=ajJ (X:=λb=>Â b=v.ownBlock) tR r hgr λk e=>⟨R1.fE k e,e.symm⟩;have k:=(k1.fG λ_ _ q=>q.elim).fA k2;exact hn _ v' px k ⟨vC,hrO⟩ (λk e=>LZ.elim (λz=>À<|z▸e) λz=>Á (by rw[z]at e;obtain rfl:=dh e;exact Ð k1.I r.r)) (k.N sn)<|by rwa[k.q]
end
def Zk:Array Þ:=#[⟨Â 25,Α (ī 31) #[] #[Í 9,Í 8],1, "work.go:24",#[],Ã⟩,⟨Â 26,Đ {callee:=ÿ<|ĥ 30,args:=#[Í 12,Í 25],argTypes:=#[88,1]},0, "work.go:24",#[⟨0,Ö⟩],Ã⟩]
def Zl:Array Þ:=#[⟨Â 13,ř<|þ<|à Ã 0 0,91, "work.go:25",#[],Ã⟩]
def Zm:Array Þ:=#[⟨Â 27,Ġ<|Í 2,3, "work.go:26",#[],Ã⟩,⟨Â 28,Ġ<|þ<|Û ê 0,3, "work.go:26",#[],Ã⟩]
def Si:Array Þ:=#[⟨Â 29,Δ .lss 3 (Í 28) (Í 27) 3,4, "work.go:26",#[],Ã⟩]
def Zn:Array Þ:=#[⟨Â 30,Ġ<|Í 10,76, "work.go:28",#[],Ã⟩,⟨Â 31,Đ {callee:=Ų .len,args:=#[Í 30],argTypes:=#[76]},3, "work.go:28",#[⟨0,Ö⟩],Ã⟩,⟨Â 32,.makeChan 92<|Í 31,92, "work.go:28",#[⟨1,Ö⟩],Ã⟩,⟨Â 14,.alloc 92,0, "work.go:28",#[],Ã⟩,⟨Ã,.store 92 (Í 14)<|Í 32,0, "work.go:28",#[⟨3,Ö⟩,⟨2,Ö⟩,⟨0,î⟩,⟨1,î⟩,⟨2,î⟩,⟨3,î⟩],Ã⟩]
def Zo:Array Þ:=#[⟨Â 33,Ġ<|Í 13,91, "work.go:29",#[],Ã⟩,⟨Â 34,Ş 92<|Í 14,92, "work.go:29",#[],Ã⟩,⟨Â 35,.buildSlice 91 1 #[(0,Í 34)],91, "work.go:29",#[⟨1,Ö⟩],Ã⟩,⟨Â 36,Đ {callee:=Ų .append,args:=#[Í 33,Í 35],argTypes:=#[91,91]},91, "work.go:29",#[⟨0,Ö⟩,⟨2,Ö⟩],Ã⟩,⟨Â 13,ř<|Í 36,91, "work.go:29",#[⟨3,Ö⟩,⟨3,.chain⟩,⟨0,î⟩,⟨1,î⟩,⟨2,î⟩,⟨3,î⟩],Ã⟩]
def L2:Array Þ:=#[⟨Â 37,Α (ī 33) #[] #[Í 14,Í 8],1, "work.go:30",#[],Ã⟩,⟨Â 38,Đ {callee:=ÿ<|ĥ 30,args:=#[Í 12,Í 37],argTypes:=#[88,1]},0, "work.go:30",#[⟨0,Ö⟩],Ã⟩]
def Sj:Array Þ:=#[⟨Â 39,Δ .add 3 (Í 28) (þ<|Û ê 1) 3,3, "work.go:26",#[],Ã⟩,⟨Â 28,Ġ<|Í 39,3, "work.go:26",#[⟨0,Ö⟩],Ã⟩]
def L3:Array Þ:=#[⟨Â 40,Ġ<|Í 10,76, "work.go:32",#[],Ã⟩,⟨Â 41,Ġ<|Í 13,91, "work.go:32",#[],Ã⟩,⟨Â 42,Đ {callee:=ÿ<|ĥ 35,args:=#[Í 40,Í 41],argTypes:=#[76,91]},0, "work.go:32",#[⟨0,Ö⟩,⟨1,Ö⟩],Ã⟩]
def L4:Array Þ:=#[⟨Â 43,Đ {callee:=ÿ<|ĥ 36,args:=#[Í 12],argTypes:=#[88]},0, "work.go:33",#[],Ã⟩]
def Ir:Þ:=⟨Â 44,Ş 54<|Í 8,54, "work.go:34",#[],Ã⟩
def Is:Þ:=⟨Â 45,Ġ<|Í 11,77, "work.go:34",#[{on:=5,ground:=đ Ú}],Ã⟩
def It:Þ:=⟨Â 46,Ŵ<|Í 45,0, "work.go:34",#[⟨1,Ö⟩,{on:=5,ground:=đ Ú}],Ã⟩
def Iu:Þ:=⟨Â 47,Ľ 96 (Í 46) 1,0, "work.go:34",#[⟨2,Ö⟩,{on:=5,ground:=đ Ú}],Ã⟩
def Iv:Þ:=⟨Â 48,Ş 56<|Í 47,56, "work.go:34",#[⟨3,Ö⟩,{on:=5,ground:=đ Ú}],Ã⟩
def Iw:Þ:=⟨Â 6,ř<|Í 44,54, "work.go:34",#[⟨0,Ö⟩,⟨0,î⟩,{on:=1,ground:=ć Ú},{on:=2,ground:=ć Ú},{on:=3,ground:=ć Ú},{on:=4,ground:=ć Ú}],Ã⟩
def Ix:Þ:=⟨Â 7,ř<|Í 48,56, "work.go:34",#[⟨4,Ö⟩,⟨5,.chain⟩,⟨0,î⟩,⟨1,î⟩,⟨2,î⟩,⟨3,î⟩,⟨4,î⟩,⟨5,î⟩],Ã⟩
def zk:Array Þ:=#[Ir,Is,It,Iu,Iv,Iw,Ix]
def L5:Ŗ:=(Ò 14 zk Ê).seq Code.ret
def L8:Ŗ:=(Ò 12 L3 Æ).seq<|(Ò 13 L4 Æ).seq L5
def Fi:Ŗ:=(Ò 7 Si Æ).seq<|(Ś (Í 29) ť<|ż 0).seq<|(ı 1<|(Ò 8 Zn Æ).seq<|(Ò 9 Zo Æ).seq<|Ò 10 L2 Æ).seq<|Ò 11 Sj Æ
def sA:Ŗ:=(Ò 5 Zl Æ).seq<|((Ò 6 Zm Æ).seq<|ı 0 Fi.loop).seq L8
def Dg(t:Array Ì)(a:List Ü):Ç:=G ((base 20).at ⟨t,[]⟩ [ü Fi,ċ Fi,ð 0,ü L8]) a
def Fj(t:Array Ì):Ü:=(base 20).at ⟨t,[]⟩ [È Zk [1],ü sA]
def L9(t:Array Ì):Ü:=(base 20).at ⟨t,[]⟩ [È L2 [1],ð 1,ü<|Ò 11 Sj Æ,ċ Fi,ð 0,ü L8]
def Iy:Array Þ:=#[⟨Â 6,Α (ī 47) #[] #[Í 2,Í 3],1, "waitgroup.go:238",#[],Ã⟩,
 ⟨Ã,.go {callee:=ÿ (Í 6),args:=#[],argTypes:=#[]},0, "waitgroup.go:238",#[⟨0,Ö⟩],Ã⟩]
def tG(c d e f:Ì)(a b:Nat):Array Ì:=#[c,d,Ä<|Â ⟨a,0,Ã⟩,Ä<|Â ⟨b,0,Ã⟩,e,f,ž (ī 47) #[] #[Ä<|Â ⟨a,0,Ã⟩,Ä<|Â ⟨b,0,Ã⟩]]
def Dh(a b c d:Ì)(e f:Nat)(g:List Ü):Ç:=G ((base 30).at ⟨tG a b c d e f,[]⟩ [È Iy [1]]) g
def Iz(a b c d:Ì)(e f:Nat)(g:List Ü):Ç:=G ((base 30).at ⟨tG a b c d e f,[]⟩ [È Iy []]) g
def Zp(c e f g:Ì)(a b:Nat)(h:List Ü)(w:Î):é Ë Ê (Dh c e f g a b h) w=.spawn (Iz c e f g a b h) (aQ Ë<|rp 47 #[Ä<|Â ⟨a,0,Ã⟩,Ä<|Â ⟨b,0,Ã⟩] #[]) w #[]:=by
 refine(stepG_spawn (d:=rp 47 #[Ä<|Â ⟨a,0,Ã⟩,Ä<|Â ⟨b,0,Ã⟩] #[]) (w':=w) U U ji ?_ U).trans ?_;simp[Iy,Õ,ħ,ô,ß,tG,rp];have:listed Ë (base 30).fn ⟨tG c e f g a b,[]⟩ Iy[1] w=#[]:=by simp[listed,Iy,Õ,ħ,ô,ß,tG,ö]
 rw[this];rfl
structure ST(ba all pS n j:Nat)(qs dv:Ì)(t:Array Ì):Prop where
 r:t.size=49
 a:t[8]?=Â (Ä<|Â ⟨ba,0,Ã⟩)
 C:t[10]?=Â qs
 I:t[11]?=Â (Ä<|Â ⟨pS,0,Ã⟩)
 M:t[12]?=Â (Ä<|Â ⟨all,0,Ã⟩)
 N:t[13]?=Â dv
 S:t[27]?=Â (Û ê n)
 Y:t[28]?=Â (Û ê j)
structure IA(ba all pS n:Nat)(qs:Ì)(t:Array Ì):Prop where
 AA:t.size=49
 t2:t[2]?=Â (Û ê n)
 t8:t[8]?=Â (Ä<|Â ⟨ba,0,Ã⟩)
 ajO:t[10]?=Â qs
 ajP:t[11]?=Â (Ä<|Â ⟨pS,0,Ã⟩)
 Sk:t[12]?=Â (Ä<|Â ⟨all,0,Ã⟩)
def IB(t:Array Ì)(h:t.size=49):∃a b c d e f g i j k l m n o p q r s u v w x y z B C D E F G H I J K L M N O P Q S T V W X Y rZ r7 yZ:Ì,t=#[a,b,c,d,e,f,g,i,j,k,l,m,n,o,p,q,r,s,u,v,w,x,y,z,B,C,D,E,F,G,H,I,J,K,L,M,N,O,P,Q,S,T,V,W,X,Y,rZ,r7,yZ]:=by obtain⟨_,rfl⟩:=xF t h;exact⟨_,_,_,_,_,_,_,_,_,_,_,_,_,_,_,_,_,_,_,_,_,_,_,_,_,_,_,_,_,_,_,_,_,_,_,_,_,_,_,_,_,_,_,_,_,_,_,_,_,U⟩
section
variable{J a:Jd}{l:fx}{t:Array Ì}{ba all pS:Nat}{qs dv:Ì}
def ajQ(d:kC l)(a:IA ba all pS n qs t)(e:∀c,ST ba all pS n 0 qs (à Ã 0 0) c->fF Ë Ê J l (Dg c qX)):fF Ë Ê J l (Iz v x z jQ b i<|Fj t::qX):=by
 obtain⟨m,o,f,p,q,r,s,u,g,w,h,j,k,y,B,C,D,E,F,G,H,I,K,L,M,N,O,P,Q,S,T,V,W,X,Y,uL,uM,vV,vW,vY,vZ,we,wh,wi,wj,wm,rZ,r7,yZ,rfl⟩:=IB t a.AA;obtain rfl:f=Û ê n:=fN a.t2;obtain rfl:g=Ä (Â ⟨ba,0,Ã⟩):=fN a.t8;obtain rfl:h=qs:=fN a.ajO;obtain rfl:j=Ä (Â ⟨pS,0,Ã⟩):=fN a.ajP;obtain rfl:k=Ä (Â ⟨all,0,Ã⟩):=fN a.Sk;apply gY d;have hF:=trivial;simp only[Iz,Fj,Zk];iterate 2 w_go fW
 u_leave0 š fW hF
 simp only[sA,Zl,Zm];iterate 13 w_go fW
 apply gZ;exact e _ ⟨U,U,U,U,U,U,U,U⟩
theorem ajR(d:kC l)(a:ST ba all pS n j qs dv t)(q:j<1000)(e:∀c,ST ba all pS n (j+1) qs dv c->fF Ë Ê J l (Dg c qX)):fF Ë Ê J l (Iz v x z jQ b i<|L9 t::qX):=by
 obtain⟨r,s,u,w,y,B,C,D,f,E,g,h,k,m,F,G,H,I,K,L,M,N,O,P,Q,S,T,o,p,V,W,X,Y,vT,vU,uL,uM,vV,vW,vY,vZ,we,wh,wi,wj,wm,rZ,r7,yZ,rfl⟩:=IB t a.r;obtain rfl:f=Ä (Â ⟨ba,0,Ã⟩):=fN a.a;obtain rfl:g=qs:=fN a.C;obtain rfl:h=Ä (Â ⟨pS,0,Ã⟩):=fN a.I;obtain rfl:k=Ä (Â ⟨all,0,Ã⟩):=fN a.M;obtain rfl:m=dv:=fN a.N;obtain rfl:o=Û ê n:=fN a.S;obtain rfl:p=Û ê j:=fN a.Y;apply gY d;have hF:=trivial;simp only[Iz,L9,L2];iterate 2 w_go fW
 u_leave0 š fW hF
 simp only[Sj];iterate 7 w_go fW
 apply gZ;refine e _ ⟨U,U,U,U,U,U,U,?_⟩;simp;grind [Db]
end
def Zq(h:w.ownsRow i e j v n l)(a:w.heap.size<=b):¬(Â b=v.ownBlock):=λq=>by have:=(h.lt b q.symm).2;omega
structure Zr(ba all q:Nat)(Ma:Ì)(xs:List Ì)(ch bd bw bf:Nat)(l':fx):Prop where
 S:l'.w.ownsRow 0 92 1 Ma xs.length xs
 M:∀k,Ma.ownBlock=Â k->l'.O k
 r:iO l' ch (ņ q #[] Æ 0 0 Æ)
 C:iO l' bd (ě #[ĭ<|Â ch] 92)
 N:iO l' bw (ě #[Ä<|Â ⟨all,0,Ã⟩] 155)
 I:iO l' bf (ě #[ž (ī 33) #[] #[Ä<|Â ⟨bd,0,Ã⟩,Ä<|Â ⟨ba,0,Ã⟩]] 1)
section
variable{c:Jd}{l:fx}{ba all q:Nat}{a:Option õ}{xs:List Ì}
def ajS(N:gT l)(hq:¬l.q)(hd:l.d=0)(s:ST ba all b n j (à a q i) v d)(xw:j<n)(hn:n<1000)(qj:q<1000)(D:l.K ⟨all,0,Ã⟩/\l.K ⟨all,1,Ã⟩)(Zs:o6 all l.w)(E:l.w.ownsRow 0 92 1 v j xs)(hO:∀k,v.ownBlock=Â k->l.O k)(hJ0:∀Q t' g m r t u v1,iz (λf=>Â f=v.ownBlock) l Q->ST ba all b n j (à a q i) u t'->Zr ba all q u (xs++[ĭ<|Â g]) g m r t Q->l.w.heap.size<=g->g<m->m<r->r<t->(∀k,u.ownBlock=Â k->k≠g/\k≠m/\k≠r/\k≠t)->c Q (Dh (Ä<|Â ⟨all,0,Ã⟩) v1 (Ä<|Â ⟨all,0,Ã⟩) (ĉ #[]) r t<|L9 t'::qX)): fF Ë Ê (LP Ë Ê all c) l (Dg d qX):=by
 obtain⟨y0,y1,y2,y3,y4,y5,y6,y7,y8,y9,zf,A4,A5,Il,Im,A6,A7,A8,A9,zg,zh,xH,xI,xK,zi,xC,yY,sP,sQ,tK,tL,tM,xD,vT,vU,uL,uM,vV,vW,vY,vZ,we,wh,wi,wj,wm,rZ,r7,yZ,rfl⟩:=IB d s.r;obtain rfl:y8=Ä (Â ⟨ba,0,Ã⟩):=fN s.a;obtain rfl:zf=à a q i:=fN s.C;obtain rfl:A4=Ä (Â ⟨b,0,Ã⟩):=fN s.I;obtain rfl:A5=Ä (Â ⟨all,0,Ã⟩):=fN s.M;obtain rfl:v=Il:=(show Il=v by simpa using s.N).symm;obtain rfl:sP=Û ê n:=fN s.S;obtain rfl:sQ=Û ê j:=fN s.Y;have avW:(j:Int)<(n:Int):=Z;have hF:True:=trivial;apply gY N.r;simp only[Dg,Fi,Si,Zn];repeat w_go fW
 apply gZ;have Zt:Ë.info? 148=Â Β:=Tryz.type148;refine o8 (λp=>ĭ<|Â p) (ņ q #[] Æ 0 0 Æ) N hq (λo g wx S hch T Zu=> ?_) (hr:=λw=>by have o:=run_makeChan (P:=Ë) (w:=w) Ŏ Zt ê q Z (by simp[Β];omega);go_simp) (he:=λw=>by simp[go_sem,(events_makeChan (P:=Ë) (w:=w) Ŏ Zt ê q Z (by simp[Β];omega) #[])]);walk_nrm;refine o8 (λp=>Ä<|Â ⟨p,0,Ã⟩) (ě #[ĭ Ã] 92) T Zu λIo m V d2 W Ba r9=> ?_;walk_nrm;have W:g<m:=ff (T.fM g<|À S.fE) W;apply Ie 0 (ĭ<|Â g) d2 Ba r9;walk_nrm;intro ajT X F G Y;have c3:=(S.C V id).C X Z;have Fl:=(wx.fA V).H N Z X;have R3:=Df.C ⟨E,hO⟩ Fl λ_ _=>id;clear S V d2 X wx T Zu Ba r9;apply gY G.r;simp only[Zo,L2];iterate 4 w_go fW
 apply gZ;apply qi 0 F G Y;walk_nrm;refine L0 [ĭ<|Â g] R3 Tryz.underlying91 Tryz.type92 (by simp[Tryz.t92];omega) (by simp only[ak];omega) G Y λMb u px H R5 Be y Fo=> ?_;walk_nrm;have Zv:∀f,l.w.heap.size<=f->¬(Â f=v.ownBlock):=λf hb=>Zq E hb;have IC:=(Fl.fG λ_ _ q=>q.elim).fA H;have c5:=c3.C H<|Zv g Z;have d5:=F.C H<|Zv m Z;have Sl:∀k,u.ownBlock=Â k->k<Mb.w.heap.size/\k≠g/\k≠m:=λk e=>by have C:=G.fM m<|À F.fE;have o:=y.fM k<|À<|R5.fE k e;obtain z|z:=Be k e;have:=(E.lt k z).2;exact⟨o,Z,Z⟩;exact⟨o,Z,Z⟩
 clear H Be c3 F Fl R3 Y;apply gY y.r;iterate 4 w_go fW
 u_call š gq Tryz.f30 fW hF
 iterate 2 w_go fW
 apply gZ;refine o8 (λp=>Ä<|Â ⟨p,0,Ã⟩) (ě #[Ä<|Â ⟨all,0,Ã⟩] 155) y Fo λavX r k6 g6 Mc Fp Md=> ?_;walk_nrm;refine o8 (λp=>Ä<|Â ⟨p,0,Ã⟩) (ě #[ž (ī 33) #[] #[Ä<|Â ⟨m,0,Ã⟩,Ä<|Â ⟨ba,0,Ã⟩]] 1) Fp Md λz t k7 f7 hw7 I Sm=> ?_;walk_nrm;have B:=k6.fA k7;have x:=IC.fA (B.fG λ_ _ q=>q.elim);have c7:=c5.C B id;have d7:=d5.C B id;have g7:=g6.C k7 id;have R7:=R5.C B λ_ _=>id;have IE:m<r:=ff (y.fM m<|À d5.fE) Mc;have Zw:r<t:=ff (Fp.fM r<|À g6.fE) hw7;have J:∀k,u.ownBlock=Â k->k<r/\k≠g/\k≠m:=λk e=>⟨ff (Sl k e).1 Mc,(Sl k e).2⟩;clear k6 k7 B c5 d5 g6 IC y Fo Fp Md R5 Sl;apply gY I.r;iterate 3 w_go fW
 apply gZ;apply qi 0 g7 I Sm;walk_nrm;apply gY I.r;u_call sR.f_add (aF Lk) aG fW hF;apply gZ;refine YS sR (⟨À (by rw[x.K];exact D.1),À (by rw[x.K];exact D.2),λw w₁ C o p L M h=>h.fA ⟨C,o,p,L,M⟩⟩) (⟨I.r,⟨x.e _ D.1 Zs.1,x.e _ D.2 Zs.2⟩,gd.gy _ _⟩) (x.d.trans hd) λZx Zy=> ?_;walk_nrm;apply YW (l:={z with d:=0,w:=Zx}) (n:=10) Zy.1;iterate 3 w_go fW
 apply gZ;refine .fS λL C=> ?_;have rr:gd z z.w L:=Zy.2.2.fA ⟨C.r,C.I,C.N,C.Y,C.S⟩;have p:=x.G rr;have hA9:iz (λf=>Â f=v.ownBlock) l ({z with d:=0,w:=L}:fx):=⟨p.O,p.c,p.S,p.Y,p.b,p.K,p.q,hd.symm,p.fM,p.I,p.r,p.f,p.g,p.e⟩;have M:∀{f:Nat} {o:ay},iO z f o->iO ({z with d:=0,w:=L}:fx) f o:=λh=>⟨h.fE,(rr.I _<|À h.fE).trans h.r⟩;have hlen:(xs++[ĭ<|Â g]).length=j+1:=by have:=E.1;simp;omega
 refine hJ0 {z with d:=0,w:=L} _ g m r t u _ hA9 ⟨U,U,U,U,U,U,U,U⟩ ⟨?_,R7.fE,M c7,M d7,M g7,M f7⟩ hch W IE Zw λk e=>⟨(J k e).2.1,(J k e).2.2,by have:=(J k e).1;omega,by have:=(J k e).1;omega⟩;rw[hlen];exact wA R7.r λk e=>rr.I k<|À<|R7.fE k e
end
end fO
end Go.Proofs.Y
