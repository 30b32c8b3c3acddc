import Derived.Test.YtgpphkdoanciiaaGreatDoorWAA
import Derived.Conc.WgGenN3
import Derived.Conc.MuWords
import Derived.Conc.CompanyDraw
import Derived.Test.YtgpphkdoanciiaaGreatDoorRows
import Derived.Conc.WgLib
set_option linter.all false
set_option maxRecDepth 1000000
set_option maxHeartbeats 8000000
open Or renaming inl->À,inr->Á
open Go renaming undef->Â,Goroutine->Æ,deafBehind->Î,World->Ð,execOp->à,Trace->é,Value->ì,stepG->í,Frame->ù,MemOp->Ć,mem_ready->Ď,Addr->đ,Event->ė,getD_set_true->Ġ,Program->ġ,yielded->Ħ,FuncId->Ĵ,TypeId->Ļ,Oper->Ľ,resolve->Ń,Act->ő,Item->Œ,goexitEntry->Ŝ,runT->ŝ,invoke->ũ,callFunc->Ū,callDeferred->Ÿ,Deferred->ż,Operand->Δ,unwind->Χ,Mark->κ,runNT->υ,Code->ω,Loc->aj
open Option.some renaming inj->Ã,injEq->Ŀ
open Option renaming some->Ä,none->Í,map_eq_some_iff->Ú,isSome_iff_exists->î,getD_some->Č
open Go.GoStatus renaming running->Å,blocked->Þ,finished->æ
open Nat renaming le_refl->Ç,lt_of_lt_of_le->Ê,le_of_eq->Ö,le_trans->Ù,le_mul_of_pos_right->ç,mul_le_mul_left->ñ,lt_of_not_le->ó,zero_le->ô,add_zero->ö,lt_or_ge->ø,le_of_not_lt->ĉ,and_two_pow_sub_one_eq_mod->Ċ,mul_le_mul_right->Ē,strongRecOn->Ĕ,add_mul_mod_self_right->Ę,mul_add->į,eq_zero_or_pos->ĸ,mod_eq_of_lt->ň,and_assoc->ů,add_mul->Ż,mod_lt->Θ
open Go.Item renaming inRegion->È,code->ļ,inBlock->Ş,inLoop->ο
open Bool renaming false->É,true->Ï,and_eq_true->Ő
open Go.MemAct renaming ofEvent->Ë,touch?->Đ,mark->Ğ,start->Ĺ,go->ar
open Go.Conc.Goes renaming stop->Ì
open Go.ConcN renaming sumTo->Ñ,wraps_u64_63->ü,sumTo_congr->Į
open Array renaming getElem?_eq_some_iff->Ò,append_empty->Û,getElem?_eq_getElem->Ü,getElem?_setIfInBounds_ne->á,replicate->è,getElem?_eq_none->ë,mem_toList_iff->Ā,getElem?_push->Ă
open Go.Region renaming ready->Ó,Mode->ß,wanted->å,binds->Ź
open Go.IntKind renaming u64->Ô,u32->â,i64->Ņ
open Go.Operand renaming tmp->Õ,const->ï,func->ł
open Go.Conc renaming mem_ofEvents->Ø,crowd->ò,semEvents->û,woken->Ą,stepG_markAt->ć,stepG_load_atomic->Ĉ,seen_none->ċ,stepG_mark0->ē,stepG_semacquire_wait->ĭ,Goes->ĺ,deafBehind_still->ņ,parked->Ň,stepG_semrelease->ŋ,stepG_add_atomic->Ō,stepG_semacquire->ō,stepG_value->œ,rcase->š,stepG_none->ţ,goes_go->ŵ,stepG_enter->Α,QuitsD->Ε,touch_mute->Ζ,stepG_oper->Υ,mem_listed->ε,Knows->η,listed->ψ,Deaf->af
open Go.MemOp renaming ofEvents->Ý
open Go.Ground renaming data->ã,phase->ħ
open Go.ConcR renaming DC0->ä
open Go.Value renaming int->ê,pointer->ý,nilIface->ą,tuple->ŉ,bool->Ι
open Go.Mark renaming enable->ð,disable->ú,releaseMerge->ķ,acquire->ľ,write->ς
open Ne renaming symm->õ
open Go.FrameMode renaming returning->þ
open Go.Act renaming eval->ÿ,put->ş
open Go.Loc renaming cell->ā,mark->ź
open Go.Region.linearise renaming go->ă
open Go.Deferred renaming ofValue->č
open List renaming all_eq_true->ď,any_eq_true->ŏ,mem_range->Ŭ,mem_cons->ű,range->ζ
open Go.Goroutine renaming again->ĕ
open Go.CallKind renaming early->Ė,deferred->Ŏ
open Go.ConcR.Gen renaming x_semrelease_b->ę,x_semacquire_n->Ě,x_semacquire_b->ě,x_semacquire_x->Ĝ,x_semacquire_f->ĝ,x_enable_n->Ĩ,x_enable_b->ĩ,x_enable_x->Ī,x_enable_f->ī,x_loadU64_n->İ,x_loadU64_b->ı,x_loadU64_x->Ĳ,x_loadU64_f->ĳ,x_disable_n->Ŕ,x_disable_b->ŕ,x_disable_x->Ŗ,x_disable_f->ŗ,x_acquire_n->Ř,x_acquire_b->ř,x_acquire_x->Ś,x_acquire_f->ś,x_semrelease_n->ť,x_semrelease_x->Ŧ,x_semrelease_f->ŧ,nm_uLoad->Ũ,mayWake_entry->Ű,body_wait->ų,x_addU64_n->Κ,x_addU64_b->Λ,x_addU64_x->Μ,x_addU64_f->Ν,x_casU64_n->Ξ,x_casU64_b->Ο,x_casU64_x->Ρ,x_casU64_f->Τ
open Go.GStep renaming after->ğ,go->ŭ
open Go.Stepped renaming next->Ģ
open Go.Callee renaming value->Ĥ
open Go.Code renaming region->ĥ,cond->π,block->χ,skip->ai
open Go.Frame renaming finish_at->Ĭ,enter->Β
open Go.Proofs.Tryz renaming prog->ĵ,underlying20->ń,func64->Γ
open Go.Op renaming move->Ł,call->Ť,fieldAddr->Ŷ,nilCheck->Ž,binOp->ž,equalIn->Ω,assign->ξ
open Go.Conc.Lib renaming WgLink->Ŋ,WgLib->Ų,uLoadFn->ŷ
variable{i n j b k m J j9 j7 j6:Nat}{w u W jX:Ð}{v x z jQ:ì}{g:Æ}{a p:đ}{h c:Int}{e t T:Ļ}{d q:Array ì}{P:ġ}{y:ő}{B:ByteArray}{X:Nat->Prop}{O:Option đ}{l:List ì}{yQ:Bool}{K H:ő->Ð->Prop}{o:Ľ}{D:Nat->Nat}{E:Array Æ}{L:List Œ}{jJ:List Nat}{qX:List ù}{qQ:Δ}{qJ:é}{zX:aj->Prop}{zQ:List Int}{zJ:Go.TypeInfo}{xX:Δ->ì}{xQ:Go.Tape}{xJ:Nat×Nat}{wX:ω}{wQ:Ć}{wJ:Array Bool}{vX:List ByteArray}{vQ:ì->Ð->Prop}{vJ:Go.Exit->ő->Ð->Prop}{yX:ß}{Q:Array Ľ}{f:ù}{V:Array ė}{F:Ĵ}{s:Go.Func}
namespace Go.Proofs.Y.fK
open Go Go.Conc Go.Proofs.Y.Lift
open Go.ConcN (sumTo)
section
variable{F:Ph}{σ:gF F}{S:Nat->Jd}{tr:Nat->gY}{c:Nat->jw}{lot:Nat->fj}{gs:Array Æ}{w':Ð}{t u:é}{sz:Nat}
def AQ(h:F.jg b):F.vk (gp b)/\F.vk (iP b):=⟨⟨b,h,À U⟩,⟨b,h,Á U⟩⟩
def AR(h:F.vk a):σ.Y a.block:=by obtain⟨b,c,rfl|rfl⟩:=h<;>exact À c
def jF.HN(L:jF F σ lot sz w)(ok:F.Ok)(f:F.vk a):∀i,i<sz->¬(lot i).C a:=by
 intro i g h;let⟨b,c,d⟩:=f;rcases L.iU i g a h with⟨k,_,e⟩|⟨p,_,e⟩
 .rcases d with rfl|rfl<;>simp[gp,iP,ki]at e
 .rcases d with rfl|rfl
  .simp only[gp,kz]at e;injection e with e1 _ _;exact ok.xT<|e1▸c
  .simp only[iP,kz]at e;injection e with e1 _ _;exact ok.xT<|e1▸c
def jF.mh(L:jF F σ lot sz w)(c:Ps F σ)(d:j+2<=σ.sp):∀i,i<sz->∀a:đ,a.block=σ.dk j->¬(lot i).C a:=by
 intro i f a b g;let⟨h,l,_⟩:=c.td j d;rcases L.iU i f a g with⟨k,m,e⟩|⟨p,_,e⟩
 .exact h<|by rw[<-b,e];exact Á ⟨k,m,U⟩
 .exact l<|by rw[<-b,e];rfl
def jF.aix(L:jF F σ lot sz w):∀i,i<sz->∀a,(lot i).C a->a.spot=Í:=by intro i b a c;rcases L.iU i b a c with⟨k,_,rfl⟩|⟨p,_,rfl⟩<;>rfl
def jF.T0(L:jF F σ lot sz w)(ok:F.Ok):∀i,i<sz->¬(lot i).Oc (kz F F.kJ):=by
 intro i a h;rcases L.iU i a _ (À h)with⟨k,b,e⟩|⟨p,c,e⟩
 .have:F.iG=F.gK k:=by injection e
  exact ok.xT<|by rw[this];exact Á ⟨k,b,U⟩
 .have:F.kJ=p:=by injection e
  exact c this.symm
structure KL(F:Ph)(σ:gF F)(lot:Nat->fj)(sz:Nat)(w w':Ð):Prop where
 fh:w.heap.size<=w'.heap.size
 fu:∀b,b<w.heap.size->¬σ.Y b->(∀i,i<sz->¬(lot i).O b)->w'.heap[b]?=w.heap[b]?
 fg:∀a:đ,((∃k,k<=F.m/\a=ki F.toFx k)\/∃p,a=kz F p)->(∀i,i<sz->¬(lot i).Oc a)->w'.cell? a=w.cell? a
 fC:mS w' F.iG=mS w F.iG
 io:w'.os=w.os/\w'.output=w.output
def Wd.OM(W:Wd F σ w)(H:iT F)(L:jF F σ lot sz w)(a:KL F σ lot sz w w')(f:σ.ip.md<=F.m){d:GS}{e:Nat->GS}(g:jc w' F.fL d)(h:∀k,k<=F.m->jc w' (F.gK k) (e k))(i:∀j,j+2<=σ.sp->w'.heap[σ.dk j]?=w.heap[σ.dk j]?):Wd F {σ with Ga:=d,Gg:=e} w' where
 fL:=g;j4:=h;kU j hj:=by have:=W.kU j hj;rwa[<-i j hj]at this
 nj k hk:=⟨(W.nj k hk).1,H.OJ _ _ _ _ _ (W.nj k hk).2 (λb c=>a.fu b (L.kF k hk b c).1 (L.kF k hk b c).2.1 (L.kF k hk b c).2.2) (a.fg _ (À ⟨k,Ù hk f,U⟩)<|L.nN k hk) (a.fg _ (Á ⟨_,U⟩)<|L.T0 H.ok) a.fC a.io⟩;qm k h1 h2:=(a.fg _ (Á ⟨_,U⟩)<|L.oT k h1 h2).trans<|W.qm k h1 h2;pQ j hj r hr hd:=(a.fg _ (Á ⟨_,U⟩)<|L.oz j hj r hr hd).trans<|W.pQ j hj r hr hd
def ON(a:Ps F σ):σ.ip.md<=F.m:=by
 cases h:σ.ip with
 |lO k=>exact(a.ik k).1 h
 |mk k=>have:=((a.ik k).2.1 h).2;simp only[kL.md];omega
 |dn k p=>exact((a.ik k).2.2 p h).2
def OO(a:Ps F σ):σ.ip.rl<=σ.ip.md:=by
 cases h:σ.ip with
 |dn k p=>cases p<;>simp only[kL.rl,kL.md]<;>omega
 |_=>exact Ç _
def T3(a:kL):a.od<=a.rl:=by
 cases a with
 |dn k p=>cases p<;>simp only[kL.rl,kL.od]<;>omega
 |_=>exact Ç _
def J_{x:Nat}(h:σ.jb x):σ.oh x:=by let⟨e,a,b⟩:=h;exact⟨e,a,by cases e<;>first|exact b|trivial⟩
def OP{l a:fj}(h:l=mo l)(b:oO l a w w' V):a=mo a:=by
 have j:l.q:=by rw[h];trivial
 have c:a.O=λ_=>False:=by rw[(b.On j).2.2,h];rfl
 have e:a.Rd=λ_=>False:=by rw[b.rd,h];rfl
 have f:a.Oc=λ_=>False:=by rw[b.oc,h];rfl
 have g:a.Rc=λ_=>False:=by rw[b.rc,h];rfl
 have i:a.q=True:=by rw[b.q,h];rfl
 obtain⟨O,k,m,n,d,q,o⟩:=a;simp only at c e f g i;subst c e f g i;rfl
def jF.fD(L:jF F σ lot gs.size w)(C:jR F.B0 (λi=>i<gs.size) σ.Y lot w t){m:fj}(M:i<gs.size)(f:oO (lot i) m w w' V):jF F σ (gX lot i m) gs.size w':=by
 have D:∀x,σ.oh x->i=F.L+x->m=mo m:=λx p e=>OP (e▸L.kq x p) f;have E:=λc g=>OP (L.ja i c g) f;have G:∀k a,(gX lot i m k).C a↔(lot k).C a:=λk a=>by
  by_cases e:k=i
  .subst e;rw[iV];unfold fj.C;rw[f.oc,f.rc]
  .rw[iC lot _ e]
 have n:∀k,(gX lot i m k).Oc=(lot k).Oc:=λk=>by
  by_cases e:k=i
  .subst e;rw[iV,f.oc]
  .rw[iC lot _ e]
 have s:∀k,(gX lot i m k).Rc=(lot k).Rc:=λk=>by
  by_cases e:k=i
  .subst e;rw[iV,f.rc]
  .rw[iC lot _ e]
 have u:∀k,(gX lot i m k).Rd=(lot k).Rd:=λk=>by
  by_cases e:k=i
  .subst e;rw[iV,f.rd]
  .rw[iC lot _ e]
 refine⟨λk l a v=>L.iU k l a<|(G k a).1 v,λx c g a v=>by rw[n];exact L.ni x c g a v,λh=>by rw[s,u];exact L.n7 h,λh k c g=>by rw[n];exact L.oQ h k c g,λh o=>by rw[s,u];exact L.mV h o,λj d o r y c=>by rw[n];exact L.oR j d o r y c,λj d o=>by rw[s,u];exact L.oS j d o,λx p=> ?_,λk l=> ?_,λk c g=> ?_,λk l b H=> ?_,λk l j d=>by rw[n];exact L.nN k l j d,λk c g j d=>by rw[n];exact L.oT k c g j d,λj d r y I k l=>by rw[n];exact L.oz j d r y I k l⟩
 .by_cases e:F.L+x=i
  .rw[e,iV];exact D x p e.symm
  .rw[iC lot _ e];exact L.kq x p
 .by_cases e:k=i
  .subst e;rw[iV,f.q];exact L.mG k l
  .rw[iC lot _ e];exact L.mG k l
 .by_cases e:k=i
  .subst e;rw[iV];exact E c g
  .rw[iC lot _ e];exact L.ja k c g
 .let⟨J,K,B⟩:=L.kF k l b H;refine⟨Ê J f.fh,K,λj d=> ?_⟩;by_cases e:j=i
  .subst e;rw[iV];intro q;rcases f.fN b q with z|z
   .exact B j d z
   .omega
  .rw[iC lot _ e];exact B j d
def aiy(C:jR F.B0 (λi=>i<gs.size) σ.Y lot w t){h:fj}(d:i<gs.size)(c:oO (lot i) h w w' V):KL F σ lot gs.size w w':= ⟨c.fh,λb j e f=>c.lr b j (f i d) λa g q=>e<|g▸C.ju i d a (À q),λa g f=>by
   have e:σ.Y a.block:=by
    rcases g with⟨k,l,rfl⟩|⟨p,rfl⟩
    .exact À<|Á ⟨k,l,U⟩
    .exact Á<|À U
   exact c.fg a (C.kE _ e) (λq=>C.fX i d _ (À q) e)<|f i d,
  c.fC (kz F 0) (C.kE _ (Á (À U))) λq=>C.fX i d _ (À q) (Á (À U)),c.os,c.mR⟩
def J'(L:jF F σ lot gs.size w)(ok:F.Ok)(C:jR F.B0 (λi=>i<gs.size) σ.Y lot w t){g:fj}(e:i<gs.size)(c:oO (lot i) g w w' V)(f:F.jg b){G:GS}(h:jc w b G):jc w' b G:=by have a:σ.Y b:=À f;have d:=λq=>C.fX i e _ (À q) a;have j:=L.HN ok (AQ f).1 i e;have k:=L.HN ok (AQ f).2 i e;exact h.fi (c.fg (gp b) (C.kE _ a) d λq=>j<|À q) (c.fg (iP b) (C.kE _ a) d λq=>k<|À q) (Om<|c.fC (gp b) (C.kE _ a) d)<|Om<|c.fC (iP b) (C.kE _ a) d
def aiz(L:jF F σ lot gs.size w)(e:Ps F σ)(C:jR F.B0 (λi=>i<gs.size) σ.Y lot w t){f:fj}(b:i<gs.size)(g:oO (lot i) f w w' V)(c:j+2<=σ.sp):w'.heap[σ.dk j]?=w.heap[σ.dk j]?:=by have d:σ.Y (σ.dk j):=Á<|Á ⟨j,c,U⟩;exact g.lr _ (C.kE _ d) (λq=>C.fX i b _ (À q) d) λa h q=>L.mh e c i b a h<|À q
def aiA(L:jF F σ lot gs.size w)(H:Ps F σ)(ok:F.Ok)(C:jR F.B0 (λi=>i<gs.size) σ.Y lot w t)(Q:gs.size=F.L+σ.sp){n:fj}{u:Array ė}{B:Ĵ}{D:String}(p:i<gs.size)(l:oO (lot i) n w w' u): OD F.toFx σ.sp (σ.ip.rl) σ.V σ.fs σ.jb t (Ý i B D u) i:=by
 have K:∀x,σ.jb x->i=F.L+x->n=mo n:=λx m e=>OP (e▸L.kq x (J_ m)) l;have M:=λd s=>OP (L.ja i d s) l;have E:∀c∈Ý i B D u,∀a,c.act.touch?=Ä a->∃y:đ,a.loc=ā y/\(n.O y.block\/n.Oc y\/((n.Rd y.block\/n.Rc y)/\a.write=É)):=λc g a o=>by obtain⟨e,j,rfl⟩:=Ø g;exact w_ (l.wS e j) o
 have I:n=mo n->∀c∈Ý i B D u,c.act.touch?=Í:=λe c g=>by
  cases h:c.act.touch? with
  |none=>rfl
  |some a=>
   let⟨y,_,q⟩:=E c g a h;rw[e]at q;rcases q with q|q|⟨q|q,_⟩<;>exact q.elim
 refine⟨λc g _ _=>qK c g,?_,λc g a x o G m=> ?_,λc g a y o J G k d s=> ?_,λc g b _ e=> ?_,λx m N=> ?_⟩
 .by_cases h:i=0
  .exact À h
  .by_cases f:i<F.L
   .exact Á<|Á<|I<|M Z f
   .exact Á<|À ⟨i-F.L,Z,Z⟩
 .exfalso;let⟨y,h,q⟩:=E c g a o;rw[G]at h;injection h with h;subst h;have f:=AR (σ:=σ) m;have r:=L.HN ok m i p;rcases q with q|q|⟨q|q,_⟩
  .rcases l.fN _ q with z|z
   .exact C.fX i p _ (À z) f
   .have:=C.kE _ f;omega
  .exact r<|À<|by rwa[<-l.oc]
  .exact C.fX i p _ (Á<|by rwa[<-l.rd]) f
  .exact r<|Á<|by rwa[<-l.rc]
 .have h:=Ù s<|OO H;let⟨x,m,q⟩:=E c g a o;rw[G]at m;injection m with m;subst m;rcases q with q|q|⟨_,q⟩
  .refine⟨λv=> ?_,λe=> ?_⟩
   .let⟨P,_,r⟩:=L.kF k h _ v;rcases l.fN _ q with z|z
    .exact r i p z
    .omega
   .have f:σ.Y y.block:=by rw[e];exact À<|Á ⟨k,Ù h<|ON H,U⟩
    rcases l.fN _ q with z|z
    .exact C.fX i p _ (À z) f
    .have:=C.kE _ f;omega
  .refine⟨λv=> ?_,λe=> ?_⟩
   .exact(L.kF k h _ v).2.1<|C.ju i p y<|À<|by rwa[<-l.oc]
   .exact L.nN k h i p<|by rwa[<-l.oc,<-e]
  .rw[q]at J;cases J
 .obtain⟨h,j,rfl⟩:=Ø g;have r:=l.wS h j;let⟨v,wr,P⟩:=h;simp only[Ë]at e;rcases r with⟨a,d,_⟩|d|⟨f,d⟩|d|d|⟨a,_,d|d|d|d⟩<;>(simp only at d;subst d;simp at e)
 .by_cases e:F.L+x=i
  .have f:=I<|K x N e.symm;refine⟨λr h=>h.app λj T W v=> ?_,λ_ c g a o=>by rw[f c g]at o;cases o⟩;let⟨z,P,_⟩:=v;rcases pw (show touchAt (t++_) j=Ä z from P)with⟨q,_⟩|⟨_,c,d,s,_⟩
   .omega
   .rw[f c d]at s;cases s
  .exact⟨λr h=>h.appOther qK<|õ e,λf=>absurd f e⟩
end
abbrev xZ:=Nat×Nat×gY
def B9(x y:xZ):Prop:=x.1<y.1\/(x.1=y.1/\(x.2.1<y.2.1\/(x.2.1=y.2.1/\A_ x.2.2 y.2.2)))
def K_:WellFounded B9:=by
 refine⟨λx=> ?_⟩;let⟨a,b,c⟩:=x
 induction a using Ĕ generalizing b c with
 |_ a j=>
  induction b using Ĕ generalizing c with
  |_ b k=>
   induction A'.apply c with
   |intro c _ l=>
    refine⟨_,λy h=> ?_⟩;let⟨m,f,e⟩:=y;rcases h with h|⟨d,h|⟨g,i⟩⟩
    .exact j m h f e
    .simp only at d h;subst d;exact k f h e
    .simp only at d g i;subst d g;exact l e i
def aiB(x:xZ):¬B9 x x:=by
 intro h
 induction K_.apply x with
 |intro x _ a=>exact a x h h
def Hf(n:Nat)(f g:Nat->xZ):Prop:=∃i,i<n/\B9 (f i) (g i)/\∀j,j<n->j≠i->f j=g j\/B9 (f j) (g j)
def L_:∀(n:Nat) (g:Nat->xZ),Acc (Hf n) g
 |0,g=>⟨_,λf ⟨i,h,_⟩=>absurd h Z⟩
 |n+1,g=>by
  have k:∀(x:xZ) (h:Nat->xZ),∀g:Nat->xZ,g n=x->(∀j,j<n->g j=h j)->Acc (Hf<|n+1) g:=by
   intro x
   induction K_.apply x with
   |intro x _ l=>
    intro h
    induction L_ n h with
    |intro h _ m=>
     intro g b c;refine⟨_,λf ⟨i,r,a,d⟩=> ?_⟩;by_cases e:f n=g n
     .have s:i≠n:=by
       intro q;subst q;rw[e]at a;exact aiB _ a
      refine m f ⟨i,Z,by rwa[<-c i Z],λj o p=> ?_⟩ f (e.trans b) λ_ _=>rfl;rw[<-c j o];exact d j Z p
     .have:B9 (f n) x:=by
       rw[<-b];by_cases q:n=i
       .rwa[q]
       .exact(d n Z q).resolve_left e
      exact l _ this f f U λ_ _=>rfl
  exact k (g n) g g U λ_ _=>rfl
abbrev Mu:=(Nat->xZ)×Nat
def sx(n:Nat)(x y:Mu):Prop:=Hf n x.1 y.1\/((∀j,j<n->x.1 j=y.1 j)/\x.2<y.2)
def aiC(n:Nat):WellFounded (sx n):=by
 have e:∀h:Nat->xZ,∀k:Nat,∀g:Nat->xZ,(∀j,j<n->g j=h j)->Acc (sx n) (g,k):=by
  intro h
  induction L_ n h with
  |intro h _ l=>
   intro k
   induction k using Ĕ with
   |_ k m=>
    intro g a;refine⟨_,λy q=> ?_⟩;let⟨f,b⟩:=y;rcases q with⟨i,c,o,x⟩|⟨p,r⟩
    .exact l f ⟨i,c,by rwa[<-a i c],λj d s=>by rw[<-a j d];exact x j d s⟩ b f λ_ _=>rfl
    .exact m b r f λj x=>(p j x).trans<|a j x
 exact⟨λx=>e x.1 x.2 x.1 λ_ _=>rfl⟩
section
variable(F:Ph)
def kT.rk(n:Nat):kT->Nat
 |.gy=>n+1011
 |.iX=>n+1010
 |.ig W=>min W (n+1000)+4
 |.j1 W=>min W (n+1000)+3
 |.jx r=>min r (n+1000)+2
def kx.rk:kx->Nat
 |.jy=>7
 |.ox _=>6
 |.wr=>5
 |.ml=>4
 |.ig=>3
 |.nh=>2
def gH.rk(F:Ph):gH->Nat
 |.iX j=>F.q+F.n+20+4*(F.n-j)+7
 |.rd j=>F.q+F.n+20+4*(F.n-j)+6
 |.nL j=>F.q+F.n+20+4*(F.n-j)+5
 |.go j=>F.q+F.n+20+4*(F.n-j)+4
 |.jH r=>r+F.n+11
 |.mU r=>r+10
 |.fJ p=>p.rk+2
 |.gC=>0
def kL.rk(F:Ph):kL->Nat
 |.lO k=>(F.n+3000)*(F.m+2-k)+2900
 |.mk k=>(F.n+3000)*(F.m+3-k)+2800
 |.dn k p=>(F.n+3000)*(F.m+2-k)+2901+p.rk F.n
def iJ.rk(F:Ph):iJ->Nat
 |.pO r=>(F.n+3000)*(F.q+3-r)
 |.fJ r p=>(F.n+3000)*(F.q+3-r)-20+p.rk
 |.j5 r=>(F.n+3000)*(F.q+3-r)-30
 |.mf r=>(F.n+3000)*(F.q+3-r)-40
def jd.rk(F:Ph):jd->Nat×Nat
 |.ry=>(F.n+2900,0)
 |.gC p=>(p.rk F.n,0)
 |.ko N=>(0,N)
end
def SP.rk(B:Nat)(st:Int):SP->Nat
 |.gN k=>B+2+k
 |.ld v k=>if st=v then k+1 else 2*B+3+k
def kx.ju(B:Nat)(st:Int):kx->Nat
 |.ox p=>p.rk B st
 |_=>0
section
variable{F:Ph}
def gF.fX(σ:gF F)(tr:Nat->gY)(i:Nat):xZ:=
 if i=0 then(σ.mp.rk F,0,tr 0)
 else if i<F.L then(0,σ.lv i,.fO)
 else match σ.ed (i-F.L)with
  |some e=>((e.rk F).1,(e.rk F).2,tr i)
  |none=>if i=F.L then(σ.ip.rk F,0,tr i)else((σ.wp<|i-F.L-1).rk F,0,tr i)
def gF.ju(σ:gF F)(i:Nat):Nat:=
 if i=0 then(match σ.mp with|.fJ p=>p.ju F.B σ.Ga.st|_=>0)
 else if i<=F.L then 0
 else match σ.wp (i-F.L-1)with|.fJ r p=>p.ju F.B (σ.Gg<|F.gq<|i-F.L-1+r*F.n).st|_=>0
def gR(gs:Array Æ)(i:Nat):Nat:=if(gs[i]?).any (·.status==.running)then 1 else 0
def Ph.N(F:Ph):Nat:=F.L+F.n+1
def gF.mu(σ:gF F)(tr:Nat->gY)(a:Array Æ):Mu:=(σ.fX tr,Ñ F.N λi=>(F.N+1)*σ.ju i+gR a i)
end
def KM{c x:Æ}(h:(Ą P g c w x).status=Þ):Ą P g c w x=x/\x.status=Þ:=by
 unfold Ą at h|-;split at h
 .rename_i b;rw[if_pos b];unfold ĕ at h|-;split at h
  .rename_i d e;simp only at h|-;split at h
   .cases h
   .rename_i f;simp only[d,e];exact⟨by rw[if_neg f],trivial⟩
  .cases h
  .cases h
  .rename_i d e f;exact⟨U,h⟩
 .rename_i b;rw[if_neg b];exact⟨U,h⟩
section
variable{F:Ph}{σ:gF F}{S:Nat->Jd}{tr:Nat->gY}{d:Nat->jw}{lot:Nat->fj}{gs gs':Array Æ}{w':Ð}{t u:é}{sl:Option (Nat×Nat)}
def fw.KE(h:fw F σ gs w)(o:gs'[i]?=Ä g)(p:g.status≠Þ)(t:∀k,k≠i->∃a f:Æ,gs'[k]?=gs[k]?.map (Ą F.P a f w'))(u:∀j,j+2<=σ.sp->w'.heap[σ.dk j]?=w.heap[σ.dk j]?):fw F σ gs' w':=by
 intro k x b l;by_cases e:k=i
 .subst e;rw[o]at b;obtain rfl:=Ã b;exact absurd l p
 .let⟨a,f,q⟩:=t k e;rw[q]at b;obtain⟨y,v,rfl⟩:=Ú.1 b;let⟨_,z⟩:=KM l;rcases h k y v z with h1|⟨j,c,m,n,d|⟨r,B,s,C,d,D⟩⟩
  .exact À h1
  .exact Á ⟨j,c,m,n,À d⟩
  .exact Á ⟨j,c,m,n,Á ⟨r,B,s,C,d,by rwa[u j c]⟩⟩
def nO{J:Jd}(a:∀l g,J l g->g.status=Å\/g.status=æ){l:fj}(h:fA P yQ J l g):g.status=Å\/g.status=æ:=by
 cases h with
 |fO h=>exact a _ _<|h _<|fU.fY _ _
 |kD _ _ _ _ b=>exact À b
def aiD(H:iT F)(p:PI F m zX σ S tr d lot gs w t){i:Nat}(hi:i<gs.size):∀l g,S i l g->g.status=Å\/g.status=æ:=by
 have dn:∀(main:Bool) (b:Nat) (J:Jd),(∀l g,J l g->g.status=Å\/g.status=æ)->∀(p:kT) l g,Hz F.P main b J p l g->g.status=Å\/g.status=æ:=by
  intro main b J hJ p l g h;cases p with
  |gy=>exact À h.2.1
  |iX=>exact À h.2.1
  |ig W=>exact À h.2.1
  |j1 W=>exact À h.2.1
  |jx r=>cases r with
   |zero=>exact hJ l g h
   |succ r=>exact À h.2.1
 have wt:∀(main:Bool) (b:Nat) (J:Jd) (p:kx) l g,uq F.P main F.B b J p l g->g.status=Å:=by
  intro main b J p l g h;cases p with
  |jy=>let⟨k,_,_,T,h1,h2⟩:=h;exact(h2 _ _ h1).1
  |ox p=>let⟨_,T,h1,h2⟩:=h;exact(h2 _ _ h1).1
  |wr=>exact h.2.1
  |ml=>exact h.2.1
  |ig=>exact h.2.1
  |nh=>exact h.2.1
 have lv:∀l g,HJ F l g->g.status=Å\/g.status=æ:=λl g ⟨N,h⟩=>h.status;intro l g h;by_cases e0:i=0
 .subst e0;rw[p.s0.1]at h;cases hm:σ.mp with
  |go j=>rw[hm]at h;exact À<|H.B8 _ _ _ _ h
  |nL j=>rw[hm]at h;let⟨c,h⟩:=h;exact À<|H.B8 _ _ _ _ h
  |rd j=>rw[hm]at h;exact À h.2.1
  |iX j=>rw[hm]at h;exact À h.2.1
  |jH r=>
   rw[hm]at h;have cl:∀r l g,D8 F σ.dk r l g->g.status=Å:=λr l g h=>by
    cases r with
    |zero=>exact wt _ _ _ .jy _ _ h
    |succ r=>exact h.1
   cases r with
   |zero=>exact À<|cl _ _ _ h
   |succ r=>exact À h.1
  |mU r=>
   rw[hm]at h;cases r with
   |zero=>exact À<|wt _ _ _ .jy _ _ h
   |succ r=>exact À h.1
  |fJ p=>rw[hm]at h;exact À<|wt _ _ _ _ _ _ h
  |gC=>rw[hm]at h;exact À<|H.HM _ _ _ h
 by_cases e1:i<F.L
 .rw[(p.sO i Z e1).1]at h;exact QuitsD.status h
 have kV:=p.fh;obtain⟨x,rfl⟩:∃x,i=F.L+x:=⟨i-F.L,Z⟩;cases he:σ.ed x with
 |some e=>
  rw[(p.sE x e Z he).1]at h;cases e with
  |ry=>exact À h.2.1
  |gC p=>exact dn _ _ _ lv _ _ _ h
  |ko N=>exact QuitsD.status h
 |none=>
  cases x with
  |zero=>
   rw[ö,(p.sI Z he).1]at h;cases hm:σ.ip with
   |lO k=>rw[hm]at h;exact À<|H.mV _ _ _ h
   |mk k=>rw[hm]at h;let⟨s',V,_,_,_,_,h⟩:=h;exact À h.2.1
   |dn k p=>rw[hm]at h;exact dn _ _ _ (λl g h=>nO (λl g h=>À<|H.mV _ _ _ h) h) _ _ _ h
  |succ j=>
   rw[show F.L+(j+1)=F.L+1+j by omega,(p.sW j Z he).1]at h;cases hm:σ.wp j with
   |pO r=>rw[hm]at h;exact À h.1
   |fJ r p=>rw[hm]at h;exact À<|wt _ _ _ _ _ _ h
   |j5 r=>rw[hm]at h;exact À<|H.OL _ _ _ _ h
   |mf r=>rw[hm]at h;exact À h.2.1
def aiE{T:gY}(h:k≠i):σ.fX (fI tr i T) k=σ.fX tr k:=by
 unfold gF.fX;split
 .rename_i e;subst e;rw[fW tr _ h]
 .split
  .rfl
  .rw[fW tr _ h]
def aiF{k:Ð->gY}(a:tr i=.kD k)(b:¬(0<i/\i<F.L)):B9 (σ.fX (fI tr i<|k w) i) (σ.fX tr i):=by
 unfold gF.fX;split
 .rename_i e;subst e;rw[il,a];exact Á ⟨U,Á ⟨U,w,U⟩⟩
 .split
  .exact absurd ⟨Z,‹_›⟩ b
  .rw[il,a];split
   .exact Á ⟨U,Á ⟨U,w,U⟩⟩
   .split<;>exact Á ⟨U,Á ⟨U,w,U⟩⟩
def PI.fD(H:iT F)(p:PI F m zX σ S tr d lot gs w t){k:Ð->gY}(E:gs[i]?=Ä g)(f:tr i=.kD k): ∃gs' w' u e q,ŝ F.P (ò gs w sl) i=(Ģ<|ò gs' w' sl,u)/\gs'.size=gs.size/\PI F m zX σ S e d q gs' w' (t++u)/\sx F.N (σ.mu e gs') (σ.mu tr gs):=by
 have c:=(Ò.1 E).1;let⟨gs',w',X,Y,J,v,⟨g',K,M⟩,O,h,Q⟩:=p.gw.fD (sl:=sl) E f<|aiD H p c;have G:¬(0<i/\i<F.L):=λ⟨a,b⟩=>by rw[(p.sO i a b).2.1]at f;cases f
 have C:=p.gw.ie;have T:=aiy (σ:=σ) C c h;have I:∀j,j+2<=σ.sp->w'.heap[σ.dk j]?=w.heap[σ.dk j]?:=λj y=>aiz p.iD p.ps C c h y;have V:i<F.N:=by
  have:=p.fh;have:σ.sp<=F.n+1:=by
   unfold gF.sp;cases e:σ.mp with
   |go j=>have:=p.ps.mj j<|À e;simp only[gH.sp];omega
   |nL j=>have:=p.ps.mj j<|Á<|À e;simp only[gH.sp];omega
   |rd j=>have:=p.ps.mj j<|Á<|Á<|À e;simp only[gH.sp];omega
   |iX j=>have:=p.ps.mj j<|Á<|Á<|Á e;simp only[gH.sp];omega
   |_=>simp only[gH.sp];omega
  unfold Ph.N;omega
 refine⟨gs',w',_,_,_,J,v,⟨v.trans p.fh,Q,p.s0,p.sI,p.sW,λx e l o=> ?_,λs l o=> ?_,?_,p.wd.OM H p.iD T (ON p.ps) (J' p.iD H.ok C c h (À U) p.wd.fL) (λs q=>J' p.iD H.ok C c h (Á ⟨s,q,U⟩)<|p.wd.j4 s q) I,p.ps,p.ti.jV<|aiA p.iD p.ps H.ok C p.fh c h,p.fu.KE K (by rcases M with q|q<;>rw[q]<;>simp) O I,λj r l o W=>(p.kn j r l o W).app _⟩,À ⟨i,V,aiF f G,λj _ y=>À<|aiE y⟩⟩
 .let⟨z,B,D⟩:=p.sE x e l o;refine⟨z,B,λq=> ?_⟩;have:=D q;rw[fW tr _ (λe=>by rw[<-e,this]at f;cases f)];exact this
 .let⟨z,B,D⟩:=p.sO s l o;refine⟨z,?_,D⟩;rw[fW tr _ (λe=>by subst e;exact G ⟨l,o⟩)];exact B
 .have:=p.iD.fD C c h;rwa[<-v]at this
end
end Go.Proofs.Y.fK
namespace Go.Proofs.Y.fK
open Go Go.Conc Go.Proofs.Y.Lift
open Go.ConcN (sumTo sumTo_congr)
def aiG{J b:Jd}(c:∀l g,J l g->b l g):∀{T:gY} {l:fj} {g:Æ},na P yQ J T l g->na P yQ b T l g:=by
 intro T
 induction T with
 |fO=>exact λh a r=>c _ _<|h a r
 |kD k d=>
  intro l g h;refine⟨h.1,λa r=> ?_⟩;let⟨e,f,i,j,m,n,o⟩:=h.2 a r;exact⟨e,f,i,j,m,n,d a o⟩
section
variable{F:Ph}{σ σ':gF F}{S:Nat->Jd}{tr d:Nat->gY}{kp:Nat->jw}{c:Nat->fj}{gs gs':Array Æ}{u:é}{sl:Option (Nat×Nat)}
def iI.lO{Y:Nat->Prop}(a:iI P n Y S tr kp c gs w qJ){J:Jd}(h:∀l g,S i l g->J l g):iI P n Y (fI S i J) tr kp c gs w qJ:=by
 refine⟨a.ie,λk x f=> ?_,a.vh⟩;let⟨g0,b,d⟩:=a.kv k x f;by_cases e:k=i
 .subst e;rw[il];exact⟨g0,aiG h b,d⟩
 .rw[fW S _ e];exact⟨g0,b,d⟩
def HO:σ.fX tr 0=(σ.mp.rk F,0,tr 0):=by simp[gF.fX]
def OQ(ok:F.Ok){x:Nat}{e:jd}(a:σ.ed x=Ä e):σ.fX tr (F.L+x)=((e.rk F).1,(e.rk F).2,tr<|F.L+x):=by have:=ok.L1;unfold gF.fX;rw[if_neg Z,if_neg Z,show F.L+x-F.L=x by omega,a]
def T4(ok:F.Ok)(a:σ.ed 0=Í):σ.fX tr F.L=(σ.ip.rk F,0,tr F.L):=by have:=ok.L1;unfold gF.fX;rw[if_neg Z,if_neg Z,show F.L-F.L=0 by omega,a,if_pos U]
def ya(ok:F.Ok)(a:σ.ed (j+1)=Í):σ.fX tr (F.L+1+j)=((σ.wp j).rk F,0,tr<|F.L+1+j):=by have:=ok.L1;unfold gF.fX;rw[if_neg Z,if_neg Z,show F.L+1+j-F.L=j+1 by omega,a,if_neg Z];rfl
def Ca(g:k=0->σ'.mp.rk F=σ.mp.rk F)(h:0<k->k<F.L->σ'.lv k=σ.lv k)(i:F.L<=k->σ'.ed (k-F.L)=σ.ed (k-F.L))(j:k=F.L->σ.ed 0=Í->σ'.ip.rk F=σ.ip.rk F)(l:F.L<k->σ.ed (k-F.L)=Í->(σ'.wp<|k-F.L-1).rk F=(σ.wp<|k-F.L-1).rk F)(b:d k=tr k):σ'.fX d k=σ.fX tr k:=by
 unfold gF.fX;by_cases c:k=0
 .subst c;rw[if_pos U,if_pos U,g U,b]
 .rw[if_neg c,if_neg c];by_cases a:k<F.L
  .rw[if_pos a,if_pos a,h Z a]
  .rw[if_neg a,if_neg a,i Z];cases f:σ.ed (k-F.L)with
   |some e=>simp only;rw[b]
   |none=>
    simp only;by_cases e:k=F.L
    .rw[if_pos e,if_pos e,b,j e (by rw[<-f,e];simp)]
    .rw[if_neg e,if_neg e,b,l Z f]
def KN(a:i<F.N)(h:B9 (σ'.fX d i) (σ.fX tr i))(b:∀k,k≠i->σ'.fX d k=σ.fX tr k):sx F.N (σ'.mu d gs') (σ.mu tr gs):= À ⟨i,a,h,λj _ c=>À<|b j c⟩
def HP(a:Ps F σ):σ.sp<=F.n+1:=by
 unfold gF.sp;cases b:σ.mp with
 |go j=>have:=a.mj j<|À b;simp only[gH.sp];omega
 |nL j=>have:=a.mj j<|Á<|À b;simp only[gH.sp];omega
 |rd j=>have:=a.mj j<|Á<|Á<|À b;simp only[gH.sp];omega
 |iX j=>have:=a.mj j<|Á<|Á<|Á b;simp only[gH.sp];omega
 |_=>simp only[gH.sp];omega
def PI.sy(p:PI F b zX σ S tr kp c gs w qJ)(h:i<gs.size):i<F.N:=by have:=p.fh;have:=HP p.ps;unfold Ph.N;omega
def gM(σ:gF F)(j:Nat)(x:iJ):gF F:={σ with wp:=fI σ.wp j x}
def lh(j:Nat)(x:iJ):(gM σ j x).wp j=x:=il _ _ _
def jM(x:iJ)(h:i≠j):(gM σ j x).wp i=σ.wp i:=fW _ _ h
def M_{x:iJ}(h:∀k,x.iq F j k=(σ.wp j).iq F j k)(k:Nat):(Ñ F.n λi=>((gM σ j x).wp i).iq F i k)=Ñ F.n λi=>(σ.wp i).iq F i k:=by
 refine Į λi _=> ?_;by_cases e:i=j
 .subst e;rw[lh,h]
 .rw[jM x e]
def HQ(ok:F.Ok){x:iJ}{T:gY}(b:F.L+1+j<F.N)(a:σ.ed (j+1)=Í)(h:x.rk F<(σ.wp j).rk F):sx F.N ((gM σ j x).mu (fI tr (F.L+1+j) T) gs') (σ.mu tr gs):=by
 refine KN b (À ?_) λk c=>Ca (λ_=>rfl) (λ_ _=>rfl) (λ_=>rfl) (λ_ _=>rfl) (λd _=> ?_)<|fW tr _ c
 .rwa[ya ok (σ:=gM σ j x) (show(gM σ j x).ed (j+1)=Í from a),ya ok a,lh]
 .rw[jM x Z]
def Ps.gM(h:Ps F σ){x:iJ}(m:j+2<=σ.sp)(d:σ.ed (j+1)=Í)(c:∀k,x.iq F j k=(σ.wp j).iq F j k)(f:∀r,((∃p,x=.fJ r p)\/x=.j5 r\/x=.mf r)->j+r*F.n<F.q) (g:∀r,(x=.fJ r .ig\/x=.fJ r .nh\/x=.j5 r)->F.gq (j+r*F.n)<=σ.ip.od) (i:∀r,x=.fJ r .ig->∃a b,σ.Gg (F.gq<|j+r*F.n)=.iQ a b) (l:∀r,x=.fJ r .wr->σ.fs (F.gq<|j+r*F.n)=Ä j):Ps F (gM σ j x) where
 v0:=h.v0;mj:=h.mj;xU:=h.xU;mr:=h.mr;zA:=h.zA;ik:=h.ik;oU j' rB:=by have:σ.sp<j'+2:=rB;rw[jM x Z];exact h.oU j' rB
 wr j' r rB hx:=by
  by_cases e:j'=j
  .subst e;rw[lh]at hx;exact f r hx
  .rw[jM x e]at hx;exact h.wr j' r rB hx
 sr j' rB hx:=by
  have e:j'≠j:=λe=>by subst e;exact hx d
  rw[jM x e];exact h.sr j' rB hx
 rz:=h.rz;su:=h.su;pR:=h.pR;td:=h.td;tf:=h.tf;sw:=h.sw;tg:=h.tg;qo:=h.qo;xV:=h.xV;rA k h1 h2 h3:=by rw[M_ c];exact h.rA k h1 h2 h3
 qp k h1 h2:=by rw[M_ c];exact h.qp k h1 h2
 tj j' r rB hx:=by
  by_cases e:j'=j
  .subst e;rw[lh]at hx;exact g r hx
  .rw[jM x e]at hx;exact h.tj j' r rB hx
 xW j' r rB hx:=by
  by_cases e:j'=j
  .subst e;rw[lh]at hx;exact i r hx
  .rw[jM x e]at hx;exact h.xW j' r rB hx
 AP:=h.AP;aM:=h.aM;uw:=h.uw;xY j' r rB hx:=by
  by_cases e:j'=j
  .subst e;rw[lh]at hx;exact l r hx
  .rw[jM x e]at hx;exact h.xY j' r rB hx
def zB(σ:gF F)(j:Nat)(x:iJ)(k:Nat)(G:GS)(a:Nat->Option Nat):gF F:={gM σ j x with Gg:=fI σ.Gg k G,fs:=a}
def Ps.M'(h:Ps F σ){x:iJ}{G:GS}{l:Nat->Option Nat}(T:j+2<=σ.sp)(E:σ.ed (j+1)=Í)(H:∀c,c≠k->x.iq F j c=(σ.wp j).iq F j c) (I:1<=k->σ.ip.od<k->G=.cl 1 (Ñ F.n λi=>((fK.gM σ j x).wp i).iq F i k)) (J:k<=σ.ip.od->(∃W,(σ.ip=.dn k (.ig W)\/σ.ip=.dn k (.j1 W))/\G=.kS W/\W=Ñ F.n λi=>((fK.gM σ j x).wp i).iq F i k)\/(∃r s,σ.ip=.dn k (.jx r)/\0<r/\G=.iQ r s/\r+s=Ñ F.n λi=>((fK.gM σ j x).wp i).iq F i k)\/((∀p,σ.ip≠ .dn k p)/\((G=.cl 0 0/\(Ñ F.n λi=>((fK.gM σ j x).wp i).iq F i k)=0)\/∃s,G=.iQ 0 s/\s=Ñ F.n λi=>((fK.gM σ j x).wp i).iq F i k))) (K:(∃a b,σ.Gg k=.iQ a b)->∃a b,G=.iQ a b) (L:G=.cl 1 0->l k=Í) (B:∀c,c≠k->l c=σ.fs c) (M:∀y,σ.fs k=Ä y->l k=Ä y) (N:∀r,((∃p,x=.fJ r p)\/x=.j5 r\/x=.mf r)->j+r*F.n<F.q) (O:∀r,(x=.fJ r .ig\/x=.fJ r .nh\/x=.j5 r)->F.gq (j+r*F.n)<=σ.ip.od) (P:∀r,x=.fJ r .ig->∃a b,fI σ.Gg k G (F.gq<|j+r*F.n)=.iQ a b) (Q:∀r,x=.fJ r .wr->l (F.gq<|j+r*F.n)=Ä j):Ps F (zB σ j x k G l):=by
 have C:∀c,c≠k->(Ñ F.n λi=>((zB σ j x k G l).wp i).iq F i c)=Ñ F.n λi=>(σ.wp i).iq F i c:=λc z=>by
  refine Į λi _=> ?_;by_cases e:i=j
  .subst e;show((fK.gM σ i x).wp i).iq F i c=_;rw[lh,H c z]
  .show((fK.gM σ j x).wp i).iq F i c=_;rw[jM x e]
 have v:∀c,c≠k->(zB σ j x k G l).Gg c=σ.Gg c:=λc z=>fW _ _ z;have gs:(zB σ j x k G l).Gg k=G:=il _ _ _;have w:(zB σ j x k G l).wp j=x:=lh _ _;have o:∀d,d≠j->(zB σ j x k G l).wp d=σ.wp d:=λd g=>jM x g;refine⟨h.v0,h.mj,h.xU,h.mr,h.zA,h.ik,λd g=> ?_,λd r g f=> ?_,λd g f=> ?_,h.rz,h.su,h.pR,h.td,h.tf,h.sw,h.tg,h.qo,h.xV,λc t m D=> ?_,λc t m=> ?_,λd r g f=> ?_,λd r g f=> ?_,h.AP,h.aM,λc t m=> ?_,λd r g f=> ?_⟩
 .have:σ.sp<d+2:=g;rw[o d Z];exact h.oU d g
 .by_cases e:d=j
  .subst e;rw[w]at f;exact N r f
  .rw[o d e]at f;exact h.wr d r g f
 .have e:d≠j:=λe=>by subst e;exact f E
  rw[o d e];exact h.sr d g f
 .by_cases e:c=k
  .subst e;rw[gs];exact I t D
  .rw[v c e,C c e];exact h.rA c t m D
 .by_cases e:c=k
  .subst e;rw[gs];exact J m
  .rw[v c e,C c e];exact h.qp c t m
 .by_cases e:d=j
  .subst e;rw[w]at f;exact O r f
  .rw[o d e]at f;exact h.tj d r g f
 .by_cases e:d=j
  .subst e;rw[w]at f;exact P r f
  .rw[o d e]at f;have:=h.xW d r g f;by_cases u:F.gq (d+r*F.n)=k
   .rw[u]at this|-;rw[gs];exact K this
   .rw[v _ u];exact this
 .by_cases e:c=k
  .subst e;rw[gs]at m;exact L m
  .rw[v c e]at m;show l c=Í;rw[B c e];exact h.uw c t m
 .by_cases e:d=j
  .subst e;rw[w]at f;exact Q r f
  .rw[o d e]at f;have:=h.xY d r g f;show l _=Ä d;by_cases u:F.gq (d+r*F.n)=k
   .rw[u]at this|-;exact M _ this
   .rw[B _ u];exact this
def jF.gM(h:jF F σ c n w){x:iJ}(g:x.iG=(σ.wp j).iG):jF F (gM σ j x) c n w:=by
 have f:∀a,((fK.gM σ j x).wp a).iG=(σ.wp a).iG:=λa=>by
  by_cases e:a=j
  .subst e;rw[lh,g]
  .rw[jM x e]
 exact⟨h.iU,h.ni,h.n7,h.oQ,h.mV,λa e b r d i=>h.oR a e b r d (by rwa[<-f]),h.oS,h.kq,h.mG,h.ja,h.kF,h.nN,h.oT,λa e r b d=>h.oz a e r b<|by rwa[<-f]⟩
def Wd.gM(h:Wd F σ w){x:iJ}(b:x.iG=(σ.wp j).iG)(c:x.jL=(σ.wp j).jL):Wd F (gM σ j x) w:=by
 have d:∀a,((fK.gM σ j x).wp a).iG=(σ.wp a).iG:=λa=>by
  by_cases e:a=j
  .subst e;rw[lh,b]
  .rw[jM x e]
 have f:∀a,((fK.gM σ j x).wp a).jL=(σ.wp a).jL:=λa=>by
  by_cases e:a=j
  .subst e;rw[lh,c]
  .rw[jM x e]
 exact⟨h.fL,h.j4,λa e=>by rw[f];exact h.kU a e,h.nj,h.qm,λa e r g i=>h.pQ a e r g<|by rwa[<-d]⟩
structure uy(F:Ph)(σ:gF F)(S:Nat->Jd)(tr:Nat->gY)(kp:Nat->jw):Prop where
 s0:S 0=JM F σ.dk σ.mp/\kp 0=kM σ.mp
 sI:0<σ.sp->σ.ed 0=Í->S F.L=JI F σ.sg σ.ip/\kp F.L=.no
 sW:∀j,j+2<=σ.sp->σ.ed (j+1)=Í->S (F.L+1+j)=JW F (σ.dk j) j (σ.wp j)/\kp (F.L+1+j)=kW F (σ.dk j) (σ.wp j)
 sE:∀x e,x<σ.sp->σ.ed x=Ä e->S (F.L+x)=JE F e/\kp (F.L+x)=.no/\((∃N,e=.ko N)->tr (F.L+x)=.fO)
 sO:∀i,0<i->i<F.L->S i=ru F.P (σ.lv i)/\tr i=.fO/\kp i=.no
def PI.kB(p:PI F b zX σ S tr kp c gs w qJ):uy F σ S tr kp:=⟨p.s0,p.sI,p.sW,p.sE,p.sO⟩
def PI.of(a:uy F σ S tr kp)(d:gs.size=F.L+σ.sp)(e:iI F.P F.B0 σ.Y S tr kp c gs w qJ)(f:jF F σ c gs.size w)(g:Wd F σ w)(h:Ps F σ)(i:TI F.toFx b zX σ.sp σ.ip.rl σ.V σ.pk σ.fs σ.jb σ.ql qJ)(k:fw F σ gs w) (l:∀j r,j+2<=σ.sp->σ.wp j=.j5 r->1<=F.gq (j+r*F.n)->η qJ (F.L+1+j) (σ.pk<|F.gq<|j+r*F.n)):PI F b zX σ S tr kp c gs w qJ:=⟨d,e,a.s0,a.sI,a.sW,a.sE,a.sO,f,g,h,i,k,l⟩
def uy.gM(h:uy F σ S tr kp)(ok:F.Ok){x:iJ}{T:gY}(k:j+2<=σ.sp)(f:σ.ed (j+1)=Í):uy F (gM σ j x) (fI S (F.L+1+j)<|JW F (σ.dk j) j x) (fI tr (F.L+1+j) T) (fI kp (F.L+1+j)<|kW F (σ.dk j) x):=by
 have:=ok.L1;refine⟨by rw[fW S _ Z,fW kp _ Z];exact h.s0,λb a=>by rw[fW S _ Z,fW kp _ Z];exact h.sI b a,λd b a=> ?_,λy e b a=> ?_,λi b a=>by rw[fW S _ Z,fW kp _ Z,fW tr _ Z];exact h.sO i b a⟩
 .by_cases e:d=j
  .subst e;rw[il,il,lh];exact⟨U,U⟩
  .rw[fW S _ Z,fW kp _ Z,jM x e];exact h.sW d b a
 .have c:F.L+y≠F.L+1+j:=λe=>by
   have g:y=j+1:=Z
   subst g;have:σ.ed (j+1)=Ä _:=a;rw[f]at this;cases this
  rw[fW S _ c,fW kp _ c,fW tr _ c];exact h.sE y e b a
end
def yb(F:Fx)(e:ė):Prop:=(∃(x:đ) (wr:Bool),F.vk x/\e=⟨ā x,wr,Ï⟩)\/e.loc=ź ú\/e.loc=ź ð
def KO{F:Fx}{e:ė}(h:yb F e){b:Touch}(a:(Ë e).touch?=Ä b):∃x,F.vk x/\b.loc=ā x/\b.kind=.atomic:=by
 let⟨f,wr,g⟩:=e;rcases h with⟨x,i,c,d⟩|h|h
 .injection d with e1 e2 e3;subst e1 e2 e3;have:(Ë ⟨ā x,wr,Ï⟩).touch?=Ä ⟨ā x,wr,.atomic⟩:=by cases wr<;>rfl
  rw[this]at a;obtain rfl:=Ã a;exact⟨x,c,U,U⟩
 .simp only at h;subst h;simp[Ë,Đ]at a
 .simp only at h;subst h;simp[Ë,Đ]at a
section
variable{F:Ph}{σ σ':gF F}{S:Nat->Jd}{tr f:Nat->gY}{c:Nat->jw}{lot:Nat->fj}{gs gs':Array Æ}{u:é}{l:Option (Nat×Nat)}
def Cb(σ:gF F)(i:Nat):Prop:=i=0\/∃x,x<σ.sp/\i=F.L+x
def iI.HR{Y:Nat->Prop}(e:iI P n Y S tr c lot gs w qJ)(f:gs[i]?=Ä g)(h:g.status=Å)(j:tr i=.fO)(a:c i=.no\/c i=.jx):∀b,fU (lot i) (lot i).w b->S i {lot i with w:=b} g:=by
 let⟨g0,hF,d,_,_⟩:=e.kv i g f;rw[j]at hF;have:g=g0:=by
  rcases a with a|a<;>rw[a]at d<;>cases d
  .rfl
  .rfl
  .cases h
 subst this;exact hF
def N_(b:TI F.toFx j zX σ.sp σ.ip.rl σ.V σ.pk σ.fs σ.jb σ.ql qJ)(c:Cb σ i)(d:n<j)(a:qJ.g? n=Ä 0):η qJ i n:=by
 rcases c with rfl|⟨x,e,rfl⟩
 .let⟨h,f,g⟩:=Ú.1 a;have:=knows_own f;rwa[g]at this
 .exact b.D5 x e n d a
def aiH(h:∀d,¬Race d qJ)(f:TI F.toFx j zX σ.sp σ.ip.rl σ.V σ.pk σ.fs σ.jb σ.ql qJ)(k:Cb σ i){g:Array ė}{l:Ĵ}{m:String}(n:∀e∈g,yb F.toFx e):∀d,¬Race d (qJ++Ý i l m g):=by
 refine TA h qK λB o b r=> ?_;obtain⟨e,s,rfl⟩:=Ø o;let⟨x,t,u,v⟩:=KO (n e s) r;refine Á (Á ⟨v,λp a w q c=> ?_⟩);rcases f.wU p a x w (q.trans u) t with⟨y,z⟩|q|⟨q,_⟩
 .exact N_ f k y z
 .rw[q]at c;cases c
 .rw[q]at c;cases c
def aiI(L:jF F σ lot gs.size w)(ok:F.Ok)(C:jR F.B0 (λi=>i<gs.size) σ.Y lot w qJ)(d:∀e∈V,yb F.toFx e):∀e∈V,(∀b,(Ë e).touch?=Ä b->KC (λi=>i<gs.size) σ.Y lot b)/\(Ë e).low w.heap.size:=by
 intro e f;refine⟨λb g=> ?_,?_⟩
 .let⟨x,a,c,_⟩:=KO (d e f) g;exact À ⟨x,c,AR a,λk h=>L.HN ok a k h⟩
 .rcases d e f with⟨x,wr,a,c⟩|h|h
  .subst c;have:=C.kE _<|AR (σ:=σ) a;cases wr<;>exact this
  .let⟨k,wr,j⟩:=e;simp only at h;subst h;trivial
  .let⟨k,wr,j⟩:=e;simp only at h;subst h;trivial
def D9(d:Nat)(a:Array ė):Prop:=∀(j:Nat) (e:ė),a[j]?=Ä e->(Ë e).touch?=Í\/((∃b c,e=⟨ā b,c,Ï⟩)/\0<Î d (a.extract 0 j))
def aiJ(L:jF F σ lot gs.size w)(t:Ps F σ)(C:jR F.B0 (λi=>i<gs.size) σ.Y lot w qJ)(u:Cb σ i){g:Array ė}{o:Ĵ}{p:String}(l:∀e∈g,yb F.toFx e) (z:∀x,σ.jb x->i=F.L+x->(∀e∈g,∀b,(Ë e).touch?=Ä b->∃y:đ,b.loc=ā y/\y.block=F.fL)/\D9 (af qJ i) g):OD F.toFx σ.sp σ.ip.rl σ.V σ.fs σ.jb qJ (Ý i o p g) i:=by
 refine⟨λj c _ _=>qK j c,u.imp id À,λj c a x f _ _=> ?_,λj c a y f _ B k q m=> ?_,λj c b _ e=> ?_,λx E D=> ?_⟩
 .obtain⟨e,d,rfl⟩:=Ø c;let⟨_,_,_,n⟩:=KO (l e d) f;exact À n
 .obtain⟨e,d,rfl⟩:=Ø c;let⟨x,r,h,_⟩:=KO (l e d) f;rw[B]at h;injection h with h;subst h;refine⟨λv=>(L.kF k (Ù m<|OO t) _ v).2.1<|AR r,λe=> ?_⟩;obtain⟨b,_,s|s⟩:=r<;>(rw[s]at e;simp[gp,iP,ki]at e)
 .obtain⟨r,d,rfl⟩:=Ø c;simp only at e;rcases l r d with⟨x,wr,_,rfl⟩|h|h
  .cases wr<;>simp[Ë]at e
  .let⟨s,wr,v⟩:=r;simp only at h;subst h;simp[Ë]at e
  .let⟨s,wr,v⟩:=r;simp only at h;subst h;simp[Ë]at e
 .by_cases e:F.L+x=i
  .let⟨q,m⟩:=z x D e.symm;subst e;refine⟨λr h=>h.appOwn o p g m,λ_ j c a f=> ?_⟩;obtain⟨e,d,rfl⟩:=Ø c;let⟨_,_,_,n⟩:=KO (l e d) f;exact⟨q e d a f,n⟩
  .exact⟨λr h=>h.appOther qK<|õ e,λs=>absurd s e⟩
def Cc(a:F.jg b):∀e∈#[mg<|gp b],yb F.toFx e:=by
 intro e c;have:e=mg (gp b):=by simpa using c
 subst this;exact À ⟨_,É,(AQ a).1,U⟩
def N'(a:F.jg b):∀e∈#[py<|gp b],yb F.toFx e:=by
 intro e c;have:e=py (gp b):=by simpa using c
 subst this;exact À ⟨_,Ï,(AQ a).1,U⟩
def Ea(a:F.jg b):∀e∈#[mg<|gp b,py<|gp b],yb F.toFx e:=by
 intro e c;simp at c;rcases c with rfl|rfl
 .exact À ⟨_,É,(AQ a).1,U⟩
 .exact À ⟨_,Ï,(AQ a).1,U⟩
def KP(a:F.jg b):∀e∈û (iP b),yb F.toFx e:=by
 intro e c;simp[û]at c;rcases c with rfl|rfl|rfl|rfl
 .exact Á<|À U
 .exact À ⟨_,É,(AQ a).2,U⟩
 .exact À ⟨_,Ï,(AQ a).2,U⟩
 .exact Á<|Á U
def KQ(d:Nat):Î d #[mg a,py a]=d/\Î d #[mg a]=d/\Î d #[py a]=d/\Î d (û a)=d:=by refine⟨U,U,U,?_⟩;simp[Î,û]
def OS:D9 1 #[mg a,py a]/\D9 1 #[mg a]/\D9 1 #[py a]/\D9 1 (û a):=by
 refine⟨λj e b=> ?_,λj e b=> ?_,λj e b=> ?_,λj e b=> ?_⟩
 .match j,b with
  |0,b=>obtain rfl:=Ã b;exact Á ⟨⟨a,É,U⟩,by simp[Î]⟩
  |1,b=>obtain rfl:=Ã b;exact Á ⟨⟨a,Ï,U⟩,by simp[Î,mg]⟩
  |j+2,b=>simp at b
 .match j,b with
  |0,b=>obtain rfl:=Ã b;exact Á ⟨⟨a,É,U⟩,by simp[Î]⟩
  |j+1,b=>simp at b
 .match j,b with
  |0,b=>obtain rfl:=Ã b;exact Á ⟨⟨a,Ï,U⟩,by simp[Î]⟩
  |j+1,b=>simp at b
 .match j,b with
  |0,b=>obtain rfl:=Ã b;exact À U
  |1,b=>obtain rfl:=Ã b;exact Á ⟨⟨a,É,U⟩,by simp[Î,û]⟩
  |2,b=>obtain rfl:=Ã b;exact Á ⟨⟨a,Ï,U⟩,by simp[Î,û]⟩
  |3,b=>obtain rfl:=Ã b;exact À U
  |j+4,b=>simp[û]at b
def aiK(ok:F.Ok)(f:F.vk a)(v:ì):KL F σ lot gs.size w (w.setCell a v):=by
 have h:=AR (σ:=σ) f;refine⟨Ö ln.symm,λb _ d _=>nG λe=>d<|e▸h,λc i _=>B4 ?_,TQ,U,U⟩;let⟨b,d,g⟩:=f;rcases i with⟨k,_,rfl⟩|⟨p,rfl⟩
 .right;rcases g with rfl|rfl<;>simp[gp,iP,ki]
 .left;rcases g with rfl|rfl<;>exact λe=>ok.xT (by have j:b=F.iG:=e;rwa[<-j])
def aiL(L:jF F σ lot gs.size w)(ok:F.Ok)(c:F.vk a)(v:ì):s8 (λi=>i<gs.size) σ.Y lot w (w.setCell a v):= ail (AR c) (by obtain⟨b,_,rfl|rfl⟩:=c<;>rfl) (λk i=>L.HN ok c k i) λk i b d=>L.aix k i b d
def aiM(c:Ps F σ)(d:F.vk a)(v:ì)(f:j+2<=σ.sp):(w.setCell a v).heap[σ.dk j]?=w.heap[σ.dk j]?:= nG λe=>(c.td j f).1 (by obtain⟨b,g,rfl|rfl⟩:=d<;>(rwa[e]))
def aiN(h:a=gp b\/a=iP b):a.block=b:=by rcases h with rfl|rfl<;>rfl
def jF.nF(L:jF F σ lot n w){d:Nat}{w0:Ð}(t:w.heap.size<=W.heap.size):jF F σ (gX lot i {lot i with d:=d,w:=w0}) n W:=by
 have e:∀k,(gX lot i {lot i with d:=d,w:=w0} k).O=(lot k).O/\(gX lot i {lot i with d:=d,w:=w0} k).Rd=(lot k).Rd/\(gX lot i {lot i with d:=d,w:=w0} k).Oc=(lot k).Oc/\(gX lot i {lot i with d:=d,w:=w0} k).Rc=(lot k).Rc/\(gX lot i {lot i with d:=d,w:=w0} k).q=(lot k).q:=λk=>by
  by_cases h:k=i
  .subst h;rw[iV];exact⟨U,U,U,U,U⟩
  .rw[iC lot _ h];exact⟨U,U,U,U,U⟩
 have s:∀k,lot k=mo (lot k)->gX lot i {lot i with d:=d,w:=w0} k=mo (gX lot i {lot i with d:=d,w:=w0} k):=λk c=>by
  by_cases h:k=i
  .subst h;rw[iV];have a:(lot k).O=λ_=>False:=by rw[c];rfl
   have b:(lot k).Rd=λ_=>False:=by rw[c];rfl
   have f:(lot k).Oc=λ_=>False:=by rw[c];rfl
   have g:(lot k).Rc=λ_=>False:=by rw[c];rfl
   have j:(lot k).q=True:=by rw[c];rfl
   simp only[mo,a,b,f,g,j]
  .rwa[iC lot _ h]
 refine⟨λk c a m=>L.iU k c a (by unfold fj.C at m|-;rwa[(e k).2.2.1,(e k).2.2.2.1]at m),λx f l a m=>by rw[(e 0).2.2.1];exact L.ni x f l a m,λh=>by rw[(e 0).2.2.2.1,(e 0).2.1];exact L.n7 h,λh k f l=>by rw[(e _).2.2.1];exact L.oQ h k f l,λh o=>by rw[(e _).2.2.2.1,(e _).2.1];exact L.mV h o,λj g o r p f=>by rw[(e _).2.2.1];exact L.oR j g o r p f,λj g o=>by rw[(e _).2.2.2.1,(e _).2.1];exact L.oS j g o,λx u=>s _<|L.kq x u,λk c=>by rw[(e k).2.2.2.2];exact L.mG k c,λk f l=>s _<|L.ja k f l,λk c b v=> ?_,λk c j g=>by rw[(e j).2.2.1];exact L.nN k c j g,λk f l j g=>by rw[(e j).2.2.1];exact L.oT k f l j g,λj g r p f k c=>by rw[(e k).2.2.1];exact L.oz j g r p f k c⟩;let⟨y,z,B⟩:=L.kF k c b v;exact⟨Ê y t,z,λj g=>by rw[(e j).1];exact B j g⟩
end
section
variable{F:Ph}{σ σ':gF F}{S:Nat->Jd}{tr c:Nat->gY}{a:Nat->jw}{lot:Nat->fj}{gs gs':Array Æ}{w':Ð}{t u:é}{sl:Option (Nat×Nat)}{sz:Nat}
def mq(b:Nat)(w w':Ð):Prop:=w'=w\/∃x v,(x=gp b\/x=iP b)/\w'=w.setCell x v
def mq.fh(h:mq b w w'):w'.heap.size=w.heap.size:=by
 rcases h with rfl|⟨x,v,_,rfl⟩
 .rfl
 .exact ln
def mq.OM(h:mq b w w')(ok:F.Ok)(a:F.jg b):KL F σ lot gs.size w w':=by
 rcases h with rfl|⟨x,v,c,rfl⟩
 .exact⟨Ç _,λ_ _ _ _=>rfl,λ_ _ _=>rfl,U,U,U⟩
 .exact aiK ok ⟨b,a,c⟩ v
def mq.yc(h:mq b w w')(L:jF F σ lot gs.size w)(ok:F.Ok)(a:F.jg b):s8 (λi=>i<gs.size) σ.Y lot w w':=by
 rcases h with rfl|⟨x,v,i,rfl⟩
 .exact s8.fY _ _ _ _
 .exact aiL L ok ⟨b,a,i⟩ v
def mq.mh(h:mq b w w')(a:Ps F σ)(c:F.jg b)(d:j+2<=σ.sp):w'.heap[σ.dk j]?=w.heap[σ.dk j]?:=by
 rcases h with rfl|⟨x,v,e,rfl⟩
 .rfl
 .exact aiM a ⟨b,c,e⟩ v d
def mq.wU(h:mq b w w')(c:i≠b){G:GS}(a:jc w i G):jc w' i G:=by
 rcases h with rfl|⟨x,v,d,rfl⟩
 .exact a
 .exact a.fX<|by rw[aiN d];exact õ c
def mq.wd(h:mq b w w')(H:iT F)(L:jF F σ lot gs.size w)(c:Ps F σ)(W:Wd F σ w)(d:F.jg b){Ga:GS}{Gg:Nat->GS}(f:(b=F.fL->jc w' F.fL Ga)/\(b≠F.fL->Ga=σ.Ga))(g:∀k,k<=F.m->(b=F.gK k->jc w' (F.gK k) (Gg k))/\(b≠F.gK k->Gg k=σ.Gg k)):Wd F {σ with Ga:=Ga,Gg:=Gg} w':=by
 refine W.OM H L (h.OM H.ok d) (ON c) ?_ (λk a=> ?_) λj e=>h.mh c d e
 .by_cases e:b=F.fL
  .exact f.1 e
  .rw[f.2 e];exact h.wU (õ e) W.fL
 .by_cases e:b=F.gK k
  .exact(g k a).1 e
  .rw[(g k a).2 e];exact h.wU (õ e)<|W.j4 k a
def PI.oV(H:iT F)(p:PI F n zX σ S tr a lot gs w t){c:Æ}{f:Array ė}{J:Jd}{T:gY}(K:jw)(q:gs[i]?=Ä g)(j:Cb σ i)(r:F.jg b)(s:í F.P (i==0) g w=ŭ c w' f)(l:mq b w w')(h:∀e∈f,yb F.toFx e)(m:Î (lot i).d f=(lot i).d) (v:∀x,σ.jb x->i=F.L+x->(∀e∈f,∀b,(Ë e).touch?=Ä b->∃y:đ,b.loc=ā y/\y.block=F.fL)/\D9 (af t i) f) (hF:na F.P (i==0) J T {lot i with w:=w'} c) (z:c.status=Å\/c.status=æ): ∃gs' u,ŝ F.P (ò gs w sl) i=(Ģ<|ò gs' w' sl,u)/\gs'.size=gs.size/\gs'[i]?=Ä c/\(∀k,k≠i->gs'[k]?=gs[k]?.map (Ą F.P g c w'))/\ iI F.P F.B0 σ.Y (fI S i J) (fI tr i T) (fI a i K) (gX lot i {lot i with w:=w'}) gs' w' (t++u)/\TI F.toFx n zX σ.sp σ.ip.rl σ.V σ.pk σ.fs σ.jb σ.ql (t++u)/\jF F σ (gX lot i {lot i with w:=w'}) gs'.size w':=by have C:=p.gw.ie;obtain⟨gs',B,k,D,E,o⟩:=p.gw.nF q s (l.yc p.iD H.ok r) (by rwa[m]) z (aiI p.iD H.ok C h)<|aiH C.rp p.ti j h;rw[m]at o;refine⟨gs',_,B,k,D,E,o,p.ti.jV<|aiJ p.iD p.ps C j h v,?_⟩;rw[k];exact p.iD.nF<|Ö l.fh.symm
def fw.nF(B:fw F σ gs w){f:Æ}(v:gs'[i]?=Ä f)(z:f.status≠Þ)(C:∀k,k≠i->gs'[k]?=gs[k]?.map (Ą F.P g f w'))(D:∀j,j+2<=σ.sp->w'.heap[σ.dk j]?=w.heap[σ.dk j]?) (m:σ'.sp=σ.sp) (E:σ'.dk=σ.dk) (o:∀x,F.L+x≠i->σ'.ed x=σ.ed x) (G:i≠0->σ'.mp=σ.mp) (p:∀j,F.L+1+j≠i->σ'.wp j=σ.wp j) (H:i≠0->σ.mp=.fJ .ml->σ.Ga.sm=0->σ'.Ga.sm=0\/∀x,gs'[0]?=Ä x->x.status≠Þ) (I:∀j r,F.L+1+j≠i->σ.wp j=.fJ r .ml->(σ.Gg<|F.gq<|j+r*F.n).sm=0->(σ'.Gg<|F.gq<|j+r*F.n).sm=0\/∀x,gs'[F.L+1+j]?=Ä x->x.status≠Þ):fw F σ' gs' w':=by
 intro k x b d;by_cases e:k=i
 .subst e;rw[v]at b;obtain rfl:=Ã b;exact absurd d z
 .have t:=b;rw[C k e]at b;obtain⟨y,J,rfl⟩:=Ú.1 b;let⟨_,K⟩:=KM d;rcases B k y J K with⟨M,c,a⟩|⟨j,h,u,c,⟨r,a,l⟩|⟨r,N,s,O,a,l⟩⟩
  .subst M;refine À ⟨U,by rwa[G<|õ e],?_⟩;rcases H (õ e) c a with q|q
   .exact q
   .exact absurd d<|q _ t
  .subst c;refine Á ⟨j,by rwa[m],by rwa[o _ Z],U,À ⟨r,by rwa[p j e],?_⟩⟩;rcases I j r e a l with q|q
   .exact q
   .exact absurd d<|q _ t
  .subst c;exact Á ⟨j,by rwa[m],by rwa[o _ Z],U,Á ⟨r,N,s,O,by rwa[p j e],by rwa[E,D j h]⟩⟩
def HS(a:j+2<=σ.sp):Cb σ (F.L+1+j):=Á ⟨j+1,Z,Z⟩
def OT(b:σ.ed (j+1)=Í):∀x,σ.jb x->F.L+1+j=F.L+x->False:=λx ⟨e,a,_⟩ h2=>by
 have:x=j+1:=Z
 subst this;rw[b]at a;cases a
def KR(ok:F.Ok)(h:i<F.q):F.jg (F.gK<|F.gq i):=Á ⟨F.gq i,ok.gq i h,U⟩
def jI(a:gs[i]?=Ä g):i<gs.size:=(Ò.1 a).1
end
def AS{f f':Nat->Nat}:∀{n:Nat},j<n->(∀i,i≠j->f' i=f i)->Ñ n f'+f j=Ñ n f+f' j
 |n+1,h,hf=>by
  simp only[Ñ];rcases ø j n with iy|a
  .have:=AS (n:=n) iy hf;rw[hf n Z];omega
  .obtain rfl:j=n:=Z
   rw[Į λi b=>hf i Z];omega
def KS{f:Nat->Nat}:∀{n:Nat},(∀i,f i<=1)->Ñ n f<=n
 |0,_=>Ç _
 |n+1,h=>by simp only[Ñ];have:=KS (n:=n) h;have:=h n;omega
def T5{f:Nat->Nat}:∀{n:Nat},j<n->f j<=Ñ n f
 |n+1,h=>by
  simp only[Ñ];rcases ø j n with iy|a
  .have:=T5 (f:=f) (n:=n) iy;omega
  .obtain rfl:j=n:=Z
   omega
def KT{f:Nat->Nat}:∀n:Nat,(Ñ n λi=>f i+D i)=Ñ n f+Ñ n D
 |0=>rfl
 |n+1=>by simp only[Ñ];rw[KT n];omega
def T7{f:Nat->Nat}(c:Nat):∀n:Nat,(Ñ n λi=>c*f i)=c*Ñ n f
 |0=>by simp[Ñ]
 |n+1=>by simp only[Ñ];rw[T7 c n,į]
section
variable{F:Ph}{σ σ':gF F}{S:Nat->Jd}{tr z:Nat->gY}{C:Nat->jw}{o:Nat->fj}{gs gs':Array Æ}{u:é}{sl:Option (Nat×Nat)}
def lF(F:Ph)(b:Nat)(zX:aj->Prop)(σ:gF F)(tr:Nat->gY)(gs:Array Æ)(w:Ð)(qJ:é)(sl:Option (Nat×Nat))(i:Nat):Prop:=
 ∃(σ':gF F) (a:Nat->Jd) (z:Nat->gY) (c:Nat->jw) (d:Nat->fj) (gs':Array Æ) (W:Ð) (u:é),ŝ F.P (ò gs w sl) i=(Ģ<|ò gs' W sl,u)/\gs'.size=gs.size/\(σ'.mp=.gC->σ.mp=.gC)/\PI F b zX σ' a z c d gs' W (qJ++u)/\sx F.N (σ'.mu z gs') (σ.mu tr gs)
def vp(F:Ph)(b:Nat)(zX:aj->Prop)(σ:gF F)(tr:Nat->gY)(gs:Array Æ)(w:Ð)(qJ:é):Prop:=
 ∃(σ':gF F) (a:Nat->Jd) (z:Nat->gY) (c:Nat->jw) (d:Nat->fj),(σ'.mp=.gC->σ.mp=.gC)/\PI F b zX σ' a z c d gs w qJ/\sx F.N (σ'.mu z gs) (σ.mu tr gs)
def aiO(i:Nat):gR gs i<=1:=by unfold gR;split<;>omega
def O_(a:∀k,k<F.N->σ'.fX z k=σ.fX tr k)(b:i<F.N)(g:σ'.ju i<σ.ju i)(c:∀k,k≠i->σ'.ju k=σ.ju k):sx F.N (σ'.mu z gs') (σ.mu tr gs):=by
 refine Á ⟨a,?_⟩;show(Ñ F.N λi=>(F.N+1)*σ'.ju i+gR gs' i)<Ñ F.N λi=>(F.N+1)*σ.ju i+gR gs i;rw[KT,KT,T7,T7];have h:=AS b c;have j:=KS (f:=gR gs') (n:=F.N) aiO;have d:Ñ F.N σ'.ju+1<=Ñ F.N σ.ju:=Z
 have e:(F.N+1)*(Ñ F.N σ'.ju+1)<=(F.N+1)*Ñ F.N σ.ju:=ñ _ d;rw[į]at e;omega
def T8(a:∀k,k<F.N->σ.fX z k=σ.fX tr k)(b:i<F.N)(d:gR gs i=1)(e:gR gs' i=0)(c:∀k,k≠i->gR gs' k=gR gs k):sx F.N (σ.mu z gs') (σ.mu tr gs):=by refine Á ⟨a,?_⟩;show(Ñ F.N λi=>(F.N+1)*σ.ju i+gR gs' i)<Ñ F.N λi=>(F.N+1)*σ.ju i+gR gs i;rw[KT,KT];have:=AS b c;omega
def P_(ok:F.Ok)(j:Nat):σ.ju (F.L+1+j)=match σ.wp j with|.fJ r p=>p.ju F.B (σ.Gg<|F.gq<|j+r*F.n).st|_=>0:=by have:=ok.L1;unfold gF.ju;rw[if_neg Z,if_neg Z,show F.L+1+j-F.L-1=j by omega]<;>cases σ.wp j<;>rfl
def aiP{x:iJ}(a:k≠F.L+1+j):(gM σ j x).ju k=σ.ju k:=by
 unfold gF.ju;split
 .rfl
 .split
  .rfl
  .rw[jM x Z];rfl
def aiQ(ok:F.Ok){r:Nat}{p a:SP}{T:gY}(d:F.L+1+j<F.N)(b:σ.ed (j+1)=Í)(c:σ.wp j=.fJ r (.ox p))(f:tr (F.L+1+j)=.fO)(g:T=.fO)(h:a.rk F.B (σ.Gg<|F.gq<|j+r*F.n).st<p.rk F.B (σ.Gg<|F.gq<|j+r*F.n).st): sx F.N ((gM σ j<|.fJ r (.ox a)).mu (fI tr (F.L+1+j) T) gs') (σ.mu tr gs):=by
 refine O_ (λk _=> ?_) d ?_ λk e=>aiP e
 .by_cases e:k=F.L+1+j
  .subst e;rw[ya ok (σ:=gM σ j _) (show(gM σ j _).ed (j+1)=Í from b),ya ok b,lh,il,c,f,g];rfl
  .refine Ca (λ_=>rfl) (λ_ _=>rfl) (λ_=>rfl) (λ_ _=>rfl) (λi _=> ?_)<|fW tr _ e;rw[jM _ Z]
 .rwa[P_ ok,P_ ok,lh,c]
def PI.HT(H:iT F)(p:PI F b zX σ S tr C o gs w qJ){v:kx}(d:j+2<=σ.sp)(e:σ.ed (j+1)=Í)(f:gs[F.L+1+j]?=Ä g)(h:g.status=Å)(k:tr (F.L+1+j)=.fO)(l:σ.wp j=.fJ i v): ∀w₁,fU (o<|F.L+1+j) (o<|F.L+1+j).w w₁->uq F.P É F.B (F.gK<|F.gq<|j+i*F.n) (F.xR (σ.dk j)<|j+i*F.n) v {o (F.L+1+j)with w:=w₁} g:=by
 let⟨a,c⟩:=p.sW j d e;rw[l]at a c;have m:C (F.L+1+j)=.no\/C (F.L+1+j)=.jx:=by rw[c];cases v<;>first|exact À U|exact Á U
 intro w₁ i;have:=p.gw.HR f h k m w₁ i;rwa[a]at this
def Cd(ok:F.Ok)(j:Nat):(F.L+1+j==0)=É:=by have:=ok.L1;simp
def PI.T9(H:iT F)(p:PI F b zX σ S tr C o gs w qJ){x:iJ}{l:fj}{T:gY}(B:j+2<=σ.sp)(u:σ.ed (j+1)=Í)(f:gs[F.L+1+j]?=Ä g)(v:g.status=Å\/g.status=æ) (D:jR F.B0 (λi=>i<gs.size) σ.Y (gX o (F.L+1+j) l) w qJ) (hF:na F.P É (JW F (σ.dk j) j x) T l g) (E:jF F (gM σ j x) (gX o (F.L+1+j) l) gs.size w) (G:Wd F (gM σ j x) w) (I:Ps F (gM σ j x)) (J:x.rk F<(σ.wp j).rk F) (M:∀r,x≠ .j5 r):vp F b zX σ tr gs w qJ:=by
 have N:=p.gw.rv (K:=kW F (σ.dk j) x) f v D (by rwa[Cd H.ok]);refine⟨gM σ j x,_,_,_,_,λh=>h,.of (p.kB.gM H.ok B u) p.fh N E G I p.ti (λk y m n=> ?_) λc r t a d=> ?_,HQ H.ok (p.sy<|jI f) u J⟩
 .by_cases e:k=F.L+1+j
  .subst e;rw[f]at m;obtain rfl:=Ã m;rcases v with q|q<;>rw[q]at n<;>cases n
  .rcases p.fu k y m n with t|⟨c,q,z,a,d|⟨r,O,s,Q,d,V⟩⟩
   .exact À t
   .exact Á ⟨c,q,z,a,À<|by rwa[jM x Z]⟩
   .exact Á ⟨c,q,z,a,Á ⟨r,O,s,Q,by rwa[jM x Z],V⟩⟩
 .by_cases e:c=j
  .subst e;rw[lh]at a;exact absurd a<|M r
  .rw[jM x e]at a;exact p.kn c r t a d
def PI.aiR(H:iT F)(p:PI F b zX σ S tr C o gs w qJ){r:Nat}(e:j+2<=σ.sp)(l:σ.ed (j+1)=Í)(m:gs[F.L+1+j]?=Ä g)(n:g.status=Å)(s:tr (F.L+1+j)=.fO)(c:σ.wp j=.fJ r .jy):vp F b zX σ tr gs w qJ:=by
 have t:=p.HT H e l m n s c;have f:=jI m;let⟨k,B,u,v⟩:=t w<|p.gw.ie.gy _ f;have y:=p.ps.wr j r e<|À ⟨_,c⟩;have z:jR F.B0 (λi=>i<gs.size) σ.Y (gX o (F.L+1+j) {o (F.L+1+j)with w:=w}) w qJ:=p.gw.ie.rv f (λ_ q=>q) (λa q=>À<|Á q) (λ_ q=>q) (λa q=>À<|Á q) U U U (p.gw.ie.lD _ f)<|p.gw.ie.lE _ f;refine p.T9 H (x:=.fJ r (.ox (.gN k))) (T:=.fO) e l m (À n) z (λh a=>⟨u,Oq v a⟩) ?_ (p.wd.gM (by rw[c];rfl)<|by rw[c];rfl) (p.ps.gM e l (λk=>by rw[c];rfl) (λa h=> ?_) (λa h=> ?_) (λa h=>by cases h) λa h=>by cases h) (by rw[c];simp only[iJ.rk,kx.rk];omega) λa h=>by cases h
 .have:=(p.iD.gM (x:=.fJ r (.ox (.gN k)))<|by rw[c];rfl).nF (i:=F.L+1+j) (d:=(o<|F.L+1+j).d) (w0:=w)<|Ç _;exact this
 .rcases h with⟨_,h⟩|h|h<;>cases h;exact y
 .rcases h with h|h|h<;>cases h
def P'{y z:Int->Jd}{p:SP}{l:fj}{G:GS}(h:Hw P yQ (gp b) i y z p l g)(j:jc w b G):g.status=Å/\ ((∃f a e,í P yQ g w=ŭ a w e/\(e=#[]\/e=#[mg<|gp b])/\Hw P yQ (gp b) i y z f l a/\f.rk i G.st<p.rk i G.st)\/ (∃a,í P yQ g w=ŭ a w #[mg<|gp b]/\(∀c q,G=.cl c q->c=0)/\fA P yQ (y G.st) l a)\/ (∃a c q,G=.cl c q/\0<c/\í P yQ g w=ŭ a (w.setCell (gp b)<|ê Ô<|Ô.wrap<|G.st+1) #[mg<|gp b,py<|gp b]/\fA P yQ (z G.st) l a)):=by
 let⟨T,C,x⟩:=h;let⟨J,d⟩:=x p g C;refine⟨J,?_⟩;have D:∀u,T u g->(∀n,u≠ .gN (n+1))->(∀v n,u≠ .ld v (n+1))->u.rk i G.st<=p.rk i G.st->((∃f a e,í P yQ g w=ŭ a w e/\(e=#[]\/e=#[mg<|gp b])/\Hw P yQ (gp b) i y z f l a/\f.rk i G.st<p.rk i G.st)\/ (∃a,í P yQ g w=ŭ a w #[mg<|gp b]/\(∀c q,G=.cl c q->c=0)/\fA P yQ (y G.st) l a)\/ (∃a c q,G=.cl c q/\0<c/\í P yQ g w=ŭ a (w.setCell (gp b)<|ê Ô<|Ô.wrap<|G.st+1) #[mg<|gp b,py<|gp b]/\fA P yQ (z G.st) l a)):=by
  intro u C K L F;have d:=(x u g C).2;match u,d with
  |.gN (n+1),_=>exact absurd U<|K n
  |.ld v (n+1),_=>exact absurd U<|L v n
  |.gN 0,d=>
   let⟨a,o,k⟩:=d G.st;by_cases f:0<=G.st/\G.st<gO
   .rw[if_pos f]at k;have e:G.st<1000000:=by
     have t:=j.ok;cases G with
     |cl c q=>
      let⟨H,I,m⟩:=t;simp only[GS.st,gO]at f|-;have:c=0:=Z
      have:=m this;omega
     |kS q=>simp only[GS.ok]at t;simp only[GS.st];omega
     |iQ r s=>simp only[GS.st];omega
    exact Á<|À ⟨a,o w j.st,j.aiq.1 f,k e⟩
   .rw[if_neg f]at k;have e:gO<=G.st/\G.st<gO*2147483648/\G.st%gO<1000000:=by
     have t:=j.ok;cases G with
     |cl c q=>
      let⟨H,I,_⟩:=t;simp only[GS.st,gO]at f|-;omega
     |kS q=>simp only[GS.ok]at t;simp only[GS.st,gO]at f;omega
     |iQ r s=>simp only[GS.st,gO]at f;omega
    let⟨m,M,E⟩:=k e;exact À ⟨.ld G.st m,a,_,o w j.st,Á U,⟨T,E,x⟩,Ê (by simp only[SP.rk,if_true];omega) F⟩
  |.ld v 0,⟨f,⟨a,o,k⟩,g'',E,n,hn,h4⟩=>
   by_cases e:G.st=v
   .subst e;have:∃c q,G=.cl c q/\0<c:=by
     have t:=j.ok;cases G with
     |cl c q=>
      refine⟨c,q,U,?_⟩;let⟨H,I,_⟩:=t;simp only[GS.st,gO]at f;omega
     |kS q=>simp only[GS.ok]at t;simp only[GS.st,gO]at f;omega
     |iQ r s=>simp only[GS.st,gO]at f;omega
    let⟨c,q,r,s⟩:=this;exact Á<|Á ⟨a,c,q,r,s,o w j.st j.vj,k⟩
   .exact À ⟨.gN n,g'',_,E w G.st e j.st j.vj,Á U,⟨T,h4,x⟩,Ê (by simp only[SP.rk,if_neg e];omega) F⟩
 match p,d with
 |.gN (n+1),⟨hn,d⟩=>
  rcases d with d|d
  .exact D (.gN 0) d (λn q=>by cases q) (λv n q=>by cases q)<|by simp only[SP.rk];omega
  .let⟨a,o,k⟩:=d w;exact À ⟨.gN n,a,#[],o,À U,⟨T,k,x⟩,by simp only[SP.rk];omega⟩
 |.gN 0,_=>exact D (.gN 0) C (λn q=>by cases q) (λv n q=>by cases q)<|Ç _
 |.ld v (m+1),⟨_,M,d⟩=>
  rcases d with d|d
  .exact D (.ld v 0) d (λn q=>by cases q) (λv n q=>by cases q)<|by simp only[SP.rk];split<;>omega
  .let⟨a,o,k⟩:=d w;exact À ⟨.ld v m,a,#[],o,À U,⟨T,k,x⟩,by simp only[SP.rk];split<;>omega⟩
 |.ld v 0,_=>exact D (.ld v 0) C (λn q=>by cases q) (λv n q=>by cases q)<|Ç _
def PI.aiS(H:iT F)(p:PI F b zX σ S tr C o gs w qJ){r:Nat}{v:SP}(G:j+2<=σ.sp)(z:σ.ed (j+1)=Í)(hi:gs[F.L+1+j]?=Ä g)(jE:g.status=Å)(ht:tr (F.L+1+j)=.fO)(s:σ.wp j=.fJ r (.ox v)):lF F b zX σ tr gs w qJ sl (F.L+1+j):=by
 have hJ:=p.HT H G z hi jE ht s;have iy:=jI hi;have oW:=p.ps.wr j r G<|À ⟨_,s⟩;have N:=KR H.ok oW;have X:=H.ok.gq _ oW;have hG:=p.wd.j4 _ X;obtain⟨hd,rm⟩:=hJ w<|p.gw.ie.gy _ iy;have Ce:j<F.n:=by have:=HP p.ps;omega
 have ns:=OT (σ:=σ) z;have mw:=Cd H.ok j;have yd:=p.sy iy;have hdl:=hd;obtain⟨_,rm⟩:=P' rm hG;rcases rm with⟨p',g',es,h1,I,h3,h4⟩|⟨g',h1,I,h3⟩|⟨g',c,K,Q,ye,h1,I⟩
 .have hes:∀e∈es,yb F.toFx e:=by
   rcases I with rfl|rfl
   .intro e z;simp at z
   .exact Cc N
  have hde:Î (o<|F.L+1+j).d es=(o<|F.L+1+j).d:=by rcases I with rfl|rfl<;>rfl
  obtain⟨T',Ua,Eb⟩:=h3;obtain⟨gs',u,q1,V,q3,q4,q5,q6,q7⟩:=p.oV (J:=JW F (σ.dk j) j<|.fJ r (.ox p')) (T:=.fO) H (kW F (σ.dk j)<|.fJ r (.ox p')) hi (HS G) N (by rwa[mw]) (À U) hes hde (λx hs e=>(ns x hs e).elim) (by rw[mw];exact λw₁ rC=>⟨hd,Oq ⟨T',Ua,Eb⟩ rC⟩)<|À (Eb _ _ Ua).1;refine⟨gM σ j<|.fJ r (.ox p'),_,_,_,_,gs',w,u,q1,V,λh=>h,.of (p.kB.gM H.ok G z) (V.trans p.fh) q5 (q7.gM<|by rw[s];rfl) (p.wd.gM (by rw[s];rfl)<|by rw[s];rfl) (p.ps.gM G z (λk=>by rw[s];rfl) (λm h=> ?_) (λm h=> ?_) (λm h=>by cases h) λm h=>by cases h) q6 ?_ λt m O E Y=> ?_,aiQ H.ok yd z s ht rfl h4⟩
  .rcases h with⟨_,h⟩|h|h<;>cases h;exact oW
  .rcases h with h|h|h<;>cases h
  .exact p.fu.nF (σ':=gM σ j _) q3 (by rw[(Eb _ _ Ua).1];simp) q4 (λ_ _=>rfl) U U (λ_ _=>rfl) (λ_=>rfl) (λt e=>jM _ Z) (λ_ _ h=>À h) λ_ _ _ _ h=>À h
  .have e:t≠j:=λe=>by subst e;rw[lh]at E;cases E
   rw[jM _ e]at E;exact(p.kn t m O E Y).app u
 .obtain⟨T,hT⟩:=ku h3;have oa:=nO (λl g h=>À h.2.1) h3;obtain⟨gs',u,q1,V,q3,q4,q5,q6,q7⟩:=p.oV H (kW F (σ.dk j)<|.fJ r .nh) hi (HS G) N (by rwa[mw]) (À U) (Cc N) U (λx hs e=>(ns x hs e).elim) (by rwa[mw]) oa;refine⟨gM σ j<|.fJ r .nh,_,_,_,_,gs',w,u,q1,V,λh=>h,.of (p.kB.gM H.ok G z) (V.trans p.fh) q5 (q7.gM<|by rw[s];rfl) (p.wd.gM (by rw[s];rfl)<|by rw[s];rfl) (p.ps.gM G z (λk=>by rw[s];rfl) (λm h=> ?_) (λm h=> ?_) (λm h=>by cases h) λm h=>by cases h) q6 ?_ λt m O E Y=> ?_,HQ H.ok yd z<|by rw[s];simp only[iJ.rk,kx.rk];omega⟩
  .rcases h with⟨_,h⟩|h|h<;>cases h;exact oW
  .have:m=r:=by rcases h with h|h|h<;>cases h;rfl
   subst this;refine ĉ λEc=> ?_;have:=I _ _<|p.ps.rA _ Z X Ec;omega
  .exact p.fu.nF (σ':=gM σ j _) q3 (by rcases oa with q|q<;>rw[q]<;>simp) q4 (λ_ _=>rfl) U U (λ_ _=>rfl) (λ_=>rfl) (λt e=>jM _ Z) (λ_ _ h=>À h) λ_ _ _ _ h=>À h
  .have e:t≠j:=λe=>by subst e;rw[lh]at E;cases E
   rw[jM _ e]at E;exact(p.kn t m O E Y).app u
 .have hcd:σ.ip.od<F.gq (j+r*F.n):=by
   refine ó λhle=> ?_;rcases p.ps.qp _ X hle with⟨W,_,q,_⟩|⟨_,_,_,_,q,_⟩|⟨_,⟨q,_⟩|⟨_,q,_⟩⟩<;>(rw[Q]at q;cases q);omega
  have vq:1<=F.gq (j+r*F.n):=Z
  have Ed:=p.ps.rA _ vq X hcd;have e0:=Q.symm.trans Ed;injection e0 with e1 e2;subst e1;have Q_:K<=F.n:=by rw[e2];exact KS λi=>by cases σ.wp i<;>simp only[iJ.iq]<;>first|omega|(split<;>first|omega|(rename_i q _;cases q<;>simp[kx.vo]))
  have Ee:=H.ok.gP;have Cf:=(Q▸hG:jc w (F.gK<|F.gq<|j+r*F.n) (.cl 1 K)).F_ Z Z;obtain⟨hv,Cf⟩:=Cf;have oa:=Q▸h1;obtain⟨x,HU,Ef,Q',OU,hx4⟩:∃(x:kx) (HU:Nat->Option Nat),(x=.wr\/x=.ml)/\fA F.P É (uq F.P É F.B (F.gK<|F.gq<|j+r*F.n) (F.xR (σ.dk j)<|j+r*F.n) x) {o (F.L+1+j)with w:=w} g'/\((∀M,M≠F.gq (j+r*F.n)->HU M=σ.fs M)/\∀y,σ.fs (F.gq<|j+r*F.n)=Ä y->HU (F.gq<|j+r*F.n)=Ä y)/\(x=.wr->HU (F.gq<|j+r*F.n)=Ä j):=by
   by_cases hz:K=0
   .subst hz;refine⟨.wr,fI σ.fs (F.gq<|j+r*F.n)<|Ä j,À U,?_,⟨λM xM=>fW _ _ xM,λy hy=> ?_⟩,λ_=>il _ _ _⟩
    .have:σ.Gg (F.gq<|j+r*F.n)=.cl 1 0:=Q;rw[this]at I;have e:(GS.cl 1 0).st%gO=0:=A
     simp only[e,if_true]at I;exact I
    .rw[p.ps.uw _ X Q]at hy;cases hy
   .refine⟨.ml,σ.fs,Á U,?_,⟨λ_ _=>rfl,λ_ h=>h⟩,λh=>by cases h⟩;have:σ.Gg (F.gq<|j+r*F.n)=.cl 1 K:=Q;rw[this]at I;have e:¬(GS.cl 1 K).st%gO=0:=by simp only[GS.st,gO];omega
    simp only[e,if_false]at I;exact I
  have hxw:x.vo=1:=by rcases Ef with rfl|rfl<;>rfl
  have OV:=Q'.fZ (w₁:=w.setCell (gp<|F.gK<|F.gq<|j+r*F.n)<|ê Ô<|Ô.wrap<|(GS.cl 1 K).st+1) (by have D:=(mq.yc (Á ⟨gp<|F.gK<|F.gq<|j+r*F.n,_,À U,U⟩:mq (F.gK<|F.gq<|j+r*F.n) w (w.setCell (gp<|F.gK<|F.gq<|j+r*F.n)<|ê Ô<|Ô.wrap<|(GS.cl 1 K).st+1)) p.iD H.ok N);exact⟨Ö D.fh.symm,λf lV=>D.lr f<|p.gw.ie.fX _ iy f lV,λa ha=>D.fg _ iy a ha,λa ha=>D.fC _ iy a ha,λa _=>D.ia a⟩);obtain⟨T,hT⟩:=ku OV;have R_:=nO (λl g h=>by rcases Ef with rfl|rfl<;>exact À h.2.1) Q';have Ub:mq (F.gK<|F.gq<|j+r*F.n) w (w.setCell (gp<|F.gK<|F.gq<|j+r*F.n)<|ê Ô<|Ô.wrap<|(GS.cl 1 K).st+1):=Á ⟨_,_,À U,U⟩;obtain⟨gs',u,q1,V,q3,q4,q5,q6,q7⟩:=p.oV H (kW F (σ.dk j)<|.fJ r x) hi (HS G) N (by rwa[mw]) Ub (Ea N) U (λx hs e=>(ns x hs e).elim) (by rwa[mw]) R_;have wW:=AS (f':=λi=>((gM σ j<|.fJ r x).wp i).iq F i<|F.gq<|j+r*F.n) Ce (λi nH=>by rw[jM _ nH]);simp only[lh,s]at wW;have yf:iJ.iq F j (F.gq<|j+r*F.n) (.fJ r x)=1:=by simp only[iJ.iq,if_true,hxw]
  have wY:iJ.iq F j (F.gq<|j+r*F.n) (.fJ r (.ox v))=0:=by simp only[iJ.iq,if_true];rfl
  rw[yf,wY]at wW;refine⟨zB σ j (.fJ r x) (F.gq<|j+r*F.n) (.cl 1 (K+1)) HU,_,_,_,_,gs',_,u,q1,V,λh=>h,.of ?_ (V.trans p.fh) q5 ?_ ?_ (p.ps.M' G z (λM xM=> ?_) (λ_ _=> ?_) (λh=>by omega) (λ⟨a,f,h⟩=> ?_) (λh=>by injection h with _ h;omega) OU.1 OU.2 (λm h=> ?_) (λm h=> ?_) (λm h=> ?_) λm h=> ?_) (q6.ait λM y hy=> ?_) ?_ λt m O E Y=> ?_,?_⟩
  .have:=p.kB.gM (x:=.fJ r x) (T:=T) H.ok G z;exact⟨this.s0,this.sI,this.sW,this.sE,this.sO⟩
  .have:=q7.gM (x:=.fJ r x) (by rw[s];rfl);exact⟨this.iU,this.ni,this.n7,this.oQ,this.mV,this.oR,this.oS,this.kq,this.mG,this.ja,this.kF,this.nN,this.oT,this.oz⟩
  .have W1:=Ub.wd H p.iD p.ps p.wd N (Gg:=fI σ.Gg (F.gq<|j+r*F.n)<|.cl 1 (K+1)) ⟨λe=>absurd e<|H.ok.AO _ X,λ_=>rfl⟩ λM xM=>⟨λe=> ?_,λe=>fW _ _ λe'=>e<|by rw[e']⟩
   .have W2:=W1.gM (x:=.fJ r x) (by show _=(σ.wp j).iG;rw[s];rfl) (by show _=(σ.wp j).jL;rw[s];rfl);exact⟨W2.fL,W2.j4,W2.kU,W2.nj,W2.qm,W2.pQ⟩
   .have e':=H.ok.j4 _ _ X xM e;rwa[<-e',il]
  .rw[s];simp only[iJ.iq,if_neg<|õ xM]
  .congr 1;rw[<-e2]at wW;omega
  .rw[Q]at h;cases h
  .rcases h with⟨_,h⟩|h|h<;>cases h;exact oW
  .rcases h with h|h|h<;>cases h<;>(rcases Ef with h|h<;>cases h)
  .cases h;rcases Ef with h|h<;>cases h
  .cases h;exact hx4 U
  .by_cases e:M=F.gq (j+r*F.n)
   .subst e;exact OU.2 y hy
   .show HU M=Ä y;rwa[OU.1 M e]
  .refine p.fu.nF (σ':=zB σ j _ _ _ _) q3 (by rcases R_ with q|q<;>rw[q]<;>simp) q4 (λt rB=>Ub.mh p.ps N rB) U U (λ_ _=>rfl) (λ_=>rfl) (λt e=>jM _ Z) (λ_ _ h=>À h) λt m _ _ h=>À ?_;by_cases e:F.gq (t+m*F.n)=F.gq (j+r*F.n)
   .show(fI σ.Gg _ _ _).sm=0;rw[e,il];rfl
   .show(fI σ.Gg _ _ _).sm=0;rwa[fW _ _ e]
  .have e:t≠j:=λe=>by
    subst e;have:(gM σ t<|.fJ r x).wp t=.j5 m:=E;rw[lh]at this;cases this
   have Eg:(gM σ j<|.fJ r x).wp t=.j5 m:=E;rw[jM _ e]at Eg;exact(p.kn t m O Eg Y).app u
  .have:=HQ (σ:=σ) (tr:=tr) (gs:=gs) (gs':=gs') (x:=.fJ r x) (T:=T) H.ok yd z (by rw[s];rcases Ef with rfl|rfl<;>simp only[iJ.rk,kx.rk]<;>omega);rcases this with⟨i,O,E,Y⟩|⟨O,_⟩
   .exact À ⟨i,O,E,Y⟩
   .exfalso;have:=O _ yd;change(gM σ j<|.fJ r x).fX (fI tr (F.L+1+j) T) (F.L+1+j)=σ.fX tr (F.L+1+j)at this;rw[ya H.ok (σ:=gM σ j _) (show(gM σ j _).ed (j+1)=Í from z),ya H.ok z,lh,s]at this;injection this with e _;rcases Ef with rfl|rfl<;>simp only[iJ.rk,kx.rk]at e<;>omega
end
section
variable{F:Ph}{σ σ':gF F}{S:Nat->Jd}{o B:Nat->gY}{s:Nat->jw}{c:Nat->fj}{f:Array Æ}{u:é}{sl:Option (Nat×Nat)}
def PI.Uc(H:iT F)(p:PI F j zX σ S o s c E w qJ){x:iJ}{a:Æ}{T:gY}(z:i+2<=σ.sp)(l:σ.ed (i+1)=Í)(B:E[F.L+1+i]?=Ä g)(C:ŝ F.P (ò E w sl) (F.L+1+i)=(Ģ<|ò f w sl,u))(m:f.size=E.size)(D:f[F.L+1+i]?=Ä a)(G:a.status=Å\/a.status=æ)(I:∀k,k≠F.L+1+i->f[k]?=E[k]?.map (Ą F.P g a w)) (J:iI F.P F.B0 σ.Y (fI S (F.L+1+i)<|JW F (σ.dk i) i x) (fI o (F.L+1+i) T) (fI s (F.L+1+i)<|kW F (σ.dk i) x) (gX c (F.L+1+i) {c (F.L+1+i)with w:=w}) f w (qJ++u)) (K:TI F.toFx j zX σ.sp σ.ip.rl σ.V σ.pk σ.fs σ.jb σ.ql (qJ++u)) (M:jF F σ (gX c (F.L+1+i) {c (F.L+1+i)with w:=w}) f.size w) (t:x.iG=(σ.wp i).iG) (N:x.jL=(σ.wp i).jL) (O:Ps F (gM σ i x)) (Q:x.rk F<(σ.wp i).rk F) (W:∀r,x=.j5 r->1<=F.gq (i+r*F.n)->η (qJ++u) (F.L+1+i) (σ.pk<|F.gq<|i+r*F.n)):lF F j zX σ o E w qJ sl (F.L+1+i):=by
 refine⟨gM σ i x,_,_,_,_,f,w,u,C,m,λh=>h,.of (p.kB.gM H.ok z l) (m.trans p.fh) J (M.gM t) (p.wd.gM t N) O K ?_ λd v X b y=> ?_,HQ H.ok (p.sy<|jI B) l Q⟩
 .exact p.fu.nF (σ':=gM σ i _) D (by rcases G with q|q<;>rw[q]<;>simp) I (λ_ _=>rfl) U U (λ_ _=>rfl) (λ_=>rfl) (λd e=>jM _ Z) (λ_ _ h=>À h) λ_ _ _ _ h=>À h
 .by_cases e:d=i
  .subst e;rw[lh]at b;exact W v b y
  .rw[jM _ e]at b;exact(p.kn d v X b y).app u
def Ud{r:Nat}{v:kx}(h:v.vo=0):iJ.iq F j k (.fJ r v)=0:=by simp only[iJ.iq,h];split<;>rfl
def AT{a:Ć}(h:a∈#[wQ]):a=wQ:=by simpa using h
def aiT{i:Nat}{fn:Ĵ}{pos:String}{m:κ}:∃y:Ć,Ý i fn pos #[kK m]=#[y]/\y.g=i/\y.act=Ğ m:=⟨{g:=i,fn,pos,act:=Ğ m},by simp[Ý,kK,Ë],U,U⟩
def PI.Eh(H:iT F)(p:PI F j zX σ S o s c E w qJ){a:Æ}{m:κ}{J:Jd}{T:gY}(K:jw)(v:E[i]?=Ä g)(x:í F.P (i==0) g w=ŭ a w #[kK m])(z:m≠ú)(B:m≠ð) (C:∀y:Ć,y.act=Ğ m->(∀b,y.act.touch?=Ä b->KC (λi=>i<E.size) σ.Y c b)/\y.act.low w.heap.size) (D:∀y:Ć,y.g=i->y.act=Ğ m->∀G,¬Race G (qJ++#[y])) (hF:na F.P (i==0) J T {c i with w:=w} a) (I:a.status=Å\/a.status=æ): ∃f y,y.g=i/\y.act=Ğ m/\ŝ F.P (ò E w sl) i=(Ģ<|ò f w sl,#[y])/\f.size=E.size/\f[i]?=Ä a/\(∀k,k≠i->f[k]?=E[k]?.map (Ą F.P g a w))/\ iI F.P F.B0 σ.Y (fI S i J) (fI o i T) (fI s i K) (gX c i {c i with w:=w}) f w (qJ++#[y])/\jF F σ (gX c i {c i with w:=w}) f.size w:=by
 obtain⟨y,l,n,h⟩:=aiT;have r:Î (c i).d #[kK m]=(c i).d:=ņ (λe k=>by
  have:e=kK m:=by simpa using k
  subst this;exact⟨λq=>z (by injection q),λq=>B (by injection q)⟩) _
 have L:∀e∈#[kK m],Ë e=y.act:=λe k=>by
  have:e=kK m:=by simpa using k
  subst this;rw[h];rfl
 obtain⟨f,q,t,M,N,u⟩:=p.gw.nF v x (s8.fY _ _ _ _) (by rwa[r]) I (λe k=>by rw[L e k];exact C y h) (by rw[l];exact D y n h);rw[r,l]at u;rw[l]at q;refine⟨f,y,n,h,q,t,M,N,u,?_⟩;rw[t];exact p.iD.nF<|Ç _
def Ue(H:iT F)(p:PI F j zX σ S o s c E w qJ)(hb:F.jg b)(B:Cb σ i){m:κ}(M:m=.read (iP b)\/m=ς (iP b))(Q:F.TU σ.fs (iP b) (Ä i))(T:∀x,σ.jb x->i≠F.L+x): (∀y:Ć,y.act=Ğ m->(∀b,y.act.touch?=Ä b->KC (λi=>i<E.size) σ.Y c b)/\y.act.low w.heap.size)/\(∀y:Ć,y.g=i->y.act=Ğ m->∀N,¬Race N (qJ++#[y]))/\∀y:Ć,y.g=i->y.act=Ğ m->TI F.toFx j zX σ.sp σ.ip.rl σ.V σ.pk σ.fs σ.jb σ.ql (qJ++#[y]):=by
 have C:=p.gw.ie;have D:∀y:Ć,y.act=Ğ m->∀a,y.act.touch?=Ä a->a.loc=ā (iP b)/\a.kind=.said:=λy t a h=>by rw[t]at h;rcases M with rfl|rfl<;>simp[Đ]at h<;>subst h<;>exact⟨U,U⟩
 have u:=(AQ hb).2;refine⟨λy t=>⟨λa h=>À ⟨_,(D y t a h).1,AR u,λk B=>p.iD.HN H.ok u k B⟩,?_⟩,λy G t=>λN=> ?_,λy G t=> ?_⟩
 .have:=C.kE _<|AR (σ:=σ) u;rw[t];rcases M with rfl|rfl<;>exact this
 .refine noRace_append (C.rp N) (λd f=>by rw[AT f,G]) λq a h d f z hz W=> ?_;have:d=y:=by simpa using f
  subst this;let⟨l,O⟩:=D d t z hz;rcases p.ti.wU q a _ h (W.1.trans l) u with⟨I,n⟩|r|⟨_,r⟩
  .exact N_ p.ti B I n
  .let⟨_,_,_,v⟩:=W;rw[r,O]at v;rcases v with v|v|⟨_,v,_⟩<;>cases v
  .have e:qJ.g? q=Ä i:=by
    rcases Q with⟨J,K⟩|⟨k,v,J,K,s3,s4⟩
    .rcases r with⟨_,n⟩|⟨k,v,P,n,_,_⟩
     .rw[n,K]
     .rw[J]at n;exact absurd (by injection n with n _ _;exact n.symm)<|H.ok.AO k P
    .rcases r with⟨I,_⟩|⟨k',j',P,n,X,r4⟩
     .rw[K]at I;exact absurd (by injection I)<|H.ok.AO k J
     .rw[K]at n;have:k=k':=H.ok.j4 _ _ J P (by injection n);subst this;rw[s3]at X;obtain rfl:=Ã X;rw[r4,s4]
   let⟨K,v,J⟩:=Ú.1 e;have:=knows_own v;rwa[J]at this
 .refine p.ti.jV ⟨λd f a _=>by rw[AT f,G],B.imp id À,λd f a x h n J=> ?_,λd f a z h P n k W I=> ?_,λd f X _ e=> ?_,λx J q=>⟨λr K=>K.appOther (λd f=>by rw[AT f,G])<|T x q,λe=>absurd e.symm<|T x q⟩⟩
  .have:d=y:=by simpa using f
   subst this;let⟨l,O⟩:=D d t a h;rw[n]at l;injection l with l;subst l;exact Á ⟨O,Q⟩
  .have:d=y:=by simpa using f
   subst this;let⟨l,_⟩:=D d t a h;rw[n]at l;injection l with l;subst l;exact⟨λv=>(p.iD.kF k (Ù I<|OO p.ps) _ v).2.1<|AR u,λe=>by simp[iP,ki]at e⟩
  .have:d=y:=by simpa using f
   subst this;rw[t]at e;rcases M with rfl|rfl<;>simp at e
def PI.aiU(H:iT F)(p:PI F j zX σ S o s c E w qJ){r:Nat}(b:i+2<=σ.sp)(d:σ.ed (i+1)=Í)(q:E[F.L+1+i]?=Ä g)(z:g.status=Å)(B:o (F.L+1+i)=.fO)(a:σ.wp i=.fJ r .wr):lF F j zX σ o E w qJ sl (F.L+1+i):=by
 have C:=jI q;let⟨hd,_,g',D,u⟩:=p.HT H b d q z B a w<|p.gw.ie.gy _ C;have t:=p.ps.wr i r b<|À ⟨_,a⟩;have G:=KR H.ok t;have I:=H.ok.gq _ t;have v:=Cd H.ok i;have K:=OT (σ:=σ) d;let⟨M,N,O⟩:=Ue H p G (HS b) (m:=ς<|iP<|F.gK<|F.gq<|i+r*F.n) (Á U) (Á ⟨_,i,I,U,p.ps.xY i r b a,U⟩) λx h e=>K x h e;let⟨T,P⟩:=ku u;have x:=nO (λl g h=>À h.2.1) u;obtain⟨f,y,l,Q,V,W,X,Y,q5,q7⟩:=p.Eh (J:=JW F (σ.dk i) i<|.fJ r .ml) H (kW F (σ.dk i)<|.fJ r .ml) q (by rw[v];exact D w) fB fB M N (by rwa[v]) x;refine p.Uc H b d q V W X x Y q5 (O y l Q) q7 (by rw[a];rfl) (by rw[a];rfl) (p.ps.gM b d (λk=>by rw[a];rfl) (λe h=> ?_) (λe h=> ?_) (λe h=>by cases h) λe h=>by cases h) (by rw[a];simp only[iJ.rk,kx.rk];omega) λe h=>by cases h
 .rcases h with⟨_,h⟩|h|h<;>cases h;exact t
 .rcases h with h|h|h<;>cases h
def PI.aiV(H:iT F)(p:PI F j zX σ S o s c E w qJ){r:Nat}(m:i+2<=σ.sp)(n:σ.ed (i+1)=Í)(q:E[F.L+1+i]?=Ä g)(D:g.status=Å)(G:o (F.L+1+i)=.fO)(d:σ.wp i=.fJ r .ig):lF F j zX σ o E w qJ sl (F.L+1+i):=by
 have I:=jI q;let⟨hd,_,K⟩:=p.HT H m n q D G d w<|p.gw.ie.gy _ I;have t:=p.ps.wr i r m<|À ⟨_,d⟩;have y:=KR H.ok t;have M:=H.ok.gq _ t;have z:=Cd H.ok i;let⟨a,b,N⟩:=p.ps.xW i r m d;have B:=p.wd.j4 _ M;rw[N]at B;let⟨g',O,v⟩:=K 0;simp only[if_true]at v;let⟨T,P⟩:=ku v;have C:=nO (λl g h=>À h.2.1) v;obtain⟨f,u,l,Q,V,W,X,Y,q7⟩:=p.oV (J:=JW F (σ.dk i) i<|.fJ r .nh) H (kW F (σ.dk i)<|.fJ r .nh) q (HS m) y (by rw[z];exact O w B.st) (À U) (Cc y) U (λx k e=>(OT n x k e).elim) (by rwa[z]) C;refine p.Uc H m n q l Q V C W X Y q7 (by rw[d];rfl) (by rw[d];rfl) (p.ps.gM m n (λk=>by rw[d];rfl) (λe h=> ?_) (λe h=> ?_) (λe h=>by cases h) λe h=>by cases h) (by rw[d];simp only[iJ.rk,kx.rk];omega) λe h=>by cases h
 .rcases h with⟨_,h⟩|h|h<;>cases h;exact t
 .rcases h with h|h|h<;>cases h;exact p.ps.tj i r m<|À d
def PI.aiW(H:iT F)(p:PI F j zX σ S o s c E w qJ){r:Nat}(d:i+2<=σ.sp)(t:σ.ed (i+1)=Í)(q:E[F.L+1+i]?=Ä g)(K:g.status=Å)(M:o (F.L+1+i)=.fO)(a:σ.wp i=.fJ r .nh):lF F j zX σ o E w qJ sl (F.L+1+i):=by
 have B:=jI q;let⟨N,_,g',O,C⟩:=p.HT H d t q K M a w<|p.gw.ie.gy _ B;have u:=p.ps.wr i r d<|À ⟨_,a⟩;have D:=KR H.ok u;have Uf:=H.ok.gq _ u;have G:=Cd H.ok i;have P:=(p.gw.ie.mT _ B).trans N;have v:∀y:Ć,y.act=Ğ (ľ<|gp<|F.gK<|F.gq<|i+r*F.n)->y.act.touch?=Í:=λy m=>by rw[m];rfl
 let⟨T,Q⟩:=ku C;have I:=nO (λl g h=>À<|H.OL _ _ _ _ h) C;obtain⟨f,y,V,x,W,X,Y,q4,q5,q7⟩:=p.Eh (J:=JW F (σ.dk i) i<|.j5 r) H (kW F (σ.dk i)<|.j5 r) q (by rw[G];exact O w) fB fB (λy m=>⟨λz b=>(by rw[v y m]at b;cases b),by rw[m];exact p.gw.ie.kE _<|À D⟩) (λy _ m=>DZ p.gw.ie.rp λk l=>by rw[AT l];exact v y m) (by rwa[G]) I;have z:=p.ti.jV (B7 (λk l=>by rw[AT l];exact v y x) (λk l b _ e=>by
  have:k=y:=by simpa using l
  rw[this,x]at e;simp at e))
 refine p.Uc H d t q W X Y I q4 q5 z q7 (by rw[a];rfl) (by rw[a];rfl) (p.ps.gM d t (λk=>by rw[a,Ud U];rfl) (λb h=> ?_) (λb h=> ?_) (λb h=>by cases h) λb h=>by cases h) (by rw[a];simp only[iJ.rk,kx.rk];omega) λb h k=> ?_
 .rcases h with⟨_,h⟩|h|h<;>cases h;exact u
 .rcases h with h|h|h<;>cases h;exact p.ps.tj i r d<|Á<|À a
 .cases h;have l:=p.ps.tj i r d<|Á<|À a;let⟨b,e,z3⟩:=p.ti.gy _ k<|Ù l<|T3 _;exact H_ b e z3 (p.ti.vl _ D) V x P
end
section
variable{F:Ph}{σ σ':gF F}{S:Nat->Jd}{tr o:Nat->gY}{f:Nat->jw}{d:Nat->fj}{gs gs':Array Æ}{u:é}{sl:Option (Nat×Nat)}
def R'{G:GS}(h:G.sm≠0):∃a s,G=.iQ a (s+1):=by
 cases G with
 |cl c b=>exact absurd U h
 |kS b=>exact absurd U h
 |iQ a s=>cases s with
  |zero=>exact absurd U h
  |succ s=>exact⟨a,s,U⟩
def HY(h:gs[i]?=Ä g):gR gs i=if g.status=Å then 1 else 0:=by unfold gR;rw[h];simp
def Ug(h:gs'[i]?=gs[i]?):gR gs' i=gR gs i:=by unfold gR;rw[h]
theorem PI.aiX(H:iT F)(p:PI F j zX σ S tr f d gs w qJ){c r:Nat}{g:Æ}(v:c+2<=σ.sp)(o:σ.ed (c+1)=Í)(z:gs[F.L+1+c]?=Ä g)(B:g.status=Å)(ht:tr (F.L+1+c)=.fO)(m:σ.wp c=.fJ r .ml):lF F j zX σ tr gs w qJ sl (F.L+1+c):=by
 have C:=jI z;have hJ:=p.HT H v o z B ht m;obtain⟨hd,_,ho,Uh,g',h1,h2⟩:=hJ w<|p.gw.ie.gy _ C;have Q:=p.ps.wr c r v<|À ⟨_,m⟩;have E:=KR H.ok Q;have G:=H.ok.gq _ Q;have V:=Cd H.ok c;have X:=p.sy C;have Ce:c<F.n:=by have:=HP p.ps;omega
 have hG:=p.wd.j4 _ G;by_cases K:(σ.Gg<|F.gq<|c+r*F.n).sm=0
 .have q:=hG.sm;rw[K]at q;obtain⟨yf,I⟩:=p.sW c v o;rw[m]at yf I;have Cg:=Uh w q;obtain⟨gs',q1,t,M,q4⟩:=TH z (by rwa[V]);have b:∀x,Ą F.P g {g with status:=Þ} w x=x:=by
   intro x;unfold Ą;rw[if_neg fB]
  have l:∀k,k≠F.L+1+c->gs'[k]?=gs[k]?:=by
   intro k a;rw[q4 k a];cases gs[k]? with
   |none=>rfl
   |some x=>simp[b]
  have s:iI F.P F.B0 σ.Y S tr f d gs' w (qJ++#[]):=by
   rw[Û];obtain⟨g0,D,W,N,O⟩:=p.gw.kv _ g z;have J:g=g0:=by
    rw[I]at W;cases W with
    |gR=>rfl
    |qk h ho=>cases B
   subst J;refine⟨?_,λk y a=> ?_,λk a=>p.gw.vh k<|by rwa[<-t]⟩
   .rw[show(λi=>i<gs'.size)=(λi=>i<gs.size) by rw[t]];exact p.gw.ie
   .by_cases e:k=F.L+1+c
    .subst e;rw[M]at a;obtain rfl:=Ã a;refine⟨g,D,?_,À B,Á ht⟩;rw[I];exact .qk B ho
    .rw[l k e]at a;exact p.gw.kv k y a
  refine⟨σ,S,tr,f,d,gs',w,#[],q1,t,λh=>h,.of p.kB (t.trans p.fh) s (by rw[t];exact p.iD) p.wd p.ps (by rw[Û];exact p.ti) (λk y a lV=> ?_) (by rw[Û];exact p.kn),T8 (λ_ _=>rfl) X (by rw[HY z,if_pos B]) (by rw[HY M,if_neg fB]) λk a=>Ug<|l k a⟩;by_cases e:k=F.L+1+c
  .subst e;exact Á ⟨c,v,o,U,À ⟨r,m,K⟩⟩
  .rw[l k e]at a;exact p.fu k y a lV
 .obtain⟨a,s,y⟩:=R' K;have KU:=y▸hG;have Cf:=KU.ml;have Ui:((GS.iQ a<|s+1).sm:Int)≠0:=by simp only[GS.sm];omega
  have Cg:=h1 w _ Ui KU.sm KU.zx;have N:mq (F.gK<|F.gq<|c+r*F.n) w (w.setCell (iP<|F.gK<|F.gq<|c+r*F.n)<|ê â<|(GS.iQ a<|s+1).sm-1):=Á ⟨_,_,Á U,U⟩;have D:=N.yc p.iD H.ok E;have OV:=h2.fZ (w₁:=w.setCell (iP<|F.gK<|F.gq<|c+r*F.n)<|ê â<|(GS.iQ a<|s+1).sm-1) ⟨Ö D.fh.symm,λb lV=>D.lr b<|p.gw.ie.fX _ C b lV,λa ha=>D.fg _ C a ha,λa ha=>D.fC _ C a ha,λa _=>D.ia a⟩;obtain⟨T,hT⟩:=ku OV;have oa:=nO (λl g h=>À h.2.1) h2;obtain⟨gs',u,q1,t,M,q4,q5,q6,q7⟩:=p.oV H (kW F (σ.dk c)<|.fJ r .ig) z (HS v) E (by rwa[V]) N (KP E) (KQ _).2.2.2 (λx q e=>(OT o x q e).elim) (by rwa[V]) oa;have hle:F.gq (c+r*F.n)<=σ.ip.od:=by refine ĉ λq=> ?_;have:=p.ps.rA _ Z G q;rw[y]at this;cases this
  have wW:=AS (f':=λi=>((gM σ c<|.fJ r .ig).wp i).iq F i<|F.gq<|c+r*F.n) Ce (λi q=>by rw[jM _ q]);simp only[lh,m]at wW;have yf:iJ.iq F c (F.gq<|c+r*F.n) (.fJ r .ig)=0:=by simp only[iJ.iq,if_true];rfl
  have I:iJ.iq F c (F.gq<|c+r*F.n) (.fJ r .ml)=1:=by simp only[iJ.iq,if_true];rfl
  rw[yf,I]at wW;refine⟨zB σ c (.fJ r .ig) (F.gq<|c+r*F.n) (.iQ a s) σ.fs,_,_,_,_,gs',_,u,q1,t,λh=>h,.of ?_ (t.trans p.fh) q5 ?_ ?_ (p.ps.M' v o (λq W=> ?_) (λ_ h=>by omega) (λ_=> ?_) (λ_=>⟨a,s,U⟩) (λh=>by cases h) (λ_ _=>rfl) (λ_ h=>h) (λk h=> ?_) (λk h=> ?_) (λk h=> ?_) λk h=>by cases h) q6 ?_ λl k J O a3=> ?_,?_⟩
  .have:=p.kB.gM (x:=.fJ r .ig) (T:=T) H.ok v o;exact⟨this.s0,this.sI,this.sW,this.sE,this.sO⟩
  .have:=q7.gM (x:=.fJ r .ig) (by rw[m];rfl);exact⟨this.iU,this.ni,this.n7,this.oQ,this.mV,this.oR,this.oS,this.kq,this.mG,this.ja,this.kF,this.nN,this.oT,this.oz⟩
  .have W1:=N.wd H p.iD p.ps p.wd E (Gg:=fI σ.Gg (F.gq<|c+r*F.n)<|.iQ a s) ⟨λe=>absurd e<|H.ok.AO _ G,λ_=>rfl⟩ λq W=>⟨λe=> ?_,λe=>fW _ _ λe'=>e<|by rw[e']⟩
   .have q:=W1.gM (x:=.fJ r .ig) (by show _=(σ.wp c).iG;rw[m];rfl) (by show _=(σ.wp c).jL;rw[m];rfl);exact⟨q.fL,q.j4,q.kU,q.nj,q.qm,q.pQ⟩
   .have e':=H.ok.j4 _ _ G W e;rwa[<-e',il]
  .rw[m];simp only[iJ.iq,if_neg<|õ W]
  .rcases p.ps.qp _ G hle with⟨W,_,q,_⟩|⟨r1,s1,z1,z2,q,z3⟩|⟨z1,⟨q,_⟩|⟨s1,q,z3⟩⟩
   .rw[y]at q;cases q
   .rw[y]at q;injection q with e1 e2;subst e1 e2;exact Á<|À ⟨a,s,z1,z2,U,Z⟩
   .rw[y]at q;cases q
   .rw[y]at q;injection q with e1 e2;subst e1 e2;exact Á<|Á ⟨z1,Á ⟨s,U,Z⟩⟩
  .rcases h with⟨_,h⟩|h|h<;>cases h;exact Q
  .rcases h with h|h|h<;>cases h;exact hle
  .cases h;exact⟨a,s,il _ _ _⟩
  .refine p.fu.nF (σ':=zB σ c _ _ _ _) M (by rcases oa with q|q<;>rw[q]<;>simp) q4 (λl q=>N.mh p.ps E q) U U (λ_ _=>rfl) (λ_=>rfl) (λl e=>jM _ Z) (λ_ _ h=>À h) λl k _ _ h=>À ?_;by_cases e:F.gq (l+k*F.n)=F.gq (c+r*F.n)
   .rw[e]at h;exact absurd h K
   .show(fI σ.Gg _ _ _).sm=0;rwa[fW _ _ e]
  .have e:l≠c:=λe=>by
    subst e;have:(gM σ l<|.fJ r .ig).wp l=.j5 k:=O;rw[lh]at this;cases this
   have q:(gM σ c<|.fJ r .ig).wp l=.j5 k:=O;rw[jM _ e]at q;exact(p.kn l k J q a3).app u
  .have:=HQ (σ:=σ) (tr:=tr) (gs:=gs) (gs':=gs') (x:=.fJ r .ig) (T:=T) H.ok X o (by rw[m];simp only[iJ.rk,kx.rk];omega);rcases this with⟨i,J,O,a3⟩|⟨J,_⟩
   .exact À ⟨i,J,O,a3⟩
   .exfalso;have:=J _ X;change(gM σ c<|.fJ r .ig).fX (fI tr (F.L+1+c) T) (F.L+1+c)=σ.fX tr (F.L+1+c)at this;rw[ya H.ok (σ:=gM σ c _) (show(gM σ c _).ed (c+1)=Í from o),ya H.ok o,lh,m]at this;injection this with e _;simp only[iJ.rk,kx.rk]at e;omega
def jF.rv(L:jF F σ d n w){l:fj}(G:∀b,l.O b->(d i).O b)(H:∀b,(d i).Rd b->l.Rd b)(I:∀a,l.Oc a->(d i).Oc a)(J:∀a,(d i).Oc a->l.Oc a)(K:∀a,(d i).Rc a->l.Rc a)(M:∀a,l.C a->(∃k,k<=F.m/\a=ki F.toFx k)\/∃p,p≠F.kJ/\a=kz F p)(N:l.q=(d i).q)(o:¬l.q):jF F σ (gX d i l) n w:=by
 have D:∀k,d k=mo (d k)->k≠i:=λk g e=>by
  subst e;have:(d k).q:=by rw[g];trivial
  exact o<|N▸this
 have P:∀k b,(gX d i l k).O b->(d k).O b:=λk b h=>by
  by_cases e:k=i
  .subst e;rw[iV]at h;exact G b h
  .rwa[iC d _ e]at h
 have t:∀k a,(gX d i l k).Oc a↔(d k).Oc a:=λk a=>by
  by_cases e:k=i
  .subst e;rw[iV];exact⟨I a,J a⟩
  .rw[iC d _ e]
 have y:∀k b,(d k).Rd b->(gX d i l k).Rd b:=λk b h=>by
  by_cases e:k=i
  .subst e;rw[iV];exact H b h
  .rwa[iC d _ e]
 have z:∀k a,(d k).Rc a->(gX d i l k).Rc a:=λk a h=>by
  by_cases e:k=i
  .subst e;rw[iV];exact K a h
  .rwa[iC d _ e]
 refine⟨λk g a v=> ?_,λx c s a v=>(t _ _).2<|L.ni x c s a v,λh=>⟨z _ _ (L.n7 h).1,λb o=>y _ _<|(L.n7 h).2 b o⟩,λh k c s=>⟨(t _ _).2 (L.oQ h k c s).1,(t _ _).2 (L.oQ h k c s).2⟩,λh u=>⟨z _ _ (L.mV h u).1,λb o=>y _ _<|(L.mV h u).2 b o⟩,λj f u r B c=>(t _ _).2<|L.oR j f u r B c,λj f u=>⟨z _ _ (L.oS j f u).1,λb o=>y _ _<|(L.oS j f u).2 b o⟩,λx E=> ?_,λk g=> ?_,λk c s=> ?_,λk g b o=> ?_,λk g j f h=>L.nN k g j f<|(t _ _).1 h,λk c s j f h=>L.oT k c s j f<|(t _ _).1 h,λj f r B c k g h=>L.oz j f r B c k g<|(t _ _).1 h⟩
 .by_cases e:k=i
  .subst e;rw[iV]at v;exact M a v
  .rw[iC d _ e]at v;exact L.iU k g a v
 .rw[iC d _<|D _<|L.kq x E];exact L.kq x E
 .by_cases e:k=i
  .subst e;rwa[iV]
  .rw[iC d _ e];exact L.mG k g
 .rw[iC d _<|D _<|L.ja k c s];exact L.ja k c s
 .let⟨Q,T,V⟩:=L.kF k g b o;exact⟨Q,T,λj f h=>V j f<|P j b h⟩
def PI.aiY(H:iT F)(p:PI F j zX σ S tr f d gs w qJ){r:Nat}(s:m+2<=σ.sp)(t:σ.ed (m+1)=Í)(y:gs[F.L+1+m]?=Ä g)(z:g.status=Å)(M:tr (F.L+1+m)=.fO)(o:σ.wp m=.j5 r):vp F j zX σ tr gs w qJ:=by
 have l:=jI y;have C:=p.gw.ie;obtain⟨B,D⟩:=p.sW m s t;rw[o]at B D;have E:=p.gw.HR y z M (À D) w<|C.gy _ l;rw[B]at E;have v:=p.ps.wr m r s<|Á<|À o;have G:=H.ok.gq _ v;have I:=p.ps.tj m r s<|Á<|Á o;have u:=Ù I<|Ù (T3 _)<|OO p.ps;obtain⟨N,O⟩:=p.wd.nj _ u;have J:=λa c=>by
  by_cases h:1<=F.gq (m+r*F.n)
  .exact(p.ti.D6 _ h (Ù I<|T3 _) a c).air<|p.kn m r s o h
  .have e:F.gq (m+r*F.n)=0:=Z
   obtain⟨i,b⟩:=p.iD.oS m s t;rw[e]at c;rcases c with c|rfl
   .rw[p.ps.v0]at c;exact(C.lu _ l).rd a<|b _ c
   .exact(C.lu _ l).rc _ i
 have P:=p.iD.mG (F.L+1+m) (Á ⟨m+1,Z,Z,λ⟨e,x,_⟩=>by rw[t]at x;cases x⟩);have K:jR F.B0 (λi=>i<gs.size) σ.Y (gX d (F.L+1+m) {d (F.L+1+m)with Rd:=λb=>(d<|F.L+1+m).Rd b\/σ.V (F.gq<|m+r*F.n) b,Rc:=λa=>(d<|F.L+1+m).Rc a\/a=ki F.toFx (F.gq<|m+r*F.n),w:=w}) w qJ:=by
  refine C.rv l (λ_ q=>q) (λb q=> ?_) (λ_ q=>q) (λa q=> ?_) U U U (λb e q=> ?_) λa c q=> ?_
  .rcases q with q|q
   .exact À<|Á q
   .obtain⟨i,T,Q⟩:=p.iD.kF _ u b q;exact Á ⟨i,T,λk h=>Q k h,λa c=>J a<|À<|by rwa[c]⟩
  .rcases q with q|rfl
   .exact À<|Á q
   .exact Á ⟨À<|Á ⟨_,G,U⟩,λk h=>p.iD.nN _ u k h,J _<|Á U⟩
  .rcases q with q|q
   .exact C.lD _ l b e q
   .exact(p.iD.kF _ u b q).2.2 _ l e
  .rcases q with q|rfl
   .exact C.lE _ l a c q
   .exact p.iD.nN _ u _ l c
 have i:=K.gk l;rw[iV]at i;have Q:=H.j5 (σ.dk m) m r _ _ _ g v E {d (F.L+1+m)with Rd:=λb=>(d<|F.L+1+m).Rd b\/σ.V (F.gq<|m+r*F.n) b,Rc:=λa=>(d<|F.L+1+m).Rc a\/a=ki F.toFx (F.gq<|m+r*F.n),w:=w} i U (λb q=>q) U U U U U N O (Á U) (p.iD.oR m s t r v<|by rw[o];exact Ç _);obtain⟨T,W⟩:=ku Q;refine p.T9 H s t y (À z) K W ?_ (p.wd.gM (by rw[o];rfl)<|by rw[o];rfl) (p.ps.gM s t (λk=>by rw[o];rfl) (λe h=> ?_) (λe h=> ?_) (λe h=>by cases h) λe h=>by cases h) ?_ λe h=>by cases h
 .refine(p.iD.gM<|by rw[o];rfl).rv (λ_ q=>q) (λ_ q=>À q) (λ_ q=>q) (λ_ q=>q) (λ_ q=>À q) (λa c=> ?_) U P;rcases c with q|q|rfl
  .exact p.iD.iU _ l a<|À q
  .exact p.iD.iU _ l a<|Á q
  .exact À ⟨_,G,U⟩
 .rcases h with⟨_,h⟩|h|h<;>cases h;exact v
 .rcases h with h|h|h<;>cases h
 .rw[o];simp only[iJ.rk];have e:F.n+3000<=(F.n+3000)*(F.q+3-r):=ç _ (by
   have:r<=F.q:=by have x:=H.ok.n1;have:r*1<=r*F.n:=ñ _ x;omega
   omega)
  omega
def PI.aiZ(H:iT F)(p:PI F j zX σ S tr f d gs w qJ){r:Nat}(G:m+2<=σ.sp)(I:σ.ed (m+1)=Í)(V:gs[F.L+1+m]?=Ä g)(jE:g.status=Å)(ht:tr (F.L+1+m)=.fO)(v:σ.wp m=.mf r):vp F j zX σ tr gs w qJ:=by
 have E:=jI V;have C:=p.gw.ie;let⟨yf,wY⟩:=p.sW m G I;rw[v]at yf wY;have hJ:=p.gw.HR V jE ht<|À wY;rw[yf]at hJ;let⟨hcell,hrecv⟩:=hJ w<|C.gy _ E;have oW:=p.ps.wr m r G<|Á<|Á v;have zC:=p.iD.mG (F.L+1+m) (Á ⟨m+1,Z,Z,λ⟨e,c,_⟩=>by rw[I]at c;cases c⟩);have OW:=p.iD.oR m G I r oW (by rw[v];exact Ç _);have OX:r<=F.q:=by have c:=H.ok.n1;have:r*1<=r*F.n:=ñ _ c;omega
 have KV:jR F.B0 (λi=>i<gs.size) σ.Y (gX d (F.L+1+m)<|zz F {d (F.L+1+m)with w:=w}<|m+r*F.n) w qJ:=by
  refine C.rv E (λ_ q=>q) (λb q=>À<|Á q) (λ_ q=>q.1) (λa q=> ?_) U U U (λb u q=>C.lD _ E b u q) λa t q=> ?_
  .rcases q with q|rfl
   .exact À<|Á q
   .exact À<|À OW
  .rcases q with q|q
   .exact C.lE _ E a t.1 q
   .exact t.2 q
 have hF:na F.P É (JW F (σ.dk m) m<|.pO (r+1)) .fO (zz F {d (F.L+1+m)with w:=w}<|m+r*F.n) g:=λw₁ rC=>by let⟨Q,W,h,k⟩:=hrecv;exact⟨Q,W,h,λx=>(k x).fZ rC⟩
 refine p.T9 H G I V (À jE) KV hF ?_ ?_ (p.ps.gM G I (λk=>by rw[v];rfl) (λo h=> ?_) (λo h=> ?_) (λo h=>by cases h) λo h=>by cases h) ?_ λo h=>by cases h
 .have L:=p.iD;have J:∀k a,(gX d (F.L+1+m) (zz F {d (F.L+1+m)with w:=w}<|m+r*F.n) k).Oc a->(d k).Oc a:=λk a h=>by
   by_cases e:k=F.L+1+m
   .subst e;rw[iV]at h;exact h.1
   .rwa[iC d _ e]at h
  have K:∀k a,(d k).Oc a->a≠kz F (F.pq<|m+r*F.n)->(gX d (F.L+1+m) (zz F {d (F.L+1+m)with w:=w}<|m+r*F.n) k).Oc a:=λk a h nD=>by
   by_cases e:k=F.L+1+m
   .subst e;rw[iV];exact⟨h,nD⟩
   .rwa[iC d _ e]
  have X:∀k a,(d k).Rc a->(gX d (F.L+1+m) (zz F {d (F.L+1+m)with w:=w}<|m+r*F.n) k).Rc a:=λk a h=>by
   by_cases e:k=F.L+1+m
   .subst e;rw[iV];exact À h
   .rwa[iC d _ e]
  have M:∀k,(gX d (F.L+1+m) (zz F {d (F.L+1+m)with w:=w}<|m+r*F.n) k).Rd=(d k).Rd/\(gX d (F.L+1+m) (zz F {d (F.L+1+m)with w:=w}<|m+r*F.n) k).O=(d k).O/\(gX d (F.L+1+m) (zz F {d (F.L+1+m)with w:=w}<|m+r*F.n) k).q=(d k).q:=λk=>by
   by_cases e:k=F.L+1+m
   .subst e;rw[iV];exact⟨U,U,U⟩
   .rw[iC d _ e];exact⟨U,U,U⟩
  have nb:∀k,d k=mo (d k)->k≠F.L+1+m:=λk W e=>by
   subst e;have:(d<|F.L+1+m).q:=by rw[W];trivial
   exact zC this
  have N:∀k,k≠F.L+1+m->k<gs.size->∀a,(d k).Oc a->a≠kz F (F.pq<|m+r*F.n):=λk W KW a t e=>C.rn _ _ KW E W a t (by rw[e];exact À OW);have h0:0≠F.L+1+m:=by have:=H.ok.L1;omega
  refine⟨λk W a t=> ?_,λx c y a t=>K _ _ (L.ni x c y a t) (N 0 h0 (by have:=p.fh;have:=H.ok.L1;omega) a<|L.ni x c y a t),λh=>⟨X _ _ (L.n7 h).1,λb u=>by rw[(M 0).1];exact(L.n7 h).2 b u⟩,λh k c y=> ?_,λh D=>⟨X _ _ (L.mV h D).1,λb u=>by rw[(M _).1];exact(L.mV h D).2 b u⟩,λl s D o z c=> ?_,λl s D=>⟨X _ _ (L.oS l s D).1,λb u=>by rw[(M _).1];exact(L.oS l s D).2 b u⟩,λx Ei=>by rw[iC d _<|nb _<|L.kq x Ei];exact L.kq x Ei,λk W=>by rw[(M k).2.2];exact L.mG k W,λk c y=>by rw[iC d _<|nb _<|L.ja k c y];exact L.ja k c y,λk W b u=>⟨(L.kF k W b u).1,(L.kF k W b u).2.1,λi B=>by rw[(M i).2.1];exact(L.kF k W b u).2.2 i B⟩,λk W i B h=>L.nN k W i B<|J _ _ h,λk c y i B h=>L.oT k c y i B<|J _ _ h,λl s o z c i B h=> ?_⟩
  .by_cases e:k=F.L+1+m
   .subst e;rw[iV]at t;rcases t with q|q|q
    .exact L.iU _ E a<|À q.1
    .exact L.iU _ E a<|Á q
    .exact Á ⟨_,H.ok.kJ.2 _ (by assumption),q⟩
   .rw[iC d _ e]at t;exact L.iU k W a t
  .have Q:F.L<gs.size:=by have:=p.fh;have:0<σ.sp:=h;omega
   have:=L.oQ h k c y;exact⟨K _ _ this.1<|N _ Z Q _ this.1,K _ _ this.2<|N _ Z Q _ this.2⟩
  .by_cases e:l=m
   .subst e;rw[lh]at c;simp only[iJ.iG]at c;refine K _ _ (L.oR l s D o z<|by rw[v];simp only[iJ.iG];omega) λq=> ?_;have e1:F.pq (l+o*F.n)=F.pq (l+r*F.n):=by injection q
    have Q:=H.ok.pq _ _ z oW e1;have T:o*F.n=r*F.n:=Z
    have:=Nat.eq_of_mul_eq_mul_right H.ok.n1 T;omega
   .rw[jM _ e]at c;have q:=L.oR l s D o z c;have AU:l+2<=σ.sp:=s;exact K _ _ q<|N _ Z (by have:=p.fh;omega) _ q
  .by_cases e:l=m
   .subst e;rw[lh]at c;simp only[iJ.iG]at c;by_cases Q:o=r
    .subst Q;by_cases T:i=F.L+1+l
     .subst T;rw[iV]at h;exact h.2 U
     .exact N i T B _ (J _ _ h) U
    .exact L.oz l s o z (by rw[v];simp only[iJ.iG];omega) i B<|J _ _ h
   .rw[jM _ e]at c;exact L.oz l s o z c i B<|J _ _ h
 .have W:=p.wd;refine⟨W.fL,W.j4,λl s=> ?_,W.nj,W.qm,λl s o z c=> ?_⟩
  .by_cases e:l=m
   .subst e;have:=W.kU l s;rw[v]at this;rw[lh];exact this
   .rw[jM _ e];exact W.kU l s
  .by_cases e:l=m
   .subst e;rw[lh]at c;simp only[iJ.iG]at c;by_cases Q:o=r
    .subst Q;exact hcell
    .exact W.pQ l s o z<|by rw[v];simp only[iJ.iG];omega
   .rw[jM _ e]at c;exact W.pQ l s o z c
 .rcases h with⟨_,h⟩|h|h<;>cases h
 .rcases h with h|h|h<;>cases h
 .rw[v];simp only[iJ.rk];have e:F.q+3-r=(F.q+3-(r+1))+1:=Z
  rw[e,į];omega
end
def ai0{α:Type}(f:Nat->α)(i:Nat)(x y:α):fI (fI f i x) i y=fI f i y:=by funext k;unfold fI;split<;>rfl
section
variable{F:Ph}{σ σ':gF F}{S:Nat->Jd}{tr o:Nat->gY}{d:Nat->jw}{lot:Nat->fj}{gs gs':Array Æ}{u:é}{sl:Option (Nat×Nat)}{sz:Nat}
def tq{r:Nat}{a:Bool}(h:b≠i):(w.setChan i n q yQ j r a).heap[b]?=w.heap[b]?:=by unfold World.setChan;exact á<|õ h
def OY{r:Nat}{a:Bool}(h:i<w.heap.size):(w.setChan i n q yQ j r a).heap[i]?=Ä (.chan n q yQ j r a):=by unfold World.setChan;simp[h]
def KX{r:Nat}{a:Bool}:(w.setChan i n q yQ j r a).heap.size=w.heap.size:=by unfold World.setChan;simp
def ai1(f:Ps F σ)(c:j+2<=σ.sp){cap s r:Nat}{buf:Array ì}{cl tm:Bool}:KL F σ lot sz w (w.setChan (σ.dk j) cap buf cl s r tm):=by
 let⟨g,d,_⟩:=f.td j c;refine⟨Ö KX.symm,λb _ h _=>tq λe=>h<|Á<|Á ⟨j,c,e⟩,λa i _=>iF (tq λe=> ?_),zv (tq λe=>d e.symm),U,U⟩;rcases i with⟨k,l,rfl⟩|⟨p,rfl⟩
 .exact g<|Á ⟨k,l,e.symm⟩
 .exact d e.symm
def S_(a:Ps F σ)(c:j+2<=σ.sp){cap s r:Nat}{buf:Array ì}{cl tm:Bool}(d:F.jg b){G:GS}(h:jc w b G):jc (w.setChan (σ.dk j) cap buf cl s r tm) b G:=by have e:b≠σ.dk j:=λe=>(a.td j c).1<|e▸d;exact h.fi (iF<|tq e) (iF<|tq e) (AH<|tq e)<|AH<|tq e
def Wd.mh(W:Wd F σ w)(H:iT F)(L:jF F σ lot sz w)(g:Ps F σ)(h:j+2<=σ.sp){cap s r:Nat}{buf:Array ì}{cl tm:Bool}: (∀k,k<=σ.ip.md->pP F k (σ.sg k)/\F.vm k (σ.sg k) (σ.V k) (w.setChan (σ.dk j) cap buf cl s r tm))/\(∀k,1<=k->k<=σ.ip.md->(w.setChan (σ.dk j) cap buf cl s r tm).cell? (kz F (F.pi k))=Ä (.string (F.vn k)))/\(∀c,c+2<=σ.sp->∀d,c+d*F.n<F.q->d<(σ.wp c).iG->(w.setChan (σ.dk j) cap buf cl s r tm).cell? (kz F (F.pq (c+d*F.n)))=Ä (.string (F.wV (c+d*F.n))))/\jc (w.setChan (σ.dk j) cap buf cl s r tm) F.fL σ.Ga/\(∀k,k<=F.m->jc (w.setChan (σ.dk j) cap buf cl s r tm) (F.gK k) (σ.Gg k)):=by have e:=ai1 (lot:=lot) (sz:=sz) (w:=w) g h (cap:=cap) (s:=s) (r:=r) (buf:=buf) (cl:=cl) (tm:=tm);refine⟨λk a=>⟨(W.nj k a).1,H.OJ _ _ _ _ _ (W.nj k a).2 (λb f=>e.fu b (L.kF k a b f).1 (L.kF k a b f).2.1 (L.kF k a b f).2.2) (e.fg _ (À ⟨k,Ù a (ON g),U⟩) (L.nN k a)) (e.fg _ (Á ⟨_,U⟩) (L.T0 H.ok)) e.fC e.io⟩,λk b f=>(e.fg _ (Á ⟨_,U⟩) (L.oT k b f)).trans (W.qm k b f),λc b d f i=>(e.fg _ (Á ⟨_,U⟩) (L.oz c b d f i)).trans (W.pQ c b d f i),S_ g h (À U) W.fL,λk a=>S_ g h (Á ⟨k,a,U⟩) (W.j4 k a)⟩
def jF.HZ(L:jF F σ lot sz w)(h:w.heap.size<=W.heap.size):jF F σ lot sz W:= ⟨L.iU,L.ni,L.n7,L.oQ,L.mV,L.oR,L.oS,L.kq,L.mG,L.ja,λk a b c=>⟨Ê (L.kF k a b c).1 h,(L.kF k a b c).2⟩,L.nN,L.oT,L.oz⟩
def OZ(c:TI F.toFx i zX σ.sp σ.ip.rl σ.V σ.pk σ.fs σ.jb σ.ql qJ)(h:AL u):TI F.toFx i zX σ.sp σ.ip.rl σ.V σ.pk σ.fs σ.jb σ.ql (qJ++u):= c.jV<|B7 (λa b=>(h a b).1) λa b _ _=>(h a b).2 _
def iz(σ:gF F)(x:Nat)(e:jd):gF F:={σ with ed:=fI σ.ed x (Ä e)}
def uy.iz(h:uy F σ S tr d)(ok:F.Ok){x:Nat}{e:jd}{T:gY}(k:(∃N,e=.ko N)->T=.fO):uy F (fK.iz σ x e) (fI S (F.L+x)<|JE F e) (fI tr (F.L+x) T) (fI d (F.L+x) .no):=by
 have:=ok.L1;have c:∀y,y≠x->(fK.iz σ x e).ed y=σ.ed y:=λy l=>fW _ _ l;have f:(fK.iz σ x e).ed x=Ä e:=il _ _ _;refine⟨by rw[fW S _ Z,fW d _ Z];exact h.s0,λb a=> ?_,λj b a=> ?_,λy m b a=> ?_,λi b a=>by rw[fW S _ Z,fW d _ Z,fW tr _ Z];exact h.sO i b a⟩
 .have g:x≠0:=λq=>by subst q;rw[f]at a;cases a
  rw[c 0<|õ g]at a;rw[fW S _ Z,fW d _ Z];exact h.sI b a
 .have g:x≠j+1:=λq=>by subst q;rw[f]at a;cases a
  rw[c _<|õ g]at a;rw[fW S _ Z,fW d _ Z];exact h.sW j b a
 .by_cases q:y=x
  .subst q;rw[f]at a;obtain rfl:=Ã a;rw[il,il,il];exact⟨U,U,k⟩
  .rw[c y q]at a;rw[fW S _ Z,fW d _ Z,fW tr _ Z];exact h.sE y m b a
def vt(F:Ph)(σ:gF F)(x:Nat):Nat×Nat:=match σ.ed x with
 |some e=>e.rk F
 |none=>if x=0 then(σ.ip.rk F,0)else((σ.wp<|x-1).rk F,0)
def ai2(ok:F.Ok)(x:Nat):σ.fX tr (F.L+x)=((vt F σ x).1,(vt F σ x).2,tr<|F.L+x):=by
 have:=ok.L1;unfold vt;cases a:σ.ed x with
 |some e=>rw[OQ ok a]
 |none=>
  cases x with
  |zero=>rw[ö,T4 ok a];simp
  |succ j=>rw[show F.L+(j+1)=F.L+1+j by omega,ya ok a];simp
def H0(ok:F.Ok){x:Nat}{e:jd}{T:gY}(b:F.L+x<F.N)(h:(e.rk F).1<(vt F σ x).1\/((e.rk F).1=(vt F σ x).1/\(e.rk F).2<(vt F σ x).2)):sx F.N ((fK.iz σ x e).mu (fI tr (F.L+x) T) gs') (σ.mu tr gs):=by
 refine KN b ?_ λk c=>Ca (λ_=>rfl) (λ_ _=>rfl) (λa=>fW _ _ Z) (λ_ _=>rfl) (λ_ _=>rfl)<|fW tr _ c;rw[OQ ok (σ:=fK.iz σ x e)<|il _ _ _,ai2 ok];rcases h with h|⟨a,d⟩
 .exact À h
 .exact Á ⟨a,À d⟩
def ai3{e:jd}(h:e.hD=oy (σ.ed i))(y:Nat):(fK.iz σ i e).hD y=σ.hD y:=by
 unfold gF.hD;by_cases q:y=i
 .subst q;show(if y<σ.mp.ad F.n then oy (fI σ.ed y (Ä e) y)else 0)=_;rw[il];show(if y<σ.mp.ad F.n then e.hD else 0)=_;rw[h]
 .show(if y<σ.mp.ad F.n then oy (fI σ.ed i (Ä e) y)else 0)=_;rw[fW _ _ q]
def ai4{e:jd}(h:e.hD=oy (σ.ed i)):Ñ (F.n+1) (fK.iz σ i e).hD=Ñ (F.n+1) σ.hD:=Į λy _=>ai3 h y
def Ps.iz(h:Ps F σ){x:Nat}{e:jd}(K:x<σ.sp)(z:e.hD=oy (σ.ed x))(o:∀p,σ.ed x=Ä (.gC p)->∀W,p≠ .ig W/\p≠ .j1 W/\p≠ .jx W)(B:∀p,e=.gC p->∀W,p≠ .ig W/\p≠ .j1 W/\p≠ .jx W) (C:∀j,x=j+1->j<σ.mp.kh F.n/\∃r,σ.wp j=.pO r/\∀i,j+i*F.n<F.q->i<r) (D:x=0->σ.ip=.lO F.m):Ps F (fK.iz σ x e):=by
 have b:∀y,y≠x->(fK.iz σ x e).ed y=σ.ed y:=λy a=>fW _ _ a;have E:(fK.iz σ x e).ed x=Ä e:=il _ _ _;have l:=ai4 (σ:=σ) z;refine⟨h.v0,h.mj,h.xU,h.mr,h.zA,h.ik,h.oU,h.wr,λj G f=> ?_,λf=> ?_,λy a=> ?_,h.pR,h.td,λc g k=>by rw[l];exact h.tf c g k,λg k=> ?_,λr s k=> ?_,λy p a=> ?_,λH=>by rw[l];exact h.xV H,h.rA,h.qp,h.tj,h.xW,h.AP,h.aM,h.uw,h.xY⟩
 .by_cases q:j+1=x
  .exact C j q.symm
  .rw[b _ q]at f;exact h.sr j G f
 .by_cases q:0=x
  .exact D q.symm
  .rw[b _ q]at f;exact h.rz f
 .have:σ.sp<=y:=a;rw[b y Z];exact h.su y a
 .rw[l];let⟨t,u,y,v,w,d⟩:=h.sw g k;refine⟨t,u,y,v,w,?_⟩;have:y≠x:=λq=>by
   subst q;rcases d with d|d
   .exact(o _ d g).1 U
   .exact(o _ d g).2.1 U
  rwa[b y this]
 .rw[l];let⟨t,u,v⟩:=h.tg r s k;refine⟨t,u,λd=> ?_⟩;let⟨y,I,J,w⟩:=v d;have:y≠x:=λq=>by subst q;exact(o _ w r).2.2 U
  exact⟨y,I,J,by rwa[b y this]⟩
 .by_cases q:y=x
  .subst q;rw[E]at a;have t:=B p<|Ã a;exact⟨λW w=>(w.elim (t W).1 (t W).2.1).elim,λr d=>((t r).2.2 d).elim⟩
  .rw[b y q]at a;exact h.qo y p a
def S'{x:Nat}{e:jd}(h:i≠x):(fK.iz σ x e).jb i↔σ.jb i:=by unfold gF.jb;show(∃a,fI σ.ed x (Ä e) i=Ä a/\a.jb)↔_;rw[fW _ _ h]
def ai5{e:jd}:(fK.iz σ i e).jb i↔e.jb:=by unfold gF.jb;show(∃a,fI σ.ed i (Ä e) i=Ä a/\a.jb)↔_;rw[il];exact⟨λ⟨a,b,c⟩=>by cases b;exact c,λh=>⟨e,U,h⟩⟩
def ai6{e:jd}(h:e.jb↔σ.jb i)(y:Nat):(fK.iz σ i e).jb y↔σ.jb y:=by
 by_cases q:y=i
 .subst q;rwa[ai5]
 .exact S' q
def T_{e:jd}(h:e.oh↔σ.oh i)(y:Nat):(fK.iz σ i e).oh y↔σ.oh y:=by
 unfold gF.oh at h|-;show(∃a,fI σ.ed i (Ä e) y=Ä a/\a.oh)↔_;by_cases q:y=i
 .subst q;rw[il];exact⟨λ⟨a,b,c⟩=>h.1 (by cases b;exact c),λd=>⟨e,U,h.2 d⟩⟩
 .rw[fW _ _ q]
def jF.iz(L:jF F σ lot sz w){x:Nat}{e:jd}(h:e.oh↔σ.oh x):jF F (fK.iz σ x e) lot sz w:=by
 have d:∀y,(fK.iz σ x e).ed y=Í->σ.ed y=Í:=λy c=>by
  by_cases q:y=x
  .subst q;have:fI σ.ed y (Ä e) y=Í:=c;rw[il]at this;cases this
  .have:fI σ.ed x (Ä e) y=Í:=c;rwa[fW _ _ q]at this
 exact⟨L.iU,L.ni,L.n7,L.oQ,λa b=>L.mV a<|d _ b,λj a b=>L.oR j a<|d _ b,λj a b=>L.oS j a<|d _ b,λy c=>L.kq y<|(T_ h y).1 c,λi f=>L.mG i (f.imp id λ⟨y,a,b,g⟩=>⟨y,a,b,λq=>g<|(T_ h y).2 q⟩),L.ja,L.kF,L.nN,L.oT,L.oz⟩
def Wd.iz(W:Wd F σ w){x:Nat}{e:jd}:Wd F (fK.iz σ x e) w:=⟨W.fL,W.j4,W.kU,W.nj,W.qm,W.pQ⟩
def TI.iz(a:TI F.toFx i zX σ.sp σ.ip.rl σ.V σ.pk σ.fs σ.jb σ.ql qJ){x:Nat}{e:jd}(h:e.jb↔σ.jb x):TI F.toFx i zX (fK.iz σ x e).sp (fK.iz σ x e).ip.rl (fK.iz σ x e).V (fK.iz σ x e).pk (fK.iz σ x e).fs (fK.iz σ x e).jb (fK.iz σ x e).ql qJ:= {a with jA:=λy b c=>a.jA y b ((ai6 h y).1 c)}
def PI.ai7(H:iT F)(p:PI F i zX σ S tr d lot gs w qJ){r:Nat}(t:j+2<=σ.sp)(o:σ.ed (j+1)=Í)(M:gs[F.L+1+j]?=Ä g)(jE:g.status=Å)(ht:tr (F.L+1+j)=.fO)(D:σ.wp j=.pO r):lF F i zX σ tr gs w qJ sl (F.L+1+j):=by
 have iy:=jI M;have C:=p.gw.ie;have mw:=Cd H.ok j;have yd:=p.sy iy;obtain⟨yf,wY⟩:=p.sW j t o;rw[D]at yf wY;have Uj:S (F.L+1+j)=AJ F.P (F.L+1+j==0) (σ.dk j) F.z λx=>match x with
  |some v=>λl g=>v=F.sk (j+r*F.n)->uq F.P É F.B (F.gK<|F.gq<|j+r*F.n) (F.xR (σ.dk j)<|j+r*F.n) .jy l g
  |none=>D7 F:=by rwa[mw]
 have hY:σ.Y (σ.dk j):=Á<|Á ⟨j,t,U⟩;obtain⟨buf,s,E,yg,U_,Ch,Ci⟩:=p.wd.kU j t;rw[D]at E U_ Ch Ci;simp only[iJ.jL]at E U_ Ch Ci;have H2:=C.kE _ hY;by_cases Ec:r<s
 .have O0:=Ci 0 Z;rw[ö]at O0;have oW:j+r*F.n<F.q:=by
   have:=(yg r).1 Ec;have:σ.mp.oP F.q<=F.q:=by cases σ.mp<;>simp only[gH.oP]<;>omega
   omega
  obtain⟨gs',u,T,g',O,f,Q,V,I,W,q7⟩:=p.gw.pO M jE wY ht Uj hY E O0<|kW F (σ.dk j)<|.fJ r .jy;have q8:=q7.lO (λl g h=>by rw[il]at h;exact h U);rw[ai0]at q8;obtain⟨z1,z2,z3,z4,z5⟩:=p.wd.mh H p.iD p.ps t;refine⟨gM σ j<|.fJ r .jy,_,_,_,_,gs',_,u,O,f,λh=>h,.of (p.kB.gM H.ok t o) (f.trans p.fh) q8 ?_ ⟨z4,z5,λv m=> ?_,z1,z2,λv m c qG a=> ?_⟩ (p.ps.gM t o (λk=>by rw[D,Ud U];rfl) (λc h=> ?_) (λc h=> ?_) (λc h=>by cases h) λc h=>by cases h) (OZ p.ti W) (λk y b G=> ?_) λv c a1 J a3=> ?_,HQ H.ok yd o ?_⟩
  .rw[f];exact((p.iD.gM<|by rw[D];rfl).HZ<|Ö KX.symm)
  .by_cases e:v=j
   .subst e;rw[lh];refine⟨buf.extract 1 buf.size,s,OY H2,yg,Ec,by rw[Array.size_extract];simp only[iJ.jL];omega,λl nH=> ?_⟩;simp only[iJ.jL]at nH|-;rw[Array.getElem?_extract];rw[if_pos Z];have:=Ci (1+l) Z;rw[this,show r+(1+l)=r+1+l by omega]
   .rw[jM _ e];obtain⟨K,X,y1,y2⟩:=p.wd.kU v m;refine⟨K,X,?_,y2⟩;show(w.setChan (σ.dk j) _ _ _ _ _ _).heap[σ.dk v]?=_;rwa[tq λq=>e<|p.ps.pR _ _ m t q]
  .by_cases e:v=j
   .subst e;rw[lh]at a;exact z3 v m c qG<|by rwa[D]
   .rw[jM _ e]at a;exact z3 v m c qG a
  .rcases h with⟨_,h⟩|h|h<;>cases h;exact oW
  .rcases h with h|h|h<;>cases h
  .by_cases e:k=F.L+1+j
   .subst e;rw[Q]at b;obtain rfl:=Ã b;rw[V]at G;cases G
   .rw[I k e]at b;rcases p.fu k y b G with a|⟨v,m,Cj,K,X|⟨r1,cap,s1,c,X,h4⟩⟩
    .exact À a
    .exact Á ⟨v,m,Cj,K,À<|by rwa[jM _ Z]⟩
    .have e2:v≠j:=Z
     exact Á ⟨v,m,Cj,K,Á ⟨r1,cap,s1,c,by rwa[jM _ e2],by show(w.setChan (σ.dk j) _ _ _ _ _ _).heap[σ.dk v]?=_;rwa[tq λq=>e2<|p.ps.pR _ _ m t q]⟩⟩
  .have e:v≠j:=λe=>by subst e;rw[lh]at J;cases J
   rw[jM _ e]at J;exact(p.kn v c a1 J a3).app u
  .rw[D];simp only[iJ.rk,kx.rk];have hm:F.n+3000<=(F.n+3000)*(F.q+3-r):=ç _ (by
    have a:=H.ok.n1;have:r*1<=r*F.n:=ñ _ a;omega)
   omega
 .have Uk:buf=#[]:=Array.size_eq_zero_iff.1 Z;subst Uk;have ai8:r=s:=Z
  by_cases pM:j<σ.mp.kh F.n
  .rw[show decide (j<σ.mp.kh F.n)=Ï by simpa using pM]at E;obtain⟨gs',u,T,g',O,f,Q,V,I,W,q7⟩:=p.gw.kh (sl:=sl) M jE wY ht Uj hY E .no;have U':F.L+1+j=F.L+(j+1):=Z
   have KY:σ.mp.oP F.q=F.q:=by revert pM;cases σ.mp<;>simp only[gH.kh,gH.oP]<;>intro h<;>first|trivial|omega
   have Ul:¬σ.jb (j+1):=λ⟨e,a,_⟩=>by rw[o]at a;cases a
   have KZ:jd.jb .ry↔σ.jb (j+1):=⟨λh=>h.elim,λh=>(Ul h).elim⟩;refine⟨fK.iz σ (j+1) .ry,_,_,_,_,gs',w,u,O,f,λh=>h,.of (p.kB.iz H.ok λ⟨N,h⟩=>by cases h) (f.trans p.fh) (by rwa[<-U']) (by rw[f];exact p.iD.iz ⟨λh=>h.elim,λ⟨e,a,_⟩=>by rw[o]at a;cases a⟩) p.wd.iz (p.ps.iz Z (by rw[o];rfl) (λp' h=>by rw[o]at h;cases h) (λp' h=>by cases h) (λv h=> ?_) λh=>by omega) ((OZ p.ti W).iz KZ) (λk y b G=> ?_) λv c a1 J a3=>(p.kn v c a1 J a3).app u,H0 H.ok (by rwa[<-U'])<|À ?_⟩
   .have:v=j:=Z
    subst this;exact⟨pM,r,D,λl nH=>by rw[ai8];exact(yg l).2<|by rwa[KY]⟩
   .by_cases e:k=F.L+1+j
    .subst e;rw[Q]at b;obtain rfl:=Ã b;rw[V]at G;cases G
    .rw[I k e]at b;have l:∀v,F.L+1+v=k->(fK.iz σ (j+1) .ry).ed (v+1)=σ.ed (v+1):=λv h=>fW _ _ Z;rcases p.fu k y b G with a|⟨v,m,Cj,K,X⟩
     .exact À a
     .exact Á ⟨v,m,by rwa[l v K.symm],K,X⟩
   .unfold vt;rw[o];simp only[jd.rk];rw[if_neg Z,Nat.add_sub_cancel,D];simp only[iJ.rk];have hm:F.n+3000<=(F.n+3000)*(F.q+3-r):=ç _ (by
     have a:=H.ok.n1;rcases ĸ r with l|l
     .omega
     .have K:=(yg (r-1)).1 Z;have:(r-1)*1<=(r-1)*F.n:=ñ _ a;omega)
    omega
  .rw[show decide (j<σ.mp.kh F.n)=É by simpa using pM]at E;obtain⟨gs',g',O,f,Q,V,I,W⟩:=p.gw.aij M jE wY ht Uj E;refine⟨σ,S,tr,d,lot,gs',w,#[],O,f,λh=>h,.of p.kB (f.trans p.fh) (by rwa[Û]) (by rw[f];exact p.iD) p.wd p.ps (by rw[Û];exact p.ti) (λk y b l=> ?_) (by rw[Û];exact p.kn),T8 (λ_ _=>rfl) yd (by rw[HY M,if_pos jE]) (by rw[HY Q,if_neg (by rw[V];simp)]) λk b=>Ug<|I k b⟩;by_cases e:k=F.L+1+j
   .subst e;exact Á ⟨j,t,o,U,Á ⟨r,F.q,s,r,D,E⟩⟩
   .rw[I k e]at b;exact p.fu k y b l
end
section
variable{F:Ph}{σ σ':gF F}{S:Nat->Jd}{tr v:Nat->gY}{m:Nat->jw}{f:Nat->fj}{gs gs':Array Æ}{u:é}{o:Option (Nat×Nat)}
def Ej(ok:F.Ok)(x:Nat):(F.L+x==0)=É:=by have:=ok.L1;simp;omega
def K0(a:i<σ.sp):Cb σ (F.L+i):=Á ⟨i,a,U⟩
def PI.Ek(p:PI F n zX σ S tr m f gs w qJ){x:Nat}{e:jd}(b:x<σ.sp)(c:σ.ed x=Ä e)(d:gs[F.L+x]?=Ä g)(h:g.status=Å)(i:tr (F.L+x)=.fO):∀a,fU (f<|F.L+x) (f<|F.L+x).w a->JE F e {f (F.L+x)with w:=a} g:=by let⟨j,k,_⟩:=p.sE x e b c;intro a r;have:=p.gw.HR d h i (À k) a r;rwa[j]at this
def Um(B:fw F σ gs w){x:Nat}{e:jd}(c:∀k y,gs[k]?=Ä y->y.status=Þ->k≠F.L+x):fw F (fK.iz σ x e) gs w:=by
 intro k y a b;have i:=c k y a b;rcases B k y a b with h1|⟨j,d,f,g,h⟩
 .exact À h1
 .refine Á ⟨j,d,?_,g,h⟩;show fI σ.ed x (Ä e) (j+1)=Í;rwa[fW _ _ Z]
def PI.ai9(H:iT F)(p:PI F n zX σ S tr m f gs w qJ)(hx:J<σ.sp)(s:σ.ed J=Ä .ry)(D:gs[F.L+J]?=Ä g)(I:g.status=Å)(ht:tr (F.L+J)=.fO):vp F n zX σ tr gs w qJ:=by
 have M:=jI D;have C:=p.gw.ie;have hJ:=p.Ek hx s D I ht w<|C.gy _ M;have mc:=Ej H.ok J;have Ul:¬σ.jb J:=λ⟨e,d,c⟩=>by rw[s]at d;cases d;exact c
 have KZ:jd.jb (.gC .gy)↔σ.jb J:=⟨λh=>h.elim,λh=>(Ul h).elim⟩;have KV:jR F.B0 (λi=>i<gs.size) σ.Y (gX f (F.L+J)<|mo {f (F.L+J)with w:=w}) w qJ:= C.rv M (λ_ q=>q.elim) (λ_ q=>q.elim) (λ_ q=>q.elim) (λ_ q=>q.elim) U U U (λ_ q=>q.elim) λ_ q=>q.elim;have hF:na F.P (F.L+J==0) (JE F<|.gC .gy) .fO (mo {f (F.L+J)with w:=w}) g:=by rw[mc];intro l u;let⟨W,a,b,j,k⟩:=hJ;exact⟨W,a,b,j,k.fZ u⟩
 have hS:=p.gw.rv (K:=.no) D (À I) KV hF;refine⟨fK.iz σ J<|.gC .gy,_,_,_,_,λh=>h,.of (p.kB.iz H.ok λ⟨N,h⟩=>by cases h) p.fh hS ?_ p.wd.iz (p.ps.iz hx (by rw[s];rfl) (λu h=>by rw[s]at h;cases h) (λu h W=>by cases h;exact⟨fB,fB,fB⟩) (λj h=> ?_) λh=> ?_) (p.ti.iz KZ) (Um p.fu λk y W v e=> ?_) p.kn,H0 H.ok (p.sy M)<|À ?_⟩
 .have L:=p.iD;have E:(gX f (F.L+J)<|mo {f (F.L+J)with w:=w}) (F.L+J)=mo {f (F.L+J)with w:=w}:=iV _ _ _;have l:∀k,k≠F.L+J->(gX f (F.L+J)<|mo {f (F.L+J)with w:=w}) k=f k:=λk W=>iC f _ W;have Q:(0:Nat)≠F.L+J:=by have:=H.ok.L1;omega
  have T:∀k a,(gX f (F.L+J) (mo {f (F.L+J)with w:=w}) k).Oc a->(f k).Oc a:=λk a h=>by
   by_cases q:k=F.L+J
   .subst q;rw[E]at h;exact h.elim
   .rwa[l k q]at h
  have sO:∀k a,(gX f (F.L+J) (mo {f (F.L+J)with w:=w}) k).O a->(f k).O a:=λk a h=>by
   by_cases q:k=F.L+J
   .subst q;rw[E]at h;exact h.elim
   .rwa[l k q]at h
  have G:(fK.iz σ J<|.gC .gy).ed J=Ä (.gC .gy):=il _ _ _;have B:∀y,y≠J->(fK.iz σ J<|.gC .gy).ed y=σ.ed y:=λy V=>fW _ _ V;refine⟨λk W a z=> ?_,λy d c a z=>by rw[l 0 Q];exact L.ni y d c a z,λh=>by rw[l 0 Q];exact L.n7 h,λh k d c=> ?_,λd c=> ?_,λj d c r t X=> ?_,λj d c=> ?_,λy V=> ?_,λi o=> ?_,λk d c=>by rw[l k Z];exact L.ja k d c,λk W b v=>⟨(L.kF k W b v).1,(L.kF k W b v).2.1,λi o h=>(L.kF k W b v).2.2 i o<|sO _ _ h⟩,λk W i o h=>L.nN k W i o<|T _ _ h,λk d c i o h=>L.oT k d c i o<|T _ _ h,λj d r c t i o h=>L.oz j d r c t i o<|T _ _ h⟩
  .by_cases q:k=F.L+J
   .subst q;rw[E]at z;rcases z with h|h<;>exact h.elim
   .rw[l k q]at z;exact L.iU k W a z
  .by_cases q:F.L=F.L+J
   .have u:J=0:=Z
    subst u;have:=p.ps.rz (by rw[s];simp);have zD:σ.ip.md<k:=d;rw[this]at zD;simp only[kL.md]at zD;omega
   .rw[l _ q];exact L.oQ h k d c
  .by_cases q:F.L=F.L+J
   .have u:J=0:=Z
    subst u;rw[G]at c;cases c
   .rw[l _ q];exact L.mV d<|by rwa[<-B 0 Z]
  .by_cases q:F.L+1+j=F.L+J
   .have u:J=j+1:=Z
    subst u;rw[G]at c;cases c
   .rw[l _ q];exact L.oR j d (by rwa[<-B (j+1) Z]) r t X
  .by_cases q:F.L+1+j=F.L+J
   .have u:J=j+1:=Z
    subst u;rw[G]at c;cases c
   .rw[l _ q];exact L.oS j d<|by rwa[<-B (j+1) Z]
  .by_cases q:F.L+y=F.L+J
   .rw[q,E];rfl
   .rw[l _ q];exact L.kq y (by let⟨u,d,c⟩:=V;exact⟨u,by rwa[<-B y Z],c⟩)
  .by_cases q:i=F.L+J
   .subst q;rcases o with q|⟨y,d,c,t⟩
    .exact absurd q.symm Q
    .have:y=J:=Z
     subst this;exact absurd ⟨_,G,trivial⟩ t
   .rw[l _ q];refine L.mG i<|o.imp id λ⟨y,d,c,t⟩=>⟨y,d,c,λ⟨u,X,h5⟩=>t ⟨u,by rwa[B y Z],h5⟩⟩
 .have:=p.ps.sr j Z (by rw[<-h,s];simp);exact this
 .exact p.ps.rz<|by rw[<-h,s];simp
 .subst e;rw[D]at W;obtain rfl:=Ã W;rw[I]at v;cases v
 .unfold vt;rw[s];simp only[jd.rk,kT.rk];omega
def El(σ:gF F)(x:Nat)(e:jd)(G:GS)(a:Option Nat):gF F:={fK.iz σ x e with Ga:=G,la:=a}
def Ps.K1(h:Ps F σ){e:jd}{G:GS}{la:Option Nat}(w:i<σ.sp)(D:∃z,σ.ed i=Ä z)(E:∀y,y≠i->∀p,σ.ed y=Ä (.gC p)->∀W,p≠ .ig W/\p≠ .j1 W/\p≠ .jx W) (H:∀c d,G=.cl c d->c=Ñ (F.n+1) (fK.iz σ i e).hD/\d=σ.mp.iq) (I:∀d,G=.kS d->Ñ (F.n+1) (fK.iz σ i e).hD=0/\d=σ.mp.iq/\la=Ä i/\(e=.gC (.ig d)\/e=.gC (.j1 d))) (J:∀r s,G=.iQ r s->Ñ (F.n+1) (fK.iz σ i e).hD=0/\r+s=σ.mp.iq/\(0<r->la=Ä i/\e=.gC (.jx r))) (K:∀p,e=.gC p->(∀W,p=.ig W\/p=.j1 W->la=Ä i/\G=.kS W)/\(∀r,p=.jx r->0<r/\la=Ä i/\∃s,G=.iQ r s)) (L:σ.mp=.fJ .ig\/σ.mp=.fJ .nh\/σ.mp=.gC->Ñ (F.n+1) (fK.iz σ i e).hD=0) (M:σ.mp=.fJ .ig->∃a b,G=.iQ a b) (N:(∀p,σ.mp≠ .fJ p)->σ.mp≠ .gC->∃c,G=.cl c 0):Ps F (El σ i e G la):=by
 have k:∀y,y≠i->(El σ i e G la).ed y=σ.ed y:=λy f=>fW _ _ f;have o:(El σ i e G la).ed i=Ä e:=il _ _ _;let⟨z,B⟩:=D;refine⟨h.v0,h.mj,h.xU,h.mr,h.zA,h.ik,h.oU,h.wr,λj C g=> ?_,λg=> ?_,λy f=> ?_,h.pR,h.td,H,λd t=> ?_,λr s t=> ?_,λy p f=> ?_,L,h.rA,h.qp,h.tj,h.xW,M,N,h.uw,h.xY⟩
 .by_cases q:j+1=i
  .exact h.sr j C<|by rw[q,B];simp
  .rw[k _ q]at g;exact h.sr j C g
 .by_cases q:0=i
  .exact h.rz<|by rw[q,B];simp
  .rw[k _ q]at g;exact h.rz g
 .have:σ.sp<=y:=f;rw[k y Z];exact h.su y f
 .let⟨u,v,l,m⟩:=I d t;exact⟨u,v,i,w,l,by rw[o];exact m.imp (λq=>by rw[q]) λq=>by rw[q]⟩
 .let⟨u,v,l⟩:=J r s t;exact⟨u,v,λm=>⟨i,w,(l m).1,by rw[o,(l m).2]⟩⟩
 .by_cases q:y=i
  .subst q;rw[o]at f;exact K p<|Ã f
  .rw[k y q]at f;have l:=E y q p f;exact⟨λW u=>(u.elim (l W).1 (l W).2.1).elim,λr m=>((l r).2.2 m).elim⟩
def aja{G:GS}(a:jc W F.fL G)(h:Wd F {σ with Ga:=G,Gg:=σ.Gg} W){x:Nat}{e:jd}{b:Option Nat}:Wd F (El σ x e G b) W:=⟨a,h.j4,h.kU,h.nj,h.qm,h.pQ⟩
def PI.K2(H:iT F)(p:PI F n zX σ S tr m f gs w qJ){x:Nat}{a e:jd}{G:GS}{la:Option Nat}{c:Æ}{T:gY}(hx:x<σ.sp)(d:σ.ed x=Ä a)(t:a.jb)(I:e.jb)(J:e.oh)(v:gs[F.L+x]?=Ä g)(z:mq F.fL w W)(B:jc W F.fL G)(K:ŝ F.P (ò gs w o) (F.L+x)=(Ģ<|ò gs' W o,u))(C:gs'.size=gs.size)(M:gs'[F.L+x]?=Ä c)(O:c.status=Å\/c.status=æ)(Q:∀k,k≠F.L+x->gs'[k]?=gs[k]?.map (Ą F.P g c W)) (X:iI F.P F.B0 σ.Y (fI S (F.L+x)<|JE F e) (fI tr (F.L+x) T) (fI m (F.L+x) .no) (gX f (F.L+x) {f (F.L+x)with w:=W}) gs' W (qJ++u)) (q6:TI F.toFx n zX σ.sp σ.ip.rl σ.V σ.pk σ.fs σ.jb σ.ql (qJ++u)) (q7:jF F σ (gX f (F.L+x) {f (F.L+x)with w:=W}) gs'.size W) (hT:(∃N,e=.ko N)->T=.fO) (hP:Ps F (El σ x e G la)) (D:(e.rk F).1<(a.rk F).1\/((e.rk F).1=(a.rk F).1/\(e.rk F).2<(a.rk F).2)) (Ee:σ.mp=.fJ .ml->σ.Ga.sm=0->G.sm=0\/∀y,gs'[0]?=Ä y->y.status≠Þ):lF F n zX σ tr gs w qJ o (F.L+x):=by
 have KZ:e.jb↔σ.jb x:=⟨λ_=>⟨a,d,t⟩,λ_=>I⟩;have Un:e.oh↔σ.oh x:=⟨λ_=>J_ ⟨a,d,t⟩,λ_=>J⟩;have h0:(0:Nat)≠F.L+x:=by have:=H.ok.L1;omega
 have E:F.jg F.fL:=À U;have W1:=z.wd H p.iD p.ps p.wd E ⟨λ_=>B,λq=>absurd U q⟩ λk b=>⟨λq=>absurd q.symm<|H.ok.AO k b,λ_=>rfl⟩;refine⟨El σ x e G la,_,_,_,_,gs',W,u,K,C,λh=>h,.of ?_ (C.trans p.fh) X ?_ (aja B W1) hP ?_ ?_ λj r b l s=>(p.kn j r b l s).app u,?_⟩
 .have:=p.kB.iz (x:=x) H.ok hT;exact⟨this.s0,this.sI,this.sW,this.sE,this.sO⟩
 .have:=q7.iz Un;exact⟨this.iU,this.ni,this.n7,this.oQ,this.mV,this.oR,this.oS,this.kq,this.mG,this.ja,this.kF,this.nN,this.oT,this.oz⟩
 .exact q6.iz KZ
 .refine p.fu.nF (σ':=El σ x e G la) M (by rcases O with q|q<;>rw[q]<;>simp) Q (λj i=>z.mh p.ps E i) U U (λy i=>fW _ _ Z) (λ_=>rfl) (λ_ _=>rfl) (λ_ i j=>Ee i j) λ_ _ _ _ h=>À h
 .have j:vt F σ x=a.rk F:=by unfold vt;rw[d]
  have:=H0 (σ:=σ) (tr:=tr) (gs:=gs) (gs':=gs') (T:=T) H.ok (p.sy<|jI v) (by rwa[j]);rcases this with⟨i,b,l,s⟩|⟨b,_⟩
  .exact À ⟨i,b,l,s⟩
  .exfalso;have:=b _<|p.sy<|jI v;change(fK.iz σ x e).fX (fI tr (F.L+x) T) (F.L+x)=σ.fX tr (F.L+x)at this;rw[OQ H.ok (σ:=fK.iz σ x e)<|il _ _ _,OQ H.ok d]at this;injection this with b1 b2;injection b2 with b2 _;rcases D with q|⟨_,q⟩<;>omega
def ajb(h:V=#[mg<|gp F.fL,py<|gp F.fL]\/V=#[mg<|gp F.fL]\/V=#[py<|gp F.fL]\/V=û (iP F.fL)):∀e∈V,∀b,(Ë e).touch?=Ä b->∃y:đ,b.loc=ā y/\y.block=F.fL:=by
 intro e c b d;have:∃x:đ,x.block=F.fL/\(e.loc=ā x\/e.loc=ź ú\/e.loc=ź ð):=by
  rcases h with rfl|rfl|rfl|rfl
  .simp at c;rcases c with rfl|rfl<;>exact⟨gp F.fL,U,À U⟩
  .simp at c;subst c;exact⟨gp F.fL,U,À U⟩
  .simp at c;subst c;exact⟨gp F.fL,U,À U⟩
  .simp[û]at c;rcases c with rfl|rfl|rfl|rfl
   .exact⟨iP F.fL,U,Á<|À U⟩
   .exact⟨iP F.fL,U,À U⟩
   .exact⟨iP F.fL,U,À U⟩
   .exact⟨iP F.fL,U,Á<|Á U⟩
 let⟨x,g,a⟩:=this;let⟨i,wr,f⟩:=e;rcases a with a|a|a
 .simp only at a;subst a;have:(Ë ⟨ā x,wr,f⟩).touch?=Ä ⟨ā x,wr,if f then .atomic else .plain⟩:=by cases wr<;>cases f<;>rfl
  rw[this]at d;obtain rfl:=Ã d;exact⟨x,U,g⟩
 .simp only at a;subst a;simp[Ë,Đ]at d
 .simp only at a;subst a;simp[Ë,Đ]at d
def K3(p:PI F n zX σ S tr m f gs w qJ)(a:F.L+i<gs.size)(c:(f<|F.L+i).d=1)(h:V=#[mg<|gp F.fL,py<|gp F.fL]\/V=#[mg<|gp F.fL]\/V=#[py<|gp F.fL]\/V=û (iP F.fL)): ∀y,σ.jb y->F.L+i=F.L+y->(∀e∈V,∀b,(Ë e).touch?=Ä b->∃y:đ,b.loc=ā y/\y.block=F.fL)/\D9 (af qJ<|F.L+i) V:=by
 intro y _ _;refine⟨ajb h,?_⟩;rw[p.gw.ie.mT _ a,c];rcases h with rfl|rfl|rfl|rfl
 .exact OS.1
 .exact OS.2.1
 .exact OS.2.2.1
 .exact OS.2.2.2
def PI.ajc(H:iT F)(p:PI F n zX σ S tr m f gs w qJ){x:Nat}(i:x<σ.sp)(a:σ.ed x=Ä (.gC .gy))(k:gs[F.L+x]?=Ä g)(E:g.status=Å)(G:tr (F.L+x)=.fO):lF F n zX σ tr gs w qJ o (F.L+x):=by
 have s:=jI k;have C:=p.gw.ie;let⟨I,_,g',c,d⟩:=p.Ek i a k E G w<|C.gy _ s;have t:=Ej H.ok x;have J:=(C.mT _ s).trans I;have K:F.jg F.fL:=À U;have u:∀y:Ć,y.act=Ğ (ķ<|gp F.fL)->y.act.touch?=Í:=λy b=>by rw[b];rfl
 have M:¬σ.jb x:=λ⟨e,c,d⟩=>by rw[a]at c;cases c;exact d
 let⟨T,O⟩:=ku d;have v:=nO (λl g h=>À h.2.1) d;obtain⟨gs',y,P,Q,V,B,X,Y,q5,q7⟩:=p.Eh H .no k (by rw[t];exact c w) fB fB (λy b=>⟨λz l=>(by rw[u y b]at l;cases l),by rw[b];exact C.kE _<|À K⟩) (λy _ b=>DZ C.rp λq j=>by rw[AT j];exact u y b) (by rwa[t]) v;have D:=p.ti.aiw i P Q J M;have Un:jd.oh (.gC .iX)↔σ.oh x:=⟨λ_=>⟨_,a,trivial⟩,λ_=>trivial⟩;refine⟨{fK.iz σ x (.gC .iX)with ql:=fI σ.ql x qJ.size},_,_,_,_,gs',w,#[y],V,B,λh=>h,.of ?_ (B.trans p.fh) q5 ?_ ?_ ?_ ?_ ?_ λj r q W a3=>(p.kn j r q W a3).app _,H0 H.ok (p.sy s)<|À ?_⟩
 .have:=p.kB.iz (x:=x) (e:=.gC .iX) (T:=T) H.ok (λ⟨N,h⟩=>by cases h);exact⟨this.s0,this.sI,this.sW,this.sE,this.sO⟩
 .have:=q7.iz (x:=x) (e:=.gC .iX) Un;exact⟨this.iU,this.ni,this.n7,this.oQ,this.mV,this.oR,this.oS,this.kq,this.mG,this.ja,this.kF,this.nN,this.oT,this.oz⟩
 .exact⟨p.wd.fL,p.wd.j4,p.wd.kU,p.wd.nj,p.wd.qm,p.wd.pQ⟩
 .have h:=p.ps.iz (x:=x) (e:=.gC .iX) i (by rw[a];rfl) (λq h W=>by rw[a]at h;cases h;exact⟨fB,fB,fB⟩) (λq h W=>by cases h;exact⟨fB,fB,fB⟩) (λj h=>p.ps.sr j Z<|by rw[<-h,a];simp) (λh=>p.ps.rz<|by rw[<-h,a];simp);exact⟨h.v0,h.mj,h.xU,h.mr,h.zA,h.ik,h.oU,h.wr,h.sr,h.rz,h.su,h.pR,h.td,h.tf,h.sw,h.tg,h.qo,h.xV,h.rA,h.qp,h.tj,h.xW,h.AP,h.aM,h.uw,h.xY⟩
 .refine{D with jA:=λz l j=>D.jA z l ?_};by_cases q:z=x
  .exact Á q
  .exact À<|(S' q).1 j
 .refine p.fu.nF (σ':={fK.iz σ x (.gC .iX)with ql:=fI σ.ql x qJ.size}) X (by rcases v with q|q<;>rw[q]<;>simp) Y (λ_ _=>rfl) U U (λy b=>fW _ _ Z) (λ_=>rfl) (λ_ _=>rfl) (λ_ _ h=>À h) λ_ _ _ _ h=>À h
 .unfold vt;rw[a];simp only[jd.rk,kT.rk];omega
end
section
variable{F:Ph}{σ J:gF F}{S:Nat->Jd}{m K:Nat->gY}{B:Nat->jw}{o:Nat->fj}{I:Array Æ}{u:é}{G:Option (Nat×Nat)}
def V_{N:Nat}{l:fj}(h:Ε P N l.d g):na P É (ru P N) .fO l g:=λ_ _=>h
def W_(a:Ps F σ):σ.sp<=σ.mp.ad F.n:=by unfold gF.sp;cases σ.mp<;>simp only[gH.sp,gH.ad]<;>omega
def K4(b:Ps F σ){e:jd}(d:i<σ.sp):Ñ (F.n+1) (fK.iz σ i e).hD+oy (σ.ed i)=Ñ (F.n+1) σ.hD+e.hD:=by
 have g:=W_ b;have h:=HP b;have:=AS (f:=σ.hD) (f':=(fK.iz σ i e).hD) (j:=i) (n:=F.n+1) Z (λa c=>by unfold gF.hD;show(if a<σ.mp.ad F.n then oy (fI σ.ed i (Ä e) a)else 0)=_;rw[fW _ _ c]);have a:σ.hD i=oy (σ.ed i):=by unfold gF.hD;rw[if_pos Z]
 have c:(fK.iz σ i e).hD i=e.hD:=by unfold gF.hD;show(if i<σ.mp.ad F.n then oy (fI σ.ed i (Ä e) i)else 0)=_;rw[if_pos Z,il];rfl
 rwa[a,c]at this
def X_(b:Ps F σ)(h:σ.Ga=.cl i n):∀y p,σ.ed y=Ä (.gC p)->∀W,p≠ .ig W/\p≠ .j1 W/\p≠ .jx W:=by
 intro y p d W;let⟨a,e⟩:=b.qo y p d;refine⟨λq=> ?_,λq=> ?_,λq=> ?_⟩
 .have:=(a W<|À q).2;rw[h]at this;cases this
 .have:=(a W<|Á q).2;rw[h]at this;cases this
 .let⟨_,_,s,this⟩:=e W q;rw[h]at this;cases this
def Uo(c:Ps F σ)(h:σ.la=Ä i):∀y,y≠i->∀p,σ.ed y=Ä (.gC p)->∀W,p≠ .ig W/\p≠ .j1 W/\p≠ .jx W:=by
 intro y a p d W;let⟨b,e⟩:=c.qo y p d;refine⟨λq=> ?_,λq=> ?_,λq=> ?_⟩
 .have:=(b W<|À q).1;rw[h]at this;exact a (Ã this).symm
 .have:=(b W<|Á q).1;rw[h]at this;exact a (Ã this).symm
 .have:=(e W q).2.1;rw[h]at this;exact a (Ã this).symm
def PI.ajd(p:PI F n zX σ S m B o E w qJ)(e:i<σ.sp)(d:σ.ed i=Ä (.gC .iX)):∃c a,σ.Ga=.cl (c+1) a/\c+1=Ñ (F.n+1) σ.hD/\a=σ.mp.iq/\¬(σ.mp=.fJ .ig\/σ.mp=.fJ .nh\/σ.mp=.gC):=by
 have g:1<=Ñ (F.n+1) σ.hD:=by
  have q:=W_ p.ps;have r:=HP p.ps;have:=T5 (f:=σ.hD) (j:=i) (n:=F.n+1) Z;have s:σ.hD i=1:=by unfold gF.hD;rw[if_pos Z,d];rfl
  omega
 obtain⟨c,a,b⟩:∃c a,σ.Ga=.cl (c+1) a:=by
  cases q:σ.Ga with
  |cl c a=>
   have:=(p.ps.tf c a q).1;exact⟨c-1,a,by congr 1;omega⟩
  |kS a=>have:=(p.ps.sw a q).1;omega
  |iQ r s=>have:=(p.ps.tg r s q).1;omega
 let⟨r,s⟩:=p.ps.tf _ _ b;exact⟨c,a,b,r,s,λq=>by have:=p.ps.xV q;omega⟩
def PI.aje(H:iT F)(p:PI F n zX σ S m B o E w qJ)(t:i<σ.sp)(J:σ.ed i=Ä (.gC .iX))(K:E[F.L+i]?=Ä g)(jE:g.status=Å)(ht:m (F.L+i)=.fO)(V:σ.Ga=.cl (j+1) k)(Ck:j+1=Ñ (F.n+1) σ.hD)(O1:k=σ.mp.iq)(K5:¬(σ.mp=.fJ .ig\/σ.mp=.fJ .nh\/σ.mp=.gC))(hl:j=0/\0<k):lF F n zX σ m E w qJ G (F.L+i):=by
 have z:=jI K;have C:=p.gw.ie;let⟨hd,_,yh⟩:=p.Ek t J K jE ht w<|C.gy _ z;have rD:=hd;have mc:=Ej H.ok i;have X:F.jg F.fL:=À U;have M:=V▸p.wd.fL;let⟨ev,Y⟩:=M.jA;have key:=yh (GS.cl (j+1) k).st;rw[ev]at key Y;obtain⟨d,O⟩:∃d,(GS.jA<|.cl (j+1) k).st=d:=⟨_,U⟩;rw[O]at key;let⟨g',h1,h2⟩:=key;have Cg:=h1 w M.st M.vj;rw[<-O]at Cg;let⟨k1,k2,k3⟩:=M.ok;have Q:mq F.fL w (w.setCell (gp F.fL)<|ê Ô (GS.jA<|.cl (j+1) k).st):=Á ⟨_,_,À U,U⟩;have D:=Q.yc p.iD H.ok X;have tu:fU {o (F.L+i)with w:=w} w (w.setCell (gp F.fL)<|ê Ô (GS.jA<|.cl (j+1) k).st):=⟨Ö D.fh.symm,λb lV=>D.lr b<|C.fX _ z b lV,λa ha=>D.fg _ z a ha,λa ha=>D.fC _ z a ha,λa _=>D.ia a⟩;have ed:GS.jA (.cl (j+1) k)=.kS k:=by simp only[GS.jA,if_pos hl]
 rw[ed]at Cg Y Q D tu O;have f:fA F.P É (OA F.P É F.fL (HJ F) k) {o (F.L+i)with w:=w} g':=by
  have e0:d=(k:Int):=O.symm;have e1:¬(d=0\/(gO<=d/\d<1000000*gO/\d%gO<1000000)):=by simp only[gO];omega
  have e2:0<d/\d<1000000:=Z
  have e3:d.toNat=k:=Z
  simp only[if_neg e1,if_pos e2,e3]at h2;exact h2
 let⟨T,hT⟩:=ku<|f.fZ tu;have oa:=nO (λl g h=>À h.2.1) f;obtain⟨I,u,q1,q2,q3,q4,q5,q6,q7⟩:=p.oV H .no K (K0 t) X (by rwa[mc]) Q (Ea X) U (K3 p z rD<|À U) (by rwa[mc]) oa;have Cl:=K4 p.ps (e:=.gC (.ig k)) t;rw[J]at Cl;have hz:Ñ (F.n+1) (fK.iz σ i<|.gC (.ig k)).hD=0:=by simp only[oy,jd.hD,kT.hD]at Cl;omega
 refine p.K2 H (e:=.gC (.ig k)) (la:=Ä i) t J trivial trivial trivial K Q Y q1 q2 q3 oa q4 q5 q6 q7 (λ⟨N,h⟩=>by cases h) (p.ps.K1 t ⟨_,J⟩ (λy _ p' hy W=>X_ p.ps V y p' hy W) (λc' Up h=>by cases h) (λUp h=> ?_) (λr s h=>by cases h) (λp' h=> ?_) (λq=>absurd q K5) (λq=>absurd (À q) K5) λq1 q2=> ?_) (À ?_) λ_ _=>À rfl
 .injection h with h;subst h;exact⟨hz,O1,U,À U⟩
 .cases h;exact⟨λW f=>(by rcases f with f|f<;>cases f;exact⟨U,U⟩),λr hr=>by cases hr⟩
 .let⟨c',h'⟩:=p.ps.aM q1 q2;rw[V]at h';injection h' with _ h';omega
 .simp only[jd.rk,kT.rk];have:k<=1:=by
   rw[O1];cases σ.mp<;>simp only[gH.iq]<;>first|omega|(rename_i v;cases v<;>simp[kx.vo])
  omega
def PI.ajf(H:iT F)(p:PI F n zX σ S m B o E w qJ)(f:i<σ.sp)(t:σ.ed i=Ä (.gC .iX))(v:E[F.L+i]?=Ä g)(jE:g.status=Å)(ht:m (F.L+i)=.fO)(M:σ.Ga=.cl (j+1) k)(Ck:j+1=Ñ (F.n+1) σ.hD)(O1:k=σ.mp.iq)(K5:¬(σ.mp=.fJ .ig\/σ.mp=.fJ .nh\/σ.mp=.gC))(hl:¬(j=0/\0<k)):lF F n zX σ m E w qJ G (F.L+i):=by
 have l:=jI v;have C:=p.gw.ie;let⟨hd,_,yh⟩:=p.Ek f t v jE ht w<|C.gy _ l;have rD:=hd;have mc:=Ej H.ok i;have O:F.jg F.fL:=À U;have z:=M▸p.wd.fL;let⟨ev,P⟩:=z.jA;have Q:=yh (GS.cl (j+1) k).st;rw[ev]at Q P;obtain⟨d,J⟩:∃d,(GS.jA<|.cl (j+1) k).st=d:=⟨_,U⟩;rw[J]at Q;let⟨g',h1,h2⟩:=Q;have T:=h1 w z.st z.vj;rw[<-J]at T;let⟨k1,k2,k3⟩:=z.ok;have K:mq F.fL w (w.setCell (gp F.fL)<|ê Ô (GS.jA<|.cl (j+1) k).st):=Á ⟨_,_,À U,U⟩;have D:=K.yc p.iD H.ok O;have tu:fU {o (F.L+i)with w:=w} w (w.setCell (gp F.fL)<|ê Ô (GS.jA<|.cl (j+1) k).st):=⟨Ö D.fh.symm,λb lV=>D.lr b<|C.fX _ l b lV,λa V=>D.fg _ l a V,λa V=>D.fC _ l a V,λa _=>D.ia a⟩;have ed:GS.jA (.cl (j+1) k)=.cl j k:=by simp only[GS.jA,if_neg hl]
 rw[ed]at T P K D tu J;obtain⟨N,hN⟩:HJ F {o (F.L+i)with w:=w} g':=by
  have q:d=(j:Int)*gO+(k:Int):=J.symm;have h:d=0\/(gO<=d/\d<1000000*gO/\d%gO<1000000):=by simp only[gO]at q|-;omega
  simp only[if_pos h]at h2;exact h2
 have oa:=hN.status;obtain⟨I,u,X,Y,q3,q4,q5,q6,q7⟩:=p.oV H .no v (K0 f) O (by rwa[mc]) K (Ea O) U (K3 p l rD<|À U) (by rw[mc];exact V_ hN) oa;have Cl:=K4 p.ps (e:=.ko N) f;rw[t]at Cl;have hz:Ñ (F.n+1) (fK.iz σ i<|.ko N).hD=j:=by simp only[oy,jd.hD,kT.hD]at Cl;omega
 refine p.K2 H (e:=.ko N) (la:=σ.la) f t trivial trivial trivial v K P X Y q3 oa q4 q5 q6 q7 (λ_=>rfl) (p.ps.K1 f ⟨_,t⟩ (λy _ q h W=>X_ p.ps M y q h W) (λy r h=> ?_) (λr h=>by cases h) (λr s h=>by cases h) (λq h=>by cases h) (λq=>absurd q K5) (λq=>absurd (À q) K5) λX Y=> ?_) (À ?_) λ_ _=>À rfl
 .injection h with h q;subst h q;exact⟨hz.symm,O1⟩
 .let⟨y,q⟩:=p.ps.aM X Y;rw[M]at q;injection q with _ q;exact⟨j,by rw[q]⟩
 .simp only[jd.rk,kT.rk];omega
def PI.ajg(H:iT F)(p:PI F n zX σ S m B o E w qJ)(a:i<σ.sp)(b:σ.ed i=Ä (.gC .iX))(d:E[F.L+i]?=Ä g)(e:g.status=Å)(f:m (F.L+i)=.fO):lF F n zX σ m E w qJ G (F.L+i):=by
 let⟨c,r,h,j,k,l⟩:=p.ajd a b;by_cases q:c=0/\0<r
 .exact p.aje H a b d e f h j k l q
 .exact p.ajf H a b d e f h j k l q
def PI.ajh(H:iT F)(p:PI F n zX σ S m B o E w qJ)(c:i<σ.sp)(d:σ.ed i=Ä (.gC (.ig j)))(f:E[F.L+i]?=Ä g)(Q:g.status=Å)(V:m (F.L+i)=.fO):lF F n zX σ m E w qJ G (F.L+i):=by
 have z:=jI f;have C:=p.gw.ie;let⟨X,_,Y⟩:=p.Ek c d f Q V w<|C.gy _ z;have rD:=X;have D:=Ej H.ok i;have J:F.jg F.fL:=À U;let⟨t,k⟩:=(p.ps.qo i _ d).1 j<|À U;have K:=k▸p.wd.fL;let⟨g',h1,v⟩:=Y (j:Int);simp only[if_true]at v;let⟨T,hT⟩:=ku v;have M:=nO (λl g h=>À h.2.1) v;obtain⟨I,u,l,y,q3,q4,q5,q6,q7⟩:=p.oV H .no f (K0 c) J (by rw[D];exact h1 w K.st) (À U) (Cc J) U (K3 p z rD<|Á<|À U) (by rwa[D]) M;have O:=K4 p.ps (e:=.gC (.j1 j)) c;rw[d]at O;let⟨b1,b2,_⟩:=p.ps.sw j k;have P:Ñ (F.n+1) (fK.iz σ i<|.gC (.j1 j)).hD=0:=by simp only[oy,jd.hD,kT.hD]at O;omega
 refine p.K2 H (e:=.gC (.j1 j)) (la:=σ.la) c d trivial trivial trivial f (À U) K l y q3 M q4 q5 q6 q7 (λ⟨N,h⟩=>by cases h) (p.ps.K1 c ⟨_,d⟩ (Uo p.ps t) (λc' a h=>by cases h) (λa h=> ?_) (λr s h=>by cases h) (λa h=> ?_) (λ_=>P) (λq=> ?_) λl y=> ?_) (À ?_) λ_ h=>À rfl
 .injection h with h;subst h;exact⟨P,b2,t,Á U⟩
 .cases h;exact⟨λs a=>(by rcases a with a|a<;>cases a;exact⟨t,U⟩),λr b=>by cases b⟩
 .let⟨a,b,h⟩:=p.ps.AP q;rw[k]at h;cases h
 .let⟨c',a⟩:=p.ps.aM l y;rw[k]at a;cases a
 .simp only[jd.rk,kT.rk];omega
def PI.aji(H:iT F)(p:PI F n zX σ S m B o E w qJ)(c:i<σ.sp)(d:σ.ed i=Ä (.gC (.j1 j)))(k:E[F.L+i]?=Ä g)(X:g.status=Å)(Y:m (F.L+i)=.fO):lF F n zX σ m E w qJ G (F.L+i):=by
 have f:=jI k;have C:=p.gw.ie;let⟨hd,_,g',h1,M⟩:=p.Ek c d k X Y w<|C.gy _ f;have rD:=hd;have O:=Ej H.ok i;have v:F.jg F.fL:=À U;let⟨y,z⟩:=(p.ps.qo i _ d).1 j<|Á U;have t:=z▸p.wd.fL;have Uq:=t.ok.1;have J:mq F.fL w (w.setCell (gp F.fL)<|ê Ô 0):=Á ⟨_,_,À U,U⟩;have D:=J.yc p.iD H.ok v;let⟨T,hT⟩:=ku (M.fZ ⟨Ö D.fh.symm,λb l=>D.lr b<|C.fX _ f b l,λa h=>D.fg _ f a h,λa h=>D.fC _ f a h,λa _=>D.ia a⟩);have P:=nO (λl g h=>by
  cases j with
  |zero=>omega
  |succ j=>exact À h.2.1) M
 obtain⟨I,u,l,K,q3,q4,q5,q6,q7⟩:=p.oV H .no k (K0 c) v (by rw[O];exact h1 w _ t.st t.vj) J (N' v) U (K3 p f rD<|Á<|Á<|À U) (by rwa[O]) P;have Q:=K4 p.ps (e:=.gC (.jx j)) c;rw[d]at Q;let⟨b1,b2,_⟩:=p.ps.sw j z;have V:Ñ (F.n+1) (fK.iz σ i<|.gC (.jx j)).hD=0:=by simp only[oy,jd.hD,kT.hD]at Q;omega
 refine p.K2 H (e:=.gC (.jx j)) (la:=σ.la) c d trivial trivial trivial k J t.F' l K q3 P q4 q5 q6 q7 (λ⟨N,h⟩=>by cases h) (p.ps.K1 c ⟨_,d⟩ (Uo p.ps y) (λc' a h=>by cases h) (λa h=>by cases h) (λr s h=> ?_) (λa h=> ?_) (λ_=>V) (λq=>⟨j,0,rfl⟩) λl K=> ?_) (À ?_) λ_ h=>À rfl
 .injection h with h a;subst h a;exact⟨V,Z,λ_=>⟨y,U⟩⟩
 .cases h;exact⟨λs b=>(by rcases b with b|b<;>cases b),λr q=>by cases q;exact⟨Uq,y,0,U⟩⟩
 .let⟨c',a⟩:=p.ps.aM l K;rw[z]at a;cases a
 .simp only[jd.rk,kT.rk];omega
def X'(p:PI F n zX σ S m B o E w qJ){a y:Æ}(d:mayWake F.P g=Ï)(f:a.status=Å)(i:E[k]?=Ä y)(j:B k=.jx):(Ą F.P g a W y).status≠Þ:=by
 intro h;let⟨e,l⟩:=KM h;let⟨g0,_,b,c,_⟩:=p.gw.kv k y i;rw[j]at b;cases b with
 |gR=>rw[l]at c;rcases c with q|q<;>cases q
 |qk r q=>
  unfold Ą at h;rw[if_pos (by simp[d,f])]at h;unfold ĕ at h;simp only[q]at h;cases h
def PI.ajj(H:iT F)(p:PI F n zX σ S m B o E w qJ)(c:i<σ.sp)(d:σ.ed i=Ä (.gC (.jx j)))(k:E[F.L+i]?=Ä g)(jE:g.status=Å)(ht:m (F.L+i)=.fO):lF F n zX σ m E w qJ G (F.L+i):=by
 have f:=jI k;have C:=p.gw.ie;have hJ:=p.Ek c d k jE ht w<|C.gy _ f;let⟨hr0,J,s,K⟩:=(p.ps.qo i _ d).2 j U;obtain⟨j,rfl⟩:∃M,j=M+1:=⟨j-1,Z⟩;let⟨hd,_,Ur,g',O,h1,h2⟩:=hJ;have rD:=hd;have mc:=Ej H.ok i;have Q:F.jg F.fL:=À U;have V:=K▸p.wd.fL;have W:mq F.fL w (w.setCell (iP F.fL)<|ê â<|â.wrap<|(GS.iQ (j+1) s).sm+1):=Á ⟨_,_,Á U,U⟩;have D:=W.yc p.iD H.ok Q;have tu:fU {o (F.L+i)with w:=w} w (w.setCell (iP F.fL)<|ê â<|â.wrap<|(GS.iQ (j+1) s).sm+1):=⟨Ö D.fh.symm,λb lV=>D.lr b<|C.fX _ f b lV,λa X=>D.fg _ f a X,λa X=>D.fC _ f a X,λa _=>D.ia a⟩;let⟨b1,b2,_⟩:=p.ps.tg _ _ K;have vu:=p.s0.2;obtain⟨e,T,hF,Y,Cm,he3,Y_⟩:∃(e:jd) (T:gY),na F.P É (JE F e) T {o (F.L+i)with w:=w.setCell (iP F.fL) (ê â<|â.wrap<|(GS.iQ (j+1) s).sm+1)} g'/\(e.jb/\e.oh/\e.hD=0)/\((∃N,e=.ko N)->T=.fO)/\((e.rk F).1<((jd.gC<|.jx (j+1)).rk F).1)/\((j=0/\∃N,e=.ko N)\/(0<j/\e=.gC (.jx j))):=by
  cases j with
  |zero=>
   obtain⟨N,hN⟩:HJ F {o (F.L+i)with w:=w} g':=h2;exact⟨.ko N,.fO,V_ hN,⟨trivial,trivial,U⟩,λ_=>rfl,by simp only[jd.rk,kT.rk];omega,À ⟨U,N,U⟩⟩
  |succ j=>
   have h3:=h2;let⟨T,hT⟩:=ku<|h3.fZ tu;have Q_:j+1+1+s<=1:=by rw[b2];cases σ.mp<;>simp only[gH.iq]<;>first|omega|(rename_i v;cases v<;>simp[kx.vo])
   omega
 obtain⟨I,u,q1,q2,q3,q4,q5,q6,q7⟩:=p.oV H .no k (K0 c) Q (by rw[mc];exact h1 w _ V.sm V.zx) W (KP Q) (KQ _).2.2.2 (K3 p f rD<|Á<|Á<|Á U) (by rwa[mc])<|À O;have Cl:=K4 p.ps (e:=e) c;rw[d,Y.2.2]at Cl;have hz:Ñ (F.n+1) (fK.iz σ i e).hD=0:=by simp only[oy,jd.hD,kT.hD]at Cl;omega
 refine p.K2 H (la:=σ.la) c d trivial Y.1 Y.2.1 k W V.gy q1 q2 q3 (À O) q4 q5 q6 q7 Cm (p.ps.K1 c ⟨_,d⟩ (Uo p.ps J) (λc' Up h=>by cases h) (λUp h=>by cases h) (λM s' h=> ?_) (λp' h=> ?_) (λ_=>hz) (λq=>⟨j,s+1,rfl⟩) λq1 q2=> ?_) (À he3) λhm _=>Á λy hy=> ?_
 .injection h with h l;subst h l;refine⟨hz,Z,λhr=>⟨J,?_⟩⟩;rcases Y_ with⟨q,_⟩|⟨_,q⟩
  .omega
  .exact q
 .subst h;rcases Y_ with⟨_,N,q⟩|⟨hr,q⟩
  .cases q
  .cases q;exact⟨λW' t=>(by rcases t with t|t<;>cases t),λM qG=>by cases qG;exact⟨hr,J,s+1,U⟩⟩
 .let⟨c',l⟩:=p.ps.aM q1 q2;rw[K]at l;cases l
 .have h0:(0:Nat)≠F.L+i:=by have:=H.ok.L1;omega
  rw[q4 0 h0]at hy;obtain⟨z,K6,rfl⟩:=Ú.1 hy;exact X' p Ur O K6<|by rw[vu,hm];rfl
end
section
variable{F:Ph}{σ σ':gF F}{S:Nat->Jd}{f z:Nat->gY}{l:Nat->jw}{o:Nat->fj}{v:Array Æ}{u:é}{D:Option (Nat×Nat)}
def Em(ok:F.Ok):(F.L==0)=É:=by have:=ok.L1;simp;omega
def H3(h:0<σ.sp):Cb σ F.L:=Á ⟨0,h,U⟩
def H4(b:σ.ed 0=Í):∀x,σ.jb x->F.L=F.L+x->False:=λx ⟨e,a,_⟩ h2=>by
 have:x=0:=Z
 subst this;rw[b]at a;cases a
def PI.En(p:PI F n zX σ S f l o E w qJ)(b:0<σ.sp)(c:σ.ed 0=Í)(d:E[F.L]?=Ä g)(e:g.status=Å)(h:f F.L=.fO):∀a,fU (o F.L) (o F.L).w a->JI F σ.sg σ.ip {o F.L with w:=a} g:=by let⟨i,j⟩:=p.sI b c;intro a r;have:=p.gw.HR d e h (À j) a r;rwa[i]at this
def uy.O2(h:uy F σ S f l)(ok:F.Ok){ip:kL}{sg:Nat->F.γ}{T:gY}(c:σ.ed 0=Í):uy F {σ with ip:=ip,sg:=sg} (fI S F.L<|JI F sg ip) (fI f F.L T) (fI l F.L .no):=by
 have:=ok.L1;refine⟨by rw[fW S _ Z,fW l _ Z];exact h.s0,λb a=>by rw[il,il];exact⟨U,U⟩,λj b a=>by rw[fW S _ Z,fW l _ Z];exact h.sW j b a,λy e b a=> ?_,λi b a=>by rw[fW S _ Z,fW l _ Z,fW f _ Z];exact h.sO i b a⟩;have d:y≠0:=λq=>by subst q;have:σ.ed 0=Ä e:=a;rw[c]at this;cases this
 rw[fW S _ Z,fW l _ Z,fW f _ Z];exact h.sE y e b a
def O3(ok:F.Ok){T:gY}(d:F.L<F.N)(a:σ.ed 0=Í)(b:σ'.ed=σ.ed)(e:σ'.mp=σ.mp)(g:σ'.lv=σ.lv)(i:σ'.wp=σ.wp)(h:σ'.ip.rk F<σ.ip.rk F):sx F.N (σ'.mu (fI f F.L T) v) (σ.mu f E):=by refine KN d (À ?_) λk c=>Ca (λ_=>by rw[e]) (λ_ _=>by rw[g]) (λ_=>by rw[b]) (λq=>absurd q c) (λ_ _=>by rw[i])<|fW f _ c;rw[T4 ok (σ:=σ') (by rwa[b]),T4 ok a];exact h
def Us(B:fw F σ E w)(c:σ'.mp=σ.mp)(d:σ'.sp=σ.sp)(e:σ'.ed=σ.ed)(f:σ'.wp=σ.wp)(g:σ'.dk=σ.dk)(h:σ'.Ga=σ.Ga)(i:σ'.Gg=σ.Gg):fw F σ' E w:=by
 intro k y l m;rcases B k y l m with⟨n,a,b⟩|⟨j,o,p,a,b⟩
 .exact À ⟨n,by rwa[c],by rwa[h]⟩
 .refine Á ⟨j,by rwa[d],by rwa[e],a,?_⟩;rwa[f,i,g]
def Ps.O4(h:Ps F σ){ip:kL}{G:GS}(i:σ.ed 0=Í)(y:0<σ.sp)(l:∀c,(ip=.lO c->c<=F.m)/\(ip=.mk c->1<=c/\c<=F.m)/\∀p,ip=.dn c p->1<=c/\c<=F.m) (o:∀c,1<=c->c<=F.m->ip.od<c->fI σ.Gg k G c=.cl 1 (Ñ F.n λj=>(σ.wp j).iq F j c)) (t:∀c,c<=F.m->c<=ip.od->(∃W,(ip=.dn c (.ig W)\/ip=.dn c (.j1 W))/\fI σ.Gg k G c=.kS W/\W=Ñ F.n λj=>(σ.wp j).iq F j c)\/(∃r s,ip=.dn c (.jx r)/\0<r/\fI σ.Gg k G c=.iQ r s/\r+s=Ñ F.n λj=>(σ.wp j).iq F j c)\/((∀p,ip≠ .dn c p)/\((fI σ.Gg k G c=.cl 0 0/\(Ñ F.n λj=>(σ.wp j).iq F j c)=0)\/∃s,fI σ.Gg k G c=.iQ 0 s/\s=Ñ F.n λj=>(σ.wp j).iq F j c))) (u:σ.ip.od<=ip.od) (v:(∃a b,σ.Gg k=.iQ a b)->∃a b,G=.iQ a b) (w:G=.cl 1 0->σ.fs k=Í) {sg:Nat->F.γ} {V:Nat->Nat->Prop} (x:V 0=F.V0) {pk:Nat->Nat}:Ps F {σ with ip:=ip,Gg:=fI σ.Gg k G,sg:=sg,V:=V,pk:=pk}:=by
 refine⟨x,h.mj,h.xU,h.mr,λq=> ?_,l,h.oU,h.wr,h.sr,λq=>absurd i q,h.su,h.pR,h.td,h.tf,h.sw,h.tg,h.qo,h.xV,o,t,λj r d f=>Ù (h.tj j r d f) u,λj r d f=> ?_,h.AP,h.aM,λc d f=> ?_,h.xY⟩
 .have:σ.sp=0:=q;omega
 .have:=h.xW j r d f;show∃a b,fI σ.Gg k G _=_;by_cases e:F.gq (j+r*F.n)=k
  .rw[e]at this|-;rw[il];exact v this
  .rw[fW _ _ e];exact this
 .have g:fI σ.Gg k G c=.cl 1 0:=f;by_cases e:c=k
  .subst e;rw[il]at g;exact w g
  .rw[fW _ _ e]at g;exact h.uw c d g
def PI.ajk(H:iT F)(p:PI F n zX σ S f l o E w qJ)(B:0<σ.sp)(u:σ.ed 0=Í)(D:E[F.L]?=Ä g)(I:g.status=Å)(ht:f F.L=.fO)(t:σ.ip=.lO k):vp F n zX σ f E w qJ:=by
 have z:=jI D;have C:=p.gw.ie;have M:=p.En B u D I ht w<|C.gy _ z;rw[t]at M;have Uf:=(p.ps.ik k).1 t;have Q:=Em H.ok;have X:jR F.B0 (λi=>i<E.size) σ.Y (gX o F.L {o F.L with w:=w}) w qJ:=C.rv z (λ_ q=>q) (λb q=>À<|Á q) (λ_ q=>q) (λa q=>À<|Á q) U U U (C.lD _ z)<|C.lE _ z;have Y':=p.iD.nF (i:=F.L) (d:=(o F.L).d) (w0:=w)<|Ç _;have v:σ.ip.md=k:=by rw[t];rfl
 by_cases Ec:k<F.m
 .let⟨K7,Eo⟩:=p.wd.nj k (by rw[v];exact Ç _);let⟨r1,r2⟩:=p.iD.mV B u;rw[v]at r1 r2;let⟨o1,o2⟩:=p.iD.oQ B (k+1) (by rw[v];omega) Ec;let⟨T,O⟩:=ku<|H.lO k _ _ _ g Ec M (C.gk z) K7 Eo r2 r1 o1 o2 σ.sg U;have P:=p.gw.rv (J:=JI F σ.sg<|.mk (k+1)) (T:=T) (K:=.no) D (À I) X (by rwa[Q]);have y:fI σ.Gg 0 (σ.Gg 0)=σ.Gg:=by funext j;unfold fI;split<;>simp[*]
  refine⟨{σ with ip:=.mk (k+1)},_,_,_,_,λh=>h,.of (p.kB.O2 H.ok (sg:=σ.sg) u) p.fh P ?_ ?_ ?_ ?_ (Us p.fu U U U U U U U) p.kn,O3 H.ok (p.sy z) u U U U U ?_⟩
  .have L:=Y';exact⟨L.iU,L.ni,L.n7,λa e b c=>L.oQ a e (by rwa[v]) c,λa b=>by have:=L.mV a b;rwa[v]at this,L.oR,L.oS,L.kq,L.mG,L.ja,λe b=>L.kF e (by rwa[v]),λe b=>L.nN e (by rwa[v]),λe a b=>L.oT e a (by rwa[v]),L.oz⟩
  .have W:=p.wd;exact⟨W.fL,W.j4,W.kU,λe b=>W.nj e (by rwa[v]),λe a b=>W.qm e a (by rwa[v]),W.pQ⟩
  .have:=p.ps.O4 (k:=0) (ip:=.mk (k+1)) (G:=σ.Gg 0) (sg:=σ.sg) (V:=σ.V) (pk:=σ.pk) u B (λe=>⟨λq=>(by cases q),λq=>(by cases q;exact⟨Z,Z⟩),λp q=>by cases q⟩) (λe a b c=> ?_) (λe a b=> ?_) (by rw[t];exact Ç _) id (λq=>p.ps.uw 0 (ô _) q) p.ps.v0
   .rwa[y]at this
   .rw[y];exact p.ps.rA e a b<|by rwa[t]
   .rw[y];rcases p.ps.qp e a (by rwa[t])with⟨W,q,_⟩|⟨r,s,q,_⟩|q
    .rw[t]at q;rcases q with q|q<;>cases q
    .rw[t]at q;cases q
    .exact Á<|Á ⟨λp q=>(by cases q),q.2⟩
  .have:σ.ip.rl=(kL.mk<|k+1).rl:=by rw[t];rfl
   have a:=p.ti;rwa[this]at a
  .rw[t];simp only[kL.rk];have:F.m+3-(k+1)=F.m+2-k:=Z
   rw[this];omega
 .have q:k=F.m:=Z
  subst q;let⟨T,O⟩:=ku<|H.I' _ g M<|C.gk z;have P:=p.gw.rv (J:=JE F .ry) (T:=T) (K:=.no) D (À I) X (by rwa[Q]);have s:¬σ.jb 0:=λ⟨e,a,_⟩=>by rw[u]at a;cases a
  have W:¬σ.oh 0:=λ⟨e,a,_⟩=>by rw[u]at a;cases a
  refine⟨fK.iz σ 0 .ry,_,_,_,_,λh=>h,.of (p.kB.iz (x:=0) H.ok λ⟨N,h⟩=>by cases h) p.fh P (Y'.iz ⟨λh=>h.elim,λh=>(W h).elim⟩) p.wd.iz (p.ps.iz B (by rw[u];rfl) (λb h=>by rw[u]at h;cases h) (λb h=>by cases h) (λj h=>by omega) λ_=>t) (p.ti.iz ⟨λh=>h.elim,λh=>(s h).elim⟩) (Um p.fu λk y b c e=> ?_) p.kn,H0 H.ok (p.sy z)<|À ?_⟩
  .subst e;rw[ö,D]at b;obtain rfl:=Ã b;rw[I]at c;cases c
  .unfold vt;rw[u];simp only[jd.rk,if_true,t,kL.rk];have:F.m+2-F.m=2:=Z
   rw[this];omega
end
section
variable{F:Ph}{σ σ':gF F}{S:Nat->Jd}{f D:Nat->gY}{o:Nat->jw}{d:Nat->fj}{v:Array Æ}{u:é}{B:Option (Nat×Nat)}
def Z_(ok:F.Ok)(a:k<=F.m):ki F.toFx k≠kz F i:=λe=>ok.xT (by
 have:F.gK k=F.iG:=by injection e
 rw[<-this];exact Á ⟨k,a,U⟩)
def ajl(ok:F.Ok)(a:k<=F.m)(b:i<=F.m)(h:ki F.toFx k=ki F.toFx i):k=i:=ok.j4 k i a b<|by injection h
def ajm(h:kz F i=kz F n):i=n:=by injection h
def PI.ajn(H:iT F)(p:PI F n zX σ S f o d E w qJ)(h0:0<σ.sp)(N:σ.ed 0=Í)(hi:E[F.L]?=Ä g)(jE:g.status=Å)(ht:f F.L=.fO)(v:σ.ip=.mk k):vp F n zX σ f E w qJ:=by
 have y:=jI hi;have C:=p.gw.ie;have hJ:=p.En h0 N hi jE ht w<|C.gy _ y;rw[v]at hJ;let⟨k1,J⟩:=(p.ps.ik k).2.1 v;have mi:=Em H.ok;have B:σ.ip.md=k-1:=by rw[v];rfl
 let⟨M,z,hn,Eo,Z',hcell,hdone⟩:=hJ;let⟨o1,o2⟩:=p.iD.oQ h0 k (by rw[B];omega) J;have KV:jR F.B0 (λi=>i<E.size) σ.Y (gX d F.L<|s9 F {d F.L with w:=w} k) w qJ:=by
  refine C.rv y (λ_ q=>q.elim) (λb q=>À q) (λ_ q=>q.1) (λa q=> ?_) U U U (λ_ q=>q.elim) λa s q=> ?_
  .rcases q with q|rfl|rfl
   .exact À<|Á q
   .exact À<|À o2
   .exact À<|À o1
  .rcases q with q|q|q
   .exact C.lE _ y a s.1 q
   .exact s.2.1 q
   .exact s.2.2 q
 have hF:na F.P (F.L==0) (JI F (fI σ.sg k M)<|.dn k .gy) .fO (s9 F {d F.L with w:=w} k) g:=by rw[mi];intro I c;let⟨Q,X,W,a3,e⟩:=hdone;exact⟨Q,X,W,a3,e.fZ c⟩
 have hS:=p.gw.rv (K:=.no) hi (À jE) KV hF;have hG:fI σ.Gg 0 (σ.Gg 0)=σ.Gg:=by funext j;unfold fI;split<;>simp[*]
 have Vn:∀l,l≠k->fI σ.V k z l=σ.V l:=λl h=>fW _ _ h;have Vs:fI σ.V k z k=z:=il _ _ _;refine⟨{σ with ip:=.dn k .gy,sg:=fI σ.sg k M,V:=fI σ.V k z},_,_,_,_,λh=>h,.of ?_ p.fh hS ?_ ?_ ?_ ?_ (Us p.fu U U U U U U U) p.kn,O3 H.ok (p.sy y) N U U U U ?_⟩
 .have:=p.kB.O2 (ip:=.dn k .gy) (sg:=fI σ.sg k M) (T:=.fO) H.ok N;exact⟨this.s0,this.sI,this.sW,this.sE,this.sO⟩
 .have L:=p.iD;have D:(gX d F.L<|s9 F {d F.L with w:=w} k) F.L=s9 F {d F.L with w:=w} k:=iV _ _ _;have W:∀i,i≠F.L->(gX d F.L<|s9 F {d F.L with w:=w} k) i=d i:=λi h=>iC d _ h;have h00:(0:Nat)≠F.L:=by have:=H.ok.L1;omega
  have Ut:∀i a,(gX d F.L (s9 F {d F.L with w:=w} k) i).Oc a->(d i).Oc a:=λi a h=>by
   by_cases q:i=F.L
   .subst q;rw[D]at h;exact h.1
   .rwa[W i q]at h
  have sO:∀i b,(gX d F.L (s9 F {d F.L with w:=w} k) i).O b->(d i).O b/\i≠F.L:=λi b h=>by
   by_cases q:i=F.L
   .subst q;rw[D]at h;exact h.elim
   .rw[W i q]at h;exact⟨h,q⟩
  have nOc:∀i,i<E.size->∀a,(a=kz F (F.pi k)\/a=ki F.toFx k)->¬(gX d F.L (s9 F {d F.L with w:=w} k) i).Oc a:=λi c a s h=>by
   by_cases q:i=F.L
   .subst q;rw[D]at h;rcases s with s|s
    .exact h.2.1 s
    .exact h.2.2 s
   .rw[W i q]at h;refine C.rn i F.L c y q a h<|À ?_;rcases s with rfl|rfl
    .exact o2
    .exact o1
  refine⟨λi c a s=> ?_,λx t u a s=>by rw[W 0 h00];exact L.ni x t u a s,λh=>by rw[W 0 h00];exact L.n7 h,λh l t u=> ?_,λh Cj=> ?_,λj hj Cj r hr t=>by rw[W _ Z];exact L.oR j hj Cj r hr t,λj hj Cj=>by rw[W _ Z];exact L.oS j hj Cj,λx Ei=> ?_,λi c=> ?_,λi t u=>by rw[W i Z];exact L.ja i t u,λl G b hb=> ?_,λl G i c h=> ?_,λl t u i c h=> ?_,λj hj r hr t i c h=>L.oz j hj r hr t i c<|Ut _ _ h⟩
  .by_cases q:i=F.L
   .subst q;rw[D]at s;rcases s with q|q|q|q
    .exact L.iU _ y a<|À q.1
    .exact L.iU _ y a<|Á q
    .exact Á ⟨_,H.ok.kJ.1 _ Z Z,q⟩
    .exact À ⟨k,J,q⟩
   .rw[W i q]at s;exact L.iU i c a s
  .rw[D];have zD:k<l:=t;let⟨I,q2⟩:=L.oQ h l (by rw[B];omega) u;exact⟨⟨I,Z_ H.ok u,λe=>by have:=ajl H.ok u J e;omega⟩,⟨q2,λe=>by have:=H.ok.pi l k Z u k1 J<|ajm e;omega,λe=>Z_ H.ok J e.symm⟩⟩
  .rw[D];show(s9 F _ k).Rc (ki F.toFx k)/\∀b,fI σ.V k z k b->(s9 F _ k).Rd b;rw[Vs];exact⟨Á<|Á U,Z'⟩
  .have:F.L+x≠F.L:=λq=>by
    have I:x=0:=Z
    subst I;let⟨e,t,_⟩:=Ei;rw[N]at t;cases t
   rw[W _ this];exact L.kq x Ei
  .by_cases q:i=F.L
   .subst q;rw[D];exact L.mG _ c
   .rw[W _ q];exact L.mG i c
  .have vq:l<=k:=G;by_cases q:l=k
   .subst q;have I:fI σ.V l z l b:=hb;rw[Vs]at I;have hM:=Z' b I;refine⟨C.fG _ y b hM,C.fX _ y b hM,λi c h=> ?_⟩;let⟨Q,X⟩:=sO i b h;exact C.s7 i F.L c y X b Q hM
   .have I:fI σ.V k z l b:=hb;rw[Vn l q]at I;let⟨Q,X,a3⟩:=L.kF l (by rw[B];omega) b I;exact⟨Q,X,λi c h=>a3 i c (sO i b h).1⟩
  .have vq:l<=k:=G;by_cases q:l=k
   .subst q;exact nOc i c _ (Á U) h
   .exact L.nN l (by rw[B];omega) i c<|Ut _ _ h
  .have vq:l<=k:=u;by_cases q:l=k
   .subst q;exact nOc i c _ (À U) h
   .exact L.oT l t (by rw[B];omega) i c<|Ut _ _ h
 .have W:=p.wd;refine⟨W.fL,W.j4,W.kU,λl G=> ?_,λl t G=> ?_,W.pQ⟩
  .have vq:l<=k:=G;show pP F l (fI σ.sg k M l)/\F.vm l (fI σ.sg k M l) (fI σ.V k z l) w;by_cases q:l=k
   .subst q;rw[il,il];refine⟨?_,Eo⟩;have:=(W.nj (l-1)<|by rw[B];exact Ç _).1;have u:=pP.HF this hn;rwa[show l-1+1=l by omega]at u
   .rw[fW _ _ q,fW _ _ q];exact W.nj l<|by rw[B];omega
  .have vq:l<=k:=G;by_cases q:l=k
   .subst q;exact hcell
   .exact W.qm l t<|by rw[B];omega
 .have:=p.ps.O4 (ip:=.dn k .gy) (sg:=fI σ.sg k M) (V:=fI σ.V k z) (pk:=σ.pk) N h0 (λl=>⟨λq=>(by cases q),λq=>(by cases q),λp q=>by cases q;exact⟨k1,J⟩⟩) (λl a b c=> ?_) (λl a b=> ?_) (by rw[v];exact Ç _) id (λq=>p.ps.uw 0 (ô _) q)<|by rw[Vn 0 Z];exact p.ps.v0
  .rwa[hG]at this
  .rw[hG];exact p.ps.rA l a b<|by rwa[v]
  .rw[hG];have I:l<=k-1:=b;rcases p.ps.qp l a (by rwa[v])with⟨W,q,_⟩|⟨r,s,q,_⟩|q
   .rw[v]at q;rcases q with q|q<;>cases q
   .rw[v]at q;cases q
   .exact Á<|Á ⟨λp q=>(by cases q;omega),q.2⟩
 .have c:=p.ti;have e:σ.ip.rl=k-1:=by rw[v];rfl
  rw[e]at c;refine{c with D6:=λl a b x Ei=> ?_};have I:l<=k-1:=b;refine c.D6 l a b x (Ei.imp (λq=> ?_) id);rwa[<-Vn l Z]
 .rw[v];simp only[kL.rk,kT.rk];have:F.m+3-k=(F.m+2-k)+1:=Z
  rw[this,į];omega
def PI.ajo(H:iT F)(p:PI F n zX σ S f o d E w qJ)(x:0<σ.sp)(m:σ.ed 0=Í)(D:E[F.L]?=Ä g)(jE:g.status=Å)(ht:f F.L=.fO)(e:σ.ip=.dn k .gy):lF F n zX σ f E w qJ B F.L:=by
 have t:=jI D;have C:=p.gw.ie;have J:=p.En x m D jE ht w<|C.gy _ t;rw[e]at J;let⟨k1,K⟩:=(p.ps.ik k).2.2 _ e;have M:=Em H.ok;let⟨hd,_,g',h1,N⟩:=J;have qt:=(C.mT _ t).trans hd;have hb:F.jg (F.gK k):=Á ⟨k,K,U⟩;have O:∀y:Ć,y.act=Ğ (ķ<|gp<|F.gK k)->y.act.touch?=Í:=λy i=>by rw[i];rfl
 let⟨T,hT⟩:=ku N;have P:=nO (λl g h=>À h.2.1) N;obtain⟨v,y,y1,y2,q1,Q,q3,q4,q5,q7⟩:=p.Eh H .no D (by rw[M];exact h1 w) fB fB (λy i=>⟨λz l=>(by rw[O y i]at l;cases l),by rw[i];exact C.kE _<|À hb⟩) (λy _ i=>DZ C.rp λl u=>by rw[AT u];exact O y i) (by rwa[M]) P;have z:σ.ip.md=k:=by rw[e];rfl
 have Uu:σ.ip.rl=k-1:=by rw[e];rfl
 let⟨V,X⟩:=p.iD.mV x m;rw[z]at V X;have Y:=p.ti;rw[Uu]at Y;have G:k-1+1=k:=Z
 have O5:=Y.aiv y1 (by rwa[G]) qt (by
  rw[G];intro a l;rcases l with l|rfl
  .exact(C.lu _ t).rd a<|X _ l
  .exact(C.lu _ t).rc _ V)
 rw[G]at O5;have I:fI σ.Gg 0 (σ.Gg 0)=σ.Gg:=by funext j;unfold fI;split<;>simp[*]
 refine⟨{σ with ip:=.dn k .iX,pk:=fI σ.pk k qJ.size},_,_,_,_,v,w,#[y],q1,Q,λh=>h,.of ?_ (Q.trans p.fh) q5 ?_ ?_ ?_ O5 ?_ λj r a1 a2 a3=> ?_,O3 H.ok (p.sy t) m U U U U ?_⟩
 .have:=p.kB.O2 (ip:=.dn k .iX) (sg:=σ.sg) (T:=T) H.ok m;exact⟨this.s0,this.sI,this.sW,this.sE,this.sO⟩
 .have L:=q7;exact⟨L.iU,L.ni,L.n7,λa l b c=>L.oQ a l (by rwa[z]) c,λa b=>by have:=L.mV a b;rwa[z]at this,L.oR,L.oS,L.kq,L.mG,L.ja,λl b=>L.kF l (by rwa[z]),λl b=>L.nN l (by rwa[z]),λl a b=>L.oT l a (by rwa[z]),L.oz⟩
 .have W:=p.wd;exact⟨W.fL,W.j4,W.kU,λl b=>W.nj l (by rwa[z]),λl a b=>W.qm l a (by rwa[z]),W.pQ⟩
 .have:=p.ps.O4 (ip:=.dn k .iX) (sg:=σ.sg) (pk:=fI σ.pk k qJ.size) m x (λl=>⟨λq=>(by cases q),λq=>(by cases q),λp q=>by cases q;exact⟨k1,K⟩⟩) (λl a b c=> ?_) (λl a b=> ?_) (by rw[e];exact Ç _) id (λq=>p.ps.uw 0 (ô _) q) p.ps.v0
  .rwa[I]at this
  .rw[I];exact p.ps.rA l a b<|by rwa[e]
  .rw[I];have c:l<=k-1:=b;rcases p.ps.qp l a (by rwa[e])with⟨W,q,_⟩|⟨r,s,q,_⟩|q
   .rw[e]at q;rcases q with q|q<;>cases q
   .rw[e]at q;cases q
   .exact Á<|Á ⟨λp q=>(by cases q;omega),q.2⟩
 .exact p.fu.nF (σ':={σ with ip:=.dn k .iX,pk:=fI σ.pk k qJ.size}) q3 (by rcases P with q|q<;>rw[q]<;>simp) q4 (λ_ _=>rfl) U U (λ_ _=>rfl) (λ_=>rfl) (λ_ _=>rfl) (λ_ _ h=>À h) λ_ _ _ _ h=>À h
 .have u:=p.ps.tj j r a1<|Á<|Á a2;rw[e]at u;simp only[kL.od]at u;show η _ _ (fI σ.pk k qJ.size _);rw[fW _ _ Z];exact(p.kn j r a1 a2 a3).app _
 .rw[e];simp only[kL.rk,kT.rk];omega
end
section
variable{F:Ph}{σ σ':gF F}{S:Nat->Jd}{o K:Nat->gY}{B:Nat->jw}{v:Nat->fj}{f:Array Æ}{u:é}{I:Option (Nat×Nat)}
def zE(σ:gF F)(ip:kL)(k:Nat)(G:GS):gF F:={σ with ip:=ip,Gg:=fI σ.Gg k G}
def PI.H5(H:iT F)(p:PI F j zX σ S o B v E w qJ){d:kT}{ip:kL}{G:GS}{s:Æ}{T:gY}(h0:0<σ.sp)(C:σ.ed 0=Í)(t:σ.ip=.dn k d)(N:d≠ .gy)(O:E[F.L]?=Ä g)(D:mq (F.gK k) w W)(Q:jc W (F.gK k) G)(X:ŝ F.P (ò E w I) F.L=(Ģ<|ò f W I,u))(J:f.size=E.size)(q3:f[F.L]?=Ä s)(oa:s.status=Å\/s.status=æ)(q4:∀k,k≠F.L->f[k]?=E[k]?.map (Ą F.P g s W)) (q5:iI F.P F.B0 σ.Y (fI S F.L<|JI F σ.sg ip) (fI o F.L T) (fI B F.L .no) (gX v F.L {v F.L with w:=W}) f W (qJ++u)) (q6:TI F.toFx j zX σ.sp σ.ip.rl σ.V σ.pk σ.fs σ.jb σ.ql (qJ++u)) (q7:jF F σ (gX v F.L {v F.L with w:=W}) f.size W) (x:ip.md=k/\ip.rl=k) (hP:Ps F (zE σ ip k G)) (hrk:ip.rk F<σ.ip.rk F) (Ee:∀i r,σ.wp i=.fJ r .ml->F.gq (i+r*F.n)=k->(σ.Gg k).sm=0->G.sm=0\/∀y,f[F.L+1+i]?=Ä y->y.status≠Þ):lF F j zX σ o E w qJ I F.L:=by
 let⟨k1,z⟩:=(p.ps.ik k).2.2 _ t;have K:F.jg (F.gK k):=Á ⟨k,z,U⟩;have M:σ.ip.md=k:=by rw[t];rfl
 have Uu:σ.ip.rl=k:=by rw[t];cases d<;>first|rfl|exact absurd U N
 have m:=D.wd H p.iD p.ps p.wd K ⟨λq=>absurd q<|H.ok.AO k z,λ_=>rfl⟩ (λl a=>⟨λq=>by rwa[<-H.ok.j4 _ _ z a q,il],λq=>fW _ _ λe=>q<|by rw[e]⟩);refine⟨zE σ ip k G,_,_,_,_,f,W,u,X,J,λh=>h,.of ?_ (J.trans p.fh) q5 ?_ ?_ hP ?_ ?_ λi r a b c=>(p.kn i r a b c).app u,O3 H.ok (p.sy<|jI O) C U U U U hrk⟩
 .have:=p.kB.O2 (ip:=ip) (sg:=σ.sg) (T:=T) H.ok C;exact⟨this.s0,this.sI,this.sW,this.sE,this.sO⟩
 .have L:=q7;have e:(zE σ ip k G).ip.md=σ.ip.md:=by rw[M];exact x.1
  exact⟨L.iU,L.ni,L.n7,λa l b c=>L.oQ a l (by rwa[<-e]) c,λa b=>by have:=L.mV a b;rwa[<-e]at this,L.oR,L.oS,L.kq,L.mG,L.ja,λl b=>L.kF l (by rwa[<-e]),λl b=>L.nN l (by rwa[<-e]),λl a b=>L.oT l a (by rwa[<-e]),L.oz⟩
 .have e:(zE σ ip k G).ip.md=σ.ip.md:=by rw[M];exact x.1
  exact⟨m.fL,m.j4,m.kU,λl b=>m.nj l (by show l<=σ.ip.md;rwa[<-e]),λl a b=>m.qm l a (by show l<=σ.ip.md;rwa[<-e]),m.pQ⟩
 .have e:(zE σ ip k G).ip.rl=σ.ip.rl:=by rw[Uu];exact x.2
  rwa[e]
 .refine p.fu.nF (σ':=zE σ ip k G) q3 (by rcases oa with q|q<;>rw[q]<;>simp) q4 (λi a=>D.mh p.ps K a) U U (λ_ _=>rfl) (λ_=>rfl) (λ_ _=>rfl) (λ_ _ h=>À h) λi r _ b a=> ?_;show(fI σ.Gg k G _).sm=0\/_;by_cases q:F.gq (i+r*F.n)=k
  .rw[q]at a|-;rw[il];exact Ee i r b q a
  .rw[fW _ _ q];exact À a
def PI.H6(p:PI F j zX σ S o B v E w qJ){d:kT}{f:kL}{G:GS}(x:0<σ.sp)(y:σ.ed 0=Í)(i:σ.ip=.dn k d)(t:f=.lO k\/∃l,f=.dn k l)(m:f.od=k)(C:(∃W,(f=.dn k (.ig W)\/f=.dn k (.j1 W))/\G=.kS W/\W=Ñ F.n λe=>(σ.wp e).iq F e k)\/(∃r s,f=.dn k (.jx r)/\0<r/\G=.iQ r s/\r+s=Ñ F.n λe=>(σ.wp e).iq F e k)\/((∀p,f≠ .dn k p)/\((G=.cl 0 0/\(Ñ F.n λe=>(σ.wp e).iq F e k)=0)\/∃s,G=.iQ 0 s/\s=Ñ F.n λe=>(σ.wp e).iq F e k))) (D:(∃a b,σ.Gg k=.iQ a b)->∃a b,G=.iQ a b) (H:G≠ .cl 1 0):Ps F (zE σ f k G):=by
 let⟨I,u⟩:=(p.ps.ik k).2.2 _ i;have J:k-1<=σ.ip.od/\σ.ip.od<=k:=by rw[i];cases d<;>simp only[kL.od]<;>omega
 have:=p.ps.O4 (sg:=σ.sg) (pk:=σ.pk) y x (λg=> ?_) (λg a b c=> ?_) (λg a b=> ?_) (by rw[m];exact J.2) D (λq=>absurd q H) p.ps.v0
 .exact this
 .rcases t with rfl|⟨l,rfl⟩
  .exact⟨λq=>(by cases q;exact u),λq=>(by cases q),λp q=>by cases q⟩
  .exact⟨λq=>(by cases q),λq=>(by cases q),λp q=>by cases q;exact⟨I,u⟩⟩
 .rw[m]at c;rw[fW _ _ Z];exact p.ps.rA g a b Z
 .by_cases q:g=k
  .subst q;rwa[il]
  .rw[fW _ _ q];rw[m]at b;refine Á<|Á ⟨λc h=> ?_,?_⟩
   .rcases t with rfl|⟨l,rfl⟩<;>cases h;exact q U
   .rcases p.ps.qp g a Z with⟨W,z,_⟩|⟨r,s,z,_⟩|z
    .rw[i]at z;rcases z with z|z<;>(injection z with z _;exact absurd z.symm q)
    .rw[i]at z;injection z with z _;exact absurd z.symm q
    .exact z.2
def PI.ajp(H:iT F)(p:PI F j zX σ S o B v E w qJ)(i:0<σ.sp)(m:σ.ed 0=Í)(s:E[F.L]?=Ä g)(jE:g.status=Å)(ht:o F.L=.fO)(d:σ.ip=.dn k .iX):lF F j zX σ o E w qJ I F.L:=by
 have N:=jI s;have C:=p.gw.ie;have hJ:=p.En i m s jE ht w<|C.gy _ N;rw[d]at hJ;obtain⟨k1,Y⟩:=(p.ps.ik k).2.2 _ d;have O:=Em H.ok;have y:F.jg (F.gK k):=Á ⟨k,Y,U⟩;obtain⟨hd,_,yh⟩:=hJ;have hc:=p.ps.rA k k1 Y (by rw[d];simp only[kL.od];omega);obtain⟨W,hW⟩:∃W,(Ñ F.n λa=>(σ.wp a).iq F a k)=W:=⟨_,U⟩;rw[hW]at hc;have Q:=hc▸p.wd.j4 k Y;obtain⟨ev,z⟩:=Q.jA;have key:=yh (GS.cl (0+1) W).st;rw[ev]at key z;obtain⟨c,t⟩:∃c,(GS.jA<|.cl (0+1) W).st=c:=⟨_,U⟩;rw[t]at key;obtain⟨g',h1,V⟩:=key;have G:=h1 w Q.st Q.vj;rw[<-t]at G;obtain⟨k1',k2,k3⟩:=Q.ok;have r:mq (F.gK k) w (w.setCell (gp<|F.gK k)<|ê Ô (GS.jA<|.cl (0+1) W).st):=Á ⟨_,_,À U,U⟩;have D:=r.yc p.iD H.ok y;have X:fU {v F.L with w:=w} w (w.setCell (gp<|F.gK k)<|ê Ô (GS.jA<|.cl (0+1) W).st):=⟨Ö D.fh.symm,λb lV=>D.lr b<|C.fX _ N b lV,λa ha=>D.fg _ N a ha,λa ha=>D.fC _ N a ha,λa _=>D.ia a⟩;have nop:¬∃a b,σ.Gg k=.iQ a b:=λ⟨a,b,q⟩=>by rw[hc]at q;cases q
 by_cases hl:0<W
 .have ed:GS.jA (.cl (0+1) W)=.kS W:=by simp only[GS.jA];rw[if_pos ⟨trivial,hl⟩]
  rw[ed]at G z r D X t;have K:fA F.P É (OA F.P É (F.gK k) (fA F.P É<|F.xP k) W) {v F.L with w:=w} g':=by
   have e0:c=(W:Int):=t.symm;have e:¬(c=0\/(gO<=c/\c<1000000*gO/\c%gO<1000000)):=by simp only[gO];omega
   have h:0<c/\c<1000000:=Z
   have l:c.toNat=W:=Z
   simp only[if_neg e,if_pos h,l]at V;exact V
  obtain⟨T,hT⟩:=ku<|K.fZ X;have M:=nO (λl g h=>À h.2.1) K;obtain⟨f,u,q1,q2,q3,q4,q5,q6,q7⟩:=p.oV (J:=JI F σ.sg<|.dn k (.ig W)) H .no s (H3 i) y (by rwa[O]) r (Ea y) U (λx hs e=>(H4 m x hs e).elim) (by rwa[O]) M;refine p.H5 H i m d fB s r z q1 q2 q3 M q4 q5 q6 q7 ⟨U,U⟩ (p.H6 i m d (Á ⟨_,U⟩) U (À ⟨W,À U,U,hW.symm⟩) (λq=>absurd q nop) fB) ?_ λ_ _ _ _ _=>À U;rw[d];simp only[kL.rk,kT.rk];omega
 .have Uq:W=0:=Z
  subst Uq;have ed:GS.jA (.cl (0+1) 0)=.cl 0 0:=U;rw[ed]at G z r D X t;have K:fA F.P É (F.xP k) {v F.L with w:=w} g':=by have e0:=t.symm;simp only[e0,true_or,if_true]at V;exact V
  obtain⟨T,hT⟩:=ku<|K.fZ X;have M:=nO (λl g h=>À<|H.mV _ _ _ h) K;obtain⟨f,u,q1,q2,q3,q4,q5,q6,q7⟩:=p.oV (J:=JI F σ.sg<|.lO k) H .no s (H3 i) y (by rwa[O]) r (Ea y) U (λx hs e=>(H4 m x hs e).elim) (by rwa[O]) M;refine p.H5 H i m d fB s r z q1 q2 q3 M q4 q5 q6 q7 ⟨U,U⟩ (p.H6 i m d (À U) U (Á<|Á ⟨λp q=>(by cases q),À ⟨rfl,hW⟩⟩) (λq=>absurd q nop) fB) ?_ λ_ _ _ _ _=>À rfl;rw[d];simp only[kL.rk,kT.rk];omega
def PI.aac(p:PI F j zX σ S o B v E w qJ)(b:σ.ip=.dn k (.ig i)\/σ.ip=.dn k (.j1 i)):σ.Gg k=.kS i/\i=Ñ F.n λa=>(σ.wp a).iq F a k:=by
 have c:k<=F.m:=by rcases b with b|b<;>exact((p.ps.ik k).2.2 _ b).2
 rcases p.ps.qp k c (by rcases b with b|b<;>(rw[b];exact Ç _))with⟨d,z,e,f⟩|⟨r,s,z,_⟩|⟨z,_⟩
 .have:d=i:=by rcases b with b|b<;>(rw[b]at z;rcases z with z|z<;>cases z<;>rfl)
  subst this;exact⟨e,f⟩
 .rcases b with b|b<;>(rw[b]at z;cases z)
 .rcases b with b|b<;>exact absurd b<|z _
def PI.ajq(H:iT F)(p:PI F j zX σ S o B v E w qJ)(d:0<σ.sp)(m:σ.ed 0=Í)(n:E[F.L]?=Ä g)(M:g.status=Å)(N:o F.L=.fO)(c:σ.ip=.dn k (.ig i)):lF F j zX σ o E w qJ I F.L:=by have O:=jI n;have C:=p.gw.ie;have s:=p.En d m n M N w<|C.gy _ O;rw[c]at s;let⟨k1,t⟩:=(p.ps.ik k).2.2 _ c;have y:=Em H.ok;have z:F.jg (F.gK k):=Á ⟨k,t,U⟩;let⟨hd,_,P⟩:=s;let⟨D,Q⟩:=p.aac<|À c;have G:=D▸p.wd.j4 k t;let⟨g',V,r⟩:=P (i:Int);simp only[if_true]at r;let⟨T,X⟩:=ku r;have K:=nO (λl g h=>À h.2.1) r;obtain⟨f,u,h,l,Y,q4,q5,q6,q7⟩:=p.oV (J:=JI F σ.sg<|.dn k (.j1 i)) H .no n (H3 d) z (by rw[y];exact V w G.st) (À U) (Cc z) U (λx a e=>(H4 m x a e).elim) (by rwa[y]) K;refine p.H5 H d m c fB n (À U) G h l Y K q4 q5 q6 q7 ⟨U,U⟩ (p.H6 d m c (Á ⟨_,U⟩) U (À ⟨i,Á U,U,Q⟩) (λ⟨a,b,q⟩=>by rw[D]at q;cases q) fB) ?_ λ_ _ _ _ _=>À rfl;rw[c];simp only[kL.rk,kT.rk];omega
def PI.ajr(H:iT F)(p:PI F j zX σ S o B v E w qJ)(d:0<σ.sp)(m:σ.ed 0=Í)(n:E[F.L]?=Ä g)(M:g.status=Å)(N:o F.L=.fO)(c:σ.ip=.dn k (.j1 i)):lF F j zX σ o E w qJ I F.L:=by
 have q:=jI n;have C:=p.gw.ie;have y:=p.En d m n M N w<|C.gy _ q;rw[c]at y;let⟨k1,z⟩:=(p.ps.ik k).2.2 _ c;have G:=Em H.ok;have s:F.jg (F.gK k):=Á ⟨k,z,U⟩;let⟨hd,_,g',O,K⟩:=y;let⟨P,Q⟩:=p.aac<|Á c;have r:=P▸p.wd.j4 k z;have V:=r.ok.1;have t:mq (F.gK k) w (w.setCell (gp<|F.gK k)<|ê Ô 0):=Á ⟨_,_,À U,U⟩;have D:=t.yc p.iD H.ok s;let⟨T,X⟩:=ku (K.fZ ⟨Ö D.fh.symm,λb h=>D.lr b<|C.fX _ q b h,λa e=>D.fg _ q a e,λa e=>D.fC _ q a e,λa _=>D.ia a⟩);have a:=nO (λl g h=>by
  cases i with
  |zero=>omega
  |succ i=>exact À h.2.1) K
 obtain⟨f,u,h,b,l,Y,q5,q6,q7⟩:=p.oV (J:=JI F σ.sg<|.dn k (.jx i)) H .no n (H3 d) s (by rw[G];exact O w _ r.st r.vj) t (N' s) U (λx hs e=>(H4 m x hs e).elim) (by rwa[G]) a;refine p.H5 H d m c fB n t r.F' h b l a Y q5 q6 q7 ⟨U,U⟩ (p.H6 d m c (Á ⟨_,U⟩) U (Á<|À ⟨i,0,U,V,U,by rwa[ö]⟩) (λ_=>⟨i,0,U⟩) fB) ?_ λ_ _ _ _ _=>À U;rw[c];simp only[kL.rk,kT.rk];omega
def PI.ajs(H:iT F)(p:PI F j zX σ S o B v E w qJ)(l:0<σ.sp)(t:σ.ed 0=Í)(G:E[F.L]?=Ä g)(jE:g.status=Å)(ht:o F.L=.fO)(d:σ.ip=.dn k (.jx j9)):lF F j zX σ o E w qJ I F.L:=by
 have V:=jI G;have C:=p.gw.ie;have hJ:=p.En l t G jE ht w<|C.gy _ V;rw[d]at hJ;obtain⟨k1,X⟩:=(p.ps.ik k).2.2 _ d;have W:=Em H.ok;have N:F.jg (F.gK k):=Á ⟨k,X,U⟩;obtain⟨s,hr0,hc,wW⟩:∃s,0<j9/\σ.Gg k=.iQ j9 s/\j9+s=Ñ F.n λc=>(σ.wp c).iq F c k:=by
  rcases p.ps.qp k X (by rw[d];exact Ç _)with⟨W',z,z1,z2⟩|⟨K,s,z,z1,z2,z3⟩|⟨z,_⟩
  .rw[d]at z;rcases z with z|z<;>cases z
  .rw[d]at z;injection z with _ z;injection z with z;subst z;exact⟨s,z1,z2,z3⟩
  .exact absurd d<|z _
 obtain⟨j9,rfl⟩:∃K,j9=K+1:=⟨j9-1,Z⟩;obtain⟨hd,_,Ur,g',O,h1,h2⟩:=hJ;have M:=hc▸p.wd.j4 k X;have Q:mq (F.gK k) w (w.setCell (iP<|F.gK k)<|ê â<|â.wrap<|(GS.iQ (j9+1) s).sm+1):=Á ⟨_,_,Á U,U⟩;have D:=Q.yc p.iD H.ok N;have tu:fU {v F.L with w:=w} w (w.setCell (iP<|F.gK k)<|ê â<|â.wrap<|(GS.iQ (j9+1) s).sm+1):=⟨Ö D.fh.symm,λb lV=>D.lr b<|C.fX _ V b lV,λa Y=>D.fg _ V a Y,λa Y=>D.fC _ V a Y,λa _=>D.ia a⟩;have wake:∀f:Array Æ,(∀k,k≠F.L->f[k]?=E[k]?.map (Ą F.P g g'<|w.setCell (iP<|F.gK k)<|ê â<|â.wrap<|(GS.iQ (j9+1) s).sm+1))\/(∀m,m≠F.L->f[m]?=E[m]?.map (Ą F.P g g'<|w.setCell (iP<|F.gK k)<|ê â<|â.wrap<|(GS.iQ (j9+1) s).sm+1))->∀c K,σ.wp c=.fJ K .ml->F.gq (c+K*F.n)=k->(σ.Gg k).sm=0->(GS.iQ j9<|s+1).sm=0\/∀y,f[F.L+1+c]?=Ä y->y.status≠Þ:=by
  intro f h c K hj _ _;refine Á λy hy=> ?_;by_cases hjs:c+2<=σ.sp
  .by_cases O6:σ.ed (c+1)=Í
   .obtain⟨_,hk⟩:=p.sW c hjs O6;rw[hj]at hk;rcases h with h|h<;>
    .rw[h _ Z]at hy;obtain⟨z,K6,rfl⟩:=Ú.1 hy;exact X' p Ur O K6 hk
   .obtain⟨_,r0,q,_⟩:=p.ps.sr c hjs O6;rw[hj]at q;cases q
  .have:=p.ps.oU c Z;rw[hj]at this;cases this
 cases j9 with
 |zero=>
  have h3:=h2;obtain⟨T,hT⟩:=ku<|h3.fZ tu;obtain⟨f,u,q1,q2,q3,h,q5,q6,q7⟩:=p.oV (J:=JI F σ.sg<|.lO k) H .no G (H3 l) N (by rw[W];exact h1 w _ M.sm M.zx) Q (KP N) (KQ _).2.2.2 (λx hs e=>(H4 t x hs e).elim) (by rwa[W])<|À O;refine p.H5 H l t d fB G Q M.gy q1 q2 q3 (À O) h q5 q6 q7 ⟨U,U⟩ (p.H6 l t d (À U) U (Á<|Á ⟨λp q=>(by cases q),Á ⟨s+1,rfl,Z⟩⟩) (λ_=>⟨0,s+1,rfl⟩) fB) ?_<|wake f<|Á h;rw[d];simp only[kL.rk,kT.rk];omega
 |succ j9=>
  have h3:=h2;obtain⟨T,hT⟩:=ku<|h3.fZ tu;obtain⟨f,u,q1,q2,q3,h,q5,q6,q7⟩:=p.oV (J:=JI F σ.sg<|.dn k (.jx (j9+1))) H .no G (H3 l) N (by rw[W];exact h1 w _ M.sm M.zx) Q (KP N) (KQ _).2.2.2 (λx hs e=>(H4 t x hs e).elim) (by rwa[W])<|À O;refine p.H5 H l t d fB G Q M.gy q1 q2 q3 (À O) h q5 q6 q7 ⟨U,U⟩ (p.H6 l t d (Á ⟨_,U⟩) U (Á<|À ⟨j9+1,s+1,U,Z,U,Z⟩) (λ_=>⟨j9+1,s+1,U⟩) fB) ?_<|wake f<|Á h;rw[d];simp only[kL.rk,kT.rk];have:Ñ F.n (λc=>(σ.wp c).iq F c k)<=F.n:=KS λi=>by cases σ.wp i<;>simp only[iJ.iq]<;>first|omega|(split<;>first|omega|(rename_i q _;cases q<;>simp[kx.vo]))
  omega
def PI.ajt(H:iT F)(p:PI F j zX σ S o B v E w qJ){N:Nat}(z:i<σ.sp)(a:σ.ed i=Ä (.ko N))(C:E[F.L+i]?=Ä g)(O:g.status=Å):lF F j zX σ o E w qJ I (F.L+i):=by
 let⟨P,d,s⟩:=p.sE i _ z a;have s:=s ⟨N,U⟩;have hL:=H.ok.L1;obtain⟨f,Q,t,hn,T,m,V,D,G⟩:=p.gw.TJ C Z O d s P;have J:=jI C;have W:jd.oh (.ko t)↔σ.oh i:=⟨λ_=>⟨_,a,trivial⟩,λ_=>trivial⟩;have X:jd.jb (.ko t)↔σ.jb i:=⟨λ_=>⟨_,a,trivial⟩,λ_=>trivial⟩;have K:∀c∈Ý (F.L+i) g.frame.fn g.frame.place Q,c.act.touch?=Í/\∀b,F.jg b->c.act≠Ğ (.release<|gp b):=λc l=>by obtain⟨e,h,rfl⟩:=Ø l;refine⟨Ζ<|D e h,λb _ q=> ?_⟩;have:=D e h;let⟨k,wr,y⟩:=e;cases k<;>simp_all[Event.mute,Ë]
 obtain⟨n,u⟩:∃n,f[F.L+i]?=Ä n:=⟨f[F.L+i]'(by rwa[m]),Ü _⟩;have M:n.status≠Þ:=by
  let⟨g0,y,h,k,r⟩:=G.kv _ n u;rw[d]at h;cases h with
  |gR=>rcases k with q|q<;>rw[q]<;>simp
 have Y:fI o (F.L+i) .fO=o:=by funext q;unfold fI;split<;>simp[*]
 have e2:fI B (F.L+i) .no=B:=by funext q;unfold fI;split<;>simp[*]
 refine⟨fK.iz σ i<|.ko t,_,_,_,_,f,w,_,T,m,λh=>h,.of (p.kB.iz H.ok λ_=>rfl) (m.trans p.fh) (by rwa[Y,e2]) (by rw[m];exact(p.iD.nF<|Ç _).iz W) p.wd.iz (p.ps.iz z (by rw[a];rfl) (λk h=>by rw[a]at h;cases h) (λk h=>by cases h) (λq h=>p.ps.sr q Z<|by rw[<-h,a];simp) λh=>p.ps.rz<|by rw[<-h,a];simp) ((p.ti.jV<|B7 (λc l=>(K c l).1) λc l=>(K c l).2).iz X) (Um (p.fu.KE u M V λ_ _=>rfl) λk y d hb e=> ?_) λq r k y a3=>(p.kn q r k y a3).app _,H0 H.ok (p.sy J)<|Á ?_⟩
 .subst e;rw[u]at d;obtain rfl:=Ã d;exact M hb
 .unfold vt;rw[a];simp only[jd.rk];exact⟨trivial,Z⟩
def PI.aju(H:iT F)(p:PI F j zX σ S o B v E w qJ)(N:0<i)(u:i<F.L)(x:E[i]?=Ä g)(O:g.status=Å):lF F j zX σ o E w qJ I i:=by
 let⟨Q,z,l⟩:=p.sO i N u;obtain⟨f,C,n,X,T,s,V,D,G⟩:=p.gw.TJ x Z O l z Q;have J:=jI x;have K:∀c∈Ý i g.frame.fn g.frame.place C,c.act.touch?=Í/\∀b,F.jg b->c.act≠Ğ (.release<|gp b):=λc m=>by obtain⟨e,a,rfl⟩:=Ø m;refine⟨Ζ<|D e a,λb _ q=> ?_⟩;have:=D e a;let⟨h,wr,k⟩:=e;cases h<;>simp_all[Event.mute,Ë]
 obtain⟨t,M⟩:∃t,f[i]?=Ä t:=⟨f[i]'(by rwa[s]),Ü _⟩;have W:t.status≠Þ:=by
  let⟨g0,k,a,h,y⟩:=G.kv _ t M;rw[l]at a;cases a with
  |gR=>rcases h with q|q<;>rw[q]<;>simp
 refine⟨{σ with lv:=fI σ.lv i n},_,_,_,_,f,w,_,T,s,λh=>h,.of ?_ (s.trans p.fh) G ?_ ⟨p.wd.fL,p.wd.j4,p.wd.kU,p.wd.nj,p.wd.qm,p.wd.pQ⟩ ?_ (p.ti.jV<|B7 (λc m=>(K c m).1) λc m=>(K c m).2) (Us (p.fu.KE M W V λ_ _=>rfl) U U U U U U U) λq r a k y=>(p.kn q r a k y).app _,KN (p.sy J) ?_ λk l=> ?_⟩
 .have h:=p.kB;refine⟨by rw[fW S _ Z];exact h.s0,λa b=>by rw[fW S _ Z];exact h.sI a b,λq a b=>by rw[fW S _ Z];exact h.sW q a b,λy e a b=>by rw[fW S _ Z];exact h.sE y e a b,λq a b=> ?_⟩;by_cases e:q=i
  .subst e;rw[il];exact⟨by show _=ru F.P (fI σ.lv q n q);rw[il],z,l⟩
  .rw[fW S _ e];refine⟨?_,(h.sO q a b).2⟩;show _=ru F.P (fI σ.lv i n q);rw[fW _ _ e];exact(h.sO q a b).1
 .rw[s];have L:=p.iD.nF (i:=i) (d:=Î (v i).d C) (w0:=w)<|Ç _;exact⟨L.iU,L.ni,L.n7,L.oQ,L.mV,L.oR,L.oS,L.kq,L.mG,L.ja,L.kF,L.nN,L.oT,L.oz⟩
 .have h:=p.ps;exact⟨h.v0,h.mj,h.xU,h.mr,h.zA,h.ik,h.oU,h.wr,h.sr,h.rz,h.su,h.pR,h.td,h.tf,h.sw,h.tg,h.qo,h.xV,h.rA,h.qp,h.tj,h.xW,h.AP,h.aM,h.uw,h.xY⟩
 .unfold gF.fX;rw[if_neg Z,if_pos u,if_neg Z,if_pos u];refine Á ⟨U,À ?_⟩;show fI σ.lv i n i<σ.lv i;rw[il];omega
 .exact Ca (λ_=>rfl) (λ_ _=>fW _ _ l) (λ_=>rfl) (λ_ _=>rfl) (λ_ _=>rfl) U
end
section
variable{F:Ph}{σ I:gF F}{S:Nat->Jd}{d J:Nat->gY}{m:Nat->jw}{f:Nat->fj}{o:Array Æ}{u:é}{D:Option (Nat×Nat)}
def iH(σ:gF F)(x:gH)(G:GS)(dk:Nat->Nat):gF F:={σ with mp:=x,Ga:=G,dk:=dk}
structure jU(σ:gF F)(x:gH)(dk:Nat->Nat):Prop where
 sp:x.sp F.n=σ.sp
 dk:∀j,j+2<=σ.sp->dk j=σ.dk j
def Ep{x:gH}{G:GS}{d:Nat->Nat}(a:jU σ x d):(iH σ x G d).Y=σ.Y:=by have e:(iH σ x G d).sp=σ.sp:=a.sp;funext b;unfold gF.Y;rw[e];refine propext<|or_congr Iff.rfl<|or_congr Iff.rfl ⟨λ⟨j,c,f⟩=>⟨j,c,f.trans<|a.dk j c⟩,λ⟨j,c,f⟩=>⟨j,c,f.trans (a.dk j c).symm⟩⟩
def jF.iH(L:jF F σ f i w){x:gH}{G:GS}{dk:Nat->Nat}(a:jU σ x dk):jF F (iH σ x G dk) f i w:=by have e:(fK.iH σ x G dk).sp=σ.sp:=a.sp;exact⟨L.iU,λy d=>L.ni y Z,λh=>L.n7 Z,λh=>L.oQ Z,λh=>L.mV Z,λj h=>L.oR j Z,λj h=>L.oS j Z,L.kq,λc g=>L.mG c (g.imp id λ⟨y,d,b⟩=>⟨y,Z,b⟩),L.ja,λk l b m=>by rw[Ep a];exact L.kF k l b m,L.nN,L.oT,λj h=>L.oz j Z⟩
def Wd.iH{G:GS}(W:Wd F {σ with Ga:=G,Gg:=σ.Gg} w){x:gH}{dk:Nat->Nat}(a:jU σ x dk)(c:x.oP F.q=σ.mp.oP F.q)(d:x.kh F.n=σ.mp.kh F.n):Wd F (iH σ x G dk) w:=by
 have e:(fK.iH σ x G dk).sp=σ.sp:=a.sp;refine⟨W.fL,W.j4,λj f=> ?_,W.nj,W.qm,λj f=>W.pQ j<|show j+2<=σ.sp by omega⟩;have b:j+2<=σ.sp:=Z
 have:=W.kU j b;show∃g s,w.heap[dk j]?=Ä (.chan F.q g (decide<|j<x.kh F.n) s (σ.wp j).jL É)/\xS F.n j (x.oP F.q) s/\_;rw[a.dk j b,c,d];exact this
def Uv{x:gH}{G:GS}{dk:Nat->Nat}(h:x.ad F.n=σ.mp.ad F.n):(iH σ x G dk).hD=σ.hD:=by
 funext y;show(if y<x.ad F.n then _ else _)=if y<σ.mp.ad F.n then _ else _
 rw[h];rfl
def Ps.iH(h:Ps F σ){x:gH}{G:GS}{dk:Nat->Nat}(d:jU σ x dk)(o:σ.mp.kh F.n<=x.kh F.n)(t:∀j,x=.go j\/x=.nL j\/x=.rd j\/x=.iX j->j<=F.n)(u:∀j,x=.nL j\/x=.rd j\/x=.iX j->1<=j)(v:∀r,(x=.jH r->r<=F.q)/\(x=.mU r->r<=F.n)) (w:∀c f,G=.cl c f->c=Ñ (F.n+1) (fK.iH σ x G dk).hD/\f=x.iq) (z:∀f,G=.kS f->Ñ (F.n+1) (fK.iH σ x G dk).hD=0/\f=x.iq/\∃y,y<σ.sp/\σ.la=Ä y/\(σ.ed y=Ä (.gC (.ig f))\/σ.ed y=Ä (.gC (.j1 f)))) (B:∀r s,G=.iQ r s->Ñ (F.n+1) (fK.iH σ x G dk).hD=0/\r+s=x.iq/\(0<r->∃y,y<σ.sp/\σ.la=Ä y/\σ.ed y=Ä (.gC (.jx r)))) (C:∀y p,σ.ed y=Ä (.gC p)->(∀W,p=.ig W\/p=.j1 W->σ.la=Ä y/\G=.kS W)/\(∀r,p=.jx r->0<r/\σ.la=Ä y/\∃s,G=.iQ r s)) (D:x=.fJ .ig\/x=.fJ .nh\/x=.gC->Ñ (F.n+1) (fK.iH σ x G dk).hD=0) (E:x=.fJ .ig->∃a b,G=.iQ a b) (H:(∀p,x≠ .fJ p)->x≠ .gC->∃c,G=.cl c 0):Ps F (fK.iH σ x G dk):=by
 have e:(fK.iH σ x G dk).sp=σ.sp:=d.sp;refine⟨h.v0,t,u,v,λq=>h.zA Z,h.ik,λj q=>h.oU j Z,λj r q=>h.wr j r Z,λj q I=> ?_,h.rz,λy q=>h.su y Z,λj g M N J=> ?_,λj q=> ?_,w,λf i=> ?_,λr s i=> ?_,C,D,h.rA,h.qp,λj r q=>h.tj j r Z,λj r q=>h.xW j r Z,E,H,h.uw,λj r q=>h.xY j r Z⟩
 .let⟨a,b⟩:=h.sr j Z I;exact⟨Ê a o,b⟩
 .have k:dk j=dk g:=J;rw[d.dk j Z,d.dk g Z]at k;exact h.pR j g Z Z k
 .show¬F.jg (dk j)/\dk j≠F.iG/\F.B0<=dk j;rw[d.dk j Z];exact h.td j Z
 .let⟨k,l,y,m,K⟩:=z f i;exact⟨k,l,y,Z,K⟩
 .let⟨k,l,m⟩:=B r s i;refine⟨k,l,λK=> ?_⟩;let⟨y,O,L⟩:=m K;exact⟨y,Z,L⟩
def Ps.vv(h:Ps F σ){x:gH}{dk:Nat->Nat}(d:jU σ x dk)(g:σ.mp.kh F.n<=x.kh F.n)(i:x.ad F.n=σ.mp.ad F.n)(f:x.iq=σ.mp.iq)(k:∀j,x=.go j\/x=.nL j\/x=.rd j\/x=.iX j->j<=F.n)(l:∀j,x=.nL j\/x=.rd j\/x=.iX j->1<=j)(m:∀r,(x=.jH r->r<=F.q)/\(x=.mU r->r<=F.n)) (o:x=.fJ .ig\/x=.fJ .nh\/x=.gC->Ñ (F.n+1) σ.hD=0) (s:x=.fJ .ig->∃a b,σ.Ga=.iQ a b) (t:(∀p,x≠ .fJ p)->x≠ .gC->∃c,σ.Ga=.cl c 0):Ps F (fK.iH σ x σ.Ga dk):=by
 have e:=Uv (σ:=σ) (G:=σ.Ga) (dk:=dk) i;refine h.iH d g k l m ?_ ?_ ?_ h.qo ?_ s t
 .rw[e,f];exact h.tf
 .rw[e,f];exact h.sw
 .rw[e,f];exact h.tg
 .rwa[e]
def uy.iH(h:uy F σ S d m)(ok:F.Ok){x:gH}{G:GS}{dk:Nat->Nat}{T:gY}(a:jU σ x dk):uy F (fK.iH σ x G dk) (fI S 0<|JM F dk x) (fI d 0 T) (fI m 0<|kM x):=by have:=ok.L1;have e:(fK.iH σ x G dk).sp=σ.sp:=a.sp;refine⟨by rw[il,il];exact⟨U,U⟩,λc b=>by rw[fW S _ Z,fW m _ Z];exact h.sI Z b,λj c b=> ?_,λy f c b=>by rw[fW S _ Z,fW m _ Z,fW d _ Z];exact h.sE y f Z b,λi c b=>by rw[fW S _ Z,fW m _ Z,fW d _ Z];exact h.sO i c b⟩;rw[fW S _ Z,fW m _ Z];show _=JW F (dk j) j (σ.wp j)/\_=kW F (dk j) (σ.wp j);rw[a.dk j Z];exact h.sW j Z b
def vw{x:gH}{G:GS}{dk:Nat->Nat}{T:gY}(h:x.rk F<σ.mp.rk F):sx F.N ((iH σ x G dk).mu (fI d 0 T) o) (σ.mu d E):=by refine KN (by unfold Ph.N;omega) (À ?_) λk a=>Ca (λh=>absurd h a) (λ_ _=>rfl) (λ_=>rfl) (λ_ _=>rfl) (λ_ _=>rfl)<|fW d _ a;rwa[HO,HO]
def aad:σ.ju 0=match σ.mp with|.fJ p=>p.ju F.B σ.Ga.st|_=>0:=by unfold gF.ju;rw[if_pos U]<;>cases σ.mp<;>rfl
def ajv{p a:SP}(b:σ.mp=.fJ (.ox p))(f:d 0=.fO)(h:a.rk F.B σ.Ga.st<p.rk F.B σ.Ga.st):sx F.N ((iH σ (.fJ (.ox a)) σ.Ga σ.dk).mu (fI d 0 .fO) o) (σ.mu d E):=by
 refine O_ (i:=0) (λk _=> ?_) (by unfold Ph.N;omega) ?_ λk c=> ?_
 .by_cases e:k=0
  .subst e;rw[HO,HO,il,b,f];rfl
  .exact Ca (λh=>absurd h e) (λ_ _=>rfl) (λ_=>rfl) (λ_ _=>rfl) (λ_ _=>rfl)<|fW d _ e
 .rwa[aad,aad,b]
 .unfold gF.ju;rw[if_neg c,if_neg c];rfl
def PI.wZ(p:PI F b zX σ S d m f E w qJ)(c:E[0]?=Ä g)(e:g.status=Å)(h:d 0=.fO):∀a,fU (f 0) (f 0).w a->JM F σ.dk σ.mp {f 0 with w:=a} g:=by
 let⟨i,j⟩:=p.s0;have k:m 0=.no\/m 0=.jx:=by
  rw[j];cases σ.mp with
  |fJ v=>cases v<;>first|exact À U|exact Á U
  |_=>exact À U
 intro a r;have:=p.gw.HR c e h k a r;rwa[i]at this
def Cn(ok:F.Ok):∀x,σ.jb x->0=F.L+x->False:=λx _ e=>by have:=ok.L1;omega
def PI.Co(H:iT F)(p:PI F b zX σ S d m f E w qJ){x:gH}{G:GS}{dk:Nat->Nat}{c:Æ}{T:gY}(a:jU σ x dk)(I:ŝ F.P (ò E w D) 0=(Ģ<|ò o W D,u))(t:o.size=E.size)(J:o[0]?=Ä c)(K:c.status=Å\/c.status=æ)(L:∀k,k≠0->o[k]?=E[k]?.map (Ą F.P g c W))(M:∀j,j+2<=σ.sp->W.heap[σ.dk j]?=w.heap[σ.dk j]?) (O:iI F.P F.B0 σ.Y (fI S 0<|JM F dk x) (fI d 0 T) (fI m 0<|kM x) (gX f 0 {f 0 with w:=W}) o W (qJ++u)) (Q:TI F.toFx b zX σ.sp σ.ip.rl σ.V σ.pk σ.fs σ.jb σ.ql (qJ++u)) (X:jF F σ (gX f 0 {f 0 with w:=W}) o.size W) (hW:Wd F (iH σ x G dk) W) (hP:Ps F (iH σ x G dk)) (yd:sx F.N ((iH σ x G dk).mu (fI d 0 T) o) (σ.mu d E)) (hxf:x=.gC->σ.mp=.gC):lF F b zX σ d E w qJ D 0:=by
 have e:(iH σ x G dk).sp=σ.sp:=a.sp;refine⟨iH σ x G dk,_,_,_,_,o,W,u,I,t,hxf,.of (p.kB.iH H.ok a) (by rw[e];exact t.trans p.fh) (by rwa[Ep a]) (X.iH a) hW hP (by rwa[e]) ?_ λq i n h l=>(p.kn q i Z h l).app u,yd⟩;intro k y h l;by_cases n:k=0
 .subst n;rw[J]at h;obtain rfl:=Ã h;rcases K with q|q<;>rw[q]at l<;>cases l
 .rw[L k n]at h;obtain⟨z,hz,rfl⟩:=Ú.1 h;let⟨_,hzb⟩:=KM l;rcases p.fu k z hz hzb with⟨h1,_⟩|⟨j,v,B,C,q|⟨r,cap,s,i,q,h4⟩⟩
  .exact absurd h1 n
  .exact Á ⟨j,Z,B,C,À q⟩
  .refine Á ⟨j,Z,B,C,Á ⟨r,cap,s,i,q,?_⟩⟩;show W.heap[dk j]?=_;rwa[a.dk j v,M j v]
def PI.O7(H:iT F)(p:PI F b zX σ S d m f E w qJ){x:gH}{h:Nat->Nat}{T:gY}(c:jU σ x h)(o:E[0]?=Ä g)(B:g.status=Å)(hF:na F.P Ï (JM F h x) T {f 0 with w:=w} g)(t:x.oP F.q=σ.mp.oP F.q)(l:x.kh F.n=σ.mp.kh F.n)(I:Ps F (iH σ x σ.Ga h))(J:sx F.N ((iH σ x σ.Ga h).mu (fI d 0 T) E) (σ.mu d E))(L:x=.gC->σ.mp=.gC):vp F b zX σ d E w qJ:=by
 have u:=jI o;have C:=p.gw.ie;have e:(iH σ x σ.Ga h).sp=σ.sp:=c.sp;have M:jR F.B0 (λi=>i<E.size) σ.Y (gX f 0 {f 0 with w:=w}) w qJ:=C.rv u (λ_ q=>q) (λa q=>À<|Á q) (λ_ q=>q) (λa q=>À<|Á q) U U U (C.lD _ u)<|C.lE _ u;have O:=p.gw.rv (K:=kM x) o (À B) M hF;refine⟨iH σ x σ.Ga h,_,_,_,_,L,.of (p.kB.iH H.ok c) (by rw[e];exact p.fh) (by rwa[Ep c]) ((p.iD.nF<|Ç _).iH c) (Wd.iH p.wd c t l) I (by rw[e];exact p.ti) (λk y a i=> ?_) λj v D s z=>p.kn j v Z s z,J⟩;by_cases D:k=0
 .subst D;rw[o]at a;obtain rfl:=Ã a;rw[B]at i;cases i
 .rcases p.fu k y a i with⟨t,_⟩|⟨j,Q,G,l,z|⟨r,V,s,v,z,W⟩⟩
  .exact absurd t D
  .exact Á ⟨j,Z,G,l,À z⟩
  .refine Á ⟨j,Z,G,l,Á ⟨r,V,s,v,z,?_⟩⟩;show w.heap[h j]?=_;rwa[c.dk j Q]
def po{x:gH}(h:x.sp F.n=σ.mp.sp F.n):jU σ x σ.dk:=⟨h,λ_ _=>rfl⟩
def pS:F.jg F.fL:=À U
def PI.ajw(H:iT F)(p:PI F b zX σ S d m f E w qJ)(k:E[0]?=Ä g)(l:g.status=Å)(o:d 0=.fO)(e:σ.mp=.nL j):vp F b zX σ d E w qJ:=by
 have s:=jI k;have i:=p.wZ k l o w<|p.gw.ie.gy _ s;rw[e]at i;let⟨c,i⟩:=i;have t:=p.ps.mj j<|Á<|À e;have x:=p.ps.xU j<|À e;have u:σ.sp=j:=by unfold gF.sp;rw[e];rfl
 have a:jU σ (.go j) (fI σ.dk (j-1) c):=⟨u.symm,λn h=>fW _ _ Z⟩;refine p.O7 H (T:=.fO) a k l (λr q=>H.KJ _ _ _ _ _ i q) (by rw[e];rfl) (by rw[e];rfl) (p.ps.vv a (by rw[e];exact Ç _) (by rw[e];rfl) (by rw[e];rfl) (λn h=> ?_) (λn h=> ?_) (λr=>⟨λh=>(by cases h),λh=>(by cases h)⟩) (λh=>by rcases h with h|h|h<;>cases h) (λh=>by cases h) λ_ _=>p.ps.aM (λv q=>by rw[e]at q;cases q) λq=>by rw[e]at q;cases q) (vw<|by rw[e];simp only[gH.rk];omega) λh=>by cases h
 .rcases h with h|h|h|h<;>cases h;exact t
 .rcases h with h|h|h<;>cases h
def PI.ajx(H:iT F)(p:PI F b zX σ S d m f E w qJ)(k:E[0]?=Ä g)(t:g.status=Å)(u:d 0=.fO)(i:σ.mp=.rd j):lF F b zX σ d E w qJ D 0:=by
 have z:=jI k;have n:=p.wZ k t u w<|p.gw.ie.gy _ z;rw[i]at n;let⟨W,_,X,B,s⟩:=n;have C:=p.ps.mj j<|Á<|Á<|À i;have G:=p.ps.xU j<|Á<|À i;have I:σ.sp=j:=by unfold gF.sp;rw[i];rfl
 have a:jU σ (.nL j) σ.dk:=⟨I.symm,λ_ _=>rfl⟩;let⟨J,K,L⟩:=Ue H p pS (À U) (À U) (À ⟨U,U⟩) λx c e=>Cn H.ok x c e;let⟨T,x⟩:=ku s;have e:=nO (λl g ⟨c,h⟩=>À<|H.B8 _ _ _ _ h) s;obtain⟨o,y,c,l,M,N,O,P,Q,V⟩:=p.Eh H (kM<|.nL j) k (B w) fB fB J K x e;refine p.Co H a M N O e P (λ_ _=>rfl) Q (L y c l) V (Wd.iH p.wd a (by rw[i];rfl)<|by rw[i];rfl) (p.ps.vv a (by rw[i];exact Ç _) (by rw[i];rfl) (by rw[i];rfl) (λq h=> ?_) (λq h=> ?_) (λr=>⟨λh=>(by cases h),λh=>(by cases h)⟩) (λh=>by rcases h with h|h|h<;>cases h) (λh=>by cases h) λ_ _=>p.ps.aM (λv q=>by rw[i]at q;cases q) λq=>by rw[i]at q;cases q) (vw<|by rw[i];simp only[gH.rk];omega) λh=>by cases h
 .rcases h with h|h|h|h<;>cases h;exact C
 .rcases h with h|h|h<;>cases h;exact G
end
section
variable{F:Ph}{σ I:gF F}{S:Nat->Jd}{m K:Nat->gY}{z:Nat->jw}{o:Nat->fj}{B:Array Æ}{u:é}{C:Option (Nat×Nat)}
def ajy(y:Nat):σ.hD y<=1:=by
 unfold gF.hD;split
 .cases σ.ed y with
  |none=>exact Ç _
  |some e=>cases e with
   |ry=>exact Ç _
   |gC p=>cases p<;>simp[oy,jd.hD,kT.hD]
   |ko N=>simp[oy,jd.hD]
 .omega
def aae(v:Int):mq F.fL w (w.setCell (gp F.fL)<|ê Ô v):=Á ⟨_,_,À U,U⟩
def Uw(H:iT F)(p:PI F n zX σ S m z o E w qJ)(h:mq F.fL w W){G:GS}(a:jc W F.fL G):Wd F {σ with Ga:=G,Gg:=σ.Gg} W:= h.wd H p.iD p.ps p.wd pS (Ga:=G) (Gg:=σ.Gg) ⟨λ_=>a,λe=>absurd U e⟩ λb c=>⟨λe=>absurd e.symm<|H.ok.AO b c,λ_=>rfl⟩
def Ux(H:iT F)(p:PI F n zX σ S m z o E w qJ)(h:mq F.fL w W)(c:i<E.size):fU {o i with w:=w} w W:=by have D:=h.yc p.iD H.ok pS;exact⟨Ö D.fh.symm,λb e=>D.lr b<|p.gw.ie.fX _ c b e,λa d=>D.fg _ c a d,λa d=>D.fC _ c a d,λa _=>D.ia a⟩
def Cp{l:fj}{b:Ð}(r:fU {l with w:=W} jX b):fU l jX b:=⟨r.fh,r.fu,r.fg,r.fC,r.ia⟩
def PI.ajz(H:iT F)(p:PI F n zX σ S m z o E w qJ)(t:E[0]?=Ä g)(Y:g.status=Å)(ht:m 0=.fO)(a:σ.mp=.iX j):lF F n zX σ m E w qJ C 0:=by
 have N:=jI t;have O:=p.wZ t Y ht w<|p.gw.ie.gy _ N;rw[a]at O;let⟨hd,_,hA⟩:=O;have hj:=p.ps.mj j<|Á<|Á<|Á a;have hj1:=p.ps.xU j<|Á<|Á a;have rm:σ.sp=j:=by unfold gF.sp;rw[a];rfl
 have Ee:=H.ok.gP;let⟨c,D⟩:=p.ps.aM (λv q=>by rw[a]at q;cases q) (λq=>by rw[a]at q;cases q);let⟨Ck,_⟩:=p.ps.tf c 0 D;have hcn:c<=F.n+1:=by rw[Ck];exact KS ajy
 have G:=D▸p.wd.fL;let⟨hv,I⟩:=G.aip Z;have J:=hA (GS.cl c 0).st;rw[hv]at J I;obtain⟨b,Q⟩:∃b,(GS.cl (c+1) 0).st=b:=⟨_,U⟩;rw[Q]at J I;let⟨K,h1,d⟩:=J;have Cg:=h1 w G.st G.vj;have k:=aae (F:=F) (w:=w) b;have tu:=Ux H p k N;have L:b=(c+1:Int)*gO:=by rw[<-Q];simp only[GS.st,gO];omega
 obtain⟨x,v,M⟩:∃x:gH,(x=.rd j\/x=.nL j)/\fA F.P Ï (JM F σ.dk x) {o 0 with w:=w} K:=by
  by_cases l:c=0
  .have e:b=gO:=by rw[L,l];simp[gO]
   simp only[if_pos e]at d;exact⟨.rd j,À U,d⟩
  .have r:¬b=gO:=by simp only[gO]at L|-;omega
   have s:gO<b/\b<1000000*gO/\b%gO=0:=by simp only[gO]at L|-;omega
   simp only[if_neg r,if_pos s]at d;exact⟨.nL j,Á U,d⟩
 let⟨T,hT⟩:=ku<|M.fZ tu;have V:K.status=Å\/K.status=æ:=by
  rcases v with rfl|rfl
  .exact nO (λl g h=>À h.2.1) M
  .exact nO (λl g ⟨c,h⟩=>À<|H.B8 _ _ _ _ h) M
 obtain⟨B,u,q1,q2,q3,q4,q5,q6,q7⟩:=p.oV H (kM x) t (À U) pS Cg k (Ea pS) U (λx l e=>(Cn H.ok x l e).elim) hT V;have l:x.ad F.n=j+1:=by rcases v with rfl|rfl<;>rfl
 have X:σ.mp.ad F.n=j:=by rw[a];rfl
 have K8:x.sp F.n=j:=by rcases v with rfl|rfl<;>rfl
 have hxr:x.iq=0:=by rcases v with rfl|rfl<;>rfl
 have e:jU σ x σ.dk:=⟨K8.trans rm.symm,λ_ _=>rfl⟩;have wW:Ñ (F.n+1) (iH σ x (.cl (c+1) 0) σ.dk).hD=c+1:=by
  have h:=AS (f:=σ.hD) (f':=(iH σ x (.cl (c+1) 0) σ.dk).hD) (j:=j) (n:=F.n+1) Z (λi y=>by
   show(if i<x.ad F.n then oy (σ.ed i)else 0)=if i<σ.mp.ad F.n then oy (σ.ed i)else 0
   rw[l,X];by_cases q:i<j
   .rw[if_pos q,if_pos Z]
   .rw[if_neg q,if_neg Z])
  have r:σ.hD j=0:=by unfold gF.hD;rw[X,if_neg Z]
  have s:(iH σ x (.cl (c+1) 0) σ.dk).hD j=1:=by show(if j<x.ad F.n then oy (σ.ed j)else 0)=1;rw[l,if_pos Z,p.ps.su j Z];rfl
  rw[r,s]at h;omega
 refine p.Co H e q1 q2 q3 V q4 (λr s=>k.mh p.ps pS s) q5 q6 q7 (Wd.iH (Uw H p k I) e (by rw[a];rcases v with rfl|rfl<;>rfl) (by rw[a];rcases v with rfl|rfl<;>rfl)) (p.ps.iH e (by rw[a];exact ô _) (λr h=> ?_) (λr h=> ?_) (λr=>⟨λh=> ?_,λh=> ?_⟩) (λi s h=> ?_) (λs h=>by cases h) (λr s h=>by cases h) (λy i h=> ?_) (λh=> ?_) (λh=> ?_) λ_ _=>⟨_,rfl⟩) (vw (by rw[a];rcases v with rfl|rfl<;>simp only[gH.rk]<;>omega)) (λh=>by rcases v with rfl|rfl<;>cases h)
 .rcases v with rfl|rfl<;>rcases h with h|h|h|h<;>cases h<;>exact hj
 .rcases v with rfl|rfl<;>rcases h with h|h|h<;>cases h<;>exact hj1
 .rcases v with rfl|rfl<;>cases h
 .rcases v with rfl|rfl<;>cases h
 .cases h;exact⟨wW.symm,hxr.symm⟩
 .have:=p.ps.qo y i h;rw[D]at this;exact⟨λW q=>(by have:=(this.1 W q).2;cases this),λr hr=>(by let⟨_,_,s,h⟩:=this.2 r hr;cases h)⟩
 .rcases v with rfl|rfl<;>rcases h with h|h|h<;>cases h
 .rcases v with rfl|rfl<;>cases h
def PI.ajA(H:iT F)(p:PI F n zX σ S m z o E w qJ)(c:E[0]?=Ä g)(d:g.status=Å)(f:m 0=.fO)(b:σ.mp=.jH 0):vp F n zX σ m E w qJ:=by
 have e:=p.wZ c d f;rw[b]at e;have i:=jI c;have a:jU σ (.mU F.n) σ.dk:=po (by rw[b];rfl);refine p.O7 H (T:=.fO) a c d (λh q=>e h<|(p.gw.ie.gy _ i).fl<|Cp q) (by rw[b];simp[gH.oP]) (by rw[b];simp[gH.kh]) (p.ps.vv a (by rw[b];exact ô _) (by rw[b];rfl) (by rw[b];rfl) (λq h=> ?_) (λq h=> ?_) (λr=>⟨λh=>(by cases h),λh=> ?_⟩) (λh=>by rcases h with h|h|h<;>cases h) (λh=>by cases h) λ_ _=>p.ps.aM (λv q=>by rw[b]at q;cases q) λq=>by rw[b]at q;cases q) (vw<|by rw[b];simp only[gH.rk];omega) λh=>by cases h
 .rcases h with h|h|h|h<;>cases h
 .rcases h with h|h|h<;>cases h
 .cases h;exact Ç _
def PI.ajB(H:iT F)(p:PI F n zX σ S m z o E w qJ)(c:E[0]?=Ä g)(d:g.status=Å)(f:m 0=.fO)(b:σ.mp=.mU 0):vp F n zX σ m E w qJ:=by
 have e:=p.wZ c d f;rw[b]at e;have i:=jI c;have a:jU σ (.fJ .jy) σ.dk:=po (by rw[b];rfl);refine p.O7 H (T:=.fO) a c d (λh r=>e h<|(p.gw.ie.gy _ i).fl<|Cp r) (by rw[b];rfl) (by rw[b];simp[gH.kh]) (p.ps.vv a (by rw[b];simp[gH.kh]) (by rw[b];rfl) (by rw[b];rfl) (λr h=> ?_) (λr h=> ?_) (λr=>⟨λh=>(by cases h),λh=>(by cases h)⟩) (λh=>by rcases h with h|h|h<;>cases h) (λh=>by cases h) λh _=>absurd rfl<|h _) (vw<|by rw[b];simp only[gH.rk,kx.rk];omega) λh=>by cases h
 .rcases h with h|h|h|h<;>cases h
 .rcases h with h|h|h<;>cases h
def Er{v:kx}:∀j,(gH.fJ v=.go j\/gH.fJ v=.nL j\/gH.fJ v=.rd j\/gH.fJ v=.iX j)->j<=F.n:=λj h=>by rcases h with h|h|h|h<;>cases h
def Es{v:kx}:∀j,(gH.fJ v=.nL j\/gH.fJ v=.rd j\/gH.fJ v=.iX j)->1<=j:=λj h=>by rcases h with h|h|h<;>cases h
def Et{v:kx}:∀r,(gH.fJ v=.jH r->r<=F.q)/\(gH.fJ v=.mU r->r<=F.n):=λr=>⟨λh=>(by cases h),λh=>(by cases h)⟩
def PI.ajC(H:iT F)(p:PI F n zX σ S m z o E w qJ)(c:E[0]?=Ä g)(d:g.status=Å)(f:m 0=.fO)(b:σ.mp=.fJ .jy):vp F n zX σ m E w qJ:=by have i:=jI c;have e:=p.wZ c d f w<|p.gw.ie.gy _ i;rw[b]at e;let⟨k,q,j,l⟩:=e;have a:jU σ (.fJ (.ox (.gN k))) σ.dk:=po (by rw[b];rfl);exact p.O7 H (T:=.fO) a c d (λr h=>⟨j,Oq l h⟩) (by rw[b];rfl) (by rw[b];rfl) (p.ps.vv a (by rw[b];exact Ç _) (by rw[b];rfl) (by rw[b];rfl) Er Es Et (λh=>by rcases h with h|h|h<;>cases h) (λh=>by cases h) λh _=>absurd rfl<|h _) (vw<|by rw[b];simp only[gH.rk,kx.rk];omega) λh=>by cases h
def PI.ajD(H:iT F)(p:PI F n zX σ S m z o E w qJ){v:SP}(k:E[0]?=Ä g)(jE:g.status=Å)(ht:m 0=.fO)(b:σ.mp=.fJ (.ox v)):lF F n zX σ m E w qJ C 0:=by
 have iy:=jI k;have hJ:=p.wZ k jE ht w<|p.gw.ie.gy _ iy;rw[b]at hJ;obtain⟨hd,Y⟩:=hJ;have hG:=p.wd.fL;obtain⟨_,Y⟩:=P' Y hG;have pM:σ.mp.kh F.n<=F.n:=by rw[b];exact Ç _
 rcases Y with⟨q,g',es,j,f,Q,h4⟩|⟨g',j,f,Q⟩|⟨g',c,i,t,ye,j,f⟩
 .have r:∀e∈es,yb F.toFx e:=by
   rcases f with rfl|rfl
   .intro e W;simp at W
   .exact Cc pS
  have s:Î (o 0).d es=(o 0).d:=by rcases f with rfl|rfl<;>rfl
  obtain⟨P,W,l⟩:=Q;obtain⟨B,u,D,I,K,L,M,N,O⟩:=p.oV (J:=JM F σ.dk<|.fJ (.ox q)) (T:=.fO) H (kM<|.fJ (.ox q)) k (À U) pS j (À U) r s (λx y e=>(Cn H.ok x y e).elim) (λh a=>⟨hd,Oq ⟨P,W,l⟩ a⟩)<|À (l _ _ W).1;have a:jU σ (.fJ (.ox q)) σ.dk:=po (by rw[b];rfl);exact p.Co H a D I K (À (l _ _ W).1) L (λ_ _=>rfl) M N O (Wd.iH p.wd a (by rw[b];rfl)<|by rw[b];rfl) (p.ps.vv a pM (by rw[b];rfl) (by rw[b];rfl) Er Es Et (λh=>by rcases h with h|h|h<;>cases h) (λh=>by cases h) λh _=>absurd rfl<|h _) (ajv b ht h4) λh=>by cases h
 .obtain⟨T,hT⟩:=ku Q;have P:=nO (λl g h=>À h.2.1) Q;obtain⟨B,u,D,I,K,L,M,N,O⟩:=p.oV H (kM<|.fJ .nh) k (À U) pS j (À U) (Cc pS) U (λx y e=>(Cn H.ok x y e).elim) hT P;have a:jU σ (.fJ .nh) σ.dk:=po (by rw[b];rfl);refine p.Co H a D I K P L (λ_ _=>rfl) M N O (Wd.iH p.wd a (by rw[b];rfl)<|by rw[b];rfl) (p.ps.vv a pM (by rw[b];rfl) (by rw[b];rfl) Er Es Et (λ_=> ?_) (λh=>by cases h) λh _=>absurd rfl<|h _) (vw<|by rw[b];simp only[gH.rk,kx.rk];omega) (λh=>by cases h);cases W:σ.Ga with
  |cl c i=>have:=f c i W;have:=(p.ps.tf c i W).1;omega
  |kS i=>exact(p.ps.sw i W).1
  |iQ r s=>exact(p.ps.tg r s W).1
 .obtain⟨e1,V⟩:=p.ps.tf c i t;rw[b]at V;have V:i=0:=V;subst V;have KU:=t▸hG;obtain⟨hv,Cf⟩:=KU.F_ ye Z;rw[t,hv]at j;rw[hv]at Cf;rw[t]at f;have e:(GS.cl c 0).st%gO=0:=by simp only[GS.st,gO];omega
  simp only[e,if_true]at f;have X:=aae (F:=F) (w:=w) (GS.cl c<|0+1).st;have tu:=Ux H p X iy;obtain⟨T,hT⟩:=ku<|f.fZ tu;have P:=nO (λl g h=>À h.2.1) f;obtain⟨B,u,D,I,K,L,M,N,O⟩:=p.oV H (kM<|.fJ .wr) k (À U) pS j X (Ea pS) U (λx y e=>(Cn H.ok x y e).elim) hT P;have a:jU σ (.fJ .wr) σ.dk:=po (by rw[b];rfl);have l:=Uv (σ:=σ) (x:=.fJ .wr) (G:=.cl c (0+1)) (dk:=σ.dk) (by rw[b];rfl);refine p.Co H a D I K P L (λy W=>X.mh p.ps pS W) M N O (Wd.iH (Uw H p X Cf) a (by rw[b];rfl)<|by rw[b];rfl) (p.ps.iH a pM Er Es Et (λW i h=> ?_) (λi h=>by cases h) (λr s h=>by cases h) (λy q h=> ?_) (λh=>by rcases h with h|h|h<;>cases h) (λh=>by cases h) λh _=>absurd rfl<|h _) (vw<|by rw[b];simp only[gH.rk,kx.rk];omega) λh=>by cases h
  .rw[l];cases h;exact⟨e1,U⟩
  .have:=p.ps.qo y q h;rw[t]at this;exact⟨λW hW=>(by have:=(this.1 W hW).2;cases this),λr hr=>(by obtain⟨_,_,s,h⟩:=this.2 r hr;cases h)⟩
def PI.ajE(H:iT F)(p:PI F n zX σ S m z o E w qJ)(c:E[0]?=Ä g)(i:g.status=Å)(j:m 0=.fO)(b:σ.mp=.fJ .wr):lF F n zX σ m E w qJ C 0:=by have k:=jI c;have d:=p.wZ c i j w<|p.gw.ie.gy _ k;rw[b]at d;let⟨L,_,M,q,f⟩:=d;have a:jU σ (.fJ .ml) σ.dk:=po (by rw[b];rfl);let⟨r,s,t⟩:=Ue H p pS (À U) (Á U) (À ⟨U,U⟩) λx h e=>Cn H.ok x h e;let⟨T,x⟩:=ku f;have e:=nO (λl g h=>À h.2.1) f;obtain⟨B,y,l,u,v,D,G,I,J,K⟩:=p.Eh H (kM<|.fJ .ml) c (q w) fB fB r s x e;exact p.Co H a v D G e I (λ_ _=>rfl) J (t y l u) K (Wd.iH p.wd a (by rw[b];rfl)<|by rw[b];rfl) (p.ps.vv a (by rw[b];exact Ç _) (by rw[b];rfl) (by rw[b];rfl) Er Es Et (λh=>by rcases h with h|h|h<;>cases h) (λh=>by cases h) λh _=>absurd rfl<|h _) (vw<|by rw[b];simp only[gH.rk,kx.rk];omega) λh=>by cases h
def PI.ajF(H:iT F)(p:PI F n zX σ S m z o E w qJ)(f:E[0]?=Ä g)(r:g.status=Å)(s:m 0=.fO)(d:σ.mp=.fJ .ig):lF F n zX σ m E w qJ C 0:=by have t:=jI f;have j:=p.wZ f r s w<|p.gw.ie.gy _ t;rw[d]at j;let⟨P,_,v⟩:=j;let⟨a,b,y⟩:=p.ps.AP d;have k:=p.wd.fL;rw[y]at k;let⟨Q,D,i⟩:=v 0;simp only[if_true]at i;have c:jU σ (.fJ .nh) σ.dk:=po (by rw[d];rfl);let⟨T,G⟩:=ku i;have q:=nO (λl g h=>À h.2.1) i;obtain⟨B,u,l,I,J,K,L,M,N⟩:=p.oV H (kM<|.fJ .nh) f (À U) pS (D w k.st) (À U) (Cc pS) U (λx O e=>(Cn H.ok x O e).elim) G q;exact p.Co H c l I J q K (λ_ _=>rfl) L M N (Wd.iH p.wd c (by rw[d];rfl)<|by rw[d];rfl) (p.ps.vv c (by rw[d];exact Ç _) (by rw[d];rfl) (by rw[d];rfl) Er Es Et (λ_=>p.ps.xV<|À d) (λh=>by cases h) λh _=>absurd rfl<|h _) (vw<|by rw[d];simp only[gH.rk,kx.rk];omega) λh=>by cases h
theorem PI.ajG(H:iT F)(p:PI F n zX σ S m z o E w qJ){g:Æ}(d:E[0]?=Ä g)(f:g.status=Å)(J:m 0=.fO)(b:σ.mp=.fJ .ml):lF F n zX σ m E w qJ C 0:=by
 have K:=jI d;have L:=p.wZ d f J w<|p.gw.ie.gy _ K;rw[b]at L;obtain⟨hd,_,M,Uh,g',h1,O⟩:=L;have Q:=p.wd.fL;have yd:0<F.N:=by unfold Ph.N;omega
 by_cases j:σ.Ga.sm=0
 .have s:=Q.sm;rw[j]at s;obtain⟨T,l⟩:=p.s0;rw[b]at T l;have t:=Uh w s;obtain⟨B,v,c,q,D⟩:=TH d t;have V:∀x,Ą F.P g {g with status:=Þ} w x=x:=by
   intro x;unfold Ą;rw[if_neg fB]
  have r:∀k,k≠0->B[k]?=E[k]?:=by
   intro k a;rw[D k a];cases E[k]? with
   |none=>rfl
   |some x=>simp[V]
  have W:iI F.P F.B0 σ.Y S m z o B w (qJ++#[]):=by
   rw[Û];obtain⟨g0,X,I,f3,f4⟩:=p.gw.kv _ g d;have hg:g=g0:=by
    rw[l]at I;cases I with
    |gR=>rfl
    |qk h M=>cases f
   subst hg;refine⟨?_,λk y a=> ?_,λk a=>p.gw.vh k<|by rwa[<-c]⟩
   .rw[show(λi=>i<B.size)=(λi=>i<E.size) by rw[c]];exact p.gw.ie
   .by_cases e:k=0
    .subst e;rw[q]at a;obtain rfl:=Ã a;refine⟨g,X,?_,À f,Á J⟩;rw[l];exact .qk f M
    .rw[r k e]at a;exact p.gw.kv k y a
  refine⟨σ,S,m,z,o,B,w,#[],v,c,λh=>h,.of p.kB (c.trans p.fh) W (by rw[c];exact p.iD) p.wd p.ps (by rw[Û];exact p.ti) (λk y a i=> ?_) (by rw[Û];exact p.kn),T8 (λ_ _=>rfl) yd (by rw[HY d,if_pos f]) (by rw[HY q,if_neg fB]) λk a=>Ug<|r k a⟩;by_cases e:k=0
  .subst e;exact À ⟨U,b,j⟩
  .rw[r k e]at a;exact p.fu k y a i
 .obtain⟨a,s,k⟩:=R' j;have I:=k▸Q;have Cf:=I.ml;have Ui:((GS.iQ a<|s+1).sm:Int)≠0:=by simp only[GS.sm];omega
  have t:=h1 w _ Ui I.sm I.zx;have i:mq F.fL w (w.setCell (iP F.fL)<|ê â<|(GS.iQ a<|s+1).sm-1):=Á ⟨_,_,Á U,U⟩;have tu:=Ux H p i K;obtain⟨T,hT⟩:=ku<|O.fZ tu;have V:=nO (λl g h=>À h.2.1) O;obtain⟨B,u,v,c,q,D,q5,q6,q7⟩:=p.oV H (kM<|.fJ .ig) d (À U) pS t i (KP pS) (KQ _).2.2.2 (λx l e=>(Cn H.ok x l e).elim) hT V;obtain⟨X,l,b3⟩:=p.ps.tg a (s+1) k;rw[b]at l;have l:a+(s+1)=1:=l;have ha:a=0:=Z
  have hs0:s=0:=Z
  subst ha hs0;have e:jU σ (.fJ .ig) σ.dk:=po (by rw[b];rfl);have eo:=Uv (σ:=σ) (x:=.fJ .ig) (G:=.iQ 0 0) (dk:=σ.dk) (by rw[b];rfl);refine p.Co H e v c q V D (λW r=>i.mh p.ps pS r) q5 q6 q7 (Wd.iH (Uw H p i Cf) e (by rw[b];rfl)<|by rw[b];rfl) (p.ps.iH e (by rw[b];exact Ç _) Er Es Et (λW r h=>by cases h) (λr h=>by cases h) (λr s h=> ?_) (λy p' h=> ?_) (λ_=>by rwa[eo]) (λ_=>⟨0,0,U⟩) λh _=>absurd U<|h _) (vw<|by rw[b];simp only[gH.rk,kx.rk];omega) λh=>by cases h
  .rw[eo];cases h;exact⟨X,U,λh=>by omega⟩
  .have:=p.ps.qo y p' h;rw[k]at this;exact⟨λW hW=>(by have:=(this.1 W hW).2;cases this),λr hr=>(by obtain⟨j,_,s,h⟩:=this.2 r hr;injection h with h _;omega)⟩
end
section
variable{S:Nat->Jd}{a:Nat->gY}{b:Nat->jw}{d:Nat->fj}
def iI.ajH(p:iI P i X S a b d E w qJ)(q:E[k]?=Ä g)(h:B2 n É g):∃z,b k=.mh n z:=by
 let⟨j,t,u,f,r,l,v,s⟩:=h;let⟨g0,_,m,o,_⟩:=p.kv k g q;generalize b k=K at m;cases m with
 |gR=>rw[j]at o;rcases o with e|e<;>cases e
 |qk h e=>simp only[e]at f;cases f
 |xL e z h=>
  simp only[Ň,Ŀ,Prod.mk.injEq]at f;rw[<-f.1]at l;have:r=š e z:=by simpa using l
  subst this;have:e=n:=by simpa[š]using s
  subst this;exact⟨z,U⟩
 |pN e z h=>cases j
def iI.aaf(l:iI P i X S a b d E w qJ){x:Æ}(m:E[k]?=Ä x)(f:x.status=Þ)(o:b k=.mh n z):∃g0,x=Ň g0 #[š n z] (.recv Ï):=by
 let⟨g0,_,g,j,_⟩:=l.kv k x m;rw[o]at g;cases g with
 |gR=>rw[f]at j;rcases j with e|e<;>cases e
 |xL _ _ h=>exact⟨g0,U⟩
 |pN _ _ h=>cases f
def ajI{g0:Æ}:B2 i É (Ň g0 #[š i z]<|.recv Ï):= ⟨U,_,_,U,š i z,fB,U,by simp[š]⟩
def ajJ{g0:Æ}{r:Nat}(h:w.heap[i]?=Ä (.chan n q Ï j r yQ)):((Ň g0 #[š i z]<|.recv Ï).again w).status=Å:=by unfold ĕ Ň;simp[š,h]
def ajK(h:(g.again w).status=Þ):g.again w=g/\g.status=Þ:=by
 unfold ĕ at h|-;split at h
 .rename_i a b;simp only at h|-;split at h
  .cases h
  .rename_i c;simp only[a,b];exact⟨by rw[if_neg c],trivial⟩
 .cases h
 .cases h
 .rename_i a b c;exact⟨U,h⟩
end
section
variable{F:Ph}{σ o:gF F}{S:Nat->Jd}{a D:Nat->gY}{b:Nat->jw}{d:Nat->fj}{f:Array Æ}{u:é}{m:Option (Nat×Nat)}
def PI.aag(p:PI F j zX σ S a b d E w qJ){x:Æ}(m:E[k]?=Ä x)(h:B2 i É x):∃f,f+2<=σ.sp/\σ.ed (f+1)=Í/\k=F.L+1+f/\σ.dk f=i/\∃r,σ.wp f=.pO r:=by
 let⟨z,g⟩:=p.gw.ajH m h;have q:=jI m;by_cases n:k=0
 .subst n;rw[p.s0.2]at g;revert g;cases σ.mp with
  |fJ v=>cases v<;>intro h<;>cases h
  |_=>intro h;cases h
 by_cases o:k<F.L
 .rw[(p.sO k Z o).2.2]at g;cases g
 have s:=p.fh;obtain⟨y,rfl⟩:∃y,k=F.L+y:=⟨k-F.L,Z⟩;cases l:σ.ed y with
 |some e=>rw[(p.sE y e Z l).2.1]at g;cases g
 |none=>
  cases y with
  |zero=>rw[ö,(p.sI Z l).2]at g;cases g
  |succ f=>
   rw[show F.L+(f+1)=F.L+1+f by omega,(p.sW f Z l).2]at g;cases e:σ.wp f with
   |pO r=>
    rw[e]at g;injection g with g _;exact⟨f,Z,l,Z,g,r,e⟩
   |fJ r v=>rw[e]at g;cases v<;>cases g
   |j5 r=>rw[e]at g;cases g
   |mf r=>rw[e]at g;cases g
def aah(h:xS n j i k)(d:1<=n)(a:j=i%n):i=j+k*n:=by
 have e:i=j+i/n*n:=by rw[a,Nat.mul_comm];exact(Nat.mod_add_div i n).symm
 have b:k=i/n:=by
  refine Nat.le_antisymm (ĉ λq=> ?_)<|ĉ λq=> ?_
  .have:=(h<|i/n).1 q;omega
  .have f:=mt (h k).2 Z;have c:(k+1)*n<=i/n*n:=Ē n q;rw[Ż]at c;omega
 rwa[b]
def aai(h:xS n j i k)(b:1<=n)(c:j=i%n):xS n j (i+1) (k+1):=by
 have e:=aah h b c;intro a;constructor
 .intro q;have:a*n<=k*n:=Ē n Z;omega
 .intro q;refine ó λd=> ?_;have:(k+1)*n<=a*n:=Ē n d;rw[Ż]at this;omega
def aaj(h:xS n j i k)(b:j<n)(c:j≠i%n):xS n j (i+1) k:=by
 intro a;rw[h a];constructor
 .omega
 .intro q;have:j+a*n≠i:=λe=>c (by rw[<-e,Ę,ň b]);omega
def PI.ajL(H:iT F)(p:PI F j zX σ S a b d E w qJ){r:Nat}(hi:E[0]?=Ä g)(jE:g.status=Å)(ht:a 0=.fO)(D:σ.mp=.jH (r+1)):lF F j zX σ a E w qJ m 0:=by
 have iy:=jI hi;have C:=p.gw.ie;have hn:=H.ok.n1;have hL:=H.ok.L1;have OX:=(p.ps.mr<|r+1).1 D;have rm:σ.sp=F.n+1:=by unfold gF.sp;rw[D];rfl
 obtain⟨hs,hk⟩:=p.s0;rw[D]at hs hk;obtain⟨Q,hQ⟩:∃Q,Q=F.q-(r+1):=⟨_,U⟩;obtain⟨c,hj⟩:∃c,c=Q%F.n:=⟨_,U⟩;have hs:S 0=D1 F.P (0==0) (σ.dk c) (F.sk Q) (KI F σ.dk r):=by rw[hs,hj,hQ];rfl
 have Ce:c<F.n:=by rw[hj];exact Θ _ hn
 have V:c+2<=σ.sp:=Z
 have hY:σ.Y (σ.dk c):=Á<|Á ⟨c,V,U⟩;obtain⟨W,s,hc,yg,O8,Ch,Ci⟩:=p.wd.kU c V;have pM:decide (c<σ.mp.kh F.n)=É:=by rw[D];simp[gH.kh]
 rw[pM]at hc;have KY:σ.mp.oP F.q=Q:=by rw[D,hQ];rfl
 rw[KY]at yg;have eQ:=aah yg hn hj;have hsQ:s<=s*F.n:=ç _ hn;have aak:(gH.jH r).oP F.q=Q+1:=by simp only[gH.oP];omega
 have H2:=C.kE _ hY;have nmj:∀o,(gH.jH r=.go o\/gH.jH r=.nL o\/gH.jH r=.rd o\/gH.jH r=.iX o)->o<=F.n:=λo h=>by rcases h with h|h|h|h<;>cases h
 have aal:∀o,(gH.jH r=.nL o\/gH.jH r=.rd o\/gH.jH r=.iX o)->1<=o:=λo h=>by rcases h with h|h|h<;>cases h
 have nmr:∀M,(gH.jH r=.jH M->M<=F.q)/\(gH.jH r=.mU M->M<=F.n):=λM=>⟨λh=>(by cases h;omega),λh=>(by cases h)⟩;have aM:=p.ps.aM (λv q=>by rw[D]at q;cases q) (λq=>by rw[D]at q;cases q);have hLs:=p.fh;by_cases hp:∃(k:Nat) (x:Æ),E[k]?=Ä x/\B2 (σ.dk c) É x
 .obtain⟨k,gj,Hx,pT⟩:=hp;obtain⟨o,rB,he,rfl,Eu,M,Ev⟩:=p.aag Hx pT;have ej:=p.ps.pR _ _ rB V Eu;subst ej;have hb:=pT.1;obtain⟨Ow,Ov⟩:=p.sW o rB he;rw[Ev]at Ow Ov;have mw:=Cd H.ok o;have ajM:S (F.L+1+o)=AJ F.P (F.L+1+o==0) (σ.dk o) F.z λx=>match x with
   |some v=>λl g=>v=F.sk (o+M*F.n)->uq F.P É F.B (F.gK<|F.gq<|o+M*F.n) (F.xR (σ.dk o)<|o+M*F.n) .jy l g
   |none=>D7 F:=by rw[mw];exact Ow
  have nD:F.L+1+o≠0:=Z
  have TO:a (F.L+1+o)=.fO:=by obtain⟨g0,_,i,e,h4⟩:=p.gw.kv _ gj Hx;refine h4.resolve_left λq=> ?_;subst q;rw[hb]at e;rcases e with q|q<;>cases q
  have Uk:W=#[]:=by
   rcases p.fu _ gj Hx hb with⟨h1,_⟩|⟨t,_,_,h2,⟨G,X,_⟩|⟨G,cap,i,e,X,h4⟩⟩
   .exact absurd h1 nD
   .have:t=o:=Z
    subst this;rw[Ev]at X;cases X
   .have:t=o:=Z
    subst this;rw[hc]at h4;injection h4 with h4;injection h4
  subst Uk;rw[Ev]at hc O8 Ch;simp only[iJ.jL]at hc O8 Ch;have hsr:s=M:=by simp at Ch;omega
  subst hsr;obtain⟨f,u,T,Tj,g',gj',q1,q2,q3,q4,q5,q6,q7,q8,q9⟩:=p.gw.aik hi hk ht hs hY hc nD Hx hb Ov TO ajM (kW F (σ.dk o)<|.fJ s .jy) (λI K O e i=>by obtain⟨j3,a1,_,a3,y,_⟩:=p.aag e i;have:=p.ps.pR _ _ a1 V y;omega);have q10:=q9.lO (J:=JW F (σ.dk o) o<|.fJ s .jy) (λl g h=>by rw[fW _ _ nD,il]at h;exact h<|by rw[eQ]);have e10:fI (fI (fI S (F.L+1+o) ((match(Ä (F.sk Q):Option ì)with
   |some v=>λl g=>v=F.sk (o+s*F.n)->uq F.P É F.B (F.gK<|F.gq<|o+s*F.n) (F.xR (σ.dk o)<|o+s*F.n) .jy l g
   |none=>D7 F))) 0 (KI F σ.dk r)) (F.L+1+o) (JW F (σ.dk o) o (.fJ s .jy))=fI (fI S (F.L+1+o) (JW F (σ.dk o) o (.fJ s .jy))) 0 (JM F σ.dk (.jH r)):=by
   funext k;by_cases I:k=F.L+1+o
   .subst I;rw[il,fW _ _ nD,il]
   .by_cases k2:k=0
    .subst k2;rw[fW _ _<|õ nD,il,il];rfl
    .rw[fW _ _ I,fW _ _ k2,fW _ _ I,fW _ _ k2,fW _ _ I]
  rw[e10]at q10;have oW:o+s*F.n<F.q:=Z
  have Pw:=p.ps.gM (x:=.fJ s .jy) V he (λk=>by rw[Ev,Ud U];rfl) (λG h=>by rcases h with⟨_,h⟩|h|h<;>cases h;exact oW) (λG h=>by rcases h with h|h|h<;>cases h) (λG h=>by cases h) (λG h=>by cases h);have l:jU (gM σ o<|.fJ s .jy) (.jH r) σ.dk:=⟨by show _=σ.mp.sp F.n;rw[D];rfl,λ_ _=>rfl⟩;have e:(iH (gM σ o<|.fJ s .jy) (.jH r) σ.Ga σ.dk).sp=σ.sp:=l.sp;obtain⟨z1,z2,z3,z4,z5⟩:=p.wd.mh H p.iD p.ps V;refine⟨iH (gM σ o<|.fJ s .jy) (.jH r) σ.Ga σ.dk,_,_,_,_,f,_,u,q1,q2,(λh=>by have h:=h;cases h),.of ((p.kB.gM H.ok V he).iH H.ok l) (by rw[e];exact q2.trans p.fh) (by rw[Ep l];exact q10) ?_ ⟨z4,z5,λt AU=> ?_,z1,z2,λt AU G DY h1=> ?_⟩ (Pw.vv l (by show σ.mp.kh F.n<=_;rw[D];exact ô _) (by show _=σ.mp.ad F.n;rw[D];rfl) (by show _=σ.mp.iq;rw[D];rfl) nmj aal nmr (λh=>by rcases h with h|h|h<;>cases h) (λh=>by cases h) λ_ _=>aM) (by rw[e];exact OZ p.ti q8) (λk y O lV=> ?_) λt G a1 a2 a3=> ?_,?_⟩
  .rw[q2];exact(((p.iD.gM<|by rw[Ev];rfl).iH l).HZ<|Ö KX.symm)
  .have yi:t+2<=σ.sp:=Z
   show∃W K,(w.setChan (σ.dk o) _ _ _ _ _ _).heap[σ.dk t]?=Ä (.chan F.q W (decide<|t<(gH.jH r).kh F.n) K ((gM σ o<|.fJ s .jy).wp t).jL É)/\xS F.n t ((gH.jH r).oP F.q) K/\((gM σ o<|.fJ s .jy).wp t).jL<=K/\W.size=K-((gM σ o<|.fJ s .jy).wp t).jL/\∀i,i<K-((gM σ o<|.fJ s .jy).wp t).jL->W[i]?=Ä (F.sk<|t+(((gM σ o<|.fJ s .jy).wp t).jL+i)*F.n);rw[aak];by_cases v:t=o
   .subst v;rw[lh];refine⟨#[],s+1,by rw[OY H2];rfl,aai yg hn hj,Ç _,by simp[iJ.jL],λi nH=> ?_⟩;have hi2:i<s+1-(s+1):=nH;omega
   .rw[jM _ v,tq λq=>v<|p.ps.pR _ _ yi V q];obtain⟨Uy,K,y1,y2,y3⟩:=p.wd.kU t yi;rw[KY]at y2;refine⟨Uy,K,?_,aaj y2 Z Z,y3⟩;rw[y1,D];rfl
  .have yi:t+2<=σ.sp:=Z
   have zD:G<((gM σ o<|.fJ s .jy).wp t).iG:=h1;by_cases v:t=o
   .subst v;rw[lh]at zD;exact z3 t yi G DY<|by rw[Ev];exact zD
   .rw[jM _ v]at zD;exact z3 t yi G DY zD
  .by_cases I:k=0
   .subst I;rw[q3]at O;obtain rfl:=Ã O;rw[q4]at lV;cases lV
   .by_cases k2:k=F.L+1+o
    .subst k2;rw[q5]at O;obtain rfl:=Ã O;rw[q6]at lV;cases lV
    .rw[q7 k I k2]at O;rcases p.fu k y O lV with⟨h1,_⟩|⟨t,AU,Cm,h2,X|⟨r1,cap,s1,M,X,h4⟩⟩
     .exact absurd h1 I
     .exact Á ⟨t,Z,Cm,h2,À (by show∃G,(gM σ o _).wp t=_/\_;rw[jM _ Z];exact X)⟩
     .have v:t≠o:=Z
      exact Á ⟨t,Z,Cm,h2,Á ⟨r1,cap,s1,M,by show(gM σ o _).wp t=_;rw[jM _ v];exact X,by show(w.setChan (σ.dk o) _ _ _ _ _ _).heap[σ.dk t]?=_;rw[tq λq=>v<|p.ps.pR _ _ AU V q];exact h4⟩⟩
  .have Eg:(gM σ o<|.fJ s .jy).wp t=.j5 G:=a2;have v:t≠o:=λe=>by subst e;rw[lh]at Eg;cases Eg
   rw[jM _ v]at Eg;exact(p.kn t G Z Eg a3).app u
  .refine À ⟨0,by unfold Ph.N;omega,À ?_,λk vq Cq=> ?_⟩
   .show((iH (gM σ o<|.fJ s .jy) (.jH r) σ.Ga σ.dk).fX _ 0).1<(σ.fX a 0).1;rw[HO,HO,D];show(gH.jH r).rk F<(gH.jH<|r+1).rk F;simp only[gH.rk];omega
   .show(iH (gM σ o<|.fJ s .jy) (.jH r) σ.Ga σ.dk).fX _ k=σ.fX a k\/B9 ((iH (gM σ o<|.fJ s .jy) (.jH r) σ.Ga σ.dk).fX _ k) (σ.fX a k);by_cases k2:k=F.L+1+o
    .subst k2;refine Á<|À ?_;rw[ya H.ok (σ:=iH (gM σ o<|.fJ s .jy) (.jH r) σ.Ga σ.dk) (show σ.ed (o+1)=Í from he),ya H.ok he];show((gM σ o<|.fJ s .jy).wp o).rk F<(σ.wp o).rk F;rw[lh,Ev];simp only[iJ.rk,kx.rk];have hm:F.n+3000<=(F.n+3000)*(F.q+3-s):=ç _ Z;omega
    .refine À (Ca (λh=>absurd h Cq) (λ_ _=>rfl) (λ_=>rfl) (λ_ _=>rfl) (λh1 _=> ?_)<|by rw[fW _ _ Cq,fW _ _ k2]);show((gM σ o<|.fJ s .jy).wp _).rk F=_;rw[jM _ Z]
 .have Uz:W.size<F.q:=Z
  obtain⟨f,u,T,g',q1,q2,q3,q4,q5,q6,q7⟩:=p.gw.jH hi hk ht hs hY hc Uz λk x hkx pT=>hp ⟨k,x,hkx,pT⟩;have e0:b=fI b 0 (kM<|.jH r):=by
   funext k;by_cases I:k=0
   .subst I;rw[il,hk];rfl
   .rw[fW _ _ I]
  rw[e0]at q7;have l:jU σ (.jH r) σ.dk:=po (by rw[D];rfl);have e:(iH σ (.jH r) σ.Ga σ.dk).sp=σ.sp:=l.sp;obtain⟨z1,z2,z3,z4,z5⟩:=p.wd.mh H p.iD p.ps V;refine⟨iH σ (.jH r) σ.Ga σ.dk,_,_,_,_,f,_,u,q1,q2,(λh=>by have h:=h;cases h),.of (p.kB.iH H.ok l) (by rw[e];exact q2.trans p.fh) (by rw[Ep l];exact q7) ?_ ⟨z4,z5,λt AU=> ?_,z1,z2,λt AU=>z3 t Z⟩ (p.ps.vv l (by rw[D];exact ô _) (by rw[D];rfl) (by rw[D];rfl) nmj aal nmr (λh=>by rcases h with h|h|h<;>cases h) (λh=>by cases h) λ_ _=>aM) (by rw[e];exact OZ p.ti q6) (λk y O lV=> ?_) λt G a1 a2 a3=>(p.kn t G Z a2 a3).app u,vw<|by rw[D];simp only[gH.rk];omega⟩
  .rw[q2];exact((p.iD.iH l).HZ<|Ö KX.symm)
  .have yi:t+2<=σ.sp:=Z
   show∃W K,(w.setChan (σ.dk c) _ _ _ _ _ _).heap[σ.dk t]?=Ä (.chan F.q W (decide<|t<(gH.jH r).kh F.n) K (σ.wp t).jL É)/\xS F.n t ((gH.jH r).oP F.q) K/\(σ.wp t).jL<=K/\W.size=K-(σ.wp t).jL/\∀i,i<K-(σ.wp t).jL->W[i]?=Ä (F.sk<|t+((σ.wp t).jL+i)*F.n);rw[aak];by_cases v:t=c
   .subst v;refine⟨W.push<|F.sk Q,s+1,by rw[OY H2];rfl,aai yg hn hj,Z,by rw[Array.size_push];omega,λi nH=> ?_⟩;rw[Ă];by_cases G:i=W.size
    .rw[if_pos G,eQ,show(σ.wp t).jL+i=s by omega]
    .rw[if_neg G];exact Ci i Z
   .rw[tq λq=>v<|p.ps.pR _ _ yi V q];obtain⟨Uy,K,y1,y2,y3⟩:=p.wd.kU t yi;rw[KY]at y2;refine⟨Uy,K,?_,aaj y2 Z Z,y3⟩;rw[y1,D];rfl
  .by_cases I:k=0
   .subst I;rw[q3]at O;obtain rfl:=Ã O;rw[q4]at lV;cases lV
   .rw[q5 k I]at O;rcases p.fu k y O lV with⟨h1,_⟩|⟨t,AU,Cm,h2,X|⟨r1,cap,s1,M,X,h4⟩⟩
    .exact absurd h1 I
    .exact Á ⟨t,Z,Cm,h2,À X⟩
    .have v:t≠c:=λe=>by
      subst e;have G:=(p.sW t AU Cm).2;rw[X,<-h2]at G;obtain⟨g0,i⟩:=p.gw.aaf O lV G;exact hp ⟨k,y,O,by rw[i];exact ajI⟩
     exact Á ⟨t,Z,Cm,h2,Á ⟨r1,cap,s1,M,X,by show(w.setChan (σ.dk c) _ _ _ _ _ _).heap[σ.dk t]?=_;rw[tq λq=>v<|p.ps.pR _ _ AU V q];exact h4⟩⟩
end
section
variable{F:Ph}{σ o:gF F}{S:Nat->Jd}{d B:Nat->gY}{m:Nat->jw}{D:Nat->fj}{c:Array Æ}{u:é}{sl:Option (Nat×Nat)}
def PI.ajN(H:iT F)(p:PI F n zX σ S d m D E w qJ)(hi:E[0]?=Ä g)(ht:d 0=.fO)(l:σ.mp=.mU (J+1)):lF F n zX σ d E w qJ sl 0:=by
 have C:=p.gw.ie;have hn:=H.ok.n1;have hL:=H.ok.L1;have TP:=(p.ps.mr<|J+1).2 l;have rm:σ.sp=F.n+1:=by unfold gF.sp;rw[l];rfl
 obtain⟨N,hk⟩:=p.s0;rw[l]at N hk;obtain⟨j,hj⟩:∃j,j=F.n-(J+1):=⟨_,U⟩;have N:S 0=Oo F.P (0==0) (σ.dk j) (D8 F σ.dk J):=by rw[N,hj];rfl
 have G:j+2<=σ.sp:=Z
 have hY:σ.Y (σ.dk j):=Á<|Á ⟨j,G,U⟩;obtain⟨O,s,hc,yg,O8,Ch,Ci⟩:=p.wd.kU j G;have pM:decide (j<σ.mp.kh F.n)=É:=by rw[l];simp only[gH.kh];exact decide_eq_false Z
 rw[pM]at hc;have H2:=C.kE _ hY;have Ed:(w.setChan (σ.dk j) F.q O Ï s (σ.wp j).jL É).heap[σ.dk j]?=Ä (.chan F.q O Ï s (σ.wp j).jL É):=OY H2;have aM:=p.ps.aM (λv q=>by rw[l]at q;cases q) (λq=>by rw[l]at q;cases q);obtain⟨c,u,T,g',q1,Q,q3,q4,q5,q6,q7,q8,q9⟩:=p.gw.mU hi hk ht N hY (p.ps.td j G).2.2 hc;have e0:m=fI m 0 (kM<|.mU J):=by
  funext k;by_cases I:k=0
  .subst I;rw[il,hk];rfl
  .rw[fW _ _ I]
 rw[e0]at q9;have v:jU σ (.mU J) σ.dk:=po (by rw[l];rfl);have e:(iH σ (.mU J) σ.Ga σ.dk).sp=σ.sp:=v.sp;obtain⟨z1,z2,z3,z4,z5⟩:=p.wd.mh H p.iD p.ps G;have O5:=p.ti.jV ⟨λo t a _=>q6 o t,À U,λo t a x ha K _=> ?_,λo t a y ha _ K=> ?_,λo t b _=>q8 o t _,λx _ _=>⟨λJ hr=>hr.appOther q6 Z,λe=>by omega⟩⟩;refine⟨iH σ (.mU J) σ.Ga σ.dk,_,_,_,_,c,_,u,q1,Q,(λh=>by have h:=h;cases h),.of (p.kB.iH H.ok v) (by rw[e];exact Q.trans p.fh) (by rwa[Ep v]) ?_ ⟨z4,z5,λf V=> ?_,z1,z2,λf V=>z3 f Z⟩ (p.ps.vv v (by rw[l];simp only[gH.kh];omega) (by rw[l];rfl) (by rw[l];rfl) (λi h=> ?_) (λi h=> ?_) (λr'=>⟨λh=>(by cases h),λh=> ?_⟩) (λh=>by rcases h with h|h|h<;>cases h) (λh=>by cases h) λ_ _=>aM) (by rwa[e]) (λk y L W=> ?_) λf i X B M=>(p.kn f i Z B M).app u,vw<|by rw[l];simp only[gH.rk];omega⟩
 .rw[Q];exact((p.iD.nF<|Ö KX.symm).iH v)
 .have yi:f+2<=σ.sp:=Z
  show∃M B,(w.setChan (σ.dk j) F.q O Ï s (σ.wp j).jL É).heap[σ.dk f]?=Ä (.chan F.q M (decide<|f<(gH.mU J).kh F.n) B (σ.wp f).jL É)/\xS F.n f ((gH.mU J).oP F.q) B/\(σ.wp f).jL<=B/\M.size=B-(σ.wp f).jL/\∀i,i<B-(σ.wp f).jL->M[i]?=Ä (F.sk<|f+((σ.wp f).jL+i)*F.n);have ajO:(gH.mU J).oP F.q=σ.mp.oP F.q:=by rw[l];rfl
  rw[ajO];by_cases X:f=j
  .subst X;refine⟨O,s,?_,yg,O8,Ch,Ci⟩;rw[Ed,show decide (f<(gH.mU J).kh F.n)=Ï from decide_eq_true (by simp only[gH.kh];omega)]
  .rw[tq λq=>X<|p.ps.pR _ _ yi G q];obtain⟨M,B,y1,y2⟩:=p.wd.kU f yi;refine⟨M,B,?_,y2⟩;rw[y1,l];have:decide (f<(gH.mU<|J+1).kh F.n)=decide (f<(gH.mU J).kh F.n):=by
    apply decide_eq_decide.2;simp only[gH.kh];omega
   rw[this]
 .rcases h with h|h|h|h<;>cases h
 .rcases h with h|h|h<;>cases h
 .cases h;omega
 .by_cases I:k=0
  .subst I;rw[q3]at L;obtain rfl:=Ã L;rw[q4]at W;cases W
  .obtain⟨h,B⟩:∃h,E[k]?=Ä h:=by
    have:=jI L;rw[Q]at this;exact⟨_,Ü this⟩
   rw[q5 k h I B]at L;obtain rfl:=Ã L;obtain⟨_,UA⟩:=ajK W;rcases p.fu k h B UA with⟨h1,_⟩|⟨f,V,M,h2,i|⟨r1,cap,s1,r',i,h4⟩⟩
   .exact absurd h1 I
   .exact Á ⟨f,Z,M,h2,À i⟩
   .have X:f≠j:=λe=>by
     subst e;have O9:=(p.sW f V M).2;rw[i,<-h2]at O9;obtain⟨g0,vx⟩:=p.gw.aaf B UA O9;have:=ajJ (g0:=g0) (z:=F.z) Ed;rw[<-vx,W]at this;cases this
    exact Á ⟨f,Z,M,h2,Á ⟨r1,cap,s1,r',i,by show(w.setChan (σ.dk j) _ _ _ _ _ _).heap[σ.dk f]?=_;rwa[tq λq=>X<|p.ps.pR _ _ V G q]⟩⟩
 .rw[(q7 o t a ha).1]at K;cases K
 .rw[(q7 o t a ha).1]at K;cases K
def Pa(F:Ph)(zX:aj->Prop)(qJ:é):Prop:=
 (∀p a,touchAt qJ p=Ä a->a.loc.isMemory=Ï->η qJ 0 p\/((zX a.loc\/∃x:đ,a.loc=ā x/\x.block=F.fL)/\a.kind=.atomic))/\qJ.HandedOver
def UB{f:Nat->Nat}:∀{n:Nat},Ñ n f=0->∀i,i<n->f i=0
 |n+1,h,i,hi=>by
  simp only[Ñ]at h;rcases ø i n with q|q
  .exact UB Z i q
  .have:i=n:=Z
   subst this;omega
def PI.ajP(H:iT F)(p:PI F n zX σ S d m D E w qJ)(s:E[0]?=Ä g)(M:g.status=Å)(O:d 0=.fO)(f:σ.mp=.fJ .nh): ∃(o:gF F) (b:Nat->Jd) (B:Nat->gY) (j:Nat->jw) (h:Nat->fj) (c:Array Æ) (W:Ð) (u:é),ŝ F.P (ò E w sl) 0=(Ģ<|ò c W sl,u)/\c.size=E.size/\PI F n zX o b B j h c W (qJ++u)/\o.mp=.gC/\Pa F zX (qJ++u):=by
 have I:=jI s;have J:=p.wZ s M O w<|p.gw.ie.gy _ I;rw[f]at J;let⟨Q,_,g',t,r⟩:=J;have V:=(p.gw.ie.mT _ I).trans Q;have v:∀y:Ć,y.act=Ğ (ľ<|gp F.fL)->y.act.touch?=Í:=λy i=>by rw[i];rfl
 have rm:σ.sp=F.n+1:=by unfold gF.sp;rw[f];rfl
 have a:jU σ .gC σ.dk:=po (by rw[f];rfl);have e:(iH σ .gC σ.Ga σ.dk).sp=σ.sp:=a.sp;let⟨T,X⟩:=ku r;have K:=nO (λl g h=>À<|H.HM _ _ _ h) r;obtain⟨c,y,Y,C,q1,L,q3,q4,q5,q7⟩:=p.Eh H (kM .gC) s (t w) fB fB (λy i=>⟨λz l=>(by rw[v y i]at l;cases l),by rw[i];exact p.gw.ie.kE _<|À pS⟩) (λy _ i=>DZ p.gw.ie.rp λk j=>by rw[AT j];exact v y i) X K;have O5:=p.ti.jV (B7 (λk j=>by rw[AT j];exact v y C) (λk j b _ e=>by
  have:k=y:=by simpa using j
  rw[this,C]at e;simp at e))
 have l:=p.ps.xV<|Á<|À f;refine⟨iH σ .gC σ.Ga σ.dk,_,_,_,_,c,w,_,q1,L,.of (p.kB.iH H.ok a) (by rw[e];exact L.trans p.fh) (by rwa[Ep a]) (q7.iH a) (Wd.iH p.wd a (by rw[f];rfl)<|by rw[f];rfl) (p.ps.vv a (by rw[f];exact Ç _) (by rw[f];rfl) (by rw[f];rfl) (λb h=> ?_) (λb h=> ?_) (λb=>⟨λh=>(by cases h),λh=>(by cases h)⟩) (λ_=>l) (λh=>by cases h) λ_ h=>absurd rfl h) (by rwa[e]) ?_ λb j q k N=>(p.kn b j Z k N).app _,U,p.ti.mU Y C V λx K8=> ?_⟩
 .rcases h with h|h|h|h<;>cases h
 .rcases h with h|h|h<;>cases h
 .intro k z b N;by_cases G:k=0
  .subst G;rw[q3]at b;obtain rfl:=Ã b;rcases K with q|q<;>rw[q]at N<;>cases N
  .rw[q4 k G]at b;obtain⟨q,K6,rfl⟩:=Ú.1 b;let⟨_,hzb⟩:=KM N;rcases p.fu k q K6 hzb with⟨t,_⟩|⟨j,hj,h,r,h3⟩
   .exact absurd t G
   .exact Á ⟨j,Z,h,r,h3⟩
 .have b:=UB l x Z;have k:σ.mp.ad F.n=F.n+1:=by rw[f];rfl
  unfold gF.hD at b;rw[k,if_pos Z]at b;cases h:σ.ed x with
  |none=>rw[h]at b;cases b
  |some j=>
   rw[h]at b;refine⟨j,h,?_⟩;cases j with
   |ry=>cases b
   |gC N=>cases N with
    |gy=>cases b
    |_=>trivial
   |ko N=>trivial
end
section
variable{B:Nat->Prop}{S:Nat->Jd}{D:Nat->gY}{G:Nat->jw}{f:Nat->fj}{sl:Option (Nat×Nat)}
def aam{y:Ć}(b:wQ.act=ar k)(c:y.act=Ĺ):AL #[wQ,y]:=by
 intro d a;simp at a;rcases a with rfl|rfl
 .rw[b];exact⟨U,fB⟩
 .rw[c];exact⟨U,fB⟩
def jR.KH(h:jR i (λm=>m<n) X f w qJ){E:fj}{y:Ć}(G:0<n)(V:wQ.g=0/\wQ.act=ar n)(W:y.g=n/\y.act=Ĺ)(qt:af qJ 0=0)(Eu:af qJ n=0)(L:∀b,¬E.O b)(lR:∀b,E.Rd b->(f 0).Rd b) (I:∀a,E.Oc a->X a.block/\(∀k,k<n->¬(f k).C a)/\uk qJ 0 (ā a)) (J:∀a,E.Rc a->(f 0).Rc a) (lK:∀a,E.K a->(f 0).K a) (lKO:∀k,k<n->∀a,(f k).K a->¬E.Oc a) (ld:E.d=0) (lw:E.w=w) (Y:∀b,X b->B b) (hY':∀b,B b->X b\/(b<w.heap.size/\∀m,m<n->¬(f m).M b)):jR i (λm=>m<n+1) B (gX f n E) w (qJ++#[wQ,y]):=by
 have N:=aam V.2 W.2;have v:∀m,m<n+1->m=n\/m<n:=λm t=>by omega
 have D:gX f n E n=E:=iV _ _ _;have z:∀m,m<n->gX f n E m=f m:=λm t=>iC f _ Z;have P:∀b,E.M b->(f 0).Rd b:=λb s=>s.elim (λq=>absurd q (L b)) (lR b);have aan:=λm t b s Ss=>(hY' b Ss).elim (h.fX m t b s) (λq=>q.2 m t s);refine⟨λm j t Q T b s=> ?_,λm j t Q T a r=> ?_,λm t b s=> ?_,λm t a r=> ?_,λm t b s=> ?_,λm t a r=> ?_,λm t b s=> ?_,λb s=> ?_,λm t=> ?_,λm t=> ?_,λm t=> ?_,DZ h.rp λu F=>(N u F).1,λu F=> ?_,λp a c r hl hk=> ?_,λm t a r=> ?_⟩
 .rcases v m t with rfl|o
  .rw[D]at s;exact absurd s (L b)
  .rw[z m o]at s;rcases v j Q with rfl|H
   .rw[D];intro q;by_cases e:m=0
    .subst e;exact h.lD _ o b s (P b q)
    .exact h.s7 m 0 o G e b s (Á (P b q))
   .rw[z j H];exact h.s7 m j o H T b s
 .rcases v m t with rfl|o
  .rw[D]at r;rcases v j Q with rfl|H
   .exact absurd U T
   .rw[z j H];exact(I a r).2.1 j H
  .rw[z m o]at r;rcases v j Q with rfl|H
   .rw[D];rintro(q|q)
    .exact(I a q).2.1 m o (À r)
    .by_cases e:m=0
     .subst e;exact h.lE _ o a r (J a q)
     .exact h.rn m 0 o G e a r (Á (J a q))
   .rw[z j H];exact h.rn m j o H T a r
 .rcases v m t with rfl|o
  .rw[D]at s;exact absurd s (L b)
  .rw[z m o]at s|-;exact h.lD m o b s
 .rcases v m t with rfl|o
  .rw[D]at r|-;exact λq=>(I a r).2.1 0 G (Á (J a q))
  .rw[z m o]at r|-;exact h.lE m o a r
 .rcases v m t with rfl|o
  .rw[D]at s;exact aan 0 G b (Á (P b s))
  .rw[z m o]at s;exact aan m o b s
 .rcases v m t with rfl|o
  .rw[D]at r;exact Y _ (r.elim (λq=>(I a q).1) (λq=>h.ju 0 G a (Á (J a q))))
  .rw[z m o]at r;exact Y _ (h.ju m o a r)
 .rcases v m t with rfl|o
  .rw[D]at s;exact h.fG 0 G b (Á (P b s))
  .rw[z m o]at s;exact h.fG m o b s
 .exact(hY' b s).elim (h.kE b) (λq=>q.1)
 .rcases v m t with rfl|o
  .rw[D,lw];exact fU.fY _ _
  .rw[z m o];exact h.gy m o
 .rcases v m t with rfl|o
  .rw[D];have e:=λl=>aiu V W qt Eu (l:=l);exact⟨λa r=>absurd r (L _),λa r=>(e _).2 ((h.lu 0 G).rd a (lR _ r)),λa r=>(e _).1 (I a r).2.2,λa r=>(e _).2 ((h.lu 0 G).rc a (J _ r))⟩
  .rw[z m o];have e:∀u∈#[wQ,y],∀b,u.act.touch?=Ä b->False:=λu F b s=>by rw[(N u F).1]at s;cases s
   exact⟨λa r=>((h.lu m o).fD a r).jV λu F b s _=>(e u F b s).elim,λa r=>((h.lu m o).rd a r).jV λu F b s _ _=>(e u F b s).elim,λa r=>((h.lu m o).oc a r).jV λu F b s _=>(e u F b s).elim,λa r=>((h.lu m o).rc a r).jV λu F b s _ _=>(e u F b s).elim⟩
 .rw[Ot N];rcases v m t with rfl|o
  .rwa[D,ld]
  .rw[z m o];exact h.mT m o
 .refine(Array.mem_append.1 F).elim (h.xK u) λq=> ?_;simp at q;rcases q with rfl|rfl
  .rw[V.2];trivial
  .rw[W.2];trivial
 .rcases pw r with⟨_,e⟩|⟨_,u,e,H,_⟩
  .exact h.AG p a c e hl hk
  .rw[(N u e).1]at H;cases H
 .obtain⟨e,o,H⟩:∃e,e<n/\(f e).K a:=by
   rcases v m t with rfl|o
   .rw[D]at r;exact⟨0,G,lK a r⟩
   .rw[z m o]at r;exact⟨m,o,r⟩
  let⟨z1,z2⟩:=h.k9 e o a H;refine⟨Y _ z1,λk hk q=> ?_⟩;rcases v k hk with rfl|xM
  .rw[D]at q;exact lKO e o a H q
  .rw[z k xM]at q;exact z2 k xM q
def iI.KH(q:iI P i X S D G f E w qJ){c b:Æ}{J r:Jd}{T s:gY}{K Kc:jw}{m n:fj}(t:E[0]?=Ä g)(L:í P Ï g w=.spawn c b w #[]) (M:∀x y:Ć,(x.g=0/\x.act=ar E.size)->(y.g=E.size/\y.act=Ĺ)->jR i (λa=>a<E.size+1) B (gX (gX f 0 m) E.size n) w (qJ++#[x,y])) (hF:na P Ï J T m c) (N:c.status=Å) (O:na P É r s n b) (Q:b.status=Å): ∃d x y,(x.g=0/\x.act=ar E.size)/\(y.g=E.size/\y.act=Ĺ)/\ŝ P (ò E w sl) 0=(Ģ<|ò d w sl,#[x,y])/\d.size=E.size+1/\d[0]?=Ä c/\d[E.size]?=Ä b/\(∀k,k≠0->k<E.size->d[k]?=E[k]?)/\ iI P i B (fI (fI S 0 J) E.size r) (fI (fI D 0 T) E.size s) (fI (fI G 0 K) E.size Kc) (gX (gX f 0 m) E.size n) d w (qJ++#[x,y]):=by
 have V:=(Ò.1 t).1;have u:=runT_crowd_spawn (sl:=sl) t L;obtain⟨x,v⟩:∃x:Ć,x={g:=0,fn:=g.frame.fn,pos:=g.frame.place,act:=ar E.size}:=⟨_,U⟩;obtain⟨y,C⟩:∃y:Ć,y={g:=E.size,fn:=b.frame.fn,pos:=g.frame.place,act:=Ĺ}:=⟨_,U⟩;have e:((Ý 0 g.frame.fn g.frame.place #[]).push {g:=0,fn:=g.frame.fn,pos:=g.frame.place,act:=ar E.size}).push {g:=E.size,fn:=b.frame.fn,pos:=g.frame.place,act:=Ĺ}=#[x,y]:=by rw[v,C];simp[Ý]
 rw[e]at u;have o:x.g=0/\x.act=ar E.size:=by rw[v];exact⟨U,U⟩
 have p:y.g=E.size/\y.act=Ĺ:=by rw[C];exact⟨U,U⟩
 have F:((E.setIfInBounds 0 c).push b)[0]?=Ä c:=by rw[Ă,if_neg (by simp;omega),Array.getElem?_setIfInBounds_self_of_lt V]
 have H:((E.setIfInBounds 0 c).push b)[E.size]?=Ä b:=by rw[Ă,if_pos fB]
 have I:∀k,k≠0->k<E.size->((E.setIfInBounds 0 c).push b)[k]?=E[k]?:=λk W h2=>by rw[Ă,if_neg (by simp;omega),á<|õ W]
 refine⟨_,x,y,o,p,u,fB,F,H,I,?_,λk z d=> ?_,λj Y=> ?_⟩
 .rw[show(λa=>a<((E.setIfInBounds 0 c).push b).size)=(λa=>a<E.size+1) by simp];exact M x y o p
 .have KW:k<E.size+1:=by have:=(Ò.1 d).1;simpa using this
  by_cases l:k=E.size
  .subst l;rw[H]at d;obtain rfl:=Ã d;rw[il,il,il,iV,show(E.size==0)=É from beq_eq_false_iff_ne.2 Z];exact⟨b,O,.gR,À Q,À U⟩
  .rw[fW _ _ l,fW _ _ l,fW _ _ l,iC _ _ l];by_cases h:k=0
   .subst h;rw[F]at d;obtain rfl:=Ã d;rw[il,il,il,iV];exact⟨c,hF,.gR,À N,À U⟩
   .rw[I k h Z]at d;rw[fW _ _ h,fW _ _ h,fW _ _ h,iC _ _ h];exact q.kv k z d
 .rw[Ot<|aam o.2 p.2];exact q.vh j<|by simp at Y;omega
end
section
variable{F:Ph}{σ I:gF F}{S:Nat->Jd}{D N:Nat->gY}{G:Nat->jw}{f:Nat->fj}{o:Array Æ}{u:é}{sl:Option (Nat×Nat)}
def ajQ(ok:F.Ok)(h:i≠n)(c:oe F i a)(d:oe F n a):False:=by
 have m:∀{i n:Nat},i=0->n≠0->oe F i a->oe F n a->False:=by
  intro i n f g c d;unfold oe at c d;rw[if_pos f]at c;rw[if_neg g]at d;let⟨k,p,o,e⟩:=c;let⟨b,l,q,j⟩:=d;rcases e with e|e
  .rw[j]at e;have:F.iG=F.gK k:=by injection e
   exact ok.xT<|Á ⟨k,o,this⟩
  .rw[j]at e;exact ok.TY b k l p o<|by injection e
 by_cases f:i=0
 .exact m f Z c d
 .by_cases g:n=0
  .exact m g f d c
  .unfold oe at c d;rw[if_neg f]at c;rw[if_neg g]at d;let⟨b,l,q,j⟩:=c;let⟨o,k,p,e⟩:=d;rw[j]at e;have:=ok.pq _ _ l k (by injection e);subst this;omega
def ajR(ok:F.Ok)(h:oe F i a):(∃k,k<=F.m/\a=ki F.toFx k)\/∃p,p≠F.kJ/\a=kz F p:=by
 unfold oe at h;by_cases c:i=0
 .rw[if_pos c]at h;obtain⟨k,e,d,b|b⟩:=h
  .exact À ⟨k,d,b⟩
  .exact Á ⟨_,ok.kJ.1 k e d,b⟩
 .rw[if_neg c]at h;let⟨k,b,_,d⟩:=h;exact Á ⟨_,ok.kJ.2 k b,d⟩
def zF(F:Ph)(j:Nat):gH:=if j<F.n then .iX (j+1)else .jH F.q
def Cr(σ:gF F)(j:Nat):gF F:={σ with mp:=zF F j}
def PI.ajS(H:iT F)(p:PI F j zX σ S D G f E w qJ)(hi:E[0]?=Ä g)(jE:g.status=Å)(ht:D 0=.fO)(hx:σ.mp=.go m): ∃(I:gF F) (c:Nat->Jd) (N:Nat->gY) (r:Nat->jw) (s:Nat->fj) (o:Array Æ) (W:Ð) (u:é),ŝ F.P (ò E w sl) 0=(Ģ<|ò o W sl,u)/\o.size=E.size+1/\I.mp≠ .gC/\PI F j zX I c N r s o W (qJ++u):=by
 have iy:=jI hi;have C:=p.gw.ie;have L:=p.iD;have hL1:=H.ok.L1;have hn:=H.ok.n1;have Ce:=p.ps.mj m<|À hx;have rm:σ.sp=m:=by unfold gF.sp;rw[hx];rfl
 have kV:E.size=F.L+m:=by rw[p.fh,rm]
 have hJ:=p.wZ hi jE ht w<|C.gy _ iy;rw[hx]at hJ;obtain⟨hd,g',child,X,hr1,DY,Cg,hX,Ew,ajT,ajU⟩:=H.go m σ.dk _ g Ce hJ<|C.gk iy;have hd:=hd;have hX:=hX;have Ew:=Ew;have qt:=(C.mT _ iy).trans hd;have Eu:=p.gw.vh _<|Ç _;have nq:=L.mG 0<|À U;obtain⟨m',vy⟩:∃m',m'=zF F m:=⟨_,U⟩;have yj:(m<F.n/\m'=.iX (m+1))\/(m=F.n/\m'=.jH F.q):=by
  rw[vy];unfold zF;by_cases q:m<F.n
  .exact À ⟨q,if_pos q⟩
  .exact Á ⟨Z,if_neg q⟩
 have avf:m'.sp F.n=m+1:=by rcases yj with⟨_,rfl⟩|⟨q,rfl⟩<;>simp only[gH.sp];omega
 have ajV:m'.ad F.n=m+1:=by rcases yj with⟨_,rfl⟩|⟨q,rfl⟩<;>simp only[gH.ad];omega
 have UC:m'.oP F.q=0:=by rcases yj with⟨_,rfl⟩|⟨q,rfl⟩<;>simp[gH.oP]
 have hmh:m'.kh F.n=0:=by rcases yj with⟨_,rfl⟩|⟨q,rfl⟩<;>rfl
 have hmr:m'.iq=0:=by rcases yj with⟨_,rfl⟩|⟨q,rfl⟩<;>rfl
 have K9:(∀v,m'≠ .fJ v)/\m'≠ .gC:=by rcases yj with⟨_,rfl⟩|⟨q,rfl⟩<;>exact⟨λv h=>(by cases h),λh=>(by cases h)⟩
 have hkM:kM m'=.no:=by rcases yj with⟨_,rfl⟩|⟨q,rfl⟩<;>rfl
 obtain⟨l0,oX⟩:∃l0:fj,l0={f 0 with O:=λb=>(f 0).O b/\¬X b/\(1<=m->b≠σ.dk (m-1)),Rd:=λb=>X b\/(f 0).Rd b,Oc:=λa=>(f 0).Oc a/\¬oe F m a,w:=w}:=⟨_,U⟩;obtain⟨lc,lW⟩:∃lc:fj,lc={O:=λ_=>False,Rd:=λb=>X b\/(f 0).Rd b,Oc:=oe F m,Rc:=(f 0).Rc,K:=(f 0).K,d:=0,q:=False,w:=w}:=⟨_,U⟩;have hC1:jR F.B0 (λi=>i<E.size) σ.Y (gX f 0 l0) w qJ:=by
  rw[oX];refine C.rv iy (λ_ q=>q.1) (λb q=>À<|q.elim (λz=>À<|hX b z) Á) (λ_ q=>q.1) (λa q=>À<|Á q) U U U (λb Q q=> ?_) λa J q=>C.lE _ iy a J.1 q;rcases q with q|q
  .exact Q.2.1 q
  .exact C.lD _ iy b Q.1 q
 have z0:gX f 0 l0 0=l0:=iV _ _ _;have Ex:=L.ni m Z Ce;have pU:(Cr σ m).sp=m+1:=by show(zF F m).sp F.n=_;rwa[<-vy]
 have hYY:∀b,(Cr σ m).Y b->σ.Y b\/(1<=m/\b=σ.dk (m-1)):=λb Q=>by
  rcases Q with q|q|⟨l,t,B⟩
  .exact À<|À q
  .exact À<|Á<|À q
  .rw[pU]at t;by_cases e:l+1=m
   .exact Á ⟨Z,by rw[B,show l=m-1 by omega];rfl⟩
   .exact À<|Á<|Á ⟨l,Z,B⟩
 have UD:∀x y:Ć,(x.g=0/\x.act=ar E.size)->(y.g=E.size/\y.act=Ĺ)->jR F.B0 (λi=>i<E.size+1) (Cr σ m).Y (gX (gX f 0 l0) E.size lc) w (qJ++#[x,y]):=λx y Pd Pe=>by
  refine hC1.KH iy Pd Pe qt Eu (by rw[lW];exact λb q=>q) (by rw[z0,lW,oX];exact λb q=>q) (λa J=> ?_) (by rw[z0,lW,oX];exact λb q=>q) (by rw[z0,lW,oX];exact λb q=>q) (λk hk a J q=> ?_) (by rw[lW]) (by rw[lW]) (λb Q=> ?_) λb Q=> ?_
  .have r:oe F m a:=by rwa[lW]at J
   have c:=Ex a r;refine⟨C.ju 0 iy a<|À c,λk hk q=> ?_,(C.lu 0 iy).oc a c⟩;by_cases e:k=0
   .subst e;rw[z0,oX]at q;rcases q with q|q
    .exact q.2 r
    .exact C.lE 0 iy a c q
   .rw[iC _ _ e]at q;exact C.rn 0 k iy hk (õ e) a c q
  .have c:(f k).K a:=by
    by_cases e:k=0
    .subst e;rwa[z0,oX]at J
    .rwa[iC _ _ e]at J
   rw[lW]at q;exact(C.k9 k hk a c).2 0 iy<|Ex a q
  .rcases Q with q|q|⟨l,t,B⟩
   .exact À q
   .exact Á<|À q
   .exact Á<|Á ⟨l,by rw[pU];omega,B⟩
  .rcases hYY b Q with q|⟨t,rfl⟩
   .exact À q
   .obtain⟨a1,a2,a3,a4⟩:=Ew t;refine Á ⟨C.fG 0 iy _<|À a1,λi nH q=> ?_⟩;by_cases e:i=0
    .subst e;rw[z0,oX]at q;rcases q with q|q|q
     .exact q.2.2 t U
     .exact a2 q
     .exact C.lD 0 iy _ a1 q
    .rw[iC _ _ e]at q;exact C.s7 0 i iy nH (õ e) _ a1 q
 have hWm:fA F.P Ï (JM F σ.dk m') l0 g':=by
  have r:=hC1.gk iy;rw[z0]at r;have s:{l0 with w:=w}=l0:=by rw[oX]
  rw[s]at r;have:=ajU l0 r (by rw[oX]) (λb q=>by rwa[oX]) (by rw[oX]) (by rwa[oX]) (by rw[oX]) (by rw[oX]) (by rw[oX]) (λa q=>by rw[oX]at q;exact q.1);rw[vy];unfold zF;exact this
 have UE:∀b,lc.M b->(f 0).M b:=λb Q=>by
  rw[lW]at Q;rcases Q with q|q|q
  .exact q.elim
  .exact À<|hX b q
  .exact Á q
 have aao:∀a,lc.C a->(f 0).C a:=λa J=>by rw[lW]at J;exact J.elim (λq=>À<|Ex a q) Á
 have UF:lc.w=w:=by rw[lW]
 have ajW:ic lc:=⟨λb Q=>(by rw[lW]at Q;exact Q.elim),λa J q=>(by rw[lW]at J q;exact C.lE 0 iy a (Ex a J) q),λa J Q=>C.fX 0 iy _ (UE _ Q)<|C.ju 0 iy a<|aao a J,λb Q=>(by rw[UF];exact C.fG 0 iy b<|UE b Q),λa J=>(by rw[UF];exact C.kE _<|C.ju 0 iy a<|aao a J),λa J=>by
  have c:(f 0).K a:=by rwa[lW]at J
  obtain⟨k1,k2⟩:=C.k9 0 iy a c;exact⟨λq=>C.fX 0 iy _ (UE _ q) k1,by rw[UF];exact C.kE _ k1,λq=>by rw[lW]at q;exact k2 0 iy (Ex a q)⟩⟩
 have hWc:=ajT lc ajW (λb q=>by rwa[lW]) (by rw[lW]) (by rw[lW]) (by rw[lW];exact λq=>q) (λb=>by rw[lW];exact λq=>q) (by rw[lW]) (by rw[lW]) (λa q=>Ex a<|by rwa[lW]at q);obtain⟨T,hT⟩:=ku hWm;obtain⟨Tc,hTc⟩:=ku hWc;obtain⟨o,x,y,Pd,Pe,q1,q2,q3,q4,q5,q6⟩:=p.gw.KH (Kc:=if m=0 then .no else kW F (σ.dk<|m-1) (.pO 0)) hi (Cg w) UD hT hr1 hTc DY;have cs:∀i,i<E.size+1->i=E.size\/i=0\/(i≠0/\i<E.size):=λi hi=>by omega
 have es:gX (gX f 0 l0) E.size lc E.size=lc:=iV _ _ _;have e0:gX (gX f 0 l0) E.size lc 0=l0:=by rwa[iC _ _ Z]
 have en:∀i,i≠0->i≠E.size->gX (gX f 0 l0) E.size lc i=f i:=λi t B=>by rw[iC _ _ B,iC _ _ t]
 have oU:=p.ps.oU;have O6:=p.ps.su m Z;have ajX:∀y,σ.oh y->y<m:=λy ⟨e,t,_⟩=>ó λq=>by rw[p.ps.su y Z]at t;cases t
 have UG:∀i,i<E.size+1->∀a,(gX (gX f 0 l0) E.size lc i).Oc a->∃k,k<E.size/\(f k).Oc a:=λi hi a J=>by
  rcases cs i hi with rfl|rfl|⟨t,B⟩
  .rw[es,lW]at J;exact⟨0,iy,Ex a J⟩
  .rw[e0,oX]at J;exact⟨0,iy,J.1⟩
  .rw[en i t Z]at J;exact⟨i,B,J⟩
 refine⟨Cr σ m,_,_,_,_,o,w,_,q1,q2,(by show zF F m≠ .gC;rw[<-vy];exact K9.2),.of ⟨?_,λt B=> ?_,λl t B=> ?_,λy e t B=> ?_,λi t B=> ?_⟩ (by rw[q2,pU,kV];omega) q6 ?_ ?_ ?_ ?_ (λk z hk Q=> ?_) λl r2 a1 a2 a3=> ?_⟩
 .have c:(0:Nat)≠E.size:=Z
  rw[fW _ _ c,il,fW _ _ c,il];rw[vy];exact⟨U,U⟩
 .by_cases e:m=0
  .have c:E.size=F.L:=Z
   rw[c,il,il,if_pos e,if_pos e];show F.xP 0=JI F σ.sg σ.ip/\_;rw[p.ps.zA Z];exact⟨U,U⟩
  .rw[fW _ _ Z,fW _ _ Z,fW _ _ Z,fW _ _ Z];exact p.sI Z B
 .rw[pU]at t;by_cases e:l+1=m
  .have c:F.L+1+l=E.size:=Z
   rw[c,il,il,if_neg Z,if_neg Z];show HL F (σ.dk<|m-1) (m-1) 0=JW F (σ.dk l) l (σ.wp l)/\_=kW F (σ.dk l) (σ.wp l);rw[oU l Z,show m-1=l by omega];exact⟨U,U⟩
  .rw[fW _ _ Z,fW _ _ Z,fW _ _ Z,fW _ _ Z];exact p.sW l Z B
 .have s:=ó λq=>by
   have r:σ.ed y=Ä e:=B;rw[p.ps.su y Z]at r;cases r
  rw[fW _ _ Z,fW _ _ Z,fW _ _ Z,fW _ _ Z,fW _ _ Z,fW _ _ Z];exact p.sE y e Z B
 .rw[fW _ _ Z,fW _ _ Z,fW _ _ Z,fW _ _ Z,fW _ _ Z,fW _ _ Z];exact p.sO i t B
 .rw[q2];obtain⟨f1,f2⟩:=L.n7 Z;refine⟨λi nH a J=> ?_,λy t B a J=> ?_,λ_=> ?_,λ_ k t B=> ?_,λ_ B=> ?_,λl t B r h3 h4=> ?_,λl t B=> ?_,λy s=> ?_,λi nH=> ?_,λi t B=> ?_,λk hk b Q=> ?_,λk hk i nH q=> ?_,λk t B i nH q=> ?_,λl t r B h3 i nH q=> ?_⟩
  .rcases cs i nH with rfl|rfl|⟨t,B⟩
   .rw[es,lW]at J;rcases J with q|q
    .exact ajR H.ok q
    .exact L.iU 0 iy a<|Á q
   .rw[e0,oX]at J;rcases J with q|q
    .exact L.iU 0 iy a<|À q.1
    .exact L.iU 0 iy a<|Á q
   .rw[en i t Z]at J;exact L.iU i B a J
  .rw[pU]at t;rw[e0,oX];exact⟨L.ni y Z B a J,λq=>ajQ H.ok Z q J⟩
  .rw[e0,oX];exact⟨f1,λb Q=>Á<|f2 b Q⟩
  .have zD:=t;by_cases e:m=0
   .have c:F.L=E.size:=Z
    rw[c,es,lW];exact⟨by show oe F m _;unfold oe;rw[if_pos e];exact⟨k,Z,B,À U⟩,by show oe F m _;unfold oe;rw[if_pos e];exact⟨k,Z,B,Á U⟩⟩
   .rw[en F.L Z Z];exact L.oQ Z k zD B
  .by_cases e:m=0
   .have c:F.L=E.size:=Z
    rw[c,es,lW];show(f 0).Rc (ki F.toFx σ.ip.md)/\∀b,σ.V σ.ip.md b->X b\/(f 0).Rd b;rw[p.ps.zA Z];show(f 0).Rc (ki F.toFx 0)/\∀b,σ.V 0 b->X b\/(f 0).Rd b;rw[p.ps.v0];exact⟨f1,λb Q=>Á<|f2 b Q⟩
   .rw[en F.L Z Z];exact L.mV Z B
  .rw[pU]at t;by_cases e:l+1=m
   .have c:F.L+1+l=E.size:=Z
    rw[c,es,lW];show oe F m _;unfold oe;rw[if_neg Z];exact⟨_,h3,by rw[Ę,ň Z];omega,U⟩
   .rw[en _ Z Z];exact L.oR l Z B r h3 h4
  .rw[pU]at t;by_cases e:l+1=m
   .have c:F.L+1+l=E.size:=Z
    rw[c,es,lW];exact⟨f1,λb Q=>Á<|f2 b Q⟩
   .rw[en _ Z Z];exact L.oS l Z B
  .have:=ajX y s;rw[en _ Z Z];exact L.kq y s
  .rcases nH with rfl|⟨y,t,rfl,h3⟩
   .rwa[e0,oX]
   .rw[pU]at t;by_cases e:y=m
    .subst e;rw[<-kV,es,lW];exact λq=>q
    .rw[en _ Z Z];exact L.mG _<|Á ⟨y,Z,U,h3⟩
  .rw[en i Z Z];exact L.ja i t B
  .obtain⟨b1,b2,c⟩:=L.kF k hk b Q;refine⟨b1,λq=> ?_,λi nH q=> ?_⟩
   .rcases hYY b q with q|⟨t,rfl⟩
    .exact b2 q
    .exact c 0 iy (Ew t).1
   .rcases cs i nH with rfl|rfl|⟨t,B⟩
    .rwa[es,lW]at q
    .rw[e0,oX]at q;exact c 0 iy q.1
    .rw[en i t Z]at q;exact c i B q
  .obtain⟨c,a1,a2⟩:=UG i nH _ q;exact L.nN k hk c a1 a2
  .obtain⟨c,a1,a2⟩:=UG i nH _ q;exact L.oT k t B c a1 a2
  .rw[pU]at t;have rE:r<(σ.wp l).iG:=h3;obtain⟨c,a1,a2⟩:=UG i nH _ q;by_cases e:l+1=m
   .rw[oU l Z]at rE;simp only[iJ.iG]at rE;omega
   .exact L.oz l Z r B rE c a1 a2
 .have c:=p.wd;refine⟨c.fL,c.j4,λl t=> ?_,c.nj,c.qm,λl t r B h3=> ?_⟩
  .rw[pU]at t;show∃buf s,w.heap[σ.dk l]?=Ä (.chan F.q buf (decide<|l<(zF F m).kh F.n) s (σ.wp l).jL É)/\xS F.n l ((zF F m).oP F.q) s/\(σ.wp l).jL<=s/\buf.size=s-(σ.wp l).jL/\∀i,i<s-(σ.wp l).jL->buf[i]?=Ä (F.sk<|l+((σ.wp l).jL+i)*F.n);rw[<-vy,hmh,UC];by_cases e:l+1=m
   .rw[oU l Z];obtain⟨a1,a2,a3,a4⟩:=Ew Z;rw[show m-1=l by omega]at a3;refine⟨#[],0,by rw[a3];rfl,λi=>⟨λq=>by omega,λq=>by omega⟩,Ç _,U,λi nH=> ?_⟩;simp only[iJ.jL]at nH;omega
   .have:=c.kU l Z;rwa[hx]at this
  .rw[pU]at t;have rE:r<(σ.wp l).iG:=h3;by_cases e:l+1=m
   .rw[oU l Z]at rE;simp only[iJ.iG]at rE;omega
   .exact c.pQ l Z r B rE
 .have h:=p.ps;have eo:(Cr σ m).hD=σ.hD:=by
   funext y;have t:(Cr σ m).mp.ad F.n=σ.mp.ad F.n:=by show(zF F m).ad F.n=_;rw[<-vy,ajV,hx];rfl
   unfold gF.hD;rw[t];rfl
  have UH:(Cr σ m).mp.iq=σ.mp.iq:=by show(zF F m).iq=_;rw[<-vy,hmr,hx];rfl
  have emp:(Cr σ m).mp=m':=vy.symm;refine⟨h.v0,λl q=> ?_,λl q=> ?_,λr=>⟨λq=> ?_,λq=> ?_⟩,λq=>by omega,h.ik,λl q=>h.oU l Z,λl r vz tw=> ?_,λl vz tw=> ?_,h.rz,λy q=>h.su y Z,λl j3 vz tw q3'=> ?_,λl q=> ?_,λc reg hc=> ?_,λreg hc=> ?_,λr s hc=> ?_,h.qo,λq=> ?_,h.rA,h.qp,λl r vz tw=> ?_,λl r vz tw=> ?_,λq=> ?_,λ_ _=>h.aM (λv q=>by rw[hx]at q;cases q) (λq=>by rw[hx]at q;cases q),h.uw,λl r vz tw=> ?_⟩
  .rw[emp]at q;rcases yj with⟨_,rfl⟩|⟨_,rfl⟩<;>rcases q with q|q|q|q<;>cases q;omega
  .rw[emp]at q;rcases yj with⟨_,rfl⟩|⟨_,rfl⟩<;>rcases q with q|q|q<;>cases q;omega
  .rw[emp]at q;rcases yj with⟨_,rfl⟩|⟨_,rfl⟩<;>cases q;exact Ç _
  .rw[emp]at q;rcases yj with⟨_,rfl⟩|⟨_,rfl⟩<;>cases q
  .rw[pU]at vz;by_cases e:l+1=m
   .have rF:(∃p,σ.wp l=.fJ r p)\/σ.wp l=.j5 r\/σ.wp l=.mf r:=tw;rw[oU l Z]at rF;rcases rF with⟨_,q⟩|q|q<;>cases q
   .exact h.wr l r Z tw
  .rw[pU]at vz;have rF:σ.ed (l+1)≠Í:=tw;have:l+1<m:=ó λq=>rF<|h.su _ Z;obtain⟨a,_⟩:=h.sr l Z rF;rw[hx]at a;simp only[gH.kh]at a;omega
  .rw[pU]at vz tw;have UI:σ.dk l=σ.dk j3:=q3';have key:∀a b,a+1=m->b+2<=σ.sp->σ.dk a=σ.dk b->False:=λa b J Q he=>by
    have t:=(Ew Z).1;rw[show m-1=a by omega,he]at t;exact C.fX 0 iy _ (À t)<|Á<|Á ⟨b,Q,U⟩
   by_cases e:l+1=m
   .by_cases e':j3+1=m
    .omega
    .exact(key l j3 e Z UI).elim
   .by_cases e':j3+1=m
    .exact(key j3 l e' Z UI.symm).elim
    .exact h.pR l j3 Z Z UI
  .rw[pU]at q;show¬F.jg (σ.dk l)/\σ.dk l≠F.iG/\F.B0<=σ.dk l;by_cases e:l+1=m
   .obtain⟨a1,_,_,a4⟩:=Ew Z;rw[show m-1=l by omega]at a1 a4;have far:=C.fX 0 iy _<|À a1;exact⟨λq=>far<|À q,λq=>far<|Á<|À q,a4⟩
   .exact h.td l Z
  .rw[eo,UH];exact h.tf c reg hc
  .rw[eo,UH];obtain⟨a1,a2,y,a3,a4⟩:=h.sw reg hc;exact⟨a1,a2,y,Z,a4⟩
  .rw[eo,UH];obtain⟨a1,a2,a3⟩:=h.tg r s hc;refine⟨a1,a2,λhr=> ?_⟩;obtain⟨y,b1,b2⟩:=a3 hr;exact⟨y,Z,b2⟩
  .rw[emp]at q;rcases q with q|q|q
   .exact absurd q<|K9.1 _
   .exact absurd q<|K9.1 _
   .exact absurd q K9.2
  .rw[pU]at vz;by_cases e:l+1=m
   .have rF:σ.wp l=.fJ r .ig\/σ.wp l=.fJ r .nh\/σ.wp l=.j5 r:=tw;rw[oU l Z]at rF;rcases rF with q|q|q<;>cases q
   .exact h.tj l r Z tw
  .rw[pU]at vz;by_cases e:l+1=m
   .have rF:σ.wp l=.fJ r .ig:=tw;rw[oU l Z]at rF;cases rF
   .exact h.xW l r Z tw
  .rw[emp]at q;exact absurd q<|K9.1 _
  .rw[pU]at vz;by_cases e:l+1=m
   .have rF:σ.wp l=.fJ r .wr:=tw;rw[oU l Z]at rF;cases rF
   .exact h.xY l r Z tw
 .rw[pU];have c:=p.ti;rw[rm]at c;rw[kV]at Pd Pe Eu;exact c.KH Pd Pe qt Eu (λ⟨e,t,_⟩=>by rw[O6]at t;cases t) λy ⟨e,t,_⟩=>ó λq=>by rw[p.ps.su y Z]at t;cases t
 .have r:=jI hk;rcases cs k Z with rfl|rfl|⟨k1,k2⟩
  .rw[q4]at hk;obtain rfl:=Ã hk;rw[DY]at Q;cases Q
  .rw[q3]at hk;obtain rfl:=Ã hk;rw[hr1]at Q;cases Q
  .rw[q5 k k1 k2]at hk;rcases p.fu k z hk Q with⟨t,_⟩|⟨l,s,c,B,h3⟩
   .exact absurd t k1
   .exact Á ⟨l,Z,c,B,h3⟩
 .rw[pU]at a1;by_cases e:l+1=m
  .have rF:σ.wp l=.j5 r2:=a2;rw[oU l Z]at rF;cases rF
  .exact(p.kn l r2 Z a2 a3).app _
end
section
variable{F:Ph}{σ σ':gF F}{S:Nat->Jd}{tr o:Nat->gY}{m:Nat->jw}{lot:Nat->fj}{gs gs':Array Æ}{w':Ð}{t u:é}{sl:Option (Nat×Nat)}{sz:Nat}
def PI.at(H:iT F)(p:PI F n zX σ S tr m lot gs w t)(d:Nat):PI F n zX σ S tr m lot gs (w.at d) t:= ⟨p.fh,p.gw.at d,p.s0,p.sI,p.sW,p.sE,p.sO,p.iD.HZ<|Ç _,⟨⟨p.wd.fL.st,p.wd.fL.sm,p.wd.fL.vj,p.wd.fL.zx,p.wd.fL.ok⟩,λk a=>⟨(p.wd.j4 k a).st,(p.wd.j4 k a).sm,(p.wd.j4 k a).vj,(p.wd.j4 k a).zx,(p.wd.j4 k a).ok⟩,p.wd.kU,λk a=>⟨(p.wd.nj k a).1,H.OJ _ _ _ _ _ (p.wd.nj k a).2 (λ_ _=>rfl) U U U ⟨U,U⟩⟩,p.wd.qm,p.wd.pQ⟩,p.ps,p.ti,p.fu,p.kn⟩
def Go1(F:Ph)(n:Nat)(zX:aj->Prop)(gs:Array Æ)(w:Ð)(t:é)(sl:Option (Nat×Nat))(i:Nat):Prop:=
 ∃(σ':gF F) (a:Nat->Jd) (o:Nat->gY) (b:Nat->jw) (c:Nat->fj) (gs':Array Æ) (w':Ð) (u:é),ŝ F.P (ò gs w sl) i=(Ģ<|ò gs' w' sl,u)/\gs'.size=gs.size+1/\σ'.mp≠ .gC/\PI F n zX σ' a o b c gs' w' (t++u)
def ajY(F:Ph)(n:Nat)(zX:aj->Prop)(gs:Array Æ)(w:Ð)(t:é)(sl:Option (Nat×Nat))(i:Nat):Prop:=
 ∃(σ':gF F) (a:Nat->Jd) (o:Nat->gY) (b:Nat->jw) (c:Nat->fj) (gs':Array Æ) (w':Ð) (u:é),ŝ F.P (ò gs w sl) i=(Ģ<|ò gs' w' sl,u)/\gs'.size=gs.size/\PI F n zX σ' a o b c gs' w' (t++u)/\σ'.mp=.gC/\Pa F zX (t++u)
def PI.D2(H:iT F)(p:PI F n zX σ S tr m lot gs w t)(l:σ.mp≠ .gC)(a:gs[i]?=Ä g)(c:g.status=Å):lF F n zX σ tr gs w t sl i\/vp F n zX σ tr gs w t\/Go1 F n zX gs w t sl i\/ajY F n zX gs w t sl i:=by
 have z:=jI a;have B:=p.fh;cases b:tr i with
 |kD k=>
  obtain⟨gs',w',u,o,e,d,f,j,q⟩:=p.fD H a b;exact À ⟨σ,S,o,m,e,gs',w',u,d,f,λh=>h,j,q⟩
 |fO=>
  by_cases s:i=0
  .subst s;cases h:σ.mp with
   |go j=>exact Á<|Á<|À<|p.ajS H a c b h
   |nL j=>exact Á<|À<|p.ajw H a c b h
   |rd j=>exact À<|p.ajx H a c b h
   |iX j=>exact À<|p.ajz H a c b h
   |jH r=>cases r with
    |zero=>exact Á<|À<|p.ajA H a c b h
    |succ r=>exact À<|p.ajL H a c b h
   |mU r=>cases r with
    |zero=>exact Á<|À<|p.ajB H a c b h
    |succ r=>exact À<|p.ajN H a b h
   |fJ v=>cases v with
    |jy=>exact Á<|À<|p.ajC H a c b h
    |ox q=>exact À<|p.ajD H a c b h
    |wr=>exact À<|p.ajE H a c b h
    |ml=>exact À<|p.ajG H a c b h
    |ig=>exact À<|p.ajF H a c b h
    |nh=>exact Á<|Á<|Á<|p.ajP H a c b h
   |gC=>exact absurd h l
  by_cases y:i<F.L
  .exact À<|p.aju H Z y a c
  obtain⟨x,rfl⟩:∃x,i=F.L+x:=⟨i-F.L,Z⟩;have f:x<σ.sp:=Z
  cases d:σ.ed x with
  |some e=>cases e with
   |ry=>exact Á<|À<|p.ai9 H f d a c b
   |gC v=>cases v with
    |gy=>exact À<|p.ajc H f d a c b
    |iX=>exact À<|p.ajg H f d a c b
    |ig W=>exact À<|p.ajh H f d a c b
    |j1 W=>exact À<|p.aji H f d a c b
    |jx r=>exact À<|p.ajj H f d a c b
   |ko N=>exact À<|p.ajt H f d a c
  |none=>cases x with
   |zero=>
    rw[ö]at a b|-;cases h:σ.ip with
    |lO k=>exact Á<|À<|p.ajk H f d a c b h
    |mk k=>exact Á<|À<|p.ajn H f d a c b h
    |dn k v=>cases v with
     |gy=>exact À<|p.ajo H f d a c b h
     |iX=>exact À<|p.ajp H f d a c b h
     |ig W=>exact À<|p.ajq H f d a c b h
     |j1 W=>exact À<|p.ajr H f d a c b h
     |jx r=>exact À<|p.ajs H f d a c b h
   |succ j=>
    rw[show F.L+(j+1)=F.L+1+j by omega]at a b|-;have e:j+2<=σ.sp:=Z
    cases h:σ.wp j with
    |pO r=>exact À<|p.ai7 H e d a c b h
    |fJ r v=>cases v with
     |jy=>exact Á<|À<|p.aiR H e d a c b h
     |ox q=>exact À<|p.aiS H e d a c b h
     |wr=>exact À<|p.aiU H e d a c b h
     |ml=>exact À<|p.aiX H e d a c b h
     |ig=>exact À<|p.aiV H e d a c b h
     |nh=>exact À<|p.aiW H e d a c b h
    |j5 r=>exact Á<|À<|p.aiY H e d a c b h
    |mf r=>exact Á<|À<|p.aiZ H e d a c b h
def ajZ{J:Jd}{T:gY}{l:fj}(a:∀l g,J l g->g.status=Å)(h:na P yQ J T l g):g.status=Å:=by
 cases T with
 |fO=>exact a _ _<|h _<|fU.fY _ _
 |kD k=>exact h.1
def iI.gR{Y:Nat->Prop}(c:iI P n Y S tr m lot gs w t)(d:gs[i]?=Ä g)(e:∀l g,S i l g->g.status=Å)(a:g.status≠Þ):g.status=Å:=by
 let⟨g0,f,b,_,_⟩:=c.kv i g d;have h:=ajZ e f;generalize m i=K at b;cases b with
 |gR=>exact h
 |qk _ _=>exact absurd U a
 |xL _ _ _=>exact absurd U a
 |pN _ _ _=>rfl
def aap{J:Jd}{p:kT}(a:∀r,p=.jx r->0<r){l:fj}(h:Hz P yQ b J p l g):g.status=Å:=by
 cases p with
 |gy=>exact h.2.1
 |iX=>exact h.2.1
 |ig W=>exact h.2.1
 |j1 W=>exact h.2.1
 |jx r=>cases r with
  |zero=>exact absurd (a 0 U) Z
  |succ r=>exact h.2.1
def UJ{J:Jd}{p:kx}{l:fj}(h:uq P yQ i b J p l g):g.status=Å:=by
 cases p with
 |jy=>let⟨k,_,_,T,a,c⟩:=h;exact(c _ _ a).1
 |ox p=>let⟨_,T,a,c⟩:=h;exact(c _ _ a).1
 |wr=>exact h.2.1
 |ml=>exact h.2.1
 |ig=>exact h.2.1
 |nh=>exact h.2.1
def aaq{l:fj}(h:D8 F D i l g):g.status=Å:=by
 cases i with
 |zero=>exact UJ h
 |succ i=>exact h.1
def aj0(H:iT F){x:gH}{l:fj}(h:JM F D x l g):g.status=Å:=by
 cases x with
 |go j=>exact H.B8 _ _ _ _ h
 |nL j=>let⟨c,h⟩:=h;exact H.B8 _ _ _ _ h
 |rd j=>exact h.2.1
 |iX j=>exact h.2.1
 |jH r=>cases r with
  |zero=>exact aaq h
  |succ r=>exact h.1
 |mU r=>exact aaq h
 |fJ v=>exact UJ h
 |gC=>exact H.HM _ _ _ h
def PI.mQ(p:PI F n zX σ S tr m lot gs w t){x:Nat}(a:x<σ.sp):∃g,gs[F.L+x]?=Ä g:=by have:=p.fh;exact⟨_,Ü Z⟩
def PI.La(H:iT F)(p:PI F n zX σ S tr m lot gs w t)(d:0<σ.sp)(e:σ.ed 0=Í):∃(i:Nat) (g:Æ),gs[i]?=Ä g/\g.status=Å:=by
 have f:=H.ok.L1;let⟨g,c⟩:=p.mQ d;rw[ö]at c;refine⟨F.L,g,c,p.gw.gR c (λl g h=> ?_) λl=> ?_⟩
 .rw[(p.sI d e).1]at h;cases i:σ.ip with
  |lO k=>rw[i]at h;exact H.mV _ _ _ h
  |mk k=>rw[i]at h;let⟨j,V,_,_,_,_,h⟩:=h;exact h.2.1
  |dn k v=>
   rw[i]at h;refine aap (λr j=> ?_) h;subst j;let⟨_,_,r⟩:=p.ps.ik k;let⟨a,b⟩:=r _ i;rcases p.ps.qp k b (by rw[i];exact Ç _)with⟨W,q|q,_⟩|⟨o,s,q,V,_⟩|⟨q,_⟩
   .rw[i]at q;cases q
   .rw[i]at q;cases q
   .rw[i]at q;cases q;exact V
   .exact absurd i<|q _
 .rcases p.fu _ g c l with⟨q,_⟩|⟨j,_,_,q,_⟩<;>omega
def PI.Pf(H:iT F)(p:PI F n zX σ S tr m lot gs w t){x:Nat}{e:jd}(b:x<σ.sp)(a:σ.ed x=Ä e)(c:∀N,e≠ .ko N):∃(i:Nat) (g:Æ),gs[i]?=Ä g/\g.status=Å:=by
 have d:=H.ok.L1;let⟨g,i⟩:=p.mQ b;refine⟨F.L+x,g,i,p.gw.gR i (λl g h=> ?_) λl=> ?_⟩
 .rw[(p.sE x e b a).1]at h;cases e with
  |ry=>exact h.2.1
  |gC v=>exact aap (λr j=>by subst j;exact((p.ps.qo x _ a).2 r U).1) h
  |ko N=>exact absurd U<|c N
 .rcases p.fu _ g i l with⟨q,_⟩|⟨j,_,h,q,_⟩
  .omega
  .have:x=j+1:=Z
   subst this;rw[a]at h;cases h
def aar{f:Nat->Nat}:∀{n:Nat},0<Ñ n f->∃i,i<n/\0<f i
 |0,h=>absurd h<|Nat.lt_irrefl _
 |n+1,h=>by
  simp only[Ñ]at h;by_cases q:0<f n
  .exact⟨n,Z,q⟩
  .let⟨i,b,a⟩:=aar (f:=f) (n:=n) Z;exact⟨i,Z,a⟩
def PI.aj1(H:iT F)(p:PI F n zX σ S tr m lot gs w t):∃(i:Nat) (g:Æ),gs[i]?=Ä g/\g.status=Å:=by
 have hL:=H.ok.L1;have kV:=p.fh;obtain⟨g,C⟩:∃g,gs[0]?=Ä g:=⟨_,Ü Z⟩;by_cases O:g.status=Þ
 .rcases p.fu 0 g C O with⟨_,o,P⟩|⟨j,_,_,q,_⟩
  .have rm:σ.sp=F.n+1:=by unfold gF.sp;rw[o];rfl
   have X:σ.mp.ad F.n=F.n+1:=by rw[o];rfl
   have UK:σ.mp.iq=1:=by rw[o];rfl
   have Q:=p.wd.fL.ok;cases d:σ.Ga with
   |cl c D=>
    let⟨Y,h2⟩:=p.ps.tf c D d;rw[d]at Q;let⟨_,_,E⟩:=Q;have T:0<c:=by
     rcases ĸ c with q|q
     .have:=E q;omega
     .exact q
    rw[Y]at T;let⟨x,b,u⟩:=aar T;unfold gF.hD at u;rw[X,if_pos b]at u;cases y:σ.ed x with
    |some e=>
     rw[y]at u;exact p.Pf H Z y λN q=>by subst q;simp[oy,jd.hD]at u
    |none=>cases x with
     |zero=>exact p.La H Z y
     |succ j=>
      let⟨G,z⟩:=p.mQ (x:=j+1) Z;rw[show F.L+(j+1)=F.L+1+j by omega]at z;have I:j+2<=σ.sp:=Z
      by_cases V:G.status=Þ
      .rcases p.fu _ G z V with⟨q,_⟩|⟨l,_,_,q,⟨r,a,B⟩|⟨r,cap,s,r',a,B⟩⟩
       .omega
       .have:l=j:=Z
        subst this;have oW:=p.ps.wr l r I<|À ⟨_,a⟩;have Uf:=H.ok.gq _ oW;have Q_:1<=Ñ F.n λi=>(σ.wp i).iq F i (F.gq<|l+r*F.n):=by
         have:=T5 (f:=λi=>(σ.wp i).iq F i<|F.gq<|l+r*F.n) (j:=l) (n:=F.n) Z;simp only[a]at this;have h:iJ.iq F l (F.gq<|l+r*F.n) (.fJ r .ml)=1:=by simp only[iJ.iq,if_true];rfl
         rwa[h]at this
        by_cases J:F.gq (l+r*F.n)<=σ.ip.od
        .have K:∀k v,σ.ip=.dn k v->σ.ed 0=Í:=λk v h=>by
          cases M:σ.ed 0 with
          |none=>rfl
          |some e=>have:=p.ps.rz (by rw[M];simp);rw[this]at h;cases h
         rcases p.ps.qp _ Uf J with⟨W,q|q,_⟩|⟨r',s,q,_⟩|⟨_,⟨_,q⟩|⟨s,q1,q2⟩⟩
         .exact p.La H Z<|K _ _ q
         .exact p.La H Z<|K _ _ q
         .exact p.La H Z<|K _ _ q
         .omega
         .rw[q1]at B;simp only[GS.sm]at B;omega
        .apply p.La H Z;cases M:σ.ed 0 with
         |none=>rfl
         |some e=>
          have:=p.ps.rz (by rw[M];simp);rw[this]at J;simp only[kL.od]at J;omega
       .have:l=j:=Z
        subst this;let⟨i,k,e,_⟩:=p.wd.kU l I;rw[B,o]at e;injection e with e;injection e with _ _ Ed _ _ _;have:decide (l<(gH.fJ .ml).kh F.n)=Ï:=decide_eq_true (by simp only[gH.kh];omega);rw[this]at Ed;cases Ed
      .refine⟨_,G,z,p.gw.gR z (λl g h=> ?_) V⟩;rw[(p.sW j I y).1]at h;cases e:σ.wp j with
       |pO r=>rw[e]at h;exact h.1
       |fJ r v=>rw[e]at h;exact UJ h
       |j5 r=>rw[e]at h;exact H.OL _ _ _ _ h
       |mf r=>rw[e]at h;exact h.2.1
   |kS D=>
    let⟨_,_,x,b,_,a⟩:=p.ps.sw D d;rcases a with a|a
    .exact p.Pf H b a λN q=>by cases q
    .exact p.Pf H b a λN q=>by cases q
   |iQ r s=>
    let⟨_,h2,E⟩:=p.ps.tg r s d;rw[d]at P;simp only[GS.sm]at P;let⟨x,b,_,a⟩:=E Z;exact p.Pf H b a λN q=>by cases q
  .omega
 .refine⟨0,g,C,p.gw.gR C (λl g h=> ?_) O⟩;rw[p.s0.1]at h;exact aj0 H h
def PI.Pg(p:PI F n zX σ S tr m lot gs w t):∀g∈gs,awake g:=by
 intro g d;obtain⟨i,e,rfl⟩:=Array.mem_iff_getElem.1 d;let⟨g0,_,b,c,_⟩:=p.gw.kv i _<|Ü e;intro τ a;generalize gs[i]=g at b a;generalize m i=K at b;cases b with
 |gR=>rw[a]at c;rcases c with q|q<;>cases q
 |qk _ _=>cases a
 |xL _ _ _=>cases a
 |pN _ _ _=>cases a
def aj2(H:iT F):∀(k:Nat) (μ:Mu) (σ:gF F) (S:Nat->Jd) (tr:Nat->gY) (m:Nat->jw) (lot:Nat->fj) (gs:Array Æ) (w:Ð) (sl:Option (Nat×Nat)) (t:é),F.n+1-σ.sp=k->σ.mu tr gs=μ->PI F n zX σ S tr m lot gs w t->σ.mp≠ .gC-> ∃(N:Nat) (σ':gF F) (b:Nat->Jd) (o:Nat->gY) (c:Nat->jw) (d:Nat->fj) (gs':Array Æ) (w':Ð) (l:Option (Nat×Nat)) (a:é),υ F.P N (ò gs w sl) t=(Ģ<|ò gs' w' l,a)/\PI F n zX σ' b o c d gs' w' a/\σ'.mp=.gC/\Pa F zX a:=by
 intro k
 induction k using Ĕ with
 |_ k X=>
  intro μ
  induction (aiC F.N).apply μ with
  |intro μ _ Q=>
   intro σ S tr m lot gs w sl t hk T p y;let⟨i,g,d,l,Y,jE,z⟩:=crowd_pick (P:=F.P) (w:=w) (sl:=sl) p.Pg<|p.aj1 H;have p':=p.at H d;have kV:=p.fh;rcases p'.D2 H (sl:=l) y Y jE with⟨b,c,e,f,h,r,s,u,v,V,j,a,x⟩|⟨b,c,e,f,h,j,a,x⟩|⟨b,c,e,f,h,r,s,u,v,V,j,a⟩|⟨b,c,e,f,h,r,s,u,v,V,j,a,x⟩
   .have W:=a.fh;let⟨N,B,C,D,E,G,I,J,K,L,M,O⟩:=Q _ (T▸x) b c e f h r s l (t++u) Z U a λq=>y<|j q;exact⟨N+1,B,C,D,E,G,I,J,K,L,by simp only[υ,z,v];exact M,O⟩
   .have W:=a.fh;have h6:=a.at H w.drawn;exact Q _ (T▸x) b c e f h gs w sl t Z U h6 λq=>y<|j q
   .have W:=a.fh;have q:=HP a.ps;let⟨N,B,C,D,E,G,I,J,K,L,M,O⟩:=X (F.n+1-b.sp) Z _ b c e f h r s l (t++u) U U a j;exact⟨N+1,B,C,D,E,G,I,J,K,L,by simp only[υ,z,v];exact M,O⟩
   .exact⟨1,b,c,e,f,h,r,s,l,t++u,by simp only[υ,z,v],j,a,x⟩
end
end Go.Proofs.Y.fK
namespace Go.Proofs.Y.fK
open Go Go.Conc Go.Proofs.Y.Lift Go.RowKit Go.Conc.Lib Go.ConcR.Gen
section
variable{J:Jd}{l:fj}
def UL(w:Ð)(b:∀j,l.O j->j<w.heap.size):oO l {l with w:=w} w w #[]:= ⟨Ç _,λ_ h=>À h,b,U,U,U,U,λ_ _ _ _=>rfl,λ_ _ _ _=>rfl,λ_ _ _=>rfl,U,U,U,λe a=>by simp at a,by simp[Î],U,λ_=>⟨U,λe a=>by simp at a,U⟩,U⟩
def oA(a:∀j,l.O j->j<l.w.heap.size){w₁:Ð}(r:fU l l.w w₁):∀j,l.O j->j<w₁.heap.size:=λj b=>Ê (a j b) r.fh
def UM{R:Ð->Ð->Prop}{m:Æ->Ð->Prop}:∀{n:Nat} {g:Æ} {l:fj},ĺ P yQ R ä m n g l.w->(∀w c,fU l w c->R w c)->(∀j,l.O j->j<l.w.heap.size)->(∀c d,fU l l.w c->m d c->fA P yQ J {l with w:=c} d)->fA P yQ J l g:=by
 intro n
 induction n with
 |zero=>
  intro g l h j i e;exact(fA.fO λc r=>e c g r<|h c<|j _ _ r).fl
 |succ n p=>
  intro g l h j i e;rcases h with h|⟨s,h⟩
  .exact(fA.fO λc r=>e c g r<|h c<|j _ _ r).fl
  .refine .mk s λc r=> ?_;have f:=h c<|j _ _ r;cases o:í P yQ g c with
   |go d k y=>
    rw[o,ŵ]at f;let⟨⟨t,u⟩,v⟩:=f;subst t u;exact⟨d,k,#[],{l with w:=k},U,UL k<|oA i r,p v (λa b q=>j a b<|Cp q) (oA i r) λa b q x=>e a b (r.fl<|Cp q) x⟩
   |_=>rw[o]at f;exact f.elim
def aj3{m:κ}(b:m=ú\/m=ð)(w:Ð)(c:∀j,l.O j->j<w.heap.size):oO l {l with d:=Î l.d #[kK m],w:=w} w w #[kK m]:=by
 refine⟨Ç _,λ_ h=>À h,c,U,U,U,U,λ_ _ _ _=>rfl,λ_ _ _ _=>rfl,λ_ _ _=>rfl,U,U,U,λe a=> ?_,U,U,λ_=>⟨U,λe a=> ?_,U⟩,U⟩
 .have:e=kK m:=by simpa using a
  subst this;rcases b with rfl|rfl
  .exact Á<|Á<|Á<|À U
  .exact Á<|Á<|Á<|Á<|À U
 .have:e=kK m:=by simpa using a
  subst this;rcases b with rfl|rfl<;>rfl
def fA.mT{m:κ}{b:Æ}(c:m=ú\/m=ð)(e:g.status=Å)(f:∀j,l.O j->j<l.w.heap.size)(h:∀a,í P yQ g a=ŭ b a #[kK m])(i:∀a,fU l l.w a->fA P yQ J {l with d:=Î l.d #[kK m],w:=a} b):fA P yQ J l g:= .mk e λa r=>⟨b,a,_,_,h a,aj3 c a<|oA f r,i a r⟩
def pz(b:Nat)(w:Ð):Prop:=(w.cell? ⟨b,0,Í⟩).isSome=Ï/\(w.cell? ⟨b,1,Í⟩).isSome=Ï
def pz.c0(h:pz b w):∃v,w.cell? ⟨b,0,Í⟩=Ä v:=î.1 h.1
def pz.c1(h:pz b w):∃v,w.cell? ⟨b,1,Í⟩=Ä v:=î.1 h.2
def RS(Ψ:Ð->Prop)(b:Nat)(w a:Ð):Prop:=w.heap.size<=a.heap.size/\(pz b w->pz b a)/\(Ψ w->Ψ a)
def SW(Ψ:Ð->Prop)(l:fj)(b:Nat)(w:Ð):Prop:=(∀j,l.O j->j<w.heap.size)/\pz b w/\Ψ w
def fM{Ψ:Ð->Prop}(h:SW Ψ l b w)(r:RS Ψ b w u):SW Ψ l b u:=⟨λj a=>Ê (h.1 j a) r.1,r.2.1 h.2.1,r.2.2 h.2.2⟩
def nP(Ψ:Ð->Prop)(l:fj)(b:Nat):Prop:=(l.K ⟨b,0,Í⟩\/l.M b)/\(l.K ⟨b,1,Í⟩\/l.M b)/\∀w c:Ð,w.heap.size<=c.heap.size->(∀j,l.M j->c.heap[j]?=w.heap[j]?)->(∀a,l.C a->c.cell? a=w.cell? a)->(∀a,l.C a->c.frozen? a=w.frozen? a)->(∀a,l.K a->(w.cell? a).isSome=Ï->(c.cell? a).isSome=Ï)->Ψ w->Ψ c
def nP.rs{Ψ:Ð->Prop}(h:nP Ψ l b){a c:Ð}(r:fU l a c):RS Ψ b a c:=⟨r.fh,λq=>⟨h.1.elim (λk=>r.ia _ k q.1) λm=>(by rw[iF<|r.fu b m];exact q.1),h.2.1.elim (λk=>r.ia _ k q.2) λm=>(by rw[iF<|r.fu b m];exact q.2)⟩,h.2.2 a c r.fh r.fu r.fg r.fC r.ia⟩
def jW{Ψ:Ð->Prop}(a:nP Ψ l b)(hF:SW Ψ l b l.w)(c:ĺ P yQ (RS Ψ b) ä (λd e=>fA P yQ J {l with w:=e} d) n g l.w):fA P yQ J l g:= UM c (λ_ _ r=>a.rs r) hF.1 λ_ _ _ h=>h
def oY{Ψ:Ð->Prop}(c:nP Ψ l b)(hF:SW Ψ l b l.w)(h:∀a,SW Ψ l b a->J {l with w:=a} g):fA P yQ J l g:=.fO λa r=>h a<|fM hF<|c.rs r
def vA{Ψ:Ð->Prop}(e:nP Ψ l b)(hF:SW Ψ l b l.w){m:κ}{c:Æ}(f:m=ú\/m=ð)(i:g.status=Å)(h:∀a,í P yQ g a=ŭ c a #[kK m])(j:∀a,SW Ψ l b a->fA P yQ J {l with d:=Î l.d #[kK m],w:=a} c):fA P yQ J l g:= .mT f i hF.1 h λa r=>j a<|fM hF<|e.rs r
end
section
variable{b:ù}{a:ő}{cs:List ù}{f:Ĵ}{i:List ż}
def H7(m:κ)(d:∀g,m≠.extern g)(e:a.defers=dcall f #[]::i)(j:P.funcs[f]?=Ä s)(k:(s.name== "runtime.NumGoroutine")=É)(l:s.body.isNone=Ï)(n:Extern.findNext s=Í) (o:Extern.find s=Ä λ_=>do mark m;pure Extern.Race.none_) (w:Ð):í P yQ (G {b.at a L with mode:=þ} cs) w=ŭ (G {b.at ⟨a.tmps,i⟩ L with mode:=þ} cs) w #[kK m]:= stepG_unwind_entry (v:=ŉ #[]) e j k l n o (by simp[Extern.Race.none_,kK]) (by simp[kK])<|by intro x c;simp[kK]at c;subst c;exact⟨U,λg h=>d g<|Loc.mark.inj h⟩
end
def aas(s:Nat)(h:s%4294967296<2147483648):s&&&2147483648=0:=by
 have e:(2147483648:Nat)=(2^32-1)&&&2147483648:=A
 have a:(2:Nat)^32=4294967296:=A
 rw[e,<-ů,Ċ,a];have b:s%4294967296=(s%4294967296)&&&(2^31-1):=by rw[Ċ];have c:(2:Nat)^31=2147483648:=A;rw[c];omega
 rw[b,ů];have d:(2^31-1)&&&2147483648=0:=A
 rw[d];simp
def H8(s:Int)(a:0<=s)(b:s<1000000*4294967296)(h:s%4294967296<1000000):bits .and Ô s 2147483648=0:=by obtain⟨n,rfl⟩:=Int.eq_ofNat_of_zero_le a;have h:=(bits_nat Ô 63 A ü n 2147483648 Z A).1;rw[aas n Z]at h;simpa using h
def H9(s:Int)(a:0<=s)(c:s<1000000*4294967296)(h:s%4294967296<1000000):bits .and Ô s 2147483647=s%4294967296:=by
 have h:=bits_mask Ô 63 A ü 31 A s a Z;have e:((2:Int)^31-1)=2147483647:=A
 have b:((2:Int)^31)=2147483648:=A
 rw[e,b]at h;rw[h];omega
section
variable{b:ù}{a:ő}{k:List Œ}{cs:List ù}{d:Nat}
def tA(P:ġ)(d:Nat)(g:Æ):Prop:=∃N,Ε P N d g
def Ia(P:ġ):Jd:=λl g=>tA P l.d g
def Pj{a:Æ}(b:g.status=Å)(h:∀w,í P É g w=ŭ a w)(c:tA P d a):tA P d g:=let⟨n,q⟩:=c;⟨n+1,.ctl b h q⟩
def avg(f:Q[i]?=Ä o)(g:å o (Ħ Q a.tmps)=Ï)(j:b.kind≠Ė) (h:∀(w:Ð) (K:ő->Ð->Prop),K y w->uponK o a K ((à a.eval o).run P w)) (n:∀w,(à a.eval o).events P w #[]=#[]) (p:tA P d (G (b.at y<|È Q jJ::k) cs)):tA P d (G (b.at a<|È Q (i::jJ)::k) cs):=by
 refine Pj U (λw=> ?_) p;have e:=h w (λx c=>x=y/\c=w) ⟨U,U⟩;have l:listed P b.fn a o w=#[]:=by unfold listed;rw[n w,ċ]
 revert e;generalize m:(à a.eval o).run P w=r;intro e;match r,e with
 |.ok (.value v) w',⟨c,x⟩=>subst x;rw[œ f g j m,l,c]
 |.ok .skip w',⟨c,x⟩=>subst x;rw[ţ f g j m,l,c]
def Lb:∀{n m d:Nat} {g:Æ},n<=m->Ε P n d g->Ε P m d g
 |0,0,_,_,_,h=>h
 |0,_+1,_,_,_,h=>À h
 |_+1,0,_,_,e,_=>absurd e Z
 |_+1,_+1,_,_,e,h=>h.imp id λ⟨a,b,c,f,i,j⟩=>⟨a,b,c,f,i,Lb (Nat.le_of_succ_le_succ e) j⟩
def yk{n:Nat}{ops:Array Oper}{i:Nat}{rest:List Nat}{o:Oper}{a':Act}(hq:QuitsD P n d (G (b.at a'<|.inRegion ops rest::k) cs))(ho:ops[i]?=some o:=by rfl)(hw:Region.wanted o (yielded ops a.tmps)=true:=by rfl)(hk:b.kind≠.early:=by k_ne) (h:∀(w:World) (K:Act->World->Prop),K a' w->uponK o a K ((execOp a.eval o).run P w):=by intro w K hK;go_simp;(try w_num);exact hK) (he:∀w,(execOp a.eval o).events P w #[]=#[]:=by intro _;simp[go_sem, *]): QuitsD P (n+1) d (G (b.at a<|.inRegion ops (i::rest)::k) cs):=by
 refine QuitsD.ctl U (λw=> ?_) hq;have h1:=h w (λx y=>x=a'/\y=w) ⟨U,U⟩;have h2:listed P b.fn a o w=#[]:=by unfold listed;rw[he w,ċ]
 revert h1;generalize hr:(à a.eval o).run P w=r;intro h1;match r,h1 with
 |.ok (.value v) w',⟨e1,e2⟩=>subst e2;rw[œ ho hw hk hr,h2,e1]
 |.ok .skip w',⟨e1,e2⟩=>subst e2;rw[ţ ho hw hk hr,h2,e1]
end
section
variable{Ψ:Ð->Prop}{L:Ŋ}{b:Nat}{l:fj}{a:ő}{ops:Array Ľ}{rest:List Nat}{k:List Œ}{cs:List ù}
def aj4(H:Ų P L)(g:nP Ψ l b)(h:tA P 0 (G (f.at (a.put ((ops[i]?).bind (·.dst))<|ŉ #[])<|È ops rest::k) cs)): ∀(r:Nat) (c:Int) (j m o p q s t u v x y z B C D E F I J K M N O Q T V W X Y oZ qu qw pV pW pA qL qM rG rH rI rJ rK nQ mH mI mJ pB vB vC vD vE vF vG vH vI vK Ey Ez EA EB EC ED EE EF EG EH EI EJ EK EL EM EN EO EP ER ES EU EV EW EX EY EZ E0 E1 E2 E3 E4 E5 E6 E7 E8 E9 Fa Fb Fc Fe Ff Fg Fh Fi Fj Fl Fo Fp Fq Fs Ft Fu Fv Fw Fy Fz FA FB:ì) (e:Ð),SW Ψ l b e->(c<=(r:Int)+1/\(r:Int)+1<=c)->r+1<1000000-> fA P É (KF P É b (Ia P)<|r+1) {l with d:=1,w:=e} (G ((base L.add).at ⟨#[ý<|Ä ⟨b,0,Í⟩,j,m,o,p,q,s,t,ê â c,u,v,x,y,z,B,C,D,E,F,I,J,K,M,N,O,Q,T,V,W,X,Y,oZ,qu,qw,pV,pW,pA,qL,qM,rG,rH,rI,rJ,rK,nQ,mH,mI,mJ,pB,vB,vC,vD,vE,vF,vG,vH,vI,vK,Ey,Ez,EA,EB,EC,ED,EE,EF,EG,EH,EI,EJ,EK,EL,EM,EN,EO,EP,ER,ES,EU,EV,EW,EX,EY,EZ,E0,E1,E2,E3,E4,E5,E6,E7,E8,E9,Fa,Fb,Fc,Fe,Ff,Fg,Fh,Fi,Fj,Fl,Fo,Fp,Fq,Fs,Ft,Fu,Fv,Fw,Fy,Fz,FA,ý<|Ä ⟨b,1,Í⟩,FB],[dcall L.enable #[]]⟩ [È #[{dst:=Ä 113,op:=Ł<|Õ 0,type:=L.tWgP,pos:= "waitgroup.go:142",after:=#[],guard:=Í},{dst:=Ä 114,op:=Ž<|Õ 113,type:=0,pos:= "waitgroup.go:142",after:=#[{on:=0,ground:=ã}],guard:=Í},{dst:=Ä 115,op:=Ŷ L.tWg (Õ 114) 2,type:=0,pos:= "waitgroup.go:142",after:=#[{on:=1,ground:=ã}],guard:=Í},{dst:=Ä 116,op:= Ť {callee:=Ĥ<|ł L.semrelease,args:= #[Õ 115,ï<|Ι É,ï<|ê Ņ 0],argTypes:=#[L.tPU32,4,3]},type:=0,pos:= "waitgroup.go:142",after:=#[{on:=2,ground:=ã}],guard:=Í}] [3],Ş 2,ļ<|ĥ 33 #[{dst:=Ä 111,op:=Ł<|Õ 8,type:=L.tU32,pos:= "waitgroup.go:141",after:=#[],guard:=Í},{dst:=Ä 112,op:=ž BinOp.sub L.tU32 (Õ 111) (ï<|ê â 1) L.tU32,type:=L.tU32,pos:= "waitgroup.go:141",after:=#[{on:=0,ground:=ã}],guard:=Í},{dst:=Ä 8,op:=ξ<|Õ 112,type:=L.tU32,pos:= "waitgroup.go:141",after:= #[{on:=1,ground:=ã},{on:=0,ground:=ħ},{on:=1,ground:=ħ}],guard:=Í}] É,ο<|((ĥ 32 #[{dst:=Ä 109,op:=Ł<|Õ 8,type:=L.tU32,pos:= "waitgroup.go:141",after:=#[],guard:=Í},{dst:=Ä 110,op:= ž BinOp.neq L.tU32 (Õ 109) (ï<|ê â 0) L.tU32,type:=4,pos:= "waitgroup.go:141",after:=#[{on:=0,ground:=ã}],guard:=Í}] É).seq<|π (Õ 110) ai<|Code.exit 1).seq<|(χ 2<|ĥ 34 #[{dst:=Ä 113,op:=Ł<|Õ 0,type:=L.tWgP,pos:= "waitgroup.go:142",after:=#[],guard:=Í},{dst:=Ä 114,op:=Ž<|Õ 113,type:=0,pos:= "waitgroup.go:142",after:=#[{on:=0,ground:=ã}],guard:=Í},{dst:=Ä 115,op:=Ŷ L.tWg (Õ 114) 2,type:=0,pos:= "waitgroup.go:142",after:=#[{on:=1,ground:=ã}],guard:=Í},{dst:=Ä 116,op:= Ť {callee:=Ĥ<|ł L.semrelease,args:= #[Õ 115,ï<|Ι É,ï<|ê Ņ 0],argTypes:=#[L.tPU32,4,3]},type:=0,pos:= "waitgroup.go:142",after:=#[{on:=2,ground:=ã}],guard:=Í}] É).seq<|ĥ 33 #[{dst:=Ä 111,op:=Ł<|Õ 8,type:=L.tU32,pos:= "waitgroup.go:141",after:=#[],guard:=Í},{dst:=Ä 112,op:= ž BinOp.sub L.tU32 (Õ 111) (ï<|ê â 1) L.tU32,type:=L.tU32,pos:= "waitgroup.go:141",after:=#[{on:=0,ground:=ã}],guard:=Í},{dst:=Ä 8,op:=ξ<|Õ 112,type:=L.tU32,pos:= "waitgroup.go:141",after:= #[{on:=1,ground:=ã},{on:=0,ground:=ħ},{on:=1,ground:=ħ}],guard:=Í}] É,Ş 1])<|(base L.done).at {tmps:= #[ý<|Ä {block:=b,off:=0},Â,ý<|Ä {block:=b,off:=0},Â],defers:=[]} [È #[{dst:=Ä 2,op:=Ł<|Õ 0,type:=L.tWgP,pos:= "waitgroup.go:156",after:=#[],guard:=Í},{dst:=Ä 3,op:= Ť {callee:=Ĥ<|ł L.add,args:=#[Õ 2,ï<|ê Ņ<|-1],argTypes:=#[L.tWgP,3]},type:=0,pos:= "waitgroup.go:156",after:=#[{on:=0,ground:=ã}],guard:=Í}] [1]]::f.at a (È ops (i::rest)::k)::cs):=by
 intro r;lib_facts
 induction r with
 |zero=>
  intro c j m o p q s t u v x y z B C D E F I J K M N O Q T V W X Y oZ qu qw pV pW pA qL qM rG rH rI rJ rK nQ mH mI mJ pB vB vC vD vE vF vG vH vI vK Ey Ez EA EB EC ED EE EF EG EH EI EJ EK EL EM EN EO EP ER ES EU EV EW EX EY EZ E0 E1 E2 E3 E4 E5 E6 E7 E8 E9 Fa Fb Fc Fe Ff Fg Fh Fi Fj Fl Fo Fp Fq Fs Ft Fu Fv Fw Fy Fz FA FB e hF Lc iy;have e1:c=1:=Z
  subst e1;clear Lc iy;refine oY (l:={l with d:=1,w:=e}) g hF λs5 hF=>⟨U,U,Ű U U H.f_semrelease<|ę L,_,U,λe n hc hf=>(ŋ U U (by k_ne) U H.f_semrelease (ť L) (ę L) (Ŧ L) (ŧ L) (by simp[ÿ,iP]) hc hf).trans gG,?_⟩;walk_nrm;show tA P 1 _;let⟨n,h⟩:=h;refine⟨n+150,?_⟩;repeat(first|refine yk ?_|q_go)
  q_en H L
  q_leave0 H.f_add
  repeat(first|refine yk ?_|q_go)
  q_leave0 H.f_done
  exact Lb Z h
 |succ r ih=>
  intro c j m o p q s t u v x y z B C D E F I J K M N O Q T V W X Y oZ qu qw pV pW pA qL qM rG rH rI rJ rK nQ mH mI mJ pB vB vC vD vE vF vG vH vI vK Ey Ez EA EB EC ED EE EF EG EH EI EJ EK EL EM EN EO EP ER ES EU EV EW EX EY EZ E0 E1 E2 E3 E4 E5 E6 E7 E8 E9 Fa Fb Fc Fe Ff Fg Fh Fi Fj Fl Fo Fp Fq Fs Ft Fu Fv Fw Fy Fz FA FB e hF Lc iy;have g1:(c-1)%4294967296=c-1:=Z
  have g2:(c-1 !=0)=Ï:=by simp;omega
  refine oY (l:={l with d:=1,w:=e}) g hF λs5 hF=>⟨U,U,Ű U U H.f_semrelease<|ę L,_,U,λe n hc hf=>(ŋ U U (by k_ne) U H.f_semrelease (ť L) (ę L) (Ŧ L) (ŧ L) (by simp[ÿ,iP]) hc hf).trans gG,?_⟩;walk_nrm;apply jW (l:={l with d:=1,w:=s5}) g hF (n:=50);iterate 22 w_go fM
  refine Ì λe aat=> ?_;replace hF:=fM hF aat;clear aat;exact ih (c-1) _ _ _ _ _ _ _ _ _ _ _ _ _ _ _ _ _ _ _ _ _ _ _ _ _ _ _ _ _ _ _ _ _ _ _ _ _ _ _ _ _ _ _ _ _ _ _ _ _ _ _ _ _ _ _ _ _ _ _ _ _ _ _ _ _ _ _ _ _ _ _ _ _ _ _ _ _ _ _ _ _ _ _ _ _ _ _ _ _ _ _ _ _ _ _ _ _ _ _ _ _ _ _ _ _ _ _ _ _ _ _ _ _ _ e hF Z Z
end
section
variable{Ψ:Ð->Prop}{L:Ŋ}{l:fj}{k:List Œ}
def aj5(H:Ų P L)(J:l.K ⟨b,0,Í⟩/\l.K ⟨b,1,Í⟩)(z:nP Ψ l b)(hF:SW Ψ l b l.w)(B:l.d=0)(m:tA P 0 (G (f.at (y.put ((Q[i]?).bind (·.dst))<|ŉ #[])<|È Q jJ::k) qX)): fA P É (λl g=>B6 P É b (Ia P) (mo l) g) l (G ((base L.done).at ⟨#[ý<|Ä ⟨b,0,Í⟩,Â,Â,Â],[]⟩ [ļ<|body_done L])<|f.at y (È Q (i::jJ)::k)::qX):=by
 lib_facts;simp only[body_done,doneFn,Č];apply jW z hF (n:=40);iterate 2 w_go fM
 u_call H.f_add (nm_add L) addFn fM hF
 iterate 11 w_go fM
 u_conv H.underlying_tWgP H.room_tWg (pz.c0 hF.2.1).choose_spec fM hF
 refine Ì λa g=> ?_;replace hF:=fM hF g;clear g;refine oY (l:={l with w:=a}) z hF λc hF=>⟨B,U,_,λ_=>ć ķ fB U U (by k_ne) U H.f_relMerge (x_relMerge_n L) (x_relMerge_b L) (x_relMerge_x L) (x_relMerge_f L) (by simp[ÿ,gp]),?_⟩;walk_nrm;have e:nP (λ_=>True) (mo {l with w:=c}) b:=⟨À J.1,À J.2,λ_ _ _ _ _ _ _ _=>trivial⟩;have C:SW (λ_=>True) (mo {l with w:=c}) b (mo {l with w:=c}).w:=⟨λj h=>h.elim,hF.2.1,trivial⟩;have M:(mo {l with w:=c}).d=0:=B;generalize mo {l with w:=c}=l2 at e C M|-;replace hF:=C;clear C z B;apply jW e hF (n:=10);iterate 3 w_go fM
 refine Ì λa g=> ?_;replace hF:=fM hF g;clear g;refine vA (l:={l2 with w:=a}) e hF (À U) U (λ_=>ē ú fB U U (by k_ne) U H.f_disable (Ŕ L) (ŕ L) (Ŗ L)<|ŗ L) λV hF=> ?_;walk_nrm;have W:Î l2.d #[kK ú]=1:=by rw[M];rfl
 rw[W];apply jW (l:={l2 with d:=1,w:=V}) e hF (n:=50);iterate 2 w_go fM
 u_defer fM hF
 iterate 8 w_go fM
 u_bub fM hF
 iterate 11 w_go fM
 u_call H.f_uAdd (nm_uAdd L) uAddFn fM hF
 iterate 10 w_go fM
 refine Ì λa g=> ?_;replace hF:=fM hF g;clear g;refine oY (l:={l2 with d:=1,w:=a}) e hF λc hF=>⟨U,U,λv=>⟨_,λa q D=>(Ō U U (by k_ne) U H.f_addU64 (Κ L) (Λ L) (Μ L) Ô (Ν L) U U q D).trans gG,?_⟩⟩;walk_nrm;have N:Ô.wrap (v+18446744069414584320)=Ô.wrap (v+uo):=rfl;rw[N];clear N;obtain⟨s,E⟩:∃s,Ô.wrap (v+uo)=s:=⟨_,U⟩;simp only[E];have F:0<=s:=by rw[<-E];have:Ô.wrap (v+uo)=(v+uo)%18446744073709551616:=rfl;rw[this];omega
 clear E v;by_cases p:s=0\/(gO<=s/\s<1000000*gO/\s%gO<1000000)
 .rw[if_pos p];by_cases o:s=0
  .subst o;clear p F;show tA P 1 _;let⟨n,m⟩:=m;refine⟨n+150,?_⟩;repeat(first|refine yk ?_|q_go)
   q_leave1 H.f_uAdd
   repeat(first|refine yk ?_|q_go)
   q_en H L
   q_leave0 H.f_add
   repeat(first|refine yk ?_|q_go)
   q_leave0 H.f_done
   exact Lb Z m
  .have X:=p.resolve_left o;clear p o F;let⟨Y,c5,c6⟩:=X;have q4:(4294967296:Int)<=s:=Y;have I:s<1000000*4294967296:=c5;have O:s%4294967296<1000000:=c6;have f1:=H8 s Z I O;have t:=H9 s Z I O;obtain⟨x,g1⟩:∃x,(s/4294967296+2147483648)%4294967296-2147483648=x:=⟨_,U⟩;have g2:¬x<0:=Z
   have g3:0<x:=Z
   by_cases u:s%4294967296=0
   .rw[u]at t;show tA P 1 _;let⟨n,m⟩:=m;refine⟨n+150,?_⟩;repeat(first|refine yk ?_|q_go)
    q_leave1 H.f_uAdd
    repeat(first|refine yk ?_|q_go)
    q_en H L
    q_leave0 H.f_add
    repeat(first|refine yk ?_|q_go)
    q_leave0 H.f_done
    exact Lb Z m
   .obtain⟨r,g4⟩:∃r,s%4294967296=r:=⟨_,U⟩;rw[g4]at t u;have T:r%4294967296=r:=Z
    have g6:(r !=0)=Ï:=by simpa using u
    show tA P 1 _;let⟨n,m⟩:=m;refine⟨n+150,?_⟩;repeat(first|refine yk ?_|q_go)
    q_leave1 H.f_uAdd
    repeat(first|refine yk ?_|q_go)
    q_en H L
    q_leave0 H.f_add
    repeat(first|refine yk ?_|q_go)
    q_leave0 H.f_done
    exact Lb Z m
 .rw[if_neg p];by_cases o:0<s/\s<1000000
  .rw[if_pos o];let⟨q4,I⟩:=o;clear p F;have f1:=H8 s Z Z Z;have t:=H9 s Z Z Z;have g1:(s/4294967296+2147483648)%4294967296-2147483648=0:=Z
   have T:s%4294967296=s:=Z
   rw[T]at t;have g6:(s !=0)=Ï:=by simp;omega
   have Y:(s==0)=É:=by simp;omega
   have O:(s.toNat:Int)=s:=Z
   apply jW (l:={l2 with d:=1,w:=c}) e hF (n:=150);iterate 3 w_go fM
   u_leave1 H.f_uAdd fM hF
   iterate 89 w_go fM
   u_call H.f_uLoad (Ũ L) ŷ fM hF
   iterate 9 w_go fM
   refine Ì λa g=> ?_;replace hF:=fM hF g;clear g;refine oY (l:={l2 with d:=1,w:=a}) e hF λc hF=>⟨U,U,λv=>⟨_,λa q=>Ĉ U U (by k_ne) U H.f_loadU64 (İ L) (ı L) (Ĳ L) Ô (ĳ L) U q,?_⟩⟩;show fA P É (if v=(s.toNat:Int)then Oz P É b (Ia P) s.toNat else λ_ _=>True) _ _;by_cases u:v=(s.toNat:Int)
   .rw[if_pos u];rw[O]at u;subst u;walk_nrm;have g8:(v !=v)=É:=fB
    apply jW (l:={l2 with d:=1,w:=c}) e hF (n:=150);iterate 3 w_go fM
    u_leave1 H.f_uLoad fM hF
    iterate 10 w_go fM
    u_call H.f_uStore (nm_uStore L) uStoreFn fM hF
    iterate 5 w_go fM
    refine Ì λa g=> ?_;replace hF:=fM hF g;clear g;refine oY (l:={l2 with d:=1,w:=a}) e hF λc hF=>⟨U,U,_,λa x q D=>stepG_store_atomic U U (by k_ne) U H.f_storeU64 (x_storeU64_n L) (x_storeU64_b L) (x_storeU64_x L) (x_storeU64_f L) U U q D,?_⟩;walk_nrm;obtain⟨r,X⟩:∃r,v.toNat=r+1:=⟨v.toNat-1,Z⟩;rw[X];apply jW (l:={l2 with d:=1,w:=c}) e hF (n:=150);iterate 2 w_go fM
    u_leave0 H.f_uStore fM hF
    iterate 24 w_go fM
    refine Ì λa g=> ?_;replace hF:=fM hF g;clear g;exact aj4 H e m r v _ _ _ _ _ _ _ _ _ _ _ _ _ _ _ _ _ _ _ _ _ _ _ _ _ _ _ _ _ _ _ _ _ _ _ _ _ _ _ _ _ _ _ _ _ _ _ _ _ _ _ _ _ _ _ _ _ _ _ _ _ _ _ _ _ _ _ _ _ _ _ _ _ _ _ _ _ _ _ _ _ _ _ _ _ _ _ _ _ _ _ _ _ _ _ _ _ _ _ _ _ _ _ _ _ _ _ _ _ _ _ _ _ _ a hF Z Z
   .rw[if_neg u];exact .fO λ_ _=>trivial
  .rw[if_neg o];trivial
end
def RT(_ _:Ð):Prop:=True
def fS{w₁:Ð}(_:True)(_:RT w w₁):True:=trivial
def aj6(s:Int)(a:0<=s)(b:s<9223372036854775808)(h:s%4294967296<1000000):bits .and Ô s 2147483648=0:=by obtain⟨n,rfl⟩:=Int.eq_ofNat_of_zero_le a;have h:=(bits_nat Ô 63 A ü n 2147483648 Z A).1;rw[aas n Z]at h;simpa using h
def aj7(s:Int)(a:0<=s)(c:s<9223372036854775808)(h:s%4294967296<1000000):bits .and Ô s 2147483647=s%4294967296:=by
 have h:=bits_mask Ô 63 A ü 31 A s a Z;have e:((2:Int)^31-1)=2147483647:=A
 have b:((2:Int)^31)=2147483648:=A
 rw[e,b]at h;rw[h];omega
section
variable(P:ġ)(L:Ŋ)(f:Bool)(b:Nat)(j:Jd)(c:ù)(m:List ù)(l:fj)
def aau(g:Æ):Prop:=∃T:Array ì,g=G ((base L.wait).at ⟨T,[]⟩ [ļ<|L7 L,ο<|L7 L,Ş 0]) (c::m)/\T.size=84/\T[0]?=Ä (ý<|Ä ⟨b,0,Í⟩)
def aav(v:Int)(g:Æ):Prop:=g.status=Å/\
 (∃a,(∀w:Ð,w.cell? (gp b)=Ä (ê Ô v)->w.frozen? (gp b)=É->í P f g w=ŭ a (w.setCell (gp b)<|ê Ô<|Ô.wrap<|v+1) #[mg<|gp b,py<|gp b])/\fA P f (if v%gO=0 then TS P f b j else OB P f b j) l a)/\
 ∃a,(∀(w:Ð) (x:Int),x≠v->w.cell? (gp b)=Ä (ê Ô x)->w.frozen? (gp b)=É->í P f g w=ŭ a w #[mg<|gp b])/\∀w,ĺ P f RT ä (λg _=>aau L b c m g) 10 a w
def UN(g:Æ):Prop:=g.status=Å/\∀v,∃a,(∀w:Ð,w.cell? (gp b)=Ä (ê Ô v)->í P f g w=ŭ a w #[mg<|gp b])/\(0<=v/\v<1000000->fA P f (HA P f b j) l a)/\
 ((gO<=v/\v<gO*2147483648/\v%gO<1000000)->∀w,ĺ P f RT ä (λg _=>aav P L f b j c m l v g) 60 a w)
end
section
variable{Ψ:Ð->Prop}{P:ġ}{L:Ŋ}{f:Bool}{b:Nat}{l:fj}{j:Jd}{c:ù}{a:ő}{k:List Œ}{m:List ù}
def aaw(H:Ų P L)(p:nP Ψ l b)(M:SW Ψ l b l.w)(s:l.d=1)(D:∀o,SW Ψ l b o->fA P f j {l with d:=0,w:=o} (G (c.at (a.put ((Q[i]?).bind (·.dst))<|ŉ #[])<|È Q jJ::k) m)) (h:aau L b (c.at a<|È Q (i::jJ)::k) m g) (w:Ð):ĺ P f RT ä (λg _=>UN P L f b j (c.at a<|È Q (i::jJ)::k) m l g) 30 g w:=by
 lib_facts;obtain⟨T,rfl,X,N⟩:=h;obtain⟨v0,v1,v2,v3,v4,v5,v6,v7,v8,v9,v10,v11,v12,v13,v14,v15,v16,v17,v18,v19,v20,v21,v22,v23,v24,v25,v26,v27,v28,v29,v30,v31,v32,v33,v34,v35,v36,v37,v38,v39,v40,v41,v42,v43,v44,v45,v46,v47,v48,v49,v50,v51,v52,v53,v54,v55,v56,v57,v58,v59,v60,v61,v62,v63,v64,v65,v66,v67,v68,v69,v70,v71,v72,v73,v74,v75,v76,v77,v78,v79,v80,v81,v82,v83,rfl⟩:=array84 T X;simp only[List.getElem?_toArray,List.getElem?_cons_zero,Ŀ]at N;subst N;have hF:True:=trivial;simp only[L7,ų,waitFn,Č];iterate 6 w_go fS
 u_call H.f_uLoad (Ũ L) ŷ fS hF
 iterate 9 w_go fS
 refine Ì λo e=> ?_;clear e hF o;refine⟨U,λv=>⟨_,λo q=>Ĉ U U (by k_ne) U H.f_loadU64 (İ L) (ı L) (Ĳ L) Ô (ĳ L) U q,λE=> ?_,λE w=> ?_⟩⟩
 .walk_nrm;let⟨u,x⟩:=E;have Y:=H8 v Z Z Z;have F:=H9 v Z Z Z;have g1:(v/4294967296+2147483648)%4294967296-2147483648=0:=Z
  have O:v%4294967296=v:=Z
  rw[O]at F;have hF:=M;apply jW (l:=l) p hF (n:=150);iterate 3 w_go fM
  u_leave1 H.f_uLoad fM hF
  iterate 27 w_go fM
  refine Ì λo e=> ?_;replace hF:=fM hF e;clear e;refine vA (l:={l with w:=o}) p hF (Á U) U (λ_=>ē ð fB U U (by k_ne) U H.f_enable (Ĩ L) (ĩ L) (Ī L)<|ī L) λz hF=> ?_;have B:Î l.d #[kK ð]=0:=by rw[s];rfl
  rw[B];walk_nrm;apply jW (l:={l with d:=0,w:=z}) p hF (n:=50);iterate 3 w_go fM
  u_conv H.underlying_tWgP H.room_tWg (pz.c0 hF.2.1).choose_spec fM hF
  refine Ì λo e=> ?_;replace hF:=fM hF e;clear e;refine oY (l:={l with d:=0,w:=o}) p hF λr hF=>⟨U,U,_,λ_=>ć ľ fB U U (by k_ne) U H.f_acquire (Ř L) (ř L) (Ś L) (ś L) (by simp[ÿ,gp]),?_⟩;walk_nrm;by_cases t:v=0
  .subst t;apply jW (l:={l with d:=0,w:=r}) p hF (n:=50);iterate 19 w_go fM
   u_leave0 H.f_wait fM hF
   refine Ì λo e=> ?_;replace hF:=fM hF e;clear e;exact D _ hF
  .have g6:(v==0)=É:=by simp;omega
   apply jW (l:={l with d:=0,w:=r}) p hF (n:=50);iterate 19 w_go fM
   u_leave0 H.f_wait fM hF
   refine Ì λo e=> ?_;replace hF:=fM hF e;clear e;exact D _ hF
 .walk_nrm;let⟨V,W,c6⟩:=E;have q4:(4294967296:Int)<=v:=V;have q5:v<4294967296*2147483648:=W;have I:v%4294967296<1000000:=c6;clear V W;have F:=aj7 v Z Z I;obtain⟨J,g1⟩:∃J,(v/4294967296+2147483648)%4294967296-2147483648=J:=⟨_,U⟩;have g2:(J==0)=É:=by simp;omega
  have g3:(v+1)%18446744073709551616=v+1:=Z
  have AV:Ô.wrap (v+1)=v+1:=Oy Z Z;obtain⟨y,g4⟩:∃y,v%4294967296=y:=⟨_,U⟩;have Y:=aj6 v Z Z I;rw[g4]at F I;have O:y%4294967296=y:=Z
  have hF:True:=trivial;iterate 3 w_go fS
  u_leave1 H.f_uLoad fS hF
  iterate 32 w_go fS
  u_call H.f_uCas (nm_uCas L) uCasFn fS hF
  iterate 11 w_go fS
  refine Ì λo e=> ?_;clear e hF o;refine⟨U,⟨_,λo q u=>(stepG_cas_hit (v:=v) (n:=v+1) U U (by k_ne) U H.f_casU64 (Ξ L) (Ο L) (Ρ L) Ô (Τ L) U U U q u).trans (by rw[AV];rfl),?_⟩,_,λo x nD q u=>stepG_cas_miss (v:=x) (old:=v) (n:=v+1) U U (by k_ne) U H.f_casU64 (Ξ L) (Ο L) (Ρ L) Ô (Τ L) U U U q u nD,λw=> ?_⟩
  .walk_nrm;have hF:=M;by_cases t:v%gO=0
   .rw[if_pos t];have t:v%4294967296=0:=t;have:y=0:=Z
    subst this;apply jW (l:=l) p hF (n:=150);iterate 3 w_go fM
    u_leave1 H.f_uCas fM hF
    iterate 15 w_go fM
    u_conv H.underlying_tPU32 H.room_tU32 (pz.c1 hF.2.1).choose_spec fM hF
    refine Ì λo e=> ?_;replace hF:=fM hF e;clear e;refine oY (l:={l with w:=o}) p hF λr hF=>⟨s,U,_,λ_=>ć ς fB U U (by k_ne) U H.f_raceWrite (x_raceWrite_n L) (x_raceWrite_b L) (x_raceWrite_x L) (x_raceWrite_f L) (by simp[ÿ,iP]),?_⟩;walk_nrm;apply jW (l:={l with w:=r}) p hF (n:=150);iterate 23 w_go fM
    refine Ì λo e=> ?_;replace hF:=fM hF e;clear e;refine oY (l:={l with w:=o}) p hF λr hF=>⟨s,U,U,λo q=>ĭ U U U H.f_semacquire (Ě L) (ě L) (Ĝ L) (ĝ L) (by simp[ÿ,iP]) q,_,λo n K q u=>(ō (n:=n) U U (by k_ne) U H.f_semacquire (Ě L) (ě L) (Ĝ L) (ĝ L) (by simp[ÿ,iP]) q K u).trans gG,?_⟩;walk_nrm;apply jW (l:={l with w:=r}) p hF (n:=50);iterate 6 w_go fM
    u_call H.f_uLoad (Ũ L) ŷ fM hF
    iterate 9 w_go fM
    refine Ì λo e=> ?_;replace hF:=fM hF e;clear e;refine oY (l:={l with w:=o}) p hF λr hF=>⟨s,U,λx=>⟨_,λo q=>Ĉ U U (by k_ne) U H.f_loadU64 (İ L) (ı L) (Ĳ L) Ô (ĳ L) U q,?_⟩⟩;show fA P f (if x=0 then HA P f b j else λ_ _=>True) _ _;by_cases C:x=0
    .subst C;rw[if_pos U];walk_nrm;apply jW (l:={l with w:=r}) p hF (n:=50);iterate 3 w_go fM
     u_leave1 H.f_uLoad fM hF
     iterate 7 w_go fM
     refine Ì λo e=> ?_;replace hF:=fM hF e;clear e;refine vA (l:={l with w:=o}) p hF (Á U) U (λ_=>ē ð fB U U (by k_ne) U H.f_enable (Ĩ L) (ĩ L) (Ī L)<|ī L) λz hF=> ?_;have B:Î l.d #[kK ð]=0:=by rw[s];rfl
     rw[B];walk_nrm;apply jW (l:={l with d:=0,w:=z}) p hF (n:=50);iterate 3 w_go fM
     u_conv H.underlying_tWgP H.room_tWg (pz.c0 hF.2.1).choose_spec fM hF
     refine Ì λo e=> ?_;replace hF:=fM hF e;clear e;refine oY (l:={l with d:=0,w:=o}) p hF λr hF=>⟨U,U,_,λ_=>ć ľ fB U U (by k_ne) U H.f_acquire (Ř L) (ř L) (Ś L) (ś L) (by simp[ÿ,gp]),?_⟩;walk_nrm;apply jW (l:={l with d:=0,w:=r}) p hF (n:=50);iterate 9 w_go fM
     u_leave0 H.f_wait fM hF
     refine Ì λo e=> ?_;replace hF:=fM hF e;clear e;exact D _ hF
    .rw[if_neg C];exact .fO λ_ _=>trivial
   .rw[if_neg t];have t:¬v%4294967296=0:=t;have g6:(y==0)=É:=by simp;omega
    apply jW (l:=l) p hF (n:=150);iterate 3 w_go fM
    u_leave1 H.f_uCas fM hF
    iterate 34 w_go fM
    refine Ì λo e=> ?_;replace hF:=fM hF e;clear e;refine oY (l:={l with w:=o}) p hF λr hF=>⟨s,U,U,λo q=>ĭ U U U H.f_semacquire (Ě L) (ě L) (Ĝ L) (ĝ L) (by simp[ÿ,iP]) q,_,λo n K q u=>(ō (n:=n) U U (by k_ne) U H.f_semacquire (Ě L) (ě L) (Ĝ L) (ĝ L) (by simp[ÿ,iP]) q K u).trans gG,?_⟩;walk_nrm;apply jW (l:={l with w:=r}) p hF (n:=50);iterate 6 w_go fM
    u_call H.f_uLoad (Ũ L) ŷ fM hF
    iterate 9 w_go fM
    refine Ì λo e=> ?_;replace hF:=fM hF e;clear e;refine oY (l:={l with w:=o}) p hF λr hF=>⟨s,U,λx=>⟨_,λo q=>Ĉ U U (by k_ne) U H.f_loadU64 (İ L) (ı L) (Ĳ L) Ô (ĳ L) U q,?_⟩⟩;show fA P f (if x=0 then HA P f b j else λ_ _=>True) _ _;by_cases C:x=0
    .subst C;rw[if_pos U];walk_nrm;apply jW (l:={l with w:=r}) p hF (n:=50);iterate 3 w_go fM
     u_leave1 H.f_uLoad fM hF
     iterate 7 w_go fM
     refine Ì λo e=> ?_;replace hF:=fM hF e;clear e;refine vA (l:={l with w:=o}) p hF (Á U) U (λ_=>ē ð fB U U (by k_ne) U H.f_enable (Ĩ L) (ĩ L) (Ī L)<|ī L) λz hF=> ?_;have B:Î l.d #[kK ð]=0:=by rw[s];rfl
     rw[B];walk_nrm;apply jW (l:={l with d:=0,w:=z}) p hF (n:=50);iterate 3 w_go fM
     u_conv H.underlying_tWgP H.room_tWg (pz.c0 hF.2.1).choose_spec fM hF
     refine Ì λo e=> ?_;replace hF:=fM hF e;clear e;refine oY (l:={l with d:=0,w:=o}) p hF λr hF=>⟨U,U,_,λ_=>ć ľ fB U U (by k_ne) U H.f_acquire (Ř L) (ř L) (Ś L) (ś L) (by simp[ÿ,gp]),?_⟩;walk_nrm;apply jW (l:={l with d:=0,w:=r}) p hF (n:=50);iterate 9 w_go fM
     u_leave0 H.f_wait fM hF
     refine Ì λo e=> ?_;replace hF:=fM hF e;clear e;exact D _ hF
    .rw[if_neg C];exact .fO λ_ _=>trivial
  .walk_nrm;have hF:True:=trivial;iterate 3 w_go fS
   u_leave1 H.f_uCas fS hF
   iterate 5 w_go fS
   exact Ì λ_ _=>⟨_,U,fB,fB⟩
end
section
variable{Ψ:Ð->Prop}{L:Ŋ}{l:fj}{e:Jd}{k:List Œ}
def aj8{D:Ð->Ð->Array ė->Prop}{b:Æ->Ð->Prop}(h:ĺ P yQ RT D b n g w):ĺ P yQ RT D b n g u:=by
 cases n with
 |zero=>exact λa _=>h a trivial
 |succ n=>exact h.imp (λq a _=>q a trivial) λq=>⟨q.1,λa _=>q.2 a trivial⟩
def aax{D:Ð->Ð->Array ė->Prop}{b c:Æ->Prop}(d:∀g,b g->∀w,ĺ P yQ RT D (λg _=>c g) m g w):∀{n:Nat} {g:Æ} {w:Ð},ĺ P yQ RT D (λg _=>b g) n g w->ĺ P yQ RT D (λg _=>c g) (n+m) g w:=by
 intro n
 induction n with
 |zero=>intro g w h;rw[Nat.zero_add];exact d g (h w trivial) w
 |succ n i=>
  intro g w h;rcases h with h|⟨j,h⟩
  .exact(d g (h w trivial) w).mono Z
  .rw[show n+1+m=(n+m)+1 by omega];refine Goes.step j λe r=> ?_;have a:=h e r;cases f:í P yQ g e with
   |go k l o=>
    rw[f,ŵ]at a;rw[ŵ];exact⟨a.1,i a.2⟩
   |_=>rw[f]at a;exact a.elim
def aay{S:Æ->Prop}(f:∀g,S g->g.status=Å)(h:∀w,ĺ P yQ RT ä (λg _=>S g) (n+1) g w):g.status=Å/\(S g\/∀a,∃b,í P yQ g a=ŭ b a #[]/\∀w,ĺ P yQ RT ä (λg _=>S g) n b w):=by
 by_cases d:S g
 .exact⟨f g d,À d⟩
 .rcases h default with q|⟨i,q⟩
  .exact absurd (q default trivial) d
  .refine⟨i,Á λa=> ?_⟩;have c:=q a trivial;cases e:í P yQ g a with
   |go b m o=>
    rw[e,ŵ]at c;let⟨⟨j,k⟩,l⟩:=c;subst j k;exact⟨b,U,λw=>aj8 l⟩
   |_=>rw[e]at c;exact c.elim
def aj9(H:Ų P L)(B:60<=j)(D:nP Ψ l b)(E:SW Ψ l b l.w)(C:l.d=1)(F:∀a,SW Ψ l b a->fA P yQ e {l with d:=0,w:=a} (G (f.at (y.put ((Q[i]?).bind (·.dst))<|ŉ #[])<|È Q jJ::k) qX)) (I:n<=j) (h:∀w,ĺ P yQ RT ä (λg _=>UN P L yQ b e (f.at y<|È Q (i::jJ)::k) qX l g) n g w):TT P yQ j b e (.gN n) l g:=by
 refine⟨C,λp g=>match p with
  |.gN n=>n<=j/\∀w,ĺ P yQ RT ä (λg _=>UN P L yQ b e (f.at y<|È Q (i::jJ)::k) qX l g) n g w
  |.ld v m=>m<=j/\gO<=v/\∀w,ĺ P yQ RT ä (λg _=>aav P L yQ b e (f.at y (È Q (i::jJ)::k)) qX l v g) m g w,⟨I,h⟩,λp g J=> ?_⟩
 match p,J with
 |.gN (n+1),⟨h1,h2⟩=>
  let⟨r,u⟩:=aay (λg h=>h.1) h2;refine⟨r,h1,u.imp (λq=>⟨ô _,λw a _=>q⟩) λq a=> ?_⟩;let⟨s,c,o⟩:=q a;exact⟨s,c,Z,o⟩
 |.gN 0,⟨_,h2⟩=>
  have q:=h2 default default trivial;refine⟨q.1,λv=> ?_⟩;let⟨s,c,o,x⟩:=q.2 v;refine⟨s,c,?_⟩;by_cases z:0<=v/\v<gO
  .rw[if_pos z];exact λt=>o ⟨z.1,t⟩
  .rw[if_neg z];exact λt=>⟨60,B,B,t.1,x t⟩
 |.ld v (m+1),⟨h1,h0,h2⟩=>
  let⟨r,u⟩:=aay (λg h=>h.1) h2;refine⟨r,h0,h1,u.imp (λq=>⟨ô _,h0,λw a _=>q⟩) λq a=> ?_⟩;let⟨s,c,o⟩:=q a;exact⟨s,c,Z,h0,o⟩
 |.ld v 0,⟨_,h0,h2⟩=>
  have q:=h2 default default trivial;let⟨r,⟨m,c,o⟩,s,x,t⟩:=q;exact⟨r,h0,⟨m,c,o⟩,s,x,40,Z,Z,λw=>aax (λg u=>aaw H D E C F u)<|t w⟩
def aaz(H:Ų P L)(o:60<=j)(a:nP Ψ l b)(hF:SW Ψ l b l.w)(p:l.d=0)(h:∀c,SW Ψ l b c->fA P yQ e {l with d:=0,w:=c} (G (f.at (y.put ((Q[i]?).bind (·.dst))<|ŉ #[])<|È Q jJ::k) qX)): fA P yQ (uq P yQ j b e .jy) l (G ((base L.wait).at ⟨#[ý<|Ä ⟨b,0,Í⟩,Â,Â,Â,Â,Â,Â,Â,Â,Â,Â,Â,Â,Â,Â,Â,Â,Â,Â,Â,Â,Â,Â,Â,Â,Â,Â,Â,Â,Â,Â,Â,Â,Â,Â,Â,Â,Â,Â,Â,Â,Â,Â,Â,Â,Â,Â,Â,Â,Â,Â,Â,Â,Â,Â,Â,Â,Â,Â,Â,Â,Â,Â,Â,Â,Â,Â,Â,Â,Â,Â,Â,Â,Â,Â,Â,Â,Â,Â,Â,Â,Â,Â,Â],[]⟩ [ļ<|ų L])<|f.at y (È Q (i::jJ)::k)::qX):=by
 lib_facts;simp only[ų,waitFn,Č];apply jW a hF (n:=40);iterate 3 w_go fM
 refine Ì λc q=> ?_;replace hF:=fM hF q;refine vA a hF (À U) U (λ_=>ē ú fB U U (by k_ne) U H.f_disable (Ŕ L) (ŕ L) (Ŗ L)<|ŗ L) λt hF=> ?_;walk_nrm;have r:Î l.d #[kK ú]=1:=by rw[p];rfl
 rw[r];refine oY a hF λm hF=>⟨40,Z,aj9 (l:={l with d:=1,w:=m}) H o a hF U h Z λw=>aax (λg s=>aaw (l:={l with d:=1,w:=m}) H a hF U h s) ?_⟩;replace hF:True:=trivial;iterate 3 w_go fS
 exact Ì λ_ _=>⟨_,U,fB,fB⟩
end
section
variable(P:ġ)(e:Bool)(b:Nat)(J:Jd)
def Ib:Jd:=λl g=>l.d=1/\KD P e (.read<|iP b) J l g
def Pk:Jd:=λl g=>l.d=1/\TD P e (gp b) gO (λs=>if s=gO then fA P e (Ib P e b J)else if gO<s/\s<1000000*gO/\s%gO=0 then fA P e J else λ_ _=>True) l g
end
def akb(F:Ph)(j:Nat)(a:Nat->Nat):TX F j a=Pk F.P Ï F.fL (OH F j a):=rfl
section
variable{Ψ:Ð->Prop}{P:ġ}{L:Ŋ}{e:Bool}{b:Nat}{l:fj}{f:Jd}{c:ù}{k:List Œ}
def aaA(H:Ų P L)(h:nP Ψ l b)(hF:SW Ψ l b l.w)(E:l.d=0)(t:∀g,SW Ψ l b g->fA P e f {l with d:=0,w:=g} (G (c.at (y.put ((Q[i]?).bind (·.dst))<|ŉ #[])<|È Q jJ::k) qX)): fA P e (Pk P e b f) l (G ((base L.add).at ⟨#[ý<|Ä ⟨b,0,Í⟩,ê Ņ 1,Â,Â,Â,Â,Â,Â,Â,Â,Â,Â,Â,Â,Â,Â,Â,Â,Â,Â,Â,Â,Â,Â,Â,Â,Â,Â,Â,Â,Â,Â,Â,Â,Â,Â,Â,Â,Â,Â,Â,Â,Â,Â,Â,Â,Â,Â,Â,Â,Â,Â,Â,Â,Â,Â,Â,Â,Â,Â,Â,Â,Â,Â,Â,Â,Â,Â,Â,Â,Â,Â,Â,Â,Â,Â,Â,Â,Â,Â,Â,Â,Â,Â,Â,Â,Â,Â,Â,Â,Â,Â,Â,Â,Â,Â,Â,Â,Â,Â,Â,Â,Â,Â,Â,Â,Â,Â,Â,Â,Â,Â,Â,Â,Â,Â,Â],[]⟩ [ļ<|body_add L])<|c.at y (È Q (i::jJ)::k)::qX):=by
 lib_facts;simp only[body_add,addFn,Č];apply jW h hF (n:=40);iterate 12 w_go fM
 refine Ì λg a=> ?_;replace hF:=fM hF a;clear a;refine vA (l:={l with w:=g}) h hF (À U) U (λ_=>ē ú fB U U (by k_ne) U H.f_disable (Ŕ L) (ŕ L) (Ŗ L)<|ŗ L) λj hF=> ?_;walk_nrm;have F:Î l.d #[kK ú]=1:=by rw[E];rfl
 rw[F];apply jW (l:={l with d:=1,w:=j}) h hF (n:=50);iterate 2 w_go fM
 u_defer fM hF
 iterate 8 w_go fM
 u_bub fM hF
 iterate 11 w_go fM
 u_call H.f_uAdd (nm_uAdd L) uAddFn fM hF
 iterate 10 w_go fM
 refine Ì λg a=> ?_;replace hF:=fM hF a;clear a;refine oY (l:={l with d:=1,w:=g}) h hF λq hF=>⟨U,U,λv=>⟨_,λg I J=>(Ō U U (by k_ne) U H.f_addU64 (Κ L) (Λ L) (Μ L) Ô (Ν L) U U I J).trans gG,?_⟩⟩;walk_nrm;have u:Ô.wrap (v+4294967296)=Ô.wrap (v+gO):=rfl;rw[u];clear u;obtain⟨s,x⟩:∃s,Ô.wrap (v+gO)=s:=⟨_,U⟩;simp only[x];clear x v;by_cases m:s=gO
 .rw[if_pos m];have o:s=4294967296:=m;clear m;subst o;apply jW (l:={l with d:=1,w:=q}) h hF (n:=150);iterate 3 w_go fM
  u_leave1 H.f_uAdd fM hF
  iterate 48 w_go fM
  u_conv H.underlying_tPU32 H.room_tU32 (pz.c1 hF.2.1).choose_spec fM hF
  refine Ì λg a=> ?_;replace hF:=fM hF a;clear a;refine oY (l:={l with d:=1,w:=g}) h hF λq hF=>⟨U,U,_,λ_=>ć .read fB U U (by k_ne) U H.f_raceRead (x_raceRead_n L) (x_raceRead_b L) (x_raceRead_x L) (x_raceRead_f L) (by simp[ÿ,iP]),?_⟩;walk_nrm;apply jW (l:={l with d:=1,w:=q}) h hF (n:=150);iterate 39 w_go fM
  refine Ì λg a=> ?_;replace hF:=fM hF a;clear a;refine vA (l:={l with d:=1,w:=g}) h hF (Á U) U (λw=>H7 ð fB U H.f_enable (Ĩ L) (ĩ L) (Ī L) (ī L) w) λj hF=> ?_;have r:Î 1 #[kK ð]=0:=rfl;rw[r];apply jW (l:={l with d:=0,w:=j}) h hF (n:=10);u_leave0 H.f_add fM hF;refine Ì λg a=> ?_;replace hF:=fM hF a;clear a;exact t _ hF
 .rw[if_neg m];by_cases o:gO<s/\s<1000000*gO/\s%gO=0
  .rw[if_pos o];let⟨z,B,C⟩:=o;have N:(4294967296:Int)<s:=z;have D:s<1000000*4294967296:=B;have K:s%4294967296=0:=C;clear m z B C;have O:=H8 s Z D Z;have M:=H9 s Z D Z;rw[K]at M;obtain⟨p,T⟩:∃p,(s/4294967296+2147483648)%4294967296-2147483648=p:=⟨_,U⟩;have V:¬p<0:=Z
   have W:0<p:=Z
   have X:(p==1)=É:=by simp;omega
   apply jW (l:={l with d:=1,w:=q}) h hF (n:=150);iterate 3 w_go fM
   u_leave1 H.f_uAdd fM hF
   iterate 83 w_go fM
   refine Ì λg a=> ?_;replace hF:=fM hF a;clear a;refine vA (l:={l with d:=1,w:=g}) h hF (Á U) U (λw=>H7 ð fB U H.f_enable (Ĩ L) (ĩ L) (Ī L) (ī L) w) λj hF=> ?_;have r:Î 1 #[kK ð]=0:=rfl;rw[r];apply jW (l:={l with d:=0,w:=j}) h hF (n:=10);u_leave0 H.f_add fM hF;refine Ì λg a=> ?_;replace hF:=fM hF a;clear a;exact t _ hF
  .rw[if_neg o];trivial
end
def D5:ω->Nat->ω
 |.seq a _,0=>a
 |.seq _ b,_=>b
 |π _ a _,0=>a
 |π _ _ b,_=>b
 |χ _ a,_=>a
 |.loop a,_=>a
 |c,_=>c
def rL(f:Func)(l:List Nat):ω:=l.foldl D5<|f.body.getD ai
def sB(f:Ĵ)(a b:Array ì):ż:={target:=.fn (.func f) a,args:=b}
def qx(P:ġ):ù:={(default:ù)with fn:=P.funcs.size,defers:=[],mode:=.panicking [Ŝ]}
section
variable{b:ù}{a:ő}{k:List Œ}{cs:List ù}
def aaB{h:Array Ļ}(c:Q[i]?=Ä o)(j:å o (Ħ Q a.tmps)=Ï)(l:b.kind≠Ė) (e:o.op=.defer {callee:=Ĥ qQ,args:=#[],argTypes:=h}) (g:a.eval qQ=.func (.func F) #[] d): í P yQ (G (b.at a<|È Q (i::jJ)::k) cs) w=ŭ (G (b.at (ş ⟨a.tmps,sB F d #[]::a.defers⟩ o.dst Â)<|È Q jJ::k) cs) w #[]:=by
 have m:(à a.eval o).run P w=.ok (.defer<|sB F d #[]) w:=by unfold à;simp[e,Ń,č,g,sB]
 have n:(à a.eval o).events P w #[]=#[]:=by unfold à;simp[e,Ń,č,g]
 have p:(b.at ⟨a.tmps,sB F d #[]::a.defers⟩<|È Q (i::jJ)::k).finish Â=b.at (ş ⟨a.tmps,sB F d #[]::a.defers⟩ o.dst Â) (È Q jJ::k):=by rw[Ĭ,c];rfl
 have q:(b.kind==Ė)=É:=by simpa using l
 rw[Υ c j,<-p];simp[stepG.apply,m,n,G,Frame.at,q,ğ,ċ]
def aaC{m:Array Ļ}(n:Q[i]?=Ä o)(p:å o (Ħ Q a.tmps)=Ï)(q:b.kind≠Ė) (h:o.op=Ť {callee:=Ĥ qQ,args:=#[],argTypes:=m}) (j:a.eval qQ=.func (.func F) #[] d) (e:P.funcs[F]?=Ä s) (r:(s.name== "runtime.NumGoroutine")=É) (g:s.body=Ä wX): í P yQ (G (b.at a<|È Q (i::jJ)::k) cs) w=ŭ (G ((base F).at {tmps:=d++è (s.ntmps-d.size) Â,defers:=[]} [ļ wX])<|b.at a (È Q (i::jJ)::k)::cs) w #[]:=by
 have l:¬s.name= "runtime.NumGoroutine":=by simpa using r
 have t:(à a.eval o).run P w=.ok (.enter F d) w:=by unfold à;simp[h,Ń,č,j,ũ,Ū,e,l,g]
 have u:(à a.eval o).events P w #[]=#[]:=by unfold à;simp[h,Ń,č,j,ũ,Ū,e,l,g]
 rw[Α n p q t,<-enter_at d e g];unfold listed;rw[u,ċ]
def akc{g:Array Ļ}(d:Q[i]?=Ä o)(h:å o (Ħ Q a.tmps)=Ï)(j:b.kind=Ŏ)(l:b.roundOf=Í)(m:f.mode=þ) (e:o.op=Ť {callee:=.builtin .recover,args:=#[],argTypes:=g}) (r:o.type=t): í P yQ (G (b.at a<|È Q (i::jJ)::k)<|f::cs) w=ŭ (G (b.at (a.put o.dst ą)<|È Q jJ::k)<|f::cs) w #[]:=by
 have n:(à a.eval o).run P w=.ok .recover w:=by unfold à;simp[e,Ń,ũ,builtin]
 have p:(à a.eval o).events P w #[]=#[]:=by unfold à;simp[e,Ń,ũ,builtin]
 have q:(b.at a<|È Q (i::jJ)::k).finish ą=b.at (a.put o.dst ą) (È Q jJ::k):=by rw[Ĭ,d];rfl
 rw[Υ d h,<-q];simp[stepG.apply,n,p,G,Frame.at,j,ğ,ċ,l,tryRecover,m]
def akd{e:List ż}(i:a.defers=sB F d #[]::e)(g:P.funcs[F]?=Ä s)(j:(s.name== "runtime.NumGoroutine")=É)(h:s.body=Ä wX): í P yQ (G {b.at a L with mode:=þ} cs) w= ŭ (G ((baseD F).at {tmps:=d++è (s.ntmps-d.size) Â,defers:=[]} [ļ wX])<|{b.at ⟨a.tmps,e⟩ L with mode:=þ}::cs) w #[]:=by
 have k:¬s.name= "runtime.NumGoroutine":=by simpa using j
 rw[<-enter_atD d g h];simp[G,í,Χ,Ÿ,Frame.at,i,sB,ũ,Ū,g,k,h,ğ,ċ]
def aaD(a:P.funcs[F]?=Ä s)(e:(s.name== "runtime.NumGoroutine")=É)(b:s.body=Ä wX): í P yQ (born P<|sB F d #[]) w=ŭ (G ((baseD F).at {tmps:=d++è (s.ntmps-d.size) Â,defers:=[]} [ļ wX]) [qx P]) w #[]:=by
 have g:¬s.name= "runtime.NumGoroutine":=by simpa using e
 rw[<-enter_atD d a b];simp[G,í,Χ,Ÿ,born,qx,sB,ũ,Ū,a,g,b,ğ,ċ]
def ake(d:b.kind=Ŏ)(e:a.defers=[])(f:P.funcs[b.fn]?=Ä s)(c:s.results=#[]): í P yQ (G {b.at a L with mode:=þ} [qx P]) w=ŭ (G (qx P) []) w:=by have g:=results_none c a.tmps P w;have h:=events_results_none (P:=P) (w:=w) c a.tmps #[];simp[G,í,Χ,doReturn,Frame.at,d,e,f,g,h,qx,Ŝ,seen,ğ]
def akf(w:Ð):í P É (G (qx P) []) w=ŭ {frame:=qx P,callers:=[],status:=æ,dying:=Í} w:=by simp[G,í,Χ,qx,Ŝ,Frame.catches];rfl
def akg:tA P 0 (G (qx P) []):=⟨1,.ctl U akf ⟨U,U⟩⟩
def akh(c:b.kind=Ŏ)(d:a.defers=[])(e:P.funcs[b.fn]?=Ä s)(f:s.results=#[]):tA P 0 (G {b.at a L with mode:=þ} [qx P]):= Pj U (λ_=>ake c d e f) akg
def aki(e:b.kind=Ŏ)(g:a.defers=[])(h:P.funcs[b.fn]?=Ä s)(j:s.results=#[])(k:f.mode=þ)(l:tA P i (G f cs)):tA P i (G {b.at a L with mode:=þ}<|f::cs):= let⟨n,q⟩:=l;⟨n+1,.leaveD e g h j k q⟩
end
def akj(d:Nat)(t:Ļ)(w:Ð)(a:Array ė)(h:P.underlying t=Ä (.interface<|P.methodsAt t)):(Ω (d+1) t ą ą).events P w a=a:=by simp[Ω,run_underlying h,go_sem]
def akk(t:Ļ)(w:Ð)(a:Array ė)(h:P.underlying t=Ä (.interface<|P.methodsAt t)):(Op.equal t ą ą).events P w a=a:=akj 9999 t w a h
def akl(t:Ļ)(w:Ð)(a:Array ė)(h:P.underlying t=Ä (.interface<|P.methodsAt t)):(binOp .neq t ą ą).events P w a=a:=by simp only[binOp];simp[akk t w a h]
section
variable{J:Jd}{l:fj}{b:ù}{a:ő}{k:List Œ}{cs:List ù}
def lG(l:fj):Prop:=∀j,l.O j->j<l.w.heap.size
def gZ(a:lG l)(b:ĺ P yQ RT ä (λc _=>fA P yQ J l c) n g l.w):fA P yQ J l g:= UM b (λ_ _ _=>trivial) a λ_ _ r h=>h.fZ r
def yl(m:Q[i]?=Ä o)(n:å o (Ħ Q a.tmps)=Ï)(p:b.kind≠Ė) (h:∀c,fU l l.w c->uponK o a (λs e=>∃d,oO l d c e (listed P b.fn a o c)/\fA P yQ J d (G (b.at s<|È Q jJ::k) cs)) ((à a.eval o).run P c)): fA P yQ J l (G (b.at a<|È Q (i::jJ)::k) cs):=by
 refine .mk U λc r=> ?_;have f:=h c r;revert f;generalize q:(à a.eval o).run P c=res;intro f;match res,f with
 |.ok (.value v) e,⟨d,g,j⟩=>exact⟨_,e,_,d,œ m n p q,g,j⟩
 |.ok .skip e,⟨d,g,j⟩=>exact⟨_,e,_,d,ţ m n p q,g,j⟩
def zG(l:fj)(e:ė):Prop:=B1 l e/\e.loc≠ź ú/\e.loc≠ź ð
def Ld(h:∀e∈V,zG l e)(d:Nat):Î d V=d:=ņ (λe a=>⟨(h e a).2.1,(h e a).2.2⟩) d
def akm(b:∀j,l.O j->j<w.heap.size)(c:¬l.q)(a:∀e∈V,zG l e):oO l {l with w:=w} w w V:= ⟨Ç _,λ_ h=>À h,b,U,U,U,U,λ_ _ _ _=>rfl,λ_ _ _ _=>rfl,λ_ _ _=>rfl,U,U,U,λe h=>(a e h).1,(Ld a _).symm,U,λq=>absurd q c,U⟩
def ym(d:Q[i]?=Ä o)(f:å o (Ħ Q a.tmps)=Ï)(g:b.kind≠Ė)(j:lG l)(m:¬l.q) (n:∀c,fU l l.w c->(à a.eval o).run P c=.ok (.value v) c) (p:∀c,fU l l.w c->∀e∈(à a.eval o).events P c #[],zG l e) (s:fA P yQ J l (G (b.at (a.put o.dst v)<|È Q jJ::k) cs)):fA P yQ J l (G (b.at a<|È Q (i::jJ)::k) cs):=by refine yl d f g λc r=> ?_;rw[n c r];exact⟨_,akm (oA j r) m λe h=>p c r e<|ε h,s.fZ r⟩
def iW(l:fj)(x:đ):Prop:=l.M x.block\/l.C x
def iW.fg{x:đ}(h:iW l x){w₁:Ð}(r:fU l l.w w₁):w₁.cell? x=l.w.cell? x:=h.elim (λq=>iF<|r.fu _ q)<|r.fg x
def iW.rd{x:đ}(h:iW l x):zG l ⟨ā x,É,É⟩:=by
 refine⟨À ⟨x,U,?_⟩,fB,fB⟩;rcases h with(q|q)|(q|q)
 .exact À q
 .exact Á<|Á ⟨À q,U,U⟩
 .exact Á<|À q
 .exact Á<|Á ⟨Á q,U,U⟩
def qN{x:đ}(f:Q[i]?=Ä o)(g:å o (Ħ Q a.tmps)=Ï)(j:b.kind≠Ė)(m:lG l)(n:¬l.q)(c:iW l x)(d:l.w.cell? x=Ä v) (p:∀w,w.cell? x=Ä v->(à a.eval o).run P w=.ok (.value v) w) (s:∀w,w.cell? x=Ä v->(à a.eval o).events P w #[]=#[⟨ā x,É,É⟩]) (t:fA P yQ J l (G (b.at (a.put o.dst v)<|È Q jJ::k) cs)):fA P yQ J l (G (b.at a<|È Q (i::jJ)::k) cs):= ym f g j m n (λw r=>p w<|(c.fg r).trans d) (λw r e h=>by
  rw[s w<|(c.fg r).trans d]at h;have:e=⟨ā x,É,É⟩:=by simpa using h
  subst this;exact c.rd) t
def tB(l:fj)(x:đ):Prop:=l.O x.block\/l.Oc x
def tB.aaE(h:tB l p):iW l p:=h.elim (λq=>À<|À q) λq=>Á<|À q
def tB.wr{x:đ}(h:tB l x):zG l ⟨ā x,Ï,É⟩:=⟨À ⟨x,U,h.elim À λq=>Á<|À q⟩,fB,fB⟩
end
end Go.Proofs.Y.fK
namespace Go.Proofs.Y.fK
open Go Go.Conc Go.Proofs.Y.Lift
section
variable{main:Bool}{J:Jd}{l:fj}{b:ù}{k:List Œ}{cs:List ù}{ops:Array Ľ}
def UO(a:∀j,l.O j->j<w.heap.size)(b:¬l.q):oO l {l with w:={w with drawn:=w.drawn+1}} w {w with drawn:=w.drawn+1} #[]:= ⟨Ç _,λ_ h=>À h,a,U,U,U,U,λ_ _ _ _=>rfl,λ_ _ _ _=>rfl,λ_ _ _=>rfl,U,U,U,λe c=>by simp at c,by simp[Î],U,λq=>absurd q b,U⟩
def ko(listed:Array Bool):Nat:=listed.countP λx=> !x
def Pl{listed:Array Bool}(h:listed.getD i Ï=É):ko (listed.setIfInBounds i Ï)+1=ko listed:=by
 have a:i<listed.size:=by
  rcases ø i listed.size with q|q
  .exact q
  .simp[ë q]at h
 have q:listed[i]=É:=by simpa[a]using h
 unfold ko;have b:0<listed.countP (λx=> !x):=Array.countP_pos_iff.2 ⟨É,by rw[<-q];exact Array.getElem_mem a,U⟩;rw[Array.setIfInBounds,dif_pos a,Array.countP_set a,q];simp only[Bool.not_false,Bool.not_true,if_true,Bool.false_eq_true,if_false];omega
def UP{md:ß}{listed:Array Bool}(c:listed.size=ops.size)(h:ko listed=0):Ó md ops listed=[]:=by rw[List.eq_nil_iff_forall_not_mem];intro j a;let⟨b,o,d,_⟩:=Ď.1 a;have:=Pl b;omega
def aaF{md:ß}(I:Array Bool->ő->fj->Prop) (q:∀c a l i m,I c a l->i∈Ó md ops c->fA P main (λh n=>∃f,n=G (b.at f<|È ops m::k) cs/\I (c.setIfInBounds i Ï) f h) l (G (b.at a<|È ops (i::m)::k) cs)) (o:∀c a l,I c a l->c.size=ops.size->Ó md ops c=[]->fA P main J l (G (b.at a<|È ops []::k) cs)): ∀(d t:Nat) (c:Array Bool) (a:ő) (l:fj),c.size=ops.size->ko c<=d->I c a l->fA P main J l (G (b.at a<|È ops (ă md ops d t c [])::k) cs):=by
 intro d
 induction d with
 |zero=>
  intro t c a l e r g;simpa[ă]using o c a l g e<|UP e Z
 |succ d s=>
  intro t c a l e r g;simp only[ă];change fA P main J l (G (b.at a (È ops (match(Ó md ops c)[t%(Ó md ops c).length]? with
   |some i=>ă md ops d (t/(Ó md ops c).length) (c.setIfInBounds i Ï) [i]
   |none=>[].reverse)::k)) cs)
  cases j:(Ó md ops c)[t%(Ó md ops c).length]? with
  |none=>
   have u:Ó md ops c=[]:=by
    cases v:Ó md ops c with
    |nil=>rfl
    |cons x p=>
     rw[v]at j;have w:t%(x::p).length<(x::p).length:=Θ _ fB;simp at j;simp at w;omega
   simpa using o c a l g e u
  |some i=>
   simp only[];rw[linearise_go_acc,List.reverse_singleton,List.singleton_append];have p:=List.mem_of_getElem? j;refine(q c a l i _ g p).oM ?_;rintro h n ⟨f,rfl,u⟩;exact s _ _ f h (by simpa using e) (by have:=Pl (Ď.1 p).1;omega) u
def Ic(n:Nat):ko (è n É)=n:=by unfold ko;rw[Array.countP_replicate];simp
def UQ{id:Nat}(I:Array Bool->ő->fj->Prop)(n:lG l)(o:¬l.q) (f:∀d,fU l l.w d->I (è ops.size É) y {l with w:={d with drawn:=d.drawn+1}}) (g:∀e c y l i h,I c y l->i∈Ó e ops c->fA P main (λp s=>∃j,s=G (b.at j<|È ops h::k) cs/\I (c.setIfInBounds i Ï) j p) l (G (b.at y<|È ops (i::h)::k) cs)) (m:∀e c y l,I c y l->c.size=ops.size->Ó e ops c=[]->fA P main J l (G (b.at y<|È ops []::k) cs)): fA P main J l (G (b.at y<|ļ (ĥ id ops Ï)::k) cs):=by
 refine .mk U λd r=>⟨_,_,_,_,stepG_region_draw,UO (oA n r) o,?_⟩;unfold Region.schedule;split
 .exact aaF I (g _) (m _) _ _ _ _ _ fB (by rw[Ic];exact Ç _)<|f d r
 .exact aaF I (g _) (m _) _ _ _ _ _ fB (by rw[Ic];exact Ç _)<|f d r
end
def FC(e:Edge):Bool:=match e.ground with|.textOnly _=>É|.gcOnly _=>É|_=>Ï
def aaG{md:ß}{e:Edge}(h:FC e=Ï):Ź md e=Ï:=by unfold FC at h;unfold Ź;revert h;cases e.ground<;>simp
structure pC(ops:Array Ľ)(t0:Array ì)(val:Nat->ì)(listed:Array Bool)(a:ő):Prop where
 Cs:a.defers=[]
 fh:a.tmps.size=t0.size
 ja:∀d,(∀j o,ops[j]?=Ä o->listed.getD j É=Ï->o.dst≠Ä d)->a.tmps[d]?=t0[d]?
 fN:∀j o d,ops[j]?=Ä o->listed.getD j É=Ï->o.dst=Ä d->a.tmps[d]?=Ä (val j)
 AW:∀j o e,ops[j]?=Ä o->listed.getD j É=Ï->e∈o.after->FC e=Ï->listed.getD e.on É=Ï
def w7(a:Array Ľ)(n:Nat):Bool:=(ζ a.size).all λi=>match(a.getD i default).dst with
 |none=>Ï
 |some d=>decide (d<n)&&(ζ a.size).all λj=>i==j||(a.getD j default).dst !=Ä d
section
variable{ops:Array Ľ}{t0:Array ì}{val:Nat->ì}{listed:Array Bool}{a:ő}
def akn(h:w7 ops t0.size=Ï)(a:ops[i]?=Ä o)(b:o.dst=Ä n):n<t0.size:=by have c:=(Ò.1 a).1;have:=(ď.1 h) i<|Ŭ.2 c;simp[a,b]at this;exact this.1
def ako(h:w7 ops t0.size=Ï){a:Ľ}(b:ops[i]?=Ä o)(c:ops[j]?=Ä a)(f:j≠i)(g:o.dst=Ä n):a.dst≠Ä n:=by
 have k:=(Ò.1 b).1;have l:=(Ò.1 c).1;have:=(ď.1 h) i<|Ŭ.2 k;simp[b,g]at this;rcases this.2 j l with e|e
 .exact absurd e.symm f
 .simpa[c]using e
def pC.gd(h:pC ops t0 val listed a){d:Nat}(b:ops.toList.all (λo=>o.dst !=Ä d)=Ï):a.tmps[d]?=t0[d]?:= h.ja d λj o c _ e=>by have:=ď.1 b o<|Ā.2<|Array.mem_of_getElem? c;simp[e]at this
def UR(h:(listed.setIfInBounds i Ï).getD j É=Ï):j=i\/listed.getD j É=Ï:=by
 by_cases e:i=j
 .exact À e.symm
 .rw[getD_set_ne É e]at h;exact Á h
def pC.gS(h:pC ops t0 val listed a)(r:w7 ops t0.size=Ï){md:ß}(l:ops[i]?=Ä o)(s:i∈Ó md ops listed)(y:o.dst≠Í->v=val i):pC ops t0 val (listed.setIfInBounds i Ï) (a.put o.dst v):=by
 have n:=(Ď.1 s).1;have t:∀j c e,ops[j]?=Ä c->(listed.setIfInBounds i Ï).getD j É=Ï->e∈c.after->FC e=Ï->(listed.setIfInBounds i Ï).getD e.on É=Ï:=λj c e b f u w=>by
  rcases UR f with rfl|q
  .let⟨_,g,z,d⟩:=Ď.1 s;rw[b]at z;obtain rfl:=Ã z;exact Ġ<|d e u<|aaG w
  .exact Ġ<|h.AW j c e b q u w
 have B:(listed.setIfInBounds i Ï).getD i É=Ï:=by
  have z:i<listed.size:=by
   rcases ø i listed.size with q|q
   .exact q
   .simp[ë q]at n
  simp[z]
 cases k:o.dst with
 |none=>
  refine⟨h.Cs,h.fh,λd m=>h.ja d λj c b f=>m j c b<|Ġ f,λj c d b f g=> ?_,t⟩;rcases UR f with rfl|q
  .rw[l]at b;obtain rfl:=Ã b;rw[k]at g;cases g
  .exact h.fN j c d b q g
 |some e=>
  have C:=y (by rw[k];simp);refine⟨h.Cs,by simp[ş,h.fh],λd m=> ?_,λj c d b f g=> ?_,t⟩
  .have p:e≠d:=λq=>m i o l B (by rw[k,q]);simp only[ş];rw[á p];exact h.ja d λj c b f=>m j c b<|Ġ f
  .simp only[ş];rcases UR f with rfl|q
   .rw[l]at b;obtain rfl:=Ã b;rw[k]at g;obtain rfl:=Ã g;have z:e<a.tmps.size:=by rw[h.fh];exact akn r l k
    simp[z,C]
   .have p:e≠d:=by
     rintro rfl;by_cases x:j=i
     .subst x;rcases ø j listed.size with z|z
      .simp[z]at n q;rw[n]at q;cases q
      .simp[ë z]at q
     .exact ako r l b x k g
    rw[á p];exact h.fN j c d b q g
def pC.aaH(h:pC ops t0 val listed a){b:Nat->ì}(e:∀j,listed.getD j É=Ï->b j=val j):pC ops t0 b listed a:= ⟨h.Cs,h.fh,h.ja,λj o d f c g=>(by rw[e j c];exact h.fN j o d f c g),h.AW⟩
def jj{md:ß}(h:i∈Ó md ops listed)(c:ops[i]?=Ä o)(d:o.after.toList.any (λe=>e.on==j&&FC e)=Ï):listed.getD j É=Ï:=by let⟨_,k,b,f⟩:=Ď.1 h;rw[c]at b;obtain rfl:=Ã b;let⟨e,g,a⟩:=ŏ.1 d;simp only[Ő,beq_iff_eq]at a;rw[<-a.1];exact f e (Ā.1 g)<|aaG a.2
def pC.uz(h:pC ops t0 val listed a)(c:ops[i]?=Ä o)(d:listed.getD i É=Ï)(f:o.after.toList.any (λe=>e.on==j&&FC e)=Ï):listed.getD j É=Ï:=by let⟨e,g,b⟩:=ŏ.1 f;simp only[Ő,beq_iff_eq]at b;rw[<-b.1];exact h.AW i o e c d (Ā.1 g) b.2
def AX(h:listed.getD i Ï=É):¬listed.getD i É=Ï:=by
 rcases ø i listed.size with z|z
 .simp[z]at h|-;exact h
 .simp[ë z]at h
def aaI(md:ß)(ops:Array Ľ):List Nat->List Nat->Bool
 |[],_=>Ï
 |i::r,seen=>(match ops[i]? with|some o=>o.after.toList.all (λe=> !Region.binds md e||seen.contains e.on)|none=>É)&&aaI md ops r (i::seen)
def tC{md:ß}(h:Ó md ops listed=[])(n:listed.size=ops.size):∀(b a:List Nat),aaI md ops b a=Ï->(∀i∈a,listed.getD i É=Ï)->∀i∈b,listed.getD i É=Ï:=by
 intro b
 induction b with
 |nil=>intro a _ _ i c;cases c
 |cons j r p=>
  intro a s g i c;let⟨d,t⟩:=Bool.and_eq_true_iff.1 (show(_&&_)=Ï from s);have l:listed.getD j É=Ï:=by
   split at d
   .rename_i o m;have u:j<listed.size:=by rw[n];exact(Ò.1 m).1
    by_cases f:listed.getD j Ï=É
    .have:j∈Ó md ops listed:=Ď.2 ⟨f,o,m,λe v w=>by
      have:=ď.1 d e (Ā.2 v);rw[w]at this;simp at this;exact g _ this⟩
     rw[h]at this;cases this
    .simp[u]at f|-;exact f
   .cases d
  rcases ű.1 c with rfl|q
  .exact l
  .exact p (j::a) t (λk x=>(ű.1 x).elim (λe=>e▸l)<|g k) i q
def pC.jy(t:Array ì)(val:Nat->ì)(n:Nat):pC ops t val (è n É) ⟨t,[]⟩:=by
 have a:∀j,¬(è n É).getD j É=Ï:=λj q=>by
  rcases ø j n with z|z
  .simp[z]at q
  .simp[ë (show(è n É).size<=j by simpa using z)]at q
 exact⟨U,U,λ_ _=>rfl,λj _ _ _ z=>absurd z<|a j,λj _ _ _ z=>absurd z<|a j⟩
def Ie{md:ß}(h:i∈Ó md ops listed):i<ops.size:=by let⟨_,o,a,_⟩:=Ď.1 h;exact(Ò.1 a).1
def US{md:ß}(h:i∈Ó md ops listed):listed.getD i Ï=É:=(Ď.1 h).1
end
def aaJ(h:a.spot.isSome=Ï):w.cell? a=Í:=by
 unfold World.cell?;cases w.heap[a.block]? with
 |none=>rfl
 |some o=>cases o<;>simp[h]
def FD{x y:đ}(b:x.spot=Í)(h:y≠x):(w.setCell x v).cell? y=w.cell? y:=by
 by_cases a:y.spot.isSome=Ï
 .rw[aaJ a,aaJ a]
 .apply B4;let⟨d,i,j⟩:=x;let⟨f,k,c⟩:=y;simp only at b a|-;have:c=Í:=by cases c<;>simp_all
  subst b this;by_cases e:d=f
  .exact Á λg=>h<|by rw[e,g]
  .exact À e
section
variable{main:Bool}{J:Jd}{l:fj}{b:ù}{a:ő}{k:List Œ}{cs:List ù}{ops:Array Ľ}{rest:List Nat}
def aaK(c:p.spot=Í)(g:(w.cell? p).isSome=Ï)(d:(u.cell? p).isSome=Ï)(r:fU l w u):fU l (w.setCell p v) (u.setCell p v):=by
 refine⟨by rw[ln,ln];exact r.fh,λj f=> ?_,λy b=> ?_,λy b=> ?_,λy b h=> ?_⟩
 .by_cases e:j=p.block
  .subst e;unfold World.setCell;simp only[Array.getElem?_modify];rw[r.fu _ f]
  .rw[nG e,nG e];exact r.fu j f
 .by_cases e:y=p
  .subst e;let⟨a,i⟩:=î.1 g;let⟨m,k⟩:=î.1 d;rw[xN i,xN k]
  .rw[FD c e,FD c e];exact r.fg y b
 .rw[wT,wT];exact r.fC y b
 .by_cases e:y=p
  .subst e;exact B5 d
  .rw[FD c e]at h|-;exact r.ia y b h
def aaL(f:p.spot=Í)(g:∀j,l.O j->j<w.heap.size)(i:¬l.q)(c:tB l p)(d:∀e∈V,zG l e):oO l {l with w:=w.setCell p v} w (w.setCell p v) V:=by
 refine⟨by rw[ln];exact Ç _,λ_ h=>À h,λj k=>by rw[ln];exact g j k,U,U,U,U,λj _ a b=>nG λe=> ?_,λy _ a b=>FD f λe=> ?_,λ_ _ _=>TQ,U,U,U,λe h=>(d e h).1,(Ld d _).symm,U,λq=>absurd q i,U⟩
 .exact c.elim (λq=>a<|e▸q) λq=>b p e.symm q
 .subst e;exact c.elim a b
def akp(n:ops[i]?=Ä o)(s:å o (Ħ ops a.tmps)=Ï)(t:b.kind≠Ė)(u:lG l)(y:¬l.q)(g:p.spot=Í)(d:tB l p)(j:(l.w.cell? p).isSome=Ï)(z:o.dst=Í)(B:l.w.frozen? p=É) (C:∀w,(w.cell? p).isSome=Ï->w.frozen? p=É->(à a.eval o).run P w=.ok .skip (w.setCell p v)) (D:∀w,(w.cell? p).isSome=Ï->w.frozen? p=É->(à a.eval o).events P w #[]=#[⟨ā p,Ï,É⟩]) (E:fA P main J {l with w:=l.w.setCell p v} (G (b.at a<|È ops rest::k) cs)):fA P main J l (G (b.at a<|È ops (i::rest)::k) cs):=by
 refine yl n s t λc r=> ?_;have f:(c.cell? p).isSome=Ï:=by rwa[d.aaE.fg r]
 have m:c.frozen? p=É:=by rw[<-B];exact d.aaE.elim (λq=>AH<|r.fu _ q)<|r.fC p
 rw[C c f m];refine⟨_,aaL g (oA u r) y d λe h=> ?_,?_⟩
 .have:=ε h;rw[D c f m]at this;have:e=⟨ā p,Ï,É⟩:=by simpa using this
  subst this;exact d.wr
 .have:(a.put o.dst Â)=a:=by rw[z];rfl
  rw[this];have F:fU {l with w:=l.w.setCell p v} (l.w.setCell p v) (c.setCell p v):=Cp<|aaK g j f r;exact E.fZ F
end
def oB(l:fj):fj:={l with O:=λ_=>False,Rd:=l.M,Oc:=λ_=>False,Rc:=l.C}
def pX(l x:fj):fj:={x with O:=λb=>x.O b\/l.O b,Rd:=l.Rd,Oc:=l.Oc,Rc:=l.Rc}
structure mK(l l':fj):Prop where
 O:∀j,l.O j->l'.O j
 fN:∀j,l'.O j->l.O j\/l.w.heap.size<=j
 Rd:l'.Rd=l.Rd
 Oc:l'.Oc=l.Oc
 Rc:l'.Rc=l.Rc
 K:l'.K=l.K
 q:l'.q=l.q
 gy:fU l l.w l'.w
 fG:lG l'
def mK.fY{l:fj}(h:lG l):mK l l:=⟨λ_ h=>h,λ_ h=>À h,U,U,U,U,U,fU.fY _ _,h⟩
def mK.C{l a:fj}(h:mK l a):a.C=l.C:=by unfold fj.C;rw[h.Oc,h.Rc]
def mK.M{l a:fj}(h:mK l a)(c:l.M b):a.M b:=c.imp (h.O b)<|by rw[h.Rd];exact id
def mK.akq{l d:fj}(h:mK l d)(r:fU d w u):fU l w u:=⟨r.fh,λj e=>r.fu j<|h.M e,λx b=>r.fg x (by rwa[h.C]),λx b=>r.fC x (by rwa[h.C]),λx b=>r.ia x<|by rwa[h.K]⟩
def mK.fZ{l a:fj}(h:mK l a){w₁:Ð}(r:fU a a.w w₁):mK l {a with w:=w₁}:= ⟨h.O,h.fN,h.Rd,h.Oc,h.Rc,h.K,h.q,h.gy.fl<|h.akq r,oA h.fG r⟩
def ic.fZ{l:fj}(s:ic l){w₁:Ð}(h:l.w.heap.size<=w₁.heap.size):ic {l with w:=w₁}:= ⟨s.lD,s.lE,s.fX,λb d=>Ê (s.fG b d) h,λa c=>Ê (s.nK a c) h,λa c=>let⟨e,f,g⟩:=s.k9 a c;⟨e,Ê f h,g⟩⟩
def ic.lw{l:fj}(s:ic l):lG l:=λj a=>s.fG j<|À a
section
variable{main:Bool}{J:Jd}
def akr{l x:fj}(d:x.Rd=l.M)(f:x.Oc=λ_=>False)(g:x.Rc=l.C){e:ė}(h:B1 x e):B1 (pX l x) e:=by
 rcases h with⟨a,b,c⟩|h|h|h|h|⟨a,b,c⟩
 .refine À ⟨a,b,?_⟩;rcases c with q|q|⟨q|q,z⟩
  .exact À<|À q
  .rw[f]at q;exact q.elim
  .rw[d]at q;rcases q with q|q
   .exact À<|Á q
   .exact Á<|Á ⟨À q,z⟩
  .rw[g]at q;rcases q with q|q
   .exact Á<|À q
   .exact Á<|Á ⟨Á q,z⟩
 .exact Á<|À h
 .exact Á<|Á<|À h
 .exact Á<|Á<|Á<|À h
 .exact Á<|Á<|Á<|Á<|À h
 .exact Á<|Á<|Á<|Á<|Á ⟨a,À b,c⟩
def aaM{l x:fj}(a:x.Rd=l.M):(pX l x).M=x.M:=by
 funext b;refine propext ⟨λh=> ?_,λh=> ?_⟩
 .rcases h with(q|q)|q
  .exact À q
  .exact Á<|by rw[a];exact À q
  .exact Á<|by rw[a];exact Á q
 .rcases h with q|q
  .exact À<|À q
  .rw[a]at q;exact q.elim (λz=>À<|Á z) Á
def Pm{l x:fj}(c:x.Oc=λ_=>False)(b:x.Rc=l.C):(pX l x).C=x.C:=by
 funext a;refine propext ⟨λh=>Á (by rwa[b]),λh=> ?_⟩;rcases h with q|q
 .rw[c]at q;exact q.elim
 .rwa[b]at q
def fA.aks{l:fj}(s:ic l){x:fj}(h:fA P main J x g):x.Rd=l.M->x.Oc=(λ_=>False)->x.Rc=l.C->x.K=l.K->x.q=l.q->fU l l.w x.w->(∀j,x.O j->l.w.heap.size<=j)->lG x-> fA P main (λb c=>∃a,J a c/\b=pX l a/\mK l b/\a.Rd=l.M/\a.Rc=l.C/\a.Oc=λ_=>False) (pX l x) g:=by
 induction h with
 |@fO x g h=>
  intro m f d o B p v E;refine .fO λc r=>⟨{x with w:=c},?_,U,?_,m,d,f⟩
  .exact h c ⟨r.fh,λj b=>r.fu j (by rwa[aaM m]),λy a=>r.fg y (by rwa[Pm f d]),λy a=>r.fC y (by rwa[Pm f d]),r.ia⟩
  .refine⟨λj b=>Á b,λj b=>b.elim (λq=>Á<|v j q) À,U,U,U,o,B,p.fl ⟨r.fh,λj b=>r.fu j ?_,λy a=>r.fg y ?_,λy a=>r.fC y ?_,λy a=>r.ia y ?_⟩,λj b=> ?_⟩
   .exact b.elim (λq=>À<|Á q) Á
   .exact a
   .exact a
   .show x.K y;rwa[o]
   .refine Ê ?_ r.fh;rcases b with q|q
    .exact E j q
    .exact Ê (s.fG j<|À q) p.fh
 |@kD x g G' W' E' L' jE h hd _ ih=>
  intro m f d o B p v E;refine .mk jE λc r=> ?_;have i:fU x x.w c:=⟨r.fh,λj b=>r.fu j (by rwa[aaM m]),λy a=>r.fg y (by rwa[Pm f d]),λy a=>r.fC y (by rwa[Pm f d]),r.ia⟩;have D:=hd c i;have n:=Ù p.fh i.fh;have F:=p.fl ⟨i.fh,λj b=>i.fu j (Á<|by rwa[m]),λy a=>i.fg y (Á<|by rwa[d]),λy a=>i.fC y (Á<|by rwa[d]),λy a=>i.ia y<|by rwa[o]⟩;have z:∀j,j<l.w.heap.size->¬x.O j:=λj b q=>by have:=v j q;omega
  have t:∀y:đ,¬x.Oc y:=λy q=>by rwa[f]at q
  have G:fU l c (W' c):=⟨D.fh,λj b=>D.lr j (Ê (s.fG j b) n) (z j<|s.fG j b) λy _=>t y,λy a=>D.fg y (Ê (s.nK y a) n) (z _<|s.nK y a)<|t y,λy a=>Om<|D.fC y (Ê (s.nK y a) n)<|z _<|s.nK y a,λy a q=>by rwa[D.fg y (Ê (s.k9 y a).2.1 n) (z _ (s.k9 y a).2.1)<|t y]⟩;have H:=λj b=>(D.fN j b).elim (v j) λq=>Ù n q;have I:lG (L' c):=λj b=>by rw[D.AF];exact D.fG j b
  refine⟨G' c,W' c,E' c,pX l<|L' c,h c i,?_,?_⟩
  .refine⟨D.fh,λj b=> ?_,λj b=> ?_,U,U,U,D.k,λj b u L=> ?_,λy a u L=> ?_,λy a u=> ?_,D.os,D.mR,D.lU,λe N=>akr (D.rd.trans m) (D.oc.trans f) (D.rc.trans d)<|D.wS e N,D.mT,D.q,λQ=> ?_,D.AF⟩
   .rcases b with q|q
    .exact(D.fN j q).imp À id
    .exact À<|Á q
   .rcases b with q|q
    .exact D.fG j q
    .exact Ê (s.fG j<|À q)<|Ù n D.fh
   .exact D.lr j b (λq=>u<|À q) λy _=>t y
   .exact D.fg y a (λq=>u<|À q)<|t y
   .exact D.fC y a λq=>u<|À q
   .let⟨T,V,W⟩:=D.On Q;exact⟨T,V,by funext j;show((L' c).O j\/l.O j)=(x.O j\/l.O j);rw[W]⟩
  .exact ih c i (D.rd.trans m) (D.oc.trans f) (D.rc.trans d) (D.k.trans o) (D.q.trans B) (by rw[D.AF];exact F.fl G) H I
def fA.oB{l:fj}(s:ic l)(h:fA P main J (fK.oB l) g):fA P main (λe j=>∃b,J b j/\e=pX l b/\mK l e/\b.Rd=l.M/\b.Rc=l.C/\b.Oc=λ_=>False) l g:=by
 have:=h.aks s U U U U U (fU.fY _ _) (λj q=>q.elim) λj q=>q.elim;have e:pX l (fK.oB l)=l:=by
  have:(λb=>False\/l.O b)=l.O:=by funext b;simp
  unfold pX fK.oB;simp only[this]
 rwa[e]at this
end
structure jB(E:đ->Prop)(l l':fj):Prop where
 O:∀j,l.O j->l'.O j
 fN:∀j,l'.O j->l.O j\/l.w.heap.size<=j
 Rd:l'.Rd=l.Rd
 Oc:l'.Oc=l.Oc
 Rc:l'.Rc=l.Rc
 K:l'.K=l.K
 q:l'.q=l.q
 d:l'.d=l.d
 fG:lG l'
 fh:l.w.heap.size<=l'.w.heap.size
 fu:∀j,l.M j->l'.w.heap[j]?=l.w.heap[j]?
 fg:∀a,l.C a->¬E a->l'.w.cell? a=l.w.cell? a
 fC:∀a,l.C a->l'.w.frozen? a=l.w.frozen? a
 ia:∀a,l.K a->(l.w.cell? a).isSome=Ï->(l'.w.cell? a).isSome=Ï
 rM:∀a,E a->(l.w.cell? a).isSome=Ï->(l'.w.cell? a).isSome=Ï
section
variable{E:đ->Prop}{l l' l'':fj}
def jB.fY(h:lG l):jB E l l:=⟨λ_ h=>h,λ_ h=>À h,U,U,U,U,U,U,h,Ç _,λ_ _=>rfl,λ_ _ _=>rfl,λ_ _=>rfl,λ_ _ h=>h,λ_ _ h=>h⟩
def jB.C(h:jB E l l'):l'.C=l.C:=by unfold fj.C;rw[h.Oc,h.Rc]
def jB.M(h:jB E l l')(a:l.M b):l'.M b:=a.imp (h.O b)<|by rw[h.Rd];exact id
def jB.gf(h:jB E l l')(f:∀a,E a->l.Oc a)(k:mK l' l'')(g:l''.d=l'.d):jB E l l'':=by have e:=h.C;refine⟨λj c=>k.O j<|h.O j c,λj c=>(k.fN j c).elim (h.fN j) λq=>Á<|Ù h.fh q,k.Rd.trans h.Rd,k.Oc.trans h.Oc,k.Rc.trans h.Rc,k.K.trans h.K,k.q.trans h.q,g.trans h.d,k.fG,Ù h.fh k.gy.fh,λj c=>(k.gy.fu j<|h.M c).trans<|h.fu j c,λa b i=>(k.gy.fg a<|by rwa[e]).trans<|h.fg a b i,λa b=>(k.gy.fC a<|by rwa[e]).trans<|h.fC a b,λa b q=>k.gy.ia a (by rwa[h.K])<|h.ia a b q,λa b q=> ?_⟩;rw[k.gy.fg a (by rw[e];exact À<|f a b)];exact h.rM a b q
def jB.fZ(h:jB E l l')(b:∀a,E a->l.Oc a){w₁:Ð}(r:fU l' l'.w w₁):jB E l {l' with w:=w₁}:= h.gf b (l'':={l' with w:=w₁}) ((mK.fY h.fG).fZ r) U
def jB.iB(h:jB E l l')(s:ic l)(i:∀a,E a->l.Oc a){x:đ}(f:E x)(k:x.spot=Í)(n:(l'.w.cell? x).isSome=Ï):jB E l {l' with w:=l'.w.setCell x v}:=by
 refine⟨h.O,h.fN,h.Rd,h.Oc,h.Rc,h.K,h.q,h.d,λj c=> ?_,?_,λj c=> ?_,λa b g=> ?_,λa b=> ?_,λa b q=>B5<|h.ia a b q,λa b q=>B5<|h.rM a b q⟩
 .show j<(l'.w.setCell x v).heap.size;rw[ln];exact h.fG j c
 .show l.w.heap.size<=(l'.w.setCell x v).heap.size;rw[ln];exact h.fh
 .have m:j≠x.block:=λe=>s.fX x (À<|i x f)<|e▸c;exact(nG m).trans<|h.fu j c
 .exact(FD k λe=>g<|by rwa[e]).trans<|h.fg a b g
 .exact wT.trans<|h.fC a b
def jB.gk(h:jB E l l')(s:ic l):ic l' where
 lD b hb:=by
  rw[h.Rd];rcases h.fN b hb with q|q
  .exact s.lD b q
  .exact λz=>by have:=s.fG b<|Á z;omega
 lE a ha:=by rw[h.Rc];exact s.lE a<|by rwa[<-h.Oc]
 fX a ha hb:=by
  rw[h.C]at ha;rcases hb with q|q
  .rcases h.fN _ q with z|z
   .exact s.fX a ha<|À z
   .have:=s.nK a ha;omega
  .rw[h.Rd]at q;exact s.fX a ha<|Á q
 fG b hb:=by
  rcases hb with q|q
  .exact h.fG b q
  .rw[h.Rd]at q;exact Ê (s.fG b<|Á q) h.fh
 nK a ha:=by rw[h.C]at ha;exact Ê (s.nK a ha) h.fh
 k9 a ha:=by
  rw[h.K]at ha;let⟨c,d,e⟩:=s.k9 a ha;refine⟨λq=> ?_,Ê d h.fh,by rwa[h.Oc]⟩;rcases q with q|q
  .rcases h.fN _ q with z|z
   .exact c<|À z
   .omega
  .rw[h.Rd]at q;exact c<|Á q
end
section
variable{X:Type}{g:Array ì}{c:X->Nat->ì}{m:Array Bool->X->fj->Prop}{l:fj}{b:ù}{a:ő}{k:List Œ}{cs:List ù}{x:X}
def II(Q:Array Ľ)(g:Array ì)(c:X->Nat->ì)(m:Array Bool->X->fj->Prop)(wJ:Array Bool)(a:ő)(l:fj):Prop:=∃x,pC Q g (c x) wJ a/\m wJ x l
def Pn(a:o.guard=Í)(y:Nat->Option Bool):å o y=Ï:=by unfold å;rw[a]
def jk(h:w7 Q g.size=Ï)(j:pC Q g (c x) wJ a)(f:Q[i]?=Ä o)(n:o.guard=Í){md:ß}(p:i∈Ó md Q wJ)(s:b.kind≠Ė)(t:lG l)(u:¬l.q) (v:∀d,fU l l.w d->(à a.eval o).run P d=.ok (.value<|c x i) d) (y:∀d,fU l l.w d->∀e∈(à a.eval o).events P d #[],zG l e) (z:∀d,fU l l.w d->m (wJ.setIfInBounds i Ï) x {l with w:=d}): fA P yQ (λB C=>∃r,C=G (b.at r<|È Q jJ::k) cs/\II Q g c m (wJ.setIfInBounds i Ï) r B) l (G (b.at a<|È Q (i::jJ)::k) cs):= ym f (Pn n _) s t u v y<|.fO λd r=>⟨_,U,x,j.gS h f p λ_=>rfl,z d r⟩
def UT(h:w7 Q g.size=Ï)(j:pC Q g (c x) wJ a)(f:Q[i]?=Ä o)(n:o.guard=Í)(e:o.dst=Í){md:ß}(p:i∈Ó md Q wJ)(s:b.kind≠Ė)(t:lG l)(u:¬l.q){y:đ}(z:y.spot=Í)(B:tB l y)(C:(l.w.cell? y).isSome=Ï)(D:l.w.frozen? y=É) (E:∀w,(w.cell? y).isSome=Ï->w.frozen? y=É->(à a.eval o).run P w=.ok .skip (w.setCell y v)) (F:∀w,(w.cell? y).isSome=Ï->w.frozen? y=É->(à a.eval o).events P w #[]=#[⟨ā y,Ï,É⟩]) (H:∀d,fU l (l.w.setCell y v) d->m (wJ.setIfInBounds i Ï) x {l with w:=d}): fA P yQ (λI J=>∃r,J=G (b.at r<|È Q jJ::k) cs/\II Q g c m (wJ.setIfInBounds i Ï) r I) l (G (b.at a<|È Q (i::jJ)::k) cs):=by refine akp f (Pn n _) s t u z B C e D E F (.fO λd r=>⟨_,U,x,?_,H d<|Cp r⟩);have:=j.gS h f p (v:=Â) λq=>absurd e q;rwa[e]at this
def aaN(q:w7 Q g.size=Ï)(s:pC Q g (c x) wJ a)(p:Q[i]?=Ä o)(t:o.guard=Í){md:ß}(u:i∈Ó md Q wJ)(v:b.kind≠Ė)(y:lG l){f:Ĵ}{args:Array ì} (z:∀w,(à a.eval o).run P w=.ok (.enter f args) w) (B:∀w,(à a.eval o).events P w #[]=#[]) (C:∀d,fU l l.w d->fA P yQ (λh n=>∃e,n=G ((b.at a<|È Q (i::jJ)::k).finish<|c e i) cs/\m (wJ.setIfInBounds i Ï) e h/\∀j,wJ.getD j É=Ï->c e j=c x j) {l with w:=d} (G (Β P f args .normal)<|b.at a (È Q (i::jJ)::k)::cs)): fA P yQ (λh n=>∃r,n=G (b.at r<|È Q jJ::k) cs/\II Q g c m (wJ.setIfInBounds i Ï) r h) l (G (b.at a<|È Q (i::jJ)::k) cs):=by
 refine .mk U λd r=>⟨G (Β P f args .normal)<|b.at a (È Q (i::jJ)::k)::cs,d,#[],{l with w:=d},?_,UL d<|oA y r,?_⟩
 .rw[Α p (Pn t _) v<|z d];unfold ψ;rw[B d,ċ]
 .refine(C d r).ft ?_;rintro h n ⟨e,rfl,D,E⟩;refine⟨a.put o.dst<|c e i,?_,e,(s.aaH E).gS q p u λ_=>rfl,D⟩;rw[Ĭ,p];rfl
end
end Go.Proofs.Y.fK
namespace Go.Proofs.YtgpphkdoanciiaaGreatDoor
open Go Go.Conc Go.Conc.Lib
def Lk:Ŋ:={add:=62,done:=65,wait:=53,relMerge:=105,disable:=68,enable:=70,inBubble:=76,associate:=106,fatal:=107,uOr:=108,uAdd:=109,raceRead:=110,uLoad:=69,uStore:=111,disassociate:=74,semrelease:=112,acquire:=71,isAssociated:=72,uCas:=73,raceWrite:=75,semacquire:=77,orU64:=150,addU64:=151,loadU64:=127,storeU64:=152,casU64:=128,tWgP:=162,tUP:=170,tAssoc:=202,tWg:=97,tAU:=94,tU64:=36,tUint:=168,tU32:=95,tPU32:=174,tPAU:=219,tPU64:=221,tNoCopy:=90,tANoCopy:=91,tAlign64:=92}
def uA:Ų ĵ Lk where
 f_add:=Tryz.func62;f_done:=Tryz.func65;f_wait:=Tryz.func53;f_relMerge:=Tryz.func105;f_disable:=Tryz.func68;f_enable:=Tryz.func70;f_inBubble:=Tryz.func76;f_associate:=Tryz.func106;f_fatal:=Tryz.func107;f_uOr:=Tryz.func108;f_uAdd:=Tryz.func109;f_raceRead:=Tryz.func110;f_uLoad:=Tryz.func69;f_uStore:=Tryz.func111;f_disassociate:=Tryz.func74;f_semrelease:=Tryz.func112;f_acquire:=Tryz.func71;f_isAssociated:=Tryz.func72;f_uCas:=Tryz.func73;f_raceWrite:=Tryz.func75;f_semacquire:=Tryz.func77;f_orU64:=Tryz.func150;f_addU64:=Tryz.func151;f_loadU64:=Tryz.func127;f_storeU64:=Tryz.func152;f_casU64:=Tryz.func128;underlying_tWgP:=Tryz.underlying162;runUnderlying_tWgP:=Tryz.runUnderlying162;sizeOf_tWgP:=Tryz.sizeOf162;isAgg_tWgP:=Tryz.isAgg162;zeroValue_tWgP:=Tryz.zeroValue162;underlying_tUP:=Tryz.underlying170;runUnderlying_tUP:=Tryz.runUnderlying170;sizeOf_tUP:=Tryz.sizeOf170;isAgg_tUP:=Tryz.isAgg170;zeroValue_tUP:=Tryz.zeroValue170;underlying_tI32:=Tryz.underlying202;runUnderlying_tI32:=Tryz.runUnderlying202;sizeOf_tI32:=Tryz.sizeOf202;isAgg_tI32:=Tryz.isAgg202;zeroValue_tI32:=Tryz.zeroValue202;underlying_tWg:=Tryz.underlying97;runUnderlying_tWg:=Tryz.runUnderlying97;sizeOf_tWg:=Tryz.sizeOf97;isAgg_tWg:=Tryz.isAgg97;zeroValue_tWg:=Tryz.zeroValue97;underlying_tAU:=Tryz.underlying94;runUnderlying_tAU:=Tryz.runUnderlying94;sizeOf_tAU:=Tryz.sizeOf94;isAgg_tAU:=Tryz.isAgg94;zeroValue_tAU:=Tryz.zeroValue94;underlying_tU64:=Tryz.underlying36;runUnderlying_tU64:=Tryz.runUnderlying36;sizeOf_tU64:=Tryz.sizeOf36;isAgg_tU64:=Tryz.isAgg36;zeroValue_tU64:=Tryz.zeroValue36;underlying_tSh:=Tryz.underlying168;runUnderlying_tSh:=Tryz.runUnderlying168;sizeOf_tSh:=Tryz.sizeOf168;isAgg_tSh:=Tryz.isAgg168;zeroValue_tSh:=Tryz.zeroValue168;underlying_tU32:=Tryz.underlying95;runUnderlying_tU32:=Tryz.runUnderlying95;sizeOf_tU32:=Tryz.sizeOf95;isAgg_tU32:=Tryz.isAgg95;zeroValue_tU32:=Tryz.zeroValue95;underlying_tPU32:=Tryz.underlying174;runUnderlying_tPU32:=Tryz.runUnderlying174;sizeOf_tPU32:=Tryz.sizeOf174;isAgg_tPU32:=Tryz.isAgg174;zeroValue_tPU32:=Tryz.zeroValue174;underlying_tPAU:=Tryz.underlying219;runUnderlying_tPAU:=Tryz.runUnderlying219;sizeOf_tPAU:=Tryz.sizeOf219;isAgg_tPAU:=Tryz.isAgg219;zeroValue_tPAU:=Tryz.zeroValue219;underlying_tPU64:=Tryz.underlying221;runUnderlying_tPU64:=Tryz.runUnderlying221;sizeOf_tPU64:=Tryz.sizeOf221;isAgg_tPU64:=Tryz.isAgg221;zeroValue_tPU64:=Tryz.zeroValue221;underlying_t0:=Tryz.underlying0;runUnderlying_t0:=Tryz.runUnderlying0;sizeOf_t0:=Tryz.sizeOf0;isAgg_t0:=Tryz.isAgg0;zeroValue_t0:=Tryz.zeroValue0;underlying_t3:=Tryz.underlying3;runUnderlying_t3:=Tryz.runUnderlying3;sizeOf_t3:=Tryz.sizeOf3;isAgg_t3:=Tryz.isAgg3;zeroValue_t3:=Tryz.zeroValue3;underlying_t4:=Tryz.underlying4;runUnderlying_t4:=Tryz.runUnderlying4;sizeOf_t4:=Tryz.sizeOf4;isAgg_t4:=Tryz.isAgg4;zeroValue_t4:=Tryz.zeroValue4;underlying_t9:=Tryz.underlying9;runUnderlying_t9:=Tryz.runUnderlying9;sizeOf_t9:=Tryz.sizeOf9;isAgg_t9:=Tryz.isAgg9;zeroValue_t9:=Tryz.zeroValue9;underlying_t20:=ń;runUnderlying_t20:=Tryz.runUnderlying20;sizeOf_t20:=Tryz.sizeOf20;isAgg_t20:=Tryz.isAgg20;zeroValue_t20:=Tryz.zeroValue20;underlying_t21:=Tryz.underlying21;runUnderlying_t21:=Tryz.runUnderlying21;sizeOf_t21:=Tryz.sizeOf21;isAgg_t21:=Tryz.isAgg21;zeroValue_t21:=Tryz.zeroValue21;room_tWg:=by decide+kernel
 room_tU32:=by decide+kernel
end Go.Proofs.YtgpphkdoanciiaaGreatDoor
namespace Go.Proofs.Y.fK
open Go Go.Conc Go.Proofs.Y.Lift Go.RowKit Go.Conc.Lib Go.ConcR.Gen
open Go.Proofs Go.Proofs.YtgpphkdoanciiaaGreatDoor
def aaO:Array Ľ:=#[⟨Ä 3,.load 1<|Õ 1,1, "waitgroup.go:258",#[],Í⟩,
 ⟨Ä 4,Ť {callee:=Ĥ (Õ 3),args:=#[],argTypes:=#[]},0, "waitgroup.go:258",#[⟨0,ã⟩],Í⟩]
section
variable{Ψ:Ð->Prop}{l:fj}
def aaP(b:l.K ⟨i,0,Í⟩/\l.K ⟨i,1,Í⟩)(c:nP Ψ l i)(a:SW Ψ l i l.w)(e:l.d=0)(f:¬l.q)(j:iW l ⟨n,0,Í⟩)(k:l.w.cell? ⟨n,0,Í⟩=Ä (ý<|Ä ⟨i,0,Í⟩)): fA ĵ É (λl g=>B6 ĵ É i (Ia ĵ) (mo l) g) l (G ((baseD 63).at ⟨#[ý<|Ä ⟨n,0,Í⟩,v,x,z,jQ],[sB 64 #[ý<|Ä ⟨n,0,Í⟩] #[]]⟩ [È aaO []]) [qx ĵ]):=by
 apply gZ (n:=30) a.1;have hF:=trivial;iterate 2 w_go fS
 u_c (akd U Γ gG U) fS hF
 walk_nrmf Tryz.f64;iterate 3 w_go fS
 u_c (akc U U U U U U U) fS hF
 walk_nrm;have m:=λw g=>akl 20 w g ń;repeat w_go fS
 refine Ì λ_ _=> ?_;apply qN U U (by k_ne) a.1 f j k (λw h=>by go_simp) (λw h=>by simp[go_sem,h]);walk_nrm;apply gZ (n:=30) a.1;u_call uA.f_done (nm_done Lk) doneFn fS hF;refine Ì λ_ _=> ?_;apply aj5 uA b c a e;walk_nrm;apply Pj U λ_=>stepG_region_end;apply Pj U λ_=>stepG_end;apply aki U U Γ U U;exact akh U U Tryz.func63 U
end
end Go.Proofs.Y.fK
