import Derived.Test.YtgpphkdoanciiabGreatDoorWAA
import Derived.Conc.WgGenN3
import Derived.Conc.MuWords
import Derived.Conc.CompanyDraw
import Derived.Test.YtgpphkdoanciiabGreatDoorRows
import Derived.Conc.WgLib
set_option linter.all false
set_option maxRecDepth 1000000
set_option maxHeartbeats 8000000
open Or renaming inl->À,inr->Á
open Go renaming undef->Â,Goroutine->Ä,deafBehind->Ï,World->Ð,execOp->Þ,Value->ã,Trace->ä,stepG->è,Frame->ø,MemOp->Ă,mem_ready->ĉ,Addr->Č,Event->đ,getD_set_true->ĝ,Program->Ğ,yielded->Ĩ,Oper->Ĭ,TypeId->ĳ,FuncId->Ĵ,resolve->ĸ,goexitEntry->Ō,Act->ō,runT->Ŏ,Item->Ő,invoke->Ŝ,callFunc->ŝ,callDeferred->Ū,Deferred->Ů,Operand->Ÿ,unwind->Η,Mark->Ο,runNT->Χ,Code->θ,Loc->π
open Option renaming some->Ã,none->Í,map_eq_some_iff->Ù,isSome_iff_exists->ü,getD_some->ć
open Go.GoStatus renaming running->Å,blocked->Ü,finished->å
open Go.Item renaming inRegion->Æ,code->ĵ,inBlock->ŏ,inLoop->Ρ
open Nat renaming le_refl->Ç,lt_of_lt_of_le->Ê,le_of_eq->Ô,le_trans->Ø,le_mul_of_pos_right->â,mul_le_mul_left->ï,lt_of_not_le->ñ,zero_le->ò,add_zero->ó,le_of_not_lt->ă,and_two_pow_sub_one_eq_mod->Ą,mul_le_mul_right->č,strongRecOn->Ď,add_mul_mod_self_right->ē,lt_or_ge->ģ,mod_eq_of_lt->ļ,mul_add->ł,mod_lt->ż
open Option.some renaming inj->È,injEq->Ķ
open Bool renaming false->É,true->Ì,and_eq_true->ŀ
open Go.MemAct renaming ofEvent->Ë,touch?->Ċ,mark->ė,start->į,go->ς
open Go.Conc.Goes renaming stop->Î
open Go.ConcN renaming sumTo->Ñ,wraps_u64_63->ö,sumTo_congr->Ł
open Go.Region renaming ready->Ò,Mode->Ý,wanted->á,binds->ū
open Go.IntKind renaming u64->Ó,u32->ç,i64->Ũ
open Array renaming getElem?_eq_some_iff->Õ,append_empty->Ú,getElem?_eq_getElem->é,replicate->ê,getElem?_setIfInBounds_ne->í,mem_toList_iff->Ī
open Go.Conc renaming mem_ofEvents->Ö,crowd->ð,semEvents->õ,woken->Ā,stepG_semrelease->ą,seen_none->Ć,stepG_markAt->Ē,stepG_mark0->Ę,stepG_load_atomic->ę,Goes->İ,deafBehind_still->ĺ,parked->Ļ,stepG_add_atomic->Ľ,stepG_value->Ń,rcase->Ŕ,stepG_none->ŗ,goes_go->ť,stepG_enter->ŵ,QuitsD->Ź,touch_mute->ź,stepG_oper->Ζ,mem_listed->Ι,Knows->Λ,listed->η,Deaf->κ
open Go.MemOp renaming ofEvents->Û
open Go.Operand renaming tmp->ß,const->ċ,func->ŧ
open Go.ConcR renaming DC0->à
open Go.ConcR.Gen renaming x_semrelease_b->æ,x_semrelease_n->Ĕ,x_semrelease_x->ĕ,x_semrelease_f->Ė,mayWake_entry->Ĝ,x_enable_n->Ĥ,x_enable_b->ĥ,x_enable_x->Ħ,x_enable_f->ħ,x_disable_n->ń,x_disable_b->Ņ,x_disable_x->ņ,x_disable_f->Ň,x_loadU64_n->ň,x_loadU64_b->ŉ,x_loadU64_x->Ŋ,x_loadU64_f->ŋ,x_semacquire_n->Ř,x_semacquire_b->ř,x_semacquire_x->Ś,x_semacquire_f->ś,body_wait->ţ,nm_uLoad->ů,x_acquire_n->Ű,x_acquire_b->ű,x_acquire_x->Ų,x_acquire_f->ų,x_addU64_n->Ž,x_addU64_b->ž,x_addU64_x->ſ,x_addU64_f->Α,x_casU64_n->Β,x_casU64_b->Γ,x_casU64_x->Δ,x_casU64_f->Ε
open Go.Value renaming int->ë,pointer->ì,nilIface->ā,tuple->ı
open Go.Mark renaming enable->î,disable->ô,releaseMerge->Į,acquire->Œ,write->Υ
open Go.FrameMode renaming returning->ù
open Go.Loc renaming cell->ú,mark->ŭ
open Go.Region.linearise renaming go->û
open Go.Ground renaming data->ý,phase->ũ
open Go.Act renaming eval->þ,put->ő
open Ne renaming symm->ÿ
open Go.Deferred renaming ofValue->Ĉ
open Go.Goroutine renaming again->ď
open Go.CallKind renaming early->Đ,deferred->ľ
open Go.GStep renaming after->Ě,go->Š
open Go.Conc.Lib renaming WgLink->ě,WgLib->ŕ,uLoadFn->Ξ
open Go.Stepped renaming next->ğ
open List renaming all_eq_true->ġ,any_eq_true->Ŀ,mem_range->ş,mem_cons->Ţ,range->Κ
open Go.Code renaming region->Ģ,cond->Τ,block->ε,skip->ο
open Go.Frame renaming finish_at->ĩ,enter->Ŷ
open Go.Proofs.Tryz renaming prog->ī,underlying20->Ĺ,func48->ŷ
open Go.Op renaming move->Ŧ,call->Ŭ,equalIn->Θ,binOp->Ω
variable{i n j b k m J j9 j7 j6:Nat}{w u W jX:Ð}{v x z jQ:ã}{g:Ä}{a p:Č}{h c:Int}{e t T:ĳ}{d q:Array ã}{P:Ğ}{y:ō}{B:ByteArray}{X:Nat->Prop}{O:Option Č}{l:List ã}{yQ:Bool}{K H:ō->Ð->Prop}{o:Ĭ}{D:Nat->Nat}{E:Array Ä}{L:List Ő}{jJ:List Nat}{qX:List ø}{qQ:Ÿ}{qJ:ä}{zX:π->Prop}{zQ:List Int}{zJ:Go.TypeInfo}{xX:Ÿ->ã}{xQ:Go.Tape}{xJ:Nat×Nat}{wX:θ}{wQ:Ă}{wJ:Array Bool}{vX:List ByteArray}{vQ:ã->Ð->Prop}{vJ:Go.Exit->ō->Ð->Prop}{yX:Ý}{Q:Array Ĭ}{f:ø}{V:Array đ}{F:Ĵ}{s:Go.Func}
namespace Go.Proofs.Y.fy
open Go Go.Conc Go.Proofs.Y.Lift
open Go.ConcN (sumTo)
section
variable{F:Ph}{E:fV F}{S:Nat->Jd}{tr:Nat->gB}{c:Nat->iC}{lot:Nat->ff}{gs:Array Ä}{w':Ð}{t u:ä}{sz:Nat}
def xa(h:F.M b):F.G (fP b)/\F.G (gX b):=⟨⟨b,h,À U⟩,⟨b,h,Á U⟩⟩
def xb(h:F.G a):E.Y a.block:=by obtain⟨b,c,rfl|rfl⟩:=h<;>exact À c
def iI.Y(L:iI F E lot sz w)(ok:F.Ok)(f:F.G a):∀i,i<sz->¬(lot i).C a:=by
 intro i g h;let⟨b,c,d⟩:=f;rcases L.gU i g a h with⟨k,_,e⟩|⟨p,_,e⟩
 .rcases d with rfl|rfl<;>simp[fP,gX,jg]at e
 .rcases d with rfl|rfl
  .simp only[fP,jo]at e;injection e with e1 _ _;exact ok.C<|e1▸c
  .simp only[gX,jo]at e;injection e with e1 _ _;exact ok.C<|e1▸c
def iI.sS(L:iI F E lot sz w)(c:Ps F E)(d:j+2<=E.r):∀i,i<sz->∀a:Č,a.block=E.I j->¬(lot i).C a:=by
 intro i f a b g;let⟨h,l,_⟩:=c.o j d;rcases L.gU i f a g with⟨k,m,e⟩|⟨p,_,e⟩
 .exact h<|by rw[<-b,e];exact Á ⟨k,m,U⟩
 .exact l<|by rw[<-b,e];rfl
def iI.agF(L:iI F E lot sz w):∀i,i<sz->∀a,(lot i).C a->a.spot=Í:=by intro i b a c;rcases L.gU i b a c with⟨k,_,rfl⟩|⟨p,_,rfl⟩<;>rfl
def iI.OO(L:iI F E lot sz w)(ok:F.Ok):∀i,i<sz->¬(lot i).r (jo F F.f):=by
 intro i a h;rcases L.gU i a _ (À h)with⟨k,b,e⟩|⟨p,c,e⟩
 .have:F.Y=F.I k:=by injection e
  exact ok.C<|by rw[this];exact Á ⟨k,b,U⟩
 .have:F.f=p:=by injection e
  exact c this.symm
structure Gi(F:Ph)(E:fV F)(lot:Nat->ff)(sz:Nat)(w w':Ð):Prop where
 Dh:w.heap.size<=w'.heap.size
 C:∀b,b<w.heap.size->¬E.Y b->(∀i,i<sz->¬(lot i).O b)->w'.heap[b]?=w.heap[b]?
 r:∀a:Č,((∃k,k<=F.m/\a=jg F.toFx k)\/∃p,a=jo F p)->(∀i,i<sz->¬(lot i).r a)->w'.cell? a=w.cell? a
 I:kX w' F.Y=kX w F.Y
 M:w'.os=w.os/\w'.output=w.output
def Wd.JV(W:Wd F E w)(H:gS F)(L:iI F E lot sz w)(a:Gi F E lot sz w w')(f:E.S.md<=F.m){d:GS}{e:Nat->GS}(g:ic w' F.C d)(h:∀k,k<=F.m->ic w' (F.I k) (e k))(i:∀j,j+2<=E.r->w'.heap[E.I j]?=w.heap[E.I j]?):Wd F {E with b:=d,a:=e} w' where
 C:=g;I:=h;jG j hj:=by have:=W.jG j hj;rwa[<-i j hj]at this
 M k hk:=⟨(W.M k hk).1,H.S _ _ _ _ _ (W.M k hk).2 (λb c=>a.C b (L.I k hk b c).1 (L.I k hk b c).2.1 (L.I k hk b c).2.2) (a.r _ (À ⟨k,Ø hk f,U⟩)<|L.N k hk) (a.r _ (Á ⟨_,U⟩)<|L.OO H.C) a.I a.M⟩;S k h1 h2:=(a.r _ (Á ⟨_,U⟩)<|L.g k h1 h2).trans<|W.S k h1 h2;N j hj r hr hd:=(a.r _ (Á ⟨_,U⟩)<|L.d j hj r hr hd).trans<|W.N j hj r hr hd
def JX(a:Ps F E):E.S.md<=F.m:=by
 cases h:E.S with
 |kP k=>exact(a.I k).1 h
 |mk k=>have:=((a.I k).2.1 h).2;simp only[jx.md];omega
 |dn k p=>exact((a.I k).2.2 p h).2
def JY(a:Ps F E):E.S.rl<=E.S.md:=by
 cases h:E.S with
 |dn k p=>cases p<;>simp only[jx.rl,jx.md]<;>omega
 |_=>exact Ç _
def OP(a:jx):a.od<=a.rl:=by
 cases a with
 |dn k p=>cases p<;>simp only[jx.rl,jx.od]<;>omega
 |_=>exact Ç _
def Xx{x:Nat}(h:E.iz x):E.ox x:=by let⟨e,a,b⟩:=h;exact⟨e,a,by cases e<;>first|exact b|trivial⟩
def JZ{l a:ff}(h:l=kE l)(b:mE l a w w' V):a=kE a:=by
 have j:l.q:=by rw[h];trivial
 have c:a.O=λ_=>False:=by rw[(b.i j).2.2,h];rfl
 have e:a.I=λ_=>False:=by rw[b.I,h];rfl
 have f:a.r=λ_=>False:=by rw[b.r,h];rfl
 have g:a.N=λ_=>False:=by rw[b.M,h];rfl
 have i:a.q=True:=by rw[b.q,h];rfl
 obtain⟨O,k,m,n,d,q,o⟩:=a;simp only at c e f g i;subst c e f g i;rfl
theorem iI.ft(L:iI F E lot gs.size w)(C:iT F.S (λi=>i<gs.size) E.Y lot w t){m:ff}(J:i<gs.size)(d:mE (lot i) m w w' V):iI F E (gA lot i m) gs.size w':=by
 have K:∀x,E.ox x->i=F.L+x->m=kE m:=λx p e=>JZ (e▸L.S x p) d;have M:=λc l=>JZ (L.c i c l) d;have B:∀k a,(gA lot i m k).C a↔(lot k).C a:=λk a=>by
  by_cases e:k=i
  .subst e;rw[gV];unfold ff.C;rw[d.r,d.M]
  .rw[gI lot _ e]
 have n:∀k,(gA lot i m k).r=(lot k).r:=λk=>by
  by_cases e:k=i
  .subst e;rw[gV,d.r]
  .rw[gI lot _ e]
 have s:∀k,(gA lot i m k).N=(lot k).N:=λk=>by
  by_cases e:k=i
  .subst e;rw[gV,d.M]
  .rw[gI lot _ e]
 have u:∀k,(gA lot i m k).I=(lot k).I:=λk=>by
  by_cases e:k=i
  .subst e;rw[gV,d.I]
  .rw[gI lot _ e]
 refine⟨λk f a v=>L.gU k f a<|(B k a).1 v,λx c l a v=>by rw[n];exact L.o x c l a v,λh=>by rw[s,u];exact L.lT h,λh k c l=>by rw[n];exact L.e h k c l,λh o=>by rw[s,u];exact L.f h o,λj g o r y c=>by rw[n];exact L.h j g o r y c,λj g o=>by rw[s,u];exact L.l j g o,λx p=> ?_,λk f=> ?_,λk c l=> ?_,λk f b D=> ?_,λk f j g=>by rw[n];exact L.N k f j g,λk c l j g=>by rw[n];exact L.g k c l j g,λj g r y G k f=>by rw[n];exact L.d j g r y G k f⟩
 .by_cases e:F.L+x=i
  .grind [gV]
  .rw[gI lot _ e];exact L.S x p
 .by_cases e:k=i
  .subst e;rw[gV,d.q];exact L.M k f
  .rw[gI lot _ e];exact L.M k f
 .by_cases e:k=i
  .grind [gV]
  .rw[gI lot _ e];exact L.c k c l
 .let⟨H,I,N⟩:=L.I k f b D;refine⟨Ê H d.C,I,λj g=> ?_⟩;by_cases e:j=i
  .subst e;rw[gV];intro q;rcases d.S b q with z|z;all_goals grind
  .grind [gI]
def agG(C:iT F.S (λi=>i<gs.size) E.Y lot w t){h:ff}(d:i<gs.size)(c:mE (lot i) h w w' V):Gi F E lot gs.size w w':= ⟨c.C,λb j e f=>c.jZ b j (f i d) λa g q=>e<|g▸C.e i d a (À q),λa g f=>by
   have e:E.Y a.block:=by
    rcases g with⟨k,l,rfl⟩|⟨p,rfl⟩
    .exact À<|Á ⟨k,l,U⟩
    .exact Á<|À U
   exact c.N a (C.N _ e) (λq=>C.I i d _ (À q) e)<|f i d,
  c.Y (jo F 0) (C.N _ (Á (À U))) λq=>C.I i d _ (À q) (Á (À U)),c.f,c.g⟩
def Xy(L:iI F E lot gs.size w)(ok:F.Ok)(C:iT F.S (λi=>i<gs.size) E.Y lot w t){g:ff}(e:i<gs.size)(c:mE (lot i) g w w' V)(f:F.M b){G:GS}(h:ic w b G):ic w' b G:=by have a:E.Y b:=À f;have d:=λq=>C.I i e _ (À q) a;exact h.vw (c.N (fP b) (C.N _ a) d λq=>(L.Y ok (xa f).1 i e)<|À q) (c.N (gX b) (C.N _ a) d λq=>(L.Y ok (xa f).2 i e)<|À q) (JC<|c.Y (fP b) (C.N _ a) d)<|JC<|c.Y (gX b) (C.N _ a) d
def agH(L:iI F E lot gs.size w)(e:Ps F E)(C:iT F.S (λi=>i<gs.size) E.Y lot w t){f:ff}(b:i<gs.size)(g:mE (lot i) f w w' V)(c:j+2<=E.r):w'.heap[E.I j]?=w.heap[E.I j]?:=by have d:E.Y (E.I j):=Á<|Á ⟨j,c,U⟩;exact g.jZ _ (C.N _ d) (λq=>C.I i b _ (À q) d) λa h q=>L.sS e c i b a h<|À q
theorem agI(L:iI F E lot gs.size w)(H:Ps F E)(ok:F.Ok)(C:iT F.S (λi=>i<gs.size) E.Y lot w t)(P:gs.size=F.L+E.r){m:ff}{p:Array đ}{u:Ĵ}{B:String}(o:i<gs.size)(g:mE (lot i) m w w' p): JS F.toFx E.r (E.S.rl) E.V E.d E.iz t (Û i u B p) i:=by
 have J:∀x,E.iz x->i=F.L+x->m=kE m:=λx l e=>JZ (e▸L.S x (Xx l)) g;have D:∀c∈Û i u B p,∀a,c.act.touch?=Ã a->∃y:Č,a.loc=ú y/\(m.O y.block\/m.r y\/((m.I y.block\/m.N y)/\a.write=É)):=λc d a n=>by obtain⟨e,r,rfl⟩:=Ö d;exact Xg (g.c e r) n
 have I:m=kE m->∀c∈Û i u B p,c.act.touch?=Í:=λe c d=>by
  cases h:c.act.touch? with
  |none=>rfl
  |some a=>
   let⟨y,_,q⟩:=D c d a h;rw[e]at q;rcases q with q|q|⟨q|q,_⟩<;>exact q.elim
 refine⟨λc d _ _=>ow c d,?_,λc d a x n G l=> ?_,λc d a y n Q G k h s=> ?_,λc d b _ e=> ?_,λx l K=> ?_⟩
 .by_cases j:i=0
  .exact À j
  .by_cases f:i<F.L
   .exact Á<|Á<|I<|(λh s=>JZ (L.c i h s) g) Z f
   .exact Á<|À ⟨i-F.L,Z,Z⟩
 .exfalso;let⟨y,j,q⟩:=D c d a n;rw[G]at j;injection j with j;subst j;have f:=xb (E:=E) l;have v:=L.Y ok l i o;rcases q with q|q|⟨q|q,_⟩
  .rcases g.S _ q with z|z
   .exact C.I i o _ (À z) f
   .have:=C.N _ f;omega
  .exact v<|À<|by rwa[<-g.r]
  .exact C.I i o _ (Á<|by rwa[<-g.I]) f
  .exact v<|Á<|by rwa[<-g.M]
 .have j:=Ø s<|JY H;let⟨x,l,q⟩:=D c d a n;rw[G]at l;injection l with l;subst l;rcases q with q|q|⟨_,q⟩
  .refine⟨λv=> ?_,λe=> ?_⟩
   .let⟨M,_,N⟩:=L.I k j _ v;rcases g.S _ q with z|z;all_goals grind
   .have f:E.Y y.block:=by rw[e];exact À<|Á ⟨k,Ø j<|JX H,U⟩
    rcases g.S _ q with z|z
    .exact C.I i o _ (À z) f
    .have:=C.N _ f;omega
  .refine⟨λv=>((L.I k j _ v).2.1<|C.e i o y<|À<|by rwa[<-g.r]),λe=>(L.N k j i o<|by rwa[<-g.r,<-e])⟩
  .grind
 .obtain⟨j,r,rfl⟩:=Ö d;have v:=g.c j r;let⟨M,N,S⟩:=j;simp only[Ë]at e;rcases v with⟨a,h,_⟩|h|⟨f,h⟩|h|h|⟨a,_,h|h|h|h⟩<;>(simp only at h;subst h;simp at e)
 .by_cases e:F.L+x=i
  .have v:=I<|J x K e.symm;refine⟨λr f=>f.app λj S T M=> ?_,λ_ c d a n=>by rw[v c d]at n;cases n⟩;let⟨z,N,_⟩:=M;rcases mU (show touchAt (t++_) j=Ã z from N)with⟨q,_⟩|⟨_,c,h,s,_⟩;all_goals grind
  .exact⟨λr f=>f.appOther ow<|ÿ e,λj=>absurd j e⟩
end
abbrev tV:=Nat×Nat×gB
def yH(x y:tV):Prop:=x.1<y.1\/(x.1=y.1/\(x.2.1<y.2.1\/(x.2.1=y.2.1/\Xj x.2.2 y.2.2)))
def Xz:WellFounded yH:=by
 refine⟨λx=> ?_⟩;let⟨a,b,c⟩:=x
 induction a using Ď generalizing b c with
 |_ a j=>
  induction b using Ď generalizing c with
  |_ b k=>
   induction Xk.apply c with
   |intro c _ l=>
    refine⟨_,λy h=> ?_⟩;let⟨m,f,e⟩:=y;rcases h with h|⟨d,h|⟨g,i⟩⟩
    .exact j m h f e
    .simp only at d h;subst d;exact k f h e
    .simp only at d g i;subst d g;exact l e i
def agJ(x:tV):¬yH x x:=by
 intro h
 induction Xz.apply x with
 |intro x _ a=>exact a x h h
def CQ(n:Nat)(f g:Nat->tV):Prop:=∃i,i<n/\yH (f i) (g i)/\∀j,j<n->j≠i->f j=g j\/yH (f j) (g j)
def XA:∀(n:Nat) (g:Nat->tV),Acc (CQ n) g
 |0,g=>⟨_,λf ⟨i,h,_⟩=>absurd h Z⟩
 |n+1,g=>by
  have k:∀(x:tV) (h:Nat->tV),∀g:Nat->tV,g n=x->(∀j,j<n->g j=h j)->Acc (CQ<|n+1) g:=by
   intro x
   induction Xz.apply x with
   |intro x _ l=>
    intro h
    induction XA n h with
    |intro h _ m=>
     intro g b c;refine⟨_,λf ⟨i,r,a,d⟩=> ?_⟩;by_cases e:f n=g n
     .have s:i≠n:=by
       intro q;subst q;rw[e]at a;exact agJ _ a
      refine m f ⟨i,Z,by rwa[<-c i Z],λj o p=> ?_⟩ f (e.trans b) λ_ _=>rfl;rw[<-c j o];exact d j Z p
     .have:yH (f n) x:=by
       rw[<-b];by_cases q:n=i
       .rwa[q]
       .exact(d n Z q).resolve_left e
      exact l _ this f f U λ_ _=>rfl
  exact k (g n) g g U λ_ _=>rfl
abbrev Mu:=(Nat->tV)×Nat
def py(n:Nat)(x y:Mu):Prop:=CQ n x.1 y.1\/((∀j,j<n->x.1 j=y.1 j)/\x.2<y.2)
def agK(n:Nat):WellFounded (py n):=by
 have e:∀h:Nat->tV,∀k:Nat,∀g:Nat->tV,(∀j,j<n->g j=h j)->Acc (py n) (g,k):=by
  intro h
  induction XA n h with
  |intro h _ l=>
   intro k
   induction k using Ď with
   |_ k m=>
    intro g a;refine⟨_,λy q=> ?_⟩;let⟨f,b⟩:=y;rcases q with⟨i,c,o,x⟩|⟨p,r⟩
    .exact l f ⟨i,c,by rwa[<-a i c],λj d s=>by rw[<-a j d];exact x j d s⟩ b f λ_ _=>rfl
    .exact m b r f λj x=>(p j x).trans<|a j x
 exact⟨λx=>e x.1 x.2 x.1 λ_ _=>rfl⟩
section
variable(F:Ph)
def jF.rk(n:Nat):jF->Nat
 |.jD=>n+1011
 |.iH=>n+1010
 |.gC W=>min W (n+1000)+4
 |.jd W=>min W (n+1000)+3
 |.iD r=>min r (n+1000)+2
def ju.rk:ju->Nat
 |.iZ=>7
 |.mf _=>6
 |.wr=>5
 |.kD=>4
 |.gC=>3
 |.lk=>2
def fY.rk(F:Ph):fY->Nat
 |.iH j=>F.q+F.n+20+4*(F.n-j)+7
 |.rd j=>F.q+F.n+20+4*(F.n-j)+6
 |.lG j=>F.q+F.n+20+4*(F.n-j)+5
 |.go j=>F.q+F.n+20+4*(F.n-j)+4
 |.iL r=>r+F.n+11
 |.kY r=>r+10
 |.fB p=>p.rk+2
 |.gi=>0
def jx.rk(F:Ph):jx->Nat
 |.kP k=>(F.n+3000)*(F.m+2-k)+2900
 |.mk k=>(F.n+3000)*(F.m+3-k)+2800
 |.dn k p=>(F.n+3000)*(F.m+2-k)+2901+p.rk F.n
def gO.rk(F:Ph):gO->Nat
 |.ny r=>(F.n+3000)*(F.q+3-r)
 |.fB r p=>(F.n+3000)*(F.q+3-r)-20+p.rk
 |.jN r=>(F.n+3000)*(F.q+3-r)-30
 |.oO r=>(F.n+3000)*(F.q+3-r)-40
def im.rk(F:Ph):im->Nat×Nat
 |.oQ=>(F.n+2900,0)
 |.gi p=>(p.rk F.n,0)
 |.jr N=>(0,N)
end
def SP.rk(B:Nat)(st:Int):SP->Nat
 |.gh k=>B+2+k
 |.ld v k=>if st=v then k+1 else 2*B+3+k
def ju.ly(B:Nat)(st:Int):ju->Nat
 |.mf p=>p.rk B st
 |_=>0
section
variable{F:Ph}
def fV.iU(E:fV F)(tr:Nat->gB)(i:Nat):tV:=
 if i=0 then(E.M.rk F,0,tr 0)
 else if i<F.L then(0,E.h i,.fD)
 else match E.N (i-F.L)with
  |some e=>((e.rk F).1,(e.rk F).2,tr i)
  |none=>if i=F.L then(E.S.rk F,0,tr i)else((E.C<|i-F.L-1).rk F,0,tr i)
def fV.ly(E:fV F)(i:Nat):Nat:=
 if i=0 then(match E.M with|.fB p=>p.ly F.B E.b.st|_=>0)
 else if i<=F.L then 0
 else match E.C (i-F.L-1)with|.fB r p=>p.ly F.B (E.a<|F.r<|i-F.L-1+r*F.n).st|_=>0
def gf(gs:Array Ä)(i:Nat):Nat:=if(gs[i]?).any (·.status==.running)then 1 else 0
def Ph.N(F:Ph):Nat:=F.L+F.n+1
def fV.mu(E:fV F)(a:Nat->gB)(b:Array Ä):Mu:=(E.iU a,Ñ F.N λi=>(F.N+1)*E.ly i+gf b i)
end
theorem Gj{b x:Ä}(h:(Ā P g b w x).status=Ü):Ā P g b w x=x/\x.status=Ü:=by
 unfold Ā at h|-;split at h
 .rename_i c;rw[if_pos c];unfold ď at h|-;grind
 .grind
section
variable{F:Ph}{E:fV F}{S:Nat->Jd}{tr:Nat->gB}{d:Nat->iC}{lot:Nat->ff}{gs gs':Array Ä}{w':Ð}{t u:ä}{sl:Option (Nat×Nat)}
def fj.F7(h:fj F E gs w)(o:gs'[i]?=Ã g)(p:g.status≠Ü)(t:∀k,k≠i->∃a f:Ä,gs'[k]?=gs[k]?.map (Ā F.P a f w'))(u:∀j,j+2<=E.r->w'.heap[E.I j]?=w.heap[E.I j]?):fj F E gs' w':=by
 intro k x b l;by_cases e:k=i
 .subst e;rw[o]at b;obtain rfl:=È b;exact absurd l p
 .let⟨a,f,q⟩:=t k e;rw[q]at b;obtain⟨y,v,rfl⟩:=Ù.1 b;let⟨_,z⟩:=Gj l;rcases h k y v z with h1|⟨j,c,m,n,d|⟨r,B,s,C,d,D⟩⟩
  .exact À h1
  .exact Á ⟨j,c,m,n,À d⟩
  .exact Á ⟨j,c,m,n,Á ⟨r,B,s,C,d,by rwa[u j c]⟩⟩
def lH{J:Jd}(a:∀l g,J l g->g.status=Å\/g.status=å){l:ff}(h:fl P yQ J l g):g.status=Å\/g.status=å:=by
 cases h with
 |fD h=>exact a _ _<|h _<|fJ.fX _ _
 |jP _ _ _ _ b=>exact À b
def agL(H:gS F)(p:PI F m zX E S tr d lot gs w t){i:Nat}(hi:i<gs.size):∀l g,S i l g->g.status=Å\/g.status=å:=by
 have dn:∀(main:Bool) (b:Nat) (J:Jd),(∀l g,J l g->g.status=Å\/g.status=å)->∀(p:jF) l g,De F.P main b J p l g->g.status=Å\/g.status=å:=by
  intro main b J hJ p l g h;cases p with
  |jD=>exact À h.2.1
  |iH=>exact À h.2.1
  |gC W=>exact À h.2.1
  |jd W=>exact À h.2.1
  |iD r=>cases r with
   |zero=>exact hJ l g h
   |succ r=>exact À h.2.1
 have wt:∀(main:Bool) (b:Nat) (J:Jd) (p:ju) l g,qL F.P main F.B b J p l g->g.status=Å:=by
  intro main b J p l g h;cases p with
  |iZ=>let⟨k,_,_,T,h1,h2⟩:=h;exact(h2 _ _ h1).1
  |mf p=>let⟨_,T,h1,h2⟩:=h;exact(h2 _ _ h1).1
  |wr=>exact h.2.1
  |kD=>exact h.2.1
  |gC=>exact h.2.1
  |lk=>exact h.2.1
 intro l g h;by_cases e0:i=0
 .subst e0;rw[p.h.1]at h;cases hm:E.M with
  |go j=>rw[hm]at h;exact À<|H.I _ _ _ _ h
  |lG j=>rw[hm]at h;let⟨c,h⟩:=h;exact À<|H.I _ _ _ _ h
  |rd j=>rw[hm]at h;exact À h.2.1
  |iH j=>rw[hm]at h;exact À h.2.1
  |iL r=>
   rw[hm]at h;have cl:∀r l g,AP F E.I r l g->g.status=Å:=λr l g h=>by
    cases r with
    |zero=>exact wt _ _ _ .iZ _ _ h
    |succ r=>exact h.1
   cases r with
   |zero=>exact À<|cl _ _ _ h
   |succ r=>exact À h.1
  |kY r=>
   rw[hm]at h;cases r with
   |zero=>exact À<|wt _ _ _ .iZ _ _ h
   |succ r=>exact À h.1
  |fB p=>rw[hm]at h;exact À<|wt _ _ _ _ _ _ h
  |gi=>rw[hm]at h;exact À<|H.M _ _ _ h
 by_cases e1:i<F.L
 .rw[(p.l i Z e1).1]at h;exact QuitsD.status h
 have kg:=p.b;obtain⟨x,rfl⟩:∃x,i=F.L+x:=⟨i-F.L,Z⟩;cases he:E.N x with
 |some e=>
  rw[(p.k x e Z he).1]at h;cases e with
  |oQ=>exact À h.2.1
  |gi p=>exact dn _ _ _ (λl g ⟨N,h⟩=>h.status) _ _ _ h
  |jr N=>exact QuitsD.status h
 |none=>
  cases x with
  |zero=>
   rw[ó,(p.m Z he).1]at h;cases hm:E.S with
   |kP k=>rw[hm]at h;exact À<|H.N _ _ _ h
   |mk k=>rw[hm]at h;let⟨s',V,_,_,_,_,h⟩:=h;exact À h.2.1
   |dn k p=>rw[hm]at h;exact dn _ _ _ (λl g h=>lH (λl g h=>À<|H.N _ _ _ h) h) _ _ _ h
  |succ j=>
   rw[show F.L+(j+1)=F.L+1+j by omega,(p.g j Z he).1]at h;cases hm:E.C j with
   |ny r=>rw[hm]at h;exact À h.1
   |fB r p=>rw[hm]at h;exact À<|wt _ _ _ _ _ _ h
   |jN r=>rw[hm]at h;exact À<|H.Y _ _ _ _ h
   |oO r=>rw[hm]at h;exact À h.2.1
theorem agM{T:gB}(h:k≠i):E.iU (fA tr i T) k=E.iU tr k:=by unfold fV.iU;grind [fK]
theorem agN{k:Ð->gB}(a:tr i=.jP k)(b:¬(0<i/\i<F.L)):yH (E.iU (fA tr i<|k w) i) (E.iU tr i):=by
 unfold fV.iU;split
 .rename_i e;subst e;rw[gG,a];exact Á ⟨U,Á ⟨U,w,U⟩⟩
 .split
  .grind
  .rw[gG,a];split
   .exact Á ⟨U,Á ⟨U,w,U⟩⟩
   .split<;>exact Á ⟨U,Á ⟨U,w,U⟩⟩
theorem PI.ft(H:gS F)(p:PI F m zX E S tr d lot gs w t){k:Ð->gB}(y:gs[i]?=Ã g)(o:tr i=.jP k): ∃gs' w' u e q,Ŏ F.P (ð gs w sl) i=(ğ<|ð gs' w' sl,u)/\gs'.size=gs.size/\PI F m zX E S e d q gs' w' (t++u)/\py F.N (E.mu e gs') (E.mu tr gs):=by
 have c:=(Õ.1 y).1;let⟨gs',w',W,X,D,z,⟨Y,G,I⟩,J,f,K⟩:=p.I.ft (sl:=sl) y o<|agL H p c;have M:¬(0<i/\i<F.L):=λ⟨a,b⟩=>by rw[(p.l i a b).2.1]at o;cases o
 have C:=p.I.r;have B:∀j,j+2<=E.r->w'.heap[E.I j]?=w.heap[E.I j]?:=λj v=>agH p.a p.C C c f v;have O:i<F.N:=by
  have:=p.b;have:E.r<=F.n+1:=by
   unfold fV.r;cases e:E.M with
   |go j=>have:=p.C.C j<|À e;simp only[fY.sp];omega
   |lG j=>have:=p.C.C j<|Á<|À e;simp only[fY.sp];omega
   |rd j=>have:=p.C.C j<|Á<|Á<|À e;simp only[fY.sp];omega
   |iH j=>have:=p.C.C j<|Á<|Á<|Á e;simp only[fY.sp];omega
   |_=>simp only[fY.sp];omega
  unfold Ph.N;omega
 refine⟨gs',w',_,_,_,D,z,⟨z.trans p.b,K,p.h,p.m,p.g,λx e h l=> ?_,λs h l=> ?_,?_,p.M.JV H p.a (agG (E:=E) C c f) (JX p.C) (Xy p.a H.C C c f (À U) p.M.C) (λs q=>Xy p.a H.C C c f (Á ⟨s,q,U⟩)<|p.M.I s q) B,p.C,p.d.C<|agI p.a p.C H.C C p.b c f,p.c.F7 G (by rcases I with q|q<;>rw[q]<;>simp) J B,λj r h l q=>(p.f j r h l q).app _⟩,À ⟨i,O,agN o M,λj _ v=>À<|agM v⟩⟩
 .let⟨Q,T,V⟩:=p.k x e h l;grind [fK]
 .let⟨Q,T,V⟩:=p.l s h l;grind [fK]
 .have:=p.a.ft C c f;grind
end
end Go.Proofs.Y.fy
namespace Go.Proofs.Y.fy
open Go Go.Conc Go.Proofs.Y.Lift
open Go.ConcN (sumTo sumTo_congr)
def agO{J b:Jd}(c:∀l g,J l g->b l g):∀{T:gB} {l:ff} {g:Ä},lj P yQ J T l g->lj P yQ b T l g:=by
 intro T
 induction T with
 |fD=>exact λh a r=>c _ _<|h a r
 |jP k d=>
  intro l g h;refine⟨h.1,λa r=> ?_⟩;let⟨e,f,i,j,m,n,o⟩:=h.2 a r;exact⟨e,f,i,j,m,n,d a o⟩
section
variable{F:Ph}{E E':fV F}{S:Nat->Jd}{tr d:Nat->gB}{kp:Nat->iC}{c:Nat->ff}{gs gs':Array Ä}{u:ä}{sl:Option (Nat×Nat)}
theorem gM.kP{Y:Nat->Prop}(a:gM P n Y S tr kp c gs w qJ){J:Jd}(h:∀l g,S i l g->J l g):gM P n Y (fA S i J) tr kp c gs w qJ:=by
 refine⟨a.r,λk x b=> ?_,a.I⟩;let⟨g0,d,f⟩:=a.C k x b;by_cases e:k=i
 .subst e;rw[gG];exact⟨g0,agO h d,f⟩
 .grind [fK]
def Di:E.iU tr 0=(E.M.rk F,0,tr 0):=by simp[fV.iU]
theorem J0(ok:F.Ok){x:Nat}{e:im}(a:E.N x=Ã e):E.iU tr (F.L+x)=((e.rk F).1,(e.rk F).2,tr<|F.L+x):=by have:=ok.r;unfold fV.iU;grind
theorem XB(ok:F.Ok)(a:E.N 0=Í):E.iU tr F.L=(E.S.rk F,0,tr F.L):=by have:=ok.r;unfold fV.iU;grind
theorem tW(ok:F.Ok)(a:E.N (j+1)=Í):E.iU tr (F.L+1+j)=((E.C j).rk F,0,tr<|F.L+1+j):=by have:=ok.r;unfold fV.iU;grind
theorem yI(a:k=0->E'.M.rk F=E.M.rk F)(b:0<k->k<F.L->E'.h k=E.h k)(c:F.L<=k->E'.N (k-F.L)=E.N (k-F.L))(e:k=F.L->E.N 0=Í->E'.S.rk F=E.S.rk F)(f:F.L<k->E.N (k-F.L)=Í->(E'.C<|k-F.L-1).rk F=(E.C<|k-F.L-1).rk F)(g:d k=tr k):E'.iU d k=E.iU tr k:=by unfold fV.iU;grind
def Gk(a:i<F.N)(h:yH (E'.iU d i) (E.iU tr i))(b:∀k,k≠i->E'.iU d k=E.iU tr k):py F.N (E'.mu d gs') (E.mu tr gs):= À ⟨i,a,h,λj _ c=>À<|b j c⟩
def Dj(a:Ps F E):E.r<=F.n+1:=by
 unfold fV.r;cases b:E.M with
 |go j=>have:=a.C j<|À b;simp only[fY.sp];omega
 |lG j=>have:=a.C j<|Á<|À b;simp only[fY.sp];omega
 |rd j=>have:=a.C j<|Á<|Á<|À b;simp only[fY.sp];omega
 |iH j=>have:=a.C j<|Á<|Á<|Á b;simp only[fY.sp];omega
 |_=>simp only[fY.sp];omega
def PI.G(p:PI F b zX E S tr kp c gs w qJ)(h:i<gs.size):i<F.N:=by have:=p.b;have:=Dj p.C;unfold Ph.N;omega
def gQ(E:fV F)(j:Nat)(x:gO):fV F:={E with C:=fA E.C j x}
theorem jR(j:Nat)(x:gO):(gQ E j x).C j=x:=gG _ _ _
theorem iP(x:gO)(h:i≠j):(gQ E j x).C i=E.C i:=fK _ _ h
theorem XC{x:gO}(h:∀k,x.gF F j k=(E.C j).gF F j k)(k:Nat):(Ñ F.n λi=>((gQ E j x).C i).gF F i k)=Ñ F.n λi=>(E.C i).gF F i k:=by grind [jR,iP]
def Dk(ok:F.Ok){x:gO}{T:gB}(b:F.L+1+j<F.N)(a:E.N (j+1)=Í)(h:x.rk F<(E.C j).rk F):py F.N ((gQ E j x).mu (fA tr (F.L+1+j) T) gs') (E.mu tr gs):=by
 refine Gk b (À ?_) λk c=>yI (λ_=>rfl) (λ_ _=>rfl) (λ_=>rfl) (λ_ _=>rfl) (λd _=> ?_)<|fK tr _ c
 .rwa[tW ok (E:=gQ E j x) (show(gQ E j x).N (j+1)=Í from a),tW ok a,jR]
 .rw[iP x Z]
def Ps.G(h:Ps F E){x:gO}(m:j+2<=E.r)(d:E.N (j+1)=Í)(c:∀k,x.gF F j k=(E.C j).gF F j k)(f:∀r,((∃p,x=.fB r p)\/x=.jN r\/x=.oO r)->j+r*F.n<F.q) (g:∀r,(x=.fB r .gC\/x=.fB r .lk\/x=.jN r)->F.r (j+r*F.n)<=E.S.od) (i:∀r,x=.fB r .gC->∃a b,E.a (F.r<|j+r*F.n)=.gY a b) (l:∀r,x=.fB r .wr->E.d (F.r<|j+r*F.n)=Ã j):Ps F (gQ E j x) where
 v:=h.v;C:=h.C;K:=h.K;L:=h.L;J:=h.J;I:=h.I;z j' oR:=by have:E.r<j'+2:=oR;rw[iP x Z];exact h.z j' oR
 d j' r oR hx:=by
  by_cases e:j'=j
  .subst e;rw[jR]at hx;exact f r hx
  .rw[iP x e]at hx;exact h.d j' r oR hx
 l j' oR hx:=by
  have e:j'≠j:=λe=>by subst e;exact hx d
  rw[iP x e];exact h.l j' oR hx
 f:=h.f;h:=h.h;M:=h.M;o:=h.o;t:=h.t;g:=h.g;u:=h.u;N:=h.N;B:=h.B;e k h1 h2 h3:=by rw[XC c];exact h.e k h1 h2 h3
 Y k h1 h2:=by rw[XC c];exact h.Y k h1 h2
 w j' r oR hx:=by
  by_cases e:j'=j
  .subst e;rw[jR]at hx;exact g r hx
  .rw[iP x e]at hx;exact h.w j' r oR hx
 H j' r oR hx:=by
  by_cases e:j'=j
  .subst e;rw[jR]at hx;exact i r hx
  .rw[iP x e]at hx;exact h.H j' r oR hx
 O:=h.O;S:=h.S;y:=h.y;D j' r oR hx:=by
  by_cases e:j'=j
  .subst e;rw[jR]at hx;exact l r hx
  .rw[iP x e]at hx;exact h.D j' r oR hx
def vy(E:fV F)(j:Nat)(x:gO)(k:Nat)(G:GS)(a:Nat->Option Nat):fV F:={gQ E j x with a:=fA E.a k G,d:=a}
theorem Ps.XD(h:Ps F E){x:gO}{G:GS}{l:Nat->Option Nat}(Q:j+2<=E.r)(C:E.N (j+1)=Í)(D:∀c,c≠k->x.gF F j c=(E.C j).gF F j c) (H:1<=k->E.S.od<k->G=.cl 1 (Ñ F.n λi=>((fy.gQ E j x).C i).gF F i k)) (I:k<=E.S.od->(∃W,(E.S=.dn k (.gC W)\/E.S=.dn k (.jd W))/\G=.jE W/\W=Ñ F.n λi=>((fy.gQ E j x).C i).gF F i k)\/(∃r s,E.S=.dn k (.iD r)/\0<r/\G=.gY r s/\r+s=Ñ F.n λi=>((fy.gQ E j x).C i).gF F i k)\/((∀p,E.S≠ .dn k p)/\((G=.cl 0 0/\(Ñ F.n λi=>((fy.gQ E j x).C i).gF F i k)=0)\/∃s,G=.gY 0 s/\s=Ñ F.n λi=>((fy.gQ E j x).C i).gF F i k))) (J:(∃a b,E.a k=.gY a b)->∃a b,G=.gY a b) (K:G=.cl 1 0->l k=Í) (L:∀c,c≠k->l c=E.d c) (S:∀y,E.d k=Ã y->l k=Ã y) (T:∀r,((∃p,x=.fB r p)\/x=.jN r\/x=.oO r)->j+r*F.n<F.q) (M:∀r,(x=.fB r .gC\/x=.fB r .lk\/x=.jN r)->F.r (j+r*F.n)<=E.S.od) (N:∀r,x=.fB r .gC->∃a b,fA E.a k G (F.r<|j+r*F.n)=.gY a b) (O:∀r,x=.fB r .wr->l (F.r<|j+r*F.n)=Ã j):Ps F (vy E j x k G l):=by
 have z:∀c,c≠k->(Ñ F.n λi=>((vy E j x k G l).C i).gF F i c)=Ñ F.n λi=>(E.C i).gF F i c:=λc u=>by
  refine Ł λi _=> ?_;by_cases e:i=j
  .subst e;show((fy.gQ E i x).C i).gF F i c=_;rw[jR,D c u]
  .show((fy.gQ E j x).C i).gF F i c=_;rw[iP x e]
 have v:∀c,c≠k->(vy E j x k G l).a c=E.a c:=λc u=>fK _ _ u;have gs:(vy E j x k G l).a k=G:=gG _ _ _;have w:(vy E j x k G l).C j=x:=jR _ _;have o:∀d,d≠j->(vy E j x k G l).C d=E.C d:=λd g=>iP x g;refine⟨h.v,h.C,h.K,h.L,h.J,h.I,λd g=> ?_,λd r g f=> ?_,λd g f=> ?_,h.f,h.h,h.M,h.o,h.t,h.g,h.u,h.N,h.B,λc t m B=> ?_,λc t m=> ?_,λd r g f=> ?_,λd r g f=> ?_,h.O,h.S,λc t m=> ?_,λd r g f=> ?_⟩
 .have:E.r<d+2:=g;rw[o d Z];exact h.z d g
 .by_cases e:d=j
  .simp_all
  .rw[o d e]at f;exact h.d d r g f
 .rw[o d (λe=>by subst e;exact f C)];exact h.l d g f
 .by_cases e:c=k
  .subst e;rw[gs];exact H t B
  .rw[v c e,z c e];exact h.e c t m B
 .by_cases e:c=k
  .subst e;rw[gs];exact I m
  .rw[v c e,z c e];exact h.Y c t m
 .by_cases e:d=j
  .subst e;rw[w]at f;exact M r f
  .rw[o d e]at f;exact h.w d r g f
 .by_cases e:d=j
  .subst e;rw[w]at f;exact N r f
  .rw[o d e]at f;have:=h.H d r g f;by_cases P:F.r (d+r*F.n)=k
   .rw[P]at this|-;rw[gs];exact J this
   .grind
 .by_cases e:c=k
  .subst e;rw[gs]at m;exact K m
  .rw[v c e]at m;show l c=Í;rw[L c e];exact h.y c t m
 .by_cases e:d=j
  .subst e;rw[w]at f;exact O r f
  .rw[o d e]at f;have:=h.D d r g f;show l _=Ã d;grind
theorem iI.r(h:iI F E c n w){x:gO}(i:x.kF=(E.C j).kF):iI F (gQ E j x) c n w:=by
 have f:∀a,((fy.gQ E j x).C a).kF=(E.C a).kF:=λa=>by grind [jR,iP]
 exact⟨h.gU,h.o,h.lT,h.e,h.f,λa b d r e g=>h.h a b d r e (by rwa[<-f]),h.l,h.S,h.M,h.c,h.I,h.N,h.g,λa b r d e=>h.d a b r d<|by rwa[<-f]⟩
theorem Wd.Y(h:Wd F E w){x:gO}(g:x.kF=(E.C j).kF)(i:x.iO=(E.C j).iO):Wd F (gQ E j x) w:=by
 have c:∀a,((fy.gQ E j x).C a).kF=(E.C a).kF:=λa=>by grind [jR,iP]
 have d:∀a,((fy.gQ E j x).C a).iO=(E.C a).iO:=λa=>by grind [jR,iP]
 exact⟨h.C,h.I,λa b=>by rw[d];exact h.jG a b,h.M,h.S,λa b r e f=>h.N a b r e<|by rwa[<-c]⟩
structure qM(F:Ph)(E:fV F)(S:Nat->Jd)(tr:Nat->gB)(kp:Nat->iC):Prop where
 M:S 0=JM F E.I E.M/\kp 0=kM E.M
 Y:0<E.r->E.N 0=Í->S F.L=JI F E.c E.S/\kp F.L=.no
 I:∀j,j+2<=E.r->E.N (j+1)=Í->S (F.L+1+j)=JW F (E.I j) j (E.C j)/\kp (F.L+1+j)=kW F (E.I j) (E.C j)
 C:∀x e,x<E.r->E.N x=Ã e->S (F.L+x)=JE F e/\kp (F.L+x)=.no/\((∃N,e=.jr N)->tr (F.L+x)=.fD)
 r:∀i,0<i->i<F.L->S i=pw F.P (E.h i)/\tr i=.fD/\kp i=.no
def PI.N(p:PI F b zX E S tr kp c gs w qJ):qM F E S tr kp:=⟨p.h,p.m,p.g,p.k,p.l⟩
def PI.r(a:qM F E S tr kp)(d:gs.size=F.L+E.r)(e:gM F.P F.S E.Y S tr kp c gs w qJ)(f:iI F E c gs.size w)(g:Wd F E w)(h:Ps F E)(i:TI F.toFx b zX E.r E.S.rl E.V E.e E.d E.iz E.f qJ)(k:fj F E gs w) (l:∀j r,j+2<=E.r->E.C j=.jN r->1<=F.r (j+r*F.n)->Λ qJ (F.L+1+j) (E.e<|F.r<|j+r*F.n)):PI F b zX E S tr kp c gs w qJ:=⟨d,e,a.M,a.Y,a.I,a.C,a.r,f,g,h,i,k,l⟩
def qM.N(h:qM F E S tr kp)(ok:F.Ok){x:gO}{T:gB}(k:j+2<=E.r)(f:E.N (j+1)=Í):qM F (gQ E j x) (fA S (F.L+1+j)<|JW F (E.I j) j x) (fA tr (F.L+1+j) T) (fA kp (F.L+1+j)<|kW F (E.I j) x):=by
 have:=ok.r;refine⟨by rw[fK S _ Z,fK kp _ Z];exact h.M,λb a=>by rw[fK S _ Z,fK kp _ Z];exact h.Y b a,λd b a=> ?_,λy e b a=> ?_,λi b a=>by rw[fK S _ Z,fK kp _ Z,fK tr _ Z];exact h.r i b a⟩
 .by_cases e:d=j
  .subst e;rw[gG,gG,jR];exact⟨U,U⟩
  .rw[fK S _ Z,fK kp _ Z,iP x e];exact h.I d b a
 .have c:F.L+y≠F.L+1+j:=λe=>by
   have g:y=j+1:=Z
   subst g;have:E.N (j+1)=Ã _:=a;rw[f]at this;cases this
  rw[fK S _ c,fK kp _ c,fK tr _ c];exact h.C y e b a
end
def tX(F:Fx)(e:đ):Prop:=(∃(x:Č) (a:Bool),F.G x/\e=⟨ú x,a,Ì⟩)\/e.loc=ŭ ô\/e.loc=ŭ î
theorem Gl{F:Fx}{e:đ}(h:tX F e){b:Touch}(c:(Ë e).touch?=Ã b):∃x,F.G x/\b.loc=ú x/\b.kind=.atomic:=by
 let⟨f,a,g⟩:=e;rcases h with⟨x,i,j,d⟩|h|h
 .injection d with e1 e2 e3;subst e1 e2 e3;have:(Ë ⟨ú x,a,Ì⟩).touch?=Ã ⟨ú x,a,.atomic⟩:=by cases a<;>rfl
  grind
 .simp only at h;subst h;simp[Ë,Ċ]at c
 .simp only at h;subst h;simp[Ë,Ċ]at c
section
variable{F:Ph}{E E':fV F}{S:Nat->Jd}{tr l:Nat->gB}{f:Nat->iC}{c:Nat->ff}{gs gs':Array Ä}{u:ä}{m:Option (Nat×Nat)}
def yJ(E:fV F)(i:Nat):Prop:=i=0\/∃x,x<E.r/\i=F.L+x
theorem gM.N{Y:Nat->Prop}(e:gM P n Y S tr f c gs w qJ)(h:gs[i]?=Ã g)(k:g.status=Å)(j:tr i=.fD)(a:f i=.no\/f i=.iD):∀b,fJ (c i) (c i).w b->S i {c i with w:=b} g:=by
 let⟨g0,hF,d,_,_⟩:=e.C i g h;rw[j]at hF;have:g=g0:=by rcases a with a|a<;>rw[a]at d<;>cases d;all_goals grind
 subst this;exact hF
theorem XF(b:TI F.toFx j zX E.r E.S.rl E.V E.e E.d E.iz E.f qJ)(c:yJ E i)(d:n<j)(a:qJ.g? n=Ã 0):Λ qJ i n:=by
 rcases c with rfl|⟨x,e,rfl⟩
 .let⟨g,f,h⟩:=Ù.1 a;have:=knows_own f;grind
 .exact b.AN x e n d a
theorem agP(f:∀c,¬Race c qJ)(g:TI F.toFx j zX E.r E.S.rl E.V E.e E.d E.iz E.f qJ)(v:yJ E i){d:Array đ}{h:Ĵ}{k:String}(l:∀e∈d,tX F.toFx e):∀c,¬Race c (qJ++Û i h k d):=by refine Ol f ow λw m b n=> ?_;obtain⟨e,o,rfl⟩:=Ö m;let⟨x,r,s,t⟩:=Gl (l e o) n;refine Á (Á ⟨t,λp a u q y=> ?_⟩);rcases g.M p a x u (q.trans s) r with⟨y,z⟩|q|⟨q,_⟩;all_goals grind [XF]
def agQ(L:iI F E c gs.size w)(ok:F.Ok)(C:iT F.S (λi=>i<gs.size) E.Y c w qJ)(f:∀e∈V,tX F.toFx e):∀e∈V,(∀b,(Ë e).touch?=Ã b->F5 (λi=>i<gs.size) E.Y c b)/\(Ë e).low w.heap.size:=by
 intro e g;refine⟨λb j=> ?_,?_⟩
 .let⟨x,a,d,_⟩:=Gl (f e g) j;exact À ⟨x,d,xb a,λk h=>L.Y ok a k h⟩
 .rcases f e g with⟨x,k,a,d⟩|h|h
  .subst d;have:=C.N _<|xb (E:=E) a;cases k<;>exact this
  .let⟨l,k,m⟩:=e;simp only at h;subst h;trivial
  .let⟨l,k,m⟩:=e;simp only at h;subst h;trivial
def AQ(d:Nat)(a:Array đ):Prop:=∀(j:Nat) (e:đ),a[j]?=Ã e->(Ë e).touch?=Í\/((∃b c,e=⟨ú b,c,Ì⟩)/\0<Ï d (a.extract 0 j))
theorem agR(L:iI F E c gs.size w)(s:Ps F E)(C:iT F.S (λi=>i<gs.size) E.Y c w qJ)(t:yJ E i){f:Array đ}{n:Ĵ}{o:String}(p:∀e∈f,tX F.toFx e) (u:∀x,E.iz x->i=F.L+x->(∀e∈f,∀b,(Ë e).touch?=Ã b->∃y:Č,b.loc=ú y/\y.block=F.C)/\AQ (κ qJ i) f):JS F.toFx E.r E.S.rl E.V E.d E.iz qJ (Û i n o f) i:=by
 refine⟨λg d _ _=>ow g d,t.imp id À,λg d a x l _ _=> ?_,λg d a y l _ z k B m=> ?_,λg d b _ e=> ?_,λx H D=> ?_⟩
 .obtain⟨e,j,rfl⟩:=Ö d;grind [Gl]
 .obtain⟨e,j,rfl⟩:=Ö d;let⟨x,r,h,_⟩:=Gl (p e j) l;rw[z]at h;injection h with h;subst h;refine⟨λv=>(L.I k (Ø m<|JY s) _ v).2.1<|xb r,λe=> ?_⟩;obtain⟨b,_,q|q⟩:=r<;>(rw[q]at e;simp[fP,gX,jg]at e)
 .obtain⟨r,j,rfl⟩:=Ö d;simp only at e;rcases p r j with⟨x,v,_,rfl⟩|h|h
  .cases v<;>simp[Ë]at e
  .let⟨q,v,G⟩:=r;simp only at h;subst h;simp[Ë]at e
  .let⟨q,v,G⟩:=r;simp only at h;subst h;simp[Ë]at e
 .by_cases e:F.L+x=i
  .let⟨B,m⟩:=u x D e.symm;subst e;refine⟨λr h=>h.appOwn n o f m,λ_ g d a l=> ?_⟩;obtain⟨e,j,rfl⟩:=Ö d;grind [Gl]
  .exact⟨λr h=>h.appOther ow<|ÿ e,λq=>absurd q e⟩
theorem yK(a:F.M b):∀e∈#[kC<|fP b],tX F.toFx e:=by
 intro e c;have:e=kC (fP b):=by simpa using c
 subst this;exact À ⟨_,É,(xa a).1,U⟩
def XG(a:F.M b):∀e∈#[mV<|fP b],tX F.toFx e:=by
 intro e c;have:e=mV (fP b):=by simpa using c
 subst this;exact À ⟨_,Ì,(xa a).1,U⟩
def AR(a:F.M b):∀e∈#[kC<|fP b,mV<|fP b],tX F.toFx e:=by
 intro e c;simp at c;rcases c with rfl|rfl
 .exact À ⟨_,É,(xa a).1,U⟩
 .exact À ⟨_,Ì,(xa a).1,U⟩
def Gm(a:F.M b):∀e∈õ (gX b),tX F.toFx e:=by
 intro e c;simp[õ]at c;rcases c with rfl|rfl|rfl|rfl
 .exact Á<|À U
 .exact À ⟨_,É,(xa a).2,U⟩
 .exact À ⟨_,Ì,(xa a).2,U⟩
 .exact Á<|Á U
def Gn(d:Nat):Ï d #[kC a,mV a]=d/\Ï d #[kC a]=d/\Ï d #[mV a]=d/\Ï d (õ a)=d:=by refine⟨U,U,U,?_⟩;simp[Ï,õ]
def J3:AQ 1 #[kC a,mV a]/\AQ 1 #[kC a]/\AQ 1 #[mV a]/\AQ 1 (õ a):=by
 refine⟨λj e b=> ?_,λj e b=> ?_,λj e b=> ?_,λj e b=> ?_⟩
 .match j,b with
  |0,b=>obtain rfl:=È b;exact Á ⟨⟨a,É,U⟩,by simp[Ï]⟩
  |1,b=>obtain rfl:=È b;exact Á ⟨⟨a,Ì,U⟩,by simp[Ï,kC]⟩
  |j+2,b=>simp at b
 .match j,b with
  |0,b=>obtain rfl:=È b;exact Á ⟨⟨a,É,U⟩,by simp[Ï]⟩
  |j+1,b=>simp at b
 .match j,b with
  |0,b=>obtain rfl:=È b;exact Á ⟨⟨a,Ì,U⟩,by simp[Ï]⟩
  |j+1,b=>simp at b
 .match j,b with
  |0,b=>obtain rfl:=È b;exact À U
  |1,b=>obtain rfl:=È b;exact Á ⟨⟨a,É,U⟩,by simp[Ï,õ]⟩
  |2,b=>obtain rfl:=È b;exact Á ⟨⟨a,Ì,U⟩,by simp[Ï,õ]⟩
  |3,b=>obtain rfl:=È b;exact À U
  |j+4,b=>simp[õ]at b
def agS(ok:F.Ok)(g:F.G a)(v:ã):Gi F E c gs.size w (w.setCell a v):=by
 refine⟨Ô j4.symm,λb _ f _=>lu λe=>f<|e▸(xb (E:=E) g),λd i _=>yC ?_,OB,U,U⟩;let⟨b,f,h⟩:=g;rcases i with⟨k,_,rfl⟩|⟨p,rfl⟩
 .right;rcases h with rfl|rfl<;>simp[fP,gX,jg]
 .left;rcases h with rfl|rfl<;>exact λe=>ok.C (by have j:b=F.Y:=e;rwa[<-j])
def agT(L:iI F E c gs.size w)(ok:F.Ok)(d:F.G a)(v:ã):p6 (λi=>i<gs.size) E.Y c w (w.setCell a v):= agu (xb d) (by obtain⟨b,_,rfl|rfl⟩:=d<;>rfl) (λk i=>L.Y ok d k i) λk i b e=>L.agF k i b e
def agU(c:Ps F E)(d:F.G a)(v:ã)(f:j+2<=E.r):(w.setCell a v).heap[E.I j]?=w.heap[E.I j]?:= lu λe=>(c.o j f).1 (by obtain⟨b,g,rfl|rfl⟩:=d<;>(rwa[e]))
def agV(h:a=fP b\/a=gX b):a.block=b:=by rcases h with rfl|rfl<;>rfl
theorem iI.C(L:iI F E c n w){d:Nat}{w0:Ð}(y:w.heap.size<=W.heap.size):iI F E (gA c i {c i with d:=d,w:=w0}) n W:=by
 have e:∀k,(gA c i {c i with d:=d,w:=w0} k).O=(c k).O/\(gA c i {c i with d:=d,w:=w0} k).I=(c k).I/\(gA c i {c i with d:=d,w:=w0} k).r=(c k).r/\(gA c i {c i with d:=d,w:=w0} k).N=(c k).N/\(gA c i {c i with d:=d,w:=w0} k).q=(c k).q:=λk=>by grind [gV,gI]
 have t:∀k,c k=kE (c k)->gA c i {c i with d:=d,w:=w0} k=kE (gA c i {c i with d:=d,w:=w0} k):=λk f=>by
  by_cases h:k=i
  .subst h;rw[gV];have a:(c k).O=λ_=>False:=by rw[f];rfl
   have b:(c k).I=λ_=>False:=by rw[f];rfl
   have g:(c k).r=λ_=>False:=by rw[f];rfl
   have j:(c k).N=λ_=>False:=by rw[f];rfl
   have l:(c k).q=True:=by rw[f];rfl
   simp only[kE,a,b,g,j,l]
  .grind [gI]
 refine⟨λk f a o=>L.gU k f a (by unfold ff.C at o|-;rwa[(e k).2.2.1,(e k).2.2.2.1]at o),λx g m a o=>by rw[(e 0).2.2.1];exact L.o x g m a o,λh=>by rw[(e 0).2.2.2.1,(e 0).2.1];exact L.lT h,λh k g m=>by rw[(e _).2.2.1];exact L.e h k g m,λh p=>by rw[(e _).2.2.2.1,(e _).2.1];exact L.f h p,λj l p r s g=>by rw[(e _).2.2.1];exact L.h j l p r s g,λj l p=>by rw[(e _).2.2.2.1,(e _).2.1];exact L.l j l p,λx u=>t _<|L.S x u,λk f=>by rw[(e k).2.2.2.2];exact L.M k f,λk g m=>t _<|L.c k g m,λk f b v=> ?_,λk f j l=>by rw[(e j).2.2.1];exact L.N k f j l,λk g m j l=>by rw[(e j).2.2.1];exact L.g k g m j l,λj l r s g k f=>by rw[(e k).2.2.1];exact L.d j l r s g k f⟩;let⟨z,B,D⟩:=L.I k f b v;grind
end
section
variable{F:Ph}{E E':fV F}{S:Nat->Jd}{tr c:Nat->gB}{a:Nat->iC}{lot:Nat->ff}{gs gs':Array Ä}{u:ä}{sl:Option (Nat×Nat)}
def kG(b:Nat)(w W:Ð):Prop:=W=w\/∃x v,(x=fP b\/x=gX b)/\W=w.setCell x v
def kG.Dh(h:kG b w W):W.heap.size=w.heap.size:=by rcases h with rfl|⟨x,v,_,rfl⟩;all_goals simp_all
def kG.JV(h:kG b w W)(ok:F.Ok)(a:F.M b):Gi F E lot gs.size w W:=by
 rcases h with rfl|⟨x,v,c,rfl⟩
 .exact⟨Ç _,λ_ _ _ _=>rfl,λ_ _ _=>rfl,U,U,U⟩
 .exact agS ok ⟨b,a,c⟩ v
def kG.r(h:kG b w W)(L:iI F E lot gs.size w)(ok:F.Ok)(a:F.M b):p6 (λi=>i<gs.size) E.Y lot w W:=by
 rcases h with rfl|⟨x,v,i,rfl⟩
 .exact p6.fX _ _ _ _
 .exact agT L ok ⟨b,a,i⟩ v
def kG.C(h:kG b w W)(a:Ps F E)(c:F.M b)(d:j+2<=E.r):W.heap[E.I j]?=w.heap[E.I j]?:=by
 rcases h with rfl|⟨x,v,e,rfl⟩
 .rfl
 .exact agU a ⟨b,c,e⟩ v d
def kG.M(h:kG b w W)(c:i≠b){G:GS}(a:ic w i G):ic W i G:=by
 rcases h with rfl|⟨x,v,d,rfl⟩
 .exact a
 .exact a.iU<|by rw[agV d];exact ÿ c
def kG.I(h:kG b w W)(H:gS F)(L:iI F E lot gs.size w)(d:Ps F E)(a:Wd F E w)(f:F.M b){Ga:GS}{Gg:Nat->GS}(g:(b=F.C->ic W F.C Ga)/\(b≠F.C->Ga=E.b))(i:∀k,k<=F.m->(b=F.I k->ic W (F.I k) (Gg k))/\(b≠F.I k->Gg k=E.a k)):Wd F {E with b:=Ga,a:=Gg} W:=by
 refine a.JV H L (h.JV H.C f) (JX d) ?_ (λk c=> ?_) λj e=>h.C d f e
 .by_cases e:b=F.C
  .exact g.1 e
  .rw[g.2 e];exact h.M (ÿ e) a.C
 .by_cases e:b=F.I k
  .exact(i k c).1 e
  .rw[(i k c).2 e];exact h.M (ÿ e)<|a.I k c
def PI.Y(H:gS F)(p:PI F b zX E S tr a lot gs w qJ){c:Ä}{f:Array đ}{J:Jd}{T:gB}(K:iC)(q:gs[i]?=Ã g)(j:yJ E i)(r:F.M n)(s:è F.P (i==0) g w=Š c W f)(l:kG n w W)(h:∀e∈f,tX F.toFx e)(m:Ï (lot i).d f=(lot i).d) (t:∀x,E.iz x->i=F.L+x->(∀e∈f,∀n,(Ë e).touch?=Ã n->∃y:Č,n.loc=ú y/\y.block=F.C)/\AQ (κ qJ i) f) (hF:lj F.P (i==0) J T {lot i with w:=W} c) (v:c.status=Å\/c.status=å): ∃gs' u,Ŏ F.P (ð gs w sl) i=(ğ<|ð gs' W sl,u)/\gs'.size=gs.size/\gs'[i]?=Ã c/\(∀k,k≠i->gs'[k]?=gs[k]?.map (Ā F.P g c W))/\ gM F.P F.S E.Y (fA S i J) (fA tr i T) (fA a i K) (gA lot i {lot i with w:=W}) gs' W (qJ++u)/\TI F.toFx b zX E.r E.S.rl E.V E.e E.d E.iz E.f (qJ++u)/\iI F E (gA lot i {lot i with w:=W}) gs'.size W:=by have C:=p.I.r;obtain⟨gs',z,k,B,D,o⟩:=p.I.qI q s (l.r p.a H.C r) (by rwa[m]) v (agQ p.a H.C C h)<|agP C.l p.d j h;rw[m]at o;refine⟨gs',_,z,k,B,D,o,p.d.C<|agR p.a p.C C j h t,?_⟩;rw[k];exact p.a.C<|Ô l.Dh.symm
theorem fj.qI(B:fj F E gs w){a:Ä}(p:gs'[i]?=Ã a)(q:a.status≠Ü)(d:∀k,k≠i->gs'[k]?=gs[k]?.map (Ā F.P g a W))(t:∀j,j+2<=E.r->W.heap[E.I j]?=w.heap[E.I j]?) (u:E'.r=E.r) (v:E'.I=E.I) (z:∀x,F.L+x≠i->E'.N x=E.N x) (C:i≠0->E'.M=E.M) (D:∀j,F.L+1+j≠i->E'.C j=E.C j) (G:i≠0->E.M=.fB .kD->E.b.sm=0->E'.b.sm=0\/∀x,gs'[0]?=Ã x->x.status≠Ü) (H:∀j r,F.L+1+j≠i->E.C j=.fB r .kD->(E.a<|F.r<|j+r*F.n).sm=0->(E'.a<|F.r<|j+r*F.n).sm=0\/∀x,gs'[F.L+1+j]?=Ã x->x.status≠Ü):fj F E' gs' W:=by
 intro k x b f;by_cases e:k=i
 .grind
 .have I:=b;rw[d k e]at b;obtain⟨y,h,rfl⟩:=Ù.1 b;let⟨_,l⟩:=Gj f;rcases B k y h l with⟨J,m,c⟩|⟨j,K,M,m,⟨r,c,o⟩|⟨r,N,s,O,c,o⟩⟩;all_goals grind
def Dl(a:j+2<=E.r):yJ E (F.L+1+j):=Á ⟨j+1,Z,Z⟩
def J4(b:E.N (j+1)=Í):∀x,E.iz x->F.L+1+j=F.L+x->False:=λx ⟨e,a,_⟩ h2=>by
 have:x=j+1:=Z
 subst this;rw[b]at a;cases a
def Gp(ok:F.Ok)(h:i<F.q):F.M (F.I<|F.r i):=Á ⟨F.r i,ok.I i h,U⟩
def iQ(a:gs[i]?=Ã g):i<gs.size:=(Õ.1 a).1
end
theorem xc{f f':Nat->Nat}:∀{n:Nat},j<n->(∀i,i≠j->f' i=f i)->Ñ n f'+f j=Ñ n f+f' j
 |n+1,h,hf=>by
  simp only[Ñ];rcases ģ j n with gT|a
  .have:=xc (n:=n) gT hf;rw[hf n Z];omega
  .obtain rfl:j=n:=Z
   rw[Ł λi b=>hf i Z];omega
def Gq{f:Nat->Nat}:∀{n:Nat},(∀i,f i<=1)->Ñ n f<=n
 |0,_=>Ç _
 |n+1,h=>by simp only[Ñ];have:=Gq (n:=n) h;have:=h n;omega
def OQ{f:Nat->Nat}:∀{n:Nat},j<n->f j<=Ñ n f
 |n+1,h=>by
  simp only[Ñ];rcases ģ j n with gT|a
  .have:=OQ (f:=f) (n:=n) gT;omega
  .obtain rfl:j=n:=Z
   omega
def Gr{f:Nat->Nat}:∀n:Nat,(Ñ n λi=>f i+D i)=Ñ n f+Ñ n D
 |0=>rfl
 |n+1=>by simp only[Ñ];rw[Gr n];omega
def OS{f:Nat->Nat}(c:Nat):∀n:Nat,(Ñ n λi=>c*f i)=c*Ñ n f
 |0=>by simp[Ñ]
 |n+1=>by simp only[Ñ];rw[OS c n,ł]
section
variable{F:Ph}{E E':fV F}{S:Nat->Jd}{tr z:Nat->gB}{C:Nat->iC}{o:Nat->ff}{gs gs':Array Ä}{u:ä}{sl:Option (Nat×Nat)}
def kh(F:Ph)(b:Nat)(zX:π->Prop)(E:fV F)(tr:Nat->gB)(gs:Array Ä)(w:Ð)(qJ:ä)(sl:Option (Nat×Nat))(i:Nat):Prop:=
 ∃(E':fV F) (a:Nat->Jd) (z:Nat->gB) (c:Nat->iC) (d:Nat->ff) (gs':Array Ä) (W:Ð) (u:ä),Ŏ F.P (ð gs w sl) i=(ğ<|ð gs' W sl,u)/\gs'.size=gs.size/\(E'.M=.gi->E.M=.gi)/\PI F b zX E' a z c d gs' W (qJ++u)/\py F.N (E'.mu z gs') (E.mu tr gs)
def rG(F:Ph)(b:Nat)(zX:π->Prop)(E:fV F)(tr:Nat->gB)(gs:Array Ä)(w:Ð)(qJ:ä):Prop:=
 ∃(E':fV F) (a:Nat->Jd) (z:Nat->gB) (c:Nat->iC) (d:Nat->ff),(E'.M=.gi->E.M=.gi)/\PI F b zX E' a z c d gs w qJ/\py F.N (E'.mu z gs) (E.mu tr gs)
def agW(i:Nat):gf gs i<=1:=by unfold gf;split<;>omega
theorem XH(a:∀k,k<F.N->E'.iU z k=E.iU tr k)(b:i<F.N)(e:E'.ly i<E.ly i)(c:∀k,k≠i->E'.ly k=E.ly k):py F.N (E'.mu z gs') (E.mu tr gs):=by
 refine Á ⟨a,?_⟩;show(Ñ F.N λi=>(F.N+1)*E'.ly i+gf gs' i)<Ñ F.N λi=>(F.N+1)*E.ly i+gf gs i;rw[Gr,Gr,OS,OS];have g:=xc b c;have h:=Gq (f:=gf gs') (n:=F.N) agW;have d:Ñ F.N E'.ly+1<=Ñ F.N E.ly:=Z
 have j:(F.N+1)*(Ñ F.N E'.ly+1)<=(F.N+1)*Ñ F.N E.ly:=ï _ d;grind
theorem OT(a:∀k,k<F.N->E.iU z k=E.iU tr k)(b:i<F.N)(c:gf gs i=1)(d:gf gs' i=0)(e:∀k,k≠i->gf gs' k=gf gs k):py F.N (E.mu z gs') (E.mu tr gs):=by refine Á ⟨a,?_⟩;show(Ñ F.N λi=>(F.N+1)*E.ly i+gf gs' i)<Ñ F.N λi=>(F.N+1)*E.ly i+gf gs i;rw[Gr,Gr];grind [xc]
theorem XJ(ok:F.Ok)(j:Nat):E.ly (F.L+1+j)=match E.C j with|.fB r p=>p.ly F.B (E.a<|F.r<|j+r*F.n).st|_=>0:=by have:=ok.r;unfold fV.ly;grind
def agX{x:gO}(a:k≠F.L+1+j):(gQ E j x).ly k=E.ly k:=by
 unfold fV.ly;split
 .rfl
 .split
  .rfl
  .rw[iP x Z];rfl
def agY(ok:F.Ok){r:Nat}{p a:SP}{T:gB}(d:F.L+1+j<F.N)(b:E.N (j+1)=Í)(c:E.C j=.fB r (.mf p))(f:tr (F.L+1+j)=.fD)(g:T=.fD)(h:a.rk F.B (E.a<|F.r<|j+r*F.n).st<p.rk F.B (E.a<|F.r<|j+r*F.n).st): py F.N ((gQ E j<|.fB r (.mf a)).mu (fA tr (F.L+1+j) T) gs') (E.mu tr gs):=by
 refine XH (λk _=> ?_) d ?_ λk e=>agX e
 .by_cases e:k=F.L+1+j
  .subst e;rw[tW ok (E:=gQ E j _) (show(gQ E j _).N (j+1)=Í from b),tW ok b,jR,gG,c,f,g];rfl
  .refine yI (λ_=>rfl) (λ_ _=>rfl) (λ_=>rfl) (λ_ _=>rfl) (λi _=> ?_)<|fK tr _ e;rw[iP _ Z]
 .rwa[XJ ok,XJ ok,jR,c]
def PI.Dm(H:gS F)(p:PI F b zX E S tr C o gs w qJ){v:ju}(d:j+2<=E.r)(e:E.N (j+1)=Í)(f:gs[F.L+1+j]?=Ã g)(h:g.status=Å)(k:tr (F.L+1+j)=.fD)(l:E.C j=.fB i v): ∀w₁,fJ (o<|F.L+1+j) (o<|F.L+1+j).w w₁->qL F.P É F.B (F.I<|F.r<|j+i*F.n) (F.e (E.I j)<|j+i*F.n) v {o (F.L+1+j)with w:=w₁} g:=by
 let⟨a,c⟩:=p.g j d e;rw[l]at a c;have m:C (F.L+1+j)=.no\/C (F.L+1+j)=.iD:=by rw[c];cases v<;>first|exact À U|exact Á U
 intro w₁ i;have:=p.I.N f h k m w₁ i;rwa[a]at this
def yL(ok:F.Ok)(j:Nat):(F.L+1+j==0)=É:=by have:=ok.r;simp
theorem PI.OU(H:gS F)(p:PI F b zX E S tr C o gs w qJ){x:gO}{l:ff}{T:gB}(u:j+2<=E.r)(m:E.N (j+1)=Í)(n:gs[F.L+1+j]?=Ã g)(v:g.status=Å\/g.status=å) (z:iT F.S (λi=>i<gs.size) E.Y (gA o (F.L+1+j) l) w qJ) (hF:lj F.P É (JW F (E.I j) j x) T l g) (B:iI F (gQ E j x) (gA o (F.L+1+j) l) gs.size w) (D:Wd F (gQ E j x) w) (G:Ps F (gQ E j x)) (I:x.rk F<(E.C j).rk F) (V:∀r,x≠ .jN r):rG F b zX E tr gs w qJ:=by
 refine⟨gQ E j x,_,_,_,_,λh=>h,.r (p.N.N H.C u m) p.b (p.I.M (K:=kW F (E.I j) x) n v z<|by rwa[yL H.C]) B D G p.d (λk y J M=> ?_) λa r f c d=> ?_,Dk H.C (p.G<|iQ n) m I⟩
 .by_cases e:k=F.L+1+j
  .grind
  .rcases p.c k y J M with f|⟨a,q,t,c,d|⟨r,N,s,O,d,Q⟩⟩
   .exact À f
   .exact Á ⟨a,q,t,c,À<|by rwa[iP x Z]⟩
   .exact Á ⟨a,q,t,c,Á ⟨r,N,s,O,by rwa[iP x Z],Q⟩⟩
 .by_cases e:a=j
  .grind [jR]
  .rw[iP x e]at c;exact p.f a r f c d
theorem PI.agZ(H:gS F)(p:PI F b zX E S tr C o gs w qJ){r:Nat}(e:j+2<=E.r)(l:E.N (j+1)=Í)(m:gs[F.L+1+j]?=Ã g)(n:g.status=Å)(s:tr (F.L+1+j)=.fD)(c:E.C j=.fB r .iZ):rG F b zX E tr gs w qJ:=by
 have f:=iQ m;let⟨k,y,t,u⟩:=(p.Dm H e l m n s c) w<|p.I.r.r _ f;have v:iT F.S (λi=>i<gs.size) E.Y (gA o (F.L+1+j) {o (F.L+1+j)with w:=w}) w qJ:=p.I.r.C f (λ_ q=>q) (λa q=>À<|Á q) (λ_ q=>q) (λa q=>À<|Á q) U U U (p.I.r.m _ f)<|p.I.r.g _ f;refine p.OU H (x:=.fB r (.mf (.gh k))) (T:=.fD) e l m (À n) v (λh a=>⟨t,JF u a⟩) ?_ (p.M.Y (by rw[c];rfl)<|by rw[c];rfl) (p.C.G e l (λk=>by rw[c];rfl) (λa h=> ?_) (λa h=> ?_) (λa h=>by cases h) λa h=>by cases h) (by rw[c];simp only[gO.rk,ju.rk];omega) λa h=>by cases h
 .have:=(p.a.r (x:=.fB r (.mf (.gh k)))<|by rw[c];rfl).C (i:=F.L+1+j) (d:=(o<|F.L+1+j).d) (w0:=w)<|Ç _;exact this
 .rcases h with⟨_,h⟩|h|h<;>cases h;exact p.C.d j r e<|À ⟨_,c⟩
 .grind
def XK{y z:Int->Jd}{p:SP}{l:ff}{G:GS}(h:Dc P yQ (fP b) i y z p l g)(j:ic w b G):g.status=Å/\ ((∃f a e,è P yQ g w=Š a w e/\(e=#[]\/e=#[kC<|fP b])/\Dc P yQ (fP b) i y z f l a/\f.rk i G.st<p.rk i G.st)\/ (∃a,è P yQ g w=Š a w #[kC<|fP b]/\(∀c q,G=.cl c q->c=0)/\fl P yQ (y G.st) l a)\/ (∃a c q,G=.cl c q/\0<c/\è P yQ g w=Š a (w.setCell (fP b)<|ë Ó<|Ó.wrap<|G.st+1) #[kC<|fP b,mV<|fP b]/\fl P yQ (z G.st) l a)):=by
 let⟨T,C,x⟩:=h;let⟨J,d⟩:=x p g C;refine⟨J,?_⟩;have D:∀u,T u g->(∀n,u≠ .gh (n+1))->(∀v n,u≠ .ld v (n+1))->u.rk i G.st<=p.rk i G.st->((∃f a e,è P yQ g w=Š a w e/\(e=#[]\/e=#[kC<|fP b])/\Dc P yQ (fP b) i y z f l a/\f.rk i G.st<p.rk i G.st)\/ (∃a,è P yQ g w=Š a w #[kC<|fP b]/\(∀c q,G=.cl c q->c=0)/\fl P yQ (y G.st) l a)\/ (∃a c q,G=.cl c q/\0<c/\è P yQ g w=Š a (w.setCell (fP b)<|ë Ó<|Ó.wrap<|G.st+1) #[kC<|fP b,mV<|fP b]/\fl P yQ (z G.st) l a)):=by
  intro u C K L F;have d:=(x u g C).2;match u,d with
  |.gh (n+1),_=>exact absurd U<|K n
  |.ld v (n+1),_=>exact absurd U<|L v n
  |.gh 0,d=>
   let⟨a,o,k⟩:=d G.st;by_cases f:0<=G.st/\G.st<gd
   .rw[if_pos f]at k;have e:G.st<1000000:=by
     have t:=j.r;cases G with
     |cl c q=>
      let⟨H,I,m⟩:=t;simp only[GS.st,gd]at f|-;have:c=0:=Z
      have:=m this;omega
     |jE q=>simp only[GS.ok]at t;simp only[GS.st];omega
     |gY r s=>simp only[GS.st];omega
    exact Á<|À ⟨a,o w j.C,j.agy.1 f,k e⟩
   .rw[if_neg f]at k;have e:gd<=G.st/\G.st<gd*2147483648/\G.st%gd<1000000:=by
     have t:=j.r;cases G with
     |cl c q=>
      let⟨H,I,_⟩:=t;simp only[GS.st,gd]at f|-;omega
     |jE q=>simp only[GS.ok]at t;simp only[GS.st,gd]at f;omega
     |gY r s=>simp only[GS.st,gd]at f;omega
    let⟨m,M,E⟩:=k e;exact À ⟨.ld G.st m,a,_,o w j.C,Á U,⟨T,E,x⟩,Ê (by simp only[SP.rk,if_true];omega) F⟩
  |.ld v 0,⟨f,⟨a,o,k⟩,g'',E,n,hn,h4⟩=>
   by_cases e:G.st=v
   .subst e;have:∃c q,G=.cl c q/\0<c:=by
     have t:=j.r;cases G with
     |cl c q=>
      refine⟨c,q,U,?_⟩;let⟨H,I,_⟩:=t;simp only[GS.st,gd]at f;omega
     |jE q=>simp only[GS.ok]at t;simp only[GS.st,gd]at f;omega
     |gY r s=>simp only[GS.st,gd]at f;omega
    let⟨c,q,r,s⟩:=this;exact Á<|Á ⟨a,c,q,r,s,o w j.C j.I,k⟩
   .exact À ⟨.gh n,g'',_,E w G.st e j.C j.I,Á U,⟨T,h4,x⟩,Ê (by simp only[SP.rk,if_neg e];omega) F⟩
 match p,d with
 |.gh (n+1),⟨hn,d⟩=>
  rcases d with d|d
  .exact D (.gh 0) d (λn q=>by cases q) (λv n q=>by cases q)<|by simp only[SP.rk];omega
  .let⟨a,o,k⟩:=d w;exact À ⟨.gh n,a,#[],o,À U,⟨T,k,x⟩,by simp only[SP.rk];omega⟩
 |.gh 0,_=>exact D (.gh 0) C (λn q=>by cases q) (λv n q=>by cases q)<|Ç _
 |.ld v (m+1),⟨_,M,d⟩=>
  rcases d with d|d
  .exact D (.ld v 0) d (λn q=>by cases q) (λv n q=>by cases q)<|by simp only[SP.rk];split<;>omega
  .let⟨a,o,k⟩:=d w;exact À ⟨.ld v m,a,#[],o,À U,⟨T,k,x⟩,by simp only[SP.rk];split<;>omega⟩
 |.ld v 0,_=>exact D (.ld v 0) C (λn q=>by cases q) (λv n q=>by cases q)<|Ç _
def PI.ag0(H:gS F)(p:PI F b zX E S tr C o gs w qJ){r:Nat}{v:SP}(G:j+2<=E.r)(s:E.N (j+1)=Í)(hi:gs[F.L+1+j]?=Ã g)(iK:g.status=Å)(ht:tr (F.L+1+j)=.fD)(m:E.C j=.fB r (.mf v)):kh F b zX E tr gs w qJ sl (F.L+1+j):=by
 have gT:=iQ hi;have oy:=p.C.d j r G<|À ⟨_,m⟩;have N:=Gp H.C oy;have X:=H.C.I _ oy;have hG:=p.M.I _ X;obtain⟨hd,oP⟩:=(p.Dm H G s hi iK ht m) w<|p.I.r.r _ gT;have vz:j<F.n:=by have:=Dj p.C;omega
 have ns:=J4 (E:=E) s;have mw:=yL H.C j;have xd:=p.G gT;obtain⟨_,oP⟩:=XK oP hG;rcases oP with⟨p',g',es,h1,I,h3,h4⟩|⟨g',h1,I,h3⟩|⟨g',c,K,Q,tY,h1,I⟩
 .have hes:∀e∈es,tX F.toFx e:=by
   rcases I with rfl|rfl
   .intro e s;simp at s
   .exact yK N
  obtain⟨T',OV,AS⟩:=h3;obtain⟨gs',u,q1,V,q3,q4,q5,q6,q7⟩:=p.Y (J:=JW F (E.I j) j<|.fB r (.mf p')) (T:=.fD) H (kW F (E.I j)<|.fB r (.mf p')) hi (Dl G) N (by rwa[mw]) (À U) hes (by rcases I with rfl|rfl<;>rfl) (λx hs e=>(ns x hs e).elim) (by rw[mw];exact λw₁ jH=>⟨hd,JF ⟨T',OV,AS⟩ jH⟩)<|À (AS _ _ OV).1;refine⟨gQ E j<|.fB r (.mf p'),_,_,_,_,gs',w,u,q1,V,λh=>h,.r (p.N.N H.C G s) (V.trans p.b) q5 (q7.r<|by rw[m];rfl) (p.M.Y (by rw[m];rfl)<|by rw[m];rfl) (p.C.G G s (λk=>by rw[m];rfl) (λf h=> ?_) (λf h=> ?_) (λf h=>by cases h) λf h=>by cases h) q6 (p.c.qI (E':=gQ E j _) q3 (by rw[(AS _ _ OV).1];simp) q4 (λ_ _=>rfl) U U (λ_ _=>rfl) (λ_=>rfl) (λt e=>iP _ Z) (λ_ _ h=>À h) λ_ _ _ _ h=>À h) λt f O z Y=> ?_,agY H.C xd s m ht U h4⟩
  .rcases h with⟨_,h⟩|h|h<;>cases h;exact oy
  .rcases h with h|h|h<;>cases h
  .rw[iP _ (λe=>by subst e;rw[jR]at z;cases z)]at z;exact(p.f t f O z Y).app u
 .obtain⟨T,hT⟩:=jl h3;have nt:=lH (λl g h=>À h.2.1) h3;obtain⟨gs',u,q1,V,q3,q4,q5,q6,q7⟩:=p.Y H (kW F (E.I j)<|.fB r .lk) hi (Dl G) N (by rwa[mw]) (À U) (yK N) U (λx hs e=>(ns x hs e).elim) (by rwa[mw]) nt;refine⟨gQ E j<|.fB r .lk,_,_,_,_,gs',w,u,q1,V,λh=>h,.r (p.N.N H.C G s) (V.trans p.b) q5 (q7.r<|by rw[m];rfl) (p.M.Y (by rw[m];rfl)<|by rw[m];rfl) (p.C.G G s (λk=>by rw[m];rfl) (λf h=> ?_) (λf h=> ?_) (λf h=>by cases h) λf h=>by cases h) q6 (p.c.qI (E':=gQ E j _) q3 (by rcases nt with q|q<;>rw[q]<;>simp) q4 (λ_ _=>rfl) U U (λ_ _=>rfl) (λ_=>rfl) (λt e=>iP _ Z) (λ_ _ h=>À h) λ_ _ _ _ h=>À h) λt f O z Y=> ?_,Dk H.C xd s<|by rw[m];simp only[gO.rk,ju.rk];omega⟩
  .rcases h with⟨_,h⟩|h|h<;>cases h;exact oy
  .have:f=r:=by rcases h with h|h|h<;>cases h;rfl
   subst this;refine ă λAT=> ?_;have:=I _ _<|p.C.e _ Z X AT;omega
  .rw[iP _ (λe=>by subst e;rw[jR]at z;cases z)]at z;exact(p.f t f O z Y).app u
 .have hcd:E.S.od<F.r (j+r*F.n):=by
   refine ñ λhle=> ?_;rcases p.C.Y _ X hle with⟨W,_,q,_⟩|⟨_,_,_,_,q,_⟩|⟨_,⟨q,_⟩|⟨_,q,_⟩⟩<;>(rw[Q]at q;cases q);omega
  have Dn:=p.C.e _ Z X hcd;have e0:=Q.symm.trans Dn;injection e0 with e1 e2;subst e1;have XL:K<=F.n:=by rw[e2];exact Gq λi=>by cases E.C i<;>simp only[gO.gF]<;>first|omega|(split<;>first|omega|(rename_i q _;cases q<;>simp[ju.sU]))
  have yM:=H.C.gk;have Gs:=(Q▸hG:ic w (F.I<|F.r<|j+r*F.n) (.cl 1 K)).Xs Z Z;obtain⟨hv,Gs⟩:=Gs;obtain⟨x,Dp,AU,XM,AV,hx4⟩:∃(x:ju) (Dp:Nat->Option Nat),(x=.wr\/x=.kD)/\fl F.P É (qL F.P É F.B (F.I<|F.r<|j+r*F.n) (F.e (E.I j)<|j+r*F.n) x) {o (F.L+1+j)with w:=w} g'/\((∀M,M≠F.r (j+r*F.n)->Dp M=E.d M)/\∀y,E.d (F.r<|j+r*F.n)=Ã y->Dp (F.r<|j+r*F.n)=Ã y)/\(x=.wr->Dp (F.r<|j+r*F.n)=Ã j):=by
   by_cases hz:K=0
   .subst hz;refine⟨.wr,fA E.d (F.r<|j+r*F.n)<|Ã j,À U,?_,⟨λM tT=>fK _ _ tT,λy hy=> ?_⟩,λ_=>gG _ _ _⟩
    .have:E.a (F.r<|j+r*F.n)=.cl 1 0:=Q;rw[this]at I;have e:(GS.cl 1 0).st%gd=0:=A
     simp only[e,if_true]at I;exact I
    .rw[p.C.y _ X Q]at hy;cases hy
   .refine⟨.kD,E.d,Á U,?_,⟨λ_ _=>rfl,λ_ h=>h⟩,λh=>by cases h⟩;have:E.a (F.r<|j+r*F.n)=.cl 1 K:=Q;rw[this]at I;have e:¬(GS.cl 1 K).st%gd=0:=by simp only[GS.st,gd];omega
    simp only[e,if_false]at I;exact I
  have hxw:x.sU=1:=by rcases AU with rfl|rfl<;>rfl
  have XO:=XM.jw (w₁:=w.setCell (fP<|F.I<|F.r<|j+r*F.n)<|ë Ó<|Ó.wrap<|(GS.cl 1 K).st+1) (by have D:=(kG.r (Á ⟨fP<|F.I<|F.r<|j+r*F.n,_,À U,U⟩:kG (F.I<|F.r<|j+r*F.n) w (w.setCell (fP<|F.I<|F.r<|j+r*F.n)<|ë Ó<|Ó.wrap<|(GS.cl 1 K).st+1)) p.a H.C N);exact⟨Ô D.r.symm,λd ll=>D.jZ d<|p.I.r.I _ gT d ll,λa ha=>D.M _ gT a ha,λa ha=>D.N _ gT a ha,λa _=>D.I a⟩);obtain⟨T,hT⟩:=jl XO;have XP:=lH (λl g h=>by rcases AU with rfl|rfl<;>exact À h.2.1) XM;have OW:kG (F.I<|F.r<|j+r*F.n) w (w.setCell (fP<|F.I<|F.r<|j+r*F.n)<|ë Ó<|Ó.wrap<|(GS.cl 1 K).st+1):=Á ⟨_,_,À U,U⟩;obtain⟨gs',u,q1,V,q3,q4,q5,q6,q7⟩:=p.Y H (kW F (E.I j)<|.fB r x) hi (Dl G) N (by rw[mw];exact(Q▸h1)) OW (AR N) U (λx hs e=>(ns x hs e).elim) (by rwa[mw]) XP;have sV:=xc (f':=λi=>((gQ E j<|.fB r x).C i).gF F i<|F.r<|j+r*F.n) vz (λi lz=>by rw[iP _ lz]);simp only[jR,m]at sV;have tZ:gO.gF F j (F.r<|j+r*F.n) (.fB r x)=1:=by simp only[gO.gF,if_true,hxw]
  have sW:gO.gF F j (F.r<|j+r*F.n) (.fB r (.mf v))=0:=by simp only[gO.gF,if_true];rfl
  rw[tZ,sW]at sV;refine⟨vy E j (.fB r x) (F.r<|j+r*F.n) (.cl 1 (K+1)) Dp,_,_,_,_,gs',_,u,q1,V,λh=>h,.r ?_ (V.trans p.b) q5 ?_ ?_ (p.C.XD G s (λM tT=> ?_) (λ_ _=> ?_) (λh=>by omega) (λ⟨a,d,h⟩=> ?_) (λh=>by injection h with _ h;omega) AV.1 AV.2 (λf h=> ?_) (λf h=> ?_) (λf h=> ?_) λf h=> ?_) (q6.agB λM y hy=> ?_) ?_ λt f O z Y=> ?_,?_⟩
  .have:=p.N.N (x:=.fB r x) (T:=T) H.C G s;exact⟨this.M,this.Y,this.I,this.C,this.r⟩
  .have:=q7.r (x:=.fB r x) (by rw[m];rfl);exact⟨this.gU,this.o,this.lT,this.e,this.f,this.h,this.l,this.S,this.M,this.c,this.I,this.N,this.g,this.d⟩
  .have W1:=OW.I H p.a p.C p.M N (Gg:=fA E.a (F.r<|j+r*F.n)<|.cl 1 (K+1)) ⟨λe=>absurd e<|H.C.M _ X,λ_=>rfl⟩ λM tT=>⟨λe=> ?_,λe=>fK _ _ λe'=>e<|by rw[e']⟩
   .have W2:=W1.Y (x:=.fB r x) (by show _=(E.C j).kF;rw[m];rfl) (by show _=(E.C j).iO;rw[m];rfl);exact⟨W2.C,W2.I,W2.jG,W2.M,W2.S,W2.N⟩
   .rwa[<-(H.C.S _ _ X tT e),gG]
  .rw[m];simp only[gO.gF,if_neg<|ÿ tT]
  .congr 1;rw[<-e2]at sV;omega
  .rw[Q]at h;cases h
  .rcases h with⟨_,h⟩|h|h<;>cases h;exact oy
  .rcases h with h|h|h<;>cases h<;>(rcases AU with h|h<;>cases h)
  .cases h;rcases AU with h|h<;>cases h
  .cases h;exact hx4 U
  .by_cases e:M=F.r (j+r*F.n)
   .subst e;exact AV.2 y hy
   .show Dp M=Ã y;rwa[AV.1 M e]
  .refine p.c.qI (E':=vy E j _ _ _ _) q3 (by rcases XP with q|q<;>rw[q]<;>simp) q4 (λt oR=>OW.C p.C N oR) U U (λ_ _=>rfl) (λ_=>rfl) (λt e=>iP _ Z) (λ_ _ h=>À h) λt f _ _ h=>À ?_;by_cases e:F.r (t+f*F.n)=F.r (j+r*F.n)
   .show(fA E.a _ _ _).sm=0;rw[e,gG];rfl
   .show(fA E.a _ _ _).sm=0;rwa[fK _ _ e]
  .have e:t≠j:=λe=>by
    subst e;have:(gQ E t<|.fB r x).C t=.jN f:=z;rw[jR]at this;cases this
   have AW:(gQ E j<|.fB r x).C t=.jN f:=z;rw[iP _ e]at AW;exact(p.f t f O AW Y).app u
  .have:=Dk (E:=E) (tr:=tr) (gs:=gs) (gs':=gs') (x:=.fB r x) (T:=T) H.C xd s (by rw[m];rcases AU with rfl|rfl<;>simp only[gO.rk,ju.rk]<;>omega);rcases this with⟨i,O,z,Y⟩|⟨O,_⟩
   .exact À ⟨i,O,z,Y⟩
   .exfalso;have:=O _ xd;change(gQ E j<|.fB r x).iU (fA tr (F.L+1+j) T) (F.L+1+j)=E.iU tr (F.L+1+j)at this;rw[tW H.C (E:=gQ E j _) (show(gQ E j _).N (j+1)=Í from s),tW H.C s,jR,m]at this;injection this with e _;rcases AU with rfl|rfl<;>simp only[gO.rk,ju.rk]at e<;>omega
end
section
variable{F:Ph}{E E':fV F}{S:Nat->Jd}{s D:Nat->gB}{B:Nat->iC}{f:Nat->ff}{c o:Array Ä}{u:ä}{sl:Option (Nat×Nat)}
def PI.OX(H:gS F)(p:PI F j zX E S s B f c w qJ){x:gO}{a:Ä}{T:gB}(y:i+2<=E.r)(d:E.N (i+1)=Í)(z:c[F.L+1+i]?=Ã g)(C:Ŏ F.P (ð c w sl) (F.L+1+i)=(ğ<|ð o w sl,u))(l:o.size=c.size)(D:o[F.L+1+i]?=Ã a)(G:a.status=Å\/a.status=å)(I:∀k,k≠F.L+1+i->o[k]?=c[k]?.map (Ā F.P g a w)) (J:gM F.P F.S E.Y (fA S (F.L+1+i)<|JW F (E.I i) i x) (fA s (F.L+1+i) T) (fA B (F.L+1+i)<|kW F (E.I i) x) (gA f (F.L+1+i) {f (F.L+1+i)with w:=w}) o w (qJ++u)) (K:TI F.toFx j zX E.r E.S.rl E.V E.e E.d E.iz E.f (qJ++u)) (M:iI F E (gA f (F.L+1+i) {f (F.L+1+i)with w:=w}) o.size w) (m:x.kF=(E.C i).kF) (N:x.iO=(E.C i).iO) (O:Ps F (gQ E i x)) (Q:x.rk F<(E.C i).rk F) (W:∀r,x=.jN r->1<=F.r (i+r*F.n)->Λ (qJ++u) (F.L+1+i) (E.e<|F.r<|i+r*F.n)):kh F j zX E s c w qJ sl (F.L+1+i):=by
 refine⟨gQ E i x,_,_,_,_,o,w,u,C,l,λh=>h,.r (p.N.N H.C y d) (l.trans p.b) J (M.r m) (p.M.Y m N) O K (p.c.qI (E':=gQ E i _) D (by rcases G with q|q<;>rw[q]<;>simp) I (λ_ _=>rfl) U U (λ_ _=>rfl) (λ_=>rfl) (λb e=>iP _ Z) (λ_ _ h=>À h) λ_ _ _ _ h=>À h) λb t X q v=> ?_,Dk H.C (p.G<|iQ z) d Q⟩
 .by_cases e:b=i
  .subst e;rw[jR]at q;exact W t q v
  .rw[iP _ e]at q;exact(p.f b t X q v).app u
def OY{r:Nat}{v:ju}(h:v.sU=0):gO.gF F j k (.fB r v)=0:=by simp only[gO.gF,h];split<;>rfl
def xe{a:Ă}(h:a∈#[wQ]):a=wQ:=by simpa using h
def ag1{i:Nat}{fn:Ĵ}{pos:String}{m:Ο}:∃y:Ă,Û i fn pos #[j0 m]=#[y]/\y.g=i/\y.act=ė m:=⟨{g:=i,fn,pos,act:=ė m},by simp[Û,j0,Ë],U,U⟩
def PI.AX(H:gS F)(p:PI F j zX E S s B f c w qJ){a:Ä}{m:Ο}{J:Jd}{T:gB}(K:iC)(v:c[i]?=Ã g)(x:è F.P (i==0) g w=Š a w #[j0 m])(z:m≠ô)(C:m≠î) (D:∀y:Ă,y.act=ė m->(∀b,y.act.touch?=Ã b->F5 (λi=>i<c.size) E.Y f b)/\y.act.low w.heap.size) (G:∀y:Ă,y.g=i->y.act=ė m->∀I,¬Race I (qJ++#[y])) (hF:lj F.P (i==0) J T {f i with w:=w} a) (L:a.status=Å\/a.status=å): ∃o y,y.g=i/\y.act=ė m/\Ŏ F.P (ð c w sl) i=(ğ<|ð o w sl,#[y])/\o.size=c.size/\o[i]?=Ã a/\(∀k,k≠i->o[k]?=c[k]?.map (Ā F.P g a w))/\ gM F.P F.S E.Y (fA S i J) (fA s i T) (fA B i K) (gA f i {f i with w:=w}) o w (qJ++#[y])/\iI F E (gA f i {f i with w:=w}) o.size w:=by
 obtain⟨y,l,n,h⟩:=ag1;have r:Ï (f i).d #[j0 m]=(f i).d:=ĺ (λe k=>by
  have:e=j0 m:=by simpa using k
  subst this;exact⟨λq=>z (by injection q),λq=>C (by injection q)⟩) _
 have M:∀e∈#[j0 m],Ë e=y.act:=λe k=>by
  have:e=j0 m:=by simpa using k
  subst this;rw[h];rfl
 obtain⟨o,q,t,N,O,u⟩:=p.I.qI v x (p6.fX _ _ _ _) (by rwa[r]) L (λe k=>by rw[M e k];exact D y h) (by rw[l];exact G y n h);rw[r,l]at u;rw[l]at q;refine⟨o,y,n,h,q,t,N,O,u,?_⟩;rw[t];exact p.a.C<|Ç _
def OZ(H:gS F)(p:PI F j zX E S s B f c w qJ)(hb:F.M b)(D:yJ E i){m:Ο}(N:m=.read (gX b)\/m=Υ (gX b))(T:F.OJ E.d (gX b) (Ã i))(W:∀x,E.iz x->i≠F.L+x): (∀y:Ă,y.act=ė m->(∀b,y.act.touch?=Ã b->F5 (λi=>i<c.size) E.Y f b)/\y.act.low w.heap.size)/\(∀y:Ă,y.g=i->y.act=ė m->∀O,¬Race O (qJ++#[y]))/\∀y:Ă,y.g=i->y.act=ė m->TI F.toFx j zX E.r E.S.rl E.V E.e E.d E.iz E.f (qJ++#[y]):=by
 have C:=p.I.r;have G:∀y:Ă,y.act=ė m->∀a,y.act.touch?=Ã a->a.loc=ú (gX b)/\a.kind=.said:=λy t a l=>by rw[t]at l;rcases N with rfl|rfl<;>simp[Ċ]at l<;>subst l<;>exact⟨U,U⟩
 have u:=(xa hb).2;refine⟨λy t=>⟨λa l=>À ⟨_,(G y t a l).1,xb u,λk D=>p.a.Y H.C u k D⟩,?_⟩,λy I t=>λO=> ?_,λy I t=> ?_⟩
 .have:=C.N _<|xb (E:=E) u;rw[t];rcases N with rfl|rfl<;>exact this
 .refine noRace_append (C.l O) (λd h=>by rw[xe h,I]) λq a l d h z hz X=> ?_;have:d=y:=by simpa using h
  subst this;let⟨n,P⟩:=G d t z hz;rcases p.d.M q a _ l (X.1.trans n) u with⟨J,o⟩|r|⟨_,r⟩
  .exact XF p.d D J o
  .let⟨_,_,_,v⟩:=X;rw[r,P]at v;rcases v with v|v|⟨_,v,_⟩<;>cases v
  .have e:qJ.g? q=Ã i:=by
    rcases T with⟨K,M⟩|⟨k,v,K,M,s3,s4⟩
    .rcases r with⟨_,o⟩|⟨k,v,Q,o,_,_⟩
     .rw[o,M]
     .rw[K]at o;exact absurd (by injection o with o _ _;exact o.symm)<|H.C.M k Q
    .rcases r with⟨J,_⟩|⟨k',j',Q,o,r3,r4⟩
     .rw[M]at J;exact absurd (by injection J)<|H.C.M k K
     .rw[M]at o;have:k=k':=H.C.S _ _ K Q (by injection o);subst this;rw[s3]at r3;obtain rfl:=È r3;rw[r4,s4]
   let⟨M,v,K⟩:=Ù.1 e;have:=knows_own v;rwa[K]at this
 .refine p.d.C ⟨λd h a _=>by rw[xe h,I],D.imp id À,λd h a x l o K=> ?_,λd h a z l Q o k X J=> ?_,λd h b' _ e=> ?_,λx K q=>⟨λr M=>M.appOther (λd h=>by rw[xe h,I])<|W x q,λe=>absurd e.symm<|W x q⟩⟩
  .have:d=y:=by simpa using h
   subst this;let⟨n,P⟩:=G d t a l;rw[o]at n;injection n with n;subst n;exact Á ⟨P,T⟩
  .have:d=y:=by simpa using h
   subst this;let⟨n,_⟩:=G d t a l;rw[o]at n;injection n with n;subst n;exact⟨λv=>(p.a.I k (Ø J<|JY p.C) _ v).2.1<|xb u,λe=>by simp[gX,jg]at e⟩
  .have:d=y:=by simpa using h
   subst this;rw[t]at e;rcases N with rfl|rfl<;>simp at e
theorem PI.ag2(H:gS F)(p:PI F j zX E S s B f c w qJ){r:Nat}(b:i+2<=E.r)(d:E.N (i+1)=Í)(q:c[F.L+1+i]?=Ã g)(z:g.status=Å)(C:s (F.L+1+i)=.fD)(a:E.C i=.fB r .wr):kh F j zX E s c w qJ sl (F.L+1+i):=by let⟨Y,_,g',D,t⟩:=p.Dm H b d q z C a w<|p.I.r.r _<|iQ q;have u:=p.C.d i r b<|À ⟨_,a⟩;have v:=yL H.C i;let⟨G,I,K⟩:=OZ H p (Gp H.C u) (Dl b) (m:=Υ<|gX<|F.I<|F.r<|i+r*F.n) (Á U) (Á ⟨_,i,H.C.I _ u,U,p.C.D i r b a,U⟩) λx h e=>(J4 (E:=E) d) x h e;let⟨T,M⟩:=jl t;have x:=lH (λl g h=>À h.2.1) t;obtain⟨o,y,l,N,O,P,Q,V,W,X⟩:=p.AX (J:=JW F (E.I i) i<|.fB r .kD) H (kW F (E.I i)<|.fB r .kD) q (by rw[v];exact D w) fq fq G I (by rwa[v]) x;refine p.OX H b d q O P Q x V W (K y l N) X (by rw[a];rfl) (by rw[a];rfl) (p.C.G b d (λk=>by rw[a];rfl) (λe h=> ?_) (λe h=> ?_) (λe h=>by cases h) λe h=>by cases h) (by rw[a];simp only[gO.rk,ju.rk];omega) (λe h=>by cases h);all_goals grind
theorem PI.ag3(H:gS F)(p:PI F j zX E S s B f c w qJ){r:Nat}(m:i+2<=E.r)(n:E.N (i+1)=Í)(q:c[F.L+1+i]?=Ã g)(G:g.status=Å)(I:s (F.L+1+i)=.fD)(d:E.C i=.fB r .gC):kh F j zX E s c w qJ sl (F.L+1+i):=by
 let⟨hd,_,K⟩:=p.Dm H m n q G I d w<|p.I.r.r _<|iQ q;have v:=p.C.d i r m<|À ⟨_,d⟩;have y:=Gp H.C v;have z:=yL H.C i;let⟨a,b,M⟩:=p.C.H i r m d;have C:=p.M.I _<|H.C.I _ v;rw[M]at C;let⟨g',N,t⟩:=K 0;simp only[if_true]at t;let⟨T,O⟩:=jl t;have D:=lH (λl g h=>À h.2.1) t;obtain⟨o,u,l,P,Q,V,W,X,Y⟩:=p.Y (J:=JW F (E.I i) i<|.fB r .lk) H (kW F (E.I i)<|.fB r .lk) q (Dl m) y (by rw[z];exact N w C.C) (À U) (yK y) U (λx k e=>(J4 n x k e).elim) (by rwa[z]) D;refine p.OX H m n q l P Q D V W X Y (by rw[d];rfl) (by rw[d];rfl) (p.C.G m n (λk=>by rw[d];rfl) (λe h=> ?_) (λe h=> ?_) (λe h=>by cases h) λe h=>by cases h) (by rw[d];simp only[gO.rk,ju.rk];omega) λe h=>by cases h
 .grind
 .rcases h with h|h|h<;>cases h;exact p.C.w i r m<|À d
theorem PI.ag4(H:gS F)(p:PI F j zX E S s B f c w qJ){r:Nat}(d:i+2<=E.r)(t:E.N (i+1)=Í)(q:c[F.L+1+i]?=Ã g)(I:g.status=Å)(K:s (F.L+1+i)=.fD)(a:E.C i=.fB r .lk):kh F j zX E s c w qJ sl (F.L+1+i):=by
 have v:=iQ q;let⟨M,_,g',N,x⟩:=p.Dm H d t q I K a w<|p.I.r.r _ v;have O:=p.C.d i r d<|À ⟨_,a⟩;have C:=Gp H.C O;have D:=yL H.C i;have u:∀y:Ă,y.act=ė (Œ<|fP<|F.I<|F.r<|i+r*F.n)->y.act.touch?=Í:=λy m=>by rw[m];rfl
 let⟨T,P⟩:=jl x;have G:=lH (λl g h=>À<|H.Y _ _ _ _ h) x;obtain⟨o,y,Q,l,V,W,X,Y,q5,q7⟩:=p.AX (J:=JW F (E.I i) i<|.jN r) H (kW F (E.I i)<|.jN r) q (by rw[D];exact N w) fq fq (λy m=>⟨λz k=>(by rw[u y m]at k;cases k),by rw[m];exact p.I.r.N _<|À C⟩) (λy _ m=>AH p.I.r.l λz k=>by rw[xe k];exact u y m) (by rwa[D]) G;have Dq:=p.d.C (yF (λz k=>by rw[xe k];exact u y l) λz k b _ e=>by grind);refine p.OX H d t q V W X G Y q5 Dq q7 (by rw[a];rfl) (by rw[a];rfl) (p.C.G d t (λk=>by rw[a,OY U];rfl) (λk h=> ?_) (λk h=> ?_) (λk h=>by cases h) λk h=>by cases h) (by rw[a];simp only[gO.rk,ju.rk];omega) λk h z=> ?_
 .grind
 .rcases h with h|h|h<;>cases h;exact p.C.w i r d<|Á<|À a
 .cases h;let⟨k,b,e⟩:=p.d.Y _ z<|Ø (p.C.w i r d<|Á<|À a)<|OP _;exact Xv k b e (p.d.c _ C) Q l<|(p.I.r.f _ v).trans M
end
section
variable{F:Ph}{E E':fV F}{S:Nat->Jd}{tr o:Nat->gB}{f:Nat->iC}{d:Nat->ff}{gs gs':Array Ä}{u:ä}{sl:Option (Nat×Nat)}
def XQ{G:GS}(h:G.sm≠0):∃a s,G=.gY a (s+1):=by
 cases G with
 |cl c b=>exact absurd U h
 |jE b=>exact absurd U h
 |gY a s=>cases s with
  |zero=>exact absurd U h
  |succ s=>exact⟨a,s,U⟩
def Dr(h:gs[i]?=Ã g):gf gs i=if g.status=Å then 1 else 0:=by unfold gf;rw[h];simp
def O0(h:gs'[i]?=gs[i]?):gf gs' i=gf gs i:=by unfold gf;rw[h]
theorem PI.ag5(H:gS F)(p:PI F n zX E S tr f d gs w qJ){j r:Nat}{g:Ä}(t:j+2<=E.r)(m:E.N (j+1)=Í)(v:gs[F.L+1+j]?=Ã g)(z:g.status=Å)(ht:tr (F.L+1+j)=.fD)(c:E.C j=.fB r .kD):kh F n zX E tr gs w qJ sl (F.L+1+j):=by
 have B:=iQ v;obtain⟨hd,_,ho,O1,g',h1,h2⟩:=(p.Dm H t m v z ht c) w<|p.I.r.r _ B;have Q:=p.C.d j r t<|À ⟨_,c⟩;have C:=Gp H.C Q;have G:=H.C.I _ Q;have V:=yL H.C j;have X:=p.G B;have vz:j<F.n:=by have:=Dj p.C;omega
 have hG:=p.M.I _ G;by_cases K:(E.a<|F.r<|j+r*F.n).sm=0
 .have q:=hG.M;rw[K]at q;obtain⟨tZ,I⟩:=p.g j t m;rw[c]at tZ I;obtain⟨gs',q1,o,M,q4⟩:=Ot v (by rw[V];exact(O1 w q));have s:∀x,Ā F.P g {g with status:=Ü} w x=x:=by
   intro x;unfold Ā;rw[if_neg fq]
  have b:∀k,k≠F.L+1+j->gs'[k]?=gs[k]?:=by
   intro k a;rw[q4 k a];cases gs[k]? with
   |none=>rfl
   |some x=>simp[s]
  have D:gM F.P F.S E.Y S tr f d gs' w (qJ++#[]):=by
   rw[Ú];obtain⟨g0,J,l,W,O⟩:=p.I.C _ g v;have N:g=g0:=by
    rw[I]at l;cases l with
    |gf=>rfl
    |nY h ho=>cases z
   subst N;refine⟨?_,λk y a=> ?_,λk a=>p.I.I k<|by rwa[<-o]⟩
   .rw[show(λi=>i<gs'.size)=(λi=>i<gs.size) by rw[o]];exact p.I.r
   .by_cases e:k=F.L+1+j
    .subst e;rw[M]at a;obtain rfl:=È a;refine⟨g,J,?_,À z,Á ht⟩;rw[I];exact .nY z ho
    .rw[b k e]at a;exact p.I.C k y a
  refine⟨E,S,tr,f,d,gs',w,#[],q1,o,λh=>h,.r p.N (o.trans p.b) D (by rw[o];exact p.a) p.M p.C (by rw[Ú];exact p.d) (λk y a l=> ?_) (by rw[Ú];exact p.f),OT (λ_ _=>rfl) X (by rw[Dr v,if_pos z]) (by rw[Dr M,if_neg fq]) λk a=>O0<|b k a⟩;by_cases e:k=F.L+1+j
  .subst e;exact Á ⟨j,t,m,U,À ⟨r,c,K⟩⟩
  .rw[b k e]at a;exact p.c k y a l
 .obtain⟨a,s,y⟩:=XQ K;have O2:=y▸hG;have Ds:=h1 w _ (by simp only[GS.sm];omega) O2.M O2.N;have N:kG (F.I<|F.r<|j+r*F.n) w (w.setCell (gX<|F.I<|F.r<|j+r*F.n)<|ë ç<|(GS.gY a<|s+1).sm-1):=Á ⟨_,_,Á U,U⟩;have D:=N.r p.a H.C C;obtain⟨T,hT⟩:=jl (h2.jw (w₁:=w.setCell (gX<|F.I<|F.r<|j+r*F.n)<|ë ç<|(GS.gY a<|s+1).sm-1) ⟨Ô D.r.symm,λb l=>D.jZ b<|p.I.r.I _ B b l,λa k=>D.M _ B a k,λa k=>D.N _ B a k,λa _=>D.I a⟩);have nt:=lH (λl g h=>À h.2.1) h2;obtain⟨gs',u,q1,o,M,q4,q5,q6,q7⟩:=p.Y H (kW F (E.I j)<|.fB r .gC) v (Dl t) C (by rwa[V]) N (Gm C) (Gn _).2.2.2 (λx l e=>(J4 m x l e).elim) (by rwa[V]) nt;have hle:F.r (j+r*F.n)<=E.S.od:=by
   refine ă λl=> ?_;have:=p.C.e _ Z G l;rw[y]at this;cases this
  have sV:=xc (f':=λi=>((gQ E j<|.fB r .gC).C i).gF F i<|F.r<|j+r*F.n) vz (λi l=>by rw[iP _ l]);simp only[jR,c]at sV;have tZ:gO.gF F j (F.r<|j+r*F.n) (.fB r .gC)=0:=by simp only[gO.gF,if_true];rfl
  have I:gO.gF F j (F.r<|j+r*F.n) (.fB r .kD)=1:=by simp only[gO.gF,if_true];rfl
  rw[tZ,I]at sV;refine⟨vy E j (.fB r .gC) (F.r<|j+r*F.n) (.gY a s) E.d,_,_,_,_,gs',_,u,q1,o,λh=>h,.r ?_ (o.trans p.b) q5 ?_ ?_ (p.C.XD t m (λl q=> ?_) (λ_ h=>by omega) (λ_=> ?_) (λ_=>⟨a,s,U⟩) (λh=>by cases h) (λ_ _=>rfl) (λ_ h=>h) (λb h=> ?_) (λb h=> ?_) (λb h=> ?_) λb h=>by cases h) q6 ?_ λk b J O a3=> ?_,?_⟩
  .have:=p.N.N (x:=.fB r .gC) (T:=T) H.C t m;exact⟨this.M,this.Y,this.I,this.C,this.r⟩
  .have:=q7.r (x:=.fB r .gC) (by rw[c];rfl);exact⟨this.gU,this.o,this.lT,this.e,this.f,this.h,this.l,this.S,this.M,this.c,this.I,this.N,this.g,this.d⟩
  .have W:=N.I H p.a p.C p.M C (Gg:=fA E.a (F.r<|j+r*F.n)<|.gY a s) ⟨λe=>absurd e<|H.C.M _ G,λ_=>rfl⟩ λl q=>⟨λe=> ?_,λe=>fK _ _ λe'=>e<|by rw[e']⟩
   .have l:=W.Y (x:=.fB r .gC) (by show _=(E.C j).kF;rw[c];rfl) (by show _=(E.C j).iO;rw[c];rfl);exact⟨l.C,l.I,l.jG,l.M,l.S,l.N⟩
   .rw[<-(H.C.S _ _ G q e),gG];exact O2.kD
  .rw[c];simp only[gO.gF,if_neg<|ÿ q]
  .rcases p.C.Y _ G hle with⟨W,_,q,_⟩|⟨r1,s1,l,z2,q,z3⟩|⟨l,⟨q,_⟩|⟨s1,q,z3⟩⟩
   .rw[y]at q;cases q
   .rw[y]at q;injection q with e1 e2;subst e1 e2;exact Á<|À ⟨a,s,l,z2,U,Z⟩
   .rw[y]at q;cases q
   .rw[y]at q;injection q with e1 e2;subst e1 e2;exact Á<|Á ⟨l,Á ⟨s,U,Z⟩⟩
  .rcases h with⟨_,h⟩|h|h<;>cases h;exact Q
  .rcases h with h|h|h<;>cases h;exact hle
  .cases h;exact⟨a,s,gG _ _ _⟩
  .refine p.c.qI (E':=vy E j _ _ _ _) M (by rcases nt with q|q<;>rw[q]<;>simp) q4 (λk l=>N.C p.C C l) U U (λ_ _=>rfl) (λ_=>rfl) (λk e=>iP _ Z) (λ_ _ h=>À h) λk b _ _ h=>À ?_;by_cases e:F.r (k+b*F.n)=F.r (j+r*F.n)
   .rw[e]at h;exact absurd h K
   .show(fA E.a _ _ _).sm=0;rwa[fK _ _ e]
  .have e:k≠j:=λe=>by
    subst e;have:(gQ E k<|.fB r .gC).C k=.jN b:=O;rw[jR]at this;cases this
   have l:(gQ E j<|.fB r .gC).C k=.jN b:=O;rw[iP _ e]at l;exact(p.f k b J l a3).app u
  .have:=Dk (E:=E) (tr:=tr) (gs:=gs) (gs':=gs') (x:=.fB r .gC) (T:=T) H.C X m (by rw[c];simp only[gO.rk,ju.rk];omega);rcases this with⟨i,J,O,a3⟩|⟨J,_⟩
   .exact À ⟨i,J,O,a3⟩
   .exfalso;have:=J _ X;change(gQ E j<|.fB r .gC).iU (fA tr (F.L+1+j) T) (F.L+1+j)=E.iU tr (F.L+1+j)at this;rw[tW H.C (E:=gQ E j _) (show(gQ E j _).N (j+1)=Í from m),tW H.C m,jR,c]at this;injection this with e _;simp only[gO.rk,ju.rk]at e;omega
theorem iI.ag6(L:iI F E d i w){l:ff}(H:∀b,l.O b->(d n).O b)(I:∀b,(d n).I b->l.I b)(J:∀a,l.r a->(d n).r a)(K:∀a,(d n).r a->l.r a)(M:∀a,(d n).N a->l.N a)(N:∀a,l.C a->(∃k,k<=F.m/\a=jg F.toFx k)\/∃p,p≠F.f/\a=jo F p)(P:l.q=(d n).q)(s:¬l.q):iI F E (gA d n l) i w:=by
 have D:∀k,d k=kE (d k)->k≠n:=λk f e=>by
  subst e;have:(d k).q:=by rw[f];trivial
  grind
 have Q:∀k b,(gA d n l k).O b->(d k).O b:=λk b h=>by grind [gV,gI]
 have t:∀k a,(gA d n l k).r a↔(d k).r a:=λk a=>by grind [gV,gI]
 have y:∀k b,(d k).I b->(gA d n l k).I b:=λk b h=>by grind [gV,gI]
 have z:∀k a,(d k).N a->(gA d n l k).N a:=λk a h=>by grind [gV,gI]
 refine⟨λk f a v=> ?_,λx c o a v=>(t _ _).2<|L.o x c o a v,λh=>⟨z _ _ (L.lT h).1,λb s=>y _ _<|(L.lT h).2 b s⟩,λh k c o=>⟨(t _ _).2 (L.e h k c o).1,(t _ _).2 (L.e h k c o).2⟩,λh u=>⟨z _ _ (L.f h u).1,λb s=>y _ _<|(L.f h u).2 b s⟩,λj g u r B c=>(t _ _).2<|L.h j g u r B c,λj g u=>⟨z _ _ (L.l j g u).1,λb s=>y _ _<|(L.l j g u).2 b s⟩,λx G=> ?_,λk f=> ?_,λk c o=> ?_,λk f b s=> ?_,λk f j g h=>L.N k f j g<|(t _ _).1 h,λk c o j g h=>L.g k c o j g<|(t _ _).1 h,λj g r B c k f h=>L.d j g r B c k f<|(t _ _).1 h⟩
 .by_cases e:k=n
  .grind [gV]
  .rw[gI d _ e]at v;exact L.gU k f a v
 .rw[gI d _<|D _<|L.S x G];exact L.S x G
 .by_cases e:k=n
  .grind [gV]
  .rw[gI d _ e];exact L.M k f
 .rw[gI d _<|D _<|L.c k c o];exact L.c k c o
 .let⟨S,T,V⟩:=L.I k f b s;grind
theorem PI.ag7(H:gS F)(p:PI F n zX E S tr f d gs w qJ){r:Nat}(o:j+2<=E.r)(s:E.N (j+1)=Í)(u:gs[F.L+1+j]?=Ã g)(x:g.status=Å)(I:tr (F.L+1+j)=.fD)(m:E.C j=.jN r):rG F n zX E tr gs w qJ:=by
 have c:=iQ u;have C:=p.I.r;obtain⟨y,z⟩:=p.g j o s;rw[m]at y z;have B:=p.I.N u x I (À z) w<|C.r _ c;rw[y]at B;have v:=p.C.d j r o<|Á<|À m;have J:=H.C.I _ v;have D:=p.C.w j r o<|Á<|Á m;have t:=Ø D<|Ø (OP _)<|JY p.C;obtain⟨K,M⟩:=p.M.M _ t;have N:=λa l=>by
  by_cases e:1<=F.r (j+r*F.n)
  .exact(p.d.I _ e (Ø D<|OP _) a l).agz<|p.f j r o m e
  .have h:F.r (j+r*F.n)=0:=Z
   obtain⟨i,b⟩:=p.a.l j o s;rw[h]at l;rcases l with l|rfl
   .rw[p.C.v]at l;exact(C.S _ c).C a<|b _ l
   .exact(C.S _ c).r _ i
 have G:iT F.S (λi=>i<gs.size) E.Y (gA d (F.L+1+j) {d (F.L+1+j)with I:=λb=>(d<|F.L+1+j).I b\/E.V (F.r<|j+r*F.n) b,N:=λa=>(d<|F.L+1+j).N a\/a=jg F.toFx (F.r<|j+r*F.n),w:=w}) w qJ:=by
  refine C.C c (λ_ q=>q) (λb q=> ?_) (λ_ q=>q) (λa q=> ?_) U U U (λb h q=> ?_) λa l q=> ?_
  .rcases q with q|q
   .exact À<|Á q
   .obtain⟨i,k,O⟩:=p.a.I _ t b q;grind
  .rcases q with q|rfl
   .exact À<|Á q
   .exact Á ⟨À<|Á ⟨_,J,U⟩,λk e=>p.a.N _ t k e,N _<|Á U⟩
  .rcases q with q|q
   .exact C.m _ c b h q
   .exact(p.a.I _ t b q).2.2 _ c h
  .rcases q with q|rfl
   .exact C.g _ c a l q
   .exact p.a.N _ t _ c l
 have i:=G.M c;rw[gV]at i;obtain⟨T,O⟩:=jl (H.e (E.I j) j r _ _ _ g v B {d (F.L+1+j)with I:=λb=>(d<|F.L+1+j).I b\/E.V (F.r<|j+r*F.n) b,N:=λa=>(d<|F.L+1+j).N a\/a=jg F.toFx (F.r<|j+r*F.n),w:=w} i U (λb q=>q) U U U U U K M (Á U)<|p.a.h j o s r v<|by rw[m];exact Ç _);refine p.OU H o s u (À x) G O ?_ (p.M.Y (by rw[m];rfl)<|by rw[m];rfl) (p.C.G o s (λk=>by rw[m];rfl) (λe h=> ?_) (λe h=> ?_) (λe h=>by cases h) λe h=>by cases h) ?_ λe h=>by cases h
 .refine(p.a.r<|by rw[m];rfl).ag6 (λ_ q=>q) (λ_ q=>À q) (λ_ q=>q) (λ_ q=>q) (λ_ q=>À q) (λa l=> ?_) U (p.a.M (F.L+1+j)<|Á ⟨j+1,Z,Z,λ⟨e,h,_⟩=>by rw[s]at h;cases h⟩);rcases l with q|q|rfl
  .exact p.a.gU _ c a<|À q
  .exact p.a.gU _ c a<|Á q
  .grind
 .grind
 .grind
 .rw[m];simp only[gO.rk];have h:F.n+3000<=(F.n+3000)*(F.q+3-r):=â _ (by
   have:r<=F.q:=by have:r*1<=r*F.n:=ï _ H.C.N;omega
   omega)
  omega
def PI.ag8(H:gS F)(p:PI F n zX E S tr f d gs w qJ){r:Nat}(G:j+2<=E.r)(I:E.N (j+1)=Í)(V:gs[F.L+1+j]?=Ã g)(iK:g.status=Å)(ht:tr (F.L+1+j)=.fD)(u:E.C j=.oO r):rG F n zX E tr gs w qJ:=by
 have D:=iQ V;have C:=p.I.r;let⟨tZ,sW⟩:=p.g j G I;rw[u]at tZ sW;have hJ:=p.I.N V iK ht<|À sW;rw[tZ]at hJ;let⟨hcell,hrecv⟩:=hJ w<|C.r _ D;have oy:=p.C.d j r G<|Á<|Á u;have J5:=p.a.h j G I r oy (by rw[u];exact Ç _);have J6:r<=F.q:=by have:r*1<=r*F.n:=ï _ H.C.N;omega
 have ua:iT F.S (λi=>i<gs.size) E.Y (gA d (F.L+1+j)<|vx F {d (F.L+1+j)with w:=w}<|j+r*F.n) w qJ:=by
  refine C.C D (λ_ q=>q) (λb q=>À<|Á q) (λ_ q=>q.1) (λa q=> ?_) U U U (λb t q=>C.m _ D b t q) λa s q=> ?_
  .rcases q with q|rfl
   .exact À<|Á q
   .exact À<|À J5
  .rcases q with q|q
   .exact C.g _ D a s.1 q
   .exact s.2 q
 have hF:lj F.P É (JW F (E.I j) j<|.ny (r+1)) .fD (vx F {d (F.L+1+j)with w:=w}<|j+r*F.n) g:=λw₁ jH=>by let⟨Q,W,c,e⟩:=hrecv;exact⟨Q,W,c,λx=>(e x).jw jH⟩
 refine p.OU H G I V (À iK) ua hF ?_ ?_ (p.C.G G I (λk=>by rw[u];rfl) (λm h=> ?_) (λm h=> ?_) (λm h=>by cases h) λm h=>by cases h) ?_ λm h=>by cases h
 .have L:=p.a;have J:∀k a,(gA d (F.L+1+j) (vx F {d (F.L+1+j)with w:=w}<|j+r*F.n) k).r a->(d k).r a:=λk a h=>by
   by_cases e:k=F.L+1+j
   .subst e;rw[gV]at h;exact h.1
   .rwa[gI d _ e]at h
  have K:∀k a,(d k).r a->a≠jo F (F.a<|j+r*F.n)->(gA d (F.L+1+j) (vx F {d (F.L+1+j)with w:=w}<|j+r*F.n) k).r a:=λk a h lF=>by
   by_cases e:k=F.L+1+j
   .subst e;rw[gV];exact⟨h,lF⟩
   .rwa[gI d _ e]
  have X:∀k a,(d k).N a->(gA d (F.L+1+j) (vx F {d (F.L+1+j)with w:=w}<|j+r*F.n) k).N a:=λk a h=>by
   by_cases e:k=F.L+1+j
   .subst e;rw[gV];exact À h
   .rwa[gI d _ e]
  have M:∀k,(gA d (F.L+1+j) (vx F {d (F.L+1+j)with w:=w}<|j+r*F.n) k).I=(d k).I/\(gA d (F.L+1+j) (vx F {d (F.L+1+j)with w:=w}<|j+r*F.n) k).O=(d k).O/\(gA d (F.L+1+j) (vx F {d (F.L+1+j)with w:=w}<|j+r*F.n) k).q=(d k).q:=λk=>by
   by_cases e:k=F.L+1+j
   .subst e;rw[gV];exact⟨U,U,U⟩
   .rw[gI d _ e];exact⟨U,U,U⟩
  have nb:∀k,d k=kE (d k)->k≠F.L+1+j:=λk W e=>by
   subst e;have:(d<|F.L+1+j).q:=by rw[W];trivial
   exact(p.a.M (F.L+1+j)<|Á ⟨j+1,Z,Z,λ⟨e,c,_⟩=>by rw[I]at c;cases c⟩) this
  have N:∀k,k≠F.L+1+j->k<gs.size->∀a,(d k).r a->a≠jo F (F.a<|j+r*F.n):=λk W Gt a s e=>C.h _ _ Gt D W a s (by rw[e];exact À J5);refine⟨λk W a s=> ?_,λx c v a s=>K _ _ (L.o x c v a s) (N 0 (by have:=H.C.r;omega) (by have:=p.b;have:=H.C.r;omega) a<|L.o x c v a s),λh=>⟨X _ _ (L.lT h).1,λb t=>by rw[(M 0).1];exact(L.lT h).2 b t⟩,λh k c v=> ?_,λh B=>⟨X _ _ (L.f h B).1,λb t=>by rw[(M _).1];exact(L.f h B).2 b t⟩,λl o B m y c=> ?_,λl o B=>⟨X _ _ (L.l l o B).1,λb t=>by rw[(M _).1];exact(L.l l o B).2 b t⟩,λx AY=>by rw[gI d _<|nb _<|L.S x AY];exact L.S x AY,λk W=>by rw[(M k).2.2];exact L.M k W,λk c v=>by rw[gI d _<|nb _<|L.c k c v];exact L.c k c v,λk W b t=>⟨(L.I k W b t).1,(L.I k W b t).2.1,λi z=>by rw[(M i).2.1];exact(L.I k W b t).2.2 i z⟩,λk W i z h=>L.N k W i z<|J _ _ h,λk c v i z h=>L.g k c v i z<|J _ _ h,λl o m y c i z h=> ?_⟩
  .by_cases e:k=F.L+1+j
   .subst e;rw[gV]at s;rcases s with q|q|q
    .exact L.gU _ D a<|À q.1
    .exact L.gU _ D a<|Á q
    .exact Á ⟨_,H.C.Y.2 _ (by assumption),q⟩
   .rw[gI d _ e]at s;exact L.gU k W a s
  .have Q:F.L<gs.size:=by have:=p.b;have:0<E.r:=h;omega
   have:=L.e h k c v;exact⟨K _ _ this.1<|N _ Z Q _ this.1,K _ _ this.2<|N _ Z Q _ this.2⟩
  .by_cases e:l=j
   .subst e;rw[jR]at c;simp only[gO.kF]at c;refine K _ _ (L.h l o B m y<|by rw[u];simp only[gO.kF];omega) λq=> ?_;have Q:=H.C.a _ _ y oy (by injection q);have T:m*F.n=r*F.n:=Z
    have:=Nat.eq_of_mul_eq_mul_right H.C.N T;omega
   .rw[iP _ e]at c;have q:=L.h l o B m y c;have xf:l+2<=E.r:=o;exact K _ _ q<|N _ Z (by have:=p.b;omega) _ q
  .by_cases e:l=j
   .subst e;rw[jR]at c;simp only[gO.kF]at c;by_cases Q:m=r
    .subst Q;by_cases T:i=F.L+1+l
     .subst T;rw[gV]at h;exact h.2 U
     .exact N i T z _ (J _ _ h) U
    .exact L.d l o m y (by rw[u];simp only[gO.kF];omega) i z<|J _ _ h
   .rw[iP _ e]at c;exact L.d l o m y c i z<|J _ _ h
 .have W:=p.M;refine⟨W.C,W.I,λl o=> ?_,W.M,W.S,λl o m y c=> ?_⟩
  .by_cases e:l=j
   .subst e;have:=W.jG l o;rw[u]at this;rw[jR];exact this
   .rw[iP _ e];exact W.jG l o
  .by_cases e:l=j
   .subst e;rw[jR]at c;simp only[gO.kF]at c;by_cases Q:m=r
    .subst Q;exact hcell
    .exact W.N l o m y<|by rw[u];simp only[gO.kF];omega
   .rw[iP _ e]at c;exact W.N l o m y c
 .rcases h with⟨_,h⟩|h|h<;>cases h
 .rcases h with h|h|h<;>cases h
 .rw[u];simp only[gO.rk];have e:F.q+3-r=(F.q+3-(r+1))+1:=Z
  rw[e,ł];omega
end
def ag9{α:Type}(f:Nat->α)(i:Nat)(x y:α):fA (fA f i x) i y=fA f i y:=by funext k;unfold fA;split<;>rfl
section
variable{F:Ph}{E E':fV F}{S:Nat->Jd}{tr o:Nat->gB}{d:Nat->iC}{lot:Nat->ff}{gs gs':Array Ä}{u:ä}{sl:Option (Nat×Nat)}{sz:Nat}
def p8{r:Nat}{a:Bool}(h:b≠i):(w.setChan i n q yQ j r a).heap[b]?=w.heap[b]?:=by unfold World.setChan;exact í<|ÿ h
def J7{r:Nat}{a:Bool}(h:i<w.heap.size):(w.setChan i n q yQ j r a).heap[i]?=Ã (.chan n q yQ j r a):=by unfold World.setChan;simp[h]
def Gu{r:Nat}{a:Bool}:(w.setChan i n q yQ j r a).heap.size=w.heap.size:=by unfold World.setChan;simp
def aha(f:Ps F E)(c:j+2<=E.r){cap s r:Nat}{buf:Array ã}{cl tm:Bool}:Gi F E lot sz w (w.setChan (E.I j) cap buf cl s r tm):=by
 let⟨g,d,_⟩:=f.o j c;refine⟨Ô Gu.symm,λb _ h _=>p8 λe=>h<|Á<|Á ⟨j,c,e⟩,λa i _=>gN (p8 λe=> ?_),wV (p8 λe=>d e.symm),U,U⟩;rcases i with⟨k,l,rfl⟩|⟨p,rfl⟩
 .exact g<|Á ⟨k,l,e.symm⟩
 .exact d e.symm
def XR(a:Ps F E)(c:j+2<=E.r){cap s r:Nat}{buf:Array ã}{cl tm:Bool}(d:F.M b){G:GS}(h:ic w b G):ic (w.setChan (E.I j) cap buf cl s r tm) b G:=by have e:b≠E.I j:=λe=>(a.o j c).1<|e▸d;exact h.vw (gN<|p8 e) (gN<|p8 e) (wW<|p8 e)<|wW<|p8 e
def Wd.G(W:Wd F E w)(H:gS F)(L:iI F E lot sz w)(g:Ps F E)(h:j+2<=E.r){cap s r:Nat}{buf:Array ã}{cl tm:Bool}: (∀k,k<=E.S.md->nz F k (E.c k)/\F.d k (E.c k) (E.V k) (w.setChan (E.I j) cap buf cl s r tm))/\(∀k,1<=k->k<=E.S.md->(w.setChan (E.I j) cap buf cl s r tm).cell? (jo F (F.b k))=Ã (.string (F.o k)))/\(∀c,c+2<=E.r->∀d,c+d*F.n<F.q->d<(E.C c).kF->(w.setChan (E.I j) cap buf cl s r tm).cell? (jo F (F.a (c+d*F.n)))=Ã (.string (F.k (c+d*F.n))))/\ic (w.setChan (E.I j) cap buf cl s r tm) F.C E.b/\(∀k,k<=F.m->ic (w.setChan (E.I j) cap buf cl s r tm) (F.I k) (E.a k)):=by have e:=aha (lot:=lot) (sz:=sz) (w:=w) g h (cap:=cap) (s:=s) (r:=r) (buf:=buf) (cl:=cl) (tm:=tm);refine⟨λk a=>⟨(W.M k a).1,H.S _ _ _ _ _ (W.M k a).2 (λb f=>e.C b (L.I k a b f).1 (L.I k a b f).2.1 (L.I k a b f).2.2) (e.r _ (À ⟨k,Ø a (JX g),U⟩) (L.N k a)) (e.r _ (Á ⟨_,U⟩) (L.OO H.C)) e.I e.M⟩,λk b f=>(e.r _ (Á ⟨_,U⟩) (L.g k b f)).trans (W.S k b f),λc b d f i=>(e.r _ (Á ⟨_,U⟩) (L.d c b d f i)).trans (W.N c b d f i),XR g h (À U) W.C,λk a=>XR g h (Á ⟨k,a,U⟩) (W.I k a)⟩
def iI.Dt(L:iI F E lot sz w)(h:w.heap.size<=W.heap.size):iI F E lot sz W:= ⟨L.gU,L.o,L.lT,L.e,L.f,L.h,L.l,L.S,L.M,L.c,λk a b c=>⟨Ê (L.I k a b c).1 h,(L.I k a b c).2⟩,L.N,L.g,L.d⟩
def J8(c:TI F.toFx i zX E.r E.S.rl E.V E.e E.d E.iz E.f qJ)(h:w7 u):TI F.toFx i zX E.r E.S.rl E.V E.e E.d E.iz E.f (qJ++u):= c.C<|yF (λa b=>(h a b).1) λa b _ _=>(h a b).2 _
def gW(E:fV F)(x:Nat)(e:im):fV F:={E with N:=fA E.N x (Ã e)}
theorem qM.G(h:qM F E S tr d)(ok:F.Ok){x:Nat}{e:im}{T:gB}(m:(∃N,e=.jr N)->T=.fD):qM F (fy.gW E x e) (fA S (F.L+x)<|JE F e) (fA tr (F.L+x) T) (fA d (F.L+x) .no):=by
 have:=ok.r;have c:∀y,y≠x->(fy.gW E x e).N y=E.N y:=λy k=>fK _ _ k;have g:(fy.gW E x e).N x=Ã e:=gG _ _ _;refine⟨by rw[fK S _ Z,fK d _ Z];exact h.M,λb a=> ?_,λj b a=> ?_,λy l b a=> ?_,λi b a=>by rw[fK S _ Z,fK d _ Z,fK tr _ Z];exact h.r i b a⟩
 .have f:x≠0:=λq=>by subst q;rw[g]at a;cases a
  rw[c 0<|ÿ f]at a;rw[fK S _ Z,fK d _ Z];exact h.Y b a
 .have f:x≠j+1:=λq=>by subst q;rw[g]at a;cases a
  rw[c _<|ÿ f]at a;rw[fK S _ Z,fK d _ Z];exact h.I j b a
 .by_cases q:y=x
  .grind [gG]
  .rw[c y q]at a;rw[fK S _ Z,fK d _ Z,fK tr _ Z];exact h.C y l b a
def rH(F:Ph)(E:fV F)(x:Nat):Nat×Nat:=match E.N x with
 |some e=>e.rk F
 |none=>if x=0 then(E.S.rk F,0)else((E.C<|x-1).rk F,0)
def ahb(ok:F.Ok)(x:Nat):E.iU tr (F.L+x)=((rH F E x).1,(rH F E x).2,tr<|F.L+x):=by
 have:=ok.r;unfold rH;cases a:E.N x with
 |some e=>rw[J0 ok a]
 |none=>
  cases x with
  |zero=>rw[ó,XB ok a];simp
  |succ j=>rw[show F.L+(j+1)=F.L+1+j by omega,tW ok a];simp
def Du(ok:F.Ok){x:Nat}{e:im}{T:gB}(b:F.L+x<F.N)(h:(e.rk F).1<(rH F E x).1\/((e.rk F).1=(rH F E x).1/\(e.rk F).2<(rH F E x).2)):py F.N ((fy.gW E x e).mu (fA tr (F.L+x) T) gs') (E.mu tr gs):=by
 refine Gk b ?_ λk c=>yI (λ_=>rfl) (λ_ _=>rfl) (λa=>fK _ _ Z) (λ_ _=>rfl) (λ_ _=>rfl)<|fK tr _ c;rw[J0 ok (E:=fy.gW E x e)<|gG _ _ _,ahb ok];rcases h with h|⟨a,d⟩
 .exact À h
 .exact Á ⟨a,À d⟩
def ahc{e:im}(h:e.kQ=mg (E.N i))(y:Nat):(fy.gW E i e).G y=E.G y:=by
 unfold fV.G;by_cases q:y=i
 .subst q;show(if y<E.M.ad F.n then mg (fA E.N y (Ã e) y)else 0)=_;rw[gG];show(if y<E.M.ad F.n then e.kQ else 0)=_;rw[h]
 .show(if y<E.M.ad F.n then mg (fA E.N i (Ã e) y)else 0)=_;rw[fK _ _ q]
def ahd{e:im}(h:e.kQ=mg (E.N i)):Ñ (F.n+1) (fy.gW E i e).G=Ñ (F.n+1) E.G:=Ł λy _=>ahc h y
theorem Ps.gW(h:Ps F E){x:Nat}{e:im}(J:x<E.r)(v:e.kQ=mg (E.N x))(w:∀p,E.N x=Ã (.gi p)->∀W,p≠ .gC W/\p≠ .jd W/\p≠ .iD W)(K:∀p,e=.gi p->∀W,p≠ .gC W/\p≠ .jd W/\p≠ .iD W) (z:∀j,x=j+1->j<E.M.jf F.n/\∃r,E.C j=.ny r/\∀i,j+i*F.n<F.q->i<r) (B:x=0->E.S=.kP F.m):Ps F (fy.gW E x e):=by
 have b:∀y,y≠x->(fy.gW E x e).N y=E.N y:=λy a=>fK _ _ a;have L:(fy.gW E x e).N x=Ã e:=gG _ _ _;have g:=ahd (E:=E) v;refine⟨h.v,h.C,h.K,h.L,h.J,h.I,h.z,h.d,λj C d=> ?_,λd=> ?_,λy a=> ?_,h.M,h.o,λc k f=>by rw[g];exact h.t c k f,λk f=> ?_,λr s f=> ?_,λy p a=> ?_,λD=>by rw[g];exact h.B D,h.e,h.Y,h.w,h.H,h.O,h.S,h.y,h.D⟩
 .by_cases q:j+1=x
  .exact z j q.symm
  .rw[b _ q]at d;exact h.l j C d
 .by_cases q:0=x
  .exact B q.symm
  .rw[b _ q]at d;exact h.f d
 .have:E.r<=y:=a;rw[b y Z];exact h.h y a
 .rw[g];let⟨l,o,y,t,u,G⟩:=h.g k f;refine⟨l,o,y,t,u,?_⟩;grind
 .rw[g];let⟨l,o,t⟩:=h.u r s f;refine⟨l,o,λG=> ?_⟩;let⟨y,H,I,u⟩:=t G;have:y≠x:=λq=>by subst q;exact(w _ u r).2.2 U
  exact⟨y,H,I,by rwa[b y this]⟩
 .by_cases q:y=x
  .grind
  .rw[b y q]at a;exact h.N y p a
theorem XS{x:Nat}{e:im}(h:i≠x):(fy.gW E x e).iz i↔E.iz i:=by unfold fV.iz;show(∃a,fA E.N x (Ã e) i=Ã a/\a.iz)↔_;rw[fK _ _ h]
theorem ahe{e:im}:(fy.gW E i e).iz i↔e.iz:=by unfold fV.iz;show(∃a,fA E.N i (Ã e) i=Ã a/\a.iz)↔_;rw[gG];grind
theorem ahf{e:im}(h:e.iz↔E.iz i)(y:Nat):(fy.gW E i e).iz y↔E.iz y:=by grind [ahe,XS]
theorem XT{e:im}(h:e.ox↔E.ox i)(y:Nat):(fy.gW E i e).ox y↔E.ox y:=by unfold fV.ox at h|-;show(∃a,fA E.N i (Ã e) y=Ã a/\a.ox)↔_;grind [gG,fK]
theorem iI.gW(L:iI F E lot sz w){x:Nat}{e:im}(h:e.ox↔E.ox x):iI F (fy.gW E x e) lot sz w:=by
 have d:∀y,(fy.gW E x e).N y=Í->E.N y=Í:=λy c=>by
  by_cases q:y=x
  .subst q;have:fA E.N y (Ã e) y=Í:=c;grind [gG]
  .have:fA E.N x (Ã e) y=Í:=c;grind [fK]
 exact⟨L.gU,L.o,L.lT,L.e,λa b=>L.f a<|d _ b,λj a b=>L.h j a<|d _ b,λj a b=>L.l j a<|d _ b,λy c=>L.S y<|(XT h y).1 c,λi f=>L.M i (f.imp id λ⟨y,a,b,g⟩=>⟨y,a,b,λq=>g<|(XT h y).2 q⟩),L.c,L.I,L.N,L.g,L.d⟩
def Wd.gW(W:Wd F E w){x:Nat}{e:im}:Wd F (fy.gW E x e) w:=⟨W.C,W.I,W.jG,W.M,W.S,W.N⟩
def TI.G(a:TI F.toFx i zX E.r E.S.rl E.V E.e E.d E.iz E.f qJ){x:Nat}{e:im}(h:e.iz↔E.iz x):TI F.toFx i zX (fy.gW E x e).r (fy.gW E x e).S.rl (fy.gW E x e).V (fy.gW E x e).e (fy.gW E x e).d (fy.gW E x e).iz (fy.gW E x e).f qJ:= {a with r:=λy b c=>a.r y b ((ahf h y).1 c)}
def PI.ahg(H:gS F)(p:PI F i zX E S tr d lot gs w qJ){r:Nat}(t:j+2<=E.r)(o:E.N (j+1)=Í)(M:gs[F.L+1+j]?=Ã g)(iK:g.status=Å)(ht:tr (F.L+1+j)=.fD)(C:E.C j=.ny r):kh F i zX E tr gs w qJ sl (F.L+1+j):=by
 have xd:=p.G<|iQ M;obtain⟨tZ,sW⟩:=p.g j t o;rw[C]at tZ sW;have O3:S (F.L+1+j)=wY F.P (F.L+1+j==0) (E.I j) F.z λx=>match x with
  |some v=>λl g=>v=F.c (j+r*F.n)->qL F.P É F.B (F.I<|F.r<|j+r*F.n) (F.e (E.I j)<|j+r*F.n) .iZ l g
  |none=>AO F:=by rwa[yL H.C j]
 have hY:E.Y (E.I j):=Á<|Á ⟨j,t,U⟩;obtain⟨buf,s,D,uf,XU,yN,yO⟩:=p.M.jG j t;rw[C]at D XU yN yO;simp only[gO.iO]at D XU yN yO;have Dv:=(p.I.r).N _ hY;by_cases AT:r<s
 .have AZ:=yO 0 Z;rw[ó]at AZ;have oy:j+r*F.n<F.q:=by
   have:=(uf r).1 AT;have:E.M.mF F.q<=F.q:=by cases E.M<;>simp only[fY.mF]<;>omega
   omega
  obtain⟨gs',u,T,g',O,f,Q,V,I,W,q7⟩:=p.I.ny M iK sW ht O3 hY D AZ<|kW F (E.I j)<|.fB r .iZ;have q8:=q7.kP (λl g h=>by rw[gG]at h;exact h U);rw[ag9]at q8;obtain⟨z1,z2,z3,z4,z5⟩:=p.M.G H p.a p.C t;refine⟨gQ E j<|.fB r .iZ,_,_,_,_,gs',_,u,O,f,λh=>h,.r (p.N.N H.C t o) (f.trans p.b) q8 ?_ ⟨z4,z5,λv m=> ?_,z1,z2,λv m c pd a=> ?_⟩ (p.C.G t o (λk=>by rw[C,OY U];rfl) (λc h=> ?_) (λc h=> ?_) (λc h=>by cases h) λc h=>by cases h) (J8 p.d W) (λk y b G=> ?_) λv c a1 J a3=> ?_,Dk H.C xd o ?_⟩
  .rw[f];exact((p.a.r<|by rw[C];rfl).Dt<|Ô Gu.symm)
  .by_cases e:v=j
   .subst e;rw[jR];refine⟨buf.extract 1 buf.size,s,J7 Dv,uf,AT,by rw[Array.size_extract];simp only[gO.iO];omega,λl lz=> ?_⟩;simp only[gO.iO]at lz|-;rw[Array.getElem?_extract];rw[if_pos Z];have:=yO (1+l) Z;rw[this,show r+(1+l)=r+1+l by omega]
   .rw[iP _ e];obtain⟨K,X,y1,y2⟩:=p.M.jG v m;refine⟨K,X,?_,y2⟩;show(w.setChan (E.I j) _ _ _ _ _ _).heap[E.I v]?=_;rwa[p8 λq=>e<|p.C.M _ _ m t q]
  .by_cases e:v=j
   .subst e;rw[jR]at a;exact z3 v m c pd<|by rwa[C]
   .rw[iP _ e]at a;exact z3 v m c pd a
  .rcases h with⟨_,h⟩|h|h<;>cases h;exact oy
  .rcases h with h|h|h<;>cases h
  .by_cases e:k=F.L+1+j
   .subst e;rw[Q]at b;obtain rfl:=È b;rw[V]at G;cases G
   .rw[I k e]at b;rcases p.c k y b G with a|⟨v,m,yP,K,X|⟨r1,cap,s1,c,X,h4⟩⟩
    .exact À a
    .exact Á ⟨v,m,yP,K,À<|by rwa[iP _ Z]⟩
    .have e2:v≠j:=Z
     exact Á ⟨v,m,yP,K,Á ⟨r1,cap,s1,c,by rwa[iP _ e2],by show(w.setChan (E.I j) _ _ _ _ _ _).heap[E.I v]?=_;rwa[p8 λq=>e2<|p.C.M _ _ m t q]⟩⟩
  .rw[iP _ (λe=>by subst e;rw[jR]at J;cases J)]at J;exact(p.f v c a1 J a3).app u
  .rw[C];simp only[gO.rk,ju.rk];have hm:F.n+3000<=(F.n+3000)*(F.q+3-r):=â _ (by
    have:r*1<=r*F.n:=ï _ H.C.N;omega)
   omega
 .have O4:buf=#[]:=Array.size_eq_zero_iff.1 Z;subst O4;have ahh:r=s:=Z
  by_cases pZ:j<E.M.jf F.n
  .rw[show decide (j<E.M.jf F.n)=Ì by simpa using pZ]at D;obtain⟨gs',u,T,g',O,f,Q,V,I,W,q7⟩:=p.I.jf (sl:=sl) M iK sW ht O3 hY D .no;have XV:F.L+1+j=F.L+(j+1):=Z
   have Gv:E.M.mF F.q=F.q:=by revert pZ;cases E.M<;>simp only[fY.jf,fY.mF]<;>intro h<;>first|trivial|omega
   have O5:¬E.iz (j+1):=λ⟨e,a,_⟩=>by rw[o]at a;cases a
   have O6:im.iz .oQ↔E.iz (j+1):=⟨λh=>h.elim,λh=>(O5 h).elim⟩;refine⟨fy.gW E (j+1) .oQ,_,_,_,_,gs',w,u,O,f,λh=>h,.r (p.N.G H.C λ⟨N,h⟩=>by cases h) (f.trans p.b) (by rwa[<-XV]) (by rw[f];exact p.a.gW ⟨λh=>h.elim,λ⟨e,a,_⟩=>by rw[o]at a;cases a⟩) p.M.gW (p.C.gW Z (by rw[o];rfl) (λp' h=>by rw[o]at h;cases h) (λp' h=>by cases h) (λv h=> ?_) λh=>by omega) ((J8 p.d W).G O6) (λk y b G=> ?_) λv c a1 J a3=>(p.f v c a1 J a3).app u,Du H.C (by rwa[<-XV])<|À ?_⟩
   .have:v=j:=Z
    subst this;exact⟨pZ,r,C,λl lz=>by rw[ahh];exact(uf l).2<|by rwa[Gv]⟩
   .by_cases e:k=F.L+1+j
    .subst e;rw[Q]at b;obtain rfl:=È b;rw[V]at G;cases G
    .rw[I k e]at b;have l:∀v,F.L+1+v=k->(fy.gW E (j+1) .oQ).N (v+1)=E.N (v+1):=λv h=>fK _ _ Z;rcases p.c k y b G with a|⟨v,m,yP,K,X⟩
     .exact À a
     .exact Á ⟨v,m,by rwa[l v K.symm],K,X⟩
   .unfold rH;rw[o];simp only[im.rk];rw[if_neg Z,Nat.add_sub_cancel,C];simp only[gO.rk];have hm:F.n+3000<=(F.n+3000)*(F.q+3-r):=â _ (by
     have a:=H.C.N;rcases Nat.eq_zero_or_pos r with l|l
     .omega
     .have K:=(uf (r-1)).1 Z;have:(r-1)*1<=(r-1)*F.n:=ï _ a;omega)
    omega
  .rw[show decide (j<E.M.jf F.n)=É by simpa using pZ]at D;obtain⟨gs',g',O,f,Q,V,I,W⟩:=p.I.agr M iK sW ht O3 D;refine⟨E,S,tr,d,lot,gs',w,#[],O,f,λh=>h,.r p.N (f.trans p.b) (by rwa[Ú]) (by rw[f];exact p.a) p.M p.C (by rw[Ú];exact p.d) (λk y b l=> ?_) (by rw[Ú];exact p.f),OT (λ_ _=>rfl) xd (by rw[Dr M,if_pos iK]) (by rw[Dr Q,if_neg (by rw[V];simp)]) λk b=>O0<|I k b⟩;by_cases e:k=F.L+1+j
   .subst e;exact Á ⟨j,t,o,U,Á ⟨r,F.q,s,r,C,D⟩⟩
   .rw[I k e]at b;exact p.c k y b l
end
section
variable{F:Ph}{E E':fV F}{S:Nat->Jd}{tr v:Nat->gB}{m:Nat->iC}{f:Nat->ff}{gs gs':Array Ä}{u:ä}{o:Option (Nat×Nat)}
def A0(ok:F.Ok)(x:Nat):(F.L+x==0)=É:=by have:=ok.r;simp;omega
def Gw(a:i<E.r):yJ E (F.L+i):=Á ⟨i,a,U⟩
def PI.A1(p:PI F n zX E S tr m f gs w qJ){x:Nat}{e:im}(b:x<E.r)(c:E.N x=Ã e)(d:gs[F.L+x]?=Ã g)(h:g.status=Å)(i:tr (F.L+x)=.fD):∀a,fJ (f<|F.L+x) (f<|F.L+x).w a->JE F e {f (F.L+x)with w:=a} g:=by let⟨k,j,_⟩:=p.k x e b c;intro a r;have:=p.I.N d h i (À j) a r;simp_all
theorem O7(B:fj F E gs w){x:Nat}{e:im}(c:∀k y,gs[k]?=Ã y->y.status=Ü->k≠F.L+x):fj F (fy.gW E x e) gs w:=by
 intro k y a b;have h:=c k y a b;rcases B k y a b with h1|⟨j,d,i,f,g⟩
 .exact À h1
 .refine Á ⟨j,d,?_,f,g⟩;show fA E.N x (Ã e) (j+1)=Í;grind [fK]
theorem PI.ahi(H:gS F)(p:PI F n zX E S tr m f gs w qJ)(V:J<E.r)(s:E.N J=Ã .oQ)(D:gs[F.L+J]?=Ã g)(X:g.status=Å)(ht:tr (F.L+J)=.fD):rG F n zX E tr gs w qJ:=by
 have G:=iQ D;have C:=p.I.r;have O5:¬E.iz J:=λ⟨e,c,d⟩=>by rw[s]at c;cases c;exact d
 have O6:im.iz (.gi .jD)↔E.iz J:=⟨λh=>h.elim,λh=>(O5 h).elim⟩;have ua:iT F.S (λi=>i<gs.size) E.Y (gA f (F.L+J)<|kE {f (F.L+J)with w:=w}) w qJ:= C.C G (λ_ q=>q.elim) (λ_ q=>q.elim) (λ_ q=>q.elim) (λ_ q=>q.elim) U U U (λ_ q=>q.elim) λ_ q=>q.elim;have hF:lj F.P (F.L+J==0) (JE F<|.gi .jD) .fD (kE {f (F.L+J)with w:=w}) g:=by rw[A0 H.C J];intro l T;let⟨W,a,b,j,k⟩:=p.A1 V s D X ht w<|C.r _ G;exact⟨W,a,b,j,k.jw T⟩
 refine⟨fy.gW E J<|.gi .jD,_,_,_,_,λh=>h,.r (p.N.G H.C λ⟨N,h⟩=>by cases h) p.b (p.I.M (K:=.no) D (À X) ua hF) ?_ p.M.gW (p.C.gW V (by rw[s];rfl) (λT h=>by rw[s]at h;cases h) (λT h W=>by cases h;exact⟨fq,fq,fq⟩) (λj h=> ?_) λh=>(p.C.f<|by rw[<-h,s];simp)) (p.d.G O6) (O7 p.c λk y W z e=> ?_) p.f,Du H.C (p.G G)<|À ?_⟩
 .have L:=p.a;have B:(gA f (F.L+J)<|kE {f (F.L+J)with w:=w}) (F.L+J)=kE {f (F.L+J)with w:=w}:=gV _ _ _;have l:∀k,k≠F.L+J->(gA f (F.L+J)<|kE {f (F.L+J)with w:=w}) k=f k:=λk W=>gI f _ W;have h0:(0:Nat)≠F.L+J:=by have:=H.C.r;omega
  have I:∀k a,(gA f (F.L+J) (kE {f (F.L+J)with w:=w}) k).r a->(f k).r a:=λk a h=>by
   by_cases q:k=F.L+J
   .subst q;rw[B]at h;exact h.elim
   .grind
  have sO:∀k a,(gA f (F.L+J) (kE {f (F.L+J)with w:=w}) k).O a->(f k).O a:=λk a h=>by
   by_cases q:k=F.L+J
   .subst q;rw[B]at h;exact h.elim
   .grind
  have ee:(fy.gW E J<|.gi .jD).N J=Ã (.gi .jD):=gG _ _ _;have v:∀y,y≠J->(fy.gW E J<|.gi .jD).N y=E.N y:=λy M=>fK _ _ M;refine⟨λk W a u=> ?_,λy c d a u=>by rw[l 0 h0];exact L.o y c d a u,λh=>by rw[l 0 h0];exact L.lT h,λh k c d=> ?_,λc d=> ?_,λj c d r t Q=> ?_,λj c d=> ?_,λy M=> ?_,λi o=> ?_,λk c d=>by rw[l k Z];exact L.c k c d,λk W b z=>⟨(L.I k W b z).1,(L.I k W b z).2.1,λi o h=>(L.I k W b z).2.2 i o<|sO _ _ h⟩,λk W i o h=>L.N k W i o<|I _ _ h,λk c d i o h=>L.g k c d i o<|I _ _ h,λj c r d t i o h=>L.d j c r d t i o<|I _ _ h⟩
  .by_cases q:k=F.L+J
   .subst q;rw[B]at u;rcases u with h|h<;>exact h.elim
   .rw[l k q]at u;exact L.gU k W a u
  .by_cases q:F.L=F.L+J
   .have XW:J=0:=Z
    subst XW;have:=p.C.f (by rw[s];simp);have T:E.S.md<k:=c;rw[this]at T;simp only[jx.md]at T;omega
   .rw[l _ q];exact L.e h k c d
  .by_cases q:F.L=F.L+J
   .grind
   .rw[l _ q];exact L.f c<|by rwa[<-v 0 Z]
  .by_cases q:F.L+1+j=F.L+J
   .grind
   .rw[l _ q];exact L.h j c (by rwa[<-v (j+1) Z]) r t Q
  .by_cases q:F.L+1+j=F.L+J
   .grind
   .rw[l _ q];exact L.l j c<|by rwa[<-v (j+1) Z]
  .by_cases q:F.L+y=F.L+J
   .rw[q,B];rfl
   .rw[l _ q];exact L.S y (by let⟨T,c,d⟩:=M;exact⟨T,by rwa[<-v y Z],d⟩)
  .by_cases q:i=F.L+J
   .subst q;rcases o with q|⟨y,c,d,t⟩
    .grind
    .have:y=J:=Z
     subst this;exact absurd ⟨_,ee,trivial⟩ t
   .rw[l _ q];refine L.M i<|o.imp id λ⟨y,c,d,t⟩=>⟨y,c,d,λ⟨T,Q,h5⟩=>t ⟨T,by rwa[v y Z],h5⟩⟩
 .have:=p.C.l j Z (by rw[<-h,s];simp);exact this
 .grind
 .unfold rH;rw[s];simp only[im.rk,jF.rk];omega
def A2(E:fV F)(x:Nat)(e:im)(G:GS)(a:Option Nat):fV F:={fy.gW E x e with b:=G,g:=a}
theorem Ps.Gx(h:Ps F E){e:im}{G:GS}{la:Option Nat}(v:i<E.r)(D:∃w,E.N i=Ã w)(O:∀y,y≠i->∀p,E.N y=Ã (.gi p)->∀W,p≠ .gC W/\p≠ .jd W/\p≠ .iD W) (H:∀c d,G=.cl c d->c=Ñ (F.n+1) (fy.gW E i e).G/\d=E.M.gF) (I:∀d,G=.jE d->Ñ (F.n+1) (fy.gW E i e).G=0/\d=E.M.gF/\la=Ã i/\(e=.gi (.gC d)\/e=.gi (.jd d))) (J:∀r s,G=.gY r s->Ñ (F.n+1) (fy.gW E i e).G=0/\r+s=E.M.gF/\(0<r->la=Ã i/\e=.gi (.iD r))) (K:∀p,e=.gi p->(∀W,p=.gC W\/p=.jd W->la=Ã i/\G=.jE W)/\(∀r,p=.iD r->0<r/\la=Ã i/\∃s,G=.gY r s)) (L:E.M=.fB .gC\/E.M=.fB .lk\/E.M=.gi->Ñ (F.n+1) (fy.gW E i e).G=0) (M:E.M=.fB .gC->∃a b,G=.gY a b) (N:(∀p,E.M≠ .fB p)->E.M≠ .gi->∃c,G=.cl c 0):Ps F (A2 E i e G la):=by
 have l:∀y,y≠i->(A2 E i e G la).N y=E.N y:=λy f=>fK _ _ f;have m:(A2 E i e G la).N i=Ã e:=gG _ _ _;let⟨w,z⟩:=D;refine⟨h.v,h.C,h.K,h.L,h.J,h.I,h.z,h.d,λj B g=> ?_,λg=> ?_,λy f=> ?_,h.M,h.o,H,λd o=> ?_,λr s o=> ?_,λy p f=> ?_,L,h.e,h.Y,h.w,h.H,M,N,h.y,h.D⟩
 .by_cases q:j+1=i
  .exact h.l j B<|by rw[q,z];simp
  .rw[l _ q]at g;exact h.l j B g
 .by_cases q:0=i
  .exact h.f<|by rw[q,z];simp
  .rw[l _ q]at g;exact h.f g
 .have:E.r<=y:=f;rw[l y Z];exact h.h y f
 .let⟨t,u,k,C⟩:=I d o;exact⟨t,u,i,v,k,by rw[m];exact C.imp (λq=>by rw[q]) λq=>by rw[q]⟩
 .let⟨t,u,k⟩:=J r s o;exact⟨t,u,λC=>⟨i,v,(k C).1,by rw[m,(k C).2]⟩⟩
 .by_cases q:y=i
  .subst q;rw[m]at f;exact K p<|È f
  .grind
def ahj{G:GS}(a:ic W F.C G)(h:Wd F {E with b:=G,a:=E.a} W){x:Nat}{e:im}{b:Option Nat}:Wd F (A2 E x e G b) W:=⟨a,h.I,h.jG,h.M,h.S,h.N⟩
theorem PI.Gy(H:gS F)(p:PI F n zX E S tr m f gs w qJ){x:Nat}{a e:im}{G:GS}{la:Option Nat}{c:Ä}{T:gB}(hx:x<E.r)(d:E.N x=Ã a)(t:a.iz)(I:e.iz)(J:e.ox)(v:gs[F.L+x]?=Ã g)(z:kG F.C w W)(B:ic W F.C G)(K:Ŏ F.P (ð gs w o) (F.L+x)=(ğ<|ð gs' W o,u))(C:gs'.size=gs.size)(M:gs'[F.L+x]?=Ã c)(O:c.status=Å\/c.status=å)(Q:∀k,k≠F.L+x->gs'[k]?=gs[k]?.map (Ā F.P g c W)) (X:gM F.P F.S E.Y (fA S (F.L+x)<|JE F e) (fA tr (F.L+x) T) (fA m (F.L+x) .no) (gA f (F.L+x) {f (F.L+x)with w:=W}) gs' W (qJ++u)) (q6:TI F.toFx n zX E.r E.S.rl E.V E.e E.d E.iz E.f (qJ++u)) (q7:iI F E (gA f (F.L+x) {f (F.L+x)with w:=W}) gs'.size W) (hT:(∃N,e=.jr N)->T=.fD) (hP:Ps F (A2 E x e G la)) (XX:(e.rk F).1<(a.rk F).1\/((e.rk F).1=(a.rk F).1/\(e.rk F).2<(a.rk F).2)) (yM:E.M=.fB .kD->E.b.sm=0->G.sm=0\/∀y,gs'[0]?=Ã y->y.status≠Ü):kh F n zX E tr gs w qJ o (F.L+x):=by
 have D:F.M F.C:=À U;refine⟨A2 E x e G la,_,_,_,_,gs',W,u,K,C,λh=>h,.r ?_ (C.trans p.b) X ?_ (ahj B<|z.I H p.a p.C p.M D ⟨λ_=>B,λq=>absurd U q⟩ λk b=>⟨λq=>absurd q.symm<|H.C.M k b,λ_=>rfl⟩) hP (q6.G<|⟨λ_=>⟨a,d,t⟩,λ_=>I⟩) ?_ λj r b l s=>(p.f j r b l s).app u,?_⟩
 .have:=p.N.G (x:=x) H.C hT;exact⟨this.M,this.Y,this.I,this.C,this.r⟩
 .have:=q7.gW (⟨λ_=>Xx ⟨a,d,t⟩,λ_=>J⟩);exact⟨this.gU,this.o,this.lT,this.e,this.f,this.h,this.l,this.S,this.M,this.c,this.I,this.N,this.g,this.d⟩
 .refine p.c.qI (E':=A2 E x e G la) M (by rcases O with q|q<;>rw[q]<;>simp) Q (λj i=>z.C p.C D i) U U (λy i=>fK _ _ Z) (λ_=>rfl) (λ_ _=>rfl) (λ_ i j=>yM i j) λ_ _ _ _ h=>À h
 .have j:rH F E x=a.rk F:=by unfold rH;rw[d]
  have:=Du (E:=E) (tr:=tr) (gs:=gs) (gs':=gs') (T:=T) H.C (p.G<|iQ v) (by rwa[j]);rcases this with⟨i,b,l,s⟩|⟨b,_⟩
  .exact À ⟨i,b,l,s⟩
  .exfalso;have:=b _<|p.G<|iQ v;change(fy.gW E x e).iU (fA tr (F.L+x) T) (F.L+x)=E.iU tr (F.L+x)at this;rw[J0 H.C (E:=fy.gW E x e)<|gG _ _ _,J0 H.C d]at this;grind
theorem ahk(h:V=#[kC<|fP F.C,mV<|fP F.C]\/V=#[kC<|fP F.C]\/V=#[mV<|fP F.C]\/V=õ (gX F.C)):∀e∈V,∀b,(Ë e).touch?=Ã b->∃y:Č,b.loc=ú y/\y.block=F.C:=by
 intro e c b g;have:∃x:Č,x.block=F.C/\(e.loc=ú x\/e.loc=ŭ ô\/e.loc=ŭ î):=by
  rcases h with rfl|rfl|rfl|rfl
  .simp at c;rcases c with rfl|rfl<;>exact⟨fP F.C,U,À U⟩
  .simp at c;subst c;exact⟨fP F.C,U,À U⟩
  .simp at c;subst c;exact⟨fP F.C,U,À U⟩
  .simp[õ]at c;rcases c with rfl|rfl|rfl|rfl
   .exact⟨gX F.C,U,Á<|À U⟩
   .exact⟨gX F.C,U,À U⟩
   .exact⟨gX F.C,U,À U⟩
   .exact⟨gX F.C,U,Á<|Á U⟩
 let⟨x,i,a⟩:=this;let⟨j,d,f⟩:=e;rcases a with a|a|a
 .simp only at a;subst a;have:(Ë ⟨ú x,d,f⟩).touch?=Ã ⟨ú x,d,if f then .atomic else .plain⟩:=by cases d<;>cases f<;>rfl
  grind
 .simp only at a;subst a;simp[Ë,Ċ]at g
 .simp only at a;subst a;simp[Ë,Ċ]at g
def Gz(p:PI F n zX E S tr m f gs w qJ)(a:F.L+i<gs.size)(c:(f<|F.L+i).d=1)(h:V=#[kC<|fP F.C,mV<|fP F.C]\/V=#[kC<|fP F.C]\/V=#[mV<|fP F.C]\/V=õ (gX F.C)): ∀y,E.iz y->F.L+i=F.L+y->(∀e∈V,∀b,(Ë e).touch?=Ã b->∃y:Č,b.loc=ú y/\y.block=F.C)/\AQ (κ qJ<|F.L+i) V:=by
 intro y _ _;refine⟨ahk h,?_⟩;rw[p.I.r.f _ a,c];rcases h with rfl|rfl|rfl|rfl
 .exact J3.1
 .exact J3.2.1
 .exact J3.2.2.1
 .exact J3.2.2.2
def PI.ahl(H:gS F)(p:PI F n zX E S tr m f gs w qJ){x:Nat}(i:x<E.r)(a:E.N x=Ã (.gi .jD))(k:gs[F.L+x]?=Ã g)(G:g.status=Å)(I:tr (F.L+x)=.fD):kh F n zX E tr gs w qJ o (F.L+x):=by
 have s:=iQ k;have C:=p.I.r;let⟨J,_,g',c,d⟩:=p.A1 i a k G I w<|C.r _ s;have t:=A0 H.C x;have u:∀y:Ă,y.act=ė (Į<|fP F.C)->y.act.touch?=Í:=λy b=>by rw[b];rfl
 let⟨T,K⟩:=jl d;have v:=lH (λl g h=>À h.2.1) d;obtain⟨gs',y,M,O,P,B,Q,V,X,Y⟩:=p.AX H .no k (by rw[t];exact c w) fq fq (λy b=>⟨λz l=>(by rw[u y b]at l;cases l),by rw[b];exact C.N _<|À<|À U⟩) (λy _ b=>AH C.l λq j=>by rw[xe j];exact u y b) (by rwa[t]) v;have D:=p.d.agE i M O ((C.f _ s).trans J) (λ⟨e,c,d⟩=>by rw[a]at c;cases c;exact d);refine⟨{fy.gW E x (.gi .iH)with f:=fA E.f x qJ.size},_,_,_,_,gs',w,#[y],P,B,λh=>h,.r ?_ (B.trans p.b) X ?_ (⟨p.M.C,p.M.I,p.M.jG,p.M.M,p.M.S,p.M.N⟩) ?_ ?_ ?_ λj r q W a3=>(p.f j r q W a3).app _,Du H.C (p.G s)<|À ?_⟩
 .have:=p.N.G (x:=x) (e:=.gi .iH) (T:=T) H.C (λ⟨N,h⟩=>by cases h);exact⟨this.M,this.Y,this.I,this.C,this.r⟩
 .have:=Y.gW (x:=x) (e:=.gi .iH) (⟨λ_=>⟨_,a,trivial⟩,λ_=>trivial⟩);exact⟨this.gU,this.o,this.lT,this.e,this.f,this.h,this.l,this.S,this.M,this.c,this.I,this.N,this.g,this.d⟩
 .have h:=p.C.gW (x:=x) (e:=.gi .iH) i (by rw[a];rfl) (λq h W=>by rw[a]at h;cases h;exact⟨fq,fq,fq⟩) (λq h W=>by cases h;exact⟨fq,fq,fq⟩) (λj h=>p.C.l j Z<|by rw[<-h,a];simp) (λh=>p.C.f<|by rw[<-h,a];simp);exact⟨h.v,h.C,h.K,h.L,h.J,h.I,h.z,h.d,h.l,h.f,h.h,h.M,h.o,h.t,h.g,h.u,h.N,h.B,h.e,h.Y,h.w,h.H,h.O,h.S,h.y,h.D⟩
 .refine{D with r:=λz l j=>D.r z l ?_};by_cases q:z=x
  .exact Á q
  .exact À<|(XS q).1 j
 .refine p.c.qI (E':={fy.gW E x (.gi .iH)with f:=fA E.f x qJ.size}) Q (by rcases v with q|q<;>rw[q]<;>simp) V (λ_ _=>rfl) U U (λy b=>fK _ _ Z) (λ_=>rfl) (λ_ _=>rfl) (λ_ _ h=>À h) λ_ _ _ _ h=>À h
 .unfold rH;rw[a];simp only[im.rk,jF.rk];omega
end
section
variable{F:Ph}{E K:fV F}{S:Nat->Jd}{o M:Nat->gB}{G:Nat->iC}{B:Nat->ff}{m J:Array Ä}{u:ä}{I:Option (Nat×Nat)}
def XY{N:Nat}{l:ff}(h:Ź P N l.d g):lj P É (pw P N) .fD l g:=λ_ _=>h
def XZ(a:Ps F E):E.r<=E.M.ad F.n:=by unfold fV.r;cases E.M<;>simp only[fY.sp,fY.ad]<;>omega
theorem GA(b:Ps F E){e:im}(d:i<E.r):Ñ (F.n+1) (fy.gW E i e).G+mg (E.N i)=Ñ (F.n+1) E.G+e.kQ:=by
 have g:=XZ b;have h:=Dj b;have:=xc (f:=E.G) (f':=(fy.gW E i e).G) (j:=i) (n:=F.n+1) Z (λa c=>by unfold fV.G;show(if a<E.M.ad F.n then mg (fA E.N i (Ã e) a)else 0)=_;rw[fK _ _ c]);have a:E.G i=mg (E.N i):=by unfold fV.G;rw[if_pos Z]
 have c:(fy.gW E i e).G i=e.kQ:=by unfold fV.G;show(if i<E.M.ad F.n then mg (fA E.N i (Ã e) i)else 0)=_;rw[if_pos Z,gG];rfl
 grind
theorem X0(a:Ps F E)(h:E.b=.cl i n):∀y p,E.N y=Ã (.gi p)->∀W,p≠ .gC W/\p≠ .jd W/\p≠ .iD W:=by intro y p b W;let⟨d,e⟩:=a.N y p b;grind
theorem O8(a:Ps F E)(h:E.g=Ã i):∀y,y≠i->∀p,E.N y=Ã (.gi p)->∀W,p≠ .gC W/\p≠ .jd W/\p≠ .iD W:=by intro y c p b W;let⟨d,e⟩:=a.N y p b;grind
def PI.ahm(p:PI F n zX E S o G B m w qJ)(e:i<E.r)(d:E.N i=Ã (.gi .iH)):∃c a,E.b=.cl (c+1) a/\c+1=Ñ (F.n+1) E.G/\a=E.M.gF/\¬(E.M=.fB .gC\/E.M=.fB .lk\/E.M=.gi):=by
 have g:1<=Ñ (F.n+1) E.G:=by
  have q:=XZ p.C;have r:=Dj p.C;have:=OQ (f:=E.G) (j:=i) (n:=F.n+1) Z;have s:E.G i=1:=by unfold fV.G;rw[if_pos Z,d];rfl
  omega
 obtain⟨c,a,b⟩:∃c a,E.b=.cl (c+1) a:=by
  cases q:E.b with
  |cl c a=>
   have:=(p.C.t c a q).1;exact⟨c-1,a,by congr 1;omega⟩
  |jE a=>have:=(p.C.g a q).1;omega
  |gY r s=>have:=(p.C.u r s q).1;omega
 let⟨r,s⟩:=p.C.t _ _ b;exact⟨c,a,b,r,s,λq=>by have:=p.C.B q;omega⟩
theorem PI.ahn(H:gS F)(p:PI F n zX E S o G B m w qJ)(f:i<E.r)(v:E.N i=Ã (.gi .iH))(z:m[F.L+i]?=Ã g)(iK:g.status=Å)(ht:o (F.L+i)=.fD)(hc:E.b=.cl (j+1) k)(GB:j+1=Ñ (F.n+1) E.G)(X1:k=E.M.gF)(GD:¬(E.M=.fB .gC\/E.M=.fB .lk\/E.M=.gi))(hl:j=0/\0<k):kh F n zX E o m w qJ I (F.L+i):=by
 have t:=iQ z;have C:=p.I.r;let⟨hd,_,ug⟩:=p.A1 f v z iK ht w<|C.r _ t;have mc:=A0 H.C i;have Q:F.M F.C:=À U;have K:=hc▸p.M.C;let⟨ev,V⟩:=K.jO;have X:=ug (GS.cl (j+1) k).st;rw[ev]at X V;obtain⟨d,M⟩:∃d,(GS.jO<|.cl (j+1) k).st=d:=⟨_,U⟩;rw[M]at X;let⟨g',h1,h2⟩:=X;have Y:=h1 w K.C K.I;rw[<-M]at Y;let⟨k1,k2,k3⟩:=K.r;have O:kG F.C w (w.setCell (fP F.C)<|ë Ó (GS.jO<|.cl (j+1) k).st):=Á ⟨_,_,À U,U⟩;have D:=O.r p.a H.C Q;have xg:fJ {B (F.L+i)with w:=w} w (w.setCell (fP F.C)<|ë Ó (GS.jO<|.cl (j+1) k).st):=⟨Ô D.r.symm,λb ll=>D.jZ b<|C.I _ t b ll,λa ha=>D.M _ t a ha,λa ha=>D.N _ t a ha,λa _=>D.I a⟩;have ed:GS.jO (.cl (j+1) k)=.jE k:=by simp only[GS.jO,if_pos hl]
 rw[ed]at Y V O D xg M;have hW:fl F.P É (JP F.P É F.C (Gd F) k) {B (F.L+i)with w:=w} g':=by
  have r:d=(k:Int):=M.symm;have l:¬(d=0\/(gd<=d/\d<1000000*gd/\d%gd<1000000)):=by simp only[gd];omega
  grind
 let⟨T,hT⟩:=jl<|hW.jw xg;have nt:=lH (λl g h=>À h.2.1) hW;obtain⟨J,u,l,q2,q3,q4,q5,q6,q7⟩:=p.Y H .no z (Gw f) Q (by rwa[mc]) O (AR Q) U (Gz p t hd<|À U) (by rwa[mc]) nt;have yR:=GA p.C (e:=.gi (.gC k)) f;rw[v]at yR;refine p.Gy H (e:=.gi (.gC k)) (la:=Ã i) f v trivial trivial trivial z O V l q2 q3 nt q4 q5 q6 q7 (λ⟨N,h⟩=>by cases h) (p.C.Gx f ⟨_,v⟩ (λy _ q r W=>X0 p.C hc y q r W) (λy r h=>by cases h) (λr h=> ?_) (λr s h=>by cases h) (λq h=> ?_) (λq=>absurd q GD) (λq=>absurd (À q) GD) λl q2=> ?_) (À ?_) λ_ _=>À rfl
 .injection h with h;subst h;exact⟨(by simp only[mg,im.kQ,jF.kQ]at yR;omega),X1,U,À U⟩
 .grind
 .let⟨y,r⟩:=p.C.S l q2;grind
 .simp only[im.rk,jF.rk];grind
theorem PI.aho(H:gS F)(p:PI F n zX E S o G B m w qJ)(f:i<E.r)(t:E.N i=Ã (.gi .iH))(v:m[F.L+i]?=Ã g)(iK:g.status=Å)(ht:o (F.L+i)=.fD)(hc:E.b=.cl (j+1) k)(GB:j+1=Ñ (F.n+1) E.G)(X1:k=E.M.gF)(GD:¬(E.M=.fB .gC\/E.M=.fB .lk\/E.M=.gi))(hl:¬(j=0/\0<k)):kh F n zX E o m w qJ I (F.L+i):=by
 have l:=iQ v;have C:=p.I.r;let⟨hd,_,ug⟩:=p.A1 f t v iK ht w<|C.r _ l;have mc:=A0 H.C i;have O:F.M F.C:=À U;have z:=hc▸p.M.C;let⟨ev,P⟩:=z.jO;have Q:=ug (GS.cl (j+1) k).st;rw[ev]at Q P;obtain⟨d,K⟩:∃d,(GS.jO<|.cl (j+1) k).st=d:=⟨_,U⟩;rw[K]at Q;let⟨g',h1,h2⟩:=Q;have T:=h1 w z.C z.I;rw[<-K]at T;let⟨k1,k2,k3⟩:=z.r;have M:kG F.C w (w.setCell (fP F.C)<|ë Ó (GS.jO<|.cl (j+1) k).st):=Á ⟨_,_,À U,U⟩;have D:=M.r p.a H.C O;have xg:fJ {B (F.L+i)with w:=w} w (w.setCell (fP F.C)<|ë Ó (GS.jO<|.cl (j+1) k).st):=⟨Ô D.r.symm,λb ll=>D.jZ b<|C.I _ l b ll,λa V=>D.M _ l a V,λa V=>D.N _ l a V,λa _=>D.I a⟩;have ed:GS.jO (.cl (j+1) k)=.cl j k:=by simp only[GS.jO,if_neg hl]
 rw[ed]at T P M D xg K;obtain⟨N,hN⟩:Gd F {B (F.L+i)with w:=w} g':=by
  have q:d=(j:Int)*gd+(k:Int):=K.symm;have h:d=0\/(gd<=d/\d<1000000*gd/\d%gd<1000000):=by simp only[gd]at q|-;omega
  grind
 have nt:=hN.status;obtain⟨J,u,X,Y,q3,q4,q5,q6,q7⟩:=p.Y H .no v (Gw f) O (by rwa[mc]) M (AR O) U (Gz p l hd<|À U) (by rw[mc];exact XY hN) nt;have yR:=GA p.C (e:=.jr N) f;rw[t]at yR;have hz:Ñ (F.n+1) (fy.gW E i<|.jr N).G=j:=by simp only[mg,im.kQ,jF.kQ]at yR;omega
 refine p.Gy H (e:=.jr N) (la:=E.g) f t trivial trivial trivial v M P X Y q3 nt q4 q5 q6 q7 (λ_=>rfl) (p.C.Gx f ⟨_,t⟩ (λy _ q h W=>X0 p.C hc y q h W) (λy r h=> ?_) (λr h=>by cases h) (λr s h=>by cases h) (λq h=>by cases h) (λq=>absurd q GD) (λq=>absurd (À q) GD) λX Y=> ?_) (À ?_) λ_ _=>À rfl
 .grind
 .let⟨y,h⟩:=p.C.S X Y;grind
 .simp only[im.rk,jF.rk];omega
def PI.ahp(H:gS F)(p:PI F n zX E S o G B m w qJ)(a:i<E.r)(b:E.N i=Ã (.gi .iH))(d:m[F.L+i]?=Ã g)(e:g.status=Å)(f:o (F.L+i)=.fD):kh F n zX E o m w qJ I (F.L+i):=by
 let⟨c,r,h,j,k,l⟩:=p.ahm a b;by_cases q:c=0/\0<r
 .exact p.ahn H a b d e f h j k l q
 .exact p.aho H a b d e f h j k l q
theorem PI.ahq(H:gS F)(p:PI F n zX E S o G B m w qJ)(c:i<E.r)(d:E.N i=Ã (.gi (.gC j)))(f:m[F.L+i]?=Ã g)(O:g.status=Å)(P:o (F.L+i)=.fD):kh F n zX E o m w qJ I (F.L+i):=by
 have y:=iQ f;let⟨Q,_,V⟩:=p.A1 c d f O P w<|(p.I.r).r _ y;have z:=A0 H.C i;have C:F.M F.C:=À U;let⟨X,k⟩:=(p.C.N i _ d).1 j<|À U;have D:=k▸p.M.C;let⟨g',Y,t⟩:=V (j:Int);simp only[if_true]at t;let⟨T,hT⟩:=jl t;have K:=lH (λl g h=>À h.2.1) t;obtain⟨J,u,l,v,q3,q4,q5,q6,q7⟩:=p.Y H .no f (Gw c) C (by rw[z];exact Y w D.C) (À U) (yK C) U (Gz p y Q<|Á<|À U) (by rwa[z]) K;have M:=GA p.C (e:=.gi (.jd j)) c;rw[d]at M;let⟨b1,b2,_⟩:=p.C.g j k;have hz:Ñ (F.n+1) (fy.gW E i<|.gi (.jd j)).G=0:=by simp only[mg,im.kQ,jF.kQ]at M;omega
 refine p.Gy H (e:=.gi (.jd j)) (la:=E.g) c d trivial trivial trivial f (À U) D l v q3 K q4 q5 q6 q7 (λ⟨N,h⟩=>by cases h) (p.C.Gx c ⟨_,d⟩ (O8 p.C X) (λc' a h=>by cases h) (λa h=> ?_) (λr s h=>by cases h) (λa h=> ?_) (λ_=>hz) (λq=> ?_) λl v=> ?_) (À ?_) λ_ h=>À rfl
 .grind
 .grind
 .let⟨a,b,h⟩:=p.C.O q;rw[k]at h;cases h
 .let⟨c',a⟩:=p.C.S l v;grind
 .simp only[im.rk,jF.rk];omega
theorem PI.ahr(H:gS F)(p:PI F n zX E S o G B m w qJ)(c:i<E.r)(d:E.N i=Ã (.gi (.jd j)))(k:m[F.L+i]?=Ã g)(P:g.status=Å)(Q:o (F.L+i)=.fD):kh F n zX E o m w qJ I (F.L+i):=by
 have f:=iQ k;have C:=p.I.r;let⟨V,_,g',X,z⟩:=p.A1 c d k P Q w<|C.r _ f;have K:=A0 H.C i;have v:F.M F.C:=À U;let⟨Y,M⟩:=(p.C.N i _ d).1 j<|Á U;have t:=M▸p.M.C;have O9:=t.r.1;have y:kG F.C w (w.setCell (fP F.C)<|ë Ó 0):=Á ⟨_,_,À U,U⟩;have D:=y.r p.a H.C v;let⟨T,hT⟩:=jl (z.jw ⟨Ô D.r.symm,λb l=>D.jZ b<|C.I _ f b l,λa h=>D.M _ f a h,λa h=>D.N _ f a h,λa _=>D.I a⟩);have O:=lH (λl g h=>by
  cases j with
  |zero=>omega
  |succ j=>exact À h.2.1) z
 obtain⟨J,u,a,b,q3,q4,q5,q6,q7⟩:=p.Y H .no k (Gw c) v (by rw[K];exact X w _ t.C t.I) y (XG v) U (Gz p f V<|Á<|Á<|À U) (by rwa[K]) O;have l:=GA p.C (e:=.gi (.iD j)) c;rw[d]at l;let⟨b1,b2,_⟩:=p.C.g j M;have hz:Ñ (F.n+1) (fy.gW E i<|.gi (.iD j)).G=0:=by simp only[mg,im.kQ,jF.kQ]at l;omega
 refine p.Gy H (e:=.gi (.iD j)) (la:=E.g) c d trivial trivial trivial k y t.Xt a b q3 O q4 q5 q6 q7 (λ⟨N,h⟩=>by cases h) (p.C.Gx c ⟨_,d⟩ (O8 p.C Y) (λc' q h=>by cases h) (λq h=>by cases h) (λr s h=> ?_) (λq h=> ?_) (λ_=>hz) (λq=>⟨j,0,rfl⟩) λa b=> ?_) (À ?_) λ_ h=>À rfl
 .grind
 .cases h;simp_all
 .let⟨c',q⟩:=p.C.S a b;grind
 .simp only[im.rk,jF.rk];omega
def X2(p:PI F n zX E S o G B m w qJ){a y:Ä}(d:mayWake F.P g=Ì)(f:a.status=Å)(i:m[k]?=Ã y)(j:G k=.iD):(Ā F.P g a W y).status≠Ü:=by
 intro h;let⟨e,l⟩:=Gj h;let⟨g0,_,b,c,_⟩:=p.I.C k y i;rw[j]at b;cases b with
 |gf=>rw[l]at c;rcases c with q|q<;>cases q
 |nY r q=>
  unfold Ā at h;rw[if_pos (by simp[d,f])]at h;unfold ď at h;simp only[q]at h;cases h
def PI.ahs(H:gS F)(p:PI F n zX E S o G B m w qJ)(c:i<E.r)(d:E.N i=Ã (.gi (.iD j)))(k:m[F.L+i]?=Ã g)(iK:g.status=Å)(ht:o (F.L+i)=.fD):kh F n zX E o m w qJ I (F.L+i):=by
 have f:=iQ k;have C:=p.I.r;let⟨hr0,K,s,M⟩:=(p.C.N i _ d).2 j U;obtain⟨j,rfl⟩:∃O,j=O+1:=⟨j-1,Z⟩;let⟨hd,_,Pa,g',Q,h1,h2⟩:=p.A1 c d k iK ht w<|C.r _ f;have mc:=A0 H.C i;have V:F.M F.C:=À U;have W:=M▸p.M.C;have X:kG F.C w (w.setCell (gX F.C)<|ë ç<|ç.wrap<|(GS.gY (j+1) s).sm+1):=Á ⟨_,_,Á U,U⟩;have D:=X.r p.a H.C V;let⟨b1,b2,_⟩:=p.C.u _ _ M;obtain⟨e,T,hF,Y,yS,he3,X3⟩:∃(e:im) (T:gB),lj F.P É (JE F e) T {B (F.L+i)with w:=w.setCell (gX F.C) (ë ç<|ç.wrap<|(GS.gY (j+1) s).sm+1)} g'/\(e.iz/\e.ox/\e.kQ=0)/\((∃N,e=.jr N)->T=.fD)/\((e.rk F).1<((im.gi<|.iD (j+1)).rk F).1)/\((j=0/\∃N,e=.jr N)\/(0<j/\e=.gi (.iD j))):=by
  cases j with
  |zero=>
   obtain⟨N,hN⟩:Gd F {B (F.L+i)with w:=w} g':=h2;exact⟨.jr N,.fD,XY hN,⟨trivial,trivial,U⟩,λ_=>rfl,by simp only[im.rk,jF.rk];omega,À ⟨U,N,U⟩⟩
  |succ j=>
   let⟨T,hT⟩:=jl (h2.jw ⟨Ô D.r.symm,λb ll=>D.jZ b<|C.I _ f b ll,λa ha=>D.M _ f a ha,λa ha=>D.N _ f a ha,λa _=>D.I a⟩);have XL:j+1+1+s<=1:=by rw[b2];cases E.M<;>simp only[fY.gF]<;>first|omega|(rename_i v;cases v<;>simp[ju.sU])
   omega
 obtain⟨J,u,q1,q2,q3,q4,q5,q6,q7⟩:=p.Y H .no k (Gw c) V (by rw[mc];exact h1 w _ W.M W.N) X (Gm V) (Gn _).2.2.2 (Gz p f hd<|Á<|Á<|Á U) (by rwa[mc])<|À Q;have yR:=GA p.C (e:=e) c;rw[d,Y.2.2]at yR;have hz:Ñ (F.n+1) (fy.gW E i e).G=0:=by simp only[mg,im.kQ,jF.kQ]at yR;omega
 refine p.Gy H (la:=E.g) c d trivial Y.1 Y.2.1 k X W.jD q1 q2 q3 (À Q) q4 q5 q6 q7 yS (p.C.Gx c ⟨_,d⟩ (O8 p.C K) (λc' aht h=>by cases h) (λaht h=>by cases h) (λO s' h=> ?_) (λp' h=> ?_) (λ_=>hz) (λq=>⟨j,s+1,rfl⟩) λq1 q2=> ?_) (À he3) λhm _=>Á λy hy=> ?_
 .injection h with h l;subst h l;refine⟨hz,Z,λhr=>⟨K,?_⟩⟩;rcases X3 with⟨q,_⟩|⟨_,q⟩
  .omega
  .exact q
 .subst h;rcases X3 with⟨_,N,q⟩|⟨hr,q⟩
  .cases q
  .cases q;exact⟨λW' t=>(by rcases t with t|t<;>cases t),λO pd=>by cases pd;exact⟨hr,K,s+1,U⟩⟩
 .let⟨c',l⟩:=p.C.S q1 q2;rw[M]at l;cases l
 .have h0:(0:Nat)≠F.L+i:=by have:=H.C.r;omega
  rw[q4 0 h0]at hy;obtain⟨z,GF,rfl⟩:=Ù.1 hy;exact X2 p Pa Q GF<|by rw[p.h.2,hm];rfl
end
section
variable{F:Ph}{E E':fV F}{S:Nat->Jd}{f D:Nat->gB}{o:Nat->iC}{v:Nat->ff}{l z:Array Ä}{u:ä}{I:Option (Nat×Nat)}
def A3(ok:F.Ok):(F.L==0)=É:=by have:=ok.r;simp;omega
def Dw(h:0<E.r):yJ E F.L:=Á ⟨0,h,U⟩
def Dx(b:E.N 0=Í):∀x,E.iz x->F.L=F.L+x->False:=λx ⟨e,a,_⟩ h2=>by
 have:x=0:=Z
 subst this;rw[b]at a;cases a
def PI.A4(p:PI F n zX E S f o v l w qJ)(b:0<E.r)(c:E.N 0=Í)(d:l[F.L]?=Ã g)(e:g.status=Å)(h:f F.L=.fD):∀a,fJ (v F.L) (v F.L).w a->JI F E.c E.S {v F.L with w:=a} g:=by let⟨j,i⟩:=p.m b c;intro a r;have:=p.I.N d e h (À i) a r;simp_all
theorem qM.J9(h:qM F E S f o)(ok:F.Ok){ip:jx}{sg:Nat->F.γ}{T:gB}(c:E.N 0=Í):qM F {E with S:=ip,c:=sg} (fA S F.L<|JI F sg ip) (fA f F.L T) (fA o F.L .no):=by
 have:=ok.r;refine⟨by rw[fK S _ Z,fK o _ Z];exact h.M,λa b=>by rw[gG,gG];exact⟨U,U⟩,λj a b=>by rw[fK S _ Z,fK o _ Z];exact h.I j a b,λy e a b=> ?_,λi a b=>by rw[fK S _ Z,fK o _ Z,fK f _ Z];exact h.r i a b⟩;have d:y≠0:=λq=>by grind
 rw[fK S _ Z,fK o _ Z,fK f _ Z];exact h.C y e a b
theorem Ka(ok:F.Ok){T:gB}(b:F.L<F.N)(i:E.N 0=Í)(c:E'.N=E.N)(d:E'.M=E.M)(e:E'.h=E.h)(g:E'.C=E.C)(h:E'.S.rk F<E.S.rk F):py F.N (E'.mu (fA f F.L T) z) (E.mu f l):=by refine Gk b (À ?_) λk a=>yI (λ_=>by rw[d]) (λ_ _=>by rw[e]) (λ_=>by rw[c]) (λq=>absurd q a) (λ_ _=>by rw[g])<|fK f _ a;grind [XB]
theorem Pd(B:fj F E l w)(i:E'.M=E.M)(b:E'.r=E.r)(c:E'.N=E.N)(m:E'.C=E.C)(n:E'.I=E.I)(o:E'.b=E.b)(p:E'.a=E.a):fj F E' l w:=by
 intro k y d e;rcases B k y d e with⟨q,a,f⟩|⟨j,g,h,a,f⟩
 .grind
 .refine Á ⟨j,by rwa[b],by rwa[c],a,?_⟩;grind
theorem Ps.Kb(h:Ps F E){ip:jx}{G:GS}(i:E.N 0=Í)(x:0<E.r)(l:∀c,(ip=.kP c->c<=F.m)/\(ip=.mk c->1<=c/\c<=F.m)/\∀p,ip=.dn c p->1<=c/\c<=F.m) (o:∀c,1<=c->c<=F.m->ip.od<c->fA E.a k G c=.cl 1 (Ñ F.n λj=>(E.C j).gF F j c)) (t:∀c,c<=F.m->c<=ip.od->(∃W,(ip=.dn c (.gC W)\/ip=.dn c (.jd W))/\fA E.a k G c=.jE W/\W=Ñ F.n λj=>(E.C j).gF F j c)\/(∃r s,ip=.dn c (.iD r)/\0<r/\fA E.a k G c=.gY r s/\r+s=Ñ F.n λj=>(E.C j).gF F j c)\/((∀p,ip≠ .dn c p)/\((fA E.a k G c=.cl 0 0/\(Ñ F.n λj=>(E.C j).gF F j c)=0)\/∃s,fA E.a k G c=.gY 0 s/\s=Ñ F.n λj=>(E.C j).gF F j c))) (u:E.S.od<=ip.od) (v:(∃a b,E.a k=.gY a b)->∃a b,G=.gY a b) (y:G=.cl 1 0->E.d k=Í) {sg:Nat->F.γ} {V:Nat->Nat->Prop} (w:V 0=F.i) {pk:Nat->Nat}:Ps F {E with S:=ip,a:=fA E.a k G,c:=sg,V:=V,e:=pk}:=by
 refine⟨w,h.C,h.K,h.L,λq=> ?_,l,h.z,h.d,h.l,λq=>absurd i q,h.h,h.M,h.o,h.t,h.g,h.u,h.N,h.B,o,t,λj r d f=>Ø (h.w j r d f) u,λj r d f=> ?_,h.O,h.S,λc d f=> ?_,h.D⟩
 .have:E.r=0:=q;omega
 .have:=h.H j r d f;show∃a b,fA E.a k G _=_;by_cases e:F.r (j+r*F.n)=k
  .rw[e]at this|-;rw[gG];exact v this
  .grind [fK]
 .have g:fA E.a k G c=.cl 1 0:=f;by_cases e:c=k
  .grind [gG]
  .rw[fK _ _ e]at g;exact h.y c d g
def PI.ahu(H:gS F)(p:PI F n zX E S f o v l w qJ)(D:0<E.r)(u:E.N 0=Í)(I:l[F.L]?=Ã g)(M:g.status=Å)(ht:f F.L=.fD)(t:E.S=.kP k):rG F n zX E f l w qJ:=by
 have B:=iQ I;have C:=p.I.r;have O:=p.A4 D u I M ht w<|C.r _ B;rw[t]at O;have X4:=(p.C.I k).1 t;have X:=A3 H.C;have ua:iT F.S (λi=>i<l.size) E.Y (gA v F.L {v F.L with w:=w}) w qJ:=C.C B (λ_ q=>q) (λb q=>À<|Á q) (λ_ q=>q) (λa q=>À<|Á q) U U U (C.m _ B)<|C.g _ B;have X5:=p.a.C (i:=F.L) (d:=(v F.L).d) (w0:=w)<|Ç _;have z:E.S.md=k:=by rw[t];rfl
 by_cases AT:k<F.m
 .let⟨GG,A6⟩:=p.M.M k (by rw[z];exact Ç _);let⟨r1,r2⟩:=p.a.f D u;rw[z]at r1 r2;let⟨o1,o2⟩:=p.a.e D (k+1) (by rw[z];omega) AT;let⟨T,P⟩:=jl<|H.f k _ _ _ g AT O (C.M B) GG A6 r2 r1 o1 o2 E.c U;have Q:=p.I.M (J:=JI F E.c<|.mk (k+1)) (T:=T) (K:=.no) I (À M) ua (by rwa[X]);have y:fA E.a 0 (E.a 0)=E.a:=by funext j;unfold fA;split<;>simp[*]
  refine⟨{E with S:=.mk (k+1)},_,_,_,_,λh=>h,.r (p.N.J9 H.C (sg:=E.c) u) p.b Q ?_ ?_ ?_ ?_ (Pd p.c U U U U U U U) p.f,Ka H.C (p.G B) u U U U U ?_⟩
  .have L:=X5;exact⟨L.gU,L.o,L.lT,λa e b c=>L.e a e (by rwa[z]) c,λa b=>by have:=L.f a b;rwa[z]at this,L.h,L.l,L.S,L.M,L.c,λe b=>L.I e (by rwa[z]),λe b=>L.N e (by rwa[z]),λe a b=>L.g e a (by rwa[z]),L.d⟩
  .have W:=p.M;exact⟨W.C,W.I,W.jG,λe b=>W.M e (by rwa[z]),λe a b=>W.S e a (by rwa[z]),W.N⟩
  .have:=p.C.Kb (k:=0) (ip:=.mk (k+1)) (G:=E.a 0) (sg:=E.c) (V:=E.V) (pk:=E.e) u D (λe=>⟨λq=>(by cases q),λq=>(by cases q;exact⟨Z,Z⟩),λp q=>by cases q⟩) (λe a b c=> ?_) (λe a b=> ?_) (by rw[t];exact Ç _) id (λq=>p.C.y 0 (ò _) q) p.C.v
   .rwa[y]at this
   .rw[y];exact p.C.e e a b<|by rwa[t]
   .rw[y];rcases p.C.Y e a (by rwa[t])with⟨W,q,_⟩|⟨r,s,q,_⟩|q
    .rw[t]at q;rcases q with q|q<;>cases q
    .rw[t]at q;cases q
    .exact Á<|Á ⟨λp q=>(by cases q),q.2⟩
  .have:E.S.rl=(jx.mk<|k+1).rl:=by rw[t];rfl
   have a:=p.d;rwa[this]at a
  .rw[t];simp only[jx.rk];have:F.m+3-(k+1)=F.m+2-k:=Z
   rw[this];omega
 .have q:k=F.m:=Z
  subst q;let⟨T,P⟩:=jl<|H.h _ g O<|C.M B;have Q:=p.I.M (J:=JE F .oQ) (T:=T) (K:=.no) I (À M) ua (by rwa[X]);have s:¬E.iz 0:=λ⟨e,a,_⟩=>by rw[u]at a;cases a
  have W:¬E.ox 0:=λ⟨e,a,_⟩=>by rw[u]at a;cases a
  refine⟨fy.gW E 0 .oQ,_,_,_,_,λh=>h,.r (p.N.G (x:=0) H.C λ⟨N,h⟩=>by cases h) p.b Q (X5.gW ⟨λh=>h.elim,λh=>(W h).elim⟩) p.M.gW (p.C.gW D (by rw[u];rfl) (λb h=>by rw[u]at h;cases h) (λb h=>by cases h) (λj h=>by omega) λ_=>t) (p.d.G ⟨λh=>h.elim,λh=>(s h).elim⟩) (O7 p.c λk y b c e=> ?_) p.f,Du H.C (p.G B)<|À ?_⟩
  .subst e;rw[ó,I]at b;obtain rfl:=È b;rw[M]at c;cases c
  .unfold rH;rw[u];simp only[im.rk,if_true,t,jx.rk];have:F.m+2-F.m=2:=Z
   rw[this];omega
end
section
variable{F:Ph}{E E':fV F}{S:Nat->Jd}{o G:Nat->gB}{v:Nat->iC}{d:Nat->ff}{f B:Array Ä}{u:ä}{D:Option (Nat×Nat)}
def X6(ok:F.Ok)(a:k<=F.m):jg F.toFx k≠jo F i:=λe=>ok.C (by
 have:F.I k=F.Y:=by injection e
 rw[<-this];exact Á ⟨k,a,U⟩)
def ahv(ok:F.Ok)(a:k<=F.m)(b:i<=F.m)(h:jg F.toFx k=jg F.toFx i):k=i:=ok.S k i a b<|by injection h
def ahw(h:jo F i=jo F n):i=n:=by injection h
theorem PI.ahx(H:gS F)(p:PI F n zX E S o v d f w qJ)(h0:0<E.r)(he:E.N 0=Í)(hi:f[F.L]?=Ã g)(iK:g.status=Å)(ht:o F.L=.fD)(B:E.S=.mk k):rG F n zX E o f w qJ:=by
 have y:=iQ hi;have C:=p.I.r;have hJ:=p.A4 h0 he hi iK ht w<|C.r _ y;rw[B]at hJ;let⟨k1,N⟩:=(p.C.I k).2.1 B;have D:E.S.md=k-1:=by rw[B];rfl
 let⟨M,z,hn,A6,X7,hcell,hdone⟩:=hJ;let⟨o1,o2⟩:=p.a.e h0 k (by rw[D];omega) N;have ua:iT F.S (λi=>i<f.size) E.Y (gA d F.L<|p7 F {d F.L with w:=w} k) w qJ:=by
  refine C.C y (λ_ q=>q.elim) (λb q=>À q) (λ_ q=>q.1) (λa q=> ?_) U U U (λ_ q=>q.elim) λa c q=> ?_
  .rcases q with q|rfl|rfl
   .exact À<|Á q
   .exact À<|À o2
   .exact À<|À o1
  .rcases q with q|q|q
   .exact C.g _ y a c.1 q
   .exact c.2.1 q
   .exact c.2.2 q
 have hF:lj F.P (F.L==0) (JI F (fA E.c k M)<|.dn k .jD) .fD (p7 F {d F.L with w:=w} k) g:=by rw[A3 H.C];intro J s;let⟨Q,X,W,a3,e⟩:=hdone;exact⟨Q,X,W,a3,e.jw s⟩
 have hG:fA E.a 0 (E.a 0)=E.a:=by funext j;unfold fA;split<;>simp[*]
 have Vn:∀l,l≠k->fA E.V k z l=E.V l:=λl h=>fK _ _ h;have Vs:fA E.V k z k=z:=gG _ _ _;refine⟨{E with S:=.dn k .jD,c:=fA E.c k M,V:=fA E.V k z},_,_,_,_,λh=>h,.r ?_ p.b (p.I.M (K:=.no) hi (À iK) ua hF) ?_ ?_ ?_ ?_ (Pd p.c U U U U U U U) p.f,Ka H.C (p.G y) he U U U U ?_⟩
 .have:=p.N.J9 (ip:=.dn k .jD) (sg:=fA E.c k M) (T:=.fD) H.C he;exact⟨this.M,this.Y,this.I,this.C,this.r⟩
 .have L:=p.a;have G:(gA d F.L<|p7 F {d F.L with w:=w} k) F.L=p7 F {d F.L with w:=w} k:=gV _ _ _;have W:∀i,i≠F.L->(gA d F.L<|p7 F {d F.L with w:=w} k) i=d i:=λi h=>gI d _ h;have X8:(0:Nat)≠F.L:=by have:=H.C.r;omega
  have Pe:∀i a,(gA d F.L (p7 F {d F.L with w:=w} k) i).r a->(d i).r a:=λi a h=>by
   by_cases q:i=F.L
   .subst q;rw[G]at h;exact h.1
   .grind
  have sO:∀i b,(gA d F.L (p7 F {d F.L with w:=w} k) i).O b->(d i).O b/\i≠F.L:=λi b h=>by
   by_cases q:i=F.L
   .subst q;rw[G]at h;exact h.elim
   .grind
  have nOc:∀i,i<f.size->∀a,(a=jo F (F.b k)\/a=jg F.toFx k)->¬(gA d F.L (p7 F {d F.L with w:=w} k) i).r a:=λi s a c h=>by
   by_cases q:i=F.L
   .subst q;rw[G]at h;rcases c with c|c
    .exact h.2.1 c
    .exact h.2.2 c
   .rw[W i q]at h;refine C.h i F.L s y q a h<|À ?_;grind
  refine⟨λi s a c=> ?_,λx t u a c=>by rw[W 0 X8];exact L.o x t u a c,λh=>by rw[W 0 X8];exact L.lT h,λh l t u=> ?_,λh yP=> ?_,λj hj yP r hr t=>by rw[W _ Z];exact L.h j hj yP r hr t,λj hj yP=>by rw[W _ Z];exact L.l j hj yP,λx AY=> ?_,λi s=> ?_,λi t u=>by rw[W i Z];exact L.c i t u,λl I b hb=> ?_,λl I i s h=> ?_,λl t u i s h=> ?_,λj hj r hr t i s h=>L.d j hj r hr t i s<|Pe _ _ h⟩
  .by_cases q:i=F.L
   .subst q;rw[G]at c;rcases c with q|q|q|q
    .exact L.gU _ y a<|À q.1
    .exact L.gU _ y a<|Á q
    .exact Á ⟨_,H.C.Y.1 _ Z Z,q⟩
    .grind
   .rw[W i q]at c;exact L.gU i s a c
  .rw[G];have A7:k<l:=t;let⟨J,q2⟩:=L.e h l (by rw[D];omega) u;exact⟨⟨J,X6 H.C u,λe=>by have:=ahv H.C u N e;omega⟩,⟨q2,λe=>by have:=H.C.pi l k Z u k1 N<|ahw e;omega,λe=>X6 H.C N e.symm⟩⟩
  .rw[G];show(p7 F _ k).N (jg F.toFx k)/\∀b,fA E.V k z k b->(p7 F _ k).I b;rw[Vs];exact⟨Á<|Á U,X7⟩
  .have:F.L+x≠F.L:=λq=>by
    have J:x=0:=Z
    subst J;let⟨e,t,_⟩:=AY;grind
   rw[W _ this];exact L.S x AY
  .by_cases q:i=F.L
   .subst q;rw[G];exact L.M _ s
   .rw[W _ q];exact L.M i s
  .have rI:l<=k:=I;by_cases q:l=k
   .subst q;have J:fA E.V l z l b:=hb;rw[Vs]at J;have hM:=X7 b J;refine⟨C.fw _ y b hM,C.I _ y b hM,λi s h=> ?_⟩;let⟨Q,X⟩:=sO i b h;exact C.o i F.L s y X b Q hM
   .have J:fA E.V k z l b:=hb;rw[Vn l q]at J;let⟨Q,X,a3⟩:=L.I l (by rw[D];omega) b J;exact⟨Q,X,λi s h=>a3 i s (sO i b h).1⟩
  .have rI:l<=k:=I;by_cases q:l=k
   .grind
   .exact L.N l (by rw[D];omega) i s<|Pe _ _ h
  .have rI:l<=k:=u;by_cases q:l=k
   .grind
   .exact L.g l t (by rw[D];omega) i s<|Pe _ _ h
 .have W:=p.M;refine⟨W.C,W.I,W.jG,λl I=> ?_,λl t I=> ?_,W.N⟩
  .have rI:l<=k:=I;show nz F l (fA E.c k M l)/\F.d l (fA E.c k M l) (fA E.V k z l) w;by_cases q:l=k
   .subst q;rw[gG,gG];refine⟨?_,A6⟩;have:=(W.M (l-1)<|by rw[D];exact Ç _).1;have u:=nz.Df this hn;grind
   .rw[fK _ _ q,fK _ _ q];exact W.M l<|by rw[D];omega
  .have rI:l<=k:=I;by_cases q:l=k
   .subst q;exact hcell
   .exact W.S l t<|by rw[D];omega
 .have:=p.C.Kb (ip:=.dn k .jD) (sg:=fA E.c k M) (V:=fA E.V k z) (pk:=E.e) he h0 (λl=>⟨λq=>(by cases q),λq=>(by cases q),λp q=>by cases q;exact⟨k1,N⟩⟩) (λl a b c=> ?_) (λl a b=> ?_) (by rw[B];exact Ç _) id (λq=>p.C.y 0 (ò _) q)<|by rw[Vn 0 Z];exact p.C.v
  .grind
  .rw[hG];exact p.C.e l a b<|by rwa[B]
  .rw[hG];have J:l<=k-1:=b;rcases p.C.Y l a (by rwa[B])with⟨W,q,_⟩|⟨r,s,q,_⟩|q;all_goals grind
 .have c:=p.d;have e:E.S.rl=k-1:=by rw[B];rfl
  rw[e]at c;refine{c with I:=λl a b x AY=> ?_};have J:l<=k-1:=b;refine c.I l a b x (AY.imp (λq=> ?_) id);rwa[<-Vn l Z]
 .rw[B];simp only[jx.rk,jF.rk];have:F.m+3-k=(F.m+2-k)+1:=Z
  grind [ł]
theorem PI.ahy(H:gS F)(p:PI F n zX E S o v d f w qJ)(x:0<E.r)(m:E.N 0=Í)(G:f[F.L]?=Ã g)(iK:g.status=Å)(ht:o F.L=.fD)(e:E.S=.dn k .jD):kh F n zX E o f w qJ D F.L:=by
 have t:=iQ G;have C:=p.I.r;have J:=p.A4 x m G iK ht w<|C.r _ t;rw[e]at J;let⟨k1,K⟩:=(p.C.I k).2.2 _ e;have M:=A3 H.C;let⟨hd,_,g',h1,N⟩:=J;have O:∀y:Ă,y.act=ė (Į<|fP<|F.I k)->y.act.touch?=Í:=λy i=>by rw[i];rfl
 let⟨T,hT⟩:=jl N;have P:=lH (λl g h=>À h.2.1) N;obtain⟨B,y,y1,y2,q1,Q,q3,q4,q5,q7⟩:=p.AX H .no G (by rw[M];exact h1 w) fq fq (λy i=>⟨λz l=>(by rw[O y i]at l;cases l),by rw[i];exact C.N _<|À<|Á ⟨k,K,U⟩⟩) (λy _ i=>AH C.l λl u=>by rw[xe u];exact O y i) (by rwa[M]) P;have z:E.S.md=k:=by rw[e];rfl
 have Pf:E.S.rl=k-1:=by rw[e];rfl
 let⟨V,X⟩:=p.a.f x m;rw[z]at V X;have Y:=p.d;rw[Pf]at Y;have I:k-1+1=k:=Z
 have Dq:=Y.agD y1 (by rwa[I]) ((C.f _ t).trans hd) (by
  rw[I];intro a l;rcases l with l|rfl
  .exact(C.S _ t).C a<|X _ l
  .exact(C.S _ t).r _ V)
 rw[I]at Dq;have hG:fA E.a 0 (E.a 0)=E.a:=by funext j;unfold fA;split<;>simp[*]
 refine⟨{E with S:=.dn k .iH,e:=fA E.e k qJ.size},_,_,_,_,B,w,#[y],q1,Q,λh=>h,.r ?_ (Q.trans p.b) q5 ?_ ?_ ?_ Dq (p.c.qI (E':={E with S:=.dn k .iH,e:=fA E.e k qJ.size}) q3 (by rcases P with q|q<;>rw[q]<;>simp) q4 (λ_ _=>rfl) U U (λ_ _=>rfl) (λ_=>rfl) (λ_ _=>rfl) (λ_ _ h=>À h) λ_ _ _ _ h=>À h) λj r a1 a2 a3=> ?_,Ka H.C (p.G t) m U U U U ?_⟩
 .have:=p.N.J9 (ip:=.dn k .iH) (sg:=E.c) (T:=T) H.C m;exact⟨this.M,this.Y,this.I,this.C,this.r⟩
 .have L:=q7;exact⟨L.gU,L.o,L.lT,λa l b c=>L.e a l (by rwa[z]) c,λa b=>by have:=L.f a b;rwa[z]at this,L.h,L.l,L.S,L.M,L.c,λl b=>L.I l (by rwa[z]),λl b=>L.N l (by rwa[z]),λl a b=>L.g l a (by rwa[z]),L.d⟩
 .have W:=p.M;exact⟨W.C,W.I,W.jG,λl b=>W.M l (by rwa[z]),λl a b=>W.S l a (by rwa[z]),W.N⟩
 .have:=p.C.Kb (ip:=.dn k .iH) (sg:=E.c) (pk:=fA E.e k qJ.size) m x (λl=>⟨λq=>(by cases q),λq=>(by cases q),λp q=>by cases q;exact⟨k1,K⟩⟩) (λl a b c=> ?_) (λl a b=> ?_) (by rw[e];exact Ç _) id (λq=>p.C.y 0 (ò _) q) p.C.v
  .grind
  .rw[hG];exact p.C.e l a b<|by rwa[e]
  .rw[hG];have c:l<=k-1:=b;rcases p.C.Y l a (by rwa[e])with⟨W,q,_⟩|⟨r,s,q,_⟩|q;all_goals grind
 .have u:=p.C.w j r a1<|Á<|Á a2;rw[e]at u;simp only[jx.od]at u;show Λ _ _ (fA E.e k qJ.size _);rw[fK _ _ Z];exact(p.f j r a1 a2 a3).app _
 .rw[e];simp only[jx.rk,jF.rk];omega
end
section
variable{F:Ph}{E E':fV F}{S:Nat->Jd}{v M:Nat->gB}{I:Nat->iC}{B:Nat->ff}{o f:Array Ä}{u:ä}{K:Option (Nat×Nat)}
def A8(E:fV F)(ip:jx)(k:Nat)(G:GS):fV F:={E with S:=ip,a:=fA E.a k G}
theorem PI.Dy(H:gS F)(p:PI F j zX E S v I B o w qJ){d:jF}{ip:jx}{G:GS}{s:Ä}{T:gB}(h0:0<E.r)(C:E.N 0=Í)(t:E.S=.dn k d)(O:d≠ .jD)(Q:o[F.L]?=Ã g)(D:kG (F.I k) w W)(X:ic W (F.I k) G)(q1:Ŏ F.P (ð o w K) F.L=(ğ<|ð f W K,u))(J:f.size=o.size)(q3:f[F.L]?=Ã s)(nt:s.status=Å\/s.status=å)(q4:∀k,k≠F.L->f[k]?=o[k]?.map (Ā F.P g s W)) (q5:gM F.P F.S E.Y (fA S F.L<|JI F E.c ip) (fA v F.L T) (fA I F.L .no) (gA B F.L {B F.L with w:=W}) f W (qJ++u)) (q6:TI F.toFx j zX E.r E.S.rl E.V E.e E.d E.iz E.f (qJ++u)) (q7:iI F E (gA B F.L {B F.L with w:=W}) f.size W) (x:ip.md=k/\ip.rl=k) (hP:Ps F (A8 E ip k G)) (XX:ip.rk F<E.S.rk F) (yM:∀i r,E.C i=.fB r .kD->F.r (i+r*F.n)=k->(E.a k).sm=0->G.sm=0\/∀y,f[F.L+1+i]?=Ã y->y.status≠Ü):kh F j zX E v o w qJ K F.L:=by
 let⟨k1,z⟩:=(p.C.I k).2.2 _ t;have M:F.M (F.I k):=Á ⟨k,z,U⟩;have N:E.S.md=k:=by rw[t];rfl
 have Pf:E.S.rl=k:=by rw[t];cases d<;>first|rfl|exact absurd U O
 have m:=D.I H p.a p.C p.M M ⟨λq=>absurd q<|H.C.M k z,λ_=>rfl⟩ (λl a=>⟨λq=>by rwa[<-H.C.S _ _ z a q,gG],λq=>fK _ _ λe=>q<|by rw[e]⟩);refine⟨A8 E ip k G,_,_,_,_,f,W,u,q1,J,λh=>h,.r ?_ (J.trans p.b) q5 ?_ ?_ hP ?_ ?_ λi r a b c=>(p.f i r a b c).app u,Ka H.C (p.G<|iQ Q) C U U U U XX⟩
 .have:=p.N.J9 (ip:=ip) (sg:=E.c) (T:=T) H.C C;exact⟨this.M,this.Y,this.I,this.C,this.r⟩
 .have L:=q7;have e:(A8 E ip k G).S.md=E.S.md:=by rw[N];exact x.1
  exact⟨L.gU,L.o,L.lT,λa l b c=>L.e a l (by rwa[<-e]) c,λa b=>by have:=L.f a b;rwa[<-e]at this,L.h,L.l,L.S,L.M,L.c,λl b=>L.I l (by rwa[<-e]),λl b=>L.N l (by rwa[<-e]),λl a b=>L.g l a (by rwa[<-e]),L.d⟩
 .have e:(A8 E ip k G).S.md=E.S.md:=by rw[N];exact x.1
  exact⟨m.C,m.I,m.jG,λl b=>m.M l (by show l<=E.S.md;rwa[<-e]),λl a b=>m.S l a (by show l<=E.S.md;rwa[<-e]),m.N⟩
 .have e:(A8 E ip k G).S.rl=E.S.rl:=by rw[Pf];exact x.2
  rwa[e]
 .refine p.c.qI (E':=A8 E ip k G) q3 (by rcases nt with q|q<;>rw[q]<;>simp) q4 (λi a=>D.C p.C M a) U U (λ_ _=>rfl) (λ_=>rfl) (λ_ _=>rfl) (λ_ _ h=>À h) λi r _ a b=> ?_;show(fA E.a k G _).sm=0\/_;grind [gG,fK]
theorem PI.Dz(p:PI F j zX E S v I B o w qJ){d:jF}{f:jx}{G:GS}(m:0<E.r)(t:E.N 0=Í)(l:E.S=.dn k d)(D:f=.kP k\/∃u,f=.dn k u)(i:f.od=k)(H:(∃W,(f=.dn k (.gC W)\/f=.dn k (.jd W))/\G=.jE W/\W=Ñ F.n λe=>(E.C e).gF F e k)\/(∃r s,f=.dn k (.iD r)/\0<r/\G=.gY r s/\r+s=Ñ F.n λe=>(E.C e).gF F e k)\/((∀p,f≠ .dn k p)/\((G=.cl 0 0/\(Ñ F.n λe=>(E.C e).gF F e k)=0)\/∃s,G=.gY 0 s/\s=Ñ F.n λe=>(E.C e).gF F e k))) (x:(∃a b,E.a k=.gY a b)->∃a b,G=.gY a b) (y:G≠ .cl 1 0):Ps F (A8 E f k G):=by
 let⟨J,K⟩:=(p.C.I k).2.2 _ l;have C:k-1<=E.S.od/\E.S.od<=k:=by rw[l];cases d<;>simp only[jx.od]<;>omega
 have:=p.C.Kb (sg:=E.c) (pk:=E.e) t m (λg=> ?_) (λg a b c=> ?_) (λg a b=> ?_) (by rw[i];exact C.2) x (λq=>absurd q y) p.C.v
 .exact this
 .grind
 .rw[i]at c;rw[fK _ _ Z];exact p.C.e g a b Z
 .by_cases q:g=k
  .grind [gG]
  .rw[fK _ _ q];rw[i]at b;refine Á<|Á ⟨λc h=> ?_,?_⟩
   .grind
   .rcases p.C.Y g a Z with⟨W,z,_⟩|⟨r,s,z,_⟩|z;all_goals grind
theorem PI.ahz(H:gS F)(p:PI F j zX E S v I B o w qJ)(d:0<E.r)(i:E.N 0=Í)(s:o[F.L]?=Ã g)(iK:g.status=Å)(ht:v F.L=.fD)(c:E.S=.dn k .iH):kh F j zX E v o w qJ K F.L:=by
 have O:=iQ s;have C:=p.I.r;have hJ:=p.A4 d i s iK ht w<|C.r _ O;rw[c]at hJ;obtain⟨k1,Y⟩:=(p.C.I k).2.2 _ c;have Q:=A3 H.C;have y:F.M (F.I k):=Á ⟨k,Y,U⟩;obtain⟨hd,_,ug⟩:=hJ;have hc:=p.C.e k k1 Y (by rw[c];simp only[jx.od];omega);obtain⟨W,hW⟩:∃W,(Ñ F.n λa=>(E.C a).gF F a k)=W:=⟨_,U⟩;rw[hW]at hc;have V:=hc▸p.M.I k Y;obtain⟨ev,z⟩:=V.jO;have key:=ug (GS.cl (0+1) W).st;rw[ev]at key z;obtain⟨m,t⟩:∃m,(GS.jO<|.cl (0+1) W).st=m:=⟨_,U⟩;rw[t]at key;obtain⟨g',h1,h2⟩:=key;have G:=h1 w V.C V.I;rw[<-t]at G;obtain⟨k1',k2,k3⟩:=V.r;have r:kG (F.I k) w (w.setCell (fP<|F.I k)<|ë Ó (GS.jO<|.cl (0+1) W).st):=Á ⟨_,_,À U,U⟩;have D:=r.r p.a H.C y;have X:fJ {B F.L with w:=w} w (w.setCell (fP<|F.I k)<|ë Ó (GS.jO<|.cl (0+1) W).st):=⟨Ô D.r.symm,λb ll=>D.jZ b<|C.I _ O b ll,λa ha=>D.M _ O a ha,λa ha=>D.N _ O a ha,λa _=>D.I a⟩;have X9:¬∃a b,E.a k=.gY a b:=λ⟨a,b,q⟩=>by rw[hc]at q;cases q
 by_cases hl:0<W
 .have ed:GS.jO (.cl (0+1) W)=.jE W:=by simp only[GS.jO];rw[if_pos ⟨trivial,hl⟩]
  rw[ed]at G z r D X t;have M:fl F.P É (JP F.P É (F.I k) (fl F.P É<|F.h k) W) {B F.L with w:=w} g':=by
   have e:m=(W:Int):=t.symm;have h:¬(m=0\/(gd<=m/\m<1000000*gd/\m%gd<1000000)):=by simp only[gd];omega
   grind
  obtain⟨T,hT⟩:=jl<|M.jw X;have N:=lH (λl g h=>À h.2.1) M;obtain⟨f,u,q1,q2,q3,q4,q5,q6,q7⟩:=p.Y (J:=JI F E.c<|.dn k (.gC W)) H .no s (Dw d) y (by rwa[Q]) r (AR y) U (λx hs e=>(Dx i x hs e).elim) (by rwa[Q]) N;refine p.Dy H d i c fq s r z q1 q2 q3 N q4 q5 q6 q7 ⟨U,U⟩ (p.Dz d i c (Á ⟨_,U⟩) U (À ⟨W,À U,U,hW.symm⟩) (λq=>absurd q X9) fq) ?_ λ_ _ _ _ _=>À U;rw[c];simp only[jx.rk,jF.rk];omega
 .have O9:W=0:=Z
  subst O9;have ed:GS.jO (.cl (0+1) 0)=.cl 0 0:=U;rw[ed]at G z r D X t;have M:fl F.P É (F.h k) {B F.L with w:=w} g':=by simp only[t.symm,true_or,if_true]at h2;exact h2
  obtain⟨T,hT⟩:=jl<|M.jw X;have N:=lH (λl g h=>À<|H.N _ _ _ h) M;obtain⟨f,u,q1,q2,q3,q4,q5,q6,q7⟩:=p.Y (J:=JI F E.c<|.kP k) H .no s (Dw d) y (by rwa[Q]) r (AR y) U (λx hs e=>(Dx i x hs e).elim) (by rwa[Q]) N;refine p.Dy H d i c fq s r z q1 q2 q3 N q4 q5 q6 q7 ⟨U,U⟩ (p.Dz d i c (À U) U (Á<|Á ⟨λp q=>(by cases q),À ⟨rfl,hW⟩⟩) (λq=>absurd q X9) fq) ?_ λ_ _ _ _ _=>À rfl;rw[c];simp only[jx.rk,jF.rk];omega
theorem PI.Ya(p:PI F j zX E S v I B o w qJ)(b:E.S=.dn k (.gC i)\/E.S=.dn k (.jd i)):E.a k=.jE i/\i=Ñ F.n λa=>(E.C a).gF F a k:=by
 have c:k<=F.m:=by rcases b with b|b<;>exact((p.C.I k).2.2 _ b).2
 rcases p.C.Y k c (by rcases b with b|b<;>(rw[b];exact Ç _))with⟨d,z,e,f⟩|⟨r,s,z,_⟩|⟨z,_⟩;all_goals grind
def PI.ahA(H:gS F)(p:PI F j zX E S v I B o w qJ)(d:0<E.r)(m:E.N 0=Í)(n:o[F.L]?=Ã g)(M:g.status=Å)(N:v F.L=.fD)(c:E.S=.dn k (.gC i)):kh F j zX E v o w qJ K F.L:=by have s:=p.A4 d m n M N w<|(p.I.r).r _<|iQ n;rw[c]at s;let⟨k1,t⟩:=(p.C.I k).2.2 _ c;have y:=A3 H.C;have z:F.M (F.I k):=Á ⟨k,t,U⟩;let⟨hd,_,O⟩:=s;let⟨C,P⟩:=p.Ya<|À c;have D:=C▸p.M.I k t;let⟨g',Q,r⟩:=O (i:Int);simp only[if_true]at r;let⟨T,V⟩:=jl r;have G:=lH (λl g h=>À h.2.1) r;obtain⟨f,u,h,l,X,Y,q5,q6,q7⟩:=p.Y (J:=JI F E.c<|.dn k (.jd i)) H .no n (Dw d) z (by rw[y];exact Q w D.C) (À U) (yK z) U (λx a e=>(Dx m x a e).elim) (by rwa[y]) G;refine p.Dy H d m c fq n (À U) D h l X G Y q5 q6 q7 ⟨U,U⟩ (p.Dz d m c (Á ⟨_,U⟩) U (À ⟨i,Á U,U,P⟩) (λ⟨a,b,q⟩=>by rw[C]at q;cases q) fq) ?_ λ_ _ _ _ _=>À rfl;rw[c];simp only[jx.rk,jF.rk];omega
def PI.ahB(H:gS F)(p:PI F j zX E S v I B o w qJ)(d:0<E.r)(m:E.N 0=Í)(n:o[F.L]?=Ã g)(N:g.status=Å)(O:v F.L=.fD)(c:E.S=.dn k (.jd i)):kh F j zX E v o w qJ K F.L:=by
 have q:=iQ n;have C:=p.I.r;have y:=p.A4 d m n N O w<|C.r _ q;rw[c]at y;let⟨k1,z⟩:=(p.C.I k).2.2 _ c;have G:=A3 H.C;have s:F.M (F.I k):=Á ⟨k,z,U⟩;let⟨hd,_,g',P,M⟩:=y;let⟨Q,V⟩:=p.Ya<|Á c;have r:=Q▸p.M.I k z;have X:=r.r.1;have t:kG (F.I k) w (w.setCell (fP<|F.I k)<|ë Ó 0):=Á ⟨_,_,À U,U⟩;have D:=t.r p.a H.C s;let⟨T,Y⟩:=jl (M.jw ⟨Ô D.r.symm,λb h=>D.jZ b<|C.I _ q b h,λa e=>D.M _ q a e,λa e=>D.N _ q a e,λa _=>D.I a⟩);have a:=lH (λl g h=>by
  cases i with
  |zero=>omega
  |succ i=>exact À h.2.1) M
 obtain⟨f,u,h,b,l,q4,q5,q6,q7⟩:=p.Y (J:=JI F E.c<|.dn k (.iD i)) H .no n (Dw d) s (by rw[G];exact P w _ r.C r.I) t (XG s) U (λx hs e=>(Dx m x hs e).elim) (by rwa[G]) a;refine p.Dy H d m c fq n t r.Xt h b l a q4 q5 q6 q7 ⟨U,U⟩ (p.Dz d m c (Á ⟨_,U⟩) U (Á<|À ⟨i,0,U,X,U,by rwa[ó]⟩) (λ_=>⟨i,0,U⟩) fq) ?_ λ_ _ _ _ _=>À U;rw[c];simp only[jx.rk,jF.rk];omega
theorem PI.ahC(H:gS F)(p:PI F j zX E S v I B o w qJ)(l:0<E.r)(t:E.N 0=Í)(G:o[F.L]?=Ã g)(iK:g.status=Å)(ht:v F.L=.fD)(h:E.S=.dn k (.iD j9)):kh F j zX E v o w qJ K F.L:=by
 have W:=iQ G;have C:=p.I.r;have hJ:=p.A4 l t G iK ht w<|C.r _ W;rw[h]at hJ;obtain⟨k1,Y⟩:=(p.C.I k).2.2 _ h;have X:=A3 H.C;have O:F.M (F.I k):=Á ⟨k,Y,U⟩;obtain⟨s,hr0,hc,sV⟩:∃s,0<j9/\E.a k=.gY j9 s/\j9+s=Ñ F.n λc=>(E.C c).gF F c k:=by rcases p.C.Y k Y (by rw[h];exact Ç _)with⟨W',z,z1,z2⟩|⟨M,s,z,z1,z2,z3⟩|⟨z,_⟩;all_goals grind
 obtain⟨j9,rfl⟩:∃M,j9=M+1:=⟨j9-1,Z⟩;obtain⟨hd,_,Pa,g',Q,h1,h2⟩:=hJ;have N:=hc▸p.M.I k Y;have V:kG (F.I k) w (w.setCell (gX<|F.I k)<|ë ç<|ç.wrap<|(GS.gY (j9+1) s).sm+1):=Á ⟨_,_,Á U,U⟩;have D:=V.r p.a H.C O;have xg:fJ {B F.L with w:=w} w (w.setCell (gX<|F.I k)<|ë ç<|ç.wrap<|(GS.gY (j9+1) s).sm+1):=⟨Ô D.r.symm,λb ll=>D.jZ b<|C.I _ W b ll,λa ha=>D.M _ W a ha,λa ha=>D.N _ W a ha,λa _=>D.I a⟩;have wake:∀f:Array Ä,(∀k,k≠F.L->f[k]?=o[k]?.map (Ā F.P g g'<|w.setCell (gX<|F.I k)<|ë ç<|ç.wrap<|(GS.gY (j9+1) s).sm+1))\/(∀m,m≠F.L->f[m]?=o[m]?.map (Ā F.P g g'<|w.setCell (gX<|F.I k)<|ë ç<|ç.wrap<|(GS.gY (j9+1) s).sm+1))->∀c M,E.C c=.fB M .kD->F.r (c+M*F.n)=k->(E.a k).sm=0->(GS.gY j9<|s+1).sm=0\/∀y,f[F.L+1+c]?=Ã y->y.status≠Ü:=by
  intro f d c M hj _ _;refine Á λy hy=> ?_;by_cases Yb:c+2<=E.r
  .by_cases Ke:E.N (c+1)=Í
   .obtain⟨_,hk⟩:=p.g c Yb Ke;rw[hj]at hk;rcases d with d|d<;>
    .rw[d _ Z]at hy;obtain⟨z,GF,rfl⟩:=Ù.1 hy;exact X2 p Pa Q GF hk
   .obtain⟨_,r0,q,_⟩:=p.C.l c Yb Ke;grind
  .have:=p.C.z c Z;grind
 cases j9 with
 |zero=>
  obtain⟨T,hT⟩:=jl<|h2.jw xg;obtain⟨f,u,q1,q2,q3,d,q5,q6,q7⟩:=p.Y (J:=JI F E.c<|.kP k) H .no G (Dw l) O (by rw[X];exact h1 w _ N.M N.N) V (Gm O) (Gn _).2.2.2 (λx hs e=>(Dx t x hs e).elim) (by rwa[X])<|À Q;refine p.Dy H l t h fq G V N.jD q1 q2 q3 (À Q) d q5 q6 q7 ⟨U,U⟩ (p.Dz l t h (À U) U (Á<|Á ⟨λp q=>(by cases q),Á ⟨s+1,rfl,Z⟩⟩) (λ_=>⟨0,s+1,rfl⟩) fq) ?_<|wake f<|Á d;rw[h];simp only[jx.rk,jF.rk];omega
 |succ j9=>
  obtain⟨T,hT⟩:=jl<|h2.jw xg;obtain⟨f,u,q1,q2,q3,d,q5,q6,q7⟩:=p.Y (J:=JI F E.c<|.dn k (.iD (j9+1))) H .no G (Dw l) O (by rw[X];exact h1 w _ N.M N.N) V (Gm O) (Gn _).2.2.2 (λx hs e=>(Dx t x hs e).elim) (by rwa[X])<|À Q;refine p.Dy H l t h fq G V N.jD q1 q2 q3 (À Q) d q5 q6 q7 ⟨U,U⟩ (p.Dz l t h (Á ⟨_,U⟩) U (Á<|À ⟨j9+1,s+1,U,Z,U,Z⟩) (λ_=>⟨j9+1,s+1,U⟩) fq) ?_<|wake f<|Á d;rw[h];simp only[jx.rk,jF.rk];have:Ñ F.n (λc=>(E.C c).gF F c k)<=F.n:=Gq λi=>by cases E.C i<;>simp only[gO.gF]<;>first|omega|(split<;>first|omega|(rename_i q _;cases q<;>simp[ju.sU]))
  omega
theorem PI.ahD(H:gS F)(p:PI F j zX E S v I B o w qJ){N:Nat}(s:i<E.r)(a:E.N i=Ã (.jr N))(t:o[F.L+i]?=Ã g)(J:g.status=Å):kh F j zX E v o w qJ K (F.L+i):=by
 let⟨M,n,O⟩:=p.k i _ s a;have hL:=H.C.r;obtain⟨f,P,Q,hn,T,l,V,u,z⟩:=p.I.Ou t Z J n (O ⟨N,U⟩) M;have C:=iQ t;have D:∀c∈Û (F.L+i) g.frame.fn g.frame.place P,c.act.touch?=Í/\∀b,F.M b->c.act≠ė (.release<|fP b):=λc d=>by obtain⟨e,h,rfl⟩:=Ö d;refine⟨ź<|u e h,λb _ q=> ?_⟩;have:=u e h;let⟨k,y,m⟩:=e;cases k<;>simp_all[Event.mute,Ë]
 obtain⟨m,G⟩:∃m,f[F.L+i]?=Ã m:=⟨f[F.L+i]'(by rwa[l]),é _⟩;have W:m.status≠Ü:=by
  let⟨g0,y,h,k,r⟩:=z.C _ m G;rw[n]at h;cases h with
  |gf=>rcases k with q|q<;>rw[q]<;>simp
 have X:fA v (F.L+i) .fD=v:=by funext q;unfold fA;split<;>simp[*]
 have Y:fA I (F.L+i) .no=I:=by funext q;unfold fA;split<;>simp[*]
 refine⟨fy.gW E i<|.jr Q,_,_,_,_,f,w,_,T,l,λh=>h,.r (p.N.G H.C λ_=>rfl) (l.trans p.b) (by rwa[X,Y]) (by rw[l];exact(p.a.C<|Ç _).gW<|⟨λ_=>⟨_,a,trivial⟩,λ_=>trivial⟩) p.M.gW (p.C.gW s (by rw[a];rfl) (λk h=>by rw[a]at h;cases h) (λk h=>by cases h) (λq h=>p.C.l q Z<|by rw[<-h,a];simp) λh=>p.C.f<|by rw[<-h,a];simp) ((p.d.C<|yF (λc d=>(D c d).1) λc d=>(D c d).2).G<|⟨λ_=>⟨_,a,trivial⟩,λ_=>trivial⟩) (O7 (p.c.F7 G W V λ_ _=>rfl) λk y n r e=> ?_) λq r k e y=>(p.f q r k e y).app _,Du H.C (p.G C)<|Á ?_⟩
 .grind
 .unfold rH;rw[a];simp only[im.rk];grind
theorem PI.ahE(H:gS F)(p:PI F j zX E S v I B o w qJ)(N:0<i)(t:i<F.L)(u:o[i]?=Ã g)(O:g.status=Å):kh F j zX E v o w qJ K i:=by
 let⟨Q,T,m⟩:=p.l i N t;obtain⟨f,x,z,Y,V,n,W,C,D⟩:=p.I.Ou u Z O m T Q;have G:=iQ u;have J:∀c∈Û i g.frame.fn g.frame.place x,c.act.touch?=Í/\∀b,F.M b->c.act≠ė (.release<|fP b):=λc l=>by obtain⟨e,a,rfl⟩:=Ö l;refine⟨ź<|C e a,λb _ q=> ?_⟩;have:=C e a;let⟨h,k,y⟩:=e;cases h<;>simp_all[Event.mute,Ë]
 obtain⟨s,M⟩:∃s,f[i]?=Ã s:=⟨f[i]'(by rwa[n]),é _⟩;have X:s.status≠Ü:=by
  let⟨g0,k,a,h,y⟩:=D.C _ s M;rw[m]at a;cases a with
  |gf=>rcases h with q|q<;>rw[q]<;>simp
 refine⟨{E with h:=fA E.h i z},_,_,_,_,f,w,_,V,n,λh=>h,.r ?_ (n.trans p.b) D ?_ ⟨p.M.C,p.M.I,p.M.jG,p.M.M,p.M.S,p.M.N⟩ ?_ (p.d.C<|yF (λc l=>(J c l).1) λc l=>(J c l).2) (Pd (p.c.F7 M X W λ_ _=>rfl) U U U U U U U) λq r a k y=>(p.f q r a k y).app _,Gk (p.G G) ?_ λk m=>yI (λ_=>rfl) (λ_ _=>fK _ _ m) (λ_=>rfl) (λ_ _=>rfl) (λ_ _=>rfl) U⟩
 .have h:=p.N;refine⟨by rw[fK S _ Z];exact h.M,λa b=>by rw[fK S _ Z];exact h.Y a b,λq a b=>by rw[fK S _ Z];exact h.I q a b,λy e a b=>by rw[fK S _ Z];exact h.C y e a b,λq a b=> ?_⟩;by_cases e:q=i
  .grind [gG]
  .rw[fK S _ e];refine⟨?_,(h.r q a b).2⟩;show _=pw F.P (fA E.h i z q);rw[fK _ _ e];exact(h.r q a b).1
 .rw[n];have L:=p.a.C (i:=i) (d:=Ï (B i).d x) (w0:=w)<|Ç _;exact⟨L.gU,L.o,L.lT,L.e,L.f,L.h,L.l,L.S,L.M,L.c,L.I,L.N,L.g,L.d⟩
 .have h:=p.C;exact⟨h.v,h.C,h.K,h.L,h.J,h.I,h.z,h.d,h.l,h.f,h.h,h.M,h.o,h.t,h.g,h.u,h.N,h.B,h.e,h.Y,h.w,h.H,h.O,h.S,h.y,h.D⟩
 .unfold fV.iU;rw[if_neg Z,if_pos t,if_neg Z,if_pos t];refine Á ⟨U,À ?_⟩;grind [gG]
end
section
variable{F:Ph}{E J:fV F}{S:Nat->Jd}{d M:Nat->gB}{o:Nat->iC}{m:Nat->ff}{f D:Array Ä}{u:ä}{I:Option (Nat×Nat)}
def iB(E:fV F)(x:fY)(G:GS)(dk:Nat->Nat):fV F:={E with M:=x,b:=G,I:=dk}
structure iY(E:fV F)(x:fY)(C:Nat->Nat):Prop where
 r:x.sp F.n=E.r
 C:∀j,j+2<=E.r->C j=E.I j
def A9{x:fY}{G:GS}{d:Nat->Nat}(a:iY E x d):(iB E x G d).Y=E.Y:=by have e:(iB E x G d).r=E.r:=a.r;funext b;unfold fV.Y;rw[e];refine propext<|or_congr Iff.rfl<|or_congr Iff.rfl ⟨λ⟨j,c,f⟩=>⟨j,c,f.trans<|a.C j c⟩,λ⟨j,c,f⟩=>⟨j,c,f.trans (a.C j c).symm⟩⟩
def iI.G(L:iI F E m i w){x:fY}{G:GS}{d:Nat->Nat}(a:iY E x d):iI F (iB E x G d) m i w:=by have e:(fy.iB E x G d).r=E.r:=a.r;exact⟨L.gU,λy f=>L.o y Z,λh=>L.lT Z,λh=>L.e Z,λh=>L.f Z,λj h=>L.h j Z,λj h=>L.l j Z,L.S,λc g=>L.M c (g.imp id λ⟨y,f,b⟩=>⟨y,Z,b⟩),L.c,λk l b n=>by rw[A9 a];exact L.I k l b n,L.N,L.g,λj h=>L.d j Z⟩
def Wd.r{G:GS}(W:Wd F {E with b:=G,a:=E.a} w){x:fY}{dk:Nat->Nat}(a:iY E x dk)(c:x.mF F.q=E.M.mF F.q)(d:x.jf F.n=E.M.jf F.n):Wd F (iB E x G dk) w:=by
 have e:(fy.iB E x G dk).r=E.r:=a.r;refine⟨W.C,W.I,λj f=> ?_,W.M,W.S,λj f=>W.N j<|show j+2<=E.r by omega⟩;have b:j+2<=E.r:=Z
 have:=W.jG j b;show∃g s,w.heap[dk j]?=Ã (.chan F.q g (decide<|j<x.jf F.n) s (E.C j).iO É)/\tU F.n j (x.mF F.q) s/\_;rw[a.C j b,c,d];exact this
def Pg{x:fY}{G:GS}{dk:Nat->Nat}(h:x.ad F.n=E.M.ad F.n):(iB E x G dk).G=E.G:=by
 funext y;show(if y<x.ad F.n then _ else _)=if y<E.M.ad F.n then _ else _
 rw[h];rfl
def Ps.iB(h:Ps F E){x:fY}{G:GS}{dk:Nat->Nat}(d:iY E x dk)(o:E.M.jf F.n<=x.jf F.n)(t:∀j,x=.go j\/x=.lG j\/x=.rd j\/x=.iH j->j<=F.n)(u:∀j,x=.lG j\/x=.rd j\/x=.iH j->1<=j)(v:∀r,(x=.iL r->r<=F.q)/\(x=.kY r->r<=F.n)) (w:∀c f,G=.cl c f->c=Ñ (F.n+1) (fy.iB E x G dk).G/\f=x.gF) (z:∀f,G=.jE f->Ñ (F.n+1) (fy.iB E x G dk).G=0/\f=x.gF/\∃y,y<E.r/\E.g=Ã y/\(E.N y=Ã (.gi (.gC f))\/E.N y=Ã (.gi (.jd f)))) (B:∀r s,G=.gY r s->Ñ (F.n+1) (fy.iB E x G dk).G=0/\r+s=x.gF/\(0<r->∃y,y<E.r/\E.g=Ã y/\E.N y=Ã (.gi (.iD r)))) (C:∀y p,E.N y=Ã (.gi p)->(∀W,p=.gC W\/p=.jd W->E.g=Ã y/\G=.jE W)/\(∀r,p=.iD r->0<r/\E.g=Ã y/\∃s,G=.gY r s)) (D:x=.fB .gC\/x=.fB .lk\/x=.gi->Ñ (F.n+1) (fy.iB E x G dk).G=0) (H:x=.fB .gC->∃a b,G=.gY a b) (I:(∀p,x≠ .fB p)->x≠ .gi->∃c,G=.cl c 0):Ps F (fy.iB E x G dk):=by
 have e:(fy.iB E x G dk).r=E.r:=d.r;refine⟨h.v,t,u,v,λq=>h.J Z,h.I,λj q=>h.z j Z,λj r q=>h.d j r Z,λj q J=> ?_,h.f,λy q=>h.h y Z,λj g N O K=> ?_,λj q=> ?_,w,λf i=> ?_,λr s i=> ?_,C,D,h.e,h.Y,λj r q=>h.w j r Z,λj r q=>h.H j r Z,H,I,h.y,λj r q=>h.D j r Z⟩
 .let⟨a,b⟩:=h.l j Z J;exact⟨Ê a o,b⟩
 .have k:dk j=dk g:=K;rw[d.C j Z,d.C g Z]at k;exact h.M j g Z Z k
 .show¬F.M (dk j)/\dk j≠F.Y/\F.S<=dk j;rw[d.C j Z];exact h.o j Z
 .let⟨k,l,y,m,L⟩:=z f i;exact⟨k,l,y,Z,L⟩
 .let⟨k,l,m⟩:=B r s i;refine⟨k,l,λL=> ?_⟩;let⟨y,P,M⟩:=m L;exact⟨y,Z,M⟩
def Ps.r(h:Ps F E){x:fY}{dk:Nat->Nat}(d:iY E x dk)(g:E.M.jf F.n<=x.jf F.n)(i:x.ad F.n=E.M.ad F.n)(f:x.gF=E.M.gF)(k:∀j,x=.go j\/x=.lG j\/x=.rd j\/x=.iH j->j<=F.n)(l:∀j,x=.lG j\/x=.rd j\/x=.iH j->1<=j)(m:∀r,(x=.iL r->r<=F.q)/\(x=.kY r->r<=F.n)) (o:x=.fB .gC\/x=.fB .lk\/x=.gi->Ñ (F.n+1) E.G=0) (s:x=.fB .gC->∃a b,E.b=.gY a b) (t:(∀p,x≠ .fB p)->x≠ .gi->∃c,E.b=.cl c 0):Ps F (fy.iB E x E.b dk):=by
 have e:=Pg (E:=E) (G:=E.b) (dk:=dk) i;refine h.iB d g k l m ?_ ?_ ?_ h.N ?_ s t
 .rw[e,f];exact h.t
 .rw[e,f];exact h.g
 .rw[e,f];exact h.u
 .rwa[e]
def qM.iB(h:qM F E S d o)(ok:F.Ok){x:fY}{G:GS}{dk:Nat->Nat}{T:gB}(a:iY E x dk):qM F (fy.iB E x G dk) (fA S 0<|JM F dk x) (fA d 0 T) (fA o 0<|kM x):=by have:=ok.r;have e:(fy.iB E x G dk).r=E.r:=a.r;refine⟨by rw[gG,gG];exact⟨U,U⟩,λc b=>by rw[fK S _ Z,fK o _ Z];exact h.Y Z b,λj c b=> ?_,λy f c b=>by rw[fK S _ Z,fK o _ Z,fK d _ Z];exact h.C y f Z b,λi c b=>by rw[fK S _ Z,fK o _ Z,fK d _ Z];exact h.r i c b⟩;rw[fK S _ Z,fK o _ Z];show _=JW F (dk j) j (E.C j)/\_=kW F (dk j) (E.C j);rw[a.C j Z];exact h.I j Z b
def rJ{x:fY}{G:GS}{dk:Nat->Nat}{T:gB}(h:x.rk F<E.M.rk F):py F.N ((iB E x G dk).mu (fA d 0 T) D) (E.mu d f):=by refine Gk (by unfold Ph.N;omega) (À ?_) λk a=>yI (λh=>absurd h a) (λ_ _=>rfl) (λ_=>rfl) (λ_ _=>rfl) (λ_ _=>rfl)<|fK d _ a;rwa[Di,Di]
theorem Yc:E.ly 0=match E.M with|.fB p=>p.ly F.B E.b.st|_=>0:=by unfold fV.ly;grind
def ahF{p a:SP}(b:E.M=.fB (.mf p))(g:d 0=.fD)(h:a.rk F.B E.b.st<p.rk F.B E.b.st):py F.N ((iB E (.fB (.mf a)) E.b E.I).mu (fA d 0 .fD) D) (E.mu d f):=by
 refine XH (i:=0) (λk _=> ?_) (by unfold Ph.N;omega) ?_ λk c=> ?_
 .by_cases e:k=0
  .subst e;rw[Di,Di,gG,b,g];rfl
  .exact yI (λh=>absurd h e) (λ_ _=>rfl) (λ_=>rfl) (λ_ _=>rfl) (λ_ _=>rfl)<|fK d _ e
 .rwa[Yc,Yc,b]
 .unfold fV.ly;rw[if_neg c,if_neg c];rfl
def PI.sX(p:PI F b zX E S d o m f w qJ)(c:f[0]?=Ã g)(e:g.status=Å)(h:d 0=.fD):∀a,fJ (m 0) (m 0).w a->JM F E.I E.M {m 0 with w:=a} g:=by
 let⟨k,i⟩:=p.h;have j:o 0=.no\/o 0=.iD:=by
  rw[i];cases E.M with
  |fB v=>cases v<;>first|exact À U|exact Á U
  |_=>exact À U
 intro a r;have:=p.I.N c e h j a r;simp_all
def yT(ok:F.Ok):∀x,E.iz x->0=F.L+x->False:=λx _ e=>by have:=ok.r;omega
theorem PI.yU(H:gS F)(p:PI F b zX E S d o m f w qJ){x:fY}{G:GS}{dk:Nat->Nat}{c:Ä}{T:gB}(a:iY E x dk)(C:Ŏ F.P (ð f w I) 0=(ğ<|ð D W I,u))(l:D.size=f.size)(q3:D[0]?=Ã c)(nt:c.status=Å\/c.status=å)(J:∀k,k≠0->D[k]?=f[k]?.map (Ā F.P g c W))(K:∀j,j+2<=E.r->W.heap[E.I j]?=w.heap[E.I j]?) (L:gM F.P F.S E.Y (fA S 0<|JM F dk x) (fA d 0 T) (fA o 0<|kM x) (gA m 0 {m 0 with w:=W}) D W (qJ++u)) (M:TI F.toFx b zX E.r E.S.rl E.V E.e E.d E.iz E.f (qJ++u)) (O:iI F E (gA m 0 {m 0 with w:=W}) D.size W) (Q:Wd F (iB E x G dk) W) (X:Ps F (iB E x G dk)) (xd:py F.N ((iB E x G dk).mu (fA d 0 T) D) (E.mu d f)) (hxf:x=.gi->E.M=.gi):kh F b zX E d f w qJ I 0:=by
 have e:(iB E x G dk).r=E.r:=a.r;refine⟨iB E x G dk,_,_,_,_,D,W,u,C,l,hxf,.r (p.N.iB H.C a) (by rw[e];exact l.trans p.b) (by rwa[A9 a]) (O.G a) Q X (by rwa[e]) ?_ λi h s n q=>(p.f i h Z n q).app u,xd⟩;intro k y n hb;by_cases q:k=0
 .grind
 .rw[J k q]at n;obtain⟨z,hz,rfl⟩:=Ù.1 n;let⟨_,hzb⟩:=Gj hb;rcases p.c k z hz hzb with⟨h1,_⟩|⟨j,t,v,B,i|⟨r,cap,s,h,i,h4⟩⟩
  .exact absurd h1 q
  .exact Á ⟨j,Z,v,B,À i⟩
  .refine Á ⟨j,Z,v,B,Á ⟨r,cap,s,h,i,?_⟩⟩;show W.heap[dk j]?=_;rwa[a.C j t,K j t]
theorem PI.Kf(H:gS F)(p:PI F b zX E S d o m f w qJ){x:fY}{h:Nat->Nat}{T:gB}(c:iY E x h)(v:f[0]?=Ã g)(B:g.status=Å)(hF:lj F.P Ì (JM F h x) T {m 0 with w:=w} g)(t:x.mF F.q=E.M.mF F.q)(l:x.jf F.n=E.M.jf F.n)(D:Ps F (iB E x E.b h))(G:py F.N ((iB E x E.b h).mu (fA d 0 T) f) (E.mu d f))(I:x=.gi->E.M=.gi):rG F b zX E d f w qJ:=by
 have u:=iQ v;have C:=p.I.r;have e:(iB E x E.b h).r=E.r:=c.r;have J:iT F.S (λi=>i<f.size) E.Y (gA m 0 {m 0 with w:=w}) w qJ:=C.C u (λ_ q=>q) (λa q=>À<|Á q) (λ_ q=>q) (λa q=>À<|Á q) U U U (C.m _ u)<|C.g _ u;have L:=p.I.M (K:=kM x) v (À B) J hF;refine⟨iB E x E.b h,_,_,_,_,I,.r (p.N.iB H.C c) (by rw[e];exact p.b) (by rwa[A9 c]) ((p.a.C<|Ç _).G c) (Wd.r p.M c t l) D (by rw[e];exact p.d) (λk y M O=> ?_) λi a z j s=>p.f i a Z j s,G⟩;by_cases Q:k=0
 .grind
 .rcases p.c k y M O with⟨t,_⟩|⟨j,V,z,l,i|⟨r,W,s,a,i,X⟩⟩
  .exact absurd t Q
  .exact Á ⟨j,Z,z,l,À i⟩
  .refine Á ⟨j,Z,z,l,Á ⟨r,W,s,a,i,?_⟩⟩;show w.heap[h j]?=_;rwa[c.C j V]
def mS{x:fY}(h:x.sp F.n=E.M.sp F.n):iY E x E.I:=⟨h,λ_ _=>rfl⟩
theorem nA:F.M F.C:=À U
theorem PI.ahG(H:gS F)(p:PI F b zX E S d o m f w qJ)(k:f[0]?=Ã g)(l:g.status=Å)(s:d 0=.fD)(e:E.M=.lG j):rG F b zX E d f w qJ:=by
 have i:=p.sX k l s w<|p.I.r.r _<|iQ k;rw[e]at i;let⟨c,i⟩:=i;have t:E.r=j:=by unfold fV.r;rw[e];rfl
 have a:iY E (.go j) (fA E.I (j-1) c):=⟨t.symm,λn h=>fK _ _ Z⟩;refine p.Kf H (T:=.fD) a k l (λr q=>H.Gf _ _ _ _ _ i q) (by rw[e];rfl) (by rw[e];rfl) (p.C.r a (by rw[e];exact Ç _) (by rw[e];rfl) (by rw[e];rfl) (λn h=> ?_) (λn h=> ?_) (λr=>⟨λh=>(by cases h),λh=>(by cases h)⟩) (λh=>by rcases h with h|h|h<;>cases h) (λh=>by cases h) λ_ _=>p.C.S (λv q=>by rw[e]at q;cases q) λq=>by rw[e]at q;cases q) (rJ<|by rw[e];simp only[fY.rk];omega) λh=>by cases h
 .rcases h with h|h|h|h<;>cases h;exact p.C.C j<|Á<|À e
 .grind
def PI.ahH(H:gS F)(p:PI F b zX E S d o m f w qJ)(k:f[0]?=Ã g)(t:g.status=Å)(u:d 0=.fD)(i:E.M=.rd j):kh F b zX E d f w qJ I 0:=by
 have n:=p.sX k t u w<|p.I.r.r _<|iQ k;rw[i]at n;let⟨Q,_,V,z,s⟩:=n;have B:E.r=j:=by unfold fV.r;rw[i];rfl
 have a:iY E (.lG j) E.I:=⟨B.symm,λ_ _=>rfl⟩;let⟨C,G,J⟩:=OZ H p nA (À U) (À U) (À ⟨U,U⟩) λx c e=>yT H.C x c e;let⟨T,x⟩:=jl s;have e:=lH (λl g ⟨c,h⟩=>À<|H.I _ _ _ _ h) s;obtain⟨D,y,c,l,K,L,M,N,O,P⟩:=p.AX H (kM<|.lG j) k (z w) fq fq C G x e;refine p.yU H a K L M e N (λ_ _=>rfl) O (J y c l) P (Wd.r p.M a (by rw[i];rfl)<|by rw[i];rfl) (p.C.r a (by rw[i];exact Ç _) (by rw[i];rfl) (by rw[i];rfl) (λq h=> ?_) (λq h=> ?_) (λr=>⟨λh=>(by cases h),λh=>(by cases h)⟩) (λh=>by rcases h with h|h|h<;>cases h) (λh=>by cases h) λ_ _=>p.C.S (λv q=>by rw[i]at q;cases q) λq=>by rw[i]at q;cases q) (rJ<|by rw[i];simp only[fY.rk];omega) λh=>by cases h
 .rcases h with h|h|h|h<;>cases h;exact p.C.C j<|Á<|Á<|À i
 .rcases h with h|h|h<;>cases h;exact p.C.K j<|Á<|À i
end
section
variable{F:Ph}{E I:fV F}{S:Nat->Jd}{m K:Nat->gB}{z:Nat->iC}{o:Nat->ff}{d B:Array Ä}{u:ä}{C:Option (Nat×Nat)}
def ahI(y:Nat):E.G y<=1:=by
 unfold fV.G;split
 .cases E.N y with
  |none=>exact Ç _
  |some e=>cases e with
   |oQ=>exact Ç _
   |gi p=>cases p<;>simp[mg,im.kQ,jF.kQ]
   |jr N=>simp[mg,im.kQ]
 .omega
def Yd(v:Int):kG F.C w (w.setCell (fP F.C)<|ë Ó v):=Á ⟨_,_,À U,U⟩
def Pj(H:gS F)(p:PI F n zX E S m z o d w qJ)(h:kG F.C w W){G:GS}(a:ic W F.C G):Wd F {E with b:=G,a:=E.a} W:= h.I H p.a p.C p.M nA (Ga:=G) (Gg:=E.a) ⟨λ_=>a,λe=>absurd U e⟩ λb c=>⟨λe=>absurd e.symm<|H.C.M b c,λ_=>rfl⟩
def Pk(H:gS F)(p:PI F n zX E S m z o d w qJ)(h:kG F.C w W)(c:i<d.size):fJ {o i with w:=w} w W:=by have D:=h.r p.a H.C nA;exact⟨Ô D.r.symm,λb f=>D.jZ b<|p.I.r.I _ c b f,λa e=>D.M _ c a e,λa e=>D.N _ c a e,λa _=>D.I a⟩
def yV{l:ff}{b:Ð}(r:fJ {l with w:=W} jX b):fJ l jX b:=⟨r.r,r.I,r.N,r.Y,r.S⟩
def PI.ahJ(H:gS F)(p:PI F n zX E S m z o d w qJ)(D:d[0]?=Ã g)(iK:g.status=Å)(ht:m 0=.fD)(a:E.M=.iH j):kh F n zX E m d w qJ C 0:=by
 have O:=iQ D;have Q:=p.sX D iK ht w<|p.I.r.r _ O;rw[a]at Q;let⟨hd,_,hA⟩:=Q;have hj:=p.C.C j<|Á<|Á<|Á a;have hj1:=p.C.K j<|Á<|Á a;have oP:E.r=j:=by unfold fV.r;rw[a];rfl
 have yM:=H.C.gk;let⟨c,G⟩:=p.C.S (λv q=>by rw[a]at q;cases q) (λq=>by rw[a]at q;cases q);let⟨GB,_⟩:=p.C.t c 0 G;have hcn:c<=F.n+1:=by rw[GB];exact Gq ahI
 have I:=G▸p.M.C;let⟨hv,J⟩:=I.agx Z;have K:=hA (GS.cl c 0).st;rw[hv]at K J;obtain⟨b,V⟩:∃b,(GS.cl (c+1) 0).st=b:=⟨_,U⟩;rw[V]at K J;let⟨L,h1,k⟩:=K;have Ds:=h1 w I.C I.I;have t:=Yd (F:=F) (w:=w) b;have xg:=Pk H p t O;have M:b=(c+1:Int)*gd:=by rw[<-V];simp only[GS.st,gd];omega
 obtain⟨x,v,N⟩:∃x:fY,(x=.rd j\/x=.lG j)/\fl F.P Ì (JM F E.I x) {o 0 with w:=w} L:=by
  by_cases l:c=0
  .have e:b=gd:=by rw[M,l];simp[gd]
   simp only[if_pos e]at k;exact⟨.rd j,À U,k⟩
  .have r:¬b=gd:=by simp only[gd]at M|-;omega
   have s:gd<b/\b<1000000*gd/\b%gd=0:=by simp only[gd]at M|-;omega
   simp only[if_neg r,if_pos s]at k;exact⟨.lG j,Á U,k⟩
 let⟨T,hT⟩:=jl<|N.jw xg;have X:L.status=Å\/L.status=å:=by
  rcases v with rfl|rfl
  .exact lH (λl g h=>À h.2.1) N
  .exact lH (λl g ⟨c,h⟩=>À<|H.I _ _ _ _ h) N
 obtain⟨B,u,q1,q2,q3,q4,q5,q6,q7⟩:=p.Y H (kM x) D (À U) nA Ds t (AR nA) U (λx l e=>(yT H.C x l e).elim) hT X;have l:x.ad F.n=j+1:=by rcases v with rfl|rfl<;>rfl
 have Y:E.M.ad F.n=j:=by rw[a];rfl
 have GH:x.sp F.n=j:=by rcases v with rfl|rfl<;>rfl
 have hxr:x.gF=0:=by rcases v with rfl|rfl<;>rfl
 have e:iY E x E.I:=⟨GH.trans oP.symm,λ_ _=>rfl⟩;have sV:Ñ (F.n+1) (iB E x (.cl (c+1) 0) E.I).G=c+1:=by
  have h:=xc (f:=E.G) (f':=(iB E x (.cl (c+1) 0) E.I).G) (j:=j) (n:=F.n+1) Z (λi y=>by
   show(if i<x.ad F.n then mg (E.N i)else 0)=if i<E.M.ad F.n then mg (E.N i)else 0
   rw[l,Y];by_cases q:i<j
   .rw[if_pos q,if_pos Z]
   .rw[if_neg q,if_neg Z])
  have r:E.G j=0:=by unfold fV.G;rw[Y,if_neg Z]
  have s:(iB E x (.cl (c+1) 0) E.I).G j=1:=by show(if j<x.ad F.n then mg (E.N j)else 0)=1;rw[l,if_pos Z,p.C.h j Z];rfl
  rw[r,s]at h;omega
 refine p.yU H e q1 q2 q3 X q4 (λr s=>t.C p.C nA s) q5 q6 q7 (Wd.r (Pj H p t J) e (by rw[a];rcases v with rfl|rfl<;>rfl) (by rw[a];rcases v with rfl|rfl<;>rfl)) (p.C.iB e (by rw[a];exact ò _) (λr h=> ?_) (λr h=> ?_) (λr=>⟨λh=> ?_,λh=> ?_⟩) (λi s h=> ?_) (λs h=>by cases h) (λr s h=>by cases h) (λy i h=> ?_) (λh=> ?_) (λh=> ?_) λ_ _=>⟨_,rfl⟩) (rJ (by rw[a];rcases v with rfl|rfl<;>simp only[fY.rk]<;>omega)) (λh=>by rcases v with rfl|rfl<;>cases h)
 .rcases v with rfl|rfl<;>rcases h with h|h|h|h<;>cases h<;>exact hj
 .rcases v with rfl|rfl<;>rcases h with h|h|h<;>cases h<;>exact hj1
 .rcases v with rfl|rfl<;>cases h
 .rcases v with rfl|rfl<;>cases h
 .cases h;exact⟨sV.symm,hxr.symm⟩
 .have:=p.C.N y i h;rw[G]at this;exact⟨λW q=>(by have:=(this.1 W q).2;cases this),λr hr=>(by let⟨_,_,s,h⟩:=this.2 r hr;cases h)⟩
 .rcases v with rfl|rfl<;>rcases h with h|h|h<;>cases h
 .rcases v with rfl|rfl<;>cases h
theorem PI.ahK(H:gS F)(p:PI F n zX E S m z o d w qJ)(c:d[0]?=Ã g)(e:g.status=Å)(i:m 0=.fD)(b:E.M=.iL 0):rG F n zX E m d w qJ:=by have f:=p.sX c e i;rw[b]at f;have a:iY E (.kY F.n) E.I:=mS (by rw[b];rfl);refine p.Kf H (T:=.fD) a c e (λh q=>f h<|(p.I.r.r _<|iQ c).fh<|yV q) (by rw[b];simp[fY.mF]) (by rw[b];simp[fY.jf]) (p.C.r a (by rw[b];exact ò _) (by rw[b];rfl) (by rw[b];rfl) (λq h=> ?_) (λq h=> ?_) (λr=>⟨λh=>(by cases h),λh=> ?_⟩) (λh=>by rcases h with h|h|h<;>cases h) (λh=>by cases h) λ_ _=>p.C.S (λv q=>by rw[b]at q;cases q) λq=>by rw[b]at q;cases q) (rJ<|by rw[b];simp only[fY.rk];omega) (λh=>by cases h);all_goals grind
theorem PI.ahL(H:gS F)(p:PI F n zX E S m z o d w qJ)(c:d[0]?=Ã g)(e:g.status=Å)(i:m 0=.fD)(b:E.M=.kY 0):rG F n zX E m d w qJ:=by have f:=p.sX c e i;rw[b]at f;have a:iY E (.fB .iZ) E.I:=mS (by rw[b];rfl);refine p.Kf H (T:=.fD) a c e (λh r=>f h<|(p.I.r.r _<|iQ c).fh<|yV r) (by rw[b];rfl) (by rw[b];simp[fY.jf]) (p.C.r a (by rw[b];simp[fY.jf]) (by rw[b];rfl) (by rw[b];rfl) (λr h=> ?_) (λr h=> ?_) (λr=>⟨λh=>(by cases h),λh=>(by cases h)⟩) (λh=>by rcases h with h|h|h<;>cases h) (λh=>by cases h) λh _=>absurd rfl<|h _) (rJ<|by rw[b];simp only[fY.rk,ju.rk];omega) (λh=>by cases h);all_goals grind
def Ba{v:ju}:∀j,(fY.fB v=.go j\/fY.fB v=.lG j\/fY.fB v=.rd j\/fY.fB v=.iH j)->j<=F.n:=λj h=>by rcases h with h|h|h|h<;>cases h
def Bb{v:ju}:∀j,(fY.fB v=.lG j\/fY.fB v=.rd j\/fY.fB v=.iH j)->1<=j:=λj h=>by rcases h with h|h|h<;>cases h
def Bc{v:ju}:∀r,(fY.fB v=.iL r->r<=F.q)/\(fY.fB v=.kY r->r<=F.n):=λr=>⟨λh=>(by cases h),λh=>(by cases h)⟩
def PI.ahM(H:gS F)(p:PI F n zX E S m z o d w qJ)(c:d[0]?=Ã g)(e:g.status=Å)(i:m 0=.fD)(b:E.M=.fB .iZ):rG F n zX E m d w qJ:=by have f:=p.sX c e i w<|p.I.r.r _<|iQ c;rw[b]at f;let⟨k,q,j,l⟩:=f;have a:iY E (.fB (.mf (.gh k))) E.I:=mS (by rw[b];rfl);exact p.Kf H (T:=.fD) a c e (λr h=>⟨j,JF l h⟩) (by rw[b];rfl) (by rw[b];rfl) (p.C.r a (by rw[b];exact Ç _) (by rw[b];rfl) (by rw[b];rfl) Ba Bb Bc (λh=>by rcases h with h|h|h<;>cases h) (λh=>by cases h) λh _=>absurd rfl<|h _) (rJ<|by rw[b];simp only[fY.rk,ju.rk];omega) λh=>by cases h
theorem PI.ahN(H:gS F)(p:PI F n zX E S m z o d w qJ){v:SP}(k:d[0]?=Ã g)(iK:g.status=Å)(ht:m 0=.fD)(b:E.M=.fB (.mf v)):kh F n zX E m d w qJ C 0:=by
 have gT:=iQ k;have hJ:=p.sX k iK ht w<|p.I.r.r _ gT;rw[b]at hJ;obtain⟨hd,X⟩:=hJ;have hG:=p.M.C;obtain⟨_,X⟩:=XK X hG;have Y:E.M.jf F.n<=F.n:=by rw[b];exact Ç _
 rcases X with⟨q,g',es,j,i,P,h4⟩|⟨g',j,i,P⟩|⟨g',c,f,Q,tY,j,i⟩
 .have r:∀e∈es,tX F.toFx e:=by
   grind [yK,nA]
  obtain⟨s,V,l⟩:=P;obtain⟨B,u,t,D,I,K,L,M,N⟩:=p.Y (J:=JM F E.I<|.fB (.mf q)) (T:=.fD) H (kM<|.fB (.mf q)) k (À U) nA j (À U) r (by rcases i with rfl|rfl<;>rfl) (λx y e=>(yT H.C x y e).elim) (λh a=>⟨hd,JF ⟨s,V,l⟩ a⟩)<|À (l _ _ V).1;have a:iY E (.fB (.mf q)) E.I:=mS (by rw[b];rfl);exact p.yU H a t D I (À (l _ _ V).1) K (λ_ _=>rfl) L M N (Wd.r p.M a (by rw[b];rfl)<|by rw[b];rfl) (p.C.r a Y (by rw[b];rfl) (by rw[b];rfl) Ba Bb Bc (λh=>by rcases h with h|h|h<;>cases h) (λh=>by cases h) λh _=>absurd rfl<|h _) (ahF b ht h4) λh=>by cases h
 .obtain⟨T,hT⟩:=jl P;have O:=lH (λl g h=>À h.2.1) P;obtain⟨B,u,t,D,I,K,L,M,N⟩:=p.Y H (kM<|.fB .lk) k (À U) nA j (À U) (yK nA) U (λx y e=>(yT H.C x y e).elim) hT O;have a:iY E (.fB .lk) E.I:=mS (by rw[b];rfl);refine p.yU H a t D I O K (λ_ _=>rfl) L M N (Wd.r p.M a (by rw[b];rfl)<|by rw[b];rfl) (p.C.r a Y (by rw[b];rfl) (by rw[b];rfl) Ba Bb Bc (λ_=> ?_) (λh=>by cases h) λh _=>absurd rfl<|h _) (rJ<|by rw[b];simp only[fY.rk,ju.rk];omega) (λh=>by cases h);cases V:E.b with
  |cl c f=>have:=i c f V;have:=(p.C.t c f V).1;omega
  |jE f=>exact(p.C.g f V).1
  |gY r s=>exact(p.C.u r s V).1
 .obtain⟨e1,V⟩:=p.C.t c f Q;rw[b]at V;have V:f=0:=V;subst V;obtain⟨hv,Gs⟩:=(Q▸hG).Xs tY Z;rw[Q,hv]at j;rw[hv]at Gs;rw[Q]at i;have e:(GS.cl c 0).st%gd=0:=by simp only[GS.st,gd];omega
  simp only[e,if_true]at i;have W:=Yd (F:=F) (w:=w) (GS.cl c<|0+1).st;obtain⟨T,hT⟩:=jl<|i.jw<|Pk H p W gT;have O:=lH (λl g h=>À h.2.1) i;obtain⟨B,u,t,D,I,K,L,M,N⟩:=p.Y H (kM<|.fB .wr) k (À U) nA j W (AR nA) U (λx y e=>(yT H.C x y e).elim) hT O;have a:iY E (.fB .wr) E.I:=mS (by rw[b];rfl);refine p.yU H a t D I O K (λy l=>W.C p.C nA l) L M N (Wd.r (Pj H p W Gs) a (by rw[b];rfl)<|by rw[b];rfl) (p.C.iB a Y Ba Bb Bc (λl f h=> ?_) (λf h=>by cases h) (λr s h=>by cases h) (λy q h=> ?_) (λh=>by rcases h with h|h|h<;>cases h) (λh=>by cases h) λh _=>absurd rfl<|h _) (rJ<|by rw[b];simp only[fY.rk,ju.rk];omega) λh=>by cases h
  .rw[(Pg (E:=E) (x:=.fB .wr) (G:=.cl c (0+1)) (dk:=E.I)<|by rw[b];rfl)];cases h;exact⟨e1,U⟩
  .have:=p.C.N y q h;grind
def PI.ahO(H:gS F)(p:PI F n zX E S m z o d w qJ)(c:d[0]?=Ã g)(j:g.status=Å)(k:m 0=.fD)(b:E.M=.fB .wr):kh F n zX E m d w qJ C 0:=by have f:=p.sX c j k w<|p.I.r.r _<|iQ c;rw[b]at f;let⟨L,_,M,q,i⟩:=f;have a:iY E (.fB .kD) E.I:=mS (by rw[b];rfl);let⟨r,s,t⟩:=OZ H p nA (À U) (Á U) (À ⟨U,U⟩) λx h e=>yT H.C x h e;let⟨T,x⟩:=jl i;have e:=lH (λl g h=>À h.2.1) i;obtain⟨B,y,l,u,v,D,G,I,J,K⟩:=p.AX H (kM<|.fB .kD) c (q w) fq fq r s x e;exact p.yU H a v D G e I (λ_ _=>rfl) J (t y l u) K (Wd.r p.M a (by rw[b];rfl)<|by rw[b];rfl) (p.C.r a (by rw[b];exact Ç _) (by rw[b];rfl) (by rw[b];rfl) Ba Bb Bc (λh=>by rcases h with h|h|h<;>cases h) (λh=>by cases h) λh _=>absurd rfl<|h _) (rJ<|by rw[b];simp only[fY.rk,ju.rk];omega) λh=>by cases h
def PI.ahP(H:gS F)(p:PI F n zX E S m z o d w qJ)(i:d[0]?=Ã g)(s:g.status=Å)(t:m 0=.fD)(f:E.M=.fB .gC):kh F n zX E m d w qJ C 0:=by have k:=p.sX i s t w<|p.I.r.r _<|iQ i;rw[f]at k;let⟨P,_,v⟩:=k;let⟨a,b,y⟩:=p.C.O f;have q:=p.M.C;rw[y]at q;let⟨Q,D,j⟩:=v 0;simp only[if_true]at j;have c:iY E (.fB .lk) E.I:=mS (by rw[f];rfl);let⟨T,G⟩:=jl j;have r:=lH (λl g h=>À h.2.1) j;obtain⟨B,u,l,I,J,K,L,M,N⟩:=p.Y H (kM<|.fB .lk) i (À U) nA (D w q.C) (À U) (yK nA) U (λx O e=>(yT H.C x O e).elim) G r;exact p.yU H c l I J r K (λ_ _=>rfl) L M N (Wd.r p.M c (by rw[f];rfl)<|by rw[f];rfl) (p.C.r c (by rw[f];exact Ç _) (by rw[f];rfl) (by rw[f];rfl) Ba Bb Bc (λ_=>p.C.B<|À f) (λh=>by cases h) λh _=>absurd rfl<|h _) (rJ<|by rw[f];simp only[fY.rk,ju.rk];omega) λh=>by cases h
theorem PI.ahQ(H:gS F)(p:PI F n zX E S m z o d w qJ){g:Ä}(f:d[0]?=Ã g)(j:g.status=Å)(v:m 0=.fD)(b:E.M=.fB .kD):kh F n zX E m d w qJ C 0:=by
 have D:=iQ f;have I:=p.sX f j v w<|p.I.r.r _ D;rw[b]at I;obtain⟨hd,_,J,O1,g',h1,K⟩:=I;have L:=p.M.C;by_cases M:E.b.sm=0
 .have s:=L.M;rw[M]at s;obtain⟨Q,l⟩:=p.h;rw[b]at Q l;obtain⟨B,t,c,q,O⟩:=Ot f<|O1 w s;have hw:∀x,Ā F.P g {g with status:=Ü} w x=x:=by
   intro x;unfold Ā;grind
  have r:∀k,k≠0->B[k]?=d[k]?:=by grind
  have V:gM F.P F.S E.Y S m z o B w (qJ++#[]):=by
   rw[Ú];obtain⟨g0,W,T,f3,f4⟩:=p.I.C _ g f;have X:g=g0:=by
    rw[l]at T;cases T with
    |gf=>rfl
    |nY h J=>cases j
   subst X;refine⟨?_,λk y a=> ?_,λk a=>p.I.I k<|by rwa[<-c]⟩
   .rw[show(λi=>i<B.size)=(λi=>i<d.size) by rw[c]];exact p.I.r
   .by_cases e:k=0
    .subst e;rw[q]at a;obtain rfl:=È a;refine⟨g,W,?_,À j,Á v⟩;rw[l];exact .nY j J
    .rw[r k e]at a;exact p.I.C k y a
  refine⟨E,S,m,z,o,B,w,#[],t,c,λh=>h,.r p.N (c.trans p.b) V (by rw[c];exact p.a) p.M p.C (by rw[Ú];exact p.d) (λk y a i=> ?_) (by rw[Ú];exact p.f),OT (λ_ _=>rfl) (by unfold Ph.N;omega) (by rw[Dr f,if_pos j]) (by rw[Dr q,if_neg fq]) λk a=>O0<|r k a⟩;by_cases e:k=0
  .grind
  .rw[r k e]at a;exact p.c k y a i
 .obtain⟨a,s,Q⟩:=XQ M;have k:=Q▸L;have Ds:=h1 w _ (by simp only[GS.sm];omega) k.M k.N;have i:kG F.C w (w.setCell (gX F.C)<|ë ç<|(GS.gY a<|s+1).sm-1):=Á ⟨_,_,Á U,U⟩;obtain⟨T,hT⟩:=jl<|K.jw<|Pk H p i D;have V:=lH (λl g h=>À h.2.1) K;obtain⟨B,u,t,c,q,O,q5,q6,q7⟩:=p.Y H (kM<|.fB .gC) f (À U) nA Ds i (Gm nA) (Gn _).2.2.2 (λx l e=>(yT H.C x l e).elim) hT V;obtain⟨W,l,b3⟩:=p.C.u a (s+1) Q;rw[b]at l;have l:a+(s+1)=1:=l;have ha:a=0:=Z
  have hs0:s=0:=Z
  subst ha hs0;have e:iY E (.fB .gC) E.I:=mS (by rw[b];rfl);have X:=Pg (E:=E) (x:=.fB .gC) (G:=.gY 0 0) (dk:=E.I) (by rw[b];rfl);refine p.yU H e t c q V O (λj' r=>i.C p.C nA r) q5 q6 q7 (Wd.r (Pj H p i k.kD) e (by rw[b];rfl)<|by rw[b];rfl) (p.C.iB e (by rw[b];exact Ç _) Ba Bb Bc (λc' r h=>by cases h) (λr h=>by cases h) (λr s h=> ?_) (λy r h=> ?_) (λ_=>by rwa[X]) (λ_=>⟨0,0,U⟩) λh _=>absurd U<|h _) (rJ<|by rw[b];simp only[fY.rk,ju.rk];omega) λh=>by cases h
  .rw[X];cases h;exact⟨W,U,λh=>by omega⟩
  .have:=p.C.N y r h;grind
end
section
variable{S:Nat->Jd}{a:Nat->gB}{d:Nat->iC}{f:Nat->ff}{b:Array Ä}
def gM.ahR(q:gM P i X S a d f b w qJ)(r:b[k]?=Ã g)(h:yA n É g):∃z,d k=.sS n z:=by
 let⟨l,u,v,j,s,m,y,t⟩:=h;let⟨g0,_,o,p,_⟩:=q.C k g r;generalize d k=K at o;cases o with
 |gf=>rw[l]at p;rcases p with e|e<;>cases e
 |nY h e=>simp only[e]at j;cases j
 |tS e z h=>
  simp only[Ļ,Ķ,Prod.mk.injEq]at j;rw[<-j.1]at m;have:s=Ŕ e z:=by simpa using m
  subst this;have:e=n:=by simpa[Ŕ]using t
  subst this;exact⟨z,U⟩
 |nu e z h=>cases l
def gM.Ye(o:gM P i X S a d f b w qJ){x:Ä}(p:b[k]?=Ã x)(j:x.status=Ü)(q:d k=.sS n z):∃g,x=Ļ g #[Ŕ n z] (.recv Ì):=by
 let⟨g,_,l,m,_⟩:=o.C k x p;rw[q]at l;cases l with
 |gf=>rw[j]at m;rcases m with e|e<;>cases e
 |tS _ _ h=>exact⟨g,U⟩
 |nu _ _ h=>cases j
def ahS{g0:Ä}:yA i É (Ļ g0 #[Ŕ i z]<|.recv Ì):= ⟨U,_,_,U,Ŕ i z,fq,U,by simp[Ŕ]⟩
theorem ahT{g0:Ä}{r:Nat}(h:w.heap[i]?=Ã (.chan n q Ì j r yQ)):((Ļ g0 #[Ŕ i z]<|.recv Ì).again w).status=Å:=by unfold ď Ļ;simp[Ŕ,h]
theorem ahU(h:(g.again w).status=Ü):g.again w=g/\g.status=Ü:=by unfold ď at h|-;grind
end
section
variable{F:Ph}{E C:fV F}{S:Nat->Jd}{a D:Nat->gB}{d:Nat->iC}{f:Nat->ff}{b m:Array Ä}{u:ä}{o:Option (Nat×Nat)}
def PI.Yf(p:PI F j zX E S a d f b w qJ){x:Ä}(n:b[k]?=Ã x)(h:yA i É x):∃g,g+2<=E.r/\E.N (g+1)=Í/\k=F.L+1+g/\E.I g=i/\∃r,E.C g=.ny r:=by
 let⟨z,l⟩:=p.I.ahR n h;have s:=iQ n;by_cases o:k=0
 .subst o;rw[p.h.2]at l;revert l;cases E.M with
  |fB v=>cases v<;>intro h<;>cases h
  |_=>intro h;cases h
 by_cases q:k<F.L
 .rw[(p.l k Z q).2.2]at l;cases l
 have t:=p.b;obtain⟨y,rfl⟩:∃y,k=F.L+y:=⟨k-F.L,Z⟩;cases m:E.N y with
 |some e=>rw[(p.k y e Z m).2.1]at l;cases l
 |none=>
  cases y with
  |zero=>rw[ó,(p.m Z m).2]at l;cases l
  |succ g=>
   rw[show F.L+(g+1)=F.L+1+g by omega,(p.g g Z m).2]at l;cases e:E.C g with
   |ny r=>
    rw[e]at l;injection l with l _;exact⟨g,Z,m,Z,l,r,e⟩
   |fB r v=>rw[e]at l;cases v<;>cases l
   |jN r=>rw[e]at l;cases l
   |oO r=>rw[e]at l;cases l
theorem Yg(h:tU n j i k)(c:1<=n)(a:j=i%n):i=j+k*n:=by
 have e:i=j+i/n*n:=by rw[a,Nat.mul_comm];exact(Nat.mod_add_div i n).symm
 have b:k=i/n:=by
  refine Nat.le_antisymm (ă λq=> ?_)<|ă λq=> ?_
  .have:=(h<|i/n).1 q;omega
  .have d:=mt (h k).2 Z;have f:(k+1)*n<=i/n*n:=č n q;grind
 rwa[b]
theorem Yh(h:tU n j i k)(b:1<=n)(c:j=i%n):tU n j (i+1) (k+1):=by
 have e:=Yg h b c;intro a;constructor
 .intro q;have:a*n<=k*n:=č n Z;omega
 .intro q;refine ñ λd=> ?_;have:(k+1)*n<=a*n:=č n d;grind
theorem Yi(h:tU n j i k)(b:j<n)(c:j≠i%n):tU n j (i+1) k:=by intro a;rw[h a];grind [ē,ļ]
def PI.ahV(H:gS F)(p:PI F j zX E S a d f b w qJ){r:Nat}(hi:b[0]?=Ã g)(iK:g.status=Å)(ht:a 0=.fD)(D:E.M=.iL (r+1)):kh F j zX E a b w qJ o 0:=by
 have hn:=H.C.N;have J6:=(p.C.L<|r+1).1 D;have oP:E.r=F.n+1:=by unfold fV.r;rw[D];rfl
 obtain⟨hs,hk⟩:=p.h;rw[D]at hs hk;obtain⟨Q,hQ⟩:∃Q,Q=F.q-(r+1):=⟨_,U⟩;obtain⟨c,hj⟩:∃c,c=Q%F.n:=⟨_,U⟩;have hs:S 0=AJ F.P (0==0) (E.I c) (F.c Q) (Ge F E.I r):=by rw[hs,hj,hQ];rfl
 have vz:c<F.n:=by rw[hj];exact ż _ hn
 have V:c+2<=E.r:=Z
 have hY:E.Y (E.I c):=Á<|Á ⟨c,V,U⟩;obtain⟨X,s,hc,uf,Kg,yN,yO⟩:=p.M.jG c V;have pZ:decide (c<E.M.jf F.n)=É:=by rw[D];simp[fY.jf]
 rw[pZ]at hc;have Gv:E.M.mF F.q=Q:=by rw[D,hQ];rfl
 rw[Gv]at uf;have eQ:=Yg uf hn hj;have hsQ:s<=s*F.n:=â _ hn;have Yj:(fY.iL r).mF F.q=Q+1:=by simp only[fY.mF];omega
 have Dv:=(p.I.r).N _ hY;have Yk:∀t,(fY.iL r=.go t\/fY.iL r=.lG t\/fY.iL r=.rd t\/fY.iL r=.iH t)->t<=F.n:=λt h=>by rcases h with h|h|h|h<;>cases h
 have Yl:∀t,(fY.iL r=.lG t\/fY.iL r=.rd t\/fY.iL r=.iH t)->1<=t:=λt h=>by rcases h with h|h|h<;>cases h
 have Ym:∀K,(fY.iL r=.iL K->K<=F.q)/\(fY.iL r=.kY K->K<=F.n):=λK=>⟨λh=>(by cases h;omega),λh=>(by cases h)⟩;have aM:=p.C.S (λv q=>by rw[D]at q;cases q) (λq=>by rw[D]at q;cases q);by_cases hp:∃(k:Nat) (x:Ä),b[k]?=Ã x/\yA (E.I c) É x
 .obtain⟨k,gj,Dd,mG⟩:=hp;obtain⟨t,oR,he,rfl,Bd,K,Be⟩:=p.Yf Dd mG;have ej:=p.C.M _ _ oR V Bd;subst ej;have hb:=mG.1;obtain⟨JK,JJ⟩:=p.g t oR he;rw[Be]at JK JJ;have ahW:S (F.L+1+t)=wY F.P (F.L+1+t==0) (E.I t) F.z λx=>match x with
   |some v=>λl g=>v=F.c (t+K*F.n)->qL F.P É F.B (F.I<|F.r<|t+K*F.n) (F.e (E.I t)<|t+K*F.n) .iZ l g
   |none=>AO F:=by rw[yL H.C t];exact JK
  have lF:F.L+1+t≠0:=Z
  have Oz:a (F.L+1+t)=.fD:=by obtain⟨g0,_,i,e,h4⟩:=p.I.C _ gj Dd;refine h4.resolve_left λq=> ?_;subst q;rw[hb]at e;rcases e with q|q<;>cases q
  have O4:X=#[]:=by
   rcases p.c _ gj Dd hb with⟨h1,_⟩|⟨C,_,_,h2,⟨G,W,_⟩|⟨G,cap,i,e,W,h4⟩⟩
   .exact absurd h1 lF
   .have:C=t:=Z
    subst this;rw[Be]at W;cases W
   .have:C=t:=Z
    subst this;rw[hc]at h4;injection h4 with h4;injection h4
  subst O4;rw[Be]at hc Kg yN;simp only[gO.iO]at hc Kg yN;have hsr:s=K:=by simp at yN;omega
  subst hsr;obtain⟨m,u,T,Tj,g',gj',q1,q2,q3,q4,q5,q6,q7,q8,q9⟩:=p.I.agt hi hk ht hs hY hc lF Dd hb JJ Oz ahW (kW F (E.I t)<|.fB s .iZ) (λI O M e i=>by obtain⟨j3,a1,_,a3,y,_⟩:=p.Yf e i;have:=p.C.M _ _ a1 V y;omega);have Yn:=q9.kP (J:=JW F (E.I t) t<|.fB s .iZ) (λl g h=>by rw[fK _ _ lF,gG]at h;exact h<|by rw[eQ]);have Pl:fA (fA (fA S (F.L+1+t) ((match(Ã (F.c Q):Option ã)with
   |some v=>λl g=>v=F.c (t+s*F.n)->qL F.P É F.B (F.I<|F.r<|t+s*F.n) (F.e (E.I t)<|t+s*F.n) .iZ l g
   |none=>AO F))) 0 (Ge F E.I r)) (F.L+1+t) (JW F (E.I t) t (.fB s .iZ))=fA (fA S (F.L+1+t) (JW F (E.I t) t (.fB s .iZ))) 0 (JM F E.I (.iL r)):=by
   funext k;by_cases v:k=F.L+1+t
   .subst v;rw[gG,fK _ _ lF,gG]
   .by_cases k2:k=0
    .subst k2;rw[fK _ _<|ÿ lF,gG,gG];rfl
    .rw[fK _ _ v,fK _ _ k2,fK _ _ v,fK _ _ k2,fK _ _ v]
  rw[Pl]at Yn;have Pw:=p.C.G (x:=.fB s .iZ) V he (λk=>by rw[Be,OY U];rfl) (λG h=>by rcases h with⟨_,h⟩|h|h<;>cases h;exact Z) (λG h=>by rcases h with h|h|h<;>cases h) (λG h=>by cases h) (λG h=>by cases h);have l:iY (gQ E t<|.fB s .iZ) (.iL r) E.I:=⟨by show _=E.M.sp F.n;rw[D];rfl,λ_ _=>rfl⟩;have e:(iB (gQ E t<|.fB s .iZ) (.iL r) E.b E.I).r=E.r:=l.r;obtain⟨z1,z2,z3,z4,z5⟩:=p.M.G H p.a p.C V;refine⟨iB (gQ E t<|.fB s .iZ) (.iL r) E.b E.I,_,_,_,_,m,_,u,q1,q2,(λh=>by have h:=h;cases h),.r ((p.N.N H.C V he).iB H.C l) (by rw[e];exact q2.trans p.b) (by rw[A9 l];exact Yn) ?_ ⟨z4,z5,λC xf=> ?_,z1,z2,λC xf G AG h1=> ?_⟩ (Pw.r l (by show E.M.jf F.n<=_;rw[D];exact ò _) (by show _=E.M.ad F.n;rw[D];rfl) (by show _=E.M.gF;rw[D];rfl) Yk Yl Ym (λh=>by rcases h with h|h|h<;>cases h) (λh=>by cases h) λ_ _=>aM) (by rw[e];exact J8 p.d q8) (λk y M ll=> ?_) λC G a1 a2 a3=> ?_,?_⟩
  .rw[q2];exact(((p.a.r<|by rw[Be];rfl).G l).Dt<|Ô Gu.symm)
  .have yW:C+2<=E.r:=Z
   show∃X I,(w.setChan (E.I t) _ _ _ _ _ _).heap[E.I C]?=Ã (.chan F.q X (decide<|C<(fY.iL r).jf F.n) I ((gQ E t<|.fB s .iZ).C C).iO É)/\tU F.n C ((fY.iL r).mF F.q) I/\((gQ E t<|.fB s .iZ).C C).iO<=I/\X.size=I-((gQ E t<|.fB s .iZ).C C).iO/\∀i,i<I-((gQ E t<|.fB s .iZ).C C).iO->X[i]?=Ã (F.c<|C+(((gQ E t<|.fB s .iZ).C C).iO+i)*F.n);rw[Yj];by_cases O:C=t
   .subst O;rw[jR];refine⟨#[],s+1,by rw[J7 Dv];rfl,Yh uf hn hj,Ç _,by simp[gO.iO],λi lz=> ?_⟩;have hi2:i<s+1-(s+1):=lz;omega
   .rw[iP _ O,p8 λq=>O<|p.C.M _ _ yW V q];obtain⟨Pm,I,y1,y2,y3⟩:=p.M.jG C yW;rw[Gv]at y2;refine⟨Pm,I,?_,Yi y2 Z Z,y3⟩;rw[y1,D];rfl
  .have yW:C+2<=E.r:=Z
   have A7:G<((gQ E t<|.fB s .iZ).C C).kF:=h1;by_cases O:C=t
   .subst O;rw[jR]at A7;exact z3 C yW G AG<|by rw[Be];exact A7
   .rw[iP _ O]at A7;exact z3 C yW G AG A7
  .by_cases v:k=0
   .subst v;rw[q3]at M;obtain rfl:=È M;rw[q4]at ll;cases ll
   .by_cases k2:k=F.L+1+t
    .subst k2;rw[q5]at M;obtain rfl:=È M;rw[q6]at ll;cases ll
    .rw[q7 k v k2]at M;rcases p.c k y M ll with⟨h1,_⟩|⟨C,xf,yS,h2,W|⟨r1,cap,s1,K,W,h4⟩⟩
     .exact absurd h1 v
     .exact Á ⟨C,Z,yS,h2,À (by show∃G,(gQ E t _).C C=_/\_;rw[iP _ Z];exact W)⟩
     .have O:C≠t:=Z
      exact Á ⟨C,Z,yS,h2,Á ⟨r1,cap,s1,K,by show(gQ E t _).C C=_;rw[iP _ O];exact W,by show(w.setChan (E.I t) _ _ _ _ _ _).heap[E.I C]?=_;rw[p8 λq=>O<|p.C.M _ _ xf V q];exact h4⟩⟩
  .have AW:(gQ E t<|.fB s .iZ).C C=.jN G:=a2;rw[iP _ (λe=>by subst e;rw[jR]at AW;cases AW)]at AW;exact(p.f C G Z AW a3).app u
  .refine À ⟨0,by unfold Ph.N;omega,À ?_,λk rI yY=> ?_⟩
   .show((iB (gQ E t<|.fB s .iZ) (.iL r) E.b E.I).iU _ 0).1<(E.iU a 0).1;rw[Di,Di,D];show(fY.iL r).rk F<(fY.iL<|r+1).rk F;simp only[fY.rk];omega
   .show(iB (gQ E t<|.fB s .iZ) (.iL r) E.b E.I).iU _ k=E.iU a k\/yH ((iB (gQ E t<|.fB s .iZ) (.iL r) E.b E.I).iU _ k) (E.iU a k);by_cases k2:k=F.L+1+t
    .subst k2;refine Á<|À ?_;rw[tW H.C (E:=iB (gQ E t<|.fB s .iZ) (.iL r) E.b E.I) (show E.N (t+1)=Í from he),tW H.C he];show((gQ E t<|.fB s .iZ).C t).rk F<(E.C t).rk F;rw[jR,Be];simp only[gO.rk,ju.rk];have hm:F.n+3000<=(F.n+3000)*(F.q+3-s):=â _ Z;omega
    .refine À (yI (λh=>absurd h yY) (λ_ _=>rfl) (λ_=>rfl) (λ_ _=>rfl) (λh1 _=> ?_)<|by rw[fK _ _ yY,fK _ _ k2]);show((gQ E t<|.fB s .iZ).C _).rk F=_;rw[iP _ Z]
 .obtain⟨m,u,T,g',q1,q2,q3,q4,q5,q6,q7⟩:=p.I.iL hi hk ht hs hY hc Z λk x hkx mG=>hp ⟨k,x,hkx,mG⟩;have e0:d=fA d 0 (kM<|.iL r):=by
   funext k;by_cases v:k=0
   .subst v;rw[gG,hk];rfl
   .rw[fK _ _ v]
  rw[e0]at q7;have l:iY E (.iL r) E.I:=mS (by rw[D];rfl);have e:(iB E (.iL r) E.b E.I).r=E.r:=l.r;obtain⟨z1,z2,z3,z4,z5⟩:=p.M.G H p.a p.C V;refine⟨iB E (.iL r) E.b E.I,_,_,_,_,m,_,u,q1,q2,(λh=>by have h:=h;cases h),.r (p.N.iB H.C l) (by rw[e];exact q2.trans p.b) (by rw[A9 l];exact q7) ?_ ⟨z4,z5,λC xf=> ?_,z1,z2,λC xf=>z3 C Z⟩ (p.C.r l (by rw[D];exact ò _) (by rw[D];rfl) (by rw[D];rfl) Yk Yl Ym (λh=>by rcases h with h|h|h<;>cases h) (λh=>by cases h) λ_ _=>aM) (by rw[e];exact J8 p.d q6) (λk y M ll=> ?_) λC G a1 a2 a3=>(p.f C G Z a2 a3).app u,rJ<|by rw[D];simp only[fY.rk];omega⟩
  .rw[q2];exact((p.a.G l).Dt<|Ô Gu.symm)
  .have yW:C+2<=E.r:=Z
   show∃X I,(w.setChan (E.I c) _ _ _ _ _ _).heap[E.I C]?=Ã (.chan F.q X (decide<|C<(fY.iL r).jf F.n) I (E.C C).iO É)/\tU F.n C ((fY.iL r).mF F.q) I/\(E.C C).iO<=I/\X.size=I-(E.C C).iO/\∀i,i<I-(E.C C).iO->X[i]?=Ã (F.c<|C+((E.C C).iO+i)*F.n);rw[Yj];by_cases O:C=c
   .subst O;refine⟨X.push<|F.c Q,s+1,by rw[J7 Dv];rfl,Yh uf hn hj,Z,by rw[Array.size_push];omega,λi lz=> ?_⟩;rw[Array.getElem?_push];by_cases G:i=X.size
    .rw[if_pos G,eQ,show(E.C C).iO+i=s by omega]
    .rw[if_neg G];exact yO i Z
   .rw[p8 λq=>O<|p.C.M _ _ yW V q];obtain⟨Pm,I,y1,y2,y3⟩:=p.M.jG C yW;rw[Gv]at y2;refine⟨Pm,I,?_,Yi y2 Z Z,y3⟩;rw[y1,D];rfl
  .by_cases v:k=0
   .subst v;rw[q3]at M;obtain rfl:=È M;rw[q4]at ll;cases ll
   .rw[q5 k v]at M;rcases p.c k y M ll with⟨h1,_⟩|⟨C,xf,yS,h2,W|⟨r1,cap,s1,K,W,h4⟩⟩
    .exact absurd h1 v
    .exact Á ⟨C,Z,yS,h2,À W⟩
    .have O:C≠c:=λe=>by
      subst e;have G:=(p.g C xf yS).2;rw[W,<-h2]at G;obtain⟨g0,i⟩:=p.I.Ye M ll G;exact hp ⟨k,y,M,by rw[i];exact ahS⟩
     exact Á ⟨C,Z,yS,h2,Á ⟨r1,cap,s1,K,W,by show(w.setChan (E.I c) _ _ _ _ _ _).heap[E.I C]?=_;rw[p8 λq=>O<|p.C.M _ _ xf V q];exact h4⟩⟩
end
section
variable{F:Ph}{E B:fV F}{S:Nat->Jd}{m D:Nat->gB}{o:Nat->iC}{G:Nat->ff}{c d:Array Ä}{u:ä}{sl:Option (Nat×Nat)}
theorem PI.ahX(H:gS F)(p:PI F n zX E S m o G c w qJ)(hi:c[0]?=Ã g)(ht:m 0=.fD)(l:E.M=.kY (J+1)):kh F n zX E m c w qJ sl 0:=by
 have C:=p.I.r;have hL:=H.C.r;have OA:=(p.C.L<|J+1).2 l;have oP:E.r=F.n+1:=by unfold fV.r;rw[l];rfl
 obtain⟨L,Q⟩:=p.h;rw[l]at L Q;obtain⟨j,hj⟩:∃j,j=F.n-(J+1):=⟨_,U⟩;have L:S 0=JD F.P (0==0) (E.I j) (AP F E.I J):=by rw[L,hj];rfl
 have z:j+2<=E.r:=Z
 have X:E.Y (E.I j):=Á<|Á ⟨j,z,U⟩;obtain⟨M,s,hc,uf,Kg,yN,yO⟩:=p.M.jG j z;have pZ:decide (j<E.M.jf F.n)=É:=by rw[l];simp only[fY.jf];exact decide_eq_false Z
 rw[pZ]at hc;have Dv:=C.N _ X;have Dn:(w.setChan (E.I j) F.q M Ì s (E.C j).iO É).heap[E.I j]?=Ã (.chan F.q M Ì s (E.C j).iO É):=J7 Dv;have aM:=p.C.S (λv q=>by rw[l]at q;cases q) (λq=>by rw[l]at q;cases q);obtain⟨d,u,T,g',q1,V,q3,q4,q5,q6,q7,q8,q9⟩:=p.I.kY hi Q ht L X (p.C.o j z).2.2 hc;have e0:o=fA o 0 (kM<|.kY J):=by
  funext k;by_cases B:k=0
  .subst B;rw[gG,Q];rfl
  .rw[fK _ _ B]
 rw[e0]at q9;have v:iY E (.kY J) E.I:=mS (by rw[l];rfl);have e:(iB E (.kY J) E.b E.I).r=E.r:=v.r;obtain⟨z1,z2,z3,z4,z5⟩:=p.M.G H p.a p.C z;have Dq:=p.d.C ⟨λD I a _=>q6 D I,À U,λD I a x ha hl _=> ?_,λD I a y ha _ hl=> ?_,λD I b _=>q8 D I _,λx _ _=>⟨λJ hr=>hr.appOther q6 Z,λe=>by omega⟩⟩;refine⟨iB E (.kY J) E.b E.I,_,_,_,_,d,_,u,q1,V,(λh=>by have h:=h;cases h),.r (p.N.iB H.C v) (by rw[e];exact V.trans p.b) (by rwa[A9 v]) ?_ ⟨z4,z5,λf N=> ?_,z1,z2,λf N=>z3 f Z⟩ (p.C.r v (by rw[l];simp only[fY.jf];omega) (by rw[l];rfl) (by rw[l];rfl) (λi h=> ?_) (λi h=> ?_) (λr'=>⟨λh=>(by cases h),λh=> ?_⟩) (λh=>by rcases h with h|h|h<;>cases h) (λh=>by cases h) λ_ _=>aM) (by rwa[e]) (λk y tT ll=> ?_) λf i W t K=>(p.f f i Z t K).app u,rJ<|by rw[l];simp only[fY.rk];omega⟩
 .rw[V];exact((p.a.C<|Ô Gu.symm).G v)
 .have W:f+2<=E.r:=Z
  show∃K t,(w.setChan (E.I j) F.q M Ì s (E.C j).iO É).heap[E.I f]?=Ã (.chan F.q K (decide<|f<(fY.kY J).jf F.n) t (E.C f).iO É)/\tU F.n f ((fY.kY J).mF F.q) t/\(E.C f).iO<=t/\K.size=t-(E.C f).iO/\∀i,i<t-(E.C f).iO->K[i]?=Ã (F.c<|f+((E.C f).iO+i)*F.n);have ahY:(fY.kY J).mF F.q=E.M.mF F.q:=by rw[l];rfl
  rw[ahY];by_cases O:f=j
  .subst O;refine⟨M,s,?_,uf,Kg,yN,yO⟩;rw[Dn,show decide (f<(fY.kY J).jf F.n)=Ì from decide_eq_true (by simp only[fY.jf];omega)]
  .rw[p8 λq=>O<|p.C.M _ _ W z q];obtain⟨K,t,y1,y2⟩:=p.M.jG f W;refine⟨K,t,?_,y2⟩;rw[y1,l];have:decide (f<(fY.kY<|J+1).jf F.n)=decide (f<(fY.kY J).jf F.n):=by
    apply decide_eq_decide.2;simp only[fY.jf];omega
   rw[this]
 .grind
 .grind
 .cases h;omega
 .by_cases B:k=0
  .grind
  .obtain⟨h,t⟩:∃h,c[k]?=Ã h:=by
    grind
   rw[q5 k h B t]at tT;obtain rfl:=È tT;obtain⟨_,Pn⟩:=ahU ll;rcases p.c k h t Pn with⟨h1,_⟩|⟨f,N,K,W,i|⟨r1,cap,s1,r',i,h4⟩⟩
   .exact absurd h1 B
   .exact Á ⟨f,Z,K,W,À i⟩
   .have O:f≠j:=λe=>by
     subst e;have Kh:=(p.g f N K).2;rw[i,<-W]at Kh;obtain⟨g0,xh⟩:=p.I.Ye t Pn Kh;grind [ahT]
    exact Á ⟨f,Z,K,W,Á ⟨r1,cap,s1,r',i,by show(w.setChan (E.I j) _ _ _ _ _ _).heap[E.I f]?=_;rwa[p8 λq=>O<|p.C.M _ _ N z q]⟩⟩
 .grind
 .grind
def Ki(F:Ph)(zX:π->Prop)(qJ:ä):Prop:=
 (∀p a,touchAt qJ p=Ã a->a.loc.isMemory=Ì->Λ qJ 0 p\/((zX a.loc\/∃x:Č,a.loc=ú x/\x.block=F.C)/\a.kind=.atomic))/\qJ.HandedOver
def Po{f:Nat->Nat}:∀{n:Nat},Ñ n f=0->∀i,i<n->f i=0
 |n+1,h,i,hi=>by
  simp only[Ñ]at h;rcases ģ i n with q|q
  .exact Po Z i q
  .have:i=n:=Z
   subst this;omega
theorem PI.ahZ(H:gS F)(p:PI F n zX E S m o G c w qJ)(r:c[0]?=Ã g)(K:g.status=Å)(L:m 0=.fD)(f:E.M=.fB .lk): ∃(B:fV F) (b:Nat->Jd) (D:Nat->gB) (j:Nat->iC) (h:Nat->ff) (d:Array Ä) (W:Ð) (u:ä),Ŏ F.P (ð c w sl) 0=(ğ<|ð d W sl,u)/\d.size=c.size/\PI F n zX B b D j h d W (qJ++u)/\B.M=.gi/\Ki F zX (qJ++u):=by
 have v:=iQ r;have C:=p.sX r K L w<|p.I.r.r _ v;rw[f]at C;let⟨M,_,g',s,q⟩:=C;have O:=(p.I.r.f _ v).trans M;have t:∀y:Ă,y.act=ė (Œ<|fP F.C)->y.act.touch?=Í:=λy i=>by rw[i];rfl
 have oP:E.r=F.n+1:=by unfold fV.r;rw[f];rfl
 have a:iY E .gi E.I:=mS (by rw[f];rfl);have e:(iB E .gi E.b E.I).r=E.r:=a.r;let⟨T,Q⟩:=jl q;have V:=lH (λl g h=>À<|H.M _ _ _ h) q;obtain⟨d,y,X,I,Y,J,q3,q4,q5,q7⟩:=p.AX H (kM .gi) r (s w) fq fq (λy i=>⟨λz l=>(by rw[t y i]at l;cases l),by rw[i];exact p.I.r.N _<|À nA⟩) (λy _ i=>AH p.I.r.l λk j=>by rw[xe j];exact t y i) Q V;have Dq:=p.d.C (yF (λk j=>by rw[xe j];exact t y I) λk j b _ e=>by grind);have l:=p.C.B<|Á<|À f;refine⟨iB E .gi E.b E.I,_,_,_,_,d,w,_,Y,J,.r (p.N.iB H.C a) (by rw[e];exact J.trans p.b) (by rwa[A9 a]) (q7.G a) (Wd.r p.M a (by rw[f];rfl)<|by rw[f];rfl) (p.C.r a (by rw[f];exact Ç _) (by rw[f];rfl) (by rw[f];rfl) (λb h=> ?_) (λb h=> ?_) (λb=>⟨λh=>(by cases h),λh=>(by cases h)⟩) (λ_=>l) (λh=>by cases h) λ_ h=>absurd rfl h) (by rwa[e]) ?_ λb j N h k=>(p.f b j Z h k).app _,U,p.d.kY X I O λx GH=> ?_⟩
 .grind
 .grind
 .intro k z b hb;by_cases N:k=0
  .grind
  .rw[q4 k N]at b;obtain⟨z',GF,rfl⟩:=Ù.1 b;let⟨_,hzb⟩:=Gj hb;rcases p.c k z' GF hzb with⟨s,_⟩|⟨j,hj,h,q,h3⟩
   .exact absurd s N
   .exact Á ⟨j,Z,h,q,h3⟩
 .have b:=Po l x Z;have k:E.M.ad F.n=F.n+1:=by rw[f];rfl
  unfold fV.G at b;rw[k,if_pos Z]at b;cases h:E.N x with
  |none=>rw[h]at b;cases b
  |some j=>
   rw[h]at b;refine⟨j,h,?_⟩;cases j with
   |oQ=>cases b
   |gi N=>cases N with
    |jD=>cases b
    |_=>trivial
   |jr N=>trivial
end
section
variable{D:Nat->Prop}{S:Nat->Jd}{G:Nat->gB}{I:Nat->iC}{o:Nat->ff}{f:Array Ä}{sl:Option (Nat×Nat)}
def Yo{y:Ă}(b:wQ.act=ς k)(c:y.act=į):w7 #[wQ,y]:=by
 intro d a;simp at a;rcases a with rfl|rfl
 .rw[b];exact⟨U,fq⟩
 .rw[c];exact⟨U,fq⟩
theorem iT.Gc(h:iT i (λf=>f<n) X o w qJ){v:ff}{y:Ă}(F:0<n)(P:wQ.g=0/\wQ.act=ς n)(Q:y.g=n/\y.act=į)(pz:κ qJ 0=0)(Bd:κ qJ n=0)(V:∀b,¬v.O b)(W:∀b,v.I b->(o 0).I b) (J:∀a,v.r a->X a.block/\(∀k,k<n->¬(o k).C a)/\qH qJ 0 (ú a)) (H:∀a,v.N a->(o 0).N a) (lK:∀a,v.K a->(o 0).K a) (lKO:∀k,k<n->∀a,(o k).K a->¬v.r a) (ld:v.d=0) (lw:v.w=w) (Y:∀b,X b->D b) (Yp:∀b,D b->X b\/(b<w.heap.size/\∀f,f<n->¬(o f).M b)):iT i (λf=>f<n+1) D (gA o n v) w (qJ++#[wQ,y]):=by
 have L:=Yo P.2 Q.2;have B:∀f,f<n+1->f=n\/f<n:=λf t=>by omega
 have G:gA o n v n=v:=gV _ _ _;have E:∀f,f<n->gA o n v f=o f:=λf t=>gI o _ Z;have N:∀b,v.M b->(o 0).I b:=λb s=>s.elim (λq=>absurd q (V b)) (W b);have ah0:=λf t b s Nh=>(Yp b Nh).elim (h.I f t b s) (λq=>q.2 f t s);refine⟨λf j t S T b s=> ?_,λf j t S T a r=> ?_,λf t b s=> ?_,λf t a r=> ?_,λf t b s=> ?_,λf t a r=> ?_,λf t b s=> ?_,λb s=> ?_,λf t=> ?_,λf t=> ?_,λf t=> ?_,AH h.l λu z=>(L u z).1,λu z=> ?_,λp a c r hl hk=> ?_,λf t a r=> ?_⟩
 .rcases B f t with rfl|m
  .grind
  .rw[E f m]at s;rcases B j S with rfl|I
   .rw[G];intro q;by_cases e:f=0
    .subst e;exact h.m _ m b s (N b q)
    .exact h.o f 0 m F e b s (Á (N b q))
   .rw[E j I];exact h.o f j m I T b s
 .rcases B f t with rfl|m
  .grind
  .rw[E f m]at r;rcases B j S with rfl|I
   .rw[G];rintro(q|q)
    .exact(J a q).2.1 f m (À r)
    .by_cases e:f=0
     .subst e;exact h.g _ m a r (H a q)
     .exact h.h f 0 m F e a r (Á (H a q))
   .rw[E j I];exact h.h f j m I T a r
 .rcases B f t with rfl|m
  .grind
  .rw[E f m]at s|-;exact h.m f m b s
 .rcases B f t with rfl|m
  .rw[G]at r|-;exact λq=>(J a r).2.1 0 F (Á (H a q))
  .rw[E f m]at r|-;exact h.g f m a r
 .rcases B f t with rfl|m
  .rw[G]at s;exact ah0 0 F b (Á (N b s))
  .grind
 .rcases B f t with rfl|m
  .rw[G]at r;exact Y _ (r.elim (λq=>(J a q).1) (λq=>h.e 0 F a (Á (H a q))))
  .rw[E f m]at r;exact Y _ (h.e f m a r)
 .rcases B f t with rfl|m
  .rw[G]at s;exact h.fw 0 F b (Á (N b s))
  .rw[E f m]at s;exact h.fw f m b s
 .exact(Yp b s).elim (h.N b) (λq=>q.1)
 .rcases B f t with rfl|m
  .rw[G,lw];exact fJ.fX _ _
  .rw[E f m];exact h.r f m
 .rcases B f t with rfl|m
  .rw[G];have e:=λl=>agC P Q pz Bd (l:=l);exact⟨λa r=>absurd r (V _),λa r=>(e _).2 ((h.S 0 F).C a (W _ r)),λa r=>(e _).1 (J a r).2.2,λa r=>(e _).2 ((h.S 0 F).r a (H _ r))⟩
  .rw[E f m];have e:∀u∈#[wQ,y],∀b,u.act.touch?=Ã b->False:=λu z b s=>by rw[(L u z).1]at s;cases s
   exact⟨λa r=>((h.S f m).ft a r).C λu z b s _=>(e u z b s).elim,λa r=>((h.S f m).C a r).r λu z b s _ _=>(e u z b s).elim,λa r=>((h.S f m).I a r).C λu z b s _=>(e u z b s).elim,λa r=>((h.S f m).r a r).r λu z b s _ _=>(e u z b s).elim⟩
 .rw[JG L];rcases B f t with rfl|m
  .grind
  .rw[E f m];exact h.f f m
 .refine(Array.mem_append.1 z).elim (h.q u) λq=> ?_;simp at q;rcases q with rfl|rfl
  .rw[P.2];trivial
  .rw[Q.2];trivial
 .rcases mU r with⟨_,e⟩|⟨_,u,e,q,_⟩
  .exact h.s p a c e hl hk
  .rw[(L u e).1]at q;cases q
 .obtain⟨e,m,q⟩:∃e,e<n/\(o e).K a:=by
   grind
  let⟨I,z2⟩:=h.n e m a q;grind
theorem gM.Gc(p:gM P i X S G I o f w qJ){c b:Ä}{J q:Jd}{T r:gB}{K Kc:iC}{m n:ff}(s:f[0]?=Ã g)(L:è P Ì g w=.spawn c b w #[]) (V:∀x y:Ă,(x.g=0/\x.act=ς f.size)->(y.g=f.size/\y.act=į)->iT i (λa=>a<f.size+1) D (gA (gA o 0 m) f.size n) w (qJ++#[x,y])) (hF:lj P Ì J T m c) (M:c.status=Å) (N:lj P É q r n b) (O:b.status=Å): ∃d x y,(x.g=0/\x.act=ς f.size)/\(y.g=f.size/\y.act=į)/\Ŏ P (ð f w sl) 0=(ğ<|ð d w sl,#[x,y])/\d.size=f.size+1/\d[0]?=Ã c/\d[f.size]?=Ã b/\(∀k,k≠0->k<f.size->d[k]?=f[k]?)/\ gM P i D (fA (fA S 0 J) f.size q) (fA (fA G 0 T) f.size r) (fA (fA I 0 K) f.size Kc) (gA (gA o 0 m) f.size n) d w (qJ++#[x,y]):=by
 have W:=(Õ.1 s).1;have t:=runT_crowd_spawn (sl:=sl) s L;obtain⟨x,u⟩:∃x:Ă,x={g:=0,fn:=g.frame.fn,pos:=g.frame.place,act:=ς f.size}:=⟨_,U⟩;obtain⟨y,v⟩:∃y:Ă,y={g:=f.size,fn:=b.frame.fn,pos:=g.frame.place,act:=į}:=⟨_,U⟩;have e:((Û 0 g.frame.fn g.frame.place #[]).push {g:=0,fn:=g.frame.fn,pos:=g.frame.place,act:=ς f.size}).push {g:=f.size,fn:=b.frame.fn,pos:=g.frame.place,act:=į}=#[x,y]:=by rw[u,v];simp[Û]
 rw[e]at t;have B:x.g=0/\x.act=ς f.size:=by rw[u];exact⟨U,U⟩
 have C:y.g=f.size/\y.act=į:=by rw[v];exact⟨U,U⟩
 have E:((f.setIfInBounds 0 c).push b)[0]?=Ã c:=by grind
 have F:((f.setIfInBounds 0 c).push b)[f.size]?=Ã b:=by grind
 have H:∀k,k≠0->k<f.size->((f.setIfInBounds 0 c).push b)[k]?=f[k]?:=λk Y h2=>by grind
 refine⟨_,x,y,B,C,t,fq,E,F,H,?_,λk z d=> ?_,λj Q=> ?_⟩
 .simp_all
 .have Gt:k<f.size+1:=by have:=(Õ.1 d).1;simpa using this
  by_cases l:k=f.size
  .subst l;rw[F]at d;obtain rfl:=È d;rw[gG,gG,gG,gV,show(f.size==0)=É from beq_eq_false_iff_ne.2 Z];exact⟨b,N,.gf,À O,À U⟩
  .rw[fK _ _ l,fK _ _ l,fK _ _ l,gI _ _ l];by_cases h:k=0
   .subst h;rw[E]at d;obtain rfl:=È d;rw[gG,gG,gG,gV];exact⟨c,hF,.gf,À M,À U⟩
   .rw[H k h Z]at d;rw[fK _ _ h,fK _ _ h,fK _ _ h,gI _ _ h];exact p.C k z d
 .rw[JG<|Yo B.2 C.2];exact p.I j<|by simp at Q;omega
end
section
variable{F:Ph}{E N:fV F}{S:Nat->Jd}{G Q:Nat->gB}{I:Nat->iC}{o:Nat->ff}{f B:Array Ä}{u:ä}{sl:Option (Nat×Nat)}
theorem ah1(ok:F.Ok)(h:i≠n)(c:lW F i a)(d:lW F n a):False:=by
 have q:∀{i n:Nat},i=0->n≠0->lW F i a->lW F n a->False:=by
  intro i n g j c d;unfold lW at c d;rw[if_pos g]at c;rw[if_neg j]at d;let⟨k,o,m,e⟩:=c;let⟨b,l,p,f⟩:=d;rcases e with e|e
  .rw[f]at e;have:F.Y=F.I k:=by injection e
   exact ok.C<|Á ⟨k,m,this⟩
  .rw[f]at e;exact ok.ON b k l o m<|by injection e
 by_cases g:i=0
 .grind
 .by_cases j:n=0
  .grind
  .unfold lW at c d;rw[if_neg g]at c;rw[if_neg j]at d;let⟨b,l,p,f⟩:=c;let⟨m,k,o,e⟩:=d;rw[f]at e;have:=ok.a _ _ l k (by injection e);subst this;omega
theorem ah2(ok:F.Ok)(h:lW F i a):(∃k,k<=F.m/\a=jg F.toFx k)\/∃p,p≠F.f/\a=jo F p:=by
 unfold lW at h;by_cases b:i=0
 .rw[if_pos b]at h;obtain⟨k,d,e,c|c⟩:=h
  .grind
  .exact Á ⟨_,ok.Y.1 k d e,c⟩
 .rw[if_neg b]at h;let⟨k,c,_,d⟩:=h;exact Á ⟨_,ok.Y.2 k c,d⟩
def vA(F:Ph)(j:Nat):fY:=if j<F.n then .iH (j+1)else .iL F.q
def yZ(E:fV F)(j:Nat):fV F:={E with M:=vA F j}
def PI.ah3(H:gS F)(p:PI F j zX E S G I o f w qJ)(hi:f[0]?=Ã g)(iK:g.status=Å)(ht:G 0=.fD)(hx:E.M=.go m): ∃(N:fV F) (c:Nat->Jd) (Q:Nat->gB) (r:Nat->iC) (s:Nat->ff) (B:Array Ä) (W:Ð) (u:ä),Ŏ F.P (ð f w sl) 0=(ğ<|ð B W sl,u)/\B.size=f.size+1/\N.M≠ .gi/\PI F j zX N c Q r s B W (qJ++u):=by
 have gT:=iQ hi;have C:=p.I.r;have L:=p.a;have hL1:=H.C.r;have hn:=H.C.N;have vz:=p.C.C m<|À hx;have oP:E.r=m:=by unfold fV.r;rw[hx];rfl
 have kg:f.size=F.L+m:=by rw[p.b,oP]
 have hJ:=p.sX hi iK ht w<|C.r _ gT;rw[hx]at hJ;obtain⟨hd,g',child,X,Yq,AG,Ds,hX,Bf,ah4,ah5⟩:=H.go m E.I _ g vz hJ<|C.M gT;have hd:=hd;have hX:=hX;have Bf:=Bf;have pz:=(C.f _ gT).trans hd;have Bd:=p.I.I _<|Ç _;have nq:=L.M 0<|À U;obtain⟨m',uh⟩:∃m',m'=vA F m:=⟨_,U⟩;have ui:(m<F.n/\m'=.iH (m+1))\/(m=F.n/\m'=.iL F.q):=by
  rw[uh];unfold vA;by_cases q:m<F.n
  .exact À ⟨q,if_pos q⟩
  .exact Á ⟨Z,if_neg q⟩
 have aui:m'.sp F.n=m+1:=by rcases ui with⟨_,rfl⟩|⟨q,rfl⟩<;>simp only[fY.sp];omega
 have ah6:m'.ad F.n=m+1:=by rcases ui with⟨_,rfl⟩|⟨q,rfl⟩<;>simp only[fY.ad];omega
 have Pp:m'.mF F.q=0:=by rcases ui with⟨_,rfl⟩|⟨q,rfl⟩<;>simp[fY.mF]
 have hmh:m'.jf F.n=0:=by rcases ui with⟨_,rfl⟩|⟨q,rfl⟩<;>rfl
 have hmr:m'.gF=0:=by rcases ui with⟨_,rfl⟩|⟨q,rfl⟩<;>rfl
 have GI:(∀v,m'≠ .fB v)/\m'≠ .gi:=by rcases ui with⟨_,rfl⟩|⟨q,rfl⟩<;>exact⟨λv h=>(by cases h),λh=>(by cases h)⟩
 have hkM:kM m'=.no:=by rcases ui with⟨_,rfl⟩|⟨q,rfl⟩<;>rfl
 obtain⟨l0,mH⟩:∃l0:ff,l0={o 0 with O:=λb=>(o 0).O b/\¬X b/\(1<=m->b≠E.I (m-1)),I:=λb=>X b\/(o 0).I b,r:=λa=>(o 0).r a/\¬lW F m a,w:=w}:=⟨_,U⟩;obtain⟨lc,kx⟩:∃lc:ff,lc={O:=λ_=>False,I:=λb=>X b\/(o 0).I b,r:=lW F m,N:=(o 0).N,K:=(o 0).K,d:=0,q:=False,w:=w}:=⟨_,U⟩;have GJ:iT F.S (λi=>i<f.size) E.Y (gA o 0 l0) w qJ:=by
  rw[mH];refine C.C gT (λ_ q=>q.1) (λb q=>À<|q.elim (λz=>À<|hX b z) Á) (λ_ q=>q.1) (λa q=>À<|Á q) U U U (λb hb q=> ?_) λa J q=>C.g _ gT a J.1 q;rcases q with q|q
  .exact hb.2.1 q
  .exact C.m _ gT b hb.1 q
 have z0:gA o 0 l0 0=l0:=gV _ _ _;have Bg:=L.o m Z vz;have nD:(yZ E m).r=m+1:=by show(vA F m).sp F.n=_;rwa[<-uh]
 have Yr:∀b,(yZ E m).Y b->E.Y b\/(1<=m/\b=E.I (m-1)):=λb hb=>by
  rcases hb with q|q|⟨l,t,D⟩
  .exact À<|À q
  .exact À<|Á<|À q
  .rw[nD]at t;by_cases e:l+1=m
   .exact Á ⟨Z,by rw[D,show l=m-1 by omega];rfl⟩
   .exact À<|Á<|Á ⟨l,Z,D⟩
 have Pq:∀x y:Ă,(x.g=0/\x.act=ς f.size)->(y.g=f.size/\y.act=į)->iT F.S (λi=>i<f.size+1) (yZ E m).Y (gA (gA o 0 l0) f.size lc) w (qJ++#[x,y]):=λx y Kj Kk=>by
  refine GJ.Gc gT Kj Kk pz Bd (by rw[kx];exact λb q=>q) (by rw[z0,kx,mH];exact λb q=>q) (λa J=> ?_) (by rw[z0,kx,mH];exact λb q=>q) (by rw[z0,kx,mH];exact λb q=>q) (λk hk a J q=> ?_) (by rw[kx]) (by rw[kx]) (λb hb=> ?_) λb hb=> ?_
  .have r:lW F m a:=by rwa[kx]at J
   have c:=Bg a r;refine⟨C.e 0 gT a<|À c,λk hk q=> ?_,(C.S 0 gT).I a c⟩;by_cases e:k=0
   .subst e;rw[z0,mH]at q;rcases q with q|q
    .exact q.2 r
    .exact C.g 0 gT a c q
   .rw[gI _ _ e]at q;exact C.h 0 k gT hk (ÿ e) a c q
  .have c:(o k).K a:=by
    by_cases e:k=0
    .subst e;rwa[z0,mH]at J
    .rwa[gI _ _ e]at J
   rw[kx]at q;exact(C.n k hk a c).2 0 gT<|Bg a q
  .rcases hb with q|q|⟨l,t,D⟩
   .exact À q
   .exact Á<|À q
   .exact Á<|Á ⟨l,by rw[nD];omega,D⟩
  .rcases Yr b hb with q|⟨t,rfl⟩
   .exact À q
   .obtain⟨a1,a2,a3,a4⟩:=Bf t;refine Á ⟨C.fw 0 gT _<|À a1,λi lz q=> ?_⟩;by_cases e:i=0
    .subst e;rw[z0,mH]at q;rcases q with q|q|q
     .exact q.2.2 t U
     .exact a2 q
     .exact C.m 0 gT _ a1 q
    .rw[gI _ _ e]at q;exact C.o 0 i gT lz (ÿ e) _ a1 q
 have hWm:fl F.P Ì (JM F E.I m') l0 g':=by
  have r:=GJ.M gT;rw[z0]at r;have s:{l0 with w:=w}=l0:=by rw[mH]
  rw[s]at r;have:=ah5 l0 r (by rw[mH]) (λb q=>by rwa[mH]) (by rw[mH]) (by rwa[mH]) (by rw[mH]) (by rw[mH]) (by rw[mH]) (λa q=>by rw[mH]at q;exact q.1);rw[uh];unfold vA;exact this
 have Pr:∀b,lc.M b->(o 0).M b:=λb hb=>by
  rw[kx]at hb;rcases hb with q|q|q
  .exact q.elim
  .exact À<|hX b q
  .exact Á q
 have Ys:∀a,lc.C a->(o 0).C a:=λa J=>by rw[kx]at J;exact J.elim (λq=>À<|Bg a q) Á
 have Pt:lc.w=w:=by rw[kx]
 have ah7:gD lc:=⟨λb hb=>(by rw[kx]at hb;exact hb.elim),λa J q=>(by rw[kx]at J q;exact C.g 0 gT a (Bg a J) q),λa J hb=>C.I 0 gT _ (Pr _ hb)<|C.e 0 gT a<|Ys a J,λb hb=>(by rw[Pt];exact C.fw 0 gT b<|Pr b hb),λa J=>(by rw[Pt];exact C.N _<|C.e 0 gT a<|Ys a J),λa J=>by
  have c:(o 0).K a:=by rwa[kx]at J
  obtain⟨k1,k2⟩:=C.n 0 gT a c;exact⟨λq=>C.I 0 gT _ (Pr _ q) k1,by rw[Pt];exact C.N _ k1,λq=>by rw[kx]at q;exact k2 0 gT (Bg a q)⟩⟩
 have hWc:=ah4 lc ah7 (λb q=>by rwa[kx]) (by rw[kx]) (by rw[kx]) (by rw[kx];exact λq=>q) (λb=>by rw[kx];exact λq=>q) (by rw[kx]) (by rw[kx]) (λa q=>Bg a<|by rwa[kx]at q);obtain⟨T,hT⟩:=jl hWm;obtain⟨Tc,hTc⟩:=jl hWc;obtain⟨B,x,y,Kj,Kk,q1,q2,q3,q4,q5,q6⟩:=p.I.Gc (Kc:=if m=0 then .no else kW F (E.I<|m-1) (.ny 0)) hi (Ds w) Pq hT Yq hTc AG;have cs:∀i,i<f.size+1->i=f.size\/i=0\/(i≠0/\i<f.size):=λi hi=>by omega
 have es:gA (gA o 0 l0) f.size lc f.size=lc:=gV _ _ _;have e0:gA (gA o 0 l0) f.size lc 0=l0:=by rwa[gI _ _ Z]
 have en:∀i,i≠0->i≠f.size->gA (gA o 0 l0) f.size lc i=o i:=λi t D=>by rw[gI _ _ D,gI _ _ t]
 have xi:=p.C.z;have Ke:=p.C.h m Z;have ah8:∀y,E.ox y->y<m:=λy ⟨e,t,_⟩=>ñ λq=>by rw[p.C.h y Z]at t;cases t
 have Pu:∀i,i<f.size+1->∀a,(gA (gA o 0 l0) f.size lc i).r a->∃k,k<f.size/\(o k).r a:=λi hi a J=>by
  rcases cs i hi with rfl|rfl|⟨t,D⟩
  .rw[es,kx]at J;exact⟨0,gT,Bg a J⟩
  .rw[e0,mH]at J;exact⟨0,gT,J.1⟩
  .rw[en i t Z]at J;exact⟨i,D,J⟩
 refine⟨yZ E m,_,_,_,_,B,w,_,q1,q2,(by show vA F m≠ .gi;rw[<-uh];exact GI.2),.r ⟨?_,λt D=> ?_,λl t D=> ?_,λy e t D=> ?_,λi t D=> ?_⟩ (by rw[q2,nD,kg];omega) q6 ?_ ?_ ?_ ?_ (λk z hk hb=> ?_) λl r2 a1 a2 a3=> ?_⟩
 .have c:(0:Nat)≠f.size:=Z
  rw[fK _ _ c,gG,fK _ _ c,gG];rw[uh];exact⟨U,U⟩
 .by_cases e:m=0
  .have c:f.size=F.L:=Z
   rw[c,gG,gG,if_pos e,if_pos e];show F.h 0=JI F E.c E.S/\_;rw[p.C.J Z];exact⟨U,U⟩
  .rw[fK _ _ Z,fK _ _ Z,fK _ _ Z,fK _ _ Z];exact p.m Z D
 .rw[nD]at t;by_cases e:l+1=m
  .have c:F.L+1+l=f.size:=Z
   rw[c,gG,gG,if_neg Z,if_neg Z];show Dg F (E.I<|m-1) (m-1) 0=JW F (E.I l) l (E.C l)/\_=kW F (E.I l) (E.C l);rw[xi l Z,show m-1=l by omega];exact⟨U,U⟩
  .rw[fK _ _ Z,fK _ _ Z,fK _ _ Z,fK _ _ Z];exact p.g l Z D
 .have s:=ñ λq=>by
   have r:E.N y=Ã e:=D;rw[p.C.h y Z]at r;cases r
  rw[fK _ _ Z,fK _ _ Z,fK _ _ Z,fK _ _ Z,fK _ _ Z,fK _ _ Z];exact p.k y e Z D
 .rw[fK _ _ Z,fK _ _ Z,fK _ _ Z,fK _ _ Z,fK _ _ Z,fK _ _ Z];exact p.l i t D
 .rw[q2];obtain⟨f1,f2⟩:=L.lT Z;refine⟨λi lz a J=> ?_,λy t D a J=> ?_,λ_=> ?_,λ_ k t D=> ?_,λ_ D=> ?_,λl t D r h3 h4=> ?_,λl t D=> ?_,λy s=> ?_,λi lz=> ?_,λi t D=> ?_,λk hk b hb=> ?_,λk hk i lz q=> ?_,λk t D i lz q=> ?_,λl t r D h3 i lz q=> ?_⟩
  .rcases cs i lz with rfl|rfl|⟨t,D⟩
   .rw[es,kx]at J;rcases J with q|q
    .exact ah2 H.C q
    .exact L.gU 0 gT a<|Á q
   .rw[e0,mH]at J;rcases J with q|q
    .exact L.gU 0 gT a<|À q.1
    .exact L.gU 0 gT a<|Á q
   .rw[en i t Z]at J;exact L.gU i D a J
  .rw[nD]at t;rw[e0,mH];exact⟨L.o y Z D a J,λq=>ah1 H.C Z q J⟩
  .rw[e0,mH];exact⟨f1,λb hb=>Á<|f2 b hb⟩
  .have A7:=t;by_cases e:m=0
   .have c:F.L=f.size:=Z
    rw[c,es,kx];exact⟨by show lW F m _;unfold lW;rw[if_pos e];exact⟨k,Z,D,À U⟩,by show lW F m _;unfold lW;rw[if_pos e];exact⟨k,Z,D,Á U⟩⟩
   .rw[en F.L Z Z];exact L.e Z k A7 D
  .by_cases e:m=0
   .have c:F.L=f.size:=Z
    rw[c,es,kx];show(o 0).N (jg F.toFx E.S.md)/\∀b,E.V E.S.md b->X b\/(o 0).I b;rw[p.C.J Z];show(o 0).N (jg F.toFx 0)/\∀b,E.V 0 b->X b\/(o 0).I b;rw[p.C.v];exact⟨f1,λb hb=>Á<|f2 b hb⟩
   .rw[en F.L Z Z];exact L.f Z D
  .rw[nD]at t;by_cases e:l+1=m
   .have c:F.L+1+l=f.size:=Z
    rw[c,es,kx];show lW F m _;unfold lW;rw[if_neg Z];exact⟨_,h3,by rw[ē,ļ Z];omega,U⟩
   .rw[en _ Z Z];exact L.h l Z D r h3 h4
  .rw[nD]at t;by_cases e:l+1=m
   .have c:F.L+1+l=f.size:=Z
    rw[c,es,kx];exact⟨f1,λb hb=>Á<|f2 b hb⟩
   .rw[en _ Z Z];exact L.l l Z D
  .have:=ah8 y s;rw[en _ Z Z];exact L.S y s
  .rcases lz with rfl|⟨y,t,rfl,h3⟩
   .rwa[e0,mH]
   .rw[nD]at t;by_cases e:y=m
    .subst e;rw[<-kg,es,kx];exact λq=>q
    .rw[en _ Z Z];exact L.M _<|Á ⟨y,Z,U,h3⟩
  .rw[en i Z Z];exact L.c i t D
  .obtain⟨b1,b2,c⟩:=L.I k hk b hb;refine⟨b1,λq=> ?_,λi lz q=> ?_⟩
   .rcases Yr b q with q|⟨t,rfl⟩
    .exact b2 q
    .exact c 0 gT (Bf t).1
   .rcases cs i lz with rfl|rfl|⟨t,D⟩
    .rwa[es,kx]at q
    .rw[e0,mH]at q;exact c 0 gT q.1
    .rw[en i t Z]at q;exact c i D q
  .obtain⟨c,a1,a2⟩:=Pu i lz _ q;exact L.N k hk c a1 a2
  .obtain⟨c,a1,a2⟩:=Pu i lz _ q;exact L.g k t D c a1 a2
  .rw[nD]at t;have oS:r<(E.C l).kF:=h3;obtain⟨c,a1,a2⟩:=Pu i lz _ q;by_cases e:l+1=m
   .rw[xi l Z]at oS;simp only[gO.kF]at oS;omega
   .exact L.d l Z r D oS c a1 a2
 .have c:=p.M;refine⟨c.C,c.I,λl t=> ?_,c.M,c.S,λl t r D h3=> ?_⟩
  .rw[nD]at t;show∃buf s,w.heap[E.I l]?=Ã (.chan F.q buf (decide<|l<(vA F m).jf F.n) s (E.C l).iO É)/\tU F.n l ((vA F m).mF F.q) s/\(E.C l).iO<=s/\buf.size=s-(E.C l).iO/\∀i,i<s-(E.C l).iO->buf[i]?=Ã (F.c<|l+((E.C l).iO+i)*F.n);rw[<-uh,hmh,Pp];by_cases e:l+1=m
   .rw[xi l Z];obtain⟨a1,a2,a3,a4⟩:=Bf Z;rw[show m-1=l by omega]at a3;refine⟨#[],0,by rw[a3];rfl,λi=>⟨λq=>by omega,λq=>by omega⟩,Ç _,U,λi lz=> ?_⟩;simp only[gO.iO]at lz;omega
   .have:=c.jG l Z;rwa[hx]at this
  .rw[nD]at t;have oS:r<(E.C l).kF:=h3;by_cases e:l+1=m
   .rw[xi l Z]at oS;simp only[gO.kF]at oS;omega
   .exact c.N l Z r D oS
 .have h:=p.C;have eo:(yZ E m).G=E.G:=by
   funext y;have t:(yZ E m).M.ad F.n=E.M.ad F.n:=by show(vA F m).ad F.n=_;rw[<-uh,ah6,hx];rfl
   unfold fV.G;rw[t];rfl
  have Pv:(yZ E m).M.gF=E.M.gF:=by show(vA F m).gF=_;rw[<-uh,hmr,hx];rfl
  have emp:(yZ E m).M=m':=uh.symm;refine⟨h.v,λl q=> ?_,λl q=> ?_,λr=>⟨λq=> ?_,λq=> ?_⟩,λq=>by omega,h.I,λl q=>h.z l Z,λl r uj p9=> ?_,λl uj p9=> ?_,h.f,λy q=>h.h y Z,λl j3 uj p9 q3'=> ?_,λl q=> ?_,λc reg hc=> ?_,λreg hc=> ?_,λr s hc=> ?_,h.N,λq=> ?_,h.e,h.Y,λl r uj p9=> ?_,λl r uj p9=> ?_,λq=> ?_,λ_ _=>h.S (λv q=>by rw[hx]at q;cases q) (λq=>by rw[hx]at q;cases q),h.y,λl r uj p9=> ?_⟩
  .rw[emp]at q;rcases ui with⟨_,rfl⟩|⟨_,rfl⟩<;>rcases q with q|q|q|q<;>cases q;omega
  .rw[emp]at q;rcases ui with⟨_,rfl⟩|⟨_,rfl⟩<;>rcases q with q|q|q<;>cases q;omega
  .rw[emp]at q;rcases ui with⟨_,rfl⟩|⟨_,rfl⟩<;>cases q;exact Ç _
  .rw[emp]at q;rcases ui with⟨_,rfl⟩|⟨_,rfl⟩<;>cases q
  .rw[nD]at uj;by_cases e:l+1=m
   .have oT:(∃p,E.C l=.fB r p)\/E.C l=.jN r\/E.C l=.oO r:=p9;rw[xi l Z]at oT;rcases oT with⟨_,q⟩|q|q<;>cases q
   .exact h.d l r Z p9
  .rw[nD]at uj;have oT:E.N (l+1)≠Í:=p9;have:l+1<m:=ñ λq=>oT<|h.h _ Z;obtain⟨a,_⟩:=h.l l Z oT;rw[hx]at a;simp only[fY.jf]at a;omega
  .rw[nD]at uj p9;have Px:E.I l=E.I j3:=q3';have key:∀a b,a+1=m->b+2<=E.r->E.I a=E.I b->False:=λa b J hb he=>by
    have t:=(Bf Z).1;rw[show m-1=a by omega,he]at t;exact C.I 0 gT _ (À t)<|Á<|Á ⟨b,hb,U⟩
   by_cases e:l+1=m
   .by_cases e':j3+1=m
    .omega
    .exact(key l j3 e Z Px).elim
   .by_cases e':j3+1=m
    .exact(key j3 l e' Z Px.symm).elim
    .exact h.M l j3 Z Z Px
  .rw[nD]at q;show¬F.M (E.I l)/\E.I l≠F.Y/\F.S<=E.I l;by_cases e:l+1=m
   .obtain⟨a1,_,_,a4⟩:=Bf Z;rw[show m-1=l by omega]at a1 a4;have Yt:=C.I 0 gT _<|À a1;exact⟨λq=>Yt<|À q,λq=>Yt<|Á<|À q,a4⟩
   .exact h.o l Z
  .rw[eo,Pv];exact h.t c reg hc
  .rw[eo,Pv];obtain⟨a1,a2,y,a3,a4⟩:=h.g reg hc;exact⟨a1,a2,y,Z,a4⟩
  .rw[eo,Pv];obtain⟨a1,a2,a3⟩:=h.u r s hc;refine⟨a1,a2,λhr=> ?_⟩;obtain⟨y,b1,b2⟩:=a3 hr;exact⟨y,Z,b2⟩
  .rw[emp]at q;rcases q with q|q|q
   .exact absurd q<|GI.1 _
   .exact absurd q<|GI.1 _
   .exact absurd q GI.2
  .rw[nD]at uj;by_cases e:l+1=m
   .have oT:E.C l=.fB r .gC\/E.C l=.fB r .lk\/E.C l=.jN r:=p9;rw[xi l Z]at oT;rcases oT with q|q|q<;>cases q
   .exact h.w l r Z p9
  .rw[nD]at uj;by_cases e:l+1=m
   .have oT:E.C l=.fB r .gC:=p9;rw[xi l Z]at oT;cases oT
   .exact h.H l r Z p9
  .rw[emp]at q;exact absurd q<|GI.1 _
  .rw[nD]at uj;by_cases e:l+1=m
   .have oT:E.C l=.fB r .wr:=p9;rw[xi l Z]at oT;cases oT
   .exact h.D l r Z p9
 .rw[nD];have c:=p.d;rw[oP]at c;rw[kg]at Kj Kk Bd;exact c.Gc Kj Kk pz Bd (λ⟨e,t,_⟩=>by rw[Ke]at t;cases t) λy ⟨e,t,_⟩=>ñ λq=>by rw[p.C.h y Z]at t;cases t
 .have r:=iQ hk;rcases cs k Z with rfl|rfl|⟨k1,k2⟩
  .rw[q4]at hk;obtain rfl:=È hk;rw[AG]at hb;cases hb
  .rw[q3]at hk;obtain rfl:=È hk;rw[Yq]at hb;cases hb
  .rw[q5 k k1 k2]at hk;rcases p.c k z hk hb with⟨t,_⟩|⟨l,s,c,D,h3⟩
   .exact absurd t k1
   .exact Á ⟨l,Z,c,D,h3⟩
 .rw[nD]at a1;by_cases e:l+1=m
  .have oT:E.C l=.jN r2:=a2;rw[xi l Z]at oT;cases oT
  .exact(p.f l r2 Z a2 a3).app _
end
section
variable{F:Ph}{E E':fV F}{S:Nat->Jd}{tr o:Nat->gB}{m:Nat->iC}{lot:Nat->ff}{gs gs':Array Ä}{w':Ð}{t u:ä}{sl:Option (Nat×Nat)}{sz:Nat}
def PI.at(H:gS F)(p:PI F i zX E S tr m lot gs w t)(d:Nat):PI F i zX E S tr m lot gs (w.at d) t:= ⟨p.b,p.I.at d,p.h,p.m,p.g,p.k,p.l,p.a.Dt<|Ç _,⟨⟨p.M.C.C,p.M.C.M,p.M.C.I,p.M.C.N,p.M.C.r⟩,λk a=>⟨(p.M.I k a).C,(p.M.I k a).M,(p.M.I k a).I,(p.M.I k a).N,(p.M.I k a).r⟩,p.M.jG,λk a=>⟨(p.M.M k a).1,H.S _ _ _ _ _ (p.M.M k a).2 (λ_ _=>rfl) U U U ⟨U,U⟩⟩,p.M.S,p.M.N⟩,p.C,p.d,p.c,p.f⟩
def Go1(F:Ph)(i:Nat)(zX:π->Prop)(gs:Array Ä)(w:Ð)(t:ä)(sl:Option (Nat×Nat))(a:Nat):Prop:=
 ∃(E':fV F) (b:Nat->Jd) (o:Nat->gB) (c:Nat->iC) (d:Nat->ff) (gs':Array Ä) (w':Ð) (u:ä),Ŏ F.P (ð gs w sl) a=(ğ<|ð gs' w' sl,u)/\gs'.size=gs.size+1/\E'.M≠ .gi/\PI F i zX E' b o c d gs' w' (t++u)
def ah9(F:Ph)(i:Nat)(zX:π->Prop)(gs:Array Ä)(w:Ð)(t:ä)(sl:Option (Nat×Nat))(a:Nat):Prop:=
 ∃(E':fV F) (b:Nat->Jd) (o:Nat->gB) (c:Nat->iC) (d:Nat->ff) (gs':Array Ä) (w':Ð) (u:ä),Ŏ F.P (ð gs w sl) a=(ğ<|ð gs' w' sl,u)/\gs'.size=gs.size/\PI F i zX E' b o c d gs' w' (t++u)/\E'.M=.gi/\Ki F zX (t++u)
def PI.aia(H:gS F)(p:PI F i zX E S tr m lot gs w t)(l:E.M≠ .gi)(a:gs[n]?=Ã g)(c:g.status=Å):kh F i zX E tr gs w t sl n\/rG F i zX E tr gs w t\/Go1 F i zX gs w t sl n\/ah9 F i zX gs w t sl n:=by
 have z:=iQ a;have B:=p.b;cases b:tr n with
 |jP k=>
  obtain⟨gs',w',u,o,e,d,f,j,q⟩:=p.ft H a b;exact À ⟨E,S,o,m,e,gs',w',u,d,f,λh=>h,j,q⟩
 |fD=>
  by_cases s:n=0
  .subst s;cases h:E.M with
   |go j=>exact Á<|Á<|À<|p.ah3 H a c b h
   |lG j=>exact Á<|À<|p.ahG H a c b h
   |rd j=>exact À<|p.ahH H a c b h
   |iH j=>exact À<|p.ahJ H a c b h
   |iL r=>cases r with
    |zero=>exact Á<|À<|p.ahK H a c b h
    |succ r=>exact À<|p.ahV H a c b h
   |kY r=>cases r with
    |zero=>exact Á<|À<|p.ahL H a c b h
    |succ r=>exact À<|p.ahX H a b h
   |fB v=>cases v with
    |iZ=>exact Á<|À<|p.ahM H a c b h
    |mf q=>exact À<|p.ahN H a c b h
    |wr=>exact À<|p.ahO H a c b h
    |kD=>exact À<|p.ahQ H a c b h
    |gC=>exact À<|p.ahP H a c b h
    |lk=>exact Á<|Á<|Á<|p.ahZ H a c b h
   |gi=>exact absurd h l
  by_cases y:n<F.L
  .exact À<|p.ahE H Z y a c
  obtain⟨x,rfl⟩:∃x,n=F.L+x:=⟨n-F.L,Z⟩;have f:x<E.r:=Z
  cases d:E.N x with
  |some e=>cases e with
   |oQ=>exact Á<|À<|p.ahi H f d a c b
   |gi v=>cases v with
    |jD=>exact À<|p.ahl H f d a c b
    |iH=>exact À<|p.ahp H f d a c b
    |gC W=>exact À<|p.ahq H f d a c b
    |jd W=>exact À<|p.ahr H f d a c b
    |iD r=>exact À<|p.ahs H f d a c b
   |jr N=>exact À<|p.ahD H f d a c
  |none=>cases x with
   |zero=>
    rw[ó]at a b|-;cases h:E.S with
    |kP k=>exact Á<|À<|p.ahu H f d a c b h
    |mk k=>exact Á<|À<|p.ahx H f d a c b h
    |dn k v=>cases v with
     |jD=>exact À<|p.ahy H f d a c b h
     |iH=>exact À<|p.ahz H f d a c b h
     |gC W=>exact À<|p.ahA H f d a c b h
     |jd W=>exact À<|p.ahB H f d a c b h
     |iD r=>exact À<|p.ahC H f d a c b h
   |succ j=>
    rw[show F.L+(j+1)=F.L+1+j by omega]at a b|-;have e:j+2<=E.r:=Z
    cases h:E.C j with
    |ny r=>exact À<|p.ahg H e d a c b h
    |fB r v=>cases v with
     |iZ=>exact Á<|À<|p.agZ H e d a c b h
     |mf q=>exact À<|p.ag0 H e d a c b h
     |wr=>exact À<|p.ag2 H e d a c b h
     |kD=>exact À<|p.ag5 H e d a c b h
     |gC=>exact À<|p.ag3 H e d a c b h
     |lk=>exact À<|p.ag4 H e d a c b h
    |jN r=>exact Á<|À<|p.ag7 H e d a c b h
    |oO r=>exact Á<|À<|p.ag8 H e d a c b h
def aib{J:Jd}{T:gB}{l:ff}(a:∀l g,J l g->g.status=Å)(h:lj P yQ J T l g):g.status=Å:=by
 cases T with
 |fD=>exact a _ _<|h _<|fJ.fX _ _
 |jP k=>exact h.1
def gM.Y{Y:Nat->Prop}(c:gM P n Y S tr m lot gs w t)(d:gs[i]?=Ã g)(e:∀l g,S i l g->g.status=Å)(a:g.status≠Ü):g.status=Å:=by
 let⟨g0,f,b,_,_⟩:=c.C i g d;generalize m i=K at b;cases b with
 |gf=>exact aib e f
 |nY _ _=>exact absurd U a
 |tS _ _ _=>exact absurd U a
 |nu _ _ _=>rfl
def Yu{J:Jd}{p:jF}(a:∀r,p=.iD r->0<r){l:ff}(h:De P yQ b J p l g):g.status=Å:=by
 cases p with
 |jD=>exact h.2.1
 |iH=>exact h.2.1
 |gC W=>exact h.2.1
 |jd W=>exact h.2.1
 |iD r=>cases r with
  |zero=>exact absurd (a 0 U) Z
  |succ r=>exact h.2.1
def Py{J:Jd}{p:ju}{l:ff}(h:qL P yQ i b J p l g):g.status=Å:=by
 cases p with
 |iZ=>let⟨k,_,_,T,a,c⟩:=h;exact(c _ _ a).1
 |mf p=>let⟨_,T,a,c⟩:=h;exact(c _ _ a).1
 |wr=>exact h.2.1
 |kD=>exact h.2.1
 |gC=>exact h.2.1
 |lk=>exact h.2.1
def Yv{l:ff}(h:AP F D i l g):g.status=Å:=by
 cases i with
 |zero=>exact Py h
 |succ i=>exact h.1
def aic(H:gS F){x:fY}{l:ff}(h:JM F D x l g):g.status=Å:=by
 cases x with
 |go j=>exact H.I _ _ _ _ h
 |lG j=>let⟨c,h⟩:=h;exact H.I _ _ _ _ h
 |rd j=>exact h.2.1
 |iH j=>exact h.2.1
 |iL r=>cases r with
  |zero=>exact Yv h
  |succ r=>exact h.1
 |kY r=>exact Yv h
 |fB v=>exact Py h
 |gi=>exact H.M _ _ _ h
def PI.Aq(p:PI F i zX E S tr m lot gs w t){x:Nat}(a:x<E.r):∃g,gs[F.L+x]?=Ã g:=by have:=p.b;simp_all
def PI.GK(H:gS F)(p:PI F i zX E S tr m lot gs w t)(d:0<E.r)(e:E.N 0=Í):∃(a:Nat) (g:Ä),gs[a]?=Ã g/\g.status=Å:=by
 have n:=H.C.r;let⟨g,c⟩:=p.Aq d;rw[ó]at c;refine⟨F.L,g,c,p.I.Y c (λl g h=> ?_) λl=> ?_⟩
 .rw[(p.m d e).1]at h;cases j:E.S with
  |kP k=>rw[j]at h;exact H.N _ _ _ h
  |mk k=>rw[j]at h;let⟨a,V,_,_,_,_,h⟩:=h;exact h.2.1
  |dn k v=>
   rw[j]at h;refine Yu (λr V=> ?_) h;subst V;let⟨_,_,r⟩:=p.C.I k;let⟨a,b⟩:=r _ j;rcases p.C.Y k b (by rw[j];exact Ç _)with⟨W,q|q,_⟩|⟨o,s,q,f,_⟩|⟨q,_⟩
   .rw[j]at q;cases q
   .rw[j]at q;cases q
   .rw[j]at q;cases q;exact f
   .exact absurd j<|q _
 .rcases p.c _ g c l with⟨q,_⟩|⟨j,_,_,q,_⟩<;>omega
theorem PI.Kl(H:gS F)(p:PI F i zX E S tr m lot gs w t){x:Nat}{e:im}(b:x<E.r)(c:E.N x=Ã e)(d:∀N,e≠ .jr N):∃(h:Nat) (g:Ä),gs[h]?=Ã g/\g.status=Å:=by
 have f:=H.C.r;let⟨g,a⟩:=p.Aq b;refine⟨F.L+x,g,a,p.I.Y a (λl g h=> ?_) λl=> ?_⟩
 .rw[(p.k x e b c).1]at h;cases e with
  |oQ=>exact h.2.1
  |gi v=>exact Yu (λr j=>by subst j;exact((p.C.N x _ c).2 r U).1) h
  |jr N=>exact absurd U<|d N
 .rcases p.c _ g a l with⟨q,_⟩|⟨j,_,h,q,_⟩;all_goals grind
def Yw{f:Nat->Nat}:∀{n:Nat},0<Ñ n f->∃i,i<n/\0<f i
 |0,h=>absurd h<|Nat.lt_irrefl _
 |n+1,h=>by
  simp only[Ñ]at h;by_cases q:0<f n
  .exact⟨n,Z,q⟩
  .let⟨i,b,a⟩:=Yw (f:=f) (n:=n) Z;exact⟨i,Z,a⟩
theorem PI.aie(H:gS F)(p:PI F i zX E S tr m lot gs w t):∃(l:Nat) (g:Ä),gs[l]?=Ã g/\g.status=Å:=by
 have hL:=H.C.r;have kg:=p.b;obtain⟨g,D⟩:∃g,gs[0]?=Ã g:=⟨_,é Z⟩;by_cases P:g.status=Ü
 .rcases p.c 0 g D P with⟨_,u,Q⟩|⟨j,_,_,q,_⟩
  .have oP:E.r=F.n+1:=by unfold fV.r;rw[u];rfl
   have had:E.M.ad F.n=F.n+1:=by rw[u];rfl
   have Pz:E.M.gF=1:=by rw[u];rfl
   have T:=p.M.C.r;cases o:E.b with
   |cl c G=>
    let⟨h1,h2⟩:=p.C.t c G o;rw[o]at T;let⟨_,_,V⟩:=T;have X:0<c:=by grind
    rw[h1]at X;let⟨x,d,y⟩:=Yw X;unfold fV.G at y;rw[had,if_pos d]at y;cases z:E.N x with
    |some e=>
     rw[z]at y;exact p.Kl H Z z λN q=>by subst q;simp[mg,im.kQ]at y
    |none=>cases x with
     |zero=>exact p.GK H Z z
     |succ j=>
      let⟨I,B⟩:=p.Aq (x:=j+1) Z;rw[show F.L+(j+1)=F.L+1+j by omega]at B;have J:j+2<=E.r:=Z
      by_cases Y:I.status=Ü
      .rcases p.c _ I B Y with⟨q,_⟩|⟨a,_,_,q,⟨r,b,C⟩|⟨r,cap,s,r',b,C⟩⟩
       .omega
       .have:a=j:=Z
        subst this;have X4:=H.C.I _<|p.C.d a r J<|À ⟨_,b⟩;have XL:1<=Ñ F.n λl=>(E.C l).gF F l (F.r<|a+r*F.n):=by
         have:=OQ (f:=λl=>(E.C l).gF F l<|F.r<|a+r*F.n) (j:=a) (n:=F.n) Z;simp only[b]at this;have h:gO.gF F a (F.r<|a+r*F.n) (.fB r .kD)=1:=by simp only[gO.gF,if_true];rfl
         grind
        by_cases K:F.r (a+r*F.n)<=E.S.od
        .have M:∀k v,E.S=.dn k v->E.N 0=Í:=λk v h=>by
          cases O:E.N 0 with
          |none=>rfl
          |some e=>have:=p.C.f (by rw[O];simp);rw[this]at h;cases h
         rcases p.C.Y _ X4 K with⟨W,q|q,_⟩|⟨r',s,q,_⟩|⟨_,⟨_,q⟩|⟨s,q1,q2⟩⟩
         .exact p.GK H Z<|M _ _ q
         .exact p.GK H Z<|M _ _ q
         .exact p.GK H Z<|M _ _ q
         .omega
         .rw[q1]at C;simp only[GS.sm]at C;omega
        .apply p.GK H Z;cases O:E.N 0 with
         |none=>rfl
         |some e=>
          have:=p.C.f (by rw[O];simp);rw[this]at K;simp only[jx.od]at K;omega
       .have:a=j:=Z
        subst this;let⟨e,k,l,_⟩:=p.M.jG a J;rw[C,u]at l;injection l with l;injection l with _ _ Dn _ _ _;have:decide (a<(fY.fB .kD).jf F.n)=Ì:=decide_eq_true (by simp only[fY.jf];omega);rw[this]at Dn;cases Dn
      .refine⟨_,I,B,p.I.Y B (λl g h=> ?_) Y⟩;rw[(p.g j J z).1]at h;cases a:E.C j with
       |ny r=>rw[a]at h;exact h.1
       |fB r v=>rw[a]at h;exact Py h
       |jN r=>rw[a]at h;exact H.Y _ _ _ _ h
       |oO r=>rw[a]at h;exact h.2.1
   |jE G=>
    let⟨_,_,x,d,_,b⟩:=p.C.g G o;rcases b with b|b
    .exact p.Kl H d b λN q=>by cases q
    .exact p.Kl H d b λN q=>by cases q
   |gY r s=>
    let⟨_,h2,V⟩:=p.C.u r s o;rw[o]at Q;simp only[GS.sm]at Q;let⟨x,d,_,b⟩:=V Z;exact p.Kl H d b λN q=>by cases q
  .omega
 .refine⟨0,g,D,p.I.Y D (λl g h=> ?_) P⟩;rw[p.h.1]at h;exact aic H h
def PI.Km(p:PI F i zX E S tr m lot gs w t):∀g∈gs,awake g:=by
 intro g e;obtain⟨a,f,rfl⟩:=Array.mem_iff_getElem.1 e;let⟨g0,_,c,d,_⟩:=p.I.C a _<|é f;intro τ b;generalize gs[a]=g at c b;generalize m a=K at c;cases c with
 |gf=>rw[b]at d;rcases d with q|q<;>cases q
 |nY _ _=>cases b
 |tS _ _ _=>cases b
 |nu _ _ _=>cases b
def aif(H:gS F):∀(k:Nat) (μ:Mu) (E:fV F) (S:Nat->Jd) (tr:Nat->gB) (m:Nat->iC) (lot:Nat->ff) (gs:Array Ä) (w:Ð) (sl:Option (Nat×Nat)) (t:ä),F.n+1-E.r=k->E.mu tr gs=μ->PI F i zX E S tr m lot gs w t->E.M≠ .gi-> ∃(N:Nat) (E':fV F) (b:Nat->Jd) (o:Nat->gB) (c:Nat->iC) (d:Nat->ff) (gs':Array Ä) (w':Ð) (r:Option (Nat×Nat)) (a:ä),Χ F.P N (ð gs w sl) t=(ğ<|ð gs' w' r,a)/\PI F i zX E' b o c d gs' w' a/\E'.M=.gi/\Ki F zX a:=by
 intro k
 induction k using Ď with
 |_ k ihk=>
  intro μ
  induction (agK F.N).apply μ with
  |intro μ _ V=>
   intro E S tr m lot gs w sl t hk W p z;let⟨a,g,d,r,hi,iK,B⟩:=crowd_pick (P:=F.P) (w:=w) (sl:=sl) p.Km<|p.aie H;have p':=p.at H d;have kg:=p.b;rcases p'.aia H (sl:=r) z hi iK with⟨c,e,f,h,j,s,v,u,x,X,l,b,y⟩|⟨c,e,f,h,j,l,b,y⟩|⟨c,e,f,h,j,s,v,u,x,X,l,b⟩|⟨c,e,f,h,j,s,v,u,x,X,l,b,y⟩
   .have Y:=b.b;let⟨N,C,D,G,I,J,K,L,M,O,Q,T⟩:=V _ (W▸y) c e f h j s v r (t++u) Z U b λq=>z<|l q;exact⟨N+1,C,D,G,I,J,K,L,M,O,by simp only[Χ,B,x];exact Q,T⟩
   .have Y:=b.b;have h6:=b.at H w.drawn;exact V _ (W▸y) c e f h j gs w sl t Z U h6 λq=>z<|l q
   .have Y:=b.b;have q:=Dj b.C;let⟨N,C,D,G,I,J,K,L,M,O,Q,T⟩:=ihk (F.n+1-c.r) Z _ c e f h j s v r (t++u) U U b l;exact⟨N+1,C,D,G,I,J,K,L,M,O,by simp only[Χ,B,x];exact Q,T⟩
   .exact⟨1,c,e,f,h,j,s,v,r,t++u,by simp only[Χ,B,x],l,b,y⟩
end
end Go.Proofs.Y.fy
namespace Go.Proofs.Y.fy
open Go Go.Conc Go.Proofs.Y.Lift Go.RowKit Go.Conc.Lib Go.ConcR.Gen
section
variable{J:Jd}{l:ff}
def PE(w:Ð)(b:∀j,l.O j->j<w.heap.size):mE l {l with w:=w} w w #[]:= ⟨Ç _,λ_ h=>À h,b,U,U,U,U,λ_ _ _ _=>rfl,λ_ _ _ _=>rfl,λ_ _ _=>rfl,U,U,U,λe a=>by simp at a,by simp[Ï],U,λ_=>⟨U,λe a=>by simp at a,U⟩,U⟩
def mI(a:∀j,l.O j->j<l.w.heap.size){w₁:Ð}(r:fJ l l.w w₁):∀j,l.O j->j<w₁.heap.size:=λj b=>Ê (a j b) r.r
def PF{R:Ð->Ð->Prop}{m:Ä->Ð->Prop}:∀{n:Nat} {g:Ä} {l:ff},İ P yQ R à m n g l.w->(∀w c,fJ l w c->R w c)->(∀j,l.O j->j<l.w.heap.size)->(∀c d,fJ l l.w c->m d c->fl P yQ J {l with w:=c} d)->fl P yQ J l g:=by
 intro n
 induction n with
 |zero=>
  intro g l h j i e;exact(fl.fD λc r=>e c g r<|h c<|j _ _ r).fh
 |succ n p=>
  intro g l h j i e;rcases h with h|⟨s,h⟩
  .exact(fl.fD λc r=>e c g r<|h c<|j _ _ r).fh
  .refine .mk s λc r=> ?_;have f:=h c<|j _ _ r;cases o:è P yQ g c with
   |go d k y=>
    rw[o,ť]at f;let⟨⟨t,u⟩,v⟩:=f;subst t u;exact⟨d,k,#[],{l with w:=k},U,PE k<|mI i r,p v (λa b q=>j a b<|yV q) (mI i r) λa b q x=>e a b (r.fh<|yV q) x⟩
   |_=>rw[o]at f;exact f.elim
def aii{m:Ο}(b:m=ô\/m=î)(w:Ð)(c:∀j,l.O j->j<w.heap.size):mE l {l with d:=Ï l.d #[j0 m],w:=w} w w #[j0 m]:=by
 refine⟨Ç _,λ_ h=>À h,c,U,U,U,U,λ_ _ _ _=>rfl,λ_ _ _ _=>rfl,λ_ _ _=>rfl,U,U,U,λe a=> ?_,U,U,λ_=>⟨U,λe a=> ?_,U⟩,U⟩
 .have:e=j0 m:=by simpa using a
  subst this;rcases b with rfl|rfl
  .exact Á<|Á<|Á<|À U
  .exact Á<|Á<|Á<|Á<|À U
 .have:e=j0 m:=by simpa using a
  subst this;rcases b with rfl|rfl<;>rfl
def fl.aij{m:Ο}{b:Ä}(c:m=ô\/m=î)(e:g.status=Å)(f:∀j,l.O j->j<l.w.heap.size)(h:∀a,è P yQ g a=Š b a #[j0 m])(i:∀a,fJ l l.w a->fl P yQ J {l with d:=Ï l.d #[j0 m],w:=a} b):fl P yQ J l g:= .mk e λa r=>⟨b,a,_,_,h a,aii c a<|mI f r,i a r⟩
def nF(b:Nat)(w:Ð):Prop:=(w.cell? ⟨b,0,Í⟩).isSome=Ì/\(w.cell? ⟨b,1,Í⟩).isSome=Ì
def nF.r(h:nF b w):∃v,w.cell? ⟨b,0,Í⟩=Ã v:=ü.1 h.1
def nF.C(h:nF b w):∃v,w.cell? ⟨b,1,Í⟩=Ã v:=ü.1 h.2
def RS(Ψ:Ð->Prop)(b:Nat)(w a:Ð):Prop:=w.heap.size<=a.heap.size/\(nF b w->nF b a)/\(Ψ w->Ψ a)
def SW(Ψ:Ð->Prop)(l:ff)(b:Nat)(w:Ð):Prop:=(∀j,l.O j->j<w.heap.size)/\nF b w/\Ψ w
def fL{Ψ:Ð->Prop}(h:SW Ψ l b w)(r:RS Ψ b w u):SW Ψ l b u:=⟨λj a=>Ê (h.1 j a) r.1,r.2.1 h.2.1,r.2.2 h.2.2⟩
def mh(Ψ:Ð->Prop)(l:ff)(b:Nat):Prop:=(l.K ⟨b,0,Í⟩\/l.M b)/\(l.K ⟨b,1,Í⟩\/l.M b)/\∀w c:Ð,w.heap.size<=c.heap.size->(∀j,l.M j->c.heap[j]?=w.heap[j]?)->(∀a,l.C a->c.cell? a=w.cell? a)->(∀a,l.C a->c.frozen? a=w.frozen? a)->(∀a,l.K a->(w.cell? a).isSome=Ì->(c.cell? a).isSome=Ì)->Ψ w->Ψ c
def mh.r{Ψ:Ð->Prop}(h:mh Ψ l b)(r:fJ l w u):RS Ψ b w u:=⟨r.r,λq=>⟨h.1.elim (λk=>r.S _ k q.1) λm=>(by rw[gN<|r.I b m];exact q.1),h.2.1.elim (λk=>r.S _ k q.2) λm=>(by rw[gN<|r.I b m];exact q.2)⟩,h.2.2 w u r.r r.I r.N r.Y r.S⟩
def jI{Ψ:Ð->Prop}(a:mh Ψ l b)(hF:SW Ψ l b l.w)(c:İ P yQ (RS Ψ b) à (λd e=>fl P yQ J {l with w:=e} d) n g l.w):fl P yQ J l g:= PF c (λ_ _ r=>a.r r) hF.1 λ_ _ _ h=>h
def nZ{Ψ:Ð->Prop}(c:mh Ψ l b)(hF:SW Ψ l b l.w)(h:∀a,SW Ψ l b a->J {l with w:=a} g):fl P yQ J l g:=.fD λa r=>h a<|fL hF<|c.r r
def vB{Ψ:Ð->Prop}(e:mh Ψ l b)(hF:SW Ψ l b l.w){m:Ο}{c:Ä}(f:m=ô\/m=î)(i:g.status=Å)(h:∀a,è P yQ g a=Š c a #[j0 m])(j:∀a,SW Ψ l b a->fl P yQ J {l with d:=Ï l.d #[j0 m],w:=a} c):fl P yQ J l g:= .aij f i hF.1 h λa r=>j a<|fL hF<|e.r r
end
section
variable{b:ø}{i:List Ů}
def Kn(m:Ο)(c:∀g,m≠.extern g)(d:y.defers=dcall F #[]::i)(e:P.funcs[F]?=Ã s)(f:(s.name== "runtime.NumGoroutine")=É)(j:s.body.isNone=Ì)(k:Extern.findNext s=Í) (l:Extern.find s=Ã λ_=>do mark m;pure Extern.Race.none_) (w:Ð):è P yQ (G {b.at y L with mode:=ù} qX) w=Š (G {b.at ⟨y.tmps,i⟩ L with mode:=ù} qX) w #[j0 m]:= stepG_unwind_entry (v:=ı #[]) d e f j k l (by simp[Extern.Race.none_,j0]) (by simp[j0])<|by intro x a;simp[j0]at a;subst a;exact⟨U,λg h=>c g<|Loc.mark.inj h⟩
end
theorem Yx(s:Nat)(h:s%4294967296<2147483648):s&&&2147483648=0:=by
 have e:(2147483648:Nat)=(2^32-1)&&&2147483648:=A
 have a:(2:Nat)^32=4294967296:=A
 rw[e,<-Nat.and_assoc,Ą,a];have c:s%4294967296=(s%4294967296)&&&(2^31-1):=by rw[Ą];have b:(2:Nat)^31=2147483648:=A;rw[b];omega
 grind
theorem DC(s:Int)(a:0<=s)(b:s<1000000*4294967296)(h:s%4294967296<1000000):bits .and Ó s 2147483648=0:=by obtain⟨n,rfl⟩:=Int.eq_ofNat_of_zero_le a;have h:=(bits_nat Ó 63 A ö n 2147483648 Z A).1;grind [Yx]
theorem DF(s:Int)(a:0<=s)(b:s<1000000*4294967296)(h:s%4294967296<1000000):bits .and Ó s 2147483647=s%4294967296:=by have h:=bits_mask Ó 63 A ö 31 A s a Z;grind
def Ko(L:ě):Array Ĭ:=#[{dst:=Ã 113,op:=Ŧ<|ß 0,type:=L.tWgP,pos:= "waitgroup.go:142",after:=#[],guard:=Í},{dst:=Ã 114,op:=Op.nilCheck<|ß 113,type:=0,pos:= "waitgroup.go:142",after:=#[{on:=0,ground:=ý}],guard:=Í},{dst:=Ã 115,op:=Op.fieldAddr L.tWg (ß 114) 2,type:=0,pos:= "waitgroup.go:142",after:=#[{on:=1,ground:=ý}],guard:=Í},{dst:=Ã 116,op:=Ŭ {callee:=Callee.value<|ŧ L.semrelease,args:=#[ß 115,ċ<|Value.bool É,ċ<|ë Ũ 0],argTypes:=#[L.tPU32,4,3]},type:=0,pos:= "waitgroup.go:142",after:=#[{on:=2,ground:=ý}],guard:=Í}]
def Kp(L:ě):Array Ĭ:=#[{dst:=Ã 111,op:=Ŧ<|ß 8,type:=L.tU32,pos:= "waitgroup.go:141",after:=#[],guard:=Í},{dst:=Ã 112,op:=Ω BinOp.sub L.tU32 (ß 111) (ċ<|ë ç 1) L.tU32,type:=L.tU32,pos:= "waitgroup.go:141",after:=#[{on:=0,ground:=ý}],guard:=Í},{dst:=Ã 8,op:=Op.assign<|ß 112,type:=L.tU32,pos:= "waitgroup.go:141",after:=#[{on:=1,ground:=ý},{on:=0,ground:=ũ},{on:=1,ground:=ũ}],guard:=Í}]
def Kq(L:ě)(b:Nat)(t:Array ã)(a:List ø):Ä:=G ((base L.add).at ⟨t,[dcall L.enable #[]]⟩ [Æ (Ko L) [3],ŏ 2,ĵ<|Ģ 33 (Kp L) É,Ρ<|((Ģ 32 #[{dst:=Ã 109,op:=Ŧ<|ß 8,type:=L.tU32,pos:= "waitgroup.go:141",after:=#[],guard:=Í},{dst:=Ã 110,op:=Ω BinOp.neq L.tU32 (ß 109) (ċ<|ë ç 0) L.tU32,type:=4,pos:= "waitgroup.go:141",after:=#[{on:=0,ground:=ý}],guard:=Í}] É).seq<|Τ (ß 110) ο<|Code.exit 1).seq<|(ε 2<|Ģ 34 (Ko L) É).seq<|Ģ 33 (Kp L) É,ŏ 1])<|(base L.done).at {tmps:=#[ì<|Ã {block:=b,off:=0},Â,ì<|Ã {block:=b,off:=0},Â],defers:=[]} [Æ #[{dst:=Ã 2,op:=Ŧ<|ß 0,type:=L.tWgP,pos:= "waitgroup.go:156",after:=#[],guard:=Í},{dst:=Ã 3,op:=Ŭ {callee:=Callee.value<|ŧ L.add,args:=#[ß 2,ċ<|ë Ũ<|-1],argTypes:=#[L.tWgP,3]},type:=0,pos:= "waitgroup.go:156",after:=#[{on:=0,ground:=ý}],guard:=Í}] [1]]::a
section
variable{Ψ:Ð->Prop}{L:ě}{l:ff}{e:Jd}{k:List Ő}
def aik(H:ŕ P L)(h:mh Ψ l b)(s:∀a,SW Ψ l b a->fl P É e {l with d:=0,w:=a} (G (f.at (y.put ((Q[i]?).bind (·.dst))<|ı #[])<|Æ Q jJ::k) qX)): ∀(r:Nat) (c:Int) (t u v x z B C D E F I J K M N O S T V W X Y rK sY rL pA oz qa qc qd uk sZ s5 rM rN um uo uq uu uw uy uz uA uB qe qf xj PG PH PK PL PN PO PQ PU PV PW PX PY PZ P0 P1 P3 P4 P5 P7 P8 P9 Qa Qb Qc Qd Qe Qf Qg Qh Qi Qj Qk Ql Qm Qo Qp Qq Qr Qs Qt Qu Qv Qw Qx Qy Qz QA QB QC QD QF QG QH QI QJ QK QL QM QO QP QR QS QU QV QW QX QY:ã) (a:Ð),SW Ψ l b a->(c<=(r:Int)+1/\(r:Int)+1<=c)->r+1<1000000-> fl P É (F8 P É b (fl P É e)<|r+1) {l with d:=1,w:=a} (Kq L b #[ì<|Ã ⟨b,0,Í⟩,t,u,v,x,z,B,C,ë ç c,D,E,F,I,J,K,M,N,O,S,T,V,W,X,Y,rK,sY,rL,pA,oz,qa,qc,qd,uk,sZ,s5,rM,rN,um,uo,uq,uu,uw,uy,uz,uA,uB,qe,qf,xj,PG,PH,PK,PL,PN,PO,PQ,PU,PV,PW,PX,PY,PZ,P0,P1,P3,P4,P5,P7,P8,P9,Qa,Qb,Qc,Qd,Qe,Qf,Qg,Qh,Qi,Qj,Qk,Ql,Qm,Qo,Qp,Qq,Qr,Qs,Qt,Qu,Qv,Qw,Qx,Qy,Qz,QA,QB,QC,QD,QF,QG,QH,QI,QJ,QK,QL,QM,QO,QP,QR,QS,QU,QV,QW,QX,ì<|Ã ⟨b,1,Í⟩,QY]<|f.at y (Æ Q (i::jJ)::k)::qX):=by
 intro r;unfold Kq Ko Kp;lib_facts
 induction r with
 |zero=>
  intro c;intros;rename_i a hF p q;have e1:c=1:=Z
  subst e1;clear p q;refine nZ (l:={l with d:=1,w:=a}) h hF λj hF=>⟨U,U,Ĝ U U H.f_semrelease<|æ L,_,U,λa n m o=>(ą U U (by k_ne) U H.f_semrelease (Ĕ L) (æ L) (ĕ L) (Ė L) (by simp[þ,gX]) m o).trans fZ,?_⟩;walk_nrm;apply jI (l:={l with d:=1,w:=j}) h hF (n:=50);iterate 17 w_go fL
  refine Î λa g=> ?_;replace hF:=fL hF g;clear g;refine vB (l:={l with d:=1,w:=a}) h hF (Á U) U (λw=>Kn î fq U H.f_enable (Ĥ L) (ĥ L) (Ħ L) (ħ L) w) λDK hF=> ?_;have pz:Ï 1 #[j0 î]=0:=rfl;rw[pz];apply jI (l:={l with d:=0,w:=DK}) h hF (n:=10);u_leave0 H.f_add fL hF;iterate 2 w_go fL
  u_leave0 H.f_done fL hF
  refine Î λa g=> ?_;replace hF:=fL hF g;clear g;exact s _ hF
 |succ r ih=>
  intro c;intros;rename_i a hF p q;have g1:(c-1)%4294967296=c-1:=Z
  have g2:(c-1 !=0)=Ì:=by simp;omega
  refine nZ (l:={l with d:=1,w:=a}) h hF λj hF=>⟨U,U,Ĝ U U H.f_semrelease<|æ L,_,U,λa n m o=>(ą U U (by k_ne) U H.f_semrelease (Ĕ L) (æ L) (ĕ L) (Ė L) (by simp[þ,gX]) m o).trans fZ,?_⟩;walk_nrm;apply jI (l:={l with d:=1,w:=j}) h hF (n:=50);iterate 22 w_go fL
  refine Î λa g=> ?_;replace hF:=fL hF g;clear g;apply ih (c-1)<;>first|exact hF|omega
end
section
variable{b:ø}{a:ō}{k:List Ő}{cs:List ø}{d:Nat}
def rO(P:Ğ)(d:Nat)(g:Ä):Prop:=∃N,Ź P N d g
def DL(P:Ğ):Jd:=λl g=>rO P l.d g
def Kr{a:Ä}(b:g.status=Å)(h:∀w,è P É g w=Š a w)(c:rO P d a):rO P d g:=let⟨n,q⟩:=c;⟨n+1,.ctl b h q⟩
def auj(f:Q[i]?=Ã o)(g:á o (Ĩ Q a.tmps)=Ì)(j:b.kind≠Đ) (h:∀(w:Ð) (K:ō->Ð->Prop),K y w->uponK o a K ((Þ a.eval o).run P w)) (n:∀w,(Þ a.eval o).events P w #[]=#[]) (p:rO P d (G (b.at y<|Æ Q jJ::k) cs)):rO P d (G (b.at a<|Æ Q (i::jJ)::k) cs):=by
 refine Kr U (λw=> ?_) p;have e:=h w (λx c=>x=y/\c=w) ⟨U,U⟩;have l:listed P b.fn a o w=#[]:=by unfold listed;rw[n w,Ć]
 revert e;generalize m:(Þ a.eval o).run P w=r;intro e;match r,e with
 |.ok (.value v) w',⟨c,x⟩=>subst x;rw[Ń f g j m,l,c]
 |.ok .skip w',⟨c,x⟩=>subst x;rw[ŗ f g j m,l,c]
def QZ:∀{n m d:Nat} {g:Ä},n<=m->Ź P n d g->Ź P m d g
 |0,0,_,_,_,h=>h
 |0,_+1,_,_,_,h=>À h
 |_+1,0,_,_,e,_=>absurd e Z
 |_+1,_+1,_,_,e,h=>h.imp id λ⟨a,b,c,f,i,j⟩=>⟨a,b,c,f,i,QZ (Nat.le_of_succ_le_succ e) j⟩
def GM{n:Nat}{ops:Array Oper}{i:Nat}{rest:List Nat}{o:Oper}{a':Act}(hq:QuitsD P n d (G (b.at a'<|.inRegion ops rest::k) cs))(ho:ops[i]?=some o:=by rfl)(hw:Region.wanted o (yielded ops a.tmps)=true:=by rfl)(hk:b.kind≠.early:=by k_ne) (h:∀(w:World) (K:Act->World->Prop),K a' w->uponK o a K ((execOp a.eval o).run P w):=by intro w K hK;go_simp;(try w_num);exact hK) (he:∀w,(execOp a.eval o).events P w #[]=#[]:=by intro _;simp[go_sem, *]): QuitsD P (n+1) d (G (b.at a<|.inRegion ops (i::rest)::k) cs):=by
 refine QuitsD.ctl U (λw=> ?_) hq;have h1:=h w (λx y=>x=a'/\y=w) ⟨U,U⟩;have h2:listed P b.fn a o w=#[]:=by unfold listed;rw[he w,Ć]
 revert h1;generalize hr:(Þ a.eval o).run P w=r;intro h1;match r,h1 with
 |.ok (.value v) w',⟨e1,e2⟩=>subst e2;rw[Ń ho hw hk hr,h2,e1]
 |.ok .skip w',⟨e1,e2⟩=>subst e2;rw[ŗ ho hw hk hr,h2,e1]
end
section
variable{Ψ:Ð->Prop}{L:ě}{b:Nat}{l:ff}{a:ō}{ops:Array Ĭ}{rest:List Nat}{k:List Ő}{cs:List ø}
def ail(H:ŕ P L)(g:mh Ψ l b)(h:rO P 0 (G (f.at (a.put ((ops[i]?).bind (·.dst))<|ı #[])<|Æ ops rest::k) cs)): ∀(r:Nat) (c:Int) (t u v x y z B C D E F I J K M N O Q S T V W X Y rL pA oz qa qc qd uk sZ s5 rM rN um uo uq uu uw uy uz uA uB qe qf xj PG PH PK PL PN PO PQ PU PV PW PX PY PZ P0 P1 P3 P4 P5 P7 P8 P9 Qa Qb Qc Qd Qe Qf Qg Qh Qi Qj Qk Ql Qm Qo Qp Qq Qr Qs Qt Qu Qv Qw Qx Qy Qz QA QB QC QD QF QG QH QI QJ QK QL QM QO QP QR QS QU QV QW QX QY:ã) (e:Ð),SW Ψ l b e->(c<=(r:Int)+1/\(r:Int)+1<=c)->r+1<1000000-> fl P É (F8 P É b (DL P)<|r+1) {l with d:=1,w:=e} (Kq L b #[ì<|Ã ⟨b,0,Í⟩,t,u,v,x,y,z,B,ë ç c,C,D,E,F,I,J,K,M,N,O,Q,S,T,V,W,X,Y,rL,pA,oz,qa,qc,qd,uk,sZ,s5,rM,rN,um,uo,uq,uu,uw,uy,uz,uA,uB,qe,qf,xj,PG,PH,PK,PL,PN,PO,PQ,PU,PV,PW,PX,PY,PZ,P0,P1,P3,P4,P5,P7,P8,P9,Qa,Qb,Qc,Qd,Qe,Qf,Qg,Qh,Qi,Qj,Qk,Ql,Qm,Qo,Qp,Qq,Qr,Qs,Qt,Qu,Qv,Qw,Qx,Qy,Qz,QA,QB,QC,QD,QF,QG,QH,QI,QJ,QK,QL,QM,QO,QP,QR,QS,QU,QV,QW,QX,ì<|Ã ⟨b,1,Í⟩,QY]<|f.at a (Æ ops (i::rest)::k)::cs):=by
 intro r;unfold Kq Ko Kp;lib_facts
 induction r with
 |zero=>
  intro c;intros;rename_i e hF o p;have e1:c=1:=Z
  subst e1;clear o p;refine nZ (l:={l with d:=1,w:=e}) g hF λq hF=>⟨U,U,Ĝ U U H.f_semrelease<|æ L,_,U,λe n j m=>(ą U U (by k_ne) U H.f_semrelease (Ĕ L) (æ L) (ĕ L) (Ė L) (by simp[þ,gX]) j m).trans fZ,?_⟩;walk_nrm;show rO P 1 _;let⟨n,h⟩:=h;refine⟨n+150,?_⟩;repeat(first|refine GM ?_|q_go)
  q_en H L
  q_leave0 H.f_add
  repeat(first|refine GM ?_|q_go)
  q_leave0 H.f_done
  exact QZ Z h
 |succ r ih=>
  intro c;intros;rename_i e hF o p;have g1:(c-1)%4294967296=c-1:=Z
  have g2:(c-1 !=0)=Ì:=by simp;omega
  refine nZ (l:={l with d:=1,w:=e}) g hF λq hF=>⟨U,U,Ĝ U U H.f_semrelease<|æ L,_,U,λe n j m=>(ą U U (by k_ne) U H.f_semrelease (Ĕ L) (æ L) (ĕ L) (Ė L) (by simp[þ,gX]) j m).trans fZ,?_⟩;walk_nrm;apply jI (l:={l with d:=1,w:=q}) g hF (n:=50);iterate 22 w_go fL
  refine Î λe s=> ?_;replace hF:=fL hF s;clear s;apply ih (c-1)<;>first|exact hF|omega
end
section
variable{Ψ:Ð->Prop}{L:ě}{l:ff}{k:List Ő}
def ain(H:ŕ P L)(J:l.K ⟨b,0,Í⟩/\l.K ⟨b,1,Í⟩)(z:mh Ψ l b)(hF:SW Ψ l b l.w)(B:l.d=0)(q:rO P 0 (G (f.at (y.put ((Q[i]?).bind (·.dst))<|ı #[])<|Æ Q jJ::k) qX)): fl P É (λl g=>yE P É b (DL P) (kE l) g) l (G ((base L.done).at ⟨#[ì<|Ã ⟨b,0,Í⟩,Â,Â,Â],[]⟩ [ĵ<|body_done L])<|f.at y (Æ Q (i::jJ)::k)::qX):=by
 lib_facts;simp only[body_done,doneFn,ć];apply jI z hF (n:=40);iterate 2 w_go fL
 u_call H.f_add (nm_add L) addFn fL hF
 iterate 11 w_go fL
 u_conv H.underlying_tWgP H.room_tWg (nF.r hF.2.1).choose_spec fL hF
 refine Î λa g=> ?_;replace hF:=fL hF g;clear g;refine nZ (l:={l with w:=a}) z hF λc hF=>⟨B,U,_,λ_=>Ē Į fq U U (by k_ne) U H.f_relMerge (x_relMerge_n L) (x_relMerge_b L) (x_relMerge_x L) (x_relMerge_f L) (by simp[þ,fP]),?_⟩;walk_nrm;have e:mh (λ_=>True) (kE {l with w:=c}) b:=⟨À J.1,À J.2,λ_ _ _ _ _ _ _ _=>trivial⟩;have C:SW (λ_=>True) (kE {l with w:=c}) b (kE {l with w:=c}).w:=⟨λj h=>h.elim,hF.2.1,trivial⟩;have M:(kE {l with w:=c}).d=0:=B;generalize kE {l with w:=c}=l2 at e C M|-;replace hF:=C;clear C z B;apply jI e hF (n:=10);iterate 3 w_go fL
 refine Î λa g=> ?_;replace hF:=fL hF g;clear g;refine vB (l:={l2 with w:=a}) e hF (À U) U (λ_=>Ę ô fq U U (by k_ne) U H.f_disable (ń L) (Ņ L) (ņ L)<|Ň L) λT hF=> ?_;walk_nrm;have V:Ï l2.d #[j0 ô]=1:=by rw[M];rfl
 rw[V];apply jI (l:={l2 with d:=1,w:=T}) e hF (n:=50);iterate 2 w_go fL
 u_defer fL hF
 iterate 8 w_go fL
 u_bub fL hF
 iterate 11 w_go fL
 u_call H.f_uAdd (nm_uAdd L) uAddFn fL hF
 iterate 10 w_go fL
 refine Î λa g=> ?_;replace hF:=fL hF g;clear g;refine nZ (l:={l2 with d:=1,w:=a}) e hF λc hF=>⟨U,U,λv=>⟨_,λa p D=>(Ľ U U (by k_ne) U H.f_addU64 (Ž L) (ž L) (ſ L) Ó (Α L) U U p D).trans fZ,?_⟩⟩;walk_nrm;have N:Ó.wrap (v+18446744069414584320)=Ó.wrap (v+qK):=rfl;rw[N];clear N;obtain⟨s,E⟩:∃s,Ó.wrap (v+qK)=s:=⟨_,U⟩;simp only[E];have F:0<=s:=by rw[<-E];have:Ó.wrap (v+qK)=(v+qK)%18446744073709551616:=rfl;rw[this];omega
 clear E v;by_cases o:s=0\/(gd<=s/\s<1000000*gd/\s%gd<1000000)
 .rw[if_pos o];by_cases m:s=0;focus
   subst m;clear o F
  rotate_left;focus
   have W:=o.resolve_left m;clear o m F;let⟨X,Y,c6⟩:=W;have q4:(4294967296:Int)<=s:=X;have I:s<1000000*4294967296:=Y;have O:s%4294967296<1000000:=c6;have f1:=DC s Z I O;have t:=DF s Z I O;obtain⟨x,g1⟩:∃x,(s/4294967296+2147483648)%4294967296-2147483648=x:=⟨_,U⟩;have g2:¬x<0:=Z
   have g3:0<x:=Z
   by_cases u:s%4294967296=0;focus rw[u]at t
   rotate_left;focus
    obtain⟨r,g4⟩:∃r,s%4294967296=r:=⟨_,U⟩;rw[g4]at t u;have S:r%4294967296=r:=Z
    have g6:(r !=0)=Ì:=by simpa using u
  all_goals
   show rO P 1 _;let⟨n,q⟩:=q;refine⟨n+150,?_⟩;repeat(first|refine GM ?_|q_go)
   q_leave1 H.f_uAdd
   repeat(first|refine GM ?_|q_go)
   q_en H L
   q_leave0 H.f_add
   repeat(first|refine GM ?_|q_go)
   q_leave0 H.f_done
   exact QZ Z q
 .rw[if_neg o];by_cases m:0<s/\s<1000000
  .rw[if_pos m];let⟨q4,I⟩:=m;clear o F;have f1:=DC s Z Z Z;have t:=DF s Z Z Z;have g1:(s/4294967296+2147483648)%4294967296-2147483648=0:=Z
   have S:s%4294967296=s:=Z
   rw[S]at t;have g6:(s !=0)=Ì:=by simp;omega
   have X:(s==0)=É:=by simp;omega
   have O:(s.toNat:Int)=s:=Z
   apply jI (l:={l2 with d:=1,w:=c}) e hF (n:=150);iterate 3 w_go fL
   u_leave1 H.f_uAdd fL hF
   iterate 89 w_go fL
   u_call H.f_uLoad (ů L) Ξ fL hF
   iterate 9 w_go fL
   refine Î λa g=> ?_;replace hF:=fL hF g;clear g;refine nZ (l:={l2 with d:=1,w:=a}) e hF λc hF=>⟨U,U,λv=>⟨_,λa p=>ę U U (by k_ne) U H.f_loadU64 (ň L) (ŉ L) (Ŋ L) Ó (ŋ L) U p,?_⟩⟩;show fl P É (if v=(s.toNat:Int)then JO P É b (DL P) s.toNat else λ_ _=>True) _ _;by_cases u:v=(s.toNat:Int)
   .rw[if_pos u];rw[O]at u;subst u;walk_nrm;have Y:(v !=v)=É:=fq
    apply jI (l:={l2 with d:=1,w:=c}) e hF (n:=150);iterate 3 w_go fL
    u_leave1 H.f_uLoad fL hF
    iterate 10 w_go fL
    u_call H.f_uStore (nm_uStore L) uStoreFn fL hF
    iterate 5 w_go fL
    refine Î λa g=> ?_;replace hF:=fL hF g;clear g;refine nZ (l:={l2 with d:=1,w:=a}) e hF λc hF=>⟨U,U,_,λa x p D=>stepG_store_atomic U U (by k_ne) U H.f_storeU64 (x_storeU64_n L) (x_storeU64_b L) (x_storeU64_x L) (x_storeU64_f L) U U p D,?_⟩;walk_nrm;obtain⟨r,W⟩:∃r,v.toNat=r+1:=⟨v.toNat-1,Z⟩;rw[W];apply jI (l:={l2 with d:=1,w:=c}) e hF (n:=150);iterate 2 w_go fL
    u_leave0 H.f_uStore fL hF
    iterate 24 w_go fL
    refine Î λa g=> ?_;replace hF:=fL hF g;clear g;apply ail H e q r v<;>first|exact hF|omega
   .rw[if_neg u];exact .fD λ_ _=>trivial
  .rw[if_neg m];trivial
end
def RT(_ _:Ð):Prop:=True
def fC{w₁:Ð}(_:True)(_:RT w w₁):True:=trivial
def aio(s:Int)(a:0<=s)(b:s<9223372036854775808)(h:s%4294967296<1000000):bits .and Ó s 2147483648=0:=by obtain⟨n,rfl⟩:=Int.eq_ofNat_of_zero_le a;have h:=(bits_nat Ó 63 A ö n 2147483648 Z A).1;rw[Yx n Z]at h;simpa using h
def aip(s:Int)(a:0<=s)(c:s<9223372036854775808)(h:s%4294967296<1000000):bits .and Ó s 2147483647=s%4294967296:=by
 have h:=bits_mask Ó 63 A ö 31 A s a Z;have e:((2:Int)^31-1)=2147483647:=A
 have b:((2:Int)^31)=2147483648:=A
 rw[e,b]at h;rw[h];omega
section
variable(P:Ğ)(L:ě)(f:Bool)(b:Nat)(j:Jd)(c:ø)(m:List ø)(l:ff)
def Yy(g:Ä):Prop:=∃T:Array ã,g=G ((base L.wait).at ⟨T,[]⟩ [ĵ<|L7 L,Ρ<|L7 L,ŏ 0]) (c::m)/\T.size=84/\T[0]?=Ã (ì<|Ã ⟨b,0,Í⟩)
def Yz(v:Int)(g:Ä):Prop:=g.status=Å/\
 (∃a,(∀w:Ð,w.cell? (fP b)=Ã (ë Ó v)->w.frozen? (fP b)=É->è P f g w=Š a (w.setCell (fP b)<|ë Ó<|Ó.wrap<|v+1) #[kC<|fP b,mV<|fP b])/\fl P f (if v%gd=0 then OD P f b j else JQ P f b j) l a)/\
 ∃a,(∀(w:Ð) (x:Int),x≠v->w.cell? (fP b)=Ã (ë Ó x)->w.frozen? (fP b)=É->è P f g w=Š a w #[kC<|fP b])/\∀w,İ P f RT à (λg _=>Yy L b c m g) 10 a w
def Q0(g:Ä):Prop:=g.status=Å/\∀v,∃a,(∀w:Ð,w.cell? (fP b)=Ã (ë Ó v)->è P f g w=Š a w #[kC<|fP b])/\(0<=v/\v<1000000->fl P f (F9 P f b j) l a)/\
 ((gd<=v/\v<gd*2147483648/\v%gd<1000000)->∀w,İ P f RT à (λg _=>Yz P L f b j c m l v g) 60 a w)
end
section
variable{Ψ:Ð->Prop}{P:Ğ}{L:ě}{f:Bool}{b:Nat}{l:ff}{j:Jd}{c:ø}{a:ō}{k:List Ő}{m:List ø}
def YA(H:ŕ P L)(p:mh Ψ l b)(J:SW Ψ l b l.w)(u:l.d=1)(z:∀o,SW Ψ l b o->fl P f j {l with d:=0,w:=o} (G (c.at (a.put ((Q[i]?).bind (·.dst))<|ı #[])<|Æ Q jJ::k) m)) (h:Yy L b (c.at a<|Æ Q (i::jJ)::k) m g) (w:Ð):İ P f RT à (λg _=>Q0 P L f b j (c.at a<|Æ Q (i::jJ)::k) m l g) 30 g w:=by
 lib_facts;obtain⟨T,rfl,V,K⟩:=h;obtain⟨v0,v1,v2,v3,v4,v5,v6,v7,v8,v9,v10,v11,v12,v13,v14,v15,v16,v17,v18,v19,v20,v21,v22,v23,v24,v25,v26,v27,v28,v29,v30,v31,v32,v33,v34,v35,v36,v37,v38,v39,v40,v41,v42,v43,v44,v45,v46,v47,v48,v49,v50,v51,v52,v53,v54,v55,v56,v57,v58,v59,v60,v61,v62,v63,v64,v65,v66,v67,v68,v69,v70,v71,v72,v73,v74,v75,v76,v77,v78,v79,v80,v81,v82,v83,rfl⟩:=array84 T V;simp only[List.getElem?_toArray,List.getElem?_cons_zero,Ķ]at K;subst K;have hF:True:=trivial;simp only[L7,ţ,waitFn,ć];iterate 6 w_go fC
 u_call H.f_uLoad (ů L) Ξ fC hF
 iterate 9 w_go fC
 refine Î λo e=> ?_;clear e hF o;refine⟨U,λv=>⟨_,λo q=>ę U U (by k_ne) U H.f_loadU64 (ň L) (ŉ L) (Ŋ L) Ó (ŋ L) U q,λB=> ?_,λB w=> ?_⟩⟩
 .walk_nrm;let⟨t,x⟩:=B;have W:=DC v Z Z Z;have C:=DF v Z Z Z;have X:(v/4294967296+2147483648)%4294967296-2147483648=0:=Z
  have M:v%4294967296=v:=Z
  rw[M]at C;have hF:=J;apply jI (l:=l) p hF (n:=150);iterate 3 w_go fL
  u_leave1 H.f_uLoad fL hF
  iterate 27 w_go fL
  refine Î λo e=> ?_;replace hF:=fL hF e;clear e;refine vB (l:={l with w:=o}) p hF (Á U) U (λ_=>Ę î fq U U (by k_ne) U H.f_enable (Ĥ L) (ĥ L) (Ħ L)<|ħ L) λD hF=> ?_;have E:Ï l.d #[j0 î]=0:=by rw[u];rfl
  rw[E];walk_nrm;apply jI (l:={l with d:=0,w:=D}) p hF (n:=50);iterate 3 w_go fL
  u_conv H.underlying_tWgP H.room_tWg (nF.r hF.2.1).choose_spec fL hF
  refine Î λo e=> ?_;replace hF:=fL hF e;clear e;refine nZ (l:={l with d:=0,w:=o}) p hF λr hF=>⟨U,U,_,λ_=>Ē Œ fq U U (by k_ne) U H.f_acquire (Ű L) (ű L) (Ų L) (ų L) (by simp[þ,fP]),?_⟩;walk_nrm;by_cases s:v=0
  .subst s;apply jI (l:={l with d:=0,w:=r}) p hF (n:=50);iterate 19 w_go fL
   u_leave0 H.f_wait fL hF
   refine Î λo e=> ?_;replace hF:=fL hF e;clear e;exact z _ hF
  .have S:(v==0)=É:=by simp;omega
   apply jI (l:={l with d:=0,w:=r}) p hF (n:=50);iterate 19 w_go fL
   u_leave0 H.f_wait fL hF
   refine Î λo e=> ?_;replace hF:=fL hF e;clear e;exact z _ hF
 .walk_nrm;let⟨N,O,Y⟩:=B;have q4:(4294967296:Int)<=v:=N;have q5:v<4294967296*2147483648:=O;have F:v%4294967296<1000000:=Y;clear N O;have C:=aip v Z Z F;obtain⟨I,X⟩:∃I,(v/4294967296+2147483648)%4294967296-2147483648=I:=⟨_,U⟩;have g2:(I==0)=É:=by simp;omega
  have g3:(v+1)%18446744073709551616=v+1:=Z
  have xk:Ó.wrap (v+1)=v+1:=JN Z Z;obtain⟨t,g4⟩:∃t,v%4294967296=t:=⟨_,U⟩;have W:=aio v Z Z F;rw[g4]at C F;have M:t%4294967296=t:=Z
  have hF:True:=trivial;iterate 3 w_go fC
  u_leave1 H.f_uLoad fC hF
  iterate 32 w_go fC
  u_call H.f_uCas (nm_uCas L) uCasFn fC hF
  iterate 11 w_go fC
  refine Î λo e=> ?_;clear e hF o;refine⟨U,⟨_,λo q y=>(stepG_cas_hit (v:=v) (n:=v+1) U U (by k_ne) U H.f_casU64 (Β L) (Γ L) (Δ L) Ó (Ε L) U U U q y).trans (by rw[xk];rfl),?_⟩,_,λo x lF q y=>stepG_cas_miss (v:=x) (old:=v) (n:=v+1) U U (by k_ne) U H.f_casU64 (Β L) (Γ L) (Δ L) Ó (Ε L) U U U q y lF,λw=> ?_⟩
  .walk_nrm;have hF:=J;by_cases s:v%gd=0;focus
    rw[if_pos s];have s:v%4294967296=0:=s;have:t=0:=Z
    subst this;apply jI (l:=l) p hF (n:=150);iterate 3 w_go fL
    u_leave1 H.f_uCas fL hF
    iterate 15 w_go fL
    u_conv H.underlying_tPU32 H.room_tU32 (nF.C hF.2.1).choose_spec fL hF
    refine Î λo e=> ?_;replace hF:=fL hF e;clear e;refine nZ (l:={l with w:=o}) p hF λr hF=>⟨u,U,_,λ_=>Ē Υ fq U U (by k_ne) U H.f_raceWrite (x_raceWrite_n L) (x_raceWrite_b L) (x_raceWrite_x L) (x_raceWrite_f L) (by simp[þ,gX]),?_⟩;walk_nrm;apply jI (l:={l with w:=r}) p hF (n:=150);iterate 23 w_go fL
   rotate_left;focus
    rw[if_neg s];have s:¬v%4294967296=0:=s;have S:(t==0)=É:=by simp;omega
    apply jI (l:=l) p hF (n:=150);iterate 3 w_go fL
    u_leave1 H.f_uCas fL hF
    iterate 34 w_go fL
   all_goals
    refine Î λo e=> ?_;replace hF:=fL hF e;clear e;refine nZ (l:={l with w:=o}) p hF λr hF=>⟨u,U,U,λo q=>stepG_semacquire_wait U U U H.f_semacquire (Ř L) (ř L) (Ś L) (ś L) (by simp[þ,gX]) q,_,λo n hn q y=>(stepG_semacquire (n:=n) U U (by k_ne) U H.f_semacquire (Ř L) (ř L) (Ś L) (ś L) (by simp[þ,gX]) q hn y).trans fZ,?_⟩;walk_nrm;apply jI (l:={l with w:=r}) p hF (n:=50);iterate 6 w_go fL
    u_call H.f_uLoad (ů L) Ξ fL hF
    iterate 9 w_go fL
    refine Î λo e=> ?_;replace hF:=fL hF e;clear e;refine nZ (l:={l with w:=o}) p hF λr hF=>⟨u,U,λx=>⟨_,λo q=>ę U U (by k_ne) U H.f_loadU64 (ň L) (ŉ L) (Ŋ L) Ó (ŋ L) U q,?_⟩⟩;show fl P f (if x=0 then F9 P f b j else λ_ _=>True) _ _;by_cases S:x=0
    .subst S;rw[if_pos U];walk_nrm;apply jI (l:={l with w:=r}) p hF (n:=50);iterate 3 w_go fL
     u_leave1 H.f_uLoad fL hF
     iterate 7 w_go fL
     refine Î λo e=> ?_;replace hF:=fL hF e;clear e;refine vB (l:={l with w:=o}) p hF (Á U) U (λ_=>Ę î fq U U (by k_ne) U H.f_enable (Ĥ L) (ĥ L) (Ħ L)<|ħ L) λD hF=> ?_;have E:Ï l.d #[j0 î]=0:=by rw[u];rfl
     rw[E];walk_nrm;apply jI (l:={l with d:=0,w:=D}) p hF (n:=50);iterate 3 w_go fL
     u_conv H.underlying_tWgP H.room_tWg (nF.r hF.2.1).choose_spec fL hF
     refine Î λo e=> ?_;replace hF:=fL hF e;clear e;refine nZ (l:={l with d:=0,w:=o}) p hF λr hF=>⟨U,U,_,λ_=>Ē Œ fq U U (by k_ne) U H.f_acquire (Ű L) (ű L) (Ų L) (ų L) (by simp[þ,fP]),?_⟩;walk_nrm;apply jI (l:={l with d:=0,w:=r}) p hF (n:=50);iterate 9 w_go fL
     u_leave0 H.f_wait fL hF
     refine Î λo e=> ?_;replace hF:=fL hF e;clear e;exact z _ hF
    .rw[if_neg S];exact .fD λ_ _=>trivial
  .walk_nrm;have hF:True:=trivial;iterate 3 w_go fC
   u_leave1 H.f_uCas fC hF
   iterate 5 w_go fC
   exact Î λ_ _=>⟨_,U,fq,fq⟩
end
section
variable{Ψ:Ð->Prop}{L:ě}{l:ff}{e:Jd}{k:List Ő}
def aiq{D:Ð->Ð->Array đ->Prop}{b:Ä->Ð->Prop}(h:İ P yQ RT D b n g w):İ P yQ RT D b n g u:=by
 cases n with
 |zero=>exact λa _=>h a trivial
 |succ n=>exact h.imp (λq a _=>q a trivial) λq=>⟨q.1,λa _=>q.2 a trivial⟩
def YB{D:Ð->Ð->Array đ->Prop}{b c:Ä->Prop}(d:∀g,b g->∀w,İ P yQ RT D (λg _=>c g) m g w):∀{n:Nat} {g:Ä} {w:Ð},İ P yQ RT D (λg _=>b g) n g w->İ P yQ RT D (λg _=>c g) (n+m) g w:=by
 intro n
 induction n with
 |zero=>intro g w h;rw[Nat.zero_add];exact d g (h w trivial) w
 |succ n i=>
  intro g w h;rcases h with h|⟨j,h⟩
  .exact(d g (h w trivial) w).mono Z
  .rw[show n+1+m=(n+m)+1 by omega];refine Goes.step j λe r=> ?_;have a:=h e r;cases f:è P yQ g e with
   |go k l o=>
    rw[f,ť]at a;rw[ť];exact⟨a.1,i a.2⟩
   |_=>rw[f]at a;exact a.elim
theorem YC{S:Ä->Prop}(l:∀g,S g->g.status=Å)(h:∀w,İ P yQ RT à (λg _=>S g) (n+1) g w):g.status=Å/\(S g\/∀a,∃b,è P yQ g a=Š b a #[]/\∀w,İ P yQ RT à (λg _=>S g) n b w):=by
 by_cases e:S g
 .grind
 .rcases h default with q|⟨f,q⟩
  .exact absurd (q default trivial) e
  .refine⟨f,Á λa=> ?_⟩;have c:=q a trivial;cases d:è P yQ g a with
   |go b m o=>
    rw[d,ť]at c;let⟨⟨i,j⟩,k⟩:=c;subst i j;exact⟨b,U,λw=>aiq k⟩
   |_=>rw[d]at c;exact c.elim
def air(H:ŕ P L)(B:60<=j)(D:mh Ψ l b)(E:SW Ψ l b l.w)(C:l.d=1)(F:∀a,SW Ψ l b a->fl P yQ e {l with d:=0,w:=a} (G (f.at (y.put ((Q[i]?).bind (·.dst))<|ı #[])<|Æ Q jJ::k) qX)) (I:n<=j) (h:∀w,İ P yQ RT à (λg _=>Q0 P L yQ b e (f.at y<|Æ Q (i::jJ)::k) qX l g) n g w):OG P yQ j b e (.gh n) l g:=by
 refine⟨C,λp g=>match p with
  |.gh n=>n<=j/\∀w,İ P yQ RT à (λg _=>Q0 P L yQ b e (f.at y<|Æ Q (i::jJ)::k) qX l g) n g w
  |.ld v m=>m<=j/\gd<=v/\∀w,İ P yQ RT à (λg _=>Yz P L yQ b e (f.at y (Æ Q (i::jJ)::k)) qX l v g) m g w,⟨I,h⟩,λp g J=> ?_⟩
 match p,J with
 |.gh (n+1),⟨h1,h2⟩=>
  let⟨r,u⟩:=YC (λg h=>h.1) h2;refine⟨r,h1,u.imp (λq=>⟨ò _,λw a _=>q⟩) λq a=> ?_⟩;let⟨s,c,o⟩:=q a;exact⟨s,c,Z,o⟩
 |.gh 0,⟨_,h2⟩=>
  have q:=h2 default default trivial;refine⟨q.1,λv=> ?_⟩;let⟨s,c,o,x⟩:=q.2 v;refine⟨s,c,?_⟩;by_cases z:0<=v/\v<gd
  .rw[if_pos z];exact λt=>o ⟨z.1,t⟩
  .rw[if_neg z];exact λt=>⟨60,B,B,t.1,x t⟩
 |.ld v (m+1),⟨h1,h0,h2⟩=>
  let⟨r,u⟩:=YC (λg h=>h.1) h2;refine⟨r,h0,h1,u.imp (λq=>⟨ò _,h0,λw a _=>q⟩) λq a=> ?_⟩;let⟨s,c,o⟩:=q a;exact⟨s,c,Z,h0,o⟩
 |.ld v 0,⟨_,h0,h2⟩=>
  let⟨r,⟨m,c,o⟩,q,x,s⟩:=h2 default default trivial;exact⟨r,h0,⟨m,c,o⟩,q,x,40,Z,Z,λw=>YB (λg t=>YA H D E C F t)<|s w⟩
def YD(H:ŕ P L)(o:60<=j)(a:mh Ψ l b)(hF:SW Ψ l b l.w)(p:l.d=0)(h:∀c,SW Ψ l b c->fl P yQ e {l with d:=0,w:=c} (G (f.at (y.put ((Q[i]?).bind (·.dst))<|ı #[])<|Æ Q jJ::k) qX)): fl P yQ (qL P yQ j b e .iZ) l (G ((base L.wait).at ⟨#[ì<|Ã ⟨b,0,Í⟩,Â,Â,Â,Â,Â,Â,Â,Â,Â,Â,Â,Â,Â,Â,Â,Â,Â,Â,Â,Â,Â,Â,Â,Â,Â,Â,Â,Â,Â,Â,Â,Â,Â,Â,Â,Â,Â,Â,Â,Â,Â,Â,Â,Â,Â,Â,Â,Â,Â,Â,Â,Â,Â,Â,Â,Â,Â,Â,Â,Â,Â,Â,Â,Â,Â,Â,Â,Â,Â,Â,Â,Â,Â,Â,Â,Â,Â,Â,Â,Â,Â,Â,Â],[]⟩ [ĵ<|ţ L])<|f.at y (Æ Q (i::jJ)::k)::qX):=by
 lib_facts;simp only[ţ,waitFn,ć];apply jI a hF (n:=40);iterate 3 w_go fL
 refine Î λc q=> ?_;replace hF:=fL hF q;refine vB a hF (À U) U (λ_=>Ę ô fq U U (by k_ne) U H.f_disable (ń L) (Ņ L) (ņ L)<|Ň L) λt hF=> ?_;walk_nrm;have r:Ï l.d #[j0 ô]=1:=by rw[p];rfl
 rw[r];refine nZ a hF λm hF=>⟨40,Z,air (l:={l with d:=1,w:=m}) H o a hF U h Z λw=>YB (λg s=>YA (l:={l with d:=1,w:=m}) H a hF U h s) ?_⟩;replace hF:True:=trivial;iterate 3 w_go fC
 exact Î λ_ _=>⟨_,U,fq,fq⟩
end
section
variable(P:Ğ)(e:Bool)(b:Nat)(J:Jd)
def rd1:Jd:=λl g=>l.d=1/\F6 P e (.read<|gX b) J l g
def Ks:Jd:=λl g=>l.d=1/\Oo P e (fP b) gd (λs=>if s=gd then fl P e (rd1 P e b J)else if gd<s/\s<1000000*gd/\s%gd=0 then fl P e J else λ_ _=>True) l g
end
def ais(F:Ph)(j:Nat)(a:Nat->Nat):OM F j a=Ks F.P Ì F.C (JU F j a):=rfl
section
variable{Ψ:Ð->Prop}{P:Ğ}{L:ě}{e:Bool}{b:Nat}{l:ff}{f:Jd}{c:ø}{k:List Ő}
def YE(H:ŕ P L)(h:mh Ψ l b)(hF:SW Ψ l b l.w)(E:l.d=0)(t:∀g,SW Ψ l b g->fl P e f {l with d:=0,w:=g} (G (c.at (y.put ((Q[i]?).bind (·.dst))<|ı #[])<|Æ Q jJ::k) qX)): fl P e (Ks P e b f) l (G ((base L.add).at ⟨#[ì<|Ã ⟨b,0,Í⟩,ë Ũ 1,Â,Â,Â,Â,Â,Â,Â,Â,Â,Â,Â,Â,Â,Â,Â,Â,Â,Â,Â,Â,Â,Â,Â,Â,Â,Â,Â,Â,Â,Â,Â,Â,Â,Â,Â,Â,Â,Â,Â,Â,Â,Â,Â,Â,Â,Â,Â,Â,Â,Â,Â,Â,Â,Â,Â,Â,Â,Â,Â,Â,Â,Â,Â,Â,Â,Â,Â,Â,Â,Â,Â,Â,Â,Â,Â,Â,Â,Â,Â,Â,Â,Â,Â,Â,Â,Â,Â,Â,Â,Â,Â,Â,Â,Â,Â,Â,Â,Â,Â,Â,Â,Â,Â,Â,Â,Â,Â,Â,Â,Â,Â,Â,Â,Â,Â],[]⟩ [ĵ<|body_add L])<|c.at y (Æ Q (i::jJ)::k)::qX):=by
 lib_facts;simp only[body_add,addFn,ć];apply jI h hF (n:=40);iterate 12 w_go fL
 refine Î λg a=> ?_;replace hF:=fL hF a;clear a;refine vB (l:={l with w:=g}) h hF (À U) U (λ_=>Ę ô fq U U (by k_ne) U H.f_disable (ń L) (Ņ L) (ņ L)<|Ň L) λj hF=> ?_;walk_nrm;have F:Ï l.d #[j0 ô]=1:=by rw[E];rfl
 rw[F];apply jI (l:={l with d:=1,w:=j}) h hF (n:=50);iterate 2 w_go fL
 u_defer fL hF
 iterate 8 w_go fL
 u_bub fL hF
 iterate 11 w_go fL
 u_call H.f_uAdd (nm_uAdd L) uAddFn fL hF
 iterate 10 w_go fL
 refine Î λg a=> ?_;replace hF:=fL hF a;clear a;refine nZ (l:={l with d:=1,w:=g}) h hF λq hF=>⟨U,U,λv=>⟨_,λg I J=>(Ľ U U (by k_ne) U H.f_addU64 (Ž L) (ž L) (ſ L) Ó (Α L) U U I J).trans fZ,?_⟩⟩;walk_nrm;have u:Ó.wrap (v+4294967296)=Ó.wrap (v+gd):=rfl;rw[u];clear u;obtain⟨s,x⟩:∃s,Ó.wrap (v+gd)=s:=⟨_,U⟩;simp only[x];clear x v;by_cases m:s=gd
 .rw[if_pos m];have o:s=4294967296:=m;clear m;subst o;apply jI (l:={l with d:=1,w:=q}) h hF (n:=150);iterate 3 w_go fL
  u_leave1 H.f_uAdd fL hF
  iterate 48 w_go fL
  u_conv H.underlying_tPU32 H.room_tU32 (nF.C hF.2.1).choose_spec fL hF
  refine Î λg a=> ?_;replace hF:=fL hF a;clear a;refine nZ (l:={l with d:=1,w:=g}) h hF λq hF=>⟨U,U,_,λ_=>Ē .read fq U U (by k_ne) U H.f_raceRead (x_raceRead_n L) (x_raceRead_b L) (x_raceRead_x L) (x_raceRead_f L) (by simp[þ,gX]),?_⟩;walk_nrm;apply jI (l:={l with d:=1,w:=q}) h hF (n:=150);iterate 39 w_go fL
  refine Î λg a=> ?_;replace hF:=fL hF a;clear a;refine vB (l:={l with d:=1,w:=g}) h hF (Á U) U (λw=>Kn î fq U H.f_enable (Ĥ L) (ĥ L) (Ħ L) (ħ L) w) λj hF=> ?_;have r:Ï 1 #[j0 î]=0:=rfl;rw[r];apply jI (l:={l with d:=0,w:=j}) h hF (n:=10);u_leave0 H.f_add fL hF;refine Î λg a=> ?_;replace hF:=fL hF a;clear a;exact t _ hF
 .rw[if_neg m];by_cases o:gd<s/\s<1000000*gd/\s%gd=0
  .rw[if_pos o];let⟨z,B,C⟩:=o;have N:(4294967296:Int)<s:=z;have D:s<1000000*4294967296:=B;have K:s%4294967296=0:=C;clear m z B C;have O:=DC s Z D Z;have M:=DF s Z D Z;rw[K]at M;obtain⟨p,S⟩:∃p,(s/4294967296+2147483648)%4294967296-2147483648=p:=⟨_,U⟩;have T:¬p<0:=Z
   have V:0<p:=Z
   have W:(p==1)=É:=by simp;omega
   apply jI (l:={l with d:=1,w:=q}) h hF (n:=150);iterate 3 w_go fL
   u_leave1 H.f_uAdd fL hF
   iterate 83 w_go fL
   refine Î λg a=> ?_;replace hF:=fL hF a;clear a;refine vB (l:={l with d:=1,w:=g}) h hF (Á U) U (λw=>Kn î fq U H.f_enable (Ĥ L) (ĥ L) (Ħ L) (ħ L) w) λj hF=> ?_;have r:Ï 1 #[j0 î]=0:=rfl;rw[r];apply jI (l:={l with d:=0,w:=j}) h hF (n:=10);u_leave0 H.f_add fL hF;refine Î λg a=> ?_;replace hF:=fL hF a;clear a;exact t _ hF
  .rw[if_neg o];trivial
end
def AN:θ->Nat->θ
 |.seq a _,0=>a
 |.seq _ b,_=>b
 |Τ _ a _,0=>a
 |Τ _ _ b,_=>b
 |ε _ a,_=>a
 |.loop a,_=>a
 |c,_=>c
def lX(f:Func)(l:List Nat):θ:=l.foldl AN<|f.body.getD ο
def pB(f:Ĵ)(a b:Array ã):Ů:={target:=.fn (.func f) a,args:=b}
def n5(P:Ğ):ø:={(default:ø)with fn:=P.funcs.size,defers:=[],mode:=.panicking [Ō]}
section
variable{b:ø}{a:ō}{k:List Ő}
def YF{h:Array ĳ}(c:Q[i]?=Ã o)(j:á o (Ĩ Q a.tmps)=Ì)(l:b.kind≠Đ) (e:o.op=.defer {callee:=.value qQ,args:=#[],argTypes:=h}) (g:a.eval qQ=.func (.func F) #[] d): è P yQ (G (b.at a<|Æ Q (i::jJ)::k) qX) w=Š (G (b.at (ő ⟨a.tmps,pB F d #[]::a.defers⟩ o.dst Â)<|Æ Q jJ::k) qX) w #[]:=by
 have m:(Þ a.eval o).run P w=.ok (.defer<|pB F d #[]) w:=by unfold Þ;simp[e,ĸ,Ĉ,g,pB]
 have n:(Þ a.eval o).events P w #[]=#[]:=by unfold Þ;simp[e,ĸ,Ĉ,g]
 have p:(b.at ⟨a.tmps,pB F d #[]::a.defers⟩<|Æ Q (i::jJ)::k).finish Â=b.at (ő ⟨a.tmps,pB F d #[]::a.defers⟩ o.dst Â) (Æ Q jJ::k):=by rw[ĩ,c];rfl
 have q:(b.kind==Đ)=É:=by simpa using l
 rw[Ζ c j,<-p];simp[stepG.apply,m,n,G,Frame.at,q,Ě,Ć]
def YG{m:Array ĳ}(n:Q[i]?=Ã o)(p:á o (Ĩ Q a.tmps)=Ì)(q:b.kind≠Đ) (h:o.op=Ŭ {callee:=.value qQ,args:=#[],argTypes:=m}) (j:a.eval qQ=.func (.func F) #[] d) (e:P.funcs[F]?=Ã s) (r:(s.name== "runtime.NumGoroutine")=É) (g:s.body=Ã wX): è P yQ (G (b.at a<|Æ Q (i::jJ)::k) qX) w=Š (G ((base F).at {tmps:=d++ê (s.ntmps-d.size) Â,defers:=[]} [ĵ wX])<|b.at a (Æ Q (i::jJ)::k)::qX) w #[]:=by
 have l:¬s.name= "runtime.NumGoroutine":=by simpa using r
 have t:(Þ a.eval o).run P w=.ok (.enter F d) w:=by unfold Þ;simp[h,ĸ,Ĉ,j,Ŝ,ŝ,e,l,g]
 have u:(Þ a.eval o).events P w #[]=#[]:=by unfold Þ;simp[h,ĸ,Ĉ,j,Ŝ,ŝ,e,l,g]
 rw[ŵ n p q t,<-enter_at d e g];unfold listed;rw[u,Ć]
def ait{g:Array ĳ}(d:Q[i]?=Ã o)(h:á o (Ĩ Q a.tmps)=Ì)(j:b.kind=ľ)(l:b.roundOf=Í)(m:f.mode=ù) (e:o.op=Ŭ {callee:=.builtin .recover,args:=#[],argTypes:=g}) (r:o.type=t): è P yQ (G (b.at a<|Æ Q (i::jJ)::k)<|f::qX) w=Š (G (b.at (a.put o.dst ā)<|Æ Q jJ::k)<|f::qX) w #[]:=by
 have n:(Þ a.eval o).run P w=.ok .recover w:=by unfold Þ;simp[e,ĸ,Ŝ,builtin]
 have p:(Þ a.eval o).events P w #[]=#[]:=by unfold Þ;simp[e,ĸ,Ŝ,builtin]
 have q:(b.at a<|Æ Q (i::jJ)::k).finish ā=b.at (a.put o.dst ā) (Æ Q jJ::k):=by rw[ĩ,d];rfl
 rw[Ζ d h,<-q];simp[stepG.apply,n,p,G,Frame.at,j,Ě,Ć,l,tryRecover,m]
def aiu{e:List Ů}(i:a.defers=pB F d #[]::e)(g:P.funcs[F]?=Ã s)(j:(s.name== "runtime.NumGoroutine")=É)(h:s.body=Ã wX): è P yQ (G {b.at a L with mode:=ù} qX) w= Š (G ((baseD F).at {tmps:=d++ê (s.ntmps-d.size) Â,defers:=[]} [ĵ wX])<|{b.at ⟨a.tmps,e⟩ L with mode:=ù}::qX) w #[]:=by
 have k:¬s.name= "runtime.NumGoroutine":=by simpa using j
 rw[<-enter_atD d g h];simp[G,è,Η,Ū,Frame.at,i,pB,Ŝ,ŝ,g,k,h,Ě,Ć]
def YH(a:P.funcs[F]?=Ã s)(e:(s.name== "runtime.NumGoroutine")=É)(b:s.body=Ã wX): è P yQ (born P<|pB F d #[]) w=Š (G ((baseD F).at {tmps:=d++ê (s.ntmps-d.size) Â,defers:=[]} [ĵ wX]) [n5 P]) w #[]:=by
 have g:¬s.name= "runtime.NumGoroutine":=by simpa using e
 rw[<-enter_atD d a b];simp[G,è,Η,Ū,born,n5,pB,Ŝ,ŝ,a,g,b,Ě,Ć]
def aiv(d:b.kind=ľ)(e:a.defers=[])(f:P.funcs[b.fn]?=Ã s)(c:s.results=#[]): è P yQ (G {b.at a L with mode:=ù} [n5 P]) w=Š (G (n5 P) []) w:=by have g:=results_none c a.tmps P w;have h:=events_results_none (P:=P) (w:=w) c a.tmps #[];simp[G,è,Η,doReturn,Frame.at,d,e,f,g,h,n5,Ō,seen,Ě]
def aiw(w:Ð):è P É (G (n5 P) []) w=Š {frame:=n5 P,callers:=[],status:=å,dying:=Í} w:=by simp[G,è,Η,n5,Ō,Frame.catches];rfl
def aix:rO P 0 (G (n5 P) []):=⟨1,.ctl U aiw ⟨U,U⟩⟩
def aiy(c:b.kind=ľ)(d:a.defers=[])(e:P.funcs[b.fn]?=Ã s)(f:s.results=#[]):rO P 0 (G {b.at a L with mode:=ù} [n5 P]):= Kr U (λ_=>aiv c d e f) aix
def aiz(e:b.kind=ľ)(g:a.defers=[])(h:P.funcs[b.fn]?=Ã s)(j:s.results=#[])(k:f.mode=ù)(l:rO P i (G f qX)):rO P i (G {b.at a L with mode:=ù}<|f::qX):= let⟨n,q⟩:=l;⟨n+1,.leaveD e g h j k q⟩
end
def aiA(d:Nat)(t:ĳ)(w:Ð)(a:Array đ)(h:P.underlying t=Ã (.interface<|P.methodsAt t)):(Θ (d+1) t ā ā).events P w a=a:=by simp[Θ,run_underlying h,go_sem]
def aiB(t:ĳ)(w:Ð)(a:Array đ)(h:P.underlying t=Ã (.interface<|P.methodsAt t)):(Op.equal t ā ā).events P w a=a:=aiA 9999 t w a h
def aiC(t:ĳ)(w:Ð)(a:Array đ)(h:P.underlying t=Ã (.interface<|P.methodsAt t)):(binOp .neq t ā ā).events P w a=a:=by simp only[binOp];simp[aiB t w a h]
section
variable{J:Jd}{l:ff}{b:ø}{a:ō}{k:List Ő}
def ko(l:ff):Prop:=∀j,l.O j->j<l.w.heap.size
def gl(a:ko l)(b:İ P yQ RT à (λc _=>fl P yQ J l c) n g l.w):fl P yQ J l g:= PF b (λ_ _ _=>trivial) a λ_ _ r h=>h.jw r
def vC(m:Q[i]?=Ã o)(n:á o (Ĩ Q a.tmps)=Ì)(p:b.kind≠Đ) (h:∀c,fJ l l.w c->uponK o a (λs e=>∃d,mE l d c e (listed P b.fn a o c)/\fl P yQ J d (G (b.at s<|Æ Q jJ::k) qX)) ((Þ a.eval o).run P c)): fl P yQ J l (G (b.at a<|Æ Q (i::jJ)::k) qX):=by
 refine .mk U λc r=> ?_;have f:=h c r;revert f;generalize q:(Þ a.eval o).run P c=res;intro f;match res,f with
 |.ok (.value v) e,⟨d,g,j⟩=>exact⟨_,e,_,d,Ń m n p q,g,j⟩
 |.ok .skip e,⟨d,g,j⟩=>exact⟨_,e,_,d,ŗ m n p q,g,j⟩
def xl(l:ff)(e:đ):Prop:=yz l e/\e.loc≠ŭ ô/\e.loc≠ŭ î
def Kt(h:∀e∈V,xl l e)(d:Nat):Ï d V=d:=ĺ (λe a=>⟨(h e a).2.1,(h e a).2.2⟩) d
def aiD(b:∀j,l.O j->j<w.heap.size)(c:¬l.q)(a:∀e∈V,xl l e):mE l {l with w:=w} w w V:= ⟨Ç _,λ_ h=>À h,b,U,U,U,U,λ_ _ _ _=>rfl,λ_ _ _ _=>rfl,λ_ _ _=>rfl,U,U,U,λe h=>(a e h).1,(Kt a _).symm,U,λq=>absurd q c,U⟩
def rQ(d:Q[i]?=Ã o)(f:á o (Ĩ Q a.tmps)=Ì)(g:b.kind≠Đ)(j:ko l)(m:¬l.q) (n:∀c,fJ l l.w c->(Þ a.eval o).run P c=.ok (.value v) c) (p:∀c,fJ l l.w c->∀e∈(Þ a.eval o).events P c #[],xl l e) (s:fl P yQ J l (G (b.at (a.put o.dst v)<|Æ Q jJ::k) qX)):fl P yQ J l (G (b.at a<|Æ Q (i::jJ)::k) qX):=by refine vC d f g λc r=> ?_;rw[n c r];exact⟨_,aiD (mI j r) m λe h=>p c r e<|Ι h,s.jw r⟩
def hD(l:ff)(x:Č):Prop:=l.M x.block\/l.C x
def hD.r{x:Č}(h:hD l x){w₁:Ð}(r:fJ l l.w w₁):w₁.cell? x=l.w.cell? x:=h.elim (λq=>gN<|r.I _ q)<|r.N x
def hD.C{x:Č}(h:hD l x):xl l ⟨ú x,É,É⟩:=by
 refine⟨À ⟨x,U,?_⟩,fq,fq⟩;rcases h with(q|q)|(q|q)
 .exact À q
 .exact Á<|Á ⟨À q,U,U⟩
 .exact Á<|À q
 .exact Á<|Á ⟨Á q,U,U⟩
def pC{x:Č}(f:Q[i]?=Ã o)(g:á o (Ĩ Q a.tmps)=Ì)(j:b.kind≠Đ)(m:ko l)(n:¬l.q)(c:hD l x)(d:l.w.cell? x=Ã v) (p:∀w,w.cell? x=Ã v->(Þ a.eval o).run P w=.ok (.value v) w) (s:∀w,w.cell? x=Ã v->(Þ a.eval o).events P w #[]=#[⟨ú x,É,É⟩]) (t:fl P yQ J l (G (b.at (a.put o.dst v)<|Æ Q jJ::k) qX)):fl P yQ J l (G (b.at a<|Æ Q (i::jJ)::k) qX):= rQ f g j m n (λw r=>p w<|(c.r r).trans d) (λw r e h=>by
  rw[s w<|(c.r r).trans d]at h;have:e=⟨ú x,É,É⟩:=by simpa using h
  subst this;exact c.C) t
def qg(l:ff)(x:Č):Prop:=l.O x.block\/l.r x
def qg.C(h:qg l p):hD l p:=h.elim (λq=>À<|À q) λq=>Á<|À q
def qg.r{x:Č}(h:qg l x):xl l ⟨ú x,Ì,É⟩:=⟨À ⟨x,U,h.elim À λq=>Á<|À q⟩,fq,fq⟩
end
end Go.Proofs.Y.fy
namespace Go.Proofs.Y.fy
open Go Go.Conc Go.Proofs.Y.Lift
section
variable{J:Jd}{l:ff}{b:ø}{cs:List ø}{ops:Array Ĭ}
def Q5(a:∀j,l.O j->j<w.heap.size)(b:¬l.q):mE l {l with w:={w with drawn:=w.drawn+1}} w {w with drawn:=w.drawn+1} #[]:= ⟨Ç _,λ_ h=>À h,a,U,U,U,U,λ_ _ _ _=>rfl,λ_ _ _ _=>rfl,λ_ _ _=>rfl,U,U,U,λe c=>by simp at c,by simp[Ï],U,λq=>absurd q b,U⟩
def jr(listed:Array Bool):Nat:=listed.countP λx=> !x
theorem Ku{listed:Array Bool}(h:listed.getD i Ì=É):jr (listed.setIfInBounds i Ì)+1=jr listed:=by
 have a:i<listed.size:=by grind
 have b:listed[i]=É:=by simpa[a]using h
 unfold jr;grind [Array.countP_pos_iff,Array.getElem_mem]
def Q6{md:Ý}{listed:Array Bool}(c:listed.size=ops.size)(h:jr listed=0):Ò md ops listed=[]:=by rw[List.eq_nil_iff_forall_not_mem];intro j a;let⟨b,o,d,_⟩:=ĉ.1 a;have:=Ku b;omega
def YI{md:Ý}(I:Array Bool->ō->ff->Prop) (p:∀c a l i k,I c a l->i∈Ò md ops c->fl P yQ (λh m=>∃f,m=G (b.at f<|Æ ops k::L) cs/\I (c.setIfInBounds i Ì) f h) l (G (b.at a<|Æ ops (i::k)::L) cs)) (n:∀c a l,I c a l->c.size=ops.size->Ò md ops c=[]->fl P yQ J l (G (b.at a<|Æ ops []::L) cs)): ∀(d t:Nat) (c:Array Bool) (a:ō) (l:ff),c.size=ops.size->jr c<=d->I c a l->fl P yQ J l (G (b.at a<|Æ ops (û md ops d t c [])::L) cs):=by
 intro d
 induction d with
 |zero=>
  intro t c a l e q g;simpa[û]using n c a l g e<|Q6 e Z
 |succ d r=>
  intro t c a l e q g;simp only[û];change fl P yQ J l (G (b.at a (Æ ops (match(Ò md ops c)[t%(Ò md ops c).length]? with
   |some i=>û md ops d (t/(Ò md ops c).length) (c.setIfInBounds i Ì) [i]
   |none=>[].reverse)::L)) cs)
  cases j:(Ò md ops c)[t%(Ò md ops c).length]? with
  |none=>
   have s:Ò md ops c=[]:=by
    cases u:Ò md ops c with
    |nil=>rfl
    |cons x o=>
     rw[u]at j;have v:t%(x::o).length<(x::o).length:=ż _ fq;simp at j;simp at v;omega
   simpa using n c a l g e s
  |some i=>
   simp only[];rw[linearise_go_acc,List.reverse_singleton,List.singleton_append];have o:=List.mem_of_getElem? j;refine(p c a l i _ g o).lS ?_;rintro h m ⟨f,rfl,s⟩;exact r _ _ f h (by simpa using e) (by have:=Ku (ĉ.1 o).1;omega) s
theorem DN(n:Nat):jr (ê n É)=n:=by unfold jr;grind [Array.countP_replicate]
def Q7{id:Nat}(I:Array Bool->ō->ff->Prop)(m:ko l)(n:¬l.q) (f:∀d,fJ l l.w d->I (ê ops.size É) y {l with w:={d with drawn:=d.drawn+1}}) (g:∀e c y l i h,I c y l->i∈Ò e ops c->fl P yQ (λo p=>∃j,p=G (b.at j<|Æ ops h::L) cs/\I (c.setIfInBounds i Ì) j o) l (G (b.at y<|Æ ops (i::h)::L) cs)) (k:∀e c y l,I c y l->c.size=ops.size->Ò e ops c=[]->fl P yQ J l (G (b.at y<|Æ ops []::L) cs)): fl P yQ J l (G (b.at y<|ĵ (Ģ id ops Ì)::L) cs):=by
 refine .mk U λd r=>⟨_,_,_,_,stepG_region_draw,Q5 (mI m r) n,?_⟩;unfold Region.schedule;split
 .exact YI I (g _) (k _) _ _ _ _ _ fq (by rw[DN];exact Ç _)<|f d r
 .exact YI I (g _) (k _) _ _ _ _ _ fq (by rw[DN];exact Ç _)<|f d r
end
def za(e:Edge):Bool:=match e.ground with|.textOnly _=>É|.gcOnly _=>É|_=>Ì
theorem YJ{md:Ý}{e:Edge}(h:za e=Ì):ū md e=Ì:=by unfold za at h;unfold ū;grind
structure mW(ops:Array Ĭ)(t0:Array ã)(val:Nat->ã)(listed:Array Bool)(a:ō):Prop where
 S:a.defers=[]
 M:a.tmps.size=t0.size
 Y:∀d,(∀j o,ops[j]?=Ã o->listed.getD j É=Ì->o.dst≠Ã d)->a.tmps[d]?=t0[d]?
 r:∀j o d,ops[j]?=Ã o->listed.getD j É=Ì->o.dst=Ã d->a.tmps[d]?=Ã (val j)
 N:∀j o e,ops[j]?=Ã o->listed.getD j É=Ì->e∈o.after->za e=Ì->listed.getD e.on É=Ì
def uC(a:Array Ĭ)(n:Nat):Bool:=(Κ a.size).all λi=>match(a.getD i default).dst with
 |none=>Ì
 |some d=>decide (d<n)&&(Κ a.size).all λj=>i==j||(a.getD j default).dst !=Ã d
section
variable{ops:Array Ĭ}{t0:Array ã}{val:Nat->ã}{listed:Array Bool}{a:ō}
def aiE(h:uC ops t0.size=Ì)(a:ops[i]?=Ã o)(b:o.dst=Ã n):n<t0.size:=by have:=(ġ.1 h) i<|ş.2<|(Õ.1 a).1;simp_all
theorem aiF(h:uC ops t0.size=Ì){a:Ĭ}(b:ops[i]?=Ã o)(e:ops[j]?=Ã a)(f:j≠i)(c:o.dst=Ã n):a.dst≠Ã n:=by have:=(ġ.1 h) i<|ş.2<|(Õ.1 b).1;simp[b,c]at this;grind
def mW.C(h:mW ops t0 val listed a){d:Nat}(b:ops.toList.all (λo=>o.dst !=Ã d)=Ì):a.tmps[d]?=t0[d]?:= h.Y d λj o c _ e=>by have:=ġ.1 b o<|Ī.2<|Array.mem_of_getElem? c;simp[e]at this
def Q8(h:(listed.setIfInBounds i Ì).getD j É=Ì):j=i\/listed.getD j É=Ì:=by by_cases e:i=j;all_goals simp_all
theorem mW.fS(h:mW ops t0 val listed a)(u:uC ops t0.size=Ì){md:Ý}(l:ops[i]?=Ã o)(p:i∈Ò md ops listed)(w:o.dst≠Í->v=val i):mW ops t0 val (listed.setIfInBounds i Ì) (a.put o.dst v):=by
 have y:=(ĉ.1 p).1;have r:∀j c e,ops[j]?=Ã c->(listed.setIfInBounds i Ì).getD j É=Ì->e∈c.after->za e=Ì->(listed.setIfInBounds i Ì).getD e.on É=Ì:=λj c e b f s t=>by
  rcases Q8 f with rfl|q
  .let⟨_,n,d,g⟩:=ĉ.1 p;rw[b]at d;obtain rfl:=È d;exact ĝ<|g e s<|YJ t
  .exact ĝ<|h.N j c e b q s t
 have x:(listed.setIfInBounds i Ì).getD i É=Ì:=by
  have n:i<listed.size:=by grind
  simp[n]
 cases k:o.dst with
 |none=>
  refine⟨h.S,h.M,λd m=>h.Y d λj c b f=>m j c b<|ĝ f,λj c d b f g=> ?_,r⟩;rcases Q8 f with rfl|q
  .rw[l]at b;obtain rfl:=È b;rw[k]at g;cases g
  .exact h.r j c d b q g
 |some e=>
  refine⟨h.S,by simp[ő,h.M],λd m=> ?_,λj c d b f g=> ?_,r⟩
  .simp only[ő];rw[í (λq=>m i o l x<|by rw[k,q])];exact h.Y d λj c b f=>m j c b<|ĝ f
  .simp only[ő];rcases Q8 f with rfl|q
   .rw[l]at b;obtain rfl:=È b;rw[k]at g;obtain rfl:=È g;have n:e<a.tmps.size:=by rw[h.M];exact aiE u l k
    simp[n,(w<|by rw[k];simp)]
   .have n:e≠d:=by
     grind [aiF]
    rw[í n];exact h.r j c d b q g
def mW.YK(h:mW ops t0 val listed a){b:Nat->ã}(e:∀j,listed.getD j É=Ì->b j=val j):mW ops t0 b listed a:= ⟨h.S,h.M,h.Y,λj o d f c g=>(by rw[e j c];exact h.r j o d f c g),h.N⟩
theorem il{md:Ý}(h:i∈Ò md ops listed)(b:ops[i]?=Ã o)(c:o.after.toList.any (λe=>e.on==j&&za e)=Ì):listed.getD j É=Ì:=by let⟨_,f,a,g⟩:=ĉ.1 h;rw[b]at a;obtain rfl:=È a;let⟨e,k,d⟩:=Ŀ.1 c;simp only[ŀ,beq_iff_eq]at d;grind [YJ]
def mW.I(h:mW ops t0 val listed a)(c:ops[i]?=Ã o)(d:listed.getD i É=Ì)(f:o.after.toList.any (λe=>e.on==j&&za e)=Ì):listed.getD j É=Ì:=by let⟨e,g,b⟩:=Ŀ.1 f;simp only[ŀ,beq_iff_eq]at b;rw[<-b.1];exact h.N i o e c d (Ī.1 g) b.2
theorem xm(h:listed.getD i Ì=É):¬listed.getD i É=Ì:=by grind
def YL(md:Ý)(ops:Array Ĭ):List Nat->List Nat->Bool
 |[],_=>Ì
 |i::r,seen=>(match ops[i]? with|some o=>o.after.toList.all (λe=> !Region.binds md e||seen.contains e.on)|none=>É)&&YL md ops r (i::seen)
theorem qh{md:Ý}(h:Ò md ops listed=[])(l:listed.size=ops.size):∀(b a:List Nat),YL md ops b a=Ì->(∀i∈a,listed.getD i É=Ì)->∀i∈b,listed.getD i É=Ì:=by
 intro b
 induction b with
 |nil=>intro a _ _ i c;cases c
 |cons j r m=>
  intro a n p i c;let⟨d,s⟩:=Bool.and_eq_true_iff.1 (show(_&&_)=Ì from n);have f:listed.getD j É=Ì:=by
   split at d
   .rename_i o g;have v:j<listed.size:=by rw[l];exact(Õ.1 g).1
    by_cases t:listed.getD j Ì=É
    .have:j∈Ò md ops listed:=ĉ.2 ⟨t,o,g,λe w x=>by
      grind⟩
     grind
    .grind
   .cases d
  rcases Ţ.1 c with rfl|q
  .exact f
  .exact m (j::a) s (λk u=>(Ţ.1 u).elim (λe=>e▸f)<|p k) i q
def mW.G(t:Array ã)(val:Nat->ã)(n:Nat):mW ops t val (ê n É) ⟨t,[]⟩:=by
 have a:∀j,¬(ê n É).getD j É=Ì:=λj q=>by rcases ģ j n with z|z;all_goals simp_all
 exact⟨U,U,λ_ _=>rfl,λj _ _ _ z=>absurd z<|a j,λj _ _ _ z=>absurd z<|a j⟩
theorem DR{md:Ý}(h:i∈Ò md ops listed):i<ops.size:=by let⟨_,o,a,_⟩:=ĉ.1 h;grind
def Q9{md:Ý}(h:i∈Ò md ops listed):listed.getD i Ì=É:=(ĉ.1 h).1
end
theorem aiG(h:a.spot.isSome=Ì):w.cell? a=Í:=by unfold World.cell?;grind
theorem Bh{x y:Č}(b:x.spot=Í)(h:y≠x):(w.setCell x v).cell? y=w.cell? y:=by
 by_cases c:y.spot.isSome=Ì
 .grind [aiG]
 .apply yC;let⟨d,e,f⟩:=x;let⟨g,i,a⟩:=y;simp only at b c|-;have:a=Í:=by cases a<;>simp_all
  grind
section
variable{J:Jd}{l:ff}{b:ø}{a:ō}{cs:List ø}{ops:Array Ĭ}
theorem YM(b:p.spot=Í)(d:(w.cell? p).isSome=Ì)(f:(u.cell? p).isSome=Ì)(r:fJ l w u):fJ l (w.setCell p v) (u.setCell p v):=by
 refine⟨by rw[j4,j4];exact r.r,λj c=> ?_,λy a=> ?_,λy a=> ?_,λy a h=> ?_⟩
 .by_cases e:j=p.block
  .subst e;unfold World.setCell;simp only[Array.getElem?_modify];rw[r.I _ c]
  .rw[lu e,lu e];exact r.I j c
 .by_cases e:y=p
  .grind [ü,AK]
  .rw[Bh b e,Bh b e];exact r.N y a
 .rw[sT,sT];exact r.Y y a
 .by_cases e:y=p
  .grind [yD]
  .rw[Bh b e]at h|-;exact r.S y a h
def YN(f:p.spot=Í)(g:∀j,l.O j->j<w.heap.size)(i:¬l.q)(c:qg l p)(d:∀e∈V,xl l e):mE l {l with w:=w.setCell p v} w (w.setCell p v) V:=by
 refine⟨by rw[j4];exact Ç _,λ_ h=>À h,λj k=>by rw[j4];exact g j k,U,U,U,U,λj _ a b=>lu λe=>c.elim (λq=>a<|e▸q) λq=>b p e.symm q,λy _ a b=>Bh f λe=> ?_,λ_ _ _=>OB,U,U,U,λe h=>(d e h).1,(Kt d _).symm,U,λq=>absurd q i,U⟩
 .subst e;exact c.elim a b
def aiH(m:ops[i]?=Ã o)(n:á o (Ĩ ops a.tmps)=Ì)(s:b.kind≠Đ)(t:ko l)(u:¬l.q)(g:p.spot=Í)(c:qg l p)(j:(l.w.cell? p).isSome=Ì)(y:o.dst=Í)(z:l.w.frozen? p=É) (B:∀w,(w.cell? p).isSome=Ì->w.frozen? p=É->(Þ a.eval o).run P w=.ok .skip (w.setCell p v)) (C:∀w,(w.cell? p).isSome=Ì->w.frozen? p=É->(Þ a.eval o).events P w #[]=#[⟨ú p,Ì,É⟩]) (D:fl P yQ J {l with w:=l.w.setCell p v} (G (b.at a<|Æ ops jJ::L) cs)):fl P yQ J l (G (b.at a<|Æ ops (i::jJ)::L) cs):=by
 refine vC m n s λd r=> ?_;have f:(d.cell? p).isSome=Ì:=by rwa[c.C.r r]
 have k:d.frozen? p=É:=by rw[<-z];exact c.C.elim (λq=>wW<|r.I _ q)<|r.Y p
 rw[B d f k];refine⟨_,YN g (mI t r) u c λe h=> ?_,?_⟩
 .have:=Ι h;rw[C d f k]at this;have:e=⟨ú p,Ì,É⟩:=by simpa using this
  subst this;exact c.r
 .have:(a.put o.dst Â)=a:=by rw[y];rfl
  rw[this];exact D.jw<|yV<|YM g j f r
end
def mj(l:ff):ff:={l with O:=λ_=>False,I:=l.M,r:=λ_=>False,N:=l.C}
def qN(l x:ff):ff:={x with O:=λb=>x.O b\/l.O b,I:=l.I,r:=l.r,N:=l.N}
structure jK(l l':ff):Prop where
 O:∀j,l.O j->l'.O j
 Y:∀j,l'.O j->l.O j\/l.w.heap.size<=j
 I:l'.I=l.I
 N:l'.r=l.r
 S:l'.N=l.N
 K:l'.K=l.K
 q:l'.q=l.q
 r:fJ l l.w l'.w
 fw:ko l'
theorem jK.fX{l:ff}(h:ko l):jK l l:=⟨λ_ h=>h,λ_ h=>À h,U,U,U,U,U,fJ.fX _ _,h⟩
def jK.C{l a:ff}(h:jK l a):a.C=l.C:=by unfold ff.C;rw[h.N,h.S]
def jK.M{l a:ff}(h:jK l a)(c:l.M b):a.M b:=c.imp (h.O b)<|by rw[h.I];exact id
def jK.G{l d:ff}(h:jK l d)(r:fJ d w u):fJ l w u:=⟨r.r,λj e=>r.I j<|h.M e,λx b=>r.N x (by rwa[h.C]),λx b=>r.Y x (by rwa[h.C]),λx b=>r.S x<|by rwa[h.K]⟩
def jK.jw{l a:ff}(h:jK l a){w₁:Ð}(r:fJ a a.w w₁):jK l {a with w:=w₁}:= ⟨h.O,h.Y,h.I,h.N,h.S,h.K,h.q,h.r.fh<|h.G r,mI h.fw r⟩
def gD.jw{l:ff}(s:gD l){w₁:Ð}(h:l.w.heap.size<=w₁.heap.size):gD {l with w:=w₁}:= ⟨s.c,s.Y,s.N,λb d=>Ê (s.fw b d) h,λa c=>Ê (s.I a c) h,λa c=>let⟨e,f,g⟩:=s.S a c;⟨e,Ê f h,g⟩⟩
def gD.r{l:ff}(s:gD l):ko l:=λj a=>s.fw j<|À a
section
variable{J:Jd}
theorem aiI{l x:ff}(d:x.I=l.M)(g:x.r=λ_=>False)(f:x.N=l.C){e:đ}(h:yz x e):yz (qN l x) e:=by
 rcases h with⟨a,b,c⟩|h|h|h|h|⟨a,b,c⟩
 .refine À ⟨a,b,?_⟩;rcases c with q|q|⟨q|q,z⟩
  .exact À<|À q
  .grind
  .rw[d]at q;rcases q with q|q
   .exact À<|Á q
   .exact Á<|Á ⟨À q,z⟩
  .rw[f]at q;rcases q with q|q
   .exact Á<|À q
   .exact Á<|Á ⟨Á q,z⟩
 .exact Á<|À h
 .exact Á<|Á<|À h
 .exact Á<|Á<|Á<|À h
 .exact Á<|Á<|Á<|Á<|À h
 .exact Á<|Á<|Á<|Á<|Á ⟨a,À b,c⟩
def YO{l x:ff}(a:x.I=l.M):(qN l x).M=x.M:=by
 funext b;refine propext ⟨λh=> ?_,λh=> ?_⟩
 .rcases h with(q|q)|q
  .exact À q
  .exact Á<|by rw[a];exact À q
  .exact Á<|by rw[a];exact Á q
 .rcases h with q|q
  .exact À<|À q
  .rw[a]at q;exact q.elim (λz=>À<|Á z) Á
theorem Kv{l x:ff}(c:x.r=λ_=>False)(b:x.N=l.C):(qN l x).C=x.C:=by
 funext a;refine propext ⟨λh=>Á (by rwa[b]),λh=> ?_⟩;rcases h with q|q
 .grind
 .rwa[b]at q
def fl.aiJ{l:ff}(s:gD l){x:ff}(h:fl P yQ J x g):x.I=l.M->x.r=(λ_=>False)->x.N=l.C->x.K=l.K->x.q=l.q->fJ l l.w x.w->(∀j,x.O j->l.w.heap.size<=j)->ko x-> fl P yQ (λb c=>∃a,J a c/\b=qN l a/\jK l b/\a.I=l.M/\a.N=l.C/\a.r=λ_=>False) (qN l x) g:=by
 induction h with
 |@fD x g h=>
  intro m f d o B p v E;refine .fD λc r=>⟨{x with w:=c},(h c ⟨r.r,λj b=>r.I j (by rwa[YO m]),λy a=>r.N y (by rwa[Kv f d]),λy a=>r.Y y (by rwa[Kv f d]),r.S⟩),U,?_,m,d,f⟩
  .refine⟨λj b=>Á b,λj b=>b.elim (λq=>Á<|v j q) À,U,U,U,o,B,p.fh ⟨r.r,λj b=>r.I j (b.elim (λq=>À<|Á q) Á),λy a=>r.N y a,λy a=>r.Y y a,λy a=>r.S y ?_⟩,λj b=> ?_⟩
   .show x.K y;rwa[o]
   .refine Ê ?_ r.r;rcases b with q|q
    .exact E j q
    .exact Ê (s.fw j<|À q) p.r
 |@jP x g G' W' E' L' iK h hd _ ih=>
  intro m f d o B p v E;refine .mk iK λc r=> ?_;have i:fJ x x.w c:=⟨r.r,λj b=>r.I j (by rwa[YO m]),λy a=>r.N y (by rwa[Kv f d]),λy a=>r.Y y (by rwa[Kv f d]),r.S⟩;have D:=hd c i;have n:=Ø p.r i.r;have z:∀j,j<l.w.heap.size->¬x.O j:=λj b q=>by have:=v j q;omega
  have t:∀y:Č,¬x.r y:=λy q=>by rwa[f]at q
  have F:fJ l c (W' c):=⟨D.C,λj b=>D.jZ j (Ê (s.fw j b) n) (z j<|s.fw j b) λy _=>t y,λy a=>D.N y (Ê (s.I y a) n) (z _<|s.I y a)<|t y,λy a=>JC<|D.Y y (Ê (s.I y a) n)<|z _<|s.I y a,λy a q=>by rwa[D.N y (Ê (s.S y a).2.1 n) (z _ (s.S y a).2.1)<|t y]⟩;refine⟨G' c,W' c,E' c,qN l<|L' c,h c i,?_,(ih c i (D.I.trans m) (D.r.trans f) (D.M.trans d) (D.k.trans o) (D.q.trans B) (by rw[D.b];exact(p.fh ⟨i.r,λj b=>i.I j (Á<|by rwa[m]),λy a=>i.N y (Á<|by rwa[d]),λy a=>i.Y y (Á<|by rwa[d]),λy a=>i.S y<|by rwa[o]⟩).fh F) (λj b=>(D.S j b).elim (v j) λq=>Ø n q) λj b=>by rw[D.b];exact D.fw j b)⟩
  .refine⟨D.C,λj b=> ?_,λj b=> ?_,U,U,U,D.k,λj b u G=>D.jZ j b (λq=>u<|À q) λy _=>t y,λy a u G=>D.N y a (λq=>u<|À q)<|t y,λy a u=>D.Y y a λq=>u<|À q,D.f,D.g,D.m,λe H=>aiI (D.I.trans m) (D.r.trans f) (D.M.trans d)<|D.c e H,D.h,D.q,λI=> ?_,D.b⟩
   .rcases b with q|q
    .exact(D.S j q).imp À id
    .exact À<|Á q
   .rcases b with q|q
    .exact D.fw j q
    .exact Ê (s.fw j<|À q)<|Ø n D.C
   .let⟨L,N,Q⟩:=D.i I;exact⟨L,N,by funext j;show((L' c).O j\/l.O j)=(x.O j\/l.O j);rw[Q]⟩
theorem fl.mj{l:ff}(s:gD l)(h:fl P yQ J (fy.mj l) g):fl P yQ (λe j=>∃b,J b j/\e=qN l b/\jK l e/\b.I=l.M/\b.N=l.C/\b.r=λ_=>False) l g:=by
 have:=h.aiJ s U U U U U (fJ.fX _ _) (λj q=>q.elim) λj q=>q.elim;have e:qN l (fy.mj l)=l:=by
  have:(λb=>False\/l.O b)=l.O:=by funext b;simp
  unfold qN fy.mj;simp only[this]
 grind
end
structure iG(E:Č->Prop)(l l':ff):Prop where
 O:∀j,l.O j->l'.O j
 h:∀j,l'.O j->l.O j\/l.w.heap.size<=j
 Y:l'.I=l.I
 I:l'.r=l.r
 c:l'.N=l.N
 K:l'.K=l.K
 q:l'.q=l.q
 d:l'.d=l.d
 fw:ko l'
 f:l.w.heap.size<=l'.w.heap.size
 r:∀j,l.M j->l'.w.heap[j]?=l.w.heap[j]?
 e:∀a,l.C a->¬E a->l'.w.cell? a=l.w.cell? a
 S:∀a,l.C a->l'.w.frozen? a=l.w.frozen? a
 b:∀a,l.K a->(l.w.cell? a).isSome=Ì->(l'.w.cell? a).isSome=Ì
 g:∀a,E a->(l.w.cell? a).isSome=Ì->(l'.w.cell? a).isSome=Ì
section
variable{E:Č->Prop}{l l' l'':ff}
theorem iG.fX(h:ko l):iG E l l:=⟨λ_ h=>h,λ_ h=>À h,U,U,U,U,U,U,h,Ç _,λ_ _=>rfl,λ_ _ _=>rfl,λ_ _=>rfl,λ_ _ h=>h,λ_ _ h=>h⟩
def iG.C(h:iG E l l'):l'.C=l.C:=by unfold ff.C;rw[h.I,h.c]
def iG.M(h:iG E l l')(a:l.M b):l'.M b:=a.imp (h.O b)<|by rw[h.Y];exact id
def iG.Ra(h:iG E l l')(f:∀a,E a->l.r a)(k:jK l' l'')(g:l''.d=l'.d):iG E l l'':=by have e:=h.C;refine⟨λj c=>k.O j<|h.O j c,λj c=>(k.Y j c).elim (h.h j) λq=>Á<|Ø h.f q,k.I.trans h.Y,k.N.trans h.I,k.S.trans h.c,k.K.trans h.K,k.q.trans h.q,g.trans h.d,k.fw,Ø h.f k.r.r,λj c=>(k.r.I j<|h.M c).trans<|h.r j c,λa b i=>(k.r.N a<|by rwa[e]).trans<|h.e a b i,λa b=>(k.r.Y a<|by rwa[e]).trans<|h.S a b,λa b q=>k.r.S a (by rwa[h.K])<|h.b a b q,λa b q=> ?_⟩;rw[k.r.N a (by rw[e];exact À<|f a b)];exact h.g a b q
def iG.N(h:iG E l l')(b:∀a,E a->l.r a)(r:fJ l' l'.w u):iG E l {l' with w:=u}:= h.Ra b (l'':={l' with w:=u}) ((jK.fX h.fw).jw r) U
def iG.qD(h:iG E l l')(s:gD l)(i:∀a,E a->l.r a){x:Č}(f:E x)(k:x.spot=Í)(m:(l'.w.cell? x).isSome=Ì):iG E l {l' with w:=l'.w.setCell x v}:=by
 refine⟨h.O,h.h,h.Y,h.I,h.c,h.K,h.q,h.d,λj c=> ?_,?_,λj c=>(lu λe=>s.N x (À<|i x f)<|e▸c).trans<|h.r j c,λa b g=>((Bh k λe=>g<|by rwa[e]).trans<|h.e a b g),λa b=>sT.trans<|h.S a b,λa b q=>yD<|h.b a b q,λa b q=>yD<|h.g a b q⟩
 .show j<(l'.w.setCell x v).heap.size;rw[j4];exact h.fw j c
 .show l.w.heap.size<=(l'.w.setCell x v).heap.size;rw[j4];exact h.f
def iG.G(h:iG E l l')(s:gD l):gD l' where
 c b hb:=by
  rw[h.Y];rcases h.h b hb with q|q
  .exact s.c b q
  .exact λz=>by have:=s.fw b<|Á z;omega
 Y a ha:=by rw[h.c];exact s.Y a<|by rwa[<-h.I]
 N a ha hb:=by
  rw[h.C]at ha;rcases hb with q|q
  .rcases h.h _ q with z|z
   .exact s.N a ha<|À z
   .have:=s.I a ha;omega
  .rw[h.Y]at q;exact s.N a ha<|Á q
 fw b hb:=by
  rcases hb with q|q
  .exact h.fw b q
  .rw[h.Y]at q;exact Ê (s.fw b<|Á q) h.f
 I a ha:=by rw[h.C]at ha;exact Ê (s.I a ha) h.f
 S a ha:=by
  rw[h.K]at ha;let⟨c,d,e⟩:=s.S a ha;refine⟨λq=> ?_,Ê d h.f,by rwa[h.I]⟩;rcases q with q|q
  .rcases h.h _ q with z|z
   .exact c<|À z
   .omega
  .rw[h.Y]at q;exact c<|Á q
end
section
variable{X:Type}{g:Array ã}{c:X->Nat->ã}{m:Array Bool->X->ff->Prop}{l:ff}{b:ø}{a:ō}{k:List Ő}{cs:List ø}{x:X}
def II(Q:Array Ĭ)(g:Array ã)(c:X->Nat->ã)(m:Array Bool->X->ff->Prop)(wJ:Array Bool)(a:ō)(l:ff):Prop:=∃x,mW Q g (c x) wJ a/\m wJ x l
def Kw(a:o.guard=Í)(y:Nat->Option Bool):á o y=Ì:=by unfold á;rw[a]
def iq(h:uC Q g.size=Ì)(j:mW Q g (c x) wJ a)(f:Q[i]?=Ã o)(n:o.guard=Í){md:Ý}(p:i∈Ò md Q wJ)(s:b.kind≠Đ)(t:ko l)(u:¬l.q) (v:∀d,fJ l l.w d->(Þ a.eval o).run P d=.ok (.value<|c x i) d) (y:∀d,fJ l l.w d->∀e∈(Þ a.eval o).events P d #[],xl l e) (z:∀d,fJ l l.w d->m (wJ.setIfInBounds i Ì) x {l with w:=d}): fl P yQ (λB C=>∃r,C=G (b.at r<|Æ Q jJ::k) cs/\II Q g c m (wJ.setIfInBounds i Ì) r B) l (G (b.at a<|Æ Q (i::jJ)::k) cs):= rQ f (Kw n _) s t u v y<|.fD λd r=>⟨_,U,x,j.fS h f p λ_=>rfl,z d r⟩
def Rb(h:uC Q g.size=Ì)(j:mW Q g (c x) wJ a)(f:Q[i]?=Ã o)(n:o.guard=Í)(e:o.dst=Í){md:Ý}(p:i∈Ò md Q wJ)(s:b.kind≠Đ)(t:ko l)(u:¬l.q){y:Č}(z:y.spot=Í)(B:qg l y)(C:(l.w.cell? y).isSome=Ì)(D:l.w.frozen? y=É) (E:∀w,(w.cell? y).isSome=Ì->w.frozen? y=É->(Þ a.eval o).run P w=.ok .skip (w.setCell y v)) (F:∀w,(w.cell? y).isSome=Ì->w.frozen? y=É->(Þ a.eval o).events P w #[]=#[⟨ú y,Ì,É⟩]) (H:∀d,fJ l (l.w.setCell y v) d->m (wJ.setIfInBounds i Ì) x {l with w:=d}): fl P yQ (λI J=>∃r,J=G (b.at r<|Æ Q jJ::k) cs/\II Q g c m (wJ.setIfInBounds i Ì) r I) l (G (b.at a<|Æ Q (i::jJ)::k) cs):=by refine aiH f (Kw n _) s t u z B C e D E F (.fD λd r=>⟨_,U,x,?_,H d<|yV r⟩);have:=j.fS h f p (v:=Â) λq=>absurd e q;rwa[e]at this
theorem YP(q:uC Q g.size=Ì)(s:mW Q g (c x) wJ a)(p:Q[i]?=Ã o)(t:o.guard=Í){md:Ý}(u:i∈Ò md Q wJ)(v:b.kind≠Đ)(y:ko l){f:Ĵ}{args:Array ã} (z:∀w,(Þ a.eval o).run P w=.ok (.enter f args) w) (B:∀w,(Þ a.eval o).events P w #[]=#[]) (C:∀d,fJ l l.w d->fl P yQ (λh n=>∃e,n=G ((b.at a<|Æ Q (i::jJ)::k).finish<|c e i) cs/\m (wJ.setIfInBounds i Ì) e h/\∀j,wJ.getD j É=Ì->c e j=c x j) {l with w:=d} (G (Ŷ P f args .normal)<|b.at a (Æ Q (i::jJ)::k)::cs)): fl P yQ (λh n=>∃r,n=G (b.at r<|Æ Q jJ::k) cs/\II Q g c m (wJ.setIfInBounds i Ì) r h) l (G (b.at a<|Æ Q (i::jJ)::k) cs):=by
 refine .mk U λd r=>⟨G (Ŷ P f args .normal)<|b.at a (Æ Q (i::jJ)::k)::cs,d,#[],{l with w:=d},?_,PE d<|mI y r,?_⟩
 .rw[ŵ p (Kw t _) v<|z d];unfold η;rw[B d,Ć]
 .refine(C d r).fQ ?_;rintro h n ⟨e,rfl,D,E⟩;refine⟨a.put o.dst<|c e i,?_,e,(s.YK E).fS q p u λ_=>rfl,D⟩;grind [ĩ]
end
end Go.Proofs.Y.fy
namespace Go.Proofs.YtgpphkdoanciiabGreatDoor
open Go Go.Conc Go.Conc.Lib
def Lk:ě:={add:=46,done:=49,wait:=36,relMerge:=89,disable:=52,enable:=54,inBubble:=60,associate:=90,fatal:=91,uOr:=92,uAdd:=93,raceRead:=94,uLoad:=53,uStore:=95,disassociate:=58,semrelease:=96,acquire:=55,isAssociated:=56,uCas:=57,raceWrite:=59,semacquire:=61,orU64:=134,addU64:=135,loadU64:=111,storeU64:=136,casU64:=112,tWgP:=155,tUP:=163,tAssoc:=195,tWg:=88,tAU:=85,tU64:=23,tUint:=161,tU32:=86,tPU32:=167,tPAU:=212,tPU64:=214,tNoCopy:=81,tANoCopy:=82,tAlign64:=83}
def qO:ŕ ī Lk where
 f_add:=Tryz.func46;f_done:=Tryz.func49;f_wait:=Tryz.func36;f_relMerge:=Tryz.func89;f_disable:=Tryz.func52;f_enable:=Tryz.func54;f_inBubble:=Tryz.func60;f_associate:=Tryz.func90;f_fatal:=Tryz.func91;f_uOr:=Tryz.func92;f_uAdd:=Tryz.func93;f_raceRead:=Tryz.func94;f_uLoad:=Tryz.func53;f_uStore:=Tryz.func95;f_disassociate:=Tryz.func58;f_semrelease:=Tryz.func96;f_acquire:=Tryz.func55;f_isAssociated:=Tryz.func56;f_uCas:=Tryz.func57;f_raceWrite:=Tryz.func59;f_semacquire:=Tryz.func61;f_orU64:=Tryz.func134;f_addU64:=Tryz.func135;f_loadU64:=Tryz.func111;f_storeU64:=Tryz.func136;f_casU64:=Tryz.func112;underlying_tWgP:=Tryz.underlying155;runUnderlying_tWgP:=Tryz.runUnderlying155;sizeOf_tWgP:=Tryz.sizeOf155;isAgg_tWgP:=Tryz.isAgg155;zeroValue_tWgP:=Tryz.zeroValue155;underlying_tUP:=Tryz.underlying163;runUnderlying_tUP:=Tryz.runUnderlying163;sizeOf_tUP:=Tryz.sizeOf163;isAgg_tUP:=Tryz.isAgg163;zeroValue_tUP:=Tryz.zeroValue163;underlying_tI32:=Tryz.underlying195;runUnderlying_tI32:=Tryz.runUnderlying195;sizeOf_tI32:=Tryz.sizeOf195;isAgg_tI32:=Tryz.isAgg195;zeroValue_tI32:=Tryz.zeroValue195;underlying_tWg:=Tryz.underlying88;runUnderlying_tWg:=Tryz.runUnderlying88;sizeOf_tWg:=Tryz.sizeOf88;isAgg_tWg:=Tryz.isAgg88;zeroValue_tWg:=Tryz.zeroValue88;underlying_tAU:=Tryz.underlying85;runUnderlying_tAU:=Tryz.runUnderlying85;sizeOf_tAU:=Tryz.sizeOf85;isAgg_tAU:=Tryz.isAgg85;zeroValue_tAU:=Tryz.zeroValue85;underlying_tU64:=Tryz.underlying23;runUnderlying_tU64:=Tryz.runUnderlying23;sizeOf_tU64:=Tryz.sizeOf23;isAgg_tU64:=Tryz.isAgg23;zeroValue_tU64:=Tryz.zeroValue23;underlying_tSh:=Tryz.underlying161;runUnderlying_tSh:=Tryz.runUnderlying161;sizeOf_tSh:=Tryz.sizeOf161;isAgg_tSh:=Tryz.isAgg161;zeroValue_tSh:=Tryz.zeroValue161;underlying_tU32:=Tryz.underlying86;runUnderlying_tU32:=Tryz.runUnderlying86;sizeOf_tU32:=Tryz.sizeOf86;isAgg_tU32:=Tryz.isAgg86;zeroValue_tU32:=Tryz.zeroValue86;underlying_tPU32:=Tryz.underlying167;runUnderlying_tPU32:=Tryz.runUnderlying167;sizeOf_tPU32:=Tryz.sizeOf167;isAgg_tPU32:=Tryz.isAgg167;zeroValue_tPU32:=Tryz.zeroValue167;underlying_tPAU:=Tryz.underlying212;runUnderlying_tPAU:=Tryz.runUnderlying212;sizeOf_tPAU:=Tryz.sizeOf212;isAgg_tPAU:=Tryz.isAgg212;zeroValue_tPAU:=Tryz.zeroValue212;underlying_tPU64:=Tryz.underlying214;runUnderlying_tPU64:=Tryz.runUnderlying214;sizeOf_tPU64:=Tryz.sizeOf214;isAgg_tPU64:=Tryz.isAgg214;zeroValue_tPU64:=Tryz.zeroValue214;underlying_t0:=Tryz.underlying0;runUnderlying_t0:=Tryz.runUnderlying0;sizeOf_t0:=Tryz.sizeOf0;isAgg_t0:=Tryz.isAgg0;zeroValue_t0:=Tryz.zeroValue0;underlying_t3:=Tryz.underlying3;runUnderlying_t3:=Tryz.runUnderlying3;sizeOf_t3:=Tryz.sizeOf3;isAgg_t3:=Tryz.isAgg3;zeroValue_t3:=Tryz.zeroValue3;underlying_t4:=Tryz.underlying4;runUnderlying_t4:=Tryz.runUnderlying4;sizeOf_t4:=Tryz.sizeOf4;isAgg_t4:=Tryz.isAgg4;zeroValue_t4:=Tryz.zeroValue4;underlying_t9:=Tryz.underlying9;runUnderlying_t9:=Tryz.runUnderlying9;sizeOf_t9:=Tryz.sizeOf9;isAgg_t9:=Tryz.isAgg9;zeroValue_t9:=Tryz.zeroValue9;underlying_t20:=Ĺ;runUnderlying_t20:=Tryz.runUnderlying20;sizeOf_t20:=Tryz.sizeOf20;isAgg_t20:=Tryz.isAgg20;zeroValue_t20:=Tryz.zeroValue20;underlying_t21:=Tryz.underlying21;runUnderlying_t21:=Tryz.runUnderlying21;sizeOf_t21:=Tryz.sizeOf21;isAgg_t21:=Tryz.isAgg21;zeroValue_t21:=Tryz.zeroValue21;room_tWg:=by decide+kernel
 room_tU32:=by decide+kernel
end Go.Proofs.YtgpphkdoanciiabGreatDoor
namespace Go.Proofs.Y.fy
open Go Go.Conc Go.Proofs.Y.Lift Go.RowKit Go.Conc.Lib Go.ConcR.Gen
open Go.Proofs Go.Proofs.YtgpphkdoanciiabGreatDoor
def YQ:Array Ĭ:=#[⟨Ã 3,.load 1<|ß 1,1, "waitgroup.go:258",#[],Í⟩,
 ⟨Ã 4,Ŭ {callee:=.value (ß 3),args:=#[],argTypes:=#[]},0, "waitgroup.go:258",#[⟨0,ý⟩],Í⟩]
section
variable{Ψ:Ð->Prop}{l:ff}
def YR(b:l.K ⟨i,0,Í⟩/\l.K ⟨i,1,Í⟩)(c:mh Ψ l i)(a:SW Ψ l i l.w)(e:l.d=0)(f:¬l.q)(j:hD l ⟨n,0,Í⟩)(k:l.w.cell? ⟨n,0,Í⟩=Ã (ì<|Ã ⟨i,0,Í⟩)): fl ī É (λl g=>yE ī É i (DL ī) (kE l) g) l (G ((baseD 47).at ⟨#[ì<|Ã ⟨n,0,Í⟩,v,x,z,jQ],[pB 48 #[ì<|Ã ⟨n,0,Í⟩] #[]]⟩ [Æ YQ []]) [n5 ī]):=by
 apply gl (n:=30) a.1;have hF:=trivial;iterate 2 w_go fC
 u_c (aiu U ŷ fZ U) fC hF
 walk_nrmf Tryz.f48;iterate 3 w_go fC
 u_c (ait U U U U U U U) fC hF
 walk_nrm;have m:=λw g=>aiC 20 w g Ĺ;repeat w_go fC
 refine Î λ_ _=> ?_;apply pC U U (by k_ne) a.1 f j k (λw h=>by go_simp) (λw h=>by simp[go_sem,h]);walk_nrm;apply gl (n:=30) a.1;u_call qO.f_done (nm_done Lk) doneFn fC hF;refine Î λ_ _=> ?_;apply ain qO b c a e;walk_nrm;apply Kr U λ_=>stepG_region_end;apply Kr U λ_=>stepG_end;refine aiz U U ŷ U U<|aiy U U Tryz.func47 U
end
end Go.Proofs.Y.fy
