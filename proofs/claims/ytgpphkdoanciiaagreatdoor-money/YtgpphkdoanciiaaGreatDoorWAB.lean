import Derived.Test.YtgpphkdoanciiaaGreatDoorWAA
import Derived.Conc.WgGenN3
import Derived.Conc.MuWords
import Derived.Conc.CompanyDraw
import Derived.Test.YtgpphkdoanciiaaGreatDoorRows
import Derived.Conc.WgLib
set_option linter.all false
set_option maxRecDepth 1000000
set_option maxHeartbeats 8000000
open Or renaming inl->À,inr->Á
open Go renaming undef->Â,Goroutine->Ä,deafBehind->Ï,World->Ð,execOp->ß,Trace->ä,Value->è,stepG->é,Frame->ü,MemOp->Ă,mem_ready->Ċ,Addr->Č,Event->ē,getD_set_true->Ĝ,Program->ĝ,yielded->Ĥ,TypeId->Ķ,FuncId->ķ,Oper->Ĺ,resolve->Ŀ,goexitEntry->ŗ,Act->Ř,runT->ř,invoke->ť,callFunc->Ŧ,callDeferred->ų,Item->ŵ,Deferred->ŷ,Operand->ž,unwind->Ξ,Mark->ε,runNT->ν,Code->ρ,Loc->ψ
open Option renaming some->Ã,none->Í,map_eq_some_iff->Ú,isSome_iff_exists->ì,getD_some->Ĉ
open Go.GoStatus renaming running->Å,blocked->Ý,finished->ç
open Nat renaming le_refl->Æ,lt_of_lt_of_le->Ê,le_of_eq->Õ,le_trans->Ù,le_mul_of_pos_right->ã,mul_le_mul_left->ð,lt_of_not_le->ò,zero_le->ó,add_zero->ô,le_of_not_lt->ą,and_two_pow_sub_one_eq_mod->Ć,mul_le_mul_right->č,strongRecOn->Đ,add_mul_mod_self_right->Ĕ,lt_or_ge->ģ,mod_eq_of_lt->ń,mul_add->ō,mod_lt->Γ
open Go.Item renaming inRegion->Ç,code->ĸ,inBlock->Ś,inLoop->θ
open Option.some renaming inj->È,injEq->Ļ
open Bool renaming false->É,true->Î,and_eq_true->Ō
open Go.MemAct renaming ofEvent->Ë,touch?->ċ,mark->Ě,start->Ĵ,go->ae
open Go.Conc.Goes renaming stop->Ì
open Go.ConcN renaming sumTo->Ñ,wraps_u64_63->ø,sumTo_congr->Ĭ
open Go.Region renaming ready->Ò,Mode->Þ,wanted->â,binds->Ŵ
open Go.IntKind renaming u64->Ó,u32->å,i64->Ł
open Go.Operand renaming tmp->Ô,const->í,func->ľ
open Array renaming getElem?_eq_some_iff->Ö,append_empty->Û,getElem?_eq_getElem->ê,replicate->ë,getElem?_setIfInBounds_ne->î,mem_toList_iff->ď
open Go.Conc renaming mem_ofEvents->Ø,crowd->ñ,semEvents->ö,woken->Ā,stepG_markAt->ă,stepG_load_atomic->Ą,seen_none->ć,stepG_mark0->Ď,stepG_semacquire_wait->ī,Goes->ĵ,deafBehind_still->ł,parked->Ń,stepG_semrelease->Ň,stepG_add_atomic->ň,stepG_semacquire->ŉ,stepG_value->Ŏ,rcase->ŝ,stepG_none->ş,goes_go->Ű,stepG_enter->Ż,QuitsD->ſ,touch_mute->Α,stepG_oper->Ν,mem_listed->Ρ,Knows->Υ,listed->π,Deaf->σ
open Go.MemOp renaming ofEvents->Ü
open Go.Ground renaming data->à,phase->ĥ
open Go.ConcR renaming DC0->á
open Go.Value renaming int->æ,pointer->ù,nilIface->ā,tuple->Ņ,bool->Δ
open Go.Mark renaming enable->ï,disable->õ,releaseMerge->ĳ,acquire->ĺ,write->κ
open Go.FrameMode renaming returning->ú
open Go.Act renaming eval->û,put->ś
open Go.Loc renaming cell->ý,mark->Ŷ
open Go.Region.linearise renaming go->þ
open Ne renaming symm->ÿ
open Go.Deferred renaming ofValue->ĉ
open Go.Goroutine renaming again->đ
open Go.CallKind renaming early->Ē,deferred->Ŋ
open Go.ConcR.Gen renaming x_semrelease_b->ĕ,x_semacquire_n->Ė,x_semacquire_b->ė,x_semacquire_x->Ę,x_semacquire_f->ę,x_enable_n->Ħ,x_enable_b->ħ,x_enable_x->Ĩ,x_enable_f->ĩ,x_loadU64_n->ĭ,x_loadU64_b->Į,x_loadU64_x->į,x_loadU64_f->İ,x_disable_n->ŏ,x_disable_b->Ő,x_disable_x->ő,x_disable_f->Œ,x_acquire_n->œ,x_acquire_b->Ŕ,x_acquire_x->ŕ,x_acquire_f->Ŗ,x_semrelease_n->š,x_semrelease_x->Ţ,x_semrelease_f->ţ,nm_uLoad->Ť,mayWake_entry->ū,body_wait->Ů,x_addU64_n->Ε,x_addU64_b->Ζ,x_addU64_x->Η,x_addU64_f->Θ,x_casU64_n->Ι,x_casU64_b->Κ,x_casU64_x->Λ,x_casU64_f->Μ
open Go.GStep renaming after->ě,go->ũ
open Go.Stepped renaming next->Ğ
open Go.Callee renaming value->Ġ
open List renaming all_eq_true->ġ,any_eq_true->ŋ,mem_range->Ũ,mem_cons->Ŭ,range->Τ
open Go.Code renaming region->Ģ,cond->ι,block->ο,skip->χ
open Go.Frame renaming finish_at->Ī,enter->ż
open Go.Proofs.Tryz renaming prog->ı,underlying20->ŀ,func64->Ž
open Go.Op renaming move->Ľ,call->Š,fieldAddr->ű,nilCheck->Ÿ,binOp->Ź,equalIn->Ο,assign->η
open Go.Conc.Lib renaming WgLink->ņ,WgLib->ŭ,uLoadFn->Ų
variable{i n j b k m J j9 j7 j6:Nat}{w u W jX:Ð}{v x z jQ:è}{g:Ä}{a p:Č}{h c:Int}{e t T:Ķ}{d q:Array è}{P:ĝ}{y:Ř}{B:ByteArray}{X:Nat->Prop}{O:Option Č}{l:List è}{yQ:Bool}{K H:Ř->Ð->Prop}{o:Ĺ}{D:Nat->Nat}{E:Array Ä}{L:List ŵ}{jJ:List Nat}{qX:List ü}{qQ:ž}{qJ:ä}{zX:ψ->Prop}{zQ:List Int}{zJ:Go.TypeInfo}{xX:ž->è}{xQ:Go.Tape}{xJ:Nat×Nat}{wX:ρ}{wQ:Ă}{wJ:Array Bool}{vX:List ByteArray}{vQ:è->Ð->Prop}{vJ:Go.Exit->Ř->Ð->Prop}{yX:Þ}{Q:Array Ĺ}{f:ü}{V:Array ē}{F:ķ}{s:Go.Func}
namespace Go.Proofs.Y.fu
open Go Go.Conc Go.Proofs.Y.Lift
open Go.ConcN (sumTo)
section
variable{F:Ph}{E:fS F}{S:Nat->Jd}{tr:Nat->gu}{c:Nat->iw}{lot:Nat->fc}{gs:Array Ä}{w':Ð}{t u:ä}{sz:Nat}
def wL(h:F.M b):F.G (fL b)/\F.G (gQ b):=⟨⟨b,h,À U⟩,⟨b,h,Á U⟩⟩
def wM(h:F.G a):E.Y a.block:=by obtain⟨b,c,rfl|rfl⟩:=h<;>exact À c
def iF.Y(L:iF F E lot sz w)(ok:F.Ok)(f:F.G a):∀i,i<sz->¬(lot i).C a:=by
 intro i g h;let⟨b,c,d⟩:=f;rcases L.gS i g a h with⟨k,_,e⟩|⟨p,_,e⟩
 .rcases d with rfl|rfl<;>simp[fL,gQ,jf]at e
 .rcases d with rfl|rfl
  .simp only[fL,jk]at e;injection e with e1 _ _;exact ok.C<|e1▸c
  .simp only[gQ,jk]at e;injection e with e1 _ _;exact ok.C<|e1▸c
def iF.sG(L:iF F E lot sz w)(c:Ps F E)(d:j+2<=E.r):∀i,i<sz->∀a:Č,a.block=E.I j->¬(lot i).C a:=by
 intro i f a b g;let⟨h,l,_⟩:=c.o j d;rcases L.gS i f a g with⟨k,m,e⟩|⟨p,_,e⟩
 .exact h<|by rw[<-b,e];exact Á ⟨k,m,U⟩
 .exact l<|by rw[<-b,e];rfl
def iF.agm(L:iF F E lot sz w):∀i,i<sz->∀a,(lot i).C a->a.spot=Í:=by intro i b a c;rcases L.gS i b a c with⟨k,_,rfl⟩|⟨p,_,rfl⟩<;>rfl
def iF.P0(L:iF F E lot sz w)(ok:F.Ok):∀i,i<sz->¬(lot i).r (jk F F.f):=by
 intro i a h;rcases L.gS i a _ (À h)with⟨k,b,e⟩|⟨p,c,e⟩
 .have:F.Y=F.I k:=by injection e
  exact ok.C<|by rw[this];exact Á ⟨k,b,U⟩
 .have:F.f=p:=by injection e
  exact c this.symm
structure Hg(F:Ph)(E:fS F)(lot:Nat->fc)(sz:Nat)(w w':Ð):Prop where
 Ep:w.heap.size<=w'.heap.size
 C:∀b,b<w.heap.size->¬E.Y b->(∀i,i<sz->¬(lot i).O b)->w'.heap[b]?=w.heap[b]?
 r:∀a:Č,((∃k,k<=F.m/\a=jf F.toFx k)\/∃p,a=jk F p)->(∀i,i<sz->¬(lot i).r a)->w'.cell? a=w.cell? a
 I:kR w' F.Y=kR w F.Y
 M:w'.os=w.os/\w'.output=w.output
def Wd.K1(W:Wd F E w)(H:gR F)(L:iF F E lot sz w)(a:Hg F E lot sz w w')(f:E.S.md<=F.m){d:GS}{e:Nat->GS}(g:hD w' F.C d)(h:∀k,k<=F.m->hD w' (F.I k) (e k))(i:∀j,j+2<=E.r->w'.heap[E.I j]?=w.heap[E.I j]?):Wd F {E with b:=d,a:=e} w' where
 C:=g;I:=h;jG j hj:=by have:=W.jG j hj;rwa[<-i j hj]at this
 M k hk:=⟨(W.M k hk).1,H.S _ _ _ _ _ (W.M k hk).2 (λb c=>a.C b (L.I k hk b c).1 (L.I k hk b c).2.1 (L.I k hk b c).2.2) (a.r _ (À ⟨k,Ù hk f,U⟩)<|L.N k hk) (a.r _ (Á ⟨_,U⟩)<|L.P0 H.C) a.I a.M⟩;S k h1 h2:=(a.r _ (Á ⟨_,U⟩)<|L.g k h1 h2).trans<|W.S k h1 h2;N j hj r hr hd:=(a.r _ (Á ⟨_,U⟩)<|L.d j hj r hr hd).trans<|W.N j hj r hr hd
def K2(a:Ps F E):E.S.md<=F.m:=by
 cases h:E.S with
 |kK k=>exact(a.I k).1 h
 |mk k=>have:=((a.I k).2.1 h).2;simp only[jx.md];omega
 |dn k p=>exact((a.I k).2.2 p h).2
def K3(a:Ps F E):E.S.rl<=E.S.md:=by
 cases h:E.S with
 |dn k p=>cases p<;>simp only[jx.rl,jx.md]<;>omega
 |_=>exact Æ _
def P1(a:jx):a.od<=a.rl:=by
 cases a with
 |dn k p=>cases p<;>simp only[jx.rl,jx.od]<;>omega
 |_=>exact Æ _
def Xj{x:Nat}(h:E.iq x):E.n7 x:=by let⟨e,a,b⟩:=h;exact⟨e,a,by cases e<;>first|exact b|trivial⟩
def K4{l a:fc}(h:l=kz l)(b:mo l a w w' V):a=kz a:=by
 have j:l.q:=by rw[h];trivial
 have c:a.O=λ_=>False:=by rw[(b.i j).2.2,h];rfl
 have e:a.I=λ_=>False:=by rw[b.I,h];rfl
 have f:a.r=λ_=>False:=by rw[b.r,h];rfl
 have g:a.N=λ_=>False:=by rw[b.M,h];rfl
 have i:a.q=True:=by rw[b.q,h];rfl
 obtain⟨O,k,m,n,d,q,o⟩:=a;simp only at c e f g i;subst c e f g i;rfl
theorem iF.fp(L:iF F E lot gs.size w)(C:iP F.S (λi=>i<gs.size) E.Y lot w t){m:fc}(N:i<gs.size)(f:mo (lot i) m w w' V):iF F E (gq lot i m) gs.size w':=by
 have B:∀x,E.n7 x->i=F.L+x->m=kz m:=λx p e=>K4 (e▸L.S x p) f;have D:=λc g=>K4 (L.c i c g) f;have G:∀k a,(gq lot i m k).C a↔(lot k).C a:=λk a=>by
  by_cases e:k=i
  .subst e;rw[gT];unfold fc.C;rw[f.r,f.M]
  .rw[gH lot _ e]
 have n:∀k,(gq lot i m k).r=(lot k).r:=λk=>by
  by_cases e:k=i
  .subst e;rw[gT,f.r]
  .rw[gH lot _ e]
 have s:∀k,(gq lot i m k).N=(lot k).N:=λk=>by
  by_cases e:k=i
  .subst e;rw[gT,f.M]
  .rw[gH lot _ e]
 have u:∀k,(gq lot i m k).I=(lot k).I:=λk=>by
  by_cases e:k=i
  .subst e;rw[gT,f.I]
  .rw[gH lot _ e]
 refine⟨λk l a v=>L.gS k l a<|(G k a).1 v,λx c g a v=>by rw[n];exact L.o x c g a v,λh=>by rw[s,u];exact L.lP h,λh k c g=>by rw[n];exact L.e h k c g,λh o=>by rw[s,u];exact L.f h o,λj d o r y c=>by rw[n];exact L.h j d o r y c,λj d o=>by rw[s,u];exact L.l j d o,λx p=> ?_,λk l=> ?_,λk c g=> ?_,λk l b H=> ?_,λk l j d=>by rw[n];exact L.N k l j d,λk c g j d=>by rw[n];exact L.g k c g j d,λj d r y I k l=>by rw[n];exact L.d j d r y I k l⟩
 .by_cases e:F.L+x=i
  .rw[e,gT];exact B x p e.symm
  .rw[gH lot _ e];exact L.S x p
 .by_cases e:k=i
  .subst e;rw[gT,f.q];exact L.M k l
  .rw[gH lot _ e];exact L.M k l
 .by_cases e:k=i
  .subst e;rw[gT];exact D c g
  .rw[gH lot _ e];exact L.c k c g
 .let⟨J,K,M⟩:=L.I k l b H;refine⟨Ê J f.C,K,λj d=> ?_⟩;by_cases e:j=i
  .subst e;rw[gT];intro q;rcases f.S b q with z|z;all_goals grind
  .rw[gH lot _ e];exact M j d
def agn(C:iP F.S (λi=>i<gs.size) E.Y lot w t){h:fc}(d:i<gs.size)(c:mo (lot i) h w w' V):Hg F E lot gs.size w w':= ⟨c.C,λb j e f=>c.jO b j (f i d) λa g q=>e<|g▸C.e i d a (À q),λa g f=>by
   have e:E.Y a.block:=by
    rcases g with⟨k,l,rfl⟩|⟨p,rfl⟩
    .exact À<|Á ⟨k,l,U⟩
    .exact Á<|À U
   exact c.N a (C.N _ e) (λq=>C.I i d _ (À q) e)<|f i d,
  c.Y (jk F 0) (C.N _ (Á (À U))) λq=>C.I i d _ (À q) (Á (À U)),c.f,c.g⟩
def Xk(L:iF F E lot gs.size w)(ok:F.Ok)(C:iP F.S (λi=>i<gs.size) E.Y lot w t){g:fc}(e:i<gs.size)(c:mo (lot i) g w w' V)(f:F.M b){G:GS}(h:hD w b G):hD w' b G:=by have a:E.Y b:=À f;have d:=λq=>C.I i e _ (À q) a;exact h.vi (c.N (fL b) (C.N _ a) d λq=>(L.Y ok (wL f).1 i e)<|À q) (c.N (gQ b) (C.N _ a) d λq=>(L.Y ok (wL f).2 i e)<|À q) (KM<|c.Y (fL b) (C.N _ a) d)<|KM<|c.Y (gQ b) (C.N _ a) d
def agp(L:iF F E lot gs.size w)(e:Ps F E)(C:iP F.S (λi=>i<gs.size) E.Y lot w t){f:fc}(b:i<gs.size)(g:mo (lot i) f w w' V)(c:j+2<=E.r):w'.heap[E.I j]?=w.heap[E.I j]?:=by have d:E.Y (E.I j):=Á<|Á ⟨j,c,U⟩;exact g.jO _ (C.N _ d) (λq=>C.I i b _ (À q) d) λa h q=>L.sG e c i b a h<|À q
theorem agq(L:iF F E lot gs.size w)(H:Ps F E)(ok:F.Ok)(C:iP F.S (λi=>i<gs.size) E.Y lot w t)(P:gs.size=F.L+E.r){m:fc}{p:Array ē}{u:ķ}{B:String}(o:i<gs.size)(g:mo (lot i) m w w' p): KZ F.toFx E.r (E.S.rl) E.V E.d E.iq t (Ü i u B p) i:=by
 have J:∀x,E.iq x->i=F.L+x->m=kz m:=λx l e=>K4 (e▸L.S x (Xj l)) g;have D:∀c∈Ü i u B p,∀a,c.act.touch?=Ã a->∃y:Č,a.loc=ý y/\(m.O y.block\/m.r y\/((m.I y.block\/m.N y)/\a.write=É)):=λc d a n=>by obtain⟨e,r,rfl⟩:=Ø d;exact W0 (g.c e r) n
 have I:m=kz m->∀c∈Ü i u B p,c.act.touch?=Í:=λe c d=>by
  cases h:c.act.touch? with
  |none=>rfl
  |some a=>
   let⟨y,_,q⟩:=D c d a h;rw[e]at q;rcases q with q|q|⟨q|q,_⟩<;>exact q.elim
 refine⟨λc d _ _=>n5 c d,?_,λc d a x n G l=> ?_,λc d a y n Q G k h s=> ?_,λc d b _ e=> ?_,λx l K=> ?_⟩
 .by_cases j:i=0
  .exact À j
  .by_cases f:i<F.L
   .exact Á<|Á<|I<|(λh s=>K4 (L.c i h s) g) Z f
   .exact Á<|À ⟨i-F.L,Z,Z⟩
 .exfalso;let⟨y,j,q⟩:=D c d a n;rw[G]at j;injection j with j;subst j;have f:=wM (E:=E) l;have v:=L.Y ok l i o;rcases q with q|q|⟨q|q,_⟩
  .rcases g.S _ q with z|z
   .exact C.I i o _ (À z) f
   .have:=C.N _ f;omega
  .exact v<|À<|by rwa[<-g.r]
  .exact C.I i o _ (Á<|by rwa[<-g.I]) f
  .exact v<|Á<|by rwa[<-g.M]
 .have j:=Ù s<|K3 H;let⟨x,l,q⟩:=D c d a n;rw[G]at l;injection l with l;subst l;rcases q with q|q|⟨_,q⟩
  .refine⟨λv=> ?_,λe=> ?_⟩
   .let⟨M,_,N⟩:=L.I k j _ v;rcases g.S _ q with z|z;all_goals grind
   .have f:E.Y y.block:=by rw[e];exact À<|Á ⟨k,Ù j<|K2 H,U⟩
    rcases g.S _ q with z|z
    .exact C.I i o _ (À z) f
    .have:=C.N _ f;omega
  .refine⟨λv=>((L.I k j _ v).2.1<|C.e i o y<|À<|by rwa[<-g.r]),λe=>(L.N k j i o<|by rwa[<-g.r,<-e])⟩
  .grind
 .obtain⟨j,r,rfl⟩:=Ø d;have v:=g.c j r;let⟨M,N,S⟩:=j;simp only[Ë]at e;rcases v with⟨a,h,_⟩|h|⟨f,h⟩|h|h|⟨a,_,h|h|h|h⟩<;>(simp only at h;subst h;simp at e)
 .by_cases e:F.L+x=i
  .have v:=I<|J x K e.symm;refine⟨λr f=>f.app λj S T M=> ?_,λ_ c d a n=>by rw[v c d]at n;cases n⟩;let⟨z,N,_⟩:=M;rcases mL (show touchAt (t++_) j=Ã z from N)with⟨q,_⟩|⟨_,c,h,s,_⟩;all_goals grind
  .exact⟨λr f=>f.appOther n5<|ÿ e,λj=>absurd j e⟩
end
abbrev tO:=Nat×Nat×gu
def yv(x y:tO):Prop:=x.1<y.1\/(x.1=y.1/\(x.2.1<y.2.1\/(x.2.1=y.2.1/\W5 x.2.2 y.2.2)))
def Xl:WellFounded yv:=by
 refine⟨λx=> ?_⟩;let⟨a,b,c⟩:=x
 induction a using Đ generalizing b c with
 |_ a j=>
  induction b using Đ generalizing c with
  |_ b k=>
   induction W6.apply c with
   |intro c _ l=>
    refine⟨_,λy h=> ?_⟩;let⟨m,f,e⟩:=y;rcases h with h|⟨d,h|⟨g,i⟩⟩
    .exact j m h f e
    .simp only at d h;subst d;exact k f h e
    .simp only at d g i;subst d g;exact l e i
def agr(x:tO):¬yv x x:=by
 intro h
 induction Xl.apply x with
 |intro x _ a=>exact a x h h
def D1(n:Nat)(f g:Nat->tO):Prop:=∃i,i<n/\yv (f i) (g i)/\∀j,j<n->j≠i->f j=g j\/yv (f j) (g j)
def Xm:∀(n:Nat) (g:Nat->tO),Acc (D1 n) g
 |0,g=>⟨_,λf ⟨i,h,_⟩=>absurd h Z⟩
 |n+1,g=>by
  have k:∀(x:tO) (h:Nat->tO),∀g:Nat->tO,g n=x->(∀j,j<n->g j=h j)->Acc (D1<|n+1) g:=by
   intro x
   induction Xl.apply x with
   |intro x _ l=>
    intro h
    induction Xm n h with
    |intro h _ m=>
     intro g b c;refine⟨_,λf ⟨i,r,a,d⟩=> ?_⟩;by_cases e:f n=g n
     .have s:i≠n:=by
       intro q;subst q;rw[e]at a;exact agr _ a
      refine m f ⟨i,Z,by rwa[<-c i Z],λj o p=> ?_⟩ f (e.trans b) λ_ _=>rfl;rw[<-c j o];exact d j Z p
     .have:yv (f n) x:=by
       rw[<-b];by_cases q:n=i
       .rwa[q]
       .exact(d n Z q).resolve_left e
      exact l _ this f f U λ_ _=>rfl
  exact k (g n) g g U λ_ _=>rfl
abbrev Mu:=(Nat->tO)×Nat
def o5(n:Nat)(x y:Mu):Prop:=D1 n x.1 y.1\/((∀j,j<n->x.1 j=y.1 j)/\x.2<y.2)
def agt(n:Nat):WellFounded (o5 n):=by
 have e:∀h:Nat->tO,∀k:Nat,∀g:Nat->tO,(∀j,j<n->g j=h j)->Acc (o5 n) (g,k):=by
  intro h
  induction Xm n h with
  |intro h _ l=>
   intro k
   induction k using Đ with
   |_ k m=>
    intro g a;refine⟨_,λy q=> ?_⟩;let⟨f,b⟩:=y;rcases q with⟨i,c,o,x⟩|⟨p,r⟩
    .exact l f ⟨i,c,by rwa[<-a i c],λj d s=>by rw[<-a j d];exact x j d s⟩ b f λ_ _=>rfl
    .exact m b r f λj x=>(p j x).trans<|a j x
 exact⟨λx=>e x.1 x.2 x.1 λ_ _=>rfl⟩
section
variable(F:Ph)
def jF.rk(n:Nat):jF->Nat
 |.jD=>n+1011
 |.iE=>n+1010
 |.gy W=>min W (n+1000)+4
 |.ja W=>min W (n+1000)+3
 |.iy r=>min r (n+1000)+2
def jq.rk:jq->Nat
 |.iW=>7
 |.lW _=>6
 |.wr=>5
 |.ky=>4
 |.gy=>3
 |.kY=>2
def fU.rk(F:Ph):fU->Nat
 |.iE j=>F.q+F.n+20+4*(F.n-j)+7
 |.rd j=>F.q+F.n+20+4*(F.n-j)+6
 |.lC j=>F.q+F.n+20+4*(F.n-j)+5
 |.go j=>F.q+F.n+20+4*(F.n-j)+4
 |.iI r=>r+F.n+11
 |.kS r=>r+10
 |.fy p=>p.rk+2
 |.gd=>0
def jx.rk(F:Ph):jx->Nat
 |.kK k=>(F.n+3000)*(F.m+2-k)+2900
 |.mk k=>(F.n+3000)*(F.m+3-k)+2800
 |.dn k p=>(F.n+3000)*(F.m+2-k)+2901+p.rk F.n
def gM.rk(F:Ph):gM->Nat
 |.nj r=>(F.n+3000)*(F.q+3-r)
 |.fy r p=>(F.n+3000)*(F.q+3-r)-20+p.rk
 |.jH r=>(F.n+3000)*(F.q+3-r)-30
 |.nh r=>(F.n+3000)*(F.q+3-r)-40
def ig.rk(F:Ph):ig->Nat×Nat
 |.oD=>(F.n+2900,0)
 |.gd p=>(p.rk F.n,0)
 |.jo N=>(0,N)
end
def SP.rk(B:Nat)(st:Int):SP->Nat
 |.fZ k=>B+2+k
 |.ld v k=>if st=v then k+1 else 2*B+3+k
def jq.ll(B:Nat)(st:Int):jq->Nat
 |.lW p=>p.rk B st
 |_=>0
section
variable{F:Ph}
def fS.iQ(E:fS F)(tr:Nat->gu)(i:Nat):tO:=
 if i=0 then(E.M.rk F,0,tr 0)
 else if i<F.L then(0,E.h i,.fA)
 else match E.N (i-F.L)with
  |some e=>((e.rk F).1,(e.rk F).2,tr i)
  |none=>if i=F.L then(E.S.rk F,0,tr i)else((E.C<|i-F.L-1).rk F,0,tr i)
def fS.ll(E:fS F)(i:Nat):Nat:=
 if i=0 then(match E.M with|.fy p=>p.ll F.B E.b.st|_=>0)
 else if i<=F.L then 0
 else match E.C (i-F.L-1)with|.fy r p=>p.ll F.B (E.a<|F.r<|i-F.L-1+r*F.n).st|_=>0
def gk(gs:Array Ä)(i:Nat):Nat:=if(gs[i]?).any (·.status==.running)then 1 else 0
def Ph.N(F:Ph):Nat:=F.L+F.n+1
def fS.mu(E:fS F)(a:Nat->gu)(b:Array Ä):Mu:=(E.iQ a,Ñ F.N λi=>(F.N+1)*E.ll i+gk b i)
end
theorem Hh{b x:Ä}(h:(Ā P g b w x).status=Ý):Ā P g b w x=x/\x.status=Ý:=by
 unfold Ā at h|-;split at h
 .rename_i c;rw[if_pos c];unfold đ at h|-;grind
 .grind
section
variable{F:Ph}{E:fS F}{S:Nat->Jd}{tr:Nat->gu}{d:Nat->iw}{lot:Nat->fc}{gs gs':Array Ä}{w':Ð}{t u:ä}{sl:Option (Nat×Nat)}
def fg.G9(h:fg F E gs w)(o:gs'[i]?=Ã g)(p:g.status≠Ý)(t:∀k,k≠i->∃a f:Ä,gs'[k]?=gs[k]?.map (Ā F.P a f w'))(u:∀j,j+2<=E.r->w'.heap[E.I j]?=w.heap[E.I j]?):fg F E gs' w':=by
 intro k x b l;by_cases e:k=i
 .subst e;rw[o]at b;obtain rfl:=È b;exact absurd l p
 .let⟨a,f,q⟩:=t k e;rw[q]at b;obtain⟨y,v,rfl⟩:=Ú.1 b;let⟨_,z⟩:=Hh l;rcases h k y v z with h1|⟨j,c,m,n,d|⟨r,B,s,C,d,D⟩⟩
  .exact À h1
  .exact Á ⟨j,c,m,n,À d⟩
  .exact Á ⟨j,c,m,n,Á ⟨r,B,s,C,d,by rwa[u j c]⟩⟩
def lD{J:Jd}(a:∀l g,J l g->g.status=Å\/g.status=ç){l:fc}(h:fh P yQ J l g):g.status=Å\/g.status=ç:=by
 cases h with
 |fA h=>exact a _ _<|h _<|fI.fT _ _
 |jv _ _ _ _ b=>exact À b
def agu(H:gR F)(p:PI F m zX E S tr d lot gs w t){i:Nat}(hi:i<gs.size):∀l g,S i l g->g.status=Å\/g.status=ç:=by
 have dn:∀(main:Bool) (b:Nat) (J:Jd),(∀l g,J l g->g.status=Å\/g.status=ç)->∀(p:jF) l g,El F.P main b J p l g->g.status=Å\/g.status=ç:=by
  intro main b J hJ p l g h;cases p with
  |jD=>exact À h.2.1
  |iE=>exact À h.2.1
  |gy W=>exact À h.2.1
  |ja W=>exact À h.2.1
  |iy r=>cases r with
   |zero=>exact hJ l g h
   |succ r=>exact À h.2.1
 have wt:∀(main:Bool) (b:Nat) (J:Jd) (p:jq) l g,qH F.P main F.B b J p l g->g.status=Å:=by
  intro main b J p l g h;cases p with
  |iW=>let⟨k,_,_,T,h1,h2⟩:=h;exact(h2 _ _ h1).1
  |lW p=>let⟨_,T,h1,h2⟩:=h;exact(h2 _ _ h1).1
  |wr=>exact h.2.1
  |ky=>exact h.2.1
  |gy=>exact h.2.1
  |kY=>exact h.2.1
 intro l g h;by_cases e0:i=0
 .subst e0;rw[p.h.1]at h;cases hm:E.M with
  |go j=>rw[hm]at h;exact À<|H.I _ _ _ _ h
  |lC j=>rw[hm]at h;let⟨c,h⟩:=h;exact À<|H.I _ _ _ _ h
  |rd j=>rw[hm]at h;exact À h.2.1
  |iE j=>rw[hm]at h;exact À h.2.1
  |iI r=>
   rw[hm]at h;have cl:∀r l g,Aw F E.I r l g->g.status=Å:=λr l g h=>by
    cases r with
    |zero=>exact wt _ _ _ .iW _ _ h
    |succ r=>exact h.1
   cases r with
   |zero=>exact À<|cl _ _ _ h
   |succ r=>exact À h.1
  |kS r=>
   rw[hm]at h;cases r with
   |zero=>exact À<|wt _ _ _ .iW _ _ h
   |succ r=>exact À h.1
  |fy p=>rw[hm]at h;exact À<|wt _ _ _ _ _ _ h
  |gd=>rw[hm]at h;exact À<|H.M _ _ _ h
 by_cases e1:i<F.L
 .rw[(p.l i Z e1).1]at h;exact QuitsD.status h
 have jr:=p.b;obtain⟨x,rfl⟩:∃x,i=F.L+x:=⟨i-F.L,Z⟩;cases he:E.N x with
 |some e=>
  rw[(p.k x e Z he).1]at h;cases e with
  |oD=>exact À h.2.1
  |gd p=>exact dn _ _ _ (λl g ⟨N,h⟩=>h.status) _ _ _ h
  |jo N=>exact QuitsD.status h
 |none=>
  cases x with
  |zero=>
   rw[ô,(p.m Z he).1]at h;cases hm:E.S with
   |kK k=>rw[hm]at h;exact À<|H.N _ _ _ h
   |mk k=>rw[hm]at h;let⟨s',V,_,_,_,_,h⟩:=h;exact À h.2.1
   |dn k p=>rw[hm]at h;exact dn _ _ _ (λl g h=>lD (λl g h=>À<|H.N _ _ _ h) h) _ _ _ h
  |succ j=>
   rw[show F.L+(j+1)=F.L+1+j by omega,(p.g j Z he).1]at h;cases hm:E.C j with
   |nj r=>rw[hm]at h;exact À h.1
   |fy r p=>rw[hm]at h;exact À<|wt _ _ _ _ _ _ h
   |jH r=>rw[hm]at h;exact À<|H.Y _ _ _ _ h
   |nh r=>rw[hm]at h;exact À h.2.1
def agv{T:gu}(h:k≠i):E.iQ (fw tr i T) k=E.iQ tr k:=by
 unfold fS.iQ;split
 .rename_i e;subst e;rw[fH tr _ h]
 .split
  .rfl
  .rw[fH tr _ h]
theorem agw{k:Ð->gu}(a:tr i=.jv k)(b:¬(0<i/\i<F.L)):yv (E.iQ (fw tr i<|k w) i) (E.iQ tr i):=by
 unfold fS.iQ;split
 .rename_i e;subst e;rw[gC,a];exact Á ⟨U,Á ⟨U,w,U⟩⟩
 .split
  .grind
  .rw[gC,a];split
   .exact Á ⟨U,Á ⟨U,w,U⟩⟩
   .split<;>exact Á ⟨U,Á ⟨U,w,U⟩⟩
theorem PI.fp(H:gR F)(p:PI F m zX E S tr d lot gs w t){k:Ð->gu}(D:gs[i]?=Ã g)(f:tr i=.jv k): ∃gs' w' u e q,ř F.P (ñ gs w sl) i=(Ğ<|ñ gs' w' sl,u)/\gs'.size=gs.size/\PI F m zX E S e d q gs' w' (t++u)/\o5 F.N (E.mu e gs') (E.mu tr gs):=by
 have c:=(Ö.1 D).1;let⟨gs',w',X,Y,K,G,⟨g',M,O⟩,Q,h,T⟩:=p.I.fp (sl:=sl) D f<|agu H p c;have I:¬(0<i/\i<F.L):=λ⟨a,b⟩=>by rw[(p.l i a b).2.1]at f;cases f
 have C:=p.I.r;have J:∀j,j+2<=E.r->w'.heap[E.I j]?=w.heap[E.I j]?:=λj v=>agp p.a p.C C c h v;have V:i<F.N:=by
  have:=p.b;have:E.r<=F.n+1:=by
   unfold fS.r;cases e:E.M with
   |go j=>have:=p.C.C j<|À e;simp only[fU.sp];omega
   |lC j=>have:=p.C.C j<|Á<|À e;simp only[fU.sp];omega
   |rd j=>have:=p.C.C j<|Á<|Á<|À e;simp only[fU.sp];omega
   |iE j=>have:=p.C.C j<|Á<|Á<|Á e;simp only[fU.sp];omega
   |_=>simp only[fU.sp];omega
  unfold Ph.N;omega
 refine⟨gs',w',_,_,_,K,G,⟨G.trans p.b,T,p.h,p.m,p.g,λx e l o=> ?_,λs l o=> ?_,?_,p.M.K1 H p.a (agn (E:=E) C c h) (K2 p.C) (Xk p.a H.C C c h (À U) p.M.C) (λs q=>Xk p.a H.C C c h (Á ⟨s,q,U⟩)<|p.M.I s q) J,p.C,p.d.C<|agq p.a p.C H.C C p.b c h,p.c.G9 M (by rcases O with q|q<;>rw[q]<;>simp) Q J,λj r l o W=>(p.f j r l o W).app _⟩,À ⟨i,V,agw f I,λj _ v=>À<|agv v⟩⟩
 .let⟨y,z,B⟩:=p.k x e l o;refine⟨y,z,λq=> ?_⟩;have:=B q;rw[fH tr _ (λe=>by rw[<-e,this]at f;cases f)];exact this
 .let⟨y,z,B⟩:=p.l s l o;refine⟨y,?_,B⟩;rw[fH tr _ (λe=>by subst e;exact I ⟨l,o⟩)];exact z
 .have:=p.a.fp C c h;grind
end
end Go.Proofs.Y.fu
namespace Go.Proofs.Y.fu
open Go Go.Conc Go.Proofs.Y.Lift
open Go.ConcN (sumTo sumTo_congr)
def agx{J b:Jd}(c:∀l g,J l g->b l g):∀{T:gu} {l:fc} {g:Ä},kX P yQ J T l g->kX P yQ b T l g:=by
 intro T
 induction T with
 |fA=>exact λh a r=>c _ _<|h a r
 |jv k d=>
  intro l g h;refine⟨h.1,λa r=> ?_⟩;let⟨e,f,i,j,m,n,o⟩:=h.2 a r;exact⟨e,f,i,j,m,n,d a o⟩
section
variable{F:Ph}{E E':fS F}{S:Nat->Jd}{tr d:Nat->gu}{kp:Nat->iw}{c:Nat->fc}{gs gs':Array Ä}{u:ä}{sl:Option (Nat×Nat)}
def gL.kK{Y:Nat->Prop}(a:gL P n Y S tr kp c gs w qJ){J:Jd}(h:∀l g,S i l g->J l g):gL P n Y (fw S i J) tr kp c gs w qJ:=by
 refine⟨a.r,λk x f=> ?_,a.I⟩;let⟨g0,b,d⟩:=a.C k x f;by_cases e:k=i
 .subst e;rw[gC];exact⟨g0,agx h b,d⟩
 .rw[fH S _ e];exact⟨g0,b,d⟩
def Er:E.iQ tr 0=(E.M.rk F,0,tr 0):=by simp[fS.iQ]
theorem K5(ok:F.Ok){x:Nat}{e:ig}(a:E.N x=Ã e):E.iQ tr (F.L+x)=((e.rk F).1,(e.rk F).2,tr<|F.L+x):=by have:=ok.r;unfold fS.iQ;grind
theorem P3(ok:F.Ok)(a:E.N 0=Í):E.iQ tr F.L=(E.S.rk F,0,tr F.L):=by have:=ok.r;unfold fS.iQ;grind
theorem tP(ok:F.Ok)(a:E.N (j+1)=Í):E.iQ tr (F.L+1+j)=((E.C j).rk F,0,tr<|F.L+1+j):=by have:=ok.r;unfold fS.iQ;grind
theorem yw(a:k=0->E'.M.rk F=E.M.rk F)(b:0<k->k<F.L->E'.h k=E.h k)(c:F.L<=k->E'.N (k-F.L)=E.N (k-F.L))(e:k=F.L->E.N 0=Í->E'.S.rk F=E.S.rk F)(f:F.L<k->E.N (k-F.L)=Í->(E'.C<|k-F.L-1).rk F=(E.C<|k-F.L-1).rk F)(g:d k=tr k):E'.iQ d k=E.iQ tr k:=by unfold fS.iQ;grind
def Hi(a:i<F.N)(h:yv (E'.iQ d i) (E.iQ tr i))(b:∀k,k≠i->E'.iQ d k=E.iQ tr k):o5 F.N (E'.mu d gs') (E.mu tr gs):= À ⟨i,a,h,λj _ c=>À<|b j c⟩
def Es(a:Ps F E):E.r<=F.n+1:=by
 unfold fS.r;cases b:E.M with
 |go j=>have:=a.C j<|À b;simp only[fU.sp];omega
 |lC j=>have:=a.C j<|Á<|À b;simp only[fU.sp];omega
 |rd j=>have:=a.C j<|Á<|Á<|À b;simp only[fU.sp];omega
 |iE j=>have:=a.C j<|Á<|Á<|Á b;simp only[fU.sp];omega
 |_=>simp only[fU.sp];omega
def PI.G(p:PI F b zX E S tr kp c gs w qJ)(h:i<gs.size):i<F.N:=by have:=p.b;have:=Es p.C;unfold Ph.N;omega
def gN(E:fS F)(j:Nat)(x:gM):fS F:={E with C:=fw E.C j x}
def jK(j:Nat)(x:gM):(gN E j x).C j=x:=gC _ _ _
def iL(x:gM)(h:i≠j):(gN E j x).C i=E.C i:=fH _ _ h
def Xn{x:gM}(h:∀k,x.gE F j k=(E.C j).gE F j k)(k:Nat):(Ñ F.n λi=>((gN E j x).C i).gE F i k)=Ñ F.n λi=>(E.C i).gE F i k:=by
 refine Ĭ λi _=> ?_;by_cases e:i=j
 .subst e;rw[jK,h]
 .rw[iL x e]
def Et(ok:F.Ok){x:gM}{T:gu}(b:F.L+1+j<F.N)(a:E.N (j+1)=Í)(h:x.rk F<(E.C j).rk F):o5 F.N ((gN E j x).mu (fw tr (F.L+1+j) T) gs') (E.mu tr gs):=by
 refine Hi b (À ?_) λk c=>yw (λ_=>rfl) (λ_ _=>rfl) (λ_=>rfl) (λ_ _=>rfl) (λd _=> ?_)<|fH tr _ c
 .rwa[tP ok (E:=gN E j x) (show(gN E j x).N (j+1)=Í from a),tP ok a,jK]
 .rw[iL x Z]
def Ps.G(h:Ps F E){x:gM}(m:j+2<=E.r)(d:E.N (j+1)=Í)(c:∀k,x.gE F j k=(E.C j).gE F j k)(f:∀r,((∃p,x=.fy r p)\/x=.jH r\/x=.nh r)->j+r*F.n<F.q) (g:∀r,(x=.fy r .gy\/x=.fy r .kY\/x=.jH r)->F.r (j+r*F.n)<=E.S.od) (i:∀r,x=.fy r .gy->∃a b,E.a (F.r<|j+r*F.n)=.gV a b) (l:∀r,x=.fy r .wr->E.d (F.r<|j+r*F.n)=Ã j):Ps F (gN E j x) where
 v:=h.v;C:=h.C;K:=h.K;L:=h.L;J:=h.J;I:=h.I;z j' oE:=by have:E.r<j'+2:=oE;rw[iL x Z];exact h.z j' oE
 d j' r oE hx:=by
  by_cases e:j'=j
  .subst e;rw[jK]at hx;exact f r hx
  .rw[iL x e]at hx;exact h.d j' r oE hx
 l j' oE hx:=by
  have e:j'≠j:=λe=>by subst e;exact hx d
  rw[iL x e];exact h.l j' oE hx
 f:=h.f;h:=h.h;M:=h.M;o:=h.o;t:=h.t;g:=h.g;u:=h.u;N:=h.N;B:=h.B;e k h1 h2 h3:=by rw[Xn c];exact h.e k h1 h2 h3
 Y k h1 h2:=by rw[Xn c];exact h.Y k h1 h2
 w j' r oE hx:=by
  by_cases e:j'=j
  .subst e;rw[jK]at hx;exact g r hx
  .rw[iL x e]at hx;exact h.w j' r oE hx
 H j' r oE hx:=by
  by_cases e:j'=j
  .subst e;rw[jK]at hx;exact i r hx
  .rw[iL x e]at hx;exact h.H j' r oE hx
 O:=h.O;S:=h.S;y:=h.y;D j' r oE hx:=by
  by_cases e:j'=j
  .subst e;rw[jK]at hx;exact l r hx
  .rw[iL x e]at hx;exact h.D j' r oE hx
def vk(E:fS F)(j:Nat)(x:gM)(k:Nat)(G:GS)(a:Nat->Option Nat):fS F:={gN E j x with a:=fw E.a k G,d:=a}
theorem Ps.Xo(h:Ps F E){x:gM}{G:GS}{l:Nat->Option Nat}(Q:j+2<=E.r)(C:E.N (j+1)=Í)(D:∀c,c≠k->x.gE F j c=(E.C j).gE F j c) (H:1<=k->E.S.od<k->G=.cl 1 (Ñ F.n λi=>((fu.gN E j x).C i).gE F i k)) (I:k<=E.S.od->(∃W,(E.S=.dn k (.gy W)\/E.S=.dn k (.ja W))/\G=.jE W/\W=Ñ F.n λi=>((fu.gN E j x).C i).gE F i k)\/(∃r s,E.S=.dn k (.iy r)/\0<r/\G=.gV r s/\r+s=Ñ F.n λi=>((fu.gN E j x).C i).gE F i k)\/((∀p,E.S≠ .dn k p)/\((G=.cl 0 0/\(Ñ F.n λi=>((fu.gN E j x).C i).gE F i k)=0)\/∃s,G=.gV 0 s/\s=Ñ F.n λi=>((fu.gN E j x).C i).gE F i k))) (J:(∃a b,E.a k=.gV a b)->∃a b,G=.gV a b) (K:G=.cl 1 0->l k=Í) (L:∀c,c≠k->l c=E.d c) (S:∀y,E.d k=Ã y->l k=Ã y) (T:∀r,((∃p,x=.fy r p)\/x=.jH r\/x=.nh r)->j+r*F.n<F.q) (M:∀r,(x=.fy r .gy\/x=.fy r .kY\/x=.jH r)->F.r (j+r*F.n)<=E.S.od) (N:∀r,x=.fy r .gy->∃a b,fw E.a k G (F.r<|j+r*F.n)=.gV a b) (O:∀r,x=.fy r .wr->l (F.r<|j+r*F.n)=Ã j):Ps F (vk E j x k G l):=by
 have z:∀c,c≠k->(Ñ F.n λi=>((vk E j x k G l).C i).gE F i c)=Ñ F.n λi=>(E.C i).gE F i c:=λc u=>by
  refine Ĭ λi _=> ?_;by_cases e:i=j
  .subst e;show((fu.gN E i x).C i).gE F i c=_;rw[jK,D c u]
  .show((fu.gN E j x).C i).gE F i c=_;rw[iL x e]
 have v:∀c,c≠k->(vk E j x k G l).a c=E.a c:=λc u=>fH _ _ u;have gs:(vk E j x k G l).a k=G:=gC _ _ _;have w:(vk E j x k G l).C j=x:=jK _ _;have o:∀d,d≠j->(vk E j x k G l).C d=E.C d:=λd g=>iL x g;refine⟨h.v,h.C,h.K,h.L,h.J,h.I,λd g=> ?_,λd r g f=> ?_,λd g f=> ?_,h.f,h.h,h.M,h.o,h.t,h.g,h.u,h.N,h.B,λc t m B=> ?_,λc t m=> ?_,λd r g f=> ?_,λd r g f=> ?_,h.O,h.S,λc t m=> ?_,λd r g f=> ?_⟩
 .have:E.r<d+2:=g;rw[o d Z];exact h.z d g
 .by_cases e:d=j
  .simp_all
  .rw[o d e]at f;exact h.d d r g f
 .rw[o d (λe=>by subst e;exact f C)];exact h.l d g f
 .by_cases e:c=k
  .subst e;rw[gs];exact H t B
  .rw[v c e,z c e];exact h.e c t m B
 .by_cases e:c=k
  .subst e;rw[gs];exact I m
  .rw[v c e,z c e];exact h.Y c t m
 .by_cases e:d=j
  .subst e;rw[w]at f;exact M r f
  .rw[o d e]at f;exact h.w d r g f
 .by_cases e:d=j
  .subst e;rw[w]at f;exact N r f
  .rw[o d e]at f;have:=h.H d r g f;by_cases P:F.r (d+r*F.n)=k
   .rw[P]at this|-;rw[gs];exact J this
   .grind
 .by_cases e:c=k
  .subst e;rw[gs]at m;exact K m
  .rw[v c e]at m;show l c=Í;rw[L c e];exact h.y c t m
 .by_cases e:d=j
  .subst e;rw[w]at f;exact O r f
  .rw[o d e]at f;have:=h.D d r g f;show l _=Ã d;grind
def iF.r(h:iF F E c n w){x:gM}(g:x.kA=(E.C j).kA):iF F (gN E j x) c n w:=by
 have f:∀a,((fu.gN E j x).C a).kA=(E.C a).kA:=λa=>by
  by_cases e:a=j
  .subst e;rw[jK,g]
  .rw[iL x e]
 exact⟨h.gS,h.o,h.lP,h.e,h.f,λa e b r d i=>h.h a e b r d (by rwa[<-f]),h.l,h.S,h.M,h.c,h.I,h.N,h.g,λa e r b d=>h.d a e r b<|by rwa[<-f]⟩
def Wd.Y(h:Wd F E w){x:gM}(b:x.kA=(E.C j).kA)(c:x.iK=(E.C j).iK):Wd F (gN E j x) w:=by
 have d:∀a,((fu.gN E j x).C a).kA=(E.C a).kA:=λa=>by
  by_cases e:a=j
  .subst e;rw[jK,b]
  .rw[iL x e]
 have f:∀a,((fu.gN E j x).C a).iK=(E.C a).iK:=λa=>by
  by_cases e:a=j
  .subst e;rw[jK,c]
  .rw[iL x e]
 exact⟨h.C,h.I,λa e=>by rw[f];exact h.jG a e,h.M,h.S,λa e r g i=>h.N a e r g<|by rwa[<-d]⟩
structure qI(F:Ph)(E:fS F)(S:Nat->Jd)(tr:Nat->gu)(kp:Nat->iw):Prop where
 M:S 0=JM F E.I E.M/\kp 0=kM E.M
 Y:0<E.r->E.N 0=Í->S F.L=JI F E.c E.S/\kp F.L=.no
 I:∀j,j+2<=E.r->E.N (j+1)=Í->S (F.L+1+j)=JW F (E.I j) j (E.C j)/\kp (F.L+1+j)=kW F (E.I j) (E.C j)
 C:∀x e,x<E.r->E.N x=Ã e->S (F.L+x)=JE F e/\kp (F.L+x)=.no/\((∃N,e=.jo N)->tr (F.L+x)=.fA)
 r:∀i,0<i->i<F.L->S i=oC F.P (E.h i)/\tr i=.fA/\kp i=.no
def PI.N(p:PI F b zX E S tr kp c gs w qJ):qI F E S tr kp:=⟨p.h,p.m,p.g,p.k,p.l⟩
def PI.r(a:qI F E S tr kp)(d:gs.size=F.L+E.r)(e:gL F.P F.S E.Y S tr kp c gs w qJ)(f:iF F E c gs.size w)(g:Wd F E w)(h:Ps F E)(i:TI F.toFx b zX E.r E.S.rl E.V E.e E.d E.iq E.f qJ)(k:fg F E gs w) (l:∀j r,j+2<=E.r->E.C j=.jH r->1<=F.r (j+r*F.n)->Υ qJ (F.L+1+j) (E.e<|F.r<|j+r*F.n)):PI F b zX E S tr kp c gs w qJ:=⟨d,e,a.M,a.Y,a.I,a.C,a.r,f,g,h,i,k,l⟩
def qI.N(h:qI F E S tr kp)(ok:F.Ok){x:gM}{T:gu}(k:j+2<=E.r)(f:E.N (j+1)=Í):qI F (gN E j x) (fw S (F.L+1+j)<|JW F (E.I j) j x) (fw tr (F.L+1+j) T) (fw kp (F.L+1+j)<|kW F (E.I j) x):=by
 have:=ok.r;refine⟨by rw[fH S _ Z,fH kp _ Z];exact h.M,λb a=>by rw[fH S _ Z,fH kp _ Z];exact h.Y b a,λd b a=> ?_,λy e b a=> ?_,λi b a=>by rw[fH S _ Z,fH kp _ Z,fH tr _ Z];exact h.r i b a⟩
 .by_cases e:d=j
  .subst e;rw[gC,gC,jK];exact⟨U,U⟩
  .rw[fH S _ Z,fH kp _ Z,iL x e];exact h.I d b a
 .have c:F.L+y≠F.L+1+j:=λe=>by
   have g:y=j+1:=Z
   subst g;have:E.N (j+1)=Ã _:=a;rw[f]at this;cases this
  rw[fH S _ c,fH kp _ c,fH tr _ c];exact h.C y e b a
end
def tR(F:Fx)(e:ē):Prop:=(∃(x:Č) (a:Bool),F.G x/\e=⟨ý x,a,Î⟩)\/e.loc=Ŷ õ\/e.loc=Ŷ ï
theorem Hj{F:Fx}{e:ē}(h:tR F e){b:Touch}(c:(Ë e).touch?=Ã b):∃x,F.G x/\b.loc=ý x/\b.kind=.atomic:=by
 let⟨f,a,g⟩:=e;rcases h with⟨x,i,j,d⟩|h|h
 .injection d with e1 e2 e3;subst e1 e2 e3;have:(Ë ⟨ý x,a,Î⟩).touch?=Ã ⟨ý x,a,.atomic⟩:=by cases a<;>rfl
  grind
 .simp only at h;subst h;simp[Ë,ċ]at c
 .simp only at h;subst h;simp[Ë,ċ]at c
section
variable{F:Ph}{E E':fS F}{S:Nat->Jd}{tr l:Nat->gu}{f:Nat->iw}{c:Nat->fc}{gs gs':Array Ä}{u:ä}{m:Option (Nat×Nat)}
def yx(E:fS F)(i:Nat):Prop:=i=0\/∃x,x<E.r/\i=F.L+x
theorem gL.N{Y:Nat->Prop}(e:gL P n Y S tr f c gs w qJ)(h:gs[i]?=Ã g)(k:g.status=Å)(j:tr i=.fA)(a:f i=.no\/f i=.iy):∀b,fI (c i) (c i).w b->S i {c i with w:=b} g:=by
 let⟨g0,hF,d,_,_⟩:=e.C i g h;rw[j]at hF;have:g=g0:=by rcases a with a|a<;>rw[a]at d<;>cases d;all_goals grind
 subst this;exact hF
theorem Xp(b:TI F.toFx j zX E.r E.S.rl E.V E.e E.d E.iq E.f qJ)(c:yx E i)(d:n<j)(a:qJ.g? n=Ã 0):Υ qJ i n:=by
 rcases c with rfl|⟨x,e,rfl⟩
 .let⟨g,f,h⟩:=Ú.1 a;have:=knows_own f;grind
 .exact b.Au x e n d a
theorem agy(g:∀c,¬Race c qJ)(d:TI F.toFx j zX E.r E.S.rl E.V E.e E.d E.iq E.f qJ)(h:yx E i){f:Array ē}{k:ķ}{l:String}(m:∀e∈f,tR F.toFx e):∀c,¬Race c (qJ++Ü i k l f):=by
 refine Pr g n5 λz n b o=> ?_;obtain⟨e,r,rfl⟩:=Ø n;let⟨x,s,t,u⟩:=Hj (m e r) o;refine Á (Á ⟨u,λp a v q w=> ?_⟩);rcases d.M p a x v (q.trans t) s with⟨w,y⟩|q|⟨q,_⟩
 .exact Xp d h w y
 .grind
 .grind
def agz(L:iF F E c gs.size w)(ok:F.Ok)(C:iP F.S (λi=>i<gs.size) E.Y c w qJ)(f:∀e∈V,tR F.toFx e):∀e∈V,(∀b,(Ë e).touch?=Ã b->G7 (λi=>i<gs.size) E.Y c b)/\(Ë e).low w.heap.size:=by
 intro e g;refine⟨λb j=> ?_,?_⟩
 .let⟨x,a,d,_⟩:=Hj (f e g) j;exact À ⟨x,d,wM a,λk h=>L.Y ok a k h⟩
 .rcases f e g with⟨x,k,a,d⟩|h|h
  .subst d;have:=C.N _<|wM (E:=E) a;cases k<;>exact this
  .let⟨l,k,m⟩:=e;simp only at h;subst h;trivial
  .let⟨l,k,m⟩:=e;simp only at h;subst h;trivial
def Ax(d:Nat)(a:Array ē):Prop:=∀(j:Nat) (e:ē),a[j]?=Ã e->(Ë e).touch?=Í\/((∃b c,e=⟨ý b,c,Î⟩)/\0<Ï d (a.extract 0 j))
theorem agA(L:iF F E c gs.size w)(t:Ps F E)(C:iP F.S (λi=>i<gs.size) E.Y c w qJ)(u:yx E i){g:Array ē}{o:ķ}{p:String}(m:∀e∈g,tR F.toFx e) (z:∀x,E.iq x->i=F.L+x->(∀e∈g,∀b,(Ë e).touch?=Ã b->∃y:Č,b.loc=ý y/\y.block=F.C)/\Ax (σ qJ i) g):KZ F.toFx E.r E.S.rl E.V E.d E.iq qJ (Ü i o p g) i:=by
 refine⟨λj d _ _=>n5 j d,u.imp id À,λj d a x l _ _=> ?_,λj d a y l _ B k D n=> ?_,λj d b _ e=> ?_,λx I G=> ?_⟩
 .obtain⟨e,f,rfl⟩:=Ø d;let⟨_,_,_,q⟩:=Hj (m e f) l;exact À q
 .obtain⟨e,f,rfl⟩:=Ø d;let⟨x,r,h,_⟩:=Hj (m e f) l;rw[B]at h;injection h with h;subst h;refine⟨λv=>(L.I k (Ù n<|K3 t) _ v).2.1<|wM r,λe=> ?_⟩;obtain⟨b,_,s|s⟩:=r<;>(rw[s]at e;simp[fL,gQ,jf]at e)
 .obtain⟨r,f,rfl⟩:=Ø d;simp only at e;rcases m r f with⟨x,v,_,rfl⟩|h|h
  .cases v<;>simp[Ë]at e
  .let⟨s,v,H⟩:=r;simp only at h;subst h;simp[Ë]at e
  .let⟨s,v,H⟩:=r;simp only at h;subst h;simp[Ë]at e
 .by_cases e:F.L+x=i
  .let⟨D,n⟩:=z x G e.symm;subst e;refine⟨λr h=>h.appOwn o p g n,λ_ j d a l=> ?_⟩;obtain⟨e,f,rfl⟩:=Ø d;let⟨_,_,_,q⟩:=Hj (m e f) l;grind
  .exact⟨λr h=>h.appOther n5<|ÿ e,λs=>absurd s e⟩
def yy(a:F.M b):∀e∈#[kx<|fL b],tR F.toFx e:=by
 intro e c;have:e=kx (fL b):=by simpa using c
 subst this;exact À ⟨_,É,(wL a).1,U⟩
def Xq(a:F.M b):∀e∈#[mM<|fL b],tR F.toFx e:=by
 intro e c;have:e=mM (fL b):=by simpa using c
 subst this;exact À ⟨_,Î,(wL a).1,U⟩
def Ay(a:F.M b):∀e∈#[kx<|fL b,mM<|fL b],tR F.toFx e:=by
 intro e c;simp at c;rcases c with rfl|rfl
 .exact À ⟨_,É,(wL a).1,U⟩
 .exact À ⟨_,Î,(wL a).1,U⟩
def Hk(a:F.M b):∀e∈ö (gQ b),tR F.toFx e:=by
 intro e c;simp[ö]at c;rcases c with rfl|rfl|rfl|rfl
 .exact Á<|À U
 .exact À ⟨_,É,(wL a).2,U⟩
 .exact À ⟨_,Î,(wL a).2,U⟩
 .exact Á<|Á U
def Hl(d:Nat):Ï d #[kx a,mM a]=d/\Ï d #[kx a]=d/\Ï d #[mM a]=d/\Ï d (ö a)=d:=by refine⟨U,U,U,?_⟩;simp[Ï,ö]
def K6:Ax 1 #[kx a,mM a]/\Ax 1 #[kx a]/\Ax 1 #[mM a]/\Ax 1 (ö a):=by
 refine⟨λj e b=> ?_,λj e b=> ?_,λj e b=> ?_,λj e b=> ?_⟩
 .match j,b with
  |0,b=>obtain rfl:=È b;exact Á ⟨⟨a,É,U⟩,by simp[Ï]⟩
  |1,b=>obtain rfl:=È b;exact Á ⟨⟨a,Î,U⟩,by simp[Ï,kx]⟩
  |j+2,b=>simp at b
 .match j,b with
  |0,b=>obtain rfl:=È b;exact Á ⟨⟨a,É,U⟩,by simp[Ï]⟩
  |j+1,b=>simp at b
 .match j,b with
  |0,b=>obtain rfl:=È b;exact Á ⟨⟨a,Î,U⟩,by simp[Ï]⟩
  |j+1,b=>simp at b
 .match j,b with
  |0,b=>obtain rfl:=È b;exact À U
  |1,b=>obtain rfl:=È b;exact Á ⟨⟨a,É,U⟩,by simp[Ï,ö]⟩
  |2,b=>obtain rfl:=È b;exact Á ⟨⟨a,Î,U⟩,by simp[Ï,ö]⟩
  |3,b=>obtain rfl:=È b;exact À U
  |j+4,b=>simp[ö]at b
def agB(ok:F.Ok)(g:F.G a)(v:è):Hg F E c gs.size w (w.setCell a v):=by
 refine⟨Õ jU.symm,λb _ f _=>lk λe=>f<|e▸(wM (E:=E) g),λd i _=>yq ?_,PN,U,U⟩;let⟨b,f,h⟩:=g;rcases i with⟨k,_,rfl⟩|⟨p,rfl⟩
 .right;rcases h with rfl|rfl<;>simp[fL,gQ,jf]
 .left;rcases h with rfl|rfl<;>exact λe=>ok.C (by have j:b=F.Y:=e;rwa[<-j])
def agC(L:iF F E c gs.size w)(ok:F.Ok)(d:F.G a)(v:è):pM (λi=>i<gs.size) E.Y c w (w.setCell a v):= af9 (wM d) (by obtain⟨b,_,rfl|rfl⟩:=d<;>rfl) (λk i=>L.Y ok d k i) λk i b e=>L.agm k i b e
def agD(c:Ps F E)(d:F.G a)(v:è)(f:j+2<=E.r):(w.setCell a v).heap[E.I j]?=w.heap[E.I j]?:= lk λe=>(c.o j f).1 (by obtain⟨b,g,rfl|rfl⟩:=d<;>(rwa[e]))
def agE(h:a=fL b\/a=gQ b):a.block=b:=by rcases h with rfl|rfl<;>rfl
theorem iF.C(L:iF F E c n w){d:Nat}{w0:Ð}(y:w.heap.size<=W.heap.size):iF F E (gq c i {c i with d:=d,w:=w0}) n W:=by
 have e:∀k,(gq c i {c i with d:=d,w:=w0} k).O=(c k).O/\(gq c i {c i with d:=d,w:=w0} k).I=(c k).I/\(gq c i {c i with d:=d,w:=w0} k).r=(c k).r/\(gq c i {c i with d:=d,w:=w0} k).N=(c k).N/\(gq c i {c i with d:=d,w:=w0} k).q=(c k).q:=λk=>by
  by_cases h:k=i
  .subst h;rw[gT];exact⟨U,U,U,U,U⟩
  .rw[gH c _ h];exact⟨U,U,U,U,U⟩
 have t:∀k,c k=kz (c k)->gq c i {c i with d:=d,w:=w0} k=kz (gq c i {c i with d:=d,w:=w0} k):=λk f=>by
  by_cases h:k=i
  .subst h;rw[gT];have a:(c k).O=λ_=>False:=by rw[f];rfl
   have b:(c k).I=λ_=>False:=by rw[f];rfl
   have g:(c k).r=λ_=>False:=by rw[f];rfl
   have j:(c k).N=λ_=>False:=by rw[f];rfl
   have l:(c k).q=True:=by rw[f];rfl
   simp only[kz,a,b,g,j,l]
  .rwa[gH c _ h]
 refine⟨λk f a o=>L.gS k f a (by unfold fc.C at o|-;rwa[(e k).2.2.1,(e k).2.2.2.1]at o),λx g m a o=>by rw[(e 0).2.2.1];exact L.o x g m a o,λh=>by rw[(e 0).2.2.2.1,(e 0).2.1];exact L.lP h,λh k g m=>by rw[(e _).2.2.1];exact L.e h k g m,λh p=>by rw[(e _).2.2.2.1,(e _).2.1];exact L.f h p,λj l p r s g=>by rw[(e _).2.2.1];exact L.h j l p r s g,λj l p=>by rw[(e _).2.2.2.1,(e _).2.1];exact L.l j l p,λx u=>t _<|L.S x u,λk f=>by rw[(e k).2.2.2.2];exact L.M k f,λk g m=>t _<|L.c k g m,λk f b v=> ?_,λk f j l=>by rw[(e j).2.2.1];exact L.N k f j l,λk g m j l=>by rw[(e j).2.2.1];exact L.g k g m j l,λj l r s g k f=>by rw[(e k).2.2.1];exact L.d j l r s g k f⟩;let⟨z,B,D⟩:=L.I k f b v;grind
end
section
variable{F:Ph}{E E':fS F}{S:Nat->Jd}{tr c:Nat->gu}{a:Nat->iw}{lot:Nat->fc}{gs gs':Array Ä}{u:ä}{sl:Option (Nat×Nat)}
def kB(b:Nat)(w W:Ð):Prop:=W=w\/∃x v,(x=fL b\/x=gQ b)/\W=w.setCell x v
def kB.Ep(h:kB b w W):W.heap.size=w.heap.size:=by rcases h with rfl|⟨x,v,_,rfl⟩;all_goals simp_all
def kB.K1(h:kB b w W)(ok:F.Ok)(a:F.M b):Hg F E lot gs.size w W:=by
 rcases h with rfl|⟨x,v,c,rfl⟩
 .exact⟨Æ _,λ_ _ _ _=>rfl,λ_ _ _=>rfl,U,U,U⟩
 .exact agB ok ⟨b,a,c⟩ v
def kB.r(h:kB b w W)(L:iF F E lot gs.size w)(ok:F.Ok)(a:F.M b):pM (λi=>i<gs.size) E.Y lot w W:=by
 rcases h with rfl|⟨x,v,i,rfl⟩
 .exact pM.fT _ _ _ _
 .exact agC L ok ⟨b,a,i⟩ v
def kB.C(h:kB b w W)(a:Ps F E)(c:F.M b)(d:j+2<=E.r):W.heap[E.I j]?=w.heap[E.I j]?:=by
 rcases h with rfl|⟨x,v,e,rfl⟩
 .rfl
 .exact agD a ⟨b,c,e⟩ v d
def kB.M(h:kB b w W)(c:i≠b){G:GS}(a:hD w i G):hD W i G:=by
 rcases h with rfl|⟨x,v,d,rfl⟩
 .exact a
 .exact a.iQ<|by rw[agE d];exact ÿ c
def kB.I(h:kB b w W)(H:gR F)(L:iF F E lot gs.size w)(d:Ps F E)(a:Wd F E w)(f:F.M b){Ga:GS}{Gg:Nat->GS}(g:(b=F.C->hD W F.C Ga)/\(b≠F.C->Ga=E.b))(i:∀k,k<=F.m->(b=F.I k->hD W (F.I k) (Gg k))/\(b≠F.I k->Gg k=E.a k)):Wd F {E with b:=Ga,a:=Gg} W:=by
 refine a.K1 H L (h.K1 H.C f) (K2 d) ?_ (λk c=> ?_) λj e=>h.C d f e
 .by_cases e:b=F.C
  .exact g.1 e
  .rw[g.2 e];exact h.M (ÿ e) a.C
 .by_cases e:b=F.I k
  .exact(i k c).1 e
  .rw[(i k c).2 e];exact h.M (ÿ e)<|a.I k c
def PI.Y(H:gR F)(p:PI F b zX E S tr a lot gs w qJ){c:Ä}{f:Array ē}{J:Jd}{T:gu}(K:iw)(q:gs[i]?=Ã g)(j:yx E i)(r:F.M n)(s:é F.P (i==0) g w=ũ c W f)(l:kB n w W)(h:∀e∈f,tR F.toFx e)(m:Ï (lot i).d f=(lot i).d) (t:∀x,E.iq x->i=F.L+x->(∀e∈f,∀n,(Ë e).touch?=Ã n->∃y:Č,n.loc=ý y/\y.block=F.C)/\Ax (σ qJ i) f) (hF:kX F.P (i==0) J T {lot i with w:=W} c) (v:c.status=Å\/c.status=ç): ∃gs' u,ř F.P (ñ gs w sl) i=(Ğ<|ñ gs' W sl,u)/\gs'.size=gs.size/\gs'[i]?=Ã c/\(∀k,k≠i->gs'[k]?=gs[k]?.map (Ā F.P g c W))/\ gL F.P F.S E.Y (fw S i J) (fw tr i T) (fw a i K) (gq lot i {lot i with w:=W}) gs' W (qJ++u)/\TI F.toFx b zX E.r E.S.rl E.V E.e E.d E.iq E.f (qJ++u)/\iF F E (gq lot i {lot i with w:=W}) gs'.size W:=by have C:=p.I.r;obtain⟨gs',z,k,B,D,o⟩:=p.I.qF q s (l.r p.a H.C r) (by rwa[m]) v (agz p.a H.C C h)<|agy C.l p.d j h;rw[m]at o;refine⟨gs',_,z,k,B,D,o,p.d.C<|agA p.a p.C C j h t,?_⟩;rw[k];exact p.a.C<|Õ l.Ep.symm
theorem fg.qF(B:fg F E gs w){a:Ä}(p:gs'[i]?=Ã a)(q:a.status≠Ý)(d:∀k,k≠i->gs'[k]?=gs[k]?.map (Ā F.P g a W))(t:∀j,j+2<=E.r->W.heap[E.I j]?=w.heap[E.I j]?) (u:E'.r=E.r) (v:E'.I=E.I) (z:∀x,F.L+x≠i->E'.N x=E.N x) (C:i≠0->E'.M=E.M) (D:∀j,F.L+1+j≠i->E'.C j=E.C j) (G:i≠0->E.M=.fy .ky->E.b.sm=0->E'.b.sm=0\/∀x,gs'[0]?=Ã x->x.status≠Ý) (H:∀j r,F.L+1+j≠i->E.C j=.fy r .ky->(E.a<|F.r<|j+r*F.n).sm=0->(E'.a<|F.r<|j+r*F.n).sm=0\/∀x,gs'[F.L+1+j]?=Ã x->x.status≠Ý):fg F E' gs' W:=by
 intro k x b f;by_cases e:k=i
 .grind
 .have I:=b;rw[d k e]at b;obtain⟨y,h,rfl⟩:=Ú.1 b;let⟨_,l⟩:=Hh f;rcases B k y h l with⟨J,m,c⟩|⟨j,K,M,m,⟨r,c,o⟩|⟨r,N,s,O,c,o⟩⟩;all_goals grind
def Eu(a:j+2<=E.r):yx E (F.L+1+j):=Á ⟨j+1,Z,Z⟩
def K7(b:E.N (j+1)=Í):∀x,E.iq x->F.L+1+j=F.L+x->False:=λx ⟨e,a,_⟩ h2=>by
 have:x=j+1:=Z
 subst this;rw[b]at a;cases a
def Hm(ok:F.Ok)(h:i<F.q):F.M (F.I<|F.r i):=Á ⟨F.r i,ok.I i h,U⟩
def iM(a:gs[i]?=Ã g):i<gs.size:=(Ö.1 a).1
end
def wN{f f':Nat->Nat}:∀{n:Nat},j<n->(∀i,i≠j->f' i=f i)->Ñ n f'+f j=Ñ n f+f' j
 |n+1,h,hf=>by
  simp only[Ñ];rcases ģ j n with gJ|a
  .have:=wN (n:=n) gJ hf;rw[hf n Z];omega
  .obtain rfl:j=n:=Z
   rw[Ĭ λi b=>hf i Z];omega
def Hn{f:Nat->Nat}:∀{n:Nat},(∀i,f i<=1)->Ñ n f<=n
 |0,_=>Æ _
 |n+1,h=>by simp only[Ñ];have:=Hn (n:=n) h;have:=h n;omega
def P4{f:Nat->Nat}:∀{n:Nat},j<n->f j<=Ñ n f
 |n+1,h=>by
  simp only[Ñ];rcases ģ j n with gJ|a
  .have:=P4 (f:=f) (n:=n) gJ;omega
  .obtain rfl:j=n:=Z
   omega
def Ho{f:Nat->Nat}:∀n:Nat,(Ñ n λi=>f i+D i)=Ñ n f+Ñ n D
 |0=>rfl
 |n+1=>by simp only[Ñ];rw[Ho n];omega
def P5{f:Nat->Nat}(c:Nat):∀n:Nat,(Ñ n λi=>c*f i)=c*Ñ n f
 |0=>by simp[Ñ]
 |n+1=>by simp only[Ñ];rw[P5 c n,ō]
section
variable{F:Ph}{E E':fS F}{S:Nat->Jd}{tr z:Nat->gu}{C:Nat->iw}{o:Nat->fc}{gs gs':Array Ä}{u:ä}{sl:Option (Nat×Nat)}
def jY(F:Ph)(b:Nat)(zX:ψ->Prop)(E:fS F)(tr:Nat->gu)(gs:Array Ä)(w:Ð)(qJ:ä)(sl:Option (Nat×Nat))(i:Nat):Prop:=
 ∃(E':fS F) (a:Nat->Jd) (z:Nat->gu) (c:Nat->iw) (d:Nat->fc) (gs':Array Ä) (W:Ð) (u:ä),ř F.P (ñ gs w sl) i=(Ğ<|ñ gs' W sl,u)/\gs'.size=gs.size/\(E'.M=.gd->E.M=.gd)/\PI F b zX E' a z c d gs' W (qJ++u)/\o5 F.N (E'.mu z gs') (E.mu tr gs)
def rA(F:Ph)(b:Nat)(zX:ψ->Prop)(E:fS F)(tr:Nat->gu)(gs:Array Ä)(w:Ð)(qJ:ä):Prop:=
 ∃(E':fS F) (a:Nat->Jd) (z:Nat->gu) (c:Nat->iw) (d:Nat->fc),(E'.M=.gd->E.M=.gd)/\PI F b zX E' a z c d gs w qJ/\o5 F.N (E'.mu z gs) (E.mu tr gs)
def agF(i:Nat):gk gs i<=1:=by unfold gk;split<;>omega
theorem Xr(a:∀k,k<F.N->E'.iQ z k=E.iQ tr k)(b:i<F.N)(e:E'.ll i<E.ll i)(c:∀k,k≠i->E'.ll k=E.ll k):o5 F.N (E'.mu z gs') (E.mu tr gs):=by
 refine Á ⟨a,?_⟩;show(Ñ F.N λi=>(F.N+1)*E'.ll i+gk gs' i)<Ñ F.N λi=>(F.N+1)*E.ll i+gk gs i;rw[Ho,Ho,P5,P5];have g:=wN b c;have h:=Hn (f:=gk gs') (n:=F.N) agF;have d:Ñ F.N E'.ll+1<=Ñ F.N E.ll:=Z
 have j:(F.N+1)*(Ñ F.N E'.ll+1)<=(F.N+1)*Ñ F.N E.ll:=ð _ d;grind
def P7(a:∀k,k<F.N->E.iQ z k=E.iQ tr k)(b:i<F.N)(d:gk gs i=1)(e:gk gs' i=0)(c:∀k,k≠i->gk gs' k=gk gs k):o5 F.N (E.mu z gs') (E.mu tr gs):=by refine Á ⟨a,?_⟩;show(Ñ F.N λi=>(F.N+1)*E.ll i+gk gs' i)<Ñ F.N λi=>(F.N+1)*E.ll i+gk gs i;rw[Ho,Ho];have:=wN b c;omega
theorem Xs(ok:F.Ok)(j:Nat):E.ll (F.L+1+j)=match E.C j with|.fy r p=>p.ll F.B (E.a<|F.r<|j+r*F.n).st|_=>0:=by have:=ok.r;unfold fS.ll;grind
def agG{x:gM}(a:k≠F.L+1+j):(gN E j x).ll k=E.ll k:=by
 unfold fS.ll;split
 .rfl
 .split
  .rfl
  .rw[iL x Z];rfl
def agH(ok:F.Ok){r:Nat}{p a:SP}{T:gu}(d:F.L+1+j<F.N)(b:E.N (j+1)=Í)(c:E.C j=.fy r (.lW p))(f:tr (F.L+1+j)=.fA)(g:T=.fA)(h:a.rk F.B (E.a<|F.r<|j+r*F.n).st<p.rk F.B (E.a<|F.r<|j+r*F.n).st): o5 F.N ((gN E j<|.fy r (.lW a)).mu (fw tr (F.L+1+j) T) gs') (E.mu tr gs):=by
 refine Xr (λk _=> ?_) d ?_ λk e=>agG e
 .by_cases e:k=F.L+1+j
  .subst e;rw[tP ok (E:=gN E j _) (show(gN E j _).N (j+1)=Í from b),tP ok b,jK,gC,c,f,g];rfl
  .refine yw (λ_=>rfl) (λ_ _=>rfl) (λ_=>rfl) (λ_ _=>rfl) (λi _=> ?_)<|fH tr _ e;rw[iL _ Z]
 .rwa[Xs ok,Xs ok,jK,c]
def PI.Ev(H:gR F)(p:PI F b zX E S tr C o gs w qJ){v:jq}(d:j+2<=E.r)(e:E.N (j+1)=Í)(f:gs[F.L+1+j]?=Ã g)(h:g.status=Å)(k:tr (F.L+1+j)=.fA)(l:E.C j=.fy i v): ∀w₁,fI (o<|F.L+1+j) (o<|F.L+1+j).w w₁->qH F.P É F.B (F.I<|F.r<|j+i*F.n) (F.e (E.I j)<|j+i*F.n) v {o (F.L+1+j)with w:=w₁} g:=by
 let⟨a,c⟩:=p.g j d e;rw[l]at a c;have m:C (F.L+1+j)=.no\/C (F.L+1+j)=.iy:=by rw[c];cases v<;>first|exact À U|exact Á U
 intro w₁ i;have:=p.I.N f h k m w₁ i;rwa[a]at this
def yz(ok:F.Ok)(j:Nat):(F.L+1+j==0)=É:=by have:=ok.r;simp
theorem PI.P8(H:gR F)(p:PI F b zX E S tr C o gs w qJ){x:gM}{l:fc}{T:gu}(u:j+2<=E.r)(m:E.N (j+1)=Í)(n:gs[F.L+1+j]?=Ã g)(v:g.status=Å\/g.status=ç) (z:iP F.S (λi=>i<gs.size) E.Y (gq o (F.L+1+j) l) w qJ) (hF:kX F.P É (JW F (E.I j) j x) T l g) (B:iF F (gN E j x) (gq o (F.L+1+j) l) gs.size w) (D:Wd F (gN E j x) w) (G:Ps F (gN E j x)) (I:x.rk F<(E.C j).rk F) (J:∀r,x≠ .jH r):rA F b zX E tr gs w qJ:=by
 refine⟨gN E j x,_,_,_,_,λh=>h,.r (p.N.N H.C u m) p.b (p.I.M (K:=kW F (E.I j) x) n v z<|by rwa[yz H.C]) B D G p.d (λk y M N=> ?_) λc r f a d=> ?_,Et H.C (p.G<|iM n) m I⟩
 .by_cases e:k=F.L+1+j
  .grind
  .rcases p.c k y M N with f|⟨c,q,t,a,d|⟨r,O,s,Q,d,V⟩⟩
   .exact À f
   .exact Á ⟨c,q,t,a,À<|by rwa[iL x Z]⟩
   .exact Á ⟨c,q,t,a,Á ⟨r,O,s,Q,by rwa[iL x Z],V⟩⟩
 .by_cases e:c=j
  .subst e;rw[jK]at a;exact absurd a<|J r
  .rw[iL x e]at a;exact p.f c r f a d
theorem PI.agI(H:gR F)(p:PI F b zX E S tr C o gs w qJ){r:Nat}(e:j+2<=E.r)(l:E.N (j+1)=Í)(m:gs[F.L+1+j]?=Ã g)(n:g.status=Å)(s:tr (F.L+1+j)=.fA)(c:E.C j=.fy r .iW):rA F b zX E tr gs w qJ:=by
 have f:=iM m;let⟨k,y,t,u⟩:=(p.Ev H e l m n s c) w<|p.I.r.r _ f;have v:iP F.S (λi=>i<gs.size) E.Y (gq o (F.L+1+j) {o (F.L+1+j)with w:=w}) w qJ:=p.I.r.C f (λ_ q=>q) (λa q=>À<|Á q) (λ_ q=>q) (λa q=>À<|Á q) U U U (p.I.r.m _ f)<|p.I.r.g _ f;refine p.P8 H (x:=.fy r (.lW (.fZ k))) (T:=.fA) e l m (À n) v (λh a=>⟨t,KO u a⟩) ?_ (p.M.Y (by rw[c];rfl)<|by rw[c];rfl) (p.C.G e l (λk=>by rw[c];rfl) (λa h=> ?_) (λa h=> ?_) (λa h=>by cases h) λa h=>by cases h) (by rw[c];simp only[gM.rk,jq.rk];omega) λa h=>by cases h
 .have:=(p.a.r (x:=.fy r (.lW (.fZ k)))<|by rw[c];rfl).C (i:=F.L+1+j) (d:=(o<|F.L+1+j).d) (w0:=w)<|Æ _;exact this
 .rcases h with⟨_,h⟩|h|h<;>cases h;exact p.C.d j r e<|À ⟨_,c⟩
 .grind
def Xt{y z:Int->Jd}{p:SP}{l:fc}{G:GS}(h:Ej P yQ (fL b) i y z p l g)(j:hD w b G):g.status=Å/\ ((∃f a e,é P yQ g w=ũ a w e/\(e=#[]\/e=#[kx<|fL b])/\Ej P yQ (fL b) i y z f l a/\f.rk i G.st<p.rk i G.st)\/ (∃a,é P yQ g w=ũ a w #[kx<|fL b]/\(∀c q,G=.cl c q->c=0)/\fh P yQ (y G.st) l a)\/ (∃a c q,G=.cl c q/\0<c/\é P yQ g w=ũ a (w.setCell (fL b)<|æ Ó<|Ó.wrap<|G.st+1) #[kx<|fL b,mM<|fL b]/\fh P yQ (z G.st) l a)):=by
 let⟨T,C,x⟩:=h;let⟨J,d⟩:=x p g C;refine⟨J,?_⟩;have D:∀u,T u g->(∀n,u≠ .fZ (n+1))->(∀v n,u≠ .ld v (n+1))->u.rk i G.st<=p.rk i G.st->((∃f a e,é P yQ g w=ũ a w e/\(e=#[]\/e=#[kx<|fL b])/\Ej P yQ (fL b) i y z f l a/\f.rk i G.st<p.rk i G.st)\/ (∃a,é P yQ g w=ũ a w #[kx<|fL b]/\(∀c q,G=.cl c q->c=0)/\fh P yQ (y G.st) l a)\/ (∃a c q,G=.cl c q/\0<c/\é P yQ g w=ũ a (w.setCell (fL b)<|æ Ó<|Ó.wrap<|G.st+1) #[kx<|fL b,mM<|fL b]/\fh P yQ (z G.st) l a)):=by
  intro u C K L F;have d:=(x u g C).2;match u,d with
  |.fZ (n+1),_=>exact absurd U<|K n
  |.ld v (n+1),_=>exact absurd U<|L v n
  |.fZ 0,d=>
   let⟨a,o,k⟩:=d G.st;by_cases f:0<=G.st/\G.st<fX
   .rw[if_pos f]at k;have e:G.st<1000000:=by
     have t:=j.r;cases G with
     |cl c q=>
      let⟨H,I,m⟩:=t;simp only[GS.st,fX]at f|-;have:c=0:=Z
      have:=m this;omega
     |jE q=>simp only[GS.ok]at t;simp only[GS.st];omega
     |gV r s=>simp only[GS.st];omega
    exact Á<|À ⟨a,o w j.C,j.agd.1 f,k e⟩
   .rw[if_neg f]at k;have e:fX<=G.st/\G.st<fX*2147483648/\G.st%fX<1000000:=by
     have t:=j.r;cases G with
     |cl c q=>
      let⟨H,I,_⟩:=t;simp only[GS.st,fX]at f|-;omega
     |jE q=>simp only[GS.ok]at t;simp only[GS.st,fX]at f;omega
     |gV r s=>simp only[GS.st,fX]at f;omega
    let⟨m,M,E⟩:=k e;exact À ⟨.ld G.st m,a,_,o w j.C,Á U,⟨T,E,x⟩,Ê (by simp only[SP.rk,if_true];omega) F⟩
  |.ld v 0,⟨f,⟨a,o,k⟩,g'',E,n,hn,h4⟩=>
   by_cases e:G.st=v
   .subst e;have:∃c q,G=.cl c q/\0<c:=by
     have t:=j.r;cases G with
     |cl c q=>
      refine⟨c,q,U,?_⟩;let⟨H,I,_⟩:=t;simp only[GS.st,fX]at f;omega
     |jE q=>simp only[GS.ok]at t;simp only[GS.st,fX]at f;omega
     |gV r s=>simp only[GS.st,fX]at f;omega
    let⟨c,q,r,s⟩:=this;exact Á<|Á ⟨a,c,q,r,s,o w j.C j.I,k⟩
   .exact À ⟨.fZ n,g'',_,E w G.st e j.C j.I,Á U,⟨T,h4,x⟩,Ê (by simp only[SP.rk,if_neg e];omega) F⟩
 match p,d with
 |.fZ (n+1),⟨hn,d⟩=>
  rcases d with d|d
  .exact D (.fZ 0) d (λn q=>by cases q) (λv n q=>by cases q)<|by simp only[SP.rk];omega
  .let⟨a,o,k⟩:=d w;exact À ⟨.fZ n,a,#[],o,À U,⟨T,k,x⟩,by simp only[SP.rk];omega⟩
 |.fZ 0,_=>exact D (.fZ 0) C (λn q=>by cases q) (λv n q=>by cases q)<|Æ _
 |.ld v (m+1),⟨_,M,d⟩=>
  rcases d with d|d
  .exact D (.ld v 0) d (λn q=>by cases q) (λv n q=>by cases q)<|by simp only[SP.rk];split<;>omega
  .let⟨a,o,k⟩:=d w;exact À ⟨.ld v m,a,#[],o,À U,⟨T,k,x⟩,by simp only[SP.rk];split<;>omega⟩
 |.ld v 0,_=>exact D (.ld v 0) C (λn q=>by cases q) (λv n q=>by cases q)<|Æ _
def PI.agJ(H:gR F)(p:PI F b zX E S tr C o gs w qJ){r:Nat}{v:SP}(G:j+2<=E.r)(s:E.N (j+1)=Í)(hi:gs[F.L+1+j]?=Ã g)(iH:g.status=Å)(ht:tr (F.L+1+j)=.fA)(m:E.C j=.fy r (.lW v)):jY F b zX E tr gs w qJ sl (F.L+1+j):=by
 have gJ:=iM hi;have oF:=p.C.d j r G<|À ⟨_,m⟩;have N:=Hm H.C oF;have X:=H.C.I _ oF;have hG:=p.M.I _ X;obtain⟨hd,oB⟩:=(p.Ev H G s hi iH ht m) w<|p.I.r.r _ gJ;have vl:j<F.n:=by have:=Es p.C;omega
 have ns:=K7 (E:=E) s;have mw:=yz H.C j;have wO:=p.G gJ;obtain⟨_,oB⟩:=Xt oB hG;rcases oB with⟨p',g',es,h1,I,h3,h4⟩|⟨g',h1,I,h3⟩|⟨g',c,K,Q,tS,h1,I⟩
 .have hes:∀e∈es,tR F.toFx e:=by
   rcases I with rfl|rfl
   .intro e s;simp at s
   .exact yy N
  obtain⟨T',P9,Az⟩:=h3;obtain⟨gs',u,q1,V,q3,q4,q5,q6,q7⟩:=p.Y (J:=JW F (E.I j) j<|.fy r (.lW p')) (T:=.fA) H (kW F (E.I j)<|.fy r (.lW p')) hi (Eu G) N (by rwa[mw]) (À U) hes (by rcases I with rfl|rfl<;>rfl) (λx hs e=>(ns x hs e).elim) (by rw[mw];exact λw₁ kC=>⟨hd,KO ⟨T',P9,Az⟩ kC⟩)<|À (Az _ _ P9).1;refine⟨gN E j<|.fy r (.lW p'),_,_,_,_,gs',w,u,q1,V,λh=>h,.r (p.N.N H.C G s) (V.trans p.b) q5 (q7.r<|by rw[m];rfl) (p.M.Y (by rw[m];rfl)<|by rw[m];rfl) (p.C.G G s (λk=>by rw[m];rfl) (λf h=> ?_) (λf h=> ?_) (λf h=>by cases h) λf h=>by cases h) q6 (p.c.qF (E':=gN E j _) q3 (by rw[(Az _ _ P9).1];simp) q4 (λ_ _=>rfl) U U (λ_ _=>rfl) (λ_=>rfl) (λt e=>iL _ Z) (λ_ _ h=>À h) λ_ _ _ _ h=>À h) λt f O z Y=> ?_,agH H.C wO s m ht U h4⟩
  .rcases h with⟨_,h⟩|h|h<;>cases h;exact oF
  .rcases h with h|h|h<;>cases h
  .rw[iL _ (λe=>by subst e;rw[jK]at z;cases z)]at z;exact(p.f t f O z Y).app u
 .obtain⟨T,hT⟩:=ji h3;have ng:=lD (λl g h=>À h.2.1) h3;obtain⟨gs',u,q1,V,q3,q4,q5,q6,q7⟩:=p.Y H (kW F (E.I j)<|.fy r .kY) hi (Eu G) N (by rwa[mw]) (À U) (yy N) U (λx hs e=>(ns x hs e).elim) (by rwa[mw]) ng;refine⟨gN E j<|.fy r .kY,_,_,_,_,gs',w,u,q1,V,λh=>h,.r (p.N.N H.C G s) (V.trans p.b) q5 (q7.r<|by rw[m];rfl) (p.M.Y (by rw[m];rfl)<|by rw[m];rfl) (p.C.G G s (λk=>by rw[m];rfl) (λf h=> ?_) (λf h=> ?_) (λf h=>by cases h) λf h=>by cases h) q6 (p.c.qF (E':=gN E j _) q3 (by rcases ng with q|q<;>rw[q]<;>simp) q4 (λ_ _=>rfl) U U (λ_ _=>rfl) (λ_=>rfl) (λt e=>iL _ Z) (λ_ _ h=>À h) λ_ _ _ _ h=>À h) λt f O z Y=> ?_,Et H.C wO s<|by rw[m];simp only[gM.rk,jq.rk];omega⟩
  .rcases h with⟨_,h⟩|h|h<;>cases h;exact oF
  .have:f=r:=by rcases h with h|h|h<;>cases h;rfl
   subst this;refine ą λAA=> ?_;have:=I _ _<|p.C.e _ Z X AA;omega
  .rw[iL _ (λe=>by subst e;rw[jK]at z;cases z)]at z;exact(p.f t f O z Y).app u
 .have hcd:E.S.od<F.r (j+r*F.n):=by
   refine ò λhle=> ?_;rcases p.C.Y _ X hle with⟨W,_,q,_⟩|⟨_,_,_,_,q,_⟩|⟨_,⟨q,_⟩|⟨_,q,_⟩⟩<;>(rw[Q]at q;cases q);omega
  have AB:=p.C.e _ Z X hcd;have e0:=Q.symm.trans AB;injection e0 with e1 e2;subst e1;have Xu:K<=F.n:=by rw[e2];exact Hn λi=>by cases E.C i<;>simp only[gM.gE]<;>first|omega|(split<;>first|omega|(rename_i q _;cases q<;>simp[jq.sI]))
  have Ew:=H.C.fY;have Hp:=(Q▸hG:hD w (F.I<|F.r<|j+r*F.n) (.cl 1 K)).Xe Z Z;obtain⟨hv,Hp⟩:=Hp;obtain⟨x,Ex,AF,Xv,K8,hx4⟩:∃(x:jq) (Ex:Nat->Option Nat),(x=.wr\/x=.ky)/\fh F.P É (qH F.P É F.B (F.I<|F.r<|j+r*F.n) (F.e (E.I j)<|j+r*F.n) x) {o (F.L+1+j)with w:=w} g'/\((∀M,M≠F.r (j+r*F.n)->Ex M=E.d M)/\∀y,E.d (F.r<|j+r*F.n)=Ã y->Ex (F.r<|j+r*F.n)=Ã y)/\(x=.wr->Ex (F.r<|j+r*F.n)=Ã j):=by
   by_cases hz:K=0
   .subst hz;refine⟨.wr,fw E.d (F.r<|j+r*F.n)<|Ã j,À U,?_,⟨λM tL=>fH _ _ tL,λy hy=> ?_⟩,λ_=>gC _ _ _⟩
    .have:E.a (F.r<|j+r*F.n)=.cl 1 0:=Q;rw[this]at I;have e:(GS.cl 1 0).st%fX=0:=A
     simp only[e,if_true]at I;exact I
    .rw[p.C.y _ X Q]at hy;cases hy
   .refine⟨.ky,E.d,Á U,?_,⟨λ_ _=>rfl,λ_ h=>h⟩,λh=>by cases h⟩;have:E.a (F.r<|j+r*F.n)=.cl 1 K:=Q;rw[this]at I;have e:¬(GS.cl 1 K).st%fX=0:=by simp only[GS.st,fX];omega
    simp only[e,if_false]at I;exact I
  have hxw:x.sI=1:=by rcases AF with rfl|rfl<;>rfl
  have Xw:=Xv.jW (w₁:=w.setCell (fL<|F.I<|F.r<|j+r*F.n)<|æ Ó<|Ó.wrap<|(GS.cl 1 K).st+1) (by have D:=(kB.r (Á ⟨fL<|F.I<|F.r<|j+r*F.n,_,À U,U⟩:kB (F.I<|F.r<|j+r*F.n) w (w.setCell (fL<|F.I<|F.r<|j+r*F.n)<|æ Ó<|Ó.wrap<|(GS.cl 1 K).st+1)) p.a H.C N);exact⟨Õ D.r.symm,λd kZ=>D.jO d<|p.I.r.I _ gJ d kZ,λa ha=>D.M _ gJ a ha,λa ha=>D.N _ gJ a ha,λa _=>D.I a⟩);obtain⟨T,hT⟩:=ji Xw;have Xx:=lD (λl g h=>by rcases AF with rfl|rfl<;>exact À h.2.1) Xv;have Qa:kB (F.I<|F.r<|j+r*F.n) w (w.setCell (fL<|F.I<|F.r<|j+r*F.n)<|æ Ó<|Ó.wrap<|(GS.cl 1 K).st+1):=Á ⟨_,_,À U,U⟩;obtain⟨gs',u,q1,V,q3,q4,q5,q6,q7⟩:=p.Y H (kW F (E.I j)<|.fy r x) hi (Eu G) N (by rw[mw];exact(Q▸h1)) Qa (Ay N) U (λx hs e=>(ns x hs e).elim) (by rwa[mw]) Xx;have sJ:=wN (f':=λi=>((gN E j<|.fy r x).C i).gE F i<|F.r<|j+r*F.n) vl (λi ln=>by rw[iL _ ln]);simp only[jK,m]at sJ;have tT:gM.gE F j (F.r<|j+r*F.n) (.fy r x)=1:=by simp only[gM.gE,if_true,hxw]
  have sK:gM.gE F j (F.r<|j+r*F.n) (.fy r (.lW v))=0:=by simp only[gM.gE,if_true];rfl
  rw[tT,sK]at sJ;refine⟨vk E j (.fy r x) (F.r<|j+r*F.n) (.cl 1 (K+1)) Ex,_,_,_,_,gs',_,u,q1,V,λh=>h,.r ?_ (V.trans p.b) q5 ?_ ?_ (p.C.Xo G s (λM tL=> ?_) (λ_ _=> ?_) (λh=>by omega) (λ⟨a,d,h⟩=> ?_) (λh=>by injection h with _ h;omega) K8.1 K8.2 (λf h=> ?_) (λf h=> ?_) (λf h=> ?_) λf h=> ?_) (q6.agi λM y hy=> ?_) ?_ λt f O z Y=> ?_,?_⟩
  .have:=p.N.N (x:=.fy r x) (T:=T) H.C G s;exact⟨this.M,this.Y,this.I,this.C,this.r⟩
  .have:=q7.r (x:=.fy r x) (by rw[m];rfl);exact⟨this.gS,this.o,this.lP,this.e,this.f,this.h,this.l,this.S,this.M,this.c,this.I,this.N,this.g,this.d⟩
  .have W1:=Qa.I H p.a p.C p.M N (Gg:=fw E.a (F.r<|j+r*F.n)<|.cl 1 (K+1)) ⟨λe=>absurd e<|H.C.M _ X,λ_=>rfl⟩ λM tL=>⟨λe=> ?_,λe=>fH _ _ λe'=>e<|by rw[e']⟩
   .have W2:=W1.Y (x:=.fy r x) (by show _=(E.C j).kA;rw[m];rfl) (by show _=(E.C j).iK;rw[m];rfl);exact⟨W2.C,W2.I,W2.jG,W2.M,W2.S,W2.N⟩
   .rwa[<-(H.C.S _ _ X tL e),gC]
  .rw[m];simp only[gM.gE,if_neg<|ÿ tL]
  .congr 1;rw[<-e2]at sJ;omega
  .rw[Q]at h;cases h
  .rcases h with⟨_,h⟩|h|h<;>cases h;exact oF
  .rcases h with h|h|h<;>cases h<;>(rcases AF with h|h<;>cases h)
  .cases h;rcases AF with h|h<;>cases h
  .cases h;exact hx4 U
  .by_cases e:M=F.r (j+r*F.n)
   .subst e;exact K8.2 y hy
   .show Ex M=Ã y;rwa[K8.1 M e]
  .refine p.c.qF (E':=vk E j _ _ _ _) q3 (by rcases Xx with q|q<;>rw[q]<;>simp) q4 (λt oE=>Qa.C p.C N oE) U U (λ_ _=>rfl) (λ_=>rfl) (λt e=>iL _ Z) (λ_ _ h=>À h) λt f _ _ h=>À ?_;by_cases e:F.r (t+f*F.n)=F.r (j+r*F.n)
   .show(fw E.a _ _ _).sm=0;rw[e,gC];rfl
   .show(fw E.a _ _ _).sm=0;rwa[fH _ _ e]
  .have e:t≠j:=λe=>by
    subst e;have:(gN E t<|.fy r x).C t=.jH f:=z;rw[jK]at this;cases this
   have AG:(gN E j<|.fy r x).C t=.jH f:=z;rw[iL _ e]at AG;exact(p.f t f O AG Y).app u
  .have:=Et (E:=E) (tr:=tr) (gs:=gs) (gs':=gs') (x:=.fy r x) (T:=T) H.C wO s (by rw[m];rcases AF with rfl|rfl<;>simp only[gM.rk,jq.rk]<;>omega);rcases this with⟨i,O,z,Y⟩|⟨O,_⟩
   .exact À ⟨i,O,z,Y⟩
   .exfalso;have:=O _ wO;change(gN E j<|.fy r x).iQ (fw tr (F.L+1+j) T) (F.L+1+j)=E.iQ tr (F.L+1+j)at this;rw[tP H.C (E:=gN E j _) (show(gN E j _).N (j+1)=Í from s),tP H.C s,jK,m]at this;injection this with e _;rcases AF with rfl|rfl<;>simp only[gM.rk,jq.rk]at e<;>omega
end
section
variable{F:Ph}{E E':fS F}{S:Nat->Jd}{s D:Nat->gu}{B:Nat->iw}{f:Nat->fc}{c o:Array Ä}{u:ä}{sl:Option (Nat×Nat)}
def PI.Qb(H:gR F)(p:PI F j zX E S s B f c w qJ){x:gM}{a:Ä}{T:gu}(y:i+2<=E.r)(d:E.N (i+1)=Í)(z:c[F.L+1+i]?=Ã g)(C:ř F.P (ñ c w sl) (F.L+1+i)=(Ğ<|ñ o w sl,u))(l:o.size=c.size)(D:o[F.L+1+i]?=Ã a)(G:a.status=Å\/a.status=ç)(I:∀k,k≠F.L+1+i->o[k]?=c[k]?.map (Ā F.P g a w)) (J:gL F.P F.S E.Y (fw S (F.L+1+i)<|JW F (E.I i) i x) (fw s (F.L+1+i) T) (fw B (F.L+1+i)<|kW F (E.I i) x) (gq f (F.L+1+i) {f (F.L+1+i)with w:=w}) o w (qJ++u)) (K:TI F.toFx j zX E.r E.S.rl E.V E.e E.d E.iq E.f (qJ++u)) (M:iF F E (gq f (F.L+1+i) {f (F.L+1+i)with w:=w}) o.size w) (m:x.kA=(E.C i).kA) (N:x.iK=(E.C i).iK) (O:Ps F (gN E i x)) (Q:x.rk F<(E.C i).rk F) (W:∀r,x=.jH r->1<=F.r (i+r*F.n)->Υ (qJ++u) (F.L+1+i) (E.e<|F.r<|i+r*F.n)):jY F j zX E s c w qJ sl (F.L+1+i):=by
 refine⟨gN E i x,_,_,_,_,o,w,u,C,l,λh=>h,.r (p.N.N H.C y d) (l.trans p.b) J (M.r m) (p.M.Y m N) O K (p.c.qF (E':=gN E i _) D (by rcases G with q|q<;>rw[q]<;>simp) I (λ_ _=>rfl) U U (λ_ _=>rfl) (λ_=>rfl) (λb e=>iL _ Z) (λ_ _ h=>À h) λ_ _ _ _ h=>À h) λb t X q v=> ?_,Et H.C (p.G<|iM z) d Q⟩
 .by_cases e:b=i
  .subst e;rw[jK]at q;exact W t q v
  .rw[iL _ e]at q;exact(p.f b t X q v).app u
def Qc{r:Nat}{v:jq}(h:v.sI=0):gM.gE F j k (.fy r v)=0:=by simp only[gM.gE,h];split<;>rfl
def wP{a:Ă}(h:a∈#[wQ]):a=wQ:=by simpa using h
def agK{i:Nat}{fn:ķ}{pos:String}{m:ε}:∃y:Ă,Ü i fn pos #[jw m]=#[y]/\y.g=i/\y.act=Ě m:=⟨{g:=i,fn,pos,act:=Ě m},by simp[Ü,jw,Ë],U,U⟩
def PI.AH(H:gR F)(p:PI F j zX E S s B f c w qJ){a:Ä}{m:ε}{J:Jd}{T:gu}(K:iw)(v:c[i]?=Ã g)(x:é F.P (i==0) g w=ũ a w #[jw m])(z:m≠õ)(C:m≠ï) (D:∀y:Ă,y.act=Ě m->(∀b,y.act.touch?=Ã b->G7 (λi=>i<c.size) E.Y f b)/\y.act.low w.heap.size) (G:∀y:Ă,y.g=i->y.act=Ě m->∀I,¬Race I (qJ++#[y])) (hF:kX F.P (i==0) J T {f i with w:=w} a) (L:a.status=Å\/a.status=ç): ∃o y,y.g=i/\y.act=Ě m/\ř F.P (ñ c w sl) i=(Ğ<|ñ o w sl,#[y])/\o.size=c.size/\o[i]?=Ã a/\(∀k,k≠i->o[k]?=c[k]?.map (Ā F.P g a w))/\ gL F.P F.S E.Y (fw S i J) (fw s i T) (fw B i K) (gq f i {f i with w:=w}) o w (qJ++#[y])/\iF F E (gq f i {f i with w:=w}) o.size w:=by
 obtain⟨y,l,n,h⟩:=agK;have r:Ï (f i).d #[jw m]=(f i).d:=ł (λe k=>by
  have:e=jw m:=by simpa using k
  subst this;exact⟨λq=>z (by injection q),λq=>C (by injection q)⟩) _
 have M:∀e∈#[jw m],Ë e=y.act:=λe k=>by
  have:e=jw m:=by simpa using k
  subst this;rw[h];rfl
 obtain⟨o,q,t,N,O,u⟩:=p.I.qF v x (pM.fT _ _ _ _) (by rwa[r]) L (λe k=>by rw[M e k];exact D y h) (by rw[l];exact G y n h);rw[r,l]at u;rw[l]at q;refine⟨o,y,n,h,q,t,N,O,u,?_⟩;rw[t];exact p.a.C<|Æ _
def Qd(H:gR F)(p:PI F j zX E S s B f c w qJ)(hb:F.M b)(D:yx E i){m:ε}(N:m=.read (gQ b)\/m=κ (gQ b))(T:F.PW E.d (gQ b) (Ã i))(W:∀x,E.iq x->i≠F.L+x): (∀y:Ă,y.act=Ě m->(∀b,y.act.touch?=Ã b->G7 (λi=>i<c.size) E.Y f b)/\y.act.low w.heap.size)/\(∀y:Ă,y.g=i->y.act=Ě m->∀O,¬Race O (qJ++#[y]))/\∀y:Ă,y.g=i->y.act=Ě m->TI F.toFx j zX E.r E.S.rl E.V E.e E.d E.iq E.f (qJ++#[y]):=by
 have C:=p.I.r;have G:∀y:Ă,y.act=Ě m->∀a,y.act.touch?=Ã a->a.loc=ý (gQ b)/\a.kind=.said:=λy t a l=>by rw[t]at l;rcases N with rfl|rfl<;>simp[ċ]at l<;>subst l<;>exact⟨U,U⟩
 have u:=(wL hb).2;refine⟨λy t=>⟨λa l=>À ⟨_,(G y t a l).1,wM u,λk D=>p.a.Y H.C u k D⟩,?_⟩,λy I t=>λO=> ?_,λy I t=> ?_⟩
 .have:=C.N _<|wM (E:=E) u;rw[t];rcases N with rfl|rfl<;>exact this
 .refine noRace_append (C.l O) (λd h=>by rw[wP h,I]) λq a l d h z hz X=> ?_;have:d=y:=by simpa using h
  subst this;let⟨n,P⟩:=G d t z hz;rcases p.d.M q a _ l (X.1.trans n) u with⟨J,o⟩|r|⟨_,r⟩
  .exact Xp p.d D J o
  .let⟨_,_,_,v⟩:=X;rw[r,P]at v;rcases v with v|v|⟨_,v,_⟩<;>cases v
  .have e:qJ.g? q=Ã i:=by
    rcases T with⟨K,M⟩|⟨k,v,K,M,s3,s4⟩
    .rcases r with⟨_,o⟩|⟨k,v,Q,o,_,_⟩
     .rw[o,M]
     .rw[K]at o;exact absurd (by injection o with o _ _;exact o.symm)<|H.C.M k Q
    .rcases r with⟨J,_⟩|⟨k',j',Q,o,r3,r4⟩
     .rw[M]at J;exact absurd (by injection J)<|H.C.M k K
     .rw[M]at o;have:k=k':=H.C.S _ _ K Q (by injection o);subst this;rw[s3]at r3;obtain rfl:=È r3;rw[r4,s4]
   let⟨M,v,K⟩:=Ú.1 e;have:=knows_own v;rwa[K]at this
 .refine p.d.C ⟨λd h a _=>by rw[wP h,I],D.imp id À,λd h a x l o K=> ?_,λd h a z l Q o k X J=> ?_,λd h b' _ e=> ?_,λx K q=>⟨λr M=>M.appOther (λd h=>by rw[wP h,I])<|W x q,λe=>absurd e.symm<|W x q⟩⟩
  .have:d=y:=by simpa using h
   subst this;let⟨n,P⟩:=G d t a l;rw[o]at n;injection n with n;subst n;exact Á ⟨P,T⟩
  .have:d=y:=by simpa using h
   subst this;let⟨n,_⟩:=G d t a l;rw[o]at n;injection n with n;subst n;exact⟨λv=>(p.a.I k (Ù J<|K3 p.C) _ v).2.1<|wM u,λe=>by simp[gQ,jf]at e⟩
  .have:d=y:=by simpa using h
   subst this;rw[t]at e;rcases N with rfl|rfl<;>simp at e
theorem PI.agL(H:gR F)(p:PI F j zX E S s B f c w qJ){r:Nat}(b:i+2<=E.r)(d:E.N (i+1)=Í)(q:c[F.L+1+i]?=Ã g)(z:g.status=Å)(C:s (F.L+1+i)=.fA)(a:E.C i=.fy r .wr):jY F j zX E s c w qJ sl (F.L+1+i):=by let⟨Y,_,g',D,t⟩:=p.Ev H b d q z C a w<|p.I.r.r _<|iM q;have u:=p.C.d i r b<|À ⟨_,a⟩;have v:=yz H.C i;let⟨G,I,K⟩:=Qd H p (Hm H.C u) (Eu b) (m:=κ<|gQ<|F.I<|F.r<|i+r*F.n) (Á U) (Á ⟨_,i,H.C.I _ u,U,p.C.D i r b a,U⟩) λx h e=>(K7 (E:=E) d) x h e;let⟨T,M⟩:=ji t;have x:=lD (λl g h=>À h.2.1) t;obtain⟨o,y,l,N,O,P,Q,V,W,X⟩:=p.AH (J:=JW F (E.I i) i<|.fy r .ky) H (kW F (E.I i)<|.fy r .ky) q (by rw[v];exact D w) fj fj G I (by rwa[v]) x;refine p.Qb H b d q O P Q x V W (K y l N) X (by rw[a];rfl) (by rw[a];rfl) (p.C.G b d (λk=>by rw[a];rfl) (λe h=> ?_) (λe h=> ?_) (λe h=>by cases h) λe h=>by cases h) (by rw[a];simp only[gM.rk,jq.rk];omega) (λe h=>by cases h);all_goals grind
theorem PI.agM(H:gR F)(p:PI F j zX E S s B f c w qJ){r:Nat}(m:i+2<=E.r)(n:E.N (i+1)=Í)(q:c[F.L+1+i]?=Ã g)(G:g.status=Å)(I:s (F.L+1+i)=.fA)(d:E.C i=.fy r .gy):jY F j zX E s c w qJ sl (F.L+1+i):=by
 let⟨hd,_,K⟩:=p.Ev H m n q G I d w<|p.I.r.r _<|iM q;have v:=p.C.d i r m<|À ⟨_,d⟩;have y:=Hm H.C v;have z:=yz H.C i;let⟨a,b,M⟩:=p.C.H i r m d;have C:=p.M.I _<|H.C.I _ v;rw[M]at C;let⟨g',N,t⟩:=K 0;simp only[if_true]at t;let⟨T,O⟩:=ji t;have D:=lD (λl g h=>À h.2.1) t;obtain⟨o,u,l,P,Q,V,W,X,Y⟩:=p.Y (J:=JW F (E.I i) i<|.fy r .kY) H (kW F (E.I i)<|.fy r .kY) q (Eu m) y (by rw[z];exact N w C.C) (À U) (yy y) U (λx k e=>(K7 n x k e).elim) (by rwa[z]) D;refine p.Qb H m n q l P Q D V W X Y (by rw[d];rfl) (by rw[d];rfl) (p.C.G m n (λk=>by rw[d];rfl) (λe h=> ?_) (λe h=> ?_) (λe h=>by cases h) λe h=>by cases h) (by rw[d];simp only[gM.rk,jq.rk];omega) λe h=>by cases h
 .grind
 .rcases h with h|h|h<;>cases h;exact p.C.w i r m<|À d
theorem PI.agN(H:gR F)(p:PI F j zX E S s B f c w qJ){r:Nat}(d:i+2<=E.r)(t:E.N (i+1)=Í)(q:c[F.L+1+i]?=Ã g)(I:g.status=Å)(K:s (F.L+1+i)=.fA)(a:E.C i=.fy r .kY):jY F j zX E s c w qJ sl (F.L+1+i):=by
 have v:=iM q;let⟨M,_,g',N,x⟩:=p.Ev H d t q I K a w<|p.I.r.r _ v;have O:=p.C.d i r d<|À ⟨_,a⟩;have C:=Hm H.C O;have D:=yz H.C i;have u:∀y:Ă,y.act=Ě (ĺ<|fL<|F.I<|F.r<|i+r*F.n)->y.act.touch?=Í:=λy m=>by rw[m];rfl
 let⟨T,P⟩:=ji x;have G:=lD (λl g h=>À<|H.Y _ _ _ _ h) x;obtain⟨o,y,Q,l,V,W,X,Y,q5,q7⟩:=p.AH (J:=JW F (E.I i) i<|.jH r) H (kW F (E.I i)<|.jH r) q (by rw[D];exact N w) fj fj (λy m=>⟨λz k=>(by rw[u y m]at k;cases k),by rw[m];exact p.I.r.N _<|À C⟩) (λy _ m=>Ar p.I.r.l λz k=>by rw[wP k];exact u y m) (by rwa[D]) G;have Ey:=p.d.C (yu (λz k=>by rw[wP k];exact u y l) λz k b _ e=>by grind);refine p.Qb H d t q V W X G Y q5 Ey q7 (by rw[a];rfl) (by rw[a];rfl) (p.C.G d t (λk=>by rw[a,Qc U];rfl) (λk h=> ?_) (λk h=> ?_) (λk h=>by cases h) λk h=>by cases h) (by rw[a];simp only[gM.rk,jq.rk];omega) λk h z=> ?_
 .grind
 .rcases h with h|h|h<;>cases h;exact p.C.w i r d<|Á<|À a
 .cases h;let⟨k,b,e⟩:=p.d.Y _ z<|Ù (p.C.w i r d<|Á<|À a)<|P1 _;exact Xh k b e (p.d.c _ C) Q l<|(p.I.r.f _ v).trans M
end
section
variable{F:Ph}{E E':fS F}{S:Nat->Jd}{tr o:Nat->gu}{f:Nat->iw}{d:Nat->fc}{gs gs':Array Ä}{u:ä}{sl:Option (Nat×Nat)}
def Xy{G:GS}(h:G.sm≠0):∃a s,G=.gV a (s+1):=by
 cases G with
 |cl c b=>exact absurd U h
 |jE b=>exact absurd U h
 |gV a s=>cases s with
  |zero=>exact absurd U h
  |succ s=>exact⟨a,s,U⟩
def Ez(h:gs[i]?=Ã g):gk gs i=if g.status=Å then 1 else 0:=by unfold gk;rw[h];simp
def Qe(h:gs'[i]?=gs[i]?):gk gs' i=gk gs i:=by unfold gk;rw[h]
theorem PI.agO(H:gR F)(p:PI F n zX E S tr f d gs w qJ){j r:Nat}{g:Ä}(t:j+2<=E.r)(m:E.N (j+1)=Í)(v:gs[F.L+1+j]?=Ã g)(z:g.status=Å)(ht:tr (F.L+1+j)=.fA)(c:E.C j=.fy r .ky):jY F n zX E tr gs w qJ sl (F.L+1+j):=by
 have B:=iM v;obtain⟨hd,_,ho,Qf,g',h1,h2⟩:=(p.Ev H t m v z ht c) w<|p.I.r.r _ B;have Q:=p.C.d j r t<|À ⟨_,c⟩;have C:=Hm H.C Q;have G:=H.C.I _ Q;have V:=yz H.C j;have X:=p.G B;have vl:j<F.n:=by have:=Es p.C;omega
 have hG:=p.M.I _ G;by_cases K:(E.a<|F.r<|j+r*F.n).sm=0
 .have q:=hG.M;rw[K]at q;obtain⟨tT,I⟩:=p.g j t m;rw[c]at tT I;obtain⟨gs',q1,o,M,q4⟩:=Py v (by rw[V];exact(Qf w q));have s:∀x,Ā F.P g {g with status:=Ý} w x=x:=by
   intro x;unfold Ā;rw[if_neg fj]
  have b:∀k,k≠F.L+1+j->gs'[k]?=gs[k]?:=by
   intro k a;rw[q4 k a];cases gs[k]? with
   |none=>rfl
   |some x=>simp[s]
  have D:gL F.P F.S E.Y S tr f d gs' w (qJ++#[]):=by
   rw[Û];obtain⟨g0,J,l,W,O⟩:=p.I.C _ g v;have N:g=g0:=by
    rw[I]at l;cases l with
    |gk=>rfl
    |nP h ho=>cases z
   subst N;refine⟨?_,λk y a=> ?_,λk a=>p.I.I k<|by rwa[<-o]⟩
   .rw[show(λi=>i<gs'.size)=(λi=>i<gs.size) by rw[o]];exact p.I.r
   .by_cases e:k=F.L+1+j
    .subst e;rw[M]at a;obtain rfl:=È a;refine⟨g,J,?_,À z,Á ht⟩;rw[I];exact .nP z ho
    .rw[b k e]at a;exact p.I.C k y a
  refine⟨E,S,tr,f,d,gs',w,#[],q1,o,λh=>h,.r p.N (o.trans p.b) D (by rw[o];exact p.a) p.M p.C (by rw[Û];exact p.d) (λk y a l=> ?_) (by rw[Û];exact p.f),P7 (λ_ _=>rfl) X (by rw[Ez v,if_pos z]) (by rw[Ez M,if_neg fj]) λk a=>Qe<|b k a⟩;by_cases e:k=F.L+1+j
  .subst e;exact Á ⟨j,t,m,U,À ⟨r,c,K⟩⟩
  .rw[b k e]at a;exact p.c k y a l
 .obtain⟨a,s,y⟩:=Xy K;have Qg:=y▸hG;have EA:=h1 w _ (by simp only[GS.sm];omega) Qg.M Qg.N;have N:kB (F.I<|F.r<|j+r*F.n) w (w.setCell (gQ<|F.I<|F.r<|j+r*F.n)<|æ å<|(GS.gV a<|s+1).sm-1):=Á ⟨_,_,Á U,U⟩;have D:=N.r p.a H.C C;obtain⟨T,hT⟩:=ji (h2.jW (w₁:=w.setCell (gQ<|F.I<|F.r<|j+r*F.n)<|æ å<|(GS.gV a<|s+1).sm-1) ⟨Õ D.r.symm,λb l=>D.jO b<|p.I.r.I _ B b l,λa k=>D.M _ B a k,λa k=>D.N _ B a k,λa _=>D.I a⟩);have ng:=lD (λl g h=>À h.2.1) h2;obtain⟨gs',u,q1,o,M,q4,q5,q6,q7⟩:=p.Y H (kW F (E.I j)<|.fy r .gy) v (Eu t) C (by rwa[V]) N (Hk C) (Hl _).2.2.2 (λx l e=>(K7 m x l e).elim) (by rwa[V]) ng;have hle:F.r (j+r*F.n)<=E.S.od:=by
   refine ą λl=> ?_;have:=p.C.e _ Z G l;rw[y]at this;cases this
  have sJ:=wN (f':=λi=>((gN E j<|.fy r .gy).C i).gE F i<|F.r<|j+r*F.n) vl (λi l=>by rw[iL _ l]);simp only[jK,c]at sJ;have tT:gM.gE F j (F.r<|j+r*F.n) (.fy r .gy)=0:=by simp only[gM.gE,if_true];rfl
  have I:gM.gE F j (F.r<|j+r*F.n) (.fy r .ky)=1:=by simp only[gM.gE,if_true];rfl
  rw[tT,I]at sJ;refine⟨vk E j (.fy r .gy) (F.r<|j+r*F.n) (.gV a s) E.d,_,_,_,_,gs',_,u,q1,o,λh=>h,.r ?_ (o.trans p.b) q5 ?_ ?_ (p.C.Xo t m (λl q=> ?_) (λ_ h=>by omega) (λ_=> ?_) (λ_=>⟨a,s,U⟩) (λh=>by cases h) (λ_ _=>rfl) (λ_ h=>h) (λb h=> ?_) (λb h=> ?_) (λb h=> ?_) λb h=>by cases h) q6 ?_ λk b J O a3=> ?_,?_⟩
  .have:=p.N.N (x:=.fy r .gy) (T:=T) H.C t m;exact⟨this.M,this.Y,this.I,this.C,this.r⟩
  .have:=q7.r (x:=.fy r .gy) (by rw[c];rfl);exact⟨this.gS,this.o,this.lP,this.e,this.f,this.h,this.l,this.S,this.M,this.c,this.I,this.N,this.g,this.d⟩
  .have W:=N.I H p.a p.C p.M C (Gg:=fw E.a (F.r<|j+r*F.n)<|.gV a s) ⟨λe=>absurd e<|H.C.M _ G,λ_=>rfl⟩ λl q=>⟨λe=> ?_,λe=>fH _ _ λe'=>e<|by rw[e']⟩
   .have l:=W.Y (x:=.fy r .gy) (by show _=(E.C j).kA;rw[c];rfl) (by show _=(E.C j).iK;rw[c];rfl);exact⟨l.C,l.I,l.jG,l.M,l.S,l.N⟩
   .rw[<-(H.C.S _ _ G q e),gC];exact Qg.ky
  .rw[c];simp only[gM.gE,if_neg<|ÿ q]
  .rcases p.C.Y _ G hle with⟨W,_,q,_⟩|⟨r1,s1,l,z2,q,z3⟩|⟨l,⟨q,_⟩|⟨s1,q,z3⟩⟩
   .rw[y]at q;cases q
   .rw[y]at q;injection q with e1 e2;subst e1 e2;exact Á<|À ⟨a,s,l,z2,U,Z⟩
   .rw[y]at q;cases q
   .rw[y]at q;injection q with e1 e2;subst e1 e2;exact Á<|Á ⟨l,Á ⟨s,U,Z⟩⟩
  .rcases h with⟨_,h⟩|h|h<;>cases h;exact Q
  .rcases h with h|h|h<;>cases h;exact hle
  .cases h;exact⟨a,s,gC _ _ _⟩
  .refine p.c.qF (E':=vk E j _ _ _ _) M (by rcases ng with q|q<;>rw[q]<;>simp) q4 (λk l=>N.C p.C C l) U U (λ_ _=>rfl) (λ_=>rfl) (λk e=>iL _ Z) (λ_ _ h=>À h) λk b _ _ h=>À ?_;by_cases e:F.r (k+b*F.n)=F.r (j+r*F.n)
   .rw[e]at h;exact absurd h K
   .show(fw E.a _ _ _).sm=0;rwa[fH _ _ e]
  .have e:k≠j:=λe=>by
    subst e;have:(gN E k<|.fy r .gy).C k=.jH b:=O;rw[jK]at this;cases this
   have l:(gN E j<|.fy r .gy).C k=.jH b:=O;rw[iL _ e]at l;exact(p.f k b J l a3).app u
  .have:=Et (E:=E) (tr:=tr) (gs:=gs) (gs':=gs') (x:=.fy r .gy) (T:=T) H.C X m (by rw[c];simp only[gM.rk,jq.rk];omega);rcases this with⟨i,J,O,a3⟩|⟨J,_⟩
   .exact À ⟨i,J,O,a3⟩
   .exfalso;have:=J _ X;change(gN E j<|.fy r .gy).iQ (fw tr (F.L+1+j) T) (F.L+1+j)=E.iQ tr (F.L+1+j)at this;rw[tP H.C (E:=gN E j _) (show(gN E j _).N (j+1)=Í from m),tP H.C m,jK,c]at this;injection this with e _;simp only[gM.rk,jq.rk]at e;omega
theorem iF.agP(L:iF F E d i w){l:fc}(H:∀b,l.O b->(d n).O b)(I:∀b,(d n).I b->l.I b)(J:∀a,l.r a->(d n).r a)(K:∀a,(d n).r a->l.r a)(M:∀a,(d n).N a->l.N a)(N:∀a,l.C a->(∃k,k<=F.m/\a=jf F.toFx k)\/∃p,p≠F.f/\a=jk F p)(P:l.q=(d n).q)(o:¬l.q):iF F E (gq d n l) i w:=by
 have D:∀k,d k=kz (d k)->k≠n:=λk f e=>by
  subst e;have:(d k).q:=by rw[f];trivial
  grind
 have Q:∀k b,(gq d n l k).O b->(d k).O b:=λk b h=>by
  by_cases e:k=n
  .subst e;rw[gT]at h;exact H b h
  .rwa[gH d _ e]at h
 have t:∀k a,(gq d n l k).r a↔(d k).r a:=λk a=>by
  by_cases e:k=n
  .subst e;rw[gT];exact⟨J a,K a⟩
  .rw[gH d _ e]
 have y:∀k b,(d k).I b->(gq d n l k).I b:=λk b h=>by
  by_cases e:k=n
  .subst e;rw[gT];exact I b h
  .rwa[gH d _ e]
 have z:∀k a,(d k).N a->(gq d n l k).N a:=λk a h=>by
  by_cases e:k=n
  .subst e;rw[gT];exact M a h
  .rwa[gH d _ e]
 refine⟨λk f a v=> ?_,λx c s a v=>(t _ _).2<|L.o x c s a v,λh=>⟨z _ _ (L.lP h).1,λb o=>y _ _<|(L.lP h).2 b o⟩,λh k c s=>⟨(t _ _).2 (L.e h k c s).1,(t _ _).2 (L.e h k c s).2⟩,λh u=>⟨z _ _ (L.f h u).1,λb o=>y _ _<|(L.f h u).2 b o⟩,λj g u r B c=>(t _ _).2<|L.h j g u r B c,λj g u=>⟨z _ _ (L.l j g u).1,λb o=>y _ _<|(L.l j g u).2 b o⟩,λx G=> ?_,λk f=> ?_,λk c s=> ?_,λk f b o=> ?_,λk f j g h=>L.N k f j g<|(t _ _).1 h,λk c s j g h=>L.g k c s j g<|(t _ _).1 h,λj g r B c k f h=>L.d j g r B c k f<|(t _ _).1 h⟩
 .by_cases e:k=n
  .subst e;rw[gT]at v;exact N a v
  .rw[gH d _ e]at v;exact L.gS k f a v
 .rw[gH d _<|D _<|L.S x G];exact L.S x G
 .by_cases e:k=n
  .subst e;rwa[gT]
  .rw[gH d _ e];exact L.M k f
 .rw[gH d _<|D _<|L.c k c s];exact L.c k c s
 .let⟨S,T,V⟩:=L.I k f b o;grind
theorem PI.agQ(H:gR F)(p:PI F n zX E S tr f d gs w qJ){r:Nat}(o:j+2<=E.r)(s:E.N (j+1)=Í)(u:gs[F.L+1+j]?=Ã g)(x:g.status=Å)(I:tr (F.L+1+j)=.fA)(m:E.C j=.jH r):rA F n zX E tr gs w qJ:=by
 have c:=iM u;have C:=p.I.r;obtain⟨y,z⟩:=p.g j o s;rw[m]at y z;have B:=p.I.N u x I (À z) w<|C.r _ c;rw[y]at B;have v:=p.C.d j r o<|Á<|À m;have J:=H.C.I _ v;have D:=p.C.w j r o<|Á<|Á m;have t:=Ù D<|Ù (P1 _)<|K3 p.C;obtain⟨K,M⟩:=p.M.M _ t;have N:=λa l=>by
  by_cases e:1<=F.r (j+r*F.n)
  .exact(p.d.I _ e (Ù D<|P1 _) a l).agf<|p.f j r o m e
  .have h:F.r (j+r*F.n)=0:=Z
   obtain⟨i,b⟩:=p.a.l j o s;rw[h]at l;rcases l with l|rfl
   .rw[p.C.v]at l;exact(C.S _ c).C a<|b _ l
   .exact(C.S _ c).r _ i
 have G:iP F.S (λi=>i<gs.size) E.Y (gq d (F.L+1+j) {d (F.L+1+j)with I:=λb=>(d<|F.L+1+j).I b\/E.V (F.r<|j+r*F.n) b,N:=λa=>(d<|F.L+1+j).N a\/a=jf F.toFx (F.r<|j+r*F.n),w:=w}) w qJ:=by
  refine C.C c (λ_ q=>q) (λb q=> ?_) (λ_ q=>q) (λa q=> ?_) U U U (λb h q=> ?_) λa l q=> ?_
  .rcases q with q|q
   .exact À<|Á q
   .obtain⟨i,k,O⟩:=p.a.I _ t b q;grind
  .rcases q with q|rfl
   .exact À<|Á q
   .exact Á ⟨À<|Á ⟨_,J,U⟩,λk e=>p.a.N _ t k e,N _<|Á U⟩
  .rcases q with q|q
   .exact C.m _ c b h q
   .exact(p.a.I _ t b q).2.2 _ c h
  .rcases q with q|rfl
   .exact C.g _ c a l q
   .exact p.a.N _ t _ c l
 have i:=G.M c;rw[gT]at i;obtain⟨T,O⟩:=ji (H.e (E.I j) j r _ _ _ g v B {d (F.L+1+j)with I:=λb=>(d<|F.L+1+j).I b\/E.V (F.r<|j+r*F.n) b,N:=λa=>(d<|F.L+1+j).N a\/a=jf F.toFx (F.r<|j+r*F.n),w:=w} i U (λb q=>q) U U U U U K M (Á U)<|p.a.h j o s r v<|by rw[m];exact Æ _);refine p.P8 H o s u (À x) G O ?_ (p.M.Y (by rw[m];rfl)<|by rw[m];rfl) (p.C.G o s (λk=>by rw[m];rfl) (λe h=> ?_) (λe h=> ?_) (λe h=>by cases h) λe h=>by cases h) ?_ λe h=>by cases h
 .refine(p.a.r<|by rw[m];rfl).agP (λ_ q=>q) (λ_ q=>À q) (λ_ q=>q) (λ_ q=>q) (λ_ q=>À q) (λa l=> ?_) U (p.a.M (F.L+1+j)<|Á ⟨j+1,Z,Z,λ⟨e,h,_⟩=>by rw[s]at h;cases h⟩);rcases l with q|q|rfl
  .exact p.a.gS _ c a<|À q
  .exact p.a.gS _ c a<|Á q
  .grind
 .grind
 .grind
 .rw[m];simp only[gM.rk];have h:F.n+3000<=(F.n+3000)*(F.q+3-r):=ã _ (by
   have:r<=F.q:=by have:r*1<=r*F.n:=ð _ H.C.N;omega
   omega)
  omega
def PI.agR(H:gR F)(p:PI F n zX E S tr f d gs w qJ){r:Nat}(G:j+2<=E.r)(I:E.N (j+1)=Í)(V:gs[F.L+1+j]?=Ã g)(iH:g.status=Å)(ht:tr (F.L+1+j)=.fA)(u:E.C j=.nh r):rA F n zX E tr gs w qJ:=by
 have D:=iM V;have C:=p.I.r;let⟨tT,sK⟩:=p.g j G I;rw[u]at tT sK;have hJ:=p.I.N V iH ht<|À sK;rw[tT]at hJ;let⟨hcell,hrecv⟩:=hJ w<|C.r _ D;have oF:=p.C.d j r G<|Á<|Á u;have K9:=p.a.h j G I r oF (by rw[u];exact Æ _);have La:r<=F.q:=by have:r*1<=r*F.n:=ð _ H.C.N;omega
 have yA:iP F.S (λi=>i<gs.size) E.Y (gq d (F.L+1+j)<|vj F {d (F.L+1+j)with w:=w}<|j+r*F.n) w qJ:=by
  refine C.C D (λ_ q=>q) (λb q=>À<|Á q) (λ_ q=>q.1) (λa q=> ?_) U U U (λb t q=>C.m _ D b t q) λa s q=> ?_
  .rcases q with q|rfl
   .exact À<|Á q
   .exact À<|À K9
  .rcases q with q|q
   .exact C.g _ D a s.1 q
   .exact s.2 q
 have hF:kX F.P É (JW F (E.I j) j<|.nj (r+1)) .fA (vj F {d (F.L+1+j)with w:=w}<|j+r*F.n) g:=λw₁ kC=>by let⟨Q,W,c,e⟩:=hrecv;exact⟨Q,W,c,λx=>(e x).jW kC⟩
 refine p.P8 H G I V (À iH) yA hF ?_ ?_ (p.C.G G I (λk=>by rw[u];rfl) (λm h=> ?_) (λm h=> ?_) (λm h=>by cases h) λm h=>by cases h) ?_ λm h=>by cases h
 .have L:=p.a;have J:∀k a,(gq d (F.L+1+j) (vj F {d (F.L+1+j)with w:=w}<|j+r*F.n) k).r a->(d k).r a:=λk a h=>by
   by_cases e:k=F.L+1+j
   .subst e;rw[gT]at h;exact h.1
   .rwa[gH d _ e]at h
  have K:∀k a,(d k).r a->a≠jk F (F.a<|j+r*F.n)->(gq d (F.L+1+j) (vj F {d (F.L+1+j)with w:=w}<|j+r*F.n) k).r a:=λk a h lB=>by
   by_cases e:k=F.L+1+j
   .subst e;rw[gT];exact⟨h,lB⟩
   .rwa[gH d _ e]
  have X:∀k a,(d k).N a->(gq d (F.L+1+j) (vj F {d (F.L+1+j)with w:=w}<|j+r*F.n) k).N a:=λk a h=>by
   by_cases e:k=F.L+1+j
   .subst e;rw[gT];exact À h
   .rwa[gH d _ e]
  have M:∀k,(gq d (F.L+1+j) (vj F {d (F.L+1+j)with w:=w}<|j+r*F.n) k).I=(d k).I/\(gq d (F.L+1+j) (vj F {d (F.L+1+j)with w:=w}<|j+r*F.n) k).O=(d k).O/\(gq d (F.L+1+j) (vj F {d (F.L+1+j)with w:=w}<|j+r*F.n) k).q=(d k).q:=λk=>by
   by_cases e:k=F.L+1+j
   .subst e;rw[gT];exact⟨U,U,U⟩
   .rw[gH d _ e];exact⟨U,U,U⟩
  have nb:∀k,d k=kz (d k)->k≠F.L+1+j:=λk W e=>by
   subst e;have:(d<|F.L+1+j).q:=by rw[W];trivial
   exact(p.a.M (F.L+1+j)<|Á ⟨j+1,Z,Z,λ⟨e,c,_⟩=>by rw[I]at c;cases c⟩) this
  have N:∀k,k≠F.L+1+j->k<gs.size->∀a,(d k).r a->a≠jk F (F.a<|j+r*F.n):=λk W Hq a s e=>C.h _ _ Hq D W a s (by rw[e];exact À K9);refine⟨λk W a s=> ?_,λx c v a s=>K _ _ (L.o x c v a s) (N 0 (by have:=H.C.r;omega) (by have:=p.b;have:=H.C.r;omega) a<|L.o x c v a s),λh=>⟨X _ _ (L.lP h).1,λb t=>by rw[(M 0).1];exact(L.lP h).2 b t⟩,λh k c v=> ?_,λh B=>⟨X _ _ (L.f h B).1,λb t=>by rw[(M _).1];exact(L.f h B).2 b t⟩,λl o B m y c=> ?_,λl o B=>⟨X _ _ (L.l l o B).1,λb t=>by rw[(M _).1];exact(L.l l o B).2 b t⟩,λx AJ=>by rw[gH d _<|nb _<|L.S x AJ];exact L.S x AJ,λk W=>by rw[(M k).2.2];exact L.M k W,λk c v=>by rw[gH d _<|nb _<|L.c k c v];exact L.c k c v,λk W b t=>⟨(L.I k W b t).1,(L.I k W b t).2.1,λi z=>by rw[(M i).2.1];exact(L.I k W b t).2.2 i z⟩,λk W i z h=>L.N k W i z<|J _ _ h,λk c v i z h=>L.g k c v i z<|J _ _ h,λl o m y c i z h=> ?_⟩
  .by_cases e:k=F.L+1+j
   .subst e;rw[gT]at s;rcases s with q|q|q
    .exact L.gS _ D a<|À q.1
    .exact L.gS _ D a<|Á q
    .exact Á ⟨_,H.C.Y.2 _ (by assumption),q⟩
   .rw[gH d _ e]at s;exact L.gS k W a s
  .have Q:F.L<gs.size:=by have:=p.b;have:0<E.r:=h;omega
   have:=L.e h k c v;exact⟨K _ _ this.1<|N _ Z Q _ this.1,K _ _ this.2<|N _ Z Q _ this.2⟩
  .by_cases e:l=j
   .subst e;rw[jK]at c;simp only[gM.kA]at c;refine K _ _ (L.h l o B m y<|by rw[u];simp only[gM.kA];omega) λq=> ?_;have Q:=H.C.a _ _ y oF (by injection q);have T:m*F.n=r*F.n:=Z
    have:=Nat.eq_of_mul_eq_mul_right H.C.N T;omega
   .rw[iL _ e]at c;have q:=L.h l o B m y c;have wR:l+2<=E.r:=o;exact K _ _ q<|N _ Z (by have:=p.b;omega) _ q
  .by_cases e:l=j
   .subst e;rw[jK]at c;simp only[gM.kA]at c;by_cases Q:m=r
    .subst Q;by_cases T:i=F.L+1+l
     .subst T;rw[gT]at h;exact h.2 U
     .exact N i T z _ (J _ _ h) U
    .exact L.d l o m y (by rw[u];simp only[gM.kA];omega) i z<|J _ _ h
   .rw[iL _ e]at c;exact L.d l o m y c i z<|J _ _ h
 .have W:=p.M;refine⟨W.C,W.I,λl o=> ?_,W.M,W.S,λl o m y c=> ?_⟩
  .by_cases e:l=j
   .subst e;have:=W.jG l o;rw[u]at this;rw[jK];exact this
   .rw[iL _ e];exact W.jG l o
  .by_cases e:l=j
   .subst e;rw[jK]at c;simp only[gM.kA]at c;by_cases Q:m=r
    .subst Q;exact hcell
    .exact W.N l o m y<|by rw[u];simp only[gM.kA];omega
   .rw[iL _ e]at c;exact W.N l o m y c
 .rcases h with⟨_,h⟩|h|h<;>cases h
 .rcases h with h|h|h<;>cases h
 .rw[u];simp only[gM.rk];have e:F.q+3-r=(F.q+3-(r+1))+1:=Z
  rw[e,ō];omega
end
def agS{α:Type}(f:Nat->α)(i:Nat)(x y:α):fw (fw f i x) i y=fw f i y:=by funext k;unfold fw;split<;>rfl
section
variable{F:Ph}{E E':fS F}{S:Nat->Jd}{tr o:Nat->gu}{d:Nat->iw}{lot:Nat->fc}{gs gs':Array Ä}{u:ä}{sl:Option (Nat×Nat)}{sz:Nat}
def pO{r:Nat}{a:Bool}(h:b≠i):(w.setChan i n q yQ j r a).heap[b]?=w.heap[b]?:=by unfold World.setChan;exact î<|ÿ h
def Lb{r:Nat}{a:Bool}(h:i<w.heap.size):(w.setChan i n q yQ j r a).heap[i]?=Ã (.chan n q yQ j r a):=by unfold World.setChan;simp[h]
def Hr{r:Nat}{a:Bool}:(w.setChan i n q yQ j r a).heap.size=w.heap.size:=by unfold World.setChan;simp
def agT(f:Ps F E)(c:j+2<=E.r){cap s r:Nat}{buf:Array è}{cl tm:Bool}:Hg F E lot sz w (w.setChan (E.I j) cap buf cl s r tm):=by
 let⟨g,d,_⟩:=f.o j c;refine⟨Õ Hr.symm,λb _ h _=>pO λe=>h<|Á<|Á ⟨j,c,e⟩,λa i _=>gK (pO λe=> ?_),wF (pO λe=>d e.symm),U,U⟩;rcases i with⟨k,l,rfl⟩|⟨p,rfl⟩
 .exact g<|Á ⟨k,l,e.symm⟩
 .exact d e.symm
def Xz(a:Ps F E)(c:j+2<=E.r){cap s r:Nat}{buf:Array è}{cl tm:Bool}(d:F.M b){G:GS}(h:hD w b G):hD (w.setChan (E.I j) cap buf cl s r tm) b G:=by have e:b≠E.I j:=λe=>(a.o j c).1<|e▸d;exact h.vi (gK<|pO e) (gK<|pO e) (wG<|pO e)<|wG<|pO e
def Wd.G(W:Wd F E w)(H:gR F)(L:iF F E lot sz w)(g:Ps F E)(h:j+2<=E.r){cap s r:Nat}{buf:Array è}{cl tm:Bool}: (∀k,k<=E.S.md->nk F k (E.c k)/\F.d k (E.c k) (E.V k) (w.setChan (E.I j) cap buf cl s r tm))/\(∀k,1<=k->k<=E.S.md->(w.setChan (E.I j) cap buf cl s r tm).cell? (jk F (F.b k))=Ã (.string (F.o k)))/\(∀c,c+2<=E.r->∀d,c+d*F.n<F.q->d<(E.C c).kA->(w.setChan (E.I j) cap buf cl s r tm).cell? (jk F (F.a (c+d*F.n)))=Ã (.string (F.k (c+d*F.n))))/\hD (w.setChan (E.I j) cap buf cl s r tm) F.C E.b/\(∀k,k<=F.m->hD (w.setChan (E.I j) cap buf cl s r tm) (F.I k) (E.a k)):=by have e:=agT (lot:=lot) (sz:=sz) (w:=w) g h (cap:=cap) (s:=s) (r:=r) (buf:=buf) (cl:=cl) (tm:=tm);refine⟨λk a=>⟨(W.M k a).1,H.S _ _ _ _ _ (W.M k a).2 (λb f=>e.C b (L.I k a b f).1 (L.I k a b f).2.1 (L.I k a b f).2.2) (e.r _ (À ⟨k,Ù a (K2 g),U⟩) (L.N k a)) (e.r _ (Á ⟨_,U⟩) (L.P0 H.C)) e.I e.M⟩,λk b f=>(e.r _ (Á ⟨_,U⟩) (L.g k b f)).trans (W.S k b f),λc b d f i=>(e.r _ (Á ⟨_,U⟩) (L.d c b d f i)).trans (W.N c b d f i),Xz g h (À U) W.C,λk a=>Xz g h (Á ⟨k,a,U⟩) (W.I k a)⟩
def iF.EB(L:iF F E lot sz w)(h:w.heap.size<=W.heap.size):iF F E lot sz W:= ⟨L.gS,L.o,L.lP,L.e,L.f,L.h,L.l,L.S,L.M,L.c,λk a b c=>⟨Ê (L.I k a b c).1 h,(L.I k a b c).2⟩,L.N,L.g,L.d⟩
def Lc(c:TI F.toFx i zX E.r E.S.rl E.V E.e E.d E.iq E.f qJ)(h:wK u):TI F.toFx i zX E.r E.S.rl E.V E.e E.d E.iq E.f (qJ++u):= c.C<|yu (λa b=>(h a b).1) λa b _ _=>(h a b).2 _
def gU(E:fS F)(x:Nat)(e:ig):fS F:={E with N:=fw E.N x (Ã e)}
theorem qI.G(h:qI F E S tr d)(ok:F.Ok){x:Nat}{e:ig}{T:gu}(m:(∃N,e=.jo N)->T=.fA):qI F (fu.gU E x e) (fw S (F.L+x)<|JE F e) (fw tr (F.L+x) T) (fw d (F.L+x) .no):=by
 have:=ok.r;have c:∀y,y≠x->(fu.gU E x e).N y=E.N y:=λy k=>fH _ _ k;have f:(fu.gU E x e).N x=Ã e:=gC _ _ _;refine⟨by rw[fH S _ Z,fH d _ Z];exact h.M,λb a=> ?_,λj b a=> ?_,λy l b a=> ?_,λi b a=>by rw[fH S _ Z,fH d _ Z,fH tr _ Z];exact h.r i b a⟩
 .have g:x≠0:=λq=>by subst q;rw[f]at a;cases a
  rw[c 0<|ÿ g]at a;rw[fH S _ Z,fH d _ Z];exact h.Y b a
 .have g:x≠j+1:=λq=>by subst q;rw[f]at a;cases a
  rw[c _<|ÿ g]at a;rw[fH S _ Z,fH d _ Z];exact h.I j b a
 .by_cases q:y=x
  .subst q;rw[f]at a;obtain rfl:=È a;rw[gC,gC,gC];grind
  .rw[c y q]at a;rw[fH S _ Z,fH d _ Z,fH tr _ Z];exact h.C y l b a
def rB(F:Ph)(E:fS F)(x:Nat):Nat×Nat:=match E.N x with
 |some e=>e.rk F
 |none=>if x=0 then(E.S.rk F,0)else((E.C<|x-1).rk F,0)
def agU(ok:F.Ok)(x:Nat):E.iQ tr (F.L+x)=((rB F E x).1,(rB F E x).2,tr<|F.L+x):=by
 have:=ok.r;unfold rB;cases a:E.N x with
 |some e=>rw[K5 ok a]
 |none=>
  cases x with
  |zero=>rw[ô,P3 ok a];simp
  |succ j=>rw[show F.L+(j+1)=F.L+1+j by omega,tP ok a];simp
def EC(ok:F.Ok){x:Nat}{e:ig}{T:gu}(b:F.L+x<F.N)(h:(e.rk F).1<(rB F E x).1\/((e.rk F).1=(rB F E x).1/\(e.rk F).2<(rB F E x).2)):o5 F.N ((fu.gU E x e).mu (fw tr (F.L+x) T) gs') (E.mu tr gs):=by
 refine Hi b ?_ λk c=>yw (λ_=>rfl) (λ_ _=>rfl) (λa=>fH _ _ Z) (λ_ _=>rfl) (λ_ _=>rfl)<|fH tr _ c;rw[K5 ok (E:=fu.gU E x e)<|gC _ _ _,agU ok];rcases h with h|⟨a,d⟩
 .exact À h
 .exact Á ⟨a,À d⟩
def agV{e:ig}(h:e.kL=lX (E.N i))(y:Nat):(fu.gU E i e).G y=E.G y:=by
 unfold fS.G;by_cases q:y=i
 .subst q;show(if y<E.M.ad F.n then lX (fw E.N y (Ã e) y)else 0)=_;rw[gC];show(if y<E.M.ad F.n then e.kL else 0)=_;rw[h]
 .show(if y<E.M.ad F.n then lX (fw E.N i (Ã e) y)else 0)=_;rw[fH _ _ q]
def agW{e:ig}(h:e.kL=lX (E.N i)):Ñ (F.n+1) (fu.gU E i e).G=Ñ (F.n+1) E.G:=Ĭ λy _=>agV h y
theorem Ps.gU(h:Ps F E){x:Nat}{e:ig}(J:x<E.r)(v:e.kL=lX (E.N x))(w:∀p,E.N x=Ã (.gd p)->∀W,p≠ .gy W/\p≠ .ja W/\p≠ .iy W)(K:∀p,e=.gd p->∀W,p≠ .gy W/\p≠ .ja W/\p≠ .iy W) (z:∀j,x=j+1->j<E.M.je F.n/\∃r,E.C j=.nj r/\∀i,j+i*F.n<F.q->i<r) (B:x=0->E.S=.kK F.m):Ps F (fu.gU E x e):=by
 have b:∀y,y≠x->(fu.gU E x e).N y=E.N y:=λy a=>fH _ _ a;have L:(fu.gU E x e).N x=Ã e:=gC _ _ _;have g:=agW (E:=E) v;refine⟨h.v,h.C,h.K,h.L,h.J,h.I,h.z,h.d,λj C d=> ?_,λd=> ?_,λy a=> ?_,h.M,h.o,λc k f=>by rw[g];exact h.t c k f,λk f=> ?_,λr s f=> ?_,λy p a=> ?_,λD=>by rw[g];exact h.B D,h.e,h.Y,h.w,h.H,h.O,h.S,h.y,h.D⟩
 .by_cases q:j+1=x
  .exact z j q.symm
  .rw[b _ q]at d;exact h.l j C d
 .by_cases q:0=x
  .exact B q.symm
  .rw[b _ q]at d;exact h.f d
 .have:E.r<=y:=a;rw[b y Z];exact h.h y a
 .rw[g];let⟨l,o,y,t,u,G⟩:=h.g k f;refine⟨l,o,y,t,u,?_⟩;grind
 .rw[g];let⟨l,o,t⟩:=h.u r s f;refine⟨l,o,λG=> ?_⟩;let⟨y,H,I,u⟩:=t G;have:y≠x:=λq=>by subst q;exact(w _ u r).2.2 U
  exact⟨y,H,I,by rwa[b y this]⟩
 .by_cases q:y=x
  .grind
  .rw[b y q]at a;exact h.N y p a
def XA{x:Nat}{e:ig}(h:i≠x):(fu.gU E x e).iq i↔E.iq i:=by unfold fS.iq;show(∃a,fw E.N x (Ã e) i=Ã a/\a.iq)↔_;rw[fH _ _ h]
theorem agX{e:ig}:(fu.gU E i e).iq i↔e.iq:=by unfold fS.iq;show(∃a,fw E.N i (Ã e) i=Ã a/\a.iq)↔_;rw[gC];grind
def agY{e:ig}(h:e.iq↔E.iq i)(y:Nat):(fu.gU E i e).iq y↔E.iq y:=by
 by_cases q:y=i
 .subst q;rwa[agX]
 .exact XA q
theorem XB{e:ig}(h:e.n7↔E.n7 i)(y:Nat):(fu.gU E i e).n7 y↔E.n7 y:=by
 unfold fS.n7 at h|-;show(∃q,fw E.N i (Ã e) y=Ã q/\q.n7)↔_;by_cases q:y=i
 .subst q;rw[gC];grind
 .rw[fH _ _ q]
def iF.gU(L:iF F E lot sz w){x:Nat}{e:ig}(h:e.n7↔E.n7 x):iF F (fu.gU E x e) lot sz w:=by
 have d:∀y,(fu.gU E x e).N y=Í->E.N y=Í:=λy c=>by
  by_cases q:y=x
  .subst q;have:fw E.N y (Ã e) y=Í:=c;rw[gC]at this;cases this
  .have:fw E.N x (Ã e) y=Í:=c;rwa[fH _ _ q]at this
 exact⟨L.gS,L.o,L.lP,L.e,λa b=>L.f a<|d _ b,λj a b=>L.h j a<|d _ b,λj a b=>L.l j a<|d _ b,λy c=>L.S y<|(XB h y).1 c,λi f=>L.M i (f.imp id λ⟨y,a,b,g⟩=>⟨y,a,b,λq=>g<|(XB h y).2 q⟩),L.c,L.I,L.N,L.g,L.d⟩
def Wd.gU(W:Wd F E w){x:Nat}{e:ig}:Wd F (fu.gU E x e) w:=⟨W.C,W.I,W.jG,W.M,W.S,W.N⟩
def TI.G(a:TI F.toFx i zX E.r E.S.rl E.V E.e E.d E.iq E.f qJ){x:Nat}{e:ig}(h:e.iq↔E.iq x):TI F.toFx i zX (fu.gU E x e).r (fu.gU E x e).S.rl (fu.gU E x e).V (fu.gU E x e).e (fu.gU E x e).d (fu.gU E x e).iq (fu.gU E x e).f qJ:= {a with r:=λy b c=>a.r y b ((agY h y).1 c)}
def PI.agZ(H:gR F)(p:PI F i zX E S tr d lot gs w qJ){r:Nat}(t:j+2<=E.r)(o:E.N (j+1)=Í)(M:gs[F.L+1+j]?=Ã g)(iH:g.status=Å)(ht:tr (F.L+1+j)=.fA)(C:E.C j=.nj r):jY F i zX E tr gs w qJ sl (F.L+1+j):=by
 have wO:=p.G<|iM M;obtain⟨tT,sK⟩:=p.g j t o;rw[C]at tT sK;have Qh:S (F.L+1+j)=wH F.P (F.L+1+j==0) (E.I j) F.z λx=>match x with
  |some v=>λl g=>v=F.c (j+r*F.n)->qH F.P É F.B (F.I<|F.r<|j+r*F.n) (F.e (E.I j)<|j+r*F.n) .iW l g
  |none=>Av F:=by rwa[yz H.C j]
 have hY:E.Y (E.I j):=Á<|Á ⟨j,t,U⟩;obtain⟨buf,s,D,tU,XC,yB,yC⟩:=p.M.jG j t;rw[C]at D XC yB yC;simp only[gM.iK]at D XC yB yC;have ED:=(p.I.r).N _ hY;by_cases AA:r<s
 .have Ld:=yC 0 Z;rw[ô]at Ld;have oF:j+r*F.n<F.q:=by
   have:=(tU r).1 AA;have:E.M.mq F.q<=F.q:=by cases E.M<;>simp only[fU.mq]<;>omega
   omega
  obtain⟨gs',u,T,g',O,f,Q,V,I,W,q7⟩:=p.I.nj M iH sK ht Qh hY D Ld<|kW F (E.I j)<|.fy r .iW;have q8:=q7.kK (λl g h=>by rw[gC]at h;exact h U);rw[agS]at q8;obtain⟨z1,z2,z3,z4,z5⟩:=p.M.G H p.a p.C t;refine⟨gN E j<|.fy r .iW,_,_,_,_,gs',_,u,O,f,λh=>h,.r (p.N.N H.C t o) (f.trans p.b) q8 ?_ ⟨z4,z5,λv m=> ?_,z1,z2,λv m c oT a=> ?_⟩ (p.C.G t o (λk=>by rw[C,Qc U];rfl) (λc h=> ?_) (λc h=> ?_) (λc h=>by cases h) λc h=>by cases h) (Lc p.d W) (λk y b G=> ?_) λv c a1 J a3=> ?_,Et H.C wO o ?_⟩
  .rw[f];exact((p.a.r<|by rw[C];rfl).EB<|Õ Hr.symm)
  .by_cases e:v=j
   .subst e;rw[jK];refine⟨buf.extract 1 buf.size,s,Lb ED,tU,AA,by rw[Array.size_extract];simp only[gM.iK];omega,λl ln=> ?_⟩;simp only[gM.iK]at ln|-;rw[Array.getElem?_extract];rw[if_pos Z];have:=yC (1+l) Z;rw[this,show r+(1+l)=r+1+l by omega]
   .rw[iL _ e];obtain⟨K,X,y1,y2⟩:=p.M.jG v m;refine⟨K,X,?_,y2⟩;show(w.setChan (E.I j) _ _ _ _ _ _).heap[E.I v]?=_;rwa[pO λq=>e<|p.C.M _ _ m t q]
  .by_cases e:v=j
   .subst e;rw[jK]at a;exact z3 v m c oT<|by rwa[C]
   .rw[iL _ e]at a;exact z3 v m c oT a
  .rcases h with⟨_,h⟩|h|h<;>cases h;exact oF
  .rcases h with h|h|h<;>cases h
  .by_cases e:k=F.L+1+j
   .subst e;rw[Q]at b;obtain rfl:=È b;rw[V]at G;cases G
   .rw[I k e]at b;rcases p.c k y b G with a|⟨v,m,yD,K,X|⟨r1,cap,s1,c,X,h4⟩⟩
    .exact À a
    .exact Á ⟨v,m,yD,K,À<|by rwa[iL _ Z]⟩
    .have e2:v≠j:=Z
     exact Á ⟨v,m,yD,K,Á ⟨r1,cap,s1,c,by rwa[iL _ e2],by show(w.setChan (E.I j) _ _ _ _ _ _).heap[E.I v]?=_;rwa[pO λq=>e2<|p.C.M _ _ m t q]⟩⟩
  .rw[iL _ (λe=>by subst e;rw[jK]at J;cases J)]at J;exact(p.f v c a1 J a3).app u
  .rw[C];simp only[gM.rk,jq.rk];have hm:F.n+3000<=(F.n+3000)*(F.q+3-r):=ã _ (by
    have:r*1<=r*F.n:=ð _ H.C.N;omega)
   omega
 .have Qi:buf=#[]:=Array.size_eq_zero_iff.1 Z;subst Qi;have ag0:r=s:=Z
  by_cases pL:j<E.M.je F.n
  .rw[show decide (j<E.M.je F.n)=Î by simpa using pL]at D;obtain⟨gs',u,T,g',O,f,Q,V,I,W,q7⟩:=p.I.je (sl:=sl) M iH sK ht Qh hY D .no;have XD:F.L+1+j=F.L+(j+1):=Z
   have Hs:E.M.mq F.q=F.q:=by revert pL;cases E.M<;>simp only[fU.je,fU.mq]<;>intro h<;>first|trivial|omega
   have Qj:¬E.iq (j+1):=λ⟨e,a,_⟩=>by rw[o]at a;cases a
   have Qk:ig.iq .oD↔E.iq (j+1):=⟨λh=>h.elim,λh=>(Qj h).elim⟩;refine⟨fu.gU E (j+1) .oD,_,_,_,_,gs',w,u,O,f,λh=>h,.r (p.N.G H.C λ⟨N,h⟩=>by cases h) (f.trans p.b) (by rwa[<-XD]) (by rw[f];exact p.a.gU ⟨λh=>h.elim,λ⟨e,a,_⟩=>by rw[o]at a;cases a⟩) p.M.gU (p.C.gU Z (by rw[o];rfl) (λp' h=>by rw[o]at h;cases h) (λp' h=>by cases h) (λv h=> ?_) λh=>by omega) ((Lc p.d W).G Qk) (λk y b G=> ?_) λv c a1 J a3=>(p.f v c a1 J a3).app u,EC H.C (by rwa[<-XD])<|À ?_⟩
   .have:v=j:=Z
    subst this;exact⟨pL,r,C,λl ln=>by rw[ag0];exact(tU l).2<|by rwa[Hs]⟩
   .by_cases e:k=F.L+1+j
    .subst e;rw[Q]at b;obtain rfl:=È b;rw[V]at G;cases G
    .rw[I k e]at b;have l:∀v,F.L+1+v=k->(fu.gU E (j+1) .oD).N (v+1)=E.N (v+1):=λv h=>fH _ _ Z;rcases p.c k y b G with a|⟨v,m,yD,K,X⟩
     .exact À a
     .exact Á ⟨v,m,by rwa[l v K.symm],K,X⟩
   .unfold rB;rw[o];simp only[ig.rk];rw[if_neg Z,Nat.add_sub_cancel,C];simp only[gM.rk];have hm:F.n+3000<=(F.n+3000)*(F.q+3-r):=ã _ (by
     have a:=H.C.N;rcases Nat.eq_zero_or_pos r with l|l
     .omega
     .have K:=(tU (r-1)).1 Z;have:(r-1)*1<=(r-1)*F.n:=ð _ a;omega)
    omega
  .rw[show decide (j<E.M.je F.n)=É by simpa using pL]at D;obtain⟨gs',g',O,f,Q,V,I,W⟩:=p.I.af7 M iH sK ht Qh D;refine⟨E,S,tr,d,lot,gs',w,#[],O,f,λh=>h,.r p.N (f.trans p.b) (by rwa[Û]) (by rw[f];exact p.a) p.M p.C (by rw[Û];exact p.d) (λk y b l=> ?_) (by rw[Û];exact p.f),P7 (λ_ _=>rfl) wO (by rw[Ez M,if_pos iH]) (by rw[Ez Q,if_neg (by rw[V];simp)]) λk b=>Qe<|I k b⟩;by_cases e:k=F.L+1+j
   .subst e;exact Á ⟨j,t,o,U,Á ⟨r,F.q,s,r,C,D⟩⟩
   .rw[I k e]at b;exact p.c k y b l
end
section
variable{F:Ph}{E E':fS F}{S:Nat->Jd}{tr v:Nat->gu}{m:Nat->iw}{f:Nat->fc}{gs gs':Array Ä}{u:ä}{o:Option (Nat×Nat)}
def AK(ok:F.Ok)(x:Nat):(F.L+x==0)=É:=by have:=ok.r;simp;omega
def Ht(a:i<E.r):yx E (F.L+i):=Á ⟨i,a,U⟩
def PI.AL(p:PI F n zX E S tr m f gs w qJ){x:Nat}{e:ig}(b:x<E.r)(c:E.N x=Ã e)(d:gs[F.L+x]?=Ã g)(h:g.status=Å)(i:tr (F.L+x)=.fA):∀a,fI (f<|F.L+x) (f<|F.L+x).w a->JE F e {f (F.L+x)with w:=a} g:=by let⟨k,j,_⟩:=p.k x e b c;intro a r;have:=p.I.N d h i (À j) a r;simp_all
def Ql(B:fg F E gs w){x:Nat}{e:ig}(c:∀k y,gs[k]?=Ã y->y.status=Ý->k≠F.L+x):fg F (fu.gU E x e) gs w:=by
 intro k y a b;have i:=c k y a b;rcases B k y a b with h1|⟨j,d,f,g,h⟩
 .exact À h1
 .refine Á ⟨j,d,?_,g,h⟩;show fw E.N x (Ã e) (j+1)=Í;rwa[fH _ _ Z]
theorem PI.ag1(H:gR F)(p:PI F n zX E S tr m f gs w qJ)(V:J<E.r)(s:E.N J=Ã .oD)(D:gs[F.L+J]?=Ã g)(X:g.status=Å)(ht:tr (F.L+J)=.fA):rA F n zX E tr gs w qJ:=by
 have G:=iM D;have C:=p.I.r;have Qj:¬E.iq J:=λ⟨e,c,d⟩=>by rw[s]at c;cases c;exact d
 have Qk:ig.iq (.gd .jD)↔E.iq J:=⟨λh=>h.elim,λh=>(Qj h).elim⟩;have yA:iP F.S (λi=>i<gs.size) E.Y (gq f (F.L+J)<|kz {f (F.L+J)with w:=w}) w qJ:= C.C G (λ_ q=>q.elim) (λ_ q=>q.elim) (λ_ q=>q.elim) (λ_ q=>q.elim) U U U (λ_ q=>q.elim) λ_ q=>q.elim;have hF:kX F.P (F.L+J==0) (JE F<|.gd .jD) .fA (kz {f (F.L+J)with w:=w}) g:=by rw[AK H.C J];intro l T;let⟨W,a,b,j,k⟩:=p.AL V s D X ht w<|C.r _ G;exact⟨W,a,b,j,k.jW T⟩
 refine⟨fu.gU E J<|.gd .jD,_,_,_,_,λh=>h,.r (p.N.G H.C λ⟨N,h⟩=>by cases h) p.b (p.I.M (K:=.no) D (À X) yA hF) ?_ p.M.gU (p.C.gU V (by rw[s];rfl) (λT h=>by rw[s]at h;cases h) (λT h W=>by cases h;exact⟨fj,fj,fj⟩) (λj h=> ?_) λh=>(p.C.f<|by rw[<-h,s];simp)) (p.d.G Qk) (Ql p.c λk y W z e=> ?_) p.f,EC H.C (p.G G)<|À ?_⟩
 .have L:=p.a;have B:(gq f (F.L+J)<|kz {f (F.L+J)with w:=w}) (F.L+J)=kz {f (F.L+J)with w:=w}:=gT _ _ _;have l:∀k,k≠F.L+J->(gq f (F.L+J)<|kz {f (F.L+J)with w:=w}) k=f k:=λk W=>gH f _ W;have h0:(0:Nat)≠F.L+J:=by have:=H.C.r;omega
  have I:∀k a,(gq f (F.L+J) (kz {f (F.L+J)with w:=w}) k).r a->(f k).r a:=λk a h=>by
   by_cases q:k=F.L+J
   .subst q;rw[B]at h;exact h.elim
   .grind
  have sO:∀k a,(gq f (F.L+J) (kz {f (F.L+J)with w:=w}) k).O a->(f k).O a:=λk a h=>by
   by_cases q:k=F.L+J
   .subst q;rw[B]at h;exact h.elim
   .grind
  have ee:(fu.gU E J<|.gd .jD).N J=Ã (.gd .jD):=gC _ _ _;have v:∀y,y≠J->(fu.gU E J<|.gd .jD).N y=E.N y:=λy M=>fH _ _ M;refine⟨λk W a u=> ?_,λy c d a u=>by rw[l 0 h0];exact L.o y c d a u,λh=>by rw[l 0 h0];exact L.lP h,λh k c d=> ?_,λc d=> ?_,λj c d r t Q=> ?_,λj c d=> ?_,λy M=> ?_,λi o=> ?_,λk c d=>by rw[l k Z];exact L.c k c d,λk W b z=>⟨(L.I k W b z).1,(L.I k W b z).2.1,λi o h=>(L.I k W b z).2.2 i o<|sO _ _ h⟩,λk W i o h=>L.N k W i o<|I _ _ h,λk c d i o h=>L.g k c d i o<|I _ _ h,λj c r d t i o h=>L.d j c r d t i o<|I _ _ h⟩
  .by_cases q:k=F.L+J
   .subst q;rw[B]at u;rcases u with h|h<;>exact h.elim
   .rw[l k q]at u;exact L.gS k W a u
  .by_cases q:F.L=F.L+J
   .have XF:J=0:=Z
    subst XF;have:=p.C.f (by rw[s];simp);have T:E.S.md<k:=c;rw[this]at T;simp only[jx.md]at T;omega
   .rw[l _ q];exact L.e h k c d
  .by_cases q:F.L=F.L+J
   .grind
   .rw[l _ q];exact L.f c<|by rwa[<-v 0 Z]
  .by_cases q:F.L+1+j=F.L+J
   .grind
   .rw[l _ q];exact L.h j c (by rwa[<-v (j+1) Z]) r t Q
  .by_cases q:F.L+1+j=F.L+J
   .grind
   .rw[l _ q];exact L.l j c<|by rwa[<-v (j+1) Z]
  .by_cases q:F.L+y=F.L+J
   .rw[q,B];rfl
   .rw[l _ q];exact L.S y (by let⟨T,c,d⟩:=M;exact⟨T,by rwa[<-v y Z],d⟩)
  .by_cases q:i=F.L+J
   .subst q;rcases o with q|⟨y,c,d,t⟩
    .grind
    .have:y=J:=Z
     subst this;exact absurd ⟨_,ee,trivial⟩ t
   .rw[l _ q];refine L.M i<|o.imp id λ⟨y,c,d,t⟩=>⟨y,c,d,λ⟨T,Q,h5⟩=>t ⟨T,by rwa[v y Z],h5⟩⟩
 .have:=p.C.l j Z (by rw[<-h,s];simp);exact this
 .grind
 .unfold rB;rw[s];simp only[ig.rk,jF.rk];omega
def AN(E:fS F)(x:Nat)(e:ig)(G:GS)(a:Option Nat):fS F:={fu.gU E x e with b:=G,g:=a}
theorem Ps.Hu(h:Ps F E){e:ig}{G:GS}{la:Option Nat}(v:i<E.r)(D:∃w,E.N i=Ã w)(O:∀y,y≠i->∀p,E.N y=Ã (.gd p)->∀W,p≠ .gy W/\p≠ .ja W/\p≠ .iy W) (H:∀c d,G=.cl c d->c=Ñ (F.n+1) (fu.gU E i e).G/\d=E.M.gE) (I:∀d,G=.jE d->Ñ (F.n+1) (fu.gU E i e).G=0/\d=E.M.gE/\la=Ã i/\(e=.gd (.gy d)\/e=.gd (.ja d))) (J:∀r s,G=.gV r s->Ñ (F.n+1) (fu.gU E i e).G=0/\r+s=E.M.gE/\(0<r->la=Ã i/\e=.gd (.iy r))) (K:∀p,e=.gd p->(∀W,p=.gy W\/p=.ja W->la=Ã i/\G=.jE W)/\(∀r,p=.iy r->0<r/\la=Ã i/\∃s,G=.gV r s)) (L:E.M=.fy .gy\/E.M=.fy .kY\/E.M=.gd->Ñ (F.n+1) (fu.gU E i e).G=0) (M:E.M=.fy .gy->∃a b,G=.gV a b) (N:(∀p,E.M≠ .fy p)->E.M≠ .gd->∃c,G=.cl c 0):Ps F (AN E i e G la):=by
 have l:∀y,y≠i->(AN E i e G la).N y=E.N y:=λy f=>fH _ _ f;have m:(AN E i e G la).N i=Ã e:=gC _ _ _;let⟨w,z⟩:=D;refine⟨h.v,h.C,h.K,h.L,h.J,h.I,h.z,h.d,λj B g=> ?_,λg=> ?_,λy f=> ?_,h.M,h.o,H,λd o=> ?_,λr s o=> ?_,λy p f=> ?_,L,h.e,h.Y,h.w,h.H,M,N,h.y,h.D⟩
 .by_cases q:j+1=i
  .exact h.l j B<|by rw[q,z];simp
  .rw[l _ q]at g;exact h.l j B g
 .by_cases q:0=i
  .exact h.f<|by rw[q,z];simp
  .rw[l _ q]at g;exact h.f g
 .have:E.r<=y:=f;rw[l y Z];exact h.h y f
 .let⟨t,u,k,C⟩:=I d o;exact⟨t,u,i,v,k,by rw[m];exact C.imp (λq=>by rw[q]) λq=>by rw[q]⟩
 .let⟨t,u,k⟩:=J r s o;exact⟨t,u,λC=>⟨i,v,(k C).1,by rw[m,(k C).2]⟩⟩
 .by_cases q:y=i
  .subst q;rw[m]at f;exact K p<|È f
  .grind
def ag2{G:GS}(a:hD W F.C G)(h:Wd F {E with b:=G,a:=E.a} W){x:Nat}{e:ig}{b:Option Nat}:Wd F (AN E x e G b) W:=⟨a,h.I,h.jG,h.M,h.S,h.N⟩
theorem PI.Hv(H:gR F)(p:PI F n zX E S tr m f gs w qJ){x:Nat}{a e:ig}{G:GS}{la:Option Nat}{c:Ä}{T:gu}(hx:x<E.r)(d:E.N x=Ã a)(t:a.iq)(I:e.iq)(J:e.n7)(v:gs[F.L+x]?=Ã g)(z:kB F.C w W)(B:hD W F.C G)(K:ř F.P (ñ gs w o) (F.L+x)=(Ğ<|ñ gs' W o,u))(C:gs'.size=gs.size)(M:gs'[F.L+x]?=Ã c)(O:c.status=Å\/c.status=ç)(Q:∀k,k≠F.L+x->gs'[k]?=gs[k]?.map (Ā F.P g c W)) (X:gL F.P F.S E.Y (fw S (F.L+x)<|JE F e) (fw tr (F.L+x) T) (fw m (F.L+x) .no) (gq f (F.L+x) {f (F.L+x)with w:=W}) gs' W (qJ++u)) (q6:TI F.toFx n zX E.r E.S.rl E.V E.e E.d E.iq E.f (qJ++u)) (q7:iF F E (gq f (F.L+x) {f (F.L+x)with w:=W}) gs'.size W) (hT:(∃N,e=.jo N)->T=.fA) (hP:Ps F (AN E x e G la)) (XG:(e.rk F).1<(a.rk F).1\/((e.rk F).1=(a.rk F).1/\(e.rk F).2<(a.rk F).2)) (Ew:E.M=.fy .ky->E.b.sm=0->G.sm=0\/∀y,gs'[0]?=Ã y->y.status≠Ý):jY F n zX E tr gs w qJ o (F.L+x):=by
 have D:F.M F.C:=À U;refine⟨AN E x e G la,_,_,_,_,gs',W,u,K,C,λh=>h,.r ?_ (C.trans p.b) X ?_ (ag2 B<|z.I H p.a p.C p.M D ⟨λ_=>B,λq=>absurd U q⟩ λk b=>⟨λq=>absurd q.symm<|H.C.M k b,λ_=>rfl⟩) hP (q6.G<|⟨λ_=>⟨a,d,t⟩,λ_=>I⟩) ?_ λj r b l s=>(p.f j r b l s).app u,?_⟩
 .have:=p.N.G (x:=x) H.C hT;exact⟨this.M,this.Y,this.I,this.C,this.r⟩
 .have:=q7.gU (⟨λ_=>Xj ⟨a,d,t⟩,λ_=>J⟩);exact⟨this.gS,this.o,this.lP,this.e,this.f,this.h,this.l,this.S,this.M,this.c,this.I,this.N,this.g,this.d⟩
 .refine p.c.qF (E':=AN E x e G la) M (by rcases O with q|q<;>rw[q]<;>simp) Q (λj i=>z.C p.C D i) U U (λy i=>fH _ _ Z) (λ_=>rfl) (λ_ _=>rfl) (λ_ i j=>Ew i j) λ_ _ _ _ h=>À h
 .have j:rB F E x=a.rk F:=by unfold rB;rw[d]
  have:=EC (E:=E) (tr:=tr) (gs:=gs) (gs':=gs') (T:=T) H.C (p.G<|iM v) (by rwa[j]);rcases this with⟨i,b,l,s⟩|⟨b,_⟩
  .exact À ⟨i,b,l,s⟩
  .exfalso;have:=b _<|p.G<|iM v;change(fu.gU E x e).iQ (fw tr (F.L+x) T) (F.L+x)=E.iQ tr (F.L+x)at this;rw[K5 H.C (E:=fu.gU E x e)<|gC _ _ _,K5 H.C d]at this;grind
theorem ag3(h:V=#[kx<|fL F.C,mM<|fL F.C]\/V=#[kx<|fL F.C]\/V=#[mM<|fL F.C]\/V=ö (gQ F.C)):∀e∈V,∀b,(Ë e).touch?=Ã b->∃y:Č,b.loc=ý y/\y.block=F.C:=by
 intro e c b g;have:∃x:Č,x.block=F.C/\(e.loc=ý x\/e.loc=Ŷ õ\/e.loc=Ŷ ï):=by
  rcases h with rfl|rfl|rfl|rfl
  .simp at c;rcases c with rfl|rfl<;>exact⟨fL F.C,U,À U⟩
  .simp at c;subst c;exact⟨fL F.C,U,À U⟩
  .simp at c;subst c;exact⟨fL F.C,U,À U⟩
  .simp[ö]at c;rcases c with rfl|rfl|rfl|rfl
   .exact⟨gQ F.C,U,Á<|À U⟩
   .exact⟨gQ F.C,U,À U⟩
   .exact⟨gQ F.C,U,À U⟩
   .exact⟨gQ F.C,U,Á<|Á U⟩
 let⟨x,i,a⟩:=this;let⟨j,d,f⟩:=e;rcases a with a|a|a
 .simp only at a;subst a;have:(Ë ⟨ý x,d,f⟩).touch?=Ã ⟨ý x,d,if f then .atomic else .plain⟩:=by cases d<;>cases f<;>rfl
  grind
 .simp only at a;subst a;simp[Ë,ċ]at g
 .simp only at a;subst a;simp[Ë,ċ]at g
def Hw(p:PI F n zX E S tr m f gs w qJ)(a:F.L+i<gs.size)(c:(f<|F.L+i).d=1)(h:V=#[kx<|fL F.C,mM<|fL F.C]\/V=#[kx<|fL F.C]\/V=#[mM<|fL F.C]\/V=ö (gQ F.C)): ∀y,E.iq y->F.L+i=F.L+y->(∀e∈V,∀b,(Ë e).touch?=Ã b->∃y:Č,b.loc=ý y/\y.block=F.C)/\Ax (σ qJ<|F.L+i) V:=by
 intro y _ _;refine⟨ag3 h,?_⟩;rw[p.I.r.f _ a,c];rcases h with rfl|rfl|rfl|rfl
 .exact K6.1
 .exact K6.2.1
 .exact K6.2.2.1
 .exact K6.2.2.2
def PI.ag4(H:gR F)(p:PI F n zX E S tr m f gs w qJ){x:Nat}(i:x<E.r)(a:E.N x=Ã (.gd .jD))(k:gs[F.L+x]?=Ã g)(G:g.status=Å)(I:tr (F.L+x)=.fA):jY F n zX E tr gs w qJ o (F.L+x):=by
 have s:=iM k;have C:=p.I.r;let⟨J,_,g',c,d⟩:=p.AL i a k G I w<|C.r _ s;have t:=AK H.C x;have u:∀y:Ă,y.act=Ě (ĳ<|fL F.C)->y.act.touch?=Í:=λy b=>by rw[b];rfl
 let⟨T,K⟩:=ji d;have v:=lD (λl g h=>À h.2.1) d;obtain⟨gs',y,M,O,P,B,Q,V,X,Y⟩:=p.AH H .no k (by rw[t];exact c w) fj fj (λy b=>⟨λz l=>(by rw[u y b]at l;cases l),by rw[b];exact C.N _<|À<|À U⟩) (λy _ b=>Ar C.l λq j=>by rw[wP j];exact u y b) (by rwa[t]) v;have D:=p.d.agl i M O ((C.f _ s).trans J) (λ⟨e,c,d⟩=>by rw[a]at c;cases c;exact d);refine⟨{fu.gU E x (.gd .iE)with f:=fw E.f x qJ.size},_,_,_,_,gs',w,#[y],P,B,λh=>h,.r ?_ (B.trans p.b) X ?_ (⟨p.M.C,p.M.I,p.M.jG,p.M.M,p.M.S,p.M.N⟩) ?_ ?_ ?_ λj r q W a3=>(p.f j r q W a3).app _,EC H.C (p.G s)<|À ?_⟩
 .have:=p.N.G (x:=x) (e:=.gd .iE) (T:=T) H.C (λ⟨N,h⟩=>by cases h);exact⟨this.M,this.Y,this.I,this.C,this.r⟩
 .have:=Y.gU (x:=x) (e:=.gd .iE) (⟨λ_=>⟨_,a,trivial⟩,λ_=>trivial⟩);exact⟨this.gS,this.o,this.lP,this.e,this.f,this.h,this.l,this.S,this.M,this.c,this.I,this.N,this.g,this.d⟩
 .have h:=p.C.gU (x:=x) (e:=.gd .iE) i (by rw[a];rfl) (λq h W=>by rw[a]at h;cases h;exact⟨fj,fj,fj⟩) (λq h W=>by cases h;exact⟨fj,fj,fj⟩) (λj h=>p.C.l j Z<|by rw[<-h,a];simp) (λh=>p.C.f<|by rw[<-h,a];simp);exact⟨h.v,h.C,h.K,h.L,h.J,h.I,h.z,h.d,h.l,h.f,h.h,h.M,h.o,h.t,h.g,h.u,h.N,h.B,h.e,h.Y,h.w,h.H,h.O,h.S,h.y,h.D⟩
 .refine{D with r:=λz l j=>D.r z l ?_};by_cases q:z=x
  .exact Á q
  .exact À<|(XA q).1 j
 .refine p.c.qF (E':={fu.gU E x (.gd .iE)with f:=fw E.f x qJ.size}) Q (by rcases v with q|q<;>rw[q]<;>simp) V (λ_ _=>rfl) U U (λy b=>fH _ _ Z) (λ_=>rfl) (λ_ _=>rfl) (λ_ _ h=>À h) λ_ _ _ _ h=>À h
 .unfold rB;rw[a];simp only[ig.rk,jF.rk];omega
end
section
variable{F:Ph}{E K:fS F}{S:Nat->Jd}{o M:Nat->gu}{G:Nat->iw}{B:Nat->fc}{m J:Array Ä}{u:ä}{I:Option (Nat×Nat)}
def XH{N:Nat}{l:fc}(h:ſ P N l.d g):kX P É (oC P N) .fA l g:=λ_ _=>h
def XJ(a:Ps F E):E.r<=E.M.ad F.n:=by unfold fS.r;cases E.M<;>simp only[fU.sp,fU.ad]<;>omega
theorem Hx(b:Ps F E){e:ig}(d:i<E.r):Ñ (F.n+1) (fu.gU E i e).G+lX (E.N i)=Ñ (F.n+1) E.G+e.kL:=by
 have g:=XJ b;have h:=Es b;have:=wN (f:=E.G) (f':=(fu.gU E i e).G) (j:=i) (n:=F.n+1) Z (λa c=>by unfold fS.G;show(if a<E.M.ad F.n then lX (fw E.N i (Ã e) a)else 0)=_;rw[fH _ _ c]);have a:E.G i=lX (E.N i):=by unfold fS.G;rw[if_pos Z]
 have c:(fu.gU E i e).G i=e.kL:=by unfold fS.G;show(if i<E.M.ad F.n then lX (fw E.N i (Ã e) i)else 0)=_;rw[if_pos Z,gC];rfl
 grind
theorem XK(a:Ps F E)(h:E.b=.cl i n):∀y p,E.N y=Ã (.gd p)->∀W,p≠ .gy W/\p≠ .ja W/\p≠ .iy W:=by intro y p b W;let⟨d,e⟩:=a.N y p b;grind
theorem Qm(a:Ps F E)(h:E.g=Ã i):∀y,y≠i->∀p,E.N y=Ã (.gd p)->∀W,p≠ .gy W/\p≠ .ja W/\p≠ .iy W:=by intro y c p b W;let⟨d,e⟩:=a.N y p b;grind
def PI.ag5(p:PI F n zX E S o G B m w qJ)(e:i<E.r)(d:E.N i=Ã (.gd .iE)):∃c a,E.b=.cl (c+1) a/\c+1=Ñ (F.n+1) E.G/\a=E.M.gE/\¬(E.M=.fy .gy\/E.M=.fy .kY\/E.M=.gd):=by
 have g:1<=Ñ (F.n+1) E.G:=by
  have q:=XJ p.C;have r:=Es p.C;have:=P4 (f:=E.G) (j:=i) (n:=F.n+1) Z;have s:E.G i=1:=by unfold fS.G;rw[if_pos Z,d];rfl
  omega
 obtain⟨c,a,b⟩:∃c a,E.b=.cl (c+1) a:=by
  cases q:E.b with
  |cl c a=>
   have:=(p.C.t c a q).1;exact⟨c-1,a,by congr 1;omega⟩
  |jE a=>have:=(p.C.g a q).1;omega
  |gV r s=>have:=(p.C.u r s q).1;omega
 let⟨r,s⟩:=p.C.t _ _ b;exact⟨c,a,b,r,s,λq=>by have:=p.C.B q;omega⟩
theorem PI.ag6(H:gR F)(p:PI F n zX E S o G B m w qJ)(f:i<E.r)(v:E.N i=Ã (.gd .iE))(z:m[F.L+i]?=Ã g)(iH:g.status=Å)(ht:o (F.L+i)=.fA)(hc:E.b=.cl (j+1) k)(Hz:j+1=Ñ (F.n+1) E.G)(XL:k=E.M.gE)(HA:¬(E.M=.fy .gy\/E.M=.fy .kY\/E.M=.gd))(hl:j=0/\0<k):jY F n zX E o m w qJ I (F.L+i):=by
 have t:=iM z;have C:=p.I.r;let⟨hd,_,tV⟩:=p.AL f v z iH ht w<|C.r _ t;have mc:=AK H.C i;have Q:F.M F.C:=À U;have K:=hc▸p.M.C;let⟨ev,V⟩:=K.jI;have X:=tV (GS.cl (j+1) k).st;rw[ev]at X V;obtain⟨d,M⟩:∃d,(GS.jI<|.cl (j+1) k).st=d:=⟨_,U⟩;rw[M]at X;let⟨g',h1,h2⟩:=X;have Y:=h1 w K.C K.I;rw[<-M]at Y;let⟨k1,k2,k3⟩:=K.r;have O:kB F.C w (w.setCell (fL F.C)<|æ Ó (GS.jI<|.cl (j+1) k).st):=Á ⟨_,_,À U,U⟩;have D:=O.r p.a H.C Q;have wS:fI {B (F.L+i)with w:=w} w (w.setCell (fL F.C)<|æ Ó (GS.jI<|.cl (j+1) k).st):=⟨Õ D.r.symm,λb kZ=>D.jO b<|C.I _ t b kZ,λa ha=>D.M _ t a ha,λa ha=>D.N _ t a ha,λa _=>D.I a⟩;have ed:GS.jI (.cl (j+1) k)=.jE k:=by simp only[GS.jI,if_pos hl]
 rw[ed]at Y V O D wS M;have hW:fh F.P É (KW F.P É F.C (Hd F) k) {B (F.L+i)with w:=w} g':=by
  have r:d=(k:Int):=M.symm;have l:¬(d=0\/(fX<=d/\d<1000000*fX/\d%fX<1000000)):=by simp only[fX];omega
  grind
 let⟨T,hT⟩:=ji<|hW.jW wS;have ng:=lD (λl g h=>À h.2.1) hW;obtain⟨J,u,l,q2,q3,q4,q5,q6,q7⟩:=p.Y H .no z (Ht f) Q (by rwa[mc]) O (Ay Q) U (Hw p t hd<|À U) (by rwa[mc]) ng;have yE:=Hx p.C (e:=.gd (.gy k)) f;rw[v]at yE;refine p.Hv H (e:=.gd (.gy k)) (la:=Ã i) f v trivial trivial trivial z O V l q2 q3 ng q4 q5 q6 q7 (λ⟨N,h⟩=>by cases h) (p.C.Hu f ⟨_,v⟩ (λy _ q r W=>XK p.C hc y q r W) (λy r h=>by cases h) (λr h=> ?_) (λr s h=>by cases h) (λq h=> ?_) (λq=>absurd q HA) (λq=>absurd (À q) HA) λl q2=> ?_) (À ?_) λ_ _=>À rfl
 .injection h with h;subst h;exact⟨(by simp only[lX,ig.kL,jF.kL]at yE;omega),XL,U,À U⟩
 .grind
 .let⟨y,r⟩:=p.C.S l q2;grind
 .simp only[ig.rk,jF.rk];grind
theorem PI.ag7(H:gR F)(p:PI F n zX E S o G B m w qJ)(f:i<E.r)(t:E.N i=Ã (.gd .iE))(v:m[F.L+i]?=Ã g)(iH:g.status=Å)(ht:o (F.L+i)=.fA)(hc:E.b=.cl (j+1) k)(Hz:j+1=Ñ (F.n+1) E.G)(XL:k=E.M.gE)(HA:¬(E.M=.fy .gy\/E.M=.fy .kY\/E.M=.gd))(hl:¬(j=0/\0<k)):jY F n zX E o m w qJ I (F.L+i):=by
 have l:=iM v;have C:=p.I.r;let⟨hd,_,tV⟩:=p.AL f t v iH ht w<|C.r _ l;have mc:=AK H.C i;have O:F.M F.C:=À U;have z:=hc▸p.M.C;let⟨ev,P⟩:=z.jI;have Q:=tV (GS.cl (j+1) k).st;rw[ev]at Q P;obtain⟨d,K⟩:∃d,(GS.jI<|.cl (j+1) k).st=d:=⟨_,U⟩;rw[K]at Q;let⟨g',h1,h2⟩:=Q;have T:=h1 w z.C z.I;rw[<-K]at T;let⟨k1,k2,k3⟩:=z.r;have M:kB F.C w (w.setCell (fL F.C)<|æ Ó (GS.jI<|.cl (j+1) k).st):=Á ⟨_,_,À U,U⟩;have D:=M.r p.a H.C O;have wS:fI {B (F.L+i)with w:=w} w (w.setCell (fL F.C)<|æ Ó (GS.jI<|.cl (j+1) k).st):=⟨Õ D.r.symm,λb kZ=>D.jO b<|C.I _ l b kZ,λa V=>D.M _ l a V,λa V=>D.N _ l a V,λa _=>D.I a⟩;have ed:GS.jI (.cl (j+1) k)=.cl j k:=by simp only[GS.jI,if_neg hl]
 rw[ed]at T P M D wS K;obtain⟨N,hN⟩:Hd F {B (F.L+i)with w:=w} g':=by
  have q:d=(j:Int)*fX+(k:Int):=K.symm;have h:d=0\/(fX<=d/\d<1000000*fX/\d%fX<1000000):=by simp only[fX]at q|-;omega
  grind
 have ng:=hN.status;obtain⟨J,u,X,Y,q3,q4,q5,q6,q7⟩:=p.Y H .no v (Ht f) O (by rwa[mc]) M (Ay O) U (Hw p l hd<|À U) (by rw[mc];exact XH hN) ng;have yE:=Hx p.C (e:=.jo N) f;rw[t]at yE;have hz:Ñ (F.n+1) (fu.gU E i<|.jo N).G=j:=by simp only[lX,ig.kL,jF.kL]at yE;omega
 refine p.Hv H (e:=.jo N) (la:=E.g) f t trivial trivial trivial v M P X Y q3 ng q4 q5 q6 q7 (λ_=>rfl) (p.C.Hu f ⟨_,t⟩ (λy _ q h W=>XK p.C hc y q h W) (λy r h=> ?_) (λr h=>by cases h) (λr s h=>by cases h) (λq h=>by cases h) (λq=>absurd q HA) (λq=>absurd (À q) HA) λX Y=> ?_) (À ?_) λ_ _=>À rfl
 .grind
 .let⟨y,h⟩:=p.C.S X Y;grind
 .simp only[ig.rk,jF.rk];omega
def PI.ag8(H:gR F)(p:PI F n zX E S o G B m w qJ)(a:i<E.r)(b:E.N i=Ã (.gd .iE))(d:m[F.L+i]?=Ã g)(e:g.status=Å)(f:o (F.L+i)=.fA):jY F n zX E o m w qJ I (F.L+i):=by
 let⟨c,r,h,j,k,l⟩:=p.ag5 a b;by_cases q:c=0/\0<r
 .exact p.ag6 H a b d e f h j k l q
 .exact p.ag7 H a b d e f h j k l q
theorem PI.ag9(H:gR F)(p:PI F n zX E S o G B m w qJ)(c:i<E.r)(d:E.N i=Ã (.gd (.gy j)))(f:m[F.L+i]?=Ã g)(O:g.status=Å)(P:o (F.L+i)=.fA):jY F n zX E o m w qJ I (F.L+i):=by
 have y:=iM f;let⟨Q,_,V⟩:=p.AL c d f O P w<|(p.I.r).r _ y;have z:=AK H.C i;have C:F.M F.C:=À U;let⟨X,k⟩:=(p.C.N i _ d).1 j<|À U;have D:=k▸p.M.C;let⟨g',Y,t⟩:=V (j:Int);simp only[if_true]at t;let⟨T,hT⟩:=ji t;have K:=lD (λl g h=>À h.2.1) t;obtain⟨J,u,l,v,q3,q4,q5,q6,q7⟩:=p.Y H .no f (Ht c) C (by rw[z];exact Y w D.C) (À U) (yy C) U (Hw p y Q<|Á<|À U) (by rwa[z]) K;have M:=Hx p.C (e:=.gd (.ja j)) c;rw[d]at M;let⟨b1,b2,_⟩:=p.C.g j k;have hz:Ñ (F.n+1) (fu.gU E i<|.gd (.ja j)).G=0:=by simp only[lX,ig.kL,jF.kL]at M;omega
 refine p.Hv H (e:=.gd (.ja j)) (la:=E.g) c d trivial trivial trivial f (À U) D l v q3 K q4 q5 q6 q7 (λ⟨N,h⟩=>by cases h) (p.C.Hu c ⟨_,d⟩ (Qm p.C X) (λc' a h=>by cases h) (λa h=> ?_) (λr s h=>by cases h) (λa h=> ?_) (λ_=>hz) (λq=> ?_) λl v=> ?_) (À ?_) λ_ h=>À rfl
 .grind
 .grind
 .let⟨a,b,h⟩:=p.C.O q;rw[k]at h;cases h
 .let⟨c',a⟩:=p.C.S l v;grind
 .simp only[ig.rk,jF.rk];omega
theorem PI.aha(H:gR F)(p:PI F n zX E S o G B m w qJ)(c:i<E.r)(d:E.N i=Ã (.gd (.ja j)))(k:m[F.L+i]?=Ã g)(P:g.status=Å)(Q:o (F.L+i)=.fA):jY F n zX E o m w qJ I (F.L+i):=by
 have f:=iM k;have C:=p.I.r;let⟨V,_,g',X,z⟩:=p.AL c d k P Q w<|C.r _ f;have K:=AK H.C i;have v:F.M F.C:=À U;let⟨Y,M⟩:=(p.C.N i _ d).1 j<|Á U;have t:=M▸p.M.C;have Qo:=t.r.1;have y:kB F.C w (w.setCell (fL F.C)<|æ Ó 0):=Á ⟨_,_,À U,U⟩;have D:=y.r p.a H.C v;let⟨T,hT⟩:=ji (z.jW ⟨Õ D.r.symm,λb l=>D.jO b<|C.I _ f b l,λa h=>D.M _ f a h,λa h=>D.N _ f a h,λa _=>D.I a⟩);have O:=lD (λl g h=>by
  cases j with
  |zero=>omega
  |succ j=>exact À h.2.1) z
 obtain⟨J,u,a,b,q3,q4,q5,q6,q7⟩:=p.Y H .no k (Ht c) v (by rw[K];exact X w _ t.C t.I) y (Xq v) U (Hw p f V<|Á<|Á<|À U) (by rwa[K]) O;have l:=Hx p.C (e:=.gd (.iy j)) c;rw[d]at l;let⟨b1,b2,_⟩:=p.C.g j M;have hz:Ñ (F.n+1) (fu.gU E i<|.gd (.iy j)).G=0:=by simp only[lX,ig.kL,jF.kL]at l;omega
 refine p.Hv H (e:=.gd (.iy j)) (la:=E.g) c d trivial trivial trivial k y t.Xf a b q3 O q4 q5 q6 q7 (λ⟨N,h⟩=>by cases h) (p.C.Hu c ⟨_,d⟩ (Qm p.C Y) (λc' q h=>by cases h) (λq h=>by cases h) (λr s h=> ?_) (λq h=> ?_) (λ_=>hz) (λq=>⟨j,0,rfl⟩) λa b=> ?_) (À ?_) λ_ h=>À rfl
 .grind
 .cases h;simp_all
 .let⟨c',q⟩:=p.C.S a b;grind
 .simp only[ig.rk,jF.rk];omega
def XM(p:PI F n zX E S o G B m w qJ){a y:Ä}(d:mayWake F.P g=Î)(f:a.status=Å)(i:m[k]?=Ã y)(j:G k=.iy):(Ā F.P g a W y).status≠Ý:=by
 intro h;let⟨e,l⟩:=Hh h;let⟨g0,_,b,c,_⟩:=p.I.C k y i;rw[j]at b;cases b with
 |gk=>rw[l]at c;rcases c with q|q<;>cases q
 |nP r q=>
  unfold Ā at h;rw[if_pos (by simp[d,f])]at h;unfold đ at h;simp only[q]at h;cases h
def PI.ahb(H:gR F)(p:PI F n zX E S o G B m w qJ)(c:i<E.r)(d:E.N i=Ã (.gd (.iy j)))(k:m[F.L+i]?=Ã g)(iH:g.status=Å)(ht:o (F.L+i)=.fA):jY F n zX E o m w qJ I (F.L+i):=by
 have f:=iM k;have C:=p.I.r;let⟨hr0,K,s,M⟩:=(p.C.N i _ d).2 j U;obtain⟨j,rfl⟩:∃O,j=O+1:=⟨j-1,Z⟩;let⟨hd,_,Qp,g',Q,h1,h2⟩:=p.AL c d k iH ht w<|C.r _ f;have mc:=AK H.C i;have V:F.M F.C:=À U;have W:=M▸p.M.C;have X:kB F.C w (w.setCell (gQ F.C)<|æ å<|å.wrap<|(GS.gV (j+1) s).sm+1):=Á ⟨_,_,Á U,U⟩;have D:=X.r p.a H.C V;let⟨b1,b2,_⟩:=p.C.u _ _ M;obtain⟨e,T,hF,Y,yF,he3,XO⟩:∃(e:ig) (T:gu),kX F.P É (JE F e) T {B (F.L+i)with w:=w.setCell (gQ F.C) (æ å<|å.wrap<|(GS.gV (j+1) s).sm+1)} g'/\(e.iq/\e.n7/\e.kL=0)/\((∃N,e=.jo N)->T=.fA)/\((e.rk F).1<((ig.gd<|.iy (j+1)).rk F).1)/\((j=0/\∃N,e=.jo N)\/(0<j/\e=.gd (.iy j))):=by
  cases j with
  |zero=>
   obtain⟨N,hN⟩:Hd F {B (F.L+i)with w:=w} g':=h2;exact⟨.jo N,.fA,XH hN,⟨trivial,trivial,U⟩,λ_=>rfl,by simp only[ig.rk,jF.rk];omega,À ⟨U,N,U⟩⟩
  |succ j=>
   let⟨T,hT⟩:=ji (h2.jW ⟨Õ D.r.symm,λb kZ=>D.jO b<|C.I _ f b kZ,λa ha=>D.M _ f a ha,λa ha=>D.N _ f a ha,λa _=>D.I a⟩);have Xu:j+1+1+s<=1:=by rw[b2];cases E.M<;>simp only[fU.gE]<;>first|omega|(rename_i v;cases v<;>simp[jq.sI])
   omega
 obtain⟨J,u,q1,q2,q3,q4,q5,q6,q7⟩:=p.Y H .no k (Ht c) V (by rw[mc];exact h1 w _ W.M W.N) X (Hk V) (Hl _).2.2.2 (Hw p f hd<|Á<|Á<|Á U) (by rwa[mc])<|À Q;have yE:=Hx p.C (e:=e) c;rw[d,Y.2.2]at yE;have hz:Ñ (F.n+1) (fu.gU E i e).G=0:=by simp only[lX,ig.kL,jF.kL]at yE;omega
 refine p.Hv H (la:=E.g) c d trivial Y.1 Y.2.1 k X W.jD q1 q2 q3 (À Q) q4 q5 q6 q7 yF (p.C.Hu c ⟨_,d⟩ (Qm p.C K) (λc' ahc h=>by cases h) (λahc h=>by cases h) (λO s' h=> ?_) (λp' h=> ?_) (λ_=>hz) (λq=>⟨j,s+1,rfl⟩) λq1 q2=> ?_) (À he3) λhm _=>Á λy hy=> ?_
 .injection h with h l;subst h l;refine⟨hz,Z,λhr=>⟨K,?_⟩⟩;rcases XO with⟨q,_⟩|⟨_,q⟩
  .omega
  .exact q
 .subst h;rcases XO with⟨_,N,q⟩|⟨hr,q⟩
  .cases q
  .cases q;exact⟨λW' t=>(by rcases t with t|t<;>cases t),λO oT=>by cases oT;exact⟨hr,K,s+1,U⟩⟩
 .let⟨c',l⟩:=p.C.S q1 q2;rw[M]at l;cases l
 .have h0:(0:Nat)≠F.L+i:=by have:=H.C.r;omega
  rw[q4 0 h0]at hy;obtain⟨z,HB,rfl⟩:=Ú.1 hy;exact XM p Qp Q HB<|by rw[p.h.2,hm];rfl
end
section
variable{F:Ph}{E E':fS F}{S:Nat->Jd}{f D:Nat->gu}{o:Nat->iw}{v:Nat->fc}{l z:Array Ä}{u:ä}{I:Option (Nat×Nat)}
def AO(ok:F.Ok):(F.L==0)=É:=by have:=ok.r;simp;omega
def EE(h:0<E.r):yx E F.L:=Á ⟨0,h,U⟩
def EF(b:E.N 0=Í):∀x,E.iq x->F.L=F.L+x->False:=λx ⟨e,a,_⟩ h2=>by
 have:x=0:=Z
 subst this;rw[b]at a;cases a
def PI.AP(p:PI F n zX E S f o v l w qJ)(b:0<E.r)(c:E.N 0=Í)(d:l[F.L]?=Ã g)(e:g.status=Å)(h:f F.L=.fA):∀a,fI (v F.L) (v F.L).w a->JI F E.c E.S {v F.L with w:=a} g:=by let⟨j,i⟩:=p.m b c;intro a r;have:=p.I.N d e h (À i) a r;simp_all
theorem qI.Le(h:qI F E S f o)(ok:F.Ok){ip:jx}{sg:Nat->F.γ}{T:gu}(c:E.N 0=Í):qI F {E with S:=ip,c:=sg} (fw S F.L<|JI F sg ip) (fw f F.L T) (fw o F.L .no):=by
 have:=ok.r;refine⟨by rw[fH S _ Z,fH o _ Z];exact h.M,λa b=>by rw[gC,gC];exact⟨U,U⟩,λj a b=>by rw[fH S _ Z,fH o _ Z];exact h.I j a b,λy e a b=> ?_,λi a b=>by rw[fH S _ Z,fH o _ Z,fH f _ Z];exact h.r i a b⟩;have d:y≠0:=λq=>by grind
 rw[fH S _ Z,fH o _ Z,fH f _ Z];exact h.C y e a b
def Lf(ok:F.Ok){T:gu}(d:F.L<F.N)(a:E.N 0=Í)(b:E'.N=E.N)(e:E'.M=E.M)(g:E'.h=E.h)(i:E'.C=E.C)(h:E'.S.rk F<E.S.rk F):o5 F.N (E'.mu (fw f F.L T) z) (E.mu f l):=by refine Hi d (À ?_) λk c=>yw (λ_=>by rw[e]) (λ_ _=>by rw[g]) (λ_=>by rw[b]) (λq=>absurd q c) (λ_ _=>by rw[i])<|fH f _ c;rw[P3 ok (E:=E') (by rwa[b]),P3 ok a];exact h
theorem Qq(B:fg F E l w)(i:E'.M=E.M)(b:E'.r=E.r)(c:E'.N=E.N)(m:E'.C=E.C)(n:E'.I=E.I)(o:E'.b=E.b)(p:E'.a=E.a):fg F E' l w:=by
 intro k y d e;rcases B k y d e with⟨q,a,f⟩|⟨j,g,h,a,f⟩
 .grind
 .refine Á ⟨j,by rwa[b],by rwa[c],a,?_⟩;grind
def Ps.Lg(h:Ps F E){ip:jx}{G:GS}(i:E.N 0=Í)(y:0<E.r)(l:∀c,(ip=.kK c->c<=F.m)/\(ip=.mk c->1<=c/\c<=F.m)/\∀p,ip=.dn c p->1<=c/\c<=F.m) (o:∀c,1<=c->c<=F.m->ip.od<c->fw E.a k G c=.cl 1 (Ñ F.n λj=>(E.C j).gE F j c)) (t:∀c,c<=F.m->c<=ip.od->(∃W,(ip=.dn c (.gy W)\/ip=.dn c (.ja W))/\fw E.a k G c=.jE W/\W=Ñ F.n λj=>(E.C j).gE F j c)\/(∃r s,ip=.dn c (.iy r)/\0<r/\fw E.a k G c=.gV r s/\r+s=Ñ F.n λj=>(E.C j).gE F j c)\/((∀p,ip≠ .dn c p)/\((fw E.a k G c=.cl 0 0/\(Ñ F.n λj=>(E.C j).gE F j c)=0)\/∃s,fw E.a k G c=.gV 0 s/\s=Ñ F.n λj=>(E.C j).gE F j c))) (u:E.S.od<=ip.od) (v:(∃a b,E.a k=.gV a b)->∃a b,G=.gV a b) (w:G=.cl 1 0->E.d k=Í) {sg:Nat->F.γ} {V:Nat->Nat->Prop} (x:V 0=F.i) {pk:Nat->Nat}:Ps F {E with S:=ip,a:=fw E.a k G,c:=sg,V:=V,e:=pk}:=by
 refine⟨x,h.C,h.K,h.L,λq=> ?_,l,h.z,h.d,h.l,λq=>absurd i q,h.h,h.M,h.o,h.t,h.g,h.u,h.N,h.B,o,t,λj r d f=>Ù (h.w j r d f) u,λj r d f=> ?_,h.O,h.S,λc d f=> ?_,h.D⟩
 .have:E.r=0:=q;omega
 .have:=h.H j r d f;show∃a b,fw E.a k G _=_;by_cases e:F.r (j+r*F.n)=k
  .rw[e]at this|-;rw[gC];exact v this
  .rw[fH _ _ e];exact this
 .have g:fw E.a k G c=.cl 1 0:=f;by_cases e:c=k
  .subst e;rw[gC]at g;exact w g
  .rw[fH _ _ e]at g;exact h.y c d g
def PI.ahd(H:gR F)(p:PI F n zX E S f o v l w qJ)(D:0<E.r)(u:E.N 0=Í)(I:l[F.L]?=Ã g)(M:g.status=Å)(ht:f F.L=.fA)(t:E.S=.kK k):rA F n zX E f l w qJ:=by
 have B:=iM I;have C:=p.I.r;have O:=p.AP D u I M ht w<|C.r _ B;rw[t]at O;have XP:=(p.C.I k).1 t;have X:=AO H.C;have yA:iP F.S (λi=>i<l.size) E.Y (gq v F.L {v F.L with w:=w}) w qJ:=C.C B (λ_ q=>q) (λb q=>À<|Á q) (λ_ q=>q) (λa q=>À<|Á q) U U U (C.m _ B)<|C.g _ B;have XQ:=p.a.C (i:=F.L) (d:=(v F.L).d) (w0:=w)<|Æ _;have z:E.S.md=k:=by rw[t];rfl
 by_cases AA:k<F.m
 .let⟨HC,AQ⟩:=p.M.M k (by rw[z];exact Æ _);let⟨r1,r2⟩:=p.a.f D u;rw[z]at r1 r2;let⟨o1,o2⟩:=p.a.e D (k+1) (by rw[z];omega) AA;let⟨T,P⟩:=ji<|H.f k _ _ _ g AA O (C.M B) HC AQ r2 r1 o1 o2 E.c U;have Q:=p.I.M (J:=JI F E.c<|.mk (k+1)) (T:=T) (K:=.no) I (À M) yA (by rwa[X]);have y:fw E.a 0 (E.a 0)=E.a:=by funext j;unfold fw;split<;>simp[*]
  refine⟨{E with S:=.mk (k+1)},_,_,_,_,λh=>h,.r (p.N.Le H.C (sg:=E.c) u) p.b Q ?_ ?_ ?_ ?_ (Qq p.c U U U U U U U) p.f,Lf H.C (p.G B) u U U U U ?_⟩
  .have L:=XQ;exact⟨L.gS,L.o,L.lP,λa e b c=>L.e a e (by rwa[z]) c,λa b=>by have:=L.f a b;rwa[z]at this,L.h,L.l,L.S,L.M,L.c,λe b=>L.I e (by rwa[z]),λe b=>L.N e (by rwa[z]),λe a b=>L.g e a (by rwa[z]),L.d⟩
  .have W:=p.M;exact⟨W.C,W.I,W.jG,λe b=>W.M e (by rwa[z]),λe a b=>W.S e a (by rwa[z]),W.N⟩
  .have:=p.C.Lg (k:=0) (ip:=.mk (k+1)) (G:=E.a 0) (sg:=E.c) (V:=E.V) (pk:=E.e) u D (λe=>⟨λq=>(by cases q),λq=>(by cases q;exact⟨Z,Z⟩),λp q=>by cases q⟩) (λe a b c=> ?_) (λe a b=> ?_) (by rw[t];exact Æ _) id (λq=>p.C.y 0 (ó _) q) p.C.v
   .rwa[y]at this
   .rw[y];exact p.C.e e a b<|by rwa[t]
   .rw[y];rcases p.C.Y e a (by rwa[t])with⟨W,q,_⟩|⟨r,s,q,_⟩|q
    .rw[t]at q;rcases q with q|q<;>cases q
    .rw[t]at q;cases q
    .exact Á<|Á ⟨λp q=>(by cases q),q.2⟩
  .have:E.S.rl=(jx.mk<|k+1).rl:=by rw[t];rfl
   have a:=p.d;rwa[this]at a
  .rw[t];simp only[jx.rk];have:F.m+3-(k+1)=F.m+2-k:=Z
   rw[this];omega
 .have q:k=F.m:=Z
  subst q;let⟨T,P⟩:=ji<|H.h _ g O<|C.M B;have Q:=p.I.M (J:=JE F .oD) (T:=T) (K:=.no) I (À M) yA (by rwa[X]);have s:¬E.iq 0:=λ⟨e,a,_⟩=>by rw[u]at a;cases a
  have W:¬E.n7 0:=λ⟨e,a,_⟩=>by rw[u]at a;cases a
  refine⟨fu.gU E 0 .oD,_,_,_,_,λh=>h,.r (p.N.G (x:=0) H.C λ⟨N,h⟩=>by cases h) p.b Q (XQ.gU ⟨λh=>h.elim,λh=>(W h).elim⟩) p.M.gU (p.C.gU D (by rw[u];rfl) (λb h=>by rw[u]at h;cases h) (λb h=>by cases h) (λj h=>by omega) λ_=>t) (p.d.G ⟨λh=>h.elim,λh=>(s h).elim⟩) (Ql p.c λk y b c e=> ?_) p.f,EC H.C (p.G B)<|À ?_⟩
  .subst e;rw[ô,I]at b;obtain rfl:=È b;rw[M]at c;cases c
  .unfold rB;rw[u];simp only[ig.rk,if_true,t,jx.rk];have:F.m+2-F.m=2:=Z
   rw[this];omega
end
section
variable{F:Ph}{E E':fS F}{S:Nat->Jd}{o G:Nat->gu}{v:Nat->iw}{d:Nat->fc}{f B:Array Ä}{u:ä}{D:Option (Nat×Nat)}
def XR(ok:F.Ok)(a:k<=F.m):jf F.toFx k≠jk F i:=λe=>ok.C (by
 have:F.I k=F.Y:=by injection e
 rw[<-this];exact Á ⟨k,a,U⟩)
def ahe(ok:F.Ok)(a:k<=F.m)(b:i<=F.m)(h:jf F.toFx k=jf F.toFx i):k=i:=ok.S k i a b<|by injection h
def ahf(h:jk F i=jk F n):i=n:=by injection h
theorem PI.ahg(H:gR F)(p:PI F n zX E S o v d f w qJ)(h0:0<E.r)(he:E.N 0=Í)(hi:f[F.L]?=Ã g)(iH:g.status=Å)(ht:o F.L=.fA)(B:E.S=.mk k):rA F n zX E o f w qJ:=by
 have y:=iM hi;have C:=p.I.r;have hJ:=p.AP h0 he hi iH ht w<|C.r _ y;rw[B]at hJ;let⟨k1,N⟩:=(p.C.I k).2.1 B;have D:E.S.md=k-1:=by rw[B];rfl
 let⟨M,z,hn,AQ,XS,hcell,hdone⟩:=hJ;let⟨o1,o2⟩:=p.a.e h0 k (by rw[D];omega) N;have yA:iP F.S (λi=>i<f.size) E.Y (gq d F.L<|pN F {d F.L with w:=w} k) w qJ:=by
  refine C.C y (λ_ q=>q.elim) (λb q=>À q) (λ_ q=>q.1) (λa q=> ?_) U U U (λ_ q=>q.elim) λa c q=> ?_
  .rcases q with q|rfl|rfl
   .exact À<|Á q
   .exact À<|À o2
   .exact À<|À o1
  .rcases q with q|q|q
   .exact C.g _ y a c.1 q
   .exact c.2.1 q
   .exact c.2.2 q
 have hF:kX F.P (F.L==0) (JI F (fw E.c k M)<|.dn k .jD) .fA (pN F {d F.L with w:=w} k) g:=by rw[AO H.C];intro J s;let⟨Q,X,W,a3,e⟩:=hdone;exact⟨Q,X,W,a3,e.jW s⟩
 have hG:fw E.a 0 (E.a 0)=E.a:=by funext j;unfold fw;split<;>simp[*]
 have Vn:∀l,l≠k->fw E.V k z l=E.V l:=λl h=>fH _ _ h;have Vs:fw E.V k z k=z:=gC _ _ _;refine⟨{E with S:=.dn k .jD,c:=fw E.c k M,V:=fw E.V k z},_,_,_,_,λh=>h,.r ?_ p.b (p.I.M (K:=.no) hi (À iH) yA hF) ?_ ?_ ?_ ?_ (Qq p.c U U U U U U U) p.f,Lf H.C (p.G y) he U U U U ?_⟩
 .have:=p.N.Le (ip:=.dn k .jD) (sg:=fw E.c k M) (T:=.fA) H.C he;exact⟨this.M,this.Y,this.I,this.C,this.r⟩
 .have L:=p.a;have G:(gq d F.L<|pN F {d F.L with w:=w} k) F.L=pN F {d F.L with w:=w} k:=gT _ _ _;have W:∀i,i≠F.L->(gq d F.L<|pN F {d F.L with w:=w} k) i=d i:=λi h=>gH d _ h;have XT:(0:Nat)≠F.L:=by have:=H.C.r;omega
  have Qr:∀i a,(gq d F.L (pN F {d F.L with w:=w} k) i).r a->(d i).r a:=λi a h=>by
   by_cases q:i=F.L
   .subst q;rw[G]at h;exact h.1
   .grind
  have sO:∀i b,(gq d F.L (pN F {d F.L with w:=w} k) i).O b->(d i).O b/\i≠F.L:=λi b h=>by
   by_cases q:i=F.L
   .subst q;rw[G]at h;exact h.elim
   .grind
  have nOc:∀i,i<f.size->∀a,(a=jk F (F.b k)\/a=jf F.toFx k)->¬(gq d F.L (pN F {d F.L with w:=w} k) i).r a:=λi s a c h=>by
   by_cases q:i=F.L
   .subst q;rw[G]at h;rcases c with c|c
    .exact h.2.1 c
    .exact h.2.2 c
   .rw[W i q]at h;refine C.h i F.L s y q a h<|À ?_;grind
  refine⟨λi s a c=> ?_,λx t u a c=>by rw[W 0 XT];exact L.o x t u a c,λh=>by rw[W 0 XT];exact L.lP h,λh l t u=> ?_,λh yD=> ?_,λj hj yD r hr t=>by rw[W _ Z];exact L.h j hj yD r hr t,λj hj yD=>by rw[W _ Z];exact L.l j hj yD,λx AJ=> ?_,λi s=> ?_,λi t u=>by rw[W i Z];exact L.c i t u,λl I b hb=> ?_,λl I i s h=> ?_,λl t u i s h=> ?_,λj hj r hr t i s h=>L.d j hj r hr t i s<|Qr _ _ h⟩
  .by_cases q:i=F.L
   .subst q;rw[G]at c;rcases c with q|q|q|q
    .exact L.gS _ y a<|À q.1
    .exact L.gS _ y a<|Á q
    .exact Á ⟨_,H.C.Y.1 _ Z Z,q⟩
    .grind
   .rw[W i q]at c;exact L.gS i s a c
  .rw[G];have AR:k<l:=t;let⟨J,q2⟩:=L.e h l (by rw[D];omega) u;exact⟨⟨J,XR H.C u,λe=>by have:=ahe H.C u N e;omega⟩,⟨q2,λe=>by have:=H.C.pi l k Z u k1 N<|ahf e;omega,λe=>XR H.C N e.symm⟩⟩
  .rw[G];show(pN F _ k).N (jf F.toFx k)/\∀b,fw E.V k z k b->(pN F _ k).I b;rw[Vs];exact⟨Á<|Á U,XS⟩
  .have:F.L+x≠F.L:=λq=>by
    have J:x=0:=Z
    subst J;let⟨e,t,_⟩:=AJ;grind
   rw[W _ this];exact L.S x AJ
  .by_cases q:i=F.L
   .subst q;rw[G];exact L.M _ s
   .rw[W _ q];exact L.M i s
  .have tW:l<=k:=I;by_cases q:l=k
   .subst q;have J:fw E.V l z l b:=hb;rw[Vs]at J;have hM:=XS b J;refine⟨C.fx _ y b hM,C.I _ y b hM,λi s h=> ?_⟩;let⟨Q,X⟩:=sO i b h;exact C.o i F.L s y X b Q hM
   .have J:fw E.V k z l b:=hb;rw[Vn l q]at J;let⟨Q,X,a3⟩:=L.I l (by rw[D];omega) b J;exact⟨Q,X,λi s h=>a3 i s (sO i b h).1⟩
  .have tW:l<=k:=I;by_cases q:l=k
   .grind
   .exact L.N l (by rw[D];omega) i s<|Qr _ _ h
  .have tW:l<=k:=u;by_cases q:l=k
   .grind
   .exact L.g l t (by rw[D];omega) i s<|Qr _ _ h
 .have W:=p.M;refine⟨W.C,W.I,W.jG,λl I=> ?_,λl t I=> ?_,W.N⟩
  .have tW:l<=k:=I;show nk F l (fw E.c k M l)/\F.d l (fw E.c k M l) (fw E.V k z l) w;by_cases q:l=k
   .subst q;rw[gC,gC];refine⟨?_,AQ⟩;have:=(W.M (l-1)<|by rw[D];exact Æ _).1;have u:=nk.En this hn;grind
   .rw[fH _ _ q,fH _ _ q];exact W.M l<|by rw[D];omega
  .have tW:l<=k:=I;by_cases q:l=k
   .subst q;exact hcell
   .exact W.S l t<|by rw[D];omega
 .have:=p.C.Lg (ip:=.dn k .jD) (sg:=fw E.c k M) (V:=fw E.V k z) (pk:=E.e) he h0 (λl=>⟨λq=>(by cases q),λq=>(by cases q),λp q=>by cases q;exact⟨k1,N⟩⟩) (λl a b c=> ?_) (λl a b=> ?_) (by rw[B];exact Æ _) id (λq=>p.C.y 0 (ó _) q)<|by rw[Vn 0 Z];exact p.C.v
  .grind
  .rw[hG];exact p.C.e l a b<|by rwa[B]
  .rw[hG];have J:l<=k-1:=b;rcases p.C.Y l a (by rwa[B])with⟨W,q,_⟩|⟨r,s,q,_⟩|q;all_goals grind
 .have c:=p.d;have e:E.S.rl=k-1:=by rw[B];rfl
  rw[e]at c;refine{c with I:=λl a b x AJ=> ?_};have J:l<=k-1:=b;refine c.I l a b x (AJ.imp (λq=> ?_) id);rwa[<-Vn l Z]
 .rw[B];simp only[jx.rk,jF.rk];have:F.m+3-k=(F.m+2-k)+1:=Z
  rw[this,ō];omega
theorem PI.ahh(H:gR F)(p:PI F n zX E S o v d f w qJ)(x:0<E.r)(m:E.N 0=Í)(G:f[F.L]?=Ã g)(iH:g.status=Å)(ht:o F.L=.fA)(e:E.S=.dn k .jD):jY F n zX E o f w qJ D F.L:=by
 have t:=iM G;have C:=p.I.r;have J:=p.AP x m G iH ht w<|C.r _ t;rw[e]at J;let⟨k1,K⟩:=(p.C.I k).2.2 _ e;have M:=AO H.C;let⟨hd,_,g',h1,N⟩:=J;have O:∀y:Ă,y.act=Ě (ĳ<|fL<|F.I k)->y.act.touch?=Í:=λy i=>by rw[i];rfl
 let⟨T,hT⟩:=ji N;have P:=lD (λl g h=>À h.2.1) N;obtain⟨B,y,y1,y2,q1,Q,q3,q4,q5,q7⟩:=p.AH H .no G (by rw[M];exact h1 w) fj fj (λy i=>⟨λz l=>(by rw[O y i]at l;cases l),by rw[i];exact C.N _<|À<|Á ⟨k,K,U⟩⟩) (λy _ i=>Ar C.l λl u=>by rw[wP u];exact O y i) (by rwa[M]) P;have z:E.S.md=k:=by rw[e];rfl
 have Qs:E.S.rl=k-1:=by rw[e];rfl
 let⟨V,X⟩:=p.a.f x m;rw[z]at V X;have Y:=p.d;rw[Qs]at Y;have I:k-1+1=k:=Z
 have Ey:=Y.agk y1 (by rwa[I]) ((C.f _ t).trans hd) (by
  rw[I];intro a l;rcases l with l|rfl
  .exact(C.S _ t).C a<|X _ l
  .exact(C.S _ t).r _ V)
 rw[I]at Ey;have hG:fw E.a 0 (E.a 0)=E.a:=by funext j;unfold fw;split<;>simp[*]
 refine⟨{E with S:=.dn k .iE,e:=fw E.e k qJ.size},_,_,_,_,B,w,#[y],q1,Q,λh=>h,.r ?_ (Q.trans p.b) q5 ?_ ?_ ?_ Ey (p.c.qF (E':={E with S:=.dn k .iE,e:=fw E.e k qJ.size}) q3 (by rcases P with q|q<;>rw[q]<;>simp) q4 (λ_ _=>rfl) U U (λ_ _=>rfl) (λ_=>rfl) (λ_ _=>rfl) (λ_ _ h=>À h) λ_ _ _ _ h=>À h) λj r a1 a2 a3=> ?_,Lf H.C (p.G t) m U U U U ?_⟩
 .have:=p.N.Le (ip:=.dn k .iE) (sg:=E.c) (T:=T) H.C m;exact⟨this.M,this.Y,this.I,this.C,this.r⟩
 .have L:=q7;exact⟨L.gS,L.o,L.lP,λa l b c=>L.e a l (by rwa[z]) c,λa b=>by have:=L.f a b;rwa[z]at this,L.h,L.l,L.S,L.M,L.c,λl b=>L.I l (by rwa[z]),λl b=>L.N l (by rwa[z]),λl a b=>L.g l a (by rwa[z]),L.d⟩
 .have W:=p.M;exact⟨W.C,W.I,W.jG,λl b=>W.M l (by rwa[z]),λl a b=>W.S l a (by rwa[z]),W.N⟩
 .have:=p.C.Lg (ip:=.dn k .iE) (sg:=E.c) (pk:=fw E.e k qJ.size) m x (λl=>⟨λq=>(by cases q),λq=>(by cases q),λp q=>by cases q;exact⟨k1,K⟩⟩) (λl a b c=> ?_) (λl a b=> ?_) (by rw[e];exact Æ _) id (λq=>p.C.y 0 (ó _) q) p.C.v
  .grind
  .rw[hG];exact p.C.e l a b<|by rwa[e]
  .rw[hG];have c:l<=k-1:=b;rcases p.C.Y l a (by rwa[e])with⟨W,q,_⟩|⟨r,s,q,_⟩|q;all_goals grind
 .have u:=p.C.w j r a1<|Á<|Á a2;rw[e]at u;simp only[jx.od]at u;show Υ _ _ (fw E.e k qJ.size _);rw[fH _ _ Z];exact(p.f j r a1 a2 a3).app _
 .rw[e];simp only[jx.rk,jF.rk];omega
end
section
variable{F:Ph}{E E':fS F}{S:Nat->Jd}{v M:Nat->gu}{I:Nat->iw}{B:Nat->fc}{o f:Array Ä}{u:ä}{K:Option (Nat×Nat)}
def AS(E:fS F)(ip:jx)(k:Nat)(G:GS):fS F:={E with S:=ip,a:=fw E.a k G}
def PI.EG(H:gR F)(p:PI F j zX E S v I B o w qJ){d:jF}{ip:jx}{G:GS}{s:Ä}{T:gu}(h0:0<E.r)(C:E.N 0=Í)(t:E.S=.dn k d)(O:d≠ .jD)(Q:o[F.L]?=Ã g)(D:kB (F.I k) w W)(X:hD W (F.I k) G)(q1:ř F.P (ñ o w K) F.L=(Ğ<|ñ f W K,u))(J:f.size=o.size)(q3:f[F.L]?=Ã s)(ng:s.status=Å\/s.status=ç)(q4:∀k,k≠F.L->f[k]?=o[k]?.map (Ā F.P g s W)) (q5:gL F.P F.S E.Y (fw S F.L<|JI F E.c ip) (fw v F.L T) (fw I F.L .no) (gq B F.L {B F.L with w:=W}) f W (qJ++u)) (q6:TI F.toFx j zX E.r E.S.rl E.V E.e E.d E.iq E.f (qJ++u)) (q7:iF F E (gq B F.L {B F.L with w:=W}) f.size W) (x:ip.md=k/\ip.rl=k) (hP:Ps F (AS E ip k G)) (XG:ip.rk F<E.S.rk F) (Ew:∀i r,E.C i=.fy r .ky->F.r (i+r*F.n)=k->(E.a k).sm=0->G.sm=0\/∀y,f[F.L+1+i]?=Ã y->y.status≠Ý):jY F j zX E v o w qJ K F.L:=by
 let⟨k1,z⟩:=(p.C.I k).2.2 _ t;have M:F.M (F.I k):=Á ⟨k,z,U⟩;have N:E.S.md=k:=by rw[t];rfl
 have Qs:E.S.rl=k:=by rw[t];cases d<;>first|rfl|exact absurd U O
 have m:=D.I H p.a p.C p.M M ⟨λq=>absurd q<|H.C.M k z,λ_=>rfl⟩ (λl a=>⟨λq=>by rwa[<-H.C.S _ _ z a q,gC],λq=>fH _ _ λe=>q<|by rw[e]⟩);refine⟨AS E ip k G,_,_,_,_,f,W,u,q1,J,λh=>h,.r ?_ (J.trans p.b) q5 ?_ ?_ hP ?_ ?_ λi r a b c=>(p.f i r a b c).app u,Lf H.C (p.G<|iM Q) C U U U U XG⟩
 .have:=p.N.Le (ip:=ip) (sg:=E.c) (T:=T) H.C C;exact⟨this.M,this.Y,this.I,this.C,this.r⟩
 .have L:=q7;have e:(AS E ip k G).S.md=E.S.md:=by rw[N];exact x.1
  exact⟨L.gS,L.o,L.lP,λa l b c=>L.e a l (by rwa[<-e]) c,λa b=>by have:=L.f a b;rwa[<-e]at this,L.h,L.l,L.S,L.M,L.c,λl b=>L.I l (by rwa[<-e]),λl b=>L.N l (by rwa[<-e]),λl a b=>L.g l a (by rwa[<-e]),L.d⟩
 .have e:(AS E ip k G).S.md=E.S.md:=by rw[N];exact x.1
  exact⟨m.C,m.I,m.jG,λl b=>m.M l (by show l<=E.S.md;rwa[<-e]),λl a b=>m.S l a (by show l<=E.S.md;rwa[<-e]),m.N⟩
 .have e:(AS E ip k G).S.rl=E.S.rl:=by rw[Qs];exact x.2
  rwa[e]
 .refine p.c.qF (E':=AS E ip k G) q3 (by rcases ng with q|q<;>rw[q]<;>simp) q4 (λi a=>D.C p.C M a) U U (λ_ _=>rfl) (λ_=>rfl) (λ_ _=>rfl) (λ_ _ h=>À h) λi r _ b a=> ?_;show(fw E.a k G _).sm=0\/_;by_cases q:F.r (i+r*F.n)=k
  .rw[q]at a|-;rw[gC];exact Ew i r b q a
  .rw[fH _ _ q];exact À a
theorem PI.EH(p:PI F j zX E S v I B o w qJ){d:jF}{f:jx}{G:GS}(m:0<E.r)(t:E.N 0=Í)(l:E.S=.dn k d)(H:f=.kK k\/∃u,f=.dn k u)(i:f.od=k)(x:(∃W,(f=.dn k (.gy W)\/f=.dn k (.ja W))/\G=.jE W/\W=Ñ F.n λe=>(E.C e).gE F e k)\/(∃r s,f=.dn k (.iy r)/\0<r/\G=.gV r s/\r+s=Ñ F.n λe=>(E.C e).gE F e k)\/((∀p,f≠ .dn k p)/\((G=.cl 0 0/\(Ñ F.n λe=>(E.C e).gE F e k)=0)\/∃s,G=.gV 0 s/\s=Ñ F.n λe=>(E.C e).gE F e k))) (y:(∃a b,E.a k=.gV a b)->∃a b,G=.gV a b) (C:G≠ .cl 1 0):Ps F (AS E f k G):=by
 let⟨J,K⟩:=(p.C.I k).2.2 _ l;have D:k-1<=E.S.od/\E.S.od<=k:=by rw[l];cases d<;>simp only[jx.od]<;>omega
 have:=p.C.Lg (sg:=E.c) (pk:=E.e) t m (λg=> ?_) (λg a b c=> ?_) (λg a b=> ?_) (by rw[i];exact D.2) y (λq=>absurd q C) p.C.v
 .exact this
 .grind
 .rw[i]at c;rw[fH _ _ Z];exact p.C.e g a b Z
 .by_cases q:g=k
  .subst q;rwa[gC]
  .rw[fH _ _ q];rw[i]at b;refine Á<|Á ⟨λc h=> ?_,?_⟩
   .grind
   .rcases p.C.Y g a Z with⟨W,z,_⟩|⟨r,s,z,_⟩|z;all_goals grind
theorem PI.ahi(H:gR F)(p:PI F j zX E S v I B o w qJ)(d:0<E.r)(i:E.N 0=Í)(s:o[F.L]?=Ã g)(iH:g.status=Å)(ht:v F.L=.fA)(c:E.S=.dn k .iE):jY F j zX E v o w qJ K F.L:=by
 have O:=iM s;have C:=p.I.r;have hJ:=p.AP d i s iH ht w<|C.r _ O;rw[c]at hJ;obtain⟨k1,Y⟩:=(p.C.I k).2.2 _ c;have Q:=AO H.C;have y:F.M (F.I k):=Á ⟨k,Y,U⟩;obtain⟨hd,_,tV⟩:=hJ;have hc:=p.C.e k k1 Y (by rw[c];simp only[jx.od];omega);obtain⟨W,hW⟩:∃W,(Ñ F.n λa=>(E.C a).gE F a k)=W:=⟨_,U⟩;rw[hW]at hc;have V:=hc▸p.M.I k Y;obtain⟨ev,z⟩:=V.jI;have key:=tV (GS.cl (0+1) W).st;rw[ev]at key z;obtain⟨m,t⟩:∃m,(GS.jI<|.cl (0+1) W).st=m:=⟨_,U⟩;rw[t]at key;obtain⟨g',h1,h2⟩:=key;have G:=h1 w V.C V.I;rw[<-t]at G;obtain⟨k1',k2,k3⟩:=V.r;have r:kB (F.I k) w (w.setCell (fL<|F.I k)<|æ Ó (GS.jI<|.cl (0+1) W).st):=Á ⟨_,_,À U,U⟩;have D:=r.r p.a H.C y;have X:fI {B F.L with w:=w} w (w.setCell (fL<|F.I k)<|æ Ó (GS.jI<|.cl (0+1) W).st):=⟨Õ D.r.symm,λb kZ=>D.jO b<|C.I _ O b kZ,λa ha=>D.M _ O a ha,λa ha=>D.N _ O a ha,λa _=>D.I a⟩;have XU:¬∃a b,E.a k=.gV a b:=λ⟨a,b,q⟩=>by rw[hc]at q;cases q
 by_cases hl:0<W
 .have ed:GS.jI (.cl (0+1) W)=.jE W:=by simp only[GS.jI];rw[if_pos ⟨trivial,hl⟩]
  rw[ed]at G z r D X t;have M:fh F.P É (KW F.P É (F.I k) (fh F.P É<|F.h k) W) {B F.L with w:=w} g':=by
   have e:m=(W:Int):=t.symm;have h:¬(m=0\/(fX<=m/\m<1000000*fX/\m%fX<1000000)):=by simp only[fX];omega
   grind
  obtain⟨T,hT⟩:=ji<|M.jW X;have N:=lD (λl g h=>À h.2.1) M;obtain⟨f,u,q1,q2,q3,q4,q5,q6,q7⟩:=p.Y (J:=JI F E.c<|.dn k (.gy W)) H .no s (EE d) y (by rwa[Q]) r (Ay y) U (λx hs e=>(EF i x hs e).elim) (by rwa[Q]) N;refine p.EG H d i c fj s r z q1 q2 q3 N q4 q5 q6 q7 ⟨U,U⟩ (p.EH d i c (Á ⟨_,U⟩) U (À ⟨W,À U,U,hW.symm⟩) (λq=>absurd q XU) fj) ?_ λ_ _ _ _ _=>À U;rw[c];simp only[jx.rk,jF.rk];omega
 .have Qo:W=0:=Z
  subst Qo;have ed:GS.jI (.cl (0+1) 0)=.cl 0 0:=U;rw[ed]at G z r D X t;have M:fh F.P É (F.h k) {B F.L with w:=w} g':=by simp only[t.symm,true_or,if_true]at h2;exact h2
  obtain⟨T,hT⟩:=ji<|M.jW X;have N:=lD (λl g h=>À<|H.N _ _ _ h) M;obtain⟨f,u,q1,q2,q3,q4,q5,q6,q7⟩:=p.Y (J:=JI F E.c<|.kK k) H .no s (EE d) y (by rwa[Q]) r (Ay y) U (λx hs e=>(EF i x hs e).elim) (by rwa[Q]) N;refine p.EG H d i c fj s r z q1 q2 q3 N q4 q5 q6 q7 ⟨U,U⟩ (p.EH d i c (À U) U (Á<|Á ⟨λp q=>(by cases q),À ⟨rfl,hW⟩⟩) (λq=>absurd q XU) fj) ?_ λ_ _ _ _ _=>À rfl;rw[c];simp only[jx.rk,jF.rk];omega
theorem PI.XV(p:PI F j zX E S v I B o w qJ)(b:E.S=.dn k (.gy i)\/E.S=.dn k (.ja i)):E.a k=.jE i/\i=Ñ F.n λa=>(E.C a).gE F a k:=by
 have c:k<=F.m:=by rcases b with b|b<;>exact((p.C.I k).2.2 _ b).2
 rcases p.C.Y k c (by rcases b with b|b<;>(rw[b];exact Æ _))with⟨d,z,e,f⟩|⟨r,s,z,_⟩|⟨z,_⟩;all_goals grind
def PI.ahj(H:gR F)(p:PI F j zX E S v I B o w qJ)(d:0<E.r)(m:E.N 0=Í)(n:o[F.L]?=Ã g)(M:g.status=Å)(N:v F.L=.fA)(c:E.S=.dn k (.gy i)):jY F j zX E v o w qJ K F.L:=by have s:=p.AP d m n M N w<|(p.I.r).r _<|iM n;rw[c]at s;let⟨k1,t⟩:=(p.C.I k).2.2 _ c;have y:=AO H.C;have z:F.M (F.I k):=Á ⟨k,t,U⟩;let⟨hd,_,O⟩:=s;let⟨C,P⟩:=p.XV<|À c;have D:=C▸p.M.I k t;let⟨g',Q,r⟩:=O (i:Int);simp only[if_true]at r;let⟨T,V⟩:=ji r;have G:=lD (λl g h=>À h.2.1) r;obtain⟨f,u,h,l,X,Y,q5,q6,q7⟩:=p.Y (J:=JI F E.c<|.dn k (.ja i)) H .no n (EE d) z (by rw[y];exact Q w D.C) (À U) (yy z) U (λx a e=>(EF m x a e).elim) (by rwa[y]) G;refine p.EG H d m c fj n (À U) D h l X G Y q5 q6 q7 ⟨U,U⟩ (p.EH d m c (Á ⟨_,U⟩) U (À ⟨i,Á U,U,P⟩) (λ⟨a,b,q⟩=>by rw[C]at q;cases q) fj) ?_ λ_ _ _ _ _=>À rfl;rw[c];simp only[jx.rk,jF.rk];omega
def PI.ahk(H:gR F)(p:PI F j zX E S v I B o w qJ)(d:0<E.r)(m:E.N 0=Í)(n:o[F.L]?=Ã g)(N:g.status=Å)(O:v F.L=.fA)(c:E.S=.dn k (.ja i)):jY F j zX E v o w qJ K F.L:=by
 have q:=iM n;have C:=p.I.r;have y:=p.AP d m n N O w<|C.r _ q;rw[c]at y;let⟨k1,z⟩:=(p.C.I k).2.2 _ c;have G:=AO H.C;have s:F.M (F.I k):=Á ⟨k,z,U⟩;let⟨hd,_,g',P,M⟩:=y;let⟨Q,V⟩:=p.XV<|Á c;have r:=Q▸p.M.I k z;have X:=r.r.1;have t:kB (F.I k) w (w.setCell (fL<|F.I k)<|æ Ó 0):=Á ⟨_,_,À U,U⟩;have D:=t.r p.a H.C s;let⟨T,Y⟩:=ji (M.jW ⟨Õ D.r.symm,λb h=>D.jO b<|C.I _ q b h,λa e=>D.M _ q a e,λa e=>D.N _ q a e,λa _=>D.I a⟩);have a:=lD (λl g h=>by
  cases i with
  |zero=>omega
  |succ i=>exact À h.2.1) M
 obtain⟨f,u,h,b,l,q4,q5,q6,q7⟩:=p.Y (J:=JI F E.c<|.dn k (.iy i)) H .no n (EE d) s (by rw[G];exact P w _ r.C r.I) t (Xq s) U (λx hs e=>(EF m x hs e).elim) (by rwa[G]) a;refine p.EG H d m c fj n t r.Xf h b l a q4 q5 q6 q7 ⟨U,U⟩ (p.EH d m c (Á ⟨_,U⟩) U (Á<|À ⟨i,0,U,X,U,by rwa[ô]⟩) (λ_=>⟨i,0,U⟩) fj) ?_ λ_ _ _ _ _=>À U;rw[c];simp only[jx.rk,jF.rk];omega
theorem PI.ahl(H:gR F)(p:PI F j zX E S v I B o w qJ)(l:0<E.r)(t:E.N 0=Í)(G:o[F.L]?=Ã g)(iH:g.status=Å)(ht:v F.L=.fA)(h:E.S=.dn k (.iy j9)):jY F j zX E v o w qJ K F.L:=by
 have W:=iM G;have C:=p.I.r;have hJ:=p.AP l t G iH ht w<|C.r _ W;rw[h]at hJ;obtain⟨k1,Y⟩:=(p.C.I k).2.2 _ h;have X:=AO H.C;have O:F.M (F.I k):=Á ⟨k,Y,U⟩;obtain⟨s,hr0,hc,sJ⟩:∃s,0<j9/\E.a k=.gV j9 s/\j9+s=Ñ F.n λc=>(E.C c).gE F c k:=by rcases p.C.Y k Y (by rw[h];exact Æ _)with⟨W',z,z1,z2⟩|⟨M,s,z,z1,z2,z3⟩|⟨z,_⟩;all_goals grind
 obtain⟨j9,rfl⟩:∃M,j9=M+1:=⟨j9-1,Z⟩;obtain⟨hd,_,Qp,g',Q,h1,h2⟩:=hJ;have N:=hc▸p.M.I k Y;have V:kB (F.I k) w (w.setCell (gQ<|F.I k)<|æ å<|å.wrap<|(GS.gV (j9+1) s).sm+1):=Á ⟨_,_,Á U,U⟩;have D:=V.r p.a H.C O;have wS:fI {B F.L with w:=w} w (w.setCell (gQ<|F.I k)<|æ å<|å.wrap<|(GS.gV (j9+1) s).sm+1):=⟨Õ D.r.symm,λb kZ=>D.jO b<|C.I _ W b kZ,λa ha=>D.M _ W a ha,λa ha=>D.N _ W a ha,λa _=>D.I a⟩;have wake:∀f:Array Ä,(∀k,k≠F.L->f[k]?=o[k]?.map (Ā F.P g g'<|w.setCell (gQ<|F.I k)<|æ å<|å.wrap<|(GS.gV (j9+1) s).sm+1))\/(∀m,m≠F.L->f[m]?=o[m]?.map (Ā F.P g g'<|w.setCell (gQ<|F.I k)<|æ å<|å.wrap<|(GS.gV (j9+1) s).sm+1))->∀c M,E.C c=.fy M .ky->F.r (c+M*F.n)=k->(E.a k).sm=0->(GS.gV j9<|s+1).sm=0\/∀y,f[F.L+1+c]?=Ã y->y.status≠Ý:=by
  intro f d c M hj _ _;refine Á λy hy=> ?_;by_cases XW:c+2<=E.r
  .by_cases Lh:E.N (c+1)=Í
   .obtain⟨_,hk⟩:=p.g c XW Lh;rw[hj]at hk;rcases d with d|d<;>
    .rw[d _ Z]at hy;obtain⟨z,HB,rfl⟩:=Ú.1 hy;exact XM p Qp Q HB hk
   .obtain⟨_,r0,q,_⟩:=p.C.l c XW Lh;grind
  .have:=p.C.z c Z;grind
 cases j9 with
 |zero=>
  obtain⟨T,hT⟩:=ji<|h2.jW wS;obtain⟨f,u,q1,q2,q3,d,q5,q6,q7⟩:=p.Y (J:=JI F E.c<|.kK k) H .no G (EE l) O (by rw[X];exact h1 w _ N.M N.N) V (Hk O) (Hl _).2.2.2 (λx hs e=>(EF t x hs e).elim) (by rwa[X])<|À Q;refine p.EG H l t h fj G V N.jD q1 q2 q3 (À Q) d q5 q6 q7 ⟨U,U⟩ (p.EH l t h (À U) U (Á<|Á ⟨λp q=>(by cases q),Á ⟨s+1,rfl,Z⟩⟩) (λ_=>⟨0,s+1,rfl⟩) fj) ?_<|wake f<|Á d;rw[h];simp only[jx.rk,jF.rk];omega
 |succ j9=>
  obtain⟨T,hT⟩:=ji<|h2.jW wS;obtain⟨f,u,q1,q2,q3,d,q5,q6,q7⟩:=p.Y (J:=JI F E.c<|.dn k (.iy (j9+1))) H .no G (EE l) O (by rw[X];exact h1 w _ N.M N.N) V (Hk O) (Hl _).2.2.2 (λx hs e=>(EF t x hs e).elim) (by rwa[X])<|À Q;refine p.EG H l t h fj G V N.jD q1 q2 q3 (À Q) d q5 q6 q7 ⟨U,U⟩ (p.EH l t h (Á ⟨_,U⟩) U (Á<|À ⟨j9+1,s+1,U,Z,U,Z⟩) (λ_=>⟨j9+1,s+1,U⟩) fj) ?_<|wake f<|Á d;rw[h];simp only[jx.rk,jF.rk];have:Ñ F.n (λc=>(E.C c).gE F c k)<=F.n:=Hn λi=>by cases E.C i<;>simp only[gM.gE]<;>first|omega|(split<;>first|omega|(rename_i q _;cases q<;>simp[jq.sI]))
  omega
theorem PI.ahm(H:gR F)(p:PI F j zX E S v I B o w qJ){N:Nat}(s:i<E.r)(a:E.N i=Ã (.jo N))(t:o[F.L+i]?=Ã g)(J:g.status=Å):jY F j zX E v o w qJ K (F.L+i):=by
 let⟨M,n,O⟩:=p.k i _ s a;have hL:=H.C.r;obtain⟨f,P,Q,hn,T,l,V,u,z⟩:=p.I.Pz t Z J n (O ⟨N,U⟩) M;have C:=iM t;have D:∀c∈Ü (F.L+i) g.frame.fn g.frame.place P,c.act.touch?=Í/\∀b,F.M b->c.act≠Ě (.release<|fL b):=λc d=>by obtain⟨e,h,rfl⟩:=Ø d;refine⟨Α<|u e h,λb _ q=> ?_⟩;have:=u e h;let⟨k,y,m⟩:=e;cases k<;>simp_all[Event.mute,Ë]
 obtain⟨m,G⟩:∃m,f[F.L+i]?=Ã m:=⟨f[F.L+i]'(by rwa[l]),ê _⟩;have W:m.status≠Ý:=by
  let⟨g0,y,h,k,r⟩:=z.C _ m G;rw[n]at h;cases h with
  |gk=>rcases k with q|q<;>rw[q]<;>simp
 have X:fw v (F.L+i) .fA=v:=by funext q;unfold fw;split<;>simp[*]
 have Y:fw I (F.L+i) .no=I:=by funext q;unfold fw;split<;>simp[*]
 refine⟨fu.gU E i<|.jo Q,_,_,_,_,f,w,_,T,l,λh=>h,.r (p.N.G H.C λ_=>rfl) (l.trans p.b) (by rwa[X,Y]) (by rw[l];exact(p.a.C<|Æ _).gU<|⟨λ_=>⟨_,a,trivial⟩,λ_=>trivial⟩) p.M.gU (p.C.gU s (by rw[a];rfl) (λk h=>by rw[a]at h;cases h) (λk h=>by cases h) (λq h=>p.C.l q Z<|by rw[<-h,a];simp) λh=>p.C.f<|by rw[<-h,a];simp) ((p.d.C<|yu (λc d=>(D c d).1) λc d=>(D c d).2).G<|⟨λ_=>⟨_,a,trivial⟩,λ_=>trivial⟩) (Ql (p.c.G9 G W V λ_ _=>rfl) λk y n r e=> ?_) λq r k e y=>(p.f q r k e y).app _,EC H.C (p.G C)<|Á ?_⟩
 .grind
 .unfold rB;rw[a];simp only[ig.rk];grind
def PI.ahn(H:gR F)(p:PI F j zX E S v I B o w qJ)(O:0<i)(u:i<F.L)(x:o[i]?=Ã g)(Q:g.status=Å):jY F j zX E v o w qJ K i:=by
 let⟨T,z,l⟩:=p.l i O u;obtain⟨f,C,n,Y,V,s,W,D,G⟩:=p.I.Pz x Z Q l z T;have J:=iM x;have M:∀c∈Ü i g.frame.fn g.frame.place C,c.act.touch?=Í/\∀b,F.M b->c.act≠Ě (.release<|fL b):=λc m=>by obtain⟨e,a,rfl⟩:=Ø m;refine⟨Α<|D e a,λb _ q=> ?_⟩;have:=D e a;let⟨h,k,y⟩:=e;cases h<;>simp_all[Event.mute,Ë]
 obtain⟨t,N⟩:∃t,f[i]?=Ã t:=⟨f[i]'(by rwa[s]),ê _⟩;have X:t.status≠Ý:=by
  let⟨g0,k,a,h,y⟩:=G.C _ t N;rw[l]at a;cases a with
  |gk=>rcases h with q|q<;>rw[q]<;>simp
 refine⟨{E with h:=fw E.h i n},_,_,_,_,f,w,_,V,s,λh=>h,.r ?_ (s.trans p.b) G ?_ ⟨p.M.C,p.M.I,p.M.jG,p.M.M,p.M.S,p.M.N⟩ ?_ (p.d.C<|yu (λc m=>(M c m).1) λc m=>(M c m).2) (Qq (p.c.G9 N X W λ_ _=>rfl) U U U U U U U) λq r a k y=>(p.f q r a k y).app _,Hi (p.G J) ?_ λk l=>yw (λ_=>rfl) (λ_ _=>fH _ _ l) (λ_=>rfl) (λ_ _=>rfl) (λ_ _=>rfl) U⟩
 .have h:=p.N;refine⟨by rw[fH S _ Z];exact h.M,λa b=>by rw[fH S _ Z];exact h.Y a b,λq a b=>by rw[fH S _ Z];exact h.I q a b,λy e a b=>by rw[fH S _ Z];exact h.C y e a b,λq a b=> ?_⟩;by_cases e:q=i
  .subst e;rw[gC];exact⟨by show _=oC F.P (fw E.h q n q);rw[gC],z,l⟩
  .rw[fH S _ e];refine⟨?_,(h.r q a b).2⟩;show _=oC F.P (fw E.h i n q);rw[fH _ _ e];exact(h.r q a b).1
 .rw[s];have L:=p.a.C (i:=i) (d:=Ï (B i).d C) (w0:=w)<|Æ _;exact⟨L.gS,L.o,L.lP,L.e,L.f,L.h,L.l,L.S,L.M,L.c,L.I,L.N,L.g,L.d⟩
 .have h:=p.C;exact⟨h.v,h.C,h.K,h.L,h.J,h.I,h.z,h.d,h.l,h.f,h.h,h.M,h.o,h.t,h.g,h.u,h.N,h.B,h.e,h.Y,h.w,h.H,h.O,h.S,h.y,h.D⟩
 .unfold fS.iQ;rw[if_neg Z,if_pos u,if_neg Z,if_pos u];refine Á ⟨U,À ?_⟩;show fw E.h i n i<E.h i;rw[gC];omega
end
section
variable{F:Ph}{E J:fS F}{S:Nat->Jd}{d M:Nat->gu}{o:Nat->iw}{m:Nat->fc}{f D:Array Ä}{u:ä}{I:Option (Nat×Nat)}
def iu(E:fS F)(x:fU)(G:GS)(dk:Nat->Nat):fS F:={E with M:=x,b:=G,I:=dk}
structure iV(E:fS F)(x:fU)(C:Nat->Nat):Prop where
 r:x.sp F.n=E.r
 C:∀j,j+2<=E.r->C j=E.I j
def AT{x:fU}{G:GS}{d:Nat->Nat}(a:iV E x d):(iu E x G d).Y=E.Y:=by have e:(iu E x G d).r=E.r:=a.r;funext b;unfold fS.Y;rw[e];refine propext<|or_congr Iff.rfl<|or_congr Iff.rfl ⟨λ⟨j,c,f⟩=>⟨j,c,f.trans<|a.C j c⟩,λ⟨j,c,f⟩=>⟨j,c,f.trans (a.C j c).symm⟩⟩
def iF.G(L:iF F E m i w){x:fU}{G:GS}{d:Nat->Nat}(a:iV E x d):iF F (iu E x G d) m i w:=by have e:(fu.iu E x G d).r=E.r:=a.r;exact⟨L.gS,λy f=>L.o y Z,λh=>L.lP Z,λh=>L.e Z,λh=>L.f Z,λj h=>L.h j Z,λj h=>L.l j Z,L.S,λc g=>L.M c (g.imp id λ⟨y,f,b⟩=>⟨y,Z,b⟩),L.c,λk l b n=>by rw[AT a];exact L.I k l b n,L.N,L.g,λj h=>L.d j Z⟩
def Wd.r{G:GS}(W:Wd F {E with b:=G,a:=E.a} w){x:fU}{dk:Nat->Nat}(a:iV E x dk)(c:x.mq F.q=E.M.mq F.q)(d:x.je F.n=E.M.je F.n):Wd F (iu E x G dk) w:=by
 have e:(fu.iu E x G dk).r=E.r:=a.r;refine⟨W.C,W.I,λj f=> ?_,W.M,W.S,λj f=>W.N j<|show j+2<=E.r by omega⟩;have b:j+2<=E.r:=Z
 have:=W.jG j b;show∃g s,w.heap[dk j]?=Ã (.chan F.q g (decide<|j<x.je F.n) s (E.C j).iK É)/\tN F.n j (x.mq F.q) s/\_;rw[a.C j b,c,d];exact this
def Qt{x:fU}{G:GS}{dk:Nat->Nat}(h:x.ad F.n=E.M.ad F.n):(iu E x G dk).G=E.G:=by
 funext y;show(if y<x.ad F.n then _ else _)=if y<E.M.ad F.n then _ else _
 rw[h];rfl
def Ps.iu(h:Ps F E){x:fU}{G:GS}{dk:Nat->Nat}(d:iV E x dk)(o:E.M.je F.n<=x.je F.n)(t:∀j,x=.go j\/x=.lC j\/x=.rd j\/x=.iE j->j<=F.n)(u:∀j,x=.lC j\/x=.rd j\/x=.iE j->1<=j)(v:∀r,(x=.iI r->r<=F.q)/\(x=.kS r->r<=F.n)) (w:∀c f,G=.cl c f->c=Ñ (F.n+1) (fu.iu E x G dk).G/\f=x.gE) (z:∀f,G=.jE f->Ñ (F.n+1) (fu.iu E x G dk).G=0/\f=x.gE/\∃y,y<E.r/\E.g=Ã y/\(E.N y=Ã (.gd (.gy f))\/E.N y=Ã (.gd (.ja f)))) (B:∀r s,G=.gV r s->Ñ (F.n+1) (fu.iu E x G dk).G=0/\r+s=x.gE/\(0<r->∃y,y<E.r/\E.g=Ã y/\E.N y=Ã (.gd (.iy r)))) (C:∀y p,E.N y=Ã (.gd p)->(∀W,p=.gy W\/p=.ja W->E.g=Ã y/\G=.jE W)/\(∀r,p=.iy r->0<r/\E.g=Ã y/\∃s,G=.gV r s)) (D:x=.fy .gy\/x=.fy .kY\/x=.gd->Ñ (F.n+1) (fu.iu E x G dk).G=0) (H:x=.fy .gy->∃a b,G=.gV a b) (I:(∀p,x≠ .fy p)->x≠ .gd->∃c,G=.cl c 0):Ps F (fu.iu E x G dk):=by
 have e:(fu.iu E x G dk).r=E.r:=d.r;refine⟨h.v,t,u,v,λq=>h.J Z,h.I,λj q=>h.z j Z,λj r q=>h.d j r Z,λj q J=> ?_,h.f,λy q=>h.h y Z,λj g N O K=> ?_,λj q=> ?_,w,λf i=> ?_,λr s i=> ?_,C,D,h.e,h.Y,λj r q=>h.w j r Z,λj r q=>h.H j r Z,H,I,h.y,λj r q=>h.D j r Z⟩
 .let⟨a,b⟩:=h.l j Z J;exact⟨Ê a o,b⟩
 .have k:dk j=dk g:=K;rw[d.C j Z,d.C g Z]at k;exact h.M j g Z Z k
 .show¬F.M (dk j)/\dk j≠F.Y/\F.S<=dk j;rw[d.C j Z];exact h.o j Z
 .let⟨k,l,y,m,L⟩:=z f i;exact⟨k,l,y,Z,L⟩
 .let⟨k,l,m⟩:=B r s i;refine⟨k,l,λL=> ?_⟩;let⟨y,P,M⟩:=m L;exact⟨y,Z,M⟩
def Ps.r(h:Ps F E){x:fU}{dk:Nat->Nat}(d:iV E x dk)(g:E.M.je F.n<=x.je F.n)(i:x.ad F.n=E.M.ad F.n)(f:x.gE=E.M.gE)(k:∀j,x=.go j\/x=.lC j\/x=.rd j\/x=.iE j->j<=F.n)(l:∀j,x=.lC j\/x=.rd j\/x=.iE j->1<=j)(m:∀r,(x=.iI r->r<=F.q)/\(x=.kS r->r<=F.n)) (o:x=.fy .gy\/x=.fy .kY\/x=.gd->Ñ (F.n+1) E.G=0) (s:x=.fy .gy->∃a b,E.b=.gV a b) (t:(∀p,x≠ .fy p)->x≠ .gd->∃c,E.b=.cl c 0):Ps F (fu.iu E x E.b dk):=by
 have e:=Qt (E:=E) (G:=E.b) (dk:=dk) i;refine h.iu d g k l m ?_ ?_ ?_ h.N ?_ s t
 .rw[e,f];exact h.t
 .rw[e,f];exact h.g
 .rw[e,f];exact h.u
 .rwa[e]
def qI.iu(h:qI F E S d o)(ok:F.Ok){x:fU}{G:GS}{dk:Nat->Nat}{T:gu}(a:iV E x dk):qI F (fu.iu E x G dk) (fw S 0<|JM F dk x) (fw d 0 T) (fw o 0<|kM x):=by have:=ok.r;have e:(fu.iu E x G dk).r=E.r:=a.r;refine⟨by rw[gC,gC];exact⟨U,U⟩,λc b=>by rw[fH S _ Z,fH o _ Z];exact h.Y Z b,λj c b=> ?_,λy f c b=>by rw[fH S _ Z,fH o _ Z,fH d _ Z];exact h.C y f Z b,λi c b=>by rw[fH S _ Z,fH o _ Z,fH d _ Z];exact h.r i c b⟩;rw[fH S _ Z,fH o _ Z];show _=JW F (dk j) j (E.C j)/\_=kW F (dk j) (E.C j);rw[a.C j Z];exact h.I j Z b
def rC{x:fU}{G:GS}{dk:Nat->Nat}{T:gu}(h:x.rk F<E.M.rk F):o5 F.N ((iu E x G dk).mu (fw d 0 T) D) (E.mu d f):=by refine Hi (by unfold Ph.N;omega) (À ?_) λk a=>yw (λh=>absurd h a) (λ_ _=>rfl) (λ_=>rfl) (λ_ _=>rfl) (λ_ _=>rfl)<|fH d _ a;rwa[Er,Er]
theorem XX:E.ll 0=match E.M with|.fy p=>p.ll F.B E.b.st|_=>0:=by unfold fS.ll;grind
def aho{p a:SP}(b:E.M=.fy (.lW p))(g:d 0=.fA)(h:a.rk F.B E.b.st<p.rk F.B E.b.st):o5 F.N ((iu E (.fy (.lW a)) E.b E.I).mu (fw d 0 .fA) D) (E.mu d f):=by
 refine Xr (i:=0) (λk _=> ?_) (by unfold Ph.N;omega) ?_ λk c=> ?_
 .by_cases e:k=0
  .subst e;rw[Er,Er,gC,b,g];rfl
  .exact yw (λh=>absurd h e) (λ_ _=>rfl) (λ_=>rfl) (λ_ _=>rfl) (λ_ _=>rfl)<|fH d _ e
 .rwa[XX,XX,b]
 .unfold fS.ll;rw[if_neg c,if_neg c];rfl
def PI.sL(p:PI F b zX E S d o m f w qJ)(c:f[0]?=Ã g)(e:g.status=Å)(h:d 0=.fA):∀a,fI (m 0) (m 0).w a->JM F E.I E.M {m 0 with w:=a} g:=by
 let⟨k,i⟩:=p.h;have j:o 0=.no\/o 0=.iy:=by
  rw[i];cases E.M with
  |fy v=>cases v<;>first|exact À U|exact Á U
  |_=>exact À U
 intro a r;have:=p.I.N c e h j a r;simp_all
def yH(ok:F.Ok):∀x,E.iq x->0=F.L+x->False:=λx _ e=>by have:=ok.r;omega
theorem PI.yI(H:gR F)(p:PI F b zX E S d o m f w qJ){x:fU}{G:GS}{dk:Nat->Nat}{c:Ä}{T:gu}(a:iV E x dk)(C:ř F.P (ñ f w I) 0=(Ğ<|ñ D W I,u))(l:D.size=f.size)(q3:D[0]?=Ã c)(ng:c.status=Å\/c.status=ç)(J:∀k,k≠0->D[k]?=f[k]?.map (Ā F.P g c W))(K:∀j,j+2<=E.r->W.heap[E.I j]?=w.heap[E.I j]?) (L:gL F.P F.S E.Y (fw S 0<|JM F dk x) (fw d 0 T) (fw o 0<|kM x) (gq m 0 {m 0 with w:=W}) D W (qJ++u)) (M:TI F.toFx b zX E.r E.S.rl E.V E.e E.d E.iq E.f (qJ++u)) (O:iF F E (gq m 0 {m 0 with w:=W}) D.size W) (Q:Wd F (iu E x G dk) W) (X:Ps F (iu E x G dk)) (wO:o5 F.N ((iu E x G dk).mu (fw d 0 T) D) (E.mu d f)) (hxf:x=.gd->E.M=.gd):jY F b zX E d f w qJ I 0:=by
 have e:(iu E x G dk).r=E.r:=a.r;refine⟨iu E x G dk,_,_,_,_,D,W,u,C,l,hxf,.r (p.N.iu H.C a) (by rw[e];exact l.trans p.b) (by rwa[AT a]) (O.G a) Q X (by rwa[e]) ?_ λi h s n q=>(p.f i h Z n q).app u,wO⟩;intro k y n hb;by_cases q:k=0
 .grind
 .rw[J k q]at n;obtain⟨z,hz,rfl⟩:=Ú.1 n;let⟨_,hzb⟩:=Hh hb;rcases p.c k z hz hzb with⟨h1,_⟩|⟨j,t,v,B,i|⟨r,cap,s,h,i,h4⟩⟩
  .exact absurd h1 q
  .exact Á ⟨j,Z,v,B,À i⟩
  .refine Á ⟨j,Z,v,B,Á ⟨r,cap,s,h,i,?_⟩⟩;show W.heap[dk j]?=_;rwa[a.C j t,K j t]
theorem PI.Li(H:gR F)(p:PI F b zX E S d o m f w qJ){x:fU}{h:Nat->Nat}{T:gu}(c:iV E x h)(v:f[0]?=Ã g)(B:g.status=Å)(hF:kX F.P Î (JM F h x) T {m 0 with w:=w} g)(t:x.mq F.q=E.M.mq F.q)(l:x.je F.n=E.M.je F.n)(D:Ps F (iu E x E.b h))(G:o5 F.N ((iu E x E.b h).mu (fw d 0 T) f) (E.mu d f))(I:x=.gd->E.M=.gd):rA F b zX E d f w qJ:=by
 have u:=iM v;have C:=p.I.r;have e:(iu E x E.b h).r=E.r:=c.r;have J:iP F.S (λi=>i<f.size) E.Y (gq m 0 {m 0 with w:=w}) w qJ:=C.C u (λ_ q=>q) (λa q=>À<|Á q) (λ_ q=>q) (λa q=>À<|Á q) U U U (C.m _ u)<|C.g _ u;have L:=p.I.M (K:=kM x) v (À B) J hF;refine⟨iu E x E.b h,_,_,_,_,I,.r (p.N.iu H.C c) (by rw[e];exact p.b) (by rwa[AT c]) ((p.a.C<|Æ _).G c) (Wd.r p.M c t l) D (by rw[e];exact p.d) (λk y M O=> ?_) λi a z j s=>p.f i a Z j s,G⟩;by_cases Q:k=0
 .grind
 .rcases p.c k y M O with⟨t,_⟩|⟨j,V,z,l,i|⟨r,W,s,a,i,X⟩⟩
  .exact absurd t Q
  .exact Á ⟨j,Z,z,l,À i⟩
  .refine Á ⟨j,Z,z,l,Á ⟨r,W,s,a,i,?_⟩⟩;show w.heap[h j]?=_;rwa[c.C j V]
def mJ{x:fU}(h:x.sp F.n=E.M.sp F.n):iV E x E.I:=⟨h,λ_ _=>rfl⟩
def nn:F.M F.C:=À U
theorem PI.ahp(H:gR F)(p:PI F b zX E S d o m f w qJ)(k:f[0]?=Ã g)(l:g.status=Å)(s:d 0=.fA)(e:E.M=.lC j):rA F b zX E d f w qJ:=by
 have i:=p.sL k l s w<|p.I.r.r _<|iM k;rw[e]at i;let⟨c,i⟩:=i;have t:E.r=j:=by unfold fS.r;rw[e];rfl
 have a:iV E (.go j) (fw E.I (j-1) c):=⟨t.symm,λn h=>fH _ _ Z⟩;refine p.Li H (T:=.fA) a k l (λr q=>H.Hf _ _ _ _ _ i q) (by rw[e];rfl) (by rw[e];rfl) (p.C.r a (by rw[e];exact Æ _) (by rw[e];rfl) (by rw[e];rfl) (λn h=> ?_) (λn h=> ?_) (λr=>⟨λh=>(by cases h),λh=>(by cases h)⟩) (λh=>by rcases h with h|h|h<;>cases h) (λh=>by cases h) λ_ _=>p.C.S (λv q=>by rw[e]at q;cases q) λq=>by rw[e]at q;cases q) (rC<|by rw[e];simp only[fU.rk];omega) λh=>by cases h
 .rcases h with h|h|h|h<;>cases h;exact p.C.C j<|Á<|À e
 .grind
def PI.ahq(H:gR F)(p:PI F b zX E S d o m f w qJ)(k:f[0]?=Ã g)(t:g.status=Å)(u:d 0=.fA)(i:E.M=.rd j):jY F b zX E d f w qJ I 0:=by
 have n:=p.sL k t u w<|p.I.r.r _<|iM k;rw[i]at n;let⟨Q,_,V,z,s⟩:=n;have B:E.r=j:=by unfold fS.r;rw[i];rfl
 have a:iV E (.lC j) E.I:=⟨B.symm,λ_ _=>rfl⟩;let⟨C,G,J⟩:=Qd H p nn (À U) (À U) (À ⟨U,U⟩) λx c e=>yH H.C x c e;let⟨T,x⟩:=ji s;have e:=lD (λl g ⟨c,h⟩=>À<|H.I _ _ _ _ h) s;obtain⟨D,y,c,l,K,L,M,N,O,P⟩:=p.AH H (kM<|.lC j) k (z w) fj fj C G x e;refine p.yI H a K L M e N (λ_ _=>rfl) O (J y c l) P (Wd.r p.M a (by rw[i];rfl)<|by rw[i];rfl) (p.C.r a (by rw[i];exact Æ _) (by rw[i];rfl) (by rw[i];rfl) (λq h=> ?_) (λq h=> ?_) (λr=>⟨λh=>(by cases h),λh=>(by cases h)⟩) (λh=>by rcases h with h|h|h<;>cases h) (λh=>by cases h) λ_ _=>p.C.S (λv q=>by rw[i]at q;cases q) λq=>by rw[i]at q;cases q) (rC<|by rw[i];simp only[fU.rk];omega) λh=>by cases h
 .rcases h with h|h|h|h<;>cases h;exact p.C.C j<|Á<|Á<|À i
 .rcases h with h|h|h<;>cases h;exact p.C.K j<|Á<|À i
end
section
variable{F:Ph}{E I:fS F}{S:Nat->Jd}{m K:Nat->gu}{z:Nat->iw}{o:Nat->fc}{d B:Array Ä}{u:ä}{C:Option (Nat×Nat)}
def ahr(y:Nat):E.G y<=1:=by
 unfold fS.G;split
 .cases E.N y with
  |none=>exact Æ _
  |some e=>cases e with
   |oD=>exact Æ _
   |gd p=>cases p<;>simp[lX,ig.kL,jF.kL]
   |jo N=>simp[lX,ig.kL]
 .omega
def XY(v:Int):kB F.C w (w.setCell (fL F.C)<|æ Ó v):=Á ⟨_,_,À U,U⟩
def Qu(H:gR F)(p:PI F n zX E S m z o d w qJ)(h:kB F.C w W){G:GS}(a:hD W F.C G):Wd F {E with b:=G,a:=E.a} W:= h.I H p.a p.C p.M nn (Ga:=G) (Gg:=E.a) ⟨λ_=>a,λe=>absurd U e⟩ λb c=>⟨λe=>absurd e.symm<|H.C.M b c,λ_=>rfl⟩
def Qv(H:gR F)(p:PI F n zX E S m z o d w qJ)(h:kB F.C w W)(c:i<d.size):fI {o i with w:=w} w W:=by have D:=h.r p.a H.C nn;exact⟨Õ D.r.symm,λb f=>D.jO b<|p.I.r.I _ c b f,λa e=>D.M _ c a e,λa e=>D.N _ c a e,λa _=>D.I a⟩
def yJ{l:fc}{b:Ð}(r:fI {l with w:=W} jX b):fI l jX b:=⟨r.r,r.I,r.N,r.Y,r.S⟩
def PI.ahs(H:gR F)(p:PI F n zX E S m z o d w qJ)(D:d[0]?=Ã g)(iH:g.status=Å)(ht:m 0=.fA)(a:E.M=.iE j):jY F n zX E m d w qJ C 0:=by
 have O:=iM D;have Q:=p.sL D iH ht w<|p.I.r.r _ O;rw[a]at Q;let⟨hd,_,hA⟩:=Q;have hj:=p.C.C j<|Á<|Á<|Á a;have hj1:=p.C.K j<|Á<|Á a;have oB:E.r=j:=by unfold fS.r;rw[a];rfl
 have Ew:=H.C.fY;let⟨c,G⟩:=p.C.S (λv q=>by rw[a]at q;cases q) (λq=>by rw[a]at q;cases q);let⟨Hz,_⟩:=p.C.t c 0 G;have hcn:c<=F.n+1:=by rw[Hz];exact Hn ahr
 have I:=G▸p.M.C;let⟨hv,J⟩:=I.agc Z;have K:=hA (GS.cl c 0).st;rw[hv]at K J;obtain⟨b,V⟩:∃b,(GS.cl (c+1) 0).st=b:=⟨_,U⟩;rw[V]at K J;let⟨L,h1,k⟩:=K;have EA:=h1 w I.C I.I;have t:=XY (F:=F) (w:=w) b;have wS:=Qv H p t O;have M:b=(c+1:Int)*fX:=by rw[<-V];simp only[GS.st,fX];omega
 obtain⟨x,v,N⟩:∃x:fU,(x=.rd j\/x=.lC j)/\fh F.P Î (JM F E.I x) {o 0 with w:=w} L:=by
  by_cases l:c=0
  .have e:b=fX:=by rw[M,l];simp[fX]
   simp only[if_pos e]at k;exact⟨.rd j,À U,k⟩
  .have r:¬b=fX:=by simp only[fX]at M|-;omega
   have s:fX<b/\b<1000000*fX/\b%fX=0:=by simp only[fX]at M|-;omega
   simp only[if_neg r,if_pos s]at k;exact⟨.lC j,Á U,k⟩
 let⟨T,hT⟩:=ji<|N.jW wS;have X:L.status=Å\/L.status=ç:=by
  rcases v with rfl|rfl
  .exact lD (λl g h=>À h.2.1) N
  .exact lD (λl g ⟨c,h⟩=>À<|H.I _ _ _ _ h) N
 obtain⟨B,u,q1,q2,q3,q4,q5,q6,q7⟩:=p.Y H (kM x) D (À U) nn EA t (Ay nn) U (λx l e=>(yH H.C x l e).elim) hT X;have l:x.ad F.n=j+1:=by rcases v with rfl|rfl<;>rfl
 have Y:E.M.ad F.n=j:=by rw[a];rfl
 have tX:x.sp F.n=j:=by rcases v with rfl|rfl<;>rfl
 have hxr:x.gE=0:=by rcases v with rfl|rfl<;>rfl
 have e:iV E x E.I:=⟨tX.trans oB.symm,λ_ _=>rfl⟩;have sJ:Ñ (F.n+1) (iu E x (.cl (c+1) 0) E.I).G=c+1:=by
  have h:=wN (f:=E.G) (f':=(iu E x (.cl (c+1) 0) E.I).G) (j:=j) (n:=F.n+1) Z (λi y=>by
   show(if i<x.ad F.n then lX (E.N i)else 0)=if i<E.M.ad F.n then lX (E.N i)else 0
   rw[l,Y];by_cases q:i<j
   .rw[if_pos q,if_pos Z]
   .rw[if_neg q,if_neg Z])
  have r:E.G j=0:=by unfold fS.G;rw[Y,if_neg Z]
  have s:(iu E x (.cl (c+1) 0) E.I).G j=1:=by show(if j<x.ad F.n then lX (E.N j)else 0)=1;rw[l,if_pos Z,p.C.h j Z];rfl
  rw[r,s]at h;omega
 refine p.yI H e q1 q2 q3 X q4 (λr s=>t.C p.C nn s) q5 q6 q7 (Wd.r (Qu H p t J) e (by rw[a];rcases v with rfl|rfl<;>rfl) (by rw[a];rcases v with rfl|rfl<;>rfl)) (p.C.iu e (by rw[a];exact ó _) (λr h=> ?_) (λr h=> ?_) (λr=>⟨λh=> ?_,λh=> ?_⟩) (λi s h=> ?_) (λs h=>by cases h) (λr s h=>by cases h) (λy i h=> ?_) (λh=> ?_) (λh=> ?_) λ_ _=>⟨_,rfl⟩) (rC (by rw[a];rcases v with rfl|rfl<;>simp only[fU.rk]<;>omega)) (λh=>by rcases v with rfl|rfl<;>cases h)
 .rcases v with rfl|rfl<;>rcases h with h|h|h|h<;>cases h<;>exact hj
 .rcases v with rfl|rfl<;>rcases h with h|h|h<;>cases h<;>exact hj1
 .rcases v with rfl|rfl<;>cases h
 .rcases v with rfl|rfl<;>cases h
 .cases h;exact⟨sJ.symm,hxr.symm⟩
 .have:=p.C.N y i h;rw[G]at this;exact⟨λW q=>(by have:=(this.1 W q).2;cases this),λr hr=>(by let⟨_,_,s,h⟩:=this.2 r hr;cases h)⟩
 .rcases v with rfl|rfl<;>rcases h with h|h|h<;>cases h
 .rcases v with rfl|rfl<;>cases h
theorem PI.aht(H:gR F)(p:PI F n zX E S m z o d w qJ)(c:d[0]?=Ã g)(e:g.status=Å)(i:m 0=.fA)(b:E.M=.iI 0):rA F n zX E m d w qJ:=by have f:=p.sL c e i;rw[b]at f;have a:iV E (.kS F.n) E.I:=mJ (by rw[b];rfl);refine p.Li H (T:=.fA) a c e (λh q=>f h<|(p.I.r.r _<|iM c).ff<|yJ q) (by rw[b];simp[fU.mq]) (by rw[b];simp[fU.je]) (p.C.r a (by rw[b];exact ó _) (by rw[b];rfl) (by rw[b];rfl) (λq h=> ?_) (λq h=> ?_) (λr=>⟨λh=>(by cases h),λh=> ?_⟩) (λh=>by rcases h with h|h|h<;>cases h) (λh=>by cases h) λ_ _=>p.C.S (λv q=>by rw[b]at q;cases q) λq=>by rw[b]at q;cases q) (rC<|by rw[b];simp only[fU.rk];omega) (λh=>by cases h);all_goals grind
theorem PI.ahu(H:gR F)(p:PI F n zX E S m z o d w qJ)(c:d[0]?=Ã g)(e:g.status=Å)(i:m 0=.fA)(b:E.M=.kS 0):rA F n zX E m d w qJ:=by have f:=p.sL c e i;rw[b]at f;have a:iV E (.fy .iW) E.I:=mJ (by rw[b];rfl);refine p.Li H (T:=.fA) a c e (λh r=>f h<|(p.I.r.r _<|iM c).ff<|yJ r) (by rw[b];rfl) (by rw[b];simp[fU.je]) (p.C.r a (by rw[b];simp[fU.je]) (by rw[b];rfl) (by rw[b];rfl) (λr h=> ?_) (λr h=> ?_) (λr=>⟨λh=>(by cases h),λh=>(by cases h)⟩) (λh=>by rcases h with h|h|h<;>cases h) (λh=>by cases h) λh _=>absurd rfl<|h _) (rC<|by rw[b];simp only[fU.rk,jq.rk];omega) (λh=>by cases h);all_goals grind
def AU{v:jq}:∀j,(fU.fy v=.go j\/fU.fy v=.lC j\/fU.fy v=.rd j\/fU.fy v=.iE j)->j<=F.n:=λj h=>by rcases h with h|h|h|h<;>cases h
def AV{v:jq}:∀j,(fU.fy v=.lC j\/fU.fy v=.rd j\/fU.fy v=.iE j)->1<=j:=λj h=>by rcases h with h|h|h<;>cases h
def AW{v:jq}:∀r,(fU.fy v=.iI r->r<=F.q)/\(fU.fy v=.kS r->r<=F.n):=λr=>⟨λh=>(by cases h),λh=>(by cases h)⟩
def PI.ahv(H:gR F)(p:PI F n zX E S m z o d w qJ)(c:d[0]?=Ã g)(e:g.status=Å)(i:m 0=.fA)(b:E.M=.fy .iW):rA F n zX E m d w qJ:=by have f:=p.sL c e i w<|p.I.r.r _<|iM c;rw[b]at f;let⟨k,q,j,l⟩:=f;have a:iV E (.fy (.lW (.fZ k))) E.I:=mJ (by rw[b];rfl);exact p.Li H (T:=.fA) a c e (λr h=>⟨j,KO l h⟩) (by rw[b];rfl) (by rw[b];rfl) (p.C.r a (by rw[b];exact Æ _) (by rw[b];rfl) (by rw[b];rfl) AU AV AW (λh=>by rcases h with h|h|h<;>cases h) (λh=>by cases h) λh _=>absurd rfl<|h _) (rC<|by rw[b];simp only[fU.rk,jq.rk];omega) λh=>by cases h
theorem PI.ahw(H:gR F)(p:PI F n zX E S m z o d w qJ){v:SP}(k:d[0]?=Ã g)(iH:g.status=Å)(ht:m 0=.fA)(b:E.M=.fy (.lW v)):jY F n zX E m d w qJ C 0:=by
 have gJ:=iM k;have hJ:=p.sL k iH ht w<|p.I.r.r _ gJ;rw[b]at hJ;obtain⟨hd,X⟩:=hJ;have hG:=p.M.C;obtain⟨_,X⟩:=Xt X hG;have Y:E.M.je F.n<=F.n:=by rw[b];exact Æ _
 rcases X with⟨q,g',es,j,f,P,h4⟩|⟨g',j,f,P⟩|⟨g',c,i,Q,tS,j,f⟩
 .have r:∀e∈es,tR F.toFx e:=by
   rcases f with rfl|rfl
   .grind
   .exact yy nn
  obtain⟨s,V,l⟩:=P;obtain⟨B,u,t,D,I,K,L,M,N⟩:=p.Y (J:=JM F E.I<|.fy (.lW q)) (T:=.fA) H (kM<|.fy (.lW q)) k (À U) nn j (À U) r (by rcases f with rfl|rfl<;>rfl) (λx y e=>(yH H.C x y e).elim) (λh a=>⟨hd,KO ⟨s,V,l⟩ a⟩)<|À (l _ _ V).1;have a:iV E (.fy (.lW q)) E.I:=mJ (by rw[b];rfl);exact p.yI H a t D I (À (l _ _ V).1) K (λ_ _=>rfl) L M N (Wd.r p.M a (by rw[b];rfl)<|by rw[b];rfl) (p.C.r a Y (by rw[b];rfl) (by rw[b];rfl) AU AV AW (λh=>by rcases h with h|h|h<;>cases h) (λh=>by cases h) λh _=>absurd rfl<|h _) (aho b ht h4) λh=>by cases h
 .obtain⟨T,hT⟩:=ji P;have O:=lD (λl g h=>À h.2.1) P;obtain⟨B,u,t,D,I,K,L,M,N⟩:=p.Y H (kM<|.fy .kY) k (À U) nn j (À U) (yy nn) U (λx y e=>(yH H.C x y e).elim) hT O;have a:iV E (.fy .kY) E.I:=mJ (by rw[b];rfl);refine p.yI H a t D I O K (λ_ _=>rfl) L M N (Wd.r p.M a (by rw[b];rfl)<|by rw[b];rfl) (p.C.r a Y (by rw[b];rfl) (by rw[b];rfl) AU AV AW (λ_=> ?_) (λh=>by cases h) λh _=>absurd rfl<|h _) (rC<|by rw[b];simp only[fU.rk,jq.rk];omega) (λh=>by cases h);cases V:E.b with
  |cl c i=>have:=f c i V;have:=(p.C.t c i V).1;omega
  |jE i=>exact(p.C.g i V).1
  |gV r s=>exact(p.C.u r s V).1
 .obtain⟨e1,V⟩:=p.C.t c i Q;rw[b]at V;have V:i=0:=V;subst V;obtain⟨hv,Hp⟩:=(Q▸hG).Xe tS Z;rw[Q,hv]at j;rw[hv]at Hp;rw[Q]at f;have e:(GS.cl c 0).st%fX=0:=by simp only[GS.st,fX];omega
  simp only[e,if_true]at f;have W:=XY (F:=F) (w:=w) (GS.cl c<|0+1).st;obtain⟨T,hT⟩:=ji<|f.jW<|Qv H p W gJ;have O:=lD (λl g h=>À h.2.1) f;obtain⟨B,u,t,D,I,K,L,M,N⟩:=p.Y H (kM<|.fy .wr) k (À U) nn j W (Ay nn) U (λx y e=>(yH H.C x y e).elim) hT O;have a:iV E (.fy .wr) E.I:=mJ (by rw[b];rfl);refine p.yI H a t D I O K (λy l=>W.C p.C nn l) L M N (Wd.r (Qu H p W Hp) a (by rw[b];rfl)<|by rw[b];rfl) (p.C.iu a Y AU AV AW (λl i h=> ?_) (λi h=>by cases h) (λr s h=>by cases h) (λy q h=> ?_) (λh=>by rcases h with h|h|h<;>cases h) (λh=>by cases h) λh _=>absurd rfl<|h _) (rC<|by rw[b];simp only[fU.rk,jq.rk];omega) λh=>by cases h
  .rw[(Qt (E:=E) (x:=.fy .wr) (G:=.cl c (0+1)) (dk:=E.I)<|by rw[b];rfl)];cases h;exact⟨e1,U⟩
  .have:=p.C.N y q h;grind
def PI.ahx(H:gR F)(p:PI F n zX E S m z o d w qJ)(c:d[0]?=Ã g)(j:g.status=Å)(k:m 0=.fA)(b:E.M=.fy .wr):jY F n zX E m d w qJ C 0:=by have f:=p.sL c j k w<|p.I.r.r _<|iM c;rw[b]at f;let⟨L,_,M,q,i⟩:=f;have a:iV E (.fy .ky) E.I:=mJ (by rw[b];rfl);let⟨r,s,t⟩:=Qd H p nn (À U) (Á U) (À ⟨U,U⟩) λx h e=>yH H.C x h e;let⟨T,x⟩:=ji i;have e:=lD (λl g h=>À h.2.1) i;obtain⟨B,y,l,u,v,D,G,I,J,K⟩:=p.AH H (kM<|.fy .ky) c (q w) fj fj r s x e;exact p.yI H a v D G e I (λ_ _=>rfl) J (t y l u) K (Wd.r p.M a (by rw[b];rfl)<|by rw[b];rfl) (p.C.r a (by rw[b];exact Æ _) (by rw[b];rfl) (by rw[b];rfl) AU AV AW (λh=>by rcases h with h|h|h<;>cases h) (λh=>by cases h) λh _=>absurd rfl<|h _) (rC<|by rw[b];simp only[fU.rk,jq.rk];omega) λh=>by cases h
def PI.ahy(H:gR F)(p:PI F n zX E S m z o d w qJ)(i:d[0]?=Ã g)(s:g.status=Å)(t:m 0=.fA)(f:E.M=.fy .gy):jY F n zX E m d w qJ C 0:=by have k:=p.sL i s t w<|p.I.r.r _<|iM i;rw[f]at k;let⟨P,_,v⟩:=k;let⟨a,b,y⟩:=p.C.O f;have q:=p.M.C;rw[y]at q;let⟨Q,D,j⟩:=v 0;simp only[if_true]at j;have c:iV E (.fy .kY) E.I:=mJ (by rw[f];rfl);let⟨T,G⟩:=ji j;have r:=lD (λl g h=>À h.2.1) j;obtain⟨B,u,l,I,J,K,L,M,N⟩:=p.Y H (kM<|.fy .kY) i (À U) nn (D w q.C) (À U) (yy nn) U (λx O e=>(yH H.C x O e).elim) G r;exact p.yI H c l I J r K (λ_ _=>rfl) L M N (Wd.r p.M c (by rw[f];rfl)<|by rw[f];rfl) (p.C.r c (by rw[f];exact Æ _) (by rw[f];rfl) (by rw[f];rfl) AU AV AW (λ_=>p.C.B<|À f) (λh=>by cases h) λh _=>absurd rfl<|h _) (rC<|by rw[f];simp only[fU.rk,jq.rk];omega) λh=>by cases h
theorem PI.ahz(H:gR F)(p:PI F n zX E S m z o d w qJ){g:Ä}(f:d[0]?=Ã g)(j:g.status=Å)(v:m 0=.fA)(b:E.M=.fy .ky):jY F n zX E m d w qJ C 0:=by
 have D:=iM f;have I:=p.sL f j v w<|p.I.r.r _ D;rw[b]at I;obtain⟨hd,_,J,Qf,g',h1,K⟩:=I;have L:=p.M.C;by_cases M:E.b.sm=0
 .have s:=L.M;rw[M]at s;obtain⟨Q,l⟩:=p.h;rw[b]at Q l;obtain⟨B,t,c,q,O⟩:=Py f<|Qf w s;have hw:∀x,Ā F.P g {g with status:=Ý} w x=x:=by
   intro x;unfold Ā;grind
  have r:∀k,k≠0->B[k]?=d[k]?:=by grind
  have V:gL F.P F.S E.Y S m z o B w (qJ++#[]):=by
   rw[Û];obtain⟨g0,W,T,f3,f4⟩:=p.I.C _ g f;have X:g=g0:=by
    rw[l]at T;cases T with
    |gk=>rfl
    |nP h J=>cases j
   subst X;refine⟨?_,λk y a=> ?_,λk a=>p.I.I k<|by rwa[<-c]⟩
   .rw[show(λi=>i<B.size)=(λi=>i<d.size) by rw[c]];exact p.I.r
   .by_cases e:k=0
    .subst e;rw[q]at a;obtain rfl:=È a;refine⟨g,W,?_,À j,Á v⟩;rw[l];exact .nP j J
    .rw[r k e]at a;exact p.I.C k y a
  refine⟨E,S,m,z,o,B,w,#[],t,c,λh=>h,.r p.N (c.trans p.b) V (by rw[c];exact p.a) p.M p.C (by rw[Û];exact p.d) (λk y a i=> ?_) (by rw[Û];exact p.f),P7 (λ_ _=>rfl) (by unfold Ph.N;omega) (by rw[Ez f,if_pos j]) (by rw[Ez q,if_neg fj]) λk a=>Qe<|r k a⟩;by_cases e:k=0
  .grind
  .rw[r k e]at a;exact p.c k y a i
 .obtain⟨a,s,Q⟩:=Xy M;have k:=Q▸L;have EA:=h1 w _ (by simp only[GS.sm];omega) k.M k.N;have i:kB F.C w (w.setCell (gQ F.C)<|æ å<|(GS.gV a<|s+1).sm-1):=Á ⟨_,_,Á U,U⟩;obtain⟨T,hT⟩:=ji<|K.jW<|Qv H p i D;have V:=lD (λl g h=>À h.2.1) K;obtain⟨B,u,t,c,q,O,q5,q6,q7⟩:=p.Y H (kM<|.fy .gy) f (À U) nn EA i (Hk nn) (Hl _).2.2.2 (λx l e=>(yH H.C x l e).elim) hT V;obtain⟨W,l,b3⟩:=p.C.u a (s+1) Q;rw[b]at l;have l:a+(s+1)=1:=l;have ha:a=0:=Z
  have hs0:s=0:=Z
  subst ha hs0;have e:iV E (.fy .gy) E.I:=mJ (by rw[b];rfl);have X:=Qt (E:=E) (x:=.fy .gy) (G:=.gV 0 0) (dk:=E.I) (by rw[b];rfl);refine p.yI H e t c q V O (λj' r=>i.C p.C nn r) q5 q6 q7 (Wd.r (Qu H p i k.ky) e (by rw[b];rfl)<|by rw[b];rfl) (p.C.iu e (by rw[b];exact Æ _) AU AV AW (λc' r h=>by cases h) (λr h=>by cases h) (λr s h=> ?_) (λy r h=> ?_) (λ_=>by rwa[X]) (λ_=>⟨0,0,U⟩) λh _=>absurd U<|h _) (rC<|by rw[b];simp only[fU.rk,jq.rk];omega) λh=>by cases h
  .rw[X];cases h;exact⟨W,U,λh=>by omega⟩
  .have:=p.C.N y r h;grind
end
section
variable{S:Nat->Jd}{a:Nat->gu}{d:Nat->iw}{f:Nat->fc}{b:Array Ä}
def gL.ahA(q:gL P i X S a d f b w qJ)(r:b[k]?=Ã g)(h:yo n É g):∃z,d k=.sG n z:=by
 let⟨l,u,v,j,s,m,y,t⟩:=h;let⟨g0,_,o,p,_⟩:=q.C k g r;generalize d k=K at o;cases o with
 |gk=>rw[l]at p;rcases p with e|e<;>cases e
 |nP h e=>simp only[e]at j;cases j
 |tK e z h=>
  simp only[Ń,Ļ,Prod.mk.injEq]at j;rw[<-j.1]at m;have:s=ŝ e z:=by simpa using m
  subst this;have:e=n:=by simpa[ŝ]using t
  subst this;exact⟨z,U⟩
 |ni e z h=>cases l
def gL.XZ(m:gL P i X S a d f b w qJ){x:Ä}(o:b[k]?=Ã x)(g:x.status=Ý)(p:d k=.sG n z):∃g0,x=Ń g0 #[ŝ n z] (.recv Î):=by
 let⟨g0,_,j,l,_⟩:=m.C k x o;rw[p]at j;cases j with
 |gk=>rw[g]at l;rcases l with e|e<;>cases e
 |tK _ _ h=>exact⟨g0,U⟩
 |ni _ _ h=>cases g
def ahB{g0:Ä}:yo i É (Ń g0 #[ŝ i z]<|.recv Î):= ⟨U,_,_,U,ŝ i z,fj,U,by simp[ŝ]⟩
def ahC{g0:Ä}{r:Nat}(h:w.heap[i]?=Ã (.chan n q Î j r yQ)):((Ń g0 #[ŝ i z]<|.recv Î).again w).status=Å:=by unfold đ Ń;simp[ŝ,h]
theorem ahD(h:(g.again w).status=Ý):g.again w=g/\g.status=Ý:=by unfold đ at h|-;grind
end
section
variable{F:Ph}{E C:fS F}{S:Nat->Jd}{a D:Nat->gu}{d:Nat->iw}{f:Nat->fc}{b m:Array Ä}{u:ä}{o:Option (Nat×Nat)}
def PI.X0(p:PI F j zX E S a d f b w qJ){x:Ä}(n:b[k]?=Ã x)(h:yo i É x):∃g,g+2<=E.r/\E.N (g+1)=Í/\k=F.L+1+g/\E.I g=i/\∃r,E.C g=.nj r:=by
 let⟨z,l⟩:=p.I.ahA n h;have s:=iM n;by_cases o:k=0
 .subst o;rw[p.h.2]at l;revert l;cases E.M with
  |fy v=>cases v<;>intro h<;>cases h
  |_=>intro h;cases h
 by_cases q:k<F.L
 .rw[(p.l k Z q).2.2]at l;cases l
 have t:=p.b;obtain⟨y,rfl⟩:∃y,k=F.L+y:=⟨k-F.L,Z⟩;cases m:E.N y with
 |some e=>rw[(p.k y e Z m).2.1]at l;cases l
 |none=>
  cases y with
  |zero=>rw[ô,(p.m Z m).2]at l;cases l
  |succ g=>
   rw[show F.L+(g+1)=F.L+1+g by omega,(p.g g Z m).2]at l;cases e:E.C g with
   |nj r=>
    rw[e]at l;injection l with l _;exact⟨g,Z,m,Z,l,r,e⟩
   |fy r v=>rw[e]at l;cases v<;>cases l
   |jH r=>rw[e]at l;cases l
   |nh r=>rw[e]at l;cases l
theorem X1(h:tN n j i k)(c:1<=n)(a:j=i%n):i=j+k*n:=by
 have e:i=j+i/n*n:=by rw[a,Nat.mul_comm];exact(Nat.mod_add_div i n).symm
 have b:k=i/n:=by
  refine Nat.le_antisymm (ą λq=> ?_)<|ą λq=> ?_
  .have:=(h<|i/n).1 q;omega
  .have d:=mt (h k).2 Z;have f:(k+1)*n<=i/n*n:=č n q;grind
 rwa[b]
theorem X2(h:tN n j i k)(b:1<=n)(c:j=i%n):tN n j (i+1) (k+1):=by
 have e:=X1 h b c;intro a;constructor
 .intro q;have:a*n<=k*n:=č n Z;omega
 .intro q;refine ò λd=> ?_;have:(k+1)*n<=a*n:=č n d;grind
def X3(h:tN n j i k)(b:j<n)(c:j≠i%n):tN n j (i+1) k:=by
 intro a;rw[h a];constructor
 .omega
 .intro q;have:j+a*n≠i:=λe=>c (by rw[<-e,Ĕ,ń b]);omega
def PI.ahE(H:gR F)(p:PI F j zX E S a d f b w qJ){r:Nat}(hi:b[0]?=Ã g)(iH:g.status=Å)(ht:a 0=.fA)(D:E.M=.iI (r+1)):jY F j zX E a b w qJ o 0:=by
 have hn:=H.C.N;have La:=(p.C.L<|r+1).1 D;have oB:E.r=F.n+1:=by unfold fS.r;rw[D];rfl
 obtain⟨hs,hk⟩:=p.h;rw[D]at hs hk;obtain⟨Q,hQ⟩:∃Q,Q=F.q-(r+1):=⟨_,U⟩;obtain⟨c,hj⟩:∃c,c=Q%F.n:=⟨_,U⟩;have hs:S 0=As F.P (0==0) (E.I c) (F.c Q) (He F E.I r):=by rw[hs,hj,hQ];rfl
 have vl:c<F.n:=by rw[hj];exact Γ _ hn
 have V:c+2<=E.r:=Z
 have hY:E.Y (E.I c):=Á<|Á ⟨c,V,U⟩;obtain⟨X,s,hc,tU,Lj,yB,yC⟩:=p.M.jG c V;have pL:decide (c<E.M.je F.n)=É:=by rw[D];simp[fU.je]
 rw[pL]at hc;have Hs:E.M.mq F.q=Q:=by rw[D,hQ];rfl
 rw[Hs]at tU;have eQ:=X1 tU hn hj;have hsQ:s<=s*F.n:=ã _ hn;have X4:(fU.iI r).mq F.q=Q+1:=by simp only[fU.mq];omega
 have ED:=(p.I.r).N _ hY;have X5:∀t,(fU.iI r=.go t\/fU.iI r=.lC t\/fU.iI r=.rd t\/fU.iI r=.iE t)->t<=F.n:=λt h=>by rcases h with h|h|h|h<;>cases h
 have X6:∀t,(fU.iI r=.lC t\/fU.iI r=.rd t\/fU.iI r=.iE t)->1<=t:=λt h=>by rcases h with h|h|h<;>cases h
 have X7:∀K,(fU.iI r=.iI K->K<=F.q)/\(fU.iI r=.kS K->K<=F.n):=λK=>⟨λh=>(by cases h;omega),λh=>(by cases h)⟩;have aM:=p.C.S (λv q=>by rw[D]at q;cases q) (λq=>by rw[D]at q;cases q);by_cases hp:∃(k:Nat) (x:Ä),b[k]?=Ã x/\yo (E.I c) É x
 .obtain⟨k,gj,Ek,mr⟩:=hp;obtain⟨t,oE,he,rfl,AX,K,AY⟩:=p.X0 Ek mr;have ej:=p.C.M _ _ oE V AX;subst ej;have hb:=mr.1;obtain⟨KS,KR⟩:=p.g t oE he;rw[AY]at KS KR;have ahF:S (F.L+1+t)=wH F.P (F.L+1+t==0) (E.I t) F.z λx=>match x with
   |some v=>λl g=>v=F.c (t+K*F.n)->qH F.P É F.B (F.I<|F.r<|t+K*F.n) (F.e (E.I t)<|t+K*F.n) .iW l g
   |none=>Av F:=by rw[yz H.C t];exact KS
  have lB:F.L+1+t≠0:=Z
  have PK:a (F.L+1+t)=.fA:=by obtain⟨g0,_,i,e,h4⟩:=p.I.C _ gj Ek;refine h4.resolve_left λq=> ?_;subst q;rw[hb]at e;rcases e with q|q<;>cases q
  have Qi:X=#[]:=by
   rcases p.c _ gj Ek hb with⟨h1,_⟩|⟨C,_,_,h2,⟨G,W,_⟩|⟨G,cap,i,e,W,h4⟩⟩
   .exact absurd h1 lB
   .have:C=t:=Z
    subst this;rw[AY]at W;cases W
   .have:C=t:=Z
    subst this;rw[hc]at h4;injection h4 with h4;injection h4
  subst Qi;rw[AY]at hc Lj yB;simp only[gM.iK]at hc Lj yB;have hsr:s=K:=by simp at yB;omega
  subst hsr;obtain⟨m,u,T,Tj,g',gj',q1,q2,q3,q4,q5,q6,q7,q8,q9⟩:=p.I.af8 hi hk ht hs hY hc lB Ek hb KR PK ahF (kW F (E.I t)<|.fy s .iW) (λI O M e i=>by obtain⟨j3,a1,_,a3,y,_⟩:=p.X0 e i;have:=p.C.M _ _ a1 V y;omega);have X8:=q9.kK (J:=JW F (E.I t) t<|.fy s .iW) (λl g h=>by rw[fH _ _ lB,gC]at h;exact h<|by rw[eQ]);have e10:fw (fw (fw S (F.L+1+t) ((match(Ã (F.c Q):Option è)with
   |some v=>λl g=>v=F.c (t+s*F.n)->qH F.P É F.B (F.I<|F.r<|t+s*F.n) (F.e (E.I t)<|t+s*F.n) .iW l g
   |none=>Av F))) 0 (He F E.I r)) (F.L+1+t) (JW F (E.I t) t (.fy s .iW))=fw (fw S (F.L+1+t) (JW F (E.I t) t (.fy s .iW))) 0 (JM F E.I (.iI r)):=by
   funext k;by_cases v:k=F.L+1+t
   .subst v;rw[gC,fH _ _ lB,gC]
   .by_cases k2:k=0
    .subst k2;rw[fH _ _<|ÿ lB,gC,gC];rfl
    .rw[fH _ _ v,fH _ _ k2,fH _ _ v,fH _ _ k2,fH _ _ v]
  rw[e10]at X8;have Pw:=p.C.G (x:=.fy s .iW) V he (λk=>by rw[AY,Qc U];rfl) (λG h=>by rcases h with⟨_,h⟩|h|h<;>cases h;exact Z) (λG h=>by rcases h with h|h|h<;>cases h) (λG h=>by cases h) (λG h=>by cases h);have l:iV (gN E t<|.fy s .iW) (.iI r) E.I:=⟨by show _=E.M.sp F.n;rw[D];rfl,λ_ _=>rfl⟩;have e:(iu (gN E t<|.fy s .iW) (.iI r) E.b E.I).r=E.r:=l.r;obtain⟨z1,z2,z3,z4,z5⟩:=p.M.G H p.a p.C V;refine⟨iu (gN E t<|.fy s .iW) (.iI r) E.b E.I,_,_,_,_,m,_,u,q1,q2,(λh=>by have h:=h;cases h),.r ((p.N.N H.C V he).iu H.C l) (by rw[e];exact q2.trans p.b) (by rw[AT l];exact X8) ?_ ⟨z4,z5,λC wR=> ?_,z1,z2,λC wR G Aq h1=> ?_⟩ (Pw.r l (by show E.M.je F.n<=_;rw[D];exact ó _) (by show _=E.M.ad F.n;rw[D];rfl) (by show _=E.M.gE;rw[D];rfl) X5 X6 X7 (λh=>by rcases h with h|h|h<;>cases h) (λh=>by cases h) λ_ _=>aM) (by rw[e];exact Lc p.d q8) (λk y M kZ=> ?_) λC G a1 a2 a3=> ?_,?_⟩
  .rw[q2];exact(((p.a.r<|by rw[AY];rfl).G l).EB<|Õ Hr.symm)
  .have yK:C+2<=E.r:=Z
   show∃X I,(w.setChan (E.I t) _ _ _ _ _ _).heap[E.I C]?=Ã (.chan F.q X (decide<|C<(fU.iI r).je F.n) I ((gN E t<|.fy s .iW).C C).iK É)/\tN F.n C ((fU.iI r).mq F.q) I/\((gN E t<|.fy s .iW).C C).iK<=I/\X.size=I-((gN E t<|.fy s .iW).C C).iK/\∀i,i<I-((gN E t<|.fy s .iW).C C).iK->X[i]?=Ã (F.c<|C+(((gN E t<|.fy s .iW).C C).iK+i)*F.n);rw[X4];by_cases O:C=t
   .subst O;rw[jK];refine⟨#[],s+1,by rw[Lb ED];rfl,X2 tU hn hj,Æ _,by simp[gM.iK],λi ln=> ?_⟩;have hi2:i<s+1-(s+1):=ln;omega
   .rw[iL _ O,pO λq=>O<|p.C.M _ _ yK V q];obtain⟨Qw,I,y1,y2,y3⟩:=p.M.jG C yK;rw[Hs]at y2;refine⟨Qw,I,?_,X3 y2 Z Z,y3⟩;rw[y1,D];rfl
  .have yK:C+2<=E.r:=Z
   have AR:G<((gN E t<|.fy s .iW).C C).kA:=h1;by_cases O:C=t
   .subst O;rw[jK]at AR;exact z3 C yK G Aq<|by rw[AY];exact AR
   .rw[iL _ O]at AR;exact z3 C yK G Aq AR
  .by_cases v:k=0
   .subst v;rw[q3]at M;obtain rfl:=È M;rw[q4]at kZ;cases kZ
   .by_cases k2:k=F.L+1+t
    .subst k2;rw[q5]at M;obtain rfl:=È M;rw[q6]at kZ;cases kZ
    .rw[q7 k v k2]at M;rcases p.c k y M kZ with⟨h1,_⟩|⟨C,wR,yF,h2,W|⟨r1,cap,s1,K,W,h4⟩⟩
     .exact absurd h1 v
     .exact Á ⟨C,Z,yF,h2,À (by show∃G,(gN E t _).C C=_/\_;rw[iL _ Z];exact W)⟩
     .have O:C≠t:=Z
      exact Á ⟨C,Z,yF,h2,Á ⟨r1,cap,s1,K,by show(gN E t _).C C=_;rw[iL _ O];exact W,by show(w.setChan (E.I t) _ _ _ _ _ _).heap[E.I C]?=_;rw[pO λq=>O<|p.C.M _ _ wR V q];exact h4⟩⟩
  .have AG:(gN E t<|.fy s .iW).C C=.jH G:=a2;rw[iL _ (λe=>by subst e;rw[jK]at AG;cases AG)]at AG;exact(p.f C G Z AG a3).app u
  .refine À ⟨0,by unfold Ph.N;omega,À ?_,λk tW yL=> ?_⟩
   .show((iu (gN E t<|.fy s .iW) (.iI r) E.b E.I).iQ _ 0).1<(E.iQ a 0).1;rw[Er,Er,D];show(fU.iI r).rk F<(fU.iI<|r+1).rk F;simp only[fU.rk];omega
   .show(iu (gN E t<|.fy s .iW) (.iI r) E.b E.I).iQ _ k=E.iQ a k\/yv ((iu (gN E t<|.fy s .iW) (.iI r) E.b E.I).iQ _ k) (E.iQ a k);by_cases k2:k=F.L+1+t
    .subst k2;refine Á<|À ?_;rw[tP H.C (E:=iu (gN E t<|.fy s .iW) (.iI r) E.b E.I) (show E.N (t+1)=Í from he),tP H.C he];show((gN E t<|.fy s .iW).C t).rk F<(E.C t).rk F;rw[jK,AY];simp only[gM.rk,jq.rk];have hm:F.n+3000<=(F.n+3000)*(F.q+3-s):=ã _ Z;omega
    .refine À (yw (λh=>absurd h yL) (λ_ _=>rfl) (λ_=>rfl) (λ_ _=>rfl) (λh1 _=> ?_)<|by rw[fH _ _ yL,fH _ _ k2]);show((gN E t<|.fy s .iW).C _).rk F=_;rw[iL _ Z]
 .obtain⟨m,u,T,g',q1,q2,q3,q4,q5,q6,q7⟩:=p.I.iI hi hk ht hs hY hc Z λk x hkx mr=>hp ⟨k,x,hkx,mr⟩;have e0:d=fw d 0 (kM<|.iI r):=by
   funext k;by_cases v:k=0
   .subst v;rw[gC,hk];rfl
   .rw[fH _ _ v]
  rw[e0]at q7;have l:iV E (.iI r) E.I:=mJ (by rw[D];rfl);have e:(iu E (.iI r) E.b E.I).r=E.r:=l.r;obtain⟨z1,z2,z3,z4,z5⟩:=p.M.G H p.a p.C V;refine⟨iu E (.iI r) E.b E.I,_,_,_,_,m,_,u,q1,q2,(λh=>by have h:=h;cases h),.r (p.N.iu H.C l) (by rw[e];exact q2.trans p.b) (by rw[AT l];exact q7) ?_ ⟨z4,z5,λC wR=> ?_,z1,z2,λC wR=>z3 C Z⟩ (p.C.r l (by rw[D];exact ó _) (by rw[D];rfl) (by rw[D];rfl) X5 X6 X7 (λh=>by rcases h with h|h|h<;>cases h) (λh=>by cases h) λ_ _=>aM) (by rw[e];exact Lc p.d q6) (λk y M kZ=> ?_) λC G a1 a2 a3=>(p.f C G Z a2 a3).app u,rC<|by rw[D];simp only[fU.rk];omega⟩
  .rw[q2];exact((p.a.G l).EB<|Õ Hr.symm)
  .have yK:C+2<=E.r:=Z
   show∃X I,(w.setChan (E.I c) _ _ _ _ _ _).heap[E.I C]?=Ã (.chan F.q X (decide<|C<(fU.iI r).je F.n) I (E.C C).iK É)/\tN F.n C ((fU.iI r).mq F.q) I/\(E.C C).iK<=I/\X.size=I-(E.C C).iK/\∀i,i<I-(E.C C).iK->X[i]?=Ã (F.c<|C+((E.C C).iK+i)*F.n);rw[X4];by_cases O:C=c
   .subst O;refine⟨X.push<|F.c Q,s+1,by rw[Lb ED];rfl,X2 tU hn hj,Z,by rw[Array.size_push];omega,λi ln=> ?_⟩;rw[Array.getElem?_push];by_cases G:i=X.size
    .rw[if_pos G,eQ,show(E.C C).iK+i=s by omega]
    .rw[if_neg G];exact yC i Z
   .rw[pO λq=>O<|p.C.M _ _ yK V q];obtain⟨Qw,I,y1,y2,y3⟩:=p.M.jG C yK;rw[Hs]at y2;refine⟨Qw,I,?_,X3 y2 Z Z,y3⟩;rw[y1,D];rfl
  .by_cases v:k=0
   .subst v;rw[q3]at M;obtain rfl:=È M;rw[q4]at kZ;cases kZ
   .rw[q5 k v]at M;rcases p.c k y M kZ with⟨h1,_⟩|⟨C,wR,yF,h2,W|⟨r1,cap,s1,K,W,h4⟩⟩
    .exact absurd h1 v
    .exact Á ⟨C,Z,yF,h2,À W⟩
    .have O:C≠c:=λe=>by
      subst e;have G:=(p.g C wR yF).2;rw[W,<-h2]at G;obtain⟨g0,i⟩:=p.I.XZ M kZ G;exact hp ⟨k,y,M,by rw[i];exact ahB⟩
     exact Á ⟨C,Z,yF,h2,Á ⟨r1,cap,s1,K,W,by show(w.setChan (E.I c) _ _ _ _ _ _).heap[E.I C]?=_;rw[pO λq=>O<|p.C.M _ _ wR V q];exact h4⟩⟩
end
section
variable{F:Ph}{E B:fS F}{S:Nat->Jd}{m D:Nat->gu}{o:Nat->iw}{G:Nat->fc}{c d:Array Ä}{u:ä}{sl:Option (Nat×Nat)}
theorem PI.ahG(H:gR F)(p:PI F n zX E S m o G c w qJ)(hi:c[0]?=Ã g)(ht:m 0=.fA)(l:E.M=.kS (J+1)):jY F n zX E m c w qJ sl 0:=by
 have C:=p.I.r;have hL:=H.C.r;have PL:=(p.C.L<|J+1).2 l;have oB:E.r=F.n+1:=by unfold fS.r;rw[l];rfl
 obtain⟨M,V⟩:=p.h;rw[l]at M V;obtain⟨j,hj⟩:∃j,j=F.n-(J+1):=⟨_,U⟩;have M:S 0=KN F.P (0==0) (E.I j) (Aw F E.I J):=by rw[M,hj];rfl
 have B:j+2<=E.r:=Z
 have hY:E.Y (E.I j):=Á<|Á ⟨j,B,U⟩;obtain⟨N,s,hc,tU,Lj,yB,yC⟩:=p.M.jG j B;have pL:decide (j<E.M.je F.n)=É:=by rw[l];simp only[fU.je];exact decide_eq_false Z
 rw[pL]at hc;have ED:=C.N _ hY;have AB:(w.setChan (E.I j) F.q N Î s (E.C j).iK É).heap[E.I j]?=Ã (.chan F.q N Î s (E.C j).iK É):=Lb ED;have aM:=p.C.S (λv q=>by rw[l]at q;cases q) (λq=>by rw[l]at q;cases q);obtain⟨d,u,T,g',q1,W,q3,q4,q5,q6,q7,q8,q9⟩:=p.I.kS hi V ht M hY (p.C.o j B).2.2 hc;have e0:o=fw o 0 (kM<|.kS J):=by
  funext k;by_cases D:k=0
  .subst D;rw[gC,V];rfl
  .rw[fH _ _ D]
 rw[e0]at q9;have v:iV E (.kS J) E.I:=mJ (by rw[l];rfl);have e:(iu E (.kS J) E.b E.I).r=E.r:=v.r;obtain⟨z1,z2,z3,z4,z5⟩:=p.M.G H p.a p.C B;have Ey:=p.d.C ⟨λI K a _=>q6 I K,À U,λI K a x ha hl _=> ?_,λI K a y ha _ hl=> ?_,λI K b _=>q8 I K _,λx _ _=>⟨λJ hr=>hr.appOther q6 Z,λe=>by omega⟩⟩;refine⟨iu E (.kS J) E.b E.I,_,_,_,_,d,_,u,q1,W,(λh=>by have h:=h;cases h),.r (p.N.iu H.C v) (by rw[e];exact W.trans p.b) (by rwa[AT v]) ?_ ⟨z4,z5,λf O=> ?_,z1,z2,λf O=>z3 f Z⟩ (p.C.r v (by rw[l];simp only[fU.je];omega) (by rw[l];rfl) (by rw[l];rfl) (λi h=> ?_) (λi h=> ?_) (λr'=>⟨λh=>(by cases h),λh=> ?_⟩) (λh=>by rcases h with h|h|h<;>cases h) (λh=>by cases h) λ_ _=>aM) (by rwa[e]) (λk y tL kZ=> ?_) λf i X t L=>(p.f f i Z t L).app u,rC<|by rw[l];simp only[fU.rk];omega⟩
 .rw[W];exact((p.a.C<|Õ Hr.symm).G v)
 .have X:f+2<=E.r:=Z
  show∃L t,(w.setChan (E.I j) F.q N Î s (E.C j).iK É).heap[E.I f]?=Ã (.chan F.q L (decide<|f<(fU.kS J).je F.n) t (E.C f).iK É)/\tN F.n f ((fU.kS J).mq F.q) t/\(E.C f).iK<=t/\L.size=t-(E.C f).iK/\∀i,i<t-(E.C f).iK->L[i]?=Ã (F.c<|f+((E.C f).iK+i)*F.n);have ahH:(fU.kS J).mq F.q=E.M.mq F.q:=by rw[l];rfl
  rw[ahH];by_cases Q:f=j
  .subst Q;refine⟨N,s,?_,tU,Lj,yB,yC⟩;rw[AB,show decide (f<(fU.kS J).je F.n)=Î from decide_eq_true (by simp only[fU.je];omega)]
  .rw[pO λq=>Q<|p.C.M _ _ X B q];obtain⟨L,t,y1,y2⟩:=p.M.jG f X;refine⟨L,t,?_,y2⟩;rw[y1,l];have:decide (f<(fU.kS<|J+1).je F.n)=decide (f<(fU.kS J).je F.n):=by
    apply decide_eq_decide.2;simp only[fU.je];omega
   rw[this]
 .grind
 .grind
 .cases h;omega
 .by_cases D:k=0
  .grind
  .obtain⟨h,t⟩:∃h,c[k]?=Ã h:=by
    grind
   rw[q5 k h D t]at tL;obtain rfl:=È tL;obtain⟨_,Qx⟩:=ahD kZ;rcases p.c k h t Qx with⟨h1,_⟩|⟨f,O,L,X,i|⟨r1,cap,s1,r',i,h4⟩⟩
   .exact absurd h1 D
   .exact Á ⟨f,Z,L,X,À i⟩
   .have Q:f≠j:=λe=>by
     subst e;have Ll:=(p.g f O L).2;rw[i,<-X]at Ll;obtain⟨g0,vm⟩:=p.I.XZ t Qx Ll;have:=ahC (g0:=g0) (z:=F.z) AB;grind
    exact Á ⟨f,Z,L,X,Á ⟨r1,cap,s1,r',i,by show(w.setChan (E.I j) _ _ _ _ _ _).heap[E.I f]?=_;rwa[pO λq=>Q<|p.C.M _ _ O B q]⟩⟩
 .grind
 .grind
def Lm(F:Ph)(zX:ψ->Prop)(qJ:ä):Prop:=
 (∀p a,touchAt qJ p=Ã a->a.loc.isMemory=Î->Υ qJ 0 p\/((zX a.loc\/∃x:Č,a.loc=ý x/\x.block=F.C)/\a.kind=.atomic))/\qJ.HandedOver
def Qy{f:Nat->Nat}:∀{n:Nat},Ñ n f=0->∀i,i<n->f i=0
 |n+1,h,i,hi=>by
  simp only[Ñ]at h;rcases ģ i n with q|q
  .exact Qy Z i q
  .have:i=n:=Z
   subst this;omega
theorem PI.ahI(H:gR F)(p:PI F n zX E S m o G c w qJ)(r:c[0]?=Ã g)(K:g.status=Å)(L:m 0=.fA)(f:E.M=.fy .kY): ∃(B:fS F) (b:Nat->Jd) (D:Nat->gu) (j:Nat->iw) (h:Nat->fc) (d:Array Ä) (W:Ð) (u:ä),ř F.P (ñ c w sl) 0=(Ğ<|ñ d W sl,u)/\d.size=c.size/\PI F n zX B b D j h d W (qJ++u)/\B.M=.gd/\Lm F zX (qJ++u):=by
 have v:=iM r;have C:=p.sL r K L w<|p.I.r.r _ v;rw[f]at C;let⟨M,_,g',s,q⟩:=C;have O:=(p.I.r.f _ v).trans M;have t:∀y:Ă,y.act=Ě (ĺ<|fL F.C)->y.act.touch?=Í:=λy i=>by rw[i];rfl
 have oB:E.r=F.n+1:=by unfold fS.r;rw[f];rfl
 have a:iV E .gd E.I:=mJ (by rw[f];rfl);have e:(iu E .gd E.b E.I).r=E.r:=a.r;let⟨T,Q⟩:=ji q;have V:=lD (λl g h=>À<|H.M _ _ _ h) q;obtain⟨d,y,X,I,Y,J,q3,q4,q5,q7⟩:=p.AH H (kM .gd) r (s w) fj fj (λy i=>⟨λz l=>(by rw[t y i]at l;cases l),by rw[i];exact p.I.r.N _<|À nn⟩) (λy _ i=>Ar p.I.r.l λk j=>by rw[wP j];exact t y i) Q V;have Ey:=p.d.C (yu (λk j=>by rw[wP j];exact t y I) λk j b _ e=>by grind);have l:=p.C.B<|Á<|À f;refine⟨iu E .gd E.b E.I,_,_,_,_,d,w,_,Y,J,.r (p.N.iu H.C a) (by rw[e];exact J.trans p.b) (by rwa[AT a]) (q7.G a) (Wd.r p.M a (by rw[f];rfl)<|by rw[f];rfl) (p.C.r a (by rw[f];exact Æ _) (by rw[f];rfl) (by rw[f];rfl) (λb h=> ?_) (λb h=> ?_) (λb=>⟨λh=>(by cases h),λh=>(by cases h)⟩) (λ_=>l) (λh=>by cases h) λ_ h=>absurd rfl h) (by rwa[e]) ?_ λb j N h k=>(p.f b j Z h k).app _,U,p.d.kS X I O λx tX=> ?_⟩
 .grind
 .grind
 .intro k z b hb;by_cases N:k=0
  .grind
  .rw[q4 k N]at b;obtain⟨z',HB,rfl⟩:=Ú.1 b;let⟨_,hzb⟩:=Hh hb;rcases p.c k z' HB hzb with⟨s,_⟩|⟨j,hj,h,q,h3⟩
   .exact absurd s N
   .exact Á ⟨j,Z,h,q,h3⟩
 .have b:=Qy l x Z;have k:E.M.ad F.n=F.n+1:=by rw[f];rfl
  unfold fS.G at b;rw[k,if_pos Z]at b;cases h:E.N x with
  |none=>rw[h]at b;cases b
  |some j=>
   rw[h]at b;refine⟨j,h,?_⟩;cases j with
   |oD=>cases b
   |gd N=>cases N with
    |jD=>cases b
    |_=>trivial
   |jo N=>trivial
end
section
variable{D:Nat->Prop}{S:Nat->Jd}{G:Nat->gu}{I:Nat->iw}{o:Nat->fc}{f:Array Ä}{sl:Option (Nat×Nat)}
def X9{y:Ă}(b:wQ.act=ae k)(c:y.act=Ĵ):wK #[wQ,y]:=by
 intro d a;simp at a;rcases a with rfl|rfl
 .rw[b];exact⟨U,fj⟩
 .rw[c];exact⟨U,fj⟩
theorem iP.Hc(h:iP i (λf=>f<n) X o w qJ){v:fc}{y:Ă}(F:0<n)(P:wQ.g=0/\wQ.act=ae n)(Q:y.g=n/\y.act=Ĵ)(oG:σ qJ 0=0)(AX:σ qJ n=0)(V:∀b,¬v.O b)(W:∀b,v.I b->(o 0).I b) (J:∀a,v.r a->X a.block/\(∀k,k<n->¬(o k).C a)/\qE qJ 0 (ý a)) (H:∀a,v.N a->(o 0).N a) (lK:∀a,v.K a->(o 0).K a) (lKO:∀k,k<n->∀a,(o k).K a->¬v.r a) (ld:v.d=0) (lw:v.w=w) (Y:∀b,X b->D b) (Ya:∀b,D b->X b\/(b<w.heap.size/\∀f,f<n->¬(o f).M b)):iP i (λf=>f<n+1) D (gq o n v) w (qJ++#[wQ,y]):=by
 have L:=X9 P.2 Q.2;have B:∀f,f<n+1->f=n\/f<n:=λf t=>by omega
 have G:gq o n v n=v:=gT _ _ _;have E:∀f,f<n->gq o n v f=o f:=λf t=>gH o _ Z;have N:∀b,v.M b->(o 0).I b:=λb s=>s.elim (λq=>absurd q (V b)) (W b);have ahJ:=λf t b s On=>(Ya b On).elim (h.I f t b s) (λq=>q.2 f t s);refine⟨λf j t S T b s=> ?_,λf j t S T a r=> ?_,λf t b s=> ?_,λf t a r=> ?_,λf t b s=> ?_,λf t a r=> ?_,λf t b s=> ?_,λb s=> ?_,λf t=> ?_,λf t=> ?_,λf t=> ?_,Ar h.l λu z=>(L u z).1,λu z=> ?_,λp a c r hl hk=> ?_,λf t a r=> ?_⟩
 .rcases B f t with rfl|m
  .grind
  .rw[E f m]at s;rcases B j S with rfl|I
   .rw[G];intro q;by_cases e:f=0
    .subst e;exact h.m _ m b s (N b q)
    .exact h.o f 0 m F e b s (Á (N b q))
   .rw[E j I];exact h.o f j m I T b s
 .rcases B f t with rfl|m
  .grind
  .rw[E f m]at r;rcases B j S with rfl|I
   .rw[G];rintro(q|q)
    .exact(J a q).2.1 f m (À r)
    .by_cases e:f=0
     .subst e;exact h.g _ m a r (H a q)
     .exact h.h f 0 m F e a r (Á (H a q))
   .rw[E j I];exact h.h f j m I T a r
 .rcases B f t with rfl|m
  .grind
  .rw[E f m]at s|-;exact h.m f m b s
 .rcases B f t with rfl|m
  .rw[G]at r|-;exact λq=>(J a r).2.1 0 F (Á (H a q))
  .rw[E f m]at r|-;exact h.g f m a r
 .rcases B f t with rfl|m
  .rw[G]at s;exact ahJ 0 F b (Á (N b s))
  .grind
 .rcases B f t with rfl|m
  .rw[G]at r;exact Y _ (r.elim (λq=>(J a q).1) (λq=>h.e 0 F a (Á (H a q))))
  .rw[E f m]at r;exact Y _ (h.e f m a r)
 .rcases B f t with rfl|m
  .rw[G]at s;exact h.fx 0 F b (Á (N b s))
  .rw[E f m]at s;exact h.fx f m b s
 .exact(Ya b s).elim (h.N b) (λq=>q.1)
 .rcases B f t with rfl|m
  .rw[G,lw];exact fI.fT _ _
  .rw[E f m];exact h.r f m
 .rcases B f t with rfl|m
  .rw[G];have e:=λl=>agj P Q oG AX (l:=l);exact⟨λa r=>absurd r (V _),λa r=>(e _).2 ((h.S 0 F).C a (W _ r)),λa r=>(e _).1 (J a r).2.2,λa r=>(e _).2 ((h.S 0 F).r a (H _ r))⟩
  .rw[E f m];have e:∀u∈#[wQ,y],∀b,u.act.touch?=Ã b->False:=λu z b s=>by rw[(L u z).1]at s;cases s
   exact⟨λa r=>((h.S f m).fp a r).C λu z b s _=>(e u z b s).elim,λa r=>((h.S f m).C a r).r λu z b s _ _=>(e u z b s).elim,λa r=>((h.S f m).I a r).C λu z b s _=>(e u z b s).elim,λa r=>((h.S f m).r a r).r λu z b s _ _=>(e u z b s).elim⟩
 .rw[KP L];rcases B f t with rfl|m
  .grind
  .rw[E f m];exact h.f f m
 .refine(Array.mem_append.1 z).elim (h.q u) λq=> ?_;simp at q;rcases q with rfl|rfl
  .rw[P.2];trivial
  .rw[Q.2];trivial
 .rcases mL r with⟨_,e⟩|⟨_,u,e,q,_⟩
  .exact h.s p a c e hl hk
  .rw[(L u e).1]at q;cases q
 .obtain⟨e,m,q⟩:∃e,e<n/\(o e).K a:=by
   grind
  let⟨I,z2⟩:=h.n e m a q;grind
theorem gL.Hc(p:gL P i X S G I o f w qJ){c b:Ä}{J q:Jd}{T r:gu}{K Kc:iw}{m n:fc}(s:f[0]?=Ã g)(L:é P Î g w=.spawn c b w #[]) (V:∀x y:Ă,(x.g=0/\x.act=ae f.size)->(y.g=f.size/\y.act=Ĵ)->iP i (λa=>a<f.size+1) D (gq (gq o 0 m) f.size n) w (qJ++#[x,y])) (hF:kX P Î J T m c) (M:c.status=Å) (N:kX P É q r n b) (O:b.status=Å): ∃d x y,(x.g=0/\x.act=ae f.size)/\(y.g=f.size/\y.act=Ĵ)/\ř P (ñ f w sl) 0=(Ğ<|ñ d w sl,#[x,y])/\d.size=f.size+1/\d[0]?=Ã c/\d[f.size]?=Ã b/\(∀k,k≠0->k<f.size->d[k]?=f[k]?)/\ gL P i D (fw (fw S 0 J) f.size q) (fw (fw G 0 T) f.size r) (fw (fw I 0 K) f.size Kc) (gq (gq o 0 m) f.size n) d w (qJ++#[x,y]):=by
 have W:=(Ö.1 s).1;have t:=runT_crowd_spawn (sl:=sl) s L;obtain⟨x,u⟩:∃x:Ă,x={g:=0,fn:=g.frame.fn,pos:=g.frame.place,act:=ae f.size}:=⟨_,U⟩;obtain⟨y,v⟩:∃y:Ă,y={g:=f.size,fn:=b.frame.fn,pos:=g.frame.place,act:=Ĵ}:=⟨_,U⟩;have e:((Ü 0 g.frame.fn g.frame.place #[]).push {g:=0,fn:=g.frame.fn,pos:=g.frame.place,act:=ae f.size}).push {g:=f.size,fn:=b.frame.fn,pos:=g.frame.place,act:=Ĵ}=#[x,y]:=by rw[u,v];simp[Ü]
 rw[e]at t;have B:x.g=0/\x.act=ae f.size:=by rw[u];exact⟨U,U⟩
 have C:y.g=f.size/\y.act=Ĵ:=by rw[v];exact⟨U,U⟩
 have E:((f.setIfInBounds 0 c).push b)[0]?=Ã c:=by grind
 have F:((f.setIfInBounds 0 c).push b)[f.size]?=Ã b:=by grind
 have H:∀k,k≠0->k<f.size->((f.setIfInBounds 0 c).push b)[k]?=f[k]?:=λk Y h2=>by grind
 refine⟨_,x,y,B,C,t,fj,E,F,H,?_,λk z d=> ?_,λj Q=> ?_⟩
 .simp_all
 .have Hq:k<f.size+1:=by have:=(Ö.1 d).1;simpa using this
  by_cases l:k=f.size
  .subst l;rw[F]at d;obtain rfl:=È d;rw[gC,gC,gC,gT,show(f.size==0)=É from beq_eq_false_iff_ne.2 Z];exact⟨b,N,.gk,À O,À U⟩
  .rw[fH _ _ l,fH _ _ l,fH _ _ l,gH _ _ l];by_cases h:k=0
   .subst h;rw[E]at d;obtain rfl:=È d;rw[gC,gC,gC,gT];exact⟨c,hF,.gk,À M,À U⟩
   .rw[H k h Z]at d;rw[fH _ _ h,fH _ _ h,fH _ _ h,gH _ _ h];exact p.C k z d
 .rw[KP<|X9 B.2 C.2];exact p.I j<|by simp at Q;omega
end
section
variable{F:Ph}{E N:fS F}{S:Nat->Jd}{G Q:Nat->gu}{I:Nat->iw}{o:Nat->fc}{f B:Array Ä}{u:ä}{sl:Option (Nat×Nat)}
theorem ahK(ok:F.Ok)(h:i≠n)(c:lR F i a)(d:lR F n a):False:=by
 have q:∀{i n:Nat},i=0->n≠0->lR F i a->lR F n a->False:=by
  intro i n g j c d;unfold lR at c d;rw[if_pos g]at c;rw[if_neg j]at d;let⟨k,o,m,e⟩:=c;let⟨b,l,p,f⟩:=d;rcases e with e|e
  .rw[f]at e;have:F.Y=F.I k:=by injection e
   exact ok.C<|Á ⟨k,m,this⟩
  .rw[f]at e;exact ok.PZ b k l o m<|by injection e
 by_cases g:i=0
 .grind
 .by_cases j:n=0
  .grind
  .unfold lR at c d;rw[if_neg g]at c;rw[if_neg j]at d;let⟨b,l,p,f⟩:=c;let⟨m,k,o,e⟩:=d;rw[f]at e;have:=ok.a _ _ l k (by injection e);subst this;omega
theorem ahL(ok:F.Ok)(h:lR F i a):(∃k,k<=F.m/\a=jf F.toFx k)\/∃p,p≠F.f/\a=jk F p:=by
 unfold lR at h;by_cases b:i=0
 .rw[if_pos b]at h;obtain⟨k,d,e,c|c⟩:=h
  .grind
  .exact Á ⟨_,ok.Y.1 k d e,c⟩
 .rw[if_neg b]at h;let⟨k,c,_,d⟩:=h;exact Á ⟨_,ok.Y.2 k c,d⟩
def vn(F:Ph)(j:Nat):fU:=if j<F.n then .iE (j+1)else .iI F.q
def yM(E:fS F)(j:Nat):fS F:={E with M:=vn F j}
def PI.ahM(H:gR F)(p:PI F j zX E S G I o f w qJ)(hi:f[0]?=Ã g)(iH:g.status=Å)(ht:G 0=.fA)(hx:E.M=.go m): ∃(N:fS F) (c:Nat->Jd) (Q:Nat->gu) (r:Nat->iw) (s:Nat->fc) (B:Array Ä) (W:Ð) (u:ä),ř F.P (ñ f w sl) 0=(Ğ<|ñ B W sl,u)/\B.size=f.size+1/\N.M≠ .gd/\PI F j zX N c Q r s B W (qJ++u):=by
 have gJ:=iM hi;have C:=p.I.r;have L:=p.a;have hL1:=H.C.r;have hn:=H.C.N;have vl:=p.C.C m<|À hx;have oB:E.r=m:=by unfold fS.r;rw[hx];rfl
 have jr:f.size=F.L+m:=by rw[p.b,oB]
 have hJ:=p.sL hi iH ht w<|C.r _ gJ;rw[hx]at hJ;obtain⟨hd,g',child,X,Yb,Aq,EA,hX,AZ,ahN,ahO⟩:=H.go m E.I _ g vl hJ<|C.M gJ;have hd:=hd;have hX:=hX;have AZ:=AZ;have oG:=(C.f _ gJ).trans hd;have AX:=p.I.I _<|Æ _;have nq:=L.M 0<|À U;obtain⟨m',tY⟩:∃m',m'=vn F m:=⟨_,U⟩;have tZ:(m<F.n/\m'=.iE (m+1))\/(m=F.n/\m'=.iI F.q):=by
  rw[tY];unfold vn;by_cases q:m<F.n
  .exact À ⟨q,if_pos q⟩
  .exact Á ⟨Z,if_neg q⟩
 have atU:m'.sp F.n=m+1:=by rcases tZ with⟨_,rfl⟩|⟨q,rfl⟩<;>simp only[fU.sp];omega
 have ahP:m'.ad F.n=m+1:=by rcases tZ with⟨_,rfl⟩|⟨q,rfl⟩<;>simp only[fU.ad];omega
 have Qz:m'.mq F.q=0:=by rcases tZ with⟨_,rfl⟩|⟨q,rfl⟩<;>simp[fU.mq]
 have hmh:m'.je F.n=0:=by rcases tZ with⟨_,rfl⟩|⟨q,rfl⟩<;>rfl
 have hmr:m'.gE=0:=by rcases tZ with⟨_,rfl⟩|⟨q,rfl⟩<;>rfl
 have HF:(∀v,m'≠ .fy v)/\m'≠ .gd:=by rcases tZ with⟨_,rfl⟩|⟨q,rfl⟩<;>exact⟨λv h=>(by cases h),λh=>(by cases h)⟩
 have hkM:kM m'=.no:=by rcases tZ with⟨_,rfl⟩|⟨q,rfl⟩<;>rfl
 obtain⟨l0,my⟩:∃l0:fc,l0={o 0 with O:=λb=>(o 0).O b/\¬X b/\(1<=m->b≠E.I (m-1)),I:=λb=>X b\/(o 0).I b,r:=λa=>(o 0).r a/\¬lR F m a,w:=w}:=⟨_,U⟩;obtain⟨lc,kr⟩:∃lc:fc,lc={O:=λ_=>False,I:=λb=>X b\/(o 0).I b,r:=lR F m,N:=(o 0).N,K:=(o 0).K,d:=0,q:=False,w:=w}:=⟨_,U⟩;have Yc:iP F.S (λi=>i<f.size) E.Y (gq o 0 l0) w qJ:=by
  rw[my];refine C.C gJ (λ_ q=>q.1) (λb q=>À<|q.elim (λz=>À<|hX b z) Á) (λ_ q=>q.1) (λa q=>À<|Á q) U U U (λb hb q=> ?_) λa J q=>C.g _ gJ a J.1 q;rcases q with q|q
  .exact hb.2.1 q
  .exact C.m _ gJ b hb.1 q
 have z0:gq o 0 l0 0=l0:=gT _ _ _;have A0:=L.o m Z vl;have np:(yM E m).r=m+1:=by show(vn F m).sp F.n=_;rwa[<-tY]
 have Yd:∀b,(yM E m).Y b->E.Y b\/(1<=m/\b=E.I (m-1)):=λb hb=>by
  rcases hb with q|q|⟨l,t,D⟩
  .exact À<|À q
  .exact À<|Á<|À q
  .rw[np]at t;by_cases e:l+1=m
   .exact Á ⟨Z,by rw[D,show l=m-1 by omega];rfl⟩
   .exact À<|Á<|Á ⟨l,Z,D⟩
 have QA:∀x y:Ă,(x.g=0/\x.act=ae f.size)->(y.g=f.size/\y.act=Ĵ)->iP F.S (λi=>i<f.size+1) (yM E m).Y (gq (gq o 0 l0) f.size lc) w (qJ++#[x,y]):=λx y Ln Lp=>by
  refine Yc.Hc gJ Ln Lp oG AX (by rw[kr];exact λb q=>q) (by rw[z0,kr,my];exact λb q=>q) (λa J=> ?_) (by rw[z0,kr,my];exact λb q=>q) (by rw[z0,kr,my];exact λb q=>q) (λk hk a J q=> ?_) (by rw[kr]) (by rw[kr]) (λb hb=> ?_) λb hb=> ?_
  .have r:lR F m a:=by rwa[kr]at J
   have c:=A0 a r;refine⟨C.e 0 gJ a<|À c,λk hk q=> ?_,(C.S 0 gJ).I a c⟩;by_cases e:k=0
   .subst e;rw[z0,my]at q;rcases q with q|q
    .exact q.2 r
    .exact C.g 0 gJ a c q
   .rw[gH _ _ e]at q;exact C.h 0 k gJ hk (ÿ e) a c q
  .have c:(o k).K a:=by
    by_cases e:k=0
    .subst e;rwa[z0,my]at J
    .rwa[gH _ _ e]at J
   rw[kr]at q;exact(C.n k hk a c).2 0 gJ<|A0 a q
  .rcases hb with q|q|⟨l,t,D⟩
   .exact À q
   .exact Á<|À q
   .exact Á<|Á ⟨l,by rw[np];omega,D⟩
  .rcases Yd b hb with q|⟨t,rfl⟩
   .exact À q
   .obtain⟨a1,a2,a3,a4⟩:=AZ t;refine Á ⟨C.fx 0 gJ _<|À a1,λi ln q=> ?_⟩;by_cases e:i=0
    .subst e;rw[z0,my]at q;rcases q with q|q|q
     .exact q.2.2 t U
     .exact a2 q
     .exact C.m 0 gJ _ a1 q
    .rw[gH _ _ e]at q;exact C.o 0 i gJ ln (ÿ e) _ a1 q
 have hWm:fh F.P Î (JM F E.I m') l0 g':=by
  have r:=Yc.M gJ;rw[z0]at r;have s:{l0 with w:=w}=l0:=by rw[my]
  rw[s]at r;have:=ahO l0 r (by rw[my]) (λb q=>by rwa[my]) (by rw[my]) (by rwa[my]) (by rw[my]) (by rw[my]) (by rw[my]) (λa q=>by rw[my]at q;exact q.1);rw[tY];unfold vn;exact this
 have QB:∀b,lc.M b->(o 0).M b:=λb hb=>by
  rw[kr]at hb;rcases hb with q|q|q
  .exact q.elim
  .exact À<|hX b q
  .exact Á q
 have Ye:∀a,lc.C a->(o 0).C a:=λa J=>by rw[kr]at J;exact J.elim (λq=>À<|A0 a q) Á
 have QC:lc.w=w:=by rw[kr]
 have ahQ:gw lc:=⟨λb hb=>(by rw[kr]at hb;exact hb.elim),λa J q=>(by rw[kr]at J q;exact C.g 0 gJ a (A0 a J) q),λa J hb=>C.I 0 gJ _ (QB _ hb)<|C.e 0 gJ a<|Ye a J,λb hb=>(by rw[QC];exact C.fx 0 gJ b<|QB b hb),λa J=>(by rw[QC];exact C.N _<|C.e 0 gJ a<|Ye a J),λa J=>by
  have c:(o 0).K a:=by rwa[kr]at J
  obtain⟨k1,k2⟩:=C.n 0 gJ a c;exact⟨λq=>C.I 0 gJ _ (QB _ q) k1,by rw[QC];exact C.N _ k1,λq=>by rw[kr]at q;exact k2 0 gJ (A0 a q)⟩⟩
 have hWc:=ahN lc ahQ (λb q=>by rwa[kr]) (by rw[kr]) (by rw[kr]) (by rw[kr];exact λq=>q) (λb=>by rw[kr];exact λq=>q) (by rw[kr]) (by rw[kr]) (λa q=>A0 a<|by rwa[kr]at q);obtain⟨T,hT⟩:=ji hWm;obtain⟨Tc,hTc⟩:=ji hWc;obtain⟨B,x,y,Ln,Lp,q1,q2,q3,q4,q5,q6⟩:=p.I.Hc (Kc:=if m=0 then .no else kW F (E.I<|m-1) (.nj 0)) hi (EA w) QA hT Yb hTc Aq;have cs:∀i,i<f.size+1->i=f.size\/i=0\/(i≠0/\i<f.size):=λi hi=>by omega
 have es:gq (gq o 0 l0) f.size lc f.size=lc:=gT _ _ _;have e0:gq (gq o 0 l0) f.size lc 0=l0:=by rwa[gH _ _ Z]
 have en:∀i,i≠0->i≠f.size->gq (gq o 0 l0) f.size lc i=o i:=λi t D=>by rw[gH _ _ D,gH _ _ t]
 have wT:=p.C.z;have Lh:=p.C.h m Z;have ahR:∀y,E.n7 y->y<m:=λy ⟨e,t,_⟩=>ò λq=>by rw[p.C.h y Z]at t;cases t
 have QD:∀i,i<f.size+1->∀a,(gq (gq o 0 l0) f.size lc i).r a->∃k,k<f.size/\(o k).r a:=λi hi a J=>by
  rcases cs i hi with rfl|rfl|⟨t,D⟩
  .rw[es,kr]at J;exact⟨0,gJ,A0 a J⟩
  .rw[e0,my]at J;exact⟨0,gJ,J.1⟩
  .rw[en i t Z]at J;exact⟨i,D,J⟩
 refine⟨yM E m,_,_,_,_,B,w,_,q1,q2,(by show vn F m≠ .gd;rw[<-tY];exact HF.2),.r ⟨?_,λt D=> ?_,λl t D=> ?_,λy e t D=> ?_,λi t D=> ?_⟩ (by rw[q2,np,jr];omega) q6 ?_ ?_ ?_ ?_ (λk z hk hb=> ?_) λl r2 a1 a2 a3=> ?_⟩
 .have c:(0:Nat)≠f.size:=Z
  rw[fH _ _ c,gC,fH _ _ c,gC];rw[tY];exact⟨U,U⟩
 .by_cases e:m=0
  .have c:f.size=F.L:=Z
   rw[c,gC,gC,if_pos e,if_pos e];show F.h 0=JI F E.c E.S/\_;rw[p.C.J Z];exact⟨U,U⟩
  .rw[fH _ _ Z,fH _ _ Z,fH _ _ Z,fH _ _ Z];exact p.m Z D
 .rw[np]at t;by_cases e:l+1=m
  .have c:F.L+1+l=f.size:=Z
   rw[c,gC,gC,if_neg Z,if_neg Z];show Eo F (E.I<|m-1) (m-1) 0=JW F (E.I l) l (E.C l)/\_=kW F (E.I l) (E.C l);rw[wT l Z,show m-1=l by omega];exact⟨U,U⟩
  .rw[fH _ _ Z,fH _ _ Z,fH _ _ Z,fH _ _ Z];exact p.g l Z D
 .have s:=ò λq=>by
   have r:E.N y=Ã e:=D;rw[p.C.h y Z]at r;cases r
  rw[fH _ _ Z,fH _ _ Z,fH _ _ Z,fH _ _ Z,fH _ _ Z,fH _ _ Z];exact p.k y e Z D
 .rw[fH _ _ Z,fH _ _ Z,fH _ _ Z,fH _ _ Z,fH _ _ Z,fH _ _ Z];exact p.l i t D
 .rw[q2];obtain⟨f1,f2⟩:=L.lP Z;refine⟨λi ln a J=> ?_,λy t D a J=> ?_,λ_=> ?_,λ_ k t D=> ?_,λ_ D=> ?_,λl t D r h3 h4=> ?_,λl t D=> ?_,λy s=> ?_,λi ln=> ?_,λi t D=> ?_,λk hk b hb=> ?_,λk hk i ln q=> ?_,λk t D i ln q=> ?_,λl t r D h3 i ln q=> ?_⟩
  .rcases cs i ln with rfl|rfl|⟨t,D⟩
   .rw[es,kr]at J;rcases J with q|q
    .exact ahL H.C q
    .exact L.gS 0 gJ a<|Á q
   .rw[e0,my]at J;rcases J with q|q
    .exact L.gS 0 gJ a<|À q.1
    .exact L.gS 0 gJ a<|Á q
   .rw[en i t Z]at J;exact L.gS i D a J
  .rw[np]at t;rw[e0,my];exact⟨L.o y Z D a J,λq=>ahK H.C Z q J⟩
  .rw[e0,my];exact⟨f1,λb hb=>Á<|f2 b hb⟩
  .have AR:=t;by_cases e:m=0
   .have c:F.L=f.size:=Z
    rw[c,es,kr];exact⟨by show lR F m _;unfold lR;rw[if_pos e];exact⟨k,Z,D,À U⟩,by show lR F m _;unfold lR;rw[if_pos e];exact⟨k,Z,D,Á U⟩⟩
   .rw[en F.L Z Z];exact L.e Z k AR D
  .by_cases e:m=0
   .have c:F.L=f.size:=Z
    rw[c,es,kr];show(o 0).N (jf F.toFx E.S.md)/\∀b,E.V E.S.md b->X b\/(o 0).I b;rw[p.C.J Z];show(o 0).N (jf F.toFx 0)/\∀b,E.V 0 b->X b\/(o 0).I b;rw[p.C.v];exact⟨f1,λb hb=>Á<|f2 b hb⟩
   .rw[en F.L Z Z];exact L.f Z D
  .rw[np]at t;by_cases e:l+1=m
   .have c:F.L+1+l=f.size:=Z
    rw[c,es,kr];show lR F m _;unfold lR;rw[if_neg Z];exact⟨_,h3,by rw[Ĕ,ń Z];omega,U⟩
   .rw[en _ Z Z];exact L.h l Z D r h3 h4
  .rw[np]at t;by_cases e:l+1=m
   .have c:F.L+1+l=f.size:=Z
    rw[c,es,kr];exact⟨f1,λb hb=>Á<|f2 b hb⟩
   .rw[en _ Z Z];exact L.l l Z D
  .have:=ahR y s;rw[en _ Z Z];exact L.S y s
  .rcases ln with rfl|⟨y,t,rfl,h3⟩
   .rwa[e0,my]
   .rw[np]at t;by_cases e:y=m
    .subst e;rw[<-jr,es,kr];exact λq=>q
    .rw[en _ Z Z];exact L.M _<|Á ⟨y,Z,U,h3⟩
  .rw[en i Z Z];exact L.c i t D
  .obtain⟨b1,b2,c⟩:=L.I k hk b hb;refine⟨b1,λq=> ?_,λi ln q=> ?_⟩
   .rcases Yd b q with q|⟨t,rfl⟩
    .exact b2 q
    .exact c 0 gJ (AZ t).1
   .rcases cs i ln with rfl|rfl|⟨t,D⟩
    .rwa[es,kr]at q
    .rw[e0,my]at q;exact c 0 gJ q.1
    .rw[en i t Z]at q;exact c i D q
  .obtain⟨c,a1,a2⟩:=QD i ln _ q;exact L.N k hk c a1 a2
  .obtain⟨c,a1,a2⟩:=QD i ln _ q;exact L.g k t D c a1 a2
  .rw[np]at t;have oH:r<(E.C l).kA:=h3;obtain⟨c,a1,a2⟩:=QD i ln _ q;by_cases e:l+1=m
   .rw[wT l Z]at oH;simp only[gM.kA]at oH;omega
   .exact L.d l Z r D oH c a1 a2
 .have c:=p.M;refine⟨c.C,c.I,λl t=> ?_,c.M,c.S,λl t r D h3=> ?_⟩
  .rw[np]at t;show∃buf s,w.heap[E.I l]?=Ã (.chan F.q buf (decide<|l<(vn F m).je F.n) s (E.C l).iK É)/\tN F.n l ((vn F m).mq F.q) s/\(E.C l).iK<=s/\buf.size=s-(E.C l).iK/\∀i,i<s-(E.C l).iK->buf[i]?=Ã (F.c<|l+((E.C l).iK+i)*F.n);rw[<-tY,hmh,Qz];by_cases e:l+1=m
   .rw[wT l Z];obtain⟨a1,a2,a3,a4⟩:=AZ Z;rw[show m-1=l by omega]at a3;refine⟨#[],0,by rw[a3];rfl,λi=>⟨λq=>by omega,λq=>by omega⟩,Æ _,U,λi ln=> ?_⟩;simp only[gM.iK]at ln;omega
   .have:=c.jG l Z;rwa[hx]at this
  .rw[np]at t;have oH:r<(E.C l).kA:=h3;by_cases e:l+1=m
   .rw[wT l Z]at oH;simp only[gM.kA]at oH;omega
   .exact c.N l Z r D oH
 .have h:=p.C;have eo:(yM E m).G=E.G:=by
   funext y;have t:(yM E m).M.ad F.n=E.M.ad F.n:=by show(vn F m).ad F.n=_;rw[<-tY,ahP,hx];rfl
   unfold fS.G;rw[t];rfl
  have QF:(yM E m).M.gE=E.M.gE:=by show(vn F m).gE=_;rw[<-tY,hmr,hx];rfl
  have emp:(yM E m).M=m':=tY.symm;refine⟨h.v,λl q=> ?_,λl q=> ?_,λr=>⟨λq=> ?_,λq=> ?_⟩,λq=>by omega,h.I,λl q=>h.z l Z,λl r ua pP=> ?_,λl ua pP=> ?_,h.f,λy q=>h.h y Z,λl j3 ua pP q3'=> ?_,λl q=> ?_,λc reg hc=> ?_,λreg hc=> ?_,λr s hc=> ?_,h.N,λq=> ?_,h.e,h.Y,λl r ua pP=> ?_,λl r ua pP=> ?_,λq=> ?_,λ_ _=>h.S (λv q=>by rw[hx]at q;cases q) (λq=>by rw[hx]at q;cases q),h.y,λl r ua pP=> ?_⟩
  .rw[emp]at q;rcases tZ with⟨_,rfl⟩|⟨_,rfl⟩<;>rcases q with q|q|q|q<;>cases q;omega
  .rw[emp]at q;rcases tZ with⟨_,rfl⟩|⟨_,rfl⟩<;>rcases q with q|q|q<;>cases q;omega
  .rw[emp]at q;rcases tZ with⟨_,rfl⟩|⟨_,rfl⟩<;>cases q;exact Æ _
  .rw[emp]at q;rcases tZ with⟨_,rfl⟩|⟨_,rfl⟩<;>cases q
  .rw[np]at ua;by_cases e:l+1=m
   .have oI:(∃p,E.C l=.fy r p)\/E.C l=.jH r\/E.C l=.nh r:=pP;rw[wT l Z]at oI;rcases oI with⟨_,q⟩|q|q<;>cases q
   .exact h.d l r Z pP
  .rw[np]at ua;have oI:E.N (l+1)≠Í:=pP;have:l+1<m:=ò λq=>oI<|h.h _ Z;obtain⟨a,_⟩:=h.l l Z oI;rw[hx]at a;simp only[fU.je]at a;omega
  .rw[np]at ua pP;have QG:E.I l=E.I j3:=q3';have key:∀a b,a+1=m->b+2<=E.r->E.I a=E.I b->False:=λa b J hb he=>by
    have t:=(AZ Z).1;rw[show m-1=a by omega,he]at t;exact C.I 0 gJ _ (À t)<|Á<|Á ⟨b,hb,U⟩
   by_cases e:l+1=m
   .by_cases e':j3+1=m
    .omega
    .exact(key l j3 e Z QG).elim
   .by_cases e':j3+1=m
    .exact(key j3 l e' Z QG.symm).elim
    .exact h.M l j3 Z Z QG
  .rw[np]at q;show¬F.M (E.I l)/\E.I l≠F.Y/\F.S<=E.I l;by_cases e:l+1=m
   .obtain⟨a1,_,_,a4⟩:=AZ Z;rw[show m-1=l by omega]at a1 a4;have Yf:=C.I 0 gJ _<|À a1;exact⟨λq=>Yf<|À q,λq=>Yf<|Á<|À q,a4⟩
   .exact h.o l Z
  .rw[eo,QF];exact h.t c reg hc
  .rw[eo,QF];obtain⟨a1,a2,y,a3,a4⟩:=h.g reg hc;exact⟨a1,a2,y,Z,a4⟩
  .rw[eo,QF];obtain⟨a1,a2,a3⟩:=h.u r s hc;refine⟨a1,a2,λhr=> ?_⟩;obtain⟨y,b1,b2⟩:=a3 hr;exact⟨y,Z,b2⟩
  .rw[emp]at q;rcases q with q|q|q
   .exact absurd q<|HF.1 _
   .exact absurd q<|HF.1 _
   .exact absurd q HF.2
  .rw[np]at ua;by_cases e:l+1=m
   .have oI:E.C l=.fy r .gy\/E.C l=.fy r .kY\/E.C l=.jH r:=pP;rw[wT l Z]at oI;rcases oI with q|q|q<;>cases q
   .exact h.w l r Z pP
  .rw[np]at ua;by_cases e:l+1=m
   .have oI:E.C l=.fy r .gy:=pP;rw[wT l Z]at oI;cases oI
   .exact h.H l r Z pP
  .rw[emp]at q;exact absurd q<|HF.1 _
  .rw[np]at ua;by_cases e:l+1=m
   .have oI:E.C l=.fy r .wr:=pP;rw[wT l Z]at oI;cases oI
   .exact h.D l r Z pP
 .rw[np];have c:=p.d;rw[oB]at c;rw[jr]at Ln Lp AX;exact c.Hc Ln Lp oG AX (λ⟨e,t,_⟩=>by rw[Lh]at t;cases t) λy ⟨e,t,_⟩=>ò λq=>by rw[p.C.h y Z]at t;cases t
 .have r:=iM hk;rcases cs k Z with rfl|rfl|⟨k1,k2⟩
  .rw[q4]at hk;obtain rfl:=È hk;rw[Aq]at hb;cases hb
  .rw[q3]at hk;obtain rfl:=È hk;rw[Yb]at hb;cases hb
  .rw[q5 k k1 k2]at hk;rcases p.c k z hk hb with⟨t,_⟩|⟨l,s,c,D,h3⟩
   .exact absurd t k1
   .exact Á ⟨l,Z,c,D,h3⟩
 .rw[np]at a1;by_cases e:l+1=m
  .have oI:E.C l=.jH r2:=a2;rw[wT l Z]at oI;cases oI
  .exact(p.f l r2 Z a2 a3).app _
end
section
variable{F:Ph}{E E':fS F}{S:Nat->Jd}{tr o:Nat->gu}{m:Nat->iw}{lot:Nat->fc}{gs gs':Array Ä}{w':Ð}{t u:ä}{sl:Option (Nat×Nat)}{sz:Nat}
def PI.at(H:gR F)(p:PI F i zX E S tr m lot gs w t)(d:Nat):PI F i zX E S tr m lot gs (w.at d) t:= ⟨p.b,p.I.at d,p.h,p.m,p.g,p.k,p.l,p.a.EB<|Æ _,⟨⟨p.M.C.C,p.M.C.M,p.M.C.I,p.M.C.N,p.M.C.r⟩,λk a=>⟨(p.M.I k a).C,(p.M.I k a).M,(p.M.I k a).I,(p.M.I k a).N,(p.M.I k a).r⟩,p.M.jG,λk a=>⟨(p.M.M k a).1,H.S _ _ _ _ _ (p.M.M k a).2 (λ_ _=>rfl) U U U ⟨U,U⟩⟩,p.M.S,p.M.N⟩,p.C,p.d,p.c,p.f⟩
def Go1(F:Ph)(i:Nat)(zX:ψ->Prop)(gs:Array Ä)(w:Ð)(t:ä)(sl:Option (Nat×Nat))(a:Nat):Prop:=
 ∃(E':fS F) (b:Nat->Jd) (o:Nat->gu) (c:Nat->iw) (d:Nat->fc) (gs':Array Ä) (w':Ð) (u:ä),ř F.P (ñ gs w sl) a=(Ğ<|ñ gs' w' sl,u)/\gs'.size=gs.size+1/\E'.M≠ .gd/\PI F i zX E' b o c d gs' w' (t++u)
def ahS(F:Ph)(i:Nat)(zX:ψ->Prop)(gs:Array Ä)(w:Ð)(t:ä)(sl:Option (Nat×Nat))(a:Nat):Prop:=
 ∃(E':fS F) (b:Nat->Jd) (o:Nat->gu) (c:Nat->iw) (d:Nat->fc) (gs':Array Ä) (w':Ð) (u:ä),ř F.P (ñ gs w sl) a=(Ğ<|ñ gs' w' sl,u)/\gs'.size=gs.size/\PI F i zX E' b o c d gs' w' (t++u)/\E'.M=.gd/\Lm F zX (t++u)
def PI.ahT(H:gR F)(p:PI F i zX E S tr m lot gs w t)(l:E.M≠ .gd)(a:gs[n]?=Ã g)(c:g.status=Å):jY F i zX E tr gs w t sl n\/rA F i zX E tr gs w t\/Go1 F i zX gs w t sl n\/ahS F i zX gs w t sl n:=by
 have z:=iM a;have B:=p.b;cases b:tr n with
 |jv k=>
  obtain⟨gs',w',u,o,e,d,f,j,q⟩:=p.fp H a b;exact À ⟨E,S,o,m,e,gs',w',u,d,f,λh=>h,j,q⟩
 |fA=>
  by_cases s:n=0
  .subst s;cases h:E.M with
   |go j=>exact Á<|Á<|À<|p.ahM H a c b h
   |lC j=>exact Á<|À<|p.ahp H a c b h
   |rd j=>exact À<|p.ahq H a c b h
   |iE j=>exact À<|p.ahs H a c b h
   |iI r=>cases r with
    |zero=>exact Á<|À<|p.aht H a c b h
    |succ r=>exact À<|p.ahE H a c b h
   |kS r=>cases r with
    |zero=>exact Á<|À<|p.ahu H a c b h
    |succ r=>exact À<|p.ahG H a b h
   |fy v=>cases v with
    |iW=>exact Á<|À<|p.ahv H a c b h
    |lW q=>exact À<|p.ahw H a c b h
    |wr=>exact À<|p.ahx H a c b h
    |ky=>exact À<|p.ahz H a c b h
    |gy=>exact À<|p.ahy H a c b h
    |kY=>exact Á<|Á<|Á<|p.ahI H a c b h
   |gd=>exact absurd h l
  by_cases y:n<F.L
  .exact À<|p.ahn H Z y a c
  obtain⟨x,rfl⟩:∃x,n=F.L+x:=⟨n-F.L,Z⟩;have f:x<E.r:=Z
  cases d:E.N x with
  |some e=>cases e with
   |oD=>exact Á<|À<|p.ag1 H f d a c b
   |gd v=>cases v with
    |jD=>exact À<|p.ag4 H f d a c b
    |iE=>exact À<|p.ag8 H f d a c b
    |gy W=>exact À<|p.ag9 H f d a c b
    |ja W=>exact À<|p.aha H f d a c b
    |iy r=>exact À<|p.ahb H f d a c b
   |jo N=>exact À<|p.ahm H f d a c
  |none=>cases x with
   |zero=>
    rw[ô]at a b|-;cases h:E.S with
    |kK k=>exact Á<|À<|p.ahd H f d a c b h
    |mk k=>exact Á<|À<|p.ahg H f d a c b h
    |dn k v=>cases v with
     |jD=>exact À<|p.ahh H f d a c b h
     |iE=>exact À<|p.ahi H f d a c b h
     |gy W=>exact À<|p.ahj H f d a c b h
     |ja W=>exact À<|p.ahk H f d a c b h
     |iy r=>exact À<|p.ahl H f d a c b h
   |succ j=>
    rw[show F.L+(j+1)=F.L+1+j by omega]at a b|-;have e:j+2<=E.r:=Z
    cases h:E.C j with
    |nj r=>exact À<|p.agZ H e d a c b h
    |fy r v=>cases v with
     |iW=>exact Á<|À<|p.agI H e d a c b h
     |lW q=>exact À<|p.agJ H e d a c b h
     |wr=>exact À<|p.agL H e d a c b h
     |ky=>exact À<|p.agO H e d a c b h
     |gy=>exact À<|p.agM H e d a c b h
     |kY=>exact À<|p.agN H e d a c b h
    |jH r=>exact Á<|À<|p.agQ H e d a c b h
    |nh r=>exact Á<|À<|p.agR H e d a c b h
def ahU{J:Jd}{T:gu}{l:fc}(a:∀l g,J l g->g.status=Å)(h:kX P yQ J T l g):g.status=Å:=by
 cases T with
 |fA=>exact a _ _<|h _<|fI.fT _ _
 |jv k=>exact h.1
def gL.Y{Y:Nat->Prop}(c:gL P n Y S tr m lot gs w t)(d:gs[i]?=Ã g)(e:∀l g,S i l g->g.status=Å)(a:g.status≠Ý):g.status=Å:=by
 let⟨g0,f,b,_,_⟩:=c.C i g d;generalize m i=K at b;cases b with
 |gk=>exact ahU e f
 |nP _ _=>exact absurd U a
 |tK _ _ _=>exact absurd U a
 |ni _ _ _=>rfl
def Yg{J:Jd}{p:jF}(a:∀r,p=.iy r->0<r){l:fc}(h:El P yQ b J p l g):g.status=Å:=by
 cases p with
 |jD=>exact h.2.1
 |iE=>exact h.2.1
 |gy W=>exact h.2.1
 |ja W=>exact h.2.1
 |iy r=>cases r with
  |zero=>exact absurd (a 0 U) Z
  |succ r=>exact h.2.1
def QH{J:Jd}{p:jq}{l:fc}(h:qH P yQ i b J p l g):g.status=Å:=by
 cases p with
 |iW=>let⟨k,_,_,T,a,c⟩:=h;exact(c _ _ a).1
 |lW p=>let⟨_,T,a,c⟩:=h;exact(c _ _ a).1
 |wr=>exact h.2.1
 |ky=>exact h.2.1
 |gy=>exact h.2.1
 |kY=>exact h.2.1
def Yh{l:fc}(h:Aw F D i l g):g.status=Å:=by
 cases i with
 |zero=>exact QH h
 |succ i=>exact h.1
def ahV(H:gR F){x:fU}{l:fc}(h:JM F D x l g):g.status=Å:=by
 cases x with
 |go j=>exact H.I _ _ _ _ h
 |lC j=>let⟨c,h⟩:=h;exact H.I _ _ _ _ h
 |rd j=>exact h.2.1
 |iE j=>exact h.2.1
 |iI r=>cases r with
  |zero=>exact Yh h
  |succ r=>exact h.1
 |kS r=>exact Yh h
 |fy v=>exact QH h
 |gd=>exact H.M _ _ _ h
def PI.Gx(p:PI F i zX E S tr m lot gs w t){x:Nat}(a:x<E.r):∃g,gs[F.L+x]?=Ã g:=by have:=p.b;simp_all
def PI.HJ(H:gR F)(p:PI F i zX E S tr m lot gs w t)(d:0<E.r)(e:E.N 0=Í):∃(a:Nat) (g:Ä),gs[a]?=Ã g/\g.status=Å:=by
 have n:=H.C.r;let⟨g,c⟩:=p.Gx d;rw[ô]at c;refine⟨F.L,g,c,p.I.Y c (λl g h=> ?_) λl=> ?_⟩
 .rw[(p.m d e).1]at h;cases j:E.S with
  |kK k=>rw[j]at h;exact H.N _ _ _ h
  |mk k=>rw[j]at h;let⟨a,V,_,_,_,_,h⟩:=h;exact h.2.1
  |dn k v=>
   rw[j]at h;refine Yg (λr V=> ?_) h;subst V;let⟨_,_,r⟩:=p.C.I k;let⟨a,b⟩:=r _ j;rcases p.C.Y k b (by rw[j];exact Æ _)with⟨W,q|q,_⟩|⟨o,s,q,f,_⟩|⟨q,_⟩
   .rw[j]at q;cases q
   .rw[j]at q;cases q
   .rw[j]at q;cases q;exact f
   .exact absurd j<|q _
 .rcases p.c _ g c l with⟨q,_⟩|⟨j,_,_,q,_⟩<;>omega
theorem PI.Lq(H:gR F)(p:PI F i zX E S tr m lot gs w t){x:Nat}{e:ig}(b:x<E.r)(c:E.N x=Ã e)(d:∀N,e≠ .jo N):∃(h:Nat) (g:Ä),gs[h]?=Ã g/\g.status=Å:=by
 have f:=H.C.r;let⟨g,a⟩:=p.Gx b;refine⟨F.L+x,g,a,p.I.Y a (λl g h=> ?_) λl=> ?_⟩
 .rw[(p.k x e b c).1]at h;cases e with
  |oD=>exact h.2.1
  |gd v=>exact Yg (λr j=>by subst j;exact((p.C.N x _ c).2 r U).1) h
  |jo N=>exact absurd U<|d N
 .rcases p.c _ g a l with⟨q,_⟩|⟨j,_,h,q,_⟩;all_goals grind
def Yi{f:Nat->Nat}:∀{n:Nat},0<Ñ n f->∃i,i<n/\0<f i
 |0,h=>absurd h<|Nat.lt_irrefl _
 |n+1,h=>by
  simp only[Ñ]at h;by_cases q:0<f n
  .exact⟨n,Z,q⟩
  .let⟨i,b,a⟩:=Yi (f:=f) (n:=n) Z;exact⟨i,Z,a⟩
theorem PI.ahW(H:gR F)(p:PI F i zX E S tr m lot gs w t):∃(l:Nat) (g:Ä),gs[l]?=Ã g/\g.status=Å:=by
 have hL:=H.C.r;have jr:=p.b;obtain⟨g,D⟩:∃g,gs[0]?=Ã g:=⟨_,ê Z⟩;by_cases P:g.status=Ý
 .rcases p.c 0 g D P with⟨_,u,Q⟩|⟨j,_,_,q,_⟩
  .have oB:E.r=F.n+1:=by unfold fS.r;rw[u];rfl
   have had:E.M.ad F.n=F.n+1:=by rw[u];rfl
   have QI:E.M.gE=1:=by rw[u];rfl
   have T:=p.M.C.r;cases o:E.b with
   |cl c G=>
    let⟨h1,h2⟩:=p.C.t c G o;rw[o]at T;let⟨_,_,V⟩:=T;have X:0<c:=by grind
    rw[h1]at X;let⟨x,d,y⟩:=Yi X;unfold fS.G at y;rw[had,if_pos d]at y;cases z:E.N x with
    |some e=>
     rw[z]at y;exact p.Lq H Z z λN q=>by subst q;simp[lX,ig.kL]at y
    |none=>cases x with
     |zero=>exact p.HJ H Z z
     |succ j=>
      let⟨I,B⟩:=p.Gx (x:=j+1) Z;rw[show F.L+(j+1)=F.L+1+j by omega]at B;have J:j+2<=E.r:=Z
      by_cases Y:I.status=Ý
      .rcases p.c _ I B Y with⟨q,_⟩|⟨a,_,_,q,⟨r,b,C⟩|⟨r,cap,s,r',b,C⟩⟩
       .omega
       .have:a=j:=Z
        subst this;have XP:=H.C.I _<|p.C.d a r J<|À ⟨_,b⟩;have Xu:1<=Ñ F.n λl=>(E.C l).gE F l (F.r<|a+r*F.n):=by
         have:=P4 (f:=λl=>(E.C l).gE F l<|F.r<|a+r*F.n) (j:=a) (n:=F.n) Z;simp only[b]at this;have h:gM.gE F a (F.r<|a+r*F.n) (.fy r .ky)=1:=by simp only[gM.gE,if_true];rfl
         grind
        by_cases K:F.r (a+r*F.n)<=E.S.od
        .have M:∀k v,E.S=.dn k v->E.N 0=Í:=λk v h=>by
          cases O:E.N 0 with
          |none=>rfl
          |some e=>have:=p.C.f (by rw[O];simp);rw[this]at h;cases h
         rcases p.C.Y _ XP K with⟨W,q|q,_⟩|⟨r',s,q,_⟩|⟨_,⟨_,q⟩|⟨s,q1,q2⟩⟩
         .exact p.HJ H Z<|M _ _ q
         .exact p.HJ H Z<|M _ _ q
         .exact p.HJ H Z<|M _ _ q
         .omega
         .rw[q1]at C;simp only[GS.sm]at C;omega
        .apply p.HJ H Z;cases O:E.N 0 with
         |none=>rfl
         |some e=>
          have:=p.C.f (by rw[O];simp);rw[this]at K;simp only[jx.od]at K;omega
       .have:a=j:=Z
        subst this;let⟨e,k,l,_⟩:=p.M.jG a J;rw[C,u]at l;injection l with l;injection l with _ _ AB _ _ _;have:decide (a<(fU.fy .ky).je F.n)=Î:=decide_eq_true (by simp only[fU.je];omega);rw[this]at AB;cases AB
      .refine⟨_,I,B,p.I.Y B (λl g h=> ?_) Y⟩;rw[(p.g j J z).1]at h;cases a:E.C j with
       |nj r=>rw[a]at h;exact h.1
       |fy r v=>rw[a]at h;exact QH h
       |jH r=>rw[a]at h;exact H.Y _ _ _ _ h
       |nh r=>rw[a]at h;exact h.2.1
   |jE G=>
    let⟨_,_,x,d,_,b⟩:=p.C.g G o;rcases b with b|b
    .exact p.Lq H d b λN q=>by cases q
    .exact p.Lq H d b λN q=>by cases q
   |gV r s=>
    let⟨_,h2,V⟩:=p.C.u r s o;rw[o]at Q;simp only[GS.sm]at Q;let⟨x,d,_,b⟩:=V Z;exact p.Lq H d b λN q=>by cases q
  .omega
 .refine⟨0,g,D,p.I.Y D (λl g h=> ?_) P⟩;rw[p.h.1]at h;exact ahV H h
def PI.Lr(p:PI F i zX E S tr m lot gs w t):∀g∈gs,awake g:=by
 intro g e;obtain⟨a,f,rfl⟩:=Array.mem_iff_getElem.1 e;let⟨g0,_,c,d,_⟩:=p.I.C a _<|ê f;intro τ b;generalize gs[a]=g at c b;generalize m a=K at c;cases c with
 |gk=>rw[b]at d;rcases d with q|q<;>cases q
 |nP _ _=>cases b
 |tK _ _ _=>cases b
 |ni _ _ _=>cases b
def ahX(H:gR F):∀(k:Nat) (μ:Mu) (E:fS F) (S:Nat->Jd) (tr:Nat->gu) (m:Nat->iw) (lot:Nat->fc) (gs:Array Ä) (w:Ð) (sl:Option (Nat×Nat)) (t:ä),F.n+1-E.r=k->E.mu tr gs=μ->PI F i zX E S tr m lot gs w t->E.M≠ .gd-> ∃(N:Nat) (E':fS F) (b:Nat->Jd) (o:Nat->gu) (c:Nat->iw) (d:Nat->fc) (gs':Array Ä) (w':Ð) (r:Option (Nat×Nat)) (a:ä),ν F.P N (ñ gs w sl) t=(Ğ<|ñ gs' w' r,a)/\PI F i zX E' b o c d gs' w' a/\E'.M=.gd/\Lm F zX a:=by
 intro k
 induction k using Đ with
 |_ k ihk=>
  intro μ
  induction (agt F.N).apply μ with
  |intro μ _ V=>
   intro E S tr m lot gs w sl t hk W p z;let⟨a,g,d,r,hi,iH,B⟩:=crowd_pick (P:=F.P) (w:=w) (sl:=sl) p.Lr<|p.ahW H;have p':=p.at H d;have jr:=p.b;rcases p'.ahT H (sl:=r) z hi iH with⟨c,e,f,h,j,s,v,u,x,X,l,b,y⟩|⟨c,e,f,h,j,l,b,y⟩|⟨c,e,f,h,j,s,v,u,x,X,l,b⟩|⟨c,e,f,h,j,s,v,u,x,X,l,b,y⟩
   .have Y:=b.b;let⟨N,C,D,G,I,J,K,L,M,O,Q,T⟩:=V _ (W▸y) c e f h j s v r (t++u) Z U b λq=>z<|l q;exact⟨N+1,C,D,G,I,J,K,L,M,O,by simp only[ν,B,x];exact Q,T⟩
   .have Y:=b.b;have h6:=b.at H w.drawn;exact V _ (W▸y) c e f h j gs w sl t Z U h6 λq=>z<|l q
   .have Y:=b.b;have q:=Es b.C;let⟨N,C,D,G,I,J,K,L,M,O,Q,T⟩:=ihk (F.n+1-c.r) Z _ c e f h j s v r (t++u) U U b l;exact⟨N+1,C,D,G,I,J,K,L,M,O,by simp only[ν,B,x];exact Q,T⟩
   .exact⟨1,c,e,f,h,j,s,v,r,t++u,by simp only[ν,B,x],l,b,y⟩
end
end Go.Proofs.Y.fu
namespace Go.Proofs.Y.fu
open Go Go.Conc Go.Proofs.Y.Lift Go.RowKit Go.Conc.Lib Go.ConcR.Gen
section
variable{J:Jd}{l:fc}
def QJ(w:Ð)(b:∀j,l.O j->j<w.heap.size):mo l {l with w:=w} w w #[]:= ⟨Æ _,λ_ h=>À h,b,U,U,U,U,λ_ _ _ _=>rfl,λ_ _ _ _=>rfl,λ_ _ _=>rfl,U,U,U,λe a=>by simp at a,by simp[Ï],U,λ_=>⟨U,λe a=>by simp at a,U⟩,U⟩
def mA(a:∀j,l.O j->j<l.w.heap.size){w₁:Ð}(r:fI l l.w w₁):∀j,l.O j->j<w₁.heap.size:=λj b=>Ê (a j b) r.r
def QK{R:Ð->Ð->Prop}{m:Ä->Ð->Prop}:∀{n:Nat} {g:Ä} {l:fc},ĵ P yQ R á m n g l.w->(∀w c,fI l w c->R w c)->(∀j,l.O j->j<l.w.heap.size)->(∀c d,fI l l.w c->m d c->fh P yQ J {l with w:=c} d)->fh P yQ J l g:=by
 intro n
 induction n with
 |zero=>
  intro g l h j i e;exact(fh.fA λc r=>e c g r<|h c<|j _ _ r).ff
 |succ n p=>
  intro g l h j i e;rcases h with h|⟨s,h⟩
  .exact(fh.fA λc r=>e c g r<|h c<|j _ _ r).ff
  .refine .mk s λc r=> ?_;have f:=h c<|j _ _ r;cases o:é P yQ g c with
   |go d k y=>
    rw[o,Ű]at f;let⟨⟨t,u⟩,v⟩:=f;subst t u;exact⟨d,k,#[],{l with w:=k},U,QJ k<|mA i r,p v (λa b q=>j a b<|yJ q) (mA i r) λa b q x=>e a b (r.ff<|yJ q) x⟩
   |_=>rw[o]at f;exact f.elim
def ahY{m:ε}(b:m=õ\/m=ï)(w:Ð)(c:∀j,l.O j->j<w.heap.size):mo l {l with d:=Ï l.d #[jw m],w:=w} w w #[jw m]:=by
 refine⟨Æ _,λ_ h=>À h,c,U,U,U,U,λ_ _ _ _=>rfl,λ_ _ _ _=>rfl,λ_ _ _=>rfl,U,U,U,λe a=> ?_,U,U,λ_=>⟨U,λe a=> ?_,U⟩,U⟩
 .have:e=jw m:=by simpa using a
  subst this;rcases b with rfl|rfl
  .exact Á<|Á<|Á<|À U
  .exact Á<|Á<|Á<|Á<|À U
 .have:e=jw m:=by simpa using a
  subst this;rcases b with rfl|rfl<;>rfl
def fh.ahZ{m:ε}{b:Ä}(c:m=õ\/m=ï)(e:g.status=Å)(f:∀j,l.O j->j<l.w.heap.size)(h:∀a,é P yQ g a=ũ b a #[jw m])(i:∀a,fI l l.w a->fh P yQ J {l with d:=Ï l.d #[jw m],w:=a} b):fh P yQ J l g:= .mk e λa r=>⟨b,a,_,_,h a,ahY c a<|mA f r,i a r⟩
def mN(b:Nat)(w:Ð):Prop:=(w.cell? ⟨b,0,Í⟩).isSome=Î/\(w.cell? ⟨b,1,Í⟩).isSome=Î
def mN.r(h:mN b w):∃v,w.cell? ⟨b,0,Í⟩=Ã v:=ì.1 h.1
def mN.C(h:mN b w):∃v,w.cell? ⟨b,1,Í⟩=Ã v:=ì.1 h.2
def RS(Ψ:Ð->Prop)(b:Nat)(w a:Ð):Prop:=w.heap.size<=a.heap.size/\(mN b w->mN b a)/\(Ψ w->Ψ a)
def SW(Ψ:Ð->Prop)(l:fc)(b:Nat)(w:Ð):Prop:=(∀j,l.O j->j<w.heap.size)/\mN b w/\Ψ w
def fB{Ψ:Ð->Prop}(h:SW Ψ l b w)(r:RS Ψ b w u):SW Ψ l b u:=⟨λj a=>Ê (h.1 j a) r.1,r.2.1 h.2.1,r.2.2 h.2.2⟩
def lY(Ψ:Ð->Prop)(l:fc)(b:Nat):Prop:=(l.K ⟨b,0,Í⟩\/l.M b)/\(l.K ⟨b,1,Í⟩\/l.M b)/\∀w c:Ð,w.heap.size<=c.heap.size->(∀j,l.M j->c.heap[j]?=w.heap[j]?)->(∀a,l.C a->c.cell? a=w.cell? a)->(∀a,l.C a->c.frozen? a=w.frozen? a)->(∀a,l.K a->(w.cell? a).isSome=Î->(c.cell? a).isSome=Î)->Ψ w->Ψ c
def lY.r{Ψ:Ð->Prop}(h:lY Ψ l b)(r:fI l w u):RS Ψ b w u:=⟨r.r,λq=>⟨h.1.elim (λk=>r.S _ k q.1) λm=>(by rw[gK<|r.I b m];exact q.1),h.2.1.elim (λk=>r.S _ k q.2) λm=>(by rw[gK<|r.I b m];exact q.2)⟩,h.2.2 w u r.r r.I r.N r.Y r.S⟩
def iX{Ψ:Ð->Prop}(a:lY Ψ l b)(hF:SW Ψ l b l.w)(c:ĵ P yQ (RS Ψ b) á (λd e=>fh P yQ J {l with w:=e} d) n g l.w):fh P yQ J l g:= QK c (λ_ _ r=>a.r r) hF.1 λ_ _ _ h=>h
def mB{Ψ:Ð->Prop}(c:lY Ψ l b)(hF:SW Ψ l b l.w)(h:∀a,SW Ψ l b a->J {l with w:=a} g):fh P yQ J l g:=.fA λa r=>h a<|fB hF<|c.r r
def rD{Ψ:Ð->Prop}(e:lY Ψ l b)(hF:SW Ψ l b l.w){m:ε}{c:Ä}(f:m=õ\/m=ï)(i:g.status=Å)(h:∀a,é P yQ g a=ũ c a #[jw m])(j:∀a,SW Ψ l b a->fh P yQ J {l with d:=Ï l.d #[jw m],w:=a} c):fh P yQ J l g:= .ahZ f i hF.1 h λa r=>j a<|fB hF<|e.r r
end
section
variable{b:ü}{i:List ŷ}
def EI(m:ε)(c:∀g,m≠.extern g)(d:y.defers=dcall F #[]::i)(e:P.funcs[F]?=Ã s)(f:(s.name== "runtime.NumGoroutine")=É)(j:s.body.isNone=Î)(k:Extern.findNext s=Í) (l:Extern.find s=Ã λ_=>do mark m;pure Extern.Race.none_) (w:Ð):é P yQ (G {b.at y L with mode:=ú} qX) w=ũ (G {b.at ⟨y.tmps,i⟩ L with mode:=ú} qX) w #[jw m]:= stepG_unwind_entry (v:=Ņ #[]) d e f j k l (by simp[Extern.Race.none_,jw]) (by simp[jw])<|by intro x a;simp[jw]at a;subst a;exact⟨U,λg h=>c g<|Loc.mark.inj h⟩
end
theorem Yj(s:Nat)(h:s%4294967296<2147483648):s&&&2147483648=0:=by
 have e:(2147483648:Nat)=(2^32-1)&&&2147483648:=A
 have a:(2:Nat)^32=4294967296:=A
 rw[e,<-Nat.and_assoc,Ć,a];have c:s%4294967296=(s%4294967296)&&&(2^31-1):=by rw[Ć];have b:(2:Nat)^31=2147483648:=A;rw[b];omega
 grind
def EJ(s:Int)(a:0<=s)(b:s<1000000*4294967296)(h:s%4294967296<1000000):bits .and Ó s 2147483648=0:=by obtain⟨n,rfl⟩:=Int.eq_ofNat_of_zero_le a;have h:=(bits_nat Ó 63 A ø n 2147483648 Z A).1;rw[Yj n Z]at h;simpa using h
theorem EK(s:Int)(a:0<=s)(b:s<1000000*4294967296)(h:s%4294967296<1000000):bits .and Ó s 2147483647=s%4294967296:=by have h:=bits_mask Ó 63 A ø 31 A s a Z;grind
section
variable{b:ü}{a:Ř}{k:List ŵ}{cs:List ü}{d:Nat}
def pQ(P:ĝ)(d:Nat)(g:Ä):Prop:=∃N,ſ P N d g
def EL(P:ĝ):Jd:=λl g=>pQ P l.d g
def Ls{a:Ä}(b:g.status=Å)(h:∀w,é P É g w=ũ a w)(c:pQ P d a):pQ P d g:=let⟨n,q⟩:=c;⟨n+1,.ctl b h q⟩
def atV(f:Q[i]?=Ã o)(g:â o (Ĥ Q a.tmps)=Î)(j:b.kind≠Ē) (h:∀(w:Ð) (K:Ř->Ð->Prop),K y w->uponK o a K ((ß a.eval o).run P w)) (n:∀w,(ß a.eval o).events P w #[]=#[]) (p:pQ P d (G (b.at y<|Ç Q jJ::k) cs)):pQ P d (G (b.at a<|Ç Q (i::jJ)::k) cs):=by
 refine Ls U (λw=> ?_) p;have e:=h w (λx c=>x=y/\c=w) ⟨U,U⟩;have l:listed P b.fn a o w=#[]:=by unfold listed;rw[n w,ć]
 revert e;generalize m:(ß a.eval o).run P w=r;intro e;match r,e with
 |.ok (.value v) w',⟨c,x⟩=>subst x;rw[Ŏ f g j m,l,c]
 |.ok .skip w',⟨c,x⟩=>subst x;rw[ş f g j m,l,c]
def HL:∀{n m d:Nat} {g:Ä},n<=m->ſ P n d g->ſ P m d g
 |0,0,_,_,_,h=>h
 |0,_+1,_,_,_,h=>À h
 |_+1,0,_,_,e,_=>absurd e Z
 |_+1,_+1,_,_,e,h=>h.imp id λ⟨a,b,c,f,i,j⟩=>⟨a,b,c,f,i,HL (Nat.le_of_succ_le_succ e) j⟩
def uf{n:Nat}{ops:Array Oper}{i:Nat}{rest:List Nat}{o:Oper}{a':Act}(hq:QuitsD P n d (G (b.at a'<|.inRegion ops rest::k) cs))(ho:ops[i]?=some o:=by rfl)(hw:Region.wanted o (yielded ops a.tmps)=true:=by rfl)(hk:b.kind≠.early:=by k_ne) (h:∀(w:World) (K:Act->World->Prop),K a' w->uponK o a K ((execOp a.eval o).run P w):=by intro w K hK;go_simp;(try w_num);exact hK) (he:∀w,(execOp a.eval o).events P w #[]=#[]:=by intro _;simp[go_sem, *]): QuitsD P (n+1) d (G (b.at a<|.inRegion ops (i::rest)::k) cs):=by
 refine QuitsD.ctl U (λw=> ?_) hq;have h1:=h w (λx y=>x=a'/\y=w) ⟨U,U⟩;have h2:listed P b.fn a o w=#[]:=by unfold listed;rw[he w,ć]
 revert h1;generalize hr:(ß a.eval o).run P w=r;intro h1;match r,h1 with
 |.ok (.value v) w',⟨e1,e2⟩=>subst e2;rw[Ŏ ho hw hk hr,h2,e1]
 |.ok .skip w',⟨e1,e2⟩=>subst e2;rw[ş ho hw hk hr,h2,e1]
end
section
variable{Ψ:Ð->Prop}{L:ņ}{b:Nat}{l:fc}{a:Ř}{ops:Array Ĺ}{rest:List Nat}{k:List ŵ}{cs:List ü}
def ah0(H:ŭ P L)(g:lY Ψ l b)(h:pQ P 0 (G (f.at (a.put ((ops[i]?).bind (·.dst))<|Ņ #[])<|Ç ops rest::k) cs)): ∀(r:Nat) (c:Int) (j m o p q s t u v x y z B C D E F I J K M N O Q S T V W X Y pR o6 o7 oJ oK pS pT pU pV pW pX pY pZ p6 nQ nR rE A1 A2 A3 A4 A5 A6 A7 A8 A9 Ba Bb Bc Bd Be Bf Bg Bh Bj Bl Bm Bn Bo Bp Bq Br Bs Bt Bu Bv Bw Bx By Bz BA BB BD BF BG BH BJ BK BL BM BN BO BP BQ BR BS BT BU BV BW BX BY BZ B1 B2 B3 B4 B5 B6 B7 B8 B9 Ca Cb:è) (e:Ð),SW Ψ l b e->(c<=(r:Int)+1/\(r:Int)+1<=c)->r+1<1000000-> fh P É (Ha P É b (EL P)<|r+1) {l with d:=1,w:=e} (G ((base L.add).at ⟨#[ù<|Ã ⟨b,0,Í⟩,j,m,o,p,q,s,t,æ å c,u,v,x,y,z,B,C,D,E,F,I,J,K,M,N,O,Q,S,T,V,W,X,Y,pR,o6,o7,oJ,oK,pS,pT,pU,pV,pW,pX,pY,pZ,p6,nQ,nR,rE,A1,A2,A3,A4,A5,A6,A7,A8,A9,Ba,Bb,Bc,Bd,Be,Bf,Bg,Bh,Bj,Bl,Bm,Bn,Bo,Bp,Bq,Br,Bs,Bt,Bu,Bv,Bw,Bx,By,Bz,BA,BB,BD,BF,BG,BH,BJ,BK,BL,BM,BN,BO,BP,BQ,BR,BS,BT,BU,BV,BW,BX,BY,BZ,B1,B2,B3,B4,B5,B6,B7,B8,B9,Ca,ù<|Ã ⟨b,1,Í⟩,Cb],[dcall L.enable #[]]⟩ [Ç #[{dst:=Ã 113,op:=Ľ<|Ô 0,type:=L.tWgP,pos:= "waitgroup.go:142",after:=#[],guard:=Í},{dst:=Ã 114,op:=Ÿ<|Ô 113,type:=0,pos:= "waitgroup.go:142",after:=#[{on:=0,ground:=à}],guard:=Í},{dst:=Ã 115,op:=ű L.tWg (Ô 114) 2,type:=0,pos:= "waitgroup.go:142",after:=#[{on:=1,ground:=à}],guard:=Í},{dst:=Ã 116,op:= Š {callee:=Ġ<|ľ L.semrelease,args:= #[Ô 115,í<|Δ É,í<|æ Ł 0],argTypes:=#[L.tPU32,4,3]},type:=0,pos:= "waitgroup.go:142",after:=#[{on:=2,ground:=à}],guard:=Í}] [3],Ś 2,ĸ<|Ģ 33 #[{dst:=Ã 111,op:=Ľ<|Ô 8,type:=L.tU32,pos:= "waitgroup.go:141",after:=#[],guard:=Í},{dst:=Ã 112,op:=Ź BinOp.sub L.tU32 (Ô 111) (í<|æ å 1) L.tU32,type:=L.tU32,pos:= "waitgroup.go:141",after:=#[{on:=0,ground:=à}],guard:=Í},{dst:=Ã 8,op:=η<|Ô 112,type:=L.tU32,pos:= "waitgroup.go:141",after:= #[{on:=1,ground:=à},{on:=0,ground:=ĥ},{on:=1,ground:=ĥ}],guard:=Í}] É,θ<|((Ģ 32 #[{dst:=Ã 109,op:=Ľ<|Ô 8,type:=L.tU32,pos:= "waitgroup.go:141",after:=#[],guard:=Í},{dst:=Ã 110,op:= Ź BinOp.neq L.tU32 (Ô 109) (í<|æ å 0) L.tU32,type:=4,pos:= "waitgroup.go:141",after:=#[{on:=0,ground:=à}],guard:=Í}] É).seq<|ι (Ô 110) χ<|Code.exit 1).seq<|(ο 2<|Ģ 34 #[{dst:=Ã 113,op:=Ľ<|Ô 0,type:=L.tWgP,pos:= "waitgroup.go:142",after:=#[],guard:=Í},{dst:=Ã 114,op:=Ÿ<|Ô 113,type:=0,pos:= "waitgroup.go:142",after:=#[{on:=0,ground:=à}],guard:=Í},{dst:=Ã 115,op:=ű L.tWg (Ô 114) 2,type:=0,pos:= "waitgroup.go:142",after:=#[{on:=1,ground:=à}],guard:=Í},{dst:=Ã 116,op:= Š {callee:=Ġ<|ľ L.semrelease,args:= #[Ô 115,í<|Δ É,í<|æ Ł 0],argTypes:=#[L.tPU32,4,3]},type:=0,pos:= "waitgroup.go:142",after:=#[{on:=2,ground:=à}],guard:=Í}] É).seq<|Ģ 33 #[{dst:=Ã 111,op:=Ľ<|Ô 8,type:=L.tU32,pos:= "waitgroup.go:141",after:=#[],guard:=Í},{dst:=Ã 112,op:= Ź BinOp.sub L.tU32 (Ô 111) (í<|æ å 1) L.tU32,type:=L.tU32,pos:= "waitgroup.go:141",after:=#[{on:=0,ground:=à}],guard:=Í},{dst:=Ã 8,op:=η<|Ô 112,type:=L.tU32,pos:= "waitgroup.go:141",after:= #[{on:=1,ground:=à},{on:=0,ground:=ĥ},{on:=1,ground:=ĥ}],guard:=Í}] É,Ś 1])<|(base L.done).at {tmps:= #[ù<|Ã {block:=b,off:=0},Â,ù<|Ã {block:=b,off:=0},Â],defers:=[]} [Ç #[{dst:=Ã 2,op:=Ľ<|Ô 0,type:=L.tWgP,pos:= "waitgroup.go:156",after:=#[],guard:=Í},{dst:=Ã 3,op:= Š {callee:=Ġ<|ľ L.add,args:=#[Ô 2,í<|æ Ł<|-1],argTypes:=#[L.tWgP,3]},type:=0,pos:= "waitgroup.go:156",after:=#[{on:=0,ground:=à}],guard:=Í}] [1]]::f.at a (Ç ops (i::rest)::k)::cs):=by
 intro r;lib_facts
 induction r with
 |zero=>
  intro c j m o p q s t u v x y z B C D E F I J K M N O Q S T V W X Y pR o6 o7 oJ oK pS pT pU pV pW pX pY pZ p6 nQ nR rE A1 A2 A3 A4 A5 A6 A7 A8 A9 Ba Bb Bc Bd Be Bf Bg Bh Bj Bl Bm Bn Bo Bp Bq Br Bs Bt Bu Bv Bw Bx By Bz BA BB BD BF BG BH BJ BK BL BM BN BO BP BQ BR BS BT BU BV BW BX BY BZ B1 B2 B3 B4 B5 B6 B7 B8 B9 Ca Cb e hF HM gJ;have e1:c=1:=Z
  subst e1;clear HM gJ;refine mB (l:={l with d:=1,w:=e}) g hF λqC hF=>⟨U,U,ū U U H.f_semrelease<|ĕ L,_,U,λe n hc hf=>(Ň U U (by k_ne) U H.f_semrelease (š L) (ĕ L) (Ţ L) (ţ L) (by simp[û,gQ]) hc hf).trans fO,?_⟩;walk_nrm;show pQ P 1 _;let⟨n,h⟩:=h;refine⟨n+150,?_⟩;repeat(first|refine uf ?_|q_go)
  q_en H L
  q_leave0 H.f_add
  repeat(first|refine uf ?_|q_go)
  q_leave0 H.f_done
  exact HL Z h
 |succ r ih=>
  intro c j m o p q s t u v x y z B C D E F I J K M N O Q S T V W X Y pR o6 o7 oJ oK pS pT pU pV pW pX pY pZ p6 nQ nR rE A1 A2 A3 A4 A5 A6 A7 A8 A9 Ba Bb Bc Bd Be Bf Bg Bh Bj Bl Bm Bn Bo Bp Bq Br Bs Bt Bu Bv Bw Bx By Bz BA BB BD BF BG BH BJ BK BL BM BN BO BP BQ BR BS BT BU BV BW BX BY BZ B1 B2 B3 B4 B5 B6 B7 B8 B9 Ca Cb e hF HM gJ;have g1:(c-1)%4294967296=c-1:=Z
  have g2:(c-1 !=0)=Î:=by simp;omega
  refine mB (l:={l with d:=1,w:=e}) g hF λqC hF=>⟨U,U,ū U U H.f_semrelease<|ĕ L,_,U,λe n hc hf=>(Ň U U (by k_ne) U H.f_semrelease (š L) (ĕ L) (Ţ L) (ţ L) (by simp[û,gQ]) hc hf).trans fO,?_⟩;walk_nrm;apply iX (l:={l with d:=1,w:=qC}) g hF (n:=50);iterate 22 w_go fB
  refine Ì λe Yk=> ?_;replace hF:=fB hF Yk;clear Yk;exact ih (c-1) _ _ _ _ _ _ _ _ _ _ _ _ _ _ _ _ _ _ _ _ _ _ _ _ _ _ _ _ _ _ _ _ _ _ _ _ _ _ _ _ _ _ _ _ _ _ _ _ _ _ _ _ _ _ _ _ _ _ _ _ _ _ _ _ _ _ _ _ _ _ _ _ _ _ _ _ _ _ _ _ _ _ _ _ _ _ _ _ _ _ _ _ _ _ _ _ _ _ _ _ _ _ _ _ _ _ _ _ _ _ _ _ _ _ e hF Z Z
end
section
variable{Ψ:Ð->Prop}{L:ņ}{l:fc}{k:List ŵ}
def ah1(H:ŭ P L)(J:l.K ⟨b,0,Í⟩/\l.K ⟨b,1,Í⟩)(z:lY Ψ l b)(hF:SW Ψ l b l.w)(B:l.d=0)(m:pQ P 0 (G (f.at (y.put ((Q[i]?).bind (·.dst))<|Ņ #[])<|Ç Q jJ::k) qX)): fh P É (λl g=>yt P É b (EL P) (kz l) g) l (G ((base L.done).at ⟨#[ù<|Ã ⟨b,0,Í⟩,Â,Â,Â],[]⟩ [ĸ<|body_done L])<|f.at y (Ç Q (i::jJ)::k)::qX):=by
 lib_facts;simp only[body_done,doneFn,Ĉ];apply iX z hF (n:=40);iterate 2 w_go fB
 u_call H.f_add (nm_add L) addFn fB hF
 iterate 11 w_go fB
 u_conv H.underlying_tWgP H.room_tWg (mN.r hF.2.1).choose_spec fB hF
 refine Ì λa g=> ?_;replace hF:=fB hF g;clear g;refine mB (l:={l with w:=a}) z hF λc hF=>⟨B,U,_,λ_=>ă ĳ fj U U (by k_ne) U H.f_relMerge (x_relMerge_n L) (x_relMerge_b L) (x_relMerge_x L) (x_relMerge_f L) (by simp[û,fL]),?_⟩;walk_nrm;have e:lY (λ_=>True) (kz {l with w:=c}) b:=⟨À J.1,À J.2,λ_ _ _ _ _ _ _ _=>trivial⟩;have C:SW (λ_=>True) (kz {l with w:=c}) b (kz {l with w:=c}).w:=⟨λj h=>h.elim,hF.2.1,trivial⟩;have M:(kz {l with w:=c}).d=0:=B;generalize kz {l with w:=c}=l2 at e C M|-;replace hF:=C;clear C z B;apply iX e hF (n:=10);iterate 3 w_go fB
 refine Ì λa g=> ?_;replace hF:=fB hF g;clear g;refine rD (l:={l2 with w:=a}) e hF (À U) U (λ_=>Ď õ fj U U (by k_ne) U H.f_disable (ŏ L) (Ő L) (ő L)<|Œ L) λT hF=> ?_;walk_nrm;have V:Ï l2.d #[jw õ]=1:=by rw[M];rfl
 rw[V];apply iX (l:={l2 with d:=1,w:=T}) e hF (n:=50);iterate 2 w_go fB
 u_defer fB hF
 iterate 8 w_go fB
 u_bub fB hF
 iterate 11 w_go fB
 u_call H.f_uAdd (nm_uAdd L) uAddFn fB hF
 iterate 10 w_go fB
 refine Ì λa g=> ?_;replace hF:=fB hF g;clear g;refine mB (l:={l2 with d:=1,w:=a}) e hF λc hF=>⟨U,U,λv=>⟨_,λa q D=>(ň U U (by k_ne) U H.f_addU64 (Ε L) (Ζ L) (Η L) Ó (Θ L) U U q D).trans fO,?_⟩⟩;walk_nrm;have N:Ó.wrap (v+18446744069414584320)=Ó.wrap (v+qG):=rfl;rw[N];clear N;obtain⟨s,E⟩:∃s,Ó.wrap (v+qG)=s:=⟨_,U⟩;simp only[E];have F:0<=s:=by rw[<-E];have:Ó.wrap (v+qG)=(v+qG)%18446744073709551616:=rfl;rw[this];omega
 clear E v;by_cases p:s=0\/(fX<=s/\s<1000000*fX/\s%fX<1000000)
 .rw[if_pos p];by_cases o:s=0
  .subst o;clear p F;show pQ P 1 _;let⟨n,m⟩:=m;refine⟨n+150,?_⟩;repeat(first|refine uf ?_|q_go)
   q_leave1 H.f_uAdd
   repeat(first|refine uf ?_|q_go)
   q_en H L
   q_leave0 H.f_add
   repeat(first|refine uf ?_|q_go)
   q_leave0 H.f_done
   exact HL Z m
  .have W:=p.resolve_left o;clear p o F;let⟨X,Y,c6⟩:=W;have q4:(4294967296:Int)<=s:=X;have I:s<1000000*4294967296:=Y;have O:s%4294967296<1000000:=c6;have f1:=EJ s Z I O;have t:=EK s Z I O;obtain⟨x,g1⟩:∃x,(s/4294967296+2147483648)%4294967296-2147483648=x:=⟨_,U⟩;have g2:¬x<0:=Z
   have g3:0<x:=Z
   by_cases u:s%4294967296=0
   .rw[u]at t;show pQ P 1 _;let⟨n,m⟩:=m;refine⟨n+150,?_⟩;repeat(first|refine uf ?_|q_go)
    q_leave1 H.f_uAdd
    repeat(first|refine uf ?_|q_go)
    q_en H L
    q_leave0 H.f_add
    repeat(first|refine uf ?_|q_go)
    q_leave0 H.f_done
    exact HL Z m
   .obtain⟨r,g4⟩:∃r,s%4294967296=r:=⟨_,U⟩;rw[g4]at t u;have S:r%4294967296=r:=Z
    have g6:(r !=0)=Î:=by simpa using u
    show pQ P 1 _;let⟨n,m⟩:=m;refine⟨n+150,?_⟩;repeat(first|refine uf ?_|q_go)
    q_leave1 H.f_uAdd
    repeat(first|refine uf ?_|q_go)
    q_en H L
    q_leave0 H.f_add
    repeat(first|refine uf ?_|q_go)
    q_leave0 H.f_done
    exact HL Z m
 .rw[if_neg p];by_cases o:0<s/\s<1000000
  .rw[if_pos o];let⟨q4,I⟩:=o;clear p F;have f1:=EJ s Z Z Z;have t:=EK s Z Z Z;have g1:(s/4294967296+2147483648)%4294967296-2147483648=0:=Z
   have S:s%4294967296=s:=Z
   rw[S]at t;have g6:(s !=0)=Î:=by simp;omega
   have X:(s==0)=É:=by simp;omega
   have O:(s.toNat:Int)=s:=Z
   apply iX (l:={l2 with d:=1,w:=c}) e hF (n:=150);iterate 3 w_go fB
   u_leave1 H.f_uAdd fB hF
   iterate 89 w_go fB
   u_call H.f_uLoad (Ť L) Ų fB hF
   iterate 9 w_go fB
   refine Ì λa g=> ?_;replace hF:=fB hF g;clear g;refine mB (l:={l2 with d:=1,w:=a}) e hF λc hF=>⟨U,U,λv=>⟨_,λa q=>Ą U U (by k_ne) U H.f_loadU64 (ĭ L) (Į L) (į L) Ó (İ L) U q,?_⟩⟩;show fh P É (if v=(s.toNat:Int)then KV P É b (EL P) s.toNat else λ_ _=>True) _ _;by_cases u:v=(s.toNat:Int)
   .rw[if_pos u];rw[O]at u;subst u;walk_nrm;have Y:(v !=v)=É:=fj
    apply iX (l:={l2 with d:=1,w:=c}) e hF (n:=150);iterate 3 w_go fB
    u_leave1 H.f_uLoad fB hF
    iterate 10 w_go fB
    u_call H.f_uStore (nm_uStore L) uStoreFn fB hF
    iterate 5 w_go fB
    refine Ì λa g=> ?_;replace hF:=fB hF g;clear g;refine mB (l:={l2 with d:=1,w:=a}) e hF λc hF=>⟨U,U,_,λa x q D=>stepG_store_atomic U U (by k_ne) U H.f_storeU64 (x_storeU64_n L) (x_storeU64_b L) (x_storeU64_x L) (x_storeU64_f L) U U q D,?_⟩;walk_nrm;obtain⟨r,W⟩:∃r,v.toNat=r+1:=⟨v.toNat-1,Z⟩;rw[W];apply iX (l:={l2 with d:=1,w:=c}) e hF (n:=150);iterate 2 w_go fB
    u_leave0 H.f_uStore fB hF
    iterate 24 w_go fB
    refine Ì λa g=> ?_;replace hF:=fB hF g;clear g;exact ah0 H e m r v _ _ _ _ _ _ _ _ _ _ _ _ _ _ _ _ _ _ _ _ _ _ _ _ _ _ _ _ _ _ _ _ _ _ _ _ _ _ _ _ _ _ _ _ _ _ _ _ _ _ _ _ _ _ _ _ _ _ _ _ _ _ _ _ _ _ _ _ _ _ _ _ _ _ _ _ _ _ _ _ _ _ _ _ _ _ _ _ _ _ _ _ _ _ _ _ _ _ _ _ _ _ _ _ _ _ _ _ _ _ _ _ _ _ a hF Z Z
   .rw[if_neg u];exact .fA λ_ _=>trivial
  .rw[if_neg o];trivial
end
def RT(_ _:Ð):Prop:=True
def fv{w₁:Ð}(_:True)(_:RT w w₁):True:=trivial
def ah2(s:Int)(a:0<=s)(b:s<9223372036854775808)(h:s%4294967296<1000000):bits .and Ó s 2147483648=0:=by obtain⟨n,rfl⟩:=Int.eq_ofNat_of_zero_le a;have h:=(bits_nat Ó 63 A ø n 2147483648 Z A).1;rw[Yj n Z]at h;simpa using h
def ah3(s:Int)(a:0<=s)(c:s<9223372036854775808)(h:s%4294967296<1000000):bits .and Ó s 2147483647=s%4294967296:=by
 have h:=bits_mask Ó 63 A ø 31 A s a Z;have e:((2:Int)^31-1)=2147483647:=A
 have b:((2:Int)^31)=2147483648:=A
 rw[e,b]at h;rw[h];omega
section
variable(P:ĝ)(L:ņ)(f:Bool)(b:Nat)(j:Jd)(c:ü)(m:List ü)(l:fc)
def Yl(g:Ä):Prop:=∃T:Array è,g=G ((base L.wait).at ⟨T,[]⟩ [ĸ<|L7 L,θ<|L7 L,Ś 0]) (c::m)/\T.size=84/\T[0]?=Ã (ù<|Ã ⟨b,0,Í⟩)
def Ym(v:Int)(g:Ä):Prop:=g.status=Å/\
 (∃a,(∀w:Ð,w.cell? (fL b)=Ã (æ Ó v)->w.frozen? (fL b)=É->é P f g w=ũ a (w.setCell (fL b)<|æ Ó<|Ó.wrap<|v+1) #[kx<|fL b,mM<|fL b])/\fh P f (if v%fX=0 then PQ P f b j else KX P f b j) l a)/\
 ∃a,(∀(w:Ð) (x:Int),x≠v->w.cell? (fL b)=Ã (æ Ó x)->w.frozen? (fL b)=É->é P f g w=ũ a w #[kx<|fL b])/\∀w,ĵ P f RT á (λg _=>Yl L b c m g) 10 a w
def QL(g:Ä):Prop:=g.status=Å/\∀v,∃a,(∀w:Ð,w.cell? (fL b)=Ã (æ Ó v)->é P f g w=ũ a w #[kx<|fL b])/\(0<=v/\v<1000000->fh P f (Em P f b j) l a)/\
 ((fX<=v/\v<fX*2147483648/\v%fX<1000000)->∀w,ĵ P f RT á (λg _=>Ym P L f b j c m l v g) 60 a w)
end
section
variable{Ψ:Ð->Prop}{P:ĝ}{L:ņ}{f:Bool}{b B:Nat}{l:fc}{j:Jd}{c:ü}{a:Ř}{k:List ŵ}{m:List ü}
def Yn(H:ŭ P L)(p:lY Ψ l b)(M:SW Ψ l b l.w)(s:l.d=1)(D:∀o,SW Ψ l b o->fh P f j {l with d:=0,w:=o} (G (c.at (a.put ((Q[i]?).bind (·.dst))<|Ņ #[])<|Ç Q jJ::k) m)) (h:Yl L b (c.at a<|Ç Q (i::jJ)::k) m g) (w:Ð):ĵ P f RT á (λg _=>QL P L f b j (c.at a<|Ç Q (i::jJ)::k) m l g) 30 g w:=by
 lib_facts;obtain⟨T,rfl,W,N⟩:=h;obtain⟨v0,v1,v2,v3,v4,v5,v6,v7,v8,v9,v10,v11,v12,v13,v14,v15,v16,v17,v18,v19,v20,v21,v22,v23,v24,v25,v26,v27,v28,v29,v30,v31,v32,v33,v34,v35,v36,v37,v38,v39,v40,v41,v42,v43,v44,v45,v46,v47,v48,v49,v50,v51,v52,v53,v54,v55,v56,v57,v58,v59,v60,v61,v62,v63,v64,v65,v66,v67,v68,v69,v70,v71,v72,v73,v74,v75,v76,v77,v78,v79,v80,v81,v82,v83,rfl⟩:=array84 T W;simp only[List.getElem?_toArray,List.getElem?_cons_zero,Ļ]at N;subst N;have hF:True:=trivial;simp only[L7,Ů,waitFn,Ĉ];iterate 6 w_go fv
 u_call H.f_uLoad (Ť L) Ų fv hF
 iterate 9 w_go fv
 refine Ì λo e=> ?_;clear e hF o;refine⟨U,λv=>⟨_,λo q=>Ą U U (by k_ne) U H.f_loadU64 (ĭ L) (Į L) (į L) Ó (İ L) U q,λE=> ?_,λE w=> ?_⟩⟩
 .walk_nrm;let⟨u,x⟩:=E;have X:=EJ v Z Z Z;have F:=EK v Z Z Z;have Y:(v/4294967296+2147483648)%4294967296-2147483648=0:=Z
  have O:v%4294967296=v:=Z
  rw[O]at F;have hF:=M;apply iX (l:=l) p hF (n:=150);iterate 3 w_go fB
  u_leave1 H.f_uLoad fB hF
  iterate 27 w_go fB
  refine Ì λo e=> ?_;replace hF:=fB hF e;clear e;refine rD (l:={l with w:=o}) p hF (Á U) U (λ_=>Ď ï fj U U (by k_ne) U H.f_enable (Ħ L) (ħ L) (Ĩ L)<|ĩ L) λz hF=> ?_;have B:Ï l.d #[jw ï]=0:=by rw[s];rfl
  rw[B];walk_nrm;apply iX (l:={l with d:=0,w:=z}) p hF (n:=50);iterate 3 w_go fB
  u_conv H.underlying_tWgP H.room_tWg (mN.r hF.2.1).choose_spec fB hF
  refine Ì λo e=> ?_;replace hF:=fB hF e;clear e;refine mB (l:={l with d:=0,w:=o}) p hF λr hF=>⟨U,U,_,λ_=>ă ĺ fj U U (by k_ne) U H.f_acquire (œ L) (Ŕ L) (ŕ L) (Ŗ L) (by simp[û,fL]),?_⟩;walk_nrm;by_cases t:v=0
  .subst t;apply iX (l:={l with d:=0,w:=r}) p hF (n:=50);iterate 19 w_go fB
   u_leave0 H.f_wait fB hF
   refine Ì λo e=> ?_;replace hF:=fB hF e;clear e;exact D _ hF
  .have g6:(v==0)=É:=by simp;omega
   apply iX (l:={l with d:=0,w:=r}) p hF (n:=50);iterate 19 w_go fB
   u_leave0 H.f_wait fB hF
   refine Ì λo e=> ?_;replace hF:=fB hF e;clear e;exact D _ hF
 .walk_nrm;let⟨S,V,c6⟩:=E;have q4:(4294967296:Int)<=v:=S;have q5:v<4294967296*2147483648:=V;have I:v%4294967296<1000000:=c6;clear S V;have F:=ah3 v Z Z I;obtain⟨J,Y⟩:∃J,(v/4294967296+2147483648)%4294967296-2147483648=J:=⟨_,U⟩;have g2:(J==0)=É:=by simp;omega
  have g3:(v+1)%18446744073709551616=v+1:=Z
  have yN:Ó.wrap (v+1)=v+1:=KU Z Z;obtain⟨y,g4⟩:∃y,v%4294967296=y:=⟨_,U⟩;have X:=ah2 v Z Z I;rw[g4]at F I;have O:y%4294967296=y:=Z
  have hF:True:=trivial;iterate 3 w_go fv
  u_leave1 H.f_uLoad fv hF
  iterate 32 w_go fv
  u_call H.f_uCas (nm_uCas L) uCasFn fv hF
  iterate 11 w_go fv
  refine Ì λo e=> ?_;clear e hF o;refine⟨U,⟨_,λo q u=>(stepG_cas_hit (v:=v) (n:=v+1) U U (by k_ne) U H.f_casU64 (Ι L) (Κ L) (Λ L) Ó (Μ L) U U U q u).trans (by rw[yN];rfl),?_⟩,_,λo x lB q u=>stepG_cas_miss (v:=x) (old:=v) (n:=v+1) U U (by k_ne) U H.f_casU64 (Ι L) (Κ L) (Λ L) Ó (Μ L) U U U q u lB,λw=> ?_⟩
  .walk_nrm;have hF:=M;by_cases t:v%fX=0
   .rw[if_pos t];have t:v%4294967296=0:=t;have:y=0:=Z
    subst this;apply iX (l:=l) p hF (n:=150);iterate 3 w_go fB
    u_leave1 H.f_uCas fB hF
    iterate 15 w_go fB
    u_conv H.underlying_tPU32 H.room_tU32 (mN.C hF.2.1).choose_spec fB hF
    refine Ì λo e=> ?_;replace hF:=fB hF e;clear e;refine mB (l:={l with w:=o}) p hF λr hF=>⟨s,U,_,λ_=>ă κ fj U U (by k_ne) U H.f_raceWrite (x_raceWrite_n L) (x_raceWrite_b L) (x_raceWrite_x L) (x_raceWrite_f L) (by simp[û,gQ]),?_⟩;walk_nrm;apply iX (l:={l with w:=r}) p hF (n:=150);iterate 23 w_go fB
    refine Ì λo e=> ?_;replace hF:=fB hF e;clear e;refine mB (l:={l with w:=o}) p hF λr hF=>⟨s,U,U,λo q=>ī U U U H.f_semacquire (Ė L) (ė L) (Ę L) (ę L) (by simp[û,gQ]) q,_,λo n K q u=>(ŉ (n:=n) U U (by k_ne) U H.f_semacquire (Ė L) (ė L) (Ę L) (ę L) (by simp[û,gQ]) q K u).trans fO,?_⟩;walk_nrm;apply iX (l:={l with w:=r}) p hF (n:=50);iterate 6 w_go fB
    u_call H.f_uLoad (Ť L) Ų fB hF
    iterate 9 w_go fB
    refine Ì λo e=> ?_;replace hF:=fB hF e;clear e;refine mB (l:={l with w:=o}) p hF λr hF=>⟨s,U,λx=>⟨_,λo q=>Ą U U (by k_ne) U H.f_loadU64 (ĭ L) (Į L) (į L) Ó (İ L) U q,?_⟩⟩;show fh P f (if x=0 then Em P f b j else λ_ _=>True) _ _;by_cases C:x=0
    .subst C;rw[if_pos U];walk_nrm;apply iX (l:={l with w:=r}) p hF (n:=50);iterate 3 w_go fB
     u_leave1 H.f_uLoad fB hF
     iterate 7 w_go fB
     refine Ì λo e=> ?_;replace hF:=fB hF e;clear e;refine rD (l:={l with w:=o}) p hF (Á U) U (λ_=>Ď ï fj U U (by k_ne) U H.f_enable (Ħ L) (ħ L) (Ĩ L)<|ĩ L) λz hF=> ?_;have B:Ï l.d #[jw ï]=0:=by rw[s];rfl
     rw[B];walk_nrm;apply iX (l:={l with d:=0,w:=z}) p hF (n:=50);iterate 3 w_go fB
     u_conv H.underlying_tWgP H.room_tWg (mN.r hF.2.1).choose_spec fB hF
     refine Ì λo e=> ?_;replace hF:=fB hF e;clear e;refine mB (l:={l with d:=0,w:=o}) p hF λr hF=>⟨U,U,_,λ_=>ă ĺ fj U U (by k_ne) U H.f_acquire (œ L) (Ŕ L) (ŕ L) (Ŗ L) (by simp[û,fL]),?_⟩;walk_nrm;apply iX (l:={l with d:=0,w:=r}) p hF (n:=50);iterate 9 w_go fB
     u_leave0 H.f_wait fB hF
     refine Ì λo e=> ?_;replace hF:=fB hF e;clear e;exact D _ hF
    .rw[if_neg C];exact .fA λ_ _=>trivial
   .rw[if_neg t];have t:¬v%4294967296=0:=t;have g6:(y==0)=É:=by simp;omega
    apply iX (l:=l) p hF (n:=150);iterate 3 w_go fB
    u_leave1 H.f_uCas fB hF
    iterate 34 w_go fB
    refine Ì λo e=> ?_;replace hF:=fB hF e;clear e;refine mB (l:={l with w:=o}) p hF λr hF=>⟨s,U,U,λo q=>ī U U U H.f_semacquire (Ė L) (ė L) (Ę L) (ę L) (by simp[û,gQ]) q,_,λo n K q u=>(ŉ (n:=n) U U (by k_ne) U H.f_semacquire (Ė L) (ė L) (Ę L) (ę L) (by simp[û,gQ]) q K u).trans fO,?_⟩;walk_nrm;apply iX (l:={l with w:=r}) p hF (n:=50);iterate 6 w_go fB
    u_call H.f_uLoad (Ť L) Ų fB hF
    iterate 9 w_go fB
    refine Ì λo e=> ?_;replace hF:=fB hF e;clear e;refine mB (l:={l with w:=o}) p hF λr hF=>⟨s,U,λx=>⟨_,λo q=>Ą U U (by k_ne) U H.f_loadU64 (ĭ L) (Į L) (į L) Ó (İ L) U q,?_⟩⟩;show fh P f (if x=0 then Em P f b j else λ_ _=>True) _ _;by_cases C:x=0
    .subst C;rw[if_pos U];walk_nrm;apply iX (l:={l with w:=r}) p hF (n:=50);iterate 3 w_go fB
     u_leave1 H.f_uLoad fB hF
     iterate 7 w_go fB
     refine Ì λo e=> ?_;replace hF:=fB hF e;clear e;refine rD (l:={l with w:=o}) p hF (Á U) U (λ_=>Ď ï fj U U (by k_ne) U H.f_enable (Ħ L) (ħ L) (Ĩ L)<|ĩ L) λz hF=> ?_;have B:Ï l.d #[jw ï]=0:=by rw[s];rfl
     rw[B];walk_nrm;apply iX (l:={l with d:=0,w:=z}) p hF (n:=50);iterate 3 w_go fB
     u_conv H.underlying_tWgP H.room_tWg (mN.r hF.2.1).choose_spec fB hF
     refine Ì λo e=> ?_;replace hF:=fB hF e;clear e;refine mB (l:={l with d:=0,w:=o}) p hF λr hF=>⟨U,U,_,λ_=>ă ĺ fj U U (by k_ne) U H.f_acquire (œ L) (Ŕ L) (ŕ L) (Ŗ L) (by simp[û,fL]),?_⟩;walk_nrm;apply iX (l:={l with d:=0,w:=r}) p hF (n:=50);iterate 9 w_go fB
     u_leave0 H.f_wait fB hF
     refine Ì λo e=> ?_;replace hF:=fB hF e;clear e;exact D _ hF
    .rw[if_neg C];exact .fA λ_ _=>trivial
  .walk_nrm;have hF:True:=trivial;iterate 3 w_go fv
   u_leave1 H.f_uCas fv hF
   iterate 5 w_go fv
   exact Ì λ_ _=>⟨_,U,fj,fj⟩
end
section
variable{Ψ:Ð->Prop}{L:ņ}{l:fc}{e:Jd}{k:List ŵ}
def ah4{D:Ð->Ð->Array ē->Prop}{b:Ä->Ð->Prop}(h:ĵ P yQ RT D b n g w):ĵ P yQ RT D b n g u:=by
 cases n with
 |zero=>exact λa _=>h a trivial
 |succ n=>exact h.imp (λq a _=>q a trivial) λq=>⟨q.1,λa _=>q.2 a trivial⟩
def Yo{D:Ð->Ð->Array ē->Prop}{b c:Ä->Prop}(d:∀g,b g->∀w,ĵ P yQ RT D (λg _=>c g) m g w):∀{n:Nat} {g:Ä} {w:Ð},ĵ P yQ RT D (λg _=>b g) n g w->ĵ P yQ RT D (λg _=>c g) (n+m) g w:=by
 intro n
 induction n with
 |zero=>intro g w h;rw[Nat.zero_add];exact d g (h w trivial) w
 |succ n i=>
  intro g w h;rcases h with h|⟨j,h⟩
  .exact(d g (h w trivial) w).mono Z
  .rw[show n+1+m=(n+m)+1 by omega];refine Goes.step j λe r=> ?_;have a:=h e r;cases f:é P yQ g e with
   |go k l o=>
    rw[f,Ű]at a;rw[Ű];exact⟨a.1,i a.2⟩
   |_=>rw[f]at a;exact a.elim
theorem Yp{S:Ä->Prop}(l:∀g,S g->g.status=Å)(h:∀w,ĵ P yQ RT á (λg _=>S g) (n+1) g w):g.status=Å/\(S g\/∀a,∃b,é P yQ g a=ũ b a #[]/\∀w,ĵ P yQ RT á (λg _=>S g) n b w):=by
 by_cases e:S g
 .grind
 .rcases h default with q|⟨f,q⟩
  .exact absurd (q default trivial) e
  .refine⟨f,Á λa=> ?_⟩;have c:=q a trivial;cases d:é P yQ g a with
   |go b m o=>
    rw[d,Ű]at c;let⟨⟨i,j⟩,k⟩:=c;subst i j;exact⟨b,U,λw=>ah4 k⟩
   |_=>rw[d]at c;exact c.elim
def ah5(H:ŭ P L)(B:60<=j)(D:lY Ψ l b)(E:SW Ψ l b l.w)(C:l.d=1)(F:∀a,SW Ψ l b a->fh P yQ e {l with d:=0,w:=a} (G (f.at (y.put ((Q[i]?).bind (·.dst))<|Ņ #[])<|Ç Q jJ::k) qX)) (I:n<=j) (h:∀w,ĵ P yQ RT á (λg _=>QL P L yQ b e (f.at y<|Ç Q (i::jJ)::k) qX l g) n g w):PU P yQ j b e (.fZ n) l g:=by
 refine⟨C,λp g=>match p with
  |.fZ n=>n<=j/\∀w,ĵ P yQ RT á (λg _=>QL P L yQ b e (f.at y<|Ç Q (i::jJ)::k) qX l g) n g w
  |.ld v m=>m<=j/\fX<=v/\∀w,ĵ P yQ RT á (λg _=>Ym P L yQ b e (f.at y (Ç Q (i::jJ)::k)) qX l v g) m g w,⟨I,h⟩,λp g J=> ?_⟩
 match p,J with
 |.fZ (n+1),⟨h1,h2⟩=>
  let⟨r,u⟩:=Yp (λg h=>h.1) h2;refine⟨r,h1,u.imp (λq=>⟨ó _,λw a _=>q⟩) λq a=> ?_⟩;let⟨s,c,o⟩:=q a;exact⟨s,c,Z,o⟩
 |.fZ 0,⟨_,h2⟩=>
  have q:=h2 default default trivial;refine⟨q.1,λv=> ?_⟩;let⟨s,c,o,x⟩:=q.2 v;refine⟨s,c,?_⟩;by_cases z:0<=v/\v<fX
  .rw[if_pos z];exact λt=>o ⟨z.1,t⟩
  .rw[if_neg z];exact λt=>⟨60,B,B,t.1,x t⟩
 |.ld v (m+1),⟨h1,h0,h2⟩=>
  let⟨r,u⟩:=Yp (λg h=>h.1) h2;refine⟨r,h0,h1,u.imp (λq=>⟨ó _,h0,λw a _=>q⟩) λq a=> ?_⟩;let⟨s,c,o⟩:=q a;exact⟨s,c,Z,h0,o⟩
 |.ld v 0,⟨_,h0,h2⟩=>
  let⟨r,⟨m,c,o⟩,q,x,s⟩:=h2 default default trivial;exact⟨r,h0,⟨m,c,o⟩,q,x,40,Z,Z,λw=>Yo (λg t=>Yn H D E C F t)<|s w⟩
def Yq(H:ŭ P L)(o:60<=j)(a:lY Ψ l b)(hF:SW Ψ l b l.w)(p:l.d=0)(h:∀c,SW Ψ l b c->fh P yQ e {l with d:=0,w:=c} (G (f.at (y.put ((Q[i]?).bind (·.dst))<|Ņ #[])<|Ç Q jJ::k) qX)): fh P yQ (qH P yQ j b e .iW) l (G ((base L.wait).at ⟨#[ù<|Ã ⟨b,0,Í⟩,Â,Â,Â,Â,Â,Â,Â,Â,Â,Â,Â,Â,Â,Â,Â,Â,Â,Â,Â,Â,Â,Â,Â,Â,Â,Â,Â,Â,Â,Â,Â,Â,Â,Â,Â,Â,Â,Â,Â,Â,Â,Â,Â,Â,Â,Â,Â,Â,Â,Â,Â,Â,Â,Â,Â,Â,Â,Â,Â,Â,Â,Â,Â,Â,Â,Â,Â,Â,Â,Â,Â,Â,Â,Â,Â,Â,Â,Â,Â,Â,Â,Â,Â],[]⟩ [ĸ<|Ů L])<|f.at y (Ç Q (i::jJ)::k)::qX):=by
 lib_facts;simp only[Ů,waitFn,Ĉ];apply iX a hF (n:=40);iterate 3 w_go fB
 refine Ì λc q=> ?_;replace hF:=fB hF q;refine rD a hF (À U) U (λ_=>Ď õ fj U U (by k_ne) U H.f_disable (ŏ L) (Ő L) (ő L)<|Œ L) λt hF=> ?_;walk_nrm;have r:Ï l.d #[jw õ]=1:=by rw[p];rfl
 rw[r];refine mB a hF λm hF=>⟨40,Z,ah5 (l:={l with d:=1,w:=m}) H o a hF U h Z λw=>Yo (λg s=>Yn (l:={l with d:=1,w:=m}) H a hF U h s) ?_⟩;replace hF:True:=trivial;iterate 3 w_go fv
 exact Ì λ_ _=>⟨_,U,fj,fj⟩
end
section
variable(P:ĝ)(e:Bool)(b:Nat)(J:Jd)
def rd1:Jd:=λl g=>l.d=1/\G8 P e (.read<|gQ b) J l g
def Lt:Jd:=λl g=>l.d=1/\Pv P e (fL b) fX (λs=>if s=fX then fh P e (rd1 P e b J)else if fX<s/\s<1000000*fX/\s%fX=0 then fh P e J else λ_ _=>True) l g
end
def ah6(F:Ph)(j:Nat)(a:Nat->Nat):PY F j a=Lt F.P Î F.C (K0 F j a):=rfl
section
variable{Ψ:Ð->Prop}{P:ĝ}{L:ņ}{e:Bool}{b:Nat}{l:fc}{f:Jd}{c:ü}{k:List ŵ}
def Yr(H:ŭ P L)(h:lY Ψ l b)(hF:SW Ψ l b l.w)(E:l.d=0)(t:∀g,SW Ψ l b g->fh P e f {l with d:=0,w:=g} (G (c.at (y.put ((Q[i]?).bind (·.dst))<|Ņ #[])<|Ç Q jJ::k) qX)): fh P e (Lt P e b f) l (G ((base L.add).at ⟨#[ù<|Ã ⟨b,0,Í⟩,æ Ł 1,Â,Â,Â,Â,Â,Â,Â,Â,Â,Â,Â,Â,Â,Â,Â,Â,Â,Â,Â,Â,Â,Â,Â,Â,Â,Â,Â,Â,Â,Â,Â,Â,Â,Â,Â,Â,Â,Â,Â,Â,Â,Â,Â,Â,Â,Â,Â,Â,Â,Â,Â,Â,Â,Â,Â,Â,Â,Â,Â,Â,Â,Â,Â,Â,Â,Â,Â,Â,Â,Â,Â,Â,Â,Â,Â,Â,Â,Â,Â,Â,Â,Â,Â,Â,Â,Â,Â,Â,Â,Â,Â,Â,Â,Â,Â,Â,Â,Â,Â,Â,Â,Â,Â,Â,Â,Â,Â,Â,Â,Â,Â,Â,Â,Â,Â],[]⟩ [ĸ<|body_add L])<|c.at y (Ç Q (i::jJ)::k)::qX):=by
 lib_facts;simp only[body_add,addFn,Ĉ];apply iX h hF (n:=40);iterate 12 w_go fB
 refine Ì λg a=> ?_;replace hF:=fB hF a;clear a;refine rD (l:={l with w:=g}) h hF (À U) U (λ_=>Ď õ fj U U (by k_ne) U H.f_disable (ŏ L) (Ő L) (ő L)<|Œ L) λj hF=> ?_;walk_nrm;have F:Ï l.d #[jw õ]=1:=by rw[E];rfl
 rw[F];apply iX (l:={l with d:=1,w:=j}) h hF (n:=50);iterate 2 w_go fB
 u_defer fB hF
 iterate 8 w_go fB
 u_bub fB hF
 iterate 11 w_go fB
 u_call H.f_uAdd (nm_uAdd L) uAddFn fB hF
 iterate 10 w_go fB
 refine Ì λg a=> ?_;replace hF:=fB hF a;clear a;refine mB (l:={l with d:=1,w:=g}) h hF λq hF=>⟨U,U,λv=>⟨_,λg I J=>(ň U U (by k_ne) U H.f_addU64 (Ε L) (Ζ L) (Η L) Ó (Θ L) U U I J).trans fO,?_⟩⟩;walk_nrm;have u:Ó.wrap (v+4294967296)=Ó.wrap (v+fX):=rfl;rw[u];clear u;obtain⟨s,x⟩:∃s,Ó.wrap (v+fX)=s:=⟨_,U⟩;simp only[x];clear x v;by_cases m:s=fX
 .rw[if_pos m];have o:s=4294967296:=m;clear m;subst o;apply iX (l:={l with d:=1,w:=q}) h hF (n:=150);iterate 3 w_go fB
  u_leave1 H.f_uAdd fB hF
  iterate 48 w_go fB
  u_conv H.underlying_tPU32 H.room_tU32 (mN.C hF.2.1).choose_spec fB hF
  refine Ì λg a=> ?_;replace hF:=fB hF a;clear a;refine mB (l:={l with d:=1,w:=g}) h hF λq hF=>⟨U,U,_,λ_=>ă .read fj U U (by k_ne) U H.f_raceRead (x_raceRead_n L) (x_raceRead_b L) (x_raceRead_x L) (x_raceRead_f L) (by simp[û,gQ]),?_⟩;walk_nrm;apply iX (l:={l with d:=1,w:=q}) h hF (n:=150);iterate 39 w_go fB
  refine Ì λg a=> ?_;replace hF:=fB hF a;clear a;refine rD (l:={l with d:=1,w:=g}) h hF (Á U) U (λw=>EI ï fj U H.f_enable (Ħ L) (ħ L) (Ĩ L) (ĩ L) w) λj hF=> ?_;have r:Ï 1 #[jw ï]=0:=rfl;rw[r];apply iX (l:={l with d:=0,w:=j}) h hF (n:=10);u_leave0 H.f_add fB hF;refine Ì λg a=> ?_;replace hF:=fB hF a;clear a;exact t _ hF
 .rw[if_neg m];by_cases o:fX<s/\s<1000000*fX/\s%fX=0
  .rw[if_pos o];let⟨z,B,C⟩:=o;have N:(4294967296:Int)<s:=z;have D:s<1000000*4294967296:=B;have K:s%4294967296=0:=C;clear m z B C;have O:=EJ s Z D Z;have M:=EK s Z D Z;rw[K]at M;obtain⟨p,S⟩:∃p,(s/4294967296+2147483648)%4294967296-2147483648=p:=⟨_,U⟩;have T:¬p<0:=Z
   have V:0<p:=Z
   have W:(p==1)=É:=by simp;omega
   apply iX (l:={l with d:=1,w:=q}) h hF (n:=150);iterate 3 w_go fB
   u_leave1 H.f_uAdd fB hF
   iterate 83 w_go fB
   refine Ì λg a=> ?_;replace hF:=fB hF a;clear a;refine rD (l:={l with d:=1,w:=g}) h hF (Á U) U (λw=>EI ï fj U H.f_enable (Ħ L) (ħ L) (Ĩ L) (ĩ L) w) λj hF=> ?_;have r:Ï 1 #[jw ï]=0:=rfl;rw[r];apply iX (l:={l with d:=0,w:=j}) h hF (n:=10);u_leave0 H.f_add fB hF;refine Ì λg a=> ?_;replace hF:=fB hF a;clear a;exact t _ hF
  .rw[if_neg o];trivial
end
def Au:ρ->Nat->ρ
 |.seq a _,0=>a
 |.seq _ b,_=>b
 |ι _ a _,0=>a
 |ι _ _ b,_=>b
 |ο _ a,_=>a
 |.loop a,_=>a
 |c,_=>c
def jZ(f:Func)(l:List Nat):ρ:=l.foldl Au<|f.body.getD χ
def pb(f:ķ)(a b:Array è):ŷ:={target:=.fn (.func f) a,args:=b}
def nS(P:ĝ):ü:={(default:ü)with fn:=P.funcs.size,defers:=[],mode:=.panicking [ŗ]}
section
variable{b:ü}{a:Ř}
def Ys{h:Array Ķ}(c:Q[i]?=Ã o)(j:â o (Ĥ Q a.tmps)=Î)(k:b.kind≠Ē) (e:o.op=.defer {callee:=Ġ qQ,args:=#[],argTypes:=h}) (g:a.eval qQ=.func (.func F) #[] d): é P yQ (G (b.at a<|Ç Q (i::jJ)::L) qX) w=ũ (G (b.at (ś ⟨a.tmps,pb F d #[]::a.defers⟩ o.dst Â)<|Ç Q jJ::L) qX) w #[]:=by
 have l:(ß a.eval o).run P w=.ok (.defer<|pb F d #[]) w:=by unfold ß;simp[e,Ŀ,ĉ,g,pb]
 have m:(ß a.eval o).events P w #[]=#[]:=by unfold ß;simp[e,Ŀ,ĉ,g]
 have n:(b.at ⟨a.tmps,pb F d #[]::a.defers⟩<|Ç Q (i::jJ)::L).finish Â=b.at (ś ⟨a.tmps,pb F d #[]::a.defers⟩ o.dst Â) (Ç Q jJ::L):=by rw[Ī,c];rfl
 have p:(b.kind==Ē)=É:=by simpa using k
 rw[Ν c j,<-n];simp[stepG.apply,l,m,G,Frame.at,p,ě,ć]
def Yt{l:Array Ķ}(m:Q[i]?=Ã o)(n:â o (Ĥ Q a.tmps)=Î)(p:b.kind≠Ē) (h:o.op=Š {callee:=Ġ qQ,args:=#[],argTypes:=l}) (j:a.eval qQ=.func (.func F) #[] d) (e:P.funcs[F]?=Ã s) (q:(s.name== "runtime.NumGoroutine")=É) (g:s.body=Ã wX): é P yQ (G (b.at a<|Ç Q (i::jJ)::L) qX) w=ũ (G ((base F).at {tmps:=d++ë (s.ntmps-d.size) Â,defers:=[]} [ĸ wX])<|b.at a (Ç Q (i::jJ)::L)::qX) w #[]:=by
 have k:¬s.name= "runtime.NumGoroutine":=by simpa using q
 have r:(ß a.eval o).run P w=.ok (.enter F d) w:=by unfold ß;simp[h,Ŀ,ĉ,j,ť,Ŧ,e,k,g]
 have t:(ß a.eval o).events P w #[]=#[]:=by unfold ß;simp[h,Ŀ,ĉ,j,ť,Ŧ,e,k,g]
 rw[Ż m n p r,<-enter_at d e g];unfold listed;rw[t,ć]
def ah7{g:Array Ķ}(d:Q[i]?=Ã o)(h:â o (Ĥ Q a.tmps)=Î)(j:b.kind=Ŋ)(k:b.roundOf=Í)(l:f.mode=ú) (e:o.op=Š {callee:=.builtin .recover,args:=#[],argTypes:=g}) (q:o.type=t): é P yQ (G (b.at a<|Ç Q (i::jJ)::L)<|f::qX) w=ũ (G (b.at (a.put o.dst ā)<|Ç Q jJ::L)<|f::qX) w #[]:=by
 have m:(ß a.eval o).run P w=.ok .recover w:=by unfold ß;simp[e,Ŀ,ť,builtin]
 have n:(ß a.eval o).events P w #[]=#[]:=by unfold ß;simp[e,Ŀ,ť,builtin]
 have p:(b.at a<|Ç Q (i::jJ)::L).finish ā=b.at (a.put o.dst ā) (Ç Q jJ::L):=by rw[Ī,d];rfl
 rw[Ν d h,<-p];simp[stepG.apply,m,n,G,Frame.at,j,ě,ć,k,tryRecover,l]
def ah8{e:List ŷ}(i:a.defers=pb F d #[]::e)(g:P.funcs[F]?=Ã s)(j:(s.name== "runtime.NumGoroutine")=É)(h:s.body=Ã wX): é P yQ (G {b.at a L with mode:=ú} qX) w= ũ (G ((baseD F).at {tmps:=d++ë (s.ntmps-d.size) Â,defers:=[]} [ĸ wX])<|{b.at ⟨a.tmps,e⟩ L with mode:=ú}::qX) w #[]:=by
 have k:¬s.name= "runtime.NumGoroutine":=by simpa using j
 rw[<-enter_atD d g h];simp[G,é,Ξ,ų,Frame.at,i,pb,ť,Ŧ,g,k,h,ě,ć]
def Yu(a:P.funcs[F]?=Ã s)(e:(s.name== "runtime.NumGoroutine")=É)(b:s.body=Ã wX): é P yQ (born P<|pb F d #[]) w=ũ (G ((baseD F).at {tmps:=d++ë (s.ntmps-d.size) Â,defers:=[]} [ĸ wX]) [nS P]) w #[]:=by
 have g:¬s.name= "runtime.NumGoroutine":=by simpa using e
 rw[<-enter_atD d a b];simp[G,é,Ξ,ų,born,nS,pb,ť,Ŧ,a,g,b,ě,ć]
def ah9(d:b.kind=Ŋ)(e:a.defers=[])(f:P.funcs[b.fn]?=Ã s)(c:s.results=#[]): é P yQ (G {b.at a L with mode:=ú} [nS P]) w=ũ (G (nS P) []) w:=by have g:=results_none c a.tmps P w;have h:=events_results_none (P:=P) (w:=w) c a.tmps #[];simp[G,é,Ξ,doReturn,Frame.at,d,e,f,g,h,nS,ŗ,seen,ě]
def aia(w:Ð):é P É (G (nS P) []) w=ũ {frame:=nS P,callers:=[],status:=ç,dying:=Í} w:=by simp[G,é,Ξ,nS,ŗ,Frame.catches];rfl
def aib:pQ P 0 (G (nS P) []):=⟨1,.ctl U aia ⟨U,U⟩⟩
def aic(c:b.kind=Ŋ)(d:a.defers=[])(e:P.funcs[b.fn]?=Ã s)(f:s.results=#[]):pQ P 0 (G {b.at a L with mode:=ú} [nS P]):= Ls U (λ_=>ah9 c d e f) aib
def aie(e:b.kind=Ŋ)(g:a.defers=[])(h:P.funcs[b.fn]?=Ã s)(j:s.results=#[])(k:f.mode=ú)(l:pQ P i (G f qX)):pQ P i (G {b.at a L with mode:=ú}<|f::qX):= let⟨n,q⟩:=l;⟨n+1,.leaveD e g h j k q⟩
end
def aif(d:Nat)(t:Ķ)(w:Ð)(a:Array ē)(h:P.underlying t=Ã (.interface<|P.methodsAt t)):(Ο (d+1) t ā ā).events P w a=a:=by simp[Ο,run_underlying h,go_sem]
def aii(t:Ķ)(w:Ð)(a:Array ē)(h:P.underlying t=Ã (.interface<|P.methodsAt t)):(Op.equal t ā ā).events P w a=a:=aif 9999 t w a h
def aij(t:Ķ)(w:Ð)(a:Array ē)(h:P.underlying t=Ã (.interface<|P.methodsAt t)):(binOp .neq t ā ā).events P w a=a:=by simp only[binOp];simp[aii t w a h]
section
variable{J:Jd}{l:fc}{b:ü}{a:Ř}
def ki(l:fc):Prop:=∀j,l.O j->j<l.w.heap.size
def fN(a:ki l)(b:ĵ P yQ RT á (λc _=>fh P yQ J l c) n g l.w):fh P yQ J l g:= QK b (λ_ _ _=>trivial) a λ_ _ r h=>h.jW r
def vo(k:Q[i]?=Ã o)(m:â o (Ĥ Q a.tmps)=Î)(n:b.kind≠Ē) (h:∀c,fI l l.w c->uponK o a (λq e=>∃d,mo l d c e (listed P b.fn a o c)/\fh P yQ J d (G (b.at q<|Ç Q jJ::L) qX)) ((ß a.eval o).run P c)): fh P yQ J l (G (b.at a<|Ç Q (i::jJ)::L) qX):=by
 refine .mk U λc r=> ?_;have f:=h c r;revert f;generalize p:(ß a.eval o).run P c=res;intro f;match res,f with
 |.ok (.value v) e,⟨d,g,j⟩=>exact⟨_,e,_,d,Ŏ k m n p,g,j⟩
 |.ok .skip e,⟨d,g,j⟩=>exact⟨_,e,_,d,ş k m n p,g,j⟩
def wU(l:fc)(e:ē):Prop:=yn l e/\e.loc≠Ŷ õ/\e.loc≠Ŷ ï
def Lu(h:∀e∈V,wU l e)(d:Nat):Ï d V=d:=ł (λe a=>⟨(h e a).2.1,(h e a).2.2⟩) d
def aik(b:∀j,l.O j->j<w.heap.size)(c:¬l.q)(a:∀e∈V,wU l e):mo l {l with w:=w} w w V:= ⟨Æ _,λ_ h=>À h,b,U,U,U,U,λ_ _ _ _=>rfl,λ_ _ _ _=>rfl,λ_ _ _=>rfl,U,U,U,λe h=>(a e h).1,(Lu a _).symm,U,λq=>absurd q c,U⟩
def pd(d:Q[i]?=Ã o)(f:â o (Ĥ Q a.tmps)=Î)(g:b.kind≠Ē)(j:ki l)(k:¬l.q) (m:∀c,fI l l.w c->(ß a.eval o).run P c=.ok (.value v) c) (n:∀c,fI l l.w c->∀e∈(ß a.eval o).events P c #[],wU l e) (p:fh P yQ J l (G (b.at (a.put o.dst v)<|Ç Q jJ::L) qX)):fh P yQ J l (G (b.at a<|Ç Q (i::jJ)::L) qX):=by refine vo d f g λc r=> ?_;rw[m c r];exact⟨_,aik (mA j r) k λe h=>n c r e<|Ρ h,p.jW r⟩
def gX(l:fc)(x:Č):Prop:=l.M x.block\/l.C x
def gX.r{x:Č}(h:gX l x){w₁:Ð}(r:fI l l.w w₁):w₁.cell? x=l.w.cell? x:=h.elim (λq=>gK<|r.I _ q)<|r.N x
def gX.C{x:Č}(h:gX l x):wU l ⟨ý x,É,É⟩:=by
 refine⟨À ⟨x,U,?_⟩,fj,fj⟩;rcases h with(q|q)|(q|q)
 .exact À q
 .exact Á<|Á ⟨À q,U,U⟩
 .exact Á<|À q
 .exact Á<|Á ⟨Á q,U,U⟩
def nT{x:Č}(f:Q[i]?=Ã o)(g:â o (Ĥ Q a.tmps)=Î)(j:b.kind≠Ē)(k:ki l)(m:¬l.q)(c:gX l x)(d:l.w.cell? x=Ã v) (n:∀w,w.cell? x=Ã v->(ß a.eval o).run P w=.ok (.value v) w) (p:∀w,w.cell? x=Ã v->(ß a.eval o).events P w #[]=#[⟨ý x,É,É⟩]) (s:fh P yQ J l (G (b.at (a.put o.dst v)<|Ç Q jJ::L) qX)):fh P yQ J l (G (b.at a<|Ç Q (i::jJ)::L) qX):= pd f g j k m (λw r=>n w<|(c.r r).trans d) (λw r e h=>by
  rw[p w<|(c.r r).trans d]at h;have:e=⟨ý x,É,É⟩:=by simpa using h
  subst this;exact c.C) s
def p7(l:fc)(x:Č):Prop:=l.O x.block\/l.r x
def p7.C(h:p7 l p):gX l p:=h.elim (λq=>À<|À q) λq=>Á<|À q
def p7.r{x:Č}(h:p7 l x):wU l ⟨ý x,Î,É⟩:=⟨À ⟨x,U,h.elim À λq=>Á<|À q⟩,fj,fj⟩
end
end Go.Proofs.Y.fu
namespace Go.Proofs.Y.fu
open Go Go.Conc Go.Proofs.Y.Lift
section
variable{J:Jd}{l:fc}{b:ü}{cs:List ü}{ops:Array Ĺ}
def QM(a:∀j,l.O j->j<w.heap.size)(b:¬l.q):mo l {l with w:={w with drawn:=w.drawn+1}} w {w with drawn:=w.drawn+1} #[]:= ⟨Æ _,λ_ h=>À h,a,U,U,U,U,λ_ _ _ _=>rfl,λ_ _ _ _=>rfl,λ_ _ _=>rfl,U,U,U,λe c=>by simp at c,by simp[Ï],U,λq=>absurd q b,U⟩
def jo(listed:Array Bool):Nat:=listed.countP λx=> !x
theorem Lv{listed:Array Bool}(h:listed.getD i Î=É):jo (listed.setIfInBounds i Î)+1=jo listed:=by
 have a:i<listed.size:=by grind
 have b:listed[i]=É:=by simpa[a]using h
 unfold jo;have c:0<listed.countP (λx=> !x):=Array.countP_pos_iff.2 ⟨É,by rw[<-b];exact Array.getElem_mem a,U⟩;grind
def QO{md:Þ}{listed:Array Bool}(c:listed.size=ops.size)(h:jo listed=0):Ò md ops listed=[]:=by rw[List.eq_nil_iff_forall_not_mem];intro j a;let⟨b,o,d,_⟩:=Ċ.1 a;have:=Lv b;omega
def Yv{md:Þ}(I:Array Bool->Ř->fc->Prop) (p:∀c a l i k,I c a l->i∈Ò md ops c->fh P yQ (λh m=>∃f,m=G (b.at f<|Ç ops k::L) cs/\I (c.setIfInBounds i Î) f h) l (G (b.at a<|Ç ops (i::k)::L) cs)) (n:∀c a l,I c a l->c.size=ops.size->Ò md ops c=[]->fh P yQ J l (G (b.at a<|Ç ops []::L) cs)): ∀(d t:Nat) (c:Array Bool) (a:Ř) (l:fc),c.size=ops.size->jo c<=d->I c a l->fh P yQ J l (G (b.at a<|Ç ops (þ md ops d t c [])::L) cs):=by
 intro d
 induction d with
 |zero=>
  intro t c a l e q g;simpa[þ]using n c a l g e<|QO e Z
 |succ d r=>
  intro t c a l e q g;simp only[þ];change fh P yQ J l (G (b.at a (Ç ops (match(Ò md ops c)[t%(Ò md ops c).length]? with
   |some i=>þ md ops d (t/(Ò md ops c).length) (c.setIfInBounds i Î) [i]
   |none=>[].reverse)::L)) cs)
  cases j:(Ò md ops c)[t%(Ò md ops c).length]? with
  |none=>
   have s:Ò md ops c=[]:=by
    cases u:Ò md ops c with
    |nil=>rfl
    |cons x o=>
     rw[u]at j;have v:t%(x::o).length<(x::o).length:=Γ _ fj;simp at j;simp at v;omega
   simpa using n c a l g e s
  |some i=>
   simp only[];rw[linearise_go_acc,List.reverse_singleton,List.singleton_append];have o:=List.mem_of_getElem? j;refine(p c a l i _ g o).lV ?_;rintro h m ⟨f,rfl,s⟩;exact r _ _ f h (by simpa using e) (by have:=Lv (Ċ.1 o).1;omega) s
def EM(n:Nat):jo (ë n É)=n:=by unfold jo;rw[Array.countP_replicate];simp
def QP{id:Nat}(I:Array Bool->Ř->fc->Prop)(m:ki l)(n:¬l.q) (f:∀d,fI l l.w d->I (ë ops.size É) y {l with w:={d with drawn:=d.drawn+1}}) (g:∀e c y l i h,I c y l->i∈Ò e ops c->fh P yQ (λo p=>∃j,p=G (b.at j<|Ç ops h::L) cs/\I (c.setIfInBounds i Î) j o) l (G (b.at y<|Ç ops (i::h)::L) cs)) (k:∀e c y l,I c y l->c.size=ops.size->Ò e ops c=[]->fh P yQ J l (G (b.at y<|Ç ops []::L) cs)): fh P yQ J l (G (b.at y<|ĸ (Ģ id ops Î)::L) cs):=by
 refine .mk U λd r=>⟨_,_,_,_,stepG_region_draw,QM (mA m r) n,?_⟩;unfold Region.schedule;split
 .exact Yv I (g _) (k _) _ _ _ _ _ fj (by rw[EM];exact Æ _)<|f d r
 .exact Yv I (g _) (k _) _ _ _ _ _ fj (by rw[EM];exact Æ _)<|f d r
end
def yO(e:Edge):Bool:=match e.ground with|.textOnly _=>É|.gcOnly _=>É|_=>Î
theorem Yw{md:Þ}{e:Edge}(h:yO e=Î):Ŵ md e=Î:=by unfold yO at h;unfold Ŵ;grind
structure mO(ops:Array Ĺ)(t0:Array è)(val:Nat->è)(listed:Array Bool)(a:Ř):Prop where
 M:a.defers=[]
 S:a.tmps.size=t0.size
 b:∀d,(∀j o,ops[j]?=Ã o->listed.getD j É=Î->o.dst≠Ã d)->a.tmps[d]?=t0[d]?
 r:∀j o d,ops[j]?=Ã o->listed.getD j É=Î->o.dst=Ã d->a.tmps[d]?=Ã (val j)
 Y:∀j o e,ops[j]?=Ã o->listed.getD j É=Î->e∈o.after->yO e=Î->listed.getD e.on É=Î
def ug(a:Array Ĺ)(n:Nat):Bool:=(Τ a.size).all λi=>match(a.getD i default).dst with
 |none=>Î
 |some d=>decide (d<n)&&(Τ a.size).all λj=>i==j||(a.getD j default).dst !=Ã d
section
variable{ops:Array Ĺ}{t0:Array è}{val:Nat->è}{listed:Array Bool}{a:Ř}
def ail(h:ug ops t0.size=Î)(a:ops[i]?=Ã o)(b:o.dst=Ã n):n<t0.size:=by have:=(ġ.1 h) i<|Ũ.2<|(Ö.1 a).1;simp_all
theorem ain(h:ug ops t0.size=Î){a:Ĺ}(b:ops[i]?=Ã o)(e:ops[j]?=Ã a)(f:j≠i)(c:o.dst=Ã n):a.dst≠Ã n:=by have:=(ġ.1 h) i<|Ũ.2<|(Ö.1 b).1;simp[b,c]at this;grind
def mO.C(h:mO ops t0 val listed a){d:Nat}(b:ops.toList.all (λo=>o.dst !=Ã d)=Î):a.tmps[d]?=t0[d]?:= h.b d λj o c _ e=>by have:=ġ.1 b o<|ď.2<|Array.mem_of_getElem? c;simp[e]at this
def QR(h:(listed.setIfInBounds i Î).getD j É=Î):j=i\/listed.getD j É=Î:=by by_cases e:i=j;all_goals simp_all
theorem mO.fW(h:mO ops t0 val listed a)(p:ug ops t0.size=Î){md:Þ}(l:ops[i]?=Ã o)(r:i∈Ò md ops listed)(w:o.dst≠Í->v=val i):mO ops t0 val (listed.setIfInBounds i Î) (a.put o.dst v):=by
 have z:=(Ċ.1 r).1;have s:∀j c e,ops[j]?=Ã c->(listed.setIfInBounds i Î).getD j É=Î->e∈c.after->yO e=Î->(listed.setIfInBounds i Î).getD e.on É=Î:=λj c e b f t u=>by
  rcases QR f with rfl|q
  .let⟨_,n,d,g⟩:=Ċ.1 r;rw[b]at d;obtain rfl:=È d;exact Ĝ<|g e t<|Yw u
  .exact Ĝ<|h.Y j c e b q t u
 have x:(listed.setIfInBounds i Î).getD i É=Î:=by
  have n:i<listed.size:=by grind
  simp[n]
 cases k:o.dst with
 |none=>
  refine⟨h.M,h.S,λd m=>h.b d λj c b f=>m j c b<|Ĝ f,λj c d b f g=> ?_,s⟩;rcases QR f with rfl|q
  .rw[l]at b;obtain rfl:=È b;rw[k]at g;cases g
  .exact h.r j c d b q g
 |some e=>
  refine⟨h.M,by simp[ś,h.S],λd m=> ?_,λj c d b f g=> ?_,s⟩
  .simp only[ś];rw[î (λq=>m i o l x<|by rw[k,q])];exact h.b d λj c b f=>m j c b<|Ĝ f
  .simp only[ś];rcases QR f with rfl|q
   .rw[l]at b;obtain rfl:=È b;rw[k]at g;obtain rfl:=È g;have n:e<a.tmps.size:=by rw[h.S];exact ail p l k
    simp[n,(w<|by rw[k];simp)]
   .have n:e≠d:=by
     rintro rfl;by_cases y:j=i
     .grind
     .exact ain p l b y k g
    rw[î n];exact h.r j c d b q g
def mO.Yx(h:mO ops t0 val listed a){b:Nat->è}(e:∀j,listed.getD j É=Î->b j=val j):mO ops t0 b listed a:= ⟨h.M,h.S,h.b,λj o d f c g=>(by rw[e j c];exact h.r j o d f c g),h.Y⟩
def ie{md:Þ}(h:i∈Ò md ops listed)(c:ops[i]?=Ã o)(d:o.after.toList.any (λe=>e.on==j&&yO e)=Î):listed.getD j É=Î:=by let⟨_,k,b,f⟩:=Ċ.1 h;rw[c]at b;obtain rfl:=È b;let⟨e,g,a⟩:=ŋ.1 d;simp only[Ō,beq_iff_eq]at a;rw[<-a.1];exact f e (ď.1 g)<|Yw a.2
def mO.I(h:mO ops t0 val listed a)(c:ops[i]?=Ã o)(d:listed.getD i É=Î)(f:o.after.toList.any (λe=>e.on==j&&yO e)=Î):listed.getD j É=Î:=by let⟨e,g,b⟩:=ŋ.1 f;simp only[Ō,beq_iff_eq]at b;rw[<-b.1];exact h.Y i o e c d (ď.1 g) b.2
theorem wV(h:listed.getD i Î=É):¬listed.getD i É=Î:=by grind
def Yy(md:Þ)(ops:Array Ĺ):List Nat->List Nat->Bool
 |[],_=>Î
 |i::r,seen=>(match ops[i]? with|some o=>o.after.toList.all (λe=> !Region.binds md e||seen.contains e.on)|none=>É)&&Yy md ops r (i::seen)
theorem p8{md:Þ}(h:Ò md ops listed=[])(l:listed.size=ops.size):∀(b a:List Nat),Yy md ops b a=Î->(∀i∈a,listed.getD i É=Î)->∀i∈b,listed.getD i É=Î:=by
 intro b
 induction b with
 |nil=>intro a _ _ i c;cases c
 |cons j r m=>
  intro a n p i c;let⟨d,s⟩:=Bool.and_eq_true_iff.1 (show(_&&_)=Î from n);have f:listed.getD j É=Î:=by
   split at d
   .rename_i o g;have v:j<listed.size:=by rw[l];exact(Ö.1 g).1
    by_cases t:listed.getD j Î=É
    .have:j∈Ò md ops listed:=Ċ.2 ⟨t,o,g,λe w x=>by
      grind⟩
     grind
    .grind
   .cases d
  rcases Ŭ.1 c with rfl|q
  .exact f
  .exact m (j::a) s (λk u=>(Ŭ.1 u).elim (λe=>e▸f)<|p k) i q
def mO.G(t:Array è)(val:Nat->è)(n:Nat):mO ops t val (ë n É) ⟨t,[]⟩:=by
 have a:∀j,¬(ë n É).getD j É=Î:=λj q=>by rcases ģ j n with z|z;all_goals simp_all
 exact⟨U,U,λ_ _=>rfl,λj _ _ _ z=>absurd z<|a j,λj _ _ _ z=>absurd z<|a j⟩
theorem EN{md:Þ}(h:i∈Ò md ops listed):i<ops.size:=by let⟨_,o,a,_⟩:=Ċ.1 h;grind
def QS{md:Þ}(h:i∈Ò md ops listed):listed.getD i Î=É:=(Ċ.1 h).1
end
theorem Yz(h:a.spot.isSome=Î):w.cell? a=Í:=by unfold World.cell?;grind
theorem Cc{x y:Č}(c:x.spot=Í)(h:y≠x):(w.setCell x v).cell? y=w.cell? y:=by
 by_cases a:y.spot.isSome=Î
 .rw[Yz a,Yz a]
 .apply yq;let⟨d,e,f⟩:=x;let⟨g,i,b⟩:=y;simp only at c a|-;have:b=Í:=by cases b<;>simp_all
  grind
section
variable{J:Jd}{l:fc}{b:ü}{a:Ř}{cs:List ü}{ops:Array Ĺ}
def YA(c:p.spot=Í)(g:(w.cell? p).isSome=Î)(d:(u.cell? p).isSome=Î)(r:fI l w u):fI l (w.setCell p v) (u.setCell p v):=by
 refine⟨by rw[jU,jU];exact r.r,λj f=> ?_,λy b=> ?_,λy b=> ?_,λy b h=> ?_⟩
 .by_cases e:j=p.block
  .subst e;unfold World.setCell;simp only[Array.getElem?_modify];rw[r.I _ f]
  .rw[lk e,lk e];exact r.I j f
 .by_cases e:y=p
  .subst e;let⟨a,i⟩:=ì.1 g;let⟨m,k⟩:=ì.1 d;rw[tM i,tM k]
  .rw[Cc c e,Cc c e];exact r.N y b
 .rw[sH,sH];exact r.Y y b
 .by_cases e:y=p
  .subst e;exact yr d
  .rw[Cc c e]at h|-;exact r.S y b h
def YB(f:p.spot=Í)(g:∀j,l.O j->j<w.heap.size)(i:¬l.q)(c:p7 l p)(d:∀e∈V,wU l e):mo l {l with w:=w.setCell p v} w (w.setCell p v) V:=by
 refine⟨by rw[jU];exact Æ _,λ_ h=>À h,λj k=>by rw[jU];exact g j k,U,U,U,U,λj _ a b=>lk λe=>c.elim (λq=>a<|e▸q) λq=>b p e.symm q,λy _ a b=>Cc f λe=> ?_,λ_ _ _=>PN,U,U,U,λe h=>(d e h).1,(Lu d _).symm,U,λq=>absurd q i,U⟩
 .subst e;exact c.elim a b
def aio(m:ops[i]?=Ã o)(n:â o (Ĥ ops a.tmps)=Î)(s:b.kind≠Ē)(t:ki l)(u:¬l.q)(g:p.spot=Í)(c:p7 l p)(j:(l.w.cell? p).isSome=Î)(y:o.dst=Í)(z:l.w.frozen? p=É) (B:∀w,(w.cell? p).isSome=Î->w.frozen? p=É->(ß a.eval o).run P w=.ok .skip (w.setCell p v)) (C:∀w,(w.cell? p).isSome=Î->w.frozen? p=É->(ß a.eval o).events P w #[]=#[⟨ý p,Î,É⟩]) (D:fh P yQ J {l with w:=l.w.setCell p v} (G (b.at a<|Ç ops jJ::L) cs)):fh P yQ J l (G (b.at a<|Ç ops (i::jJ)::L) cs):=by
 refine vo m n s λd r=> ?_;have f:(d.cell? p).isSome=Î:=by rwa[c.C.r r]
 have k:d.frozen? p=É:=by rw[<-z];exact c.C.elim (λq=>wG<|r.I _ q)<|r.Y p
 rw[B d f k];refine⟨_,YB g (mA t r) u c λe h=> ?_,?_⟩
 .have:=Ρ h;rw[C d f k]at this;have:e=⟨ý p,Î,É⟩:=by simpa using this
  subst this;exact c.r
 .have:(a.put o.dst Â)=a:=by rw[y];rfl
  rw[this];exact D.jW<|yJ<|YA g j f r
end
def lZ(l:fc):fc:={l with O:=λ_=>False,I:=l.M,r:=λ_=>False,N:=l.C}
def qK(l x:fc):fc:={x with O:=λb=>x.O b\/l.O b,I:=l.I,r:=l.r,N:=l.N}
structure jL(l l':fc):Prop where
 O:∀j,l.O j->l'.O j
 a:∀j,l'.O j->l.O j\/l.w.heap.size<=j
 I:l'.I=l.I
 N:l'.r=l.r
 Y:l'.N=l.N
 K:l'.K=l.K
 q:l'.q=l.q
 r:fI l l.w l'.w
 fx:ki l'
def jL.fT{l:fc}(h:ki l):jL l l:=⟨λ_ h=>h,λ_ h=>À h,U,U,U,U,U,fI.fT _ _,h⟩
def jL.C{l a:fc}(h:jL l a):a.C=l.C:=by unfold fc.C;rw[h.N,h.Y]
def jL.M{l a:fc}(h:jL l a)(c:l.M b):a.M b:=c.imp (h.O b)<|by rw[h.I];exact id
def jL.G{l d:fc}(h:jL l d)(r:fI d w u):fI l w u:=⟨r.r,λj e=>r.I j<|h.M e,λx b=>r.N x (by rwa[h.C]),λx b=>r.Y x (by rwa[h.C]),λx b=>r.S x<|by rwa[h.K]⟩
def jL.S{l a:fc}(h:jL l a)(r:fI a a.w u):jL l {a with w:=u}:= ⟨h.O,h.a,h.I,h.N,h.Y,h.K,h.q,h.r.ff<|h.G r,mA h.fx r⟩
def gw.jW{l:fc}(s:gw l){w₁:Ð}(h:l.w.heap.size<=w₁.heap.size):gw {l with w:=w₁}:= ⟨s.c,s.Y,s.N,λb d=>Ê (s.fx b d) h,λa c=>Ê (s.I a c) h,λa c=>let⟨e,f,g⟩:=s.S a c;⟨e,Ê f h,g⟩⟩
def gw.r{l:fc}(s:gw l):ki l:=λj a=>s.fx j<|À a
section
variable{J:Jd}
theorem aip{l x:fc}(d:x.I=l.M)(g:x.r=λ_=>False)(f:x.N=l.C){e:ē}(h:yn x e):yn (qK l x) e:=by
 rcases h with⟨a,b,c⟩|h|h|h|h|⟨a,b,c⟩
 .refine À ⟨a,b,?_⟩;rcases c with q|q|⟨q|q,z⟩
  .exact À<|À q
  .grind
  .rw[d]at q;rcases q with q|q
   .exact À<|Á q
   .exact Á<|Á ⟨À q,z⟩
  .rw[f]at q;rcases q with q|q
   .exact Á<|À q
   .exact Á<|Á ⟨Á q,z⟩
 .exact Á<|À h
 .exact Á<|Á<|À h
 .exact Á<|Á<|Á<|À h
 .exact Á<|Á<|Á<|Á<|À h
 .exact Á<|Á<|Á<|Á<|Á ⟨a,À b,c⟩
def YC{l x:fc}(a:x.I=l.M):(qK l x).M=x.M:=by
 funext b;refine propext ⟨λh=> ?_,λh=> ?_⟩
 .rcases h with(q|q)|q
  .exact À q
  .exact Á<|by rw[a];exact À q
  .exact Á<|by rw[a];exact Á q
 .rcases h with q|q
  .exact À<|À q
  .rw[a]at q;exact q.elim (λz=>À<|Á z) Á
theorem Lw{l x:fc}(c:x.r=λ_=>False)(b:x.N=l.C):(qK l x).C=x.C:=by
 funext a;refine propext ⟨λh=>Á (by rwa[b]),λh=> ?_⟩;rcases h with q|q
 .grind
 .rwa[b]at q
def fh.aiq{l:fc}(s:gw l){x:fc}(h:fh P yQ J x g):x.I=l.M->x.r=(λ_=>False)->x.N=l.C->x.K=l.K->x.q=l.q->fI l l.w x.w->(∀j,x.O j->l.w.heap.size<=j)->ki x-> fh P yQ (λb c=>∃a,J a c/\b=qK l a/\jL l b/\a.I=l.M/\a.N=l.C/\a.r=λ_=>False) (qK l x) g:=by
 induction h with
 |@fA x g h=>
  intro m f d o B p v E;refine .fA λc r=>⟨{x with w:=c},(h c ⟨r.r,λj b=>r.I j (by rwa[YC m]),λy a=>r.N y (by rwa[Lw f d]),λy a=>r.Y y (by rwa[Lw f d]),r.S⟩),U,?_,m,d,f⟩
  .refine⟨λj b=>Á b,λj b=>b.elim (λq=>Á<|v j q) À,U,U,U,o,B,p.ff ⟨r.r,λj b=>r.I j (b.elim (λq=>À<|Á q) Á),λy a=>r.N y a,λy a=>r.Y y a,λy a=>r.S y ?_⟩,λj b=> ?_⟩
   .show x.K y;rwa[o]
   .refine Ê ?_ r.r;rcases b with q|q
    .exact E j q
    .exact Ê (s.fx j<|À q) p.r
 |@jv x g G' W' E' L' iH h hd _ ih=>
  intro m f d o B p v E;refine .mk iH λc r=> ?_;have i:fI x x.w c:=⟨r.r,λj b=>r.I j (by rwa[YC m]),λy a=>r.N y (by rwa[Lw f d]),λy a=>r.Y y (by rwa[Lw f d]),r.S⟩;have D:=hd c i;have n:=Ù p.r i.r;have z:∀j,j<l.w.heap.size->¬x.O j:=λj b q=>by have:=v j q;omega
  have t:∀y:Č,¬x.r y:=λy q=>by rwa[f]at q
  have F:fI l c (W' c):=⟨D.C,λj b=>D.jO j (Ê (s.fx j b) n) (z j<|s.fx j b) λy _=>t y,λy a=>D.N y (Ê (s.I y a) n) (z _<|s.I y a)<|t y,λy a=>KM<|D.Y y (Ê (s.I y a) n)<|z _<|s.I y a,λy a q=>by rwa[D.N y (Ê (s.S y a).2.1 n) (z _ (s.S y a).2.1)<|t y]⟩;refine⟨G' c,W' c,E' c,qK l<|L' c,h c i,?_,(ih c i (D.I.trans m) (D.r.trans f) (D.M.trans d) (D.k.trans o) (D.q.trans B) (by rw[D.b];exact(p.ff ⟨i.r,λj b=>i.I j (Á<|by rwa[m]),λy a=>i.N y (Á<|by rwa[d]),λy a=>i.Y y (Á<|by rwa[d]),λy a=>i.S y<|by rwa[o]⟩).ff F) (λj b=>(D.S j b).elim (v j) λq=>Ù n q) λj b=>by rw[D.b];exact D.fx j b)⟩
  .refine⟨D.C,λj b=> ?_,λj b=> ?_,U,U,U,D.k,λj b u G=>D.jO j b (λq=>u<|À q) λy _=>t y,λy a u G=>D.N y a (λq=>u<|À q)<|t y,λy a u=>D.Y y a λq=>u<|À q,D.f,D.g,D.m,λe H=>aip (D.I.trans m) (D.r.trans f) (D.M.trans d)<|D.c e H,D.h,D.q,λI=> ?_,D.b⟩
   .rcases b with q|q
    .exact(D.S j q).imp À id
    .exact À<|Á q
   .rcases b with q|q
    .exact D.fx j q
    .exact Ê (s.fx j<|À q)<|Ù n D.C
   .let⟨L,N,Q⟩:=D.i I;exact⟨L,N,by funext j;show((L' c).O j\/l.O j)=(x.O j\/l.O j);rw[Q]⟩
theorem fh.lZ{l:fc}(s:gw l)(h:fh P yQ J (fu.lZ l) g):fh P yQ (λe j=>∃b,J b j/\e=qK l b/\jL l e/\b.I=l.M/\b.N=l.C/\b.r=λ_=>False) l g:=by
 have:=h.aiq s U U U U U (fI.fT _ _) (λj q=>q.elim) λj q=>q.elim;have e:qK l (fu.lZ l)=l:=by
  have:(λb=>False\/l.O b)=l.O:=by funext b;simp
  unfold qK fu.lZ;simp only[this]
 grind
end
structure iC(E:Č->Prop)(l l':fc):Prop where
 O:∀j,l.O j->l'.O j
 h:∀j,l'.O j->l.O j\/l.w.heap.size<=j
 Y:l'.I=l.I
 I:l'.r=l.r
 c:l'.N=l.N
 K:l'.K=l.K
 q:l'.q=l.q
 d:l'.d=l.d
 fx:ki l'
 f:l.w.heap.size<=l'.w.heap.size
 r:∀j,l.M j->l'.w.heap[j]?=l.w.heap[j]?
 e:∀a,l.C a->¬E a->l'.w.cell? a=l.w.cell? a
 S:∀a,l.C a->l'.w.frozen? a=l.w.frozen? a
 b:∀a,l.K a->(l.w.cell? a).isSome=Î->(l'.w.cell? a).isSome=Î
 g:∀a,E a->(l.w.cell? a).isSome=Î->(l'.w.cell? a).isSome=Î
section
variable{E:Č->Prop}{l l' l'':fc}
def iC.fT(h:ki l):iC E l l:=⟨λ_ h=>h,λ_ h=>À h,U,U,U,U,U,U,h,Æ _,λ_ _=>rfl,λ_ _ _=>rfl,λ_ _=>rfl,λ_ _ h=>h,λ_ _ h=>h⟩
def iC.C(h:iC E l l'):l'.C=l.C:=by unfold fc.C;rw[h.I,h.c]
def iC.M(h:iC E l l')(a:l.M b):l'.M b:=a.imp (h.O b)<|by rw[h.Y];exact id
def iC.QU(h:iC E l l')(f:∀a,E a->l.r a)(k:jL l' l'')(g:l''.d=l'.d):iC E l l'':=by have e:=h.C;refine⟨λj c=>k.O j<|h.O j c,λj c=>(k.a j c).elim (h.h j) λq=>Á<|Ù h.f q,k.I.trans h.Y,k.N.trans h.I,k.Y.trans h.c,k.K.trans h.K,k.q.trans h.q,g.trans h.d,k.fx,Ù h.f k.r.r,λj c=>(k.r.I j<|h.M c).trans<|h.r j c,λa b i=>(k.r.N a<|by rwa[e]).trans<|h.e a b i,λa b=>(k.r.Y a<|by rwa[e]).trans<|h.S a b,λa b q=>k.r.S a (by rwa[h.K])<|h.b a b q,λa b q=> ?_⟩;rw[k.r.N a (by rw[e];exact À<|f a b)];exact h.g a b q
def iC.N(h:iC E l l')(b:∀a,E a->l.r a)(r:fI l' l'.w u):iC E l {l' with w:=u}:= h.QU b (l'':={l' with w:=u}) ((jL.fT h.fx).S r) U
def iC.qz(h:iC E l l')(s:gw l)(i:∀a,E a->l.r a){x:Č}(f:E x)(k:x.spot=Í)(m:(l'.w.cell? x).isSome=Î):iC E l {l' with w:=l'.w.setCell x v}:=by
 refine⟨h.O,h.h,h.Y,h.I,h.c,h.K,h.q,h.d,λj c=> ?_,?_,λj c=>(lk λe=>s.N x (À<|i x f)<|e▸c).trans<|h.r j c,λa b g=>((Cc k λe=>g<|by rwa[e]).trans<|h.e a b g),λa b=>sH.trans<|h.S a b,λa b q=>yr<|h.b a b q,λa b q=>yr<|h.g a b q⟩
 .show j<(l'.w.setCell x v).heap.size;rw[jU];exact h.fx j c
 .show l.w.heap.size<=(l'.w.setCell x v).heap.size;rw[jU];exact h.f
def iC.G(h:iC E l l')(s:gw l):gw l' where
 c b hb:=by
  rw[h.Y];rcases h.h b hb with q|q
  .exact s.c b q
  .exact λz=>by have:=s.fx b<|Á z;omega
 Y a ha:=by rw[h.c];exact s.Y a<|by rwa[<-h.I]
 N a ha hb:=by
  rw[h.C]at ha;rcases hb with q|q
  .rcases h.h _ q with z|z
   .exact s.N a ha<|À z
   .have:=s.I a ha;omega
  .rw[h.Y]at q;exact s.N a ha<|Á q
 fx b hb:=by
  rcases hb with q|q
  .exact h.fx b q
  .rw[h.Y]at q;exact Ê (s.fx b<|Á q) h.f
 I a ha:=by rw[h.C]at ha;exact Ê (s.I a ha) h.f
 S a ha:=by
  rw[h.K]at ha;let⟨c,d,e⟩:=s.S a ha;refine⟨λq=> ?_,Ê d h.f,by rwa[h.I]⟩;rcases q with q|q
  .rcases h.h _ q with z|z
   .exact c<|À z
   .omega
  .rw[h.Y]at q;exact c<|Á q
end
section
variable{X:Type}{g:Array è}{c:X->Nat->è}{m:Array Bool->X->fc->Prop}{l:fc}{b:ü}{a:Ř}{k:List ŵ}{cs:List ü}{x:X}
def II(Q:Array Ĺ)(g:Array è)(c:X->Nat->è)(m:Array Bool->X->fc->Prop)(wJ:Array Bool)(a:Ř)(l:fc):Prop:=∃x,mO Q g (c x) wJ a/\m wJ x l
def Lx(a:o.guard=Í)(y:Nat->Option Bool):â o y=Î:=by unfold â;rw[a]
def ij(h:ug Q g.size=Î)(j:mO Q g (c x) wJ a)(f:Q[i]?=Ã o)(n:o.guard=Í){md:Þ}(p:i∈Ò md Q wJ)(s:b.kind≠Ē)(t:ki l)(u:¬l.q) (v:∀d,fI l l.w d->(ß a.eval o).run P d=.ok (.value<|c x i) d) (y:∀d,fI l l.w d->∀e∈(ß a.eval o).events P d #[],wU l e) (z:∀d,fI l l.w d->m (wJ.setIfInBounds i Î) x {l with w:=d}): fh P yQ (λB C=>∃r,C=G (b.at r<|Ç Q jJ::k) cs/\II Q g c m (wJ.setIfInBounds i Î) r B) l (G (b.at a<|Ç Q (i::jJ)::k) cs):= pd f (Lx n _) s t u v y<|.fA λd r=>⟨_,U,x,j.fW h f p λ_=>rfl,z d r⟩
def QV(h:ug Q g.size=Î)(j:mO Q g (c x) wJ a)(f:Q[i]?=Ã o)(n:o.guard=Í)(e:o.dst=Í){md:Þ}(p:i∈Ò md Q wJ)(s:b.kind≠Ē)(t:ki l)(u:¬l.q){y:Č}(z:y.spot=Í)(B:p7 l y)(C:(l.w.cell? y).isSome=Î)(D:l.w.frozen? y=É) (E:∀w,(w.cell? y).isSome=Î->w.frozen? y=É->(ß a.eval o).run P w=.ok .skip (w.setCell y v)) (F:∀w,(w.cell? y).isSome=Î->w.frozen? y=É->(ß a.eval o).events P w #[]=#[⟨ý y,Î,É⟩]) (H:∀d,fI l (l.w.setCell y v) d->m (wJ.setIfInBounds i Î) x {l with w:=d}): fh P yQ (λI J=>∃r,J=G (b.at r<|Ç Q jJ::k) cs/\II Q g c m (wJ.setIfInBounds i Î) r I) l (G (b.at a<|Ç Q (i::jJ)::k) cs):=by refine aio f (Lx n _) s t u z B C e D E F (.fA λd r=>⟨_,U,x,?_,H d<|yJ r⟩);have:=j.fW h f p (v:=Â) λq=>absurd e q;rwa[e]at this
def YD(q:ug Q g.size=Î)(s:mO Q g (c x) wJ a)(p:Q[i]?=Ã o)(t:o.guard=Í){md:Þ}(u:i∈Ò md Q wJ)(v:b.kind≠Ē)(y:ki l){f:ķ}{args:Array è} (z:∀w,(ß a.eval o).run P w=.ok (.enter f args) w) (B:∀w,(ß a.eval o).events P w #[]=#[]) (C:∀d,fI l l.w d->fh P yQ (λh n=>∃e,n=G ((b.at a<|Ç Q (i::jJ)::k).finish<|c e i) cs/\m (wJ.setIfInBounds i Î) e h/\∀j,wJ.getD j É=Î->c e j=c x j) {l with w:=d} (G (ż P f args .normal)<|b.at a (Ç Q (i::jJ)::k)::cs)): fh P yQ (λh n=>∃r,n=G (b.at r<|Ç Q jJ::k) cs/\II Q g c m (wJ.setIfInBounds i Î) r h) l (G (b.at a<|Ç Q (i::jJ)::k) cs):=by
 refine .mk U λd r=>⟨G (ż P f args .normal)<|b.at a (Ç Q (i::jJ)::k)::cs,d,#[],{l with w:=d},?_,QJ d<|mA y r,?_⟩
 .rw[Ż p (Lx t _) v<|z d];unfold π;rw[B d,ć]
 .refine(C d r).fM ?_;rintro h n ⟨e,rfl,D,E⟩;refine⟨a.put o.dst<|c e i,?_,e,(s.Yx E).fW q p u λ_=>rfl,D⟩;rw[Ī,p];rfl
end
end Go.Proofs.Y.fu
namespace Go.Proofs.YtgpphkdoanciiaaGreatDoor
open Go Go.Conc Go.Conc.Lib
def Lk:ņ:={add:=62,done:=65,wait:=53,relMerge:=105,disable:=68,enable:=70,inBubble:=76,associate:=106,fatal:=107,uOr:=108,uAdd:=109,raceRead:=110,uLoad:=69,uStore:=111,disassociate:=74,semrelease:=112,acquire:=71,isAssociated:=72,uCas:=73,raceWrite:=75,semacquire:=77,orU64:=150,addU64:=151,loadU64:=127,storeU64:=152,casU64:=128,tWgP:=162,tUP:=170,tAssoc:=202,tWg:=97,tAU:=94,tU64:=36,tUint:=168,tU32:=95,tPU32:=174,tPAU:=219,tPU64:=221,tNoCopy:=90,tANoCopy:=91,tAlign64:=92}
def qL:ŭ ı Lk where
 f_add:=Tryz.func62;f_done:=Tryz.func65;f_wait:=Tryz.func53;f_relMerge:=Tryz.func105;f_disable:=Tryz.func68;f_enable:=Tryz.func70;f_inBubble:=Tryz.func76;f_associate:=Tryz.func106;f_fatal:=Tryz.func107;f_uOr:=Tryz.func108;f_uAdd:=Tryz.func109;f_raceRead:=Tryz.func110;f_uLoad:=Tryz.func69;f_uStore:=Tryz.func111;f_disassociate:=Tryz.func74;f_semrelease:=Tryz.func112;f_acquire:=Tryz.func71;f_isAssociated:=Tryz.func72;f_uCas:=Tryz.func73;f_raceWrite:=Tryz.func75;f_semacquire:=Tryz.func77;f_orU64:=Tryz.func150;f_addU64:=Tryz.func151;f_loadU64:=Tryz.func127;f_storeU64:=Tryz.func152;f_casU64:=Tryz.func128;underlying_tWgP:=Tryz.underlying162;runUnderlying_tWgP:=Tryz.runUnderlying162;sizeOf_tWgP:=Tryz.sizeOf162;isAgg_tWgP:=Tryz.isAgg162;zeroValue_tWgP:=Tryz.zeroValue162;underlying_tUP:=Tryz.underlying170;runUnderlying_tUP:=Tryz.runUnderlying170;sizeOf_tUP:=Tryz.sizeOf170;isAgg_tUP:=Tryz.isAgg170;zeroValue_tUP:=Tryz.zeroValue170;underlying_tI32:=Tryz.underlying202;runUnderlying_tI32:=Tryz.runUnderlying202;sizeOf_tI32:=Tryz.sizeOf202;isAgg_tI32:=Tryz.isAgg202;zeroValue_tI32:=Tryz.zeroValue202;underlying_tWg:=Tryz.underlying97;runUnderlying_tWg:=Tryz.runUnderlying97;sizeOf_tWg:=Tryz.sizeOf97;isAgg_tWg:=Tryz.isAgg97;zeroValue_tWg:=Tryz.zeroValue97;underlying_tAU:=Tryz.underlying94;runUnderlying_tAU:=Tryz.runUnderlying94;sizeOf_tAU:=Tryz.sizeOf94;isAgg_tAU:=Tryz.isAgg94;zeroValue_tAU:=Tryz.zeroValue94;underlying_tU64:=Tryz.underlying36;runUnderlying_tU64:=Tryz.runUnderlying36;sizeOf_tU64:=Tryz.sizeOf36;isAgg_tU64:=Tryz.isAgg36;zeroValue_tU64:=Tryz.zeroValue36;underlying_tSh:=Tryz.underlying168;runUnderlying_tSh:=Tryz.runUnderlying168;sizeOf_tSh:=Tryz.sizeOf168;isAgg_tSh:=Tryz.isAgg168;zeroValue_tSh:=Tryz.zeroValue168;underlying_tU32:=Tryz.underlying95;runUnderlying_tU32:=Tryz.runUnderlying95;sizeOf_tU32:=Tryz.sizeOf95;isAgg_tU32:=Tryz.isAgg95;zeroValue_tU32:=Tryz.zeroValue95;underlying_tPU32:=Tryz.underlying174;runUnderlying_tPU32:=Tryz.runUnderlying174;sizeOf_tPU32:=Tryz.sizeOf174;isAgg_tPU32:=Tryz.isAgg174;zeroValue_tPU32:=Tryz.zeroValue174;underlying_tPAU:=Tryz.underlying219;runUnderlying_tPAU:=Tryz.runUnderlying219;sizeOf_tPAU:=Tryz.sizeOf219;isAgg_tPAU:=Tryz.isAgg219;zeroValue_tPAU:=Tryz.zeroValue219;underlying_tPU64:=Tryz.underlying221;runUnderlying_tPU64:=Tryz.runUnderlying221;sizeOf_tPU64:=Tryz.sizeOf221;isAgg_tPU64:=Tryz.isAgg221;zeroValue_tPU64:=Tryz.zeroValue221;underlying_t0:=Tryz.underlying0;runUnderlying_t0:=Tryz.runUnderlying0;sizeOf_t0:=Tryz.sizeOf0;isAgg_t0:=Tryz.isAgg0;zeroValue_t0:=Tryz.zeroValue0;underlying_t3:=Tryz.underlying3;runUnderlying_t3:=Tryz.runUnderlying3;sizeOf_t3:=Tryz.sizeOf3;isAgg_t3:=Tryz.isAgg3;zeroValue_t3:=Tryz.zeroValue3;underlying_t4:=Tryz.underlying4;runUnderlying_t4:=Tryz.runUnderlying4;sizeOf_t4:=Tryz.sizeOf4;isAgg_t4:=Tryz.isAgg4;zeroValue_t4:=Tryz.zeroValue4;underlying_t9:=Tryz.underlying9;runUnderlying_t9:=Tryz.runUnderlying9;sizeOf_t9:=Tryz.sizeOf9;isAgg_t9:=Tryz.isAgg9;zeroValue_t9:=Tryz.zeroValue9;underlying_t20:=ŀ;runUnderlying_t20:=Tryz.runUnderlying20;sizeOf_t20:=Tryz.sizeOf20;isAgg_t20:=Tryz.isAgg20;zeroValue_t20:=Tryz.zeroValue20;underlying_t21:=Tryz.underlying21;runUnderlying_t21:=Tryz.runUnderlying21;sizeOf_t21:=Tryz.sizeOf21;isAgg_t21:=Tryz.isAgg21;zeroValue_t21:=Tryz.zeroValue21;room_tWg:=by decide+kernel
 room_tU32:=by decide+kernel
end Go.Proofs.YtgpphkdoanciiaaGreatDoor
namespace Go.Proofs.Y.fu
open Go Go.Conc Go.Proofs.Y.Lift Go.RowKit Go.Conc.Lib Go.ConcR.Gen
open Go.Proofs Go.Proofs.YtgpphkdoanciiaaGreatDoor
def YE:Array Ĺ:=#[⟨Ã 3,.load 1<|Ô 1,1, "waitgroup.go:258",#[],Í⟩,
 ⟨Ã 4,Š {callee:=Ġ (Ô 3),args:=#[],argTypes:=#[]},0, "waitgroup.go:258",#[⟨0,à⟩],Í⟩]
section
variable{Ψ:Ð->Prop}{l:fc}
def YF(b:l.K ⟨i,0,Í⟩/\l.K ⟨i,1,Í⟩)(c:lY Ψ l i)(a:SW Ψ l i l.w)(e:l.d=0)(f:¬l.q)(j:gX l ⟨n,0,Í⟩)(k:l.w.cell? ⟨n,0,Í⟩=Ã (ù<|Ã ⟨i,0,Í⟩)): fh ı É (λl g=>yt ı É i (EL ı) (kz l) g) l (G ((baseD 63).at ⟨#[ù<|Ã ⟨n,0,Í⟩,v,x,z,jQ],[pb 64 #[ù<|Ã ⟨n,0,Í⟩] #[]]⟩ [Ç YE []]) [nS ı]):=by
 apply fN (n:=30) a.1;have hF:=trivial;iterate 2 w_go fv
 u_c (ah8 U Ž fO U) fv hF
 walk_nrmf Tryz.f64;iterate 3 w_go fv
 u_c (ah7 U U U U U U U) fv hF
 walk_nrm;have m:=λw g=>aij 20 w g ŀ;repeat w_go fv
 refine Ì λ_ _=> ?_;apply nT U U (by k_ne) a.1 f j k (λw h=>by go_simp) (λw h=>by simp[go_sem,h]);walk_nrm;apply fN (n:=30) a.1;u_call qL.f_done (nm_done Lk) doneFn fv hF;refine Ì λ_ _=> ?_;apply ah1 qL b c a e;walk_nrm;apply Ls U λ_=>stepG_region_end;apply Ls U λ_=>stepG_end;refine aie U U Ž U U<|aic U U Tryz.func63 U
end
end Go.Proofs.Y.fu
