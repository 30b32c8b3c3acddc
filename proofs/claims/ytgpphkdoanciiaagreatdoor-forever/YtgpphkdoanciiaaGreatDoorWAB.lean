import Derived.Test.YtgpphkdoanciiaaGreatDoorWAA
import Derived.Conc.WgGenN3
import Derived.Conc.MuWords
import Derived.Conc.CompanyDraw
import Derived.Test.YtgpphkdoanciiaaGreatDoorRows
import Derived.Conc.WgLib
set_option linter.all false
set_option maxRecDepth 1000000
set_option maxHeartbeats 8000000
open Or renaming inl->À,inr->Á
open Go renaming undef->Â,Goroutine->Ä,deafBehind->Ï,World->Ð,execOp->Þ,Value->ã,Trace->ä,stepG->è,Frame->ø,MemOp->Ă,mem_ready->ĉ,Addr->Č,Event->đ,getD_set_true->ĝ,Program->Ğ,yielded->Ĩ,Oper->Ĭ,TypeId->ĳ,FuncId->Ĵ,resolve->ĸ,goexitEntry->Ō,Act->ō,runT->Ŏ,invoke->ś,callFunc->Ŝ,Item->Ţ,callDeferred->Ū,Deferred->Ů,Operand->Ÿ,unwind->Η,Mark->Ο,runNT->Χ,Code->θ,Loc->π
open Option renaming some->Ã,none->Í,map_eq_some_iff->Ù,isSome_iff_exists->ü,getD_some->ć
open Go.GoStatus renaming running->Å,blocked->Ü,finished->å
open Go.Item renaming inRegion->Æ,code->ĵ,inBlock->ŏ,inLoop->Ρ
open Nat renaming le_refl->Ç,lt_of_lt_of_le->Ê,le_of_eq->Ô,le_trans->Ø,le_mul_of_pos_right->â,mul_le_mul_left->ï,lt_of_not_le->ñ,zero_le->ò,add_zero->ó,le_of_not_lt->ă,and_two_pow_sub_one_eq_mod->Ą,mul_le_mul_right->č,strongRecOn->Ď,add_mul_mod_self_right->ē,lt_or_ge->ģ,mod_eq_of_lt->ļ,mul_add->ł,mod_lt->ż
open Option.some renaming inj->È,injEq->Ķ
open Bool renaming false->É,true->Ì,and_eq_true->ŀ
open Go.MemAct renaming ofEvent->Ë,touch?->Ċ,mark->ė,start->į,go->ς
open Go.Conc.Goes renaming stop->Î
open Go.ConcN renaming sumTo->Ñ,wraps_u64_63->ö,sumTo_congr->Ł
open Go.Region renaming ready->Ò,Mode->Ý,wanted->á,binds->ū
open Go.IntKind renaming u64->Ó,u32->ç,i64->Ũ
open Array renaming getElem?_eq_some_iff->Õ,append_empty->Ú,getElem?_eq_getElem->é,replicate->ê,getElem?_setIfInBounds_ne->í,mem_toList_iff->Ī
open Go.Conc renaming mem_ofEvents->Ö,crowd->ð,semEvents->õ,woken->Ā,stepG_semrelease->ą,seen_none->Ć,stepG_markAt->Ē,stepG_mark0->Ę,stepG_load_atomic->ę,Goes->İ,deafBehind_still->ĺ,parked->Ļ,stepG_add_atomic->Ľ,stepG_value->Ń,rcase->œ,stepG_none->Ŗ,goes_go->ť,stepG_enter->ŵ,QuitsD->Ź,touch_mute->ź,stepG_oper->Ζ,mem_listed->Ι,Knows->Λ,listed->η,Deaf->κ
open Go.MemOp renaming ofEvents->Û
open Go.Operand renaming tmp->ß,const->ċ,func->ŧ
open Go.ConcR renaming DC0->à
open Go.ConcR.Gen renaming x_semrelease_b->æ,x_semrelease_n->Ĕ,x_semrelease_x->ĕ,x_semrelease_f->Ė,mayWake_entry->Ĝ,x_enable_n->Ĥ,x_enable_b->ĥ,x_enable_x->Ħ,x_enable_f->ħ,x_disable_n->ń,x_disable_b->Ņ,x_disable_x->ņ,x_disable_f->Ň,x_loadU64_n->ň,x_loadU64_b->ŉ,x_loadU64_x->Ŋ,x_loadU64_f->ŋ,x_semacquire_n->ŗ,x_semacquire_b->Ř,x_semacquire_x->ř,x_semacquire_f->Ś,body_wait->ţ,nm_uLoad->ů,x_acquire_n->Ű,x_acquire_b->ű,x_acquire_x->Ų,x_acquire_f->ų,x_addU64_n->Ž,x_addU64_b->ž,x_addU64_x->ſ,x_addU64_f->Α,x_casU64_n->Β,x_casU64_b->Γ,x_casU64_x->Δ,x_casU64_f->Ε
open Go.Value renaming int->ë,pointer->ì,nilIface->ā,tuple->ı
open Go.Mark renaming enable->î,disable->ô,releaseMerge->Į,acquire->ő,write->Υ
open Go.FrameMode renaming returning->ù
open Go.Loc renaming cell->ú,mark->ŭ
open Go.Region.linearise renaming go->û
open Go.Ground renaming data->ý,phase->ũ
open Go.Act renaming eval->þ,put->Ő
open Ne renaming symm->ÿ
open Go.Deferred renaming ofValue->Ĉ
open Go.Goroutine renaming again->ď
open Go.CallKind renaming early->Đ,deferred->ľ
open Go.GStep renaming after->Ě,go->ş
open Go.Conc.Lib renaming WgLink->ě,WgLib->Ŕ,uLoadFn->Ξ
open Go.Stepped renaming next->ğ
open List renaming all_eq_true->ġ,any_eq_true->Ŀ,mem_range->Ş,mem_cons->š,range->Κ
open Go.Code renaming region->Ģ,cond->Τ,block->ε,skip->ο
open Go.Frame renaming finish_at->ĩ,enter->Ŷ
open Go.Proofs.Tryz renaming prog->ī,underlying20->Ĺ,func64->ŷ
open Go.Op renaming move->Ŧ,call->Ŭ,equalIn->Θ,binOp->Ω
variable{i n j b k m J j9 j7 j6:Nat}{w u W jX:Ð}{v x z jQ:ã}{g:Ä}{a p:Č}{h c:Int}{e t T:ĳ}{d q:Array ã}{P:Ğ}{y:ō}{B:ByteArray}{X:Nat->Prop}{O:Option Č}{l:List ã}{yQ:Bool}{K H:ō->Ð->Prop}{o:Ĭ}{D:Nat->Nat}{E:Array Ä}{L:List Ţ}{jJ:List Nat}{qX:List ø}{qQ:Ÿ}{qJ:ä}{zX:π->Prop}{zQ:List Int}{zJ:Go.TypeInfo}{xX:Ÿ->ã}{xQ:Go.Tape}{xJ:Nat×Nat}{wX:θ}{wQ:Ă}{wJ:Array Bool}{vX:List ByteArray}{vQ:ã->Ð->Prop}{vJ:Go.Exit->ō->Ð->Prop}{yX:Ý}{Q:Array Ĭ}{f:ø}{V:Array đ}{F:Ĵ}{s:Go.Func}
namespace Go.Proofs.Y.fA
open Go Go.Conc Go.Proofs.Y.Lift
open Go.ConcN (sumTo)
section
variable{F:Ph}{E:fS F}{S:Nat->Jd}{tr:Nat->gy}{c:Nat->iy}{lot:Nat->fe}{gs:Array Ä}{w':Ð}{t u:ä}{sz:Nat}
def we(h:F.M b):F.G (fM b)/\F.G (gU b):=⟨⟨b,h,À U⟩,⟨b,h,Á U⟩⟩
def wh(h:F.G a):E.Y a.block:=by obtain⟨b,c,rfl|rfl⟩:=h<;>exact À c
def iG.Y(L:iG F E lot sz w)(ok:F.Ok)(f:F.G a):∀i,i<sz->¬(lot i).C a:=by
 intro i g h;let⟨b,c,d⟩:=f;rcases L.gR i g a h with⟨k,_,e⟩|⟨p,_,e⟩
 .rcases d with rfl|rfl<;>simp[fM,gU,je]at e
 .rcases d with rfl|rfl
  .simp only[fM,jj]at e;injection e with e1 _ _;exact ok.C<|e1▸c
  .simp only[gU,jj]at e;injection e with e1 _ _;exact ok.C<|e1▸c
def iG.rQ(L:iG F E lot sz w)(c:Ps F E)(d:j+2<=E.r):∀i,i<sz->∀a:Č,a.block=E.I j->¬(lot i).C a:=by
 intro i f a b g;let⟨h,l,_⟩:=c.o j d;rcases L.gR i f a g with⟨k,m,e⟩|⟨p,_,e⟩
 .exact h<|by rw[<-b,e];exact Á ⟨k,m,U⟩
 .exact l<|by rw[<-b,e];rfl
def iG.afp(L:iG F E lot sz w):∀i,i<sz->∀a,(lot i).C a->a.spot=Í:=by intro i b a c;rcases L.gR i b a c with⟨k,_,rfl⟩|⟨p,_,rfl⟩<;>rfl
def iG.NW(L:iG F E lot sz w)(ok:F.Ok):∀i,i<sz->¬(lot i).r (jj F F.f):=by
 intro i a h;rcases L.gR i a _ (À h)with⟨k,b,e⟩|⟨p,c,e⟩
 .have:F.Y=F.I k:=by injection e
  exact ok.C<|by rw[this];exact Á ⟨k,b,U⟩
 .have:F.f=p:=by injection e
  exact c this.symm
structure Fw(F:Ph)(E:fS F)(lot:Nat->fe)(sz:Nat)(w w':Ð):Prop where
 Cx:w.heap.size<=w'.heap.size
 C:∀b,b<w.heap.size->¬E.Y b->(∀i,i<sz->¬(lot i).O b)->w'.heap[b]?=w.heap[b]?
 r:∀a:Č,((∃k,k<=F.m/\a=je F.toFx k)\/∃p,a=jj F p)->(∀i,i<sz->¬(lot i).r a)->w'.cell? a=w.cell? a
 I:kJ w' F.Y=kJ w F.Y
 M:w'.os=w.os/\w'.output=w.output
def Wd.Jj(W:Wd F E w)(H:gQ F)(L:iG F E lot sz w)(a:Fw F E lot sz w w')(f:E.S.md<=F.m){d:GS}{e:Nat->GS}(g:gZ w' F.C d)(h:∀k,k<=F.m->gZ w' (F.I k) (e k))(i:∀j,j+2<=E.r->w'.heap[E.I j]?=w.heap[E.I j]?):Wd F {E with b:=d,a:=e} w' where
 C:=g;I:=h;jB j hj:=by have:=W.jB j hj;rwa[<-i j hj]at this
 M k hk:=⟨(W.M k hk).1,H.S _ _ _ _ _ (W.M k hk).2 (λb c=>a.C b (L.I k hk b c).1 (L.I k hk b c).2.1 (L.I k hk b c).2.2) (a.r _ (À ⟨k,Ø hk f,U⟩)<|L.N k hk) (a.r _ (Á ⟨_,U⟩)<|L.NW H.C) a.I a.M⟩;S k h1 h2:=(a.r _ (Á ⟨_,U⟩)<|L.g k h1 h2).trans<|W.S k h1 h2;N j hj r hr hd:=(a.r _ (Á ⟨_,U⟩)<|L.d j hj r hr hd).trans<|W.N j hj r hr hd
def Jk(a:Ps F E):E.S.md<=F.m:=by
 cases h:E.S with
 |kF k=>exact(a.I k).1 h
 |mk k=>have:=((a.I k).2.1 h).2;simp only[jr.md];omega
 |dn k p=>exact((a.I k).2.2 p h).2
def Jl(a:Ps F E):E.S.rl<=E.S.md:=by
 cases h:E.S with
 |dn k p=>cases p<;>simp only[jr.rl,jr.md]<;>omega
 |_=>exact Ç _
def NY(a:jr):a.od<=a.rl:=by
 cases a with
 |dn k p=>cases p<;>simp only[jr.rl,jr.od]<;>omega
 |_=>exact Ç _
def Ww{x:Nat}(h:E.iq x):E.nU x:=by let⟨e,a,b⟩:=h;exact⟨e,a,by cases e<;>first|exact b|trivial⟩
def Jm{l a:fe}(h:l=kr l)(b:mh l a w w' V):a=kr a:=by
 have j:l.q:=by rw[h];trivial
 have c:a.O=λ_=>False:=by rw[(b.i j).2.2,h];rfl
 have e:a.I=λ_=>False:=by rw[b.I,h];rfl
 have f:a.r=λ_=>False:=by rw[b.r,h];rfl
 have g:a.N=λ_=>False:=by rw[b.M,h];rfl
 have i:a.q=True:=by rw[b.q,h];rfl
 obtain⟨O,k,m,n,d,q,o⟩:=a;simp only at c e f g i;subst c e f g i;rfl
theorem iG.fq(L:iG F E lot gs.size w)(C:iP F.S (λi=>i<gs.size) E.Y lot w t){m:fe}(J:i<gs.size)(d:mh (lot i) m w w' V):iG F E (gu lot i m) gs.size w':=by
 have K:∀x,E.nU x->i=F.L+x->m=kr m:=λx p e=>Jm (e▸L.S x p) d;have M:=λc l=>Jm (L.c i c l) d;have B:∀k a,(gu lot i m k).C a↔(lot k).C a:=λk a=>by
  by_cases e:k=i
  .subst e;rw[gS];unfold fe.C;rw[d.r,d.M]
  .rw[gG lot _ e]
 have n:∀k,(gu lot i m k).r=(lot k).r:=λk=>by
  by_cases e:k=i
  .subst e;rw[gS,d.r]
  .rw[gG lot _ e]
 have s:∀k,(gu lot i m k).N=(lot k).N:=λk=>by
  by_cases e:k=i
  .subst e;rw[gS,d.M]
  .rw[gG lot _ e]
 have u:∀k,(gu lot i m k).I=(lot k).I:=λk=>by
  by_cases e:k=i
  .subst e;rw[gS,d.I]
  .rw[gG lot _ e]
 refine⟨λk f a v=>L.gR k f a<|(B k a).1 v,λx c l a v=>by rw[n];exact L.o x c l a v,λh=>by rw[s,u];exact L.lC h,λh k c l=>by rw[n];exact L.e h k c l,λh o=>by rw[s,u];exact L.f h o,λj g o r y c=>by rw[n];exact L.h j g o r y c,λj g o=>by rw[s,u];exact L.l j g o,λx p=> ?_,λk f=> ?_,λk c l=> ?_,λk f b D=> ?_,λk f j g=>by rw[n];exact L.N k f j g,λk c l j g=>by rw[n];exact L.g k c l j g,λj g r y G k f=>by rw[n];exact L.d j g r y G k f⟩
 .by_cases e:F.L+x=i
  .grind [gS]
  .rw[gG lot _ e];exact L.S x p
 .by_cases e:k=i
  .subst e;rw[gS,d.q];exact L.M k f
  .rw[gG lot _ e];exact L.M k f
 .by_cases e:k=i
  .grind [gS]
  .rw[gG lot _ e];exact L.c k c l
 .let⟨H,I,N⟩:=L.I k f b D;refine⟨Ê H d.C,I,λj g=> ?_⟩;by_cases e:j=i
  .subst e;rw[gS];intro q;rcases d.S b q with z|z;all_goals grind
  .grind [gG]
def afq(C:iP F.S (λi=>i<gs.size) E.Y lot w t){h:fe}(d:i<gs.size)(c:mh (lot i) h w w' V):Fw F E lot gs.size w w':= ⟨c.C,λb j e f=>c.jL b j (f i d) λa g q=>e<|g▸C.e i d a (À q),λa g f=>by
   have e:E.Y a.block:=by
    rcases g with⟨k,l,rfl⟩|⟨p,rfl⟩
    .exact À<|Á ⟨k,l,U⟩
    .exact Á<|À U
   exact c.N a (C.N _ e) (λq=>C.I i d _ (À q) e)<|f i d,
  c.Y (jj F 0) (C.N _ (Á (À U))) λq=>C.I i d _ (À q) (Á (À U)),c.f,c.g⟩
def Wx(L:iG F E lot gs.size w)(ok:F.Ok)(C:iP F.S (λi=>i<gs.size) E.Y lot w t){g:fe}(e:i<gs.size)(c:mh (lot i) g w w' V)(f:F.M b){G:GS}(h:gZ w b G):gZ w' b G:=by have a:E.Y b:=À f;have d:=λq=>C.I i e _ (À q) a;exact h.uS (c.N (fM b) (C.N _ a) d λq=>(L.Y ok (we f).1 i e)<|À q) (c.N (gU b) (C.N _ a) d λq=>(L.Y ok (we f).2 i e)<|À q) (I3<|c.Y (fM b) (C.N _ a) d)<|I3<|c.Y (gU b) (C.N _ a) d
def afr(L:iG F E lot gs.size w)(e:Ps F E)(C:iP F.S (λi=>i<gs.size) E.Y lot w t){f:fe}(b:i<gs.size)(g:mh (lot i) f w w' V)(c:j+2<=E.r):w'.heap[E.I j]?=w.heap[E.I j]?:=by have d:E.Y (E.I j):=Á<|Á ⟨j,c,U⟩;exact g.jL _ (C.N _ d) (λq=>C.I i b _ (À q) d) λa h q=>L.rQ e c i b a h<|À q
theorem afs(L:iG F E lot gs.size w)(H:Ps F E)(ok:F.Ok)(C:iP F.S (λi=>i<gs.size) E.Y lot w t)(P:gs.size=F.L+E.r){m:fe}{p:Array đ}{u:Ĵ}{B:String}(o:i<gs.size)(g:mh (lot i) m w w' p): Jh F.toFx E.r (E.S.rl) E.V E.d E.iq t (Û i u B p) i:=by
 have J:∀x,E.iq x->i=F.L+x->m=kr m:=λx l e=>Jm (e▸L.S x (Ww l)) g;have D:∀c∈Û i u B p,∀a,c.act.touch?=Ã a->∃y:Č,a.loc=ú y/\(m.O y.block\/m.r y\/((m.I y.block\/m.N y)/\a.write=É)):=λc d a n=>by obtain⟨e,r,rfl⟩:=Ö d;exact Wc (g.c e r) n
 have I:m=kr m->∀c∈Û i u B p,c.act.touch?=Í:=λe c d=>by
  cases h:c.act.touch? with
  |none=>rfl
  |some a=>
   let⟨y,_,q⟩:=D c d a h;rw[e]at q;rcases q with q|q|⟨q|q,_⟩<;>exact q.elim
 refine⟨λc d _ _=>nT c d,?_,λc d a x n G l=> ?_,λc d a y n Q G k h s=> ?_,λc d b _ e=> ?_,λx l K=> ?_⟩
 .by_cases j:i=0
  .exact À j
  .by_cases f:i<F.L
   .exact Á<|Á<|I<|(λh s=>Jm (L.c i h s) g) Z f
   .exact Á<|À ⟨i-F.L,Z,Z⟩
 .exfalso;let⟨y,j,q⟩:=D c d a n;rw[G]at j;injection j with j;subst j;have f:=wh (E:=E) l;have v:=L.Y ok l i o;rcases q with q|q|⟨q|q,_⟩
  .rcases g.S _ q with z|z
   .exact C.I i o _ (À z) f
   .have:=C.N _ f;omega
  .exact v<|À<|by rwa[<-g.r]
  .exact C.I i o _ (Á<|by rwa[<-g.I]) f
  .exact v<|Á<|by rwa[<-g.M]
 .have j:=Ø s<|Jl H;let⟨x,l,q⟩:=D c d a n;rw[G]at l;injection l with l;subst l;rcases q with q|q|⟨_,q⟩
  .refine⟨λv=> ?_,λe=> ?_⟩
   .let⟨M,_,N⟩:=L.I k j _ v;rcases g.S _ q with z|z;all_goals grind
   .have f:E.Y y.block:=by rw[e];exact À<|Á ⟨k,Ø j<|Jk H,U⟩
    rcases g.S _ q with z|z
    .exact C.I i o _ (À z) f
    .have:=C.N _ f;omega
  .refine⟨λv=>((L.I k j _ v).2.1<|C.e i o y<|À<|by rwa[<-g.r]),λe=>(L.N k j i o<|by rwa[<-g.r,<-e])⟩
  .grind
 .obtain⟨j,r,rfl⟩:=Ö d;have v:=g.c j r;let⟨M,N,S⟩:=j;simp only[Ë]at e;rcases v with⟨a,h,_⟩|h|⟨f,h⟩|h|h|⟨a,_,h|h|h|h⟩<;>(simp only at h;subst h;simp at e)
 .by_cases e:F.L+x=i
  .have v:=I<|J x K e.symm;refine⟨λr f=>f.app λj S T M=> ?_,λ_ c d a n=>by rw[v c d]at n;cases n⟩;let⟨z,N,_⟩:=M;rcases mI (show touchAt (t++_) j=Ã z from N)with⟨q,_⟩|⟨_,c,h,s,_⟩;all_goals grind
  .exact⟨λr f=>f.appOther nT<|ÿ e,λj=>absurd j e⟩
end
abbrev sY:=Nat×Nat×gy
def ya(x y:sY):Prop:=x.1<y.1\/(x.1=y.1/\(x.2.1<y.2.1\/(x.2.1=y.2.1/\Wi x.2.2 y.2.2)))
def Wy:WellFounded ya:=by
 refine⟨λx=> ?_⟩;let⟨a,b,c⟩:=x
 induction a using Ď generalizing b c with
 |_ a j=>
  induction b using Ď generalizing c with
  |_ b k=>
   induction Wj.apply c with
   |intro c _ l=>
    refine⟨_,λy h=> ?_⟩;let⟨m,f,e⟩:=y;rcases h with h|⟨d,h|⟨g,i⟩⟩
    .exact j m h f e
    .simp only at d h;subst d;exact k f h e
    .simp only at d g i;subst d g;exact l e i
def afu(x:sY):¬ya x x:=by
 intro h
 induction Wy.apply x with
 |intro x _ a=>exact a x h h
def B9(n:Nat)(f g:Nat->sY):Prop:=∃i,i<n/\ya (f i) (g i)/\∀j,j<n->j≠i->f j=g j\/ya (f j) (g j)
def Wz:∀(n:Nat) (g:Nat->sY),Acc (B9 n) g
 |0,g=>⟨_,λf ⟨i,h,_⟩=>absurd h Z⟩
 |n+1,g=>by
  have k:∀(x:sY) (h:Nat->sY),∀g:Nat->sY,g n=x->(∀j,j<n->g j=h j)->Acc (B9<|n+1) g:=by
   intro x
   induction Wy.apply x with
   |intro x _ l=>
    intro h
    induction Wz n h with
    |intro h _ m=>
     intro g b c;refine⟨_,λf ⟨i,r,a,d⟩=> ?_⟩;by_cases e:f n=g n
     .have s:i≠n:=by
       intro q;subst q;rw[e]at a;exact afu _ a
      refine m f ⟨i,Z,by rwa[<-c i Z],λj o p=> ?_⟩ f (e.trans b) λ_ _=>rfl;rw[<-c j o];exact d j Z p
     .have:ya (f n) x:=by
       rw[<-b];by_cases q:n=i
       .rwa[q]
       .exact(d n Z q).resolve_left e
      exact l _ this f f U λ_ _=>rfl
  exact k (g n) g g U λ_ _=>rfl
abbrev Mu:=(Nat->sY)×Nat
def oP(n:Nat)(x y:Mu):Prop:=B9 n x.1 y.1\/((∀j,j<n->x.1 j=y.1 j)/\x.2<y.2)
def afv(n:Nat):WellFounded (oP n):=by
 have e:∀h:Nat->sY,∀k:Nat,∀g:Nat->sY,(∀j,j<n->g j=h j)->Acc (oP n) (g,k):=by
  intro h
  induction Wz n h with
  |intro h _ l=>
   intro k
   induction k using Ď with
   |_ k m=>
    intro g a;refine⟨_,λy q=> ?_⟩;let⟨f,b⟩:=y;rcases q with⟨i,c,o,x⟩|⟨p,r⟩
    .exact l f ⟨i,c,by rwa[<-a i c],λj d s=>by rw[<-a j d];exact x j d s⟩ b f λ_ _=>rfl
    .exact m b r f λj x=>(p j x).trans<|a j x
 exact⟨λx=>e x.1 x.2 x.1 λ_ _=>rfl⟩
section
variable(F:Ph)
def jA.rk(n:Nat):jA->Nat
 |.jy=>n+1011
 |.iE=>n+1010
 |.gB W=>min W (n+1000)+4
 |.jb W=>min W (n+1000)+3
 |.iz r=>min r (n+1000)+2
def jm.rk:jm->Nat
 |.iW=>7
 |.lR _=>6
 |.wr=>5
 |.kq=>4
 |.gB=>3
 |.kR=>2
def fU.rk(F:Ph):fU->Nat
 |.iE j=>F.q+F.n+20+4*(F.n-j)+7
 |.rd j=>F.q+F.n+20+4*(F.n-j)+6
 |.lh j=>F.q+F.n+20+4*(F.n-j)+5
 |.go j=>F.q+F.n+20+4*(F.n-j)+4
 |.iJ r=>r+F.n+11
 |.kK r=>r+10
 |.fy p=>p.rk+2
 |.fZ=>0
def jr.rk(F:Ph):jr->Nat
 |.kF k=>(F.n+3000)*(F.m+2-k)+2900
 |.mk k=>(F.n+3000)*(F.m+3-k)+2800
 |.dn k p=>(F.n+3000)*(F.m+2-k)+2901+p.rk F.n
def gM.rk(F:Ph):gM->Nat
 |.mW r=>(F.n+3000)*(F.q+3-r)
 |.fy r p=>(F.n+3000)*(F.q+3-r)-20+p.rk
 |.jD r=>(F.n+3000)*(F.q+3-r)-30
 |.oh r=>(F.n+3000)*(F.q+3-r)-40
def ig.rk(F:Ph):ig->Nat×Nat
 |.ot=>(F.n+2900,0)
 |.fZ p=>(p.rk F.n,0)
 |.jl N=>(0,N)
end
def SP.rk(B:Nat)(st:Int):SP->Nat
 |.fY k=>B+2+k
 |.ld v k=>if st=v then k+1 else 2*B+3+k
def jm.kY(B:Nat)(st:Int):jm->Nat
 |.lR p=>p.rk B st
 |_=>0
section
variable{F:Ph}
def fS.iQ(E:fS F)(tr:Nat->gy)(i:Nat):sY:=
 if i=0 then(E.M.rk F,0,tr 0)
 else if i<F.L then(0,E.h i,.fB)
 else match E.N (i-F.L)with
  |some e=>((e.rk F).1,(e.rk F).2,tr i)
  |none=>if i=F.L then(E.S.rk F,0,tr i)else((E.C<|i-F.L-1).rk F,0,tr i)
def fS.kY(E:fS F)(i:Nat):Nat:=
 if i=0 then(match E.M with|.fy p=>p.kY F.B E.b.st|_=>0)
 else if i<=F.L then 0
 else match E.C (i-F.L-1)with|.fy r p=>p.kY F.B (E.a<|F.r<|i-F.L-1+r*F.n).st|_=>0
def gi(gs:Array Ä)(i:Nat):Nat:=if(gs[i]?).any (·.status==.running)then 1 else 0
def Ph.N(F:Ph):Nat:=F.L+F.n+1
def fS.mu(E:fS F)(a:Nat->gy)(b:Array Ä):Mu:=(E.iQ a,Ñ F.N λi=>(F.N+1)*E.kY i+gi b i)
end
theorem Fy{b x:Ä}(h:(Ā P g b w x).status=Ü):Ā P g b w x=x/\x.status=Ü:=by
 unfold Ā at h|-;split at h
 .rename_i c;rw[if_pos c];unfold ď at h|-;grind
 .grind
section
variable{F:Ph}{E:fS F}{S:Nat->Jd}{tr:Nat->gy}{d:Nat->iy}{lot:Nat->fe}{gs gs':Array Ä}{w':Ð}{t u:ä}{sl:Option (Nat×Nat)}
def fi.Fl(h:fi F E gs w)(o:gs'[i]?=Ã g)(p:g.status≠Ü)(t:∀k,k≠i->∃a f:Ä,gs'[k]?=gs[k]?.map (Ā F.P a f w'))(u:∀j,j+2<=E.r->w'.heap[E.I j]?=w.heap[E.I j]?):fi F E gs' w':=by
 intro k x b l;by_cases e:k=i
 .subst e;rw[o]at b;obtain rfl:=È b;exact absurd l p
 .let⟨a,f,q⟩:=t k e;rw[q]at b;obtain⟨y,v,rfl⟩:=Ù.1 b;let⟨_,z⟩:=Fy l;rcases h k y v z with h1|⟨j,c,m,n,d|⟨r,B,s,C,d,D⟩⟩
  .exact À h1
  .exact Á ⟨j,c,m,n,À d⟩
  .exact Á ⟨j,c,m,n,Á ⟨r,B,s,C,d,by rwa[u j c]⟩⟩
def lj{J:Jd}(a:∀l g,J l g->g.status=Å\/g.status=å){l:fe}(h:fj P yQ J l g):g.status=Å\/g.status=å:=by
 cases h with
 |fB h=>exact a _ _<|h _<|fI.fT _ _
 |jF _ _ _ _ b=>exact À b
def afw(H:gQ F)(p:PI F m zX E S tr d lot gs w t){i:Nat}(hi:i<gs.size):∀l g,S i l g->g.status=Å\/g.status=å:=by
 have dn:∀(main:Bool) (b:Nat) (J:Jd),(∀l g,J l g->g.status=Å\/g.status=å)->∀(p:jA) l g,Cu F.P main b J p l g->g.status=Å\/g.status=å:=by
  intro main b J hJ p l g h;cases p with
  |jy=>exact À h.2.1
  |iE=>exact À h.2.1
  |gB W=>exact À h.2.1
  |jb W=>exact À h.2.1
  |iz r=>cases r with
   |zero=>exact hJ l g h
   |succ r=>exact À h.2.1
 have wt:∀(main:Bool) (b:Nat) (J:Jd) (p:jm) l g,qg F.P main F.B b J p l g->g.status=Å:=by
  intro main b J p l g h;cases p with
  |iW=>let⟨k,_,_,T,h1,h2⟩:=h;exact(h2 _ _ h1).1
  |lR p=>let⟨_,T,h1,h2⟩:=h;exact(h2 _ _ h1).1
  |wr=>exact h.2.1
  |kq=>exact h.2.1
  |gB=>exact h.2.1
  |kR=>exact h.2.1
 intro l g h;by_cases e0:i=0
 .subst e0;rw[p.h.1]at h;cases hm:E.M with
  |go j=>rw[hm]at h;exact À<|H.I _ _ _ _ h
  |lh j=>rw[hm]at h;let⟨c,h⟩:=h;exact À<|H.I _ _ _ _ h
  |rd j=>rw[hm]at h;exact À h.2.1
  |iE j=>rw[hm]at h;exact À h.2.1
  |iJ r=>
   rw[hm]at h;have cl:∀r l g,Ad F E.I r l g->g.status=Å:=λr l g h=>by
    cases r with
    |zero=>exact wt _ _ _ .iW _ _ h
    |succ r=>exact h.1
   cases r with
   |zero=>exact À<|cl _ _ _ h
   |succ r=>exact À h.1
  |kK r=>
   rw[hm]at h;cases r with
   |zero=>exact À<|wt _ _ _ .iW _ _ h
   |succ r=>exact À h.1
  |fy p=>rw[hm]at h;exact À<|wt _ _ _ _ _ _ h
  |fZ=>rw[hm]at h;exact À<|H.M _ _ _ h
 by_cases e1:i<F.L
 .rw[(p.l i Z e1).1]at h;exact QuitsD.status h
 have j1:=p.b;obtain⟨x,rfl⟩:∃x,i=F.L+x:=⟨i-F.L,Z⟩;cases he:E.N x with
 |some e=>
  rw[(p.k x e Z he).1]at h;cases e with
  |ot=>exact À h.2.1
  |fZ p=>exact dn _ _ _ (λl g ⟨N,h⟩=>h.status) _ _ _ h
  |jl N=>exact QuitsD.status h
 |none=>
  cases x with
  |zero=>
   rw[ó,(p.m Z he).1]at h;cases hm:E.S with
   |kF k=>rw[hm]at h;exact À<|H.N _ _ _ h
   |mk k=>rw[hm]at h;let⟨s',V,_,_,_,_,h⟩:=h;exact À h.2.1
   |dn k p=>rw[hm]at h;exact dn _ _ _ (λl g h=>lj (λl g h=>À<|H.N _ _ _ h) h) _ _ _ h
  |succ j=>
   rw[show F.L+(j+1)=F.L+1+j by omega,(p.g j Z he).1]at h;cases hm:E.C j with
   |mW r=>rw[hm]at h;exact À h.1
   |fy r p=>rw[hm]at h;exact À<|wt _ _ _ _ _ _ h
   |jD r=>rw[hm]at h;exact À<|H.Y _ _ _ _ h
   |oh r=>rw[hm]at h;exact À h.2.1
theorem afx{T:gy}(h:k≠i):E.iQ (fx tr i T) k=E.iQ tr k:=by unfold fS.iQ;grind [fH]
theorem afy{k:Ð->gy}(a:tr i=.jF k)(b:¬(0<i/\i<F.L)):ya (E.iQ (fx tr i<|k w) i) (E.iQ tr i):=by
 unfold fS.iQ;split
 .rename_i e;subst e;rw[gE,a];exact Á ⟨U,Á ⟨U,w,U⟩⟩
 .split
  .grind
  .rw[gE,a];split
   .exact Á ⟨U,Á ⟨U,w,U⟩⟩
   .split<;>exact Á ⟨U,Á ⟨U,w,U⟩⟩
theorem PI.fq(H:gQ F)(p:PI F m zX E S tr d lot gs w t){k:Ð->gy}(y:gs[i]?=Ã g)(o:tr i=.jF k): ∃gs' w' u e q,Ŏ F.P (ð gs w sl) i=(ğ<|ð gs' w' sl,u)/\gs'.size=gs.size/\PI F m zX E S e d q gs' w' (t++u)/\oP F.N (E.mu e gs') (E.mu tr gs):=by
 have c:=(Õ.1 y).1;let⟨gs',w',W,X,D,z,⟨Y,G,I⟩,J,f,K⟩:=p.I.fq (sl:=sl) y o<|afw H p c;have M:¬(0<i/\i<F.L):=λ⟨a,b⟩=>by rw[(p.l i a b).2.1]at o;cases o
 have C:=p.I.r;have B:∀j,j+2<=E.r->w'.heap[E.I j]?=w.heap[E.I j]?:=λj v=>afr p.a p.C C c f v;have O:i<F.N:=by
  have:=p.b;have:E.r<=F.n+1:=by
   unfold fS.r;cases e:E.M with
   |go j=>have:=p.C.C j<|À e;simp only[fU.sp];omega
   |lh j=>have:=p.C.C j<|Á<|À e;simp only[fU.sp];omega
   |rd j=>have:=p.C.C j<|Á<|Á<|À e;simp only[fU.sp];omega
   |iE j=>have:=p.C.C j<|Á<|Á<|Á e;simp only[fU.sp];omega
   |_=>simp only[fU.sp];omega
  unfold Ph.N;omega
 refine⟨gs',w',_,_,_,D,z,⟨z.trans p.b,K,p.h,p.m,p.g,λx e h l=> ?_,λs h l=> ?_,?_,p.M.Jj H p.a (afq (E:=E) C c f) (Jk p.C) (Wx p.a H.C C c f (À U) p.M.C) (λs q=>Wx p.a H.C C c f (Á ⟨s,q,U⟩)<|p.M.I s q) B,p.C,p.d.C<|afs p.a p.C H.C C p.b c f,p.c.Fl G (by rcases I with q|q<;>rw[q]<;>simp) J B,λj r h l q=>(p.f j r h l q).app _⟩,À ⟨i,O,afy o M,λj _ v=>À<|afx v⟩⟩
 .let⟨Q,T,V⟩:=p.k x e h l;grind [fH]
 .let⟨Q,T,V⟩:=p.l s h l;grind [fH]
 .have:=p.a.fq C c f;grind
end
end Go.Proofs.Y.fA
namespace Go.Proofs.Y.fA
open Go Go.Conc Go.Proofs.Y.Lift
open Go.ConcN (sumTo sumTo_congr)
def afz{J b:Jd}(c:∀l g,J l g->b l g):∀{T:gy} {l:fe} {g:Ä},kQ P yQ J T l g->kQ P yQ b T l g:=by
 intro T
 induction T with
 |fB=>exact λh a r=>c _ _<|h a r
 |jF k d=>
  intro l g h;refine⟨h.1,λa r=> ?_⟩;let⟨e,f,i,j,m,n,o⟩:=h.2 a r;exact⟨e,f,i,j,m,n,d a o⟩
section
variable{F:Ph}{E E':fS F}{S:Nat->Jd}{tr d:Nat->gy}{kp:Nat->iy}{c:Nat->fe}{gs gs':Array Ä}{u:ä}{sl:Option (Nat×Nat)}
theorem gK.kF{Y:Nat->Prop}(a:gK P n Y S tr kp c gs w qJ){J:Jd}(h:∀l g,S i l g->J l g):gK P n Y (fx S i J) tr kp c gs w qJ:=by
 refine⟨a.r,λk x b=> ?_,a.I⟩;let⟨g0,d,f⟩:=a.C k x b;by_cases e:k=i
 .subst e;rw[gE];exact⟨g0,afz h d,f⟩
 .grind [fH]
def Cy:E.iQ tr 0=(E.M.rk F,0,tr 0):=by simp[fS.iQ]
theorem Jn(ok:F.Ok){x:Nat}{e:ig}(a:E.N x=Ã e):E.iQ tr (F.L+x)=((e.rk F).1,(e.rk F).2,tr<|F.L+x):=by have:=ok.r;unfold fS.iQ;grind
theorem WA(ok:F.Ok)(a:E.N 0=Í):E.iQ tr F.L=(E.S.rk F,0,tr F.L):=by have:=ok.r;unfold fS.iQ;grind
theorem sZ(ok:F.Ok)(a:E.N (j+1)=Í):E.iQ tr (F.L+1+j)=((E.C j).rk F,0,tr<|F.L+1+j):=by have:=ok.r;unfold fS.iQ;grind
theorem yb(a:k=0->E'.M.rk F=E.M.rk F)(b:0<k->k<F.L->E'.h k=E.h k)(c:F.L<=k->E'.N (k-F.L)=E.N (k-F.L))(e:k=F.L->E.N 0=Í->E'.S.rk F=E.S.rk F)(f:F.L<k->E.N (k-F.L)=Í->(E'.C<|k-F.L-1).rk F=(E.C<|k-F.L-1).rk F)(g:d k=tr k):E'.iQ d k=E.iQ tr k:=by unfold fS.iQ;grind
def Fz(a:i<F.N)(h:ya (E'.iQ d i) (E.iQ tr i))(b:∀k,k≠i->E'.iQ d k=E.iQ tr k):oP F.N (E'.mu d gs') (E.mu tr gs):= À ⟨i,a,h,λj _ c=>À<|b j c⟩
def Cz(a:Ps F E):E.r<=F.n+1:=by
 unfold fS.r;cases b:E.M with
 |go j=>have:=a.C j<|À b;simp only[fU.sp];omega
 |lh j=>have:=a.C j<|Á<|À b;simp only[fU.sp];omega
 |rd j=>have:=a.C j<|Á<|Á<|À b;simp only[fU.sp];omega
 |iE j=>have:=a.C j<|Á<|Á<|Á b;simp only[fU.sp];omega
 |_=>simp only[fU.sp];omega
def PI.G(p:PI F b zX E S tr kp c gs w qJ)(h:i<gs.size):i<F.N:=by have:=p.b;have:=Cz p.C;unfold Ph.N;omega
def gO(E:fS F)(j:Nat)(x:gM):fS F:={E with C:=fx E.C j x}
theorem jG(j:Nat)(x:gM):(gO E j x).C j=x:=gE _ _ _
theorem iM(x:gM)(h:i≠j):(gO E j x).C i=E.C i:=fH _ _ h
theorem WB{x:gM}(h:∀k,x.gD F j k=(E.C j).gD F j k)(k:Nat):(Ñ F.n λi=>((gO E j x).C i).gD F i k)=Ñ F.n λi=>(E.C i).gD F i k:=by grind [jG,iM]
def CB(ok:F.Ok){x:gM}{T:gy}(b:F.L+1+j<F.N)(a:E.N (j+1)=Í)(h:x.rk F<(E.C j).rk F):oP F.N ((gO E j x).mu (fx tr (F.L+1+j) T) gs') (E.mu tr gs):=by
 refine Fz b (À ?_) λk c=>yb (λ_=>rfl) (λ_ _=>rfl) (λ_=>rfl) (λ_ _=>rfl) (λd _=> ?_)<|fH tr _ c
 .rwa[sZ ok (E:=gO E j x) (show(gO E j x).N (j+1)=Í from a),sZ ok a,jG]
 .rw[iM x Z]
def Ps.G(h:Ps F E){x:gM}(m:j+2<=E.r)(d:E.N (j+1)=Í)(c:∀k,x.gD F j k=(E.C j).gD F j k)(f:∀r,((∃p,x=.fy r p)\/x=.jD r\/x=.oh r)->j+r*F.n<F.q) (g:∀r,(x=.fy r .gB\/x=.fy r .kR\/x=.jD r)->F.r (j+r*F.n)<=E.S.od) (i:∀r,x=.fy r .gB->∃a b,E.a (F.r<|j+r*F.n)=.gV a b) (l:∀r,x=.fy r .wr->E.d (F.r<|j+r*F.n)=Ã j):Ps F (gO E j x) where
 v:=h.v;C:=h.C;K:=h.K;L:=h.L;J:=h.J;I:=h.I;z j' ou:=by have:E.r<j'+2:=ou;rw[iM x Z];exact h.z j' ou
 d j' r ou hx:=by
  by_cases e:j'=j
  .subst e;rw[jG]at hx;exact f r hx
  .rw[iM x e]at hx;exact h.d j' r ou hx
 l j' ou hx:=by
  have e:j'≠j:=λe=>by subst e;exact hx d
  rw[iM x e];exact h.l j' ou hx
 f:=h.f;h:=h.h;M:=h.M;o:=h.o;t:=h.t;g:=h.g;u:=h.u;N:=h.N;B:=h.B;e k h1 h2 h3:=by rw[WB c];exact h.e k h1 h2 h3
 Y k h1 h2:=by rw[WB c];exact h.Y k h1 h2
 w j' r ou hx:=by
  by_cases e:j'=j
  .subst e;rw[jG]at hx;exact g r hx
  .rw[iM x e]at hx;exact h.w j' r ou hx
 H j' r ou hx:=by
  by_cases e:j'=j
  .subst e;rw[jG]at hx;exact i r hx
  .rw[iM x e]at hx;exact h.H j' r ou hx
 O:=h.O;S:=h.S;y:=h.y;D j' r ou hx:=by
  by_cases e:j'=j
  .subst e;rw[jG]at hx;exact l r hx
  .rw[iM x e]at hx;exact h.D j' r ou hx
def uU(E:fS F)(j:Nat)(x:gM)(k:Nat)(G:GS)(a:Nat->Option Nat):fS F:={gO E j x with a:=fx E.a k G,d:=a}
theorem Ps.WC(h:Ps F E){x:gM}{G:GS}{l:Nat->Option Nat}(Q:j+2<=E.r)(C:E.N (j+1)=Í)(D:∀c,c≠k->x.gD F j c=(E.C j).gD F j c) (H:1<=k->E.S.od<k->G=.cl 1 (Ñ F.n λi=>((fA.gO E j x).C i).gD F i k)) (I:k<=E.S.od->(∃W,(E.S=.dn k (.gB W)\/E.S=.dn k (.jb W))/\G=.jz W/\W=Ñ F.n λi=>((fA.gO E j x).C i).gD F i k)\/(∃r s,E.S=.dn k (.iz r)/\0<r/\G=.gV r s/\r+s=Ñ F.n λi=>((fA.gO E j x).C i).gD F i k)\/((∀p,E.S≠ .dn k p)/\((G=.cl 0 0/\(Ñ F.n λi=>((fA.gO E j x).C i).gD F i k)=0)\/∃s,G=.gV 0 s/\s=Ñ F.n λi=>((fA.gO E j x).C i).gD F i k))) (J:(∃a b,E.a k=.gV a b)->∃a b,G=.gV a b) (K:G=.cl 1 0->l k=Í) (L:∀c,c≠k->l c=E.d c) (S:∀y,E.d k=Ã y->l k=Ã y) (T:∀r,((∃p,x=.fy r p)\/x=.jD r\/x=.oh r)->j+r*F.n<F.q) (M:∀r,(x=.fy r .gB\/x=.fy r .kR\/x=.jD r)->F.r (j+r*F.n)<=E.S.od) (N:∀r,x=.fy r .gB->∃a b,fx E.a k G (F.r<|j+r*F.n)=.gV a b) (O:∀r,x=.fy r .wr->l (F.r<|j+r*F.n)=Ã j):Ps F (uU E j x k G l):=by
 have z:∀c,c≠k->(Ñ F.n λi=>((uU E j x k G l).C i).gD F i c)=Ñ F.n λi=>(E.C i).gD F i c:=λc u=>by
  refine Ł λi _=> ?_;by_cases e:i=j
  .subst e;show((fA.gO E i x).C i).gD F i c=_;rw[jG,D c u]
  .show((fA.gO E j x).C i).gD F i c=_;rw[iM x e]
 have v:∀c,c≠k->(uU E j x k G l).a c=E.a c:=λc u=>fH _ _ u;have gs:(uU E j x k G l).a k=G:=gE _ _ _;have w:(uU E j x k G l).C j=x:=jG _ _;have o:∀d,d≠j->(uU E j x k G l).C d=E.C d:=λd g=>iM x g;refine⟨h.v,h.C,h.K,h.L,h.J,h.I,λd g=> ?_,λd r g f=> ?_,λd g f=> ?_,h.f,h.h,h.M,h.o,h.t,h.g,h.u,h.N,h.B,λc t m B=> ?_,λc t m=> ?_,λd r g f=> ?_,λd r g f=> ?_,h.O,h.S,λc t m=> ?_,λd r g f=> ?_⟩
 .have:E.r<d+2:=g;rw[o d Z];exact h.z d g
 .by_cases e:d=j
  .simp_all
  .rw[o d e]at f;exact h.d d r g f
 .rw[o d (λe=>by subst e;exact f C)];exact h.l d g f
 .by_cases e:c=k
  .subst e;rw[gs];exact H t B
  .rw[v c e,z c e];exact h.e c t m B
 .by_cases e:c=k
  .subst e;rw[gs];exact I m
  .rw[v c e,z c e];exact h.Y c t m
 .by_cases e:d=j
  .subst e;rw[w]at f;exact M r f
  .rw[o d e]at f;exact h.w d r g f
 .by_cases e:d=j
  .subst e;rw[w]at f;exact N r f
  .rw[o d e]at f;have:=h.H d r g f;by_cases P:F.r (d+r*F.n)=k
   .rw[P]at this|-;rw[gs];exact J this
   .grind
 .by_cases e:c=k
  .subst e;rw[gs]at m;exact K m
  .rw[v c e]at m;show l c=Í;rw[L c e];exact h.y c t m
 .by_cases e:d=j
  .subst e;rw[w]at f;exact O r f
  .rw[o d e]at f;have:=h.D d r g f;show l _=Ã d;grind
theorem iG.r(h:iG F E c n w){x:gM}(i:x.kt=(E.C j).kt):iG F (gO E j x) c n w:=by
 have f:∀a,((fA.gO E j x).C a).kt=(E.C a).kt:=λa=>by grind [jG,iM]
 exact⟨h.gR,h.o,h.lC,h.e,h.f,λa b d r e g=>h.h a b d r e (by rwa[<-f]),h.l,h.S,h.M,h.c,h.I,h.N,h.g,λa b r d e=>h.d a b r d<|by rwa[<-f]⟩
theorem Wd.Y(h:Wd F E w){x:gM}(g:x.kt=(E.C j).kt)(i:x.iL=(E.C j).iL):Wd F (gO E j x) w:=by
 have c:∀a,((fA.gO E j x).C a).kt=(E.C a).kt:=λa=>by grind [jG,iM]
 have d:∀a,((fA.gO E j x).C a).iL=(E.C a).iL:=λa=>by grind [jG,iM]
 exact⟨h.C,h.I,λa b=>by rw[d];exact h.jB a b,h.M,h.S,λa b r e f=>h.N a b r e<|by rwa[<-c]⟩
structure qh(F:Ph)(E:fS F)(S:Nat->Jd)(tr:Nat->gy)(kp:Nat->iy):Prop where
 M:S 0=JM F E.I E.M/\kp 0=kM E.M
 Y:0<E.r->E.N 0=Í->S F.L=JI F E.c E.S/\kp F.L=.no
 I:∀j,j+2<=E.r->E.N (j+1)=Í->S (F.L+1+j)=JW F (E.I j) j (E.C j)/\kp (F.L+1+j)=kW F (E.I j) (E.C j)
 C:∀x e,x<E.r->E.N x=Ã e->S (F.L+x)=JE F e/\kp (F.L+x)=.no/\((∃N,e=.jl N)->tr (F.L+x)=.fB)
 r:∀i,0<i->i<F.L->S i=oO F.P (E.h i)/\tr i=.fB/\kp i=.no
def PI.N(p:PI F b zX E S tr kp c gs w qJ):qh F E S tr kp:=⟨p.h,p.m,p.g,p.k,p.l⟩
def PI.r(a:qh F E S tr kp)(d:gs.size=F.L+E.r)(e:gK F.P F.S E.Y S tr kp c gs w qJ)(f:iG F E c gs.size w)(g:Wd F E w)(h:Ps F E)(i:TI F.toFx b zX E.r E.S.rl E.V E.e E.d E.iq E.f qJ)(k:fi F E gs w) (l:∀j r,j+2<=E.r->E.C j=.jD r->1<=F.r (j+r*F.n)->Λ qJ (F.L+1+j) (E.e<|F.r<|j+r*F.n)):PI F b zX E S tr kp c gs w qJ:=⟨d,e,a.M,a.Y,a.I,a.C,a.r,f,g,h,i,k,l⟩
def qh.N(h:qh F E S tr kp)(ok:F.Ok){x:gM}{T:gy}(k:j+2<=E.r)(f:E.N (j+1)=Í):qh F (gO E j x) (fx S (F.L+1+j)<|JW F (E.I j) j x) (fx tr (F.L+1+j) T) (fx kp (F.L+1+j)<|kW F (E.I j) x):=by
 have:=ok.r;refine⟨by rw[fH S _ Z,fH kp _ Z];exact h.M,λb a=>by rw[fH S _ Z,fH kp _ Z];exact h.Y b a,λd b a=> ?_,λy e b a=> ?_,λi b a=>by rw[fH S _ Z,fH kp _ Z,fH tr _ Z];exact h.r i b a⟩
 .by_cases e:d=j
  .subst e;rw[gE,gE,jG];exact⟨U,U⟩
  .rw[fH S _ Z,fH kp _ Z,iM x e];exact h.I d b a
 .have c:F.L+y≠F.L+1+j:=λe=>by
   have g:y=j+1:=Z
   subst g;have:E.N (j+1)=Ã _:=a;rw[f]at this;cases this
  rw[fH S _ c,fH kp _ c,fH tr _ c];exact h.C y e b a
end
def s5(F:Fx)(e:đ):Prop:=(∃(x:Č) (a:Bool),F.G x/\e=⟨ú x,a,Ì⟩)\/e.loc=ŭ ô\/e.loc=ŭ î
theorem FA{F:Fx}{e:đ}(h:s5 F e){b:Touch}(c:(Ë e).touch?=Ã b):∃x,F.G x/\b.loc=ú x/\b.kind=.atomic:=by
 let⟨f,a,g⟩:=e;rcases h with⟨x,i,j,d⟩|h|h
 .injection d with e1 e2 e3;subst e1 e2 e3;have:(Ë ⟨ú x,a,Ì⟩).touch?=Ã ⟨ú x,a,.atomic⟩:=by cases a<;>rfl
  grind
 .simp only at h;subst h;simp[Ë,Ċ]at c
 .simp only at h;subst h;simp[Ë,Ċ]at c
section
variable{F:Ph}{E E':fS F}{S:Nat->Jd}{tr l:Nat->gy}{f:Nat->iy}{c:Nat->fe}{gs gs':Array Ä}{u:ä}{m:Option (Nat×Nat)}
def yc(E:fS F)(i:Nat):Prop:=i=0\/∃x,x<E.r/\i=F.L+x
theorem gK.N{Y:Nat->Prop}(e:gK P n Y S tr f c gs w qJ)(h:gs[i]?=Ã g)(k:g.status=Å)(j:tr i=.fB)(a:f i=.no\/f i=.iz):∀b,fI (c i) (c i).w b->S i {c i with w:=b} g:=by
 let⟨g0,hF,d,_,_⟩:=e.C i g h;rw[j]at hF;have:g=g0:=by rcases a with a|a<;>rw[a]at d<;>cases d;all_goals grind
 subst this;exact hF
theorem WE(b:TI F.toFx j zX E.r E.S.rl E.V E.e E.d E.iq E.f qJ)(c:yc E i)(d:n<j)(a:qJ.g? n=Ã 0):Λ qJ i n:=by
 rcases c with rfl|⟨x,e,rfl⟩
 .let⟨g,f,h⟩:=Ù.1 a;have:=knows_own f;grind
 .exact b.Ab x e n d a
theorem afA(f:∀c,¬Race c qJ)(g:TI F.toFx j zX E.r E.S.rl E.V E.e E.d E.iq E.f qJ)(v:yc E i){d:Array đ}{h:Ĵ}{k:String}(l:∀e∈d,s5 F.toFx e):∀c,¬Race c (qJ++Û i h k d):=by refine Nw f nT λw m b n=> ?_;obtain⟨e,o,rfl⟩:=Ö m;let⟨x,r,s,t⟩:=FA (l e o) n;refine Á (Á ⟨t,λp a u q y=> ?_⟩);rcases g.M p a x u (q.trans s) r with⟨y,z⟩|q|⟨q,_⟩;all_goals grind [WE]
def afB(L:iG F E c gs.size w)(ok:F.Ok)(C:iP F.S (λi=>i<gs.size) E.Y c w qJ)(f:∀e∈V,s5 F.toFx e):∀e∈V,(∀b,(Ë e).touch?=Ã b->Fi (λi=>i<gs.size) E.Y c b)/\(Ë e).low w.heap.size:=by
 intro e g;refine⟨λb j=> ?_,?_⟩
 .let⟨x,a,d,_⟩:=FA (f e g) j;exact À ⟨x,d,wh a,λk h=>L.Y ok a k h⟩
 .rcases f e g with⟨x,k,a,d⟩|h|h
  .subst d;have:=C.N _<|wh (E:=E) a;cases k<;>exact this
  .let⟨l,k,m⟩:=e;simp only at h;subst h;trivial
  .let⟨l,k,m⟩:=e;simp only at h;subst h;trivial
def Ae(d:Nat)(a:Array đ):Prop:=∀(j:Nat) (e:đ),a[j]?=Ã e->(Ë e).touch?=Í\/((∃b c,e=⟨ú b,c,Ì⟩)/\0<Ï d (a.extract 0 j))
theorem afC(L:iG F E c gs.size w)(s:Ps F E)(C:iP F.S (λi=>i<gs.size) E.Y c w qJ)(t:yc E i){f:Array đ}{n:Ĵ}{o:String}(p:∀e∈f,s5 F.toFx e) (u:∀x,E.iq x->i=F.L+x->(∀e∈f,∀b,(Ë e).touch?=Ã b->∃y:Č,b.loc=ú y/\y.block=F.C)/\Ae (κ qJ i) f):Jh F.toFx E.r E.S.rl E.V E.d E.iq qJ (Û i n o f) i:=by
 refine⟨λg d _ _=>nT g d,t.imp id À,λg d a x l _ _=> ?_,λg d a y l _ z k B m=> ?_,λg d b _ e=> ?_,λx H D=> ?_⟩
 .obtain⟨e,j,rfl⟩:=Ö d;grind [FA]
 .obtain⟨e,j,rfl⟩:=Ö d;let⟨x,r,h,_⟩:=FA (p e j) l;rw[z]at h;injection h with h;subst h;refine⟨λv=>(L.I k (Ø m<|Jl s) _ v).2.1<|wh r,λe=> ?_⟩;obtain⟨b,_,q|q⟩:=r<;>(rw[q]at e;simp[fM,gU,je]at e)
 .obtain⟨r,j,rfl⟩:=Ö d;simp only at e;rcases p r j with⟨x,v,_,rfl⟩|h|h
  .cases v<;>simp[Ë]at e
  .let⟨q,v,G⟩:=r;simp only at h;subst h;simp[Ë]at e
  .let⟨q,v,G⟩:=r;simp only at h;subst h;simp[Ë]at e
 .by_cases e:F.L+x=i
  .let⟨B,m⟩:=u x D e.symm;subst e;refine⟨λr h=>h.appOwn n o f m,λ_ g d a l=> ?_⟩;obtain⟨e,j,rfl⟩:=Ö d;grind [FA]
  .exact⟨λr h=>h.appOther nT<|ÿ e,λq=>absurd q e⟩
theorem yd(a:F.M b):∀e∈#[ko<|fM b],s5 F.toFx e:=by
 intro e c;have:e=ko (fM b):=by simpa using c
 subst this;exact À ⟨_,É,(we a).1,U⟩
def WG(a:F.M b):∀e∈#[mJ<|fM b],s5 F.toFx e:=by
 intro e c;have:e=mJ (fM b):=by simpa using c
 subst this;exact À ⟨_,Ì,(we a).1,U⟩
def Af(a:F.M b):∀e∈#[ko<|fM b,mJ<|fM b],s5 F.toFx e:=by
 intro e c;simp at c;rcases c with rfl|rfl
 .exact À ⟨_,É,(we a).1,U⟩
 .exact À ⟨_,Ì,(we a).1,U⟩
def FB(a:F.M b):∀e∈õ (gU b),s5 F.toFx e:=by
 intro e c;simp[õ]at c;rcases c with rfl|rfl|rfl|rfl
 .exact Á<|À U
 .exact À ⟨_,É,(we a).2,U⟩
 .exact À ⟨_,Ì,(we a).2,U⟩
 .exact Á<|Á U
def FC(d:Nat):Ï d #[ko a,mJ a]=d/\Ï d #[ko a]=d/\Ï d #[mJ a]=d/\Ï d (õ a)=d:=by refine⟨U,U,U,?_⟩;simp[Ï,õ]
def Jo:Ae 1 #[ko a,mJ a]/\Ae 1 #[ko a]/\Ae 1 #[mJ a]/\Ae 1 (õ a):=by
 refine⟨λj e b=> ?_,λj e b=> ?_,λj e b=> ?_,λj e b=> ?_⟩
 .match j,b with
  |0,b=>obtain rfl:=È b;exact Á ⟨⟨a,É,U⟩,by simp[Ï]⟩
  |1,b=>obtain rfl:=È b;exact Á ⟨⟨a,Ì,U⟩,by simp[Ï,ko]⟩
  |j+2,b=>simp at b
 .match j,b with
  |0,b=>obtain rfl:=È b;exact Á ⟨⟨a,É,U⟩,by simp[Ï]⟩
  |j+1,b=>simp at b
 .match j,b with
  |0,b=>obtain rfl:=È b;exact Á ⟨⟨a,Ì,U⟩,by simp[Ï]⟩
  |j+1,b=>simp at b
 .match j,b with
  |0,b=>obtain rfl:=È b;exact À U
  |1,b=>obtain rfl:=È b;exact Á ⟨⟨a,É,U⟩,by simp[Ï,õ]⟩
  |2,b=>obtain rfl:=È b;exact Á ⟨⟨a,Ì,U⟩,by simp[Ï,õ]⟩
  |3,b=>obtain rfl:=È b;exact À U
  |j+4,b=>simp[õ]at b
def afD(ok:F.Ok)(g:F.G a)(v:ã):Fw F E c gs.size w (w.setCell a v):=by
 refine⟨Ô jP.symm,λb _ f _=>kX λe=>f<|e▸(wh (E:=E) g),λd i _=>xV ?_,NM,U,U⟩;let⟨b,f,h⟩:=g;rcases i with⟨k,_,rfl⟩|⟨p,rfl⟩
 .right;rcases h with rfl|rfl<;>simp[fM,gU,je]
 .left;rcases h with rfl|rfl<;>exact λe=>ok.C (by have j:b=F.Y:=e;rwa[<-j])
def afE(L:iG F E c gs.size w)(ok:F.Ok)(d:F.G a)(v:ã):pv (λi=>i<gs.size) E.Y c w (w.setCell a v):= afe (wh d) (by obtain⟨b,_,rfl|rfl⟩:=d<;>rfl) (λk i=>L.Y ok d k i) λk i b e=>L.afp k i b e
def afF(c:Ps F E)(d:F.G a)(v:ã)(f:j+2<=E.r):(w.setCell a v).heap[E.I j]?=w.heap[E.I j]?:= kX λe=>(c.o j f).1 (by obtain⟨b,g,rfl|rfl⟩:=d<;>(rwa[e]))
def afG(h:a=fM b\/a=gU b):a.block=b:=by rcases h with rfl|rfl<;>rfl
theorem iG.C(L:iG F E c n w){d:Nat}{w0:Ð}(y:w.heap.size<=W.heap.size):iG F E (gu c i {c i with d:=d,w:=w0}) n W:=by
 have e:∀k,(gu c i {c i with d:=d,w:=w0} k).O=(c k).O/\(gu c i {c i with d:=d,w:=w0} k).I=(c k).I/\(gu c i {c i with d:=d,w:=w0} k).r=(c k).r/\(gu c i {c i with d:=d,w:=w0} k).N=(c k).N/\(gu c i {c i with d:=d,w:=w0} k).q=(c k).q:=λk=>by grind [gS,gG]
 have t:∀k,c k=kr (c k)->gu c i {c i with d:=d,w:=w0} k=kr (gu c i {c i with d:=d,w:=w0} k):=λk f=>by
  by_cases h:k=i
  .subst h;rw[gS];have a:(c k).O=λ_=>False:=by rw[f];rfl
   have b:(c k).I=λ_=>False:=by rw[f];rfl
   have g:(c k).r=λ_=>False:=by rw[f];rfl
   have j:(c k).N=λ_=>False:=by rw[f];rfl
   have l:(c k).q=True:=by rw[f];rfl
   simp only[kr,a,b,g,j,l]
  .grind [gG]
 refine⟨λk f a o=>L.gR k f a (by unfold fe.C at o|-;rwa[(e k).2.2.1,(e k).2.2.2.1]at o),λx g m a o=>by rw[(e 0).2.2.1];exact L.o x g m a o,λh=>by rw[(e 0).2.2.2.1,(e 0).2.1];exact L.lC h,λh k g m=>by rw[(e _).2.2.1];exact L.e h k g m,λh p=>by rw[(e _).2.2.2.1,(e _).2.1];exact L.f h p,λj l p r s g=>by rw[(e _).2.2.1];exact L.h j l p r s g,λj l p=>by rw[(e _).2.2.2.1,(e _).2.1];exact L.l j l p,λx u=>t _<|L.S x u,λk f=>by rw[(e k).2.2.2.2];exact L.M k f,λk g m=>t _<|L.c k g m,λk f b v=> ?_,λk f j l=>by rw[(e j).2.2.1];exact L.N k f j l,λk g m j l=>by rw[(e j).2.2.1];exact L.g k g m j l,λj l r s g k f=>by rw[(e k).2.2.1];exact L.d j l r s g k f⟩;let⟨z,B,D⟩:=L.I k f b v;grind
end
section
variable{F:Ph}{E E':fS F}{S:Nat->Jd}{tr c:Nat->gy}{a:Nat->iy}{lot:Nat->fe}{gs gs':Array Ä}{u:ä}{sl:Option (Nat×Nat)}
def ku(b:Nat)(w W:Ð):Prop:=W=w\/∃x v,(x=fM b\/x=gU b)/\W=w.setCell x v
def ku.Cx(h:ku b w W):W.heap.size=w.heap.size:=by rcases h with rfl|⟨x,v,_,rfl⟩;all_goals simp_all
def ku.Jj(h:ku b w W)(ok:F.Ok)(a:F.M b):Fw F E lot gs.size w W:=by
 rcases h with rfl|⟨x,v,c,rfl⟩
 .exact⟨Ç _,λ_ _ _ _=>rfl,λ_ _ _=>rfl,U,U,U⟩
 .exact afD ok ⟨b,a,c⟩ v
def ku.r(h:ku b w W)(L:iG F E lot gs.size w)(ok:F.Ok)(a:F.M b):pv (λi=>i<gs.size) E.Y lot w W:=by
 rcases h with rfl|⟨x,v,i,rfl⟩
 .exact pv.fT _ _ _ _
 .exact afE L ok ⟨b,a,i⟩ v
def ku.C(h:ku b w W)(a:Ps F E)(c:F.M b)(d:j+2<=E.r):W.heap[E.I j]?=w.heap[E.I j]?:=by
 rcases h with rfl|⟨x,v,e,rfl⟩
 .rfl
 .exact afF a ⟨b,c,e⟩ v d
def ku.M(h:ku b w W)(c:i≠b){G:GS}(a:gZ w i G):gZ W i G:=by
 rcases h with rfl|⟨x,v,d,rfl⟩
 .exact a
 .exact a.iQ<|by rw[afG d];exact ÿ c
def ku.I(h:ku b w W)(H:gQ F)(L:iG F E lot gs.size w)(d:Ps F E)(a:Wd F E w)(f:F.M b){Ga:GS}{Gg:Nat->GS}(g:(b=F.C->gZ W F.C Ga)/\(b≠F.C->Ga=E.b))(i:∀k,k<=F.m->(b=F.I k->gZ W (F.I k) (Gg k))/\(b≠F.I k->Gg k=E.a k)):Wd F {E with b:=Ga,a:=Gg} W:=by
 refine a.Jj H L (h.Jj H.C f) (Jk d) ?_ (λk c=> ?_) λj e=>h.C d f e
 .by_cases e:b=F.C
  .exact g.1 e
  .rw[g.2 e];exact h.M (ÿ e) a.C
 .by_cases e:b=F.I k
  .exact(i k c).1 e
  .rw[(i k c).2 e];exact h.M (ÿ e)<|a.I k c
def PI.Y(H:gQ F)(p:PI F b zX E S tr a lot gs w qJ){c:Ä}{f:Array đ}{J:Jd}{T:gy}(K:iy)(q:gs[i]?=Ã g)(j:yc E i)(r:F.M n)(s:è F.P (i==0) g w=ş c W f)(l:ku n w W)(h:∀e∈f,s5 F.toFx e)(m:Ï (lot i).d f=(lot i).d) (t:∀x,E.iq x->i=F.L+x->(∀e∈f,∀n,(Ë e).touch?=Ã n->∃y:Č,n.loc=ú y/\y.block=F.C)/\Ae (κ qJ i) f) (hF:kQ F.P (i==0) J T {lot i with w:=W} c) (v:c.status=Å\/c.status=å): ∃gs' u,Ŏ F.P (ð gs w sl) i=(ğ<|ð gs' W sl,u)/\gs'.size=gs.size/\gs'[i]?=Ã c/\(∀k,k≠i->gs'[k]?=gs[k]?.map (Ā F.P g c W))/\ gK F.P F.S E.Y (fx S i J) (fx tr i T) (fx a i K) (gu lot i {lot i with w:=W}) gs' W (qJ++u)/\TI F.toFx b zX E.r E.S.rl E.V E.e E.d E.iq E.f (qJ++u)/\iG F E (gu lot i {lot i with w:=W}) gs'.size W:=by have C:=p.I.r;obtain⟨gs',z,k,B,D,o⟩:=p.I.qe q s (l.r p.a H.C r) (by rwa[m]) v (afB p.a H.C C h)<|afA C.l p.d j h;rw[m]at o;refine⟨gs',_,z,k,B,D,o,p.d.C<|afC p.a p.C C j h t,?_⟩;rw[k];exact p.a.C<|Ô l.Cx.symm
theorem fi.qe(B:fi F E gs w){a:Ä}(p:gs'[i]?=Ã a)(q:a.status≠Ü)(d:∀k,k≠i->gs'[k]?=gs[k]?.map (Ā F.P g a W))(t:∀j,j+2<=E.r->W.heap[E.I j]?=w.heap[E.I j]?) (u:E'.r=E.r) (v:E'.I=E.I) (z:∀x,F.L+x≠i->E'.N x=E.N x) (C:i≠0->E'.M=E.M) (D:∀j,F.L+1+j≠i->E'.C j=E.C j) (G:i≠0->E.M=.fy .kq->E.b.sm=0->E'.b.sm=0\/∀x,gs'[0]?=Ã x->x.status≠Ü) (H:∀j r,F.L+1+j≠i->E.C j=.fy r .kq->(E.a<|F.r<|j+r*F.n).sm=0->(E'.a<|F.r<|j+r*F.n).sm=0\/∀x,gs'[F.L+1+j]?=Ã x->x.status≠Ü):fi F E' gs' W:=by
 intro k x b f;by_cases e:k=i
 .grind
 .have I:=b;rw[d k e]at b;obtain⟨y,h,rfl⟩:=Ù.1 b;let⟨_,l⟩:=Fy f;rcases B k y h l with⟨J,m,c⟩|⟨j,K,M,m,⟨r,c,o⟩|⟨r,N,s,O,c,o⟩⟩;all_goals grind
def CC(a:j+2<=E.r):yc E (F.L+1+j):=Á ⟨j+1,Z,Z⟩
def Jp(b:E.N (j+1)=Í):∀x,E.iq x->F.L+1+j=F.L+x->False:=λx ⟨e,a,_⟩ h2=>by
 have:x=j+1:=Z
 subst this;rw[b]at a;cases a
def FD(ok:F.Ok)(h:i<F.q):F.M (F.I<|F.r i):=Á ⟨F.r i,ok.I i h,U⟩
def iN(a:gs[i]?=Ã g):i<gs.size:=(Õ.1 a).1
end
theorem wi{f f':Nat->Nat}:∀{n:Nat},j<n->(∀i,i≠j->f' i=f i)->Ñ n f'+f j=Ñ n f+f' j
 |n+1,h,hf=>by
  simp only[Ñ];rcases ģ j n with gN|a
  .have:=wi (n:=n) gN hf;rw[hf n Z];omega
  .obtain rfl:j=n:=Z
   rw[Ł λi b=>hf i Z];omega
def FE{f:Nat->Nat}:∀{n:Nat},(∀i,f i<=1)->Ñ n f<=n
 |0,_=>Ç _
 |n+1,h=>by simp only[Ñ];have:=FE (n:=n) h;have:=h n;omega
def NZ{f:Nat->Nat}:∀{n:Nat},j<n->f j<=Ñ n f
 |n+1,h=>by
  simp only[Ñ];rcases ģ j n with gN|a
  .have:=NZ (f:=f) (n:=n) gN;omega
  .obtain rfl:j=n:=Z
   omega
def FG{f:Nat->Nat}:∀n:Nat,(Ñ n λi=>f i+D i)=Ñ n f+Ñ n D
 |0=>rfl
 |n+1=>by simp only[Ñ];rw[FG n];omega
def N0{f:Nat->Nat}(c:Nat):∀n:Nat,(Ñ n λi=>c*f i)=c*Ñ n f
 |0=>by simp[Ñ]
 |n+1=>by simp only[Ñ];rw[N0 c n,ł]
section
variable{F:Ph}{E E':fS F}{S:Nat->Jd}{tr z:Nat->gy}{C:Nat->iy}{o:Nat->fe}{gs gs':Array Ä}{u:ä}{sl:Option (Nat×Nat)}
def jT(F:Ph)(b:Nat)(zX:π->Prop)(E:fS F)(tr:Nat->gy)(gs:Array Ä)(w:Ð)(qJ:ä)(sl:Option (Nat×Nat))(i:Nat):Prop:=
 ∃(E':fS F) (a:Nat->Jd) (z:Nat->gy) (c:Nat->iy) (d:Nat->fe) (gs':Array Ä) (W:Ð) (u:ä),Ŏ F.P (ð gs w sl) i=(ğ<|ð gs' W sl,u)/\gs'.size=gs.size/\(E'.M=.fZ->E.M=.fZ)/\PI F b zX E' a z c d gs' W (qJ++u)/\oP F.N (E'.mu z gs') (E.mu tr gs)
def qN(F:Ph)(b:Nat)(zX:π->Prop)(E:fS F)(tr:Nat->gy)(gs:Array Ä)(w:Ð)(qJ:ä):Prop:=
 ∃(E':fS F) (a:Nat->Jd) (z:Nat->gy) (c:Nat->iy) (d:Nat->fe),(E'.M=.fZ->E.M=.fZ)/\PI F b zX E' a z c d gs w qJ/\oP F.N (E'.mu z gs) (E.mu tr gs)
def afH(i:Nat):gi gs i<=1:=by unfold gi;split<;>omega
theorem WH(a:∀k,k<F.N->E'.iQ z k=E.iQ tr k)(b:i<F.N)(e:E'.kY i<E.kY i)(c:∀k,k≠i->E'.kY k=E.kY k):oP F.N (E'.mu z gs') (E.mu tr gs):=by
 refine Á ⟨a,?_⟩;show(Ñ F.N λi=>(F.N+1)*E'.kY i+gi gs' i)<Ñ F.N λi=>(F.N+1)*E.kY i+gi gs i;rw[FG,FG,N0,N0];have g:=wi b c;have h:=FE (f:=gi gs') (n:=F.N) afH;have d:Ñ F.N E'.kY+1<=Ñ F.N E.kY:=Z
 have j:(F.N+1)*(Ñ F.N E'.kY+1)<=(F.N+1)*Ñ F.N E.kY:=ï _ d;grind
theorem N4(a:∀k,k<F.N->E.iQ z k=E.iQ tr k)(b:i<F.N)(c:gi gs i=1)(d:gi gs' i=0)(e:∀k,k≠i->gi gs' k=gi gs k):oP F.N (E.mu z gs') (E.mu tr gs):=by refine Á ⟨a,?_⟩;show(Ñ F.N λi=>(F.N+1)*E.kY i+gi gs' i)<Ñ F.N λi=>(F.N+1)*E.kY i+gi gs i;rw[FG,FG];grind [wi]
theorem WI(ok:F.Ok)(j:Nat):E.kY (F.L+1+j)=match E.C j with|.fy r p=>p.kY F.B (E.a<|F.r<|j+r*F.n).st|_=>0:=by have:=ok.r;unfold fS.kY;grind
def afI{x:gM}(a:k≠F.L+1+j):(gO E j x).kY k=E.kY k:=by
 unfold fS.kY;split
 .rfl
 .split
  .rfl
  .rw[iM x Z];rfl
def afJ(ok:F.Ok){r:Nat}{p a:SP}{T:gy}(d:F.L+1+j<F.N)(b:E.N (j+1)=Í)(c:E.C j=.fy r (.lR p))(f:tr (F.L+1+j)=.fB)(g:T=.fB)(h:a.rk F.B (E.a<|F.r<|j+r*F.n).st<p.rk F.B (E.a<|F.r<|j+r*F.n).st): oP F.N ((gO E j<|.fy r (.lR a)).mu (fx tr (F.L+1+j) T) gs') (E.mu tr gs):=by
 refine WH (λk _=> ?_) d ?_ λk e=>afI e
 .by_cases e:k=F.L+1+j
  .subst e;rw[sZ ok (E:=gO E j _) (show(gO E j _).N (j+1)=Í from b),sZ ok b,jG,gE,c,f,g];rfl
  .refine yb (λ_=>rfl) (λ_ _=>rfl) (λ_=>rfl) (λ_ _=>rfl) (λi _=> ?_)<|fH tr _ e;rw[iM _ Z]
 .rwa[WI ok,WI ok,jG,c]
def PI.CF(H:gQ F)(p:PI F b zX E S tr C o gs w qJ){v:jm}(d:j+2<=E.r)(e:E.N (j+1)=Í)(f:gs[F.L+1+j]?=Ã g)(h:g.status=Å)(k:tr (F.L+1+j)=.fB)(l:E.C j=.fy i v): ∀w₁,fI (o<|F.L+1+j) (o<|F.L+1+j).w w₁->qg F.P É F.B (F.I<|F.r<|j+i*F.n) (F.e (E.I j)<|j+i*F.n) v {o (F.L+1+j)with w:=w₁} g:=by
 let⟨a,c⟩:=p.g j d e;rw[l]at a c;have m:C (F.L+1+j)=.no\/C (F.L+1+j)=.iz:=by rw[c];cases v<;>first|exact À U|exact Á U
 intro w₁ i;have:=p.I.N f h k m w₁ i;rwa[a]at this
def ye(ok:F.Ok)(j:Nat):(F.L+1+j==0)=É:=by have:=ok.r;simp
theorem PI.N5(H:gQ F)(p:PI F b zX E S tr C o gs w qJ){x:gM}{l:fe}{T:gy}(u:j+2<=E.r)(m:E.N (j+1)=Í)(n:gs[F.L+1+j]?=Ã g)(v:g.status=Å\/g.status=å) (z:iP F.S (λi=>i<gs.size) E.Y (gu o (F.L+1+j) l) w qJ) (hF:kQ F.P É (JW F (E.I j) j x) T l g) (B:iG F (gO E j x) (gu o (F.L+1+j) l) gs.size w) (D:Wd F (gO E j x) w) (G:Ps F (gO E j x)) (I:x.rk F<(E.C j).rk F) (V:∀r,x≠ .jD r):qN F b zX E tr gs w qJ:=by
 refine⟨gO E j x,_,_,_,_,λh=>h,.r (p.N.N H.C u m) p.b (p.I.M (K:=kW F (E.I j) x) n v z<|by rwa[ye H.C]) B D G p.d (λk y J M=> ?_) λa r f c d=> ?_,CB H.C (p.G<|iN n) m I⟩
 .by_cases e:k=F.L+1+j
  .grind
  .rcases p.c k y J M with f|⟨a,q,t,c,d|⟨r,N,s,O,d,Q⟩⟩
   .exact À f
   .exact Á ⟨a,q,t,c,À<|by rwa[iM x Z]⟩
   .exact Á ⟨a,q,t,c,Á ⟨r,N,s,O,by rwa[iM x Z],Q⟩⟩
 .by_cases e:a=j
  .grind [jG]
  .rw[iM x e]at c;exact p.f a r f c d
theorem PI.afK(H:gQ F)(p:PI F b zX E S tr C o gs w qJ){r:Nat}(e:j+2<=E.r)(l:E.N (j+1)=Í)(m:gs[F.L+1+j]?=Ã g)(n:g.status=Å)(s:tr (F.L+1+j)=.fB)(c:E.C j=.fy r .iW):qN F b zX E tr gs w qJ:=by
 have f:=iN m;let⟨k,y,t,u⟩:=(p.CF H e l m n s c) w<|p.I.r.r _ f;have v:iP F.S (λi=>i<gs.size) E.Y (gu o (F.L+1+j) {o (F.L+1+j)with w:=w}) w qJ:=p.I.r.C f (λ_ q=>q) (λa q=>À<|Á q) (λ_ q=>q) (λa q=>À<|Á q) U U U (p.I.r.m _ f)<|p.I.r.g _ f;refine p.N5 H (x:=.fy r (.lR (.fY k))) (T:=.fB) e l m (À n) v (λh a=>⟨t,I5 u a⟩) ?_ (p.M.Y (by rw[c];rfl)<|by rw[c];rfl) (p.C.G e l (λk=>by rw[c];rfl) (λa h=> ?_) (λa h=> ?_) (λa h=>by cases h) λa h=>by cases h) (by rw[c];simp only[gM.rk,jm.rk];omega) λa h=>by cases h
 .have:=(p.a.r (x:=.fy r (.lR (.fY k)))<|by rw[c];rfl).C (i:=F.L+1+j) (d:=(o<|F.L+1+j).d) (w0:=w)<|Ç _;exact this
 .rcases h with⟨_,h⟩|h|h<;>cases h;exact p.C.d j r e<|À ⟨_,c⟩
 .grind
def WJ{y z:Int->Jd}{p:SP}{l:fe}{G:GS}(h:Cs P yQ (fM b) i y z p l g)(j:gZ w b G):g.status=Å/\ ((∃f a e,è P yQ g w=ş a w e/\(e=#[]\/e=#[ko<|fM b])/\Cs P yQ (fM b) i y z f l a/\f.rk i G.st<p.rk i G.st)\/ (∃a,è P yQ g w=ş a w #[ko<|fM b]/\(∀c q,G=.cl c q->c=0)/\fj P yQ (y G.st) l a)\/ (∃a c q,G=.cl c q/\0<c/\è P yQ g w=ş a (w.setCell (fM b)<|ë Ó<|Ó.wrap<|G.st+1) #[ko<|fM b,mJ<|fM b]/\fj P yQ (z G.st) l a)):=by
 let⟨T,C,x⟩:=h;let⟨J,d⟩:=x p g C;refine⟨J,?_⟩;have D:∀u,T u g->(∀n,u≠ .fY (n+1))->(∀v n,u≠ .ld v (n+1))->u.rk i G.st<=p.rk i G.st->((∃f a e,è P yQ g w=ş a w e/\(e=#[]\/e=#[ko<|fM b])/\Cs P yQ (fM b) i y z f l a/\f.rk i G.st<p.rk i G.st)\/ (∃a,è P yQ g w=ş a w #[ko<|fM b]/\(∀c q,G=.cl c q->c=0)/\fj P yQ (y G.st) l a)\/ (∃a c q,G=.cl c q/\0<c/\è P yQ g w=ş a (w.setCell (fM b)<|ë Ó<|Ó.wrap<|G.st+1) #[ko<|fM b,mJ<|fM b]/\fj P yQ (z G.st) l a)):=by
  intro u C K L F;have d:=(x u g C).2;match u,d with
  |.fY (n+1),_=>exact absurd U<|K n
  |.ld v (n+1),_=>exact absurd U<|L v n
  |.fY 0,d=>
   let⟨a,o,k⟩:=d G.st;by_cases f:0<=G.st/\G.st<fX
   .rw[if_pos f]at k;have e:G.st<1000000:=by
     have t:=j.r;cases G with
     |cl c q=>
      let⟨H,I,m⟩:=t;simp only[GS.st,fX]at f|-;have:c=0:=Z
      have:=m this;omega
     |jz q=>simp only[GS.ok]at t;simp only[GS.st];omega
     |gV r s=>simp only[GS.st];omega
    exact Á<|À ⟨a,o w j.C,j.afi.1 f,k e⟩
   .rw[if_neg f]at k;have e:fX<=G.st/\G.st<fX*2147483648/\G.st%fX<1000000:=by
     have t:=j.r;cases G with
     |cl c q=>
      let⟨H,I,_⟩:=t;simp only[GS.st,fX]at f|-;omega
     |jz q=>simp only[GS.ok]at t;simp only[GS.st,fX]at f;omega
     |gV r s=>simp only[GS.st,fX]at f;omega
    let⟨m,M,E⟩:=k e;exact À ⟨.ld G.st m,a,_,o w j.C,Á U,⟨T,E,x⟩,Ê (by simp only[SP.rk,if_true];omega) F⟩
  |.ld v 0,⟨f,⟨a,o,k⟩,g'',E,n,hn,h4⟩=>
   by_cases e:G.st=v
   .subst e;have:∃c q,G=.cl c q/\0<c:=by
     have t:=j.r;cases G with
     |cl c q=>
      refine⟨c,q,U,?_⟩;let⟨H,I,_⟩:=t;simp only[GS.st,fX]at f;omega
     |jz q=>simp only[GS.ok]at t;simp only[GS.st,fX]at f;omega
     |gV r s=>simp only[GS.st,fX]at f;omega
    let⟨c,q,r,s⟩:=this;exact Á<|Á ⟨a,c,q,r,s,o w j.C j.I,k⟩
   .exact À ⟨.fY n,g'',_,E w G.st e j.C j.I,Á U,⟨T,h4,x⟩,Ê (by simp only[SP.rk,if_neg e];omega) F⟩
 match p,d with
 |.fY (n+1),⟨hn,d⟩=>
  rcases d with d|d
  .exact D (.fY 0) d (λn q=>by cases q) (λv n q=>by cases q)<|by simp only[SP.rk];omega
  .let⟨a,o,k⟩:=d w;exact À ⟨.fY n,a,#[],o,À U,⟨T,k,x⟩,by simp only[SP.rk];omega⟩
 |.fY 0,_=>exact D (.fY 0) C (λn q=>by cases q) (λv n q=>by cases q)<|Ç _
 |.ld v (m+1),⟨_,M,d⟩=>
  rcases d with d|d
  .exact D (.ld v 0) d (λn q=>by cases q) (λv n q=>by cases q)<|by simp only[SP.rk];split<;>omega
  .let⟨a,o,k⟩:=d w;exact À ⟨.ld v m,a,#[],o,À U,⟨T,k,x⟩,by simp only[SP.rk];split<;>omega⟩
 |.ld v 0,_=>exact D (.ld v 0) C (λn q=>by cases q) (λv n q=>by cases q)<|Ç _
def PI.afL(H:gQ F)(p:PI F b zX E S tr C o gs w qJ){r:Nat}{v:SP}(G:j+2<=E.r)(s:E.N (j+1)=Í)(hi:gs[F.L+1+j]?=Ã g)(iI:g.status=Å)(ht:tr (F.L+1+j)=.fB)(m:E.C j=.fy r (.lR v)):jT F b zX E tr gs w qJ sl (F.L+1+j):=by
 have gN:=iN hi;have ov:=p.C.d j r G<|À ⟨_,m⟩;have N:=FD H.C ov;have X:=H.C.I _ ov;have hG:=p.M.I _ X;obtain⟨hd,om⟩:=(p.CF H G s hi iI ht m) w<|p.I.r.r _ gN;have uV:j<F.n:=by have:=Cz p.C;omega
 have ns:=Jp (E:=E) s;have mw:=ye H.C j;have wj:=p.G gN;obtain⟨_,om⟩:=WJ om hG;rcases om with⟨p',g',es,h1,I,h3,h4⟩|⟨g',h1,I,h3⟩|⟨g',c,K,Q,s6,h1,I⟩
 .have hes:∀e∈es,s5 F.toFx e:=by
   rcases I with rfl|rfl
   .intro e s;simp at s
   .exact yd N
  obtain⟨T',N6,Ag⟩:=h3;obtain⟨gs',u,q1,V,q3,q4,q5,q6,q7⟩:=p.Y (J:=JW F (E.I j) j<|.fy r (.lR p')) (T:=.fB) H (kW F (E.I j)<|.fy r (.lR p')) hi (CC G) N (by rwa[mw]) (À U) hes (by rcases I with rfl|rfl<;>rfl) (λx hs e=>(ns x hs e).elim) (by rw[mw];exact λw₁ mY=>⟨hd,I5 ⟨T',N6,Ag⟩ mY⟩)<|À (Ag _ _ N6).1;refine⟨gO E j<|.fy r (.lR p'),_,_,_,_,gs',w,u,q1,V,λh=>h,.r (p.N.N H.C G s) (V.trans p.b) q5 (q7.r<|by rw[m];rfl) (p.M.Y (by rw[m];rfl)<|by rw[m];rfl) (p.C.G G s (λk=>by rw[m];rfl) (λf h=> ?_) (λf h=> ?_) (λf h=>by cases h) λf h=>by cases h) q6 (p.c.qe (E':=gO E j _) q3 (by rw[(Ag _ _ N6).1];simp) q4 (λ_ _=>rfl) U U (λ_ _=>rfl) (λ_=>rfl) (λt e=>iM _ Z) (λ_ _ h=>À h) λ_ _ _ _ h=>À h) λt f O z Y=> ?_,afJ H.C wj s m ht U h4⟩
  .rcases h with⟨_,h⟩|h|h<;>cases h;exact ov
  .rcases h with h|h|h<;>cases h
  .rw[iM _ (λe=>by subst e;rw[jG]at z;cases z)]at z;exact(p.f t f O z Y).app u
 .obtain⟨T,hT⟩:=jh h3;have mU:=lj (λl g h=>À h.2.1) h3;obtain⟨gs',u,q1,V,q3,q4,q5,q6,q7⟩:=p.Y H (kW F (E.I j)<|.fy r .kR) hi (CC G) N (by rwa[mw]) (À U) (yd N) U (λx hs e=>(ns x hs e).elim) (by rwa[mw]) mU;refine⟨gO E j<|.fy r .kR,_,_,_,_,gs',w,u,q1,V,λh=>h,.r (p.N.N H.C G s) (V.trans p.b) q5 (q7.r<|by rw[m];rfl) (p.M.Y (by rw[m];rfl)<|by rw[m];rfl) (p.C.G G s (λk=>by rw[m];rfl) (λf h=> ?_) (λf h=> ?_) (λf h=>by cases h) λf h=>by cases h) q6 (p.c.qe (E':=gO E j _) q3 (by rcases mU with q|q<;>rw[q]<;>simp) q4 (λ_ _=>rfl) U U (λ_ _=>rfl) (λ_=>rfl) (λt e=>iM _ Z) (λ_ _ h=>À h) λ_ _ _ _ h=>À h) λt f O z Y=> ?_,CB H.C wj s<|by rw[m];simp only[gM.rk,jm.rk];omega⟩
  .rcases h with⟨_,h⟩|h|h<;>cases h;exact ov
  .have:f=r:=by rcases h with h|h|h<;>cases h;rfl
   subst this;refine ă λAh=> ?_;have:=I _ _<|p.C.e _ Z X Ah;omega
  .rw[iM _ (λe=>by subst e;rw[jG]at z;cases z)]at z;exact(p.f t f O z Y).app u
 .have hcd:E.S.od<F.r (j+r*F.n):=by
   refine ñ λhle=> ?_;rcases p.C.Y _ X hle with⟨W,_,q,_⟩|⟨_,_,_,_,q,_⟩|⟨_,⟨q,_⟩|⟨_,q,_⟩⟩<;>(rw[Q]at q;cases q);omega
  have CG:=p.C.e _ Z X hcd;have e0:=Q.symm.trans CG;injection e0 with e1 e2;subst e1;have WK:K<=F.n:=by rw[e2];exact FE λi=>by cases E.C i<;>simp only[gM.gD]<;>first|omega|(split<;>first|omega|(rename_i q _;cases q<;>simp[jm.rS]))
  have FH:=H.C.gd;have FI:=(Q▸hG:gZ w (F.I<|F.r<|j+r*F.n) (.cl 1 K)).Wr Z Z;obtain⟨hv,FI⟩:=FI;obtain⟨x,CH,Ai,WL,Jq,hx4⟩:∃(x:jm) (CH:Nat->Option Nat),(x=.wr\/x=.kq)/\fj F.P É (qg F.P É F.B (F.I<|F.r<|j+r*F.n) (F.e (E.I j)<|j+r*F.n) x) {o (F.L+1+j)with w:=w} g'/\((∀M,M≠F.r (j+r*F.n)->CH M=E.d M)/\∀y,E.d (F.r<|j+r*F.n)=Ã y->CH (F.r<|j+r*F.n)=Ã y)/\(x=.wr->CH (F.r<|j+r*F.n)=Ã j):=by
   by_cases hz:K=0
   .subst hz;refine⟨.wr,fx E.d (F.r<|j+r*F.n)<|Ã j,À U,?_,⟨λM sV=>fH _ _ sV,λy hy=> ?_⟩,λ_=>gE _ _ _⟩
    .have:E.a (F.r<|j+r*F.n)=.cl 1 0:=Q;rw[this]at I;have e:(GS.cl 1 0).st%fX=0:=A
     simp only[e,if_true]at I;exact I
    .rw[p.C.y _ X Q]at hy;cases hy
   .refine⟨.kq,E.d,Á U,?_,⟨λ_ _=>rfl,λ_ h=>h⟩,λh=>by cases h⟩;have:E.a (F.r<|j+r*F.n)=.cl 1 K:=Q;rw[this]at I;have e:¬(GS.cl 1 K).st%fX=0:=by simp only[GS.st,fX];omega
    simp only[e,if_false]at I;exact I
  have hxw:x.rS=1:=by rcases Ai with rfl|rfl<;>rfl
  have WM:=WL.jS (w₁:=w.setCell (fM<|F.I<|F.r<|j+r*F.n)<|ë Ó<|Ó.wrap<|(GS.cl 1 K).st+1) (by have D:=(ku.r (Á ⟨fM<|F.I<|F.r<|j+r*F.n,_,À U,U⟩:ku (F.I<|F.r<|j+r*F.n) w (w.setCell (fM<|F.I<|F.r<|j+r*F.n)<|ë Ó<|Ó.wrap<|(GS.cl 1 K).st+1)) p.a H.C N);exact⟨Ô D.r.symm,λd kS=>D.jL d<|p.I.r.I _ gN d kS,λa ha=>D.M _ gN a ha,λa ha=>D.N _ gN a ha,λa _=>D.I a⟩);obtain⟨T,hT⟩:=jh WM;have WN:=lj (λl g h=>by rcases Ai with rfl|rfl<;>exact À h.2.1) WL;have N7:ku (F.I<|F.r<|j+r*F.n) w (w.setCell (fM<|F.I<|F.r<|j+r*F.n)<|ë Ó<|Ó.wrap<|(GS.cl 1 K).st+1):=Á ⟨_,_,À U,U⟩;obtain⟨gs',u,q1,V,q3,q4,q5,q6,q7⟩:=p.Y H (kW F (E.I j)<|.fy r x) hi (CC G) N (by rw[mw];exact(Q▸h1)) N7 (Af N) U (λx hs e=>(ns x hs e).elim) (by rwa[mw]) WN;have rT:=wi (f':=λi=>((gO E j<|.fy r x).C i).gD F i<|F.r<|j+r*F.n) uV (λi kZ=>by rw[iM _ kZ]);simp only[jG,m]at rT;have s7:gM.gD F j (F.r<|j+r*F.n) (.fy r x)=1:=by simp only[gM.gD,if_true,hxw]
  have rU:gM.gD F j (F.r<|j+r*F.n) (.fy r (.lR v))=0:=by simp only[gM.gD,if_true];rfl
  rw[s7,rU]at rT;refine⟨uU E j (.fy r x) (F.r<|j+r*F.n) (.cl 1 (K+1)) CH,_,_,_,_,gs',_,u,q1,V,λh=>h,.r ?_ (V.trans p.b) q5 ?_ ?_ (p.C.WC G s (λM sV=> ?_) (λ_ _=> ?_) (λh=>by omega) (λ⟨a,d,h⟩=> ?_) (λh=>by injection h with _ h;omega) Jq.1 Jq.2 (λf h=> ?_) (λf h=> ?_) (λf h=> ?_) λf h=> ?_) (q6.afl λM y hy=> ?_) ?_ λt f O z Y=> ?_,?_⟩
  .have:=p.N.N (x:=.fy r x) (T:=T) H.C G s;exact⟨this.M,this.Y,this.I,this.C,this.r⟩
  .have:=q7.r (x:=.fy r x) (by rw[m];rfl);exact⟨this.gR,this.o,this.lC,this.e,this.f,this.h,this.l,this.S,this.M,this.c,this.I,this.N,this.g,this.d⟩
  .have W1:=N7.I H p.a p.C p.M N (Gg:=fx E.a (F.r<|j+r*F.n)<|.cl 1 (K+1)) ⟨λe=>absurd e<|H.C.M _ X,λ_=>rfl⟩ λM sV=>⟨λe=> ?_,λe=>fH _ _ λe'=>e<|by rw[e']⟩
   .have W2:=W1.Y (x:=.fy r x) (by show _=(E.C j).kt;rw[m];rfl) (by show _=(E.C j).iL;rw[m];rfl);exact⟨W2.C,W2.I,W2.jB,W2.M,W2.S,W2.N⟩
   .rwa[<-(H.C.S _ _ X sV e),gE]
  .rw[m];simp only[gM.gD,if_neg<|ÿ sV]
  .congr 1;rw[<-e2]at rT;omega
  .rw[Q]at h;cases h
  .rcases h with⟨_,h⟩|h|h<;>cases h;exact ov
  .rcases h with h|h|h<;>cases h<;>(rcases Ai with h|h<;>cases h)
  .cases h;rcases Ai with h|h<;>cases h
  .cases h;exact hx4 U
  .by_cases e:M=F.r (j+r*F.n)
   .subst e;exact Jq.2 y hy
   .show CH M=Ã y;rwa[Jq.1 M e]
  .refine p.c.qe (E':=uU E j _ _ _ _) q3 (by rcases WN with q|q<;>rw[q]<;>simp) q4 (λt ou=>N7.C p.C N ou) U U (λ_ _=>rfl) (λ_=>rfl) (λt e=>iM _ Z) (λ_ _ h=>À h) λt f _ _ h=>À ?_;by_cases e:F.r (t+f*F.n)=F.r (j+r*F.n)
   .show(fx E.a _ _ _).sm=0;rw[e,gE];rfl
   .show(fx E.a _ _ _).sm=0;rwa[fH _ _ e]
  .have e:t≠j:=λe=>by
    subst e;have:(gO E t<|.fy r x).C t=.jD f:=z;rw[jG]at this;cases this
   have Aj:(gO E j<|.fy r x).C t=.jD f:=z;rw[iM _ e]at Aj;exact(p.f t f O Aj Y).app u
  .have:=CB (E:=E) (tr:=tr) (gs:=gs) (gs':=gs') (x:=.fy r x) (T:=T) H.C wj s (by rw[m];rcases Ai with rfl|rfl<;>simp only[gM.rk,jm.rk]<;>omega);rcases this with⟨i,O,z,Y⟩|⟨O,_⟩
   .exact À ⟨i,O,z,Y⟩
   .exfalso;have:=O _ wj;change(gO E j<|.fy r x).iQ (fx tr (F.L+1+j) T) (F.L+1+j)=E.iQ tr (F.L+1+j)at this;rw[sZ H.C (E:=gO E j _) (show(gO E j _).N (j+1)=Í from s),sZ H.C s,jG,m]at this;injection this with e _;rcases Ai with rfl|rfl<;>simp only[gM.rk,jm.rk]at e<;>omega
end
section
variable{F:Ph}{E E':fS F}{S:Nat->Jd}{s D:Nat->gy}{B:Nat->iy}{f:Nat->fe}{c o:Array Ä}{u:ä}{sl:Option (Nat×Nat)}
def PI.N8(H:gQ F)(p:PI F j zX E S s B f c w qJ){x:gM}{a:Ä}{T:gy}(y:i+2<=E.r)(d:E.N (i+1)=Í)(z:c[F.L+1+i]?=Ã g)(C:Ŏ F.P (ð c w sl) (F.L+1+i)=(ğ<|ð o w sl,u))(l:o.size=c.size)(D:o[F.L+1+i]?=Ã a)(G:a.status=Å\/a.status=å)(I:∀k,k≠F.L+1+i->o[k]?=c[k]?.map (Ā F.P g a w)) (J:gK F.P F.S E.Y (fx S (F.L+1+i)<|JW F (E.I i) i x) (fx s (F.L+1+i) T) (fx B (F.L+1+i)<|kW F (E.I i) x) (gu f (F.L+1+i) {f (F.L+1+i)with w:=w}) o w (qJ++u)) (K:TI F.toFx j zX E.r E.S.rl E.V E.e E.d E.iq E.f (qJ++u)) (M:iG F E (gu f (F.L+1+i) {f (F.L+1+i)with w:=w}) o.size w) (m:x.kt=(E.C i).kt) (N:x.iL=(E.C i).iL) (O:Ps F (gO E i x)) (Q:x.rk F<(E.C i).rk F) (W:∀r,x=.jD r->1<=F.r (i+r*F.n)->Λ (qJ++u) (F.L+1+i) (E.e<|F.r<|i+r*F.n)):jT F j zX E s c w qJ sl (F.L+1+i):=by
 refine⟨gO E i x,_,_,_,_,o,w,u,C,l,λh=>h,.r (p.N.N H.C y d) (l.trans p.b) J (M.r m) (p.M.Y m N) O K (p.c.qe (E':=gO E i _) D (by rcases G with q|q<;>rw[q]<;>simp) I (λ_ _=>rfl) U U (λ_ _=>rfl) (λ_=>rfl) (λb e=>iM _ Z) (λ_ _ h=>À h) λ_ _ _ _ h=>À h) λb t X q v=> ?_,CB H.C (p.G<|iN z) d Q⟩
 .by_cases e:b=i
  .subst e;rw[jG]at q;exact W t q v
  .rw[iM _ e]at q;exact(p.f b t X q v).app u
def N9{r:Nat}{v:jm}(h:v.rS=0):gM.gD F j k (.fy r v)=0:=by simp only[gM.gD,h];split<;>rfl
def wm{a:Ă}(h:a∈#[wQ]):a=wQ:=by simpa using h
def afM{i:Nat}{fn:Ĵ}{pos:String}{m:Ο}:∃y:Ă,Û i fn pos #[jM m]=#[y]/\y.g=i/\y.act=ė m:=⟨{g:=i,fn,pos,act:=ė m},by simp[Û,jM,Ë],U,U⟩
def PI.Ak(H:gQ F)(p:PI F j zX E S s B f c w qJ){a:Ä}{m:Ο}{J:Jd}{T:gy}(K:iy)(v:c[i]?=Ã g)(x:è F.P (i==0) g w=ş a w #[jM m])(z:m≠ô)(C:m≠î) (D:∀y:Ă,y.act=ė m->(∀b,y.act.touch?=Ã b->Fi (λi=>i<c.size) E.Y f b)/\y.act.low w.heap.size) (G:∀y:Ă,y.g=i->y.act=ė m->∀I,¬Race I (qJ++#[y])) (hF:kQ F.P (i==0) J T {f i with w:=w} a) (L:a.status=Å\/a.status=å): ∃o y,y.g=i/\y.act=ė m/\Ŏ F.P (ð c w sl) i=(ğ<|ð o w sl,#[y])/\o.size=c.size/\o[i]?=Ã a/\(∀k,k≠i->o[k]?=c[k]?.map (Ā F.P g a w))/\ gK F.P F.S E.Y (fx S i J) (fx s i T) (fx B i K) (gu f i {f i with w:=w}) o w (qJ++#[y])/\iG F E (gu f i {f i with w:=w}) o.size w:=by
 obtain⟨y,l,n,h⟩:=afM;have r:Ï (f i).d #[jM m]=(f i).d:=ĺ (λe k=>by
  have:e=jM m:=by simpa using k
  subst this;exact⟨λq=>z (by injection q),λq=>C (by injection q)⟩) _
 have M:∀e∈#[jM m],Ë e=y.act:=λe k=>by
  have:e=jM m:=by simpa using k
  subst this;rw[h];rfl
 obtain⟨o,q,t,N,O,u⟩:=p.I.qe v x (pv.fT _ _ _ _) (by rwa[r]) L (λe k=>by rw[M e k];exact D y h) (by rw[l];exact G y n h);rw[r,l]at u;rw[l]at q;refine⟨o,y,n,h,q,t,N,O,u,?_⟩;rw[t];exact p.a.C<|Ç _
def Oa(H:gQ F)(p:PI F j zX E S s B f c w qJ)(hb:F.M b)(D:yc E i){m:Ο}(N:m=.read (gU b)\/m=Υ (gU b))(T:F.NS E.d (gU b) (Ã i))(W:∀x,E.iq x->i≠F.L+x): (∀y:Ă,y.act=ė m->(∀b,y.act.touch?=Ã b->Fi (λi=>i<c.size) E.Y f b)/\y.act.low w.heap.size)/\(∀y:Ă,y.g=i->y.act=ė m->∀O,¬Race O (qJ++#[y]))/\∀y:Ă,y.g=i->y.act=ė m->TI F.toFx j zX E.r E.S.rl E.V E.e E.d E.iq E.f (qJ++#[y]):=by
 have C:=p.I.r;have G:∀y:Ă,y.act=ė m->∀a,y.act.touch?=Ã a->a.loc=ú (gU b)/\a.kind=.said:=λy t a l=>by rw[t]at l;rcases N with rfl|rfl<;>simp[Ċ]at l<;>subst l<;>exact⟨U,U⟩
 have u:=(we hb).2;refine⟨λy t=>⟨λa l=>À ⟨_,(G y t a l).1,wh u,λk D=>p.a.Y H.C u k D⟩,?_⟩,λy I t=>λO=> ?_,λy I t=> ?_⟩
 .have:=C.N _<|wh (E:=E) u;rw[t];rcases N with rfl|rfl<;>exact this
 .refine noRace_append (C.l O) (λd h=>by rw[wm h,I]) λq a l d h z hz X=> ?_;have:d=y:=by simpa using h
  subst this;let⟨n,P⟩:=G d t z hz;rcases p.d.M q a _ l (X.1.trans n) u with⟨J,o⟩|r|⟨_,r⟩
  .exact WE p.d D J o
  .let⟨_,_,_,v⟩:=X;rw[r,P]at v;rcases v with v|v|⟨_,v,_⟩<;>cases v
  .have e:qJ.g? q=Ã i:=by
    rcases T with⟨K,M⟩|⟨k,v,K,M,s3,s4⟩
    .rcases r with⟨_,o⟩|⟨k,v,Q,o,_,_⟩
     .rw[o,M]
     .rw[K]at o;exact absurd (by injection o with o _ _;exact o.symm)<|H.C.M k Q
    .rcases r with⟨J,_⟩|⟨k',j',Q,o,r3,r4⟩
     .rw[M]at J;exact absurd (by injection J)<|H.C.M k K
     .rw[M]at o;have:k=k':=H.C.S _ _ K Q (by injection o);subst this;rw[s3]at r3;obtain rfl:=È r3;rw[r4,s4]
   let⟨M,v,K⟩:=Ù.1 e;have:=knows_own v;rwa[K]at this
 .refine p.d.C ⟨λd h a _=>by rw[wm h,I],D.imp id À,λd h a x l o K=> ?_,λd h a z l Q o k X J=> ?_,λd h b' _ e=> ?_,λx K q=>⟨λr M=>M.appOther (λd h=>by rw[wm h,I])<|W x q,λe=>absurd e.symm<|W x q⟩⟩
  .have:d=y:=by simpa using h
   subst this;let⟨n,P⟩:=G d t a l;rw[o]at n;injection n with n;subst n;exact Á ⟨P,T⟩
  .have:d=y:=by simpa using h
   subst this;let⟨n,_⟩:=G d t a l;rw[o]at n;injection n with n;subst n;exact⟨λv=>(p.a.I k (Ø J<|Jl p.C) _ v).2.1<|wh u,λe=>by simp[gU,je]at e⟩
  .have:d=y:=by simpa using h
   subst this;rw[t]at e;rcases N with rfl|rfl<;>simp at e
theorem PI.afN(H:gQ F)(p:PI F j zX E S s B f c w qJ){r:Nat}(b:i+2<=E.r)(d:E.N (i+1)=Í)(q:c[F.L+1+i]?=Ã g)(z:g.status=Å)(C:s (F.L+1+i)=.fB)(a:E.C i=.fy r .wr):jT F j zX E s c w qJ sl (F.L+1+i):=by let⟨Y,_,g',D,t⟩:=p.CF H b d q z C a w<|p.I.r.r _<|iN q;have u:=p.C.d i r b<|À ⟨_,a⟩;have v:=ye H.C i;let⟨G,I,K⟩:=Oa H p (FD H.C u) (CC b) (m:=Υ<|gU<|F.I<|F.r<|i+r*F.n) (Á U) (Á ⟨_,i,H.C.I _ u,U,p.C.D i r b a,U⟩) λx h e=>(Jp (E:=E) d) x h e;let⟨T,M⟩:=jh t;have x:=lj (λl g h=>À h.2.1) t;obtain⟨o,y,l,N,O,P,Q,V,W,X⟩:=p.Ak (J:=JW F (E.I i) i<|.fy r .kq) H (kW F (E.I i)<|.fy r .kq) q (by rw[v];exact D w) fp fp G I (by rwa[v]) x;refine p.N8 H b d q O P Q x V W (K y l N) X (by rw[a];rfl) (by rw[a];rfl) (p.C.G b d (λk=>by rw[a];rfl) (λe h=> ?_) (λe h=> ?_) (λe h=>by cases h) λe h=>by cases h) (by rw[a];simp only[gM.rk,jm.rk];omega) (λe h=>by cases h);all_goals grind
theorem PI.afO(H:gQ F)(p:PI F j zX E S s B f c w qJ){r:Nat}(m:i+2<=E.r)(n:E.N (i+1)=Í)(q:c[F.L+1+i]?=Ã g)(G:g.status=Å)(I:s (F.L+1+i)=.fB)(d:E.C i=.fy r .gB):jT F j zX E s c w qJ sl (F.L+1+i):=by
 let⟨hd,_,K⟩:=p.CF H m n q G I d w<|p.I.r.r _<|iN q;have v:=p.C.d i r m<|À ⟨_,d⟩;have y:=FD H.C v;have z:=ye H.C i;let⟨a,b,M⟩:=p.C.H i r m d;have C:=p.M.I _<|H.C.I _ v;rw[M]at C;let⟨g',N,t⟩:=K 0;simp only[if_true]at t;let⟨T,O⟩:=jh t;have D:=lj (λl g h=>À h.2.1) t;obtain⟨o,u,l,P,Q,V,W,X,Y⟩:=p.Y (J:=JW F (E.I i) i<|.fy r .kR) H (kW F (E.I i)<|.fy r .kR) q (CC m) y (by rw[z];exact N w C.C) (À U) (yd y) U (λx k e=>(Jp n x k e).elim) (by rwa[z]) D;refine p.N8 H m n q l P Q D V W X Y (by rw[d];rfl) (by rw[d];rfl) (p.C.G m n (λk=>by rw[d];rfl) (λe h=> ?_) (λe h=> ?_) (λe h=>by cases h) λe h=>by cases h) (by rw[d];simp only[gM.rk,jm.rk];omega) λe h=>by cases h
 .grind
 .rcases h with h|h|h<;>cases h;exact p.C.w i r m<|À d
theorem PI.afP(H:gQ F)(p:PI F j zX E S s B f c w qJ){r:Nat}(d:i+2<=E.r)(t:E.N (i+1)=Í)(q:c[F.L+1+i]?=Ã g)(I:g.status=Å)(K:s (F.L+1+i)=.fB)(a:E.C i=.fy r .kR):jT F j zX E s c w qJ sl (F.L+1+i):=by
 have v:=iN q;let⟨M,_,g',N,x⟩:=p.CF H d t q I K a w<|p.I.r.r _ v;have O:=p.C.d i r d<|À ⟨_,a⟩;have C:=FD H.C O;have D:=ye H.C i;have u:∀y:Ă,y.act=ė (ő<|fM<|F.I<|F.r<|i+r*F.n)->y.act.touch?=Í:=λy m=>by rw[m];rfl
 let⟨T,P⟩:=jh x;have G:=lj (λl g h=>À<|H.Y _ _ _ _ h) x;obtain⟨o,y,Q,l,V,W,X,Y,q5,q7⟩:=p.Ak (J:=JW F (E.I i) i<|.jD r) H (kW F (E.I i)<|.jD r) q (by rw[D];exact N w) fp fp (λy m=>⟨λz k=>(by rw[u y m]at k;cases k),by rw[m];exact p.I.r.N _<|À C⟩) (λy _ m=>zY p.I.r.l λz k=>by rw[wm k];exact u y m) (by rwa[D]) G;have CI:=p.d.C (xZ (λz k=>by rw[wm k];exact u y l) λz k b _ e=>by grind);refine p.N8 H d t q V W X G Y q5 CI q7 (by rw[a];rfl) (by rw[a];rfl) (p.C.G d t (λk=>by rw[a,N9 U];rfl) (λk h=> ?_) (λk h=> ?_) (λk h=>by cases h) λk h=>by cases h) (by rw[a];simp only[gM.rk,jm.rk];omega) λk h z=> ?_
 .grind
 .rcases h with h|h|h<;>cases h;exact p.C.w i r d<|Á<|À a
 .cases h;let⟨k,b,e⟩:=p.d.Y _ z<|Ø (p.C.w i r d<|Á<|À a)<|NY _;exact Wu k b e (p.d.c _ C) Q l<|(p.I.r.f _ v).trans M
end
section
variable{F:Ph}{E E':fS F}{S:Nat->Jd}{tr o:Nat->gy}{f:Nat->iy}{d:Nat->fe}{gs gs':Array Ä}{u:ä}{sl:Option (Nat×Nat)}
def WO{G:GS}(h:G.sm≠0):∃a s,G=.gV a (s+1):=by
 cases G with
 |cl c b=>exact absurd U h
 |jz b=>exact absurd U h
 |gV a s=>cases s with
  |zero=>exact absurd U h
  |succ s=>exact⟨a,s,U⟩
def CJ(h:gs[i]?=Ã g):gi gs i=if g.status=Å then 1 else 0:=by unfold gi;rw[h];simp
def Ob(h:gs'[i]?=gs[i]?):gi gs' i=gi gs i:=by unfold gi;rw[h]
theorem PI.afQ(H:gQ F)(p:PI F n zX E S tr f d gs w qJ){j r:Nat}{g:Ä}(t:j+2<=E.r)(m:E.N (j+1)=Í)(v:gs[F.L+1+j]?=Ã g)(z:g.status=Å)(ht:tr (F.L+1+j)=.fB)(c:E.C j=.fy r .kq):jT F n zX E tr gs w qJ sl (F.L+1+j):=by
 have B:=iN v;obtain⟨hd,_,ho,Oc,g',h1,h2⟩:=(p.CF H t m v z ht c) w<|p.I.r.r _ B;have Q:=p.C.d j r t<|À ⟨_,c⟩;have C:=FD H.C Q;have G:=H.C.I _ Q;have V:=ye H.C j;have X:=p.G B;have uV:j<F.n:=by have:=Cz p.C;omega
 have hG:=p.M.I _ G;by_cases K:(E.a<|F.r<|j+r*F.n).sm=0
 .have q:=hG.M;rw[K]at q;obtain⟨s7,I⟩:=p.g j t m;rw[c]at s7 I;obtain⟨gs',q1,o,M,q4⟩:=NB v (by rw[V];exact(Oc w q));have s:∀x,Ā F.P g {g with status:=Ü} w x=x:=by
   intro x;unfold Ā;rw[if_neg fp]
  have b:∀k,k≠F.L+1+j->gs'[k]?=gs[k]?:=by
   intro k a;rw[q4 k a];cases gs[k]? with
   |none=>rfl
   |some x=>simp[s]
  have D:gK F.P F.S E.Y S tr f d gs' w (qJ++#[]):=by
   rw[Ú];obtain⟨g0,J,l,W,O⟩:=p.I.C _ g v;have N:g=g0:=by
    rw[I]at l;cases l with
    |gi=>rfl
    |nG h ho=>cases z
   subst N;refine⟨?_,λk y a=> ?_,λk a=>p.I.I k<|by rwa[<-o]⟩
   .rw[show(λi=>i<gs'.size)=(λi=>i<gs.size) by rw[o]];exact p.I.r
   .by_cases e:k=F.L+1+j
    .subst e;rw[M]at a;obtain rfl:=È a;refine⟨g,J,?_,À z,Á ht⟩;rw[I];exact .nG z ho
    .rw[b k e]at a;exact p.I.C k y a
  refine⟨E,S,tr,f,d,gs',w,#[],q1,o,λh=>h,.r p.N (o.trans p.b) D (by rw[o];exact p.a) p.M p.C (by rw[Ú];exact p.d) (λk y a l=> ?_) (by rw[Ú];exact p.f),N4 (λ_ _=>rfl) X (by rw[CJ v,if_pos z]) (by rw[CJ M,if_neg fp]) λk a=>Ob<|b k a⟩;by_cases e:k=F.L+1+j
  .subst e;exact Á ⟨j,t,m,U,À ⟨r,c,K⟩⟩
  .rw[b k e]at a;exact p.c k y a l
 .obtain⟨a,s,y⟩:=WO K;have Od:=y▸hG;have CK:=h1 w _ (by simp only[GS.sm];omega) Od.M Od.N;have N:ku (F.I<|F.r<|j+r*F.n) w (w.setCell (gU<|F.I<|F.r<|j+r*F.n)<|ë ç<|(GS.gV a<|s+1).sm-1):=Á ⟨_,_,Á U,U⟩;have D:=N.r p.a H.C C;obtain⟨T,hT⟩:=jh (h2.jS (w₁:=w.setCell (gU<|F.I<|F.r<|j+r*F.n)<|ë ç<|(GS.gV a<|s+1).sm-1) ⟨Ô D.r.symm,λb l=>D.jL b<|p.I.r.I _ B b l,λa k=>D.M _ B a k,λa k=>D.N _ B a k,λa _=>D.I a⟩);have mU:=lj (λl g h=>À h.2.1) h2;obtain⟨gs',u,q1,o,M,q4,q5,q6,q7⟩:=p.Y H (kW F (E.I j)<|.fy r .gB) v (CC t) C (by rwa[V]) N (FB C) (FC _).2.2.2 (λx l e=>(Jp m x l e).elim) (by rwa[V]) mU;have hle:F.r (j+r*F.n)<=E.S.od:=by
   refine ă λl=> ?_;have:=p.C.e _ Z G l;rw[y]at this;cases this
  have rT:=wi (f':=λi=>((gO E j<|.fy r .gB).C i).gD F i<|F.r<|j+r*F.n) uV (λi l=>by rw[iM _ l]);simp only[jG,c]at rT;have s7:gM.gD F j (F.r<|j+r*F.n) (.fy r .gB)=0:=by simp only[gM.gD,if_true];rfl
  have I:gM.gD F j (F.r<|j+r*F.n) (.fy r .kq)=1:=by simp only[gM.gD,if_true];rfl
  rw[s7,I]at rT;refine⟨uU E j (.fy r .gB) (F.r<|j+r*F.n) (.gV a s) E.d,_,_,_,_,gs',_,u,q1,o,λh=>h,.r ?_ (o.trans p.b) q5 ?_ ?_ (p.C.WC t m (λl q=> ?_) (λ_ h=>by omega) (λ_=> ?_) (λ_=>⟨a,s,U⟩) (λh=>by cases h) (λ_ _=>rfl) (λ_ h=>h) (λb h=> ?_) (λb h=> ?_) (λb h=> ?_) λb h=>by cases h) q6 ?_ λk b J O a3=> ?_,?_⟩
  .have:=p.N.N (x:=.fy r .gB) (T:=T) H.C t m;exact⟨this.M,this.Y,this.I,this.C,this.r⟩
  .have:=q7.r (x:=.fy r .gB) (by rw[c];rfl);exact⟨this.gR,this.o,this.lC,this.e,this.f,this.h,this.l,this.S,this.M,this.c,this.I,this.N,this.g,this.d⟩
  .have W:=N.I H p.a p.C p.M C (Gg:=fx E.a (F.r<|j+r*F.n)<|.gV a s) ⟨λe=>absurd e<|H.C.M _ G,λ_=>rfl⟩ λl q=>⟨λe=> ?_,λe=>fH _ _ λe'=>e<|by rw[e']⟩
   .have l:=W.Y (x:=.fy r .gB) (by show _=(E.C j).kt;rw[c];rfl) (by show _=(E.C j).iL;rw[c];rfl);exact⟨l.C,l.I,l.jB,l.M,l.S,l.N⟩
   .rw[<-(H.C.S _ _ G q e),gE];exact Od.kq
  .rw[c];simp only[gM.gD,if_neg<|ÿ q]
  .rcases p.C.Y _ G hle with⟨W,_,q,_⟩|⟨r1,s1,l,z2,q,z3⟩|⟨l,⟨q,_⟩|⟨s1,q,z3⟩⟩
   .rw[y]at q;cases q
   .rw[y]at q;injection q with e1 e2;subst e1 e2;exact Á<|À ⟨a,s,l,z2,U,Z⟩
   .rw[y]at q;cases q
   .rw[y]at q;injection q with e1 e2;subst e1 e2;exact Á<|Á ⟨l,Á ⟨s,U,Z⟩⟩
  .rcases h with⟨_,h⟩|h|h<;>cases h;exact Q
  .rcases h with h|h|h<;>cases h;exact hle
  .cases h;exact⟨a,s,gE _ _ _⟩
  .refine p.c.qe (E':=uU E j _ _ _ _) M (by rcases mU with q|q<;>rw[q]<;>simp) q4 (λk l=>N.C p.C C l) U U (λ_ _=>rfl) (λ_=>rfl) (λk e=>iM _ Z) (λ_ _ h=>À h) λk b _ _ h=>À ?_;by_cases e:F.r (k+b*F.n)=F.r (j+r*F.n)
   .rw[e]at h;exact absurd h K
   .show(fx E.a _ _ _).sm=0;rwa[fH _ _ e]
  .have e:k≠j:=λe=>by
    subst e;have:(gO E k<|.fy r .gB).C k=.jD b:=O;rw[jG]at this;cases this
   have l:(gO E j<|.fy r .gB).C k=.jD b:=O;rw[iM _ e]at l;exact(p.f k b J l a3).app u
  .have:=CB (E:=E) (tr:=tr) (gs:=gs) (gs':=gs') (x:=.fy r .gB) (T:=T) H.C X m (by rw[c];simp only[gM.rk,jm.rk];omega);rcases this with⟨i,J,O,a3⟩|⟨J,_⟩
   .exact À ⟨i,J,O,a3⟩
   .exfalso;have:=J _ X;change(gO E j<|.fy r .gB).iQ (fx tr (F.L+1+j) T) (F.L+1+j)=E.iQ tr (F.L+1+j)at this;rw[sZ H.C (E:=gO E j _) (show(gO E j _).N (j+1)=Í from m),sZ H.C m,jG,c]at this;injection this with e _;simp only[gM.rk,jm.rk]at e;omega
theorem iG.afR(L:iG F E d i w){l:fe}(H:∀b,l.O b->(d n).O b)(I:∀b,(d n).I b->l.I b)(J:∀a,l.r a->(d n).r a)(K:∀a,(d n).r a->l.r a)(M:∀a,(d n).N a->l.N a)(N:∀a,l.C a->(∃k,k<=F.m/\a=je F.toFx k)\/∃p,p≠F.f/\a=jj F p)(P:l.q=(d n).q)(s:¬l.q):iG F E (gu d n l) i w:=by
 have D:∀k,d k=kr (d k)->k≠n:=λk f e=>by
  subst e;have:(d k).q:=by rw[f];trivial
  grind
 have Q:∀k b,(gu d n l k).O b->(d k).O b:=λk b h=>by grind [gS,gG]
 have t:∀k a,(gu d n l k).r a↔(d k).r a:=λk a=>by grind [gS,gG]
 have y:∀k b,(d k).I b->(gu d n l k).I b:=λk b h=>by grind [gS,gG]
 have z:∀k a,(d k).N a->(gu d n l k).N a:=λk a h=>by grind [gS,gG]
 refine⟨λk f a v=> ?_,λx c o a v=>(t _ _).2<|L.o x c o a v,λh=>⟨z _ _ (L.lC h).1,λb s=>y _ _<|(L.lC h).2 b s⟩,λh k c o=>⟨(t _ _).2 (L.e h k c o).1,(t _ _).2 (L.e h k c o).2⟩,λh u=>⟨z _ _ (L.f h u).1,λb s=>y _ _<|(L.f h u).2 b s⟩,λj g u r B c=>(t _ _).2<|L.h j g u r B c,λj g u=>⟨z _ _ (L.l j g u).1,λb s=>y _ _<|(L.l j g u).2 b s⟩,λx G=> ?_,λk f=> ?_,λk c o=> ?_,λk f b s=> ?_,λk f j g h=>L.N k f j g<|(t _ _).1 h,λk c o j g h=>L.g k c o j g<|(t _ _).1 h,λj g r B c k f h=>L.d j g r B c k f<|(t _ _).1 h⟩
 .by_cases e:k=n
  .grind [gS]
  .rw[gG d _ e]at v;exact L.gR k f a v
 .rw[gG d _<|D _<|L.S x G];exact L.S x G
 .by_cases e:k=n
  .grind [gS]
  .rw[gG d _ e];exact L.M k f
 .rw[gG d _<|D _<|L.c k c o];exact L.c k c o
 .let⟨S,T,V⟩:=L.I k f b s;grind
theorem PI.afS(H:gQ F)(p:PI F n zX E S tr f d gs w qJ){r:Nat}(o:j+2<=E.r)(s:E.N (j+1)=Í)(u:gs[F.L+1+j]?=Ã g)(x:g.status=Å)(I:tr (F.L+1+j)=.fB)(m:E.C j=.jD r):qN F n zX E tr gs w qJ:=by
 have c:=iN u;have C:=p.I.r;obtain⟨y,z⟩:=p.g j o s;rw[m]at y z;have B:=p.I.N u x I (À z) w<|C.r _ c;rw[y]at B;have v:=p.C.d j r o<|Á<|À m;have J:=H.C.I _ v;have D:=p.C.w j r o<|Á<|Á m;have t:=Ø D<|Ø (NY _)<|Jl p.C;obtain⟨K,M⟩:=p.M.M _ t;have N:=λa l=>by
  by_cases e:1<=F.r (j+r*F.n)
  .exact(p.d.I _ e (Ø D<|NY _) a l).afj<|p.f j r o m e
  .have h:F.r (j+r*F.n)=0:=Z
   obtain⟨i,b⟩:=p.a.l j o s;rw[h]at l;rcases l with l|rfl
   .rw[p.C.v]at l;exact(C.S _ c).C a<|b _ l
   .exact(C.S _ c).r _ i
 have G:iP F.S (λi=>i<gs.size) E.Y (gu d (F.L+1+j) {d (F.L+1+j)with I:=λb=>(d<|F.L+1+j).I b\/E.V (F.r<|j+r*F.n) b,N:=λa=>(d<|F.L+1+j).N a\/a=je F.toFx (F.r<|j+r*F.n),w:=w}) w qJ:=by
  refine C.C c (λ_ q=>q) (λb q=> ?_) (λ_ q=>q) (λa q=> ?_) U U U (λb h q=> ?_) λa l q=> ?_
  .rcases q with q|q
   .exact À<|Á q
   .obtain⟨i,k,O⟩:=p.a.I _ t b q;grind
  .rcases q with q|rfl
   .exact À<|Á q
   .exact Á ⟨À<|Á ⟨_,J,U⟩,λk e=>p.a.N _ t k e,N _<|Á U⟩
  .rcases q with q|q
   .exact C.m _ c b h q
   .exact(p.a.I _ t b q).2.2 _ c h
  .rcases q with q|rfl
   .exact C.g _ c a l q
   .exact p.a.N _ t _ c l
 have i:=G.M c;rw[gS]at i;obtain⟨T,O⟩:=jh (H.e (E.I j) j r _ _ _ g v B {d (F.L+1+j)with I:=λb=>(d<|F.L+1+j).I b\/E.V (F.r<|j+r*F.n) b,N:=λa=>(d<|F.L+1+j).N a\/a=je F.toFx (F.r<|j+r*F.n),w:=w} i U (λb q=>q) U U U U U K M (Á U)<|p.a.h j o s r v<|by rw[m];exact Ç _);refine p.N5 H o s u (À x) G O ?_ (p.M.Y (by rw[m];rfl)<|by rw[m];rfl) (p.C.G o s (λk=>by rw[m];rfl) (λe h=> ?_) (λe h=> ?_) (λe h=>by cases h) λe h=>by cases h) ?_ λe h=>by cases h
 .refine(p.a.r<|by rw[m];rfl).afR (λ_ q=>q) (λ_ q=>À q) (λ_ q=>q) (λ_ q=>q) (λ_ q=>À q) (λa l=> ?_) U (p.a.M (F.L+1+j)<|Á ⟨j+1,Z,Z,λ⟨e,h,_⟩=>by rw[s]at h;cases h⟩);rcases l with q|q|rfl
  .exact p.a.gR _ c a<|À q
  .exact p.a.gR _ c a<|Á q
  .grind
 .grind
 .grind
 .rw[m];simp only[gM.rk];have h:F.n+3000<=(F.n+3000)*(F.q+3-r):=â _ (by
   have:r<=F.q:=by have:r*1<=r*F.n:=ï _ H.C.N;omega
   omega)
  omega
def PI.afT(H:gQ F)(p:PI F n zX E S tr f d gs w qJ){r:Nat}(G:j+2<=E.r)(I:E.N (j+1)=Í)(V:gs[F.L+1+j]?=Ã g)(iI:g.status=Å)(ht:tr (F.L+1+j)=.fB)(u:E.C j=.oh r):qN F n zX E tr gs w qJ:=by
 have D:=iN V;have C:=p.I.r;let⟨s7,rU⟩:=p.g j G I;rw[u]at s7 rU;have hJ:=p.I.N V iI ht<|À rU;rw[s7]at hJ;let⟨hcell,hrecv⟩:=hJ w<|C.r _ D;have ov:=p.C.d j r G<|Á<|Á u;have Jr:=p.a.h j G I r ov (by rw[u];exact Ç _);have Js:r<=F.q:=by have:r*1<=r*F.n:=ï _ H.C.N;omega
 have yf:iP F.S (λi=>i<gs.size) E.Y (gu d (F.L+1+j)<|uT F {d (F.L+1+j)with w:=w}<|j+r*F.n) w qJ:=by
  refine C.C D (λ_ q=>q) (λb q=>À<|Á q) (λ_ q=>q.1) (λa q=> ?_) U U U (λb t q=>C.m _ D b t q) λa s q=> ?_
  .rcases q with q|rfl
   .exact À<|Á q
   .exact À<|À Jr
  .rcases q with q|q
   .exact C.g _ D a s.1 q
   .exact s.2 q
 have hF:kQ F.P É (JW F (E.I j) j<|.mW (r+1)) .fB (uT F {d (F.L+1+j)with w:=w}<|j+r*F.n) g:=λw₁ mY=>by let⟨Q,W,c,e⟩:=hrecv;exact⟨Q,W,c,λx=>(e x).jS mY⟩
 refine p.N5 H G I V (À iI) yf hF ?_ ?_ (p.C.G G I (λk=>by rw[u];rfl) (λm h=> ?_) (λm h=> ?_) (λm h=>by cases h) λm h=>by cases h) ?_ λm h=>by cases h
 .have L:=p.a;have J:∀k a,(gu d (F.L+1+j) (uT F {d (F.L+1+j)with w:=w}<|j+r*F.n) k).r a->(d k).r a:=λk a h=>by
   by_cases e:k=F.L+1+j
   .subst e;rw[gS]at h;exact h.1
   .rwa[gG d _ e]at h
  have K:∀k a,(d k).r a->a≠jj F (F.a<|j+r*F.n)->(gu d (F.L+1+j) (uT F {d (F.L+1+j)with w:=w}<|j+r*F.n) k).r a:=λk a h lb=>by
   by_cases e:k=F.L+1+j
   .subst e;rw[gS];exact⟨h,lb⟩
   .rwa[gG d _ e]
  have X:∀k a,(d k).N a->(gu d (F.L+1+j) (uT F {d (F.L+1+j)with w:=w}<|j+r*F.n) k).N a:=λk a h=>by
   by_cases e:k=F.L+1+j
   .subst e;rw[gS];exact À h
   .rwa[gG d _ e]
  have M:∀k,(gu d (F.L+1+j) (uT F {d (F.L+1+j)with w:=w}<|j+r*F.n) k).I=(d k).I/\(gu d (F.L+1+j) (uT F {d (F.L+1+j)with w:=w}<|j+r*F.n) k).O=(d k).O/\(gu d (F.L+1+j) (uT F {d (F.L+1+j)with w:=w}<|j+r*F.n) k).q=(d k).q:=λk=>by
   by_cases e:k=F.L+1+j
   .subst e;rw[gS];exact⟨U,U,U⟩
   .rw[gG d _ e];exact⟨U,U,U⟩
  have nb:∀k,d k=kr (d k)->k≠F.L+1+j:=λk W e=>by
   subst e;have:(d<|F.L+1+j).q:=by rw[W];trivial
   exact(p.a.M (F.L+1+j)<|Á ⟨j+1,Z,Z,λ⟨e,c,_⟩=>by rw[I]at c;cases c⟩) this
  have N:∀k,k≠F.L+1+j->k<gs.size->∀a,(d k).r a->a≠jj F (F.a<|j+r*F.n):=λk W FJ a s e=>C.h _ _ FJ D W a s (by rw[e];exact À Jr);refine⟨λk W a s=> ?_,λx c v a s=>K _ _ (L.o x c v a s) (N 0 (by have:=H.C.r;omega) (by have:=p.b;have:=H.C.r;omega) a<|L.o x c v a s),λh=>⟨X _ _ (L.lC h).1,λb t=>by rw[(M 0).1];exact(L.lC h).2 b t⟩,λh k c v=> ?_,λh B=>⟨X _ _ (L.f h B).1,λb t=>by rw[(M _).1];exact(L.f h B).2 b t⟩,λl o B m y c=> ?_,λl o B=>⟨X _ _ (L.l l o B).1,λb t=>by rw[(M _).1];exact(L.l l o B).2 b t⟩,λx Al=>by rw[gG d _<|nb _<|L.S x Al];exact L.S x Al,λk W=>by rw[(M k).2.2];exact L.M k W,λk c v=>by rw[gG d _<|nb _<|L.c k c v];exact L.c k c v,λk W b t=>⟨(L.I k W b t).1,(L.I k W b t).2.1,λi z=>by rw[(M i).2.1];exact(L.I k W b t).2.2 i z⟩,λk W i z h=>L.N k W i z<|J _ _ h,λk c v i z h=>L.g k c v i z<|J _ _ h,λl o m y c i z h=> ?_⟩
  .by_cases e:k=F.L+1+j
   .subst e;rw[gS]at s;rcases s with q|q|q
    .exact L.gR _ D a<|À q.1
    .exact L.gR _ D a<|Á q
    .exact Á ⟨_,H.C.Y.2 _ (by assumption),q⟩
   .rw[gG d _ e]at s;exact L.gR k W a s
  .have Q:F.L<gs.size:=by have:=p.b;have:0<E.r:=h;omega
   have:=L.e h k c v;exact⟨K _ _ this.1<|N _ Z Q _ this.1,K _ _ this.2<|N _ Z Q _ this.2⟩
  .by_cases e:l=j
   .subst e;rw[jG]at c;simp only[gM.kt]at c;refine K _ _ (L.h l o B m y<|by rw[u];simp only[gM.kt];omega) λq=> ?_;have Q:=H.C.a _ _ y ov (by injection q);have T:m*F.n=r*F.n:=Z
    have:=Nat.eq_of_mul_eq_mul_right H.C.N T;omega
   .rw[iM _ e]at c;have q:=L.h l o B m y c;have wo:l+2<=E.r:=o;exact K _ _ q<|N _ Z (by have:=p.b;omega) _ q
  .by_cases e:l=j
   .subst e;rw[jG]at c;simp only[gM.kt]at c;by_cases Q:m=r
    .subst Q;by_cases T:i=F.L+1+l
     .subst T;rw[gS]at h;exact h.2 U
     .exact N i T z _ (J _ _ h) U
    .exact L.d l o m y (by rw[u];simp only[gM.kt];omega) i z<|J _ _ h
   .rw[iM _ e]at c;exact L.d l o m y c i z<|J _ _ h
 .have W:=p.M;refine⟨W.C,W.I,λl o=> ?_,W.M,W.S,λl o m y c=> ?_⟩
  .by_cases e:l=j
   .subst e;have:=W.jB l o;rw[u]at this;rw[jG];exact this
   .rw[iM _ e];exact W.jB l o
  .by_cases e:l=j
   .subst e;rw[jG]at c;simp only[gM.kt]at c;by_cases Q:m=r
    .subst Q;exact hcell
    .exact W.N l o m y<|by rw[u];simp only[gM.kt];omega
   .rw[iM _ e]at c;exact W.N l o m y c
 .rcases h with⟨_,h⟩|h|h<;>cases h
 .rcases h with h|h|h<;>cases h
 .rw[u];simp only[gM.rk];have e:F.q+3-r=(F.q+3-(r+1))+1:=Z
  rw[e,ł];omega
end
def afU{α:Type}(f:Nat->α)(i:Nat)(x y:α):fx (fx f i x) i y=fx f i y:=by funext k;unfold fx;split<;>rfl
section
variable{F:Ph}{E E':fS F}{S:Nat->Jd}{tr o:Nat->gy}{d:Nat->iy}{lot:Nat->fe}{gs gs':Array Ä}{u:ä}{sl:Option (Nat×Nat)}{sz:Nat}
def py{r:Nat}{a:Bool}(h:b≠i):(w.setChan i n q yQ j r a).heap[b]?=w.heap[b]?:=by unfold World.setChan;exact í<|ÿ h
def Jt{r:Nat}{a:Bool}(h:i<w.heap.size):(w.setChan i n q yQ j r a).heap[i]?=Ã (.chan n q yQ j r a):=by unfold World.setChan;simp[h]
def FK{r:Nat}{a:Bool}:(w.setChan i n q yQ j r a).heap.size=w.heap.size:=by unfold World.setChan;simp
def afV(f:Ps F E)(c:j+2<=E.r){cap s r:Nat}{buf:Array ã}{cl tm:Bool}:Fw F E lot sz w (w.setChan (E.I j) cap buf cl s r tm):=by
 let⟨g,d,_⟩:=f.o j c;refine⟨Ô FK.symm,λb _ h _=>py λe=>h<|Á<|Á ⟨j,c,e⟩,λa i _=>gL (py λe=> ?_),vU (py λe=>d e.symm),U,U⟩;rcases i with⟨k,l,rfl⟩|⟨p,rfl⟩
 .exact g<|Á ⟨k,l,e.symm⟩
 .exact d e.symm
def WQ(a:Ps F E)(c:j+2<=E.r){cap s r:Nat}{buf:Array ã}{cl tm:Bool}(d:F.M b){G:GS}(h:gZ w b G):gZ (w.setChan (E.I j) cap buf cl s r tm) b G:=by have e:b≠E.I j:=λe=>(a.o j c).1<|e▸d;exact h.uS (gL<|py e) (gL<|py e) (vV<|py e)<|vV<|py e
def Wd.G(W:Wd F E w)(H:gQ F)(L:iG F E lot sz w)(g:Ps F E)(h:j+2<=E.r){cap s r:Nat}{buf:Array ã}{cl tm:Bool}: (∀k,k<=E.S.md->mX F k (E.c k)/\F.d k (E.c k) (E.V k) (w.setChan (E.I j) cap buf cl s r tm))/\(∀k,1<=k->k<=E.S.md->(w.setChan (E.I j) cap buf cl s r tm).cell? (jj F (F.b k))=Ã (.string (F.o k)))/\(∀c,c+2<=E.r->∀d,c+d*F.n<F.q->d<(E.C c).kt->(w.setChan (E.I j) cap buf cl s r tm).cell? (jj F (F.a (c+d*F.n)))=Ã (.string (F.k (c+d*F.n))))/\gZ (w.setChan (E.I j) cap buf cl s r tm) F.C E.b/\(∀k,k<=F.m->gZ (w.setChan (E.I j) cap buf cl s r tm) (F.I k) (E.a k)):=by have e:=afV (lot:=lot) (sz:=sz) (w:=w) g h (cap:=cap) (s:=s) (r:=r) (buf:=buf) (cl:=cl) (tm:=tm);refine⟨λk a=>⟨(W.M k a).1,H.S _ _ _ _ _ (W.M k a).2 (λb f=>e.C b (L.I k a b f).1 (L.I k a b f).2.1 (L.I k a b f).2.2) (e.r _ (À ⟨k,Ø a (Jk g),U⟩) (L.N k a)) (e.r _ (Á ⟨_,U⟩) (L.NW H.C)) e.I e.M⟩,λk b f=>(e.r _ (Á ⟨_,U⟩) (L.g k b f)).trans (W.S k b f),λc b d f i=>(e.r _ (Á ⟨_,U⟩) (L.d c b d f i)).trans (W.N c b d f i),WQ g h (À U) W.C,λk a=>WQ g h (Á ⟨k,a,U⟩) (W.I k a)⟩
def iG.CL(L:iG F E lot sz w)(h:w.heap.size<=W.heap.size):iG F E lot sz W:= ⟨L.gR,L.o,L.lC,L.e,L.f,L.h,L.l,L.S,L.M,L.c,λk a b c=>⟨Ê (L.I k a b c).1 h,(L.I k a b c).2⟩,L.N,L.g,L.d⟩
def Ju(c:TI F.toFx i zX E.r E.S.rl E.V E.e E.d E.iq E.f qJ)(h:vZ u):TI F.toFx i zX E.r E.S.rl E.V E.e E.d E.iq E.f (qJ++u):= c.C<|xZ (λa b=>(h a b).1) λa b _ _=>(h a b).2 _
def gT(E:fS F)(x:Nat)(e:ig):fS F:={E with N:=fx E.N x (Ã e)}
theorem qh.G(h:qh F E S tr d)(ok:F.Ok){x:Nat}{e:ig}{T:gy}(m:(∃N,e=.jl N)->T=.fB):qh F (fA.gT E x e) (fx S (F.L+x)<|JE F e) (fx tr (F.L+x) T) (fx d (F.L+x) .no):=by
 have:=ok.r;have c:∀y,y≠x->(fA.gT E x e).N y=E.N y:=λy k=>fH _ _ k;have g:(fA.gT E x e).N x=Ã e:=gE _ _ _;refine⟨by rw[fH S _ Z,fH d _ Z];exact h.M,λb a=> ?_,λj b a=> ?_,λy l b a=> ?_,λi b a=>by rw[fH S _ Z,fH d _ Z,fH tr _ Z];exact h.r i b a⟩
 .have f:x≠0:=λq=>by subst q;rw[g]at a;cases a
  rw[c 0<|ÿ f]at a;rw[fH S _ Z,fH d _ Z];exact h.Y b a
 .have f:x≠j+1:=λq=>by subst q;rw[g]at a;cases a
  rw[c _<|ÿ f]at a;rw[fH S _ Z,fH d _ Z];exact h.I j b a
 .by_cases q:y=x
  .grind [gE]
  .rw[c y q]at a;rw[fH S _ Z,fH d _ Z,fH tr _ Z];exact h.C y l b a
def qO(F:Ph)(E:fS F)(x:Nat):Nat×Nat:=match E.N x with
 |some e=>e.rk F
 |none=>if x=0 then(E.S.rk F,0)else((E.C<|x-1).rk F,0)
def afW(ok:F.Ok)(x:Nat):E.iQ tr (F.L+x)=((qO F E x).1,(qO F E x).2,tr<|F.L+x):=by
 have:=ok.r;unfold qO;cases a:E.N x with
 |some e=>rw[Jn ok a]
 |none=>
  cases x with
  |zero=>rw[ó,WA ok a];simp
  |succ j=>rw[show F.L+(j+1)=F.L+1+j by omega,sZ ok a];simp
def CM(ok:F.Ok){x:Nat}{e:ig}{T:gy}(b:F.L+x<F.N)(h:(e.rk F).1<(qO F E x).1\/((e.rk F).1=(qO F E x).1/\(e.rk F).2<(qO F E x).2)):oP F.N ((fA.gT E x e).mu (fx tr (F.L+x) T) gs') (E.mu tr gs):=by
 refine Fz b ?_ λk c=>yb (λ_=>rfl) (λ_ _=>rfl) (λa=>fH _ _ Z) (λ_ _=>rfl) (λ_ _=>rfl)<|fH tr _ c;rw[Jn ok (E:=fA.gT E x e)<|gE _ _ _,afW ok];rcases h with h|⟨a,d⟩
 .exact À h
 .exact Á ⟨a,À d⟩
def afX{e:ig}(h:e.kG=lS (E.N i))(y:Nat):(fA.gT E i e).G y=E.G y:=by
 unfold fS.G;by_cases q:y=i
 .subst q;show(if y<E.M.ad F.n then lS (fx E.N y (Ã e) y)else 0)=_;rw[gE];show(if y<E.M.ad F.n then e.kG else 0)=_;rw[h]
 .show(if y<E.M.ad F.n then lS (fx E.N i (Ã e) y)else 0)=_;rw[fH _ _ q]
def afY{e:ig}(h:e.kG=lS (E.N i)):Ñ (F.n+1) (fA.gT E i e).G=Ñ (F.n+1) E.G:=Ł λy _=>afX h y
theorem Ps.gT(h:Ps F E){x:Nat}{e:ig}(J:x<E.r)(v:e.kG=lS (E.N x))(w:∀p,E.N x=Ã (.fZ p)->∀W,p≠ .gB W/\p≠ .jb W/\p≠ .iz W)(K:∀p,e=.fZ p->∀W,p≠ .gB W/\p≠ .jb W/\p≠ .iz W) (z:∀j,x=j+1->j<E.M.jd F.n/\∃r,E.C j=.mW r/\∀i,j+i*F.n<F.q->i<r) (B:x=0->E.S=.kF F.m):Ps F (fA.gT E x e):=by
 have b:∀y,y≠x->(fA.gT E x e).N y=E.N y:=λy a=>fH _ _ a;have L:(fA.gT E x e).N x=Ã e:=gE _ _ _;have g:=afY (E:=E) v;refine⟨h.v,h.C,h.K,h.L,h.J,h.I,h.z,h.d,λj C d=> ?_,λd=> ?_,λy a=> ?_,h.M,h.o,λc k f=>by rw[g];exact h.t c k f,λk f=> ?_,λr s f=> ?_,λy p a=> ?_,λD=>by rw[g];exact h.B D,h.e,h.Y,h.w,h.H,h.O,h.S,h.y,h.D⟩
 .by_cases q:j+1=x
  .exact z j q.symm
  .rw[b _ q]at d;exact h.l j C d
 .by_cases q:0=x
  .exact B q.symm
  .rw[b _ q]at d;exact h.f d
 .have:E.r<=y:=a;rw[b y Z];exact h.h y a
 .rw[g];let⟨l,o,y,t,u,G⟩:=h.g k f;refine⟨l,o,y,t,u,?_⟩;grind
 .rw[g];let⟨l,o,t⟩:=h.u r s f;refine⟨l,o,λG=> ?_⟩;let⟨y,H,I,u⟩:=t G;have:y≠x:=λq=>by subst q;exact(w _ u r).2.2 U
  exact⟨y,H,I,by rwa[b y this]⟩
 .by_cases q:y=x
  .grind
  .rw[b y q]at a;exact h.N y p a
theorem WR{x:Nat}{e:ig}(h:i≠x):(fA.gT E x e).iq i↔E.iq i:=by unfold fS.iq;show(∃a,fx E.N x (Ã e) i=Ã a/\a.iq)↔_;rw[fH _ _ h]
theorem afZ{e:ig}:(fA.gT E i e).iq i↔e.iq:=by unfold fS.iq;show(∃a,fx E.N i (Ã e) i=Ã a/\a.iq)↔_;rw[gE];grind
theorem af0{e:ig}(h:e.iq↔E.iq i)(y:Nat):(fA.gT E i e).iq y↔E.iq y:=by grind [afZ,WR]
theorem WS{e:ig}(h:e.nU↔E.nU i)(y:Nat):(fA.gT E i e).nU y↔E.nU y:=by unfold fS.nU at h|-;show(∃a,fx E.N i (Ã e) y=Ã a/\a.nU)↔_;grind [gE,fH]
theorem iG.gT(L:iG F E lot sz w){x:Nat}{e:ig}(h:e.nU↔E.nU x):iG F (fA.gT E x e) lot sz w:=by
 have d:∀y,(fA.gT E x e).N y=Í->E.N y=Í:=λy c=>by
  by_cases q:y=x
  .subst q;have:fx E.N y (Ã e) y=Í:=c;grind [gE]
  .have:fx E.N x (Ã e) y=Í:=c;grind [fH]
 exact⟨L.gR,L.o,L.lC,L.e,λa b=>L.f a<|d _ b,λj a b=>L.h j a<|d _ b,λj a b=>L.l j a<|d _ b,λy c=>L.S y<|(WS h y).1 c,λi f=>L.M i (f.imp id λ⟨y,a,b,g⟩=>⟨y,a,b,λq=>g<|(WS h y).2 q⟩),L.c,L.I,L.N,L.g,L.d⟩
def Wd.gT(W:Wd F E w){x:Nat}{e:ig}:Wd F (fA.gT E x e) w:=⟨W.C,W.I,W.jB,W.M,W.S,W.N⟩
def TI.G(a:TI F.toFx i zX E.r E.S.rl E.V E.e E.d E.iq E.f qJ){x:Nat}{e:ig}(h:e.iq↔E.iq x):TI F.toFx i zX (fA.gT E x e).r (fA.gT E x e).S.rl (fA.gT E x e).V (fA.gT E x e).e (fA.gT E x e).d (fA.gT E x e).iq (fA.gT E x e).f qJ:= {a with r:=λy b c=>a.r y b ((af0 h y).1 c)}
def PI.af2(H:gQ F)(p:PI F i zX E S tr d lot gs w qJ){r:Nat}(t:j+2<=E.r)(o:E.N (j+1)=Í)(M:gs[F.L+1+j]?=Ã g)(iI:g.status=Å)(ht:tr (F.L+1+j)=.fB)(C:E.C j=.mW r):jT F i zX E tr gs w qJ sl (F.L+1+j):=by
 have wj:=p.G<|iN M;obtain⟨s7,rU⟩:=p.g j t o;rw[C]at s7 rU;have Oe:S (F.L+1+j)=vW F.P (F.L+1+j==0) (E.I j) F.z λx=>match x with
  |some v=>λl g=>v=F.c (j+r*F.n)->qg F.P É F.B (F.I<|F.r<|j+r*F.n) (F.e (E.I j)<|j+r*F.n) .iW l g
  |none=>Ac F:=by rwa[ye H.C j]
 have hY:E.Y (E.I j):=Á<|Á ⟨j,t,U⟩;obtain⟨buf,s,D,s8,WT,yg,yh⟩:=p.M.jB j t;rw[C]at D WT yg yh;simp only[gM.iL]at D WT yg yh;have CN:=(p.I.r).N _ hY;by_cases Ah:r<s
 .have Am:=yh 0 Z;rw[ó]at Am;have ov:j+r*F.n<F.q:=by
   have:=(s8 r).1 Ah;have:E.M.mj F.q<=F.q:=by cases E.M<;>simp only[fU.mj]<;>omega
   omega
  obtain⟨gs',u,T,g',O,f,Q,V,I,W,q7⟩:=p.I.mW M iI rU ht Oe hY D Am<|kW F (E.I j)<|.fy r .iW;have q8:=q7.kF (λl g h=>by rw[gE]at h;exact h U);rw[afU]at q8;obtain⟨z1,z2,z3,z4,z5⟩:=p.M.G H p.a p.C t;refine⟨gO E j<|.fy r .iW,_,_,_,_,gs',_,u,O,f,λh=>h,.r (p.N.N H.C t o) (f.trans p.b) q8 ?_ ⟨z4,z5,λv m=> ?_,z1,z2,λv m c oG a=> ?_⟩ (p.C.G t o (λk=>by rw[C,N9 U];rfl) (λc h=> ?_) (λc h=> ?_) (λc h=>by cases h) λc h=>by cases h) (Ju p.d W) (λk y b G=> ?_) λv c a1 J a3=> ?_,CB H.C wj o ?_⟩
  .rw[f];exact((p.a.r<|by rw[C];rfl).CL<|Ô FK.symm)
  .by_cases e:v=j
   .subst e;rw[jG];refine⟨buf.extract 1 buf.size,s,Jt CN,s8,Ah,by rw[Array.size_extract];simp only[gM.iL];omega,λl kZ=> ?_⟩;simp only[gM.iL]at kZ|-;rw[Array.getElem?_extract];rw[if_pos Z];have:=yh (1+l) Z;rw[this,show r+(1+l)=r+1+l by omega]
   .rw[iM _ e];obtain⟨K,X,y1,y2⟩:=p.M.jB v m;refine⟨K,X,?_,y2⟩;show(w.setChan (E.I j) _ _ _ _ _ _).heap[E.I v]?=_;rwa[py λq=>e<|p.C.M _ _ m t q]
  .by_cases e:v=j
   .subst e;rw[jG]at a;exact z3 v m c oG<|by rwa[C]
   .rw[iM _ e]at a;exact z3 v m c oG a
  .rcases h with⟨_,h⟩|h|h<;>cases h;exact ov
  .rcases h with h|h|h<;>cases h
  .by_cases e:k=F.L+1+j
   .subst e;rw[Q]at b;obtain rfl:=È b;rw[V]at G;cases G
   .rw[I k e]at b;rcases p.c k y b G with a|⟨v,m,yi,K,X|⟨r1,cap,s1,c,X,h4⟩⟩
    .exact À a
    .exact Á ⟨v,m,yi,K,À<|by rwa[iM _ Z]⟩
    .have e2:v≠j:=Z
     exact Á ⟨v,m,yi,K,Á ⟨r1,cap,s1,c,by rwa[iM _ e2],by show(w.setChan (E.I j) _ _ _ _ _ _).heap[E.I v]?=_;rwa[py λq=>e2<|p.C.M _ _ m t q]⟩⟩
  .rw[iM _ (λe=>by subst e;rw[jG]at J;cases J)]at J;exact(p.f v c a1 J a3).app u
  .rw[C];simp only[gM.rk,jm.rk];have hm:F.n+3000<=(F.n+3000)*(F.q+3-r):=â _ (by
    have:r*1<=r*F.n:=ï _ H.C.N;omega)
   omega
 .have Og:buf=#[]:=Array.size_eq_zero_iff.1 Z;subst Og;have af3:r=s:=Z
  by_cases po:j<E.M.jd F.n
  .rw[show decide (j<E.M.jd F.n)=Ì by simpa using po]at D;obtain⟨gs',u,T,g',O,f,Q,V,I,W,q7⟩:=p.I.jd (sl:=sl) M iI rU ht Oe hY D .no;have WU:F.L+1+j=F.L+(j+1):=Z
   have FL:E.M.mj F.q=F.q:=by revert po;cases E.M<;>simp only[fU.jd,fU.mj]<;>intro h<;>first|trivial|omega
   have Oh:¬E.iq (j+1):=λ⟨e,a,_⟩=>by rw[o]at a;cases a
   have Oi:ig.iq .ot↔E.iq (j+1):=⟨λh=>h.elim,λh=>(Oh h).elim⟩;refine⟨fA.gT E (j+1) .ot,_,_,_,_,gs',w,u,O,f,λh=>h,.r (p.N.G H.C λ⟨N,h⟩=>by cases h) (f.trans p.b) (by rwa[<-WU]) (by rw[f];exact p.a.gT ⟨λh=>h.elim,λ⟨e,a,_⟩=>by rw[o]at a;cases a⟩) p.M.gT (p.C.gT Z (by rw[o];rfl) (λp' h=>by rw[o]at h;cases h) (λp' h=>by cases h) (λv h=> ?_) λh=>by omega) ((Ju p.d W).G Oi) (λk y b G=> ?_) λv c a1 J a3=>(p.f v c a1 J a3).app u,CM H.C (by rwa[<-WU])<|À ?_⟩
   .have:v=j:=Z
    subst this;exact⟨po,r,C,λl kZ=>by rw[af3];exact(s8 l).2<|by rwa[FL]⟩
   .by_cases e:k=F.L+1+j
    .subst e;rw[Q]at b;obtain rfl:=È b;rw[V]at G;cases G
    .rw[I k e]at b;have l:∀v,F.L+1+v=k->(fA.gT E (j+1) .ot).N (v+1)=E.N (v+1):=λv h=>fH _ _ Z;rcases p.c k y b G with a|⟨v,m,yi,K,X⟩
     .exact À a
     .exact Á ⟨v,m,by rwa[l v K.symm],K,X⟩
   .unfold qO;rw[o];simp only[ig.rk];rw[if_neg Z,Nat.add_sub_cancel,C];simp only[gM.rk];have hm:F.n+3000<=(F.n+3000)*(F.q+3-r):=â _ (by
     have a:=H.C.N;rcases Nat.eq_zero_or_pos r with l|l
     .omega
     .have K:=(s8 (r-1)).1 Z;have:(r-1)*1<=(r-1)*F.n:=ï _ a;omega)
    omega
  .rw[show decide (j<E.M.jd F.n)=É by simpa using po]at D;obtain⟨gs',g',O,f,Q,V,I,W⟩:=p.I.afc M iI rU ht Oe D;refine⟨E,S,tr,d,lot,gs',w,#[],O,f,λh=>h,.r p.N (f.trans p.b) (by rwa[Ú]) (by rw[f];exact p.a) p.M p.C (by rw[Ú];exact p.d) (λk y b l=> ?_) (by rw[Ú];exact p.f),N4 (λ_ _=>rfl) wj (by rw[CJ M,if_pos iI]) (by rw[CJ Q,if_neg (by rw[V];simp)]) λk b=>Ob<|I k b⟩;by_cases e:k=F.L+1+j
   .subst e;exact Á ⟨j,t,o,U,Á ⟨r,F.q,s,r,C,D⟩⟩
   .rw[I k e]at b;exact p.c k y b l
end
section
variable{F:Ph}{E E':fS F}{S:Nat->Jd}{tr v:Nat->gy}{m:Nat->iy}{f:Nat->fe}{gs gs':Array Ä}{u:ä}{o:Option (Nat×Nat)}
def An(ok:F.Ok)(x:Nat):(F.L+x==0)=É:=by have:=ok.r;simp;omega
def FM(a:i<E.r):yc E (F.L+i):=Á ⟨i,a,U⟩
def PI.Ao(p:PI F n zX E S tr m f gs w qJ){x:Nat}{e:ig}(b:x<E.r)(c:E.N x=Ã e)(d:gs[F.L+x]?=Ã g)(h:g.status=Å)(i:tr (F.L+x)=.fB):∀a,fI (f<|F.L+x) (f<|F.L+x).w a->JE F e {f (F.L+x)with w:=a} g:=by let⟨k,j,_⟩:=p.k x e b c;intro a r;have:=p.I.N d h i (À j) a r;simp_all
theorem Oj(B:fi F E gs w){x:Nat}{e:ig}(c:∀k y,gs[k]?=Ã y->y.status=Ü->k≠F.L+x):fi F (fA.gT E x e) gs w:=by
 intro k y a b;have h:=c k y a b;rcases B k y a b with h1|⟨j,d,i,f,g⟩
 .exact À h1
 .refine Á ⟨j,d,?_,f,g⟩;show fx E.N x (Ã e) (j+1)=Í;grind [fH]
theorem PI.af4(H:gQ F)(p:PI F n zX E S tr m f gs w qJ)(V:J<E.r)(s:E.N J=Ã .ot)(D:gs[F.L+J]?=Ã g)(X:g.status=Å)(ht:tr (F.L+J)=.fB):qN F n zX E tr gs w qJ:=by
 have G:=iN D;have C:=p.I.r;have Oh:¬E.iq J:=λ⟨e,c,d⟩=>by rw[s]at c;cases c;exact d
 have Oi:ig.iq (.fZ .jy)↔E.iq J:=⟨λh=>h.elim,λh=>(Oh h).elim⟩;have yf:iP F.S (λi=>i<gs.size) E.Y (gu f (F.L+J)<|kr {f (F.L+J)with w:=w}) w qJ:= C.C G (λ_ q=>q.elim) (λ_ q=>q.elim) (λ_ q=>q.elim) (λ_ q=>q.elim) U U U (λ_ q=>q.elim) λ_ q=>q.elim;have hF:kQ F.P (F.L+J==0) (JE F<|.fZ .jy) .fB (kr {f (F.L+J)with w:=w}) g:=by rw[An H.C J];intro l T;let⟨W,a,b,j,k⟩:=p.Ao V s D X ht w<|C.r _ G;exact⟨W,a,b,j,k.jS T⟩
 refine⟨fA.gT E J<|.fZ .jy,_,_,_,_,λh=>h,.r (p.N.G H.C λ⟨N,h⟩=>by cases h) p.b (p.I.M (K:=.no) D (À X) yf hF) ?_ p.M.gT (p.C.gT V (by rw[s];rfl) (λT h=>by rw[s]at h;cases h) (λT h W=>by cases h;exact⟨fp,fp,fp⟩) (λj h=> ?_) λh=>(p.C.f<|by rw[<-h,s];simp)) (p.d.G Oi) (Oj p.c λk y W z e=> ?_) p.f,CM H.C (p.G G)<|À ?_⟩
 .have L:=p.a;have B:(gu f (F.L+J)<|kr {f (F.L+J)with w:=w}) (F.L+J)=kr {f (F.L+J)with w:=w}:=gS _ _ _;have l:∀k,k≠F.L+J->(gu f (F.L+J)<|kr {f (F.L+J)with w:=w}) k=f k:=λk W=>gG f _ W;have h0:(0:Nat)≠F.L+J:=by have:=H.C.r;omega
  have I:∀k a,(gu f (F.L+J) (kr {f (F.L+J)with w:=w}) k).r a->(f k).r a:=λk a h=>by
   by_cases q:k=F.L+J
   .subst q;rw[B]at h;exact h.elim
   .grind
  have sO:∀k a,(gu f (F.L+J) (kr {f (F.L+J)with w:=w}) k).O a->(f k).O a:=λk a h=>by
   by_cases q:k=F.L+J
   .subst q;rw[B]at h;exact h.elim
   .grind
  have ee:(fA.gT E J<|.fZ .jy).N J=Ã (.fZ .jy):=gE _ _ _;have v:∀y,y≠J->(fA.gT E J<|.fZ .jy).N y=E.N y:=λy M=>fH _ _ M;refine⟨λk W a u=> ?_,λy c d a u=>by rw[l 0 h0];exact L.o y c d a u,λh=>by rw[l 0 h0];exact L.lC h,λh k c d=> ?_,λc d=> ?_,λj c d r t Q=> ?_,λj c d=> ?_,λy M=> ?_,λi o=> ?_,λk c d=>by rw[l k Z];exact L.c k c d,λk W b z=>⟨(L.I k W b z).1,(L.I k W b z).2.1,λi o h=>(L.I k W b z).2.2 i o<|sO _ _ h⟩,λk W i o h=>L.N k W i o<|I _ _ h,λk c d i o h=>L.g k c d i o<|I _ _ h,λj c r d t i o h=>L.d j c r d t i o<|I _ _ h⟩
  .by_cases q:k=F.L+J
   .subst q;rw[B]at u;rcases u with h|h<;>exact h.elim
   .rw[l k q]at u;exact L.gR k W a u
  .by_cases q:F.L=F.L+J
   .have WV:J=0:=Z
    subst WV;have:=p.C.f (by rw[s];simp);have T:E.S.md<k:=c;rw[this]at T;simp only[jr.md]at T;omega
   .rw[l _ q];exact L.e h k c d
  .by_cases q:F.L=F.L+J
   .grind
   .rw[l _ q];exact L.f c<|by rwa[<-v 0 Z]
  .by_cases q:F.L+1+j=F.L+J
   .grind
   .rw[l _ q];exact L.h j c (by rwa[<-v (j+1) Z]) r t Q
  .by_cases q:F.L+1+j=F.L+J
   .grind
   .rw[l _ q];exact L.l j c<|by rwa[<-v (j+1) Z]
  .by_cases q:F.L+y=F.L+J
   .rw[q,B];rfl
   .rw[l _ q];exact L.S y (by let⟨T,c,d⟩:=M;exact⟨T,by rwa[<-v y Z],d⟩)
  .by_cases q:i=F.L+J
   .subst q;rcases o with q|⟨y,c,d,t⟩
    .grind
    .have:y=J:=Z
     subst this;exact absurd ⟨_,ee,trivial⟩ t
   .rw[l _ q];refine L.M i<|o.imp id λ⟨y,c,d,t⟩=>⟨y,c,d,λ⟨T,Q,h5⟩=>t ⟨T,by rwa[v y Z],h5⟩⟩
 .have:=p.C.l j Z (by rw[<-h,s];simp);exact this
 .grind
 .unfold qO;rw[s];simp only[ig.rk,jA.rk];omega
def Ap(E:fS F)(x:Nat)(e:ig)(G:GS)(a:Option Nat):fS F:={fA.gT E x e with b:=G,g:=a}
theorem Ps.FN(h:Ps F E){e:ig}{G:GS}{la:Option Nat}(v:i<E.r)(D:∃w,E.N i=Ã w)(O:∀y,y≠i->∀p,E.N y=Ã (.fZ p)->∀W,p≠ .gB W/\p≠ .jb W/\p≠ .iz W) (H:∀c d,G=.cl c d->c=Ñ (F.n+1) (fA.gT E i e).G/\d=E.M.gD) (I:∀d,G=.jz d->Ñ (F.n+1) (fA.gT E i e).G=0/\d=E.M.gD/\la=Ã i/\(e=.fZ (.gB d)\/e=.fZ (.jb d))) (J:∀r s,G=.gV r s->Ñ (F.n+1) (fA.gT E i e).G=0/\r+s=E.M.gD/\(0<r->la=Ã i/\e=.fZ (.iz r))) (K:∀p,e=.fZ p->(∀W,p=.gB W\/p=.jb W->la=Ã i/\G=.jz W)/\(∀r,p=.iz r->0<r/\la=Ã i/\∃s,G=.gV r s)) (L:E.M=.fy .gB\/E.M=.fy .kR\/E.M=.fZ->Ñ (F.n+1) (fA.gT E i e).G=0) (M:E.M=.fy .gB->∃a b,G=.gV a b) (N:(∀p,E.M≠ .fy p)->E.M≠ .fZ->∃c,G=.cl c 0):Ps F (Ap E i e G la):=by
 have l:∀y,y≠i->(Ap E i e G la).N y=E.N y:=λy f=>fH _ _ f;have m:(Ap E i e G la).N i=Ã e:=gE _ _ _;let⟨w,z⟩:=D;refine⟨h.v,h.C,h.K,h.L,h.J,h.I,h.z,h.d,λj B g=> ?_,λg=> ?_,λy f=> ?_,h.M,h.o,H,λd o=> ?_,λr s o=> ?_,λy p f=> ?_,L,h.e,h.Y,h.w,h.H,M,N,h.y,h.D⟩
 .by_cases q:j+1=i
  .exact h.l j B<|by rw[q,z];simp
  .rw[l _ q]at g;exact h.l j B g
 .by_cases q:0=i
  .exact h.f<|by rw[q,z];simp
  .rw[l _ q]at g;exact h.f g
 .have:E.r<=y:=f;rw[l y Z];exact h.h y f
 .let⟨t,u,k,C⟩:=I d o;exact⟨t,u,i,v,k,by rw[m];exact C.imp (λq=>by rw[q]) λq=>by rw[q]⟩
 .let⟨t,u,k⟩:=J r s o;exact⟨t,u,λC=>⟨i,v,(k C).1,by rw[m,(k C).2]⟩⟩
 .by_cases q:y=i
  .subst q;rw[m]at f;exact K p<|È f
  .grind
def af5{G:GS}(a:gZ W F.C G)(h:Wd F {E with b:=G,a:=E.a} W){x:Nat}{e:ig}{b:Option Nat}:Wd F (Ap E x e G b) W:=⟨a,h.I,h.jB,h.M,h.S,h.N⟩
theorem PI.FO(H:gQ F)(p:PI F n zX E S tr m f gs w qJ){x:Nat}{a e:ig}{G:GS}{la:Option Nat}{c:Ä}{T:gy}(hx:x<E.r)(d:E.N x=Ã a)(t:a.iq)(I:e.iq)(J:e.nU)(v:gs[F.L+x]?=Ã g)(z:ku F.C w W)(B:gZ W F.C G)(K:Ŏ F.P (ð gs w o) (F.L+x)=(ğ<|ð gs' W o,u))(C:gs'.size=gs.size)(M:gs'[F.L+x]?=Ã c)(O:c.status=Å\/c.status=å)(Q:∀k,k≠F.L+x->gs'[k]?=gs[k]?.map (Ā F.P g c W)) (X:gK F.P F.S E.Y (fx S (F.L+x)<|JE F e) (fx tr (F.L+x) T) (fx m (F.L+x) .no) (gu f (F.L+x) {f (F.L+x)with w:=W}) gs' W (qJ++u)) (q6:TI F.toFx n zX E.r E.S.rl E.V E.e E.d E.iq E.f (qJ++u)) (q7:iG F E (gu f (F.L+x) {f (F.L+x)with w:=W}) gs'.size W) (hT:(∃N,e=.jl N)->T=.fB) (hP:Ps F (Ap E x e G la)) (WW:(e.rk F).1<(a.rk F).1\/((e.rk F).1=(a.rk F).1/\(e.rk F).2<(a.rk F).2)) (FH:E.M=.fy .kq->E.b.sm=0->G.sm=0\/∀y,gs'[0]?=Ã y->y.status≠Ü):jT F n zX E tr gs w qJ o (F.L+x):=by
 have D:F.M F.C:=À U;refine⟨Ap E x e G la,_,_,_,_,gs',W,u,K,C,λh=>h,.r ?_ (C.trans p.b) X ?_ (af5 B<|z.I H p.a p.C p.M D ⟨λ_=>B,λq=>absurd U q⟩ λk b=>⟨λq=>absurd q.symm<|H.C.M k b,λ_=>rfl⟩) hP (q6.G<|⟨λ_=>⟨a,d,t⟩,λ_=>I⟩) ?_ λj r b l s=>(p.f j r b l s).app u,?_⟩
 .have:=p.N.G (x:=x) H.C hT;exact⟨this.M,this.Y,this.I,this.C,this.r⟩
 .have:=q7.gT (⟨λ_=>Ww ⟨a,d,t⟩,λ_=>J⟩);exact⟨this.gR,this.o,this.lC,this.e,this.f,this.h,this.l,this.S,this.M,this.c,this.I,this.N,this.g,this.d⟩
 .refine p.c.qe (E':=Ap E x e G la) M (by rcases O with q|q<;>rw[q]<;>simp) Q (λj i=>z.C p.C D i) U U (λy i=>fH _ _ Z) (λ_=>rfl) (λ_ _=>rfl) (λ_ i j=>FH i j) λ_ _ _ _ h=>À h
 .have j:qO F E x=a.rk F:=by unfold qO;rw[d]
  have:=CM (E:=E) (tr:=tr) (gs:=gs) (gs':=gs') (T:=T) H.C (p.G<|iN v) (by rwa[j]);rcases this with⟨i,b,l,s⟩|⟨b,_⟩
  .exact À ⟨i,b,l,s⟩
  .exfalso;have:=b _<|p.G<|iN v;change(fA.gT E x e).iQ (fx tr (F.L+x) T) (F.L+x)=E.iQ tr (F.L+x)at this;rw[Jn H.C (E:=fA.gT E x e)<|gE _ _ _,Jn H.C d]at this;grind
theorem af6(h:V=#[ko<|fM F.C,mJ<|fM F.C]\/V=#[ko<|fM F.C]\/V=#[mJ<|fM F.C]\/V=õ (gU F.C)):∀e∈V,∀b,(Ë e).touch?=Ã b->∃y:Č,b.loc=ú y/\y.block=F.C:=by
 intro e c b g;have:∃x:Č,x.block=F.C/\(e.loc=ú x\/e.loc=ŭ ô\/e.loc=ŭ î):=by
  rcases h with rfl|rfl|rfl|rfl
  .simp at c;rcases c with rfl|rfl<;>exact⟨fM F.C,U,À U⟩
  .simp at c;subst c;exact⟨fM F.C,U,À U⟩
  .simp at c;subst c;exact⟨fM F.C,U,À U⟩
  .simp[õ]at c;rcases c with rfl|rfl|rfl|rfl
   .exact⟨gU F.C,U,Á<|À U⟩
   .exact⟨gU F.C,U,À U⟩
   .exact⟨gU F.C,U,À U⟩
   .exact⟨gU F.C,U,Á<|Á U⟩
 let⟨x,i,a⟩:=this;let⟨j,d,f⟩:=e;rcases a with a|a|a
 .simp only at a;subst a;have:(Ë ⟨ú x,d,f⟩).touch?=Ã ⟨ú x,d,if f then .atomic else .plain⟩:=by cases d<;>cases f<;>rfl
  grind
 .simp only at a;subst a;simp[Ë,Ċ]at g
 .simp only at a;subst a;simp[Ë,Ċ]at g
def FP(p:PI F n zX E S tr m f gs w qJ)(a:F.L+i<gs.size)(c:(f<|F.L+i).d=1)(h:V=#[ko<|fM F.C,mJ<|fM F.C]\/V=#[ko<|fM F.C]\/V=#[mJ<|fM F.C]\/V=õ (gU F.C)): ∀y,E.iq y->F.L+i=F.L+y->(∀e∈V,∀b,(Ë e).touch?=Ã b->∃y:Č,b.loc=ú y/\y.block=F.C)/\Ae (κ qJ<|F.L+i) V:=by
 intro y _ _;refine⟨af6 h,?_⟩;rw[p.I.r.f _ a,c];rcases h with rfl|rfl|rfl|rfl
 .exact Jo.1
 .exact Jo.2.1
 .exact Jo.2.2.1
 .exact Jo.2.2.2
def PI.af7(H:gQ F)(p:PI F n zX E S tr m f gs w qJ){x:Nat}(i:x<E.r)(a:E.N x=Ã (.fZ .jy))(k:gs[F.L+x]?=Ã g)(G:g.status=Å)(I:tr (F.L+x)=.fB):jT F n zX E tr gs w qJ o (F.L+x):=by
 have s:=iN k;have C:=p.I.r;let⟨J,_,g',c,d⟩:=p.Ao i a k G I w<|C.r _ s;have t:=An H.C x;have u:∀y:Ă,y.act=ė (Į<|fM F.C)->y.act.touch?=Í:=λy b=>by rw[b];rfl
 let⟨T,K⟩:=jh d;have v:=lj (λl g h=>À h.2.1) d;obtain⟨gs',y,M,O,P,B,Q,V,X,Y⟩:=p.Ak H .no k (by rw[t];exact c w) fp fp (λy b=>⟨λz l=>(by rw[u y b]at l;cases l),by rw[b];exact C.N _<|À<|À U⟩) (λy _ b=>zY C.l λq j=>by rw[wm j];exact u y b) (by rwa[t]) v;have D:=p.d.afo i M O ((C.f _ s).trans J) (λ⟨e,c,d⟩=>by rw[a]at c;cases c;exact d);refine⟨{fA.gT E x (.fZ .iE)with f:=fx E.f x qJ.size},_,_,_,_,gs',w,#[y],P,B,λh=>h,.r ?_ (B.trans p.b) X ?_ (⟨p.M.C,p.M.I,p.M.jB,p.M.M,p.M.S,p.M.N⟩) ?_ ?_ ?_ λj r q W a3=>(p.f j r q W a3).app _,CM H.C (p.G s)<|À ?_⟩
 .have:=p.N.G (x:=x) (e:=.fZ .iE) (T:=T) H.C (λ⟨N,h⟩=>by cases h);exact⟨this.M,this.Y,this.I,this.C,this.r⟩
 .have:=Y.gT (x:=x) (e:=.fZ .iE) (⟨λ_=>⟨_,a,trivial⟩,λ_=>trivial⟩);exact⟨this.gR,this.o,this.lC,this.e,this.f,this.h,this.l,this.S,this.M,this.c,this.I,this.N,this.g,this.d⟩
 .have h:=p.C.gT (x:=x) (e:=.fZ .iE) i (by rw[a];rfl) (λq h W=>by rw[a]at h;cases h;exact⟨fp,fp,fp⟩) (λq h W=>by cases h;exact⟨fp,fp,fp⟩) (λj h=>p.C.l j Z<|by rw[<-h,a];simp) (λh=>p.C.f<|by rw[<-h,a];simp);exact⟨h.v,h.C,h.K,h.L,h.J,h.I,h.z,h.d,h.l,h.f,h.h,h.M,h.o,h.t,h.g,h.u,h.N,h.B,h.e,h.Y,h.w,h.H,h.O,h.S,h.y,h.D⟩
 .refine{D with r:=λz l j=>D.r z l ?_};by_cases q:z=x
  .exact Á q
  .exact À<|(WR q).1 j
 .refine p.c.qe (E':={fA.gT E x (.fZ .iE)with f:=fx E.f x qJ.size}) Q (by rcases v with q|q<;>rw[q]<;>simp) V (λ_ _=>rfl) U U (λy b=>fH _ _ Z) (λ_=>rfl) (λ_ _=>rfl) (λ_ _ h=>À h) λ_ _ _ _ h=>À h
 .unfold qO;rw[a];simp only[ig.rk,jA.rk];omega
end
section
variable{F:Ph}{E K:fS F}{S:Nat->Jd}{o M:Nat->gy}{G:Nat->iy}{B:Nat->fe}{m J:Array Ä}{u:ä}{I:Option (Nat×Nat)}
def WX{N:Nat}{l:fe}(h:Ź P N l.d g):kQ P É (oO P N) .fB l g:=λ_ _=>h
def WY(a:Ps F E):E.r<=E.M.ad F.n:=by unfold fS.r;cases E.M<;>simp only[fU.sp,fU.ad]<;>omega
theorem FQ(b:Ps F E){e:ig}(d:i<E.r):Ñ (F.n+1) (fA.gT E i e).G+lS (E.N i)=Ñ (F.n+1) E.G+e.kG:=by
 have g:=WY b;have h:=Cz b;have:=wi (f:=E.G) (f':=(fA.gT E i e).G) (j:=i) (n:=F.n+1) Z (λa c=>by unfold fS.G;show(if a<E.M.ad F.n then lS (fx E.N i (Ã e) a)else 0)=_;rw[fH _ _ c]);have a:E.G i=lS (E.N i):=by unfold fS.G;rw[if_pos Z]
 have c:(fA.gT E i e).G i=e.kG:=by unfold fS.G;show(if i<E.M.ad F.n then lS (fx E.N i (Ã e) i)else 0)=_;rw[if_pos Z,gE];rfl
 grind
theorem WZ(a:Ps F E)(h:E.b=.cl i n):∀y p,E.N y=Ã (.fZ p)->∀W,p≠ .gB W/\p≠ .jb W/\p≠ .iz W:=by intro y p b W;let⟨d,e⟩:=a.N y p b;grind
theorem Ol(a:Ps F E)(h:E.g=Ã i):∀y,y≠i->∀p,E.N y=Ã (.fZ p)->∀W,p≠ .gB W/\p≠ .jb W/\p≠ .iz W:=by intro y c p b W;let⟨d,e⟩:=a.N y p b;grind
def PI.af8(p:PI F n zX E S o G B m w qJ)(e:i<E.r)(d:E.N i=Ã (.fZ .iE)):∃c a,E.b=.cl (c+1) a/\c+1=Ñ (F.n+1) E.G/\a=E.M.gD/\¬(E.M=.fy .gB\/E.M=.fy .kR\/E.M=.fZ):=by
 have g:1<=Ñ (F.n+1) E.G:=by
  have q:=WY p.C;have r:=Cz p.C;have:=NZ (f:=E.G) (j:=i) (n:=F.n+1) Z;have s:E.G i=1:=by unfold fS.G;rw[if_pos Z,d];rfl
  omega
 obtain⟨c,a,b⟩:∃c a,E.b=.cl (c+1) a:=by
  cases q:E.b with
  |cl c a=>
   have:=(p.C.t c a q).1;exact⟨c-1,a,by congr 1;omega⟩
  |jz a=>have:=(p.C.g a q).1;omega
  |gV r s=>have:=(p.C.u r s q).1;omega
 let⟨r,s⟩:=p.C.t _ _ b;exact⟨c,a,b,r,s,λq=>by have:=p.C.B q;omega⟩
theorem PI.af9(H:gQ F)(p:PI F n zX E S o G B m w qJ)(f:i<E.r)(v:E.N i=Ã (.fZ .iE))(z:m[F.L+i]?=Ã g)(iI:g.status=Å)(ht:o (F.L+i)=.fB)(hc:E.b=.cl (j+1) k)(FR:j+1=Ñ (F.n+1) E.G)(W0:k=E.M.gD)(FT:¬(E.M=.fy .gB\/E.M=.fy .kR\/E.M=.fZ))(hl:j=0/\0<k):jT F n zX E o m w qJ I (F.L+i):=by
 have t:=iN z;have C:=p.I.r;let⟨hd,_,s9⟩:=p.Ao f v z iI ht w<|C.r _ t;have mc:=An H.C i;have Q:F.M F.C:=À U;have K:=hc▸p.M.C;let⟨ev,V⟩:=K.jE;have X:=s9 (GS.cl (j+1) k).st;rw[ev]at X V;obtain⟨d,M⟩:∃d,(GS.jE<|.cl (j+1) k).st=d:=⟨_,U⟩;rw[M]at X;let⟨g',h1,h2⟩:=X;have Y:=h1 w K.C K.I;rw[<-M]at Y;let⟨k1,k2,k3⟩:=K.r;have O:ku F.C w (w.setCell (fM F.C)<|ë Ó (GS.jE<|.cl (j+1) k).st):=Á ⟨_,_,À U,U⟩;have D:=O.r p.a H.C Q;have wq:fI {B (F.L+i)with w:=w} w (w.setCell (fM F.C)<|ë Ó (GS.jE<|.cl (j+1) k).st):=⟨Ô D.r.symm,λb kS=>D.jL b<|C.I _ t b kS,λa ha=>D.M _ t a ha,λa ha=>D.N _ t a ha,λa _=>D.I a⟩;have ed:GS.jE (.cl (j+1) k)=.jz k:=by simp only[GS.jE,if_pos hl]
 rw[ed]at Y V O D wq M;have hW:fj F.P É (Je F.P É F.C (Ft F) k) {B (F.L+i)with w:=w} g':=by
  have r:d=(k:Int):=M.symm;have l:¬(d=0\/(fX<=d/\d<1000000*fX/\d%fX<1000000)):=by simp only[fX];omega
  grind
 let⟨T,hT⟩:=jh<|hW.jS wq;have mU:=lj (λl g h=>À h.2.1) hW;obtain⟨J,u,l,q2,q3,q4,q5,q6,q7⟩:=p.Y H .no z (FM f) Q (by rwa[mc]) O (Af Q) U (FP p t hd<|À U) (by rwa[mc]) mU;have yj:=FQ p.C (e:=.fZ (.gB k)) f;rw[v]at yj;refine p.FO H (e:=.fZ (.gB k)) (la:=Ã i) f v trivial trivial trivial z O V l q2 q3 mU q4 q5 q6 q7 (λ⟨N,h⟩=>by cases h) (p.C.FN f ⟨_,v⟩ (λy _ q r W=>WZ p.C hc y q r W) (λy r h=>by cases h) (λr h=> ?_) (λr s h=>by cases h) (λq h=> ?_) (λq=>absurd q FT) (λq=>absurd (À q) FT) λl q2=> ?_) (À ?_) λ_ _=>À rfl
 .injection h with h;subst h;exact⟨(by simp only[lS,ig.kG,jA.kG]at yj;omega),W0,U,À U⟩
 .grind
 .let⟨y,r⟩:=p.C.S l q2;grind
 .simp only[ig.rk,jA.rk];grind
theorem PI.aga(H:gQ F)(p:PI F n zX E S o G B m w qJ)(f:i<E.r)(t:E.N i=Ã (.fZ .iE))(v:m[F.L+i]?=Ã g)(iI:g.status=Å)(ht:o (F.L+i)=.fB)(hc:E.b=.cl (j+1) k)(FR:j+1=Ñ (F.n+1) E.G)(W0:k=E.M.gD)(FT:¬(E.M=.fy .gB\/E.M=.fy .kR\/E.M=.fZ))(hl:¬(j=0/\0<k)):jT F n zX E o m w qJ I (F.L+i):=by
 have l:=iN v;have C:=p.I.r;let⟨hd,_,s9⟩:=p.Ao f t v iI ht w<|C.r _ l;have mc:=An H.C i;have O:F.M F.C:=À U;have z:=hc▸p.M.C;let⟨ev,P⟩:=z.jE;have Q:=s9 (GS.cl (j+1) k).st;rw[ev]at Q P;obtain⟨d,K⟩:∃d,(GS.jE<|.cl (j+1) k).st=d:=⟨_,U⟩;rw[K]at Q;let⟨g',h1,h2⟩:=Q;have T:=h1 w z.C z.I;rw[<-K]at T;let⟨k1,k2,k3⟩:=z.r;have M:ku F.C w (w.setCell (fM F.C)<|ë Ó (GS.jE<|.cl (j+1) k).st):=Á ⟨_,_,À U,U⟩;have D:=M.r p.a H.C O;have wq:fI {B (F.L+i)with w:=w} w (w.setCell (fM F.C)<|ë Ó (GS.jE<|.cl (j+1) k).st):=⟨Ô D.r.symm,λb kS=>D.jL b<|C.I _ l b kS,λa V=>D.M _ l a V,λa V=>D.N _ l a V,λa _=>D.I a⟩;have ed:GS.jE (.cl (j+1) k)=.cl j k:=by simp only[GS.jE,if_neg hl]
 rw[ed]at T P M D wq K;obtain⟨N,hN⟩:Ft F {B (F.L+i)with w:=w} g':=by
  have q:d=(j:Int)*fX+(k:Int):=K.symm;have h:d=0\/(fX<=d/\d<1000000*fX/\d%fX<1000000):=by simp only[fX]at q|-;omega
  grind
 have mU:=hN.status;obtain⟨J,u,X,Y,q3,q4,q5,q6,q7⟩:=p.Y H .no v (FM f) O (by rwa[mc]) M (Af O) U (FP p l hd<|À U) (by rw[mc];exact WX hN) mU;have yj:=FQ p.C (e:=.jl N) f;rw[t]at yj;have hz:Ñ (F.n+1) (fA.gT E i<|.jl N).G=j:=by simp only[lS,ig.kG,jA.kG]at yj;omega
 refine p.FO H (e:=.jl N) (la:=E.g) f t trivial trivial trivial v M P X Y q3 mU q4 q5 q6 q7 (λ_=>rfl) (p.C.FN f ⟨_,t⟩ (λy _ q h W=>WZ p.C hc y q h W) (λy r h=> ?_) (λr h=>by cases h) (λr s h=>by cases h) (λq h=>by cases h) (λq=>absurd q FT) (λq=>absurd (À q) FT) λX Y=> ?_) (À ?_) λ_ _=>À rfl
 .grind
 .let⟨y,h⟩:=p.C.S X Y;grind
 .simp only[ig.rk,jA.rk];omega
def PI.agb(H:gQ F)(p:PI F n zX E S o G B m w qJ)(a:i<E.r)(b:E.N i=Ã (.fZ .iE))(d:m[F.L+i]?=Ã g)(e:g.status=Å)(f:o (F.L+i)=.fB):jT F n zX E o m w qJ I (F.L+i):=by
 let⟨c,r,h,j,k,l⟩:=p.af8 a b;by_cases q:c=0/\0<r
 .exact p.af9 H a b d e f h j k l q
 .exact p.aga H a b d e f h j k l q
theorem PI.agc(H:gQ F)(p:PI F n zX E S o G B m w qJ)(c:i<E.r)(d:E.N i=Ã (.fZ (.gB j)))(f:m[F.L+i]?=Ã g)(O:g.status=Å)(P:o (F.L+i)=.fB):jT F n zX E o m w qJ I (F.L+i):=by
 have y:=iN f;let⟨Q,_,V⟩:=p.Ao c d f O P w<|(p.I.r).r _ y;have z:=An H.C i;have C:F.M F.C:=À U;let⟨X,k⟩:=(p.C.N i _ d).1 j<|À U;have D:=k▸p.M.C;let⟨g',Y,t⟩:=V (j:Int);simp only[if_true]at t;let⟨T,hT⟩:=jh t;have K:=lj (λl g h=>À h.2.1) t;obtain⟨J,u,l,v,q3,q4,q5,q6,q7⟩:=p.Y H .no f (FM c) C (by rw[z];exact Y w D.C) (À U) (yd C) U (FP p y Q<|Á<|À U) (by rwa[z]) K;have M:=FQ p.C (e:=.fZ (.jb j)) c;rw[d]at M;let⟨b1,b2,_⟩:=p.C.g j k;have hz:Ñ (F.n+1) (fA.gT E i<|.fZ (.jb j)).G=0:=by simp only[lS,ig.kG,jA.kG]at M;omega
 refine p.FO H (e:=.fZ (.jb j)) (la:=E.g) c d trivial trivial trivial f (À U) D l v q3 K q4 q5 q6 q7 (λ⟨N,h⟩=>by cases h) (p.C.FN c ⟨_,d⟩ (Ol p.C X) (λc' a h=>by cases h) (λa h=> ?_) (λr s h=>by cases h) (λa h=> ?_) (λ_=>hz) (λq=> ?_) λl v=> ?_) (À ?_) λ_ h=>À rfl
 .grind
 .grind
 .let⟨a,b,h⟩:=p.C.O q;rw[k]at h;cases h
 .let⟨c',a⟩:=p.C.S l v;grind
 .simp only[ig.rk,jA.rk];omega
theorem PI.agd(H:gQ F)(p:PI F n zX E S o G B m w qJ)(c:i<E.r)(d:E.N i=Ã (.fZ (.jb j)))(k:m[F.L+i]?=Ã g)(P:g.status=Å)(Q:o (F.L+i)=.fB):jT F n zX E o m w qJ I (F.L+i):=by
 have f:=iN k;have C:=p.I.r;let⟨V,_,g',X,z⟩:=p.Ao c d k P Q w<|C.r _ f;have K:=An H.C i;have v:F.M F.C:=À U;let⟨Y,M⟩:=(p.C.N i _ d).1 j<|Á U;have t:=M▸p.M.C;have Om:=t.r.1;have y:ku F.C w (w.setCell (fM F.C)<|ë Ó 0):=Á ⟨_,_,À U,U⟩;have D:=y.r p.a H.C v;let⟨T,hT⟩:=jh (z.jS ⟨Ô D.r.symm,λb l=>D.jL b<|C.I _ f b l,λa h=>D.M _ f a h,λa h=>D.N _ f a h,λa _=>D.I a⟩);have O:=lj (λl g h=>by
  cases j with
  |zero=>omega
  |succ j=>exact À h.2.1) z
 obtain⟨J,u,a,b,q3,q4,q5,q6,q7⟩:=p.Y H .no k (FM c) v (by rw[K];exact X w _ t.C t.I) y (WG v) U (FP p f V<|Á<|Á<|À U) (by rwa[K]) O;have l:=FQ p.C (e:=.fZ (.iz j)) c;rw[d]at l;let⟨b1,b2,_⟩:=p.C.g j M;have hz:Ñ (F.n+1) (fA.gT E i<|.fZ (.iz j)).G=0:=by simp only[lS,ig.kG,jA.kG]at l;omega
 refine p.FO H (e:=.fZ (.iz j)) (la:=E.g) c d trivial trivial trivial k y t.Ws a b q3 O q4 q5 q6 q7 (λ⟨N,h⟩=>by cases h) (p.C.FN c ⟨_,d⟩ (Ol p.C Y) (λc' q h=>by cases h) (λq h=>by cases h) (λr s h=> ?_) (λq h=> ?_) (λ_=>hz) (λq=>⟨j,0,rfl⟩) λa b=> ?_) (À ?_) λ_ h=>À rfl
 .grind
 .cases h;simp_all
 .let⟨c',q⟩:=p.C.S a b;grind
 .simp only[ig.rk,jA.rk];omega
def W3(p:PI F n zX E S o G B m w qJ){a y:Ä}(d:mayWake F.P g=Ì)(f:a.status=Å)(i:m[k]?=Ã y)(j:G k=.iz):(Ā F.P g a W y).status≠Ü:=by
 intro h;let⟨e,l⟩:=Fy h;let⟨g0,_,b,c,_⟩:=p.I.C k y i;rw[j]at b;cases b with
 |gi=>rw[l]at c;rcases c with q|q<;>cases q
 |nG r q=>
  unfold Ā at h;rw[if_pos (by simp[d,f])]at h;unfold ď at h;simp only[q]at h;cases h
def PI.agf(H:gQ F)(p:PI F n zX E S o G B m w qJ)(c:i<E.r)(d:E.N i=Ã (.fZ (.iz j)))(k:m[F.L+i]?=Ã g)(iI:g.status=Å)(ht:o (F.L+i)=.fB):jT F n zX E o m w qJ I (F.L+i):=by
 have f:=iN k;have C:=p.I.r;let⟨hr0,K,s,M⟩:=(p.C.N i _ d).2 j U;obtain⟨j,rfl⟩:∃O,j=O+1:=⟨j-1,Z⟩;let⟨hd,_,On,g',Q,h1,h2⟩:=p.Ao c d k iI ht w<|C.r _ f;have mc:=An H.C i;have V:F.M F.C:=À U;have W:=M▸p.M.C;have X:ku F.C w (w.setCell (gU F.C)<|ë ç<|ç.wrap<|(GS.gV (j+1) s).sm+1):=Á ⟨_,_,Á U,U⟩;have D:=X.r p.a H.C V;let⟨b1,b2,_⟩:=p.C.u _ _ M;obtain⟨e,T,hF,Y,yk,he3,W4⟩:∃(e:ig) (T:gy),kQ F.P É (JE F e) T {B (F.L+i)with w:=w.setCell (gU F.C) (ë ç<|ç.wrap<|(GS.gV (j+1) s).sm+1)} g'/\(e.iq/\e.nU/\e.kG=0)/\((∃N,e=.jl N)->T=.fB)/\((e.rk F).1<((ig.fZ<|.iz (j+1)).rk F).1)/\((j=0/\∃N,e=.jl N)\/(0<j/\e=.fZ (.iz j))):=by
  cases j with
  |zero=>
   obtain⟨N,hN⟩:Ft F {B (F.L+i)with w:=w} g':=h2;exact⟨.jl N,.fB,WX hN,⟨trivial,trivial,U⟩,λ_=>rfl,by simp only[ig.rk,jA.rk];omega,À ⟨U,N,U⟩⟩
  |succ j=>
   let⟨T,hT⟩:=jh (h2.jS ⟨Ô D.r.symm,λb kS=>D.jL b<|C.I _ f b kS,λa ha=>D.M _ f a ha,λa ha=>D.N _ f a ha,λa _=>D.I a⟩);have WK:j+1+1+s<=1:=by rw[b2];cases E.M<;>simp only[fU.gD]<;>first|omega|(rename_i v;cases v<;>simp[jm.rS])
   omega
 obtain⟨J,u,q1,q2,q3,q4,q5,q6,q7⟩:=p.Y H .no k (FM c) V (by rw[mc];exact h1 w _ W.M W.N) X (FB V) (FC _).2.2.2 (FP p f hd<|Á<|Á<|Á U) (by rwa[mc])<|À Q;have yj:=FQ p.C (e:=e) c;rw[d,Y.2.2]at yj;have hz:Ñ (F.n+1) (fA.gT E i e).G=0:=by simp only[lS,ig.kG,jA.kG]at yj;omega
 refine p.FO H (la:=E.g) c d trivial Y.1 Y.2.1 k X W.jy q1 q2 q3 (À Q) q4 q5 q6 q7 yk (p.C.FN c ⟨_,d⟩ (Ol p.C K) (λc' agh h=>by cases h) (λagh h=>by cases h) (λO s' h=> ?_) (λp' h=> ?_) (λ_=>hz) (λq=>⟨j,s+1,rfl⟩) λq1 q2=> ?_) (À he3) λhm _=>Á λy hy=> ?_
 .injection h with h l;subst h l;refine⟨hz,Z,λhr=>⟨K,?_⟩⟩;rcases W4 with⟨q,_⟩|⟨_,q⟩
  .omega
  .exact q
 .subst h;rcases W4 with⟨_,N,q⟩|⟨hr,q⟩
  .cases q
  .cases q;exact⟨λW' t=>(by rcases t with t|t<;>cases t),λO oG=>by cases oG;exact⟨hr,K,s+1,U⟩⟩
 .let⟨c',l⟩:=p.C.S q1 q2;rw[M]at l;cases l
 .have h0:(0:Nat)≠F.L+i:=by have:=H.C.r;omega
  rw[q4 0 h0]at hy;obtain⟨z,FU,rfl⟩:=Ù.1 hy;exact W3 p On Q FU<|by rw[p.h.2,hm];rfl
end
section
variable{F:Ph}{E E':fS F}{S:Nat->Jd}{f D:Nat->gy}{o:Nat->iy}{v:Nat->fe}{l z:Array Ä}{u:ä}{I:Option (Nat×Nat)}
def Aq(ok:F.Ok):(F.L==0)=É:=by have:=ok.r;simp;omega
def CO(h:0<E.r):yc E F.L:=Á ⟨0,h,U⟩
def CP(b:E.N 0=Í):∀x,E.iq x->F.L=F.L+x->False:=λx ⟨e,a,_⟩ h2=>by
 have:x=0:=Z
 subst this;rw[b]at a;cases a
def PI.Ar(p:PI F n zX E S f o v l w qJ)(b:0<E.r)(c:E.N 0=Í)(d:l[F.L]?=Ã g)(e:g.status=Å)(h:f F.L=.fB):∀a,fI (v F.L) (v F.L).w a->JI F E.c E.S {v F.L with w:=a} g:=by let⟨j,i⟩:=p.m b c;intro a r;have:=p.I.N d e h (À i) a r;simp_all
theorem qh.Jv(h:qh F E S f o)(ok:F.Ok){ip:jr}{sg:Nat->F.γ}{T:gy}(c:E.N 0=Í):qh F {E with S:=ip,c:=sg} (fx S F.L<|JI F sg ip) (fx f F.L T) (fx o F.L .no):=by
 have:=ok.r;refine⟨by rw[fH S _ Z,fH o _ Z];exact h.M,λa b=>by rw[gE,gE];exact⟨U,U⟩,λj a b=>by rw[fH S _ Z,fH o _ Z];exact h.I j a b,λy e a b=> ?_,λi a b=>by rw[fH S _ Z,fH o _ Z,fH f _ Z];exact h.r i a b⟩;have d:y≠0:=λq=>by grind
 rw[fH S _ Z,fH o _ Z,fH f _ Z];exact h.C y e a b
theorem Jw(ok:F.Ok){T:gy}(b:F.L<F.N)(i:E.N 0=Í)(c:E'.N=E.N)(d:E'.M=E.M)(e:E'.h=E.h)(g:E'.C=E.C)(h:E'.S.rk F<E.S.rk F):oP F.N (E'.mu (fx f F.L T) z) (E.mu f l):=by refine Fz b (À ?_) λk a=>yb (λ_=>by rw[d]) (λ_ _=>by rw[e]) (λ_=>by rw[c]) (λq=>absurd q a) (λ_ _=>by rw[g])<|fH f _ a;grind [WA]
theorem Oo(B:fi F E l w)(i:E'.M=E.M)(b:E'.r=E.r)(c:E'.N=E.N)(m:E'.C=E.C)(n:E'.I=E.I)(o:E'.b=E.b)(p:E'.a=E.a):fi F E' l w:=by
 intro k y d e;rcases B k y d e with⟨q,a,f⟩|⟨j,g,h,a,f⟩
 .grind
 .refine Á ⟨j,by rwa[b],by rwa[c],a,?_⟩;grind
theorem Ps.Jx(h:Ps F E){ip:jr}{G:GS}(i:E.N 0=Í)(x:0<E.r)(l:∀c,(ip=.kF c->c<=F.m)/\(ip=.mk c->1<=c/\c<=F.m)/\∀p,ip=.dn c p->1<=c/\c<=F.m) (o:∀c,1<=c->c<=F.m->ip.od<c->fx E.a k G c=.cl 1 (Ñ F.n λj=>(E.C j).gD F j c)) (t:∀c,c<=F.m->c<=ip.od->(∃W,(ip=.dn c (.gB W)\/ip=.dn c (.jb W))/\fx E.a k G c=.jz W/\W=Ñ F.n λj=>(E.C j).gD F j c)\/(∃r s,ip=.dn c (.iz r)/\0<r/\fx E.a k G c=.gV r s/\r+s=Ñ F.n λj=>(E.C j).gD F j c)\/((∀p,ip≠ .dn c p)/\((fx E.a k G c=.cl 0 0/\(Ñ F.n λj=>(E.C j).gD F j c)=0)\/∃s,fx E.a k G c=.gV 0 s/\s=Ñ F.n λj=>(E.C j).gD F j c))) (u:E.S.od<=ip.od) (v:(∃a b,E.a k=.gV a b)->∃a b,G=.gV a b) (y:G=.cl 1 0->E.d k=Í) {sg:Nat->F.γ} {V:Nat->Nat->Prop} (w:V 0=F.i) {pk:Nat->Nat}:Ps F {E with S:=ip,a:=fx E.a k G,c:=sg,V:=V,e:=pk}:=by
 refine⟨w,h.C,h.K,h.L,λq=> ?_,l,h.z,h.d,h.l,λq=>absurd i q,h.h,h.M,h.o,h.t,h.g,h.u,h.N,h.B,o,t,λj r d f=>Ø (h.w j r d f) u,λj r d f=> ?_,h.O,h.S,λc d f=> ?_,h.D⟩
 .have:E.r=0:=q;omega
 .have:=h.H j r d f;show∃a b,fx E.a k G _=_;by_cases e:F.r (j+r*F.n)=k
  .rw[e]at this|-;rw[gE];exact v this
  .grind [fH]
 .have g:fx E.a k G c=.cl 1 0:=f;by_cases e:c=k
  .grind [gE]
  .rw[fH _ _ e]at g;exact h.y c d g
def PI.agi(H:gQ F)(p:PI F n zX E S f o v l w qJ)(D:0<E.r)(u:E.N 0=Í)(I:l[F.L]?=Ã g)(M:g.status=Å)(ht:f F.L=.fB)(t:E.S=.kF k):qN F n zX E f l w qJ:=by
 have B:=iN I;have C:=p.I.r;have O:=p.Ar D u I M ht w<|C.r _ B;rw[t]at O;have W5:=(p.C.I k).1 t;have X:=Aq H.C;have yf:iP F.S (λi=>i<l.size) E.Y (gu v F.L {v F.L with w:=w}) w qJ:=C.C B (λ_ q=>q) (λb q=>À<|Á q) (λ_ q=>q) (λa q=>À<|Á q) U U U (C.m _ B)<|C.g _ B;have W6:=p.a.C (i:=F.L) (d:=(v F.L).d) (w0:=w)<|Ç _;have z:E.S.md=k:=by rw[t];rfl
 by_cases Ah:k<F.m
 .let⟨FV,As⟩:=p.M.M k (by rw[z];exact Ç _);let⟨r1,r2⟩:=p.a.f D u;rw[z]at r1 r2;let⟨o1,o2⟩:=p.a.e D (k+1) (by rw[z];omega) Ah;let⟨T,P⟩:=jh<|H.f k _ _ _ g Ah O (C.M B) FV As r2 r1 o1 o2 E.c U;have Q:=p.I.M (J:=JI F E.c<|.mk (k+1)) (T:=T) (K:=.no) I (À M) yf (by rwa[X]);have y:fx E.a 0 (E.a 0)=E.a:=by funext j;unfold fx;split<;>simp[*]
  refine⟨{E with S:=.mk (k+1)},_,_,_,_,λh=>h,.r (p.N.Jv H.C (sg:=E.c) u) p.b Q ?_ ?_ ?_ ?_ (Oo p.c U U U U U U U) p.f,Jw H.C (p.G B) u U U U U ?_⟩
  .have L:=W6;exact⟨L.gR,L.o,L.lC,λa e b c=>L.e a e (by rwa[z]) c,λa b=>by have:=L.f a b;rwa[z]at this,L.h,L.l,L.S,L.M,L.c,λe b=>L.I e (by rwa[z]),λe b=>L.N e (by rwa[z]),λe a b=>L.g e a (by rwa[z]),L.d⟩
  .have W:=p.M;exact⟨W.C,W.I,W.jB,λe b=>W.M e (by rwa[z]),λe a b=>W.S e a (by rwa[z]),W.N⟩
  .have:=p.C.Jx (k:=0) (ip:=.mk (k+1)) (G:=E.a 0) (sg:=E.c) (V:=E.V) (pk:=E.e) u D (λe=>⟨λq=>(by cases q),λq=>(by cases q;exact⟨Z,Z⟩),λp q=>by cases q⟩) (λe a b c=> ?_) (λe a b=> ?_) (by rw[t];exact Ç _) id (λq=>p.C.y 0 (ò _) q) p.C.v
   .rwa[y]at this
   .rw[y];exact p.C.e e a b<|by rwa[t]
   .rw[y];rcases p.C.Y e a (by rwa[t])with⟨W,q,_⟩|⟨r,s,q,_⟩|q
    .rw[t]at q;rcases q with q|q<;>cases q
    .rw[t]at q;cases q
    .exact Á<|Á ⟨λp q=>(by cases q),q.2⟩
  .have:E.S.rl=(jr.mk<|k+1).rl:=by rw[t];rfl
   have a:=p.d;rwa[this]at a
  .rw[t];simp only[jr.rk];have:F.m+3-(k+1)=F.m+2-k:=Z
   rw[this];omega
 .have q:k=F.m:=Z
  subst q;let⟨T,P⟩:=jh<|H.h _ g O<|C.M B;have Q:=p.I.M (J:=JE F .ot) (T:=T) (K:=.no) I (À M) yf (by rwa[X]);have s:¬E.iq 0:=λ⟨e,a,_⟩=>by rw[u]at a;cases a
  have W:¬E.nU 0:=λ⟨e,a,_⟩=>by rw[u]at a;cases a
  refine⟨fA.gT E 0 .ot,_,_,_,_,λh=>h,.r (p.N.G (x:=0) H.C λ⟨N,h⟩=>by cases h) p.b Q (W6.gT ⟨λh=>h.elim,λh=>(W h).elim⟩) p.M.gT (p.C.gT D (by rw[u];rfl) (λb h=>by rw[u]at h;cases h) (λb h=>by cases h) (λj h=>by omega) λ_=>t) (p.d.G ⟨λh=>h.elim,λh=>(s h).elim⟩) (Oj p.c λk y b c e=> ?_) p.f,CM H.C (p.G B)<|À ?_⟩
  .subst e;rw[ó,I]at b;obtain rfl:=È b;rw[M]at c;cases c
  .unfold qO;rw[u];simp only[ig.rk,if_true,t,jr.rk];have:F.m+2-F.m=2:=Z
   rw[this];omega
end
section
variable{F:Ph}{E E':fS F}{S:Nat->Jd}{o G:Nat->gy}{v:Nat->iy}{d:Nat->fe}{f B:Array Ä}{u:ä}{D:Option (Nat×Nat)}
def W7(ok:F.Ok)(a:k<=F.m):je F.toFx k≠jj F i:=λe=>ok.C (by
 have:F.I k=F.Y:=by injection e
 rw[<-this];exact Á ⟨k,a,U⟩)
def agj(ok:F.Ok)(a:k<=F.m)(b:i<=F.m)(h:je F.toFx k=je F.toFx i):k=i:=ok.S k i a b<|by injection h
def agk(h:jj F i=jj F n):i=n:=by injection h
theorem PI.agl(H:gQ F)(p:PI F n zX E S o v d f w qJ)(h0:0<E.r)(he:E.N 0=Í)(hi:f[F.L]?=Ã g)(iI:g.status=Å)(ht:o F.L=.fB)(B:E.S=.mk k):qN F n zX E o f w qJ:=by
 have y:=iN hi;have C:=p.I.r;have hJ:=p.Ar h0 he hi iI ht w<|C.r _ y;rw[B]at hJ;let⟨k1,N⟩:=(p.C.I k).2.1 B;have D:E.S.md=k-1:=by rw[B];rfl
 let⟨M,z,hn,As,W8,hcell,hdone⟩:=hJ;let⟨o1,o2⟩:=p.a.e h0 k (by rw[D];omega) N;have yf:iP F.S (λi=>i<f.size) E.Y (gu d F.L<|pw F {d F.L with w:=w} k) w qJ:=by
  refine C.C y (λ_ q=>q.elim) (λb q=>À q) (λ_ q=>q.1) (λa q=> ?_) U U U (λ_ q=>q.elim) λa c q=> ?_
  .rcases q with q|rfl|rfl
   .exact À<|Á q
   .exact À<|À o2
   .exact À<|À o1
  .rcases q with q|q|q
   .exact C.g _ y a c.1 q
   .exact c.2.1 q
   .exact c.2.2 q
 have hF:kQ F.P (F.L==0) (JI F (fx E.c k M)<|.dn k .jy) .fB (pw F {d F.L with w:=w} k) g:=by rw[Aq H.C];intro J s;let⟨Q,X,W,a3,e⟩:=hdone;exact⟨Q,X,W,a3,e.jS s⟩
 have hG:fx E.a 0 (E.a 0)=E.a:=by funext j;unfold fx;split<;>simp[*]
 have Vn:∀l,l≠k->fx E.V k z l=E.V l:=λl h=>fH _ _ h;have Vs:fx E.V k z k=z:=gE _ _ _;refine⟨{E with S:=.dn k .jy,c:=fx E.c k M,V:=fx E.V k z},_,_,_,_,λh=>h,.r ?_ p.b (p.I.M (K:=.no) hi (À iI) yf hF) ?_ ?_ ?_ ?_ (Oo p.c U U U U U U U) p.f,Jw H.C (p.G y) he U U U U ?_⟩
 .have:=p.N.Jv (ip:=.dn k .jy) (sg:=fx E.c k M) (T:=.fB) H.C he;exact⟨this.M,this.Y,this.I,this.C,this.r⟩
 .have L:=p.a;have G:(gu d F.L<|pw F {d F.L with w:=w} k) F.L=pw F {d F.L with w:=w} k:=gS _ _ _;have W:∀i,i≠F.L->(gu d F.L<|pw F {d F.L with w:=w} k) i=d i:=λi h=>gG d _ h;have W9:(0:Nat)≠F.L:=by have:=H.C.r;omega
  have Oq:∀i a,(gu d F.L (pw F {d F.L with w:=w} k) i).r a->(d i).r a:=λi a h=>by
   by_cases q:i=F.L
   .subst q;rw[G]at h;exact h.1
   .grind
  have sO:∀i b,(gu d F.L (pw F {d F.L with w:=w} k) i).O b->(d i).O b/\i≠F.L:=λi b h=>by
   by_cases q:i=F.L
   .subst q;rw[G]at h;exact h.elim
   .grind
  have nOc:∀i,i<f.size->∀a,(a=jj F (F.b k)\/a=je F.toFx k)->¬(gu d F.L (pw F {d F.L with w:=w} k) i).r a:=λi s a c h=>by
   by_cases q:i=F.L
   .subst q;rw[G]at h;rcases c with c|c
    .exact h.2.1 c
    .exact h.2.2 c
   .rw[W i q]at h;refine C.h i F.L s y q a h<|À ?_;grind
  refine⟨λi s a c=> ?_,λx t u a c=>by rw[W 0 W9];exact L.o x t u a c,λh=>by rw[W 0 W9];exact L.lC h,λh l t u=> ?_,λh yi=> ?_,λj hj yi r hr t=>by rw[W _ Z];exact L.h j hj yi r hr t,λj hj yi=>by rw[W _ Z];exact L.l j hj yi,λx Al=> ?_,λi s=> ?_,λi t u=>by rw[W i Z];exact L.c i t u,λl I b hb=> ?_,λl I i s h=> ?_,λl t u i s h=> ?_,λj hj r hr t i s h=>L.d j hj r hr t i s<|Oq _ _ h⟩
  .by_cases q:i=F.L
   .subst q;rw[G]at c;rcases c with q|q|q|q
    .exact L.gR _ y a<|À q.1
    .exact L.gR _ y a<|Á q
    .exact Á ⟨_,H.C.Y.1 _ Z Z,q⟩
    .grind
   .rw[W i q]at c;exact L.gR i s a c
  .rw[G];have At:k<l:=t;let⟨J,q2⟩:=L.e h l (by rw[D];omega) u;exact⟨⟨J,W7 H.C u,λe=>by have:=agj H.C u N e;omega⟩,⟨q2,λe=>by have:=H.C.pi l k Z u k1 N<|agk e;omega,λe=>W7 H.C N e.symm⟩⟩
  .rw[G];show(pw F _ k).N (je F.toFx k)/\∀b,fx E.V k z k b->(pw F _ k).I b;rw[Vs];exact⟨Á<|Á U,W8⟩
  .have:F.L+x≠F.L:=λq=>by
    have J:x=0:=Z
    subst J;let⟨e,t,_⟩:=Al;grind
   rw[W _ this];exact L.S x Al
  .by_cases q:i=F.L
   .subst q;rw[G];exact L.M _ s
   .rw[W _ q];exact L.M i s
  .have td:l<=k:=I;by_cases q:l=k
   .subst q;have J:fx E.V l z l b:=hb;rw[Vs]at J;have hM:=W8 b J;refine⟨C.fv _ y b hM,C.I _ y b hM,λi s h=> ?_⟩;let⟨Q,X⟩:=sO i b h;exact C.o i F.L s y X b Q hM
   .have J:fx E.V k z l b:=hb;rw[Vn l q]at J;let⟨Q,X,a3⟩:=L.I l (by rw[D];omega) b J;exact⟨Q,X,λi s h=>a3 i s (sO i b h).1⟩
  .have td:l<=k:=I;by_cases q:l=k
   .grind
   .exact L.N l (by rw[D];omega) i s<|Oq _ _ h
  .have td:l<=k:=u;by_cases q:l=k
   .grind
   .exact L.g l t (by rw[D];omega) i s<|Oq _ _ h
 .have W:=p.M;refine⟨W.C,W.I,W.jB,λl I=> ?_,λl t I=> ?_,W.N⟩
  .have td:l<=k:=I;show mX F l (fx E.c k M l)/\F.d l (fx E.c k M l) (fx E.V k z l) w;by_cases q:l=k
   .subst q;rw[gE,gE];refine⟨?_,As⟩;have:=(W.M (l-1)<|by rw[D];exact Ç _).1;have u:=mX.Cv this hn;grind
   .rw[fH _ _ q,fH _ _ q];exact W.M l<|by rw[D];omega
  .have td:l<=k:=I;by_cases q:l=k
   .subst q;exact hcell
   .exact W.S l t<|by rw[D];omega
 .have:=p.C.Jx (ip:=.dn k .jy) (sg:=fx E.c k M) (V:=fx E.V k z) (pk:=E.e) he h0 (λl=>⟨λq=>(by cases q),λq=>(by cases q),λp q=>by cases q;exact⟨k1,N⟩⟩) (λl a b c=> ?_) (λl a b=> ?_) (by rw[B];exact Ç _) id (λq=>p.C.y 0 (ò _) q)<|by rw[Vn 0 Z];exact p.C.v
  .grind
  .rw[hG];exact p.C.e l a b<|by rwa[B]
  .rw[hG];have J:l<=k-1:=b;rcases p.C.Y l a (by rwa[B])with⟨W,q,_⟩|⟨r,s,q,_⟩|q;all_goals grind
 .have c:=p.d;have e:E.S.rl=k-1:=by rw[B];rfl
  rw[e]at c;refine{c with I:=λl a b x Al=> ?_};have J:l<=k-1:=b;refine c.I l a b x (Al.imp (λq=> ?_) id);rwa[<-Vn l Z]
 .rw[B];simp only[jr.rk,jA.rk];have:F.m+3-k=(F.m+2-k)+1:=Z
  grind [ł]
theorem PI.agm(H:gQ F)(p:PI F n zX E S o v d f w qJ)(x:0<E.r)(m:E.N 0=Í)(G:f[F.L]?=Ã g)(iI:g.status=Å)(ht:o F.L=.fB)(e:E.S=.dn k .jy):jT F n zX E o f w qJ D F.L:=by
 have t:=iN G;have C:=p.I.r;have J:=p.Ar x m G iI ht w<|C.r _ t;rw[e]at J;let⟨k1,K⟩:=(p.C.I k).2.2 _ e;have M:=Aq H.C;let⟨hd,_,g',h1,N⟩:=J;have O:∀y:Ă,y.act=ė (Į<|fM<|F.I k)->y.act.touch?=Í:=λy i=>by rw[i];rfl
 let⟨T,hT⟩:=jh N;have P:=lj (λl g h=>À h.2.1) N;obtain⟨B,y,y1,y2,q1,Q,q3,q4,q5,q7⟩:=p.Ak H .no G (by rw[M];exact h1 w) fp fp (λy i=>⟨λz l=>(by rw[O y i]at l;cases l),by rw[i];exact C.N _<|À<|Á ⟨k,K,U⟩⟩) (λy _ i=>zY C.l λl u=>by rw[wm u];exact O y i) (by rwa[M]) P;have z:E.S.md=k:=by rw[e];rfl
 have Ot:E.S.rl=k-1:=by rw[e];rfl
 let⟨V,X⟩:=p.a.f x m;rw[z]at V X;have Y:=p.d;rw[Ot]at Y;have I:k-1+1=k:=Z
 have CI:=Y.afn y1 (by rwa[I]) ((C.f _ t).trans hd) (by
  rw[I];intro a l;rcases l with l|rfl
  .exact(C.S _ t).C a<|X _ l
  .exact(C.S _ t).r _ V)
 rw[I]at CI;have hG:fx E.a 0 (E.a 0)=E.a:=by funext j;unfold fx;split<;>simp[*]
 refine⟨{E with S:=.dn k .iE,e:=fx E.e k qJ.size},_,_,_,_,B,w,#[y],q1,Q,λh=>h,.r ?_ (Q.trans p.b) q5 ?_ ?_ ?_ CI (p.c.qe (E':={E with S:=.dn k .iE,e:=fx E.e k qJ.size}) q3 (by rcases P with q|q<;>rw[q]<;>simp) q4 (λ_ _=>rfl) U U (λ_ _=>rfl) (λ_=>rfl) (λ_ _=>rfl) (λ_ _ h=>À h) λ_ _ _ _ h=>À h) λj r a1 a2 a3=> ?_,Jw H.C (p.G t) m U U U U ?_⟩
 .have:=p.N.Jv (ip:=.dn k .iE) (sg:=E.c) (T:=T) H.C m;exact⟨this.M,this.Y,this.I,this.C,this.r⟩
 .have L:=q7;exact⟨L.gR,L.o,L.lC,λa l b c=>L.e a l (by rwa[z]) c,λa b=>by have:=L.f a b;rwa[z]at this,L.h,L.l,L.S,L.M,L.c,λl b=>L.I l (by rwa[z]),λl b=>L.N l (by rwa[z]),λl a b=>L.g l a (by rwa[z]),L.d⟩
 .have W:=p.M;exact⟨W.C,W.I,W.jB,λl b=>W.M l (by rwa[z]),λl a b=>W.S l a (by rwa[z]),W.N⟩
 .have:=p.C.Jx (ip:=.dn k .iE) (sg:=E.c) (pk:=fx E.e k qJ.size) m x (λl=>⟨λq=>(by cases q),λq=>(by cases q),λp q=>by cases q;exact⟨k1,K⟩⟩) (λl a b c=> ?_) (λl a b=> ?_) (by rw[e];exact Ç _) id (λq=>p.C.y 0 (ò _) q) p.C.v
  .grind
  .rw[hG];exact p.C.e l a b<|by rwa[e]
  .rw[hG];have c:l<=k-1:=b;rcases p.C.Y l a (by rwa[e])with⟨W,q,_⟩|⟨r,s,q,_⟩|q;all_goals grind
 .have u:=p.C.w j r a1<|Á<|Á a2;rw[e]at u;simp only[jr.od]at u;show Λ _ _ (fx E.e k qJ.size _);rw[fH _ _ Z];exact(p.f j r a1 a2 a3).app _
 .rw[e];simp only[jr.rk,jA.rk];omega
end
section
variable{F:Ph}{E E':fS F}{S:Nat->Jd}{v M:Nat->gy}{I:Nat->iy}{B:Nat->fe}{o f:Array Ä}{u:ä}{K:Option (Nat×Nat)}
def Au(E:fS F)(ip:jr)(k:Nat)(G:GS):fS F:={E with S:=ip,a:=fx E.a k G}
theorem PI.CQ(H:gQ F)(p:PI F j zX E S v I B o w qJ){d:jA}{ip:jr}{G:GS}{s:Ä}{T:gy}(h0:0<E.r)(C:E.N 0=Í)(t:E.S=.dn k d)(O:d≠ .jy)(Q:o[F.L]?=Ã g)(D:ku (F.I k) w W)(X:gZ W (F.I k) G)(q1:Ŏ F.P (ð o w K) F.L=(ğ<|ð f W K,u))(J:f.size=o.size)(q3:f[F.L]?=Ã s)(mU:s.status=Å\/s.status=å)(q4:∀k,k≠F.L->f[k]?=o[k]?.map (Ā F.P g s W)) (q5:gK F.P F.S E.Y (fx S F.L<|JI F E.c ip) (fx v F.L T) (fx I F.L .no) (gu B F.L {B F.L with w:=W}) f W (qJ++u)) (q6:TI F.toFx j zX E.r E.S.rl E.V E.e E.d E.iq E.f (qJ++u)) (q7:iG F E (gu B F.L {B F.L with w:=W}) f.size W) (x:ip.md=k/\ip.rl=k) (hP:Ps F (Au E ip k G)) (WW:ip.rk F<E.S.rk F) (FH:∀i r,E.C i=.fy r .kq->F.r (i+r*F.n)=k->(E.a k).sm=0->G.sm=0\/∀y,f[F.L+1+i]?=Ã y->y.status≠Ü):jT F j zX E v o w qJ K F.L:=by
 let⟨k1,z⟩:=(p.C.I k).2.2 _ t;have M:F.M (F.I k):=Á ⟨k,z,U⟩;have N:E.S.md=k:=by rw[t];rfl
 have Ot:E.S.rl=k:=by rw[t];cases d<;>first|rfl|exact absurd U O
 have m:=D.I H p.a p.C p.M M ⟨λq=>absurd q<|H.C.M k z,λ_=>rfl⟩ (λl a=>⟨λq=>by rwa[<-H.C.S _ _ z a q,gE],λq=>fH _ _ λe=>q<|by rw[e]⟩);refine⟨Au E ip k G,_,_,_,_,f,W,u,q1,J,λh=>h,.r ?_ (J.trans p.b) q5 ?_ ?_ hP ?_ ?_ λi r a b c=>(p.f i r a b c).app u,Jw H.C (p.G<|iN Q) C U U U U WW⟩
 .have:=p.N.Jv (ip:=ip) (sg:=E.c) (T:=T) H.C C;exact⟨this.M,this.Y,this.I,this.C,this.r⟩
 .have L:=q7;have e:(Au E ip k G).S.md=E.S.md:=by rw[N];exact x.1
  exact⟨L.gR,L.o,L.lC,λa l b c=>L.e a l (by rwa[<-e]) c,λa b=>by have:=L.f a b;rwa[<-e]at this,L.h,L.l,L.S,L.M,L.c,λl b=>L.I l (by rwa[<-e]),λl b=>L.N l (by rwa[<-e]),λl a b=>L.g l a (by rwa[<-e]),L.d⟩
 .have e:(Au E ip k G).S.md=E.S.md:=by rw[N];exact x.1
  exact⟨m.C,m.I,m.jB,λl b=>m.M l (by show l<=E.S.md;rwa[<-e]),λl a b=>m.S l a (by show l<=E.S.md;rwa[<-e]),m.N⟩
 .have e:(Au E ip k G).S.rl=E.S.rl:=by rw[Ot];exact x.2
  rwa[e]
 .refine p.c.qe (E':=Au E ip k G) q3 (by rcases mU with q|q<;>rw[q]<;>simp) q4 (λi a=>D.C p.C M a) U U (λ_ _=>rfl) (λ_=>rfl) (λ_ _=>rfl) (λ_ _ h=>À h) λi r _ a b=> ?_;show(fx E.a k G _).sm=0\/_;grind [gE,fH]
theorem PI.CR(p:PI F j zX E S v I B o w qJ){d:jA}{f:jr}{G:GS}(m:0<E.r)(t:E.N 0=Í)(l:E.S=.dn k d)(D:f=.kF k\/∃u,f=.dn k u)(i:f.od=k)(H:(∃W,(f=.dn k (.gB W)\/f=.dn k (.jb W))/\G=.jz W/\W=Ñ F.n λe=>(E.C e).gD F e k)\/(∃r s,f=.dn k (.iz r)/\0<r/\G=.gV r s/\r+s=Ñ F.n λe=>(E.C e).gD F e k)\/((∀p,f≠ .dn k p)/\((G=.cl 0 0/\(Ñ F.n λe=>(E.C e).gD F e k)=0)\/∃s,G=.gV 0 s/\s=Ñ F.n λe=>(E.C e).gD F e k))) (x:(∃a b,E.a k=.gV a b)->∃a b,G=.gV a b) (y:G≠ .cl 1 0):Ps F (Au E f k G):=by
 let⟨J,K⟩:=(p.C.I k).2.2 _ l;have C:k-1<=E.S.od/\E.S.od<=k:=by rw[l];cases d<;>simp only[jr.od]<;>omega
 have:=p.C.Jx (sg:=E.c) (pk:=E.e) t m (λg=> ?_) (λg a b c=> ?_) (λg a b=> ?_) (by rw[i];exact C.2) x (λq=>absurd q y) p.C.v
 .exact this
 .grind
 .rw[i]at c;rw[fH _ _ Z];exact p.C.e g a b Z
 .by_cases q:g=k
  .grind [gE]
  .rw[fH _ _ q];rw[i]at b;refine Á<|Á ⟨λc h=> ?_,?_⟩
   .grind
   .rcases p.C.Y g a Z with⟨W,z,_⟩|⟨r,s,z,_⟩|z;all_goals grind
theorem PI.agn(H:gQ F)(p:PI F j zX E S v I B o w qJ)(d:0<E.r)(i:E.N 0=Í)(s:o[F.L]?=Ã g)(iI:g.status=Å)(ht:v F.L=.fB)(c:E.S=.dn k .iE):jT F j zX E v o w qJ K F.L:=by
 have O:=iN s;have C:=p.I.r;have hJ:=p.Ar d i s iI ht w<|C.r _ O;rw[c]at hJ;obtain⟨k1,Y⟩:=(p.C.I k).2.2 _ c;have Q:=Aq H.C;have y:F.M (F.I k):=Á ⟨k,Y,U⟩;obtain⟨hd,_,s9⟩:=hJ;have hc:=p.C.e k k1 Y (by rw[c];simp only[jr.od];omega);obtain⟨W,hW⟩:∃W,(Ñ F.n λa=>(E.C a).gD F a k)=W:=⟨_,U⟩;rw[hW]at hc;have V:=hc▸p.M.I k Y;obtain⟨ev,z⟩:=V.jE;have key:=s9 (GS.cl (0+1) W).st;rw[ev]at key z;obtain⟨m,t⟩:∃m,(GS.jE<|.cl (0+1) W).st=m:=⟨_,U⟩;rw[t]at key;obtain⟨g',h1,h2⟩:=key;have G:=h1 w V.C V.I;rw[<-t]at G;obtain⟨k1',k2,k3⟩:=V.r;have r:ku (F.I k) w (w.setCell (fM<|F.I k)<|ë Ó (GS.jE<|.cl (0+1) W).st):=Á ⟨_,_,À U,U⟩;have D:=r.r p.a H.C y;have X:fI {B F.L with w:=w} w (w.setCell (fM<|F.I k)<|ë Ó (GS.jE<|.cl (0+1) W).st):=⟨Ô D.r.symm,λb kS=>D.jL b<|C.I _ O b kS,λa ha=>D.M _ O a ha,λa ha=>D.N _ O a ha,λa _=>D.I a⟩;have Xa:¬∃a b,E.a k=.gV a b:=λ⟨a,b,q⟩=>by rw[hc]at q;cases q
 by_cases hl:0<W
 .have ed:GS.jE (.cl (0+1) W)=.jz W:=by simp only[GS.jE];rw[if_pos ⟨trivial,hl⟩]
  rw[ed]at G z r D X t;have M:fj F.P É (Je F.P É (F.I k) (fj F.P É<|F.h k) W) {B F.L with w:=w} g':=by
   have e:m=(W:Int):=t.symm;have h:¬(m=0\/(fX<=m/\m<1000000*fX/\m%fX<1000000)):=by simp only[fX];omega
   grind
  obtain⟨T,hT⟩:=jh<|M.jS X;have N:=lj (λl g h=>À h.2.1) M;obtain⟨f,u,q1,q2,q3,q4,q5,q6,q7⟩:=p.Y (J:=JI F E.c<|.dn k (.gB W)) H .no s (CO d) y (by rwa[Q]) r (Af y) U (λx hs e=>(CP i x hs e).elim) (by rwa[Q]) N;refine p.CQ H d i c fp s r z q1 q2 q3 N q4 q5 q6 q7 ⟨U,U⟩ (p.CR d i c (Á ⟨_,U⟩) U (À ⟨W,À U,U,hW.symm⟩) (λq=>absurd q Xa) fp) ?_ λ_ _ _ _ _=>À U;rw[c];simp only[jr.rk,jA.rk];omega
 .have Om:W=0:=Z
  subst Om;have ed:GS.jE (.cl (0+1) 0)=.cl 0 0:=U;rw[ed]at G z r D X t;have M:fj F.P É (F.h k) {B F.L with w:=w} g':=by simp only[t.symm,true_or,if_true]at h2;exact h2
  obtain⟨T,hT⟩:=jh<|M.jS X;have N:=lj (λl g h=>À<|H.N _ _ _ h) M;obtain⟨f,u,q1,q2,q3,q4,q5,q6,q7⟩:=p.Y (J:=JI F E.c<|.kF k) H .no s (CO d) y (by rwa[Q]) r (Af y) U (λx hs e=>(CP i x hs e).elim) (by rwa[Q]) N;refine p.CQ H d i c fp s r z q1 q2 q3 N q4 q5 q6 q7 ⟨U,U⟩ (p.CR d i c (À U) U (Á<|Á ⟨λp q=>(by cases q),À ⟨rfl,hW⟩⟩) (λq=>absurd q Xa) fp) ?_ λ_ _ _ _ _=>À rfl;rw[c];simp only[jr.rk,jA.rk];omega
theorem PI.Xb(p:PI F j zX E S v I B o w qJ)(b:E.S=.dn k (.gB i)\/E.S=.dn k (.jb i)):E.a k=.jz i/\i=Ñ F.n λa=>(E.C a).gD F a k:=by
 have c:k<=F.m:=by rcases b with b|b<;>exact((p.C.I k).2.2 _ b).2
 rcases p.C.Y k c (by rcases b with b|b<;>(rw[b];exact Ç _))with⟨d,z,e,f⟩|⟨r,s,z,_⟩|⟨z,_⟩;all_goals grind
def PI.agp(H:gQ F)(p:PI F j zX E S v I B o w qJ)(d:0<E.r)(m:E.N 0=Í)(n:o[F.L]?=Ã g)(M:g.status=Å)(N:v F.L=.fB)(c:E.S=.dn k (.gB i)):jT F j zX E v o w qJ K F.L:=by have s:=p.Ar d m n M N w<|(p.I.r).r _<|iN n;rw[c]at s;let⟨k1,t⟩:=(p.C.I k).2.2 _ c;have y:=Aq H.C;have z:F.M (F.I k):=Á ⟨k,t,U⟩;let⟨hd,_,O⟩:=s;let⟨C,P⟩:=p.Xb<|À c;have D:=C▸p.M.I k t;let⟨g',Q,r⟩:=O (i:Int);simp only[if_true]at r;let⟨T,V⟩:=jh r;have G:=lj (λl g h=>À h.2.1) r;obtain⟨f,u,h,l,X,Y,q5,q6,q7⟩:=p.Y (J:=JI F E.c<|.dn k (.jb i)) H .no n (CO d) z (by rw[y];exact Q w D.C) (À U) (yd z) U (λx a e=>(CP m x a e).elim) (by rwa[y]) G;refine p.CQ H d m c fp n (À U) D h l X G Y q5 q6 q7 ⟨U,U⟩ (p.CR d m c (Á ⟨_,U⟩) U (À ⟨i,Á U,U,P⟩) (λ⟨a,b,q⟩=>by rw[C]at q;cases q) fp) ?_ λ_ _ _ _ _=>À rfl;rw[c];simp only[jr.rk,jA.rk];omega
def PI.agq(H:gQ F)(p:PI F j zX E S v I B o w qJ)(d:0<E.r)(m:E.N 0=Í)(n:o[F.L]?=Ã g)(N:g.status=Å)(O:v F.L=.fB)(c:E.S=.dn k (.jb i)):jT F j zX E v o w qJ K F.L:=by
 have q:=iN n;have C:=p.I.r;have y:=p.Ar d m n N O w<|C.r _ q;rw[c]at y;let⟨k1,z⟩:=(p.C.I k).2.2 _ c;have G:=Aq H.C;have s:F.M (F.I k):=Á ⟨k,z,U⟩;let⟨hd,_,g',P,M⟩:=y;let⟨Q,V⟩:=p.Xb<|Á c;have r:=Q▸p.M.I k z;have X:=r.r.1;have t:ku (F.I k) w (w.setCell (fM<|F.I k)<|ë Ó 0):=Á ⟨_,_,À U,U⟩;have D:=t.r p.a H.C s;let⟨T,Y⟩:=jh (M.jS ⟨Ô D.r.symm,λb h=>D.jL b<|C.I _ q b h,λa e=>D.M _ q a e,λa e=>D.N _ q a e,λa _=>D.I a⟩);have a:=lj (λl g h=>by
  cases i with
  |zero=>omega
  |succ i=>exact À h.2.1) M
 obtain⟨f,u,h,b,l,q4,q5,q6,q7⟩:=p.Y (J:=JI F E.c<|.dn k (.iz i)) H .no n (CO d) s (by rw[G];exact P w _ r.C r.I) t (WG s) U (λx hs e=>(CP m x hs e).elim) (by rwa[G]) a;refine p.CQ H d m c fp n t r.Ws h b l a q4 q5 q6 q7 ⟨U,U⟩ (p.CR d m c (Á ⟨_,U⟩) U (Á<|À ⟨i,0,U,X,U,by rwa[ó]⟩) (λ_=>⟨i,0,U⟩) fp) ?_ λ_ _ _ _ _=>À U;rw[c];simp only[jr.rk,jA.rk];omega
theorem PI.agr(H:gQ F)(p:PI F j zX E S v I B o w qJ)(l:0<E.r)(t:E.N 0=Í)(G:o[F.L]?=Ã g)(iI:g.status=Å)(ht:v F.L=.fB)(h:E.S=.dn k (.iz j9)):jT F j zX E v o w qJ K F.L:=by
 have W:=iN G;have C:=p.I.r;have hJ:=p.Ar l t G iI ht w<|C.r _ W;rw[h]at hJ;obtain⟨k1,Y⟩:=(p.C.I k).2.2 _ h;have X:=Aq H.C;have O:F.M (F.I k):=Á ⟨k,Y,U⟩;obtain⟨s,hr0,hc,rT⟩:∃s,0<j9/\E.a k=.gV j9 s/\j9+s=Ñ F.n λc=>(E.C c).gD F c k:=by rcases p.C.Y k Y (by rw[h];exact Ç _)with⟨W',z,z1,z2⟩|⟨M,s,z,z1,z2,z3⟩|⟨z,_⟩;all_goals grind
 obtain⟨j9,rfl⟩:∃M,j9=M+1:=⟨j9-1,Z⟩;obtain⟨hd,_,On,g',Q,h1,h2⟩:=hJ;have N:=hc▸p.M.I k Y;have V:ku (F.I k) w (w.setCell (gU<|F.I k)<|ë ç<|ç.wrap<|(GS.gV (j9+1) s).sm+1):=Á ⟨_,_,Á U,U⟩;have D:=V.r p.a H.C O;have wq:fI {B F.L with w:=w} w (w.setCell (gU<|F.I k)<|ë ç<|ç.wrap<|(GS.gV (j9+1) s).sm+1):=⟨Ô D.r.symm,λb kS=>D.jL b<|C.I _ W b kS,λa ha=>D.M _ W a ha,λa ha=>D.N _ W a ha,λa _=>D.I a⟩;have wake:∀f:Array Ä,(∀k,k≠F.L->f[k]?=o[k]?.map (Ā F.P g g'<|w.setCell (gU<|F.I k)<|ë ç<|ç.wrap<|(GS.gV (j9+1) s).sm+1))\/(∀m,m≠F.L->f[m]?=o[m]?.map (Ā F.P g g'<|w.setCell (gU<|F.I k)<|ë ç<|ç.wrap<|(GS.gV (j9+1) s).sm+1))->∀c M,E.C c=.fy M .kq->F.r (c+M*F.n)=k->(E.a k).sm=0->(GS.gV j9<|s+1).sm=0\/∀y,f[F.L+1+c]?=Ã y->y.status≠Ü:=by
  intro f d c M hj _ _;refine Á λy hy=> ?_;by_cases Xc:c+2<=E.r
  .by_cases Jy:E.N (c+1)=Í
   .obtain⟨_,hk⟩:=p.g c Xc Jy;rw[hj]at hk;rcases d with d|d<;>
    .rw[d _ Z]at hy;obtain⟨z,FU,rfl⟩:=Ù.1 hy;exact W3 p On Q FU hk
   .obtain⟨_,r0,q,_⟩:=p.C.l c Xc Jy;grind
  .have:=p.C.z c Z;grind
 cases j9 with
 |zero=>
  obtain⟨T,hT⟩:=jh<|h2.jS wq;obtain⟨f,u,q1,q2,q3,d,q5,q6,q7⟩:=p.Y (J:=JI F E.c<|.kF k) H .no G (CO l) O (by rw[X];exact h1 w _ N.M N.N) V (FB O) (FC _).2.2.2 (λx hs e=>(CP t x hs e).elim) (by rwa[X])<|À Q;refine p.CQ H l t h fp G V N.jy q1 q2 q3 (À Q) d q5 q6 q7 ⟨U,U⟩ (p.CR l t h (À U) U (Á<|Á ⟨λp q=>(by cases q),Á ⟨s+1,rfl,Z⟩⟩) (λ_=>⟨0,s+1,rfl⟩) fp) ?_<|wake f<|Á d;rw[h];simp only[jr.rk,jA.rk];omega
 |succ j9=>
  obtain⟨T,hT⟩:=jh<|h2.jS wq;obtain⟨f,u,q1,q2,q3,d,q5,q6,q7⟩:=p.Y (J:=JI F E.c<|.dn k (.iz (j9+1))) H .no G (CO l) O (by rw[X];exact h1 w _ N.M N.N) V (FB O) (FC _).2.2.2 (λx hs e=>(CP t x hs e).elim) (by rwa[X])<|À Q;refine p.CQ H l t h fp G V N.jy q1 q2 q3 (À Q) d q5 q6 q7 ⟨U,U⟩ (p.CR l t h (Á ⟨_,U⟩) U (Á<|À ⟨j9+1,s+1,U,Z,U,Z⟩) (λ_=>⟨j9+1,s+1,U⟩) fp) ?_<|wake f<|Á d;rw[h];simp only[jr.rk,jA.rk];have:Ñ F.n (λc=>(E.C c).gD F c k)<=F.n:=FE λi=>by cases E.C i<;>simp only[gM.gD]<;>first|omega|(split<;>first|omega|(rename_i q _;cases q<;>simp[jm.rS]))
  omega
theorem PI.ags(H:gQ F)(p:PI F j zX E S v I B o w qJ){N:Nat}(s:i<E.r)(a:E.N i=Ã (.jl N))(t:o[F.L+i]?=Ã g)(J:g.status=Å):jT F j zX E v o w qJ K (F.L+i):=by
 let⟨M,n,O⟩:=p.k i _ s a;have hL:=H.C.r;obtain⟨f,P,Q,hn,T,l,V,u,z⟩:=p.I.NC t Z J n (O ⟨N,U⟩) M;have C:=iN t;have D:∀c∈Û (F.L+i) g.frame.fn g.frame.place P,c.act.touch?=Í/\∀b,F.M b->c.act≠ė (.release<|fM b):=λc d=>by obtain⟨e,h,rfl⟩:=Ö d;refine⟨ź<|u e h,λb _ q=> ?_⟩;have:=u e h;let⟨k,y,m⟩:=e;cases k<;>simp_all[Event.mute,Ë]
 obtain⟨m,G⟩:∃m,f[F.L+i]?=Ã m:=⟨f[F.L+i]'(by rwa[l]),é _⟩;have W:m.status≠Ü:=by
  let⟨g0,y,h,k,r⟩:=z.C _ m G;rw[n]at h;cases h with
  |gi=>rcases k with q|q<;>rw[q]<;>simp
 have X:fx v (F.L+i) .fB=v:=by funext q;unfold fx;split<;>simp[*]
 have Y:fx I (F.L+i) .no=I:=by funext q;unfold fx;split<;>simp[*]
 refine⟨fA.gT E i<|.jl Q,_,_,_,_,f,w,_,T,l,λh=>h,.r (p.N.G H.C λ_=>rfl) (l.trans p.b) (by rwa[X,Y]) (by rw[l];exact(p.a.C<|Ç _).gT<|⟨λ_=>⟨_,a,trivial⟩,λ_=>trivial⟩) p.M.gT (p.C.gT s (by rw[a];rfl) (λk h=>by rw[a]at h;cases h) (λk h=>by cases h) (λq h=>p.C.l q Z<|by rw[<-h,a];simp) λh=>p.C.f<|by rw[<-h,a];simp) ((p.d.C<|xZ (λc d=>(D c d).1) λc d=>(D c d).2).G<|⟨λ_=>⟨_,a,trivial⟩,λ_=>trivial⟩) (Oj (p.c.Fl G W V λ_ _=>rfl) λk y n r e=> ?_) λq r k e y=>(p.f q r k e y).app _,CM H.C (p.G C)<|Á ?_⟩
 .grind
 .unfold qO;rw[a];simp only[ig.rk];grind
theorem PI.agt(H:gQ F)(p:PI F j zX E S v I B o w qJ)(N:0<i)(t:i<F.L)(u:o[i]?=Ã g)(O:g.status=Å):jT F j zX E v o w qJ K i:=by
 let⟨Q,T,m⟩:=p.l i N t;obtain⟨f,x,z,Y,V,n,W,C,D⟩:=p.I.NC u Z O m T Q;have G:=iN u;have J:∀c∈Û i g.frame.fn g.frame.place x,c.act.touch?=Í/\∀b,F.M b->c.act≠ė (.release<|fM b):=λc l=>by obtain⟨e,a,rfl⟩:=Ö l;refine⟨ź<|C e a,λb _ q=> ?_⟩;have:=C e a;let⟨h,k,y⟩:=e;cases h<;>simp_all[Event.mute,Ë]
 obtain⟨s,M⟩:∃s,f[i]?=Ã s:=⟨f[i]'(by rwa[n]),é _⟩;have X:s.status≠Ü:=by
  let⟨g0,k,a,h,y⟩:=D.C _ s M;rw[m]at a;cases a with
  |gi=>rcases h with q|q<;>rw[q]<;>simp
 refine⟨{E with h:=fx E.h i z},_,_,_,_,f,w,_,V,n,λh=>h,.r ?_ (n.trans p.b) D ?_ ⟨p.M.C,p.M.I,p.M.jB,p.M.M,p.M.S,p.M.N⟩ ?_ (p.d.C<|xZ (λc l=>(J c l).1) λc l=>(J c l).2) (Oo (p.c.Fl M X W λ_ _=>rfl) U U U U U U U) λq r a k y=>(p.f q r a k y).app _,Fz (p.G G) ?_ λk m=>yb (λ_=>rfl) (λ_ _=>fH _ _ m) (λ_=>rfl) (λ_ _=>rfl) (λ_ _=>rfl) U⟩
 .have h:=p.N;refine⟨by rw[fH S _ Z];exact h.M,λa b=>by rw[fH S _ Z];exact h.Y a b,λq a b=>by rw[fH S _ Z];exact h.I q a b,λy e a b=>by rw[fH S _ Z];exact h.C y e a b,λq a b=> ?_⟩;by_cases e:q=i
  .grind [gE]
  .rw[fH S _ e];refine⟨?_,(h.r q a b).2⟩;show _=oO F.P (fx E.h i z q);rw[fH _ _ e];exact(h.r q a b).1
 .rw[n];have L:=p.a.C (i:=i) (d:=Ï (B i).d x) (w0:=w)<|Ç _;exact⟨L.gR,L.o,L.lC,L.e,L.f,L.h,L.l,L.S,L.M,L.c,L.I,L.N,L.g,L.d⟩
 .have h:=p.C;exact⟨h.v,h.C,h.K,h.L,h.J,h.I,h.z,h.d,h.l,h.f,h.h,h.M,h.o,h.t,h.g,h.u,h.N,h.B,h.e,h.Y,h.w,h.H,h.O,h.S,h.y,h.D⟩
 .unfold fS.iQ;rw[if_neg Z,if_pos t,if_neg Z,if_pos t];refine Á ⟨U,À ?_⟩;grind [gE]
end
section
variable{F:Ph}{E J:fS F}{S:Nat->Jd}{d M:Nat->gy}{o:Nat->iy}{m:Nat->fe}{f D:Array Ä}{u:ä}{I:Option (Nat×Nat)}
def iu(E:fS F)(x:fU)(G:GS)(dk:Nat->Nat):fS F:={E with M:=x,b:=G,I:=dk}
structure iV(E:fS F)(x:fU)(C:Nat->Nat):Prop where
 r:x.sp F.n=E.r
 C:∀j,j+2<=E.r->C j=E.I j
def Av{x:fU}{G:GS}{d:Nat->Nat}(a:iV E x d):(iu E x G d).Y=E.Y:=by have e:(iu E x G d).r=E.r:=a.r;funext b;unfold fS.Y;rw[e];refine propext<|or_congr Iff.rfl<|or_congr Iff.rfl ⟨λ⟨j,c,f⟩=>⟨j,c,f.trans<|a.C j c⟩,λ⟨j,c,f⟩=>⟨j,c,f.trans (a.C j c).symm⟩⟩
def iG.G(L:iG F E m i w){x:fU}{G:GS}{d:Nat->Nat}(a:iV E x d):iG F (iu E x G d) m i w:=by have e:(fA.iu E x G d).r=E.r:=a.r;exact⟨L.gR,λy f=>L.o y Z,λh=>L.lC Z,λh=>L.e Z,λh=>L.f Z,λj h=>L.h j Z,λj h=>L.l j Z,L.S,λc g=>L.M c (g.imp id λ⟨y,f,b⟩=>⟨y,Z,b⟩),L.c,λk l b n=>by rw[Av a];exact L.I k l b n,L.N,L.g,λj h=>L.d j Z⟩
def Wd.r{G:GS}(W:Wd F {E with b:=G,a:=E.a} w){x:fU}{dk:Nat->Nat}(a:iV E x dk)(c:x.mj F.q=E.M.mj F.q)(d:x.jd F.n=E.M.jd F.n):Wd F (iu E x G dk) w:=by
 have e:(fA.iu E x G dk).r=E.r:=a.r;refine⟨W.C,W.I,λj f=> ?_,W.M,W.S,λj f=>W.N j<|show j+2<=E.r by omega⟩;have b:j+2<=E.r:=Z
 have:=W.jB j b;show∃g s,w.heap[dk j]?=Ã (.chan F.q g (decide<|j<x.jd F.n) s (E.C j).iL É)/\sX F.n j (x.mj F.q) s/\_;rw[a.C j b,c,d];exact this
def Ou{x:fU}{G:GS}{dk:Nat->Nat}(h:x.ad F.n=E.M.ad F.n):(iu E x G dk).G=E.G:=by
 funext y;show(if y<x.ad F.n then _ else _)=if y<E.M.ad F.n then _ else _
 rw[h];rfl
def Ps.iu(h:Ps F E){x:fU}{G:GS}{dk:Nat->Nat}(d:iV E x dk)(o:E.M.jd F.n<=x.jd F.n)(t:∀j,x=.go j\/x=.lh j\/x=.rd j\/x=.iE j->j<=F.n)(u:∀j,x=.lh j\/x=.rd j\/x=.iE j->1<=j)(v:∀r,(x=.iJ r->r<=F.q)/\(x=.kK r->r<=F.n)) (w:∀c f,G=.cl c f->c=Ñ (F.n+1) (fA.iu E x G dk).G/\f=x.gD) (z:∀f,G=.jz f->Ñ (F.n+1) (fA.iu E x G dk).G=0/\f=x.gD/\∃y,y<E.r/\E.g=Ã y/\(E.N y=Ã (.fZ (.gB f))\/E.N y=Ã (.fZ (.jb f)))) (B:∀r s,G=.gV r s->Ñ (F.n+1) (fA.iu E x G dk).G=0/\r+s=x.gD/\(0<r->∃y,y<E.r/\E.g=Ã y/\E.N y=Ã (.fZ (.iz r)))) (C:∀y p,E.N y=Ã (.fZ p)->(∀W,p=.gB W\/p=.jb W->E.g=Ã y/\G=.jz W)/\(∀r,p=.iz r->0<r/\E.g=Ã y/\∃s,G=.gV r s)) (D:x=.fy .gB\/x=.fy .kR\/x=.fZ->Ñ (F.n+1) (fA.iu E x G dk).G=0) (H:x=.fy .gB->∃a b,G=.gV a b) (I:(∀p,x≠ .fy p)->x≠ .fZ->∃c,G=.cl c 0):Ps F (fA.iu E x G dk):=by
 have e:(fA.iu E x G dk).r=E.r:=d.r;refine⟨h.v,t,u,v,λq=>h.J Z,h.I,λj q=>h.z j Z,λj r q=>h.d j r Z,λj q J=> ?_,h.f,λy q=>h.h y Z,λj g N O K=> ?_,λj q=> ?_,w,λf i=> ?_,λr s i=> ?_,C,D,h.e,h.Y,λj r q=>h.w j r Z,λj r q=>h.H j r Z,H,I,h.y,λj r q=>h.D j r Z⟩
 .let⟨a,b⟩:=h.l j Z J;exact⟨Ê a o,b⟩
 .have k:dk j=dk g:=K;rw[d.C j Z,d.C g Z]at k;exact h.M j g Z Z k
 .show¬F.M (dk j)/\dk j≠F.Y/\F.S<=dk j;rw[d.C j Z];exact h.o j Z
 .let⟨k,l,y,m,L⟩:=z f i;exact⟨k,l,y,Z,L⟩
 .let⟨k,l,m⟩:=B r s i;refine⟨k,l,λL=> ?_⟩;let⟨y,P,M⟩:=m L;exact⟨y,Z,M⟩
def Ps.r(h:Ps F E){x:fU}{dk:Nat->Nat}(d:iV E x dk)(g:E.M.jd F.n<=x.jd F.n)(i:x.ad F.n=E.M.ad F.n)(f:x.gD=E.M.gD)(k:∀j,x=.go j\/x=.lh j\/x=.rd j\/x=.iE j->j<=F.n)(l:∀j,x=.lh j\/x=.rd j\/x=.iE j->1<=j)(m:∀r,(x=.iJ r->r<=F.q)/\(x=.kK r->r<=F.n)) (o:x=.fy .gB\/x=.fy .kR\/x=.fZ->Ñ (F.n+1) E.G=0) (s:x=.fy .gB->∃a b,E.b=.gV a b) (t:(∀p,x≠ .fy p)->x≠ .fZ->∃c,E.b=.cl c 0):Ps F (fA.iu E x E.b dk):=by
 have e:=Ou (E:=E) (G:=E.b) (dk:=dk) i;refine h.iu d g k l m ?_ ?_ ?_ h.N ?_ s t
 .rw[e,f];exact h.t
 .rw[e,f];exact h.g
 .rw[e,f];exact h.u
 .rwa[e]
def qh.iu(h:qh F E S d o)(ok:F.Ok){x:fU}{G:GS}{dk:Nat->Nat}{T:gy}(a:iV E x dk):qh F (fA.iu E x G dk) (fx S 0<|JM F dk x) (fx d 0 T) (fx o 0<|kM x):=by have:=ok.r;have e:(fA.iu E x G dk).r=E.r:=a.r;refine⟨by rw[gE,gE];exact⟨U,U⟩,λc b=>by rw[fH S _ Z,fH o _ Z];exact h.Y Z b,λj c b=> ?_,λy f c b=>by rw[fH S _ Z,fH o _ Z,fH d _ Z];exact h.C y f Z b,λi c b=>by rw[fH S _ Z,fH o _ Z,fH d _ Z];exact h.r i c b⟩;rw[fH S _ Z,fH o _ Z];show _=JW F (dk j) j (E.C j)/\_=kW F (dk j) (E.C j);rw[a.C j Z];exact h.I j Z b
def qP{x:fU}{G:GS}{dk:Nat->Nat}{T:gy}(h:x.rk F<E.M.rk F):oP F.N ((iu E x G dk).mu (fx d 0 T) D) (E.mu d f):=by refine Fz (by unfold Ph.N;omega) (À ?_) λk a=>yb (λh=>absurd h a) (λ_ _=>rfl) (λ_=>rfl) (λ_ _=>rfl) (λ_ _=>rfl)<|fH d _ a;rwa[Cy,Cy]
theorem Xd:E.kY 0=match E.M with|.fy p=>p.kY F.B E.b.st|_=>0:=by unfold fS.kY;grind
def agu{p a:SP}(b:E.M=.fy (.lR p))(g:d 0=.fB)(h:a.rk F.B E.b.st<p.rk F.B E.b.st):oP F.N ((iu E (.fy (.lR a)) E.b E.I).mu (fx d 0 .fB) D) (E.mu d f):=by
 refine WH (i:=0) (λk _=> ?_) (by unfold Ph.N;omega) ?_ λk c=> ?_
 .by_cases e:k=0
  .subst e;rw[Cy,Cy,gE,b,g];rfl
  .exact yb (λh=>absurd h e) (λ_ _=>rfl) (λ_=>rfl) (λ_ _=>rfl) (λ_ _=>rfl)<|fH d _ e
 .rwa[Xd,Xd,b]
 .unfold fS.kY;rw[if_neg c,if_neg c];rfl
def PI.rV(p:PI F b zX E S d o m f w qJ)(c:f[0]?=Ã g)(e:g.status=Å)(h:d 0=.fB):∀a,fI (m 0) (m 0).w a->JM F E.I E.M {m 0 with w:=a} g:=by
 let⟨k,i⟩:=p.h;have j:o 0=.no\/o 0=.iz:=by
  rw[i];cases E.M with
  |fy v=>cases v<;>first|exact À U|exact Á U
  |_=>exact À U
 intro a r;have:=p.I.N c e h j a r;simp_all
def yl(ok:F.Ok):∀x,E.iq x->0=F.L+x->False:=λx _ e=>by have:=ok.r;omega
theorem PI.ym(H:gQ F)(p:PI F b zX E S d o m f w qJ){x:fU}{G:GS}{dk:Nat->Nat}{c:Ä}{T:gy}(a:iV E x dk)(C:Ŏ F.P (ð f w I) 0=(ğ<|ð D W I,u))(l:D.size=f.size)(q3:D[0]?=Ã c)(mU:c.status=Å\/c.status=å)(J:∀k,k≠0->D[k]?=f[k]?.map (Ā F.P g c W))(K:∀j,j+2<=E.r->W.heap[E.I j]?=w.heap[E.I j]?) (L:gK F.P F.S E.Y (fx S 0<|JM F dk x) (fx d 0 T) (fx o 0<|kM x) (gu m 0 {m 0 with w:=W}) D W (qJ++u)) (M:TI F.toFx b zX E.r E.S.rl E.V E.e E.d E.iq E.f (qJ++u)) (O:iG F E (gu m 0 {m 0 with w:=W}) D.size W) (Q:Wd F (iu E x G dk) W) (X:Ps F (iu E x G dk)) (wj:oP F.N ((iu E x G dk).mu (fx d 0 T) D) (E.mu d f)) (hxf:x=.fZ->E.M=.fZ):jT F b zX E d f w qJ I 0:=by
 have e:(iu E x G dk).r=E.r:=a.r;refine⟨iu E x G dk,_,_,_,_,D,W,u,C,l,hxf,.r (p.N.iu H.C a) (by rw[e];exact l.trans p.b) (by rwa[Av a]) (O.G a) Q X (by rwa[e]) ?_ λi h s n q=>(p.f i h Z n q).app u,wj⟩;intro k y n hb;by_cases q:k=0
 .grind
 .rw[J k q]at n;obtain⟨z,hz,rfl⟩:=Ù.1 n;let⟨_,hzb⟩:=Fy hb;rcases p.c k z hz hzb with⟨h1,_⟩|⟨j,t,v,B,i|⟨r,cap,s,h,i,h4⟩⟩
  .exact absurd h1 q
  .exact Á ⟨j,Z,v,B,À i⟩
  .refine Á ⟨j,Z,v,B,Á ⟨r,cap,s,h,i,?_⟩⟩;show W.heap[dk j]?=_;rwa[a.C j t,K j t]
theorem PI.Jz(H:gQ F)(p:PI F b zX E S d o m f w qJ){x:fU}{h:Nat->Nat}{T:gy}(c:iV E x h)(v:f[0]?=Ã g)(B:g.status=Å)(hF:kQ F.P Ì (JM F h x) T {m 0 with w:=w} g)(t:x.mj F.q=E.M.mj F.q)(l:x.jd F.n=E.M.jd F.n)(D:Ps F (iu E x E.b h))(G:oP F.N ((iu E x E.b h).mu (fx d 0 T) f) (E.mu d f))(I:x=.fZ->E.M=.fZ):qN F b zX E d f w qJ:=by
 have u:=iN v;have C:=p.I.r;have e:(iu E x E.b h).r=E.r:=c.r;have J:iP F.S (λi=>i<f.size) E.Y (gu m 0 {m 0 with w:=w}) w qJ:=C.C u (λ_ q=>q) (λa q=>À<|Á q) (λ_ q=>q) (λa q=>À<|Á q) U U U (C.m _ u)<|C.g _ u;have L:=p.I.M (K:=kM x) v (À B) J hF;refine⟨iu E x E.b h,_,_,_,_,I,.r (p.N.iu H.C c) (by rw[e];exact p.b) (by rwa[Av c]) ((p.a.C<|Ç _).G c) (Wd.r p.M c t l) D (by rw[e];exact p.d) (λk y M O=> ?_) λi a z j s=>p.f i a Z j s,G⟩;by_cases Q:k=0
 .grind
 .rcases p.c k y M O with⟨t,_⟩|⟨j,V,z,l,i|⟨r,W,s,a,i,X⟩⟩
  .exact absurd t Q
  .exact Á ⟨j,Z,z,l,À i⟩
  .refine Á ⟨j,Z,z,l,Á ⟨r,W,s,a,i,?_⟩⟩;show w.heap[h j]?=_;rwa[c.C j V]
def mG{x:fU}(h:x.sp F.n=E.M.sp F.n):iV E x E.I:=⟨h,λ_ _=>rfl⟩
theorem mZ:F.M F.C:=À U
theorem PI.agv(H:gQ F)(p:PI F b zX E S d o m f w qJ)(k:f[0]?=Ã g)(l:g.status=Å)(s:d 0=.fB)(e:E.M=.lh j):qN F b zX E d f w qJ:=by
 have i:=p.rV k l s w<|p.I.r.r _<|iN k;rw[e]at i;let⟨c,i⟩:=i;have t:E.r=j:=by unfold fS.r;rw[e];rfl
 have a:iV E (.go j) (fx E.I (j-1) c):=⟨t.symm,λn h=>fH _ _ Z⟩;refine p.Jz H (T:=.fB) a k l (λr q=>H.Fv _ _ _ _ _ i q) (by rw[e];rfl) (by rw[e];rfl) (p.C.r a (by rw[e];exact Ç _) (by rw[e];rfl) (by rw[e];rfl) (λn h=> ?_) (λn h=> ?_) (λr=>⟨λh=>(by cases h),λh=>(by cases h)⟩) (λh=>by rcases h with h|h|h<;>cases h) (λh=>by cases h) λ_ _=>p.C.S (λv q=>by rw[e]at q;cases q) λq=>by rw[e]at q;cases q) (qP<|by rw[e];simp only[fU.rk];omega) λh=>by cases h
 .rcases h with h|h|h|h<;>cases h;exact p.C.C j<|Á<|À e
 .grind
def PI.agw(H:gQ F)(p:PI F b zX E S d o m f w qJ)(k:f[0]?=Ã g)(t:g.status=Å)(u:d 0=.fB)(i:E.M=.rd j):jT F b zX E d f w qJ I 0:=by
 have n:=p.rV k t u w<|p.I.r.r _<|iN k;rw[i]at n;let⟨Q,_,V,z,s⟩:=n;have B:E.r=j:=by unfold fS.r;rw[i];rfl
 have a:iV E (.lh j) E.I:=⟨B.symm,λ_ _=>rfl⟩;let⟨C,G,J⟩:=Oa H p mZ (À U) (À U) (À ⟨U,U⟩) λx c e=>yl H.C x c e;let⟨T,x⟩:=jh s;have e:=lj (λl g ⟨c,h⟩=>À<|H.I _ _ _ _ h) s;obtain⟨D,y,c,l,K,L,M,N,O,P⟩:=p.Ak H (kM<|.lh j) k (z w) fp fp C G x e;refine p.ym H a K L M e N (λ_ _=>rfl) O (J y c l) P (Wd.r p.M a (by rw[i];rfl)<|by rw[i];rfl) (p.C.r a (by rw[i];exact Ç _) (by rw[i];rfl) (by rw[i];rfl) (λq h=> ?_) (λq h=> ?_) (λr=>⟨λh=>(by cases h),λh=>(by cases h)⟩) (λh=>by rcases h with h|h|h<;>cases h) (λh=>by cases h) λ_ _=>p.C.S (λv q=>by rw[i]at q;cases q) λq=>by rw[i]at q;cases q) (qP<|by rw[i];simp only[fU.rk];omega) λh=>by cases h
 .rcases h with h|h|h|h<;>cases h;exact p.C.C j<|Á<|Á<|À i
 .rcases h with h|h|h<;>cases h;exact p.C.K j<|Á<|À i
end
section
variable{F:Ph}{E I:fS F}{S:Nat->Jd}{m K:Nat->gy}{z:Nat->iy}{o:Nat->fe}{d B:Array Ä}{u:ä}{C:Option (Nat×Nat)}
def agx(y:Nat):E.G y<=1:=by
 unfold fS.G;split
 .cases E.N y with
  |none=>exact Ç _
  |some e=>cases e with
   |ot=>exact Ç _
   |fZ p=>cases p<;>simp[lS,ig.kG,jA.kG]
   |jl N=>simp[lS,ig.kG]
 .omega
def Xe(v:Int):ku F.C w (w.setCell (fM F.C)<|ë Ó v):=Á ⟨_,_,À U,U⟩
def Ov(H:gQ F)(p:PI F n zX E S m z o d w qJ)(h:ku F.C w W){G:GS}(a:gZ W F.C G):Wd F {E with b:=G,a:=E.a} W:= h.I H p.a p.C p.M mZ (Ga:=G) (Gg:=E.a) ⟨λ_=>a,λe=>absurd U e⟩ λb c=>⟨λe=>absurd e.symm<|H.C.M b c,λ_=>rfl⟩
def Ow(H:gQ F)(p:PI F n zX E S m z o d w qJ)(h:ku F.C w W)(c:i<d.size):fI {o i with w:=w} w W:=by have D:=h.r p.a H.C mZ;exact⟨Ô D.r.symm,λb f=>D.jL b<|p.I.r.I _ c b f,λa e=>D.M _ c a e,λa e=>D.N _ c a e,λa _=>D.I a⟩
def yn{l:fe}{b:Ð}(r:fI {l with w:=W} jX b):fI l jX b:=⟨r.r,r.I,r.N,r.Y,r.S⟩
def PI.agy(H:gQ F)(p:PI F n zX E S m z o d w qJ)(D:d[0]?=Ã g)(iI:g.status=Å)(ht:m 0=.fB)(a:E.M=.iE j):jT F n zX E m d w qJ C 0:=by
 have O:=iN D;have Q:=p.rV D iI ht w<|p.I.r.r _ O;rw[a]at Q;let⟨hd,_,hA⟩:=Q;have hj:=p.C.C j<|Á<|Á<|Á a;have hj1:=p.C.K j<|Á<|Á a;have om:E.r=j:=by unfold fS.r;rw[a];rfl
 have FH:=H.C.gd;let⟨c,G⟩:=p.C.S (λv q=>by rw[a]at q;cases q) (λq=>by rw[a]at q;cases q);let⟨FR,_⟩:=p.C.t c 0 G;have hcn:c<=F.n+1:=by rw[FR];exact FE agx
 have I:=G▸p.M.C;let⟨hv,J⟩:=I.afh Z;have K:=hA (GS.cl c 0).st;rw[hv]at K J;obtain⟨b,V⟩:∃b,(GS.cl (c+1) 0).st=b:=⟨_,U⟩;rw[V]at K J;let⟨L,h1,k⟩:=K;have CK:=h1 w I.C I.I;have t:=Xe (F:=F) (w:=w) b;have wq:=Ow H p t O;have M:b=(c+1:Int)*fX:=by rw[<-V];simp only[GS.st,fX];omega
 obtain⟨x,v,N⟩:∃x:fU,(x=.rd j\/x=.lh j)/\fj F.P Ì (JM F E.I x) {o 0 with w:=w} L:=by
  by_cases l:c=0
  .have e:b=fX:=by rw[M,l];simp[fX]
   simp only[if_pos e]at k;exact⟨.rd j,À U,k⟩
  .have r:¬b=fX:=by simp only[fX]at M|-;omega
   have s:fX<b/\b<1000000*fX/\b%fX=0:=by simp only[fX]at M|-;omega
   simp only[if_neg r,if_pos s]at k;exact⟨.lh j,Á U,k⟩
 let⟨T,hT⟩:=jh<|N.jS wq;have X:L.status=Å\/L.status=å:=by
  rcases v with rfl|rfl
  .exact lj (λl g h=>À h.2.1) N
  .exact lj (λl g ⟨c,h⟩=>À<|H.I _ _ _ _ h) N
 obtain⟨B,u,q1,q2,q3,q4,q5,q6,q7⟩:=p.Y H (kM x) D (À U) mZ CK t (Af mZ) U (λx l e=>(yl H.C x l e).elim) hT X;have l:x.ad F.n=j+1:=by rcases v with rfl|rfl<;>rfl
 have Y:E.M.ad F.n=j:=by rw[a];rfl
 have FW:x.sp F.n=j:=by rcases v with rfl|rfl<;>rfl
 have hxr:x.gD=0:=by rcases v with rfl|rfl<;>rfl
 have e:iV E x E.I:=⟨FW.trans om.symm,λ_ _=>rfl⟩;have rT:Ñ (F.n+1) (iu E x (.cl (c+1) 0) E.I).G=c+1:=by
  have h:=wi (f:=E.G) (f':=(iu E x (.cl (c+1) 0) E.I).G) (j:=j) (n:=F.n+1) Z (λi y=>by
   show(if i<x.ad F.n then lS (E.N i)else 0)=if i<E.M.ad F.n then lS (E.N i)else 0
   rw[l,Y];by_cases q:i<j
   .rw[if_pos q,if_pos Z]
   .rw[if_neg q,if_neg Z])
  have r:E.G j=0:=by unfold fS.G;rw[Y,if_neg Z]
  have s:(iu E x (.cl (c+1) 0) E.I).G j=1:=by show(if j<x.ad F.n then lS (E.N j)else 0)=1;rw[l,if_pos Z,p.C.h j Z];rfl
  rw[r,s]at h;omega
 refine p.ym H e q1 q2 q3 X q4 (λr s=>t.C p.C mZ s) q5 q6 q7 (Wd.r (Ov H p t J) e (by rw[a];rcases v with rfl|rfl<;>rfl) (by rw[a];rcases v with rfl|rfl<;>rfl)) (p.C.iu e (by rw[a];exact ò _) (λr h=> ?_) (λr h=> ?_) (λr=>⟨λh=> ?_,λh=> ?_⟩) (λi s h=> ?_) (λs h=>by cases h) (λr s h=>by cases h) (λy i h=> ?_) (λh=> ?_) (λh=> ?_) λ_ _=>⟨_,rfl⟩) (qP (by rw[a];rcases v with rfl|rfl<;>simp only[fU.rk]<;>omega)) (λh=>by rcases v with rfl|rfl<;>cases h)
 .rcases v with rfl|rfl<;>rcases h with h|h|h|h<;>cases h<;>exact hj
 .rcases v with rfl|rfl<;>rcases h with h|h|h<;>cases h<;>exact hj1
 .rcases v with rfl|rfl<;>cases h
 .rcases v with rfl|rfl<;>cases h
 .cases h;exact⟨rT.symm,hxr.symm⟩
 .have:=p.C.N y i h;rw[G]at this;exact⟨λW q=>(by have:=(this.1 W q).2;cases this),λr hr=>(by let⟨_,_,s,h⟩:=this.2 r hr;cases h)⟩
 .rcases v with rfl|rfl<;>rcases h with h|h|h<;>cases h
 .rcases v with rfl|rfl<;>cases h
theorem PI.agz(H:gQ F)(p:PI F n zX E S m z o d w qJ)(c:d[0]?=Ã g)(e:g.status=Å)(i:m 0=.fB)(b:E.M=.iJ 0):qN F n zX E m d w qJ:=by have f:=p.rV c e i;rw[b]at f;have a:iV E (.kK F.n) E.I:=mG (by rw[b];rfl);refine p.Jz H (T:=.fB) a c e (λh q=>f h<|(p.I.r.r _<|iN c).fh<|yn q) (by rw[b];simp[fU.mj]) (by rw[b];simp[fU.jd]) (p.C.r a (by rw[b];exact ò _) (by rw[b];rfl) (by rw[b];rfl) (λq h=> ?_) (λq h=> ?_) (λr=>⟨λh=>(by cases h),λh=> ?_⟩) (λh=>by rcases h with h|h|h<;>cases h) (λh=>by cases h) λ_ _=>p.C.S (λv q=>by rw[b]at q;cases q) λq=>by rw[b]at q;cases q) (qP<|by rw[b];simp only[fU.rk];omega) (λh=>by cases h);all_goals grind
theorem PI.agA(H:gQ F)(p:PI F n zX E S m z o d w qJ)(c:d[0]?=Ã g)(e:g.status=Å)(i:m 0=.fB)(b:E.M=.kK 0):qN F n zX E m d w qJ:=by have f:=p.rV c e i;rw[b]at f;have a:iV E (.fy .iW) E.I:=mG (by rw[b];rfl);refine p.Jz H (T:=.fB) a c e (λh r=>f h<|(p.I.r.r _<|iN c).fh<|yn r) (by rw[b];rfl) (by rw[b];simp[fU.jd]) (p.C.r a (by rw[b];simp[fU.jd]) (by rw[b];rfl) (by rw[b];rfl) (λr h=> ?_) (λr h=> ?_) (λr=>⟨λh=>(by cases h),λh=>(by cases h)⟩) (λh=>by rcases h with h|h|h<;>cases h) (λh=>by cases h) λh _=>absurd rfl<|h _) (qP<|by rw[b];simp only[fU.rk,jm.rk];omega) (λh=>by cases h);all_goals grind
def Aw{v:jm}:∀j,(fU.fy v=.go j\/fU.fy v=.lh j\/fU.fy v=.rd j\/fU.fy v=.iE j)->j<=F.n:=λj h=>by rcases h with h|h|h|h<;>cases h
def Ax{v:jm}:∀j,(fU.fy v=.lh j\/fU.fy v=.rd j\/fU.fy v=.iE j)->1<=j:=λj h=>by rcases h with h|h|h<;>cases h
def Ay{v:jm}:∀r,(fU.fy v=.iJ r->r<=F.q)/\(fU.fy v=.kK r->r<=F.n):=λr=>⟨λh=>(by cases h),λh=>(by cases h)⟩
def PI.agB(H:gQ F)(p:PI F n zX E S m z o d w qJ)(c:d[0]?=Ã g)(e:g.status=Å)(i:m 0=.fB)(b:E.M=.fy .iW):qN F n zX E m d w qJ:=by have f:=p.rV c e i w<|p.I.r.r _<|iN c;rw[b]at f;let⟨k,q,j,l⟩:=f;have a:iV E (.fy (.lR (.fY k))) E.I:=mG (by rw[b];rfl);exact p.Jz H (T:=.fB) a c e (λr h=>⟨j,I5 l h⟩) (by rw[b];rfl) (by rw[b];rfl) (p.C.r a (by rw[b];exact Ç _) (by rw[b];rfl) (by rw[b];rfl) Aw Ax Ay (λh=>by rcases h with h|h|h<;>cases h) (λh=>by cases h) λh _=>absurd rfl<|h _) (qP<|by rw[b];simp only[fU.rk,jm.rk];omega) λh=>by cases h
theorem PI.agC(H:gQ F)(p:PI F n zX E S m z o d w qJ){v:SP}(k:d[0]?=Ã g)(iI:g.status=Å)(ht:m 0=.fB)(b:E.M=.fy (.lR v)):jT F n zX E m d w qJ C 0:=by
 have gN:=iN k;have hJ:=p.rV k iI ht w<|p.I.r.r _ gN;rw[b]at hJ;obtain⟨hd,X⟩:=hJ;have hG:=p.M.C;obtain⟨_,X⟩:=WJ X hG;have Y:E.M.jd F.n<=F.n:=by rw[b];exact Ç _
 rcases X with⟨q,g',es,j,i,P,h4⟩|⟨g',j,i,P⟩|⟨g',c,f,Q,s6,j,i⟩
 .have r:∀e∈es,s5 F.toFx e:=by
   grind [yd,mZ]
  obtain⟨s,V,l⟩:=P;obtain⟨B,u,t,D,I,K,L,M,N⟩:=p.Y (J:=JM F E.I<|.fy (.lR q)) (T:=.fB) H (kM<|.fy (.lR q)) k (À U) mZ j (À U) r (by rcases i with rfl|rfl<;>rfl) (λx y e=>(yl H.C x y e).elim) (λh a=>⟨hd,I5 ⟨s,V,l⟩ a⟩)<|À (l _ _ V).1;have a:iV E (.fy (.lR q)) E.I:=mG (by rw[b];rfl);exact p.ym H a t D I (À (l _ _ V).1) K (λ_ _=>rfl) L M N (Wd.r p.M a (by rw[b];rfl)<|by rw[b];rfl) (p.C.r a Y (by rw[b];rfl) (by rw[b];rfl) Aw Ax Ay (λh=>by rcases h with h|h|h<;>cases h) (λh=>by cases h) λh _=>absurd rfl<|h _) (agu b ht h4) λh=>by cases h
 .obtain⟨T,hT⟩:=jh P;have O:=lj (λl g h=>À h.2.1) P;obtain⟨B,u,t,D,I,K,L,M,N⟩:=p.Y H (kM<|.fy .kR) k (À U) mZ j (À U) (yd mZ) U (λx y e=>(yl H.C x y e).elim) hT O;have a:iV E (.fy .kR) E.I:=mG (by rw[b];rfl);refine p.ym H a t D I O K (λ_ _=>rfl) L M N (Wd.r p.M a (by rw[b];rfl)<|by rw[b];rfl) (p.C.r a Y (by rw[b];rfl) (by rw[b];rfl) Aw Ax Ay (λ_=> ?_) (λh=>by cases h) λh _=>absurd rfl<|h _) (qP<|by rw[b];simp only[fU.rk,jm.rk];omega) (λh=>by cases h);cases V:E.b with
  |cl c f=>have:=i c f V;have:=(p.C.t c f V).1;omega
  |jz f=>exact(p.C.g f V).1
  |gV r s=>exact(p.C.u r s V).1
 .obtain⟨e1,V⟩:=p.C.t c f Q;rw[b]at V;have V:f=0:=V;subst V;obtain⟨hv,FI⟩:=(Q▸hG).Wr s6 Z;rw[Q,hv]at j;rw[hv]at FI;rw[Q]at i;have e:(GS.cl c 0).st%fX=0:=by simp only[GS.st,fX];omega
  simp only[e,if_true]at i;have W:=Xe (F:=F) (w:=w) (GS.cl c<|0+1).st;obtain⟨T,hT⟩:=jh<|i.jS<|Ow H p W gN;have O:=lj (λl g h=>À h.2.1) i;obtain⟨B,u,t,D,I,K,L,M,N⟩:=p.Y H (kM<|.fy .wr) k (À U) mZ j W (Af mZ) U (λx y e=>(yl H.C x y e).elim) hT O;have a:iV E (.fy .wr) E.I:=mG (by rw[b];rfl);refine p.ym H a t D I O K (λy l=>W.C p.C mZ l) L M N (Wd.r (Ov H p W FI) a (by rw[b];rfl)<|by rw[b];rfl) (p.C.iu a Y Aw Ax Ay (λl f h=> ?_) (λf h=>by cases h) (λr s h=>by cases h) (λy q h=> ?_) (λh=>by rcases h with h|h|h<;>cases h) (λh=>by cases h) λh _=>absurd rfl<|h _) (qP<|by rw[b];simp only[fU.rk,jm.rk];omega) λh=>by cases h
  .rw[(Ou (E:=E) (x:=.fy .wr) (G:=.cl c (0+1)) (dk:=E.I)<|by rw[b];rfl)];cases h;exact⟨e1,U⟩
  .have:=p.C.N y q h;grind
def PI.agD(H:gQ F)(p:PI F n zX E S m z o d w qJ)(c:d[0]?=Ã g)(j:g.status=Å)(k:m 0=.fB)(b:E.M=.fy .wr):jT F n zX E m d w qJ C 0:=by have f:=p.rV c j k w<|p.I.r.r _<|iN c;rw[b]at f;let⟨L,_,M,q,i⟩:=f;have a:iV E (.fy .kq) E.I:=mG (by rw[b];rfl);let⟨r,s,t⟩:=Oa H p mZ (À U) (Á U) (À ⟨U,U⟩) λx h e=>yl H.C x h e;let⟨T,x⟩:=jh i;have e:=lj (λl g h=>À h.2.1) i;obtain⟨B,y,l,u,v,D,G,I,J,K⟩:=p.Ak H (kM<|.fy .kq) c (q w) fp fp r s x e;exact p.ym H a v D G e I (λ_ _=>rfl) J (t y l u) K (Wd.r p.M a (by rw[b];rfl)<|by rw[b];rfl) (p.C.r a (by rw[b];exact Ç _) (by rw[b];rfl) (by rw[b];rfl) Aw Ax Ay (λh=>by rcases h with h|h|h<;>cases h) (λh=>by cases h) λh _=>absurd rfl<|h _) (qP<|by rw[b];simp only[fU.rk,jm.rk];omega) λh=>by cases h
def PI.agE(H:gQ F)(p:PI F n zX E S m z o d w qJ)(i:d[0]?=Ã g)(s:g.status=Å)(t:m 0=.fB)(f:E.M=.fy .gB):jT F n zX E m d w qJ C 0:=by have k:=p.rV i s t w<|p.I.r.r _<|iN i;rw[f]at k;let⟨P,_,v⟩:=k;let⟨a,b,y⟩:=p.C.O f;have q:=p.M.C;rw[y]at q;let⟨Q,D,j⟩:=v 0;simp only[if_true]at j;have c:iV E (.fy .kR) E.I:=mG (by rw[f];rfl);let⟨T,G⟩:=jh j;have r:=lj (λl g h=>À h.2.1) j;obtain⟨B,u,l,I,J,K,L,M,N⟩:=p.Y H (kM<|.fy .kR) i (À U) mZ (D w q.C) (À U) (yd mZ) U (λx O e=>(yl H.C x O e).elim) G r;exact p.ym H c l I J r K (λ_ _=>rfl) L M N (Wd.r p.M c (by rw[f];rfl)<|by rw[f];rfl) (p.C.r c (by rw[f];exact Ç _) (by rw[f];rfl) (by rw[f];rfl) Aw Ax Ay (λ_=>p.C.B<|À f) (λh=>by cases h) λh _=>absurd rfl<|h _) (qP<|by rw[f];simp only[fU.rk,jm.rk];omega) λh=>by cases h
theorem PI.agF(H:gQ F)(p:PI F n zX E S m z o d w qJ){g:Ä}(f:d[0]?=Ã g)(j:g.status=Å)(v:m 0=.fB)(b:E.M=.fy .kq):jT F n zX E m d w qJ C 0:=by
 have D:=iN f;have I:=p.rV f j v w<|p.I.r.r _ D;rw[b]at I;obtain⟨hd,_,J,Oc,g',h1,K⟩:=I;have L:=p.M.C;by_cases M:E.b.sm=0
 .have s:=L.M;rw[M]at s;obtain⟨Q,l⟩:=p.h;rw[b]at Q l;obtain⟨B,t,c,q,O⟩:=NB f<|Oc w s;have hw:∀x,Ā F.P g {g with status:=Ü} w x=x:=by
   intro x;unfold Ā;grind
  have r:∀k,k≠0->B[k]?=d[k]?:=by grind
  have V:gK F.P F.S E.Y S m z o B w (qJ++#[]):=by
   rw[Ú];obtain⟨g0,W,T,f3,f4⟩:=p.I.C _ g f;have X:g=g0:=by
    rw[l]at T;cases T with
    |gi=>rfl
    |nG h J=>cases j
   subst X;refine⟨?_,λk y a=> ?_,λk a=>p.I.I k<|by rwa[<-c]⟩
   .rw[show(λi=>i<B.size)=(λi=>i<d.size) by rw[c]];exact p.I.r
   .by_cases e:k=0
    .subst e;rw[q]at a;obtain rfl:=È a;refine⟨g,W,?_,À j,Á v⟩;rw[l];exact .nG j J
    .rw[r k e]at a;exact p.I.C k y a
  refine⟨E,S,m,z,o,B,w,#[],t,c,λh=>h,.r p.N (c.trans p.b) V (by rw[c];exact p.a) p.M p.C (by rw[Ú];exact p.d) (λk y a i=> ?_) (by rw[Ú];exact p.f),N4 (λ_ _=>rfl) (by unfold Ph.N;omega) (by rw[CJ f,if_pos j]) (by rw[CJ q,if_neg fp]) λk a=>Ob<|r k a⟩;by_cases e:k=0
  .grind
  .rw[r k e]at a;exact p.c k y a i
 .obtain⟨a,s,Q⟩:=WO M;have k:=Q▸L;have CK:=h1 w _ (by simp only[GS.sm];omega) k.M k.N;have i:ku F.C w (w.setCell (gU F.C)<|ë ç<|(GS.gV a<|s+1).sm-1):=Á ⟨_,_,Á U,U⟩;obtain⟨T,hT⟩:=jh<|K.jS<|Ow H p i D;have V:=lj (λl g h=>À h.2.1) K;obtain⟨B,u,t,c,q,O,q5,q6,q7⟩:=p.Y H (kM<|.fy .gB) f (À U) mZ CK i (FB mZ) (FC _).2.2.2 (λx l e=>(yl H.C x l e).elim) hT V;obtain⟨W,l,b3⟩:=p.C.u a (s+1) Q;rw[b]at l;have l:a+(s+1)=1:=l;have ha:a=0:=Z
  have hs0:s=0:=Z
  subst ha hs0;have e:iV E (.fy .gB) E.I:=mG (by rw[b];rfl);have X:=Ou (E:=E) (x:=.fy .gB) (G:=.gV 0 0) (dk:=E.I) (by rw[b];rfl);refine p.ym H e t c q V O (λj' r=>i.C p.C mZ r) q5 q6 q7 (Wd.r (Ov H p i k.kq) e (by rw[b];rfl)<|by rw[b];rfl) (p.C.iu e (by rw[b];exact Ç _) Aw Ax Ay (λc' r h=>by cases h) (λr h=>by cases h) (λr s h=> ?_) (λy r h=> ?_) (λ_=>by rwa[X]) (λ_=>⟨0,0,U⟩) λh _=>absurd U<|h _) (qP<|by rw[b];simp only[fU.rk,jm.rk];omega) λh=>by cases h
  .rw[X];cases h;exact⟨W,U,λh=>by omega⟩
  .have:=p.C.N y r h;grind
end
section
variable{S:Nat->Jd}{a:Nat->gy}{d:Nat->iy}{f:Nat->fe}{b:Array Ä}
def gK.agG(q:gK P i X S a d f b w qJ)(r:b[k]?=Ã g)(h:xT n É g):∃z,d k=.rQ n z:=by
 let⟨l,u,v,j,s,m,y,t⟩:=h;let⟨g0,_,o,p,_⟩:=q.C k g r;generalize d k=K at o;cases o with
 |gi=>rw[l]at p;rcases p with e|e<;>cases e
 |nG h e=>simp only[e]at j;cases j
 |sU e z h=>
  simp only[Ļ,Ķ,Prod.mk.injEq]at j;rw[<-j.1]at m;have:s=œ e z:=by simpa using m
  subst this;have:e=n:=by simpa[œ]using t
  subst this;exact⟨z,U⟩
 |mV e z h=>cases l
def gK.Xf(o:gK P i X S a d f b w qJ){x:Ä}(p:b[k]?=Ã x)(j:x.status=Ü)(q:d k=.rQ n z):∃g,x=Ļ g #[œ n z] (.recv Ì):=by
 let⟨g,_,l,m,_⟩:=o.C k x p;rw[q]at l;cases l with
 |gi=>rw[j]at m;rcases m with e|e<;>cases e
 |sU _ _ h=>exact⟨g,U⟩
 |mV _ _ h=>cases j
def agH{g0:Ä}:xT i É (Ļ g0 #[œ i z]<|.recv Ì):= ⟨U,_,_,U,œ i z,fp,U,by simp[œ]⟩
theorem agI{g0:Ä}{r:Nat}(h:w.heap[i]?=Ã (.chan n q Ì j r yQ)):((Ļ g0 #[œ i z]<|.recv Ì).again w).status=Å:=by unfold ď Ļ;simp[œ,h]
theorem agJ(h:(g.again w).status=Ü):g.again w=g/\g.status=Ü:=by unfold ď at h|-;grind
end
section
variable{F:Ph}{E C:fS F}{S:Nat->Jd}{a D:Nat->gy}{d:Nat->iy}{f:Nat->fe}{b m:Array Ä}{u:ä}{o:Option (Nat×Nat)}
def PI.Xg(p:PI F j zX E S a d f b w qJ){x:Ä}(n:b[k]?=Ã x)(h:xT i É x):∃g,g+2<=E.r/\E.N (g+1)=Í/\k=F.L+1+g/\E.I g=i/\∃r,E.C g=.mW r:=by
 let⟨z,l⟩:=p.I.agG n h;have s:=iN n;by_cases o:k=0
 .subst o;rw[p.h.2]at l;revert l;cases E.M with
  |fy v=>cases v<;>intro h<;>cases h
  |_=>intro h;cases h
 by_cases q:k<F.L
 .rw[(p.l k Z q).2.2]at l;cases l
 have t:=p.b;obtain⟨y,rfl⟩:∃y,k=F.L+y:=⟨k-F.L,Z⟩;cases m:E.N y with
 |some e=>rw[(p.k y e Z m).2.1]at l;cases l
 |none=>
  cases y with
  |zero=>rw[ó,(p.m Z m).2]at l;cases l
  |succ g=>
   rw[show F.L+(g+1)=F.L+1+g by omega,(p.g g Z m).2]at l;cases e:E.C g with
   |mW r=>
    rw[e]at l;injection l with l _;exact⟨g,Z,m,Z,l,r,e⟩
   |fy r v=>rw[e]at l;cases v<;>cases l
   |jD r=>rw[e]at l;cases l
   |oh r=>rw[e]at l;cases l
theorem Xh(h:sX n j i k)(c:1<=n)(a:j=i%n):i=j+k*n:=by
 have e:i=j+i/n*n:=by rw[a,Nat.mul_comm];exact(Nat.mod_add_div i n).symm
 have b:k=i/n:=by
  refine Nat.le_antisymm (ă λq=> ?_)<|ă λq=> ?_
  .have:=(h<|i/n).1 q;omega
  .have d:=mt (h k).2 Z;have f:(k+1)*n<=i/n*n:=č n q;grind
 rwa[b]
theorem Xi(h:sX n j i k)(b:1<=n)(c:j=i%n):sX n j (i+1) (k+1):=by
 have e:=Xh h b c;intro a;constructor
 .intro q;have:a*n<=k*n:=č n Z;omega
 .intro q;refine ñ λd=> ?_;have:(k+1)*n<=a*n:=č n d;grind
theorem Xj(h:sX n j i k)(b:j<n)(c:j≠i%n):sX n j (i+1) k:=by intro a;rw[h a];grind [ē,ļ]
def PI.agK(H:gQ F)(p:PI F j zX E S a d f b w qJ){r:Nat}(hi:b[0]?=Ã g)(iI:g.status=Å)(ht:a 0=.fB)(D:E.M=.iJ (r+1)):jT F j zX E a b w qJ o 0:=by
 have hn:=H.C.N;have Js:=(p.C.L<|r+1).1 D;have om:E.r=F.n+1:=by unfold fS.r;rw[D];rfl
 obtain⟨hs,hk⟩:=p.h;rw[D]at hs hk;obtain⟨Q,hQ⟩:∃Q,Q=F.q-(r+1):=⟨_,U⟩;obtain⟨c,hj⟩:∃c,c=Q%F.n:=⟨_,U⟩;have hs:S 0=zZ F.P (0==0) (E.I c) (F.c Q) (Fu F E.I r):=by rw[hs,hj,hQ];rfl
 have uV:c<F.n:=by rw[hj];exact ż _ hn
 have V:c+2<=E.r:=Z
 have hY:E.Y (E.I c):=Á<|Á ⟨c,V,U⟩;obtain⟨X,s,hc,s8,JA,yg,yh⟩:=p.M.jB c V;have po:decide (c<E.M.jd F.n)=É:=by rw[D];simp[fU.jd]
 rw[po]at hc;have FL:E.M.mj F.q=Q:=by rw[D,hQ];rfl
 rw[FL]at s8;have eQ:=Xh s8 hn hj;have hsQ:s<=s*F.n:=â _ hn;have Xk:(fU.iJ r).mj F.q=Q+1:=by simp only[fU.mj];omega
 have CN:=(p.I.r).N _ hY;have Xl:∀t,(fU.iJ r=.go t\/fU.iJ r=.lh t\/fU.iJ r=.rd t\/fU.iJ r=.iE t)->t<=F.n:=λt h=>by rcases h with h|h|h|h<;>cases h
 have Xm:∀t,(fU.iJ r=.lh t\/fU.iJ r=.rd t\/fU.iJ r=.iE t)->1<=t:=λt h=>by rcases h with h|h|h<;>cases h
 have Xn:∀K,(fU.iJ r=.iJ K->K<=F.q)/\(fU.iJ r=.kK K->K<=F.n):=λK=>⟨λh=>(by cases h;omega),λh=>(by cases h)⟩;have aM:=p.C.S (λv q=>by rw[D]at q;cases q) (λq=>by rw[D]at q;cases q);by_cases hp:∃(k:Nat) (x:Ä),b[k]?=Ã x/\xT (E.I c) É x
 .obtain⟨k,gj,Ct,ml⟩:=hp;obtain⟨t,ou,he,rfl,Az,K,AA⟩:=p.Xg Ct ml;have ej:=p.C.M _ _ ou V Az;subst ej;have hb:=ml.1;obtain⟨I9,I8⟩:=p.g t ou he;rw[AA]at I9 I8;have agL:S (F.L+1+t)=vW F.P (F.L+1+t==0) (E.I t) F.z λx=>match x with
   |some v=>λl g=>v=F.c (t+K*F.n)->qg F.P É F.B (F.I<|F.r<|t+K*F.n) (F.e (E.I t)<|t+K*F.n) .iW l g
   |none=>Ac F:=by rw[ye H.C t];exact I9
  have lb:F.L+1+t≠0:=Z
  have NK:a (F.L+1+t)=.fB:=by obtain⟨g0,_,i,e,h4⟩:=p.I.C _ gj Ct;refine h4.resolve_left λq=> ?_;subst q;rw[hb]at e;rcases e with q|q<;>cases q
  have Og:X=#[]:=by
   rcases p.c _ gj Ct hb with⟨h1,_⟩|⟨C,_,_,h2,⟨G,W,_⟩|⟨G,cap,i,e,W,h4⟩⟩
   .exact absurd h1 lb
   .have:C=t:=Z
    subst this;rw[AA]at W;cases W
   .have:C=t:=Z
    subst this;rw[hc]at h4;injection h4 with h4;injection h4
  subst Og;rw[AA]at hc JA yg;simp only[gM.iL]at hc JA yg;have hsr:s=K:=by simp at yg;omega
  subst hsr;obtain⟨m,u,T,Tj,g',gj',q1,q2,q3,q4,q5,q6,q7,q8,q9⟩:=p.I.afd hi hk ht hs hY hc lb Ct hb I8 NK agL (kW F (E.I t)<|.fy s .iW) (λI O M e i=>by obtain⟨j3,a1,_,a3,y,_⟩:=p.Xg e i;have:=p.C.M _ _ a1 V y;omega);have Xo:=q9.kF (J:=JW F (E.I t) t<|.fy s .iW) (λl g h=>by rw[fH _ _ lb,gE]at h;exact h<|by rw[eQ]);have e10:fx (fx (fx S (F.L+1+t) ((match(Ã (F.c Q):Option ã)with
   |some v=>λl g=>v=F.c (t+s*F.n)->qg F.P É F.B (F.I<|F.r<|t+s*F.n) (F.e (E.I t)<|t+s*F.n) .iW l g
   |none=>Ac F))) 0 (Fu F E.I r)) (F.L+1+t) (JW F (E.I t) t (.fy s .iW))=fx (fx S (F.L+1+t) (JW F (E.I t) t (.fy s .iW))) 0 (JM F E.I (.iJ r)):=by
   funext k;by_cases v:k=F.L+1+t
   .subst v;rw[gE,fH _ _ lb,gE]
   .by_cases k2:k=0
    .subst k2;rw[fH _ _<|ÿ lb,gE,gE];rfl
    .rw[fH _ _ v,fH _ _ k2,fH _ _ v,fH _ _ k2,fH _ _ v]
  rw[e10]at Xo;have Pw:=p.C.G (x:=.fy s .iW) V he (λk=>by rw[AA,N9 U];rfl) (λG h=>by rcases h with⟨_,h⟩|h|h<;>cases h;exact Z) (λG h=>by rcases h with h|h|h<;>cases h) (λG h=>by cases h) (λG h=>by cases h);have l:iV (gO E t<|.fy s .iW) (.iJ r) E.I:=⟨by show _=E.M.sp F.n;rw[D];rfl,λ_ _=>rfl⟩;have e:(iu (gO E t<|.fy s .iW) (.iJ r) E.b E.I).r=E.r:=l.r;obtain⟨z1,z2,z3,z4,z5⟩:=p.M.G H p.a p.C V;refine⟨iu (gO E t<|.fy s .iW) (.iJ r) E.b E.I,_,_,_,_,m,_,u,q1,q2,(λh=>by have h:=h;cases h),.r ((p.N.N H.C V he).iu H.C l) (by rw[e];exact q2.trans p.b) (by rw[Av l];exact Xo) ?_ ⟨z4,z5,λC wo=> ?_,z1,z2,λC wo G zW h1=> ?_⟩ (Pw.r l (by show E.M.jd F.n<=_;rw[D];exact ò _) (by show _=E.M.ad F.n;rw[D];rfl) (by show _=E.M.gD;rw[D];rfl) Xl Xm Xn (λh=>by rcases h with h|h|h<;>cases h) (λh=>by cases h) λ_ _=>aM) (by rw[e];exact Ju p.d q8) (λk y M kS=> ?_) λC G a1 a2 a3=> ?_,?_⟩
  .rw[q2];exact(((p.a.r<|by rw[AA];rfl).G l).CL<|Ô FK.symm)
  .have yo:C+2<=E.r:=Z
   show∃X I,(w.setChan (E.I t) _ _ _ _ _ _).heap[E.I C]?=Ã (.chan F.q X (decide<|C<(fU.iJ r).jd F.n) I ((gO E t<|.fy s .iW).C C).iL É)/\sX F.n C ((fU.iJ r).mj F.q) I/\((gO E t<|.fy s .iW).C C).iL<=I/\X.size=I-((gO E t<|.fy s .iW).C C).iL/\∀i,i<I-((gO E t<|.fy s .iW).C C).iL->X[i]?=Ã (F.c<|C+(((gO E t<|.fy s .iW).C C).iL+i)*F.n);rw[Xk];by_cases O:C=t
   .subst O;rw[jG];refine⟨#[],s+1,by rw[Jt CN];rfl,Xi s8 hn hj,Ç _,by simp[gM.iL],λi kZ=> ?_⟩;have hi2:i<s+1-(s+1):=kZ;omega
   .rw[iM _ O,py λq=>O<|p.C.M _ _ yo V q];obtain⟨Ox,I,y1,y2,y3⟩:=p.M.jB C yo;rw[FL]at y2;refine⟨Ox,I,?_,Xj y2 Z Z,y3⟩;rw[y1,D];rfl
  .have yo:C+2<=E.r:=Z
   have At:G<((gO E t<|.fy s .iW).C C).kt:=h1;by_cases O:C=t
   .subst O;rw[jG]at At;exact z3 C yo G zW<|by rw[AA];exact At
   .rw[iM _ O]at At;exact z3 C yo G zW At
  .by_cases v:k=0
   .subst v;rw[q3]at M;obtain rfl:=È M;rw[q4]at kS;cases kS
   .by_cases k2:k=F.L+1+t
    .subst k2;rw[q5]at M;obtain rfl:=È M;rw[q6]at kS;cases kS
    .rw[q7 k v k2]at M;rcases p.c k y M kS with⟨h1,_⟩|⟨C,wo,yk,h2,W|⟨r1,cap,s1,K,W,h4⟩⟩
     .exact absurd h1 v
     .exact Á ⟨C,Z,yk,h2,À (by show∃G,(gO E t _).C C=_/\_;rw[iM _ Z];exact W)⟩
     .have O:C≠t:=Z
      exact Á ⟨C,Z,yk,h2,Á ⟨r1,cap,s1,K,by show(gO E t _).C C=_;rw[iM _ O];exact W,by show(w.setChan (E.I t) _ _ _ _ _ _).heap[E.I C]?=_;rw[py λq=>O<|p.C.M _ _ wo V q];exact h4⟩⟩
  .have Aj:(gO E t<|.fy s .iW).C C=.jD G:=a2;rw[iM _ (λe=>by subst e;rw[jG]at Aj;cases Aj)]at Aj;exact(p.f C G Z Aj a3).app u
  .refine À ⟨0,by unfold Ph.N;omega,À ?_,λk td yp=> ?_⟩
   .show((iu (gO E t<|.fy s .iW) (.iJ r) E.b E.I).iQ _ 0).1<(E.iQ a 0).1;rw[Cy,Cy,D];show(fU.iJ r).rk F<(fU.iJ<|r+1).rk F;simp only[fU.rk];omega
   .show(iu (gO E t<|.fy s .iW) (.iJ r) E.b E.I).iQ _ k=E.iQ a k\/ya ((iu (gO E t<|.fy s .iW) (.iJ r) E.b E.I).iQ _ k) (E.iQ a k);by_cases k2:k=F.L+1+t
    .subst k2;refine Á<|À ?_;rw[sZ H.C (E:=iu (gO E t<|.fy s .iW) (.iJ r) E.b E.I) (show E.N (t+1)=Í from he),sZ H.C he];show((gO E t<|.fy s .iW).C t).rk F<(E.C t).rk F;rw[jG,AA];simp only[gM.rk,jm.rk];have hm:F.n+3000<=(F.n+3000)*(F.q+3-s):=â _ Z;omega
    .refine À (yb (λh=>absurd h yp) (λ_ _=>rfl) (λ_=>rfl) (λ_ _=>rfl) (λh1 _=> ?_)<|by rw[fH _ _ yp,fH _ _ k2]);show((gO E t<|.fy s .iW).C _).rk F=_;rw[iM _ Z]
 .obtain⟨m,u,T,g',q1,q2,q3,q4,q5,q6,q7⟩:=p.I.iJ hi hk ht hs hY hc Z λk x hkx ml=>hp ⟨k,x,hkx,ml⟩;have e0:d=fx d 0 (kM<|.iJ r):=by
   funext k;by_cases v:k=0
   .subst v;rw[gE,hk];rfl
   .rw[fH _ _ v]
  rw[e0]at q7;have l:iV E (.iJ r) E.I:=mG (by rw[D];rfl);have e:(iu E (.iJ r) E.b E.I).r=E.r:=l.r;obtain⟨z1,z2,z3,z4,z5⟩:=p.M.G H p.a p.C V;refine⟨iu E (.iJ r) E.b E.I,_,_,_,_,m,_,u,q1,q2,(λh=>by have h:=h;cases h),.r (p.N.iu H.C l) (by rw[e];exact q2.trans p.b) (by rw[Av l];exact q7) ?_ ⟨z4,z5,λC wo=> ?_,z1,z2,λC wo=>z3 C Z⟩ (p.C.r l (by rw[D];exact ò _) (by rw[D];rfl) (by rw[D];rfl) Xl Xm Xn (λh=>by rcases h with h|h|h<;>cases h) (λh=>by cases h) λ_ _=>aM) (by rw[e];exact Ju p.d q6) (λk y M kS=> ?_) λC G a1 a2 a3=>(p.f C G Z a2 a3).app u,qP<|by rw[D];simp only[fU.rk];omega⟩
  .rw[q2];exact((p.a.G l).CL<|Ô FK.symm)
  .have yo:C+2<=E.r:=Z
   show∃X I,(w.setChan (E.I c) _ _ _ _ _ _).heap[E.I C]?=Ã (.chan F.q X (decide<|C<(fU.iJ r).jd F.n) I (E.C C).iL É)/\sX F.n C ((fU.iJ r).mj F.q) I/\(E.C C).iL<=I/\X.size=I-(E.C C).iL/\∀i,i<I-(E.C C).iL->X[i]?=Ã (F.c<|C+((E.C C).iL+i)*F.n);rw[Xk];by_cases O:C=c
   .subst O;refine⟨X.push<|F.c Q,s+1,by rw[Jt CN];rfl,Xi s8 hn hj,Z,by rw[Array.size_push];omega,λi kZ=> ?_⟩;rw[Array.getElem?_push];by_cases G:i=X.size
    .rw[if_pos G,eQ,show(E.C C).iL+i=s by omega]
    .rw[if_neg G];exact yh i Z
   .rw[py λq=>O<|p.C.M _ _ yo V q];obtain⟨Ox,I,y1,y2,y3⟩:=p.M.jB C yo;rw[FL]at y2;refine⟨Ox,I,?_,Xj y2 Z Z,y3⟩;rw[y1,D];rfl
  .by_cases v:k=0
   .subst v;rw[q3]at M;obtain rfl:=È M;rw[q4]at kS;cases kS
   .rw[q5 k v]at M;rcases p.c k y M kS with⟨h1,_⟩|⟨C,wo,yk,h2,W|⟨r1,cap,s1,K,W,h4⟩⟩
    .exact absurd h1 v
    .exact Á ⟨C,Z,yk,h2,À W⟩
    .have O:C≠c:=λe=>by
      subst e;have G:=(p.g C wo yk).2;rw[W,<-h2]at G;obtain⟨g0,i⟩:=p.I.Xf M kS G;exact hp ⟨k,y,M,by rw[i];exact agH⟩
     exact Á ⟨C,Z,yk,h2,Á ⟨r1,cap,s1,K,W,by show(w.setChan (E.I c) _ _ _ _ _ _).heap[E.I C]?=_;rw[py λq=>O<|p.C.M _ _ wo V q];exact h4⟩⟩
end
section
variable{F:Ph}{E B:fS F}{S:Nat->Jd}{m D:Nat->gy}{o:Nat->iy}{G:Nat->fe}{c d:Array Ä}{u:ä}{sl:Option (Nat×Nat)}
theorem PI.agM(H:gQ F)(p:PI F n zX E S m o G c w qJ)(hi:c[0]?=Ã g)(ht:m 0=.fB)(l:E.M=.kK (J+1)):jT F n zX E m c w qJ sl 0:=by
 have C:=p.I.r;have hL:=H.C.r;have NL:=(p.C.L<|J+1).2 l;have om:E.r=F.n+1:=by unfold fS.r;rw[l];rfl
 obtain⟨L,Q⟩:=p.h;rw[l]at L Q;obtain⟨j,hj⟩:∃j,j=F.n-(J+1):=⟨_,U⟩;have L:S 0=I4 F.P (0==0) (E.I j) (Ad F E.I J):=by rw[L,hj];rfl
 have z:j+2<=E.r:=Z
 have X:E.Y (E.I j):=Á<|Á ⟨j,z,U⟩;obtain⟨M,s,hc,s8,JA,yg,yh⟩:=p.M.jB j z;have po:decide (j<E.M.jd F.n)=É:=by rw[l];simp only[fU.jd];exact decide_eq_false Z
 rw[po]at hc;have CN:=C.N _ X;have CG:(w.setChan (E.I j) F.q M Ì s (E.C j).iL É).heap[E.I j]?=Ã (.chan F.q M Ì s (E.C j).iL É):=Jt CN;have aM:=p.C.S (λv q=>by rw[l]at q;cases q) (λq=>by rw[l]at q;cases q);obtain⟨d,u,T,g',q1,V,q3,q4,q5,q6,q7,q8,q9⟩:=p.I.kK hi Q ht L X (p.C.o j z).2.2 hc;have e0:o=fx o 0 (kM<|.kK J):=by
  funext k;by_cases B:k=0
  .subst B;rw[gE,Q];rfl
  .rw[fH _ _ B]
 rw[e0]at q9;have v:iV E (.kK J) E.I:=mG (by rw[l];rfl);have e:(iu E (.kK J) E.b E.I).r=E.r:=v.r;obtain⟨z1,z2,z3,z4,z5⟩:=p.M.G H p.a p.C z;have CI:=p.d.C ⟨λD I a _=>q6 D I,À U,λD I a x ha hl _=> ?_,λD I a y ha _ hl=> ?_,λD I b _=>q8 D I _,λx _ _=>⟨λJ hr=>hr.appOther q6 Z,λe=>by omega⟩⟩;refine⟨iu E (.kK J) E.b E.I,_,_,_,_,d,_,u,q1,V,(λh=>by have h:=h;cases h),.r (p.N.iu H.C v) (by rw[e];exact V.trans p.b) (by rwa[Av v]) ?_ ⟨z4,z5,λf N=> ?_,z1,z2,λf N=>z3 f Z⟩ (p.C.r v (by rw[l];simp only[fU.jd];omega) (by rw[l];rfl) (by rw[l];rfl) (λi h=> ?_) (λi h=> ?_) (λr'=>⟨λh=>(by cases h),λh=> ?_⟩) (λh=>by rcases h with h|h|h<;>cases h) (λh=>by cases h) λ_ _=>aM) (by rwa[e]) (λk y sV kS=> ?_) λf i W t K=>(p.f f i Z t K).app u,qP<|by rw[l];simp only[fU.rk];omega⟩
 .rw[V];exact((p.a.C<|Ô FK.symm).G v)
 .have W:f+2<=E.r:=Z
  show∃K t,(w.setChan (E.I j) F.q M Ì s (E.C j).iL É).heap[E.I f]?=Ã (.chan F.q K (decide<|f<(fU.kK J).jd F.n) t (E.C f).iL É)/\sX F.n f ((fU.kK J).mj F.q) t/\(E.C f).iL<=t/\K.size=t-(E.C f).iL/\∀i,i<t-(E.C f).iL->K[i]?=Ã (F.c<|f+((E.C f).iL+i)*F.n);have agN:(fU.kK J).mj F.q=E.M.mj F.q:=by rw[l];rfl
  rw[agN];by_cases O:f=j
  .subst O;refine⟨M,s,?_,s8,JA,yg,yh⟩;rw[CG,show decide (f<(fU.kK J).jd F.n)=Ì from decide_eq_true (by simp only[fU.jd];omega)]
  .rw[py λq=>O<|p.C.M _ _ W z q];obtain⟨K,t,y1,y2⟩:=p.M.jB f W;refine⟨K,t,?_,y2⟩;rw[y1,l];have:decide (f<(fU.kK<|J+1).jd F.n)=decide (f<(fU.kK J).jd F.n):=by
    apply decide_eq_decide.2;simp only[fU.jd];omega
   rw[this]
 .grind
 .grind
 .cases h;omega
 .by_cases B:k=0
  .grind
  .obtain⟨h,t⟩:∃h,c[k]?=Ã h:=by
    grind
   rw[q5 k h B t]at sV;obtain rfl:=È sV;obtain⟨_,Oy⟩:=agJ kS;rcases p.c k h t Oy with⟨h1,_⟩|⟨f,N,K,W,i|⟨r1,cap,s1,r',i,h4⟩⟩
   .exact absurd h1 B
   .exact Á ⟨f,Z,K,W,À i⟩
   .have O:f≠j:=λe=>by
     subst e;have JB:=(p.g f N K).2;rw[i,<-W]at JB;obtain⟨g0,wv⟩:=p.I.Xf t Oy JB;grind [agI]
    exact Á ⟨f,Z,K,W,Á ⟨r1,cap,s1,r',i,by show(w.setChan (E.I j) _ _ _ _ _ _).heap[E.I f]?=_;rwa[py λq=>O<|p.C.M _ _ N z q]⟩⟩
 .grind
 .grind
def JC(F:Ph)(zX:π->Prop)(qJ:ä):Prop:=
 (∀p a,touchAt qJ p=Ã a->a.loc.isMemory=Ì->Λ qJ 0 p\/((zX a.loc\/∃x:Č,a.loc=ú x/\x.block=F.C)/\a.kind=.atomic))/\qJ.HandedOver
def Oz{f:Nat->Nat}:∀{n:Nat},Ñ n f=0->∀i,i<n->f i=0
 |n+1,h,i,hi=>by
  simp only[Ñ]at h;rcases ģ i n with q|q
  .exact Oz Z i q
  .have:i=n:=Z
   subst this;omega
theorem PI.agO(H:gQ F)(p:PI F n zX E S m o G c w qJ)(r:c[0]?=Ã g)(K:g.status=Å)(L:m 0=.fB)(f:E.M=.fy .kR): ∃(B:fS F) (b:Nat->Jd) (D:Nat->gy) (j:Nat->iy) (h:Nat->fe) (d:Array Ä) (W:Ð) (u:ä),Ŏ F.P (ð c w sl) 0=(ğ<|ð d W sl,u)/\d.size=c.size/\PI F n zX B b D j h d W (qJ++u)/\B.M=.fZ/\JC F zX (qJ++u):=by
 have v:=iN r;have C:=p.rV r K L w<|p.I.r.r _ v;rw[f]at C;let⟨M,_,g',s,q⟩:=C;have O:=(p.I.r.f _ v).trans M;have t:∀y:Ă,y.act=ė (ő<|fM F.C)->y.act.touch?=Í:=λy i=>by rw[i];rfl
 have om:E.r=F.n+1:=by unfold fS.r;rw[f];rfl
 have a:iV E .fZ E.I:=mG (by rw[f];rfl);have e:(iu E .fZ E.b E.I).r=E.r:=a.r;let⟨T,Q⟩:=jh q;have V:=lj (λl g h=>À<|H.M _ _ _ h) q;obtain⟨d,y,X,I,Y,J,q3,q4,q5,q7⟩:=p.Ak H (kM .fZ) r (s w) fp fp (λy i=>⟨λz l=>(by rw[t y i]at l;cases l),by rw[i];exact p.I.r.N _<|À mZ⟩) (λy _ i=>zY p.I.r.l λk j=>by rw[wm j];exact t y i) Q V;have CI:=p.d.C (xZ (λk j=>by rw[wm j];exact t y I) λk j b _ e=>by grind);have l:=p.C.B<|Á<|À f;refine⟨iu E .fZ E.b E.I,_,_,_,_,d,w,_,Y,J,.r (p.N.iu H.C a) (by rw[e];exact J.trans p.b) (by rwa[Av a]) (q7.G a) (Wd.r p.M a (by rw[f];rfl)<|by rw[f];rfl) (p.C.r a (by rw[f];exact Ç _) (by rw[f];rfl) (by rw[f];rfl) (λb h=> ?_) (λb h=> ?_) (λb=>⟨λh=>(by cases h),λh=>(by cases h)⟩) (λ_=>l) (λh=>by cases h) λ_ h=>absurd rfl h) (by rwa[e]) ?_ λb j N h k=>(p.f b j Z h k).app _,U,p.d.kK X I O λx FW=> ?_⟩
 .grind
 .grind
 .intro k z b hb;by_cases N:k=0
  .grind
  .rw[q4 k N]at b;obtain⟨z',FU,rfl⟩:=Ù.1 b;let⟨_,hzb⟩:=Fy hb;rcases p.c k z' FU hzb with⟨s,_⟩|⟨j,hj,h,q,h3⟩
   .exact absurd s N
   .exact Á ⟨j,Z,h,q,h3⟩
 .have b:=Oz l x Z;have k:E.M.ad F.n=F.n+1:=by rw[f];rfl
  unfold fS.G at b;rw[k,if_pos Z]at b;cases h:E.N x with
  |none=>rw[h]at b;cases b
  |some j=>
   rw[h]at b;refine⟨j,h,?_⟩;cases j with
   |ot=>cases b
   |fZ N=>cases N with
    |jy=>cases b
    |_=>trivial
   |jl N=>trivial
end
section
variable{D:Nat->Prop}{S:Nat->Jd}{G:Nat->gy}{I:Nat->iy}{o:Nat->fe}{f:Array Ä}{sl:Option (Nat×Nat)}
def Xp{y:Ă}(b:wQ.act=ς k)(c:y.act=į):vZ #[wQ,y]:=by
 intro d a;simp at a;rcases a with rfl|rfl
 .rw[b];exact⟨U,fp⟩
 .rw[c];exact⟨U,fp⟩
theorem iP.Fs(h:iP i (λf=>f<n) X o w qJ){v:fe}{y:Ă}(F:0<n)(P:wQ.g=0/\wQ.act=ς n)(Q:y.g=n/\y.act=į)(oQ:κ qJ 0=0)(Az:κ qJ n=0)(V:∀b,¬v.O b)(W:∀b,v.I b->(o 0).I b) (J:∀a,v.r a->X a.block/\(∀k,k<n->¬(o k).C a)/\qd qJ 0 (ú a)) (H:∀a,v.N a->(o 0).N a) (lK:∀a,v.K a->(o 0).K a) (lKO:∀k,k<n->∀a,(o k).K a->¬v.r a) (ld:v.d=0) (lw:v.w=w) (Y:∀b,X b->D b) (Xq:∀b,D b->X b\/(b<w.heap.size/\∀f,f<n->¬(o f).M b)):iP i (λf=>f<n+1) D (gu o n v) w (qJ++#[wQ,y]):=by
 have L:=Xp P.2 Q.2;have B:∀f,f<n+1->f=n\/f<n:=λf t=>by omega
 have G:gu o n v n=v:=gS _ _ _;have E:∀f,f<n->gu o n v f=o f:=λf t=>gG o _ Z;have N:∀b,v.M b->(o 0).I b:=λb s=>s.elim (λq=>absurd q (V b)) (W b);have agP:=λf t b s My=>(Xq b My).elim (h.I f t b s) (λq=>q.2 f t s);refine⟨λf j t S T b s=> ?_,λf j t S T a r=> ?_,λf t b s=> ?_,λf t a r=> ?_,λf t b s=> ?_,λf t a r=> ?_,λf t b s=> ?_,λb s=> ?_,λf t=> ?_,λf t=> ?_,λf t=> ?_,zY h.l λu z=>(L u z).1,λu z=> ?_,λp a c r hl hk=> ?_,λf t a r=> ?_⟩
 .rcases B f t with rfl|m
  .grind
  .rw[E f m]at s;rcases B j S with rfl|I
   .rw[G];intro q;by_cases e:f=0
    .subst e;exact h.m _ m b s (N b q)
    .exact h.o f 0 m F e b s (Á (N b q))
   .rw[E j I];exact h.o f j m I T b s
 .rcases B f t with rfl|m
  .grind
  .rw[E f m]at r;rcases B j S with rfl|I
   .rw[G];rintro(q|q)
    .exact(J a q).2.1 f m (À r)
    .by_cases e:f=0
     .subst e;exact h.g _ m a r (H a q)
     .exact h.h f 0 m F e a r (Á (H a q))
   .rw[E j I];exact h.h f j m I T a r
 .rcases B f t with rfl|m
  .grind
  .rw[E f m]at s|-;exact h.m f m b s
 .rcases B f t with rfl|m
  .rw[G]at r|-;exact λq=>(J a r).2.1 0 F (Á (H a q))
  .rw[E f m]at r|-;exact h.g f m a r
 .rcases B f t with rfl|m
  .rw[G]at s;exact agP 0 F b (Á (N b s))
  .grind
 .rcases B f t with rfl|m
  .rw[G]at r;exact Y _ (r.elim (λq=>(J a q).1) (λq=>h.e 0 F a (Á (H a q))))
  .rw[E f m]at r;exact Y _ (h.e f m a r)
 .rcases B f t with rfl|m
  .rw[G]at s;exact h.fv 0 F b (Á (N b s))
  .rw[E f m]at s;exact h.fv f m b s
 .exact(Xq b s).elim (h.N b) (λq=>q.1)
 .rcases B f t with rfl|m
  .rw[G,lw];exact fI.fT _ _
  .rw[E f m];exact h.r f m
 .rcases B f t with rfl|m
  .rw[G];have e:=λl=>afm P Q oQ Az (l:=l);exact⟨λa r=>absurd r (V _),λa r=>(e _).2 ((h.S 0 F).C a (W _ r)),λa r=>(e _).1 (J a r).2.2,λa r=>(e _).2 ((h.S 0 F).r a (H _ r))⟩
  .rw[E f m];have e:∀u∈#[wQ,y],∀b,u.act.touch?=Ã b->False:=λu z b s=>by rw[(L u z).1]at s;cases s
   exact⟨λa r=>((h.S f m).fq a r).C λu z b s _=>(e u z b s).elim,λa r=>((h.S f m).C a r).r λu z b s _ _=>(e u z b s).elim,λa r=>((h.S f m).I a r).C λu z b s _=>(e u z b s).elim,λa r=>((h.S f m).r a r).r λu z b s _ _=>(e u z b s).elim⟩
 .rw[I6 L];rcases B f t with rfl|m
  .grind
  .rw[E f m];exact h.f f m
 .refine(Array.mem_append.1 z).elim (h.q u) λq=> ?_;simp at q;rcases q with rfl|rfl
  .rw[P.2];trivial
  .rw[Q.2];trivial
 .rcases mI r with⟨_,e⟩|⟨_,u,e,q,_⟩
  .exact h.s p a c e hl hk
  .rw[(L u e).1]at q;cases q
 .obtain⟨e,m,q⟩:∃e,e<n/\(o e).K a:=by
   grind
  let⟨I,z2⟩:=h.n e m a q;grind
theorem gK.Fs(p:gK P i X S G I o f w qJ){c b:Ä}{J q:Jd}{T r:gy}{K Kc:iy}{m n:fe}(s:f[0]?=Ã g)(L:è P Ì g w=.spawn c b w #[]) (V:∀x y:Ă,(x.g=0/\x.act=ς f.size)->(y.g=f.size/\y.act=į)->iP i (λa=>a<f.size+1) D (gu (gu o 0 m) f.size n) w (qJ++#[x,y])) (hF:kQ P Ì J T m c) (M:c.status=Å) (N:kQ P É q r n b) (O:b.status=Å): ∃d x y,(x.g=0/\x.act=ς f.size)/\(y.g=f.size/\y.act=į)/\Ŏ P (ð f w sl) 0=(ğ<|ð d w sl,#[x,y])/\d.size=f.size+1/\d[0]?=Ã c/\d[f.size]?=Ã b/\(∀k,k≠0->k<f.size->d[k]?=f[k]?)/\ gK P i D (fx (fx S 0 J) f.size q) (fx (fx G 0 T) f.size r) (fx (fx I 0 K) f.size Kc) (gu (gu o 0 m) f.size n) d w (qJ++#[x,y]):=by
 have W:=(Õ.1 s).1;have t:=runT_crowd_spawn (sl:=sl) s L;obtain⟨x,u⟩:∃x:Ă,x={g:=0,fn:=g.frame.fn,pos:=g.frame.place,act:=ς f.size}:=⟨_,U⟩;obtain⟨y,v⟩:∃y:Ă,y={g:=f.size,fn:=b.frame.fn,pos:=g.frame.place,act:=į}:=⟨_,U⟩;have e:((Û 0 g.frame.fn g.frame.place #[]).push {g:=0,fn:=g.frame.fn,pos:=g.frame.place,act:=ς f.size}).push {g:=f.size,fn:=b.frame.fn,pos:=g.frame.place,act:=į}=#[x,y]:=by rw[u,v];simp[Û]
 rw[e]at t;have B:x.g=0/\x.act=ς f.size:=by rw[u];exact⟨U,U⟩
 have C:y.g=f.size/\y.act=į:=by rw[v];exact⟨U,U⟩
 have E:((f.setIfInBounds 0 c).push b)[0]?=Ã c:=by grind
 have F:((f.setIfInBounds 0 c).push b)[f.size]?=Ã b:=by grind
 have H:∀k,k≠0->k<f.size->((f.setIfInBounds 0 c).push b)[k]?=f[k]?:=λk Y h2=>by grind
 refine⟨_,x,y,B,C,t,fp,E,F,H,?_,λk z d=> ?_,λj Q=> ?_⟩
 .simp_all
 .have FJ:k<f.size+1:=by have:=(Õ.1 d).1;simpa using this
  by_cases l:k=f.size
  .subst l;rw[F]at d;obtain rfl:=È d;rw[gE,gE,gE,gS,show(f.size==0)=É from beq_eq_false_iff_ne.2 Z];exact⟨b,N,.gi,À O,À U⟩
  .rw[fH _ _ l,fH _ _ l,fH _ _ l,gG _ _ l];by_cases h:k=0
   .subst h;rw[E]at d;obtain rfl:=È d;rw[gE,gE,gE,gS];exact⟨c,hF,.gi,À M,À U⟩
   .rw[H k h Z]at d;rw[fH _ _ h,fH _ _ h,fH _ _ h,gG _ _ h];exact p.C k z d
 .rw[I6<|Xp B.2 C.2];exact p.I j<|by simp at Q;omega
end
section
variable{F:Ph}{E N:fS F}{S:Nat->Jd}{G Q:Nat->gy}{I:Nat->iy}{o:Nat->fe}{f B:Array Ä}{u:ä}{sl:Option (Nat×Nat)}
theorem agQ(ok:F.Ok)(h:i≠n)(c:lF F i a)(d:lF F n a):False:=by
 have q:∀{i n:Nat},i=0->n≠0->lF F i a->lF F n a->False:=by
  intro i n g j c d;unfold lF at c d;rw[if_pos g]at c;rw[if_neg j]at d;let⟨k,o,m,e⟩:=c;let⟨b,l,p,f⟩:=d;rcases e with e|e
  .rw[f]at e;have:F.Y=F.I k:=by injection e
   exact ok.C<|Á ⟨k,m,this⟩
  .rw[f]at e;exact ok.NV b k l o m<|by injection e
 by_cases g:i=0
 .grind
 .by_cases j:n=0
  .grind
  .unfold lF at c d;rw[if_neg g]at c;rw[if_neg j]at d;let⟨b,l,p,f⟩:=c;let⟨m,k,o,e⟩:=d;rw[f]at e;have:=ok.a _ _ l k (by injection e);subst this;omega
theorem agR(ok:F.Ok)(h:lF F i a):(∃k,k<=F.m/\a=je F.toFx k)\/∃p,p≠F.f/\a=jj F p:=by
 unfold lF at h;by_cases b:i=0
 .rw[if_pos b]at h;obtain⟨k,d,e,c|c⟩:=h
  .grind
  .exact Á ⟨_,ok.Y.1 k d e,c⟩
 .rw[if_neg b]at h;let⟨k,c,_,d⟩:=h;exact Á ⟨_,ok.Y.2 k c,d⟩
def uW(F:Ph)(j:Nat):fU:=if j<F.n then .iE (j+1)else .iJ F.q
def yq(E:fS F)(j:Nat):fS F:={E with M:=uW F j}
def PI.agS(H:gQ F)(p:PI F j zX E S G I o f w qJ)(hi:f[0]?=Ã g)(iI:g.status=Å)(ht:G 0=.fB)(hx:E.M=.go m): ∃(N:fS F) (c:Nat->Jd) (Q:Nat->gy) (r:Nat->iy) (s:Nat->fe) (B:Array Ä) (W:Ð) (u:ä),Ŏ F.P (ð f w sl) 0=(ğ<|ð B W sl,u)/\B.size=f.size+1/\N.M≠ .fZ/\PI F j zX N c Q r s B W (qJ++u):=by
 have gN:=iN hi;have C:=p.I.r;have L:=p.a;have hL1:=H.C.r;have hn:=H.C.N;have uV:=p.C.C m<|À hx;have om:E.r=m:=by unfold fS.r;rw[hx];rfl
 have j1:f.size=F.L+m:=by rw[p.b,om]
 have hJ:=p.rV hi iI ht w<|C.r _ gN;rw[hx]at hJ;obtain⟨hd,g',child,X,Xr,zW,CK,hX,AB,agT,agU⟩:=H.go m E.I _ g uV hJ<|C.M gN;have hd:=hd;have hX:=hX;have AB:=AB;have oQ:=(C.f _ gN).trans hd;have Az:=p.I.I _<|Ç _;have nq:=L.M 0<|À U;obtain⟨m',tf⟩:∃m',m'=uW F m:=⟨_,U⟩;have tg:(m<F.n/\m'=.iE (m+1))\/(m=F.n/\m'=.iJ F.q):=by
  rw[tf];unfold uW;by_cases q:m<F.n
  .exact À ⟨q,if_pos q⟩
  .exact Á ⟨Z,if_neg q⟩
 have asD:m'.sp F.n=m+1:=by rcases tg with⟨_,rfl⟩|⟨q,rfl⟩<;>simp only[fU.sp];omega
 have agV:m'.ad F.n=m+1:=by rcases tg with⟨_,rfl⟩|⟨q,rfl⟩<;>simp only[fU.ad];omega
 have OA:m'.mj F.q=0:=by rcases tg with⟨_,rfl⟩|⟨q,rfl⟩<;>simp[fU.mj]
 have hmh:m'.jd F.n=0:=by rcases tg with⟨_,rfl⟩|⟨q,rfl⟩<;>rfl
 have hmr:m'.gD=0:=by rcases tg with⟨_,rfl⟩|⟨q,rfl⟩<;>rfl
 have FX:(∀v,m'≠ .fy v)/\m'≠ .fZ:=by rcases tg with⟨_,rfl⟩|⟨q,rfl⟩<;>exact⟨λv h=>(by cases h),λh=>(by cases h)⟩
 have hkM:kM m'=.no:=by rcases tg with⟨_,rfl⟩|⟨q,rfl⟩<;>rfl
 obtain⟨l0,mo⟩:∃l0:fe,l0={o 0 with O:=λb=>(o 0).O b/\¬X b/\(1<=m->b≠E.I (m-1)),I:=λb=>X b\/(o 0).I b,r:=λa=>(o 0).r a/\¬lF F m a,w:=w}:=⟨_,U⟩;obtain⟨lc,ki⟩:∃lc:fe,lc={O:=λ_=>False,I:=λb=>X b\/(o 0).I b,r:=lF F m,N:=(o 0).N,K:=(o 0).K,d:=0,q:=False,w:=w}:=⟨_,U⟩;have Xs:iP F.S (λi=>i<f.size) E.Y (gu o 0 l0) w qJ:=by
  rw[mo];refine C.C gN (λ_ q=>q.1) (λb q=>À<|q.elim (λz=>À<|hX b z) Á) (λ_ q=>q.1) (λa q=>À<|Á q) U U U (λb hb q=> ?_) λa J q=>C.g _ gN a J.1 q;rcases q with q|q
  .exact hb.2.1 q
  .exact C.m _ gN b hb.1 q
 have z0:gu o 0 l0 0=l0:=gS _ _ _;have AF:=L.o m Z uV;have na:(yq E m).r=m+1:=by show(uW F m).sp F.n=_;rwa[<-tf]
 have Xt:∀b,(yq E m).Y b->E.Y b\/(1<=m/\b=E.I (m-1)):=λb hb=>by
  rcases hb with q|q|⟨l,t,D⟩
  .exact À<|À q
  .exact À<|Á<|À q
  .rw[na]at t;by_cases e:l+1=m
   .exact Á ⟨Z,by rw[D,show l=m-1 by omega];rfl⟩
   .exact À<|Á<|Á ⟨l,Z,D⟩
 have OB:∀x y:Ă,(x.g=0/\x.act=ς f.size)->(y.g=f.size/\y.act=į)->iP F.S (λi=>i<f.size+1) (yq E m).Y (gu (gu o 0 l0) f.size lc) w (qJ++#[x,y]):=λx y JD JF=>by
  refine Xs.Fs gN JD JF oQ Az (by rw[ki];exact λb q=>q) (by rw[z0,ki,mo];exact λb q=>q) (λa J=> ?_) (by rw[z0,ki,mo];exact λb q=>q) (by rw[z0,ki,mo];exact λb q=>q) (λk hk a J q=> ?_) (by rw[ki]) (by rw[ki]) (λb hb=> ?_) λb hb=> ?_
  .have r:lF F m a:=by rwa[ki]at J
   have c:=AF a r;refine⟨C.e 0 gN a<|À c,λk hk q=> ?_,(C.S 0 gN).I a c⟩;by_cases e:k=0
   .subst e;rw[z0,mo]at q;rcases q with q|q
    .exact q.2 r
    .exact C.g 0 gN a c q
   .rw[gG _ _ e]at q;exact C.h 0 k gN hk (ÿ e) a c q
  .have c:(o k).K a:=by
    by_cases e:k=0
    .subst e;rwa[z0,mo]at J
    .rwa[gG _ _ e]at J
   rw[ki]at q;exact(C.n k hk a c).2 0 gN<|AF a q
  .rcases hb with q|q|⟨l,t,D⟩
   .exact À q
   .exact Á<|À q
   .exact Á<|Á ⟨l,by rw[na];omega,D⟩
  .rcases Xt b hb with q|⟨t,rfl⟩
   .exact À q
   .obtain⟨a1,a2,a3,a4⟩:=AB t;refine Á ⟨C.fv 0 gN _<|À a1,λi kZ q=> ?_⟩;by_cases e:i=0
    .subst e;rw[z0,mo]at q;rcases q with q|q|q
     .exact q.2.2 t U
     .exact a2 q
     .exact C.m 0 gN _ a1 q
    .rw[gG _ _ e]at q;exact C.o 0 i gN kZ (ÿ e) _ a1 q
 have hWm:fj F.P Ì (JM F E.I m') l0 g':=by
  have r:=Xs.M gN;rw[z0]at r;have s:{l0 with w:=w}=l0:=by rw[mo]
  rw[s]at r;have:=agU l0 r (by rw[mo]) (λb q=>by rwa[mo]) (by rw[mo]) (by rwa[mo]) (by rw[mo]) (by rw[mo]) (by rw[mo]) (λa q=>by rw[mo]at q;exact q.1);rw[tf];unfold uW;exact this
 have OC:∀b,lc.M b->(o 0).M b:=λb hb=>by
  rw[ki]at hb;rcases hb with q|q|q
  .exact q.elim
  .exact À<|hX b q
  .exact Á q
 have Xu:∀a,lc.C a->(o 0).C a:=λa J=>by rw[ki]at J;exact J.elim (λq=>À<|AF a q) Á
 have OD:lc.w=w:=by rw[ki]
 have agW:gw lc:=⟨λb hb=>(by rw[ki]at hb;exact hb.elim),λa J q=>(by rw[ki]at J q;exact C.g 0 gN a (AF a J) q),λa J hb=>C.I 0 gN _ (OC _ hb)<|C.e 0 gN a<|Xu a J,λb hb=>(by rw[OD];exact C.fv 0 gN b<|OC b hb),λa J=>(by rw[OD];exact C.N _<|C.e 0 gN a<|Xu a J),λa J=>by
  have c:(o 0).K a:=by rwa[ki]at J
  obtain⟨k1,k2⟩:=C.n 0 gN a c;exact⟨λq=>C.I 0 gN _ (OC _ q) k1,by rw[OD];exact C.N _ k1,λq=>by rw[ki]at q;exact k2 0 gN (AF a q)⟩⟩
 have hWc:=agT lc agW (λb q=>by rwa[ki]) (by rw[ki]) (by rw[ki]) (by rw[ki];exact λq=>q) (λb=>by rw[ki];exact λq=>q) (by rw[ki]) (by rw[ki]) (λa q=>AF a<|by rwa[ki]at q);obtain⟨T,hT⟩:=jh hWm;obtain⟨Tc,hTc⟩:=jh hWc;obtain⟨B,x,y,JD,JF,q1,q2,q3,q4,q5,q6⟩:=p.I.Fs (Kc:=if m=0 then .no else kW F (E.I<|m-1) (.mW 0)) hi (CK w) OB hT Xr hTc zW;have cs:∀i,i<f.size+1->i=f.size\/i=0\/(i≠0/\i<f.size):=λi hi=>by omega
 have es:gu (gu o 0 l0) f.size lc f.size=lc:=gS _ _ _;have e0:gu (gu o 0 l0) f.size lc 0=l0:=by rwa[gG _ _ Z]
 have en:∀i,i≠0->i≠f.size->gu (gu o 0 l0) f.size lc i=o i:=λi t D=>by rw[gG _ _ D,gG _ _ t]
 have wx:=p.C.z;have Jy:=p.C.h m Z;have agX:∀y,E.nU y->y<m:=λy ⟨e,t,_⟩=>ñ λq=>by rw[p.C.h y Z]at t;cases t
 have OG:∀i,i<f.size+1->∀a,(gu (gu o 0 l0) f.size lc i).r a->∃k,k<f.size/\(o k).r a:=λi hi a J=>by
  rcases cs i hi with rfl|rfl|⟨t,D⟩
  .rw[es,ki]at J;exact⟨0,gN,AF a J⟩
  .rw[e0,mo]at J;exact⟨0,gN,J.1⟩
  .rw[en i t Z]at J;exact⟨i,D,J⟩
 refine⟨yq E m,_,_,_,_,B,w,_,q1,q2,(by show uW F m≠ .fZ;rw[<-tf];exact FX.2),.r ⟨?_,λt D=> ?_,λl t D=> ?_,λy e t D=> ?_,λi t D=> ?_⟩ (by rw[q2,na,j1];omega) q6 ?_ ?_ ?_ ?_ (λk z hk hb=> ?_) λl r2 a1 a2 a3=> ?_⟩
 .have c:(0:Nat)≠f.size:=Z
  rw[fH _ _ c,gE,fH _ _ c,gE];rw[tf];exact⟨U,U⟩
 .by_cases e:m=0
  .have c:f.size=F.L:=Z
   rw[c,gE,gE,if_pos e,if_pos e];show F.h 0=JI F E.c E.S/\_;rw[p.C.J Z];exact⟨U,U⟩
  .rw[fH _ _ Z,fH _ _ Z,fH _ _ Z,fH _ _ Z];exact p.m Z D
 .rw[na]at t;by_cases e:l+1=m
  .have c:F.L+1+l=f.size:=Z
   rw[c,gE,gE,if_neg Z,if_neg Z];show Cw F (E.I<|m-1) (m-1) 0=JW F (E.I l) l (E.C l)/\_=kW F (E.I l) (E.C l);rw[wx l Z,show m-1=l by omega];exact⟨U,U⟩
  .rw[fH _ _ Z,fH _ _ Z,fH _ _ Z,fH _ _ Z];exact p.g l Z D
 .have s:=ñ λq=>by
   have r:E.N y=Ã e:=D;rw[p.C.h y Z]at r;cases r
  rw[fH _ _ Z,fH _ _ Z,fH _ _ Z,fH _ _ Z,fH _ _ Z,fH _ _ Z];exact p.k y e Z D
 .rw[fH _ _ Z,fH _ _ Z,fH _ _ Z,fH _ _ Z,fH _ _ Z,fH _ _ Z];exact p.l i t D
 .rw[q2];obtain⟨f1,f2⟩:=L.lC Z;refine⟨λi kZ a J=> ?_,λy t D a J=> ?_,λ_=> ?_,λ_ k t D=> ?_,λ_ D=> ?_,λl t D r h3 h4=> ?_,λl t D=> ?_,λy s=> ?_,λi kZ=> ?_,λi t D=> ?_,λk hk b hb=> ?_,λk hk i kZ q=> ?_,λk t D i kZ q=> ?_,λl t r D h3 i kZ q=> ?_⟩
  .rcases cs i kZ with rfl|rfl|⟨t,D⟩
   .rw[es,ki]at J;rcases J with q|q
    .exact agR H.C q
    .exact L.gR 0 gN a<|Á q
   .rw[e0,mo]at J;rcases J with q|q
    .exact L.gR 0 gN a<|À q.1
    .exact L.gR 0 gN a<|Á q
   .rw[en i t Z]at J;exact L.gR i D a J
  .rw[na]at t;rw[e0,mo];exact⟨L.o y Z D a J,λq=>agQ H.C Z q J⟩
  .rw[e0,mo];exact⟨f1,λb hb=>Á<|f2 b hb⟩
  .have At:=t;by_cases e:m=0
   .have c:F.L=f.size:=Z
    rw[c,es,ki];exact⟨by show lF F m _;unfold lF;rw[if_pos e];exact⟨k,Z,D,À U⟩,by show lF F m _;unfold lF;rw[if_pos e];exact⟨k,Z,D,Á U⟩⟩
   .rw[en F.L Z Z];exact L.e Z k At D
  .by_cases e:m=0
   .have c:F.L=f.size:=Z
    rw[c,es,ki];show(o 0).N (je F.toFx E.S.md)/\∀b,E.V E.S.md b->X b\/(o 0).I b;rw[p.C.J Z];show(o 0).N (je F.toFx 0)/\∀b,E.V 0 b->X b\/(o 0).I b;rw[p.C.v];exact⟨f1,λb hb=>Á<|f2 b hb⟩
   .rw[en F.L Z Z];exact L.f Z D
  .rw[na]at t;by_cases e:l+1=m
   .have c:F.L+1+l=f.size:=Z
    rw[c,es,ki];show lF F m _;unfold lF;rw[if_neg Z];exact⟨_,h3,by rw[ē,ļ Z];omega,U⟩
   .rw[en _ Z Z];exact L.h l Z D r h3 h4
  .rw[na]at t;by_cases e:l+1=m
   .have c:F.L+1+l=f.size:=Z
    rw[c,es,ki];exact⟨f1,λb hb=>Á<|f2 b hb⟩
   .rw[en _ Z Z];exact L.l l Z D
  .have:=agX y s;rw[en _ Z Z];exact L.S y s
  .rcases kZ with rfl|⟨y,t,rfl,h3⟩
   .rwa[e0,mo]
   .rw[na]at t;by_cases e:y=m
    .subst e;rw[<-j1,es,ki];exact λq=>q
    .rw[en _ Z Z];exact L.M _<|Á ⟨y,Z,U,h3⟩
  .rw[en i Z Z];exact L.c i t D
  .obtain⟨b1,b2,c⟩:=L.I k hk b hb;refine⟨b1,λq=> ?_,λi kZ q=> ?_⟩
   .rcases Xt b q with q|⟨t,rfl⟩
    .exact b2 q
    .exact c 0 gN (AB t).1
   .rcases cs i kZ with rfl|rfl|⟨t,D⟩
    .rwa[es,ki]at q
    .rw[e0,mo]at q;exact c 0 gN q.1
    .rw[en i t Z]at q;exact c i D q
  .obtain⟨c,a1,a2⟩:=OG i kZ _ q;exact L.N k hk c a1 a2
  .obtain⟨c,a1,a2⟩:=OG i kZ _ q;exact L.g k t D c a1 a2
  .rw[na]at t;have ow:r<(E.C l).kt:=h3;obtain⟨c,a1,a2⟩:=OG i kZ _ q;by_cases e:l+1=m
   .rw[wx l Z]at ow;simp only[gM.kt]at ow;omega
   .exact L.d l Z r D ow c a1 a2
 .have c:=p.M;refine⟨c.C,c.I,λl t=> ?_,c.M,c.S,λl t r D h3=> ?_⟩
  .rw[na]at t;show∃buf s,w.heap[E.I l]?=Ã (.chan F.q buf (decide<|l<(uW F m).jd F.n) s (E.C l).iL É)/\sX F.n l ((uW F m).mj F.q) s/\(E.C l).iL<=s/\buf.size=s-(E.C l).iL/\∀i,i<s-(E.C l).iL->buf[i]?=Ã (F.c<|l+((E.C l).iL+i)*F.n);rw[<-tf,hmh,OA];by_cases e:l+1=m
   .rw[wx l Z];obtain⟨a1,a2,a3,a4⟩:=AB Z;rw[show m-1=l by omega]at a3;refine⟨#[],0,by rw[a3];rfl,λi=>⟨λq=>by omega,λq=>by omega⟩,Ç _,U,λi kZ=> ?_⟩;simp only[gM.iL]at kZ;omega
   .have:=c.jB l Z;rwa[hx]at this
  .rw[na]at t;have ow:r<(E.C l).kt:=h3;by_cases e:l+1=m
   .rw[wx l Z]at ow;simp only[gM.kt]at ow;omega
   .exact c.N l Z r D ow
 .have h:=p.C;have eo:(yq E m).G=E.G:=by
   funext y;have t:(yq E m).M.ad F.n=E.M.ad F.n:=by show(uW F m).ad F.n=_;rw[<-tf,agV,hx];rfl
   unfold fS.G;rw[t];rfl
  have OH:(yq E m).M.gD=E.M.gD:=by show(uW F m).gD=_;rw[<-tf,hmr,hx];rfl
  have emp:(yq E m).M=m':=tf.symm;refine⟨h.v,λl q=> ?_,λl q=> ?_,λr=>⟨λq=> ?_,λq=> ?_⟩,λq=>by omega,h.I,λl q=>h.z l Z,λl r tj pz=> ?_,λl tj pz=> ?_,h.f,λy q=>h.h y Z,λl j3 tj pz q3'=> ?_,λl q=> ?_,λc reg hc=> ?_,λreg hc=> ?_,λr s hc=> ?_,h.N,λq=> ?_,h.e,h.Y,λl r tj pz=> ?_,λl r tj pz=> ?_,λq=> ?_,λ_ _=>h.S (λv q=>by rw[hx]at q;cases q) (λq=>by rw[hx]at q;cases q),h.y,λl r tj pz=> ?_⟩
  .rw[emp]at q;rcases tg with⟨_,rfl⟩|⟨_,rfl⟩<;>rcases q with q|q|q|q<;>cases q;omega
  .rw[emp]at q;rcases tg with⟨_,rfl⟩|⟨_,rfl⟩<;>rcases q with q|q|q<;>cases q;omega
  .rw[emp]at q;rcases tg with⟨_,rfl⟩|⟨_,rfl⟩<;>cases q;exact Ç _
  .rw[emp]at q;rcases tg with⟨_,rfl⟩|⟨_,rfl⟩<;>cases q
  .rw[na]at tj;by_cases e:l+1=m
   .have ox:(∃p,E.C l=.fy r p)\/E.C l=.jD r\/E.C l=.oh r:=pz;rw[wx l Z]at ox;rcases ox with⟨_,q⟩|q|q<;>cases q
   .exact h.d l r Z pz
  .rw[na]at tj;have ox:E.N (l+1)≠Í:=pz;have:l+1<m:=ñ λq=>ox<|h.h _ Z;obtain⟨a,_⟩:=h.l l Z ox;rw[hx]at a;simp only[fU.jd]at a;omega
  .rw[na]at tj pz;have OJ:E.I l=E.I j3:=q3';have key:∀a b,a+1=m->b+2<=E.r->E.I a=E.I b->False:=λa b J hb he=>by
    have t:=(AB Z).1;rw[show m-1=a by omega,he]at t;exact C.I 0 gN _ (À t)<|Á<|Á ⟨b,hb,U⟩
   by_cases e:l+1=m
   .by_cases e':j3+1=m
    .omega
    .exact(key l j3 e Z OJ).elim
   .by_cases e':j3+1=m
    .exact(key j3 l e' Z OJ.symm).elim
    .exact h.M l j3 Z Z OJ
  .rw[na]at q;show¬F.M (E.I l)/\E.I l≠F.Y/\F.S<=E.I l;by_cases e:l+1=m
   .obtain⟨a1,_,_,a4⟩:=AB Z;rw[show m-1=l by omega]at a1 a4;have Xv:=C.I 0 gN _<|À a1;exact⟨λq=>Xv<|À q,λq=>Xv<|Á<|À q,a4⟩
   .exact h.o l Z
  .rw[eo,OH];exact h.t c reg hc
  .rw[eo,OH];obtain⟨a1,a2,y,a3,a4⟩:=h.g reg hc;exact⟨a1,a2,y,Z,a4⟩
  .rw[eo,OH];obtain⟨a1,a2,a3⟩:=h.u r s hc;refine⟨a1,a2,λhr=> ?_⟩;obtain⟨y,b1,b2⟩:=a3 hr;exact⟨y,Z,b2⟩
  .rw[emp]at q;rcases q with q|q|q
   .exact absurd q<|FX.1 _
   .exact absurd q<|FX.1 _
   .exact absurd q FX.2
  .rw[na]at tj;by_cases e:l+1=m
   .have ox:E.C l=.fy r .gB\/E.C l=.fy r .kR\/E.C l=.jD r:=pz;rw[wx l Z]at ox;rcases ox with q|q|q<;>cases q
   .exact h.w l r Z pz
  .rw[na]at tj;by_cases e:l+1=m
   .have ox:E.C l=.fy r .gB:=pz;rw[wx l Z]at ox;cases ox
   .exact h.H l r Z pz
  .rw[emp]at q;exact absurd q<|FX.1 _
  .rw[na]at tj;by_cases e:l+1=m
   .have ox:E.C l=.fy r .wr:=pz;rw[wx l Z]at ox;cases ox
   .exact h.D l r Z pz
 .rw[na];have c:=p.d;rw[om]at c;rw[j1]at JD JF Az;exact c.Fs JD JF oQ Az (λ⟨e,t,_⟩=>by rw[Jy]at t;cases t) λy ⟨e,t,_⟩=>ñ λq=>by rw[p.C.h y Z]at t;cases t
 .have r:=iN hk;rcases cs k Z with rfl|rfl|⟨k1,k2⟩
  .rw[q4]at hk;obtain rfl:=È hk;rw[zW]at hb;cases hb
  .rw[q3]at hk;obtain rfl:=È hk;rw[Xr]at hb;cases hb
  .rw[q5 k k1 k2]at hk;rcases p.c k z hk hb with⟨t,_⟩|⟨l,s,c,D,h3⟩
   .exact absurd t k1
   .exact Á ⟨l,Z,c,D,h3⟩
 .rw[na]at a1;by_cases e:l+1=m
  .have ox:E.C l=.jD r2:=a2;rw[wx l Z]at ox;cases ox
  .exact(p.f l r2 Z a2 a3).app _
end
section
variable{F:Ph}{E E':fS F}{S:Nat->Jd}{tr o:Nat->gy}{m:Nat->iy}{lot:Nat->fe}{gs gs':Array Ä}{w':Ð}{t u:ä}{sl:Option (Nat×Nat)}{sz:Nat}
def PI.at(H:gQ F)(p:PI F i zX E S tr m lot gs w t)(d:Nat):PI F i zX E S tr m lot gs (w.at d) t:= ⟨p.b,p.I.at d,p.h,p.m,p.g,p.k,p.l,p.a.CL<|Ç _,⟨⟨p.M.C.C,p.M.C.M,p.M.C.I,p.M.C.N,p.M.C.r⟩,λk a=>⟨(p.M.I k a).C,(p.M.I k a).M,(p.M.I k a).I,(p.M.I k a).N,(p.M.I k a).r⟩,p.M.jB,λk a=>⟨(p.M.M k a).1,H.S _ _ _ _ _ (p.M.M k a).2 (λ_ _=>rfl) U U U ⟨U,U⟩⟩,p.M.S,p.M.N⟩,p.C,p.d,p.c,p.f⟩
def Go1(F:Ph)(i:Nat)(zX:π->Prop)(gs:Array Ä)(w:Ð)(t:ä)(sl:Option (Nat×Nat))(a:Nat):Prop:=
 ∃(E':fS F) (b:Nat->Jd) (o:Nat->gy) (c:Nat->iy) (d:Nat->fe) (gs':Array Ä) (w':Ð) (u:ä),Ŏ F.P (ð gs w sl) a=(ğ<|ð gs' w' sl,u)/\gs'.size=gs.size+1/\E'.M≠ .fZ/\PI F i zX E' b o c d gs' w' (t++u)
def agY(F:Ph)(i:Nat)(zX:π->Prop)(gs:Array Ä)(w:Ð)(t:ä)(sl:Option (Nat×Nat))(a:Nat):Prop:=
 ∃(E':fS F) (b:Nat->Jd) (o:Nat->gy) (c:Nat->iy) (d:Nat->fe) (gs':Array Ä) (w':Ð) (u:ä),Ŏ F.P (ð gs w sl) a=(ğ<|ð gs' w' sl,u)/\gs'.size=gs.size/\PI F i zX E' b o c d gs' w' (t++u)/\E'.M=.fZ/\JC F zX (t++u)
def PI.agZ(H:gQ F)(p:PI F i zX E S tr m lot gs w t)(l:E.M≠ .fZ)(a:gs[n]?=Ã g)(c:g.status=Å):jT F i zX E tr gs w t sl n\/qN F i zX E tr gs w t\/Go1 F i zX gs w t sl n\/agY F i zX gs w t sl n:=by
 have z:=iN a;have B:=p.b;cases b:tr n with
 |jF k=>
  obtain⟨gs',w',u,o,e,d,f,j,q⟩:=p.fq H a b;exact À ⟨E,S,o,m,e,gs',w',u,d,f,λh=>h,j,q⟩
 |fB=>
  by_cases s:n=0
  .subst s;cases h:E.M with
   |go j=>exact Á<|Á<|À<|p.agS H a c b h
   |lh j=>exact Á<|À<|p.agv H a c b h
   |rd j=>exact À<|p.agw H a c b h
   |iE j=>exact À<|p.agy H a c b h
   |iJ r=>cases r with
    |zero=>exact Á<|À<|p.agz H a c b h
    |succ r=>exact À<|p.agK H a c b h
   |kK r=>cases r with
    |zero=>exact Á<|À<|p.agA H a c b h
    |succ r=>exact À<|p.agM H a b h
   |fy v=>cases v with
    |iW=>exact Á<|À<|p.agB H a c b h
    |lR q=>exact À<|p.agC H a c b h
    |wr=>exact À<|p.agD H a c b h
    |kq=>exact À<|p.agF H a c b h
    |gB=>exact À<|p.agE H a c b h
    |kR=>exact Á<|Á<|Á<|p.agO H a c b h
   |fZ=>exact absurd h l
  by_cases y:n<F.L
  .exact À<|p.agt H Z y a c
  obtain⟨x,rfl⟩:∃x,n=F.L+x:=⟨n-F.L,Z⟩;have f:x<E.r:=Z
  cases d:E.N x with
  |some e=>cases e with
   |ot=>exact Á<|À<|p.af4 H f d a c b
   |fZ v=>cases v with
    |jy=>exact À<|p.af7 H f d a c b
    |iE=>exact À<|p.agb H f d a c b
    |gB W=>exact À<|p.agc H f d a c b
    |jb W=>exact À<|p.agd H f d a c b
    |iz r=>exact À<|p.agf H f d a c b
   |jl N=>exact À<|p.ags H f d a c
  |none=>cases x with
   |zero=>
    rw[ó]at a b|-;cases h:E.S with
    |kF k=>exact Á<|À<|p.agi H f d a c b h
    |mk k=>exact Á<|À<|p.agl H f d a c b h
    |dn k v=>cases v with
     |jy=>exact À<|p.agm H f d a c b h
     |iE=>exact À<|p.agn H f d a c b h
     |gB W=>exact À<|p.agp H f d a c b h
     |jb W=>exact À<|p.agq H f d a c b h
     |iz r=>exact À<|p.agr H f d a c b h
   |succ j=>
    rw[show F.L+(j+1)=F.L+1+j by omega]at a b|-;have e:j+2<=E.r:=Z
    cases h:E.C j with
    |mW r=>exact À<|p.af2 H e d a c b h
    |fy r v=>cases v with
     |iW=>exact Á<|À<|p.afK H e d a c b h
     |lR q=>exact À<|p.afL H e d a c b h
     |wr=>exact À<|p.afN H e d a c b h
     |kq=>exact À<|p.afQ H e d a c b h
     |gB=>exact À<|p.afO H e d a c b h
     |kR=>exact À<|p.afP H e d a c b h
    |jD r=>exact Á<|À<|p.afS H e d a c b h
    |oh r=>exact Á<|À<|p.afT H e d a c b h
def ag0{J:Jd}{T:gy}{l:fe}(a:∀l g,J l g->g.status=Å)(h:kQ P yQ J T l g):g.status=Å:=by
 cases T with
 |fB=>exact a _ _<|h _<|fI.fT _ _
 |jF k=>exact h.1
def gK.Y{Y:Nat->Prop}(c:gK P n Y S tr m lot gs w t)(d:gs[i]?=Ã g)(e:∀l g,S i l g->g.status=Å)(a:g.status≠Ü):g.status=Å:=by
 let⟨g0,f,b,_,_⟩:=c.C i g d;generalize m i=K at b;cases b with
 |gi=>exact ag0 e f
 |nG _ _=>exact absurd U a
 |sU _ _ _=>exact absurd U a
 |mV _ _ _=>rfl
def Xw{J:Jd}{p:jA}(a:∀r,p=.iz r->0<r){l:fe}(h:Cu P yQ b J p l g):g.status=Å:=by
 cases p with
 |jy=>exact h.2.1
 |iE=>exact h.2.1
 |gB W=>exact h.2.1
 |jb W=>exact h.2.1
 |iz r=>cases r with
  |zero=>exact absurd (a 0 U) Z
  |succ r=>exact h.2.1
def OL{J:Jd}{p:jm}{l:fe}(h:qg P yQ i b J p l g):g.status=Å:=by
 cases p with
 |iW=>let⟨k,_,_,T,a,c⟩:=h;exact(c _ _ a).1
 |lR p=>let⟨_,T,a,c⟩:=h;exact(c _ _ a).1
 |wr=>exact h.2.1
 |kq=>exact h.2.1
 |gB=>exact h.2.1
 |kR=>exact h.2.1
def Xx{l:fe}(h:Ad F D i l g):g.status=Å:=by
 cases i with
 |zero=>exact OL h
 |succ i=>exact h.1
def ag1(H:gQ F){x:fU}{l:fe}(h:JM F D x l g):g.status=Å:=by
 cases x with
 |go j=>exact H.I _ _ _ _ h
 |lh j=>let⟨c,h⟩:=h;exact H.I _ _ _ _ h
 |rd j=>exact h.2.1
 |iE j=>exact h.2.1
 |iJ r=>cases r with
  |zero=>exact Xx h
  |succ r=>exact h.1
 |kK r=>exact Xx h
 |fy v=>exact OL h
 |fZ=>exact H.M _ _ _ h
def PI.EO(p:PI F i zX E S tr m lot gs w t){x:Nat}(a:x<E.r):∃g,gs[F.L+x]?=Ã g:=by have:=p.b;simp_all
def PI.FY(H:gQ F)(p:PI F i zX E S tr m lot gs w t)(d:0<E.r)(e:E.N 0=Í):∃(a:Nat) (g:Ä),gs[a]?=Ã g/\g.status=Å:=by
 have n:=H.C.r;let⟨g,c⟩:=p.EO d;rw[ó]at c;refine⟨F.L,g,c,p.I.Y c (λl g h=> ?_) λl=> ?_⟩
 .rw[(p.m d e).1]at h;cases j:E.S with
  |kF k=>rw[j]at h;exact H.N _ _ _ h
  |mk k=>rw[j]at h;let⟨a,V,_,_,_,_,h⟩:=h;exact h.2.1
  |dn k v=>
   rw[j]at h;refine Xw (λr V=> ?_) h;subst V;let⟨_,_,r⟩:=p.C.I k;let⟨a,b⟩:=r _ j;rcases p.C.Y k b (by rw[j];exact Ç _)with⟨W,q|q,_⟩|⟨o,s,q,f,_⟩|⟨q,_⟩
   .rw[j]at q;cases q
   .rw[j]at q;cases q
   .rw[j]at q;cases q;exact f
   .exact absurd j<|q _
 .rcases p.c _ g c l with⟨q,_⟩|⟨j,_,_,q,_⟩<;>omega
theorem PI.JG(H:gQ F)(p:PI F i zX E S tr m lot gs w t){x:Nat}{e:ig}(b:x<E.r)(c:E.N x=Ã e)(d:∀N,e≠ .jl N):∃(h:Nat) (g:Ä),gs[h]?=Ã g/\g.status=Å:=by
 have f:=H.C.r;let⟨g,a⟩:=p.EO b;refine⟨F.L+x,g,a,p.I.Y a (λl g h=> ?_) λl=> ?_⟩
 .rw[(p.k x e b c).1]at h;cases e with
  |ot=>exact h.2.1
  |fZ v=>exact Xw (λr j=>by subst j;exact((p.C.N x _ c).2 r U).1) h
  |jl N=>exact absurd U<|d N
 .rcases p.c _ g a l with⟨q,_⟩|⟨j,_,h,q,_⟩;all_goals grind
def Xy{f:Nat->Nat}:∀{n:Nat},0<Ñ n f->∃i,i<n/\0<f i
 |0,h=>absurd h<|Nat.lt_irrefl _
 |n+1,h=>by
  simp only[Ñ]at h;by_cases q:0<f n
  .exact⟨n,Z,q⟩
  .let⟨i,b,a⟩:=Xy (f:=f) (n:=n) Z;exact⟨i,Z,a⟩
theorem PI.ag2(H:gQ F)(p:PI F i zX E S tr m lot gs w t):∃(l:Nat) (g:Ä),gs[l]?=Ã g/\g.status=Å:=by
 have hL:=H.C.r;have j1:=p.b;obtain⟨g,D⟩:∃g,gs[0]?=Ã g:=⟨_,é Z⟩;by_cases P:g.status=Ü
 .rcases p.c 0 g D P with⟨_,u,Q⟩|⟨j,_,_,q,_⟩
  .have om:E.r=F.n+1:=by unfold fS.r;rw[u];rfl
   have had:E.M.ad F.n=F.n+1:=by rw[u];rfl
   have OM:E.M.gD=1:=by rw[u];rfl
   have T:=p.M.C.r;cases o:E.b with
   |cl c G=>
    let⟨h1,h2⟩:=p.C.t c G o;rw[o]at T;let⟨_,_,V⟩:=T;have X:0<c:=by grind
    rw[h1]at X;let⟨x,d,y⟩:=Xy X;unfold fS.G at y;rw[had,if_pos d]at y;cases z:E.N x with
    |some e=>
     rw[z]at y;exact p.JG H Z z λN q=>by subst q;simp[lS,ig.kG]at y
    |none=>cases x with
     |zero=>exact p.FY H Z z
     |succ j=>
      let⟨I,B⟩:=p.EO (x:=j+1) Z;rw[show F.L+(j+1)=F.L+1+j by omega]at B;have J:j+2<=E.r:=Z
      by_cases Y:I.status=Ü
      .rcases p.c _ I B Y with⟨q,_⟩|⟨a,_,_,q,⟨r,b,C⟩|⟨r,cap,s,r',b,C⟩⟩
       .omega
       .have:a=j:=Z
        subst this;have W5:=H.C.I _<|p.C.d a r J<|À ⟨_,b⟩;have WK:1<=Ñ F.n λl=>(E.C l).gD F l (F.r<|a+r*F.n):=by
         have:=NZ (f:=λl=>(E.C l).gD F l<|F.r<|a+r*F.n) (j:=a) (n:=F.n) Z;simp only[b]at this;have h:gM.gD F a (F.r<|a+r*F.n) (.fy r .kq)=1:=by simp only[gM.gD,if_true];rfl
         grind
        by_cases K:F.r (a+r*F.n)<=E.S.od
        .have M:∀k v,E.S=.dn k v->E.N 0=Í:=λk v h=>by
          cases O:E.N 0 with
          |none=>rfl
          |some e=>have:=p.C.f (by rw[O];simp);rw[this]at h;cases h
         rcases p.C.Y _ W5 K with⟨W,q|q,_⟩|⟨r',s,q,_⟩|⟨_,⟨_,q⟩|⟨s,q1,q2⟩⟩
         .exact p.FY H Z<|M _ _ q
         .exact p.FY H Z<|M _ _ q
         .exact p.FY H Z<|M _ _ q
         .omega
         .rw[q1]at C;simp only[GS.sm]at C;omega
        .apply p.FY H Z;cases O:E.N 0 with
         |none=>rfl
         |some e=>
          have:=p.C.f (by rw[O];simp);rw[this]at K;simp only[jr.od]at K;omega
       .have:a=j:=Z
        subst this;let⟨e,k,l,_⟩:=p.M.jB a J;rw[C,u]at l;injection l with l;injection l with _ _ CG _ _ _;have:decide (a<(fU.fy .kq).jd F.n)=Ì:=decide_eq_true (by simp only[fU.jd];omega);rw[this]at CG;cases CG
      .refine⟨_,I,B,p.I.Y B (λl g h=> ?_) Y⟩;rw[(p.g j J z).1]at h;cases a:E.C j with
       |mW r=>rw[a]at h;exact h.1
       |fy r v=>rw[a]at h;exact OL h
       |jD r=>rw[a]at h;exact H.Y _ _ _ _ h
       |oh r=>rw[a]at h;exact h.2.1
   |jz G=>
    let⟨_,_,x,d,_,b⟩:=p.C.g G o;rcases b with b|b
    .exact p.JG H d b λN q=>by cases q
    .exact p.JG H d b λN q=>by cases q
   |gV r s=>
    let⟨_,h2,V⟩:=p.C.u r s o;rw[o]at Q;simp only[GS.sm]at Q;let⟨x,d,_,b⟩:=V Z;exact p.JG H d b λN q=>by cases q
  .omega
 .refine⟨0,g,D,p.I.Y D (λl g h=> ?_) P⟩;rw[p.h.1]at h;exact ag1 H h
def PI.JH(p:PI F i zX E S tr m lot gs w t):∀g∈gs,awake g:=by
 intro g e;obtain⟨a,f,rfl⟩:=Array.mem_iff_getElem.1 e;let⟨g0,_,c,d,_⟩:=p.I.C a _<|é f;intro τ b;generalize gs[a]=g at c b;generalize m a=K at c;cases c with
 |gi=>rw[b]at d;rcases d with q|q<;>cases q
 |nG _ _=>cases b
 |sU _ _ _=>cases b
 |mV _ _ _=>cases b
def ag3(H:gQ F):∀(k:Nat) (μ:Mu) (E:fS F) (S:Nat->Jd) (tr:Nat->gy) (m:Nat->iy) (lot:Nat->fe) (gs:Array Ä) (w:Ð) (sl:Option (Nat×Nat)) (t:ä),F.n+1-E.r=k->E.mu tr gs=μ->PI F i zX E S tr m lot gs w t->E.M≠ .fZ-> ∃(N:Nat) (E':fS F) (b:Nat->Jd) (o:Nat->gy) (c:Nat->iy) (d:Nat->fe) (gs':Array Ä) (w':Ð) (r:Option (Nat×Nat)) (a:ä),Χ F.P N (ð gs w sl) t=(ğ<|ð gs' w' r,a)/\PI F i zX E' b o c d gs' w' a/\E'.M=.fZ/\JC F zX a:=by
 intro k
 induction k using Ď with
 |_ k ihk=>
  intro μ
  induction (afv F.N).apply μ with
  |intro μ _ V=>
   intro E S tr m lot gs w sl t hk W p z;let⟨a,g,d,r,hi,iI,B⟩:=crowd_pick (P:=F.P) (w:=w) (sl:=sl) p.JH<|p.ag2 H;have p':=p.at H d;have j1:=p.b;rcases p'.agZ H (sl:=r) z hi iI with⟨c,e,f,h,j,s,v,u,x,X,l,b,y⟩|⟨c,e,f,h,j,l,b,y⟩|⟨c,e,f,h,j,s,v,u,x,X,l,b⟩|⟨c,e,f,h,j,s,v,u,x,X,l,b,y⟩
   .have Y:=b.b;let⟨N,C,D,G,I,J,K,L,M,O,Q,T⟩:=V _ (W▸y) c e f h j s v r (t++u) Z U b λq=>z<|l q;exact⟨N+1,C,D,G,I,J,K,L,M,O,by simp only[Χ,B,x];exact Q,T⟩
   .have Y:=b.b;have h6:=b.at H w.drawn;exact V _ (W▸y) c e f h j gs w sl t Z U h6 λq=>z<|l q
   .have Y:=b.b;have q:=Cz b.C;let⟨N,C,D,G,I,J,K,L,M,O,Q,T⟩:=ihk (F.n+1-c.r) Z _ c e f h j s v r (t++u) U U b l;exact⟨N+1,C,D,G,I,J,K,L,M,O,by simp only[Χ,B,x];exact Q,T⟩
   .exact⟨1,c,e,f,h,j,s,v,r,t++u,by simp only[Χ,B,x],l,b,y⟩
end
end Go.Proofs.Y.fA
namespace Go.Proofs.Y.fA
open Go Go.Conc Go.Proofs.Y.Lift Go.RowKit Go.Conc.Lib Go.ConcR.Gen
section
variable{J:Jd}{l:fe}
def ON(w:Ð)(b:∀j,l.O j->j<w.heap.size):mh l {l with w:=w} w w #[]:= ⟨Ç _,λ_ h=>À h,b,U,U,U,U,λ_ _ _ _=>rfl,λ_ _ _ _=>rfl,λ_ _ _=>rfl,U,U,U,λe a=>by simp at a,by simp[Ï],U,λ_=>⟨U,λe a=>by simp at a,U⟩,U⟩
def mq(a:∀j,l.O j->j<l.w.heap.size){w₁:Ð}(r:fI l l.w w₁):∀j,l.O j->j<w₁.heap.size:=λj b=>Ê (a j b) r.r
def OO{R:Ð->Ð->Prop}{m:Ä->Ð->Prop}:∀{n:Nat} {g:Ä} {l:fe},İ P yQ R à m n g l.w->(∀w c,fI l w c->R w c)->(∀j,l.O j->j<l.w.heap.size)->(∀c d,fI l l.w c->m d c->fj P yQ J {l with w:=c} d)->fj P yQ J l g:=by
 intro n
 induction n with
 |zero=>
  intro g l h j i e;exact(fj.fB λc r=>e c g r<|h c<|j _ _ r).fh
 |succ n p=>
  intro g l h j i e;rcases h with h|⟨s,h⟩
  .exact(fj.fB λc r=>e c g r<|h c<|j _ _ r).fh
  .refine .mk s λc r=> ?_;have f:=h c<|j _ _ r;cases o:è P yQ g c with
   |go d k y=>
    rw[o,ť]at f;let⟨⟨t,u⟩,v⟩:=f;subst t u;exact⟨d,k,#[],{l with w:=k},U,ON k<|mq i r,p v (λa b q=>j a b<|yn q) (mq i r) λa b q x=>e a b (r.fh<|yn q) x⟩
   |_=>rw[o]at f;exact f.elim
def ag4{m:Ο}(b:m=ô\/m=î)(w:Ð)(c:∀j,l.O j->j<w.heap.size):mh l {l with d:=Ï l.d #[jM m],w:=w} w w #[jM m]:=by
 refine⟨Ç _,λ_ h=>À h,c,U,U,U,U,λ_ _ _ _=>rfl,λ_ _ _ _=>rfl,λ_ _ _=>rfl,U,U,U,λe a=> ?_,U,U,λ_=>⟨U,λe a=> ?_,U⟩,U⟩
 .have:e=jM m:=by simpa using a
  subst this;rcases b with rfl|rfl
  .exact Á<|Á<|Á<|À U
  .exact Á<|Á<|Á<|Á<|À U
 .have:e=jM m:=by simpa using a
  subst this;rcases b with rfl|rfl<;>rfl
def fj.ag5{m:Ο}{b:Ä}(c:m=ô\/m=î)(e:g.status=Å)(f:∀j,l.O j->j<l.w.heap.size)(h:∀a,è P yQ g a=ş b a #[jM m])(i:∀a,fI l l.w a->fj P yQ J {l with d:=Ï l.d #[jM m],w:=a} b):fj P yQ J l g:= .mk e λa r=>⟨b,a,_,_,h a,ag4 c a<|mq f r,i a r⟩
def ng(b:Nat)(w:Ð):Prop:=(w.cell? ⟨b,0,Í⟩).isSome=Ì/\(w.cell? ⟨b,1,Í⟩).isSome=Ì
def ng.r(h:ng b w):∃v,w.cell? ⟨b,0,Í⟩=Ã v:=ü.1 h.1
def ng.C(h:ng b w):∃v,w.cell? ⟨b,1,Í⟩=Ã v:=ü.1 h.2
def RS(Ψ:Ð->Prop)(b:Nat)(w a:Ð):Prop:=w.heap.size<=a.heap.size/\(ng b w->ng b a)/\(Ψ w->Ψ a)
def SW(Ψ:Ð->Prop)(l:fe)(b:Nat)(w:Ð):Prop:=(∀j,l.O j->j<w.heap.size)/\ng b w/\Ψ w
def fJ{Ψ:Ð->Prop}(h:SW Ψ l b w)(r:RS Ψ b w u):SW Ψ l b u:=⟨λj a=>Ê (h.1 j a) r.1,r.2.1 h.2.1,r.2.2 h.2.2⟩
def lT(Ψ:Ð->Prop)(l:fe)(b:Nat):Prop:=(l.K ⟨b,0,Í⟩\/l.M b)/\(l.K ⟨b,1,Í⟩\/l.M b)/\∀w c:Ð,w.heap.size<=c.heap.size->(∀j,l.M j->c.heap[j]?=w.heap[j]?)->(∀a,l.C a->c.cell? a=w.cell? a)->(∀a,l.C a->c.frozen? a=w.frozen? a)->(∀a,l.K a->(w.cell? a).isSome=Ì->(c.cell? a).isSome=Ì)->Ψ w->Ψ c
def lT.r{Ψ:Ð->Prop}(h:lT Ψ l b)(r:fI l w u):RS Ψ b w u:=⟨r.r,λq=>⟨h.1.elim (λk=>r.S _ k q.1) λm=>(by rw[gL<|r.I b m];exact q.1),h.2.1.elim (λk=>r.S _ k q.2) λm=>(by rw[gL<|r.I b m];exact q.2)⟩,h.2.2 w u r.r r.I r.N r.Y r.S⟩
def jC{Ψ:Ð->Prop}(a:lT Ψ l b)(hF:SW Ψ l b l.w)(c:İ P yQ (RS Ψ b) à (λd e=>fj P yQ J {l with w:=e} d) n g l.w):fj P yQ J l g:= OO c (λ_ _ r=>a.r r) hF.1 λ_ _ _ h=>h
def nH{Ψ:Ð->Prop}(c:lT Ψ l b)(hF:SW Ψ l b l.w)(h:∀a,SW Ψ l b a->J {l with w:=a} g):fj P yQ J l g:=.fB λa r=>h a<|fJ hF<|c.r r
def uX{Ψ:Ð->Prop}(e:lT Ψ l b)(hF:SW Ψ l b l.w){m:Ο}{c:Ä}(f:m=ô\/m=î)(i:g.status=Å)(h:∀a,è P yQ g a=ş c a #[jM m])(j:∀a,SW Ψ l b a->fj P yQ J {l with d:=Ï l.d #[jM m],w:=a} c):fj P yQ J l g:= .ag5 f i hF.1 h λa r=>j a<|fJ hF<|e.r r
end
section
variable{b:ø}{i:List Ů}
def JJ(m:Ο)(c:∀g,m≠.extern g)(d:y.defers=dcall F #[]::i)(e:P.funcs[F]?=Ã s)(f:(s.name== "runtime.NumGoroutine")=É)(j:s.body.isNone=Ì)(k:Extern.findNext s=Í) (l:Extern.find s=Ã λ_=>do mark m;pure Extern.Race.none_) (w:Ð):è P yQ (G {b.at y L with mode:=ù} qX) w=ş (G {b.at ⟨y.tmps,i⟩ L with mode:=ù} qX) w #[jM m]:= stepG_unwind_entry (v:=ı #[]) d e f j k l (by simp[Extern.Race.none_,jM]) (by simp[jM])<|by intro x a;simp[jM]at a;subst a;exact⟨U,λg h=>c g<|Loc.mark.inj h⟩
end
theorem Xz(s:Nat)(h:s%4294967296<2147483648):s&&&2147483648=0:=by
 have e:(2147483648:Nat)=(2^32-1)&&&2147483648:=A
 have a:(2:Nat)^32=4294967296:=A
 rw[e,<-Nat.and_assoc,Ą,a];have c:s%4294967296=(s%4294967296)&&&(2^31-1):=by rw[Ą];have b:(2:Nat)^31=2147483648:=A;rw[b];omega
 grind
theorem CS(s:Int)(a:0<=s)(b:s<1000000*4294967296)(h:s%4294967296<1000000):bits .and Ó s 2147483648=0:=by obtain⟨n,rfl⟩:=Int.eq_ofNat_of_zero_le a;have h:=(bits_nat Ó 63 A ö n 2147483648 Z A).1;grind [Xz]
theorem CU(s:Int)(a:0<=s)(b:s<1000000*4294967296)(h:s%4294967296<1000000):bits .and Ó s 2147483647=s%4294967296:=by have h:=bits_mask Ó 63 A ö 31 A s a Z;grind
def JK(L:ě):Array Ĭ:=#[{dst:=Ã 113,op:=Ŧ<|ß 0,type:=L.tWgP,pos:= "waitgroup.go:142",after:=#[],guard:=Í},{dst:=Ã 114,op:=Op.nilCheck<|ß 113,type:=0,pos:= "waitgroup.go:142",after:=#[{on:=0,ground:=ý}],guard:=Í},{dst:=Ã 115,op:=Op.fieldAddr L.tWg (ß 114) 2,type:=0,pos:= "waitgroup.go:142",after:=#[{on:=1,ground:=ý}],guard:=Í},{dst:=Ã 116,op:=Ŭ {callee:=Callee.value<|ŧ L.semrelease,args:=#[ß 115,ċ<|Value.bool É,ċ<|ë Ũ 0],argTypes:=#[L.tPU32,4,3]},type:=0,pos:= "waitgroup.go:142",after:=#[{on:=2,ground:=ý}],guard:=Í}]
def JL(L:ě):Array Ĭ:=#[{dst:=Ã 111,op:=Ŧ<|ß 8,type:=L.tU32,pos:= "waitgroup.go:141",after:=#[],guard:=Í},{dst:=Ã 112,op:=Ω BinOp.sub L.tU32 (ß 111) (ċ<|ë ç 1) L.tU32,type:=L.tU32,pos:= "waitgroup.go:141",after:=#[{on:=0,ground:=ý}],guard:=Í},{dst:=Ã 8,op:=Op.assign<|ß 112,type:=L.tU32,pos:= "waitgroup.go:141",after:=#[{on:=1,ground:=ý},{on:=0,ground:=ũ},{on:=1,ground:=ũ}],guard:=Í}]
def JN(L:ě)(b:Nat)(t:Array ã)(a:List ø):Ä:=G ((base L.add).at ⟨t,[dcall L.enable #[]]⟩ [Æ (JK L) [3],ŏ 2,ĵ<|Ģ 33 (JL L) É,Ρ<|((Ģ 32 #[{dst:=Ã 109,op:=Ŧ<|ß 8,type:=L.tU32,pos:= "waitgroup.go:141",after:=#[],guard:=Í},{dst:=Ã 110,op:=Ω BinOp.neq L.tU32 (ß 109) (ċ<|ë ç 0) L.tU32,type:=4,pos:= "waitgroup.go:141",after:=#[{on:=0,ground:=ý}],guard:=Í}] É).seq<|Τ (ß 110) ο<|Code.exit 1).seq<|(ε 2<|Ģ 34 (JK L) É).seq<|Ģ 33 (JL L) É,ŏ 1])<|(base L.done).at {tmps:=#[ì<|Ã {block:=b,off:=0},Â,ì<|Ã {block:=b,off:=0},Â],defers:=[]} [Æ #[{dst:=Ã 2,op:=Ŧ<|ß 0,type:=L.tWgP,pos:= "waitgroup.go:156",after:=#[],guard:=Í},{dst:=Ã 3,op:=Ŭ {callee:=Callee.value<|ŧ L.add,args:=#[ß 2,ċ<|ë Ũ<|-1],argTypes:=#[L.tWgP,3]},type:=0,pos:= "waitgroup.go:156",after:=#[{on:=0,ground:=ý}],guard:=Í}] [1]]::a
section
variable{Ψ:Ð->Prop}{L:ě}{l:fe}{e:Jd}{k:List Ţ}
def ag6(H:Ŕ P L)(h:lT Ψ l b)(s:∀a,SW Ψ l b a->fj P É e {l with d:=0,w:=a} (G (f.at (y.put ((Q[i]?).bind (·.dst))<|ı #[])<|Æ Q jJ::k) qX)): ∀(r:Nat) (c:Int) (t u v x z B C D E F I J K M N O S T V W X Y qR rW qS oR nV pA pB pC tq rX rY qT qU tu tw tx tA tB tC tD tE tF pD pE wy OP OQ OS OT OU OV OW OX OY OZ O0 O1 O2 O3 O4 O5 O6 O7 O8 O9 Pa Pd Pe Pf Pg Pj Pk Pl Pm Pn Po Pp Pq Pr Pt Pu Pv Px Py Pz PE PF PG PH PK PL PN PO PQ PU PV PW PX PY PZ P0 P1 P3 P4 P5 P7 P8 P9 Qa Qb Qc Qd:ã) (a:Ð),SW Ψ l b a->(c<=(r:Int)+1/\(r:Int)+1<=c)->r+1<1000000-> fj P É (Fo P É b (fj P É e)<|r+1) {l with d:=1,w:=a} (JN L b #[ì<|Ã ⟨b,0,Í⟩,t,u,v,x,z,B,C,ë ç c,D,E,F,I,J,K,M,N,O,S,T,V,W,X,Y,qR,rW,qS,oR,nV,pA,pB,pC,tq,rX,rY,qT,qU,tu,tw,tx,tA,tB,tC,tD,tE,tF,pD,pE,wy,OP,OQ,OS,OT,OU,OV,OW,OX,OY,OZ,O0,O1,O2,O3,O4,O5,O6,O7,O8,O9,Pa,Pd,Pe,Pf,Pg,Pj,Pk,Pl,Pm,Pn,Po,Pp,Pq,Pr,Pt,Pu,Pv,Px,Py,Pz,PE,PF,PG,PH,PK,PL,PN,PO,PQ,PU,PV,PW,PX,PY,PZ,P0,P1,P3,P4,P5,P7,P8,P9,Qa,Qb,Qc,ì<|Ã ⟨b,1,Í⟩,Qd]<|f.at y (Æ Q (i::jJ)::k)::qX):=by
 intro r;unfold JN JK JL;lib_facts
 induction r with
 |zero=>
  intro c;intros;rename_i a hF p q;have e1:c=1:=Z
  subst e1;clear p q;refine nH (l:={l with d:=1,w:=a}) h hF λj hF=>⟨U,U,Ĝ U U H.f_semrelease<|æ L,_,U,λa n m o=>(ą U U (by k_ne) U H.f_semrelease (Ĕ L) (æ L) (ĕ L) (Ė L) (by simp[þ,gU]) m o).trans fW,?_⟩;walk_nrm;apply jC (l:={l with d:=1,w:=j}) h hF (n:=50);iterate 17 w_go fJ
  refine Î λa g=> ?_;replace hF:=fJ hF g;clear g;refine uX (l:={l with d:=1,w:=a}) h hF (Á U) U (λw=>JJ î fp U H.f_enable (Ĥ L) (ĥ L) (Ħ L) (ħ L) w) λCV hF=> ?_;have oQ:Ï 1 #[jM î]=0:=rfl;rw[oQ];apply jC (l:={l with d:=0,w:=CV}) h hF (n:=10);u_leave0 H.f_add fJ hF;iterate 2 w_go fJ
  u_leave0 H.f_done fJ hF
  refine Î λa g=> ?_;replace hF:=fJ hF g;clear g;exact s _ hF
 |succ r ih=>
  intro c;intros;rename_i a hF p q;have g1:(c-1)%4294967296=c-1:=Z
  have g2:(c-1 !=0)=Ì:=by simp;omega
  refine nH (l:={l with d:=1,w:=a}) h hF λj hF=>⟨U,U,Ĝ U U H.f_semrelease<|æ L,_,U,λa n m o=>(ą U U (by k_ne) U H.f_semrelease (Ĕ L) (æ L) (ĕ L) (Ė L) (by simp[þ,gU]) m o).trans fW,?_⟩;walk_nrm;apply jC (l:={l with d:=1,w:=j}) h hF (n:=50);iterate 22 w_go fJ
  refine Î λa g=> ?_;replace hF:=fJ hF g;clear g;apply ih (c-1)<;>first|exact hF|omega
end
section
variable{b:ø}{a:ō}{k:List Ţ}{cs:List ø}{d:Nat}
def qV(P:Ğ)(d:Nat)(g:Ä):Prop:=∃N,Ź P N d g
def CW(P:Ğ):Jd:=λl g=>qV P l.d g
def JO{a:Ä}(b:g.status=Å)(h:∀w,è P É g w=ş a w)(c:qV P d a):qV P d g:=let⟨n,q⟩:=c;⟨n+1,.ctl b h q⟩
def asE(f:Q[i]?=Ã o)(g:á o (Ĩ Q a.tmps)=Ì)(j:b.kind≠Đ) (h:∀(w:Ð) (K:ō->Ð->Prop),K y w->uponK o a K ((Þ a.eval o).run P w)) (n:∀w,(Þ a.eval o).events P w #[]=#[]) (p:qV P d (G (b.at y<|Æ Q jJ::k) cs)):qV P d (G (b.at a<|Æ Q (i::jJ)::k) cs):=by
 refine JO U (λw=> ?_) p;have e:=h w (λx c=>x=y/\c=w) ⟨U,U⟩;have l:listed P b.fn a o w=#[]:=by unfold listed;rw[n w,Ć]
 revert e;generalize m:(Þ a.eval o).run P w=r;intro e;match r,e with
 |.ok (.value v) w',⟨c,x⟩=>subst x;rw[Ń f g j m,l,c]
 |.ok .skip w',⟨c,x⟩=>subst x;rw[Ŗ f g j m,l,c]
def Qe:∀{n m d:Nat} {g:Ä},n<=m->Ź P n d g->Ź P m d g
 |0,0,_,_,_,h=>h
 |0,_+1,_,_,_,h=>À h
 |_+1,0,_,_,e,_=>absurd e Z
 |_+1,_+1,_,_,e,h=>h.imp id λ⟨a,b,c,f,i,j⟩=>⟨a,b,c,f,i,Qe (Nat.le_of_succ_le_succ e) j⟩
def FZ{n:Nat}{ops:Array Oper}{i:Nat}{rest:List Nat}{o:Oper}{a':Act}(hq:QuitsD P n d (G (b.at a'<|.inRegion ops rest::k) cs))(ho:ops[i]?=some o:=by rfl)(hw:Region.wanted o (yielded ops a.tmps)=true:=by rfl)(hk:b.kind≠.early:=by k_ne) (h:∀(w:World) (K:Act->World->Prop),K a' w->uponK o a K ((execOp a.eval o).run P w):=by intro w K hK;go_simp;(try w_num);exact hK) (he:∀w,(execOp a.eval o).events P w #[]=#[]:=by intro _;simp[go_sem, *]): QuitsD P (n+1) d (G (b.at a<|.inRegion ops (i::rest)::k) cs):=by
 refine QuitsD.ctl U (λw=> ?_) hq;have h1:=h w (λx y=>x=a'/\y=w) ⟨U,U⟩;have h2:listed P b.fn a o w=#[]:=by unfold listed;rw[he w,Ć]
 revert h1;generalize hr:(Þ a.eval o).run P w=r;intro h1;match r,h1 with
 |.ok (.value v) w',⟨e1,e2⟩=>subst e2;rw[Ń ho hw hk hr,h2,e1]
 |.ok .skip w',⟨e1,e2⟩=>subst e2;rw[Ŗ ho hw hk hr,h2,e1]
end
section
variable{Ψ:Ð->Prop}{L:ě}{b:Nat}{l:fe}{a:ō}{ops:Array Ĭ}{rest:List Nat}{k:List Ţ}{cs:List ø}
def ag7(H:Ŕ P L)(g:lT Ψ l b)(h:qV P 0 (G (f.at (a.put ((ops[i]?).bind (·.dst))<|ı #[])<|Æ ops rest::k) cs)): ∀(r:Nat) (c:Int) (t u v x y z B C D E F I J K M N O Q S T V W X Y qS oR nV pA pB pC tq rX rY qT qU tu tw tx tA tB tC tD tE tF pD pE wy OP OQ OS OT OU OV OW OX OY OZ O0 O1 O2 O3 O4 O5 O6 O7 O8 O9 Pa Pd Pe Pf Pg Pj Pk Pl Pm Pn Po Pp Pq Pr Pt Pu Pv Px Py Pz PE PF PG PH PK PL PN PO PQ PU PV PW PX PY PZ P0 P1 P3 P4 P5 P7 P8 P9 Qa Qb Qc Qd:ã) (e:Ð),SW Ψ l b e->(c<=(r:Int)+1/\(r:Int)+1<=c)->r+1<1000000-> fj P É (Fo P É b (CW P)<|r+1) {l with d:=1,w:=e} (JN L b #[ì<|Ã ⟨b,0,Í⟩,t,u,v,x,y,z,B,ë ç c,C,D,E,F,I,J,K,M,N,O,Q,S,T,V,W,X,Y,qS,oR,nV,pA,pB,pC,tq,rX,rY,qT,qU,tu,tw,tx,tA,tB,tC,tD,tE,tF,pD,pE,wy,OP,OQ,OS,OT,OU,OV,OW,OX,OY,OZ,O0,O1,O2,O3,O4,O5,O6,O7,O8,O9,Pa,Pd,Pe,Pf,Pg,Pj,Pk,Pl,Pm,Pn,Po,Pp,Pq,Pr,Pt,Pu,Pv,Px,Py,Pz,PE,PF,PG,PH,PK,PL,PN,PO,PQ,PU,PV,PW,PX,PY,PZ,P0,P1,P3,P4,P5,P7,P8,P9,Qa,Qb,Qc,ì<|Ã ⟨b,1,Í⟩,Qd]<|f.at a (Æ ops (i::rest)::k)::cs):=by
 intro r;unfold JN JK JL;lib_facts
 induction r with
 |zero=>
  intro c;intros;rename_i e hF o p;have e1:c=1:=Z
  subst e1;clear o p;refine nH (l:={l with d:=1,w:=e}) g hF λq hF=>⟨U,U,Ĝ U U H.f_semrelease<|æ L,_,U,λe n j m=>(ą U U (by k_ne) U H.f_semrelease (Ĕ L) (æ L) (ĕ L) (Ė L) (by simp[þ,gU]) j m).trans fW,?_⟩;walk_nrm;show qV P 1 _;let⟨n,h⟩:=h;refine⟨n+150,?_⟩;repeat(first|refine FZ ?_|q_go)
  q_en H L
  q_leave0 H.f_add
  repeat(first|refine FZ ?_|q_go)
  q_leave0 H.f_done
  exact Qe Z h
 |succ r ih=>
  intro c;intros;rename_i e hF o p;have g1:(c-1)%4294967296=c-1:=Z
  have g2:(c-1 !=0)=Ì:=by simp;omega
  refine nH (l:={l with d:=1,w:=e}) g hF λq hF=>⟨U,U,Ĝ U U H.f_semrelease<|æ L,_,U,λe n j m=>(ą U U (by k_ne) U H.f_semrelease (Ĕ L) (æ L) (ĕ L) (Ė L) (by simp[þ,gU]) j m).trans fW,?_⟩;walk_nrm;apply jC (l:={l with d:=1,w:=q}) g hF (n:=50);iterate 22 w_go fJ
  refine Î λe s=> ?_;replace hF:=fJ hF s;clear s;apply ih (c-1)<;>first|exact hF|omega
end
section
variable{Ψ:Ð->Prop}{L:ě}{l:fe}{k:List Ţ}
def ag8(H:Ŕ P L)(J:l.K ⟨b,0,Í⟩/\l.K ⟨b,1,Í⟩)(z:lT Ψ l b)(hF:SW Ψ l b l.w)(B:l.d=0)(q:qV P 0 (G (f.at (y.put ((Q[i]?).bind (·.dst))<|ı #[])<|Æ Q jJ::k) qX)): fj P É (λl g=>xY P É b (CW P) (kr l) g) l (G ((base L.done).at ⟨#[ì<|Ã ⟨b,0,Í⟩,Â,Â,Â],[]⟩ [ĵ<|body_done L])<|f.at y (Æ Q (i::jJ)::k)::qX):=by
 lib_facts;simp only[body_done,doneFn,ć];apply jC z hF (n:=40);iterate 2 w_go fJ
 u_call H.f_add (nm_add L) addFn fJ hF
 iterate 11 w_go fJ
 u_conv H.underlying_tWgP H.room_tWg (ng.r hF.2.1).choose_spec fJ hF
 refine Î λa g=> ?_;replace hF:=fJ hF g;clear g;refine nH (l:={l with w:=a}) z hF λc hF=>⟨B,U,_,λ_=>Ē Į fp U U (by k_ne) U H.f_relMerge (x_relMerge_n L) (x_relMerge_b L) (x_relMerge_x L) (x_relMerge_f L) (by simp[þ,fM]),?_⟩;walk_nrm;have e:lT (λ_=>True) (kr {l with w:=c}) b:=⟨À J.1,À J.2,λ_ _ _ _ _ _ _ _=>trivial⟩;have C:SW (λ_=>True) (kr {l with w:=c}) b (kr {l with w:=c}).w:=⟨λj h=>h.elim,hF.2.1,trivial⟩;have M:(kr {l with w:=c}).d=0:=B;generalize kr {l with w:=c}=l2 at e C M|-;replace hF:=C;clear C z B;apply jC e hF (n:=10);iterate 3 w_go fJ
 refine Î λa g=> ?_;replace hF:=fJ hF g;clear g;refine uX (l:={l2 with w:=a}) e hF (À U) U (λ_=>Ę ô fp U U (by k_ne) U H.f_disable (ń L) (Ņ L) (ņ L)<|Ň L) λT hF=> ?_;walk_nrm;have V:Ï l2.d #[jM ô]=1:=by rw[M];rfl
 rw[V];apply jC (l:={l2 with d:=1,w:=T}) e hF (n:=50);iterate 2 w_go fJ
 u_defer fJ hF
 iterate 8 w_go fJ
 u_bub fJ hF
 iterate 11 w_go fJ
 u_call H.f_uAdd (nm_uAdd L) uAddFn fJ hF
 iterate 10 w_go fJ
 refine Î λa g=> ?_;replace hF:=fJ hF g;clear g;refine nH (l:={l2 with d:=1,w:=a}) e hF λc hF=>⟨U,U,λv=>⟨_,λa p D=>(Ľ U U (by k_ne) U H.f_addU64 (Ž L) (ž L) (ſ L) Ó (Α L) U U p D).trans fW,?_⟩⟩;walk_nrm;have N:Ó.wrap (v+18446744069414584320)=Ó.wrap (v+qf):=rfl;rw[N];clear N;obtain⟨s,E⟩:∃s,Ó.wrap (v+qf)=s:=⟨_,U⟩;simp only[E];have F:0<=s:=by rw[<-E];have:Ó.wrap (v+qf)=(v+qf)%18446744073709551616:=rfl;rw[this];omega
 clear E v;by_cases o:s=0\/(fX<=s/\s<1000000*fX/\s%fX<1000000)
 .rw[if_pos o];by_cases m:s=0;focus
   subst m;clear o F
  rotate_left;focus
   have W:=o.resolve_left m;clear o m F;let⟨X,Y,c6⟩:=W;have q4:(4294967296:Int)<=s:=X;have I:s<1000000*4294967296:=Y;have O:s%4294967296<1000000:=c6;have f1:=CS s Z I O;have t:=CU s Z I O;obtain⟨x,g1⟩:∃x,(s/4294967296+2147483648)%4294967296-2147483648=x:=⟨_,U⟩;have g2:¬x<0:=Z
   have g3:0<x:=Z
   by_cases u:s%4294967296=0;focus rw[u]at t
   rotate_left;focus
    obtain⟨r,g4⟩:∃r,s%4294967296=r:=⟨_,U⟩;rw[g4]at t u;have S:r%4294967296=r:=Z
    have g6:(r !=0)=Ì:=by simpa using u
  all_goals
   show qV P 1 _;let⟨n,q⟩:=q;refine⟨n+150,?_⟩;repeat(first|refine FZ ?_|q_go)
   q_leave1 H.f_uAdd
   repeat(first|refine FZ ?_|q_go)
   q_en H L
   q_leave0 H.f_add
   repeat(first|refine FZ ?_|q_go)
   q_leave0 H.f_done
   exact Qe Z q
 .rw[if_neg o];by_cases m:0<s/\s<1000000
  .rw[if_pos m];let⟨q4,I⟩:=m;clear o F;have f1:=CS s Z Z Z;have t:=CU s Z Z Z;have g1:(s/4294967296+2147483648)%4294967296-2147483648=0:=Z
   have S:s%4294967296=s:=Z
   rw[S]at t;have g6:(s !=0)=Ì:=by simp;omega
   have X:(s==0)=É:=by simp;omega
   have O:(s.toNat:Int)=s:=Z
   apply jC (l:={l2 with d:=1,w:=c}) e hF (n:=150);iterate 3 w_go fJ
   u_leave1 H.f_uAdd fJ hF
   iterate 89 w_go fJ
   u_call H.f_uLoad (ů L) Ξ fJ hF
   iterate 9 w_go fJ
   refine Î λa g=> ?_;replace hF:=fJ hF g;clear g;refine nH (l:={l2 with d:=1,w:=a}) e hF λc hF=>⟨U,U,λv=>⟨_,λa p=>ę U U (by k_ne) U H.f_loadU64 (ň L) (ŉ L) (Ŋ L) Ó (ŋ L) U p,?_⟩⟩;show fj P É (if v=(s.toNat:Int)then Jc P É b (CW P) s.toNat else λ_ _=>True) _ _;by_cases u:v=(s.toNat:Int)
   .rw[if_pos u];rw[O]at u;subst u;walk_nrm;have Y:(v !=v)=É:=fp
    apply jC (l:={l2 with d:=1,w:=c}) e hF (n:=150);iterate 3 w_go fJ
    u_leave1 H.f_uLoad fJ hF
    iterate 10 w_go fJ
    u_call H.f_uStore (nm_uStore L) uStoreFn fJ hF
    iterate 5 w_go fJ
    refine Î λa g=> ?_;replace hF:=fJ hF g;clear g;refine nH (l:={l2 with d:=1,w:=a}) e hF λc hF=>⟨U,U,_,λa x p D=>stepG_store_atomic U U (by k_ne) U H.f_storeU64 (x_storeU64_n L) (x_storeU64_b L) (x_storeU64_x L) (x_storeU64_f L) U U p D,?_⟩;walk_nrm;obtain⟨r,W⟩:∃r,v.toNat=r+1:=⟨v.toNat-1,Z⟩;rw[W];apply jC (l:={l2 with d:=1,w:=c}) e hF (n:=150);iterate 2 w_go fJ
    u_leave0 H.f_uStore fJ hF
    iterate 24 w_go fJ
    refine Î λa g=> ?_;replace hF:=fJ hF g;clear g;apply ag7 H e q r v<;>first|exact hF|omega
   .rw[if_neg u];exact .fB λ_ _=>trivial
  .rw[if_neg m];trivial
end
def RT(_ _:Ð):Prop:=True
def fC{w₁:Ð}(_:True)(_:RT w w₁):True:=trivial
def ag9(s:Int)(a:0<=s)(b:s<9223372036854775808)(h:s%4294967296<1000000):bits .and Ó s 2147483648=0:=by obtain⟨n,rfl⟩:=Int.eq_ofNat_of_zero_le a;have h:=(bits_nat Ó 63 A ö n 2147483648 Z A).1;rw[Xz n Z]at h;simpa using h
def aha(s:Int)(a:0<=s)(c:s<9223372036854775808)(h:s%4294967296<1000000):bits .and Ó s 2147483647=s%4294967296:=by
 have h:=bits_mask Ó 63 A ö 31 A s a Z;have e:((2:Int)^31-1)=2147483647:=A
 have b:((2:Int)^31)=2147483648:=A
 rw[e,b]at h;rw[h];omega
section
variable(P:Ğ)(L:ě)(f:Bool)(b:Nat)(j:Jd)(c:ø)(m:List ø)(l:fe)
def XA(g:Ä):Prop:=∃T:Array ã,g=G ((base L.wait).at ⟨T,[]⟩ [ĵ<|L7 L,Ρ<|L7 L,ŏ 0]) (c::m)/\T.size=84/\T[0]?=Ã (ì<|Ã ⟨b,0,Í⟩)
def XB(v:Int)(g:Ä):Prop:=g.status=Å/\
 (∃a,(∀w:Ð,w.cell? (fM b)=Ã (ë Ó v)->w.frozen? (fM b)=É->è P f g w=ş a (w.setCell (fM b)<|ë Ó<|Ó.wrap<|v+1) #[ko<|fM b,mJ<|fM b])/\fj P f (if v%fX=0 then NO P f b j else Jf P f b j) l a)/\
 ∃a,(∀(w:Ð) (x:Int),x≠v->w.cell? (fM b)=Ã (ë Ó x)->w.frozen? (fM b)=É->è P f g w=ş a w #[ko<|fM b])/\∀w,İ P f RT à (λg _=>XA L b c m g) 10 a w
def Qf(g:Ä):Prop:=g.status=Å/\∀v,∃a,(∀w:Ð,w.cell? (fM b)=Ã (ë Ó v)->è P f g w=ş a w #[ko<|fM b])/\(0<=v/\v<1000000->fj P f (Fp P f b j) l a)/\
 ((fX<=v/\v<fX*2147483648/\v%fX<1000000)->∀w,İ P f RT à (λg _=>XB P L f b j c m l v g) 60 a w)
end
section
variable{Ψ:Ð->Prop}{P:Ğ}{L:ě}{f:Bool}{b:Nat}{l:fe}{j:Jd}{c:ø}{a:ō}{k:List Ţ}{m:List ø}
def XC(H:Ŕ P L)(p:lT Ψ l b)(J:SW Ψ l b l.w)(u:l.d=1)(z:∀o,SW Ψ l b o->fj P f j {l with d:=0,w:=o} (G (c.at (a.put ((Q[i]?).bind (·.dst))<|ı #[])<|Æ Q jJ::k) m)) (h:XA L b (c.at a<|Æ Q (i::jJ)::k) m g) (w:Ð):İ P f RT à (λg _=>Qf P L f b j (c.at a<|Æ Q (i::jJ)::k) m l g) 30 g w:=by
 lib_facts;obtain⟨T,rfl,V,K⟩:=h;obtain⟨v0,v1,v2,v3,v4,v5,v6,v7,v8,v9,v10,v11,v12,v13,v14,v15,v16,v17,v18,v19,v20,v21,v22,v23,v24,v25,v26,v27,v28,v29,v30,v31,v32,v33,v34,v35,v36,v37,v38,v39,v40,v41,v42,v43,v44,v45,v46,v47,v48,v49,v50,v51,v52,v53,v54,v55,v56,v57,v58,v59,v60,v61,v62,v63,v64,v65,v66,v67,v68,v69,v70,v71,v72,v73,v74,v75,v76,v77,v78,v79,v80,v81,v82,v83,rfl⟩:=array84 T V;simp only[List.getElem?_toArray,List.getElem?_cons_zero,Ķ]at K;subst K;have hF:True:=trivial;simp only[L7,ţ,waitFn,ć];iterate 6 w_go fC
 u_call H.f_uLoad (ů L) Ξ fC hF
 iterate 9 w_go fC
 refine Î λo e=> ?_;clear e hF o;refine⟨U,λv=>⟨_,λo q=>ę U U (by k_ne) U H.f_loadU64 (ň L) (ŉ L) (Ŋ L) Ó (ŋ L) U q,λB=> ?_,λB w=> ?_⟩⟩
 .walk_nrm;let⟨t,x⟩:=B;have W:=CS v Z Z Z;have C:=CU v Z Z Z;have X:(v/4294967296+2147483648)%4294967296-2147483648=0:=Z
  have M:v%4294967296=v:=Z
  rw[M]at C;have hF:=J;apply jC (l:=l) p hF (n:=150);iterate 3 w_go fJ
  u_leave1 H.f_uLoad fJ hF
  iterate 27 w_go fJ
  refine Î λo e=> ?_;replace hF:=fJ hF e;clear e;refine uX (l:={l with w:=o}) p hF (Á U) U (λ_=>Ę î fp U U (by k_ne) U H.f_enable (Ĥ L) (ĥ L) (Ħ L)<|ħ L) λD hF=> ?_;have E:Ï l.d #[jM î]=0:=by rw[u];rfl
  rw[E];walk_nrm;apply jC (l:={l with d:=0,w:=D}) p hF (n:=50);iterate 3 w_go fJ
  u_conv H.underlying_tWgP H.room_tWg (ng.r hF.2.1).choose_spec fJ hF
  refine Î λo e=> ?_;replace hF:=fJ hF e;clear e;refine nH (l:={l with d:=0,w:=o}) p hF λr hF=>⟨U,U,_,λ_=>Ē ő fp U U (by k_ne) U H.f_acquire (Ű L) (ű L) (Ų L) (ų L) (by simp[þ,fM]),?_⟩;walk_nrm;by_cases s:v=0
  .subst s;apply jC (l:={l with d:=0,w:=r}) p hF (n:=50);iterate 19 w_go fJ
   u_leave0 H.f_wait fJ hF
   refine Î λo e=> ?_;replace hF:=fJ hF e;clear e;exact z _ hF
  .have S:(v==0)=É:=by simp;omega
   apply jC (l:={l with d:=0,w:=r}) p hF (n:=50);iterate 19 w_go fJ
   u_leave0 H.f_wait fJ hF
   refine Î λo e=> ?_;replace hF:=fJ hF e;clear e;exact z _ hF
 .walk_nrm;let⟨N,O,Y⟩:=B;have q4:(4294967296:Int)<=v:=N;have q5:v<4294967296*2147483648:=O;have F:v%4294967296<1000000:=Y;clear N O;have C:=aha v Z Z F;obtain⟨I,X⟩:∃I,(v/4294967296+2147483648)%4294967296-2147483648=I:=⟨_,U⟩;have g2:(I==0)=É:=by simp;omega
  have g3:(v+1)%18446744073709551616=v+1:=Z
  have yr:Ó.wrap (v+1)=v+1:=Jb Z Z;obtain⟨t,g4⟩:∃t,v%4294967296=t:=⟨_,U⟩;have W:=ag9 v Z Z F;rw[g4]at C F;have M:t%4294967296=t:=Z
  have hF:True:=trivial;iterate 3 w_go fC
  u_leave1 H.f_uLoad fC hF
  iterate 32 w_go fC
  u_call H.f_uCas (nm_uCas L) uCasFn fC hF
  iterate 11 w_go fC
  refine Î λo e=> ?_;clear e hF o;refine⟨U,⟨_,λo q y=>(stepG_cas_hit (v:=v) (n:=v+1) U U (by k_ne) U H.f_casU64 (Β L) (Γ L) (Δ L) Ó (Ε L) U U U q y).trans (by rw[yr];rfl),?_⟩,_,λo x lb q y=>stepG_cas_miss (v:=x) (old:=v) (n:=v+1) U U (by k_ne) U H.f_casU64 (Β L) (Γ L) (Δ L) Ó (Ε L) U U U q y lb,λw=> ?_⟩
  .walk_nrm;have hF:=J;by_cases s:v%fX=0;focus
    rw[if_pos s];have s:v%4294967296=0:=s;have:t=0:=Z
    subst this;apply jC (l:=l) p hF (n:=150);iterate 3 w_go fJ
    u_leave1 H.f_uCas fJ hF
    iterate 15 w_go fJ
    u_conv H.underlying_tPU32 H.room_tU32 (ng.C hF.2.1).choose_spec fJ hF
    refine Î λo e=> ?_;replace hF:=fJ hF e;clear e;refine nH (l:={l with w:=o}) p hF λr hF=>⟨u,U,_,λ_=>Ē Υ fp U U (by k_ne) U H.f_raceWrite (x_raceWrite_n L) (x_raceWrite_b L) (x_raceWrite_x L) (x_raceWrite_f L) (by simp[þ,gU]),?_⟩;walk_nrm;apply jC (l:={l with w:=r}) p hF (n:=150);iterate 23 w_go fJ
   rotate_left;focus
    rw[if_neg s];have s:¬v%4294967296=0:=s;have S:(t==0)=É:=by simp;omega
    apply jC (l:=l) p hF (n:=150);iterate 3 w_go fJ
    u_leave1 H.f_uCas fJ hF
    iterate 34 w_go fJ
   all_goals
    refine Î λo e=> ?_;replace hF:=fJ hF e;clear e;refine nH (l:={l with w:=o}) p hF λr hF=>⟨u,U,U,λo q=>stepG_semacquire_wait U U U H.f_semacquire (ŗ L) (Ř L) (ř L) (Ś L) (by simp[þ,gU]) q,_,λo n hn q y=>(stepG_semacquire (n:=n) U U (by k_ne) U H.f_semacquire (ŗ L) (Ř L) (ř L) (Ś L) (by simp[þ,gU]) q hn y).trans fW,?_⟩;walk_nrm;apply jC (l:={l with w:=r}) p hF (n:=50);iterate 6 w_go fJ
    u_call H.f_uLoad (ů L) Ξ fJ hF
    iterate 9 w_go fJ
    refine Î λo e=> ?_;replace hF:=fJ hF e;clear e;refine nH (l:={l with w:=o}) p hF λr hF=>⟨u,U,λx=>⟨_,λo q=>ę U U (by k_ne) U H.f_loadU64 (ň L) (ŉ L) (Ŋ L) Ó (ŋ L) U q,?_⟩⟩;show fj P f (if x=0 then Fp P f b j else λ_ _=>True) _ _;by_cases S:x=0
    .subst S;rw[if_pos U];walk_nrm;apply jC (l:={l with w:=r}) p hF (n:=50);iterate 3 w_go fJ
     u_leave1 H.f_uLoad fJ hF
     iterate 7 w_go fJ
     refine Î λo e=> ?_;replace hF:=fJ hF e;clear e;refine uX (l:={l with w:=o}) p hF (Á U) U (λ_=>Ę î fp U U (by k_ne) U H.f_enable (Ĥ L) (ĥ L) (Ħ L)<|ħ L) λD hF=> ?_;have E:Ï l.d #[jM î]=0:=by rw[u];rfl
     rw[E];walk_nrm;apply jC (l:={l with d:=0,w:=D}) p hF (n:=50);iterate 3 w_go fJ
     u_conv H.underlying_tWgP H.room_tWg (ng.r hF.2.1).choose_spec fJ hF
     refine Î λo e=> ?_;replace hF:=fJ hF e;clear e;refine nH (l:={l with d:=0,w:=o}) p hF λr hF=>⟨U,U,_,λ_=>Ē ő fp U U (by k_ne) U H.f_acquire (Ű L) (ű L) (Ų L) (ų L) (by simp[þ,fM]),?_⟩;walk_nrm;apply jC (l:={l with d:=0,w:=r}) p hF (n:=50);iterate 9 w_go fJ
     u_leave0 H.f_wait fJ hF
     refine Î λo e=> ?_;replace hF:=fJ hF e;clear e;exact z _ hF
    .rw[if_neg S];exact .fB λ_ _=>trivial
  .walk_nrm;have hF:True:=trivial;iterate 3 w_go fC
   u_leave1 H.f_uCas fC hF
   iterate 5 w_go fC
   exact Î λ_ _=>⟨_,U,fp,fp⟩
end
section
variable{Ψ:Ð->Prop}{L:ě}{l:fe}{e:Jd}{k:List Ţ}
def ahb{D:Ð->Ð->Array đ->Prop}{b:Ä->Ð->Prop}(h:İ P yQ RT D b n g w):İ P yQ RT D b n g u:=by
 cases n with
 |zero=>exact λa _=>h a trivial
 |succ n=>exact h.imp (λq a _=>q a trivial) λq=>⟨q.1,λa _=>q.2 a trivial⟩
def XD{D:Ð->Ð->Array đ->Prop}{b c:Ä->Prop}(d:∀g,b g->∀w,İ P yQ RT D (λg _=>c g) m g w):∀{n:Nat} {g:Ä} {w:Ð},İ P yQ RT D (λg _=>b g) n g w->İ P yQ RT D (λg _=>c g) (n+m) g w:=by
 intro n
 induction n with
 |zero=>intro g w h;rw[Nat.zero_add];exact d g (h w trivial) w
 |succ n i=>
  intro g w h;rcases h with h|⟨j,h⟩
  .exact(d g (h w trivial) w).mono Z
  .rw[show n+1+m=(n+m)+1 by omega];refine Goes.step j λe r=> ?_;have a:=h e r;cases f:è P yQ g e with
   |go k l o=>
    rw[f,ť]at a;rw[ť];exact⟨a.1,i a.2⟩
   |_=>rw[f]at a;exact a.elim
theorem XF{S:Ä->Prop}(l:∀g,S g->g.status=Å)(h:∀w,İ P yQ RT à (λg _=>S g) (n+1) g w):g.status=Å/\(S g\/∀a,∃b,è P yQ g a=ş b a #[]/\∀w,İ P yQ RT à (λg _=>S g) n b w):=by
 by_cases e:S g
 .grind
 .rcases h default with q|⟨f,q⟩
  .exact absurd (q default trivial) e
  .refine⟨f,Á λa=> ?_⟩;have c:=q a trivial;cases d:è P yQ g a with
   |go b m o=>
    rw[d,ť]at c;let⟨⟨i,j⟩,k⟩:=c;subst i j;exact⟨b,U,λw=>ahb k⟩
   |_=>rw[d]at c;exact c.elim
def ahc(H:Ŕ P L)(B:60<=j)(D:lT Ψ l b)(E:SW Ψ l b l.w)(C:l.d=1)(F:∀a,SW Ψ l b a->fj P yQ e {l with d:=0,w:=a} (G (f.at (y.put ((Q[i]?).bind (·.dst))<|ı #[])<|Æ Q jJ::k) qX)) (I:n<=j) (h:∀w,İ P yQ RT à (λg _=>Qf P L yQ b e (f.at y<|Æ Q (i::jJ)::k) qX l g) n g w):NP P yQ j b e (.fY n) l g:=by
 refine⟨C,λp g=>match p with
  |.fY n=>n<=j/\∀w,İ P yQ RT à (λg _=>Qf P L yQ b e (f.at y<|Æ Q (i::jJ)::k) qX l g) n g w
  |.ld v m=>m<=j/\fX<=v/\∀w,İ P yQ RT à (λg _=>XB P L yQ b e (f.at y (Æ Q (i::jJ)::k)) qX l v g) m g w,⟨I,h⟩,λp g J=> ?_⟩
 match p,J with
 |.fY (n+1),⟨h1,h2⟩=>
  let⟨r,u⟩:=XF (λg h=>h.1) h2;refine⟨r,h1,u.imp (λq=>⟨ò _,λw a _=>q⟩) λq a=> ?_⟩;let⟨s,c,o⟩:=q a;exact⟨s,c,Z,o⟩
 |.fY 0,⟨_,h2⟩=>
  have q:=h2 default default trivial;refine⟨q.1,λv=> ?_⟩;let⟨s,c,o,x⟩:=q.2 v;refine⟨s,c,?_⟩;by_cases z:0<=v/\v<fX
  .rw[if_pos z];exact λt=>o ⟨z.1,t⟩
  .rw[if_neg z];exact λt=>⟨60,B,B,t.1,x t⟩
 |.ld v (m+1),⟨h1,h0,h2⟩=>
  let⟨r,u⟩:=XF (λg h=>h.1) h2;refine⟨r,h0,h1,u.imp (λq=>⟨ò _,h0,λw a _=>q⟩) λq a=> ?_⟩;let⟨s,c,o⟩:=q a;exact⟨s,c,Z,h0,o⟩
 |.ld v 0,⟨_,h0,h2⟩=>
  let⟨r,⟨m,c,o⟩,q,x,s⟩:=h2 default default trivial;exact⟨r,h0,⟨m,c,o⟩,q,x,40,Z,Z,λw=>XD (λg t=>XC H D E C F t)<|s w⟩
def XG(H:Ŕ P L)(o:60<=j)(a:lT Ψ l b)(hF:SW Ψ l b l.w)(p:l.d=0)(h:∀c,SW Ψ l b c->fj P yQ e {l with d:=0,w:=c} (G (f.at (y.put ((Q[i]?).bind (·.dst))<|ı #[])<|Æ Q jJ::k) qX)): fj P yQ (qg P yQ j b e .iW) l (G ((base L.wait).at ⟨#[ì<|Ã ⟨b,0,Í⟩,Â,Â,Â,Â,Â,Â,Â,Â,Â,Â,Â,Â,Â,Â,Â,Â,Â,Â,Â,Â,Â,Â,Â,Â,Â,Â,Â,Â,Â,Â,Â,Â,Â,Â,Â,Â,Â,Â,Â,Â,Â,Â,Â,Â,Â,Â,Â,Â,Â,Â,Â,Â,Â,Â,Â,Â,Â,Â,Â,Â,Â,Â,Â,Â,Â,Â,Â,Â,Â,Â,Â,Â,Â,Â,Â,Â,Â,Â,Â,Â,Â,Â,Â],[]⟩ [ĵ<|ţ L])<|f.at y (Æ Q (i::jJ)::k)::qX):=by
 lib_facts;simp only[ţ,waitFn,ć];apply jC a hF (n:=40);iterate 3 w_go fJ
 refine Î λc q=> ?_;replace hF:=fJ hF q;refine uX a hF (À U) U (λ_=>Ę ô fp U U (by k_ne) U H.f_disable (ń L) (Ņ L) (ņ L)<|Ň L) λt hF=> ?_;walk_nrm;have r:Ï l.d #[jM ô]=1:=by rw[p];rfl
 rw[r];refine nH a hF λm hF=>⟨40,Z,ahc (l:={l with d:=1,w:=m}) H o a hF U h Z λw=>XD (λg s=>XC (l:={l with d:=1,w:=m}) H a hF U h s) ?_⟩;replace hF:True:=trivial;iterate 3 w_go fC
 exact Î λ_ _=>⟨_,U,fp,fp⟩
end
section
variable(P:Ğ)(e:Bool)(b:Nat)(J:Jd)
def rd1:Jd:=λl g=>l.d=1/\Fj P e (.read<|gU b) J l g
def JP:Jd:=λl g=>l.d=1/\Nz P e (fM b) fX (λs=>if s=fX then fj P e (rd1 P e b J)else if fX<s/\s<1000000*fX/\s%fX=0 then fj P e J else λ_ _=>True) l g
end
def ahd(F:Ph)(j:Nat)(a:Nat->Nat):NU F j a=JP F.P Ì F.C (Ji F j a):=rfl
section
variable{Ψ:Ð->Prop}{P:Ğ}{L:ě}{e:Bool}{b:Nat}{l:fe}{f:Jd}{c:ø}{k:List Ţ}
def XH(H:Ŕ P L)(h:lT Ψ l b)(hF:SW Ψ l b l.w)(E:l.d=0)(t:∀g,SW Ψ l b g->fj P e f {l with d:=0,w:=g} (G (c.at (y.put ((Q[i]?).bind (·.dst))<|ı #[])<|Æ Q jJ::k) qX)): fj P e (JP P e b f) l (G ((base L.add).at ⟨#[ì<|Ã ⟨b,0,Í⟩,ë Ũ 1,Â,Â,Â,Â,Â,Â,Â,Â,Â,Â,Â,Â,Â,Â,Â,Â,Â,Â,Â,Â,Â,Â,Â,Â,Â,Â,Â,Â,Â,Â,Â,Â,Â,Â,Â,Â,Â,Â,Â,Â,Â,Â,Â,Â,Â,Â,Â,Â,Â,Â,Â,Â,Â,Â,Â,Â,Â,Â,Â,Â,Â,Â,Â,Â,Â,Â,Â,Â,Â,Â,Â,Â,Â,Â,Â,Â,Â,Â,Â,Â,Â,Â,Â,Â,Â,Â,Â,Â,Â,Â,Â,Â,Â,Â,Â,Â,Â,Â,Â,Â,Â,Â,Â,Â,Â,Â,Â,Â,Â,Â,Â,Â,Â,Â,Â],[]⟩ [ĵ<|body_add L])<|c.at y (Æ Q (i::jJ)::k)::qX):=by
 lib_facts;simp only[body_add,addFn,ć];apply jC h hF (n:=40);iterate 12 w_go fJ
 refine Î λg a=> ?_;replace hF:=fJ hF a;clear a;refine uX (l:={l with w:=g}) h hF (À U) U (λ_=>Ę ô fp U U (by k_ne) U H.f_disable (ń L) (Ņ L) (ņ L)<|Ň L) λj hF=> ?_;walk_nrm;have F:Ï l.d #[jM ô]=1:=by rw[E];rfl
 rw[F];apply jC (l:={l with d:=1,w:=j}) h hF (n:=50);iterate 2 w_go fJ
 u_defer fJ hF
 iterate 8 w_go fJ
 u_bub fJ hF
 iterate 11 w_go fJ
 u_call H.f_uAdd (nm_uAdd L) uAddFn fJ hF
 iterate 10 w_go fJ
 refine Î λg a=> ?_;replace hF:=fJ hF a;clear a;refine nH (l:={l with d:=1,w:=g}) h hF λq hF=>⟨U,U,λv=>⟨_,λg I J=>(Ľ U U (by k_ne) U H.f_addU64 (Ž L) (ž L) (ſ L) Ó (Α L) U U I J).trans fW,?_⟩⟩;walk_nrm;have u:Ó.wrap (v+4294967296)=Ó.wrap (v+fX):=rfl;rw[u];clear u;obtain⟨s,x⟩:∃s,Ó.wrap (v+fX)=s:=⟨_,U⟩;simp only[x];clear x v;by_cases m:s=fX
 .rw[if_pos m];have o:s=4294967296:=m;clear m;subst o;apply jC (l:={l with d:=1,w:=q}) h hF (n:=150);iterate 3 w_go fJ
  u_leave1 H.f_uAdd fJ hF
  iterate 48 w_go fJ
  u_conv H.underlying_tPU32 H.room_tU32 (ng.C hF.2.1).choose_spec fJ hF
  refine Î λg a=> ?_;replace hF:=fJ hF a;clear a;refine nH (l:={l with d:=1,w:=g}) h hF λq hF=>⟨U,U,_,λ_=>Ē .read fp U U (by k_ne) U H.f_raceRead (x_raceRead_n L) (x_raceRead_b L) (x_raceRead_x L) (x_raceRead_f L) (by simp[þ,gU]),?_⟩;walk_nrm;apply jC (l:={l with d:=1,w:=q}) h hF (n:=150);iterate 39 w_go fJ
  refine Î λg a=> ?_;replace hF:=fJ hF a;clear a;refine uX (l:={l with d:=1,w:=g}) h hF (Á U) U (λw=>JJ î fp U H.f_enable (Ĥ L) (ĥ L) (Ħ L) (ħ L) w) λj hF=> ?_;have r:Ï 1 #[jM î]=0:=rfl;rw[r];apply jC (l:={l with d:=0,w:=j}) h hF (n:=10);u_leave0 H.f_add fJ hF;refine Î λg a=> ?_;replace hF:=fJ hF a;clear a;exact t _ hF
 .rw[if_neg m];by_cases o:fX<s/\s<1000000*fX/\s%fX=0
  .rw[if_pos o];let⟨z,B,C⟩:=o;have N:(4294967296:Int)<s:=z;have D:s<1000000*4294967296:=B;have K:s%4294967296=0:=C;clear m z B C;have O:=CS s Z D Z;have M:=CU s Z D Z;rw[K]at M;obtain⟨p,S⟩:∃p,(s/4294967296+2147483648)%4294967296-2147483648=p:=⟨_,U⟩;have T:¬p<0:=Z
   have V:0<p:=Z
   have W:(p==1)=É:=by simp;omega
   apply jC (l:={l with d:=1,w:=q}) h hF (n:=150);iterate 3 w_go fJ
   u_leave1 H.f_uAdd fJ hF
   iterate 83 w_go fJ
   refine Î λg a=> ?_;replace hF:=fJ hF a;clear a;refine uX (l:={l with d:=1,w:=g}) h hF (Á U) U (λw=>JJ î fp U H.f_enable (Ĥ L) (ĥ L) (Ħ L) (ħ L) w) λj hF=> ?_;have r:Ï 1 #[jM î]=0:=rfl;rw[r];apply jC (l:={l with d:=0,w:=j}) h hF (n:=10);u_leave0 H.f_add fJ hF;refine Î λg a=> ?_;replace hF:=fJ hF a;clear a;exact t _ hF
  .rw[if_neg o];trivial
end
def Ab:θ->Nat->θ
 |.seq a _,0=>a
 |.seq _ b,_=>b
 |Τ _ a _,0=>a
 |Τ _ _ b,_=>b
 |ε _ a,_=>a
 |.loop a,_=>a
 |c,_=>c
def lk(f:Func)(l:List Nat):θ:=l.foldl Ab<|f.body.getD ο
def oS(f:Ĵ)(a b:Array ã):Ů:={target:=.fn (.func f) a,args:=b}
def nI(P:Ğ):ø:={(default:ø)with fn:=P.funcs.size,defers:=[],mode:=.panicking [Ō]}
section
variable{b:ø}{a:ō}
def XJ{h:Array ĳ}(c:Q[i]?=Ã o)(j:á o (Ĩ Q a.tmps)=Ì)(k:b.kind≠Đ) (e:o.op=.defer {callee:=.value qQ,args:=#[],argTypes:=h}) (g:a.eval qQ=.func (.func F) #[] d): è P yQ (G (b.at a<|Æ Q (i::jJ)::L) qX) w=ş (G (b.at (Ő ⟨a.tmps,oS F d #[]::a.defers⟩ o.dst Â)<|Æ Q jJ::L) qX) w #[]:=by
 have l:(Þ a.eval o).run P w=.ok (.defer<|oS F d #[]) w:=by unfold Þ;simp[e,ĸ,Ĉ,g,oS]
 have m:(Þ a.eval o).events P w #[]=#[]:=by unfold Þ;simp[e,ĸ,Ĉ,g]
 have n:(b.at ⟨a.tmps,oS F d #[]::a.defers⟩<|Æ Q (i::jJ)::L).finish Â=b.at (Ő ⟨a.tmps,oS F d #[]::a.defers⟩ o.dst Â) (Æ Q jJ::L):=by rw[ĩ,c];rfl
 have p:(b.kind==Đ)=É:=by simpa using k
 rw[Ζ c j,<-n];simp[stepG.apply,l,m,G,Frame.at,p,Ě,Ć]
def XK{l:Array ĳ}(m:Q[i]?=Ã o)(n:á o (Ĩ Q a.tmps)=Ì)(p:b.kind≠Đ) (h:o.op=Ŭ {callee:=.value qQ,args:=#[],argTypes:=l}) (j:a.eval qQ=.func (.func F) #[] d) (e:P.funcs[F]?=Ã s) (q:(s.name== "runtime.NumGoroutine")=É) (g:s.body=Ã wX): è P yQ (G (b.at a<|Æ Q (i::jJ)::L) qX) w=ş (G ((base F).at {tmps:=d++ê (s.ntmps-d.size) Â,defers:=[]} [ĵ wX])<|b.at a (Æ Q (i::jJ)::L)::qX) w #[]:=by
 have k:¬s.name= "runtime.NumGoroutine":=by simpa using q
 have r:(Þ a.eval o).run P w=.ok (.enter F d) w:=by unfold Þ;simp[h,ĸ,Ĉ,j,ś,Ŝ,e,k,g]
 have t:(Þ a.eval o).events P w #[]=#[]:=by unfold Þ;simp[h,ĸ,Ĉ,j,ś,Ŝ,e,k,g]
 rw[ŵ m n p r,<-enter_at d e g];unfold listed;rw[t,Ć]
def ahe{g:Array ĳ}(d:Q[i]?=Ã o)(h:á o (Ĩ Q a.tmps)=Ì)(j:b.kind=ľ)(k:b.roundOf=Í)(l:f.mode=ù) (e:o.op=Ŭ {callee:=.builtin .recover,args:=#[],argTypes:=g}) (q:o.type=t): è P yQ (G (b.at a<|Æ Q (i::jJ)::L)<|f::qX) w=ş (G (b.at (a.put o.dst ā)<|Æ Q jJ::L)<|f::qX) w #[]:=by
 have m:(Þ a.eval o).run P w=.ok .recover w:=by unfold Þ;simp[e,ĸ,ś,builtin]
 have n:(Þ a.eval o).events P w #[]=#[]:=by unfold Þ;simp[e,ĸ,ś,builtin]
 have p:(b.at a<|Æ Q (i::jJ)::L).finish ā=b.at (a.put o.dst ā) (Æ Q jJ::L):=by rw[ĩ,d];rfl
 rw[Ζ d h,<-p];simp[stepG.apply,m,n,G,Frame.at,j,Ě,Ć,k,tryRecover,l]
def ahf{e:List Ů}(i:a.defers=oS F d #[]::e)(g:P.funcs[F]?=Ã s)(j:(s.name== "runtime.NumGoroutine")=É)(h:s.body=Ã wX): è P yQ (G {b.at a L with mode:=ù} qX) w= ş (G ((baseD F).at {tmps:=d++ê (s.ntmps-d.size) Â,defers:=[]} [ĵ wX])<|{b.at ⟨a.tmps,e⟩ L with mode:=ù}::qX) w #[]:=by
 have k:¬s.name= "runtime.NumGoroutine":=by simpa using j
 rw[<-enter_atD d g h];simp[G,è,Η,Ū,Frame.at,i,oS,ś,Ŝ,g,k,h,Ě,Ć]
def XL(a:P.funcs[F]?=Ã s)(e:(s.name== "runtime.NumGoroutine")=É)(b:s.body=Ã wX): è P yQ (born P<|oS F d #[]) w=ş (G ((baseD F).at {tmps:=d++ê (s.ntmps-d.size) Â,defers:=[]} [ĵ wX]) [nI P]) w #[]:=by
 have g:¬s.name= "runtime.NumGoroutine":=by simpa using e
 rw[<-enter_atD d a b];simp[G,è,Η,Ū,born,nI,oS,ś,Ŝ,a,g,b,Ě,Ć]
def ahg(d:b.kind=ľ)(e:a.defers=[])(f:P.funcs[b.fn]?=Ã s)(c:s.results=#[]): è P yQ (G {b.at a L with mode:=ù} [nI P]) w=ş (G (nI P) []) w:=by have g:=results_none c a.tmps P w;have h:=events_results_none (P:=P) (w:=w) c a.tmps #[];simp[G,è,Η,doReturn,Frame.at,d,e,f,g,h,nI,Ō,seen,Ě]
def ahh(w:Ð):è P É (G (nI P) []) w=ş {frame:=nI P,callers:=[],status:=å,dying:=Í} w:=by simp[G,è,Η,nI,Ō,Frame.catches];rfl
def ahi:qV P 0 (G (nI P) []):=⟨1,.ctl U ahh ⟨U,U⟩⟩
def ahj(c:b.kind=ľ)(d:a.defers=[])(e:P.funcs[b.fn]?=Ã s)(f:s.results=#[]):qV P 0 (G {b.at a L with mode:=ù} [nI P]):= JO U (λ_=>ahg c d e f) ahi
def ahk(e:b.kind=ľ)(g:a.defers=[])(h:P.funcs[b.fn]?=Ã s)(j:s.results=#[])(k:f.mode=ù)(l:qV P i (G f qX)):qV P i (G {b.at a L with mode:=ù}<|f::qX):= let⟨n,q⟩:=l;⟨n+1,.leaveD e g h j k q⟩
end
def ahl(d:Nat)(t:ĳ)(w:Ð)(a:Array đ)(h:P.underlying t=Ã (.interface<|P.methodsAt t)):(Θ (d+1) t ā ā).events P w a=a:=by simp[Θ,run_underlying h,go_sem]
def ahm(t:ĳ)(w:Ð)(a:Array đ)(h:P.underlying t=Ã (.interface<|P.methodsAt t)):(Op.equal t ā ā).events P w a=a:=ahl 9999 t w a h
def ahn(t:ĳ)(w:Ð)(a:Array đ)(h:P.underlying t=Ã (.interface<|P.methodsAt t)):(binOp .neq t ā ā).events P w a=a:=by simp only[binOp];simp[ahm t w a h]
section
variable{J:Jd}{l:fe}{b:ø}{a:ō}
def j2(l:fe):Prop:=∀j,l.O j->j<l.w.heap.size
def gk(a:j2 l)(b:İ P yQ RT à (λc _=>fj P yQ J l c) n g l.w):fj P yQ J l g:= OO b (λ_ _ _=>trivial) a λ_ _ r h=>h.jS r
def uY(k:Q[i]?=Ã o)(m:á o (Ĩ Q a.tmps)=Ì)(n:b.kind≠Đ) (h:∀c,fI l l.w c->uponK o a (λq e=>∃d,mh l d c e (listed P b.fn a o c)/\fj P yQ J d (G (b.at q<|Æ Q jJ::L) qX)) ((Þ a.eval o).run P c)): fj P yQ J l (G (b.at a<|Æ Q (i::jJ)::L) qX):=by
 refine .mk U λc r=> ?_;have f:=h c r;revert f;generalize p:(Þ a.eval o).run P c=res;intro f;match res,f with
 |.ok (.value v) e,⟨d,g,j⟩=>exact⟨_,e,_,d,Ń k m n p,g,j⟩
 |.ok .skip e,⟨d,g,j⟩=>exact⟨_,e,_,d,Ŗ k m n p,g,j⟩
def wz(l:fe)(e:đ):Prop:=xS l e/\e.loc≠ŭ ô/\e.loc≠ŭ î
def JQ(h:∀e∈V,wz l e)(d:Nat):Ï d V=d:=ĺ (λe a=>⟨(h e a).2.1,(h e a).2.2⟩) d
def aho(b:∀j,l.O j->j<w.heap.size)(c:¬l.q)(a:∀e∈V,wz l e):mh l {l with w:=w} w w V:= ⟨Ç _,λ_ h=>À h,b,U,U,U,U,λ_ _ _ _=>rfl,λ_ _ _ _=>rfl,λ_ _ _=>rfl,U,U,U,λe h=>(a e h).1,(JQ a _).symm,U,λq=>absurd q c,U⟩
def tH(d:Q[i]?=Ã o)(f:á o (Ĩ Q a.tmps)=Ì)(g:b.kind≠Đ)(j:j2 l)(k:¬l.q) (m:∀c,fI l l.w c->(Þ a.eval o).run P c=.ok (.value v) c) (n:∀c,fI l l.w c->∀e∈(Þ a.eval o).events P c #[],wz l e) (p:fj P yQ J l (G (b.at (a.put o.dst v)<|Æ Q jJ::L) qX)):fj P yQ J l (G (b.at a<|Æ Q (i::jJ)::L) qX):=by refine uY d f g λc r=> ?_;rw[m c r];exact⟨_,aho (mq j r) k λe h=>n c r e<|Ι h,p.jS r⟩
def gW(l:fe)(x:Č):Prop:=l.M x.block\/l.C x
def gW.r{x:Č}(h:gW l x){w₁:Ð}(r:fI l l.w w₁):w₁.cell? x=l.w.cell? x:=h.elim (λq=>gL<|r.I _ q)<|r.N x
def gW.C{x:Č}(h:gW l x):wz l ⟨ú x,É,É⟩:=by
 refine⟨À ⟨x,U,?_⟩,fp,fp⟩;rcases h with(q|q)|(q|q)
 .exact À q
 .exact Á<|Á ⟨À q,U,U⟩
 .exact Á<|À q
 .exact Á<|Á ⟨Á q,U,U⟩
def nW{x:Č}(f:Q[i]?=Ã o)(g:á o (Ĩ Q a.tmps)=Ì)(j:b.kind≠Đ)(k:j2 l)(m:¬l.q)(c:gW l x)(d:l.w.cell? x=Ã v) (n:∀w,w.cell? x=Ã v->(Þ a.eval o).run P w=.ok (.value v) w) (p:∀w,w.cell? x=Ã v->(Þ a.eval o).events P w #[]=#[⟨ú x,É,É⟩]) (s:fj P yQ J l (G (b.at (a.put o.dst v)<|Æ Q jJ::L) qX)):fj P yQ J l (G (b.at a<|Æ Q (i::jJ)::L) qX):= tH f g j k m (λw r=>n w<|(c.r r).trans d) (λw r e h=>by
  rw[p w<|(c.r r).trans d]at h;have:e=⟨ú x,É,É⟩:=by simpa using h
  subst this;exact c.C) s
def pF(l:fe)(x:Č):Prop:=l.O x.block\/l.r x
def pF.C(h:pF l p):gW l p:=h.elim (λq=>À<|À q) λq=>Á<|À q
def pF.r{x:Č}(h:pF l x):wz l ⟨ú x,Ì,É⟩:=⟨À ⟨x,U,h.elim À λq=>Á<|À q⟩,fp,fp⟩
end
end Go.Proofs.Y.fA
namespace Go.Proofs.Y.fA
open Go Go.Conc Go.Proofs.Y.Lift
section
variable{J:Jd}{l:fe}{b:ø}{cs:List ø}{ops:Array Ĭ}
def Qg(a:∀j,l.O j->j<w.heap.size)(b:¬l.q):mh l {l with w:={w with drawn:=w.drawn+1}} w {w with drawn:=w.drawn+1} #[]:= ⟨Ç _,λ_ h=>À h,a,U,U,U,U,λ_ _ _ _=>rfl,λ_ _ _ _=>rfl,λ_ _ _=>rfl,U,U,U,λe c=>by simp at c,by simp[Ï],U,λq=>absurd q b,U⟩
def jl(listed:Array Bool):Nat:=listed.countP λx=> !x
theorem JR{listed:Array Bool}(h:listed.getD i Ì=É):jl (listed.setIfInBounds i Ì)+1=jl listed:=by
 have a:i<listed.size:=by grind
 have b:listed[i]=É:=by simpa[a]using h
 unfold jl;grind [Array.countP_pos_iff,Array.getElem_mem]
def Qh{md:Ý}{listed:Array Bool}(c:listed.size=ops.size)(h:jl listed=0):Ò md ops listed=[]:=by rw[List.eq_nil_iff_forall_not_mem];intro j a;let⟨b,o,d,_⟩:=ĉ.1 a;have:=JR b;omega
def XM{md:Ý}(I:Array Bool->ō->fe->Prop) (p:∀c a l i k,I c a l->i∈Ò md ops c->fj P yQ (λh m=>∃f,m=G (b.at f<|Æ ops k::L) cs/\I (c.setIfInBounds i Ì) f h) l (G (b.at a<|Æ ops (i::k)::L) cs)) (n:∀c a l,I c a l->c.size=ops.size->Ò md ops c=[]->fj P yQ J l (G (b.at a<|Æ ops []::L) cs)): ∀(d t:Nat) (c:Array Bool) (a:ō) (l:fe),c.size=ops.size->jl c<=d->I c a l->fj P yQ J l (G (b.at a<|Æ ops (û md ops d t c [])::L) cs):=by
 intro d
 induction d with
 |zero=>
  intro t c a l e q g;simpa[û]using n c a l g e<|Qh e Z
 |succ d r=>
  intro t c a l e q g;simp only[û];change fj P yQ J l (G (b.at a (Æ ops (match(Ò md ops c)[t%(Ò md ops c).length]? with
   |some i=>û md ops d (t/(Ò md ops c).length) (c.setIfInBounds i Ì) [i]
   |none=>[].reverse)::L)) cs)
  cases j:(Ò md ops c)[t%(Ò md ops c).length]? with
  |none=>
   have s:Ò md ops c=[]:=by
    cases u:Ò md ops c with
    |nil=>rfl
    |cons x o=>
     rw[u]at j;have v:t%(x::o).length<(x::o).length:=ż _ fp;simp at j;simp at v;omega
   simpa using n c a l g e s
  |some i=>
   simp only[];rw[linearise_go_acc,List.reverse_singleton,List.singleton_append];have o:=List.mem_of_getElem? j;refine(p c a l i _ g o).lQ ?_;rintro h m ⟨f,rfl,s⟩;exact r _ _ f h (by simpa using e) (by have:=JR (ĉ.1 o).1;omega) s
theorem CX(n:Nat):jl (ê n É)=n:=by unfold jl;grind [Array.countP_replicate]
def Qi{id:Nat}(I:Array Bool->ō->fe->Prop)(m:j2 l)(n:¬l.q) (f:∀d,fI l l.w d->I (ê ops.size É) y {l with w:={d with drawn:=d.drawn+1}}) (g:∀e c y l i h,I c y l->i∈Ò e ops c->fj P yQ (λo p=>∃j,p=G (b.at j<|Æ ops h::L) cs/\I (c.setIfInBounds i Ì) j o) l (G (b.at y<|Æ ops (i::h)::L) cs)) (k:∀e c y l,I c y l->c.size=ops.size->Ò e ops c=[]->fj P yQ J l (G (b.at y<|Æ ops []::L) cs)): fj P yQ J l (G (b.at y<|ĵ (Ģ id ops Ì)::L) cs):=by
 refine .mk U λd r=>⟨_,_,_,_,stepG_region_draw,Qg (mq m r) n,?_⟩;unfold Region.schedule;split
 .exact XM I (g _) (k _) _ _ _ _ _ fp (by rw[CX];exact Ç _)<|f d r
 .exact XM I (g _) (k _) _ _ _ _ _ fp (by rw[CX];exact Ç _)<|f d r
end
def yt(e:Edge):Bool:=match e.ground with|.textOnly _=>É|.gcOnly _=>É|_=>Ì
theorem XO{md:Ý}{e:Edge}(h:yt e=Ì):ū md e=Ì:=by unfold yt at h;unfold ū;grind
structure mK(ops:Array Ĭ)(t0:Array ã)(val:Nat->ã)(listed:Array Bool)(a:ō):Prop where
 M:a.defers=[]
 S:a.tmps.size=t0.size
 b:∀d,(∀j o,ops[j]?=Ã o->listed.getD j É=Ì->o.dst≠Ã d)->a.tmps[d]?=t0[d]?
 r:∀j o d,ops[j]?=Ã o->listed.getD j É=Ì->o.dst=Ã d->a.tmps[d]?=Ã (val j)
 Y:∀j o e,ops[j]?=Ã o->listed.getD j É=Ì->e∈o.after->yt e=Ì->listed.getD e.on É=Ì
def tJ(a:Array Ĭ)(n:Nat):Bool:=(Κ a.size).all λi=>match(a.getD i default).dst with
 |none=>Ì
 |some d=>decide (d<n)&&(Κ a.size).all λj=>i==j||(a.getD j default).dst !=Ã d
section
variable{ops:Array Ĭ}{t0:Array ã}{val:Nat->ã}{listed:Array Bool}{a:ō}
def ahp(h:tJ ops t0.size=Ì)(a:ops[i]?=Ã o)(b:o.dst=Ã n):n<t0.size:=by have:=(ġ.1 h) i<|Ş.2<|(Õ.1 a).1;simp_all
theorem ahq(h:tJ ops t0.size=Ì){a:Ĭ}(b:ops[i]?=Ã o)(e:ops[j]?=Ã a)(f:j≠i)(c:o.dst=Ã n):a.dst≠Ã n:=by have:=(ġ.1 h) i<|Ş.2<|(Õ.1 b).1;simp[b,c]at this;grind
def mK.C(h:mK ops t0 val listed a){d:Nat}(b:ops.toList.all (λo=>o.dst !=Ã d)=Ì):a.tmps[d]?=t0[d]?:= h.b d λj o c _ e=>by have:=ġ.1 b o<|Ī.2<|Array.mem_of_getElem? c;simp[e]at this
def Qj(h:(listed.setIfInBounds i Ì).getD j É=Ì):j=i\/listed.getD j É=Ì:=by by_cases e:i=j;all_goals simp_all
theorem mK.gf(h:mK ops t0 val listed a)(u:tJ ops t0.size=Ì){md:Ý}(l:ops[i]?=Ã o)(p:i∈Ò md ops listed)(w:o.dst≠Í->v=val i):mK ops t0 val (listed.setIfInBounds i Ì) (a.put o.dst v):=by
 have y:=(ĉ.1 p).1;have r:∀j c e,ops[j]?=Ã c->(listed.setIfInBounds i Ì).getD j É=Ì->e∈c.after->yt e=Ì->(listed.setIfInBounds i Ì).getD e.on É=Ì:=λj c e b f s t=>by
  rcases Qj f with rfl|q
  .let⟨_,n,d,g⟩:=ĉ.1 p;rw[b]at d;obtain rfl:=È d;exact ĝ<|g e s<|XO t
  .exact ĝ<|h.Y j c e b q s t
 have x:(listed.setIfInBounds i Ì).getD i É=Ì:=by
  have n:i<listed.size:=by grind
  simp[n]
 cases k:o.dst with
 |none=>
  refine⟨h.M,h.S,λd m=>h.b d λj c b f=>m j c b<|ĝ f,λj c d b f g=> ?_,r⟩;rcases Qj f with rfl|q
  .rw[l]at b;obtain rfl:=È b;rw[k]at g;cases g
  .exact h.r j c d b q g
 |some e=>
  refine⟨h.M,by simp[Ő,h.S],λd m=> ?_,λj c d b f g=> ?_,r⟩
  .simp only[Ő];rw[í (λq=>m i o l x<|by rw[k,q])];exact h.b d λj c b f=>m j c b<|ĝ f
  .simp only[Ő];rcases Qj f with rfl|q
   .rw[l]at b;obtain rfl:=È b;rw[k]at g;obtain rfl:=È g;have n:e<a.tmps.size:=by rw[h.S];exact ahp u l k
    simp[n,(w<|by rw[k];simp)]
   .have n:e≠d:=by
     grind [ahq]
    rw[í n];exact h.r j c d b q g
def mK.XP(h:mK ops t0 val listed a){b:Nat->ã}(e:∀j,listed.getD j É=Ì->b j=val j):mK ops t0 b listed a:= ⟨h.M,h.S,h.b,λj o d f c g=>(by rw[e j c];exact h.r j o d f c g),h.Y⟩
theorem ie{md:Ý}(h:i∈Ò md ops listed)(b:ops[i]?=Ã o)(c:o.after.toList.any (λe=>e.on==j&&yt e)=Ì):listed.getD j É=Ì:=by let⟨_,f,a,g⟩:=ĉ.1 h;rw[b]at a;obtain rfl:=È a;let⟨e,k,d⟩:=Ŀ.1 c;simp only[ŀ,beq_iff_eq]at d;grind [XO]
def mK.I(h:mK ops t0 val listed a)(c:ops[i]?=Ã o)(d:listed.getD i É=Ì)(f:o.after.toList.any (λe=>e.on==j&&yt e)=Ì):listed.getD j É=Ì:=by let⟨e,g,b⟩:=Ŀ.1 f;simp only[ŀ,beq_iff_eq]at b;rw[<-b.1];exact h.Y i o e c d (Ī.1 g) b.2
theorem wA(h:listed.getD i Ì=É):¬listed.getD i É=Ì:=by grind
def XQ(md:Ý)(ops:Array Ĭ):List Nat->List Nat->Bool
 |[],_=>Ì
 |i::r,seen=>(match ops[i]? with|some o=>o.after.toList.all (λe=> !Region.binds md e||seen.contains e.on)|none=>É)&&XQ md ops r (i::seen)
theorem pG{md:Ý}(h:Ò md ops listed=[])(l:listed.size=ops.size):∀(b a:List Nat),XQ md ops b a=Ì->(∀i∈a,listed.getD i É=Ì)->∀i∈b,listed.getD i É=Ì:=by
 intro b
 induction b with
 |nil=>intro a _ _ i c;cases c
 |cons j r m=>
  intro a n p i c;let⟨d,s⟩:=Bool.and_eq_true_iff.1 (show(_&&_)=Ì from n);have f:listed.getD j É=Ì:=by
   split at d
   .rename_i o g;have v:j<listed.size:=by rw[l];exact(Õ.1 g).1
    by_cases t:listed.getD j Ì=É
    .have:j∈Ò md ops listed:=ĉ.2 ⟨t,o,g,λe w x=>by
      grind⟩
     grind
    .grind
   .cases d
  rcases š.1 c with rfl|q
  .exact f
  .exact m (j::a) s (λk u=>(š.1 u).elim (λe=>e▸f)<|p k) i q
def mK.G(t:Array ã)(val:Nat->ã)(n:Nat):mK ops t val (ê n É) ⟨t,[]⟩:=by
 have a:∀j,¬(ê n É).getD j É=Ì:=λj q=>by rcases ģ j n with z|z;all_goals simp_all
 exact⟨U,U,λ_ _=>rfl,λj _ _ _ z=>absurd z<|a j,λj _ _ _ z=>absurd z<|a j⟩
theorem CY{md:Ý}(h:i∈Ò md ops listed):i<ops.size:=by let⟨_,o,a,_⟩:=ĉ.1 h;grind
def Qk{md:Ý}(h:i∈Ò md ops listed):listed.getD i Ì=É:=(ĉ.1 h).1
end
theorem ahr(h:a.spot.isSome=Ì):w.cell? a=Í:=by unfold World.cell?;grind
theorem AG{x y:Č}(b:x.spot=Í)(h:y≠x):(w.setCell x v).cell? y=w.cell? y:=by
 by_cases c:y.spot.isSome=Ì
 .grind [ahr]
 .apply xV;let⟨d,e,f⟩:=x;let⟨g,i,a⟩:=y;simp only at b c|-;have:a=Í:=by cases a<;>simp_all
  grind
section
variable{J:Jd}{l:fe}{b:ø}{a:ō}{cs:List ø}{ops:Array Ĭ}
theorem XR(b:p.spot=Í)(d:(w.cell? p).isSome=Ì)(f:(u.cell? p).isSome=Ì)(r:fI l w u):fI l (w.setCell p v) (u.setCell p v):=by
 refine⟨by rw[jP,jP];exact r.r,λj c=> ?_,λy a=> ?_,λy a=> ?_,λy a h=> ?_⟩
 .by_cases e:j=p.block
  .subst e;unfold World.setCell;simp only[Array.getElem?_modify];rw[r.I _ c]
  .rw[kX e,kX e];exact r.I j c
 .by_cases e:y=p
  .grind [ü,z8]
  .rw[AG b e,AG b e];exact r.N y a
 .rw[rR,rR];exact r.Y y a
 .by_cases e:y=p
  .grind [xW]
  .rw[AG b e]at h|-;exact r.S y a h
def XS(f:p.spot=Í)(g:∀j,l.O j->j<w.heap.size)(i:¬l.q)(c:pF l p)(d:∀e∈V,wz l e):mh l {l with w:=w.setCell p v} w (w.setCell p v) V:=by
 refine⟨by rw[jP];exact Ç _,λ_ h=>À h,λj k=>by rw[jP];exact g j k,U,U,U,U,λj _ a b=>kX λe=>c.elim (λq=>a<|e▸q) λq=>b p e.symm q,λy _ a b=>AG f λe=> ?_,λ_ _ _=>NM,U,U,U,λe h=>(d e h).1,(JQ d _).symm,U,λq=>absurd q i,U⟩
 .subst e;exact c.elim a b
def ahs(m:ops[i]?=Ã o)(n:á o (Ĩ ops a.tmps)=Ì)(s:b.kind≠Đ)(t:j2 l)(u:¬l.q)(g:p.spot=Í)(c:pF l p)(j:(l.w.cell? p).isSome=Ì)(y:o.dst=Í)(z:l.w.frozen? p=É) (B:∀w,(w.cell? p).isSome=Ì->w.frozen? p=É->(Þ a.eval o).run P w=.ok .skip (w.setCell p v)) (C:∀w,(w.cell? p).isSome=Ì->w.frozen? p=É->(Þ a.eval o).events P w #[]=#[⟨ú p,Ì,É⟩]) (D:fj P yQ J {l with w:=l.w.setCell p v} (G (b.at a<|Æ ops jJ::L) cs)):fj P yQ J l (G (b.at a<|Æ ops (i::jJ)::L) cs):=by
 refine uY m n s λd r=> ?_;have f:(d.cell? p).isSome=Ì:=by rwa[c.C.r r]
 have k:d.frozen? p=É:=by rw[<-z];exact c.C.elim (λq=>vV<|r.I _ q)<|r.Y p
 rw[B d f k];refine⟨_,XS g (mq t r) u c λe h=> ?_,?_⟩
 .have:=Ι h;rw[C d f k]at this;have:e=⟨ú p,Ì,É⟩:=by simpa using this
  subst this;exact c.r
 .have:(a.put o.dst Â)=a:=by rw[y];rfl
  rw[this];exact D.jS<|yn<|XR g j f r
end
def lU(l:fe):fe:={l with O:=λ_=>False,I:=l.M,r:=λ_=>False,N:=l.C}
def qi(l x:fe):fe:={x with O:=λb=>x.O b\/l.O b,I:=l.I,r:=l.r,N:=l.N}
structure kj(l l':fe):Prop where
 O:∀j,l.O j->l'.O j
 a:∀j,l'.O j->l.O j\/l.w.heap.size<=j
 I:l'.I=l.I
 N:l'.r=l.r
 Y:l'.N=l.N
 K:l'.K=l.K
 q:l'.q=l.q
 r:fI l l.w l'.w
 fv:j2 l'
theorem kj.fT{l:fe}(h:j2 l):kj l l:=⟨λ_ h=>h,λ_ h=>À h,U,U,U,U,U,fI.fT _ _,h⟩
def kj.C{l a:fe}(h:kj l a):a.C=l.C:=by unfold fe.C;rw[h.N,h.Y]
def kj.M{l a:fe}(h:kj l a)(c:l.M b):a.M b:=c.imp (h.O b)<|by rw[h.I];exact id
def kj.G{l d:fe}(h:kj l d)(r:fI d w u):fI l w u:=⟨r.r,λj e=>r.I j<|h.M e,λx b=>r.N x (by rwa[h.C]),λx b=>r.Y x (by rwa[h.C]),λx b=>r.S x<|by rwa[h.K]⟩
def kj.S{l a:fe}(h:kj l a)(r:fI a a.w u):kj l {a with w:=u}:= ⟨h.O,h.a,h.I,h.N,h.Y,h.K,h.q,h.r.fh<|h.G r,mq h.fv r⟩
def gw.jS{l:fe}(s:gw l){w₁:Ð}(h:l.w.heap.size<=w₁.heap.size):gw {l with w:=w₁}:= ⟨s.c,s.Y,s.N,λb d=>Ê (s.fv b d) h,λa c=>Ê (s.I a c) h,λa c=>let⟨e,f,g⟩:=s.S a c;⟨e,Ê f h,g⟩⟩
def gw.r{l:fe}(s:gw l):j2 l:=λj a=>s.fv j<|À a
section
variable{J:Jd}
theorem aht{l x:fe}(d:x.I=l.M)(g:x.r=λ_=>False)(f:x.N=l.C){e:đ}(h:xS x e):xS (qi l x) e:=by
 rcases h with⟨a,b,c⟩|h|h|h|h|⟨a,b,c⟩
 .refine À ⟨a,b,?_⟩;rcases c with q|q|⟨q|q,z⟩
  .exact À<|À q
  .grind
  .rw[d]at q;rcases q with q|q
   .exact À<|Á q
   .exact Á<|Á ⟨À q,z⟩
  .rw[f]at q;rcases q with q|q
   .exact Á<|À q
   .exact Á<|Á ⟨Á q,z⟩
 .exact Á<|À h
 .exact Á<|Á<|À h
 .exact Á<|Á<|Á<|À h
 .exact Á<|Á<|Á<|Á<|À h
 .exact Á<|Á<|Á<|Á<|Á ⟨a,À b,c⟩
def XT{l x:fe}(a:x.I=l.M):(qi l x).M=x.M:=by
 funext b;refine propext ⟨λh=> ?_,λh=> ?_⟩
 .rcases h with(q|q)|q
  .exact À q
  .exact Á<|by rw[a];exact À q
  .exact Á<|by rw[a];exact Á q
 .rcases h with q|q
  .exact À<|À q
  .rw[a]at q;exact q.elim (λz=>À<|Á z) Á
theorem JS{l x:fe}(c:x.r=λ_=>False)(b:x.N=l.C):(qi l x).C=x.C:=by
 funext a;refine propext ⟨λh=>Á (by rwa[b]),λh=> ?_⟩;rcases h with q|q
 .grind
 .rwa[b]at q
def fj.ahu{l:fe}(s:gw l){x:fe}(h:fj P yQ J x g):x.I=l.M->x.r=(λ_=>False)->x.N=l.C->x.K=l.K->x.q=l.q->fI l l.w x.w->(∀j,x.O j->l.w.heap.size<=j)->j2 x-> fj P yQ (λb c=>∃a,J a c/\b=qi l a/\kj l b/\a.I=l.M/\a.N=l.C/\a.r=λ_=>False) (qi l x) g:=by
 induction h with
 |@fB x g h=>
  intro m f d o B p v E;refine .fB λc r=>⟨{x with w:=c},(h c ⟨r.r,λj b=>r.I j (by rwa[XT m]),λy a=>r.N y (by rwa[JS f d]),λy a=>r.Y y (by rwa[JS f d]),r.S⟩),U,?_,m,d,f⟩
  .refine⟨λj b=>Á b,λj b=>b.elim (λq=>Á<|v j q) À,U,U,U,o,B,p.fh ⟨r.r,λj b=>r.I j (b.elim (λq=>À<|Á q) Á),λy a=>r.N y a,λy a=>r.Y y a,λy a=>r.S y ?_⟩,λj b=> ?_⟩
   .show x.K y;rwa[o]
   .refine Ê ?_ r.r;rcases b with q|q
    .exact E j q
    .exact Ê (s.fv j<|À q) p.r
 |@jF x g G' W' E' L' iI h hd _ ih=>
  intro m f d o B p v E;refine .mk iI λc r=> ?_;have i:fI x x.w c:=⟨r.r,λj b=>r.I j (by rwa[XT m]),λy a=>r.N y (by rwa[JS f d]),λy a=>r.Y y (by rwa[JS f d]),r.S⟩;have D:=hd c i;have n:=Ø p.r i.r;have z:∀j,j<l.w.heap.size->¬x.O j:=λj b q=>by have:=v j q;omega
  have t:∀y:Č,¬x.r y:=λy q=>by rwa[f]at q
  have F:fI l c (W' c):=⟨D.C,λj b=>D.jL j (Ê (s.fv j b) n) (z j<|s.fv j b) λy _=>t y,λy a=>D.N y (Ê (s.I y a) n) (z _<|s.I y a)<|t y,λy a=>I3<|D.Y y (Ê (s.I y a) n)<|z _<|s.I y a,λy a q=>by rwa[D.N y (Ê (s.S y a).2.1 n) (z _ (s.S y a).2.1)<|t y]⟩;refine⟨G' c,W' c,E' c,qi l<|L' c,h c i,?_,(ih c i (D.I.trans m) (D.r.trans f) (D.M.trans d) (D.k.trans o) (D.q.trans B) (by rw[D.b];exact(p.fh ⟨i.r,λj b=>i.I j (Á<|by rwa[m]),λy a=>i.N y (Á<|by rwa[d]),λy a=>i.Y y (Á<|by rwa[d]),λy a=>i.S y<|by rwa[o]⟩).fh F) (λj b=>(D.S j b).elim (v j) λq=>Ø n q) λj b=>by rw[D.b];exact D.fv j b)⟩
  .refine⟨D.C,λj b=> ?_,λj b=> ?_,U,U,U,D.k,λj b u G=>D.jL j b (λq=>u<|À q) λy _=>t y,λy a u G=>D.N y a (λq=>u<|À q)<|t y,λy a u=>D.Y y a λq=>u<|À q,D.f,D.g,D.m,λe H=>aht (D.I.trans m) (D.r.trans f) (D.M.trans d)<|D.c e H,D.h,D.q,λI=> ?_,D.b⟩
   .rcases b with q|q
    .exact(D.S j q).imp À id
    .exact À<|Á q
   .rcases b with q|q
    .exact D.fv j q
    .exact Ê (s.fv j<|À q)<|Ø n D.C
   .let⟨L,N,Q⟩:=D.i I;exact⟨L,N,by funext j;show((L' c).O j\/l.O j)=(x.O j\/l.O j);rw[Q]⟩
theorem fj.lU{l:fe}(s:gw l)(h:fj P yQ J (fA.lU l) g):fj P yQ (λe j=>∃b,J b j/\e=qi l b/\kj l e/\b.I=l.M/\b.N=l.C/\b.r=λ_=>False) l g:=by
 have:=h.ahu s U U U U U (fI.fT _ _) (λj q=>q.elim) λj q=>q.elim;have e:qi l (fA.lU l)=l:=by
  have:(λb=>False\/l.O b)=l.O:=by funext b;simp
  unfold qi fA.lU;simp only[this]
 grind
end
structure iC(E:Č->Prop)(l l':fe):Prop where
 O:∀j,l.O j->l'.O j
 h:∀j,l'.O j->l.O j\/l.w.heap.size<=j
 Y:l'.I=l.I
 I:l'.r=l.r
 c:l'.N=l.N
 K:l'.K=l.K
 q:l'.q=l.q
 d:l'.d=l.d
 fv:j2 l'
 f:l.w.heap.size<=l'.w.heap.size
 r:∀j,l.M j->l'.w.heap[j]?=l.w.heap[j]?
 e:∀a,l.C a->¬E a->l'.w.cell? a=l.w.cell? a
 S:∀a,l.C a->l'.w.frozen? a=l.w.frozen? a
 b:∀a,l.K a->(l.w.cell? a).isSome=Ì->(l'.w.cell? a).isSome=Ì
 g:∀a,E a->(l.w.cell? a).isSome=Ì->(l'.w.cell? a).isSome=Ì
section
variable{E:Č->Prop}{l l' l'':fe}
theorem iC.fT(h:j2 l):iC E l l:=⟨λ_ h=>h,λ_ h=>À h,U,U,U,U,U,U,h,Ç _,λ_ _=>rfl,λ_ _ _=>rfl,λ_ _=>rfl,λ_ _ h=>h,λ_ _ h=>h⟩
def iC.C(h:iC E l l'):l'.C=l.C:=by unfold fe.C;rw[h.I,h.c]
def iC.M(h:iC E l l')(a:l.M b):l'.M b:=a.imp (h.O b)<|by rw[h.Y];exact id
def iC.CZ(h:iC E l l')(f:∀a,E a->l.r a)(k:kj l' l'')(g:l''.d=l'.d):iC E l l'':=by have e:=h.C;refine⟨λj c=>k.O j<|h.O j c,λj c=>(k.a j c).elim (h.h j) λq=>Á<|Ø h.f q,k.I.trans h.Y,k.N.trans h.I,k.Y.trans h.c,k.K.trans h.K,k.q.trans h.q,g.trans h.d,k.fv,Ø h.f k.r.r,λj c=>(k.r.I j<|h.M c).trans<|h.r j c,λa b i=>(k.r.N a<|by rwa[e]).trans<|h.e a b i,λa b=>(k.r.Y a<|by rwa[e]).trans<|h.S a b,λa b q=>k.r.S a (by rwa[h.K])<|h.b a b q,λa b q=> ?_⟩;rw[k.r.N a (by rw[e];exact À<|f a b)];exact h.g a b q
def iC.N(h:iC E l l')(b:∀a,E a->l.r a)(r:fI l' l'.w u):iC E l {l' with w:=u}:= h.CZ b (l'':={l' with w:=u}) ((kj.fT h.fv).S r) U
def iC.p7(h:iC E l l')(s:gw l)(i:∀a,E a->l.r a){x:Č}(f:E x)(k:x.spot=Í)(m:(l'.w.cell? x).isSome=Ì):iC E l {l' with w:=l'.w.setCell x v}:=by
 refine⟨h.O,h.h,h.Y,h.I,h.c,h.K,h.q,h.d,λj c=> ?_,?_,λj c=>(kX λe=>s.N x (À<|i x f)<|e▸c).trans<|h.r j c,λa b g=>((AG k λe=>g<|by rwa[e]).trans<|h.e a b g),λa b=>rR.trans<|h.S a b,λa b q=>xW<|h.b a b q,λa b q=>xW<|h.g a b q⟩
 .show j<(l'.w.setCell x v).heap.size;rw[jP];exact h.fv j c
 .show l.w.heap.size<=(l'.w.setCell x v).heap.size;rw[jP];exact h.f
def iC.G(h:iC E l l')(s:gw l):gw l' where
 c b hb:=by
  rw[h.Y];rcases h.h b hb with q|q
  .exact s.c b q
  .exact λz=>by have:=s.fv b<|Á z;omega
 Y a ha:=by rw[h.c];exact s.Y a<|by rwa[<-h.I]
 N a ha hb:=by
  rw[h.C]at ha;rcases hb with q|q
  .rcases h.h _ q with z|z
   .exact s.N a ha<|À z
   .have:=s.I a ha;omega
  .rw[h.Y]at q;exact s.N a ha<|Á q
 fv b hb:=by
  rcases hb with q|q
  .exact h.fv b q
  .rw[h.Y]at q;exact Ê (s.fv b<|Á q) h.f
 I a ha:=by rw[h.C]at ha;exact Ê (s.I a ha) h.f
 S a ha:=by
  rw[h.K]at ha;let⟨c,d,e⟩:=s.S a ha;refine⟨λq=> ?_,Ê d h.f,by rwa[h.I]⟩;rcases q with q|q
  .rcases h.h _ q with z|z
   .exact c<|À z
   .omega
  .rw[h.Y]at q;exact c<|Á q
end
section
variable{X:Type}{g:Array ã}{c:X->Nat->ã}{m:Array Bool->X->fe->Prop}{l:fe}{b:ø}{a:ō}{k:List Ţ}{cs:List ø}{x:X}
def II(Q:Array Ĭ)(g:Array ã)(c:X->Nat->ã)(m:Array Bool->X->fe->Prop)(wJ:Array Bool)(a:ō)(l:fe):Prop:=∃x,mK Q g (c x) wJ a/\m wJ x l
def JU(a:o.guard=Í)(y:Nat->Option Bool):á o y=Ì:=by unfold á;rw[a]
def ij(h:tJ Q g.size=Ì)(j:mK Q g (c x) wJ a)(f:Q[i]?=Ã o)(n:o.guard=Í){md:Ý}(p:i∈Ò md Q wJ)(s:b.kind≠Đ)(t:j2 l)(u:¬l.q) (v:∀d,fI l l.w d->(Þ a.eval o).run P d=.ok (.value<|c x i) d) (y:∀d,fI l l.w d->∀e∈(Þ a.eval o).events P d #[],wz l e) (z:∀d,fI l l.w d->m (wJ.setIfInBounds i Ì) x {l with w:=d}): fj P yQ (λB C=>∃r,C=G (b.at r<|Æ Q jJ::k) cs/\II Q g c m (wJ.setIfInBounds i Ì) r B) l (G (b.at a<|Æ Q (i::jJ)::k) cs):= tH f (JU n _) s t u v y<|.fB λd r=>⟨_,U,x,j.gf h f p λ_=>rfl,z d r⟩
def Ql(h:tJ Q g.size=Ì)(j:mK Q g (c x) wJ a)(f:Q[i]?=Ã o)(n:o.guard=Í)(e:o.dst=Í){md:Ý}(p:i∈Ò md Q wJ)(s:b.kind≠Đ)(t:j2 l)(u:¬l.q){y:Č}(z:y.spot=Í)(B:pF l y)(C:(l.w.cell? y).isSome=Ì)(D:l.w.frozen? y=É) (E:∀w,(w.cell? y).isSome=Ì->w.frozen? y=É->(Þ a.eval o).run P w=.ok .skip (w.setCell y v)) (F:∀w,(w.cell? y).isSome=Ì->w.frozen? y=É->(Þ a.eval o).events P w #[]=#[⟨ú y,Ì,É⟩]) (H:∀d,fI l (l.w.setCell y v) d->m (wJ.setIfInBounds i Ì) x {l with w:=d}): fj P yQ (λI J=>∃r,J=G (b.at r<|Æ Q jJ::k) cs/\II Q g c m (wJ.setIfInBounds i Ì) r I) l (G (b.at a<|Æ Q (i::jJ)::k) cs):=by refine ahs f (JU n _) s t u z B C e D E F (.fB λd r=>⟨_,U,x,?_,H d<|yn r⟩);have:=j.gf h f p (v:=Â) λq=>absurd e q;rwa[e]at this
theorem XU(q:tJ Q g.size=Ì)(s:mK Q g (c x) wJ a)(p:Q[i]?=Ã o)(t:o.guard=Í){md:Ý}(u:i∈Ò md Q wJ)(v:b.kind≠Đ)(y:j2 l){f:Ĵ}{args:Array ã} (z:∀w,(Þ a.eval o).run P w=.ok (.enter f args) w) (B:∀w,(Þ a.eval o).events P w #[]=#[]) (C:∀d,fI l l.w d->fj P yQ (λh n=>∃e,n=G ((b.at a<|Æ Q (i::jJ)::k).finish<|c e i) cs/\m (wJ.setIfInBounds i Ì) e h/\∀j,wJ.getD j É=Ì->c e j=c x j) {l with w:=d} (G (Ŷ P f args .normal)<|b.at a (Æ Q (i::jJ)::k)::cs)): fj P yQ (λh n=>∃r,n=G (b.at r<|Æ Q jJ::k) cs/\II Q g c m (wJ.setIfInBounds i Ì) r h) l (G (b.at a<|Æ Q (i::jJ)::k) cs):=by
 refine .mk U λd r=>⟨G (Ŷ P f args .normal)<|b.at a (Æ Q (i::jJ)::k)::cs,d,#[],{l with w:=d},?_,ON d<|mq y r,?_⟩
 .rw[ŵ p (JU t _) v<|z d];unfold η;rw[B d,Ć]
 .refine(C d r).fN ?_;rintro h n ⟨e,rfl,D,E⟩;refine⟨a.put o.dst<|c e i,?_,e,(s.XP E).gf q p u λ_=>rfl,D⟩;grind [ĩ]
end
end Go.Proofs.Y.fA
namespace Go.Proofs.YtgpphkdoanciiaaGreatDoor
open Go Go.Conc Go.Conc.Lib
def Lk:ě:={add:=62,done:=65,wait:=53,relMerge:=105,disable:=68,enable:=70,inBubble:=76,associate:=106,fatal:=107,uOr:=108,uAdd:=109,raceRead:=110,uLoad:=69,uStore:=111,disassociate:=74,semrelease:=112,acquire:=71,isAssociated:=72,uCas:=73,raceWrite:=75,semacquire:=77,orU64:=150,addU64:=151,loadU64:=127,storeU64:=152,casU64:=128,tWgP:=162,tUP:=170,tAssoc:=202,tWg:=97,tAU:=94,tU64:=36,tUint:=168,tU32:=95,tPU32:=174,tPAU:=219,tPU64:=221,tNoCopy:=90,tANoCopy:=91,tAlign64:=92}
def qj:Ŕ ī Lk where
 f_add:=Tryz.func62;f_done:=Tryz.func65;f_wait:=Tryz.func53;f_relMerge:=Tryz.func105;f_disable:=Tryz.func68;f_enable:=Tryz.func70;f_inBubble:=Tryz.func76;f_associate:=Tryz.func106;f_fatal:=Tryz.func107;f_uOr:=Tryz.func108;f_uAdd:=Tryz.func109;f_raceRead:=Tryz.func110;f_uLoad:=Tryz.func69;f_uStore:=Tryz.func111;f_disassociate:=Tryz.func74;f_semrelease:=Tryz.func112;f_acquire:=Tryz.func71;f_isAssociated:=Tryz.func72;f_uCas:=Tryz.func73;f_raceWrite:=Tryz.func75;f_semacquire:=Tryz.func77;f_orU64:=Tryz.func150;f_addU64:=Tryz.func151;f_loadU64:=Tryz.func127;f_storeU64:=Tryz.func152;f_casU64:=Tryz.func128;underlying_tWgP:=Tryz.underlying162;runUnderlying_tWgP:=Tryz.runUnderlying162;sizeOf_tWgP:=Tryz.sizeOf162;isAgg_tWgP:=Tryz.isAgg162;zeroValue_tWgP:=Tryz.zeroValue162;underlying_tUP:=Tryz.underlying170;runUnderlying_tUP:=Tryz.runUnderlying170;sizeOf_tUP:=Tryz.sizeOf170;isAgg_tUP:=Tryz.isAgg170;zeroValue_tUP:=Tryz.zeroValue170;underlying_tI32:=Tryz.underlying202;runUnderlying_tI32:=Tryz.runUnderlying202;sizeOf_tI32:=Tryz.sizeOf202;isAgg_tI32:=Tryz.isAgg202;zeroValue_tI32:=Tryz.zeroValue202;underlying_tWg:=Tryz.underlying97;runUnderlying_tWg:=Tryz.runUnderlying97;sizeOf_tWg:=Tryz.sizeOf97;isAgg_tWg:=Tryz.isAgg97;zeroValue_tWg:=Tryz.zeroValue97;underlying_tAU:=Tryz.underlying94;runUnderlying_tAU:=Tryz.runUnderlying94;sizeOf_tAU:=Tryz.sizeOf94;isAgg_tAU:=Tryz.isAgg94;zeroValue_tAU:=Tryz.zeroValue94;underlying_tU64:=Tryz.underlying36;runUnderlying_tU64:=Tryz.runUnderlying36;sizeOf_tU64:=Tryz.sizeOf36;isAgg_tU64:=Tryz.isAgg36;zeroValue_tU64:=Tryz.zeroValue36;underlying_tSh:=Tryz.underlying168;runUnderlying_tSh:=Tryz.runUnderlying168;sizeOf_tSh:=Tryz.sizeOf168;isAgg_tSh:=Tryz.isAgg168;zeroValue_tSh:=Tryz.zeroValue168;underlying_tU32:=Tryz.underlying95;runUnderlying_tU32:=Tryz.runUnderlying95;sizeOf_tU32:=Tryz.sizeOf95;isAgg_tU32:=Tryz.isAgg95;zeroValue_tU32:=Tryz.zeroValue95;underlying_tPU32:=Tryz.underlying174;runUnderlying_tPU32:=Tryz.runUnderlying174;sizeOf_tPU32:=Tryz.sizeOf174;isAgg_tPU32:=Tryz.isAgg174;zeroValue_tPU32:=Tryz.zeroValue174;underlying_tPAU:=Tryz.underlying219;runUnderlying_tPAU:=Tryz.runUnderlying219;sizeOf_tPAU:=Tryz.sizeOf219;isAgg_tPAU:=Tryz.isAgg219;zeroValue_tPAU:=Tryz.zeroValue219;underlying_tPU64:=Tryz.underlying221;runUnderlying_tPU64:=Tryz.runUnderlying221;sizeOf_tPU64:=Tryz.sizeOf221;isAgg_tPU64:=Tryz.isAgg221;zeroValue_tPU64:=Tryz.zeroValue221;underlying_t0:=Tryz.underlying0;runUnderlying_t0:=Tryz.runUnderlying0;sizeOf_t0:=Tryz.sizeOf0;isAgg_t0:=Tryz.isAgg0;zeroValue_t0:=Tryz.zeroValue0;underlying_t3:=Tryz.underlying3;runUnderlying_t3:=Tryz.runUnderlying3;sizeOf_t3:=Tryz.sizeOf3;isAgg_t3:=Tryz.isAgg3;zeroValue_t3:=Tryz.zeroValue3;underlying_t4:=Tryz.underlying4;runUnderlying_t4:=Tryz.runUnderlying4;sizeOf_t4:=Tryz.sizeOf4;isAgg_t4:=Tryz.isAgg4;zeroValue_t4:=Tryz.zeroValue4;underlying_t9:=Tryz.underlying9;runUnderlying_t9:=Tryz.runUnderlying9;sizeOf_t9:=Tryz.sizeOf9;isAgg_t9:=Tryz.isAgg9;zeroValue_t9:=Tryz.zeroValue9;underlying_t20:=Ĺ;runUnderlying_t20:=Tryz.runUnderlying20;sizeOf_t20:=Tryz.sizeOf20;isAgg_t20:=Tryz.isAgg20;zeroValue_t20:=Tryz.zeroValue20;underlying_t21:=Tryz.underlying21;runUnderlying_t21:=Tryz.runUnderlying21;sizeOf_t21:=Tryz.sizeOf21;isAgg_t21:=Tryz.isAgg21;zeroValue_t21:=Tryz.zeroValue21;room_tWg:=by decide+kernel
 room_tU32:=by decide+kernel
end Go.Proofs.YtgpphkdoanciiaaGreatDoor
namespace Go.Proofs.Y.fA
open Go Go.Conc Go.Proofs.Y.Lift Go.RowKit Go.Conc.Lib Go.ConcR.Gen
open Go.Proofs Go.Proofs.YtgpphkdoanciiaaGreatDoor
def XV:Array Ĭ:=#[⟨Ã 3,.load 1<|ß 1,1, "waitgroup.go:258",#[],Í⟩,
 ⟨Ã 4,Ŭ {callee:=.value (ß 3),args:=#[],argTypes:=#[]},0, "waitgroup.go:258",#[⟨0,ý⟩],Í⟩]
section
variable{Ψ:Ð->Prop}{l:fe}
def XW(b:l.K ⟨i,0,Í⟩/\l.K ⟨i,1,Í⟩)(c:lT Ψ l i)(a:SW Ψ l i l.w)(e:l.d=0)(f:¬l.q)(j:gW l ⟨n,0,Í⟩)(k:l.w.cell? ⟨n,0,Í⟩=Ã (ì<|Ã ⟨i,0,Í⟩)): fj ī É (λl g=>xY ī É i (CW ī) (kr l) g) l (G ((baseD 63).at ⟨#[ì<|Ã ⟨n,0,Í⟩,v,x,z,jQ],[oS 64 #[ì<|Ã ⟨n,0,Í⟩] #[]]⟩ [Æ XV []]) [nI ī]):=by
 apply gk (n:=30) a.1;have hF:=trivial;iterate 2 w_go fC
 u_c (ahf U ŷ fW U) fC hF
 walk_nrmf Tryz.f64;iterate 3 w_go fC
 u_c (ahe U U U U U U U) fC hF
 walk_nrm;have m:=λw g=>ahn 20 w g Ĺ;repeat w_go fC
 refine Î λ_ _=> ?_;apply nW U U (by k_ne) a.1 f j k (λw h=>by go_simp) (λw h=>by simp[go_sem,h]);walk_nrm;apply gk (n:=30) a.1;u_call qj.f_done (nm_done Lk) doneFn fC hF;refine Î λ_ _=> ?_;apply ag8 qj b c a e;walk_nrm;apply JO U λ_=>stepG_region_end;apply JO U λ_=>stepG_end;refine ahk U U ŷ U U<|ahj U U Tryz.func63 U
end
end Go.Proofs.Y.fA
