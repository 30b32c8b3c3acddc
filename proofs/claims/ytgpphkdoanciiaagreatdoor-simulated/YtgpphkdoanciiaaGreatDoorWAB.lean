import Derived.Test.YtgpphkdoanciiaaGreatDoorWAA
import Derived.Conc.WgGenN3
import Derived.Conc.MuWords
import Derived.Conc.CompanyDraw
import Derived.Test.YtgpphkdoanciiaaGreatDoorRows
import Derived.Conc.WgLib
set_option linter.all false
set_option maxRecDepth 1000000
set_option maxHeartbeats 8000000
open Or renaming inl->À,inr->Á
open Go renaming undef->Â,Goroutine->Ä,deafBehind->Ï,World->Ð,execOp->Þ,Value->ã,Trace->ä,stepG->è,Frame->ô,MemOp->Ă,mem_ready->ĉ,Addr->Č,Event->đ,getD_set_true->ĝ,Program->Ğ,yielded->Ĩ,Oper->Ĭ,TypeId->ĳ,FuncId->Ĵ,resolve->ĸ,goexitEntry->Ō,Act->ō,runT->Ŏ,invoke->ś,callFunc->Ŝ,Item->Ţ,callDeferred->Ū,Deferred->Ů,Operand->Ÿ,unwind->Η,Mark->Ο,runNT->Χ,Code->θ,Loc->π
open Option renaming some->Ã,none->Í,map_eq_some_iff->Ù,isSome_iff_exists->ü,getD_some->ć
open Go.GoStatus renaming running->Å,blocked->Ü,finished->å
open Go.Item renaming inRegion->Æ,code->ĵ,inBlock->ŏ,inLoop->Ρ
open Nat renaming le_refl->Ç,lt_of_lt_of_le->Ê,le_of_eq->Ô,le_trans->Ø,le_mul_of_pos_right->â,mul_le_mul_left->ï,lt_of_not_le->ñ,zero_le->ò,add_zero->ó,le_of_not_lt->ă,and_two_pow_sub_one_eq_mod->Ą,mul_le_mul_right->č,strongRecOn->Ď,add_mul_mod_self_right->ē,lt_or_ge->ģ,mod_eq_of_lt->ļ,mul_add->ł,mod_lt->ż
open Option.some renaming inj->È,injEq->Ķ
open Bool renaming false->É,true->Ì,and_eq_true->ŀ
open Go.MemAct renaming ofEvent->Ë,touch?->Ċ,mark->ė,start->į,go->ς
open Go.Conc.Goes renaming stop->Î
open Go.ConcN renaming sumTo->Ñ,wraps_u64_63->ø,sumTo_congr->Ł
open Go.Region renaming ready->Ò,Mode->Ý,wanted->á,binds->ū
open Go.IntKind renaming u64->Ó,u32->ç,i64->Ũ
open Array renaming getElem?_eq_some_iff->Õ,append_empty->Ú,getElem?_eq_getElem->é,replicate->ê,getElem?_setIfInBounds_ne->í,mem_toList_iff->Ī
open Go.Conc renaming mem_ofEvents->Ö,crowd->ð,semEvents->ö,woken->Ā,stepG_semrelease->ą,seen_none->Ć,stepG_markAt->Ē,stepG_mark0->Ę,stepG_load_atomic->ę,Goes->İ,deafBehind_still->ĺ,parked->Ļ,stepG_add_atomic->Ľ,stepG_value->Ń,rcase->œ,stepG_none->Ŗ,goes_go->ť,stepG_enter->ŵ,QuitsD->Ź,touch_mute->ź,stepG_oper->Ζ,mem_listed->Ι,Knows->Λ,listed->η,Deaf->κ
open Go.MemOp renaming ofEvents->Û
open Go.Operand renaming tmp->ß,const->ċ,func->ŧ
open Go.ConcR renaming DC0->à
open Go.ConcR.Gen renaming x_semrelease_b->æ,x_semrelease_n->Ĕ,x_semrelease_x->ĕ,x_semrelease_f->Ė,mayWake_entry->Ĝ,x_enable_n->Ĥ,x_enable_b->ĥ,x_enable_x->Ħ,x_enable_f->ħ,x_disable_n->ń,x_disable_b->Ņ,x_disable_x->ņ,x_disable_f->Ň,x_loadU64_n->ň,x_loadU64_b->ŉ,x_loadU64_x->Ŋ,x_loadU64_f->ŋ,x_semacquire_n->ŗ,x_semacquire_b->Ř,x_semacquire_x->ř,x_semacquire_f->Ś,body_wait->ţ,nm_uLoad->ů,x_acquire_n->Ű,x_acquire_b->ű,x_acquire_x->Ų,x_acquire_f->ų,x_addU64_n->Ž,x_addU64_b->ž,x_addU64_x->ſ,x_addU64_f->Α,x_casU64_n->Β,x_casU64_b->Γ,x_casU64_x->Δ,x_casU64_f->Ε
open Go.Value renaming int->ë,pointer->ì,nilIface->ā,tuple->ı
open Go.Mark renaming enable->î,disable->õ,releaseMerge->Į,acquire->ő,write->Υ
open Go.FrameMode renaming returning->ù
open Go.Loc renaming cell->ú,mark->ŭ
open Go.Region.linearise renaming go->û
open Go.Ground renaming data->ý,phase->ũ
open Go.Act renaming eval->þ,put->Ő
open Ne renaming symm->ÿ
open Go.Deferred renaming ofValue->Ĉ
open Go.Goroutine renaming again->ď
open Go.CallKind renaming early->Đ,deferred->ľ
open Go.GStep renaming after->Ě,go->ş
open Go.Conc.Lib renaming WgLink->ě,WgLib->Ŕ,uLoadFn->Ξ
open Go.Stepped renaming next->ğ
open List renaming all_eq_true->ġ,any_eq_true->Ŀ,mem_range->Ş,mem_cons->š,range->Κ
open Go.Code renaming region->Ģ,cond->Τ,block->ε,skip->ο
open Go.Frame renaming finish_at->ĩ,enter->Ŷ
open Go.Proofs.Tryz renaming prog->ī,underlying20->Ĺ,func64->ŷ
open Go.Op renaming move->Ŧ,call->Ŭ,equalIn->Θ,binOp->Ω
variable{i n j b k m J j9 j7 j6:Nat}{w u W jX:Ð}{v x z jQ:ã}{g:Ä}{a p:Č}{h c:Int}{e t T:ĳ}{d q:Array ã}{P:Ğ}{y:ō}{B:ByteArray}{X:Nat->Prop}{O:Option Č}{l:List ã}{yQ:Bool}{K H:ō->Ð->Prop}{o:Ĭ}{D:Nat->Nat}{E:Array Ä}{L:List Ţ}{jJ:List Nat}{qX:List ô}{qQ:Ÿ}{qJ:ä}{zX:π->Prop}{zQ:List Int}{zJ:Go.TypeInfo}{xX:Ÿ->ã}{xQ:Go.Tape}{xJ:Nat×Nat}{wX:θ}{wQ:Ă}{wJ:Array Bool}{vX:List ByteArray}{vQ:ã->Ð->Prop}{vJ:Go.Exit->ō->Ð->Prop}{yX:Ý}{Q:Array Ĭ}{f:ô}{V:Array đ}{F:Ĵ}{s:Go.Func}
namespace Go.Proofs.Y.ft
open Go Go.Conc Go.Proofs.Y.Lift
open Go.ConcN (sumTo)
section
variable{F:Ph}{E:fU F}{S:Nat->Jd}{tr:Nat->gu}{c:Nat->iA}{lot:Nat->e9}{gs:Array Ä}{w':Ð}{t u:ä}{sz:Nat}
def xc(h:F.M b):F.G (fM b)/\F.G (gW b):=⟨⟨b,h,À U⟩,⟨b,h,Á U⟩⟩
def xd(h:F.G a):E.Y a.block:=by obtain⟨b,c,rfl|rfl⟩:=h<;>exact À c
def iH.Y(L:iH F E lot sz w)(ok:F.Ok)(f:F.G a):∀i,i<sz->¬(lot i).C a:=by
 intro i g h;let⟨b,c,d⟩:=f;rcases L.gT i g a h with⟨k,_,e⟩|⟨p,_,e⟩
 .rcases d with rfl|rfl<;>simp[fM,gW,jf]at e
 .rcases d with rfl|rfl
  .simp only[fM,jm]at e;injection e with e1 _ _;exact ok.C<|e1▸c
  .simp only[gW,jm]at e;injection e with e1 _ _;exact ok.C<|e1▸c
def iH.sK(L:iH F E lot sz w)(c:Ps F E)(d:j+2<=E.r):∀i,i<sz->∀a:Č,a.block=E.I j->¬(lot i).C a:=by
 intro i f a b g;let⟨h,l,_⟩:=c.o j d;rcases L.gT i f a g with⟨k,m,e⟩|⟨p,_,e⟩
 .exact h<|by rw[<-b,e];exact Á ⟨k,m,U⟩
 .exact l<|by rw[<-b,e];rfl
def iH.agU(L:iH F E lot sz w):∀i,i<sz->∀a,(lot i).C a->a.spot=Í:=by intro i b a c;rcases L.gT i b a c with⟨k,_,rfl⟩|⟨p,_,rfl⟩<;>rfl
def iH.OX(L:iH F E lot sz w)(ok:F.Ok):∀i,i<sz->¬(lot i).r (jm F F.f):=by
 intro i a h;rcases L.gT i a _ (À h)with⟨k,b,e⟩|⟨p,c,e⟩
 .have:F.Y=F.I k:=by injection e
  exact ok.C<|by rw[this];exact Á ⟨k,b,U⟩
 .have:F.f=p:=by injection e
  exact c this.symm
structure Gd(F:Ph)(E:fU F)(lot:Nat->e9)(sz:Nat)(w w':Ð):Prop where
 Dj:w.heap.size<=w'.heap.size
 C:∀b,b<w.heap.size->¬E.Y b->(∀i,i<sz->¬(lot i).O b)->w'.heap[b]?=w.heap[b]?
 r:∀a:Č,((∃k,k<=F.m/\a=jf F.toFx k)\/∃p,a=jm F p)->(∀i,i<sz->¬(lot i).r a)->w'.cell? a=w.cell? a
 I:kV w' F.Y=kV w F.Y
 M:w'.os=w.os/\w'.output=w.output
def Wd.J5(W:Wd F E w)(H:gR F)(L:iH F E lot sz w)(a:Gd F E lot sz w w')(f:E.S.md<=F.m){d:GS}{e:Nat->GS}(g:ic w' F.C d)(h:∀k,k<=F.m->ic w' (F.I k) (e k))(i:∀j,j+2<=E.r->w'.heap[E.I j]?=w.heap[E.I j]?):Wd F {E with b:=d,a:=e} w' where
 C:=g;I:=h;jG j hj:=by have:=W.jG j hj;rwa[<-i j hj]at this
 M k hk:=⟨(W.M k hk).1,H.S _ _ _ _ _ (W.M k hk).2 (λb c=>a.C b (L.I k hk b c).1 (L.I k hk b c).2.1 (L.I k hk b c).2.2) (a.r _ (À ⟨k,Ø hk f,U⟩)<|L.N k hk) (a.r _ (Á ⟨_,U⟩)<|L.OX H.C) a.I a.M⟩;S k h1 h2:=(a.r _ (Á ⟨_,U⟩)<|L.g k h1 h2).trans<|W.S k h1 h2;N j hj r hr hd:=(a.r _ (Á ⟨_,U⟩)<|L.d j hj r hr hd).trans<|W.N j hj r hr hd
def J6(a:Ps F E):E.S.md<=F.m:=by
 cases h:E.S with
 |kO k=>exact(a.I k).1 h
 |mk k=>have:=((a.I k).2.1 h).2;simp only[jx.md];omega
 |dn k p=>exact((a.I k).2.2 p h).2
def J7(a:Ps F E):E.S.rl<=E.S.md:=by
 cases h:E.S with
 |dn k p=>cases p<;>simp only[jx.rl,jx.md]<;>omega
 |_=>exact Ç _
def OY(a:jx):a.od<=a.rl:=by
 cases a with
 |dn k p=>cases p<;>simp only[jx.rl,jx.od]<;>omega
 |_=>exact Ç _
def XK{x:Nat}(h:E.iy x):E.ou x:=by let⟨e,a,b⟩:=h;exact⟨e,a,by cases e<;>first|exact b|trivial⟩
def J8{l a:e9}(h:l=kC l)(b:mE l a w w' V):a=kC a:=by
 have j:l.q:=by rw[h];trivial
 have c:a.O=λ_=>False:=by rw[(b.h j).2.2,h];rfl
 have e:a.I=λ_=>False:=by rw[b.rd,h];rfl
 have f:a.r=λ_=>False:=by rw[b.r,h];rfl
 have g:a.N=λ_=>False:=by rw[b.I,h];rfl
 have i:a.q=True:=by rw[b.q,h];rfl
 obtain⟨O,k,m,n,d,q,o⟩:=a;simp only at c e f g i;subst c e f g i;rfl
theorem iH.fl(L:iH F E lot gs.size w)(C:iR F.S (λi=>i<gs.size) E.Y lot w t){m:e9}(J:i<gs.size)(d:mE (lot i) m w w' V):iH F E (gq lot i m) gs.size w':=by
 have K:∀x,E.ou x->i=F.L+x->m=kC m:=λx p e=>J8 (e▸L.S x p) d;have M:=λc l=>J8 (L.c i c l) d;have B:∀k a,(gq lot i m k).C a↔(lot k).C a:=λk a=>by
  by_cases e:k=i
  .subst e;rw[gU];unfold e9.C;rw[d.r,d.I]
  .rw[gF lot _ e]
 have n:∀k,(gq lot i m k).r=(lot k).r:=λk=>by
  by_cases e:k=i
  .subst e;rw[gU,d.r]
  .rw[gF lot _ e]
 have s:∀k,(gq lot i m k).N=(lot k).N:=λk=>by
  by_cases e:k=i
  .subst e;rw[gU,d.I]
  .rw[gF lot _ e]
 have u:∀k,(gq lot i m k).I=(lot k).I:=λk=>by
  by_cases e:k=i
  .subst e;rw[gU,d.rd]
  .rw[gF lot _ e]
 refine⟨λk f a v=>L.gT k f a<|(B k a).1 v,λx c l a v=>by rw[n];exact L.o x c l a v,λh=>by rw[s,u];exact L.lU h,λh k c l=>by rw[n];exact L.e h k c l,λh o=>by rw[s,u];exact L.f h o,λj g o r y c=>by rw[n];exact L.h j g o r y c,λj g o=>by rw[s,u];exact L.l j g o,λx p=> ?_,λk f=> ?_,λk c l=> ?_,λk f b D=> ?_,λk f j g=>by rw[n];exact L.N k f j g,λk c l j g=>by rw[n];exact L.g k c l j g,λj g r y G k f=>by rw[n];exact L.d j g r y G k f⟩
 .by_cases e:F.L+x=i
  .grind [gU]
  .rw[gF lot _ e];exact L.S x p
 .by_cases e:k=i
  .subst e;rw[gU,d.q];exact L.M k f
  .rw[gF lot _ e];exact L.M k f
 .by_cases e:k=i
  .grind [gU]
  .rw[gF lot _ e];exact L.c k c l
 .let⟨H,I,N⟩:=L.I k f b D;refine⟨Ê H d.C,I,λj g=> ?_⟩;by_cases e:j=i
  .subst e;rw[gU];intro q;rcases d.N b q with z|z;all_goals grind
  .grind [gF]
def agV(C:iR F.S (λi=>i<gs.size) E.Y lot w t){h:e9}(d:i<gs.size)(c:mE (lot i) h w w' V):Gd F E lot gs.size w w':= ⟨c.C,λb j e f=>c.jU b j (f i d) λa g q=>e<|g▸C.e i d a (À q),λa g f=>by
   have e:E.Y a.block:=by
    rcases g with⟨k,l,rfl⟩|⟨p,rfl⟩
    .exact À<|Á ⟨k,l,U⟩
    .exact Á<|À U
   exact c.M a (C.N _ e) (λq=>C.I i d _ (À q) e)<|f i d,
  c.S (jm F 0) (C.N _ (Á (À U))) λq=>C.I i d _ (À q) (Á (À U)),c.c,c.f⟩
def XL(L:iH F E lot gs.size w)(ok:F.Ok)(C:iR F.S (λi=>i<gs.size) E.Y lot w t){g:e9}(e:i<gs.size)(c:mE (lot i) g w w' V)(f:F.M b){G:GS}(h:ic w b G):ic w' b G:=by have a:E.Y b:=À f;have d:=λq=>C.I i e _ (À q) a;exact h.vq (c.M (fM b) (C.N _ a) d λq=>(L.Y ok (xc f).1 i e)<|À q) (c.M (gW b) (C.N _ a) d λq=>(L.Y ok (xc f).2 i e)<|À q) (JL<|c.S (fM b) (C.N _ a) d)<|JL<|c.S (gW b) (C.N _ a) d
def agW(L:iH F E lot gs.size w)(e:Ps F E)(C:iR F.S (λi=>i<gs.size) E.Y lot w t){f:e9}(b:i<gs.size)(g:mE (lot i) f w w' V)(c:j+2<=E.r):w'.heap[E.I j]?=w.heap[E.I j]?:=by have d:E.Y (E.I j):=Á<|Á ⟨j,c,U⟩;exact g.jU _ (C.N _ d) (λq=>C.I i b _ (À q) d) λa h q=>L.sK e c i b a h<|À q
theorem agX(L:iH F E lot gs.size w)(H:Ps F E)(ok:F.Ok)(C:iR F.S (λi=>i<gs.size) E.Y lot w t)(P:gs.size=F.L+E.r){m:e9}{p:Array đ}{u:Ĵ}{B:String}(o:i<gs.size)(g:mE (lot i) m w w' p): J3 F.toFx E.r (E.S.rl) E.V E.d E.iy t (Û i u B p) i:=by
 have J:∀x,E.iy x->i=F.L+x->m=kC m:=λx l e=>J8 (e▸L.S x (XK l)) g;have D:∀c∈Û i u B p,∀a,c.act.touch?=Ã a->∃y:Č,a.loc=ú y/\(m.O y.block\/m.r y\/((m.I y.block\/m.N y)/\a.write=É)):=λc d a n=>by obtain⟨e,r,rfl⟩:=Ö d;exact Xr (g.b e r) n
 have I:m=kC m->∀c∈Û i u B p,c.act.touch?=Í:=λe c d=>by
  cases h:c.act.touch? with
  |none=>rfl
  |some a=>
   let⟨y,_,q⟩:=D c d a h;rw[e]at q;rcases q with q|q|⟨q|q,_⟩<;>exact q.elim
 refine⟨λc d _ _=>ot c d,?_,λc d a x n G l=> ?_,λc d a y n Q G k h s=> ?_,λc d b _ e=> ?_,λx l K=> ?_⟩
 .by_cases j:i=0
  .exact À j
  .by_cases f:i<F.L
   .exact Á<|Á<|I<|(λh s=>J8 (L.c i h s) g) Z f
   .exact Á<|À ⟨i-F.L,Z,Z⟩
 .exfalso;let⟨y,j,q⟩:=D c d a n;rw[G]at j;injection j with j;subst j;have f:=xd (E:=E) l;have v:=L.Y ok l i o;rcases q with q|q|⟨q|q,_⟩
  .rcases g.N _ q with z|z
   .exact C.I i o _ (À z) f
   .have:=C.N _ f;omega
  .exact v<|À<|by rwa[<-g.r]
  .exact C.I i o _ (Á<|by rwa[<-g.rd]) f
  .exact v<|Á<|by rwa[<-g.I]
 .have j:=Ø s<|J7 H;let⟨x,l,q⟩:=D c d a n;rw[G]at l;injection l with l;subst l;rcases q with q|q|⟨_,q⟩
  .refine⟨λv=> ?_,λe=> ?_⟩
   .let⟨M,_,N⟩:=L.I k j _ v;rcases g.N _ q with z|z;all_goals grind
   .have f:E.Y y.block:=by rw[e];exact À<|Á ⟨k,Ø j<|J6 H,U⟩
    rcases g.N _ q with z|z
    .exact C.I i o _ (À z) f
    .have:=C.N _ f;omega
  .refine⟨λv=>((L.I k j _ v).2.1<|C.e i o y<|À<|by rwa[<-g.r]),λe=>(L.N k j i o<|by rwa[<-g.r,<-e])⟩
  .grind
 .obtain⟨j,r,rfl⟩:=Ö d;have v:=g.b j r;let⟨M,N,S⟩:=j;simp only[Ë]at e;rcases v with⟨a,h,_⟩|h|⟨f,h⟩|h|h|⟨a,_,h|h|h|h⟩<;>(simp only at h;subst h;simp at e)
 .by_cases e:F.L+x=i
  .have v:=I<|J x K e.symm;refine⟨λr f=>f.app λj S T M=> ?_,λ_ c d a n=>by rw[v c d]at n;cases n⟩;let⟨z,N,_⟩:=M;rcases mR (show touchAt (t++_) j=Ã z from N)with⟨q,_⟩|⟨_,c,h,s,_⟩;all_goals grind
  .exact⟨λr f=>f.appOther ot<|ÿ e,λj=>absurd j e⟩
end
abbrev tR:=Nat×Nat×gu
def yN(x y:tR):Prop:=x.1<y.1\/(x.1=y.1/\(x.2.1<y.2.1\/(x.2.1=y.2.1/\Xu x.2.2 y.2.2)))
def XM:WellFounded yN:=by
 refine⟨λx=> ?_⟩;let⟨a,b,c⟩:=x
 induction a using Ď generalizing b c with
 |_ a j=>
  induction b using Ď generalizing c with
  |_ b k=>
   induction Xv.apply c with
   |intro c _ l=>
    refine⟨_,λy h=> ?_⟩;let⟨m,f,e⟩:=y;rcases h with h|⟨d,h|⟨g,i⟩⟩
    .exact j m h f e
    .simp only at d h;subst d;exact k f h e
    .simp only at d g i;subst d g;exact l e i
def agY(x:tR):¬yN x x:=by
 intro h
 induction XM.apply x with
 |intro x _ a=>exact a x h h
def CQ(n:Nat)(f g:Nat->tR):Prop:=∃i,i<n/\yN (f i) (g i)/\∀j,j<n->j≠i->f j=g j\/yN (f j) (g j)
def XO:∀(n:Nat) (g:Nat->tR),Acc (CQ n) g
 |0,g=>⟨_,λf ⟨i,h,_⟩=>absurd h Z⟩
 |n+1,g=>by
  have k:∀(x:tR) (h:Nat->tR),∀g:Nat->tR,g n=x->(∀j,j<n->g j=h j)->Acc (CQ<|n+1) g:=by
   intro x
   induction XM.apply x with
   |intro x _ l=>
    intro h
    induction XO n h with
    |intro h _ m=>
     intro g b c;refine⟨_,λf ⟨i,r,a,d⟩=> ?_⟩;by_cases e:f n=g n
     .have s:i≠n:=by
       intro q;subst q;rw[e]at a;exact agY _ a
      refine m f ⟨i,Z,by rwa[<-c i Z],λj o p=> ?_⟩ f (e.trans b) λ_ _=>rfl;rw[<-c j o];exact d j Z p
     .have:yN (f n) x:=by
       rw[<-b];by_cases q:n=i
       .rwa[q]
       .exact(d n Z q).resolve_left e
      exact l _ this f f U λ_ _=>rfl
  exact k (g n) g g U λ_ _=>rfl
abbrev Mu:=(Nat->tR)×Nat
def pw(n:Nat)(x y:Mu):Prop:=CQ n x.1 y.1\/((∀j,j<n->x.1 j=y.1 j)/\x.2<y.2)
def agZ(n:Nat):WellFounded (pw n):=by
 have e:∀h:Nat->tR,∀k:Nat,∀g:Nat->tR,(∀j,j<n->g j=h j)->Acc (pw n) (g,k):=by
  intro h
  induction XO n h with
  |intro h _ l=>
   intro k
   induction k using Ď with
   |_ k m=>
    intro g a;refine⟨_,λy q=> ?_⟩;let⟨f,b⟩:=y;rcases q with⟨i,c,o,x⟩|⟨p,r⟩
    .exact l f ⟨i,c,by rwa[<-a i c],λj d s=>by rw[<-a j d];exact x j d s⟩ b f λ_ _=>rfl
    .exact m b r f λj x=>(p j x).trans<|a j x
 exact⟨λx=>e x.1 x.2 x.1 λ_ _=>rfl⟩
section
variable(F:Ph)
def jF.rk(n:Nat):jF->Nat
 |.jD=>n+1011
 |.iF=>n+1010
 |.gA W=>min W (n+1000)+4
 |.jc W=>min W (n+1000)+3
 |.iB r=>min r (n+1000)+2
def ju.rk:ju->Nat
 |.iY=>7
 |.mb _=>6
 |.wr=>5
 |.kB=>4
 |.gA=>3
 |.lj=>2
def fW.rk(F:Ph):fW->Nat
 |.iF j=>F.q+F.n+20+4*(F.n-j)+7
 |.rd j=>F.q+F.n+20+4*(F.n-j)+6
 |.lF j=>F.q+F.n+20+4*(F.n-j)+5
 |.go j=>F.q+F.n+20+4*(F.n-j)+4
 |.iJ r=>r+F.n+11
 |.kX r=>r+10
 |.fy p=>p.rk+2
 |.gd=>0
def jx.rk(F:Ph):jx->Nat
 |.kO k=>(F.n+3000)*(F.m+2-k)+2900
 |.mk k=>(F.n+3000)*(F.m+3-k)+2800
 |.dn k p=>(F.n+3000)*(F.m+2-k)+2901+p.rk F.n
def gO.rk(F:Ph):gO->Nat
 |.nu r=>(F.n+3000)*(F.q+3-r)
 |.fy r p=>(F.n+3000)*(F.q+3-r)-20+p.rk
 |.jK r=>(F.n+3000)*(F.q+3-r)-30
 |.oN r=>(F.n+3000)*(F.q+3-r)-40
def ik.rk(F:Ph):ik->Nat×Nat
 |.oP=>(F.n+2900,0)
 |.gd p=>(p.rk F.n,0)
 |.jr N=>(0,N)
end
def SP.rk(B:Nat)(st:Int):SP->Nat
 |.fZ k=>B+2+k
 |.ld v k=>if st=v then k+1 else 2*B+3+k
def ju.ly(B:Nat)(st:Int):ju->Nat
 |.mb p=>p.rk B st
 |_=>0
section
variable{F:Ph}
def fU.iT(E:fU F)(tr:Nat->gu)(i:Nat):tR:=
 if i=0 then(E.M.rk F,0,tr 0)
 else if i<F.L then(0,E.h i,.fA)
 else match E.N (i-F.L)with
  |some e=>((e.rk F).1,(e.rk F).2,tr i)
  |none=>if i=F.L then(E.S.rk F,0,tr i)else((E.C<|i-F.L-1).rk F,0,tr i)
def fU.ly(E:fU F)(i:Nat):Nat:=
 if i=0 then(match E.M with|.fy p=>p.ly F.B E.b.st|_=>0)
 else if i<=F.L then 0
 else match E.C (i-F.L-1)with|.fy r p=>p.ly F.B (E.a<|F.r<|i-F.L-1+r*F.n).st|_=>0
def gk(gs:Array Ä)(i:Nat):Nat:=if(gs[i]?).any (·.status==.running)then 1 else 0
def Ph.N(F:Ph):Nat:=F.L+F.n+1
def fU.mu(E:fU F)(a:Nat->gu)(b:Array Ä):Mu:=(E.iT a,Ñ F.N λi=>(F.N+1)*E.ly i+gk b i)
end
theorem Ge{b x:Ä}(h:(Ā P g b w x).status=Ü):Ā P g b w x=x/\x.status=Ü:=by
 unfold Ā at h|-;split at h
 .rename_i c;rw[if_pos c];unfold ď at h|-;grind
 .grind
section
variable{F:Ph}{E:fU F}{S:Nat->Jd}{tr:Nat->gu}{d:Nat->iA}{lot:Nat->e9}{gs gs':Array Ä}{w':Ð}{t u:ä}{sl:Option (Nat×Nat)}
def fg.F4(h:fg F E gs w)(o:gs'[i]?=Ã g)(p:g.status≠Ü)(t:∀k,k≠i->∃a f:Ä,gs'[k]?=gs[k]?.map (Ā F.P a f w'))(u:∀j,j+2<=E.r->w'.heap[E.I j]?=w.heap[E.I j]?):fg F E gs' w':=by
 intro k x b l;by_cases e:k=i
 .subst e;rw[o]at b;obtain rfl:=È b;exact absurd l p
 .let⟨a,f,q⟩:=t k e;rw[q]at b;obtain⟨y,v,rfl⟩:=Ù.1 b;let⟨_,z⟩:=Ge l;rcases h k y v z with h1|⟨j,c,m,n,d|⟨r,B,s,C,d,D⟩⟩
  .exact À h1
  .exact Á ⟨j,c,m,n,À d⟩
  .exact Á ⟨j,c,m,n,Á ⟨r,B,s,C,d,by rwa[u j c]⟩⟩
def lG{J:Jd}(a:∀l g,J l g->g.status=Å\/g.status=å){l:e9}(h:fh P yQ J l g):g.status=Å\/g.status=å:=by
 cases h with
 |fA h=>exact a _ _<|h _<|fE.fV _ _
 |jM _ _ _ _ b=>exact À b
def ag0(H:gR F)(p:PI F m zX E S tr d lot gs w t){i:Nat}(hi:i<gs.size):∀l g,S i l g->g.status=Å\/g.status=å:=by
 have dn:∀(main:Bool) (b:Nat) (J:Jd),(∀l g,J l g->g.status=Å\/g.status=å)->∀(p:jF) l g,Dg F.P main b J p l g->g.status=Å\/g.status=å:=by
  intro main b J hJ p l g h;cases p with
  |jD=>exact À h.2.1
  |iF=>exact À h.2.1
  |gA W=>exact À h.2.1
  |jc W=>exact À h.2.1
  |iB r=>cases r with
   |zero=>exact hJ l g h
   |succ r=>exact À h.2.1
 have wt:∀(main:Bool) (b:Nat) (J:Jd) (p:ju) l g,qH F.P main F.B b J p l g->g.status=Å:=by
  intro main b J p l g h;cases p with
  |iY=>let⟨k,_,_,T,h1,h2⟩:=h;exact(h2 _ _ h1).1
  |mb p=>let⟨_,T,h1,h2⟩:=h;exact(h2 _ _ h1).1
  |wr=>exact h.2.1
  |kB=>exact h.2.1
  |gA=>exact h.2.1
  |lj=>exact h.2.1
 intro l g h;by_cases e0:i=0
 .subst e0;rw[p.h.1]at h;cases hm:E.M with
  |go j=>rw[hm]at h;exact À<|H.I _ _ _ _ h
  |lF j=>rw[hm]at h;let⟨c,h⟩:=h;exact À<|H.I _ _ _ _ h
  |rd j=>rw[hm]at h;exact À h.2.1
  |iF j=>rw[hm]at h;exact À h.2.1
  |iJ r=>
   rw[hm]at h;have cl:∀r l g,AQ F E.I r l g->g.status=Å:=λr l g h=>by
    cases r with
    |zero=>exact wt _ _ _ .iY _ _ h
    |succ r=>exact h.1
   cases r with
   |zero=>exact À<|cl _ _ _ h
   |succ r=>exact À h.1
  |kX r=>
   rw[hm]at h;cases r with
   |zero=>exact À<|wt _ _ _ .iY _ _ h
   |succ r=>exact À h.1
  |fy p=>rw[hm]at h;exact À<|wt _ _ _ _ _ _ h
  |gd=>rw[hm]at h;exact À<|H.M _ _ _ h
 by_cases e1:i<F.L
 .rw[(p.l i Z e1).1]at h;exact QuitsD.status h
 have jH:=p.b;obtain⟨x,rfl⟩:∃x,i=F.L+x:=⟨i-F.L,Z⟩;cases he:E.N x with
 |some e=>
  rw[(p.k x e Z he).1]at h;cases e with
  |oP=>exact À h.2.1
  |gd p=>exact dn _ _ _ (λl g ⟨N,h⟩=>h.status) _ _ _ h
  |jr N=>exact QuitsD.status h
 |none=>
  cases x with
  |zero=>
   rw[ó,(p.m Z he).1]at h;cases hm:E.S with
   |kO k=>rw[hm]at h;exact À<|H.N _ _ _ h
   |mk k=>rw[hm]at h;let⟨s',V,_,_,_,_,h⟩:=h;exact À h.2.1
   |dn k p=>rw[hm]at h;exact dn _ _ _ (λl g h=>lG (λl g h=>À<|H.N _ _ _ h) h) _ _ _ h
  |succ j=>
   rw[show F.L+(j+1)=F.L+1+j by omega,(p.g j Z he).1]at h;cases hm:E.C j with
   |nu r=>rw[hm]at h;exact À h.1
   |fy r p=>rw[hm]at h;exact À<|wt _ _ _ _ _ _ h
   |jK r=>rw[hm]at h;exact À<|H.Y _ _ _ _ h
   |oN r=>rw[hm]at h;exact À h.2.1
theorem ag1{T:gu}(h:k≠i):E.iT (fx tr i T) k=E.iT tr k:=by unfold fU.iT;grind [fG]
theorem ag2{k:Ð->gu}(a:tr i=.jM k)(b:¬(0<i/\i<F.L)):yN (E.iT (fx tr i<|k w) i) (E.iT tr i):=by
 unfold fU.iT;split
 .rename_i e;subst e;rw[gD,a];exact Á ⟨U,Á ⟨U,w,U⟩⟩
 .split
  .grind
  .rw[gD,a];split
   .exact Á ⟨U,Á ⟨U,w,U⟩⟩
   .split<;>exact Á ⟨U,Á ⟨U,w,U⟩⟩
theorem PI.fl(H:gR F)(p:PI F m zX E S tr d lot gs w t){k:Ð->gu}(y:gs[i]?=Ã g)(o:tr i=.jM k): ∃gs' w' u e q,Ŏ F.P (ð gs w sl) i=(ğ<|ð gs' w' sl,u)/\gs'.size=gs.size/\PI F m zX E S e d q gs' w' (t++u)/\pw F.N (E.mu e gs') (E.mu tr gs):=by
 have c:=(Õ.1 y).1;let⟨gs',w',W,X,D,z,⟨Y,G,I⟩,J,f,K⟩:=p.I.fl (sl:=sl) y o<|ag0 H p c;have M:¬(0<i/\i<F.L):=λ⟨a,b⟩=>by rw[(p.l i a b).2.1]at o;cases o
 have C:=p.I.r;have B:∀j,j+2<=E.r->w'.heap[E.I j]?=w.heap[E.I j]?:=λj v=>agW p.a p.C C c f v;have O:i<F.N:=by
  have:=p.b;have:E.r<=F.n+1:=by
   unfold fU.r;cases e:E.M with
   |go j=>have:=p.C.C j<|À e;simp only[fW.sp];omega
   |lF j=>have:=p.C.C j<|Á<|À e;simp only[fW.sp];omega
   |rd j=>have:=p.C.C j<|Á<|Á<|À e;simp only[fW.sp];omega
   |iF j=>have:=p.C.C j<|Á<|Á<|Á e;simp only[fW.sp];omega
   |_=>simp only[fW.sp];omega
  unfold Ph.N;omega
 refine⟨gs',w',_,_,_,D,z,⟨z.trans p.b,K,p.h,p.m,p.g,λx e h l=> ?_,λs h l=> ?_,?_,p.M.J5 H p.a (agV (E:=E) C c f) (J6 p.C) (XL p.a H.C C c f (À U) p.M.C) (λs q=>XL p.a H.C C c f (Á ⟨s,q,U⟩)<|p.M.I s q) B,p.C,p.d.C<|agX p.a p.C H.C C p.b c f,p.c.F4 G (by rcases I with q|q<;>rw[q]<;>simp) J B,λj r h l q=>(p.f j r h l q).app _⟩,À ⟨i,O,ag2 o M,λj _ v=>À<|ag1 v⟩⟩
 .let⟨Q,T,V⟩:=p.k x e h l;grind [fG]
 .let⟨Q,T,V⟩:=p.l s h l;grind [fG]
 .have:=p.a.fl C c f;grind
end
end Go.Proofs.Y.ft
namespace Go.Proofs.Y.ft
open Go Go.Conc Go.Proofs.Y.Lift
open Go.ConcN (sumTo sumTo_congr)
def ag3{J b:Jd}(c:∀l g,J l g->b l g):∀{T:gu} {l:e9} {g:Ä},lh P yQ J T l g->lh P yQ b T l g:=by
 intro T
 induction T with
 |fA=>exact λh a r=>c _ _<|h a r
 |jM k d=>
  intro l g h;refine⟨h.1,λa r=> ?_⟩;let⟨e,f,i,j,m,n,o⟩:=h.2 a r;exact⟨e,f,i,j,m,n,d a o⟩
section
variable{F:Ph}{E E':fU F}{S:Nat->Jd}{tr d:Nat->gu}{kp:Nat->iA}{c:Nat->e9}{gs gs':Array Ä}{u:ä}{sl:Option (Nat×Nat)}
theorem gN.kO{Y:Nat->Prop}(a:gN P n Y S tr kp c gs w qJ){J:Jd}(h:∀l g,S i l g->J l g):gN P n Y (fx S i J) tr kp c gs w qJ:=by
 refine⟨a.r,λk x b=> ?_,a.I⟩;let⟨g0,d,f⟩:=a.C k x b;by_cases e:k=i
 .subst e;rw[gD];exact⟨g0,ag3 h d,f⟩
 .grind [fG]
def Dk:E.iT tr 0=(E.M.rk F,0,tr 0):=by simp[fU.iT]
theorem J9(ok:F.Ok){x:Nat}{e:ik}(a:E.N x=Ã e):E.iT tr (F.L+x)=((e.rk F).1,(e.rk F).2,tr<|F.L+x):=by have:=ok.r;unfold fU.iT;grind
theorem XP(ok:F.Ok)(a:E.N 0=Í):E.iT tr F.L=(E.S.rk F,0,tr F.L):=by have:=ok.r;unfold fU.iT;grind
theorem tS(ok:F.Ok)(a:E.N (j+1)=Í):E.iT tr (F.L+1+j)=((E.C j).rk F,0,tr<|F.L+1+j):=by have:=ok.r;unfold fU.iT;grind
theorem yO(a:k=0->E'.M.rk F=E.M.rk F)(b:0<k->k<F.L->E'.h k=E.h k)(c:F.L<=k->E'.N (k-F.L)=E.N (k-F.L))(e:k=F.L->E.N 0=Í->E'.S.rk F=E.S.rk F)(f:F.L<k->E.N (k-F.L)=Í->(E'.C<|k-F.L-1).rk F=(E.C<|k-F.L-1).rk F)(g:d k=tr k):E'.iT d k=E.iT tr k:=by unfold fU.iT;grind
def Gf(a:i<F.N)(h:yN (E'.iT d i) (E.iT tr i))(b:∀k,k≠i->E'.iT d k=E.iT tr k):pw F.N (E'.mu d gs') (E.mu tr gs):= À ⟨i,a,h,λj _ c=>À<|b j c⟩
def Dl(a:Ps F E):E.r<=F.n+1:=by
 unfold fU.r;cases b:E.M with
 |go j=>have:=a.C j<|À b;simp only[fW.sp];omega
 |lF j=>have:=a.C j<|Á<|À b;simp only[fW.sp];omega
 |rd j=>have:=a.C j<|Á<|Á<|À b;simp only[fW.sp];omega
 |iF j=>have:=a.C j<|Á<|Á<|Á b;simp only[fW.sp];omega
 |_=>simp only[fW.sp];omega
def PI.G(p:PI F b zX E S tr kp c gs w qJ)(h:i<gs.size):i<F.N:=by have:=p.b;have:=Dl p.C;unfold Ph.N;omega
def gP(E:fU F)(j:Nat)(x:gO):fU F:={E with C:=fx E.C j x}
theorem jN(j:Nat)(x:gO):(gP E j x).C j=x:=gD _ _ _
theorem iO(x:gO)(h:i≠j):(gP E j x).C i=E.C i:=fG _ _ h
theorem XQ{x:gO}(h:∀k,x.gC F j k=(E.C j).gC F j k)(k:Nat):(Ñ F.n λi=>((gP E j x).C i).gC F i k)=Ñ F.n λi=>(E.C i).gC F i k:=by grind [jN,iO]
def Dm(ok:F.Ok){x:gO}{T:gu}(b:F.L+1+j<F.N)(a:E.N (j+1)=Í)(h:x.rk F<(E.C j).rk F):pw F.N ((gP E j x).mu (fx tr (F.L+1+j) T) gs') (E.mu tr gs):=by
 refine Gf b (À ?_) λk c=>yO (λ_=>rfl) (λ_ _=>rfl) (λ_=>rfl) (λ_ _=>rfl) (λd _=> ?_)<|fG tr _ c
 .rwa[tS ok (E:=gP E j x) (show(gP E j x).N (j+1)=Í from a),tS ok a,jN]
 .rw[iO x Z]
def Ps.G(h:Ps F E){x:gO}(m:j+2<=E.r)(d:E.N (j+1)=Í)(c:∀k,x.gC F j k=(E.C j).gC F j k)(f:∀r,((∃p,x=.fy r p)\/x=.jK r\/x=.oN r)->j+r*F.n<F.q) (g:∀r,(x=.fy r .gA\/x=.fy r .lj\/x=.jK r)->F.r (j+r*F.n)<=E.S.od) (i:∀r,x=.fy r .gA->∃a b,E.a (F.r<|j+r*F.n)=.gX a b) (l:∀r,x=.fy r .wr->E.d (F.r<|j+r*F.n)=Ã j):Ps F (gP E j x) where
 v:=h.v;C:=h.C;K:=h.K;L:=h.L;J:=h.J;I:=h.I;z j' oQ:=by have:E.r<j'+2:=oQ;rw[iO x Z];exact h.z j' oQ
 d j' r oQ hx:=by
  by_cases e:j'=j
  .subst e;rw[jN]at hx;exact f r hx
  .rw[iO x e]at hx;exact h.d j' r oQ hx
 l j' oQ hx:=by
  have e:j'≠j:=λe=>by subst e;exact hx d
  rw[iO x e];exact h.l j' oQ hx
 f:=h.f;h:=h.h;M:=h.M;o:=h.o;t:=h.t;g:=h.g;u:=h.u;N:=h.N;B:=h.B;e k h1 h2 h3:=by rw[XQ c];exact h.e k h1 h2 h3
 Y k h1 h2:=by rw[XQ c];exact h.Y k h1 h2
 w j' r oQ hx:=by
  by_cases e:j'=j
  .subst e;rw[jN]at hx;exact g r hx
  .rw[iO x e]at hx;exact h.w j' r oQ hx
 H j' r oQ hx:=by
  by_cases e:j'=j
  .subst e;rw[jN]at hx;exact i r hx
  .rw[iO x e]at hx;exact h.H j' r oQ hx
 O:=h.O;S:=h.S;y:=h.y;D j' r oQ hx:=by
  by_cases e:j'=j
  .subst e;rw[jN]at hx;exact l r hx
  .rw[iO x e]at hx;exact h.D j' r oQ hx
def vt(E:fU F)(j:Nat)(x:gO)(k:Nat)(G:GS)(a:Nat->Option Nat):fU F:={gP E j x with a:=fx E.a k G,d:=a}
theorem Ps.XR(h:Ps F E){x:gO}{G:GS}{l:Nat->Option Nat}(Q:j+2<=E.r)(C:E.N (j+1)=Í)(D:∀c,c≠k->x.gC F j c=(E.C j).gC F j c) (H:1<=k->E.S.od<k->G=.cl 1 (Ñ F.n λi=>((ft.gP E j x).C i).gC F i k)) (I:k<=E.S.od->(∃W,(E.S=.dn k (.gA W)\/E.S=.dn k (.jc W))/\G=.jE W/\W=Ñ F.n λi=>((ft.gP E j x).C i).gC F i k)\/(∃r s,E.S=.dn k (.iB r)/\0<r/\G=.gX r s/\r+s=Ñ F.n λi=>((ft.gP E j x).C i).gC F i k)\/((∀p,E.S≠ .dn k p)/\((G=.cl 0 0/\(Ñ F.n λi=>((ft.gP E j x).C i).gC F i k)=0)\/∃s,G=.gX 0 s/\s=Ñ F.n λi=>((ft.gP E j x).C i).gC F i k))) (J:(∃a b,E.a k=.gX a b)->∃a b,G=.gX a b) (K:G=.cl 1 0->l k=Í) (L:∀c,c≠k->l c=E.d c) (S:∀y,E.d k=Ã y->l k=Ã y) (T:∀r,((∃p,x=.fy r p)\/x=.jK r\/x=.oN r)->j+r*F.n<F.q) (M:∀r,(x=.fy r .gA\/x=.fy r .lj\/x=.jK r)->F.r (j+r*F.n)<=E.S.od) (N:∀r,x=.fy r .gA->∃a b,fx E.a k G (F.r<|j+r*F.n)=.gX a b) (O:∀r,x=.fy r .wr->l (F.r<|j+r*F.n)=Ã j):Ps F (vt E j x k G l):=by
 have z:∀c,c≠k->(Ñ F.n λi=>((vt E j x k G l).C i).gC F i c)=Ñ F.n λi=>(E.C i).gC F i c:=λc u=>by
  refine Ł λi _=> ?_;by_cases e:i=j
  .subst e;show((ft.gP E i x).C i).gC F i c=_;rw[jN,D c u]
  .show((ft.gP E j x).C i).gC F i c=_;rw[iO x e]
 have v:∀c,c≠k->(vt E j x k G l).a c=E.a c:=λc u=>fG _ _ u;have gs:(vt E j x k G l).a k=G:=gD _ _ _;have w:(vt E j x k G l).C j=x:=jN _ _;have o:∀d,d≠j->(vt E j x k G l).C d=E.C d:=λd g=>iO x g;refine⟨h.v,h.C,h.K,h.L,h.J,h.I,λd g=> ?_,λd r g f=> ?_,λd g f=> ?_,h.f,h.h,h.M,h.o,h.t,h.g,h.u,h.N,h.B,λc t m B=> ?_,λc t m=> ?_,λd r g f=> ?_,λd r g f=> ?_,h.O,h.S,λc t m=> ?_,λd r g f=> ?_⟩
 .have:E.r<d+2:=g;rw[o d Z];exact h.z d g
 .by_cases e:d=j
  .simp_all
  .rw[o d e]at f;exact h.d d r g f
 .rw[o d (λe=>by subst e;exact f C)];exact h.l d g f
 .by_cases e:c=k
  .subst e;rw[gs];exact H t B
  .rw[v c e,z c e];exact h.e c t m B
 .by_cases e:c=k
  .subst e;rw[gs];exact I m
  .rw[v c e,z c e];exact h.Y c t m
 .by_cases e:d=j
  .subst e;rw[w]at f;exact M r f
  .rw[o d e]at f;exact h.w d r g f
 .by_cases e:d=j
  .subst e;rw[w]at f;exact N r f
  .rw[o d e]at f;have:=h.H d r g f;by_cases P:F.r (d+r*F.n)=k
   .rw[P]at this|-;rw[gs];exact J this
   .grind
 .by_cases e:c=k
  .subst e;rw[gs]at m;exact K m
  .rw[v c e]at m;show l c=Í;rw[L c e];exact h.y c t m
 .by_cases e:d=j
  .subst e;rw[w]at f;exact O r f
  .rw[o d e]at f;have:=h.D d r g f;show l _=Ã d;grind
theorem iH.r(h:iH F E c n w){x:gO}(i:x.kD=(E.C j).kD):iH F (gP E j x) c n w:=by
 have f:∀a,((ft.gP E j x).C a).kD=(E.C a).kD:=λa=>by grind [jN,iO]
 exact⟨h.gT,h.o,h.lU,h.e,h.f,λa b d r e g=>h.h a b d r e (by rwa[<-f]),h.l,h.S,h.M,h.c,h.I,h.N,h.g,λa b r d e=>h.d a b r d<|by rwa[<-f]⟩
theorem Wd.Y(h:Wd F E w){x:gO}(g:x.kD=(E.C j).kD)(i:x.iN=(E.C j).iN):Wd F (gP E j x) w:=by
 have c:∀a,((ft.gP E j x).C a).kD=(E.C a).kD:=λa=>by grind [jN,iO]
 have d:∀a,((ft.gP E j x).C a).iN=(E.C a).iN:=λa=>by grind [jN,iO]
 exact⟨h.C,h.I,λa b=>by rw[d];exact h.jG a b,h.M,h.S,λa b r e f=>h.N a b r e<|by rwa[<-c]⟩
structure qI(F:Ph)(E:fU F)(S:Nat->Jd)(tr:Nat->gu)(kp:Nat->iA):Prop where
 M:S 0=JM F E.I E.M/\kp 0=kM E.M
 Y:0<E.r->E.N 0=Í->S F.L=JI F E.c E.S/\kp F.L=.no
 I:∀j,j+2<=E.r->E.N (j+1)=Í->S (F.L+1+j)=JW F (E.I j) j (E.C j)/\kp (F.L+1+j)=kW F (E.I j) (E.C j)
 C:∀x e,x<E.r->E.N x=Ã e->S (F.L+x)=JE F e/\kp (F.L+x)=.no/\((∃N,e=.jr N)->tr (F.L+x)=.fA)
 r:∀i,0<i->i<F.L->S i=pv F.P (E.h i)/\tr i=.fA/\kp i=.no
def PI.N(p:PI F b zX E S tr kp c gs w qJ):qI F E S tr kp:=⟨p.h,p.m,p.g,p.k,p.l⟩
def PI.r(a:qI F E S tr kp)(d:gs.size=F.L+E.r)(e:gN F.P F.S E.Y S tr kp c gs w qJ)(f:iH F E c gs.size w)(g:Wd F E w)(h:Ps F E)(i:TI F.toFx b zX E.r E.S.rl E.V E.e E.d E.iy E.f qJ)(k:fg F E gs w) (l:∀j r,j+2<=E.r->E.C j=.jK r->1<=F.r (j+r*F.n)->Λ qJ (F.L+1+j) (E.e<|F.r<|j+r*F.n)):PI F b zX E S tr kp c gs w qJ:=⟨d,e,a.M,a.Y,a.I,a.C,a.r,f,g,h,i,k,l⟩
def qI.N(h:qI F E S tr kp)(ok:F.Ok){x:gO}{T:gu}(k:j+2<=E.r)(f:E.N (j+1)=Í):qI F (gP E j x) (fx S (F.L+1+j)<|JW F (E.I j) j x) (fx tr (F.L+1+j) T) (fx kp (F.L+1+j)<|kW F (E.I j) x):=by
 have:=ok.r;refine⟨by rw[fG S _ Z,fG kp _ Z];exact h.M,λb a=>by rw[fG S _ Z,fG kp _ Z];exact h.Y b a,λd b a=> ?_,λy e b a=> ?_,λi b a=>by rw[fG S _ Z,fG kp _ Z,fG tr _ Z];exact h.r i b a⟩
 .by_cases e:d=j
  .subst e;rw[gD,gD,jN];exact⟨U,U⟩
  .rw[fG S _ Z,fG kp _ Z,iO x e];exact h.I d b a
 .have c:F.L+y≠F.L+1+j:=λe=>by
   have g:y=j+1:=Z
   subst g;have:E.N (j+1)=Ã _:=a;rw[f]at this;cases this
  rw[fG S _ c,fG kp _ c,fG tr _ c];exact h.C y e b a
end
def tT(F:Fx)(e:đ):Prop:=(∃(x:Č) (a:Bool),F.G x/\e=⟨ú x,a,Ì⟩)\/e.loc=ŭ õ\/e.loc=ŭ î
theorem Gi{F:Fx}{e:đ}(h:tT F e){b:Touch}(c:(Ë e).touch?=Ã b):∃x,F.G x/\b.loc=ú x/\b.kind=.atomic:=by
 let⟨f,a,g⟩:=e;rcases h with⟨x,i,j,d⟩|h|h
 .injection d with e1 e2 e3;subst e1 e2 e3;have:(Ë ⟨ú x,a,Ì⟩).touch?=Ã ⟨ú x,a,.atomic⟩:=by cases a<;>rfl
  grind
 .simp only at h;subst h;simp[Ë,Ċ]at c
 .simp only at h;subst h;simp[Ë,Ċ]at c
section
variable{F:Ph}{E E':fU F}{S:Nat->Jd}{tr l:Nat->gu}{f:Nat->iA}{c:Nat->e9}{gs gs':Array Ä}{u:ä}{m:Option (Nat×Nat)}
def yP(E:fU F)(i:Nat):Prop:=i=0\/∃x,x<E.r/\i=F.L+x
theorem gN.N{Y:Nat->Prop}(e:gN P n Y S tr f c gs w qJ)(h:gs[i]?=Ã g)(k:g.status=Å)(j:tr i=.fA)(a:f i=.no\/f i=.iB):∀b,fE (c i) (c i).w b->S i {c i with w:=b} g:=by
 let⟨g0,hF,d,_,_⟩:=e.C i g h;rw[j]at hF;have:g=g0:=by rcases a with a|a<;>rw[a]at d<;>cases d;all_goals grind
 subst this;exact hF
theorem XS(b:TI F.toFx j zX E.r E.S.rl E.V E.e E.d E.iy E.f qJ)(c:yP E i)(d:n<j)(a:qJ.g? n=Ã 0):Λ qJ i n:=by
 rcases c with rfl|⟨x,e,rfl⟩
 .let⟨g,f,h⟩:=Ù.1 a;have:=knows_own f;grind
 .exact b.AO x e n d a
theorem ag4(f:∀c,¬Race c qJ)(g:TI F.toFx j zX E.r E.S.rl E.V E.e E.d E.iy E.f qJ)(v:yP E i){d:Array đ}{h:Ĵ}{k:String}(l:∀e∈d,tT F.toFx e):∀c,¬Race c (qJ++Û i h k d):=by refine Ow f ot λw m b n=> ?_;obtain⟨e,o,rfl⟩:=Ö m;let⟨x,r,s,t⟩:=Gi (l e o) n;refine Á (Á ⟨t,λp a u q y=> ?_⟩);rcases g.M p a x u (q.trans s) r with⟨y,z⟩|q|⟨q,_⟩;all_goals grind [XS]
def ag5(L:iH F E c gs.size w)(ok:F.Ok)(C:iR F.S (λi=>i<gs.size) E.Y c w qJ)(f:∀e∈V,tT F.toFx e):∀e∈V,(∀b,(Ë e).touch?=Ã b->F2 (λi=>i<gs.size) E.Y c b)/\(Ë e).low w.heap.size:=by
 intro e g;refine⟨λb j=> ?_,?_⟩
 .let⟨x,a,d,_⟩:=Gi (f e g) j;exact À ⟨x,d,xd a,λk h=>L.Y ok a k h⟩
 .rcases f e g with⟨x,k,a,d⟩|h|h
  .subst d;have:=C.N _<|xd (E:=E) a;cases k<;>exact this
  .let⟨l,k,m⟩:=e;simp only at h;subst h;trivial
  .let⟨l,k,m⟩:=e;simp only at h;subst h;trivial
def AR(d:Nat)(a:Array đ):Prop:=∀(j:Nat) (e:đ),a[j]?=Ã e->(Ë e).touch?=Í\/((∃b c,e=⟨ú b,c,Ì⟩)/\0<Ï d (a.extract 0 j))
theorem ag6(L:iH F E c gs.size w)(s:Ps F E)(C:iR F.S (λi=>i<gs.size) E.Y c w qJ)(t:yP E i){f:Array đ}{n:Ĵ}{o:String}(p:∀e∈f,tT F.toFx e) (u:∀x,E.iy x->i=F.L+x->(∀e∈f,∀b,(Ë e).touch?=Ã b->∃y:Č,b.loc=ú y/\y.block=F.C)/\AR (κ qJ i) f):J3 F.toFx E.r E.S.rl E.V E.d E.iy qJ (Û i n o f) i:=by
 refine⟨λg d _ _=>ot g d,t.imp id À,λg d a x l _ _=> ?_,λg d a y l _ z k B m=> ?_,λg d b _ e=> ?_,λx H D=> ?_⟩
 .obtain⟨e,j,rfl⟩:=Ö d;grind [Gi]
 .obtain⟨e,j,rfl⟩:=Ö d;let⟨x,r,h,_⟩:=Gi (p e j) l;rw[z]at h;injection h with h;subst h;refine⟨λv=>(L.I k (Ø m<|J7 s) _ v).2.1<|xd r,λe=> ?_⟩;obtain⟨b,_,q|q⟩:=r<;>(rw[q]at e;simp[fM,gW,jf]at e)
 .obtain⟨r,j,rfl⟩:=Ö d;simp only at e;rcases p r j with⟨x,v,_,rfl⟩|h|h
  .cases v<;>simp[Ë]at e
  .let⟨q,v,G⟩:=r;simp only at h;subst h;simp[Ë]at e
  .let⟨q,v,G⟩:=r;simp only at h;subst h;simp[Ë]at e
 .by_cases e:F.L+x=i
  .let⟨B,m⟩:=u x D e.symm;subst e;refine⟨λr h=>h.appOwn n o f m,λ_ g d a l=> ?_⟩;obtain⟨e,j,rfl⟩:=Ö d;grind [Gi]
  .exact⟨λr h=>h.appOther ot<|ÿ e,λq=>absurd q e⟩
theorem yR(a:F.M b):∀e∈#[kA<|fM b],tT F.toFx e:=by
 intro e c;have:e=kA (fM b):=by simpa using c
 subst this;exact À ⟨_,É,(xc a).1,U⟩
def XT(a:F.M b):∀e∈#[mS<|fM b],tT F.toFx e:=by
 intro e c;have:e=mS (fM b):=by simpa using c
 subst this;exact À ⟨_,Ì,(xc a).1,U⟩
def AS(a:F.M b):∀e∈#[kA<|fM b,mS<|fM b],tT F.toFx e:=by
 intro e c;simp at c;rcases c with rfl|rfl
 .exact À ⟨_,É,(xc a).1,U⟩
 .exact À ⟨_,Ì,(xc a).1,U⟩
def Gj(a:F.M b):∀e∈ö (gW b),tT F.toFx e:=by
 intro e c;simp[ö]at c;rcases c with rfl|rfl|rfl|rfl
 .exact Á<|À U
 .exact À ⟨_,É,(xc a).2,U⟩
 .exact À ⟨_,Ì,(xc a).2,U⟩
 .exact Á<|Á U
def Gk(d:Nat):Ï d #[kA a,mS a]=d/\Ï d #[kA a]=d/\Ï d #[mS a]=d/\Ï d (ö a)=d:=by refine⟨U,U,U,?_⟩;simp[Ï,ö]
def Ka:AR 1 #[kA a,mS a]/\AR 1 #[kA a]/\AR 1 #[mS a]/\AR 1 (ö a):=by
 refine⟨λj e b=> ?_,λj e b=> ?_,λj e b=> ?_,λj e b=> ?_⟩
 .match j,b with
  |0,b=>obtain rfl:=È b;exact Á ⟨⟨a,É,U⟩,by simp[Ï]⟩
  |1,b=>obtain rfl:=È b;exact Á ⟨⟨a,Ì,U⟩,by simp[Ï,kA]⟩
  |j+2,b=>simp at b
 .match j,b with
  |0,b=>obtain rfl:=È b;exact Á ⟨⟨a,É,U⟩,by simp[Ï]⟩
  |j+1,b=>simp at b
 .match j,b with
  |0,b=>obtain rfl:=È b;exact Á ⟨⟨a,Ì,U⟩,by simp[Ï]⟩
  |j+1,b=>simp at b
 .match j,b with
  |0,b=>obtain rfl:=È b;exact À U
  |1,b=>obtain rfl:=È b;exact Á ⟨⟨a,É,U⟩,by simp[Ï,ö]⟩
  |2,b=>obtain rfl:=È b;exact Á ⟨⟨a,Ì,U⟩,by simp[Ï,ö]⟩
  |3,b=>obtain rfl:=È b;exact À U
  |j+4,b=>simp[ö]at b
def ag7(ok:F.Ok)(g:F.G a)(v:ã):Gd F E c gs.size w (w.setCell a v):=by
 refine⟨Ô j2.symm,λb _ f _=>lu λe=>f<|e▸(xd (E:=E) g),λd i _=>yJ ?_,ON,U,U⟩;let⟨b,f,h⟩:=g;rcases i with⟨k,_,rfl⟩|⟨p,rfl⟩
 .right;rcases h with rfl|rfl<;>simp[fM,gW,jf]
 .left;rcases h with rfl|rfl<;>exact λe=>ok.C (by have j:b=F.Y:=e;rwa[<-j])
def ag8(L:iH F E c gs.size w)(ok:F.Ok)(d:F.G a)(v:ã):pX (λi=>i<gs.size) E.Y c w (w.setCell a v):= agJ (xd d) (by obtain⟨b,_,rfl|rfl⟩:=d<;>rfl) (λk i=>L.Y ok d k i) λk i b e=>L.agU k i b e
def ag9(c:Ps F E)(d:F.G a)(v:ã)(f:j+2<=E.r):(w.setCell a v).heap[E.I j]?=w.heap[E.I j]?:= lu λe=>(c.o j f).1 (by obtain⟨b,g,rfl|rfl⟩:=d<;>(rwa[e]))
def aha(h:a=fM b\/a=gW b):a.block=b:=by rcases h with rfl|rfl<;>rfl
theorem iH.C(L:iH F E c n w){d:Nat}{w0:Ð}(y:w.heap.size<=W.heap.size):iH F E (gq c i {c i with d:=d,w:=w0}) n W:=by
 have e:∀k,(gq c i {c i with d:=d,w:=w0} k).O=(c k).O/\(gq c i {c i with d:=d,w:=w0} k).I=(c k).I/\(gq c i {c i with d:=d,w:=w0} k).r=(c k).r/\(gq c i {c i with d:=d,w:=w0} k).N=(c k).N/\(gq c i {c i with d:=d,w:=w0} k).q=(c k).q:=λk=>by grind [gU,gF]
 have t:∀k,c k=kC (c k)->gq c i {c i with d:=d,w:=w0} k=kC (gq c i {c i with d:=d,w:=w0} k):=λk f=>by
  by_cases h:k=i
  .subst h;rw[gU];have a:(c k).O=λ_=>False:=by rw[f];rfl
   have b:(c k).I=λ_=>False:=by rw[f];rfl
   have g:(c k).r=λ_=>False:=by rw[f];rfl
   have j:(c k).N=λ_=>False:=by rw[f];rfl
   have l:(c k).q=True:=by rw[f];rfl
   simp only[kC,a,b,g,j,l]
  .grind [gF]
 refine⟨λk f a o=>L.gT k f a (by unfold e9.C at o|-;rwa[(e k).2.2.1,(e k).2.2.2.1]at o),λx g m a o=>by rw[(e 0).2.2.1];exact L.o x g m a o,λh=>by rw[(e 0).2.2.2.1,(e 0).2.1];exact L.lU h,λh k g m=>by rw[(e _).2.2.1];exact L.e h k g m,λh p=>by rw[(e _).2.2.2.1,(e _).2.1];exact L.f h p,λj l p r s g=>by rw[(e _).2.2.1];exact L.h j l p r s g,λj l p=>by rw[(e _).2.2.2.1,(e _).2.1];exact L.l j l p,λx u=>t _<|L.S x u,λk f=>by rw[(e k).2.2.2.2];exact L.M k f,λk g m=>t _<|L.c k g m,λk f b v=> ?_,λk f j l=>by rw[(e j).2.2.1];exact L.N k f j l,λk g m j l=>by rw[(e j).2.2.1];exact L.g k g m j l,λj l r s g k f=>by rw[(e k).2.2.1];exact L.d j l r s g k f⟩;let⟨z,B,D⟩:=L.I k f b v;grind
end
section
variable{F:Ph}{E E':fU F}{S:Nat->Jd}{tr c:Nat->gu}{a:Nat->iA}{lot:Nat->e9}{gs gs':Array Ä}{u:ä}{sl:Option (Nat×Nat)}
def kE(b:Nat)(w W:Ð):Prop:=W=w\/∃x v,(x=fM b\/x=gW b)/\W=w.setCell x v
def kE.Dj(h:kE b w W):W.heap.size=w.heap.size:=by rcases h with rfl|⟨x,v,_,rfl⟩;all_goals simp_all
def kE.J5(h:kE b w W)(ok:F.Ok)(a:F.M b):Gd F E lot gs.size w W:=by
 rcases h with rfl|⟨x,v,c,rfl⟩
 .exact⟨Ç _,λ_ _ _ _=>rfl,λ_ _ _=>rfl,U,U,U⟩
 .exact ag7 ok ⟨b,a,c⟩ v
def kE.r(h:kE b w W)(L:iH F E lot gs.size w)(ok:F.Ok)(a:F.M b):pX (λi=>i<gs.size) E.Y lot w W:=by
 rcases h with rfl|⟨x,v,i,rfl⟩
 .exact pX.fV _ _ _ _
 .exact ag8 L ok ⟨b,a,i⟩ v
def kE.C(h:kE b w W)(a:Ps F E)(c:F.M b)(d:j+2<=E.r):W.heap[E.I j]?=w.heap[E.I j]?:=by
 rcases h with rfl|⟨x,v,e,rfl⟩
 .rfl
 .exact ag9 a ⟨b,c,e⟩ v d
def kE.M(h:kE b w W)(c:i≠b){G:GS}(a:ic w i G):ic W i G:=by
 rcases h with rfl|⟨x,v,d,rfl⟩
 .exact a
 .exact a.iT<|by rw[aha d];exact ÿ c
def kE.I(h:kE b w W)(H:gR F)(L:iH F E lot gs.size w)(d:Ps F E)(a:Wd F E w)(f:F.M b){Ga:GS}{Gg:Nat->GS}(g:(b=F.C->ic W F.C Ga)/\(b≠F.C->Ga=E.b))(i:∀k,k<=F.m->(b=F.I k->ic W (F.I k) (Gg k))/\(b≠F.I k->Gg k=E.a k)):Wd F {E with b:=Ga,a:=Gg} W:=by
 refine a.J5 H L (h.J5 H.C f) (J6 d) ?_ (λk c=> ?_) λj e=>h.C d f e
 .by_cases e:b=F.C
  .exact g.1 e
  .rw[g.2 e];exact h.M (ÿ e) a.C
 .by_cases e:b=F.I k
  .exact(i k c).1 e
  .rw[(i k c).2 e];exact h.M (ÿ e)<|a.I k c
def PI.Y(H:gR F)(p:PI F b zX E S tr a lot gs w qJ){c:Ä}{f:Array đ}{J:Jd}{T:gu}(K:iA)(q:gs[i]?=Ã g)(j:yP E i)(r:F.M n)(s:è F.P (i==0) g w=ş c W f)(l:kE n w W)(h:∀e∈f,tT F.toFx e)(m:Ï (lot i).d f=(lot i).d) (t:∀x,E.iy x->i=F.L+x->(∀e∈f,∀n,(Ë e).touch?=Ã n->∃y:Č,n.loc=ú y/\y.block=F.C)/\AR (κ qJ i) f) (hF:lh F.P (i==0) J T {lot i with w:=W} c) (v:c.status=Å\/c.status=å): ∃gs' u,Ŏ F.P (ð gs w sl) i=(ğ<|ð gs' W sl,u)/\gs'.size=gs.size/\gs'[i]?=Ã c/\(∀k,k≠i->gs'[k]?=gs[k]?.map (Ā F.P g c W))/\ gN F.P F.S E.Y (fx S i J) (fx tr i T) (fx a i K) (gq lot i {lot i with w:=W}) gs' W (qJ++u)/\TI F.toFx b zX E.r E.S.rl E.V E.e E.d E.iy E.f (qJ++u)/\iH F E (gq lot i {lot i with w:=W}) gs'.size W:=by have C:=p.I.r;obtain⟨gs',z,k,B,D,o⟩:=p.I.qF q s (l.r p.a H.C r) (by rwa[m]) v (ag5 p.a H.C C h)<|ag4 C.l p.d j h;rw[m]at o;refine⟨gs',_,z,k,B,D,o,p.d.C<|ag6 p.a p.C C j h t,?_⟩;rw[k];exact p.a.C<|Ô l.Dj.symm
theorem fg.qF(B:fg F E gs w){a:Ä}(p:gs'[i]?=Ã a)(q:a.status≠Ü)(d:∀k,k≠i->gs'[k]?=gs[k]?.map (Ā F.P g a W))(t:∀j,j+2<=E.r->W.heap[E.I j]?=w.heap[E.I j]?) (u:E'.r=E.r) (v:E'.I=E.I) (z:∀x,F.L+x≠i->E'.N x=E.N x) (C:i≠0->E'.M=E.M) (D:∀j,F.L+1+j≠i->E'.C j=E.C j) (G:i≠0->E.M=.fy .kB->E.b.sm=0->E'.b.sm=0\/∀x,gs'[0]?=Ã x->x.status≠Ü) (H:∀j r,F.L+1+j≠i->E.C j=.fy r .kB->(E.a<|F.r<|j+r*F.n).sm=0->(E'.a<|F.r<|j+r*F.n).sm=0\/∀x,gs'[F.L+1+j]?=Ã x->x.status≠Ü):fg F E' gs' W:=by
 intro k x b f;by_cases e:k=i
 .grind
 .have I:=b;rw[d k e]at b;obtain⟨y,h,rfl⟩:=Ù.1 b;let⟨_,l⟩:=Ge f;rcases B k y h l with⟨J,m,c⟩|⟨j,K,M,m,⟨r,c,o⟩|⟨r,N,s,O,c,o⟩⟩;all_goals grind
def Dn(a:j+2<=E.r):yP E (F.L+1+j):=Á ⟨j+1,Z,Z⟩
def Kb(b:E.N (j+1)=Í):∀x,E.iy x->F.L+1+j=F.L+x->False:=λx ⟨e,a,_⟩ h2=>by
 have:x=j+1:=Z
 subst this;rw[b]at a;cases a
def Gl(ok:F.Ok)(h:i<F.q):F.M (F.I<|F.r i):=Á ⟨F.r i,ok.I i h,U⟩
def iP(a:gs[i]?=Ã g):i<gs.size:=(Õ.1 a).1
end
theorem xe{f f':Nat->Nat}:∀{n:Nat},j<n->(∀i,i≠j->f' i=f i)->Ñ n f'+f j=Ñ n f+f' j
 |n+1,h,hf=>by
  simp only[Ñ];rcases ģ j n with gS|a
  .have:=xe (n:=n) gS hf;rw[hf n Z];omega
  .obtain rfl:j=n:=Z
   rw[Ł λi b=>hf i Z];omega
def Gm{f:Nat->Nat}:∀{n:Nat},(∀i,f i<=1)->Ñ n f<=n
 |0,_=>Ç _
 |n+1,h=>by simp only[Ñ];have:=Gm (n:=n) h;have:=h n;omega
def OZ{f:Nat->Nat}:∀{n:Nat},j<n->f j<=Ñ n f
 |n+1,h=>by
  simp only[Ñ];rcases ģ j n with gS|a
  .have:=OZ (f:=f) (n:=n) gS;omega
  .obtain rfl:j=n:=Z
   omega
def Gn{f:Nat->Nat}:∀n:Nat,(Ñ n λi=>f i+D i)=Ñ n f+Ñ n D
 |0=>rfl
 |n+1=>by simp only[Ñ];rw[Gn n];omega
def O0{f:Nat->Nat}(c:Nat):∀n:Nat,(Ñ n λi=>c*f i)=c*Ñ n f
 |0=>by simp[Ñ]
 |n+1=>by simp only[Ñ];rw[O0 c n,ł]
section
variable{F:Ph}{E E':fU F}{S:Nat->Jd}{tr z:Nat->gu}{C:Nat->iA}{o:Nat->e9}{gs gs':Array Ä}{u:ä}{sl:Option (Nat×Nat)}
def kg(F:Ph)(b:Nat)(zX:π->Prop)(E:fU F)(tr:Nat->gu)(gs:Array Ä)(w:Ð)(qJ:ä)(sl:Option (Nat×Nat))(i:Nat):Prop:=
 ∃(E':fU F) (a:Nat->Jd) (z:Nat->gu) (c:Nat->iA) (d:Nat->e9) (gs':Array Ä) (W:Ð) (u:ä),Ŏ F.P (ð gs w sl) i=(ğ<|ð gs' W sl,u)/\gs'.size=gs.size/\(E'.M=.gd->E.M=.gd)/\PI F b zX E' a z c d gs' W (qJ++u)/\pw F.N (E'.mu z gs') (E.mu tr gs)
def rB(F:Ph)(b:Nat)(zX:π->Prop)(E:fU F)(tr:Nat->gu)(gs:Array Ä)(w:Ð)(qJ:ä):Prop:=
 ∃(E':fU F) (a:Nat->Jd) (z:Nat->gu) (c:Nat->iA) (d:Nat->e9),(E'.M=.gd->E.M=.gd)/\PI F b zX E' a z c d gs w qJ/\pw F.N (E'.mu z gs) (E.mu tr gs)
def ahb(i:Nat):gk gs i<=1:=by unfold gk;split<;>omega
theorem XU(a:∀k,k<F.N->E'.iT z k=E.iT tr k)(b:i<F.N)(e:E'.ly i<E.ly i)(c:∀k,k≠i->E'.ly k=E.ly k):pw F.N (E'.mu z gs') (E.mu tr gs):=by
 refine Á ⟨a,?_⟩;show(Ñ F.N λi=>(F.N+1)*E'.ly i+gk gs' i)<Ñ F.N λi=>(F.N+1)*E.ly i+gk gs i;rw[Gn,Gn,O0,O0];have g:=xe b c;have h:=Gm (f:=gk gs') (n:=F.N) ahb;have d:Ñ F.N E'.ly+1<=Ñ F.N E.ly:=Z
 have j:(F.N+1)*(Ñ F.N E'.ly+1)<=(F.N+1)*Ñ F.N E.ly:=ï _ d;grind
theorem O1(a:∀k,k<F.N->E.iT z k=E.iT tr k)(b:i<F.N)(c:gk gs i=1)(d:gk gs' i=0)(e:∀k,k≠i->gk gs' k=gk gs k):pw F.N (E.mu z gs') (E.mu tr gs):=by refine Á ⟨a,?_⟩;show(Ñ F.N λi=>(F.N+1)*E.ly i+gk gs' i)<Ñ F.N λi=>(F.N+1)*E.ly i+gk gs i;rw[Gn,Gn];grind [xe]
theorem XV(ok:F.Ok)(j:Nat):E.ly (F.L+1+j)=match E.C j with|.fy r p=>p.ly F.B (E.a<|F.r<|j+r*F.n).st|_=>0:=by have:=ok.r;unfold fU.ly;grind
def ahc{x:gO}(a:k≠F.L+1+j):(gP E j x).ly k=E.ly k:=by
 unfold fU.ly;split
 .rfl
 .split
  .rfl
  .rw[iO x Z];rfl
def ahd(ok:F.Ok){r:Nat}{p a:SP}{T:gu}(d:F.L+1+j<F.N)(b:E.N (j+1)=Í)(c:E.C j=.fy r (.mb p))(f:tr (F.L+1+j)=.fA)(g:T=.fA)(h:a.rk F.B (E.a<|F.r<|j+r*F.n).st<p.rk F.B (E.a<|F.r<|j+r*F.n).st): pw F.N ((gP E j<|.fy r (.mb a)).mu (fx tr (F.L+1+j) T) gs') (E.mu tr gs):=by
 refine XU (λk _=> ?_) d ?_ λk e=>ahc e
 .by_cases e:k=F.L+1+j
  .subst e;rw[tS ok (E:=gP E j _) (show(gP E j _).N (j+1)=Í from b),tS ok b,jN,gD,c,f,g];rfl
  .refine yO (λ_=>rfl) (λ_ _=>rfl) (λ_=>rfl) (λ_ _=>rfl) (λi _=> ?_)<|fG tr _ e;rw[iO _ Z]
 .rwa[XV ok,XV ok,jN,c]
def PI.Dp(H:gR F)(p:PI F b zX E S tr C o gs w qJ){v:ju}(d:j+2<=E.r)(e:E.N (j+1)=Í)(f:gs[F.L+1+j]?=Ã g)(h:g.status=Å)(k:tr (F.L+1+j)=.fA)(l:E.C j=.fy i v): ∀w₁,fE (o<|F.L+1+j) (o<|F.L+1+j).w w₁->qH F.P É F.B (F.I<|F.r<|j+i*F.n) (F.e (E.I j)<|j+i*F.n) v {o (F.L+1+j)with w:=w₁} g:=by
 let⟨a,c⟩:=p.g j d e;rw[l]at a c;have m:C (F.L+1+j)=.no\/C (F.L+1+j)=.iB:=by rw[c];cases v<;>first|exact À U|exact Á U
 intro w₁ i;have:=p.I.N f h k m w₁ i;rwa[a]at this
def yS(ok:F.Ok)(j:Nat):(F.L+1+j==0)=É:=by have:=ok.r;simp
theorem PI.O2(H:gR F)(p:PI F b zX E S tr C o gs w qJ){x:gO}{l:e9}{T:gu}(u:j+2<=E.r)(m:E.N (j+1)=Í)(n:gs[F.L+1+j]?=Ã g)(v:g.status=Å\/g.status=å) (z:iR F.S (λi=>i<gs.size) E.Y (gq o (F.L+1+j) l) w qJ) (hF:lh F.P É (JW F (E.I j) j x) T l g) (B:iH F (gP E j x) (gq o (F.L+1+j) l) gs.size w) (D:Wd F (gP E j x) w) (G:Ps F (gP E j x)) (I:x.rk F<(E.C j).rk F) (V:∀r,x≠ .jK r):rB F b zX E tr gs w qJ:=by
 refine⟨gP E j x,_,_,_,_,λh=>h,.r (p.N.N H.C u m) p.b (p.I.M (K:=kW F (E.I j) x) n v z<|by rwa[yS H.C]) B D G p.d (λk y J M=> ?_) λa r f c d=> ?_,Dm H.C (p.G<|iP n) m I⟩
 .by_cases e:k=F.L+1+j
  .grind
  .rcases p.c k y J M with f|⟨a,q,t,c,d|⟨r,N,s,O,d,Q⟩⟩
   .exact À f
   .exact Á ⟨a,q,t,c,À<|by rwa[iO x Z]⟩
   .exact Á ⟨a,q,t,c,Á ⟨r,N,s,O,by rwa[iO x Z],Q⟩⟩
 .by_cases e:a=j
  .grind [jN]
  .rw[iO x e]at c;exact p.f a r f c d
theorem PI.ahe(H:gR F)(p:PI F b zX E S tr C o gs w qJ){r:Nat}(e:j+2<=E.r)(l:E.N (j+1)=Í)(m:gs[F.L+1+j]?=Ã g)(n:g.status=Å)(s:tr (F.L+1+j)=.fA)(c:E.C j=.fy r .iY):rB F b zX E tr gs w qJ:=by
 have f:=iP m;let⟨k,y,t,u⟩:=(p.Dp H e l m n s c) w<|p.I.r.r _ f;have v:iR F.S (λi=>i<gs.size) E.Y (gq o (F.L+1+j) {o (F.L+1+j)with w:=w}) w qJ:=p.I.r.C f (λ_ q=>q) (λa q=>À<|Á q) (λ_ q=>q) (λa q=>À<|Á q) U U U (p.I.r.m _ f)<|p.I.r.g _ f;refine p.O2 H (x:=.fy r (.mb (.fZ k))) (T:=.fA) e l m (À n) v (λh a=>⟨t,JO u a⟩) ?_ (p.M.Y (by rw[c];rfl)<|by rw[c];rfl) (p.C.G e l (λk=>by rw[c];rfl) (λa h=> ?_) (λa h=> ?_) (λa h=>by cases h) λa h=>by cases h) (by rw[c];simp only[gO.rk,ju.rk];omega) λa h=>by cases h
 .have:=(p.a.r (x:=.fy r (.mb (.fZ k)))<|by rw[c];rfl).C (i:=F.L+1+j) (d:=(o<|F.L+1+j).d) (w0:=w)<|Ç _;exact this
 .rcases h with⟨_,h⟩|h|h<;>cases h;exact p.C.d j r e<|À ⟨_,c⟩
 .grind
def XW{y z:Int->Jd}{p:SP}{l:e9}{G:GS}(h:De P yQ (fM b) i y z p l g)(j:ic w b G):g.status=Å/\ ((∃f a e,è P yQ g w=ş a w e/\(e=#[]\/e=#[kA<|fM b])/\De P yQ (fM b) i y z f l a/\f.rk i G.st<p.rk i G.st)\/ (∃a,è P yQ g w=ş a w #[kA<|fM b]/\(∀c q,G=.cl c q->c=0)/\fh P yQ (y G.st) l a)\/ (∃a c q,G=.cl c q/\0<c/\è P yQ g w=ş a (w.setCell (fM b)<|ë Ó<|Ó.wrap<|G.st+1) #[kA<|fM b,mS<|fM b]/\fh P yQ (z G.st) l a)):=by
 let⟨T,C,x⟩:=h;let⟨J,d⟩:=x p g C;refine⟨J,?_⟩;have D:∀u,T u g->(∀n,u≠ .fZ (n+1))->(∀v n,u≠ .ld v (n+1))->u.rk i G.st<=p.rk i G.st->((∃f a e,è P yQ g w=ş a w e/\(e=#[]\/e=#[kA<|fM b])/\De P yQ (fM b) i y z f l a/\f.rk i G.st<p.rk i G.st)\/ (∃a,è P yQ g w=ş a w #[kA<|fM b]/\(∀c q,G=.cl c q->c=0)/\fh P yQ (y G.st) l a)\/ (∃a c q,G=.cl c q/\0<c/\è P yQ g w=ş a (w.setCell (fM b)<|ë Ó<|Ó.wrap<|G.st+1) #[kA<|fM b,mS<|fM b]/\fh P yQ (z G.st) l a)):=by
  intro u C K L F;have d:=(x u g C).2;match u,d with
  |.fZ (n+1),_=>exact absurd U<|K n
  |.ld v (n+1),_=>exact absurd U<|L v n
  |.fZ 0,d=>
   let⟨a,o,k⟩:=d G.st;by_cases f:0<=G.st/\G.st<fY
   .rw[if_pos f]at k;have e:G.st<1000000:=by
     have t:=j.r;cases G with
     |cl c q=>
      let⟨H,I,m⟩:=t;simp only[GS.st,fY]at f|-;have:c=0:=Z
      have:=m this;omega
     |jE q=>simp only[GS.ok]at t;simp only[GS.st];omega
     |gX r s=>simp only[GS.st];omega
    exact Á<|À ⟨a,o w j.C,j.agN.1 f,k e⟩
   .rw[if_neg f]at k;have e:fY<=G.st/\G.st<fY*2147483648/\G.st%fY<1000000:=by
     have t:=j.r;cases G with
     |cl c q=>
      let⟨H,I,_⟩:=t;simp only[GS.st,fY]at f|-;omega
     |jE q=>simp only[GS.ok]at t;simp only[GS.st,fY]at f;omega
     |gX r s=>simp only[GS.st,fY]at f;omega
    let⟨m,M,E⟩:=k e;exact À ⟨.ld G.st m,a,_,o w j.C,Á U,⟨T,E,x⟩,Ê (by simp only[SP.rk,if_true];omega) F⟩
  |.ld v 0,⟨f,⟨a,o,k⟩,g'',E,n,hn,h4⟩=>
   by_cases e:G.st=v
   .subst e;have:∃c q,G=.cl c q/\0<c:=by
     have t:=j.r;cases G with
     |cl c q=>
      refine⟨c,q,U,?_⟩;let⟨H,I,_⟩:=t;simp only[GS.st,fY]at f;omega
     |jE q=>simp only[GS.ok]at t;simp only[GS.st,fY]at f;omega
     |gX r s=>simp only[GS.st,fY]at f;omega
    let⟨c,q,r,s⟩:=this;exact Á<|Á ⟨a,c,q,r,s,o w j.C j.I,k⟩
   .exact À ⟨.fZ n,g'',_,E w G.st e j.C j.I,Á U,⟨T,h4,x⟩,Ê (by simp only[SP.rk,if_neg e];omega) F⟩
 match p,d with
 |.fZ (n+1),⟨hn,d⟩=>
  rcases d with d|d
  .exact D (.fZ 0) d (λn q=>by cases q) (λv n q=>by cases q)<|by simp only[SP.rk];omega
  .let⟨a,o,k⟩:=d w;exact À ⟨.fZ n,a,#[],o,À U,⟨T,k,x⟩,by simp only[SP.rk];omega⟩
 |.fZ 0,_=>exact D (.fZ 0) C (λn q=>by cases q) (λv n q=>by cases q)<|Ç _
 |.ld v (m+1),⟨_,M,d⟩=>
  rcases d with d|d
  .exact D (.ld v 0) d (λn q=>by cases q) (λv n q=>by cases q)<|by simp only[SP.rk];split<;>omega
  .let⟨a,o,k⟩:=d w;exact À ⟨.ld v m,a,#[],o,À U,⟨T,k,x⟩,by simp only[SP.rk];split<;>omega⟩
 |.ld v 0,_=>exact D (.ld v 0) C (λn q=>by cases q) (λv n q=>by cases q)<|Ç _
def PI.ahf(H:gR F)(p:PI F b zX E S tr C o gs w qJ){r:Nat}{v:SP}(G:j+2<=E.r)(s:E.N (j+1)=Í)(hi:gs[F.L+1+j]?=Ã g)(iI:g.status=Å)(ht:tr (F.L+1+j)=.fA)(m:E.C j=.fy r (.mb v)):kg F b zX E tr gs w qJ sl (F.L+1+j):=by
 have gS:=iP hi;have oR:=p.C.d j r G<|À ⟨_,m⟩;have N:=Gl H.C oR;have X:=H.C.I _ oR;have hG:=p.M.I _ X;obtain⟨hd,oO⟩:=(p.Dp H G s hi iI ht m) w<|p.I.r.r _ gS;have vu:j<F.n:=by have:=Dl p.C;omega
 have ns:=Kb (E:=E) s;have mw:=yS H.C j;have xf:=p.G gS;obtain⟨_,oO⟩:=XW oO hG;rcases oO with⟨p',g',es,h1,I,h3,h4⟩|⟨g',h1,I,h3⟩|⟨g',c,K,Q,tU,h1,I⟩
 .have hes:∀e∈es,tT F.toFx e:=by
   rcases I with rfl|rfl
   .intro e s;simp at s
   .exact yR N
  obtain⟨T',O3,AT⟩:=h3;obtain⟨gs',u,q1,V,q3,q4,q5,q6,q7⟩:=p.Y (J:=JW F (E.I j) j<|.fy r (.mb p')) (T:=.fA) H (kW F (E.I j)<|.fy r (.mb p')) hi (Dn G) N (by rwa[mw]) (À U) hes (by rcases I with rfl|rfl<;>rfl) (λx hs e=>(ns x hs e).elim) (by rw[mw];exact λw₁ kh=>⟨hd,JO ⟨T',O3,AT⟩ kh⟩)<|À (AT _ _ O3).1;refine⟨gP E j<|.fy r (.mb p'),_,_,_,_,gs',w,u,q1,V,λh=>h,.r (p.N.N H.C G s) (V.trans p.b) q5 (q7.r<|by rw[m];rfl) (p.M.Y (by rw[m];rfl)<|by rw[m];rfl) (p.C.G G s (λk=>by rw[m];rfl) (λf h=> ?_) (λf h=> ?_) (λf h=>by cases h) λf h=>by cases h) q6 (p.c.qF (E':=gP E j _) q3 (by rw[(AT _ _ O3).1];simp) q4 (λ_ _=>rfl) U U (λ_ _=>rfl) (λ_=>rfl) (λt e=>iO _ Z) (λ_ _ h=>À h) λ_ _ _ _ h=>À h) λt f O z Y=> ?_,ahd H.C xf s m ht U h4⟩
  .rcases h with⟨_,h⟩|h|h<;>cases h;exact oR
  .rcases h with h|h|h<;>cases h
  .rw[iO _ (λe=>by subst e;rw[jN]at z;cases z)]at z;exact(p.f t f O z Y).app u
 .obtain⟨T,hT⟩:=jk h3;have np:=lG (λl g h=>À h.2.1) h3;obtain⟨gs',u,q1,V,q3,q4,q5,q6,q7⟩:=p.Y H (kW F (E.I j)<|.fy r .lj) hi (Dn G) N (by rwa[mw]) (À U) (yR N) U (λx hs e=>(ns x hs e).elim) (by rwa[mw]) np;refine⟨gP E j<|.fy r .lj,_,_,_,_,gs',w,u,q1,V,λh=>h,.r (p.N.N H.C G s) (V.trans p.b) q5 (q7.r<|by rw[m];rfl) (p.M.Y (by rw[m];rfl)<|by rw[m];rfl) (p.C.G G s (λk=>by rw[m];rfl) (λf h=> ?_) (λf h=> ?_) (λf h=>by cases h) λf h=>by cases h) q6 (p.c.qF (E':=gP E j _) q3 (by rcases np with q|q<;>rw[q]<;>simp) q4 (λ_ _=>rfl) U U (λ_ _=>rfl) (λ_=>rfl) (λt e=>iO _ Z) (λ_ _ h=>À h) λ_ _ _ _ h=>À h) λt f O z Y=> ?_,Dm H.C xf s<|by rw[m];simp only[gO.rk,ju.rk];omega⟩
  .rcases h with⟨_,h⟩|h|h<;>cases h;exact oR
  .have:f=r:=by rcases h with h|h|h<;>cases h;rfl
   subst this;refine ă λAU=> ?_;have:=I _ _<|p.C.e _ Z X AU;omega
  .rw[iO _ (λe=>by subst e;rw[jN]at z;cases z)]at z;exact(p.f t f O z Y).app u
 .have hcd:E.S.od<F.r (j+r*F.n):=by
   refine ñ λhle=> ?_;rcases p.C.Y _ X hle with⟨W,_,q,_⟩|⟨_,_,_,_,q,_⟩|⟨_,⟨q,_⟩|⟨_,q,_⟩⟩<;>(rw[Q]at q;cases q);omega
  have AV:=p.C.e _ Z X hcd;have e0:=Q.symm.trans AV;injection e0 with e1 e2;subst e1;have XX:K<=F.n:=by rw[e2];exact Gm λi=>by cases E.C i<;>simp only[gO.gC]<;>first|omega|(split<;>first|omega|(rename_i q _;cases q<;>simp[ju.sM]))
  have Gp:=H.C.gf;have Gq:=(Q▸hG:ic w (F.I<|F.r<|j+r*F.n) (.cl 1 K)).XD Z Z;obtain⟨hv,Gq⟩:=Gq;obtain⟨x,Dq,AW,XY,Ke,hx4⟩:∃(x:ju) (Dq:Nat->Option Nat),(x=.wr\/x=.kB)/\fh F.P É (qH F.P É F.B (F.I<|F.r<|j+r*F.n) (F.e (E.I j)<|j+r*F.n) x) {o (F.L+1+j)with w:=w} g'/\((∀M,M≠F.r (j+r*F.n)->Dq M=E.d M)/\∀y,E.d (F.r<|j+r*F.n)=Ã y->Dq (F.r<|j+r*F.n)=Ã y)/\(x=.wr->Dq (F.r<|j+r*F.n)=Ã j):=by
   by_cases hz:K=0
   .subst hz;refine⟨.wr,fx E.d (F.r<|j+r*F.n)<|Ã j,À U,?_,⟨λM tO=>fG _ _ tO,λy hy=> ?_⟩,λ_=>gD _ _ _⟩
    .have:E.a (F.r<|j+r*F.n)=.cl 1 0:=Q;rw[this]at I;have e:(GS.cl 1 0).st%fY=0:=A
     simp only[e,if_true]at I;exact I
    .rw[p.C.y _ X Q]at hy;cases hy
   .refine⟨.kB,E.d,Á U,?_,⟨λ_ _=>rfl,λ_ h=>h⟩,λh=>by cases h⟩;have:E.a (F.r<|j+r*F.n)=.cl 1 K:=Q;rw[this]at I;have e:¬(GS.cl 1 K).st%fY=0:=by simp only[GS.st,fY];omega
    simp only[e,if_false]at I;exact I
  have hxw:x.sM=1:=by rcases AW with rfl|rfl<;>rfl
  have Dr:=XY.j5 (w₁:=w.setCell (fM<|F.I<|F.r<|j+r*F.n)<|ë Ó<|Ó.wrap<|(GS.cl 1 K).st+1) (by have D:=(kE.r (Á ⟨fM<|F.I<|F.r<|j+r*F.n,_,À U,U⟩:kE (F.I<|F.r<|j+r*F.n) w (w.setCell (fM<|F.I<|F.r<|j+r*F.n)<|ë Ó<|Ó.wrap<|(GS.cl 1 K).st+1)) p.a H.C N);exact⟨Ô D.r.symm,λd lk=>D.jU d<|p.I.r.I _ gS d lk,λa ha=>D.M _ gS a ha,λa ha=>D.N _ gS a ha,λa _=>D.I a⟩);obtain⟨T,hT⟩:=jk Dr;have XZ:=lG (λl g h=>by rcases AW with rfl|rfl<;>exact À h.2.1) XY;have O4:kE (F.I<|F.r<|j+r*F.n) w (w.setCell (fM<|F.I<|F.r<|j+r*F.n)<|ë Ó<|Ó.wrap<|(GS.cl 1 K).st+1):=Á ⟨_,_,À U,U⟩;obtain⟨gs',u,q1,V,q3,q4,q5,q6,q7⟩:=p.Y H (kW F (E.I j)<|.fy r x) hi (Dn G) N (by rw[mw];exact(Q▸h1)) O4 (AS N) U (λx hs e=>(ns x hs e).elim) (by rwa[mw]) XZ;have sN:=xe (f':=λi=>((gP E j<|.fy r x).C i).gC F i<|F.r<|j+r*F.n) vu (λi lz=>by rw[iO _ lz]);simp only[jN,m]at sN;have tV:gO.gC F j (F.r<|j+r*F.n) (.fy r x)=1:=by simp only[gO.gC,if_true,hxw]
  have sP:gO.gC F j (F.r<|j+r*F.n) (.fy r (.mb v))=0:=by simp only[gO.gC,if_true];rfl
  rw[tV,sP]at sN;refine⟨vt E j (.fy r x) (F.r<|j+r*F.n) (.cl 1 (K+1)) Dq,_,_,_,_,gs',_,u,q1,V,λh=>h,.r ?_ (V.trans p.b) q5 ?_ ?_ (p.C.XR G s (λM tO=> ?_) (λ_ _=> ?_) (λh=>by omega) (λ⟨a,d,h⟩=> ?_) (λh=>by injection h with _ h;omega) Ke.1 Ke.2 (λf h=> ?_) (λf h=> ?_) (λf h=> ?_) λf h=> ?_) (q6.agQ λM y hy=> ?_) ?_ λt f O z Y=> ?_,?_⟩
  .have:=p.N.N (x:=.fy r x) (T:=T) H.C G s;exact⟨this.M,this.Y,this.I,this.C,this.r⟩
  .have:=q7.r (x:=.fy r x) (by rw[m];rfl);exact⟨this.gT,this.o,this.lU,this.e,this.f,this.h,this.l,this.S,this.M,this.c,this.I,this.N,this.g,this.d⟩
  .have W1:=O4.I H p.a p.C p.M N (Gg:=fx E.a (F.r<|j+r*F.n)<|.cl 1 (K+1)) ⟨λe=>absurd e<|H.C.M _ X,λ_=>rfl⟩ λM tO=>⟨λe=> ?_,λe=>fG _ _ λe'=>e<|by rw[e']⟩
   .have W2:=W1.Y (x:=.fy r x) (by show _=(E.C j).kD;rw[m];rfl) (by show _=(E.C j).iN;rw[m];rfl);exact⟨W2.C,W2.I,W2.jG,W2.M,W2.S,W2.N⟩
   .rwa[<-(H.C.S _ _ X tO e),gD]
  .rw[m];simp only[gO.gC,if_neg<|ÿ tO]
  .congr 1;rw[<-e2]at sN;omega
  .rw[Q]at h;cases h
  .rcases h with⟨_,h⟩|h|h<;>cases h;exact oR
  .rcases h with h|h|h<;>cases h<;>(rcases AW with h|h<;>cases h)
  .cases h;rcases AW with h|h<;>cases h
  .cases h;exact hx4 U
  .by_cases e:M=F.r (j+r*F.n)
   .subst e;exact Ke.2 y hy
   .show Dq M=Ã y;rwa[Ke.1 M e]
  .refine p.c.qF (E':=vt E j _ _ _ _) q3 (by rcases XZ with q|q<;>rw[q]<;>simp) q4 (λt oQ=>O4.C p.C N oQ) U U (λ_ _=>rfl) (λ_=>rfl) (λt e=>iO _ Z) (λ_ _ h=>À h) λt f _ _ h=>À ?_;by_cases e:F.r (t+f*F.n)=F.r (j+r*F.n)
   .show(fx E.a _ _ _).sm=0;rw[e,gD];rfl
   .show(fx E.a _ _ _).sm=0;rwa[fG _ _ e]
  .have e:t≠j:=λe=>by
    subst e;have:(gP E t<|.fy r x).C t=.jK f:=z;rw[jN]at this;cases this
   have AX:(gP E j<|.fy r x).C t=.jK f:=z;rw[iO _ e]at AX;exact(p.f t f O AX Y).app u
  .have:=Dm (E:=E) (tr:=tr) (gs:=gs) (gs':=gs') (x:=.fy r x) (T:=T) H.C xf s (by rw[m];rcases AW with rfl|rfl<;>simp only[gO.rk,ju.rk]<;>omega);rcases this with⟨i,O,z,Y⟩|⟨O,_⟩
   .exact À ⟨i,O,z,Y⟩
   .exfalso;have:=O _ xf;change(gP E j<|.fy r x).iT (fx tr (F.L+1+j) T) (F.L+1+j)=E.iT tr (F.L+1+j)at this;rw[tS H.C (E:=gP E j _) (show(gP E j _).N (j+1)=Í from s),tS H.C s,jN,m]at this;injection this with e _;rcases AW with rfl|rfl<;>simp only[gO.rk,ju.rk]at e<;>omega
end
section
variable{F:Ph}{E E':fU F}{S:Nat->Jd}{s D:Nat->gu}{B:Nat->iA}{f:Nat->e9}{c o:Array Ä}{u:ä}{sl:Option (Nat×Nat)}
def PI.O5(H:gR F)(p:PI F j zX E S s B f c w qJ){x:gO}{a:Ä}{T:gu}(y:i+2<=E.r)(d:E.N (i+1)=Í)(z:c[F.L+1+i]?=Ã g)(C:Ŏ F.P (ð c w sl) (F.L+1+i)=(ğ<|ð o w sl,u))(l:o.size=c.size)(D:o[F.L+1+i]?=Ã a)(G:a.status=Å\/a.status=å)(I:∀k,k≠F.L+1+i->o[k]?=c[k]?.map (Ā F.P g a w)) (J:gN F.P F.S E.Y (fx S (F.L+1+i)<|JW F (E.I i) i x) (fx s (F.L+1+i) T) (fx B (F.L+1+i)<|kW F (E.I i) x) (gq f (F.L+1+i) {f (F.L+1+i)with w:=w}) o w (qJ++u)) (K:TI F.toFx j zX E.r E.S.rl E.V E.e E.d E.iy E.f (qJ++u)) (M:iH F E (gq f (F.L+1+i) {f (F.L+1+i)with w:=w}) o.size w) (m:x.kD=(E.C i).kD) (N:x.iN=(E.C i).iN) (O:Ps F (gP E i x)) (Q:x.rk F<(E.C i).rk F) (W:∀r,x=.jK r->1<=F.r (i+r*F.n)->Λ (qJ++u) (F.L+1+i) (E.e<|F.r<|i+r*F.n)):kg F j zX E s c w qJ sl (F.L+1+i):=by
 refine⟨gP E i x,_,_,_,_,o,w,u,C,l,λh=>h,.r (p.N.N H.C y d) (l.trans p.b) J (M.r m) (p.M.Y m N) O K (p.c.qF (E':=gP E i _) D (by rcases G with q|q<;>rw[q]<;>simp) I (λ_ _=>rfl) U U (λ_ _=>rfl) (λ_=>rfl) (λb e=>iO _ Z) (λ_ _ h=>À h) λ_ _ _ _ h=>À h) λb t X q v=> ?_,Dm H.C (p.G<|iP z) d Q⟩
 .by_cases e:b=i
  .subst e;rw[jN]at q;exact W t q v
  .rw[iO _ e]at q;exact(p.f b t X q v).app u
def O6{r:Nat}{v:ju}(h:v.sM=0):gO.gC F j k (.fy r v)=0:=by simp only[gO.gC,h];split<;>rfl
def xg{a:Ă}(h:a∈#[wQ]):a=wQ:=by simpa using h
def ahg{i:Nat}{fn:Ĵ}{pos:String}{m:Ο}:∃y:Ă,Û i fn pos #[jV m]=#[y]/\y.g=i/\y.act=ė m:=⟨{g:=i,fn,pos,act:=ė m},by simp[Û,jV,Ë],U,U⟩
def PI.AY(H:gR F)(p:PI F j zX E S s B f c w qJ){a:Ä}{m:Ο}{J:Jd}{T:gu}(K:iA)(v:c[i]?=Ã g)(x:è F.P (i==0) g w=ş a w #[jV m])(z:m≠õ)(C:m≠î) (D:∀y:Ă,y.act=ė m->(∀b,y.act.touch?=Ã b->F2 (λi=>i<c.size) E.Y f b)/\y.act.low w.heap.size) (G:∀y:Ă,y.g=i->y.act=ė m->∀I,¬Race I (qJ++#[y])) (hF:lh F.P (i==0) J T {f i with w:=w} a) (L:a.status=Å\/a.status=å): ∃o y,y.g=i/\y.act=ė m/\Ŏ F.P (ð c w sl) i=(ğ<|ð o w sl,#[y])/\o.size=c.size/\o[i]?=Ã a/\(∀k,k≠i->o[k]?=c[k]?.map (Ā F.P g a w))/\ gN F.P F.S E.Y (fx S i J) (fx s i T) (fx B i K) (gq f i {f i with w:=w}) o w (qJ++#[y])/\iH F E (gq f i {f i with w:=w}) o.size w:=by
 obtain⟨y,l,n,h⟩:=ahg;have r:Ï (f i).d #[jV m]=(f i).d:=ĺ (λe k=>by
  have:e=jV m:=by simpa using k
  subst this;exact⟨λq=>z (by injection q),λq=>C (by injection q)⟩) _
 have M:∀e∈#[jV m],Ë e=y.act:=λe k=>by
  have:e=jV m:=by simpa using k
  subst this;rw[h];rfl
 obtain⟨o,q,t,N,O,u⟩:=p.I.qF v x (pX.fV _ _ _ _) (by rwa[r]) L (λe k=>by rw[M e k];exact D y h) (by rw[l];exact G y n h);rw[r,l]at u;rw[l]at q;refine⟨o,y,n,h,q,t,N,O,u,?_⟩;rw[t];exact p.a.C<|Ç _
def O7(H:gR F)(p:PI F j zX E S s B f c w qJ)(hb:F.M b)(D:yP E i){m:Ο}(N:m=.read (gW b)\/m=Υ (gW b))(T:F.OT E.d (gW b) (Ã i))(W:∀x,E.iy x->i≠F.L+x): (∀y:Ă,y.act=ė m->(∀b,y.act.touch?=Ã b->F2 (λi=>i<c.size) E.Y f b)/\y.act.low w.heap.size)/\(∀y:Ă,y.g=i->y.act=ė m->∀O,¬Race O (qJ++#[y]))/\∀y:Ă,y.g=i->y.act=ė m->TI F.toFx j zX E.r E.S.rl E.V E.e E.d E.iy E.f (qJ++#[y]):=by
 have C:=p.I.r;have G:∀y:Ă,y.act=ė m->∀a,y.act.touch?=Ã a->a.loc=ú (gW b)/\a.kind=.said:=λy t a l=>by rw[t]at l;rcases N with rfl|rfl<;>simp[Ċ]at l<;>subst l<;>exact⟨U,U⟩
 have u:=(xc hb).2;refine⟨λy t=>⟨λa l=>À ⟨_,(G y t a l).1,xd u,λk D=>p.a.Y H.C u k D⟩,?_⟩,λy I t=>λO=> ?_,λy I t=> ?_⟩
 .have:=C.N _<|xd (E:=E) u;rw[t];rcases N with rfl|rfl<;>exact this
 .refine noRace_append (C.l O) (λd h=>by rw[xg h,I]) λq a l d h z hz X=> ?_;have:d=y:=by simpa using h
  subst this;let⟨n,P⟩:=G d t z hz;rcases p.d.M q a _ l (X.1.trans n) u with⟨J,o⟩|r|⟨_,r⟩
  .exact XS p.d D J o
  .let⟨_,_,_,v⟩:=X;rw[r,P]at v;rcases v with v|v|⟨_,v,_⟩<;>cases v
  .have e:qJ.g? q=Ã i:=by
    rcases T with⟨K,M⟩|⟨k,v,K,M,s3,s4⟩
    .rcases r with⟨_,o⟩|⟨k,v,Q,o,_,_⟩
     .rw[o,M]
     .rw[K]at o;exact absurd (by injection o with o _ _;exact o.symm)<|H.C.M k Q
    .rcases r with⟨J,_⟩|⟨k',j',Q,o,r3,r4⟩
     .rw[M]at J;exact absurd (by injection J)<|H.C.M k K
     .rw[M]at o;have:k=k':=H.C.S _ _ K Q (by injection o);subst this;rw[s3]at r3;obtain rfl:=È r3;rw[r4,s4]
   let⟨M,v,K⟩:=Ù.1 e;have:=knows_own v;rwa[K]at this
 .refine p.d.C ⟨λd h a _=>by rw[xg h,I],D.imp id À,λd h a x l o K=> ?_,λd h a z l Q o k X J=> ?_,λd h b' _ e=> ?_,λx K q=>⟨λr M=>M.appOther (λd h=>by rw[xg h,I])<|W x q,λe=>absurd e.symm<|W x q⟩⟩
  .have:d=y:=by simpa using h
   subst this;let⟨n,P⟩:=G d t a l;rw[o]at n;injection n with n;subst n;exact Á ⟨P,T⟩
  .have:d=y:=by simpa using h
   subst this;let⟨n,_⟩:=G d t a l;rw[o]at n;injection n with n;subst n;exact⟨λv=>(p.a.I k (Ø J<|J7 p.C) _ v).2.1<|xd u,λe=>by simp[gW,jf]at e⟩
  .have:d=y:=by simpa using h
   subst this;rw[t]at e;rcases N with rfl|rfl<;>simp at e
theorem PI.ahh(H:gR F)(p:PI F j zX E S s B f c w qJ){r:Nat}(b:i+2<=E.r)(d:E.N (i+1)=Í)(q:c[F.L+1+i]?=Ã g)(z:g.status=Å)(C:s (F.L+1+i)=.fA)(a:E.C i=.fy r .wr):kg F j zX E s c w qJ sl (F.L+1+i):=by let⟨Y,_,g',D,t⟩:=p.Dp H b d q z C a w<|p.I.r.r _<|iP q;have u:=p.C.d i r b<|À ⟨_,a⟩;have v:=yS H.C i;let⟨G,I,K⟩:=O7 H p (Gl H.C u) (Dn b) (m:=Υ<|gW<|F.I<|F.r<|i+r*F.n) (Á U) (Á ⟨_,i,H.C.I _ u,U,p.C.D i r b a,U⟩) λx h e=>(Kb (E:=E) d) x h e;let⟨T,M⟩:=jk t;have x:=lG (λl g h=>À h.2.1) t;obtain⟨o,y,l,N,O,P,Q,V,W,X⟩:=p.AY (J:=JW F (E.I i) i<|.fy r .kB) H (kW F (E.I i)<|.fy r .kB) q (by rw[v];exact D w) fj fj G I (by rwa[v]) x;refine p.O5 H b d q O P Q x V W (K y l N) X (by rw[a];rfl) (by rw[a];rfl) (p.C.G b d (λk=>by rw[a];rfl) (λe h=> ?_) (λe h=> ?_) (λe h=>by cases h) λe h=>by cases h) (by rw[a];simp only[gO.rk,ju.rk];omega) (λe h=>by cases h);all_goals grind
theorem PI.ahi(H:gR F)(p:PI F j zX E S s B f c w qJ){r:Nat}(m:i+2<=E.r)(n:E.N (i+1)=Í)(q:c[F.L+1+i]?=Ã g)(G:g.status=Å)(I:s (F.L+1+i)=.fA)(d:E.C i=.fy r .gA):kg F j zX E s c w qJ sl (F.L+1+i):=by
 let⟨hd,_,K⟩:=p.Dp H m n q G I d w<|p.I.r.r _<|iP q;have v:=p.C.d i r m<|À ⟨_,d⟩;have y:=Gl H.C v;have z:=yS H.C i;let⟨a,b,M⟩:=p.C.H i r m d;have C:=p.M.I _<|H.C.I _ v;rw[M]at C;let⟨g',N,t⟩:=K 0;simp only[if_true]at t;let⟨T,O⟩:=jk t;have D:=lG (λl g h=>À h.2.1) t;obtain⟨o,u,l,P,Q,V,W,X,Y⟩:=p.Y (J:=JW F (E.I i) i<|.fy r .lj) H (kW F (E.I i)<|.fy r .lj) q (Dn m) y (by rw[z];exact N w C.C) (À U) (yR y) U (λx k e=>(Kb n x k e).elim) (by rwa[z]) D;refine p.O5 H m n q l P Q D V W X Y (by rw[d];rfl) (by rw[d];rfl) (p.C.G m n (λk=>by rw[d];rfl) (λe h=> ?_) (λe h=> ?_) (λe h=>by cases h) λe h=>by cases h) (by rw[d];simp only[gO.rk,ju.rk];omega) λe h=>by cases h
 .grind
 .rcases h with h|h|h<;>cases h;exact p.C.w i r m<|À d
theorem PI.ahj(H:gR F)(p:PI F j zX E S s B f c w qJ){r:Nat}(d:i+2<=E.r)(t:E.N (i+1)=Í)(q:c[F.L+1+i]?=Ã g)(I:g.status=Å)(K:s (F.L+1+i)=.fA)(a:E.C i=.fy r .lj):kg F j zX E s c w qJ sl (F.L+1+i):=by
 have v:=iP q;let⟨M,_,g',N,x⟩:=p.Dp H d t q I K a w<|p.I.r.r _ v;have O:=p.C.d i r d<|À ⟨_,a⟩;have C:=Gl H.C O;have D:=yS H.C i;have u:∀y:Ă,y.act=ė (ő<|fM<|F.I<|F.r<|i+r*F.n)->y.act.touch?=Í:=λy m=>by rw[m];rfl
 let⟨T,P⟩:=jk x;have G:=lG (λl g h=>À<|H.Y _ _ _ _ h) x;obtain⟨o,y,Q,l,V,W,X,Y,q5,q7⟩:=p.AY (J:=JW F (E.I i) i<|.jK r) H (kW F (E.I i)<|.jK r) q (by rw[D];exact N w) fj fj (λy m=>⟨λz k=>(by rw[u y m]at k;cases k),by rw[m];exact p.I.r.N _<|À C⟩) (λy _ m=>AJ p.I.r.l λz k=>by rw[xg k];exact u y m) (by rwa[D]) G;have Ds:=p.d.C (yM (λz k=>by rw[xg k];exact u y l) λz k b _ e=>by grind);refine p.O5 H d t q V W X G Y q5 Ds q7 (by rw[a];rfl) (by rw[a];rfl) (p.C.G d t (λk=>by rw[a,O6 U];rfl) (λk h=> ?_) (λk h=> ?_) (λk h=>by cases h) λk h=>by cases h) (by rw[a];simp only[gO.rk,ju.rk];omega) λk h z=> ?_
 .grind
 .rcases h with h|h|h<;>cases h;exact p.C.w i r d<|Á<|À a
 .cases h;let⟨k,b,e⟩:=p.d.Y _ z<|Ø (p.C.w i r d<|Á<|À a)<|OY _;exact XH k b e (p.d.c _ C) Q l<|(p.I.r.f _ v).trans M
end
section
variable{F:Ph}{E E':fU F}{S:Nat->Jd}{tr o:Nat->gu}{f:Nat->iA}{d:Nat->e9}{gs gs':Array Ä}{u:ä}{sl:Option (Nat×Nat)}
def X0{G:GS}(h:G.sm≠0):∃a s,G=.gX a (s+1):=by
 cases G with
 |cl c b=>exact absurd U h
 |jE b=>exact absurd U h
 |gX a s=>cases s with
  |zero=>exact absurd U h
  |succ s=>exact⟨a,s,U⟩
def Dt(h:gs[i]?=Ã g):gk gs i=if g.status=Å then 1 else 0:=by unfold gk;rw[h];simp
def O8(h:gs'[i]?=gs[i]?):gk gs' i=gk gs i:=by unfold gk;rw[h]
theorem PI.ahk(H:gR F)(p:PI F n zX E S tr f d gs w qJ){j r:Nat}{g:Ä}(t:j+2<=E.r)(m:E.N (j+1)=Í)(v:gs[F.L+1+j]?=Ã g)(z:g.status=Å)(ht:tr (F.L+1+j)=.fA)(c:E.C j=.fy r .kB):kg F n zX E tr gs w qJ sl (F.L+1+j):=by
 have B:=iP v;obtain⟨hd,_,ho,O9,g',h1,h2⟩:=(p.Dp H t m v z ht c) w<|p.I.r.r _ B;have Q:=p.C.d j r t<|À ⟨_,c⟩;have C:=Gl H.C Q;have G:=H.C.I _ Q;have V:=yS H.C j;have X:=p.G B;have vu:j<F.n:=by have:=Dl p.C;omega
 have hG:=p.M.I _ G;by_cases K:(E.a<|F.r<|j+r*F.n).sm=0
 .have q:=hG.M;rw[K]at q;obtain⟨tV,I⟩:=p.g j t m;rw[c]at tV I;obtain⟨gs',q1,o,M,q4⟩:=OB v (by rw[V];exact(O9 w q));have s:∀x,Ā F.P g {g with status:=Ü} w x=x:=by
   intro x;unfold Ā;rw[if_neg fj]
  have b:∀k,k≠F.L+1+j->gs'[k]?=gs[k]?:=by
   intro k a;rw[q4 k a];cases gs[k]? with
   |none=>rfl
   |some x=>simp[s]
  have D:gN F.P F.S E.Y S tr f d gs' w (qJ++#[]):=by
   rw[Ú];obtain⟨g0,J,l,W,O⟩:=p.I.C _ g v;have N:g=g0:=by
    rw[I]at l;cases l with
    |gk=>rfl
    |nX h ho=>cases z
   subst N;refine⟨?_,λk y a=> ?_,λk a=>p.I.I k<|by rwa[<-o]⟩
   .rw[show(λi=>i<gs'.size)=(λi=>i<gs.size) by rw[o]];exact p.I.r
   .by_cases e:k=F.L+1+j
    .subst e;rw[M]at a;obtain rfl:=È a;refine⟨g,J,?_,À z,Á ht⟩;rw[I];exact .nX z ho
    .rw[b k e]at a;exact p.I.C k y a
  refine⟨E,S,tr,f,d,gs',w,#[],q1,o,λh=>h,.r p.N (o.trans p.b) D (by rw[o];exact p.a) p.M p.C (by rw[Ú];exact p.d) (λk y a l=> ?_) (by rw[Ú];exact p.f),O1 (λ_ _=>rfl) X (by rw[Dt v,if_pos z]) (by rw[Dt M,if_neg fj]) λk a=>O8<|b k a⟩;by_cases e:k=F.L+1+j
  .subst e;exact Á ⟨j,t,m,U,À ⟨r,c,K⟩⟩
  .rw[b k e]at a;exact p.c k y a l
 .obtain⟨a,s,y⟩:=X0 K;have Pa:=y▸hG;have Du:=h1 w _ (by simp only[GS.sm];omega) Pa.M Pa.N;have N:kE (F.I<|F.r<|j+r*F.n) w (w.setCell (gW<|F.I<|F.r<|j+r*F.n)<|ë ç<|(GS.gX a<|s+1).sm-1):=Á ⟨_,_,Á U,U⟩;have D:=N.r p.a H.C C;obtain⟨T,hT⟩:=jk (h2.j5 (w₁:=w.setCell (gW<|F.I<|F.r<|j+r*F.n)<|ë ç<|(GS.gX a<|s+1).sm-1) ⟨Ô D.r.symm,λb l=>D.jU b<|p.I.r.I _ B b l,λa k=>D.M _ B a k,λa k=>D.N _ B a k,λa _=>D.I a⟩);have np:=lG (λl g h=>À h.2.1) h2;obtain⟨gs',u,q1,o,M,q4,q5,q6,q7⟩:=p.Y H (kW F (E.I j)<|.fy r .gA) v (Dn t) C (by rwa[V]) N (Gj C) (Gk _).2.2.2 (λx l e=>(Kb m x l e).elim) (by rwa[V]) np;have hle:F.r (j+r*F.n)<=E.S.od:=by
   refine ă λl=> ?_;have:=p.C.e _ Z G l;rw[y]at this;cases this
  have sN:=xe (f':=λi=>((gP E j<|.fy r .gA).C i).gC F i<|F.r<|j+r*F.n) vu (λi l=>by rw[iO _ l]);simp only[jN,c]at sN;have tV:gO.gC F j (F.r<|j+r*F.n) (.fy r .gA)=0:=by simp only[gO.gC,if_true];rfl
  have I:gO.gC F j (F.r<|j+r*F.n) (.fy r .kB)=1:=by simp only[gO.gC,if_true];rfl
  rw[tV,I]at sN;refine⟨vt E j (.fy r .gA) (F.r<|j+r*F.n) (.gX a s) E.d,_,_,_,_,gs',_,u,q1,o,λh=>h,.r ?_ (o.trans p.b) q5 ?_ ?_ (p.C.XR t m (λl q=> ?_) (λ_ h=>by omega) (λ_=> ?_) (λ_=>⟨a,s,U⟩) (λh=>by cases h) (λ_ _=>rfl) (λ_ h=>h) (λb h=> ?_) (λb h=> ?_) (λb h=> ?_) λb h=>by cases h) q6 ?_ λk b J O a3=> ?_,?_⟩
  .have:=p.N.N (x:=.fy r .gA) (T:=T) H.C t m;exact⟨this.M,this.Y,this.I,this.C,this.r⟩
  .have:=q7.r (x:=.fy r .gA) (by rw[c];rfl);exact⟨this.gT,this.o,this.lU,this.e,this.f,this.h,this.l,this.S,this.M,this.c,this.I,this.N,this.g,this.d⟩
  .have W:=N.I H p.a p.C p.M C (Gg:=fx E.a (F.r<|j+r*F.n)<|.gX a s) ⟨λe=>absurd e<|H.C.M _ G,λ_=>rfl⟩ λl q=>⟨λe=> ?_,λe=>fG _ _ λe'=>e<|by rw[e']⟩
   .have l:=W.Y (x:=.fy r .gA) (by show _=(E.C j).kD;rw[c];rfl) (by show _=(E.C j).iN;rw[c];rfl);exact⟨l.C,l.I,l.jG,l.M,l.S,l.N⟩
   .rw[<-(H.C.S _ _ G q e),gD];exact Pa.kB
  .rw[c];simp only[gO.gC,if_neg<|ÿ q]
  .rcases p.C.Y _ G hle with⟨W,_,q,_⟩|⟨r1,s1,l,z2,q,z3⟩|⟨l,⟨q,_⟩|⟨s1,q,z3⟩⟩
   .rw[y]at q;cases q
   .rw[y]at q;injection q with e1 e2;subst e1 e2;exact Á<|À ⟨a,s,l,z2,U,Z⟩
   .rw[y]at q;cases q
   .rw[y]at q;injection q with e1 e2;subst e1 e2;exact Á<|Á ⟨l,Á ⟨s,U,Z⟩⟩
  .rcases h with⟨_,h⟩|h|h<;>cases h;exact Q
  .rcases h with h|h|h<;>cases h;exact hle
  .cases h;exact⟨a,s,gD _ _ _⟩
  .refine p.c.qF (E':=vt E j _ _ _ _) M (by rcases np with q|q<;>rw[q]<;>simp) q4 (λk l=>N.C p.C C l) U U (λ_ _=>rfl) (λ_=>rfl) (λk e=>iO _ Z) (λ_ _ h=>À h) λk b _ _ h=>À ?_;by_cases e:F.r (k+b*F.n)=F.r (j+r*F.n)
   .rw[e]at h;exact absurd h K
   .show(fx E.a _ _ _).sm=0;rwa[fG _ _ e]
  .have e:k≠j:=λe=>by
    subst e;have:(gP E k<|.fy r .gA).C k=.jK b:=O;rw[jN]at this;cases this
   have l:(gP E j<|.fy r .gA).C k=.jK b:=O;rw[iO _ e]at l;exact(p.f k b J l a3).app u
  .have:=Dm (E:=E) (tr:=tr) (gs:=gs) (gs':=gs') (x:=.fy r .gA) (T:=T) H.C X m (by rw[c];simp only[gO.rk,ju.rk];omega);rcases this with⟨i,J,O,a3⟩|⟨J,_⟩
   .exact À ⟨i,J,O,a3⟩
   .exfalso;have:=J _ X;change(gP E j<|.fy r .gA).iT (fx tr (F.L+1+j) T) (F.L+1+j)=E.iT tr (F.L+1+j)at this;rw[tS H.C (E:=gP E j _) (show(gP E j _).N (j+1)=Í from m),tS H.C m,jN,c]at this;injection this with e _;simp only[gO.rk,ju.rk]at e;omega
theorem iH.ahl(L:iH F E d i w){l:e9}(H:∀b,l.O b->(d n).O b)(I:∀b,(d n).I b->l.I b)(J:∀a,l.r a->(d n).r a)(K:∀a,(d n).r a->l.r a)(M:∀a,(d n).N a->l.N a)(N:∀a,l.C a->(∃k,k<=F.m/\a=jf F.toFx k)\/∃p,p≠F.f/\a=jm F p)(P:l.q=(d n).q)(s:¬l.q):iH F E (gq d n l) i w:=by
 have D:∀k,d k=kC (d k)->k≠n:=λk f e=>by
  subst e;have:(d k).q:=by rw[f];trivial
  grind
 have Q:∀k b,(gq d n l k).O b->(d k).O b:=λk b h=>by grind [gU,gF]
 have t:∀k a,(gq d n l k).r a↔(d k).r a:=λk a=>by grind [gU,gF]
 have y:∀k b,(d k).I b->(gq d n l k).I b:=λk b h=>by grind [gU,gF]
 have z:∀k a,(d k).N a->(gq d n l k).N a:=λk a h=>by grind [gU,gF]
 refine⟨λk f a v=> ?_,λx c o a v=>(t _ _).2<|L.o x c o a v,λh=>⟨z _ _ (L.lU h).1,λb s=>y _ _<|(L.lU h).2 b s⟩,λh k c o=>⟨(t _ _).2 (L.e h k c o).1,(t _ _).2 (L.e h k c o).2⟩,λh u=>⟨z _ _ (L.f h u).1,λb s=>y _ _<|(L.f h u).2 b s⟩,λj g u r B c=>(t _ _).2<|L.h j g u r B c,λj g u=>⟨z _ _ (L.l j g u).1,λb s=>y _ _<|(L.l j g u).2 b s⟩,λx G=> ?_,λk f=> ?_,λk c o=> ?_,λk f b s=> ?_,λk f j g h=>L.N k f j g<|(t _ _).1 h,λk c o j g h=>L.g k c o j g<|(t _ _).1 h,λj g r B c k f h=>L.d j g r B c k f<|(t _ _).1 h⟩
 .by_cases e:k=n
  .grind [gU]
  .rw[gF d _ e]at v;exact L.gT k f a v
 .rw[gF d _<|D _<|L.S x G];exact L.S x G
 .by_cases e:k=n
  .grind [gU]
  .rw[gF d _ e];exact L.M k f
 .rw[gF d _<|D _<|L.c k c o];exact L.c k c o
 .let⟨S,T,V⟩:=L.I k f b s;grind
theorem PI.ahm(H:gR F)(p:PI F n zX E S tr f d gs w qJ){r:Nat}(o:j+2<=E.r)(s:E.N (j+1)=Í)(u:gs[F.L+1+j]?=Ã g)(x:g.status=Å)(I:tr (F.L+1+j)=.fA)(m:E.C j=.jK r):rB F n zX E tr gs w qJ:=by
 have c:=iP u;have C:=p.I.r;obtain⟨y,z⟩:=p.g j o s;rw[m]at y z;have B:=p.I.N u x I (À z) w<|C.r _ c;rw[y]at B;have v:=p.C.d j r o<|Á<|À m;have J:=H.C.I _ v;have D:=p.C.w j r o<|Á<|Á m;have t:=Ø D<|Ø (OY _)<|J7 p.C;obtain⟨K,M⟩:=p.M.M _ t;have N:=λa l=>by
  by_cases e:1<=F.r (j+r*F.n)
  .exact(p.d.I _ e (Ø D<|OY _) a l).agO<|p.f j r o m e
  .have h:F.r (j+r*F.n)=0:=Z
   obtain⟨i,b⟩:=p.a.l j o s;rw[h]at l;rcases l with l|rfl
   .rw[p.C.v]at l;exact(C.S _ c).rd a<|b _ l
   .exact(C.S _ c).r _ i
 have G:iR F.S (λi=>i<gs.size) E.Y (gq d (F.L+1+j) {d (F.L+1+j)with I:=λb=>(d<|F.L+1+j).I b\/E.V (F.r<|j+r*F.n) b,N:=λa=>(d<|F.L+1+j).N a\/a=jf F.toFx (F.r<|j+r*F.n),w:=w}) w qJ:=by
  refine C.C c (λ_ q=>q) (λb q=> ?_) (λ_ q=>q) (λa q=> ?_) U U U (λb h q=> ?_) λa l q=> ?_
  .rcases q with q|q
   .exact À<|Á q
   .obtain⟨i,k,O⟩:=p.a.I _ t b q;grind
  .rcases q with q|rfl
   .exact À<|Á q
   .exact Á ⟨À<|Á ⟨_,J,U⟩,λk e=>p.a.N _ t k e,N _<|Á U⟩
  .rcases q with q|q
   .exact C.m _ c b h q
   .exact(p.a.I _ t b q).2.2 _ c h
  .rcases q with q|rfl
   .exact C.g _ c a l q
   .exact p.a.N _ t _ c l
 have i:=G.M c;rw[gU]at i;obtain⟨T,O⟩:=jk (H.e (E.I j) j r _ _ _ g v B {d (F.L+1+j)with I:=λb=>(d<|F.L+1+j).I b\/E.V (F.r<|j+r*F.n) b,N:=λa=>(d<|F.L+1+j).N a\/a=jf F.toFx (F.r<|j+r*F.n),w:=w} i U (λb q=>q) U U U U U K M (Á U)<|p.a.h j o s r v<|by rw[m];exact Ç _);refine p.O2 H o s u (À x) G O ?_ (p.M.Y (by rw[m];rfl)<|by rw[m];rfl) (p.C.G o s (λk=>by rw[m];rfl) (λe h=> ?_) (λe h=> ?_) (λe h=>by cases h) λe h=>by cases h) ?_ λe h=>by cases h
 .refine(p.a.r<|by rw[m];rfl).ahl (λ_ q=>q) (λ_ q=>À q) (λ_ q=>q) (λ_ q=>q) (λ_ q=>À q) (λa l=> ?_) U (p.a.M (F.L+1+j)<|Á ⟨j+1,Z,Z,λ⟨e,h,_⟩=>by rw[s]at h;cases h⟩);rcases l with q|q|rfl
  .exact p.a.gT _ c a<|À q
  .exact p.a.gT _ c a<|Á q
  .grind
 .grind
 .grind
 .rw[m];simp only[gO.rk];have h:F.n+3000<=(F.n+3000)*(F.q+3-r):=â _ (by
   have:r<=F.q:=by have:r*1<=r*F.n:=ï _ H.C.N;omega
   omega)
  omega
def PI.ahn(H:gR F)(p:PI F n zX E S tr f d gs w qJ){r:Nat}(G:j+2<=E.r)(I:E.N (j+1)=Í)(V:gs[F.L+1+j]?=Ã g)(iI:g.status=Å)(ht:tr (F.L+1+j)=.fA)(u:E.C j=.oN r):rB F n zX E tr gs w qJ:=by
 have D:=iP V;have C:=p.I.r;let⟨tV,sP⟩:=p.g j G I;rw[u]at tV sP;have hJ:=p.I.N V iI ht<|À sP;rw[tV]at hJ;let⟨hcell,hrecv⟩:=hJ w<|C.r _ D;have oR:=p.C.d j r G<|Á<|Á u;have Kf:=p.a.h j G I r oR (by rw[u];exact Ç _);have Kg:r<=F.q:=by have:r*1<=r*F.n:=ï _ H.C.N;omega
 have sQ:iR F.S (λi=>i<gs.size) E.Y (gq d (F.L+1+j)<|vr F {d (F.L+1+j)with w:=w}<|j+r*F.n) w qJ:=by
  refine C.C D (λ_ q=>q) (λb q=>À<|Á q) (λ_ q=>q.1) (λa q=> ?_) U U U (λb t q=>C.m _ D b t q) λa s q=> ?_
  .rcases q with q|rfl
   .exact À<|Á q
   .exact À<|À Kf
  .rcases q with q|q
   .exact C.g _ D a s.1 q
   .exact s.2 q
 have hF:lh F.P É (JW F (E.I j) j<|.nu (r+1)) .fA (vr F {d (F.L+1+j)with w:=w}<|j+r*F.n) g:=λw₁ kh=>by let⟨Q,W,c,e⟩:=hrecv;exact⟨Q,W,c,λx=>(e x).j5 kh⟩
 refine p.O2 H G I V (À iI) sQ hF ?_ ?_ (p.C.G G I (λk=>by rw[u];rfl) (λm h=> ?_) (λm h=> ?_) (λm h=>by cases h) λm h=>by cases h) ?_ λm h=>by cases h
 .have L:=p.a;have J:∀k a,(gq d (F.L+1+j) (vr F {d (F.L+1+j)with w:=w}<|j+r*F.n) k).r a->(d k).r a:=λk a h=>by
   by_cases e:k=F.L+1+j
   .subst e;rw[gU]at h;exact h.1
   .rwa[gF d _ e]at h
  have K:∀k a,(d k).r a->a≠jm F (F.a<|j+r*F.n)->(gq d (F.L+1+j) (vr F {d (F.L+1+j)with w:=w}<|j+r*F.n) k).r a:=λk a h lr=>by
   by_cases e:k=F.L+1+j
   .subst e;rw[gU];exact⟨h,lr⟩
   .rwa[gF d _ e]
  have X:∀k a,(d k).N a->(gq d (F.L+1+j) (vr F {d (F.L+1+j)with w:=w}<|j+r*F.n) k).N a:=λk a h=>by
   by_cases e:k=F.L+1+j
   .subst e;rw[gU];exact À h
   .rwa[gF d _ e]
  have M:∀k,(gq d (F.L+1+j) (vr F {d (F.L+1+j)with w:=w}<|j+r*F.n) k).I=(d k).I/\(gq d (F.L+1+j) (vr F {d (F.L+1+j)with w:=w}<|j+r*F.n) k).O=(d k).O/\(gq d (F.L+1+j) (vr F {d (F.L+1+j)with w:=w}<|j+r*F.n) k).q=(d k).q:=λk=>by
   by_cases e:k=F.L+1+j
   .subst e;rw[gU];exact⟨U,U,U⟩
   .rw[gF d _ e];exact⟨U,U,U⟩
  have nb:∀k,d k=kC (d k)->k≠F.L+1+j:=λk W e=>by
   subst e;have:(d<|F.L+1+j).q:=by rw[W];trivial
   exact(p.a.M (F.L+1+j)<|Á ⟨j+1,Z,Z,λ⟨e,c,_⟩=>by rw[I]at c;cases c⟩) this
  have N:∀k,k≠F.L+1+j->k<gs.size->∀a,(d k).r a->a≠jm F (F.a<|j+r*F.n):=λk W Gr a s e=>C.h _ _ Gr D W a s (by rw[e];exact À Kf);refine⟨λk W a s=> ?_,λx c v a s=>K _ _ (L.o x c v a s) (N 0 (by have:=H.C.r;omega) (by have:=p.b;have:=H.C.r;omega) a<|L.o x c v a s),λh=>⟨X _ _ (L.lU h).1,λb t=>by rw[(M 0).1];exact(L.lU h).2 b t⟩,λh k c v=> ?_,λh B=>⟨X _ _ (L.f h B).1,λb t=>by rw[(M _).1];exact(L.f h B).2 b t⟩,λl o B m y c=> ?_,λl o B=>⟨X _ _ (L.l l o B).1,λb t=>by rw[(M _).1];exact(L.l l o B).2 b t⟩,λx AZ=>by rw[gF d _<|nb _<|L.S x AZ];exact L.S x AZ,λk W=>by rw[(M k).2.2];exact L.M k W,λk c v=>by rw[gF d _<|nb _<|L.c k c v];exact L.c k c v,λk W b t=>⟨(L.I k W b t).1,(L.I k W b t).2.1,λi z=>by rw[(M i).2.1];exact(L.I k W b t).2.2 i z⟩,λk W i z h=>L.N k W i z<|J _ _ h,λk c v i z h=>L.g k c v i z<|J _ _ h,λl o m y c i z h=> ?_⟩
  .by_cases e:k=F.L+1+j
   .subst e;rw[gU]at s;rcases s with q|q|q
    .exact L.gT _ D a<|À q.1
    .exact L.gT _ D a<|Á q
    .exact Á ⟨_,H.C.Y.2 _ (by assumption),q⟩
   .rw[gF d _ e]at s;exact L.gT k W a s
  .have Q:F.L<gs.size:=by have:=p.b;have:0<E.r:=h;omega
   have:=L.e h k c v;exact⟨K _ _ this.1<|N _ Z Q _ this.1,K _ _ this.2<|N _ Z Q _ this.2⟩
  .by_cases e:l=j
   .subst e;rw[jN]at c;simp only[gO.kD]at c;refine K _ _ (L.h l o B m y<|by rw[u];simp only[gO.kD];omega) λq=> ?_;have Q:=H.C.a _ _ y oR (by injection q);have T:m*F.n=r*F.n:=Z
    have:=Nat.eq_of_mul_eq_mul_right H.C.N T;omega
   .rw[iO _ e]at c;have q:=L.h l o B m y c;have xh:l+2<=E.r:=o;exact K _ _ q<|N _ Z (by have:=p.b;omega) _ q
  .by_cases e:l=j
   .subst e;rw[jN]at c;simp only[gO.kD]at c;by_cases Q:m=r
    .subst Q;by_cases T:i=F.L+1+l
     .subst T;rw[gU]at h;exact h.2 U
     .exact N i T z _ (J _ _ h) U
    .exact L.d l o m y (by rw[u];simp only[gO.kD];omega) i z<|J _ _ h
   .rw[iO _ e]at c;exact L.d l o m y c i z<|J _ _ h
 .have W:=p.M;refine⟨W.C,W.I,λl o=> ?_,W.M,W.S,λl o m y c=> ?_⟩
  .by_cases e:l=j
   .subst e;have:=W.jG l o;rw[u]at this;rw[jN];exact this
   .rw[iO _ e];exact W.jG l o
  .by_cases e:l=j
   .subst e;rw[jN]at c;simp only[gO.kD]at c;by_cases Q:m=r
    .subst Q;exact hcell
    .exact W.N l o m y<|by rw[u];simp only[gO.kD];omega
   .rw[iO _ e]at c;exact W.N l o m y c
 .rcases h with⟨_,h⟩|h|h<;>cases h
 .rcases h with h|h|h<;>cases h
 .rw[u];simp only[gO.rk];have e:F.q+3-r=(F.q+3-(r+1))+1:=Z
  rw[e,ł];omega
end
def aho{α:Type}(f:Nat->α)(i:Nat)(x y:α):fx (fx f i x) i y=fx f i y:=by funext k;unfold fx;split<;>rfl
section
variable{F:Ph}{E E':fU F}{S:Nat->Jd}{tr o:Nat->gu}{d:Nat->iA}{lot:Nat->e9}{gs gs':Array Ä}{u:ä}{sl:Option (Nat×Nat)}{sz:Nat}
def pZ{r:Nat}{a:Bool}(h:b≠i):(w.setChan i n q yQ j r a).heap[b]?=w.heap[b]?:=by unfold World.setChan;exact í<|ÿ h
def Kh{r:Nat}{a:Bool}(h:i<w.heap.size):(w.setChan i n q yQ j r a).heap[i]?=Ã (.chan n q yQ j r a):=by unfold World.setChan;simp[h]
def Gs{r:Nat}{a:Bool}:(w.setChan i n q yQ j r a).heap.size=w.heap.size:=by unfold World.setChan;simp
def ahp(f:Ps F E)(c:j+2<=E.r){cap s r:Nat}{buf:Array ã}{cl tm:Bool}:Gd F E lot sz w (w.setChan (E.I j) cap buf cl s r tm):=by
 let⟨g,d,_⟩:=f.o j c;refine⟨Ô Gs.symm,λb _ h _=>pZ λe=>h<|Á<|Á ⟨j,c,e⟩,λa i _=>gM (pZ λe=> ?_),wY (pZ λe=>d e.symm),U,U⟩;rcases i with⟨k,l,rfl⟩|⟨p,rfl⟩
 .exact g<|Á ⟨k,l,e.symm⟩
 .exact d e.symm
def X1(a:Ps F E)(c:j+2<=E.r){cap s r:Nat}{buf:Array ã}{cl tm:Bool}(d:F.M b){G:GS}(h:ic w b G):ic (w.setChan (E.I j) cap buf cl s r tm) b G:=by have e:b≠E.I j:=λe=>(a.o j c).1<|e▸d;exact h.vq (gM<|pZ e) (gM<|pZ e) (wZ<|pZ e)<|wZ<|pZ e
def Wd.G(W:Wd F E w)(H:gR F)(L:iH F E lot sz w)(g:Ps F E)(h:j+2<=E.r){cap s r:Nat}{buf:Array ã}{cl tm:Bool}: (∀k,k<=E.S.md->ny F k (E.c k)/\F.d k (E.c k) (E.V k) (w.setChan (E.I j) cap buf cl s r tm))/\(∀k,1<=k->k<=E.S.md->(w.setChan (E.I j) cap buf cl s r tm).cell? (jm F (F.b k))=Ã (.string (F.o k)))/\(∀c,c+2<=E.r->∀d,c+d*F.n<F.q->d<(E.C c).kD->(w.setChan (E.I j) cap buf cl s r tm).cell? (jm F (F.a (c+d*F.n)))=Ã (.string (F.k (c+d*F.n))))/\ic (w.setChan (E.I j) cap buf cl s r tm) F.C E.b/\(∀k,k<=F.m->ic (w.setChan (E.I j) cap buf cl s r tm) (F.I k) (E.a k)):=by have e:=ahp (lot:=lot) (sz:=sz) (w:=w) g h (cap:=cap) (s:=s) (r:=r) (buf:=buf) (cl:=cl) (tm:=tm);refine⟨λk a=>⟨(W.M k a).1,H.S _ _ _ _ _ (W.M k a).2 (λb f=>e.C b (L.I k a b f).1 (L.I k a b f).2.1 (L.I k a b f).2.2) (e.r _ (À ⟨k,Ø a (J6 g),U⟩) (L.N k a)) (e.r _ (Á ⟨_,U⟩) (L.OX H.C)) e.I e.M⟩,λk b f=>(e.r _ (Á ⟨_,U⟩) (L.g k b f)).trans (W.S k b f),λc b d f i=>(e.r _ (Á ⟨_,U⟩) (L.d c b d f i)).trans (W.N c b d f i),X1 g h (À U) W.C,λk a=>X1 g h (Á ⟨k,a,U⟩) (W.I k a)⟩
def iH.Dv(L:iH F E lot sz w)(h:w.heap.size<=W.heap.size):iH F E lot sz W:= ⟨L.gT,L.o,L.lU,L.e,L.f,L.h,L.l,L.S,L.M,L.c,λk a b c=>⟨Ê (L.I k a b c).1 h,(L.I k a b c).2⟩,L.N,L.g,L.d⟩
def Ki(c:TI F.toFx i zX E.r E.S.rl E.V E.e E.d E.iy E.f qJ)(h:xb u):TI F.toFx i zX E.r E.S.rl E.V E.e E.d E.iy E.f (qJ++u):= c.C<|yM (λa b=>(h a b).1) λa b _ _=>(h a b).2 _
def gV(E:fU F)(x:Nat)(e:ik):fU F:={E with N:=fx E.N x (Ã e)}
theorem qI.G(h:qI F E S tr d)(ok:F.Ok){x:Nat}{e:ik}{T:gu}(m:(∃N,e=.jr N)->T=.fA):qI F (ft.gV E x e) (fx S (F.L+x)<|JE F e) (fx tr (F.L+x) T) (fx d (F.L+x) .no):=by
 have:=ok.r;have c:∀y,y≠x->(ft.gV E x e).N y=E.N y:=λy k=>fG _ _ k;have g:(ft.gV E x e).N x=Ã e:=gD _ _ _;refine⟨by rw[fG S _ Z,fG d _ Z];exact h.M,λb a=> ?_,λj b a=> ?_,λy l b a=> ?_,λi b a=>by rw[fG S _ Z,fG d _ Z,fG tr _ Z];exact h.r i b a⟩
 .have f:x≠0:=λq=>by subst q;rw[g]at a;cases a
  rw[c 0<|ÿ f]at a;rw[fG S _ Z,fG d _ Z];exact h.Y b a
 .have f:x≠j+1:=λq=>by subst q;rw[g]at a;cases a
  rw[c _<|ÿ f]at a;rw[fG S _ Z,fG d _ Z];exact h.I j b a
 .by_cases q:y=x
  .grind [gD]
  .rw[c y q]at a;rw[fG S _ Z,fG d _ Z,fG tr _ Z];exact h.C y l b a
def rC(F:Ph)(E:fU F)(x:Nat):Nat×Nat:=match E.N x with
 |some e=>e.rk F
 |none=>if x=0 then(E.S.rk F,0)else((E.C<|x-1).rk F,0)
def ahq(ok:F.Ok)(x:Nat):E.iT tr (F.L+x)=((rC F E x).1,(rC F E x).2,tr<|F.L+x):=by
 have:=ok.r;unfold rC;cases a:E.N x with
 |some e=>rw[J9 ok a]
 |none=>
  cases x with
  |zero=>rw[ó,XP ok a];simp
  |succ j=>rw[show F.L+(j+1)=F.L+1+j by omega,tS ok a];simp
def Dw(ok:F.Ok){x:Nat}{e:ik}{T:gu}(b:F.L+x<F.N)(h:(e.rk F).1<(rC F E x).1\/((e.rk F).1=(rC F E x).1/\(e.rk F).2<(rC F E x).2)):pw F.N ((ft.gV E x e).mu (fx tr (F.L+x) T) gs') (E.mu tr gs):=by
 refine Gf b ?_ λk c=>yO (λ_=>rfl) (λ_ _=>rfl) (λa=>fG _ _ Z) (λ_ _=>rfl) (λ_ _=>rfl)<|fG tr _ c;rw[J9 ok (E:=ft.gV E x e)<|gD _ _ _,ahq ok];rcases h with h|⟨a,d⟩
 .exact À h
 .exact Á ⟨a,À d⟩
def ahr{e:ik}(h:e.kQ=me (E.N i))(y:Nat):(ft.gV E i e).G y=E.G y:=by
 unfold fU.G;by_cases q:y=i
 .subst q;show(if y<E.M.ad F.n then me (fx E.N y (Ã e) y)else 0)=_;rw[gD];show(if y<E.M.ad F.n then e.kQ else 0)=_;rw[h]
 .show(if y<E.M.ad F.n then me (fx E.N i (Ã e) y)else 0)=_;rw[fG _ _ q]
def ahs{e:ik}(h:e.kQ=me (E.N i)):Ñ (F.n+1) (ft.gV E i e).G=Ñ (F.n+1) E.G:=Ł λy _=>ahr h y
theorem Ps.gV(h:Ps F E){x:Nat}{e:ik}(J:x<E.r)(v:e.kQ=me (E.N x))(w:∀p,E.N x=Ã (.gd p)->∀W,p≠ .gA W/\p≠ .jc W/\p≠ .iB W)(K:∀p,e=.gd p->∀W,p≠ .gA W/\p≠ .jc W/\p≠ .iB W) (z:∀j,x=j+1->j<E.M.je F.n/\∃r,E.C j=.nu r/\∀i,j+i*F.n<F.q->i<r) (B:x=0->E.S=.kO F.m):Ps F (ft.gV E x e):=by
 have b:∀y,y≠x->(ft.gV E x e).N y=E.N y:=λy a=>fG _ _ a;have L:(ft.gV E x e).N x=Ã e:=gD _ _ _;have g:=ahs (E:=E) v;refine⟨h.v,h.C,h.K,h.L,h.J,h.I,h.z,h.d,λj C d=> ?_,λd=> ?_,λy a=> ?_,h.M,h.o,λc k f=>by rw[g];exact h.t c k f,λk f=> ?_,λr s f=> ?_,λy p a=> ?_,λD=>by rw[g];exact h.B D,h.e,h.Y,h.w,h.H,h.O,h.S,h.y,h.D⟩
 .by_cases q:j+1=x
  .exact z j q.symm
  .rw[b _ q]at d;exact h.l j C d
 .by_cases q:0=x
  .exact B q.symm
  .rw[b _ q]at d;exact h.f d
 .have:E.r<=y:=a;rw[b y Z];exact h.h y a
 .rw[g];let⟨l,o,y,t,u,G⟩:=h.g k f;refine⟨l,o,y,t,u,?_⟩;grind
 .rw[g];let⟨l,o,t⟩:=h.u r s f;refine⟨l,o,λG=> ?_⟩;let⟨y,H,I,u⟩:=t G;have:y≠x:=λq=>by subst q;exact(w _ u r).2.2 U
  exact⟨y,H,I,by rwa[b y this]⟩
 .by_cases q:y=x
  .grind
  .rw[b y q]at a;exact h.N y p a
theorem X2{x:Nat}{e:ik}(h:i≠x):(ft.gV E x e).iy i↔E.iy i:=by unfold fU.iy;show(∃a,fx E.N x (Ã e) i=Ã a/\a.iy)↔_;rw[fG _ _ h]
theorem aht{e:ik}:(ft.gV E i e).iy i↔e.iy:=by unfold fU.iy;show(∃a,fx E.N i (Ã e) i=Ã a/\a.iy)↔_;rw[gD];grind
theorem ahu{e:ik}(h:e.iy↔E.iy i)(y:Nat):(ft.gV E i e).iy y↔E.iy y:=by grind [aht,X2]
theorem X3{e:ik}(h:e.ou↔E.ou i)(y:Nat):(ft.gV E i e).ou y↔E.ou y:=by unfold fU.ou at h|-;show(∃a,fx E.N i (Ã e) y=Ã a/\a.ou)↔_;grind [gD,fG]
theorem iH.gV(L:iH F E lot sz w){x:Nat}{e:ik}(h:e.ou↔E.ou x):iH F (ft.gV E x e) lot sz w:=by
 have d:∀y,(ft.gV E x e).N y=Í->E.N y=Í:=λy c=>by
  by_cases q:y=x
  .subst q;have:fx E.N y (Ã e) y=Í:=c;grind [gD]
  .have:fx E.N x (Ã e) y=Í:=c;grind [fG]
 exact⟨L.gT,L.o,L.lU,L.e,λa b=>L.f a<|d _ b,λj a b=>L.h j a<|d _ b,λj a b=>L.l j a<|d _ b,λy c=>L.S y<|(X3 h y).1 c,λi f=>L.M i (f.imp id λ⟨y,a,b,g⟩=>⟨y,a,b,λq=>g<|(X3 h y).2 q⟩),L.c,L.I,L.N,L.g,L.d⟩
def Wd.gV(W:Wd F E w){x:Nat}{e:ik}:Wd F (ft.gV E x e) w:=⟨W.C,W.I,W.jG,W.M,W.S,W.N⟩
def TI.G(a:TI F.toFx i zX E.r E.S.rl E.V E.e E.d E.iy E.f qJ){x:Nat}{e:ik}(h:e.iy↔E.iy x):TI F.toFx i zX (ft.gV E x e).r (ft.gV E x e).S.rl (ft.gV E x e).V (ft.gV E x e).e (ft.gV E x e).d (ft.gV E x e).iy (ft.gV E x e).f qJ:= {a with r:=λy b c=>a.r y b ((ahu h y).1 c)}
def PI.ahv(H:gR F)(p:PI F i zX E S tr d lot gs w qJ){r:Nat}(t:j+2<=E.r)(o:E.N (j+1)=Í)(M:gs[F.L+1+j]?=Ã g)(iI:g.status=Å)(ht:tr (F.L+1+j)=.fA)(C:E.C j=.nu r):kg F i zX E tr gs w qJ sl (F.L+1+j):=by
 have xf:=p.G<|iP M;obtain⟨tV,sP⟩:=p.g j t o;rw[C]at tV sP;have Pd:S (F.L+1+j)=w7 F.P (F.L+1+j==0) (E.I j) F.z λx=>match x with
  |some v=>λl g=>v=F.c (j+r*F.n)->qH F.P É F.B (F.I<|F.r<|j+r*F.n) (F.e (E.I j)<|j+r*F.n) .iY l g
  |none=>AP F:=by rwa[yS H.C j]
 have hY:E.Y (E.I j):=Á<|Á ⟨j,t,U⟩;obtain⟨buf,s,D,tW,X4,yT,yU⟩:=p.M.jG j t;rw[C]at D X4 yT yU;simp only[gO.iN]at D X4 yT yU;have Dx:=(p.I.r).N _ hY;by_cases AU:r<s
 .have A0:=yU 0 Z;rw[ó]at A0;have oR:j+r*F.n<F.q:=by
   have:=(tW r).1 AU;have:E.M.mF F.q<=F.q:=by cases E.M<;>simp only[fW.mF]<;>omega
   omega
  obtain⟨gs',u,T,g',O,f,Q,V,I,W,q7⟩:=p.I.nu M iI sP ht Pd hY D A0<|kW F (E.I j)<|.fy r .iY;have q8:=q7.kO (λl g h=>by rw[gD]at h;exact h U);rw[aho]at q8;obtain⟨z1,z2,z3,z4,z5⟩:=p.M.G H p.a p.C t;refine⟨gP E j<|.fy r .iY,_,_,_,_,gs',_,u,O,f,λh=>h,.r (p.N.N H.C t o) (f.trans p.b) q8 ?_ ⟨z4,z5,λv m=> ?_,z1,z2,λv m c pd a=> ?_⟩ (p.C.G t o (λk=>by rw[C,O6 U];rfl) (λc h=> ?_) (λc h=> ?_) (λc h=>by cases h) λc h=>by cases h) (Ki p.d W) (λk y b G=> ?_) λv c a1 J a3=> ?_,Dm H.C xf o ?_⟩
  .rw[f];exact((p.a.r<|by rw[C];rfl).Dv<|Ô Gs.symm)
  .by_cases e:v=j
   .subst e;rw[jN];refine⟨buf.extract 1 buf.size,s,Kh Dx,tW,AU,by rw[Array.size_extract];simp only[gO.iN];omega,λl lz=> ?_⟩;simp only[gO.iN]at lz|-;rw[Array.getElem?_extract];rw[if_pos Z];have:=yU (1+l) Z;rw[this,show r+(1+l)=r+1+l by omega]
   .rw[iO _ e];obtain⟨K,X,y1,y2⟩:=p.M.jG v m;refine⟨K,X,?_,y2⟩;show(w.setChan (E.I j) _ _ _ _ _ _).heap[E.I v]?=_;rwa[pZ λq=>e<|p.C.M _ _ m t q]
  .by_cases e:v=j
   .subst e;rw[jN]at a;exact z3 v m c pd<|by rwa[C]
   .rw[iO _ e]at a;exact z3 v m c pd a
  .rcases h with⟨_,h⟩|h|h<;>cases h;exact oR
  .rcases h with h|h|h<;>cases h
  .by_cases e:k=F.L+1+j
   .subst e;rw[Q]at b;obtain rfl:=È b;rw[V]at G;cases G
   .rw[I k e]at b;rcases p.c k y b G with a|⟨v,m,yV,K,X|⟨r1,cap,s1,c,X,h4⟩⟩
    .exact À a
    .exact Á ⟨v,m,yV,K,À<|by rwa[iO _ Z]⟩
    .have e2:v≠j:=Z
     exact Á ⟨v,m,yV,K,Á ⟨r1,cap,s1,c,by rwa[iO _ e2],by show(w.setChan (E.I j) _ _ _ _ _ _).heap[E.I v]?=_;rwa[pZ λq=>e2<|p.C.M _ _ m t q]⟩⟩
  .rw[iO _ (λe=>by subst e;rw[jN]at J;cases J)]at J;exact(p.f v c a1 J a3).app u
  .rw[C];simp only[gO.rk,ju.rk];have hm:F.n+3000<=(F.n+3000)*(F.q+3-r):=â _ (by
    have:r*1<=r*F.n:=ï _ H.C.N;omega)
   omega
 .have Pe:buf=#[]:=Array.size_eq_zero_iff.1 Z;subst Pe;have ahw:r=s:=Z
  by_cases pW:j<E.M.je F.n
  .rw[show decide (j<E.M.je F.n)=Ì by simpa using pW]at D;obtain⟨gs',u,T,g',O,f,Q,V,I,W,q7⟩:=p.I.je (sl:=sl) M iI sP ht Pd hY D .no;have X5:F.L+1+j=F.L+(j+1):=Z
   have Gt:E.M.mF F.q=F.q:=by revert pW;cases E.M<;>simp only[fW.je,fW.mF]<;>intro h<;>first|trivial|omega
   have Pf:¬E.iy (j+1):=λ⟨e,a,_⟩=>by rw[o]at a;cases a
   have Pg:ik.iy .oP↔E.iy (j+1):=⟨λh=>h.elim,λh=>(Pf h).elim⟩;refine⟨ft.gV E (j+1) .oP,_,_,_,_,gs',w,u,O,f,λh=>h,.r (p.N.G H.C λ⟨N,h⟩=>by cases h) (f.trans p.b) (by rwa[<-X5]) (by rw[f];exact p.a.gV ⟨λh=>h.elim,λ⟨e,a,_⟩=>by rw[o]at a;cases a⟩) p.M.gV (p.C.gV Z (by rw[o];rfl) (λp' h=>by rw[o]at h;cases h) (λp' h=>by cases h) (λv h=> ?_) λh=>by omega) ((Ki p.d W).G Pg) (λk y b G=> ?_) λv c a1 J a3=>(p.f v c a1 J a3).app u,Dw H.C (by rwa[<-X5])<|À ?_⟩
   .have:v=j:=Z
    subst this;exact⟨pW,r,C,λl lz=>by rw[ahw];exact(tW l).2<|by rwa[Gt]⟩
   .by_cases e:k=F.L+1+j
    .subst e;rw[Q]at b;obtain rfl:=È b;rw[V]at G;cases G
    .rw[I k e]at b;have l:∀v,F.L+1+v=k->(ft.gV E (j+1) .oP).N (v+1)=E.N (v+1):=λv h=>fG _ _ Z;rcases p.c k y b G with a|⟨v,m,yV,K,X⟩
     .exact À a
     .exact Á ⟨v,m,by rwa[l v K.symm],K,X⟩
   .unfold rC;rw[o];simp only[ik.rk];rw[if_neg Z,Nat.add_sub_cancel,C];simp only[gO.rk];have hm:F.n+3000<=(F.n+3000)*(F.q+3-r):=â _ (by
     have a:=H.C.N;rcases Nat.eq_zero_or_pos r with l|l
     .omega
     .have K:=(tW (r-1)).1 Z;have:(r-1)*1<=(r-1)*F.n:=ï _ a;omega)
    omega
  .rw[show decide (j<E.M.je F.n)=É by simpa using pW]at D;obtain⟨gs',g',O,f,Q,V,I,W⟩:=p.I.agH M iI sP ht Pd D;refine⟨E,S,tr,d,lot,gs',w,#[],O,f,λh=>h,.r p.N (f.trans p.b) (by rwa[Ú]) (by rw[f];exact p.a) p.M p.C (by rw[Ú];exact p.d) (λk y b l=> ?_) (by rw[Ú];exact p.f),O1 (λ_ _=>rfl) xf (by rw[Dt M,if_pos iI]) (by rw[Dt Q,if_neg (by rw[V];simp)]) λk b=>O8<|I k b⟩;by_cases e:k=F.L+1+j
   .subst e;exact Á ⟨j,t,o,U,Á ⟨r,F.q,s,r,C,D⟩⟩
   .rw[I k e]at b;exact p.c k y b l
end
section
variable{F:Ph}{E E':fU F}{S:Nat->Jd}{tr v:Nat->gu}{m:Nat->iA}{f:Nat->e9}{gs gs':Array Ä}{u:ä}{o:Option (Nat×Nat)}
def A1(ok:F.Ok)(x:Nat):(F.L+x==0)=É:=by have:=ok.r;simp;omega
def Gu(a:i<E.r):yP E (F.L+i):=Á ⟨i,a,U⟩
def PI.A2(p:PI F n zX E S tr m f gs w qJ){x:Nat}{e:ik}(b:x<E.r)(c:E.N x=Ã e)(d:gs[F.L+x]?=Ã g)(h:g.status=Å)(i:tr (F.L+x)=.fA):∀a,fE (f<|F.L+x) (f<|F.L+x).w a->JE F e {f (F.L+x)with w:=a} g:=by let⟨k,j,_⟩:=p.k x e b c;intro a r;have:=p.I.N d h i (À j) a r;simp_all
theorem Pj(B:fg F E gs w){x:Nat}{e:ik}(c:∀k y,gs[k]?=Ã y->y.status=Ü->k≠F.L+x):fg F (ft.gV E x e) gs w:=by
 intro k y a b;have h:=c k y a b;rcases B k y a b with h1|⟨j,d,i,f,g⟩
 .exact À h1
 .refine Á ⟨j,d,?_,f,g⟩;show fx E.N x (Ã e) (j+1)=Í;grind [fG]
theorem PI.ahx(H:gR F)(p:PI F n zX E S tr m f gs w qJ)(V:J<E.r)(s:E.N J=Ã .oP)(D:gs[F.L+J]?=Ã g)(X:g.status=Å)(ht:tr (F.L+J)=.fA):rB F n zX E tr gs w qJ:=by
 have G:=iP D;have C:=p.I.r;have Pf:¬E.iy J:=λ⟨e,c,d⟩=>by rw[s]at c;cases c;exact d
 have Pg:ik.iy (.gd .jD)↔E.iy J:=⟨λh=>h.elim,λh=>(Pf h).elim⟩;have sQ:iR F.S (λi=>i<gs.size) E.Y (gq f (F.L+J)<|kC {f (F.L+J)with w:=w}) w qJ:= C.C G (λ_ q=>q.elim) (λ_ q=>q.elim) (λ_ q=>q.elim) (λ_ q=>q.elim) U U U (λ_ q=>q.elim) λ_ q=>q.elim;have hF:lh F.P (F.L+J==0) (JE F<|.gd .jD) .fA (kC {f (F.L+J)with w:=w}) g:=by rw[A1 H.C J];intro l T;let⟨W,a,b,j,k⟩:=p.A2 V s D X ht w<|C.r _ G;exact⟨W,a,b,j,k.j5 T⟩
 refine⟨ft.gV E J<|.gd .jD,_,_,_,_,λh=>h,.r (p.N.G H.C λ⟨N,h⟩=>by cases h) p.b (p.I.M (K:=.no) D (À X) sQ hF) ?_ p.M.gV (p.C.gV V (by rw[s];rfl) (λT h=>by rw[s]at h;cases h) (λT h W=>by cases h;exact⟨fj,fj,fj⟩) (λj h=> ?_) λh=>(p.C.f<|by rw[<-h,s];simp)) (p.d.G Pg) (Pj p.c λk y W z e=> ?_) p.f,Dw H.C (p.G G)<|À ?_⟩
 .have L:=p.a;have B:(gq f (F.L+J)<|kC {f (F.L+J)with w:=w}) (F.L+J)=kC {f (F.L+J)with w:=w}:=gU _ _ _;have l:∀k,k≠F.L+J->(gq f (F.L+J)<|kC {f (F.L+J)with w:=w}) k=f k:=λk W=>gF f _ W;have h0:(0:Nat)≠F.L+J:=by have:=H.C.r;omega
  have I:∀k a,(gq f (F.L+J) (kC {f (F.L+J)with w:=w}) k).r a->(f k).r a:=λk a h=>by
   by_cases q:k=F.L+J
   .subst q;rw[B]at h;exact h.elim
   .grind
  have sO:∀k a,(gq f (F.L+J) (kC {f (F.L+J)with w:=w}) k).O a->(f k).O a:=λk a h=>by
   by_cases q:k=F.L+J
   .subst q;rw[B]at h;exact h.elim
   .grind
  have ee:(ft.gV E J<|.gd .jD).N J=Ã (.gd .jD):=gD _ _ _;have v:∀y,y≠J->(ft.gV E J<|.gd .jD).N y=E.N y:=λy M=>fG _ _ M;refine⟨λk W a u=> ?_,λy c d a u=>by rw[l 0 h0];exact L.o y c d a u,λh=>by rw[l 0 h0];exact L.lU h,λh k c d=> ?_,λc d=> ?_,λj c d r t Q=> ?_,λj c d=> ?_,λy M=> ?_,λi o=> ?_,λk c d=>by rw[l k Z];exact L.c k c d,λk W b z=>⟨(L.I k W b z).1,(L.I k W b z).2.1,λi o h=>(L.I k W b z).2.2 i o<|sO _ _ h⟩,λk W i o h=>L.N k W i o<|I _ _ h,λk c d i o h=>L.g k c d i o<|I _ _ h,λj c r d t i o h=>L.d j c r d t i o<|I _ _ h⟩
  .by_cases q:k=F.L+J
   .subst q;rw[B]at u;rcases u with h|h<;>exact h.elim
   .rw[l k q]at u;exact L.gT k W a u
  .by_cases q:F.L=F.L+J
   .have X6:J=0:=Z
    subst X6;have:=p.C.f (by rw[s];simp);have T:E.S.md<k:=c;rw[this]at T;simp only[jx.md]at T;omega
   .rw[l _ q];exact L.e h k c d
  .by_cases q:F.L=F.L+J
   .grind
   .rw[l _ q];exact L.f c<|by rwa[<-v 0 Z]
  .by_cases q:F.L+1+j=F.L+J
   .grind
   .rw[l _ q];exact L.h j c (by rwa[<-v (j+1) Z]) r t Q
  .by_cases q:F.L+1+j=F.L+J
   .grind
   .rw[l _ q];exact L.l j c<|by rwa[<-v (j+1) Z]
  .by_cases q:F.L+y=F.L+J
   .rw[q,B];rfl
   .rw[l _ q];exact L.S y (by let⟨T,c,d⟩:=M;exact⟨T,by rwa[<-v y Z],d⟩)
  .by_cases q:i=F.L+J
   .subst q;rcases o with q|⟨y,c,d,t⟩
    .grind
    .have:y=J:=Z
     subst this;exact absurd ⟨_,ee,trivial⟩ t
   .rw[l _ q];refine L.M i<|o.imp id λ⟨y,c,d,t⟩=>⟨y,c,d,λ⟨T,Q,h5⟩=>t ⟨T,by rwa[v y Z],h5⟩⟩
 .have:=p.C.l j Z (by rw[<-h,s];simp);exact this
 .grind
 .unfold rC;rw[s];simp only[ik.rk,jF.rk];omega
def A3(E:fU F)(x:Nat)(e:ik)(G:GS)(a:Option Nat):fU F:={ft.gV E x e with b:=G,g:=a}
theorem Ps.Gv(h:Ps F E){e:ik}{G:GS}{la:Option Nat}(v:i<E.r)(D:∃w,E.N i=Ã w)(O:∀y,y≠i->∀p,E.N y=Ã (.gd p)->∀W,p≠ .gA W/\p≠ .jc W/\p≠ .iB W) (H:∀c d,G=.cl c d->c=Ñ (F.n+1) (ft.gV E i e).G/\d=E.M.gC) (I:∀d,G=.jE d->Ñ (F.n+1) (ft.gV E i e).G=0/\d=E.M.gC/\la=Ã i/\(e=.gd (.gA d)\/e=.gd (.jc d))) (J:∀r s,G=.gX r s->Ñ (F.n+1) (ft.gV E i e).G=0/\r+s=E.M.gC/\(0<r->la=Ã i/\e=.gd (.iB r))) (K:∀p,e=.gd p->(∀W,p=.gA W\/p=.jc W->la=Ã i/\G=.jE W)/\(∀r,p=.iB r->0<r/\la=Ã i/\∃s,G=.gX r s)) (L:E.M=.fy .gA\/E.M=.fy .lj\/E.M=.gd->Ñ (F.n+1) (ft.gV E i e).G=0) (M:E.M=.fy .gA->∃a b,G=.gX a b) (N:(∀p,E.M≠ .fy p)->E.M≠ .gd->∃c,G=.cl c 0):Ps F (A3 E i e G la):=by
 have l:∀y,y≠i->(A3 E i e G la).N y=E.N y:=λy f=>fG _ _ f;have m:(A3 E i e G la).N i=Ã e:=gD _ _ _;let⟨w,z⟩:=D;refine⟨h.v,h.C,h.K,h.L,h.J,h.I,h.z,h.d,λj B g=> ?_,λg=> ?_,λy f=> ?_,h.M,h.o,H,λd o=> ?_,λr s o=> ?_,λy p f=> ?_,L,h.e,h.Y,h.w,h.H,M,N,h.y,h.D⟩
 .by_cases q:j+1=i
  .exact h.l j B<|by rw[q,z];simp
  .rw[l _ q]at g;exact h.l j B g
 .by_cases q:0=i
  .exact h.f<|by rw[q,z];simp
  .rw[l _ q]at g;exact h.f g
 .have:E.r<=y:=f;rw[l y Z];exact h.h y f
 .let⟨t,u,k,C⟩:=I d o;exact⟨t,u,i,v,k,by rw[m];exact C.imp (λq=>by rw[q]) λq=>by rw[q]⟩
 .let⟨t,u,k⟩:=J r s o;exact⟨t,u,λC=>⟨i,v,(k C).1,by rw[m,(k C).2]⟩⟩
 .by_cases q:y=i
  .subst q;rw[m]at f;exact K p<|È f
  .grind
def ahy{G:GS}(a:ic W F.C G)(h:Wd F {E with b:=G,a:=E.a} W){x:Nat}{e:ik}{b:Option Nat}:Wd F (A3 E x e G b) W:=⟨a,h.I,h.jG,h.M,h.S,h.N⟩
theorem PI.Gw(H:gR F)(p:PI F n zX E S tr m f gs w qJ){x:Nat}{a e:ik}{G:GS}{la:Option Nat}{c:Ä}{T:gu}(hx:x<E.r)(d:E.N x=Ã a)(t:a.iy)(I:e.iy)(J:e.ou)(v:gs[F.L+x]?=Ã g)(z:kE F.C w W)(B:ic W F.C G)(K:Ŏ F.P (ð gs w o) (F.L+x)=(ğ<|ð gs' W o,u))(C:gs'.size=gs.size)(M:gs'[F.L+x]?=Ã c)(O:c.status=Å\/c.status=å)(Q:∀k,k≠F.L+x->gs'[k]?=gs[k]?.map (Ā F.P g c W)) (X:gN F.P F.S E.Y (fx S (F.L+x)<|JE F e) (fx tr (F.L+x) T) (fx m (F.L+x) .no) (gq f (F.L+x) {f (F.L+x)with w:=W}) gs' W (qJ++u)) (q6:TI F.toFx n zX E.r E.S.rl E.V E.e E.d E.iy E.f (qJ++u)) (q7:iH F E (gq f (F.L+x) {f (F.L+x)with w:=W}) gs'.size W) (hT:(∃N,e=.jr N)->T=.fA) (hP:Ps F (A3 E x e G la)) (X7:(e.rk F).1<(a.rk F).1\/((e.rk F).1=(a.rk F).1/\(e.rk F).2<(a.rk F).2)) (Gp:E.M=.fy .kB->E.b.sm=0->G.sm=0\/∀y,gs'[0]?=Ã y->y.status≠Ü):kg F n zX E tr gs w qJ o (F.L+x):=by
 have D:F.M F.C:=À U;refine⟨A3 E x e G la,_,_,_,_,gs',W,u,K,C,λh=>h,.r ?_ (C.trans p.b) X ?_ (ahy B<|z.I H p.a p.C p.M D ⟨λ_=>B,λq=>absurd U q⟩ λk b=>⟨λq=>absurd q.symm<|H.C.M k b,λ_=>rfl⟩) hP (q6.G<|⟨λ_=>⟨a,d,t⟩,λ_=>I⟩) ?_ λj r b l s=>(p.f j r b l s).app u,?_⟩
 .have:=p.N.G (x:=x) H.C hT;exact⟨this.M,this.Y,this.I,this.C,this.r⟩
 .have:=q7.gV (⟨λ_=>XK ⟨a,d,t⟩,λ_=>J⟩);exact⟨this.gT,this.o,this.lU,this.e,this.f,this.h,this.l,this.S,this.M,this.c,this.I,this.N,this.g,this.d⟩
 .refine p.c.qF (E':=A3 E x e G la) M (by rcases O with q|q<;>rw[q]<;>simp) Q (λj i=>z.C p.C D i) U U (λy i=>fG _ _ Z) (λ_=>rfl) (λ_ _=>rfl) (λ_ i j=>Gp i j) λ_ _ _ _ h=>À h
 .have j:rC F E x=a.rk F:=by unfold rC;rw[d]
  have:=Dw (E:=E) (tr:=tr) (gs:=gs) (gs':=gs') (T:=T) H.C (p.G<|iP v) (by rwa[j]);rcases this with⟨i,b,l,s⟩|⟨b,_⟩
  .exact À ⟨i,b,l,s⟩
  .exfalso;have:=b _<|p.G<|iP v;change(ft.gV E x e).iT (fx tr (F.L+x) T) (F.L+x)=E.iT tr (F.L+x)at this;rw[J9 H.C (E:=ft.gV E x e)<|gD _ _ _,J9 H.C d]at this;grind
theorem ahz(h:V=#[kA<|fM F.C,mS<|fM F.C]\/V=#[kA<|fM F.C]\/V=#[mS<|fM F.C]\/V=ö (gW F.C)):∀e∈V,∀b,(Ë e).touch?=Ã b->∃y:Č,b.loc=ú y/\y.block=F.C:=by
 intro e c b g;have:∃x:Č,x.block=F.C/\(e.loc=ú x\/e.loc=ŭ õ\/e.loc=ŭ î):=by
  rcases h with rfl|rfl|rfl|rfl
  .simp at c;rcases c with rfl|rfl<;>exact⟨fM F.C,U,À U⟩
  .simp at c;subst c;exact⟨fM F.C,U,À U⟩
  .simp at c;subst c;exact⟨fM F.C,U,À U⟩
  .simp[ö]at c;rcases c with rfl|rfl|rfl|rfl
   .exact⟨gW F.C,U,Á<|À U⟩
   .exact⟨gW F.C,U,À U⟩
   .exact⟨gW F.C,U,À U⟩
   .exact⟨gW F.C,U,Á<|Á U⟩
 let⟨x,i,a⟩:=this;let⟨j,d,f⟩:=e;rcases a with a|a|a
 .simp only at a;subst a;have:(Ë ⟨ú x,d,f⟩).touch?=Ã ⟨ú x,d,if f then .atomic else .plain⟩:=by cases d<;>cases f<;>rfl
  grind
 .simp only at a;subst a;simp[Ë,Ċ]at g
 .simp only at a;subst a;simp[Ë,Ċ]at g
def Gx(p:PI F n zX E S tr m f gs w qJ)(a:F.L+i<gs.size)(c:(f<|F.L+i).d=1)(h:V=#[kA<|fM F.C,mS<|fM F.C]\/V=#[kA<|fM F.C]\/V=#[mS<|fM F.C]\/V=ö (gW F.C)): ∀y,E.iy y->F.L+i=F.L+y->(∀e∈V,∀b,(Ë e).touch?=Ã b->∃y:Č,b.loc=ú y/\y.block=F.C)/\AR (κ qJ<|F.L+i) V:=by
 intro y _ _;refine⟨ahz h,?_⟩;rw[p.I.r.f _ a,c];rcases h with rfl|rfl|rfl|rfl
 .exact Ka.1
 .exact Ka.2.1
 .exact Ka.2.2.1
 .exact Ka.2.2.2
def PI.ahA(H:gR F)(p:PI F n zX E S tr m f gs w qJ){x:Nat}(i:x<E.r)(a:E.N x=Ã (.gd .jD))(k:gs[F.L+x]?=Ã g)(G:g.status=Å)(I:tr (F.L+x)=.fA):kg F n zX E tr gs w qJ o (F.L+x):=by
 have s:=iP k;have C:=p.I.r;let⟨J,_,g',c,d⟩:=p.A2 i a k G I w<|C.r _ s;have t:=A1 H.C x;have u:∀y:Ă,y.act=ė (Į<|fM F.C)->y.act.touch?=Í:=λy b=>by rw[b];rfl
 let⟨T,K⟩:=jk d;have v:=lG (λl g h=>À h.2.1) d;obtain⟨gs',y,M,O,P,B,Q,V,X,Y⟩:=p.AY H .no k (by rw[t];exact c w) fj fj (λy b=>⟨λz l=>(by rw[u y b]at l;cases l),by rw[b];exact C.N _<|À<|À U⟩) (λy _ b=>AJ C.l λq j=>by rw[xg j];exact u y b) (by rwa[t]) v;have D:=p.d.agT i M O ((C.f _ s).trans J) (λ⟨e,c,d⟩=>by rw[a]at c;cases c;exact d);refine⟨{ft.gV E x (.gd .iF)with f:=fx E.f x qJ.size},_,_,_,_,gs',w,#[y],P,B,λh=>h,.r ?_ (B.trans p.b) X ?_ (⟨p.M.C,p.M.I,p.M.jG,p.M.M,p.M.S,p.M.N⟩) ?_ ?_ ?_ λj r q W a3=>(p.f j r q W a3).app _,Dw H.C (p.G s)<|À ?_⟩
 .have:=p.N.G (x:=x) (e:=.gd .iF) (T:=T) H.C (λ⟨N,h⟩=>by cases h);exact⟨this.M,this.Y,this.I,this.C,this.r⟩
 .have:=Y.gV (x:=x) (e:=.gd .iF) (⟨λ_=>⟨_,a,trivial⟩,λ_=>trivial⟩);exact⟨this.gT,this.o,this.lU,this.e,this.f,this.h,this.l,this.S,this.M,this.c,this.I,this.N,this.g,this.d⟩
 .have h:=p.C.gV (x:=x) (e:=.gd .iF) i (by rw[a];rfl) (λq h W=>by rw[a]at h;cases h;exact⟨fj,fj,fj⟩) (λq h W=>by cases h;exact⟨fj,fj,fj⟩) (λj h=>p.C.l j Z<|by rw[<-h,a];simp) (λh=>p.C.f<|by rw[<-h,a];simp);exact⟨h.v,h.C,h.K,h.L,h.J,h.I,h.z,h.d,h.l,h.f,h.h,h.M,h.o,h.t,h.g,h.u,h.N,h.B,h.e,h.Y,h.w,h.H,h.O,h.S,h.y,h.D⟩
 .refine{D with r:=λz l j=>D.r z l ?_};by_cases q:z=x
  .exact Á q
  .exact À<|(X2 q).1 j
 .refine p.c.qF (E':={ft.gV E x (.gd .iF)with f:=fx E.f x qJ.size}) Q (by rcases v with q|q<;>rw[q]<;>simp) V (λ_ _=>rfl) U U (λy b=>fG _ _ Z) (λ_=>rfl) (λ_ _=>rfl) (λ_ _ h=>À h) λ_ _ _ _ h=>À h
 .unfold rC;rw[a];simp only[ik.rk,jF.rk];omega
end
section
variable{F:Ph}{E K:fU F}{S:Nat->Jd}{o M:Nat->gu}{G:Nat->iA}{B:Nat->e9}{m J:Array Ä}{u:ä}{I:Option (Nat×Nat)}
def X8{N:Nat}{l:e9}(h:Ź P N l.d g):lh P É (pv P N) .fA l g:=λ_ _=>h
def X9(a:Ps F E):E.r<=E.M.ad F.n:=by unfold fU.r;cases E.M<;>simp only[fW.sp,fW.ad]<;>omega
theorem Gy(b:Ps F E){e:ik}(d:i<E.r):Ñ (F.n+1) (ft.gV E i e).G+me (E.N i)=Ñ (F.n+1) E.G+e.kQ:=by
 have g:=X9 b;have h:=Dl b;have:=xe (f:=E.G) (f':=(ft.gV E i e).G) (j:=i) (n:=F.n+1) Z (λa c=>by unfold fU.G;show(if a<E.M.ad F.n then me (fx E.N i (Ã e) a)else 0)=_;rw[fG _ _ c]);have a:E.G i=me (E.N i):=by unfold fU.G;rw[if_pos Z]
 have c:(ft.gV E i e).G i=e.kQ:=by unfold fU.G;show(if i<E.M.ad F.n then me (fx E.N i (Ã e) i)else 0)=_;rw[if_pos Z,gD];rfl
 grind
theorem Ya(a:Ps F E)(h:E.b=.cl i n):∀y p,E.N y=Ã (.gd p)->∀W,p≠ .gA W/\p≠ .jc W/\p≠ .iB W:=by intro y p b W;let⟨d,e⟩:=a.N y p b;grind
theorem Pk(a:Ps F E)(h:E.g=Ã i):∀y,y≠i->∀p,E.N y=Ã (.gd p)->∀W,p≠ .gA W/\p≠ .jc W/\p≠ .iB W:=by intro y c p b W;let⟨d,e⟩:=a.N y p b;grind
def PI.ahB(p:PI F n zX E S o G B m w qJ)(e:i<E.r)(d:E.N i=Ã (.gd .iF)):∃c a,E.b=.cl (c+1) a/\c+1=Ñ (F.n+1) E.G/\a=E.M.gC/\¬(E.M=.fy .gA\/E.M=.fy .lj\/E.M=.gd):=by
 have g:1<=Ñ (F.n+1) E.G:=by
  have q:=X9 p.C;have r:=Dl p.C;have:=OZ (f:=E.G) (j:=i) (n:=F.n+1) Z;have s:E.G i=1:=by unfold fU.G;rw[if_pos Z,d];rfl
  omega
 obtain⟨c,a,b⟩:∃c a,E.b=.cl (c+1) a:=by
  cases q:E.b with
  |cl c a=>
   have:=(p.C.t c a q).1;exact⟨c-1,a,by congr 1;omega⟩
  |jE a=>have:=(p.C.g a q).1;omega
  |gX r s=>have:=(p.C.u r s q).1;omega
 let⟨r,s⟩:=p.C.t _ _ b;exact⟨c,a,b,r,s,λq=>by have:=p.C.B q;omega⟩
theorem PI.ahC(H:gR F)(p:PI F n zX E S o G B m w qJ)(f:i<E.r)(v:E.N i=Ã (.gd .iF))(z:m[F.L+i]?=Ã g)(iI:g.status=Å)(ht:o (F.L+i)=.fA)(hc:E.b=.cl (j+1) k)(Gz:j+1=Ñ (F.n+1) E.G)(Yb:k=E.M.gC)(GA:¬(E.M=.fy .gA\/E.M=.fy .lj\/E.M=.gd))(hl:j=0/\0<k):kg F n zX E o m w qJ I (F.L+i):=by
 have t:=iP z;have C:=p.I.r;let⟨hd,_,tX⟩:=p.A2 f v z iI ht w<|C.r _ t;have mc:=A1 H.C i;have Q:F.M F.C:=À U;have K:=hc▸p.M.C;let⟨ev,V⟩:=K.jL;have X:=tX (GS.cl (j+1) k).st;rw[ev]at X V;obtain⟨d,M⟩:∃d,(GS.jL<|.cl (j+1) k).st=d:=⟨_,U⟩;rw[M]at X;let⟨g',h1,h2⟩:=X;have Y:=h1 w K.C K.I;rw[<-M]at Y;let⟨k1,k2,k3⟩:=K.r;have O:kE F.C w (w.setCell (fM F.C)<|ë Ó (GS.jL<|.cl (j+1) k).st):=Á ⟨_,_,À U,U⟩;have D:=O.r p.a H.C Q;have xi:fE {B (F.L+i)with w:=w} w (w.setCell (fM F.C)<|ë Ó (GS.jL<|.cl (j+1) k).st):=⟨Ô D.r.symm,λb lk=>D.jU b<|C.I _ t b lk,λa ha=>D.M _ t a ha,λa ha=>D.N _ t a ha,λa _=>D.I a⟩;have ed:GS.jL (.cl (j+1) k)=.jE k:=by simp only[GS.jL,if_pos hl]
 rw[ed]at Y V O D xi M;have hW:fh F.P É (JY F.P É F.C (F9 F) k) {B (F.L+i)with w:=w} g':=by
  have r:d=(k:Int):=M.symm;have l:¬(d=0\/(fY<=d/\d<1000000*fY/\d%fY<1000000)):=by simp only[fY];omega
  grind
 let⟨T,hT⟩:=jk<|hW.j5 xi;have np:=lG (λl g h=>À h.2.1) hW;obtain⟨J,u,l,q2,q3,q4,q5,q6,q7⟩:=p.Y H .no z (Gu f) Q (by rwa[mc]) O (AS Q) U (Gx p t hd<|À U) (by rwa[mc]) np;have yW:=Gy p.C (e:=.gd (.gA k)) f;rw[v]at yW;refine p.Gw H (e:=.gd (.gA k)) (la:=Ã i) f v trivial trivial trivial z O V l q2 q3 np q4 q5 q6 q7 (λ⟨N,h⟩=>by cases h) (p.C.Gv f ⟨_,v⟩ (λy _ q r W=>Ya p.C hc y q r W) (λy r h=>by cases h) (λr h=> ?_) (λr s h=>by cases h) (λq h=> ?_) (λq=>absurd q GA) (λq=>absurd (À q) GA) λl q2=> ?_) (À ?_) λ_ _=>À rfl
 .injection h with h;subst h;exact⟨(by simp only[me,ik.kQ,jF.kQ]at yW;omega),Yb,U,À U⟩
 .grind
 .let⟨y,r⟩:=p.C.S l q2;grind
 .simp only[ik.rk,jF.rk];grind
theorem PI.ahD(H:gR F)(p:PI F n zX E S o G B m w qJ)(f:i<E.r)(t:E.N i=Ã (.gd .iF))(v:m[F.L+i]?=Ã g)(iI:g.status=Å)(ht:o (F.L+i)=.fA)(hc:E.b=.cl (j+1) k)(Gz:j+1=Ñ (F.n+1) E.G)(Yb:k=E.M.gC)(GA:¬(E.M=.fy .gA\/E.M=.fy .lj\/E.M=.gd))(hl:¬(j=0/\0<k)):kg F n zX E o m w qJ I (F.L+i):=by
 have l:=iP v;have C:=p.I.r;let⟨hd,_,tX⟩:=p.A2 f t v iI ht w<|C.r _ l;have mc:=A1 H.C i;have O:F.M F.C:=À U;have z:=hc▸p.M.C;let⟨ev,P⟩:=z.jL;have Q:=tX (GS.cl (j+1) k).st;rw[ev]at Q P;obtain⟨d,K⟩:∃d,(GS.jL<|.cl (j+1) k).st=d:=⟨_,U⟩;rw[K]at Q;let⟨g',h1,h2⟩:=Q;have T:=h1 w z.C z.I;rw[<-K]at T;let⟨k1,k2,k3⟩:=z.r;have M:kE F.C w (w.setCell (fM F.C)<|ë Ó (GS.jL<|.cl (j+1) k).st):=Á ⟨_,_,À U,U⟩;have D:=M.r p.a H.C O;have xi:fE {B (F.L+i)with w:=w} w (w.setCell (fM F.C)<|ë Ó (GS.jL<|.cl (j+1) k).st):=⟨Ô D.r.symm,λb lk=>D.jU b<|C.I _ l b lk,λa V=>D.M _ l a V,λa V=>D.N _ l a V,λa _=>D.I a⟩;have ed:GS.jL (.cl (j+1) k)=.cl j k:=by simp only[GS.jL,if_neg hl]
 rw[ed]at T P M D xi K;obtain⟨N,hN⟩:F9 F {B (F.L+i)with w:=w} g':=by
  have q:d=(j:Int)*fY+(k:Int):=K.symm;have h:d=0\/(fY<=d/\d<1000000*fY/\d%fY<1000000):=by simp only[fY]at q|-;omega
  grind
 have np:=hN.status;obtain⟨J,u,X,Y,q3,q4,q5,q6,q7⟩:=p.Y H .no v (Gu f) O (by rwa[mc]) M (AS O) U (Gx p l hd<|À U) (by rw[mc];exact X8 hN) np;have yW:=Gy p.C (e:=.jr N) f;rw[t]at yW;have hz:Ñ (F.n+1) (ft.gV E i<|.jr N).G=j:=by simp only[me,ik.kQ,jF.kQ]at yW;omega
 refine p.Gw H (e:=.jr N) (la:=E.g) f t trivial trivial trivial v M P X Y q3 np q4 q5 q6 q7 (λ_=>rfl) (p.C.Gv f ⟨_,t⟩ (λy _ q h W=>Ya p.C hc y q h W) (λy r h=> ?_) (λr h=>by cases h) (λr s h=>by cases h) (λq h=>by cases h) (λq=>absurd q GA) (λq=>absurd (À q) GA) λX Y=> ?_) (À ?_) λ_ _=>À rfl
 .grind
 .let⟨y,h⟩:=p.C.S X Y;grind
 .simp only[ik.rk,jF.rk];omega
def PI.ahE(H:gR F)(p:PI F n zX E S o G B m w qJ)(a:i<E.r)(b:E.N i=Ã (.gd .iF))(d:m[F.L+i]?=Ã g)(e:g.status=Å)(f:o (F.L+i)=.fA):kg F n zX E o m w qJ I (F.L+i):=by
 let⟨c,r,h,j,k,l⟩:=p.ahB a b;by_cases q:c=0/\0<r
 .exact p.ahC H a b d e f h j k l q
 .exact p.ahD H a b d e f h j k l q
theorem PI.ahF(H:gR F)(p:PI F n zX E S o G B m w qJ)(c:i<E.r)(d:E.N i=Ã (.gd (.gA j)))(f:m[F.L+i]?=Ã g)(O:g.status=Å)(P:o (F.L+i)=.fA):kg F n zX E o m w qJ I (F.L+i):=by
 have y:=iP f;let⟨Q,_,V⟩:=p.A2 c d f O P w<|(p.I.r).r _ y;have z:=A1 H.C i;have C:F.M F.C:=À U;let⟨X,k⟩:=(p.C.N i _ d).1 j<|À U;have D:=k▸p.M.C;let⟨g',Y,t⟩:=V (j:Int);simp only[if_true]at t;let⟨T,hT⟩:=jk t;have K:=lG (λl g h=>À h.2.1) t;obtain⟨J,u,l,v,q3,q4,q5,q6,q7⟩:=p.Y H .no f (Gu c) C (by rw[z];exact Y w D.C) (À U) (yR C) U (Gx p y Q<|Á<|À U) (by rwa[z]) K;have M:=Gy p.C (e:=.gd (.jc j)) c;rw[d]at M;let⟨b1,b2,_⟩:=p.C.g j k;have hz:Ñ (F.n+1) (ft.gV E i<|.gd (.jc j)).G=0:=by simp only[me,ik.kQ,jF.kQ]at M;omega
 refine p.Gw H (e:=.gd (.jc j)) (la:=E.g) c d trivial trivial trivial f (À U) D l v q3 K q4 q5 q6 q7 (λ⟨N,h⟩=>by cases h) (p.C.Gv c ⟨_,d⟩ (Pk p.C X) (λc' a h=>by cases h) (λa h=> ?_) (λr s h=>by cases h) (λa h=> ?_) (λ_=>hz) (λq=> ?_) λl v=> ?_) (À ?_) λ_ h=>À rfl
 .grind
 .grind
 .let⟨a,b,h⟩:=p.C.O q;rw[k]at h;cases h
 .let⟨c',a⟩:=p.C.S l v;grind
 .simp only[ik.rk,jF.rk];omega
theorem PI.ahG(H:gR F)(p:PI F n zX E S o G B m w qJ)(c:i<E.r)(d:E.N i=Ã (.gd (.jc j)))(k:m[F.L+i]?=Ã g)(P:g.status=Å)(Q:o (F.L+i)=.fA):kg F n zX E o m w qJ I (F.L+i):=by
 have f:=iP k;have C:=p.I.r;let⟨V,_,g',X,z⟩:=p.A2 c d k P Q w<|C.r _ f;have K:=A1 H.C i;have v:F.M F.C:=À U;let⟨Y,M⟩:=(p.C.N i _ d).1 j<|Á U;have t:=M▸p.M.C;have Pl:=t.r.1;have y:kE F.C w (w.setCell (fM F.C)<|ë Ó 0):=Á ⟨_,_,À U,U⟩;have D:=y.r p.a H.C v;let⟨T,hT⟩:=jk (z.j5 ⟨Ô D.r.symm,λb l=>D.jU b<|C.I _ f b l,λa h=>D.M _ f a h,λa h=>D.N _ f a h,λa _=>D.I a⟩);have O:=lG (λl g h=>by
  cases j with
  |zero=>omega
  |succ j=>exact À h.2.1) z
 obtain⟨J,u,a,b,q3,q4,q5,q6,q7⟩:=p.Y H .no k (Gu c) v (by rw[K];exact X w _ t.C t.I) y (XT v) U (Gx p f V<|Á<|Á<|À U) (by rwa[K]) O;have l:=Gy p.C (e:=.gd (.iB j)) c;rw[d]at l;let⟨b1,b2,_⟩:=p.C.g j M;have hz:Ñ (F.n+1) (ft.gV E i<|.gd (.iB j)).G=0:=by simp only[me,ik.kQ,jF.kQ]at l;omega
 refine p.Gw H (e:=.gd (.iB j)) (la:=E.g) c d trivial trivial trivial k y t.XF a b q3 O q4 q5 q6 q7 (λ⟨N,h⟩=>by cases h) (p.C.Gv c ⟨_,d⟩ (Pk p.C Y) (λc' q h=>by cases h) (λq h=>by cases h) (λr s h=> ?_) (λq h=> ?_) (λ_=>hz) (λq=>⟨j,0,rfl⟩) λa b=> ?_) (À ?_) λ_ h=>À rfl
 .grind
 .cases h;simp_all
 .let⟨c',q⟩:=p.C.S a b;grind
 .simp only[ik.rk,jF.rk];omega
def Yc(p:PI F n zX E S o G B m w qJ){a y:Ä}(d:mayWake F.P g=Ì)(f:a.status=Å)(i:m[k]?=Ã y)(j:G k=.iB):(Ā F.P g a W y).status≠Ü:=by
 intro h;let⟨e,l⟩:=Ge h;let⟨g0,_,b,c,_⟩:=p.I.C k y i;rw[j]at b;cases b with
 |gk=>rw[l]at c;rcases c with q|q<;>cases q
 |nX r q=>
  unfold Ā at h;rw[if_pos (by simp[d,f])]at h;unfold ď at h;simp only[q]at h;cases h
def PI.ahH(H:gR F)(p:PI F n zX E S o G B m w qJ)(c:i<E.r)(d:E.N i=Ã (.gd (.iB j)))(k:m[F.L+i]?=Ã g)(iI:g.status=Å)(ht:o (F.L+i)=.fA):kg F n zX E o m w qJ I (F.L+i):=by
 have f:=iP k;have C:=p.I.r;let⟨hr0,K,s,M⟩:=(p.C.N i _ d).2 j U;obtain⟨j,rfl⟩:∃O,j=O+1:=⟨j-1,Z⟩;let⟨hd,_,Pm,g',Q,h1,h2⟩:=p.A2 c d k iI ht w<|C.r _ f;have mc:=A1 H.C i;have V:F.M F.C:=À U;have W:=M▸p.M.C;have X:kE F.C w (w.setCell (gW F.C)<|ë ç<|ç.wrap<|(GS.gX (j+1) s).sm+1):=Á ⟨_,_,Á U,U⟩;have D:=X.r p.a H.C V;let⟨b1,b2,_⟩:=p.C.u _ _ M;obtain⟨e,T,hF,Y,yY,he3,Yd⟩:∃(e:ik) (T:gu),lh F.P É (JE F e) T {B (F.L+i)with w:=w.setCell (gW F.C) (ë ç<|ç.wrap<|(GS.gX (j+1) s).sm+1)} g'/\(e.iy/\e.ou/\e.kQ=0)/\((∃N,e=.jr N)->T=.fA)/\((e.rk F).1<((ik.gd<|.iB (j+1)).rk F).1)/\((j=0/\∃N,e=.jr N)\/(0<j/\e=.gd (.iB j))):=by
  cases j with
  |zero=>
   obtain⟨N,hN⟩:F9 F {B (F.L+i)with w:=w} g':=h2;exact⟨.jr N,.fA,X8 hN,⟨trivial,trivial,U⟩,λ_=>rfl,by simp only[ik.rk,jF.rk];omega,À ⟨U,N,U⟩⟩
  |succ j=>
   let⟨T,hT⟩:=jk (h2.j5 ⟨Ô D.r.symm,λb lk=>D.jU b<|C.I _ f b lk,λa ha=>D.M _ f a ha,λa ha=>D.N _ f a ha,λa _=>D.I a⟩);have XX:j+1+1+s<=1:=by rw[b2];cases E.M<;>simp only[fW.gC]<;>first|omega|(rename_i v;cases v<;>simp[ju.sM])
   omega
 obtain⟨J,u,q1,q2,q3,q4,q5,q6,q7⟩:=p.Y H .no k (Gu c) V (by rw[mc];exact h1 w _ W.M W.N) X (Gj V) (Gk _).2.2.2 (Gx p f hd<|Á<|Á<|Á U) (by rwa[mc])<|À Q;have yW:=Gy p.C (e:=e) c;rw[d,Y.2.2]at yW;have hz:Ñ (F.n+1) (ft.gV E i e).G=0:=by simp only[me,ik.kQ,jF.kQ]at yW;omega
 refine p.Gw H (la:=E.g) c d trivial Y.1 Y.2.1 k X W.jD q1 q2 q3 (À Q) q4 q5 q6 q7 yY (p.C.Gv c ⟨_,d⟩ (Pk p.C K) (λc' ahI h=>by cases h) (λahI h=>by cases h) (λO s' h=> ?_) (λp' h=> ?_) (λ_=>hz) (λq=>⟨j,s+1,rfl⟩) λq1 q2=> ?_) (À he3) λhm _=>Á λy hy=> ?_
 .injection h with h l;subst h l;refine⟨hz,Z,λhr=>⟨K,?_⟩⟩;rcases Yd with⟨q,_⟩|⟨_,q⟩
  .omega
  .exact q
 .subst h;rcases Yd with⟨_,N,q⟩|⟨hr,q⟩
  .cases q
  .cases q;exact⟨λW' t=>(by rcases t with t|t<;>cases t),λO pd=>by cases pd;exact⟨hr,K,s+1,U⟩⟩
 .let⟨c',l⟩:=p.C.S q1 q2;rw[M]at l;cases l
 .have h0:(0:Nat)≠F.L+i:=by have:=H.C.r;omega
  rw[q4 0 h0]at hy;obtain⟨z,GB,rfl⟩:=Ù.1 hy;exact Yc p Pm Q GB<|by rw[p.h.2,hm];rfl
end
section
variable{F:Ph}{E E':fU F}{S:Nat->Jd}{f D:Nat->gu}{o:Nat->iA}{v:Nat->e9}{l z:Array Ä}{u:ä}{I:Option (Nat×Nat)}
def A4(ok:F.Ok):(F.L==0)=É:=by have:=ok.r;simp;omega
def Dy(h:0<E.r):yP E F.L:=Á ⟨0,h,U⟩
def Dz(b:E.N 0=Í):∀x,E.iy x->F.L=F.L+x->False:=λx ⟨e,a,_⟩ h2=>by
 have:x=0:=Z
 subst this;rw[b]at a;cases a
def PI.A5(p:PI F n zX E S f o v l w qJ)(b:0<E.r)(c:E.N 0=Í)(d:l[F.L]?=Ã g)(e:g.status=Å)(h:f F.L=.fA):∀a,fE (v F.L) (v F.L).w a->JI F E.c E.S {v F.L with w:=a} g:=by let⟨j,i⟩:=p.m b c;intro a r;have:=p.I.N d e h (À i) a r;simp_all
theorem qI.Kj(h:qI F E S f o)(ok:F.Ok){ip:jx}{sg:Nat->F.γ}{T:gu}(c:E.N 0=Í):qI F {E with S:=ip,c:=sg} (fx S F.L<|JI F sg ip) (fx f F.L T) (fx o F.L .no):=by
 have:=ok.r;refine⟨by rw[fG S _ Z,fG o _ Z];exact h.M,λa b=>by rw[gD,gD];exact⟨U,U⟩,λj a b=>by rw[fG S _ Z,fG o _ Z];exact h.I j a b,λy e a b=> ?_,λi a b=>by rw[fG S _ Z,fG o _ Z,fG f _ Z];exact h.r i a b⟩;have d:y≠0:=λq=>by grind
 rw[fG S _ Z,fG o _ Z,fG f _ Z];exact h.C y e a b
theorem Kk(ok:F.Ok){T:gu}(b:F.L<F.N)(i:E.N 0=Í)(c:E'.N=E.N)(d:E'.M=E.M)(e:E'.h=E.h)(g:E'.C=E.C)(h:E'.S.rk F<E.S.rk F):pw F.N (E'.mu (fx f F.L T) z) (E.mu f l):=by refine Gf b (À ?_) λk a=>yO (λ_=>by rw[d]) (λ_ _=>by rw[e]) (λ_=>by rw[c]) (λq=>absurd q a) (λ_ _=>by rw[g])<|fG f _ a;grind [XP]
theorem Pn(B:fg F E l w)(i:E'.M=E.M)(b:E'.r=E.r)(c:E'.N=E.N)(m:E'.C=E.C)(n:E'.I=E.I)(o:E'.b=E.b)(p:E'.a=E.a):fg F E' l w:=by
 intro k y d e;rcases B k y d e with⟨q,a,f⟩|⟨j,g,h,a,f⟩
 .grind
 .refine Á ⟨j,by rwa[b],by rwa[c],a,?_⟩;grind
theorem Ps.Kl(h:Ps F E){ip:jx}{G:GS}(i:E.N 0=Í)(x:0<E.r)(l:∀c,(ip=.kO c->c<=F.m)/\(ip=.mk c->1<=c/\c<=F.m)/\∀p,ip=.dn c p->1<=c/\c<=F.m) (o:∀c,1<=c->c<=F.m->ip.od<c->fx E.a k G c=.cl 1 (Ñ F.n λj=>(E.C j).gC F j c)) (t:∀c,c<=F.m->c<=ip.od->(∃W,(ip=.dn c (.gA W)\/ip=.dn c (.jc W))/\fx E.a k G c=.jE W/\W=Ñ F.n λj=>(E.C j).gC F j c)\/(∃r s,ip=.dn c (.iB r)/\0<r/\fx E.a k G c=.gX r s/\r+s=Ñ F.n λj=>(E.C j).gC F j c)\/((∀p,ip≠ .dn c p)/\((fx E.a k G c=.cl 0 0/\(Ñ F.n λj=>(E.C j).gC F j c)=0)\/∃s,fx E.a k G c=.gX 0 s/\s=Ñ F.n λj=>(E.C j).gC F j c))) (u:E.S.od<=ip.od) (v:(∃a b,E.a k=.gX a b)->∃a b,G=.gX a b) (y:G=.cl 1 0->E.d k=Í) {sg:Nat->F.γ} {V:Nat->Nat->Prop} (w:V 0=F.i) {pk:Nat->Nat}:Ps F {E with S:=ip,a:=fx E.a k G,c:=sg,V:=V,e:=pk}:=by
 refine⟨w,h.C,h.K,h.L,λq=> ?_,l,h.z,h.d,h.l,λq=>absurd i q,h.h,h.M,h.o,h.t,h.g,h.u,h.N,h.B,o,t,λj r d f=>Ø (h.w j r d f) u,λj r d f=> ?_,h.O,h.S,λc d f=> ?_,h.D⟩
 .have:E.r=0:=q;omega
 .have:=h.H j r d f;show∃a b,fx E.a k G _=_;by_cases e:F.r (j+r*F.n)=k
  .rw[e]at this|-;rw[gD];exact v this
  .grind [fG]
 .have g:fx E.a k G c=.cl 1 0:=f;by_cases e:c=k
  .grind [gD]
  .rw[fG _ _ e]at g;exact h.y c d g
def PI.ahJ(H:gR F)(p:PI F n zX E S f o v l w qJ)(D:0<E.r)(u:E.N 0=Í)(I:l[F.L]?=Ã g)(M:g.status=Å)(ht:f F.L=.fA)(t:E.S=.kO k):rB F n zX E f l w qJ:=by
 have B:=iP I;have C:=p.I.r;have O:=p.A5 D u I M ht w<|C.r _ B;rw[t]at O;have Ye:=(p.C.I k).1 t;have X:=A4 H.C;have sQ:iR F.S (λi=>i<l.size) E.Y (gq v F.L {v F.L with w:=w}) w qJ:=C.C B (λ_ q=>q) (λb q=>À<|Á q) (λ_ q=>q) (λa q=>À<|Á q) U U U (C.m _ B)<|C.g _ B;have Yf:=p.a.C (i:=F.L) (d:=(v F.L).d) (w0:=w)<|Ç _;have z:E.S.md=k:=by rw[t];rfl
 by_cases AU:k<F.m
 .let⟨GD,A6⟩:=p.M.M k (by rw[z];exact Ç _);let⟨r1,r2⟩:=p.a.f D u;rw[z]at r1 r2;let⟨o1,o2⟩:=p.a.e D (k+1) (by rw[z];omega) AU;let⟨T,P⟩:=jk<|H.f k _ _ _ g AU O (C.M B) GD A6 r2 r1 o1 o2 E.c U;have Q:=p.I.M (J:=JI F E.c<|.mk (k+1)) (T:=T) (K:=.no) I (À M) sQ (by rwa[X]);have y:fx E.a 0 (E.a 0)=E.a:=by funext j;unfold fx;split<;>simp[*]
  refine⟨{E with S:=.mk (k+1)},_,_,_,_,λh=>h,.r (p.N.Kj H.C (sg:=E.c) u) p.b Q ?_ ?_ ?_ ?_ (Pn p.c U U U U U U U) p.f,Kk H.C (p.G B) u U U U U ?_⟩
  .have L:=Yf;exact⟨L.gT,L.o,L.lU,λa e b c=>L.e a e (by rwa[z]) c,λa b=>by have:=L.f a b;rwa[z]at this,L.h,L.l,L.S,L.M,L.c,λe b=>L.I e (by rwa[z]),λe b=>L.N e (by rwa[z]),λe a b=>L.g e a (by rwa[z]),L.d⟩
  .have W:=p.M;exact⟨W.C,W.I,W.jG,λe b=>W.M e (by rwa[z]),λe a b=>W.S e a (by rwa[z]),W.N⟩
  .have:=p.C.Kl (k:=0) (ip:=.mk (k+1)) (G:=E.a 0) (sg:=E.c) (V:=E.V) (pk:=E.e) u D (λe=>⟨λq=>(by cases q),λq=>(by cases q;exact⟨Z,Z⟩),λp q=>by cases q⟩) (λe a b c=> ?_) (λe a b=> ?_) (by rw[t];exact Ç _) id (λq=>p.C.y 0 (ò _) q) p.C.v
   .rwa[y]at this
   .rw[y];exact p.C.e e a b<|by rwa[t]
   .rw[y];rcases p.C.Y e a (by rwa[t])with⟨W,q,_⟩|⟨r,s,q,_⟩|q
    .rw[t]at q;rcases q with q|q<;>cases q
    .rw[t]at q;cases q
    .exact Á<|Á ⟨λp q=>(by cases q),q.2⟩
  .have:E.S.rl=(jx.mk<|k+1).rl:=by rw[t];rfl
   have a:=p.d;rwa[this]at a
  .rw[t];simp only[jx.rk];have:F.m+3-(k+1)=F.m+2-k:=Z
   rw[this];omega
 .have q:k=F.m:=Z
  subst q;let⟨T,P⟩:=jk<|H.h _ g O<|C.M B;have Q:=p.I.M (J:=JE F .oP) (T:=T) (K:=.no) I (À M) sQ (by rwa[X]);have s:¬E.iy 0:=λ⟨e,a,_⟩=>by rw[u]at a;cases a
  have W:¬E.ou 0:=λ⟨e,a,_⟩=>by rw[u]at a;cases a
  refine⟨ft.gV E 0 .oP,_,_,_,_,λh=>h,.r (p.N.G (x:=0) H.C λ⟨N,h⟩=>by cases h) p.b Q (Yf.gV ⟨λh=>h.elim,λh=>(W h).elim⟩) p.M.gV (p.C.gV D (by rw[u];rfl) (λb h=>by rw[u]at h;cases h) (λb h=>by cases h) (λj h=>by omega) λ_=>t) (p.d.G ⟨λh=>h.elim,λh=>(s h).elim⟩) (Pj p.c λk y b c e=> ?_) p.f,Dw H.C (p.G B)<|À ?_⟩
  .subst e;rw[ó,I]at b;obtain rfl:=È b;rw[M]at c;cases c
  .unfold rC;rw[u];simp only[ik.rk,if_true,t,jx.rk];have:F.m+2-F.m=2:=Z
   rw[this];omega
end
section
variable{F:Ph}{E E':fU F}{S:Nat->Jd}{o G:Nat->gu}{v:Nat->iA}{d:Nat->e9}{f B:Array Ä}{u:ä}{D:Option (Nat×Nat)}
def Yg(ok:F.Ok)(a:k<=F.m):jf F.toFx k≠jm F i:=λe=>ok.C (by
 have:F.I k=F.Y:=by injection e
 rw[<-this];exact Á ⟨k,a,U⟩)
def ahK(ok:F.Ok)(a:k<=F.m)(b:i<=F.m)(h:jf F.toFx k=jf F.toFx i):k=i:=ok.S k i a b<|by injection h
def ahL(h:jm F i=jm F n):i=n:=by injection h
theorem PI.ahM(H:gR F)(p:PI F n zX E S o v d f w qJ)(h0:0<E.r)(he:E.N 0=Í)(hi:f[F.L]?=Ã g)(iI:g.status=Å)(ht:o F.L=.fA)(B:E.S=.mk k):rB F n zX E o f w qJ:=by
 have y:=iP hi;have C:=p.I.r;have hJ:=p.A5 h0 he hi iI ht w<|C.r _ y;rw[B]at hJ;let⟨k1,N⟩:=(p.C.I k).2.1 B;have D:E.S.md=k-1:=by rw[B];rfl
 let⟨M,z,hn,A6,Yh,hcell,hdone⟩:=hJ;let⟨o1,o2⟩:=p.a.e h0 k (by rw[D];omega) N;have sQ:iR F.S (λi=>i<f.size) E.Y (gq d F.L<|pY F {d F.L with w:=w} k) w qJ:=by
  refine C.C y (λ_ q=>q.elim) (λb q=>À q) (λ_ q=>q.1) (λa q=> ?_) U U U (λ_ q=>q.elim) λa c q=> ?_
  .rcases q with q|rfl|rfl
   .exact À<|Á q
   .exact À<|À o2
   .exact À<|À o1
  .rcases q with q|q|q
   .exact C.g _ y a c.1 q
   .exact c.2.1 q
   .exact c.2.2 q
 have hF:lh F.P (F.L==0) (JI F (fx E.c k M)<|.dn k .jD) .fA (pY F {d F.L with w:=w} k) g:=by rw[A4 H.C];intro J s;let⟨Q,X,W,a3,e⟩:=hdone;exact⟨Q,X,W,a3,e.j5 s⟩
 have hG:fx E.a 0 (E.a 0)=E.a:=by funext j;unfold fx;split<;>simp[*]
 have Vn:∀l,l≠k->fx E.V k z l=E.V l:=λl h=>fG _ _ h;have Vs:fx E.V k z k=z:=gD _ _ _;refine⟨{E with S:=.dn k .jD,c:=fx E.c k M,V:=fx E.V k z},_,_,_,_,λh=>h,.r ?_ p.b (p.I.M (K:=.no) hi (À iI) sQ hF) ?_ ?_ ?_ ?_ (Pn p.c U U U U U U U) p.f,Kk H.C (p.G y) he U U U U ?_⟩
 .have:=p.N.Kj (ip:=.dn k .jD) (sg:=fx E.c k M) (T:=.fA) H.C he;exact⟨this.M,this.Y,this.I,this.C,this.r⟩
 .have L:=p.a;have G:(gq d F.L<|pY F {d F.L with w:=w} k) F.L=pY F {d F.L with w:=w} k:=gU _ _ _;have W:∀i,i≠F.L->(gq d F.L<|pY F {d F.L with w:=w} k) i=d i:=λi h=>gF d _ h;have Yi:(0:Nat)≠F.L:=by have:=H.C.r;omega
  have Po:∀i a,(gq d F.L (pY F {d F.L with w:=w} k) i).r a->(d i).r a:=λi a h=>by
   by_cases q:i=F.L
   .subst q;rw[G]at h;exact h.1
   .grind
  have sO:∀i b,(gq d F.L (pY F {d F.L with w:=w} k) i).O b->(d i).O b/\i≠F.L:=λi b h=>by
   by_cases q:i=F.L
   .subst q;rw[G]at h;exact h.elim
   .grind
  have nOc:∀i,i<f.size->∀a,(a=jm F (F.b k)\/a=jf F.toFx k)->¬(gq d F.L (pY F {d F.L with w:=w} k) i).r a:=λi s a c h=>by
   by_cases q:i=F.L
   .subst q;rw[G]at h;rcases c with c|c
    .exact h.2.1 c
    .exact h.2.2 c
   .rw[W i q]at h;refine C.h i F.L s y q a h<|À ?_;grind
  refine⟨λi s a c=> ?_,λx t u a c=>by rw[W 0 Yi];exact L.o x t u a c,λh=>by rw[W 0 Yi];exact L.lU h,λh l t u=> ?_,λh yV=> ?_,λj hj yV r hr t=>by rw[W _ Z];exact L.h j hj yV r hr t,λj hj yV=>by rw[W _ Z];exact L.l j hj yV,λx AZ=> ?_,λi s=> ?_,λi t u=>by rw[W i Z];exact L.c i t u,λl I b hb=> ?_,λl I i s h=> ?_,λl t u i s h=> ?_,λj hj r hr t i s h=>L.d j hj r hr t i s<|Po _ _ h⟩
  .by_cases q:i=F.L
   .subst q;rw[G]at c;rcases c with q|q|q|q
    .exact L.gT _ y a<|À q.1
    .exact L.gT _ y a<|Á q
    .exact Á ⟨_,H.C.Y.1 _ Z Z,q⟩
    .grind
   .rw[W i q]at c;exact L.gT i s a c
  .rw[G];have A7:k<l:=t;let⟨J,q2⟩:=L.e h l (by rw[D];omega) u;exact⟨⟨J,Yg H.C u,λe=>by have:=ahK H.C u N e;omega⟩,⟨q2,λe=>by have:=H.C.pi l k Z u k1 N<|ahL e;omega,λe=>Yg H.C N e.symm⟩⟩
  .rw[G];show(pY F _ k).N (jf F.toFx k)/\∀b,fx E.V k z k b->(pY F _ k).I b;rw[Vs];exact⟨Á<|Á U,Yh⟩
  .have:F.L+x≠F.L:=λq=>by
    have J:x=0:=Z
    subst J;let⟨e,t,_⟩:=AZ;grind
   rw[W _ this];exact L.S x AZ
  .by_cases q:i=F.L
   .subst q;rw[G];exact L.M _ s
   .rw[W _ q];exact L.M i s
  .have tY:l<=k:=I;by_cases q:l=k
   .subst q;have J:fx E.V l z l b:=hb;rw[Vs]at J;have hM:=Yh b J;refine⟨C.fw _ y b hM,C.I _ y b hM,λi s h=> ?_⟩;let⟨Q,X⟩:=sO i b h;exact C.o i F.L s y X b Q hM
   .have J:fx E.V k z l b:=hb;rw[Vn l q]at J;let⟨Q,X,a3⟩:=L.I l (by rw[D];omega) b J;exact⟨Q,X,λi s h=>a3 i s (sO i b h).1⟩
  .have tY:l<=k:=I;by_cases q:l=k
   .grind
   .exact L.N l (by rw[D];omega) i s<|Po _ _ h
  .have tY:l<=k:=u;by_cases q:l=k
   .grind
   .exact L.g l t (by rw[D];omega) i s<|Po _ _ h
 .have W:=p.M;refine⟨W.C,W.I,W.jG,λl I=> ?_,λl t I=> ?_,W.N⟩
  .have tY:l<=k:=I;show ny F l (fx E.c k M l)/\F.d l (fx E.c k M l) (fx E.V k z l) w;by_cases q:l=k
   .subst q;rw[gD,gD];refine⟨?_,A6⟩;have:=(W.M (l-1)<|by rw[D];exact Ç _).1;have u:=ny.Dh this hn;grind
   .rw[fG _ _ q,fG _ _ q];exact W.M l<|by rw[D];omega
  .have tY:l<=k:=I;by_cases q:l=k
   .subst q;exact hcell
   .exact W.S l t<|by rw[D];omega
 .have:=p.C.Kl (ip:=.dn k .jD) (sg:=fx E.c k M) (V:=fx E.V k z) (pk:=E.e) he h0 (λl=>⟨λq=>(by cases q),λq=>(by cases q),λp q=>by cases q;exact⟨k1,N⟩⟩) (λl a b c=> ?_) (λl a b=> ?_) (by rw[B];exact Ç _) id (λq=>p.C.y 0 (ò _) q)<|by rw[Vn 0 Z];exact p.C.v
  .grind
  .rw[hG];exact p.C.e l a b<|by rwa[B]
  .rw[hG];have J:l<=k-1:=b;rcases p.C.Y l a (by rwa[B])with⟨W,q,_⟩|⟨r,s,q,_⟩|q;all_goals grind
 .have c:=p.d;have e:E.S.rl=k-1:=by rw[B];rfl
  rw[e]at c;refine{c with I:=λl a b x AZ=> ?_};have J:l<=k-1:=b;refine c.I l a b x (AZ.imp (λq=> ?_) id);rwa[<-Vn l Z]
 .rw[B];simp only[jx.rk,jF.rk];have:F.m+3-k=(F.m+2-k)+1:=Z
  grind [ł]
theorem PI.ahN(H:gR F)(p:PI F n zX E S o v d f w qJ)(x:0<E.r)(m:E.N 0=Í)(G:f[F.L]?=Ã g)(iI:g.status=Å)(ht:o F.L=.fA)(e:E.S=.dn k .jD):kg F n zX E o f w qJ D F.L:=by
 have t:=iP G;have C:=p.I.r;have J:=p.A5 x m G iI ht w<|C.r _ t;rw[e]at J;let⟨k1,K⟩:=(p.C.I k).2.2 _ e;have M:=A4 H.C;let⟨hd,_,g',h1,N⟩:=J;have O:∀y:Ă,y.act=ė (Į<|fM<|F.I k)->y.act.touch?=Í:=λy i=>by rw[i];rfl
 let⟨T,hT⟩:=jk N;have P:=lG (λl g h=>À h.2.1) N;obtain⟨B,y,y1,y2,q1,Q,q3,q4,q5,q7⟩:=p.AY H .no G (by rw[M];exact h1 w) fj fj (λy i=>⟨λz l=>(by rw[O y i]at l;cases l),by rw[i];exact C.N _<|À<|Á ⟨k,K,U⟩⟩) (λy _ i=>AJ C.l λl u=>by rw[xg u];exact O y i) (by rwa[M]) P;have z:E.S.md=k:=by rw[e];rfl
 have Pp:E.S.rl=k-1:=by rw[e];rfl
 let⟨V,X⟩:=p.a.f x m;rw[z]at V X;have Y:=p.d;rw[Pp]at Y;have I:k-1+1=k:=Z
 have Ds:=Y.agS y1 (by rwa[I]) ((C.f _ t).trans hd) (by
  rw[I];intro a l;rcases l with l|rfl
  .exact(C.S _ t).rd a<|X _ l
  .exact(C.S _ t).r _ V)
 rw[I]at Ds;have hG:fx E.a 0 (E.a 0)=E.a:=by funext j;unfold fx;split<;>simp[*]
 refine⟨{E with S:=.dn k .iF,e:=fx E.e k qJ.size},_,_,_,_,B,w,#[y],q1,Q,λh=>h,.r ?_ (Q.trans p.b) q5 ?_ ?_ ?_ Ds (p.c.qF (E':={E with S:=.dn k .iF,e:=fx E.e k qJ.size}) q3 (by rcases P with q|q<;>rw[q]<;>simp) q4 (λ_ _=>rfl) U U (λ_ _=>rfl) (λ_=>rfl) (λ_ _=>rfl) (λ_ _ h=>À h) λ_ _ _ _ h=>À h) λj r a1 a2 a3=> ?_,Kk H.C (p.G t) m U U U U ?_⟩
 .have:=p.N.Kj (ip:=.dn k .iF) (sg:=E.c) (T:=T) H.C m;exact⟨this.M,this.Y,this.I,this.C,this.r⟩
 .have L:=q7;exact⟨L.gT,L.o,L.lU,λa l b c=>L.e a l (by rwa[z]) c,λa b=>by have:=L.f a b;rwa[z]at this,L.h,L.l,L.S,L.M,L.c,λl b=>L.I l (by rwa[z]),λl b=>L.N l (by rwa[z]),λl a b=>L.g l a (by rwa[z]),L.d⟩
 .have W:=p.M;exact⟨W.C,W.I,W.jG,λl b=>W.M l (by rwa[z]),λl a b=>W.S l a (by rwa[z]),W.N⟩
 .have:=p.C.Kl (ip:=.dn k .iF) (sg:=E.c) (pk:=fx E.e k qJ.size) m x (λl=>⟨λq=>(by cases q),λq=>(by cases q),λp q=>by cases q;exact⟨k1,K⟩⟩) (λl a b c=> ?_) (λl a b=> ?_) (by rw[e];exact Ç _) id (λq=>p.C.y 0 (ò _) q) p.C.v
  .grind
  .rw[hG];exact p.C.e l a b<|by rwa[e]
  .rw[hG];have c:l<=k-1:=b;rcases p.C.Y l a (by rwa[e])with⟨W,q,_⟩|⟨r,s,q,_⟩|q;all_goals grind
 .have u:=p.C.w j r a1<|Á<|Á a2;rw[e]at u;simp only[jx.od]at u;show Λ _ _ (fx E.e k qJ.size _);rw[fG _ _ Z];exact(p.f j r a1 a2 a3).app _
 .rw[e];simp only[jx.rk,jF.rk];omega
end
section
variable{F:Ph}{E E':fU F}{S:Nat->Jd}{v M:Nat->gu}{I:Nat->iA}{B:Nat->e9}{o f:Array Ä}{u:ä}{K:Option (Nat×Nat)}
def A8(E:fU F)(ip:jx)(k:Nat)(G:GS):fU F:={E with S:=ip,a:=fx E.a k G}
theorem PI.DC(H:gR F)(p:PI F j zX E S v I B o w qJ){d:jF}{ip:jx}{G:GS}{s:Ä}{T:gu}(h0:0<E.r)(C:E.N 0=Í)(t:E.S=.dn k d)(O:d≠ .jD)(Q:o[F.L]?=Ã g)(D:kE (F.I k) w W)(X:ic W (F.I k) G)(q1:Ŏ F.P (ð o w K) F.L=(ğ<|ð f W K,u))(J:f.size=o.size)(q3:f[F.L]?=Ã s)(np:s.status=Å\/s.status=å)(q4:∀k,k≠F.L->f[k]?=o[k]?.map (Ā F.P g s W)) (q5:gN F.P F.S E.Y (fx S F.L<|JI F E.c ip) (fx v F.L T) (fx I F.L .no) (gq B F.L {B F.L with w:=W}) f W (qJ++u)) (q6:TI F.toFx j zX E.r E.S.rl E.V E.e E.d E.iy E.f (qJ++u)) (q7:iH F E (gq B F.L {B F.L with w:=W}) f.size W) (x:ip.md=k/\ip.rl=k) (hP:Ps F (A8 E ip k G)) (X7:ip.rk F<E.S.rk F) (Gp:∀i r,E.C i=.fy r .kB->F.r (i+r*F.n)=k->(E.a k).sm=0->G.sm=0\/∀y,f[F.L+1+i]?=Ã y->y.status≠Ü):kg F j zX E v o w qJ K F.L:=by
 let⟨k1,z⟩:=(p.C.I k).2.2 _ t;have M:F.M (F.I k):=Á ⟨k,z,U⟩;have N:E.S.md=k:=by rw[t];rfl
 have Pp:E.S.rl=k:=by rw[t];cases d<;>first|rfl|exact absurd U O
 have m:=D.I H p.a p.C p.M M ⟨λq=>absurd q<|H.C.M k z,λ_=>rfl⟩ (λl a=>⟨λq=>by rwa[<-H.C.S _ _ z a q,gD],λq=>fG _ _ λe=>q<|by rw[e]⟩);refine⟨A8 E ip k G,_,_,_,_,f,W,u,q1,J,λh=>h,.r ?_ (J.trans p.b) q5 ?_ ?_ hP ?_ ?_ λi r a b c=>(p.f i r a b c).app u,Kk H.C (p.G<|iP Q) C U U U U X7⟩
 .have:=p.N.Kj (ip:=ip) (sg:=E.c) (T:=T) H.C C;exact⟨this.M,this.Y,this.I,this.C,this.r⟩
 .have L:=q7;have e:(A8 E ip k G).S.md=E.S.md:=by rw[N];exact x.1
  exact⟨L.gT,L.o,L.lU,λa l b c=>L.e a l (by rwa[<-e]) c,λa b=>by have:=L.f a b;rwa[<-e]at this,L.h,L.l,L.S,L.M,L.c,λl b=>L.I l (by rwa[<-e]),λl b=>L.N l (by rwa[<-e]),λl a b=>L.g l a (by rwa[<-e]),L.d⟩
 .have e:(A8 E ip k G).S.md=E.S.md:=by rw[N];exact x.1
  exact⟨m.C,m.I,m.jG,λl b=>m.M l (by show l<=E.S.md;rwa[<-e]),λl a b=>m.S l a (by show l<=E.S.md;rwa[<-e]),m.N⟩
 .have e:(A8 E ip k G).S.rl=E.S.rl:=by rw[Pp];exact x.2
  rwa[e]
 .refine p.c.qF (E':=A8 E ip k G) q3 (by rcases np with q|q<;>rw[q]<;>simp) q4 (λi a=>D.C p.C M a) U U (λ_ _=>rfl) (λ_=>rfl) (λ_ _=>rfl) (λ_ _ h=>À h) λi r _ a b=> ?_;show(fx E.a k G _).sm=0\/_;grind [gD,fG]
theorem PI.DF(p:PI F j zX E S v I B o w qJ){d:jF}{f:jx}{G:GS}(m:0<E.r)(t:E.N 0=Í)(l:E.S=.dn k d)(D:f=.kO k\/∃u,f=.dn k u)(i:f.od=k)(H:(∃W,(f=.dn k (.gA W)\/f=.dn k (.jc W))/\G=.jE W/\W=Ñ F.n λe=>(E.C e).gC F e k)\/(∃r s,f=.dn k (.iB r)/\0<r/\G=.gX r s/\r+s=Ñ F.n λe=>(E.C e).gC F e k)\/((∀p,f≠ .dn k p)/\((G=.cl 0 0/\(Ñ F.n λe=>(E.C e).gC F e k)=0)\/∃s,G=.gX 0 s/\s=Ñ F.n λe=>(E.C e).gC F e k))) (x:(∃a b,E.a k=.gX a b)->∃a b,G=.gX a b) (y:G≠ .cl 1 0):Ps F (A8 E f k G):=by
 let⟨J,K⟩:=(p.C.I k).2.2 _ l;have C:k-1<=E.S.od/\E.S.od<=k:=by rw[l];cases d<;>simp only[jx.od]<;>omega
 have:=p.C.Kl (sg:=E.c) (pk:=E.e) t m (λg=> ?_) (λg a b c=> ?_) (λg a b=> ?_) (by rw[i];exact C.2) x (λq=>absurd q y) p.C.v
 .exact this
 .grind
 .rw[i]at c;rw[fG _ _ Z];exact p.C.e g a b Z
 .by_cases q:g=k
  .grind [gD]
  .rw[fG _ _ q];rw[i]at b;refine Á<|Á ⟨λc h=> ?_,?_⟩
   .grind
   .rcases p.C.Y g a Z with⟨W,z,_⟩|⟨r,s,z,_⟩|z;all_goals grind
theorem PI.ahO(H:gR F)(p:PI F j zX E S v I B o w qJ)(d:0<E.r)(i:E.N 0=Í)(s:o[F.L]?=Ã g)(iI:g.status=Å)(ht:v F.L=.fA)(c:E.S=.dn k .iF):kg F j zX E v o w qJ K F.L:=by
 have O:=iP s;have C:=p.I.r;have hJ:=p.A5 d i s iI ht w<|C.r _ O;rw[c]at hJ;obtain⟨k1,Y⟩:=(p.C.I k).2.2 _ c;have Q:=A4 H.C;have y:F.M (F.I k):=Á ⟨k,Y,U⟩;obtain⟨hd,_,tX⟩:=hJ;have hc:=p.C.e k k1 Y (by rw[c];simp only[jx.od];omega);obtain⟨W,hW⟩:∃W,(Ñ F.n λa=>(E.C a).gC F a k)=W:=⟨_,U⟩;rw[hW]at hc;have V:=hc▸p.M.I k Y;obtain⟨ev,z⟩:=V.jL;have key:=tX (GS.cl (0+1) W).st;rw[ev]at key z;obtain⟨m,t⟩:∃m,(GS.jL<|.cl (0+1) W).st=m:=⟨_,U⟩;rw[t]at key;obtain⟨g',h1,h2⟩:=key;have G:=h1 w V.C V.I;rw[<-t]at G;obtain⟨k1',k2,k3⟩:=V.r;have r:kE (F.I k) w (w.setCell (fM<|F.I k)<|ë Ó (GS.jL<|.cl (0+1) W).st):=Á ⟨_,_,À U,U⟩;have D:=r.r p.a H.C y;have X:fE {B F.L with w:=w} w (w.setCell (fM<|F.I k)<|ë Ó (GS.jL<|.cl (0+1) W).st):=⟨Ô D.r.symm,λb lk=>D.jU b<|C.I _ O b lk,λa ha=>D.M _ O a ha,λa ha=>D.N _ O a ha,λa _=>D.I a⟩;have Yj:¬∃a b,E.a k=.gX a b:=λ⟨a,b,q⟩=>by rw[hc]at q;cases q
 by_cases hl:0<W
 .have ed:GS.jL (.cl (0+1) W)=.jE W:=by simp only[GS.jL];rw[if_pos ⟨trivial,hl⟩]
  rw[ed]at G z r D X t;have M:fh F.P É (JY F.P É (F.I k) (fh F.P É<|F.h k) W) {B F.L with w:=w} g':=by
   have e:m=(W:Int):=t.symm;have h:¬(m=0\/(fY<=m/\m<1000000*fY/\m%fY<1000000)):=by simp only[fY];omega
   grind
  obtain⟨T,hT⟩:=jk<|M.j5 X;have N:=lG (λl g h=>À h.2.1) M;obtain⟨f,u,q1,q2,q3,q4,q5,q6,q7⟩:=p.Y (J:=JI F E.c<|.dn k (.gA W)) H .no s (Dy d) y (by rwa[Q]) r (AS y) U (λx hs e=>(Dz i x hs e).elim) (by rwa[Q]) N;refine p.DC H d i c fj s r z q1 q2 q3 N q4 q5 q6 q7 ⟨U,U⟩ (p.DF d i c (Á ⟨_,U⟩) U (À ⟨W,À U,U,hW.symm⟩) (λq=>absurd q Yj) fj) ?_ λ_ _ _ _ _=>À U;rw[c];simp only[jx.rk,jF.rk];omega
 .have Pl:W=0:=Z
  subst Pl;have ed:GS.jL (.cl (0+1) 0)=.cl 0 0:=U;rw[ed]at G z r D X t;have M:fh F.P É (F.h k) {B F.L with w:=w} g':=by simp only[t.symm,true_or,if_true]at h2;exact h2
  obtain⟨T,hT⟩:=jk<|M.j5 X;have N:=lG (λl g h=>À<|H.N _ _ _ h) M;obtain⟨f,u,q1,q2,q3,q4,q5,q6,q7⟩:=p.Y (J:=JI F E.c<|.kO k) H .no s (Dy d) y (by rwa[Q]) r (AS y) U (λx hs e=>(Dz i x hs e).elim) (by rwa[Q]) N;refine p.DC H d i c fj s r z q1 q2 q3 N q4 q5 q6 q7 ⟨U,U⟩ (p.DF d i c (À U) U (Á<|Á ⟨λp q=>(by cases q),À ⟨rfl,hW⟩⟩) (λq=>absurd q Yj) fj) ?_ λ_ _ _ _ _=>À rfl;rw[c];simp only[jx.rk,jF.rk];omega
theorem PI.Yk(p:PI F j zX E S v I B o w qJ)(b:E.S=.dn k (.gA i)\/E.S=.dn k (.jc i)):E.a k=.jE i/\i=Ñ F.n λa=>(E.C a).gC F a k:=by
 have c:k<=F.m:=by rcases b with b|b<;>exact((p.C.I k).2.2 _ b).2
 rcases p.C.Y k c (by rcases b with b|b<;>(rw[b];exact Ç _))with⟨d,z,e,f⟩|⟨r,s,z,_⟩|⟨z,_⟩;all_goals grind
def PI.ahP(H:gR F)(p:PI F j zX E S v I B o w qJ)(d:0<E.r)(m:E.N 0=Í)(n:o[F.L]?=Ã g)(M:g.status=Å)(N:v F.L=.fA)(c:E.S=.dn k (.gA i)):kg F j zX E v o w qJ K F.L:=by have s:=p.A5 d m n M N w<|(p.I.r).r _<|iP n;rw[c]at s;let⟨k1,t⟩:=(p.C.I k).2.2 _ c;have y:=A4 H.C;have z:F.M (F.I k):=Á ⟨k,t,U⟩;let⟨hd,_,O⟩:=s;let⟨C,P⟩:=p.Yk<|À c;have D:=C▸p.M.I k t;let⟨g',Q,r⟩:=O (i:Int);simp only[if_true]at r;let⟨T,V⟩:=jk r;have G:=lG (λl g h=>À h.2.1) r;obtain⟨f,u,h,l,X,Y,q5,q6,q7⟩:=p.Y (J:=JI F E.c<|.dn k (.jc i)) H .no n (Dy d) z (by rw[y];exact Q w D.C) (À U) (yR z) U (λx a e=>(Dz m x a e).elim) (by rwa[y]) G;refine p.DC H d m c fj n (À U) D h l X G Y q5 q6 q7 ⟨U,U⟩ (p.DF d m c (Á ⟨_,U⟩) U (À ⟨i,Á U,U,P⟩) (λ⟨a,b,q⟩=>by rw[C]at q;cases q) fj) ?_ λ_ _ _ _ _=>À rfl;rw[c];simp only[jx.rk,jF.rk];omega
def PI.ahQ(H:gR F)(p:PI F j zX E S v I B o w qJ)(d:0<E.r)(m:E.N 0=Í)(n:o[F.L]?=Ã g)(N:g.status=Å)(O:v F.L=.fA)(c:E.S=.dn k (.jc i)):kg F j zX E v o w qJ K F.L:=by
 have q:=iP n;have C:=p.I.r;have y:=p.A5 d m n N O w<|C.r _ q;rw[c]at y;let⟨k1,z⟩:=(p.C.I k).2.2 _ c;have G:=A4 H.C;have s:F.M (F.I k):=Á ⟨k,z,U⟩;let⟨hd,_,g',P,M⟩:=y;let⟨Q,V⟩:=p.Yk<|Á c;have r:=Q▸p.M.I k z;have X:=r.r.1;have t:kE (F.I k) w (w.setCell (fM<|F.I k)<|ë Ó 0):=Á ⟨_,_,À U,U⟩;have D:=t.r p.a H.C s;let⟨T,Y⟩:=jk (M.j5 ⟨Ô D.r.symm,λb h=>D.jU b<|C.I _ q b h,λa e=>D.M _ q a e,λa e=>D.N _ q a e,λa _=>D.I a⟩);have a:=lG (λl g h=>by
  cases i with
  |zero=>omega
  |succ i=>exact À h.2.1) M
 obtain⟨f,u,h,b,l,q4,q5,q6,q7⟩:=p.Y (J:=JI F E.c<|.dn k (.iB i)) H .no n (Dy d) s (by rw[G];exact P w _ r.C r.I) t (XT s) U (λx hs e=>(Dz m x hs e).elim) (by rwa[G]) a;refine p.DC H d m c fj n t r.XF h b l a q4 q5 q6 q7 ⟨U,U⟩ (p.DF d m c (Á ⟨_,U⟩) U (Á<|À ⟨i,0,U,X,U,by rwa[ó]⟩) (λ_=>⟨i,0,U⟩) fj) ?_ λ_ _ _ _ _=>À U;rw[c];simp only[jx.rk,jF.rk];omega
theorem PI.ahR(H:gR F)(p:PI F j zX E S v I B o w qJ)(l:0<E.r)(t:E.N 0=Í)(G:o[F.L]?=Ã g)(iI:g.status=Å)(ht:v F.L=.fA)(h:E.S=.dn k (.iB j9)):kg F j zX E v o w qJ K F.L:=by
 have W:=iP G;have C:=p.I.r;have hJ:=p.A5 l t G iI ht w<|C.r _ W;rw[h]at hJ;obtain⟨k1,Y⟩:=(p.C.I k).2.2 _ h;have X:=A4 H.C;have O:F.M (F.I k):=Á ⟨k,Y,U⟩;obtain⟨s,hr0,hc,sN⟩:∃s,0<j9/\E.a k=.gX j9 s/\j9+s=Ñ F.n λc=>(E.C c).gC F c k:=by rcases p.C.Y k Y (by rw[h];exact Ç _)with⟨W',z,z1,z2⟩|⟨M,s,z,z1,z2,z3⟩|⟨z,_⟩;all_goals grind
 obtain⟨j9,rfl⟩:∃M,j9=M+1:=⟨j9-1,Z⟩;obtain⟨hd,_,Pm,g',Q,h1,h2⟩:=hJ;have N:=hc▸p.M.I k Y;have V:kE (F.I k) w (w.setCell (gW<|F.I k)<|ë ç<|ç.wrap<|(GS.gX (j9+1) s).sm+1):=Á ⟨_,_,Á U,U⟩;have D:=V.r p.a H.C O;have xi:fE {B F.L with w:=w} w (w.setCell (gW<|F.I k)<|ë ç<|ç.wrap<|(GS.gX (j9+1) s).sm+1):=⟨Ô D.r.symm,λb lk=>D.jU b<|C.I _ W b lk,λa ha=>D.M _ W a ha,λa ha=>D.N _ W a ha,λa _=>D.I a⟩;have wake:∀f:Array Ä,(∀k,k≠F.L->f[k]?=o[k]?.map (Ā F.P g g'<|w.setCell (gW<|F.I k)<|ë ç<|ç.wrap<|(GS.gX (j9+1) s).sm+1))\/(∀m,m≠F.L->f[m]?=o[m]?.map (Ā F.P g g'<|w.setCell (gW<|F.I k)<|ë ç<|ç.wrap<|(GS.gX (j9+1) s).sm+1))->∀c M,E.C c=.fy M .kB->F.r (c+M*F.n)=k->(E.a k).sm=0->(GS.gX j9<|s+1).sm=0\/∀y,f[F.L+1+c]?=Ã y->y.status≠Ü:=by
  intro f d c M hj _ _;refine Á λy hy=> ?_;by_cases Yl:c+2<=E.r
  .by_cases Km:E.N (c+1)=Í
   .obtain⟨_,hk⟩:=p.g c Yl Km;rw[hj]at hk;rcases d with d|d<;>
    .rw[d _ Z]at hy;obtain⟨z,GB,rfl⟩:=Ù.1 hy;exact Yc p Pm Q GB hk
   .obtain⟨_,r0,q,_⟩:=p.C.l c Yl Km;grind
  .have:=p.C.z c Z;grind
 cases j9 with
 |zero=>
  obtain⟨T,hT⟩:=jk<|h2.j5 xi;obtain⟨f,u,q1,q2,q3,d,q5,q6,q7⟩:=p.Y (J:=JI F E.c<|.kO k) H .no G (Dy l) O (by rw[X];exact h1 w _ N.M N.N) V (Gj O) (Gk _).2.2.2 (λx hs e=>(Dz t x hs e).elim) (by rwa[X])<|À Q;refine p.DC H l t h fj G V N.jD q1 q2 q3 (À Q) d q5 q6 q7 ⟨U,U⟩ (p.DF l t h (À U) U (Á<|Á ⟨λp q=>(by cases q),Á ⟨s+1,rfl,Z⟩⟩) (λ_=>⟨0,s+1,rfl⟩) fj) ?_<|wake f<|Á d;rw[h];simp only[jx.rk,jF.rk];omega
 |succ j9=>
  obtain⟨T,hT⟩:=jk<|h2.j5 xi;obtain⟨f,u,q1,q2,q3,d,q5,q6,q7⟩:=p.Y (J:=JI F E.c<|.dn k (.iB (j9+1))) H .no G (Dy l) O (by rw[X];exact h1 w _ N.M N.N) V (Gj O) (Gk _).2.2.2 (λx hs e=>(Dz t x hs e).elim) (by rwa[X])<|À Q;refine p.DC H l t h fj G V N.jD q1 q2 q3 (À Q) d q5 q6 q7 ⟨U,U⟩ (p.DF l t h (Á ⟨_,U⟩) U (Á<|À ⟨j9+1,s+1,U,Z,U,Z⟩) (λ_=>⟨j9+1,s+1,U⟩) fj) ?_<|wake f<|Á d;rw[h];simp only[jx.rk,jF.rk];have:Ñ F.n (λc=>(E.C c).gC F c k)<=F.n:=Gm λi=>by cases E.C i<;>simp only[gO.gC]<;>first|omega|(split<;>first|omega|(rename_i q _;cases q<;>simp[ju.sM]))
  omega
theorem PI.ahS(H:gR F)(p:PI F j zX E S v I B o w qJ){N:Nat}(s:i<E.r)(a:E.N i=Ã (.jr N))(t:o[F.L+i]?=Ã g)(J:g.status=Å):kg F j zX E v o w qJ K (F.L+i):=by
 let⟨M,n,O⟩:=p.k i _ s a;have hL:=H.C.r;obtain⟨f,P,Q,hn,T,l,V,u,z⟩:=p.I.OC t Z J n (O ⟨N,U⟩) M;have C:=iP t;have D:∀c∈Û (F.L+i) g.frame.fn g.frame.place P,c.act.touch?=Í/\∀b,F.M b->c.act≠ė (.release<|fM b):=λc d=>by obtain⟨e,h,rfl⟩:=Ö d;refine⟨ź<|u e h,λb _ q=> ?_⟩;have:=u e h;let⟨k,y,m⟩:=e;cases k<;>simp_all[Event.mute,Ë]
 obtain⟨m,G⟩:∃m,f[F.L+i]?=Ã m:=⟨f[F.L+i]'(by rwa[l]),é _⟩;have W:m.status≠Ü:=by
  let⟨g0,y,h,k,r⟩:=z.C _ m G;rw[n]at h;cases h with
  |gk=>rcases k with q|q<;>rw[q]<;>simp
 have X:fx v (F.L+i) .fA=v:=by funext q;unfold fx;split<;>simp[*]
 have Y:fx I (F.L+i) .no=I:=by funext q;unfold fx;split<;>simp[*]
 refine⟨ft.gV E i<|.jr Q,_,_,_,_,f,w,_,T,l,λh=>h,.r (p.N.G H.C λ_=>rfl) (l.trans p.b) (by rwa[X,Y]) (by rw[l];exact(p.a.C<|Ç _).gV<|⟨λ_=>⟨_,a,trivial⟩,λ_=>trivial⟩) p.M.gV (p.C.gV s (by rw[a];rfl) (λk h=>by rw[a]at h;cases h) (λk h=>by cases h) (λq h=>p.C.l q Z<|by rw[<-h,a];simp) λh=>p.C.f<|by rw[<-h,a];simp) ((p.d.C<|yM (λc d=>(D c d).1) λc d=>(D c d).2).G<|⟨λ_=>⟨_,a,trivial⟩,λ_=>trivial⟩) (Pj (p.c.F4 G W V λ_ _=>rfl) λk y n r e=> ?_) λq r k e y=>(p.f q r k e y).app _,Dw H.C (p.G C)<|Á ?_⟩
 .grind
 .unfold rC;rw[a];simp only[ik.rk];grind
theorem PI.ahT(H:gR F)(p:PI F j zX E S v I B o w qJ)(N:0<i)(t:i<F.L)(u:o[i]?=Ã g)(O:g.status=Å):kg F j zX E v o w qJ K i:=by
 let⟨Q,T,m⟩:=p.l i N t;obtain⟨f,x,z,Y,V,n,W,C,D⟩:=p.I.OC u Z O m T Q;have G:=iP u;have J:∀c∈Û i g.frame.fn g.frame.place x,c.act.touch?=Í/\∀b,F.M b->c.act≠ė (.release<|fM b):=λc l=>by obtain⟨e,a,rfl⟩:=Ö l;refine⟨ź<|C e a,λb _ q=> ?_⟩;have:=C e a;let⟨h,k,y⟩:=e;cases h<;>simp_all[Event.mute,Ë]
 obtain⟨s,M⟩:∃s,f[i]?=Ã s:=⟨f[i]'(by rwa[n]),é _⟩;have X:s.status≠Ü:=by
  let⟨g0,k,a,h,y⟩:=D.C _ s M;rw[m]at a;cases a with
  |gk=>rcases h with q|q<;>rw[q]<;>simp
 refine⟨{E with h:=fx E.h i z},_,_,_,_,f,w,_,V,n,λh=>h,.r ?_ (n.trans p.b) D ?_ ⟨p.M.C,p.M.I,p.M.jG,p.M.M,p.M.S,p.M.N⟩ ?_ (p.d.C<|yM (λc l=>(J c l).1) λc l=>(J c l).2) (Pn (p.c.F4 M X W λ_ _=>rfl) U U U U U U U) λq r a k y=>(p.f q r a k y).app _,Gf (p.G G) ?_ λk m=>yO (λ_=>rfl) (λ_ _=>fG _ _ m) (λ_=>rfl) (λ_ _=>rfl) (λ_ _=>rfl) U⟩
 .have h:=p.N;refine⟨by rw[fG S _ Z];exact h.M,λa b=>by rw[fG S _ Z];exact h.Y a b,λq a b=>by rw[fG S _ Z];exact h.I q a b,λy e a b=>by rw[fG S _ Z];exact h.C y e a b,λq a b=> ?_⟩;by_cases e:q=i
  .grind [gD]
  .rw[fG S _ e];refine⟨?_,(h.r q a b).2⟩;show _=pv F.P (fx E.h i z q);rw[fG _ _ e];exact(h.r q a b).1
 .rw[n];have L:=p.a.C (i:=i) (d:=Ï (B i).d x) (w0:=w)<|Ç _;exact⟨L.gT,L.o,L.lU,L.e,L.f,L.h,L.l,L.S,L.M,L.c,L.I,L.N,L.g,L.d⟩
 .have h:=p.C;exact⟨h.v,h.C,h.K,h.L,h.J,h.I,h.z,h.d,h.l,h.f,h.h,h.M,h.o,h.t,h.g,h.u,h.N,h.B,h.e,h.Y,h.w,h.H,h.O,h.S,h.y,h.D⟩
 .unfold fU.iT;rw[if_neg Z,if_pos t,if_neg Z,if_pos t];refine Á ⟨U,À ?_⟩;grind [gD]
end
section
variable{F:Ph}{E J:fU F}{S:Nat->Jd}{d M:Nat->gu}{o:Nat->iA}{m:Nat->e9}{f D:Array Ä}{u:ä}{I:Option (Nat×Nat)}
def iz(E:fU F)(x:fW)(G:GS)(dk:Nat->Nat):fU F:={E with M:=x,b:=G,I:=dk}
structure iX(E:fU F)(x:fW)(C:Nat->Nat):Prop where
 r:x.sp F.n=E.r
 C:∀j,j+2<=E.r->C j=E.I j
def A9{x:fW}{G:GS}{d:Nat->Nat}(a:iX E x d):(iz E x G d).Y=E.Y:=by have e:(iz E x G d).r=E.r:=a.r;funext b;unfold fU.Y;rw[e];refine propext<|or_congr Iff.rfl<|or_congr Iff.rfl ⟨λ⟨j,c,f⟩=>⟨j,c,f.trans<|a.C j c⟩,λ⟨j,c,f⟩=>⟨j,c,f.trans (a.C j c).symm⟩⟩
def iH.G(L:iH F E m i w){x:fW}{G:GS}{d:Nat->Nat}(a:iX E x d):iH F (iz E x G d) m i w:=by have e:(ft.iz E x G d).r=E.r:=a.r;exact⟨L.gT,λy f=>L.o y Z,λh=>L.lU Z,λh=>L.e Z,λh=>L.f Z,λj h=>L.h j Z,λj h=>L.l j Z,L.S,λc g=>L.M c (g.imp id λ⟨y,f,b⟩=>⟨y,Z,b⟩),L.c,λk l b n=>by rw[A9 a];exact L.I k l b n,L.N,L.g,λj h=>L.d j Z⟩
def Wd.r{G:GS}(W:Wd F {E with b:=G,a:=E.a} w){x:fW}{dk:Nat->Nat}(a:iX E x dk)(c:x.mF F.q=E.M.mF F.q)(d:x.je F.n=E.M.je F.n):Wd F (iz E x G dk) w:=by
 have e:(ft.iz E x G dk).r=E.r:=a.r;refine⟨W.C,W.I,λj f=> ?_,W.M,W.S,λj f=>W.N j<|show j+2<=E.r by omega⟩;have b:j+2<=E.r:=Z
 have:=W.jG j b;show∃g s,w.heap[dk j]?=Ã (.chan F.q g (decide<|j<x.je F.n) s (E.C j).iN É)/\tP F.n j (x.mF F.q) s/\_;rw[a.C j b,c,d];exact this
def Pq{x:fW}{G:GS}{dk:Nat->Nat}(h:x.ad F.n=E.M.ad F.n):(iz E x G dk).G=E.G:=by
 funext y;show(if y<x.ad F.n then _ else _)=if y<E.M.ad F.n then _ else _
 rw[h];rfl
def Ps.iz(h:Ps F E){x:fW}{G:GS}{dk:Nat->Nat}(d:iX E x dk)(o:E.M.je F.n<=x.je F.n)(t:∀j,x=.go j\/x=.lF j\/x=.rd j\/x=.iF j->j<=F.n)(u:∀j,x=.lF j\/x=.rd j\/x=.iF j->1<=j)(v:∀r,(x=.iJ r->r<=F.q)/\(x=.kX r->r<=F.n)) (w:∀c f,G=.cl c f->c=Ñ (F.n+1) (ft.iz E x G dk).G/\f=x.gC) (z:∀f,G=.jE f->Ñ (F.n+1) (ft.iz E x G dk).G=0/\f=x.gC/\∃y,y<E.r/\E.g=Ã y/\(E.N y=Ã (.gd (.gA f))\/E.N y=Ã (.gd (.jc f)))) (B:∀r s,G=.gX r s->Ñ (F.n+1) (ft.iz E x G dk).G=0/\r+s=x.gC/\(0<r->∃y,y<E.r/\E.g=Ã y/\E.N y=Ã (.gd (.iB r)))) (C:∀y p,E.N y=Ã (.gd p)->(∀W,p=.gA W\/p=.jc W->E.g=Ã y/\G=.jE W)/\(∀r,p=.iB r->0<r/\E.g=Ã y/\∃s,G=.gX r s)) (D:x=.fy .gA\/x=.fy .lj\/x=.gd->Ñ (F.n+1) (ft.iz E x G dk).G=0) (H:x=.fy .gA->∃a b,G=.gX a b) (I:(∀p,x≠ .fy p)->x≠ .gd->∃c,G=.cl c 0):Ps F (ft.iz E x G dk):=by
 have e:(ft.iz E x G dk).r=E.r:=d.r;refine⟨h.v,t,u,v,λq=>h.J Z,h.I,λj q=>h.z j Z,λj r q=>h.d j r Z,λj q J=> ?_,h.f,λy q=>h.h y Z,λj g N O K=> ?_,λj q=> ?_,w,λf i=> ?_,λr s i=> ?_,C,D,h.e,h.Y,λj r q=>h.w j r Z,λj r q=>h.H j r Z,H,I,h.y,λj r q=>h.D j r Z⟩
 .let⟨a,b⟩:=h.l j Z J;exact⟨Ê a o,b⟩
 .have k:dk j=dk g:=K;rw[d.C j Z,d.C g Z]at k;exact h.M j g Z Z k
 .show¬F.M (dk j)/\dk j≠F.Y/\F.S<=dk j;rw[d.C j Z];exact h.o j Z
 .let⟨k,l,y,m,L⟩:=z f i;exact⟨k,l,y,Z,L⟩
 .let⟨k,l,m⟩:=B r s i;refine⟨k,l,λL=> ?_⟩;let⟨y,P,M⟩:=m L;exact⟨y,Z,M⟩
def Ps.r(h:Ps F E){x:fW}{dk:Nat->Nat}(d:iX E x dk)(g:E.M.je F.n<=x.je F.n)(i:x.ad F.n=E.M.ad F.n)(f:x.gC=E.M.gC)(k:∀j,x=.go j\/x=.lF j\/x=.rd j\/x=.iF j->j<=F.n)(l:∀j,x=.lF j\/x=.rd j\/x=.iF j->1<=j)(m:∀r,(x=.iJ r->r<=F.q)/\(x=.kX r->r<=F.n)) (o:x=.fy .gA\/x=.fy .lj\/x=.gd->Ñ (F.n+1) E.G=0) (s:x=.fy .gA->∃a b,E.b=.gX a b) (t:(∀p,x≠ .fy p)->x≠ .gd->∃c,E.b=.cl c 0):Ps F (ft.iz E x E.b dk):=by
 have e:=Pq (E:=E) (G:=E.b) (dk:=dk) i;refine h.iz d g k l m ?_ ?_ ?_ h.N ?_ s t
 .rw[e,f];exact h.t
 .rw[e,f];exact h.g
 .rw[e,f];exact h.u
 .rwa[e]
def qI.iz(h:qI F E S d o)(ok:F.Ok){x:fW}{G:GS}{dk:Nat->Nat}{T:gu}(a:iX E x dk):qI F (ft.iz E x G dk) (fx S 0<|JM F dk x) (fx d 0 T) (fx o 0<|kM x):=by have:=ok.r;have e:(ft.iz E x G dk).r=E.r:=a.r;refine⟨by rw[gD,gD];exact⟨U,U⟩,λc b=>by rw[fG S _ Z,fG o _ Z];exact h.Y Z b,λj c b=> ?_,λy f c b=>by rw[fG S _ Z,fG o _ Z,fG d _ Z];exact h.C y f Z b,λi c b=>by rw[fG S _ Z,fG o _ Z,fG d _ Z];exact h.r i c b⟩;rw[fG S _ Z,fG o _ Z];show _=JW F (dk j) j (E.C j)/\_=kW F (dk j) (E.C j);rw[a.C j Z];exact h.I j Z b
def rD{x:fW}{G:GS}{dk:Nat->Nat}{T:gu}(h:x.rk F<E.M.rk F):pw F.N ((iz E x G dk).mu (fx d 0 T) D) (E.mu d f):=by refine Gf (by unfold Ph.N;omega) (À ?_) λk a=>yO (λh=>absurd h a) (λ_ _=>rfl) (λ_=>rfl) (λ_ _=>rfl) (λ_ _=>rfl)<|fG d _ a;rwa[Dk,Dk]
theorem Ym:E.ly 0=match E.M with|.fy p=>p.ly F.B E.b.st|_=>0:=by unfold fU.ly;grind
def ahU{p a:SP}(b:E.M=.fy (.mb p))(g:d 0=.fA)(h:a.rk F.B E.b.st<p.rk F.B E.b.st):pw F.N ((iz E (.fy (.mb a)) E.b E.I).mu (fx d 0 .fA) D) (E.mu d f):=by
 refine XU (i:=0) (λk _=> ?_) (by unfold Ph.N;omega) ?_ λk c=> ?_
 .by_cases e:k=0
  .subst e;rw[Dk,Dk,gD,b,g];rfl
  .exact yO (λh=>absurd h e) (λ_ _=>rfl) (λ_=>rfl) (λ_ _=>rfl) (λ_ _=>rfl)<|fG d _ e
 .rwa[Ym,Ym,b]
 .unfold fU.ly;rw[if_neg c,if_neg c];rfl
def PI.sR(p:PI F b zX E S d o m f w qJ)(c:f[0]?=Ã g)(e:g.status=Å)(h:d 0=.fA):∀a,fE (m 0) (m 0).w a->JM F E.I E.M {m 0 with w:=a} g:=by
 let⟨k,i⟩:=p.h;have j:o 0=.no\/o 0=.iB:=by
  rw[i];cases E.M with
  |fy v=>cases v<;>first|exact À U|exact Á U
  |_=>exact À U
 intro a r;have:=p.I.N c e h j a r;simp_all
def yZ(ok:F.Ok):∀x,E.iy x->0=F.L+x->False:=λx _ e=>by have:=ok.r;omega
theorem PI.za(H:gR F)(p:PI F b zX E S d o m f w qJ){x:fW}{G:GS}{dk:Nat->Nat}{c:Ä}{T:gu}(a:iX E x dk)(C:Ŏ F.P (ð f w I) 0=(ğ<|ð D W I,u))(l:D.size=f.size)(q3:D[0]?=Ã c)(np:c.status=Å\/c.status=å)(J:∀k,k≠0->D[k]?=f[k]?.map (Ā F.P g c W))(K:∀j,j+2<=E.r->W.heap[E.I j]?=w.heap[E.I j]?) (L:gN F.P F.S E.Y (fx S 0<|JM F dk x) (fx d 0 T) (fx o 0<|kM x) (gq m 0 {m 0 with w:=W}) D W (qJ++u)) (M:TI F.toFx b zX E.r E.S.rl E.V E.e E.d E.iy E.f (qJ++u)) (O:iH F E (gq m 0 {m 0 with w:=W}) D.size W) (Q:Wd F (iz E x G dk) W) (X:Ps F (iz E x G dk)) (xf:pw F.N ((iz E x G dk).mu (fx d 0 T) D) (E.mu d f)) (hxf:x=.gd->E.M=.gd):kg F b zX E d f w qJ I 0:=by
 have e:(iz E x G dk).r=E.r:=a.r;refine⟨iz E x G dk,_,_,_,_,D,W,u,C,l,hxf,.r (p.N.iz H.C a) (by rw[e];exact l.trans p.b) (by rwa[A9 a]) (O.G a) Q X (by rwa[e]) ?_ λi h s n q=>(p.f i h Z n q).app u,xf⟩;intro k y n hb;by_cases q:k=0
 .grind
 .rw[J k q]at n;obtain⟨z,hz,rfl⟩:=Ù.1 n;let⟨_,hzb⟩:=Ge hb;rcases p.c k z hz hzb with⟨h1,_⟩|⟨j,t,v,B,i|⟨r,cap,s,h,i,h4⟩⟩
  .exact absurd h1 q
  .exact Á ⟨j,Z,v,B,À i⟩
  .refine Á ⟨j,Z,v,B,Á ⟨r,cap,s,h,i,?_⟩⟩;show W.heap[dk j]?=_;rwa[a.C j t,K j t]
theorem PI.Kn(H:gR F)(p:PI F b zX E S d o m f w qJ){x:fW}{h:Nat->Nat}{T:gu}(c:iX E x h)(v:f[0]?=Ã g)(B:g.status=Å)(hF:lh F.P Ì (JM F h x) T {m 0 with w:=w} g)(t:x.mF F.q=E.M.mF F.q)(l:x.je F.n=E.M.je F.n)(D:Ps F (iz E x E.b h))(G:pw F.N ((iz E x E.b h).mu (fx d 0 T) f) (E.mu d f))(I:x=.gd->E.M=.gd):rB F b zX E d f w qJ:=by
 have u:=iP v;have C:=p.I.r;have e:(iz E x E.b h).r=E.r:=c.r;have J:iR F.S (λi=>i<f.size) E.Y (gq m 0 {m 0 with w:=w}) w qJ:=C.C u (λ_ q=>q) (λa q=>À<|Á q) (λ_ q=>q) (λa q=>À<|Á q) U U U (C.m _ u)<|C.g _ u;have L:=p.I.M (K:=kM x) v (À B) J hF;refine⟨iz E x E.b h,_,_,_,_,I,.r (p.N.iz H.C c) (by rw[e];exact p.b) (by rwa[A9 c]) ((p.a.C<|Ç _).G c) (Wd.r p.M c t l) D (by rw[e];exact p.d) (λk y M O=> ?_) λi a z j s=>p.f i a Z j s,G⟩;by_cases Q:k=0
 .grind
 .rcases p.c k y M O with⟨t,_⟩|⟨j,V,z,l,i|⟨r,W,s,a,i,X⟩⟩
  .exact absurd t Q
  .exact Á ⟨j,Z,z,l,À i⟩
  .refine Á ⟨j,Z,z,l,Á ⟨r,W,s,a,i,?_⟩⟩;show w.heap[h j]?=_;rwa[c.C j V]
def mP{x:fW}(h:x.sp F.n=E.M.sp F.n):iX E x E.I:=⟨h,λ_ _=>rfl⟩
theorem nz:F.M F.C:=À U
theorem PI.ahV(H:gR F)(p:PI F b zX E S d o m f w qJ)(k:f[0]?=Ã g)(l:g.status=Å)(s:d 0=.fA)(e:E.M=.lF j):rB F b zX E d f w qJ:=by
 have i:=p.sR k l s w<|p.I.r.r _<|iP k;rw[e]at i;let⟨c,i⟩:=i;have t:E.r=j:=by unfold fU.r;rw[e];rfl
 have a:iX E (.go j) (fx E.I (j-1) c):=⟨t.symm,λn h=>fG _ _ Z⟩;refine p.Kn H (T:=.fA) a k l (λr q=>H.Gc _ _ _ _ _ i q) (by rw[e];rfl) (by rw[e];rfl) (p.C.r a (by rw[e];exact Ç _) (by rw[e];rfl) (by rw[e];rfl) (λn h=> ?_) (λn h=> ?_) (λr=>⟨λh=>(by cases h),λh=>(by cases h)⟩) (λh=>by rcases h with h|h|h<;>cases h) (λh=>by cases h) λ_ _=>p.C.S (λv q=>by rw[e]at q;cases q) λq=>by rw[e]at q;cases q) (rD<|by rw[e];simp only[fW.rk];omega) λh=>by cases h
 .rcases h with h|h|h|h<;>cases h;exact p.C.C j<|Á<|À e
 .grind
def PI.ahW(H:gR F)(p:PI F b zX E S d o m f w qJ)(k:f[0]?=Ã g)(t:g.status=Å)(u:d 0=.fA)(i:E.M=.rd j):kg F b zX E d f w qJ I 0:=by
 have n:=p.sR k t u w<|p.I.r.r _<|iP k;rw[i]at n;let⟨Q,_,V,z,s⟩:=n;have B:E.r=j:=by unfold fU.r;rw[i];rfl
 have a:iX E (.lF j) E.I:=⟨B.symm,λ_ _=>rfl⟩;let⟨C,G,J⟩:=O7 H p nz (À U) (À U) (À ⟨U,U⟩) λx c e=>yZ H.C x c e;let⟨T,x⟩:=jk s;have e:=lG (λl g ⟨c,h⟩=>À<|H.I _ _ _ _ h) s;obtain⟨D,y,c,l,K,L,M,N,O,P⟩:=p.AY H (kM<|.lF j) k (z w) fj fj C G x e;refine p.za H a K L M e N (λ_ _=>rfl) O (J y c l) P (Wd.r p.M a (by rw[i];rfl)<|by rw[i];rfl) (p.C.r a (by rw[i];exact Ç _) (by rw[i];rfl) (by rw[i];rfl) (λq h=> ?_) (λq h=> ?_) (λr=>⟨λh=>(by cases h),λh=>(by cases h)⟩) (λh=>by rcases h with h|h|h<;>cases h) (λh=>by cases h) λ_ _=>p.C.S (λv q=>by rw[i]at q;cases q) λq=>by rw[i]at q;cases q) (rD<|by rw[i];simp only[fW.rk];omega) λh=>by cases h
 .rcases h with h|h|h|h<;>cases h;exact p.C.C j<|Á<|Á<|À i
 .rcases h with h|h|h<;>cases h;exact p.C.K j<|Á<|À i
end
section
variable{F:Ph}{E I:fU F}{S:Nat->Jd}{m K:Nat->gu}{z:Nat->iA}{o:Nat->e9}{d B:Array Ä}{u:ä}{C:Option (Nat×Nat)}
def ahX(y:Nat):E.G y<=1:=by
 unfold fU.G;split
 .cases E.N y with
  |none=>exact Ç _
  |some e=>cases e with
   |oP=>exact Ç _
   |gd p=>cases p<;>simp[me,ik.kQ,jF.kQ]
   |jr N=>simp[me,ik.kQ]
 .omega
def Yn(v:Int):kE F.C w (w.setCell (fM F.C)<|ë Ó v):=Á ⟨_,_,À U,U⟩
def Pr(H:gR F)(p:PI F n zX E S m z o d w qJ)(h:kE F.C w W){G:GS}(a:ic W F.C G):Wd F {E with b:=G,a:=E.a} W:= h.I H p.a p.C p.M nz (Ga:=G) (Gg:=E.a) ⟨λ_=>a,λe=>absurd U e⟩ λb c=>⟨λe=>absurd e.symm<|H.C.M b c,λ_=>rfl⟩
def Pt(H:gR F)(p:PI F n zX E S m z o d w qJ)(h:kE F.C w W)(c:i<d.size):fE {o i with w:=w} w W:=by have D:=h.r p.a H.C nz;exact⟨Ô D.r.symm,λb f=>D.jU b<|p.I.r.I _ c b f,λa e=>D.M _ c a e,λa e=>D.N _ c a e,λa _=>D.I a⟩
def zd{l:e9}{b:Ð}(r:fE {l with w:=W} jX b):fE l jX b:=⟨r.r,r.I,r.N,r.Y,r.S⟩
def PI.ahY(H:gR F)(p:PI F n zX E S m z o d w qJ)(D:d[0]?=Ã g)(iI:g.status=Å)(ht:m 0=.fA)(a:E.M=.iF j):kg F n zX E m d w qJ C 0:=by
 have O:=iP D;have Q:=p.sR D iI ht w<|p.I.r.r _ O;rw[a]at Q;let⟨hd,_,hA⟩:=Q;have hj:=p.C.C j<|Á<|Á<|Á a;have hj1:=p.C.K j<|Á<|Á a;have oO:E.r=j:=by unfold fU.r;rw[a];rfl
 have Gp:=H.C.gf;let⟨c,G⟩:=p.C.S (λv q=>by rw[a]at q;cases q) (λq=>by rw[a]at q;cases q);let⟨Gz,_⟩:=p.C.t c 0 G;have hcn:c<=F.n+1:=by rw[Gz];exact Gm ahX
 have I:=G▸p.M.C;let⟨hv,J⟩:=I.agM Z;have K:=hA (GS.cl c 0).st;rw[hv]at K J;obtain⟨b,V⟩:∃b,(GS.cl (c+1) 0).st=b:=⟨_,U⟩;rw[V]at K J;let⟨L,h1,k⟩:=K;have Du:=h1 w I.C I.I;have t:=Yn (F:=F) (w:=w) b;have xi:=Pt H p t O;have M:b=(c+1:Int)*fY:=by rw[<-V];simp only[GS.st,fY];omega
 obtain⟨x,v,N⟩:∃x:fW,(x=.rd j\/x=.lF j)/\fh F.P Ì (JM F E.I x) {o 0 with w:=w} L:=by
  by_cases l:c=0
  .have e:b=fY:=by rw[M,l];simp[fY]
   simp only[if_pos e]at k;exact⟨.rd j,À U,k⟩
  .have r:¬b=fY:=by simp only[fY]at M|-;omega
   have s:fY<b/\b<1000000*fY/\b%fY=0:=by simp only[fY]at M|-;omega
   simp only[if_neg r,if_pos s]at k;exact⟨.lF j,Á U,k⟩
 let⟨T,hT⟩:=jk<|N.j5 xi;have X:L.status=Å\/L.status=å:=by
  rcases v with rfl|rfl
  .exact lG (λl g h=>À h.2.1) N
  .exact lG (λl g ⟨c,h⟩=>À<|H.I _ _ _ _ h) N
 obtain⟨B,u,q1,q2,q3,q4,q5,q6,q7⟩:=p.Y H (kM x) D (À U) nz Du t (AS nz) U (λx l e=>(yZ H.C x l e).elim) hT X;have l:x.ad F.n=j+1:=by rcases v with rfl|rfl<;>rfl
 have Y:E.M.ad F.n=j:=by rw[a];rfl
 have tZ:x.sp F.n=j:=by rcases v with rfl|rfl<;>rfl
 have hxr:x.gC=0:=by rcases v with rfl|rfl<;>rfl
 have e:iX E x E.I:=⟨tZ.trans oO.symm,λ_ _=>rfl⟩;have sN:Ñ (F.n+1) (iz E x (.cl (c+1) 0) E.I).G=c+1:=by
  have h:=xe (f:=E.G) (f':=(iz E x (.cl (c+1) 0) E.I).G) (j:=j) (n:=F.n+1) Z (λi y=>by
   show(if i<x.ad F.n then me (E.N i)else 0)=if i<E.M.ad F.n then me (E.N i)else 0
   rw[l,Y];by_cases q:i<j
   .rw[if_pos q,if_pos Z]
   .rw[if_neg q,if_neg Z])
  have r:E.G j=0:=by unfold fU.G;rw[Y,if_neg Z]
  have s:(iz E x (.cl (c+1) 0) E.I).G j=1:=by show(if j<x.ad F.n then me (E.N j)else 0)=1;rw[l,if_pos Z,p.C.h j Z];rfl
  rw[r,s]at h;omega
 refine p.za H e q1 q2 q3 X q4 (λr s=>t.C p.C nz s) q5 q6 q7 (Wd.r (Pr H p t J) e (by rw[a];rcases v with rfl|rfl<;>rfl) (by rw[a];rcases v with rfl|rfl<;>rfl)) (p.C.iz e (by rw[a];exact ò _) (λr h=> ?_) (λr h=> ?_) (λr=>⟨λh=> ?_,λh=> ?_⟩) (λi s h=> ?_) (λs h=>by cases h) (λr s h=>by cases h) (λy i h=> ?_) (λh=> ?_) (λh=> ?_) λ_ _=>⟨_,rfl⟩) (rD (by rw[a];rcases v with rfl|rfl<;>simp only[fW.rk]<;>omega)) (λh=>by rcases v with rfl|rfl<;>cases h)
 .rcases v with rfl|rfl<;>rcases h with h|h|h|h<;>cases h<;>exact hj
 .rcases v with rfl|rfl<;>rcases h with h|h|h<;>cases h<;>exact hj1
 .rcases v with rfl|rfl<;>cases h
 .rcases v with rfl|rfl<;>cases h
 .cases h;exact⟨sN.symm,hxr.symm⟩
 .have:=p.C.N y i h;rw[G]at this;exact⟨λW q=>(by have:=(this.1 W q).2;cases this),λr hr=>(by let⟨_,_,s,h⟩:=this.2 r hr;cases h)⟩
 .rcases v with rfl|rfl<;>rcases h with h|h|h<;>cases h
 .rcases v with rfl|rfl<;>cases h
theorem PI.ahZ(H:gR F)(p:PI F n zX E S m z o d w qJ)(c:d[0]?=Ã g)(e:g.status=Å)(i:m 0=.fA)(b:E.M=.iJ 0):rB F n zX E m d w qJ:=by have f:=p.sR c e i;rw[b]at f;have a:iX E (.kX F.n) E.I:=mP (by rw[b];rfl);refine p.Kn H (T:=.fA) a c e (λh q=>f h<|(p.I.r.r _<|iP c).fe<|zd q) (by rw[b];simp[fW.mF]) (by rw[b];simp[fW.je]) (p.C.r a (by rw[b];exact ò _) (by rw[b];rfl) (by rw[b];rfl) (λq h=> ?_) (λq h=> ?_) (λr=>⟨λh=>(by cases h),λh=> ?_⟩) (λh=>by rcases h with h|h|h<;>cases h) (λh=>by cases h) λ_ _=>p.C.S (λv q=>by rw[b]at q;cases q) λq=>by rw[b]at q;cases q) (rD<|by rw[b];simp only[fW.rk];omega) (λh=>by cases h);all_goals grind
theorem PI.ah0(H:gR F)(p:PI F n zX E S m z o d w qJ)(c:d[0]?=Ã g)(e:g.status=Å)(i:m 0=.fA)(b:E.M=.kX 0):rB F n zX E m d w qJ:=by have f:=p.sR c e i;rw[b]at f;have a:iX E (.fy .iY) E.I:=mP (by rw[b];rfl);refine p.Kn H (T:=.fA) a c e (λh r=>f h<|(p.I.r.r _<|iP c).fe<|zd r) (by rw[b];rfl) (by rw[b];simp[fW.je]) (p.C.r a (by rw[b];simp[fW.je]) (by rw[b];rfl) (by rw[b];rfl) (λr h=> ?_) (λr h=> ?_) (λr=>⟨λh=>(by cases h),λh=>(by cases h)⟩) (λh=>by rcases h with h|h|h<;>cases h) (λh=>by cases h) λh _=>absurd rfl<|h _) (rD<|by rw[b];simp only[fW.rk,ju.rk];omega) (λh=>by cases h);all_goals grind
def Ba{v:ju}:∀j,(fW.fy v=.go j\/fW.fy v=.lF j\/fW.fy v=.rd j\/fW.fy v=.iF j)->j<=F.n:=λj h=>by rcases h with h|h|h|h<;>cases h
def Bb{v:ju}:∀j,(fW.fy v=.lF j\/fW.fy v=.rd j\/fW.fy v=.iF j)->1<=j:=λj h=>by rcases h with h|h|h<;>cases h
def Bc{v:ju}:∀r,(fW.fy v=.iJ r->r<=F.q)/\(fW.fy v=.kX r->r<=F.n):=λr=>⟨λh=>(by cases h),λh=>(by cases h)⟩
def PI.ah1(H:gR F)(p:PI F n zX E S m z o d w qJ)(c:d[0]?=Ã g)(e:g.status=Å)(i:m 0=.fA)(b:E.M=.fy .iY):rB F n zX E m d w qJ:=by have f:=p.sR c e i w<|p.I.r.r _<|iP c;rw[b]at f;let⟨k,q,j,l⟩:=f;have a:iX E (.fy (.mb (.fZ k))) E.I:=mP (by rw[b];rfl);exact p.Kn H (T:=.fA) a c e (λr h=>⟨j,JO l h⟩) (by rw[b];rfl) (by rw[b];rfl) (p.C.r a (by rw[b];exact Ç _) (by rw[b];rfl) (by rw[b];rfl) Ba Bb Bc (λh=>by rcases h with h|h|h<;>cases h) (λh=>by cases h) λh _=>absurd rfl<|h _) (rD<|by rw[b];simp only[fW.rk,ju.rk];omega) λh=>by cases h
theorem PI.ah2(H:gR F)(p:PI F n zX E S m z o d w qJ){v:SP}(k:d[0]?=Ã g)(iI:g.status=Å)(ht:m 0=.fA)(b:E.M=.fy (.mb v)):kg F n zX E m d w qJ C 0:=by
 have gS:=iP k;have hJ:=p.sR k iI ht w<|p.I.r.r _ gS;rw[b]at hJ;obtain⟨hd,X⟩:=hJ;have hG:=p.M.C;obtain⟨_,X⟩:=XW X hG;have Y:E.M.je F.n<=F.n:=by rw[b];exact Ç _
 rcases X with⟨q,g',es,j,i,P,h4⟩|⟨g',j,i,P⟩|⟨g',c,f,Q,tU,j,i⟩
 .have r:∀e∈es,tT F.toFx e:=by
   grind [yR,nz]
  obtain⟨s,V,l⟩:=P;obtain⟨B,u,t,D,I,K,L,M,N⟩:=p.Y (J:=JM F E.I<|.fy (.mb q)) (T:=.fA) H (kM<|.fy (.mb q)) k (À U) nz j (À U) r (by rcases i with rfl|rfl<;>rfl) (λx y e=>(yZ H.C x y e).elim) (λh a=>⟨hd,JO ⟨s,V,l⟩ a⟩)<|À (l _ _ V).1;have a:iX E (.fy (.mb q)) E.I:=mP (by rw[b];rfl);exact p.za H a t D I (À (l _ _ V).1) K (λ_ _=>rfl) L M N (Wd.r p.M a (by rw[b];rfl)<|by rw[b];rfl) (p.C.r a Y (by rw[b];rfl) (by rw[b];rfl) Ba Bb Bc (λh=>by rcases h with h|h|h<;>cases h) (λh=>by cases h) λh _=>absurd rfl<|h _) (ahU b ht h4) λh=>by cases h
 .obtain⟨T,hT⟩:=jk P;have O:=lG (λl g h=>À h.2.1) P;obtain⟨B,u,t,D,I,K,L,M,N⟩:=p.Y H (kM<|.fy .lj) k (À U) nz j (À U) (yR nz) U (λx y e=>(yZ H.C x y e).elim) hT O;have a:iX E (.fy .lj) E.I:=mP (by rw[b];rfl);refine p.za H a t D I O K (λ_ _=>rfl) L M N (Wd.r p.M a (by rw[b];rfl)<|by rw[b];rfl) (p.C.r a Y (by rw[b];rfl) (by rw[b];rfl) Ba Bb Bc (λ_=> ?_) (λh=>by cases h) λh _=>absurd rfl<|h _) (rD<|by rw[b];simp only[fW.rk,ju.rk];omega) (λh=>by cases h);cases V:E.b with
  |cl c f=>have:=i c f V;have:=(p.C.t c f V).1;omega
  |jE f=>exact(p.C.g f V).1
  |gX r s=>exact(p.C.u r s V).1
 .obtain⟨e1,V⟩:=p.C.t c f Q;rw[b]at V;have V:f=0:=V;subst V;obtain⟨hv,Gq⟩:=(Q▸hG).XD tU Z;rw[Q,hv]at j;rw[hv]at Gq;rw[Q]at i;have e:(GS.cl c 0).st%fY=0:=by simp only[GS.st,fY];omega
  simp only[e,if_true]at i;have W:=Yn (F:=F) (w:=w) (GS.cl c<|0+1).st;obtain⟨T,hT⟩:=jk<|i.j5<|Pt H p W gS;have O:=lG (λl g h=>À h.2.1) i;obtain⟨B,u,t,D,I,K,L,M,N⟩:=p.Y H (kM<|.fy .wr) k (À U) nz j W (AS nz) U (λx y e=>(yZ H.C x y e).elim) hT O;have a:iX E (.fy .wr) E.I:=mP (by rw[b];rfl);refine p.za H a t D I O K (λy l=>W.C p.C nz l) L M N (Wd.r (Pr H p W Gq) a (by rw[b];rfl)<|by rw[b];rfl) (p.C.iz a Y Ba Bb Bc (λl f h=> ?_) (λf h=>by cases h) (λr s h=>by cases h) (λy q h=> ?_) (λh=>by rcases h with h|h|h<;>cases h) (λh=>by cases h) λh _=>absurd rfl<|h _) (rD<|by rw[b];simp only[fW.rk,ju.rk];omega) λh=>by cases h
  .rw[(Pq (E:=E) (x:=.fy .wr) (G:=.cl c (0+1)) (dk:=E.I)<|by rw[b];rfl)];cases h;exact⟨e1,U⟩
  .have:=p.C.N y q h;grind
def PI.ah3(H:gR F)(p:PI F n zX E S m z o d w qJ)(c:d[0]?=Ã g)(j:g.status=Å)(k:m 0=.fA)(b:E.M=.fy .wr):kg F n zX E m d w qJ C 0:=by have f:=p.sR c j k w<|p.I.r.r _<|iP c;rw[b]at f;let⟨L,_,M,q,i⟩:=f;have a:iX E (.fy .kB) E.I:=mP (by rw[b];rfl);let⟨r,s,t⟩:=O7 H p nz (À U) (Á U) (À ⟨U,U⟩) λx h e=>yZ H.C x h e;let⟨T,x⟩:=jk i;have e:=lG (λl g h=>À h.2.1) i;obtain⟨B,y,l,u,v,D,G,I,J,K⟩:=p.AY H (kM<|.fy .kB) c (q w) fj fj r s x e;exact p.za H a v D G e I (λ_ _=>rfl) J (t y l u) K (Wd.r p.M a (by rw[b];rfl)<|by rw[b];rfl) (p.C.r a (by rw[b];exact Ç _) (by rw[b];rfl) (by rw[b];rfl) Ba Bb Bc (λh=>by rcases h with h|h|h<;>cases h) (λh=>by cases h) λh _=>absurd rfl<|h _) (rD<|by rw[b];simp only[fW.rk,ju.rk];omega) λh=>by cases h
def PI.ah4(H:gR F)(p:PI F n zX E S m z o d w qJ)(i:d[0]?=Ã g)(s:g.status=Å)(t:m 0=.fA)(f:E.M=.fy .gA):kg F n zX E m d w qJ C 0:=by have k:=p.sR i s t w<|p.I.r.r _<|iP i;rw[f]at k;let⟨P,_,v⟩:=k;let⟨a,b,y⟩:=p.C.O f;have q:=p.M.C;rw[y]at q;let⟨Q,D,j⟩:=v 0;simp only[if_true]at j;have c:iX E (.fy .lj) E.I:=mP (by rw[f];rfl);let⟨T,G⟩:=jk j;have r:=lG (λl g h=>À h.2.1) j;obtain⟨B,u,l,I,J,K,L,M,N⟩:=p.Y H (kM<|.fy .lj) i (À U) nz (D w q.C) (À U) (yR nz) U (λx O e=>(yZ H.C x O e).elim) G r;exact p.za H c l I J r K (λ_ _=>rfl) L M N (Wd.r p.M c (by rw[f];rfl)<|by rw[f];rfl) (p.C.r c (by rw[f];exact Ç _) (by rw[f];rfl) (by rw[f];rfl) Ba Bb Bc (λ_=>p.C.B<|À f) (λh=>by cases h) λh _=>absurd rfl<|h _) (rD<|by rw[f];simp only[fW.rk,ju.rk];omega) λh=>by cases h
theorem PI.ah5(H:gR F)(p:PI F n zX E S m z o d w qJ){g:Ä}(f:d[0]?=Ã g)(j:g.status=Å)(v:m 0=.fA)(b:E.M=.fy .kB):kg F n zX E m d w qJ C 0:=by
 have D:=iP f;have I:=p.sR f j v w<|p.I.r.r _ D;rw[b]at I;obtain⟨hd,_,J,O9,g',h1,K⟩:=I;have L:=p.M.C;by_cases M:E.b.sm=0
 .have s:=L.M;rw[M]at s;obtain⟨Q,l⟩:=p.h;rw[b]at Q l;obtain⟨B,t,c,q,O⟩:=OB f<|O9 w s;have hw:∀x,Ā F.P g {g with status:=Ü} w x=x:=by
   intro x;unfold Ā;grind
  have r:∀k,k≠0->B[k]?=d[k]?:=by grind
  have V:gN F.P F.S E.Y S m z o B w (qJ++#[]):=by
   rw[Ú];obtain⟨g0,W,T,f3,f4⟩:=p.I.C _ g f;have X:g=g0:=by
    rw[l]at T;cases T with
    |gk=>rfl
    |nX h J=>cases j
   subst X;refine⟨?_,λk y a=> ?_,λk a=>p.I.I k<|by rwa[<-c]⟩
   .rw[show(λi=>i<B.size)=(λi=>i<d.size) by rw[c]];exact p.I.r
   .by_cases e:k=0
    .subst e;rw[q]at a;obtain rfl:=È a;refine⟨g,W,?_,À j,Á v⟩;rw[l];exact .nX j J
    .rw[r k e]at a;exact p.I.C k y a
  refine⟨E,S,m,z,o,B,w,#[],t,c,λh=>h,.r p.N (c.trans p.b) V (by rw[c];exact p.a) p.M p.C (by rw[Ú];exact p.d) (λk y a i=> ?_) (by rw[Ú];exact p.f),O1 (λ_ _=>rfl) (by unfold Ph.N;omega) (by rw[Dt f,if_pos j]) (by rw[Dt q,if_neg fj]) λk a=>O8<|r k a⟩;by_cases e:k=0
  .grind
  .rw[r k e]at a;exact p.c k y a i
 .obtain⟨a,s,Q⟩:=X0 M;have k:=Q▸L;have Du:=h1 w _ (by simp only[GS.sm];omega) k.M k.N;have i:kE F.C w (w.setCell (gW F.C)<|ë ç<|(GS.gX a<|s+1).sm-1):=Á ⟨_,_,Á U,U⟩;obtain⟨T,hT⟩:=jk<|K.j5<|Pt H p i D;have V:=lG (λl g h=>À h.2.1) K;obtain⟨B,u,t,c,q,O,q5,q6,q7⟩:=p.Y H (kM<|.fy .gA) f (À U) nz Du i (Gj nz) (Gk _).2.2.2 (λx l e=>(yZ H.C x l e).elim) hT V;obtain⟨W,l,b3⟩:=p.C.u a (s+1) Q;rw[b]at l;have l:a+(s+1)=1:=l;have ha:a=0:=Z
  have hs0:s=0:=Z
  subst ha hs0;have e:iX E (.fy .gA) E.I:=mP (by rw[b];rfl);have X:=Pq (E:=E) (x:=.fy .gA) (G:=.gX 0 0) (dk:=E.I) (by rw[b];rfl);refine p.za H e t c q V O (λj' r=>i.C p.C nz r) q5 q6 q7 (Wd.r (Pr H p i k.kB) e (by rw[b];rfl)<|by rw[b];rfl) (p.C.iz e (by rw[b];exact Ç _) Ba Bb Bc (λc' r h=>by cases h) (λr h=>by cases h) (λr s h=> ?_) (λy r h=> ?_) (λ_=>by rwa[X]) (λ_=>⟨0,0,U⟩) λh _=>absurd U<|h _) (rD<|by rw[b];simp only[fW.rk,ju.rk];omega) λh=>by cases h
  .rw[X];cases h;exact⟨W,U,λh=>by omega⟩
  .have:=p.C.N y r h;grind
end
section
variable{S:Nat->Jd}{a:Nat->gu}{d:Nat->iA}{f:Nat->e9}{b:Array Ä}
def gN.ah6(q:gN P i X S a d f b w qJ)(r:b[k]?=Ã g)(h:yH n É g):∃z,d k=.sK n z:=by
 let⟨l,u,v,j,s,m,y,t⟩:=h;let⟨g0,_,o,p,_⟩:=q.C k g r;generalize d k=K at o;cases o with
 |gk=>rw[l]at p;rcases p with e|e<;>cases e
 |nX h e=>simp only[e]at j;cases j
 |tN e z h=>
  simp only[Ļ,Ķ,Prod.mk.injEq]at j;rw[<-j.1]at m;have:s=œ e z:=by simpa using m
  subst this;have:e=n:=by simpa[œ]using t
  subst this;exact⟨z,U⟩
 |nt e z h=>cases l
def gN.Yo(o:gN P i X S a d f b w qJ){x:Ä}(p:b[k]?=Ã x)(j:x.status=Ü)(q:d k=.sK n z):∃g,x=Ļ g #[œ n z] (.recv Ì):=by
 let⟨g,_,l,m,_⟩:=o.C k x p;rw[q]at l;cases l with
 |gk=>rw[j]at m;rcases m with e|e<;>cases e
 |tN _ _ h=>exact⟨g,U⟩
 |nt _ _ h=>cases j
def ah7{g0:Ä}:yH i É (Ļ g0 #[œ i z]<|.recv Ì):= ⟨U,_,_,U,œ i z,fj,U,by simp[œ]⟩
theorem ah8{g0:Ä}{r:Nat}(h:w.heap[i]?=Ã (.chan n q Ì j r yQ)):((Ļ g0 #[œ i z]<|.recv Ì).again w).status=Å:=by unfold ď Ļ;simp[œ,h]
theorem ah9(h:(g.again w).status=Ü):g.again w=g/\g.status=Ü:=by unfold ď at h|-;grind
end
section
variable{F:Ph}{E C:fU F}{S:Nat->Jd}{a D:Nat->gu}{d:Nat->iA}{f:Nat->e9}{b m:Array Ä}{u:ä}{o:Option (Nat×Nat)}
def PI.Yp(p:PI F j zX E S a d f b w qJ){x:Ä}(n:b[k]?=Ã x)(h:yH i É x):∃g,g+2<=E.r/\E.N (g+1)=Í/\k=F.L+1+g/\E.I g=i/\∃r,E.C g=.nu r:=by
 let⟨z,l⟩:=p.I.ah6 n h;have s:=iP n;by_cases o:k=0
 .subst o;rw[p.h.2]at l;revert l;cases E.M with
  |fy v=>cases v<;>intro h<;>cases h
  |_=>intro h;cases h
 by_cases q:k<F.L
 .rw[(p.l k Z q).2.2]at l;cases l
 have t:=p.b;obtain⟨y,rfl⟩:∃y,k=F.L+y:=⟨k-F.L,Z⟩;cases m:E.N y with
 |some e=>rw[(p.k y e Z m).2.1]at l;cases l
 |none=>
  cases y with
  |zero=>rw[ó,(p.m Z m).2]at l;cases l
  |succ g=>
   rw[show F.L+(g+1)=F.L+1+g by omega,(p.g g Z m).2]at l;cases e:E.C g with
   |nu r=>
    rw[e]at l;injection l with l _;exact⟨g,Z,m,Z,l,r,e⟩
   |fy r v=>rw[e]at l;cases v<;>cases l
   |jK r=>rw[e]at l;cases l
   |oN r=>rw[e]at l;cases l
theorem Yq(h:tP n j i k)(c:1<=n)(a:j=i%n):i=j+k*n:=by
 have e:i=j+i/n*n:=by rw[a,Nat.mul_comm];exact(Nat.mod_add_div i n).symm
 have b:k=i/n:=by
  refine Nat.le_antisymm (ă λq=> ?_)<|ă λq=> ?_
  .have:=(h<|i/n).1 q;omega
  .have d:=mt (h k).2 Z;have f:(k+1)*n<=i/n*n:=č n q;grind
 rwa[b]
theorem Yr(h:tP n j i k)(b:1<=n)(c:j=i%n):tP n j (i+1) (k+1):=by
 have e:=Yq h b c;intro a;constructor
 .intro q;have:a*n<=k*n:=č n Z;omega
 .intro q;refine ñ λd=> ?_;have:(k+1)*n<=a*n:=č n d;grind
theorem Ys(h:tP n j i k)(b:j<n)(c:j≠i%n):tP n j (i+1) k:=by intro a;rw[h a];grind [ē,ļ]
def PI.aia(H:gR F)(p:PI F j zX E S a d f b w qJ){r:Nat}(hi:b[0]?=Ã g)(iI:g.status=Å)(ht:a 0=.fA)(D:E.M=.iJ (r+1)):kg F j zX E a b w qJ o 0:=by
 have hn:=H.C.N;have Kg:=(p.C.L<|r+1).1 D;have oO:E.r=F.n+1:=by unfold fU.r;rw[D];rfl
 obtain⟨hs,hk⟩:=p.h;rw[D]at hs hk;obtain⟨Q,hQ⟩:∃Q,Q=F.q-(r+1):=⟨_,U⟩;obtain⟨c,hj⟩:∃c,c=Q%F.n:=⟨_,U⟩;have hs:S 0=AK F.P (0==0) (E.I c) (F.c Q) (Gb F E.I r):=by rw[hs,hj,hQ];rfl
 have vu:c<F.n:=by rw[hj];exact ż _ hn
 have V:c+2<=E.r:=Z
 have hY:E.Y (E.I c):=Á<|Á ⟨c,V,U⟩;obtain⟨X,s,hc,tW,Ko,yT,yU⟩:=p.M.jG c V;have pW:decide (c<E.M.je F.n)=É:=by rw[D];simp[fW.je]
 rw[pW]at hc;have Gt:E.M.mF F.q=Q:=by rw[D,hQ];rfl
 rw[Gt]at tW;have eQ:=Yq tW hn hj;have hsQ:s<=s*F.n:=â _ hn;have Yt:(fW.iJ r).mF F.q=Q+1:=by simp only[fW.mF];omega
 have Dx:=(p.I.r).N _ hY;have Yu:∀t,(fW.iJ r=.go t\/fW.iJ r=.lF t\/fW.iJ r=.rd t\/fW.iJ r=.iF t)->t<=F.n:=λt h=>by rcases h with h|h|h|h<;>cases h
 have Yv:∀t,(fW.iJ r=.lF t\/fW.iJ r=.rd t\/fW.iJ r=.iF t)->1<=t:=λt h=>by rcases h with h|h|h<;>cases h
 have Yw:∀K,(fW.iJ r=.iJ K->K<=F.q)/\(fW.iJ r=.kX K->K<=F.n):=λK=>⟨λh=>(by cases h;omega),λh=>(by cases h)⟩;have aM:=p.C.S (λv q=>by rw[D]at q;cases q) (λq=>by rw[D]at q;cases q);by_cases hp:∃(k:Nat) (x:Ä),b[k]?=Ã x/\yH (E.I c) É x
 .obtain⟨k,gj,Df,mG⟩:=hp;obtain⟨t,oQ,he,rfl,Bd,K,Be⟩:=p.Yp Df mG;have ej:=p.C.M _ _ oQ V Bd;subst ej;have hb:=mG.1;obtain⟨JS,JR⟩:=p.g t oQ he;rw[Be]at JS JR;have aib:S (F.L+1+t)=w7 F.P (F.L+1+t==0) (E.I t) F.z λx=>match x with
   |some v=>λl g=>v=F.c (t+K*F.n)->qH F.P É F.B (F.I<|F.r<|t+K*F.n) (F.e (E.I t)<|t+K*F.n) .iY l g
   |none=>AP F:=by rw[yS H.C t];exact JS
  have lr:F.L+1+t≠0:=Z
  have OL:a (F.L+1+t)=.fA:=by obtain⟨g0,_,i,e,h4⟩:=p.I.C _ gj Df;refine h4.resolve_left λq=> ?_;subst q;rw[hb]at e;rcases e with q|q<;>cases q
  have Pe:X=#[]:=by
   rcases p.c _ gj Df hb with⟨h1,_⟩|⟨C,_,_,h2,⟨G,W,_⟩|⟨G,cap,i,e,W,h4⟩⟩
   .exact absurd h1 lr
   .have:C=t:=Z
    subst this;rw[Be]at W;cases W
   .have:C=t:=Z
    subst this;rw[hc]at h4;injection h4 with h4;injection h4
  subst Pe;rw[Be]at hc Ko yT;simp only[gO.iN]at hc Ko yT;have hsr:s=K:=by simp at yT;omega
  subst hsr;obtain⟨m,u,T,Tj,g',gj',q1,q2,q3,q4,q5,q6,q7,q8,q9⟩:=p.I.agI hi hk ht hs hY hc lr Df hb JR OL aib (kW F (E.I t)<|.fy s .iY) (λI O M e i=>by obtain⟨j3,a1,_,a3,y,_⟩:=p.Yp e i;have:=p.C.M _ _ a1 V y;omega);have Yx:=q9.kO (J:=JW F (E.I t) t<|.fy s .iY) (λl g h=>by rw[fG _ _ lr,gD]at h;exact h<|by rw[eQ]);have e10:fx (fx (fx S (F.L+1+t) ((match(Ã (F.c Q):Option ã)with
   |some v=>λl g=>v=F.c (t+s*F.n)->qH F.P É F.B (F.I<|F.r<|t+s*F.n) (F.e (E.I t)<|t+s*F.n) .iY l g
   |none=>AP F))) 0 (Gb F E.I r)) (F.L+1+t) (JW F (E.I t) t (.fy s .iY))=fx (fx S (F.L+1+t) (JW F (E.I t) t (.fy s .iY))) 0 (JM F E.I (.iJ r)):=by
   funext k;by_cases v:k=F.L+1+t
   .subst v;rw[gD,fG _ _ lr,gD]
   .by_cases k2:k=0
    .subst k2;rw[fG _ _<|ÿ lr,gD,gD];rfl
    .rw[fG _ _ v,fG _ _ k2,fG _ _ v,fG _ _ k2,fG _ _ v]
  rw[e10]at Yx;have Pw:=p.C.G (x:=.fy s .iY) V he (λk=>by rw[Be,O6 U];rfl) (λG h=>by rcases h with⟨_,h⟩|h|h<;>cases h;exact Z) (λG h=>by rcases h with h|h|h<;>cases h) (λG h=>by cases h) (λG h=>by cases h);have l:iX (gP E t<|.fy s .iY) (.iJ r) E.I:=⟨by show _=E.M.sp F.n;rw[D];rfl,λ_ _=>rfl⟩;have e:(iz (gP E t<|.fy s .iY) (.iJ r) E.b E.I).r=E.r:=l.r;obtain⟨z1,z2,z3,z4,z5⟩:=p.M.G H p.a p.C V;refine⟨iz (gP E t<|.fy s .iY) (.iJ r) E.b E.I,_,_,_,_,m,_,u,q1,q2,(λh=>by have h:=h;cases h),.r ((p.N.N H.C V he).iz H.C l) (by rw[e];exact q2.trans p.b) (by rw[A9 l];exact Yx) ?_ ⟨z4,z5,λC xh=> ?_,z1,z2,λC xh G AH h1=> ?_⟩ (Pw.r l (by show E.M.je F.n<=_;rw[D];exact ò _) (by show _=E.M.ad F.n;rw[D];rfl) (by show _=E.M.gC;rw[D];rfl) Yu Yv Yw (λh=>by rcases h with h|h|h<;>cases h) (λh=>by cases h) λ_ _=>aM) (by rw[e];exact Ki p.d q8) (λk y M lk=> ?_) λC G a1 a2 a3=> ?_,?_⟩
  .rw[q2];exact(((p.a.r<|by rw[Be];rfl).G l).Dv<|Ô Gs.symm)
  .have ze:C+2<=E.r:=Z
   show∃X I,(w.setChan (E.I t) _ _ _ _ _ _).heap[E.I C]?=Ã (.chan F.q X (decide<|C<(fW.iJ r).je F.n) I ((gP E t<|.fy s .iY).C C).iN É)/\tP F.n C ((fW.iJ r).mF F.q) I/\((gP E t<|.fy s .iY).C C).iN<=I/\X.size=I-((gP E t<|.fy s .iY).C C).iN/\∀i,i<I-((gP E t<|.fy s .iY).C C).iN->X[i]?=Ã (F.c<|C+(((gP E t<|.fy s .iY).C C).iN+i)*F.n);rw[Yt];by_cases O:C=t
   .subst O;rw[jN];refine⟨#[],s+1,by rw[Kh Dx];rfl,Yr tW hn hj,Ç _,by simp[gO.iN],λi lz=> ?_⟩;have hi2:i<s+1-(s+1):=lz;omega
   .rw[iO _ O,pZ λq=>O<|p.C.M _ _ ze V q];obtain⟨Pu,I,y1,y2,y3⟩:=p.M.jG C ze;rw[Gt]at y2;refine⟨Pu,I,?_,Ys y2 Z Z,y3⟩;rw[y1,D];rfl
  .have ze:C+2<=E.r:=Z
   have A7:G<((gP E t<|.fy s .iY).C C).kD:=h1;by_cases O:C=t
   .subst O;rw[jN]at A7;exact z3 C ze G AH<|by rw[Be];exact A7
   .rw[iO _ O]at A7;exact z3 C ze G AH A7
  .by_cases v:k=0
   .subst v;rw[q3]at M;obtain rfl:=È M;rw[q4]at lk;cases lk
   .by_cases k2:k=F.L+1+t
    .subst k2;rw[q5]at M;obtain rfl:=È M;rw[q6]at lk;cases lk
    .rw[q7 k v k2]at M;rcases p.c k y M lk with⟨h1,_⟩|⟨C,xh,yY,h2,W|⟨r1,cap,s1,K,W,h4⟩⟩
     .exact absurd h1 v
     .exact Á ⟨C,Z,yY,h2,À (by show∃G,(gP E t _).C C=_/\_;rw[iO _ Z];exact W)⟩
     .have O:C≠t:=Z
      exact Á ⟨C,Z,yY,h2,Á ⟨r1,cap,s1,K,by show(gP E t _).C C=_;rw[iO _ O];exact W,by show(w.setChan (E.I t) _ _ _ _ _ _).heap[E.I C]?=_;rw[pZ λq=>O<|p.C.M _ _ xh V q];exact h4⟩⟩
  .have AX:(gP E t<|.fy s .iY).C C=.jK G:=a2;rw[iO _ (λe=>by subst e;rw[jN]at AX;cases AX)]at AX;exact(p.f C G Z AX a3).app u
  .refine À ⟨0,by unfold Ph.N;omega,À ?_,λk tY zf=> ?_⟩
   .show((iz (gP E t<|.fy s .iY) (.iJ r) E.b E.I).iT _ 0).1<(E.iT a 0).1;rw[Dk,Dk,D];show(fW.iJ r).rk F<(fW.iJ<|r+1).rk F;simp only[fW.rk];omega
   .show(iz (gP E t<|.fy s .iY) (.iJ r) E.b E.I).iT _ k=E.iT a k\/yN ((iz (gP E t<|.fy s .iY) (.iJ r) E.b E.I).iT _ k) (E.iT a k);by_cases k2:k=F.L+1+t
    .subst k2;refine Á<|À ?_;rw[tS H.C (E:=iz (gP E t<|.fy s .iY) (.iJ r) E.b E.I) (show E.N (t+1)=Í from he),tS H.C he];show((gP E t<|.fy s .iY).C t).rk F<(E.C t).rk F;rw[jN,Be];simp only[gO.rk,ju.rk];have hm:F.n+3000<=(F.n+3000)*(F.q+3-s):=â _ Z;omega
    .refine À (yO (λh=>absurd h zf) (λ_ _=>rfl) (λ_=>rfl) (λ_ _=>rfl) (λh1 _=> ?_)<|by rw[fG _ _ zf,fG _ _ k2]);show((gP E t<|.fy s .iY).C _).rk F=_;rw[iO _ Z]
 .obtain⟨m,u,T,g',q1,q2,q3,q4,q5,q6,q7⟩:=p.I.iJ hi hk ht hs hY hc Z λk x hkx mG=>hp ⟨k,x,hkx,mG⟩;have e0:d=fx d 0 (kM<|.iJ r):=by
   funext k;by_cases v:k=0
   .subst v;rw[gD,hk];rfl
   .rw[fG _ _ v]
  rw[e0]at q7;have l:iX E (.iJ r) E.I:=mP (by rw[D];rfl);have e:(iz E (.iJ r) E.b E.I).r=E.r:=l.r;obtain⟨z1,z2,z3,z4,z5⟩:=p.M.G H p.a p.C V;refine⟨iz E (.iJ r) E.b E.I,_,_,_,_,m,_,u,q1,q2,(λh=>by have h:=h;cases h),.r (p.N.iz H.C l) (by rw[e];exact q2.trans p.b) (by rw[A9 l];exact q7) ?_ ⟨z4,z5,λC xh=> ?_,z1,z2,λC xh=>z3 C Z⟩ (p.C.r l (by rw[D];exact ò _) (by rw[D];rfl) (by rw[D];rfl) Yu Yv Yw (λh=>by rcases h with h|h|h<;>cases h) (λh=>by cases h) λ_ _=>aM) (by rw[e];exact Ki p.d q6) (λk y M lk=> ?_) λC G a1 a2 a3=>(p.f C G Z a2 a3).app u,rD<|by rw[D];simp only[fW.rk];omega⟩
  .rw[q2];exact((p.a.G l).Dv<|Ô Gs.symm)
  .have ze:C+2<=E.r:=Z
   show∃X I,(w.setChan (E.I c) _ _ _ _ _ _).heap[E.I C]?=Ã (.chan F.q X (decide<|C<(fW.iJ r).je F.n) I (E.C C).iN É)/\tP F.n C ((fW.iJ r).mF F.q) I/\(E.C C).iN<=I/\X.size=I-(E.C C).iN/\∀i,i<I-(E.C C).iN->X[i]?=Ã (F.c<|C+((E.C C).iN+i)*F.n);rw[Yt];by_cases O:C=c
   .subst O;refine⟨X.push<|F.c Q,s+1,by rw[Kh Dx];rfl,Yr tW hn hj,Z,by rw[Array.size_push];omega,λi lz=> ?_⟩;rw[Array.getElem?_push];by_cases G:i=X.size
    .rw[if_pos G,eQ,show(E.C C).iN+i=s by omega]
    .rw[if_neg G];exact yU i Z
   .rw[pZ λq=>O<|p.C.M _ _ ze V q];obtain⟨Pu,I,y1,y2,y3⟩:=p.M.jG C ze;rw[Gt]at y2;refine⟨Pu,I,?_,Ys y2 Z Z,y3⟩;rw[y1,D];rfl
  .by_cases v:k=0
   .subst v;rw[q3]at M;obtain rfl:=È M;rw[q4]at lk;cases lk
   .rw[q5 k v]at M;rcases p.c k y M lk with⟨h1,_⟩|⟨C,xh,yY,h2,W|⟨r1,cap,s1,K,W,h4⟩⟩
    .exact absurd h1 v
    .exact Á ⟨C,Z,yY,h2,À W⟩
    .have O:C≠c:=λe=>by
      subst e;have G:=(p.g C xh yY).2;rw[W,<-h2]at G;obtain⟨g0,i⟩:=p.I.Yo M lk G;exact hp ⟨k,y,M,by rw[i];exact ah7⟩
     exact Á ⟨C,Z,yY,h2,Á ⟨r1,cap,s1,K,W,by show(w.setChan (E.I c) _ _ _ _ _ _).heap[E.I C]?=_;rw[pZ λq=>O<|p.C.M _ _ xh V q];exact h4⟩⟩
end
section
variable{F:Ph}{E B:fU F}{S:Nat->Jd}{m D:Nat->gu}{o:Nat->iA}{G:Nat->e9}{c d:Array Ä}{u:ä}{sl:Option (Nat×Nat)}
theorem PI.aic(H:gR F)(p:PI F n zX E S m o G c w qJ)(hi:c[0]?=Ã g)(ht:m 0=.fA)(l:E.M=.kX (J+1)):kg F n zX E m c w qJ sl 0:=by
 have C:=p.I.r;have hL:=H.C.r;have OM:=(p.C.L<|J+1).2 l;have oO:E.r=F.n+1:=by unfold fU.r;rw[l];rfl
 obtain⟨L,Q⟩:=p.h;rw[l]at L Q;obtain⟨j,hj⟩:∃j,j=F.n-(J+1):=⟨_,U⟩;have L:S 0=JN F.P (0==0) (E.I j) (AQ F E.I J):=by rw[L,hj];rfl
 have z:j+2<=E.r:=Z
 have X:E.Y (E.I j):=Á<|Á ⟨j,z,U⟩;obtain⟨M,s,hc,tW,Ko,yT,yU⟩:=p.M.jG j z;have pW:decide (j<E.M.je F.n)=É:=by rw[l];simp only[fW.je];exact decide_eq_false Z
 rw[pW]at hc;have Dx:=C.N _ X;have AV:(w.setChan (E.I j) F.q M Ì s (E.C j).iN É).heap[E.I j]?=Ã (.chan F.q M Ì s (E.C j).iN É):=Kh Dx;have aM:=p.C.S (λv q=>by rw[l]at q;cases q) (λq=>by rw[l]at q;cases q);obtain⟨d,u,T,g',q1,V,q3,q4,q5,q6,q7,q8,q9⟩:=p.I.kX hi Q ht L X (p.C.o j z).2.2 hc;have e0:o=fx o 0 (kM<|.kX J):=by
  funext k;by_cases B:k=0
  .subst B;rw[gD,Q];rfl
  .rw[fG _ _ B]
 rw[e0]at q9;have v:iX E (.kX J) E.I:=mP (by rw[l];rfl);have e:(iz E (.kX J) E.b E.I).r=E.r:=v.r;obtain⟨z1,z2,z3,z4,z5⟩:=p.M.G H p.a p.C z;have Ds:=p.d.C ⟨λD I a _=>q6 D I,À U,λD I a x ha hl _=> ?_,λD I a y ha _ hl=> ?_,λD I b _=>q8 D I _,λx _ _=>⟨λJ hr=>hr.appOther q6 Z,λe=>by omega⟩⟩;refine⟨iz E (.kX J) E.b E.I,_,_,_,_,d,_,u,q1,V,(λh=>by have h:=h;cases h),.r (p.N.iz H.C v) (by rw[e];exact V.trans p.b) (by rwa[A9 v]) ?_ ⟨z4,z5,λf N=> ?_,z1,z2,λf N=>z3 f Z⟩ (p.C.r v (by rw[l];simp only[fW.je];omega) (by rw[l];rfl) (by rw[l];rfl) (λi h=> ?_) (λi h=> ?_) (λr'=>⟨λh=>(by cases h),λh=> ?_⟩) (λh=>by rcases h with h|h|h<;>cases h) (λh=>by cases h) λ_ _=>aM) (by rwa[e]) (λk y tO lk=> ?_) λf i W t K=>(p.f f i Z t K).app u,rD<|by rw[l];simp only[fW.rk];omega⟩
 .rw[V];exact((p.a.C<|Ô Gs.symm).G v)
 .have W:f+2<=E.r:=Z
  show∃K t,(w.setChan (E.I j) F.q M Ì s (E.C j).iN É).heap[E.I f]?=Ã (.chan F.q K (decide<|f<(fW.kX J).je F.n) t (E.C f).iN É)/\tP F.n f ((fW.kX J).mF F.q) t/\(E.C f).iN<=t/\K.size=t-(E.C f).iN/\∀i,i<t-(E.C f).iN->K[i]?=Ã (F.c<|f+((E.C f).iN+i)*F.n);have aie:(fW.kX J).mF F.q=E.M.mF F.q:=by rw[l];rfl
  rw[aie];by_cases O:f=j
  .subst O;refine⟨M,s,?_,tW,Ko,yT,yU⟩;rw[AV,show decide (f<(fW.kX J).je F.n)=Ì from decide_eq_true (by simp only[fW.je];omega)]
  .rw[pZ λq=>O<|p.C.M _ _ W z q];obtain⟨K,t,y1,y2⟩:=p.M.jG f W;refine⟨K,t,?_,y2⟩;rw[y1,l];have:decide (f<(fW.kX<|J+1).je F.n)=decide (f<(fW.kX J).je F.n):=by
    apply decide_eq_decide.2;simp only[fW.je];omega
   rw[this]
 .grind
 .grind
 .cases h;omega
 .by_cases B:k=0
  .grind
  .obtain⟨h,t⟩:∃h,c[k]?=Ã h:=by
    grind
   rw[q5 k h B t]at tO;obtain rfl:=È tO;obtain⟨_,Pv⟩:=ah9 lk;rcases p.c k h t Pv with⟨h1,_⟩|⟨f,N,K,W,i|⟨r1,cap,s1,r',i,h4⟩⟩
   .exact absurd h1 B
   .exact Á ⟨f,Z,K,W,À i⟩
   .have O:f≠j:=λe=>by
     subst e;have Kp:=(p.g f N K).2;rw[i,<-W]at Kp;obtain⟨g0,xj⟩:=p.I.Yo t Pv Kp;grind [ah8]
    exact Á ⟨f,Z,K,W,Á ⟨r1,cap,s1,r',i,by show(w.setChan (E.I j) _ _ _ _ _ _).heap[E.I f]?=_;rwa[pZ λq=>O<|p.C.M _ _ N z q]⟩⟩
 .grind
 .grind
def Kq(F:Ph)(zX:π->Prop)(qJ:ä):Prop:=
 (∀p a,touchAt qJ p=Ã a->a.loc.isMemory=Ì->Λ qJ 0 p\/((zX a.loc\/∃x:Č,a.loc=ú x/\x.block=F.C)/\a.kind=.atomic))/\qJ.HandedOver
def Px{f:Nat->Nat}:∀{n:Nat},Ñ n f=0->∀i,i<n->f i=0
 |n+1,h,i,hi=>by
  simp only[Ñ]at h;rcases ģ i n with q|q
  .exact Px Z i q
  .have:i=n:=Z
   subst this;omega
theorem PI.aif(H:gR F)(p:PI F n zX E S m o G c w qJ)(r:c[0]?=Ã g)(K:g.status=Å)(L:m 0=.fA)(f:E.M=.fy .lj): ∃(B:fU F) (b:Nat->Jd) (D:Nat->gu) (j:Nat->iA) (h:Nat->e9) (d:Array Ä) (W:Ð) (u:ä),Ŏ F.P (ð c w sl) 0=(ğ<|ð d W sl,u)/\d.size=c.size/\PI F n zX B b D j h d W (qJ++u)/\B.M=.gd/\Kq F zX (qJ++u):=by
 have v:=iP r;have C:=p.sR r K L w<|p.I.r.r _ v;rw[f]at C;let⟨M,_,g',s,q⟩:=C;have O:=(p.I.r.f _ v).trans M;have t:∀y:Ă,y.act=ė (ő<|fM F.C)->y.act.touch?=Í:=λy i=>by rw[i];rfl
 have oO:E.r=F.n+1:=by unfold fU.r;rw[f];rfl
 have a:iX E .gd E.I:=mP (by rw[f];rfl);have e:(iz E .gd E.b E.I).r=E.r:=a.r;let⟨T,Q⟩:=jk q;have V:=lG (λl g h=>À<|H.M _ _ _ h) q;obtain⟨d,y,X,I,Y,J,q3,q4,q5,q7⟩:=p.AY H (kM .gd) r (s w) fj fj (λy i=>⟨λz l=>(by rw[t y i]at l;cases l),by rw[i];exact p.I.r.N _<|À nz⟩) (λy _ i=>AJ p.I.r.l λk j=>by rw[xg j];exact t y i) Q V;have Ds:=p.d.C (yM (λk j=>by rw[xg j];exact t y I) λk j b _ e=>by grind);have l:=p.C.B<|Á<|À f;refine⟨iz E .gd E.b E.I,_,_,_,_,d,w,_,Y,J,.r (p.N.iz H.C a) (by rw[e];exact J.trans p.b) (by rwa[A9 a]) (q7.G a) (Wd.r p.M a (by rw[f];rfl)<|by rw[f];rfl) (p.C.r a (by rw[f];exact Ç _) (by rw[f];rfl) (by rw[f];rfl) (λb h=> ?_) (λb h=> ?_) (λb=>⟨λh=>(by cases h),λh=>(by cases h)⟩) (λ_=>l) (λh=>by cases h) λ_ h=>absurd rfl h) (by rwa[e]) ?_ λb j N h k=>(p.f b j Z h k).app _,U,p.d.kX X I O λx tZ=> ?_⟩
 .grind
 .grind
 .intro k z b hb;by_cases N:k=0
  .grind
  .rw[q4 k N]at b;obtain⟨z',GB,rfl⟩:=Ù.1 b;let⟨_,hzb⟩:=Ge hb;rcases p.c k z' GB hzb with⟨s,_⟩|⟨j,hj,h,q,h3⟩
   .exact absurd s N
   .exact Á ⟨j,Z,h,q,h3⟩
 .have b:=Px l x Z;have k:E.M.ad F.n=F.n+1:=by rw[f];rfl
  unfold fU.G at b;rw[k,if_pos Z]at b;cases h:E.N x with
  |none=>rw[h]at b;cases b
  |some j=>
   rw[h]at b;refine⟨j,h,?_⟩;cases j with
   |oP=>cases b
   |gd N=>cases N with
    |jD=>cases b
    |_=>trivial
   |jr N=>trivial
end
section
variable{D:Nat->Prop}{S:Nat->Jd}{G:Nat->gu}{I:Nat->iA}{o:Nat->e9}{f:Array Ä}{sl:Option (Nat×Nat)}
def Yy{y:Ă}(b:wQ.act=ς k)(c:y.act=į):xb #[wQ,y]:=by
 intro d a;simp at a;rcases a with rfl|rfl
 .rw[b];exact⟨U,fj⟩
 .rw[c];exact⟨U,fj⟩
theorem iR.F8(h:iR i (λf=>f<n) X o w qJ){v:e9}{y:Ă}(F:0<n)(P:wQ.g=0/\wQ.act=ς n)(Q:y.g=n/\y.act=į)(py:κ qJ 0=0)(Bd:κ qJ n=0)(V:∀b,¬v.O b)(W:∀b,v.I b->(o 0).I b) (J:∀a,v.r a->X a.block/\(∀k,k<n->¬(o k).C a)/\qE qJ 0 (ú a)) (H:∀a,v.N a->(o 0).N a) (lK:∀a,v.K a->(o 0).K a) (lKO:∀k,k<n->∀a,(o k).K a->¬v.r a) (ld:v.d=0) (lw:v.w=w) (Y:∀b,X b->D b) (Yz:∀b,D b->X b\/(b<w.heap.size/\∀f,f<n->¬(o f).M b)):iR i (λf=>f<n+1) D (gq o n v) w (qJ++#[wQ,y]):=by
 have L:=Yy P.2 Q.2;have B:∀f,f<n+1->f=n\/f<n:=λf t=>by omega
 have G:gq o n v n=v:=gU _ _ _;have E:∀f,f<n->gq o n v f=o f:=λf t=>gF o _ Z;have N:∀b,v.M b->(o 0).I b:=λb s=>s.elim (λq=>absurd q (V b)) (W b);have aii:=λf t b s Ns=>(Yz b Ns).elim (h.I f t b s) (λq=>q.2 f t s);refine⟨λf j t S T b s=> ?_,λf j t S T a r=> ?_,λf t b s=> ?_,λf t a r=> ?_,λf t b s=> ?_,λf t a r=> ?_,λf t b s=> ?_,λb s=> ?_,λf t=> ?_,λf t=> ?_,λf t=> ?_,AJ h.l λu z=>(L u z).1,λu z=> ?_,λp a c r hl hk=> ?_,λf t a r=> ?_⟩
 .rcases B f t with rfl|m
  .grind
  .rw[E f m]at s;rcases B j S with rfl|I
   .rw[G];intro q;by_cases e:f=0
    .subst e;exact h.m _ m b s (N b q)
    .exact h.o f 0 m F e b s (Á (N b q))
   .rw[E j I];exact h.o f j m I T b s
 .rcases B f t with rfl|m
  .grind
  .rw[E f m]at r;rcases B j S with rfl|I
   .rw[G];rintro(q|q)
    .exact(J a q).2.1 f m (À r)
    .by_cases e:f=0
     .subst e;exact h.g _ m a r (H a q)
     .exact h.h f 0 m F e a r (Á (H a q))
   .rw[E j I];exact h.h f j m I T a r
 .rcases B f t with rfl|m
  .grind
  .rw[E f m]at s|-;exact h.m f m b s
 .rcases B f t with rfl|m
  .rw[G]at r|-;exact λq=>(J a r).2.1 0 F (Á (H a q))
  .rw[E f m]at r|-;exact h.g f m a r
 .rcases B f t with rfl|m
  .rw[G]at s;exact aii 0 F b (Á (N b s))
  .grind
 .rcases B f t with rfl|m
  .rw[G]at r;exact Y _ (r.elim (λq=>(J a q).1) (λq=>h.e 0 F a (Á (H a q))))
  .rw[E f m]at r;exact Y _ (h.e f m a r)
 .rcases B f t with rfl|m
  .rw[G]at s;exact h.fw 0 F b (Á (N b s))
  .rw[E f m]at s;exact h.fw f m b s
 .exact(Yz b s).elim (h.N b) (λq=>q.1)
 .rcases B f t with rfl|m
  .rw[G,lw];exact fE.fV _ _
  .rw[E f m];exact h.r f m
 .rcases B f t with rfl|m
  .rw[G];have e:=λl=>agR P Q py Bd (l:=l);exact⟨λa r=>absurd r (V _),λa r=>(e _).2 ((h.S 0 F).rd a (W _ r)),λa r=>(e _).1 (J a r).2.2,λa r=>(e _).2 ((h.S 0 F).r a (H _ r))⟩
  .rw[E f m];have e:∀u∈#[wQ,y],∀b,u.act.touch?=Ã b->False:=λu z b s=>by rw[(L u z).1]at s;cases s
   exact⟨λa r=>((h.S f m).fl a r).C λu z b s _=>(e u z b s).elim,λa r=>((h.S f m).rd a r).r λu z b s _ _=>(e u z b s).elim,λa r=>((h.S f m).C a r).C λu z b s _=>(e u z b s).elim,λa r=>((h.S f m).r a r).r λu z b s _ _=>(e u z b s).elim⟩
 .rw[JP L];rcases B f t with rfl|m
  .grind
  .rw[E f m];exact h.f f m
 .refine(Array.mem_append.1 z).elim (h.q u) λq=> ?_;simp at q;rcases q with rfl|rfl
  .rw[P.2];trivial
  .rw[Q.2];trivial
 .rcases mR r with⟨_,e⟩|⟨_,u,e,q,_⟩
  .exact h.s p a c e hl hk
  .rw[(L u e).1]at q;cases q
 .obtain⟨e,m,q⟩:∃e,e<n/\(o e).K a:=by
   grind
  let⟨I,z2⟩:=h.n e m a q;grind
theorem gN.F8(p:gN P i X S G I o f w qJ){c b:Ä}{J q:Jd}{T r:gu}{K Kc:iA}{m n:e9}(s:f[0]?=Ã g)(L:è P Ì g w=.spawn c b w #[]) (V:∀x y:Ă,(x.g=0/\x.act=ς f.size)->(y.g=f.size/\y.act=į)->iR i (λa=>a<f.size+1) D (gq (gq o 0 m) f.size n) w (qJ++#[x,y])) (hF:lh P Ì J T m c) (M:c.status=Å) (N:lh P É q r n b) (O:b.status=Å): ∃d x y,(x.g=0/\x.act=ς f.size)/\(y.g=f.size/\y.act=į)/\Ŏ P (ð f w sl) 0=(ğ<|ð d w sl,#[x,y])/\d.size=f.size+1/\d[0]?=Ã c/\d[f.size]?=Ã b/\(∀k,k≠0->k<f.size->d[k]?=f[k]?)/\ gN P i D (fx (fx S 0 J) f.size q) (fx (fx G 0 T) f.size r) (fx (fx I 0 K) f.size Kc) (gq (gq o 0 m) f.size n) d w (qJ++#[x,y]):=by
 have W:=(Õ.1 s).1;have t:=runT_crowd_spawn (sl:=sl) s L;obtain⟨x,u⟩:∃x:Ă,x={g:=0,fn:=g.frame.fn,pos:=g.frame.place,act:=ς f.size}:=⟨_,U⟩;obtain⟨y,v⟩:∃y:Ă,y={g:=f.size,fn:=b.frame.fn,pos:=g.frame.place,act:=į}:=⟨_,U⟩;have e:((Û 0 g.frame.fn g.frame.place #[]).push {g:=0,fn:=g.frame.fn,pos:=g.frame.place,act:=ς f.size}).push {g:=f.size,fn:=b.frame.fn,pos:=g.frame.place,act:=į}=#[x,y]:=by rw[u,v];simp[Û]
 rw[e]at t;have B:x.g=0/\x.act=ς f.size:=by rw[u];exact⟨U,U⟩
 have C:y.g=f.size/\y.act=į:=by rw[v];exact⟨U,U⟩
 have E:((f.setIfInBounds 0 c).push b)[0]?=Ã c:=by grind
 have F:((f.setIfInBounds 0 c).push b)[f.size]?=Ã b:=by grind
 have H:∀k,k≠0->k<f.size->((f.setIfInBounds 0 c).push b)[k]?=f[k]?:=λk Y h2=>by grind
 refine⟨_,x,y,B,C,t,fj,E,F,H,?_,λk z d=> ?_,λj Q=> ?_⟩
 .simp_all
 .have Gr:k<f.size+1:=by have:=(Õ.1 d).1;simpa using this
  by_cases l:k=f.size
  .subst l;rw[F]at d;obtain rfl:=È d;rw[gD,gD,gD,gU,show(f.size==0)=É from beq_eq_false_iff_ne.2 Z];exact⟨b,N,.gk,À O,À U⟩
  .rw[fG _ _ l,fG _ _ l,fG _ _ l,gF _ _ l];by_cases h:k=0
   .subst h;rw[E]at d;obtain rfl:=È d;rw[gD,gD,gD,gU];exact⟨c,hF,.gk,À M,À U⟩
   .rw[H k h Z]at d;rw[fG _ _ h,fG _ _ h,fG _ _ h,gF _ _ h];exact p.C k z d
 .rw[JP<|Yy B.2 C.2];exact p.I j<|by simp at Q;omega
end
section
variable{F:Ph}{E N:fU F}{S:Nat->Jd}{G Q:Nat->gu}{I:Nat->iA}{o:Nat->e9}{f B:Array Ä}{u:ä}{sl:Option (Nat×Nat)}
theorem aij(ok:F.Ok)(h:i≠n)(c:lW F i a)(d:lW F n a):False:=by
 have q:∀{i n:Nat},i=0->n≠0->lW F i a->lW F n a->False:=by
  intro i n g j c d;unfold lW at c d;rw[if_pos g]at c;rw[if_neg j]at d;let⟨k,o,m,e⟩:=c;let⟨b,l,p,f⟩:=d;rcases e with e|e
  .rw[f]at e;have:F.Y=F.I k:=by injection e
   exact ok.C<|Á ⟨k,m,this⟩
  .rw[f]at e;exact ok.OW b k l o m<|by injection e
 by_cases g:i=0
 .grind
 .by_cases j:n=0
  .grind
  .unfold lW at c d;rw[if_neg g]at c;rw[if_neg j]at d;let⟨b,l,p,f⟩:=c;let⟨m,k,o,e⟩:=d;rw[f]at e;have:=ok.a _ _ l k (by injection e);subst this;omega
theorem aik(ok:F.Ok)(h:lW F i a):(∃k,k<=F.m/\a=jf F.toFx k)\/∃p,p≠F.f/\a=jm F p:=by
 unfold lW at h;by_cases b:i=0
 .rw[if_pos b]at h;obtain⟨k,d,e,c|c⟩:=h
  .grind
  .exact Á ⟨_,ok.Y.1 k d e,c⟩
 .rw[if_neg b]at h;let⟨k,c,_,d⟩:=h;exact Á ⟨_,ok.Y.2 k c,d⟩
def vv(F:Ph)(j:Nat):fW:=if j<F.n then .iF (j+1)else .iJ F.q
def zg(E:fU F)(j:Nat):fU F:={E with M:=vv F j}
def PI.ail(H:gR F)(p:PI F j zX E S G I o f w qJ)(hi:f[0]?=Ã g)(iI:g.status=Å)(ht:G 0=.fA)(hx:E.M=.go m): ∃(N:fU F) (c:Nat->Jd) (Q:Nat->gu) (r:Nat->iA) (s:Nat->e9) (B:Array Ä) (W:Ð) (u:ä),Ŏ F.P (ð f w sl) 0=(ğ<|ð B W sl,u)/\B.size=f.size+1/\N.M≠ .gd/\PI F j zX N c Q r s B W (qJ++u):=by
 have gS:=iP hi;have C:=p.I.r;have L:=p.a;have hL1:=H.C.r;have hn:=H.C.N;have vu:=p.C.C m<|À hx;have oO:E.r=m:=by unfold fU.r;rw[hx];rfl
 have jH:f.size=F.L+m:=by rw[p.b,oO]
 have hJ:=p.sR hi iI ht w<|C.r _ gS;rw[hx]at hJ;obtain⟨hd,g',child,X,YA,AH,Du,hX,Bf,ain,aio⟩:=H.go m E.I _ g vu hJ<|C.M gS;have hd:=hd;have hX:=hX;have Bf:=Bf;have py:=(C.f _ gS).trans hd;have Bd:=p.I.I _<|Ç _;have nq:=L.M 0<|À U;obtain⟨m',ua⟩:∃m',m'=vv F m:=⟨_,U⟩;have uf:(m<F.n/\m'=.iF (m+1))\/(m=F.n/\m'=.iJ F.q):=by
  rw[ua];unfold vv;by_cases q:m<F.n
  .exact À ⟨q,if_pos q⟩
  .exact Á ⟨Z,if_neg q⟩
 have auJ:m'.sp F.n=m+1:=by rcases uf with⟨_,rfl⟩|⟨q,rfl⟩<;>simp only[fW.sp];omega
 have aip:m'.ad F.n=m+1:=by rcases uf with⟨_,rfl⟩|⟨q,rfl⟩<;>simp only[fW.ad];omega
 have Py:m'.mF F.q=0:=by rcases uf with⟨_,rfl⟩|⟨q,rfl⟩<;>simp[fW.mF]
 have hmh:m'.je F.n=0:=by rcases uf with⟨_,rfl⟩|⟨q,rfl⟩<;>rfl
 have hmr:m'.gC=0:=by rcases uf with⟨_,rfl⟩|⟨q,rfl⟩<;>rfl
 have GF:(∀v,m'≠ .fy v)/\m'≠ .gd:=by rcases uf with⟨_,rfl⟩|⟨q,rfl⟩<;>exact⟨λv h=>(by cases h),λh=>(by cases h)⟩
 have hkM:kM m'=.no:=by rcases uf with⟨_,rfl⟩|⟨q,rfl⟩<;>rfl
 obtain⟨l0,mH⟩:∃l0:e9,l0={o 0 with O:=λb=>(o 0).O b/\¬X b/\(1<=m->b≠E.I (m-1)),I:=λb=>X b\/(o 0).I b,r:=λa=>(o 0).r a/\¬lW F m a,w:=w}:=⟨_,U⟩;obtain⟨lc,kx⟩:∃lc:e9,lc={O:=λ_=>False,I:=λb=>X b\/(o 0).I b,r:=lW F m,N:=(o 0).N,K:=(o 0).K,d:=0,q:=False,w:=w}:=⟨_,U⟩;have DG:iR F.S (λi=>i<f.size) E.Y (gq o 0 l0) w qJ:=by
  rw[mH];refine C.C gS (λ_ q=>q.1) (λb q=>À<|q.elim (λz=>À<|hX b z) Á) (λ_ q=>q.1) (λa q=>À<|Á q) U U U (λb hb q=> ?_) λa J q=>C.g _ gS a J.1 q;rcases q with q|q
  .exact hb.2.1 q
  .exact C.m _ gS b hb.1 q
 have z0:gq o 0 l0 0=l0:=gU _ _ _;have Bg:=L.o m Z vu;have nA:(zg E m).r=m+1:=by show(vv F m).sp F.n=_;rwa[<-ua]
 have YB:∀b,(zg E m).Y b->E.Y b\/(1<=m/\b=E.I (m-1)):=λb hb=>by
  rcases hb with q|q|⟨l,t,D⟩
  .exact À<|À q
  .exact À<|Á<|À q
  .rw[nA]at t;by_cases e:l+1=m
   .exact Á ⟨Z,by rw[D,show l=m-1 by omega];rfl⟩
   .exact À<|Á<|Á ⟨l,Z,D⟩
 have Pz:∀x y:Ă,(x.g=0/\x.act=ς f.size)->(y.g=f.size/\y.act=į)->iR F.S (λi=>i<f.size+1) (zg E m).Y (gq (gq o 0 l0) f.size lc) w (qJ++#[x,y]):=λx y Kr Ks=>by
  refine DG.F8 gS Kr Ks py Bd (by rw[kx];exact λb q=>q) (by rw[z0,kx,mH];exact λb q=>q) (λa J=> ?_) (by rw[z0,kx,mH];exact λb q=>q) (by rw[z0,kx,mH];exact λb q=>q) (λk hk a J q=> ?_) (by rw[kx]) (by rw[kx]) (λb hb=> ?_) λb hb=> ?_
  .have r:lW F m a:=by rwa[kx]at J
   have c:=Bg a r;refine⟨C.e 0 gS a<|À c,λk hk q=> ?_,(C.S 0 gS).C a c⟩;by_cases e:k=0
   .subst e;rw[z0,mH]at q;rcases q with q|q
    .exact q.2 r
    .exact C.g 0 gS a c q
   .rw[gF _ _ e]at q;exact C.h 0 k gS hk (ÿ e) a c q
  .have c:(o k).K a:=by
    by_cases e:k=0
    .subst e;rwa[z0,mH]at J
    .rwa[gF _ _ e]at J
   rw[kx]at q;exact(C.n k hk a c).2 0 gS<|Bg a q
  .rcases hb with q|q|⟨l,t,D⟩
   .exact À q
   .exact Á<|À q
   .exact Á<|Á ⟨l,by rw[nA];omega,D⟩
  .rcases YB b hb with q|⟨t,rfl⟩
   .exact À q
   .obtain⟨a1,a2,a3,a4⟩:=Bf t;refine Á ⟨C.fw 0 gS _<|À a1,λi lz q=> ?_⟩;by_cases e:i=0
    .subst e;rw[z0,mH]at q;rcases q with q|q|q
     .exact q.2.2 t U
     .exact a2 q
     .exact C.m 0 gS _ a1 q
    .rw[gF _ _ e]at q;exact C.o 0 i gS lz (ÿ e) _ a1 q
 have hWm:fh F.P Ì (JM F E.I m') l0 g':=by
  have r:=DG.M gS;rw[z0]at r;have s:{l0 with w:=w}=l0:=by rw[mH]
  rw[s]at r;have:=aio l0 r (by rw[mH]) (λb q=>by rwa[mH]) (by rw[mH]) (by rwa[mH]) (by rw[mH]) (by rw[mH]) (by rw[mH]) (λa q=>by rw[mH]at q;exact q.1);rw[ua];unfold vv;exact this
 have PE:∀b,lc.M b->(o 0).M b:=λb hb=>by
  rw[kx]at hb;rcases hb with q|q|q
  .exact q.elim
  .exact À<|hX b q
  .exact Á q
 have YC:∀a,lc.C a->(o 0).C a:=λa J=>by rw[kx]at J;exact J.elim (λq=>À<|Bg a q) Á
 have PF:lc.w=w:=by rw[kx]
 have aiq:gw lc:=⟨λb hb=>(by rw[kx]at hb;exact hb.elim),λa J q=>(by rw[kx]at J q;exact C.g 0 gS a (Bg a J) q),λa J hb=>C.I 0 gS _ (PE _ hb)<|C.e 0 gS a<|YC a J,λb hb=>(by rw[PF];exact C.fw 0 gS b<|PE b hb),λa J=>(by rw[PF];exact C.N _<|C.e 0 gS a<|YC a J),λa J=>by
  have c:(o 0).K a:=by rwa[kx]at J
  obtain⟨k1,k2⟩:=C.n 0 gS a c;exact⟨λq=>C.I 0 gS _ (PE _ q) k1,by rw[PF];exact C.N _ k1,λq=>by rw[kx]at q;exact k2 0 gS (Bg a q)⟩⟩
 have hWc:=ain lc aiq (λb q=>by rwa[kx]) (by rw[kx]) (by rw[kx]) (by rw[kx];exact λq=>q) (λb=>by rw[kx];exact λq=>q) (by rw[kx]) (by rw[kx]) (λa q=>Bg a<|by rwa[kx]at q);obtain⟨T,hT⟩:=jk hWm;obtain⟨Tc,hTc⟩:=jk hWc;obtain⟨B,x,y,Kr,Ks,q1,q2,q3,q4,q5,q6⟩:=p.I.F8 (Kc:=if m=0 then .no else kW F (E.I<|m-1) (.nu 0)) hi (Du w) Pz hT YA hTc AH;have cs:∀i,i<f.size+1->i=f.size\/i=0\/(i≠0/\i<f.size):=λi hi=>by omega
 have es:gq (gq o 0 l0) f.size lc f.size=lc:=gU _ _ _;have e0:gq (gq o 0 l0) f.size lc 0=l0:=by rwa[gF _ _ Z]
 have en:∀i,i≠0->i≠f.size->gq (gq o 0 l0) f.size lc i=o i:=λi t D=>by rw[gF _ _ D,gF _ _ t]
 have xk:=p.C.z;have Km:=p.C.h m Z;have air:∀y,E.ou y->y<m:=λy ⟨e,t,_⟩=>ñ λq=>by rw[p.C.h y Z]at t;cases t
 have PG:∀i,i<f.size+1->∀a,(gq (gq o 0 l0) f.size lc i).r a->∃k,k<f.size/\(o k).r a:=λi hi a J=>by
  rcases cs i hi with rfl|rfl|⟨t,D⟩
  .rw[es,kx]at J;exact⟨0,gS,Bg a J⟩
  .rw[e0,mH]at J;exact⟨0,gS,J.1⟩
  .rw[en i t Z]at J;exact⟨i,D,J⟩
 refine⟨zg E m,_,_,_,_,B,w,_,q1,q2,(by show vv F m≠ .gd;rw[<-ua];exact GF.2),.r ⟨?_,λt D=> ?_,λl t D=> ?_,λy e t D=> ?_,λi t D=> ?_⟩ (by rw[q2,nA,jH];omega) q6 ?_ ?_ ?_ ?_ (λk z hk hb=> ?_) λl r2 a1 a2 a3=> ?_⟩
 .have c:(0:Nat)≠f.size:=Z
  rw[fG _ _ c,gD,fG _ _ c,gD];rw[ua];exact⟨U,U⟩
 .by_cases e:m=0
  .have c:f.size=F.L:=Z
   rw[c,gD,gD,if_pos e,if_pos e];show F.h 0=JI F E.c E.S/\_;rw[p.C.J Z];exact⟨U,U⟩
  .rw[fG _ _ Z,fG _ _ Z,fG _ _ Z,fG _ _ Z];exact p.m Z D
 .rw[nA]at t;by_cases e:l+1=m
  .have c:F.L+1+l=f.size:=Z
   rw[c,gD,gD,if_neg Z,if_neg Z];show Di F (E.I<|m-1) (m-1) 0=JW F (E.I l) l (E.C l)/\_=kW F (E.I l) (E.C l);rw[xk l Z,show m-1=l by omega];exact⟨U,U⟩
  .rw[fG _ _ Z,fG _ _ Z,fG _ _ Z,fG _ _ Z];exact p.g l Z D
 .have s:=ñ λq=>by
   have r:E.N y=Ã e:=D;rw[p.C.h y Z]at r;cases r
  rw[fG _ _ Z,fG _ _ Z,fG _ _ Z,fG _ _ Z,fG _ _ Z,fG _ _ Z];exact p.k y e Z D
 .rw[fG _ _ Z,fG _ _ Z,fG _ _ Z,fG _ _ Z,fG _ _ Z,fG _ _ Z];exact p.l i t D
 .rw[q2];obtain⟨f1,f2⟩:=L.lU Z;refine⟨λi lz a J=> ?_,λy t D a J=> ?_,λ_=> ?_,λ_ k t D=> ?_,λ_ D=> ?_,λl t D r h3 h4=> ?_,λl t D=> ?_,λy s=> ?_,λi lz=> ?_,λi t D=> ?_,λk hk b hb=> ?_,λk hk i lz q=> ?_,λk t D i lz q=> ?_,λl t r D h3 i lz q=> ?_⟩
  .rcases cs i lz with rfl|rfl|⟨t,D⟩
   .rw[es,kx]at J;rcases J with q|q
    .exact aik H.C q
    .exact L.gT 0 gS a<|Á q
   .rw[e0,mH]at J;rcases J with q|q
    .exact L.gT 0 gS a<|À q.1
    .exact L.gT 0 gS a<|Á q
   .rw[en i t Z]at J;exact L.gT i D a J
  .rw[nA]at t;rw[e0,mH];exact⟨L.o y Z D a J,λq=>aij H.C Z q J⟩
  .rw[e0,mH];exact⟨f1,λb hb=>Á<|f2 b hb⟩
  .have A7:=t;by_cases e:m=0
   .have c:F.L=f.size:=Z
    rw[c,es,kx];exact⟨by show lW F m _;unfold lW;rw[if_pos e];exact⟨k,Z,D,À U⟩,by show lW F m _;unfold lW;rw[if_pos e];exact⟨k,Z,D,Á U⟩⟩
   .rw[en F.L Z Z];exact L.e Z k A7 D
  .by_cases e:m=0
   .have c:F.L=f.size:=Z
    rw[c,es,kx];show(o 0).N (jf F.toFx E.S.md)/\∀b,E.V E.S.md b->X b\/(o 0).I b;rw[p.C.J Z];show(o 0).N (jf F.toFx 0)/\∀b,E.V 0 b->X b\/(o 0).I b;rw[p.C.v];exact⟨f1,λb hb=>Á<|f2 b hb⟩
   .rw[en F.L Z Z];exact L.f Z D
  .rw[nA]at t;by_cases e:l+1=m
   .have c:F.L+1+l=f.size:=Z
    rw[c,es,kx];show lW F m _;unfold lW;rw[if_neg Z];exact⟨_,h3,by rw[ē,ļ Z];omega,U⟩
   .rw[en _ Z Z];exact L.h l Z D r h3 h4
  .rw[nA]at t;by_cases e:l+1=m
   .have c:F.L+1+l=f.size:=Z
    rw[c,es,kx];exact⟨f1,λb hb=>Á<|f2 b hb⟩
   .rw[en _ Z Z];exact L.l l Z D
  .have:=air y s;rw[en _ Z Z];exact L.S y s
  .rcases lz with rfl|⟨y,t,rfl,h3⟩
   .rwa[e0,mH]
   .rw[nA]at t;by_cases e:y=m
    .subst e;rw[<-jH,es,kx];exact λq=>q
    .rw[en _ Z Z];exact L.M _<|Á ⟨y,Z,U,h3⟩
  .rw[en i Z Z];exact L.c i t D
  .obtain⟨b1,b2,c⟩:=L.I k hk b hb;refine⟨b1,λq=> ?_,λi lz q=> ?_⟩
   .rcases YB b q with q|⟨t,rfl⟩
    .exact b2 q
    .exact c 0 gS (Bf t).1
   .rcases cs i lz with rfl|rfl|⟨t,D⟩
    .rwa[es,kx]at q
    .rw[e0,mH]at q;exact c 0 gS q.1
    .rw[en i t Z]at q;exact c i D q
  .obtain⟨c,a1,a2⟩:=PG i lz _ q;exact L.N k hk c a1 a2
  .obtain⟨c,a1,a2⟩:=PG i lz _ q;exact L.g k t D c a1 a2
  .rw[nA]at t;have oS:r<(E.C l).kD:=h3;obtain⟨c,a1,a2⟩:=PG i lz _ q;by_cases e:l+1=m
   .rw[xk l Z]at oS;simp only[gO.kD]at oS;omega
   .exact L.d l Z r D oS c a1 a2
 .have c:=p.M;refine⟨c.C,c.I,λl t=> ?_,c.M,c.S,λl t r D h3=> ?_⟩
  .rw[nA]at t;show∃buf s,w.heap[E.I l]?=Ã (.chan F.q buf (decide<|l<(vv F m).je F.n) s (E.C l).iN É)/\tP F.n l ((vv F m).mF F.q) s/\(E.C l).iN<=s/\buf.size=s-(E.C l).iN/\∀i,i<s-(E.C l).iN->buf[i]?=Ã (F.c<|l+((E.C l).iN+i)*F.n);rw[<-ua,hmh,Py];by_cases e:l+1=m
   .rw[xk l Z];obtain⟨a1,a2,a3,a4⟩:=Bf Z;rw[show m-1=l by omega]at a3;refine⟨#[],0,by rw[a3];rfl,λi=>⟨λq=>by omega,λq=>by omega⟩,Ç _,U,λi lz=> ?_⟩;simp only[gO.iN]at lz;omega
   .have:=c.jG l Z;rwa[hx]at this
  .rw[nA]at t;have oS:r<(E.C l).kD:=h3;by_cases e:l+1=m
   .rw[xk l Z]at oS;simp only[gO.kD]at oS;omega
   .exact c.N l Z r D oS
 .have h:=p.C;have eo:(zg E m).G=E.G:=by
   funext y;have t:(zg E m).M.ad F.n=E.M.ad F.n:=by show(vv F m).ad F.n=_;rw[<-ua,aip,hx];rfl
   unfold fU.G;rw[t];rfl
  have PH:(zg E m).M.gC=E.M.gC:=by show(vv F m).gC=_;rw[<-ua,hmr,hx];rfl
  have emp:(zg E m).M=m':=ua.symm;refine⟨h.v,λl q=> ?_,λl q=> ?_,λr=>⟨λq=> ?_,λq=> ?_⟩,λq=>by omega,h.I,λl q=>h.z l Z,λl r ug p6=> ?_,λl ug p6=> ?_,h.f,λy q=>h.h y Z,λl j3 ug p6 q3'=> ?_,λl q=> ?_,λc reg hc=> ?_,λreg hc=> ?_,λr s hc=> ?_,h.N,λq=> ?_,h.e,h.Y,λl r ug p6=> ?_,λl r ug p6=> ?_,λq=> ?_,λ_ _=>h.S (λv q=>by rw[hx]at q;cases q) (λq=>by rw[hx]at q;cases q),h.y,λl r ug p6=> ?_⟩
  .rw[emp]at q;rcases uf with⟨_,rfl⟩|⟨_,rfl⟩<;>rcases q with q|q|q|q<;>cases q;omega
  .rw[emp]at q;rcases uf with⟨_,rfl⟩|⟨_,rfl⟩<;>rcases q with q|q|q<;>cases q;omega
  .rw[emp]at q;rcases uf with⟨_,rfl⟩|⟨_,rfl⟩<;>cases q;exact Ç _
  .rw[emp]at q;rcases uf with⟨_,rfl⟩|⟨_,rfl⟩<;>cases q
  .rw[nA]at ug;by_cases e:l+1=m
   .have oT:(∃p,E.C l=.fy r p)\/E.C l=.jK r\/E.C l=.oN r:=p6;rw[xk l Z]at oT;rcases oT with⟨_,q⟩|q|q<;>cases q
   .exact h.d l r Z p6
  .rw[nA]at ug;have oT:E.N (l+1)≠Í:=p6;have:l+1<m:=ñ λq=>oT<|h.h _ Z;obtain⟨a,_⟩:=h.l l Z oT;rw[hx]at a;simp only[fW.je]at a;omega
  .rw[nA]at ug p6;have PK:E.I l=E.I j3:=q3';have key:∀a b,a+1=m->b+2<=E.r->E.I a=E.I b->False:=λa b J hb he=>by
    have t:=(Bf Z).1;rw[show m-1=a by omega,he]at t;exact C.I 0 gS _ (À t)<|Á<|Á ⟨b,hb,U⟩
   by_cases e:l+1=m
   .by_cases e':j3+1=m
    .omega
    .exact(key l j3 e Z PK).elim
   .by_cases e':j3+1=m
    .exact(key j3 l e' Z PK.symm).elim
    .exact h.M l j3 Z Z PK
  .rw[nA]at q;show¬F.M (E.I l)/\E.I l≠F.Y/\F.S<=E.I l;by_cases e:l+1=m
   .obtain⟨a1,_,_,a4⟩:=Bf Z;rw[show m-1=l by omega]at a1 a4;have YD:=C.I 0 gS _<|À a1;exact⟨λq=>YD<|À q,λq=>YD<|Á<|À q,a4⟩
   .exact h.o l Z
  .rw[eo,PH];exact h.t c reg hc
  .rw[eo,PH];obtain⟨a1,a2,y,a3,a4⟩:=h.g reg hc;exact⟨a1,a2,y,Z,a4⟩
  .rw[eo,PH];obtain⟨a1,a2,a3⟩:=h.u r s hc;refine⟨a1,a2,λhr=> ?_⟩;obtain⟨y,b1,b2⟩:=a3 hr;exact⟨y,Z,b2⟩
  .rw[emp]at q;rcases q with q|q|q
   .exact absurd q<|GF.1 _
   .exact absurd q<|GF.1 _
   .exact absurd q GF.2
  .rw[nA]at ug;by_cases e:l+1=m
   .have oT:E.C l=.fy r .gA\/E.C l=.fy r .lj\/E.C l=.jK r:=p6;rw[xk l Z]at oT;rcases oT with q|q|q<;>cases q
   .exact h.w l r Z p6
  .rw[nA]at ug;by_cases e:l+1=m
   .have oT:E.C l=.fy r .gA:=p6;rw[xk l Z]at oT;cases oT
   .exact h.H l r Z p6
  .rw[emp]at q;exact absurd q<|GF.1 _
  .rw[nA]at ug;by_cases e:l+1=m
   .have oT:E.C l=.fy r .wr:=p6;rw[xk l Z]at oT;cases oT
   .exact h.D l r Z p6
 .rw[nA];have c:=p.d;rw[oO]at c;rw[jH]at Kr Ks Bd;exact c.F8 Kr Ks py Bd (λ⟨e,t,_⟩=>by rw[Km]at t;cases t) λy ⟨e,t,_⟩=>ñ λq=>by rw[p.C.h y Z]at t;cases t
 .have r:=iP hk;rcases cs k Z with rfl|rfl|⟨k1,k2⟩
  .rw[q4]at hk;obtain rfl:=È hk;rw[AH]at hb;cases hb
  .rw[q3]at hk;obtain rfl:=È hk;rw[YA]at hb;cases hb
  .rw[q5 k k1 k2]at hk;rcases p.c k z hk hb with⟨t,_⟩|⟨l,s,c,D,h3⟩
   .exact absurd t k1
   .exact Á ⟨l,Z,c,D,h3⟩
 .rw[nA]at a1;by_cases e:l+1=m
  .have oT:E.C l=.jK r2:=a2;rw[xk l Z]at oT;cases oT
  .exact(p.f l r2 Z a2 a3).app _
end
section
variable{F:Ph}{E E':fU F}{S:Nat->Jd}{tr o:Nat->gu}{m:Nat->iA}{lot:Nat->e9}{gs gs':Array Ä}{w':Ð}{t u:ä}{sl:Option (Nat×Nat)}{sz:Nat}
def PI.at(H:gR F)(p:PI F i zX E S tr m lot gs w t)(d:Nat):PI F i zX E S tr m lot gs (w.at d) t:= ⟨p.b,p.I.at d,p.h,p.m,p.g,p.k,p.l,p.a.Dv<|Ç _,⟨⟨p.M.C.C,p.M.C.M,p.M.C.I,p.M.C.N,p.M.C.r⟩,λk a=>⟨(p.M.I k a).C,(p.M.I k a).M,(p.M.I k a).I,(p.M.I k a).N,(p.M.I k a).r⟩,p.M.jG,λk a=>⟨(p.M.M k a).1,H.S _ _ _ _ _ (p.M.M k a).2 (λ_ _=>rfl) U U U ⟨U,U⟩⟩,p.M.S,p.M.N⟩,p.C,p.d,p.c,p.f⟩
def Go1(F:Ph)(i:Nat)(zX:π->Prop)(gs:Array Ä)(w:Ð)(t:ä)(sl:Option (Nat×Nat))(a:Nat):Prop:=
 ∃(E':fU F) (b:Nat->Jd) (o:Nat->gu) (c:Nat->iA) (d:Nat->e9) (gs':Array Ä) (w':Ð) (u:ä),Ŏ F.P (ð gs w sl) a=(ğ<|ð gs' w' sl,u)/\gs'.size=gs.size+1/\E'.M≠ .gd/\PI F i zX E' b o c d gs' w' (t++u)
def ais(F:Ph)(i:Nat)(zX:π->Prop)(gs:Array Ä)(w:Ð)(t:ä)(sl:Option (Nat×Nat))(a:Nat):Prop:=
 ∃(E':fU F) (b:Nat->Jd) (o:Nat->gu) (c:Nat->iA) (d:Nat->e9) (gs':Array Ä) (w':Ð) (u:ä),Ŏ F.P (ð gs w sl) a=(ğ<|ð gs' w' sl,u)/\gs'.size=gs.size/\PI F i zX E' b o c d gs' w' (t++u)/\E'.M=.gd/\Kq F zX (t++u)
def PI.ait(H:gR F)(p:PI F i zX E S tr m lot gs w t)(l:E.M≠ .gd)(a:gs[n]?=Ã g)(c:g.status=Å):kg F i zX E tr gs w t sl n\/rB F i zX E tr gs w t\/Go1 F i zX gs w t sl n\/ais F i zX gs w t sl n:=by
 have z:=iP a;have B:=p.b;cases b:tr n with
 |jM k=>
  obtain⟨gs',w',u,o,e,d,f,j,q⟩:=p.fl H a b;exact À ⟨E,S,o,m,e,gs',w',u,d,f,λh=>h,j,q⟩
 |fA=>
  by_cases s:n=0
  .subst s;cases h:E.M with
   |go j=>exact Á<|Á<|À<|p.ail H a c b h
   |lF j=>exact Á<|À<|p.ahV H a c b h
   |rd j=>exact À<|p.ahW H a c b h
   |iF j=>exact À<|p.ahY H a c b h
   |iJ r=>cases r with
    |zero=>exact Á<|À<|p.ahZ H a c b h
    |succ r=>exact À<|p.aia H a c b h
   |kX r=>cases r with
    |zero=>exact Á<|À<|p.ah0 H a c b h
    |succ r=>exact À<|p.aic H a b h
   |fy v=>cases v with
    |iY=>exact Á<|À<|p.ah1 H a c b h
    |mb q=>exact À<|p.ah2 H a c b h
    |wr=>exact À<|p.ah3 H a c b h
    |kB=>exact À<|p.ah5 H a c b h
    |gA=>exact À<|p.ah4 H a c b h
    |lj=>exact Á<|Á<|Á<|p.aif H a c b h
   |gd=>exact absurd h l
  by_cases y:n<F.L
  .exact À<|p.ahT H Z y a c
  obtain⟨x,rfl⟩:∃x,n=F.L+x:=⟨n-F.L,Z⟩;have f:x<E.r:=Z
  cases d:E.N x with
  |some e=>cases e with
   |oP=>exact Á<|À<|p.ahx H f d a c b
   |gd v=>cases v with
    |jD=>exact À<|p.ahA H f d a c b
    |iF=>exact À<|p.ahE H f d a c b
    |gA W=>exact À<|p.ahF H f d a c b
    |jc W=>exact À<|p.ahG H f d a c b
    |iB r=>exact À<|p.ahH H f d a c b
   |jr N=>exact À<|p.ahS H f d a c
  |none=>cases x with
   |zero=>
    rw[ó]at a b|-;cases h:E.S with
    |kO k=>exact Á<|À<|p.ahJ H f d a c b h
    |mk k=>exact Á<|À<|p.ahM H f d a c b h
    |dn k v=>cases v with
     |jD=>exact À<|p.ahN H f d a c b h
     |iF=>exact À<|p.ahO H f d a c b h
     |gA W=>exact À<|p.ahP H f d a c b h
     |jc W=>exact À<|p.ahQ H f d a c b h
     |iB r=>exact À<|p.ahR H f d a c b h
   |succ j=>
    rw[show F.L+(j+1)=F.L+1+j by omega]at a b|-;have e:j+2<=E.r:=Z
    cases h:E.C j with
    |nu r=>exact À<|p.ahv H e d a c b h
    |fy r v=>cases v with
     |iY=>exact Á<|À<|p.ahe H e d a c b h
     |mb q=>exact À<|p.ahf H e d a c b h
     |wr=>exact À<|p.ahh H e d a c b h
     |kB=>exact À<|p.ahk H e d a c b h
     |gA=>exact À<|p.ahi H e d a c b h
     |lj=>exact À<|p.ahj H e d a c b h
    |jK r=>exact Á<|À<|p.ahm H e d a c b h
    |oN r=>exact Á<|À<|p.ahn H e d a c b h
def aiu{J:Jd}{T:gu}{l:e9}(a:∀l g,J l g->g.status=Å)(h:lh P yQ J T l g):g.status=Å:=by
 cases T with
 |fA=>exact a _ _<|h _<|fE.fV _ _
 |jM k=>exact h.1
def gN.Y{Y:Nat->Prop}(c:gN P n Y S tr m lot gs w t)(d:gs[i]?=Ã g)(e:∀l g,S i l g->g.status=Å)(a:g.status≠Ü):g.status=Å:=by
 let⟨g0,f,b,_,_⟩:=c.C i g d;generalize m i=K at b;cases b with
 |gk=>exact aiu e f
 |nX _ _=>exact absurd U a
 |tN _ _ _=>exact absurd U a
 |nt _ _ _=>rfl
def YE{J:Jd}{p:jF}(a:∀r,p=.iB r->0<r){l:e9}(h:Dg P yQ b J p l g):g.status=Å:=by
 cases p with
 |jD=>exact h.2.1
 |iF=>exact h.2.1
 |gA W=>exact h.2.1
 |jc W=>exact h.2.1
 |iB r=>cases r with
  |zero=>exact absurd (a 0 U) Z
  |succ r=>exact h.2.1
def PL{J:Jd}{p:ju}{l:e9}(h:qH P yQ i b J p l g):g.status=Å:=by
 cases p with
 |iY=>let⟨k,_,_,T,a,c⟩:=h;exact(c _ _ a).1
 |mb p=>let⟨_,T,a,c⟩:=h;exact(c _ _ a).1
 |wr=>exact h.2.1
 |kB=>exact h.2.1
 |gA=>exact h.2.1
 |lj=>exact h.2.1
def YF{l:e9}(h:AQ F D i l g):g.status=Å:=by
 cases i with
 |zero=>exact PL h
 |succ i=>exact h.1
def aiv(H:gR F){x:fW}{l:e9}(h:JM F D x l g):g.status=Å:=by
 cases x with
 |go j=>exact H.I _ _ _ _ h
 |lF j=>let⟨c,h⟩:=h;exact H.I _ _ _ _ h
 |rd j=>exact h.2.1
 |iF j=>exact h.2.1
 |iJ r=>cases r with
  |zero=>exact YF h
  |succ r=>exact h.1
 |kX r=>exact YF h
 |fy v=>exact PL h
 |gd=>exact H.M _ _ _ h
def PI.Ar(p:PI F i zX E S tr m lot gs w t){x:Nat}(a:x<E.r):∃g,gs[F.L+x]?=Ã g:=by have:=p.b;simp_all
def PI.GG(H:gR F)(p:PI F i zX E S tr m lot gs w t)(d:0<E.r)(e:E.N 0=Í):∃(a:Nat) (g:Ä),gs[a]?=Ã g/\g.status=Å:=by
 have n:=H.C.r;let⟨g,c⟩:=p.Ar d;rw[ó]at c;refine⟨F.L,g,c,p.I.Y c (λl g h=> ?_) λl=> ?_⟩
 .rw[(p.m d e).1]at h;cases j:E.S with
  |kO k=>rw[j]at h;exact H.N _ _ _ h
  |mk k=>rw[j]at h;let⟨a,V,_,_,_,_,h⟩:=h;exact h.2.1
  |dn k v=>
   rw[j]at h;refine YE (λr V=> ?_) h;subst V;let⟨_,_,r⟩:=p.C.I k;let⟨a,b⟩:=r _ j;rcases p.C.Y k b (by rw[j];exact Ç _)with⟨W,q|q,_⟩|⟨o,s,q,f,_⟩|⟨q,_⟩
   .rw[j]at q;cases q
   .rw[j]at q;cases q
   .rw[j]at q;cases q;exact f
   .exact absurd j<|q _
 .rcases p.c _ g c l with⟨q,_⟩|⟨j,_,_,q,_⟩<;>omega
theorem PI.Kt(H:gR F)(p:PI F i zX E S tr m lot gs w t){x:Nat}{e:ik}(b:x<E.r)(c:E.N x=Ã e)(d:∀N,e≠ .jr N):∃(h:Nat) (g:Ä),gs[h]?=Ã g/\g.status=Å:=by
 have f:=H.C.r;let⟨g,a⟩:=p.Ar b;refine⟨F.L+x,g,a,p.I.Y a (λl g h=> ?_) λl=> ?_⟩
 .rw[(p.k x e b c).1]at h;cases e with
  |oP=>exact h.2.1
  |gd v=>exact YE (λr j=>by subst j;exact((p.C.N x _ c).2 r U).1) h
  |jr N=>exact absurd U<|d N
 .rcases p.c _ g a l with⟨q,_⟩|⟨j,_,h,q,_⟩;all_goals grind
def YG{f:Nat->Nat}:∀{n:Nat},0<Ñ n f->∃i,i<n/\0<f i
 |0,h=>absurd h<|Nat.lt_irrefl _
 |n+1,h=>by
  simp only[Ñ]at h;by_cases q:0<f n
  .exact⟨n,Z,q⟩
  .let⟨i,b,a⟩:=YG (f:=f) (n:=n) Z;exact⟨i,Z,a⟩
theorem PI.aiw(H:gR F)(p:PI F i zX E S tr m lot gs w t):∃(l:Nat) (g:Ä),gs[l]?=Ã g/\g.status=Å:=by
 have hL:=H.C.r;have jH:=p.b;obtain⟨g,D⟩:∃g,gs[0]?=Ã g:=⟨_,é Z⟩;by_cases P:g.status=Ü
 .rcases p.c 0 g D P with⟨_,u,Q⟩|⟨j,_,_,q,_⟩
  .have oO:E.r=F.n+1:=by unfold fU.r;rw[u];rfl
   have had:E.M.ad F.n=F.n+1:=by rw[u];rfl
   have PN:E.M.gC=1:=by rw[u];rfl
   have T:=p.M.C.r;cases o:E.b with
   |cl c G=>
    let⟨h1,h2⟩:=p.C.t c G o;rw[o]at T;let⟨_,_,V⟩:=T;have X:0<c:=by grind
    rw[h1]at X;let⟨x,d,y⟩:=YG X;unfold fU.G at y;rw[had,if_pos d]at y;cases z:E.N x with
    |some e=>
     rw[z]at y;exact p.Kt H Z z λN q=>by subst q;simp[me,ik.kQ]at y
    |none=>cases x with
     |zero=>exact p.GG H Z z
     |succ j=>
      let⟨I,B⟩:=p.Ar (x:=j+1) Z;rw[show F.L+(j+1)=F.L+1+j by omega]at B;have J:j+2<=E.r:=Z
      by_cases Y:I.status=Ü
      .rcases p.c _ I B Y with⟨q,_⟩|⟨a,_,_,q,⟨r,b,C⟩|⟨r,cap,s,r',b,C⟩⟩
       .omega
       .have:a=j:=Z
        subst this;have Ye:=H.C.I _<|p.C.d a r J<|À ⟨_,b⟩;have XX:1<=Ñ F.n λl=>(E.C l).gC F l (F.r<|a+r*F.n):=by
         have:=OZ (f:=λl=>(E.C l).gC F l<|F.r<|a+r*F.n) (j:=a) (n:=F.n) Z;simp only[b]at this;have h:gO.gC F a (F.r<|a+r*F.n) (.fy r .kB)=1:=by simp only[gO.gC,if_true];rfl
         grind
        by_cases K:F.r (a+r*F.n)<=E.S.od
        .have M:∀k v,E.S=.dn k v->E.N 0=Í:=λk v h=>by
          cases O:E.N 0 with
          |none=>rfl
          |some e=>have:=p.C.f (by rw[O];simp);rw[this]at h;cases h
         rcases p.C.Y _ Ye K with⟨W,q|q,_⟩|⟨r',s,q,_⟩|⟨_,⟨_,q⟩|⟨s,q1,q2⟩⟩
         .exact p.GG H Z<|M _ _ q
         .exact p.GG H Z<|M _ _ q
         .exact p.GG H Z<|M _ _ q
         .omega
         .rw[q1]at C;simp only[GS.sm]at C;omega
        .apply p.GG H Z;cases O:E.N 0 with
         |none=>rfl
         |some e=>
          have:=p.C.f (by rw[O];simp);rw[this]at K;simp only[jx.od]at K;omega
       .have:a=j:=Z
        subst this;let⟨e,k,l,_⟩:=p.M.jG a J;rw[C,u]at l;injection l with l;injection l with _ _ AV _ _ _;have:decide (a<(fW.fy .kB).je F.n)=Ì:=decide_eq_true (by simp only[fW.je];omega);rw[this]at AV;cases AV
      .refine⟨_,I,B,p.I.Y B (λl g h=> ?_) Y⟩;rw[(p.g j J z).1]at h;cases a:E.C j with
       |nu r=>rw[a]at h;exact h.1
       |fy r v=>rw[a]at h;exact PL h
       |jK r=>rw[a]at h;exact H.Y _ _ _ _ h
       |oN r=>rw[a]at h;exact h.2.1
   |jE G=>
    let⟨_,_,x,d,_,b⟩:=p.C.g G o;rcases b with b|b
    .exact p.Kt H d b λN q=>by cases q
    .exact p.Kt H d b λN q=>by cases q
   |gX r s=>
    let⟨_,h2,V⟩:=p.C.u r s o;rw[o]at Q;simp only[GS.sm]at Q;let⟨x,d,_,b⟩:=V Z;exact p.Kt H d b λN q=>by cases q
  .omega
 .refine⟨0,g,D,p.I.Y D (λl g h=> ?_) P⟩;rw[p.h.1]at h;exact aiv H h
def PI.Ku(p:PI F i zX E S tr m lot gs w t):∀g∈gs,awake g:=by
 intro g e;obtain⟨a,f,rfl⟩:=Array.mem_iff_getElem.1 e;let⟨g0,_,c,d,_⟩:=p.I.C a _<|é f;intro τ b;generalize gs[a]=g at c b;generalize m a=K at c;cases c with
 |gk=>rw[b]at d;rcases d with q|q<;>cases q
 |nX _ _=>cases b
 |tN _ _ _=>cases b
 |nt _ _ _=>cases b
def aix(H:gR F):∀(k:Nat) (μ:Mu) (E:fU F) (S:Nat->Jd) (tr:Nat->gu) (m:Nat->iA) (lot:Nat->e9) (gs:Array Ä) (w:Ð) (sl:Option (Nat×Nat)) (t:ä),F.n+1-E.r=k->E.mu tr gs=μ->PI F i zX E S tr m lot gs w t->E.M≠ .gd-> ∃(N:Nat) (E':fU F) (b:Nat->Jd) (o:Nat->gu) (c:Nat->iA) (d:Nat->e9) (gs':Array Ä) (w':Ð) (r:Option (Nat×Nat)) (a:ä),Χ F.P N (ð gs w sl) t=(ğ<|ð gs' w' r,a)/\PI F i zX E' b o c d gs' w' a/\E'.M=.gd/\Kq F zX a:=by
 intro k
 induction k using Ď with
 |_ k ihk=>
  intro μ
  induction (agZ F.N).apply μ with
  |intro μ _ V=>
   intro E S tr m lot gs w sl t hk W p z;let⟨a,g,d,r,hi,iI,B⟩:=crowd_pick (P:=F.P) (w:=w) (sl:=sl) p.Ku<|p.aiw H;have p':=p.at H d;have jH:=p.b;rcases p'.ait H (sl:=r) z hi iI with⟨c,e,f,h,j,s,v,u,x,X,l,b,y⟩|⟨c,e,f,h,j,l,b,y⟩|⟨c,e,f,h,j,s,v,u,x,X,l,b⟩|⟨c,e,f,h,j,s,v,u,x,X,l,b,y⟩
   .have Y:=b.b;let⟨N,C,D,G,I,J,K,L,M,O,Q,T⟩:=V _ (W▸y) c e f h j s v r (t++u) Z U b λq=>z<|l q;exact⟨N+1,C,D,G,I,J,K,L,M,O,by simp only[Χ,B,x];exact Q,T⟩
   .have Y:=b.b;have h6:=b.at H w.drawn;exact V _ (W▸y) c e f h j gs w sl t Z U h6 λq=>z<|l q
   .have Y:=b.b;have q:=Dl b.C;let⟨N,C,D,G,I,J,K,L,M,O,Q,T⟩:=ihk (F.n+1-c.r) Z _ c e f h j s v r (t++u) U U b l;exact⟨N+1,C,D,G,I,J,K,L,M,O,by simp only[Χ,B,x];exact Q,T⟩
   .exact⟨1,c,e,f,h,j,s,v,r,t++u,by simp only[Χ,B,x],l,b,y⟩
end
end Go.Proofs.Y.ft
namespace Go.Proofs.Y.ft
open Go Go.Conc Go.Proofs.Y.Lift Go.RowKit Go.Conc.Lib Go.ConcR.Gen
section
variable{J:Jd}{l:e9}
def Kv(w:Ð)(b:∀j,l.O j->j<w.heap.size):mE l {l with w:=w} w w #[]:= ⟨Ç _,λ_ h=>À h,b,U,U,U,U,λ_ _ _ _=>rfl,λ_ _ _ _=>rfl,λ_ _ _=>rfl,U,U,U,λe a=>by simp at a,by simp[Ï],U,λ_=>⟨U,λe a=>by simp at a,U⟩,U⟩
def lH(a:∀j,l.O j->j<l.w.heap.size){w₁:Ð}(r:fE l l.w w₁):∀j,l.O j->j<w₁.heap.size:=λj b=>Ê (a j b) r.r
def PO{R:Ð->Ð->Prop}{m:Ä->Ð->Prop}:∀{n:Nat} {g:Ä} {l:e9},İ P yQ R à m n g l.w->(∀w c,fE l w c->R w c)->(∀j,l.O j->j<l.w.heap.size)->(∀c d,fE l l.w c->m d c->fh P yQ J {l with w:=c} d)->fh P yQ J l g:=by
 intro n
 induction n with
 |zero=>
  intro g l h j i e;exact(fh.fA λc r=>e c g r<|h c<|j _ _ r).fe
 |succ n p=>
  intro g l h j i e;rcases h with h|⟨s,h⟩
  .exact(fh.fA λc r=>e c g r<|h c<|j _ _ r).fe
  .refine .mk s λc r=> ?_;have f:=h c<|j _ _ r;cases o:è P yQ g c with
   |go d k y=>
    rw[o,ť]at f;let⟨⟨t,u⟩,v⟩:=f;subst t u;exact⟨d,k,#[],{l with w:=k},U,Kv k<|lH i r,p v (λa b q=>j a b<|zd q) (lH i r) λa b q x=>e a b (r.fe<|zd q) x⟩
   |_=>rw[o]at f;exact f.elim
def aiy{m:Ο}(b:m=õ\/m=î)(w:Ð)(c:∀j,l.O j->j<w.heap.size):mE l {l with d:=Ï l.d #[jV m],w:=w} w w #[jV m]:=by
 refine⟨Ç _,λ_ h=>À h,c,U,U,U,U,λ_ _ _ _=>rfl,λ_ _ _ _=>rfl,λ_ _ _=>rfl,U,U,U,λe a=> ?_,U,U,λ_=>⟨U,λe a=> ?_,U⟩,U⟩
 .have:e=jV m:=by simpa using a
  subst this;rcases b with rfl|rfl
  .exact Á<|Á<|Á<|À U
  .exact Á<|Á<|Á<|Á<|À U
 .have:e=jV m:=by simpa using a
  subst this;rcases b with rfl|rfl<;>rfl
def fh.aiz{m:Ο}{b:Ä}(c:m=õ\/m=î)(e:g.status=Å)(f:∀j,l.O j->j<l.w.heap.size)(h:∀a,è P yQ g a=ş b a #[jV m])(i:∀a,fE l l.w a->fh P yQ J {l with d:=Ï l.d #[jV m],w:=a} b):fh P yQ J l g:= .mk e λa r=>⟨b,a,_,_,h a,aiy c a<|lH f r,i a r⟩
def nD(b:Nat)(w:Ð):Prop:=(w.cell? ⟨b,0,Í⟩).isSome=Ì/\(w.cell? ⟨b,1,Í⟩).isSome=Ì
def nD.r(h:nD b w):∃v,w.cell? ⟨b,0,Í⟩=Ã v:=ü.1 h.1
def nD.C(h:nD b w):∃v,w.cell? ⟨b,1,Í⟩=Ã v:=ü.1 h.2
def RS(Ψ:Ð->Prop)(b:Nat)(w a:Ð):Prop:=w.heap.size<=a.heap.size/\(nD b w->nD b a)/\(Ψ w->Ψ a)
def SW(Ψ:Ð->Prop)(l:e9)(b:Nat)(w:Ð):Prop:=(∀j,l.O j->j<w.heap.size)/\nD b w/\Ψ w
def fH{Ψ:Ð->Prop}(h:SW Ψ l b w)(r:RS Ψ b w u):SW Ψ l b u:=⟨λj a=>Ê (h.1 j a) r.1,r.2.1 h.2.1,r.2.2 h.2.2⟩
def mf(Ψ:Ð->Prop)(l:e9)(b:Nat):Prop:=(l.K ⟨b,0,Í⟩\/l.M b)/\(l.K ⟨b,1,Í⟩\/l.M b)/\∀w c:Ð,w.heap.size<=c.heap.size->(∀j,l.M j->c.heap[j]?=w.heap[j]?)->(∀a,l.C a->c.cell? a=w.cell? a)->(∀a,l.C a->c.frozen? a=w.frozen? a)->(∀a,l.K a->(w.cell? a).isSome=Ì->(c.cell? a).isSome=Ì)->Ψ w->Ψ c
def mf.r{Ψ:Ð->Prop}(h:mf Ψ l b)(r:fE l w u):RS Ψ b w u:=⟨r.r,λq=>⟨h.1.elim (λk=>r.S _ k q.1) λm=>(by rw[gM<|r.I b m];exact q.1),h.2.1.elim (λk=>r.S _ k q.2) λm=>(by rw[gM<|r.I b m];exact q.2)⟩,h.2.2 w u r.r r.I r.N r.Y r.S⟩
def jI{Ψ:Ð->Prop}(a:mf Ψ l b)(hF:SW Ψ l b l.w)(c:İ P yQ (RS Ψ b) à (λd e=>fh P yQ J {l with w:=e} d) n g l.w):fh P yQ J l g:= PO c (λ_ _ r=>a.r r) hF.1 λ_ _ _ h=>h
def nY{Ψ:Ð->Prop}(c:mf Ψ l b)(hF:SW Ψ l b l.w)(h:∀a,SW Ψ l b a->J {l with w:=a} g):fh P yQ J l g:=.fA λa r=>h a<|fH hF<|c.r r
def vw{Ψ:Ð->Prop}(e:mf Ψ l b)(hF:SW Ψ l b l.w){m:Ο}{c:Ä}(f:m=õ\/m=î)(i:g.status=Å)(h:∀a,è P yQ g a=ş c a #[jV m])(j:∀a,SW Ψ l b a->fh P yQ J {l with d:=Ï l.d #[jV m],w:=a} c):fh P yQ J l g:= .aiz f i hF.1 h λa r=>j a<|fH hF<|e.r r
end
section
variable{b:ô}{i:List Ů}
def Kw(m:Ο)(c:∀g,m≠.extern g)(d:y.defers=dcall F #[]::i)(e:P.funcs[F]?=Ã s)(f:(s.name== "runtime.NumGoroutine")=É)(j:s.body.isNone=Ì)(k:Extern.findNext s=Í) (l:Extern.find s=Ã λ_=>do mark m;pure Extern.Race.none_) (w:Ð):è P yQ (G {b.at y L with mode:=ù} qX) w=ş (G {b.at ⟨y.tmps,i⟩ L with mode:=ù} qX) w #[jV m]:= stepG_unwind_entry (v:=ı #[]) d e f j k l (by simp[Extern.Race.none_,jV]) (by simp[jV])<|by intro x a;simp[jV]at a;subst a;exact⟨U,λg h=>c g<|Loc.mark.inj h⟩
end
theorem YH(s:Nat)(h:s%4294967296<2147483648):s&&&2147483648=0:=by
 have e:(2147483648:Nat)=(2^32-1)&&&2147483648:=A
 have a:(2:Nat)^32=4294967296:=A
 rw[e,<-Nat.and_assoc,Ą,a];have c:s%4294967296=(s%4294967296)&&&(2^31-1):=by rw[Ą];have b:(2:Nat)^31=2147483648:=A;rw[b];omega
 grind
theorem DL(s:Int)(a:0<=s)(b:s<1000000*4294967296)(h:s%4294967296<1000000):bits .and Ó s 2147483648=0:=by obtain⟨n,rfl⟩:=Int.eq_ofNat_of_zero_le a;have h:=(bits_nat Ó 63 A ø n 2147483648 Z A).1;grind [YH]
theorem DR(s:Int)(a:0<=s)(b:s<1000000*4294967296)(h:s%4294967296<1000000):bits .and Ó s 2147483647=s%4294967296:=by have h:=bits_mask Ó 63 A ø 31 A s a Z;grind
def Kx(L:ě):Array Ĭ:=#[{dst:=Ã 113,op:=Ŧ<|ß 0,type:=L.tWgP,pos:= "waitgroup.go:142",after:=#[],guard:=Í},{dst:=Ã 114,op:=Op.nilCheck<|ß 113,type:=0,pos:= "waitgroup.go:142",after:=#[{on:=0,ground:=ý}],guard:=Í},{dst:=Ã 115,op:=Op.fieldAddr L.tWg (ß 114) 2,type:=0,pos:= "waitgroup.go:142",after:=#[{on:=1,ground:=ý}],guard:=Í},{dst:=Ã 116,op:=Ŭ {callee:=Callee.value<|ŧ L.semrelease,args:=#[ß 115,ċ<|Value.bool É,ċ<|ë Ũ 0],argTypes:=#[L.tPU32,4,3]},type:=0,pos:= "waitgroup.go:142",after:=#[{on:=2,ground:=ý}],guard:=Í}]
def Ky(L:ě):Array Ĭ:=#[{dst:=Ã 111,op:=Ŧ<|ß 8,type:=L.tU32,pos:= "waitgroup.go:141",after:=#[],guard:=Í},{dst:=Ã 112,op:=Ω BinOp.sub L.tU32 (ß 111) (ċ<|ë ç 1) L.tU32,type:=L.tU32,pos:= "waitgroup.go:141",after:=#[{on:=0,ground:=ý}],guard:=Í},{dst:=Ã 8,op:=Op.assign<|ß 112,type:=L.tU32,pos:= "waitgroup.go:141",after:=#[{on:=1,ground:=ý},{on:=0,ground:=ũ},{on:=1,ground:=ũ}],guard:=Í}]
def Kz(L:ě)(b:Nat)(t:Array ã)(a:List ô):Ä:=G ((base L.add).at ⟨t,[dcall L.enable #[]]⟩ [Æ (Kx L) [3],ŏ 2,ĵ<|Ģ 33 (Ky L) É,Ρ<|((Ģ 32 #[{dst:=Ã 109,op:=Ŧ<|ß 8,type:=L.tU32,pos:= "waitgroup.go:141",after:=#[],guard:=Í},{dst:=Ã 110,op:=Ω BinOp.neq L.tU32 (ß 109) (ċ<|ë ç 0) L.tU32,type:=4,pos:= "waitgroup.go:141",after:=#[{on:=0,ground:=ý}],guard:=Í}] É).seq<|Τ (ß 110) ο<|Code.exit 1).seq<|(ε 2<|Ģ 34 (Kx L) É).seq<|Ģ 33 (Ky L) É,ŏ 1])<|(base L.done).at {tmps:=#[ì<|Ã {block:=b,off:=0},Â,ì<|Ã {block:=b,off:=0},Â],defers:=[]} [Æ #[{dst:=Ã 2,op:=Ŧ<|ß 0,type:=L.tWgP,pos:= "waitgroup.go:156",after:=#[],guard:=Í},{dst:=Ã 3,op:=Ŭ {callee:=Callee.value<|ŧ L.add,args:=#[ß 2,ċ<|ë Ũ<|-1],argTypes:=#[L.tWgP,3]},type:=0,pos:= "waitgroup.go:156",after:=#[{on:=0,ground:=ý}],guard:=Í}] [1]]::a
section
variable{Ψ:Ð->Prop}{L:ě}{l:e9}{e:Jd}{k:List Ţ}
def aiA(H:Ŕ P L)(h:mf Ψ l b)(s:∀a,SW Ψ l b a->fh P É e {l with d:=0,w:=a} (G (f.at (y.put ((Q[i]?).bind (·.dst))<|ı #[])<|Æ Q jJ::k) qX)): ∀(r:Nat) (c:Int) (t u v x z B C D E F I J K M N O S T V W X Y rE sS rF pz ov p7 p8 p9 uh sT sU rG rH ui uj uk um uo uq uu uw uy qa qc xl PQ PU PV PW PX PY PZ P0 P1 P3 P4 P5 P7 P8 P9 Qa Qb Qc Qd Qe Qf Qg Qh Qi Qj Qk Ql Qm Qo Qp Qq Qr Qs Qt Qu Qv Qw Qx Qy Qz QA QB QC QD QF QG QH QI QJ QK QL QM QO QP QR QS QU QV QW QX QY QZ Q0 Q5 Q6 Q7 Q8:ã) (a:Ð),SW Ψ l b a->(c<=(r:Int)+1/\(r:Int)+1<=c)->r+1<1000000-> fh P É (F5 P É b (fh P É e)<|r+1) {l with d:=1,w:=a} (Kz L b #[ì<|Ã ⟨b,0,Í⟩,t,u,v,x,z,B,C,ë ç c,D,E,F,I,J,K,M,N,O,S,T,V,W,X,Y,rE,sS,rF,pz,ov,p7,p8,p9,uh,sT,sU,rG,rH,ui,uj,uk,um,uo,uq,uu,uw,uy,qa,qc,xl,PQ,PU,PV,PW,PX,PY,PZ,P0,P1,P3,P4,P5,P7,P8,P9,Qa,Qb,Qc,Qd,Qe,Qf,Qg,Qh,Qi,Qj,Qk,Ql,Qm,Qo,Qp,Qq,Qr,Qs,Qt,Qu,Qv,Qw,Qx,Qy,Qz,QA,QB,QC,QD,QF,QG,QH,QI,QJ,QK,QL,QM,QO,QP,QR,QS,QU,QV,QW,QX,QY,QZ,Q0,Q5,Q6,Q7,ì<|Ã ⟨b,1,Í⟩,Q8]<|f.at y (Æ Q (i::jJ)::k)::qX):=by
 intro r;unfold Kz Kx Ky;lib_facts
 induction r with
 |zero=>
  intro c;intros;rename_i a hF p q;have e1:c=1:=Z
  subst e1;clear p q;refine nY (l:={l with d:=1,w:=a}) h hF λj hF=>⟨U,U,Ĝ U U H.f_semrelease<|æ L,_,U,λa n m o=>(ą U U (by k_ne) U H.f_semrelease (Ĕ L) (æ L) (ĕ L) (Ė L) (by simp[þ,gW]) m o).trans fN,?_⟩;walk_nrm;apply jI (l:={l with d:=1,w:=j}) h hF (n:=50);iterate 17 w_go fH
  refine Î λa g=> ?_;replace hF:=fH hF g;clear g;refine vw (l:={l with d:=1,w:=a}) h hF (Á U) U (λw=>Kw î fj U H.f_enable (Ĥ L) (ĥ L) (Ħ L) (ħ L) w) λBh hF=> ?_;have py:Ï 1 #[jV î]=0:=rfl;rw[py];apply jI (l:={l with d:=0,w:=Bh}) h hF (n:=10);u_leave0 H.f_add fH hF;iterate 2 w_go fH
  u_leave0 H.f_done fH hF
  refine Î λa g=> ?_;replace hF:=fH hF g;clear g;exact s _ hF
 |succ r ih=>
  intro c;intros;rename_i a hF p q;have g1:(c-1)%4294967296=c-1:=Z
  have g2:(c-1 !=0)=Ì:=by simp;omega
  refine nY (l:={l with d:=1,w:=a}) h hF λj hF=>⟨U,U,Ĝ U U H.f_semrelease<|æ L,_,U,λa n m o=>(ą U U (by k_ne) U H.f_semrelease (Ĕ L) (æ L) (ĕ L) (Ė L) (by simp[þ,gW]) m o).trans fN,?_⟩;walk_nrm;apply jI (l:={l with d:=1,w:=j}) h hF (n:=50);iterate 22 w_go fH
  refine Î λa g=> ?_;replace hF:=fH hF g;clear g;apply ih (c-1)<;>first|exact hF|omega
end
section
variable{b:ô}{a:ō}{k:List Ţ}{cs:List ô}{d:Nat}
def rI(P:Ğ)(d:Nat)(g:Ä):Prop:=∃N,Ź P N d g
def DU(P:Ğ):Jd:=λl g=>rI P l.d g
def KA{a:Ä}(b:g.status=Å)(h:∀w,è P É g w=ş a w)(c:rI P d a):rI P d g:=let⟨n,q⟩:=c;⟨n+1,.ctl b h q⟩
def auK(f:Q[i]?=Ã o)(g:á o (Ĩ Q a.tmps)=Ì)(j:b.kind≠Đ) (h:∀(w:Ð) (K:ō->Ð->Prop),K y w->uponK o a K ((Þ a.eval o).run P w)) (n:∀w,(Þ a.eval o).events P w #[]=#[]) (p:rI P d (G (b.at y<|Æ Q jJ::k) cs)):rI P d (G (b.at a<|Æ Q (i::jJ)::k) cs):=by
 refine KA U (λw=> ?_) p;have e:=h w (λx c=>x=y/\c=w) ⟨U,U⟩;have l:listed P b.fn a o w=#[]:=by unfold listed;rw[n w,Ć]
 revert e;generalize m:(Þ a.eval o).run P w=r;intro e;match r,e with
 |.ok (.value v) w',⟨c,x⟩=>subst x;rw[Ń f g j m,l,c]
 |.ok .skip w',⟨c,x⟩=>subst x;rw[Ŗ f g j m,l,c]
def Q9:∀{n m d:Nat} {g:Ä},n<=m->Ź P n d g->Ź P m d g
 |0,0,_,_,_,h=>h
 |0,_+1,_,_,_,h=>À h
 |_+1,0,_,_,e,_=>absurd e Z
 |_+1,_+1,_,_,e,h=>h.imp id λ⟨a,b,c,f,i,j⟩=>⟨a,b,c,f,i,Q9 (Nat.le_of_succ_le_succ e) j⟩
def GH{n:Nat}{ops:Array Oper}{i:Nat}{rest:List Nat}{o:Oper}{a':Act}(hq:QuitsD P n d (G (b.at a'<|.inRegion ops rest::k) cs))(ho:ops[i]?=some o:=by rfl)(hw:Region.wanted o (yielded ops a.tmps)=true:=by rfl)(hk:b.kind≠.early:=by k_ne) (h:∀(w:World) (K:Act->World->Prop),K a' w->uponK o a K ((execOp a.eval o).run P w):=by intro w K hK;go_simp;(try w_num);exact hK) (he:∀w,(execOp a.eval o).events P w #[]=#[]:=by intro _;simp[go_sem, *]): QuitsD P (n+1) d (G (b.at a<|.inRegion ops (i::rest)::k) cs):=by
 refine QuitsD.ctl U (λw=> ?_) hq;have h1:=h w (λx y=>x=a'/\y=w) ⟨U,U⟩;have h2:listed P b.fn a o w=#[]:=by unfold listed;rw[he w,Ć]
 revert h1;generalize hr:(Þ a.eval o).run P w=r;intro h1;match r,h1 with
 |.ok (.value v) w',⟨e1,e2⟩=>subst e2;rw[Ń ho hw hk hr,h2,e1]
 |.ok .skip w',⟨e1,e2⟩=>subst e2;rw[Ŗ ho hw hk hr,h2,e1]
end
section
variable{Ψ:Ð->Prop}{L:ě}{b:Nat}{l:e9}{a:ō}{ops:Array Ĭ}{rest:List Nat}{k:List Ţ}{cs:List ô}
def aiB(H:Ŕ P L)(g:mf Ψ l b)(h:rI P 0 (G (f.at (a.put ((ops[i]?).bind (·.dst))<|ı #[])<|Æ ops rest::k) cs)): ∀(r:Nat) (c:Int) (t u v x y z B C D E F I J K M N O Q S T V W X Y rF pz ov p7 p8 p9 uh sT sU rG rH ui uj uk um uo uq uu uw uy qa qc xl PQ PU PV PW PX PY PZ P0 P1 P3 P4 P5 P7 P8 P9 Qa Qb Qc Qd Qe Qf Qg Qh Qi Qj Qk Ql Qm Qo Qp Qq Qr Qs Qt Qu Qv Qw Qx Qy Qz QA QB QC QD QF QG QH QI QJ QK QL QM QO QP QR QS QU QV QW QX QY QZ Q0 Q5 Q6 Q7 Q8:ã) (e:Ð),SW Ψ l b e->(c<=(r:Int)+1/\(r:Int)+1<=c)->r+1<1000000-> fh P É (F5 P É b (DU P)<|r+1) {l with d:=1,w:=e} (Kz L b #[ì<|Ã ⟨b,0,Í⟩,t,u,v,x,y,z,B,ë ç c,C,D,E,F,I,J,K,M,N,O,Q,S,T,V,W,X,Y,rF,pz,ov,p7,p8,p9,uh,sT,sU,rG,rH,ui,uj,uk,um,uo,uq,uu,uw,uy,qa,qc,xl,PQ,PU,PV,PW,PX,PY,PZ,P0,P1,P3,P4,P5,P7,P8,P9,Qa,Qb,Qc,Qd,Qe,Qf,Qg,Qh,Qi,Qj,Qk,Ql,Qm,Qo,Qp,Qq,Qr,Qs,Qt,Qu,Qv,Qw,Qx,Qy,Qz,QA,QB,QC,QD,QF,QG,QH,QI,QJ,QK,QL,QM,QO,QP,QR,QS,QU,QV,QW,QX,QY,QZ,Q0,Q5,Q6,Q7,ì<|Ã ⟨b,1,Í⟩,Q8]<|f.at a (Æ ops (i::rest)::k)::cs):=by
 intro r;unfold Kz Kx Ky;lib_facts
 induction r with
 |zero=>
  intro c;intros;rename_i e hF o p;have e1:c=1:=Z
  subst e1;clear o p;refine nY (l:={l with d:=1,w:=e}) g hF λq hF=>⟨U,U,Ĝ U U H.f_semrelease<|æ L,_,U,λe n j m=>(ą U U (by k_ne) U H.f_semrelease (Ĕ L) (æ L) (ĕ L) (Ė L) (by simp[þ,gW]) j m).trans fN,?_⟩;walk_nrm;show rI P 1 _;let⟨n,h⟩:=h;refine⟨n+150,?_⟩;repeat(first|refine GH ?_|q_go)
  q_en H L
  q_leave0 H.f_add
  repeat(first|refine GH ?_|q_go)
  q_leave0 H.f_done
  exact Q9 Z h
 |succ r ih=>
  intro c;intros;rename_i e hF o p;have g1:(c-1)%4294967296=c-1:=Z
  have g2:(c-1 !=0)=Ì:=by simp;omega
  refine nY (l:={l with d:=1,w:=e}) g hF λq hF=>⟨U,U,Ĝ U U H.f_semrelease<|æ L,_,U,λe n j m=>(ą U U (by k_ne) U H.f_semrelease (Ĕ L) (æ L) (ĕ L) (Ė L) (by simp[þ,gW]) j m).trans fN,?_⟩;walk_nrm;apply jI (l:={l with d:=1,w:=q}) g hF (n:=50);iterate 22 w_go fH
  refine Î λe s=> ?_;replace hF:=fH hF s;clear s;apply ih (c-1)<;>first|exact hF|omega
end
section
variable{Ψ:Ð->Prop}{L:ě}{l:e9}{k:List Ţ}
def aiC(H:Ŕ P L)(J:l.K ⟨b,0,Í⟩/\l.K ⟨b,1,Í⟩)(z:mf Ψ l b)(hF:SW Ψ l b l.w)(B:l.d=0)(q:rI P 0 (G (f.at (y.put ((Q[i]?).bind (·.dst))<|ı #[])<|Æ Q jJ::k) qX)): fh P É (λl g=>yL P É b (DU P) (kC l) g) l (G ((base L.done).at ⟨#[ì<|Ã ⟨b,0,Í⟩,Â,Â,Â],[]⟩ [ĵ<|body_done L])<|f.at y (Æ Q (i::jJ)::k)::qX):=by
 lib_facts;simp only[body_done,doneFn,ć];apply jI z hF (n:=40);iterate 2 w_go fH
 u_call H.f_add (nm_add L) addFn fH hF
 iterate 11 w_go fH
 u_conv H.underlying_tWgP H.room_tWg (nD.r hF.2.1).choose_spec fH hF
 refine Î λa g=> ?_;replace hF:=fH hF g;clear g;refine nY (l:={l with w:=a}) z hF λc hF=>⟨B,U,_,λ_=>Ē Į fj U U (by k_ne) U H.f_relMerge (x_relMerge_n L) (x_relMerge_b L) (x_relMerge_x L) (x_relMerge_f L) (by simp[þ,fM]),?_⟩;walk_nrm;have e:mf (λ_=>True) (kC {l with w:=c}) b:=⟨À J.1,À J.2,λ_ _ _ _ _ _ _ _=>trivial⟩;have C:SW (λ_=>True) (kC {l with w:=c}) b (kC {l with w:=c}).w:=⟨λj h=>h.elim,hF.2.1,trivial⟩;have M:(kC {l with w:=c}).d=0:=B;generalize kC {l with w:=c}=l2 at e C M|-;replace hF:=C;clear C z B;apply jI e hF (n:=10);iterate 3 w_go fH
 refine Î λa g=> ?_;replace hF:=fH hF g;clear g;refine vw (l:={l2 with w:=a}) e hF (À U) U (λ_=>Ę õ fj U U (by k_ne) U H.f_disable (ń L) (Ņ L) (ņ L)<|Ň L) λT hF=> ?_;walk_nrm;have V:Ï l2.d #[jV õ]=1:=by rw[M];rfl
 rw[V];apply jI (l:={l2 with d:=1,w:=T}) e hF (n:=50);iterate 2 w_go fH
 u_defer fH hF
 iterate 8 w_go fH
 u_bub fH hF
 iterate 11 w_go fH
 u_call H.f_uAdd (nm_uAdd L) uAddFn fH hF
 iterate 10 w_go fH
 refine Î λa g=> ?_;replace hF:=fH hF g;clear g;refine nY (l:={l2 with d:=1,w:=a}) e hF λc hF=>⟨U,U,λv=>⟨_,λa p D=>(Ľ U U (by k_ne) U H.f_addU64 (Ž L) (ž L) (ſ L) Ó (Α L) U U p D).trans fN,?_⟩⟩;walk_nrm;have N:Ó.wrap (v+18446744069414584320)=Ó.wrap (v+qG):=rfl;rw[N];clear N;obtain⟨s,E⟩:∃s,Ó.wrap (v+qG)=s:=⟨_,U⟩;simp only[E];have F:0<=s:=by rw[<-E];have:Ó.wrap (v+qG)=(v+qG)%18446744073709551616:=rfl;rw[this];omega
 clear E v;by_cases o:s=0\/(fY<=s/\s<1000000*fY/\s%fY<1000000)
 .rw[if_pos o];by_cases m:s=0;focus
   subst m;clear o F
  rotate_left;focus
   have W:=o.resolve_left m;clear o m F;let⟨X,Y,c6⟩:=W;have q4:(4294967296:Int)<=s:=X;have I:s<1000000*4294967296:=Y;have O:s%4294967296<1000000:=c6;have f1:=DL s Z I O;have t:=DR s Z I O;obtain⟨x,g1⟩:∃x,(s/4294967296+2147483648)%4294967296-2147483648=x:=⟨_,U⟩;have g2:¬x<0:=Z
   have g3:0<x:=Z
   by_cases u:s%4294967296=0;focus rw[u]at t
   rotate_left;focus
    obtain⟨r,g4⟩:∃r,s%4294967296=r:=⟨_,U⟩;rw[g4]at t u;have S:r%4294967296=r:=Z
    have g6:(r !=0)=Ì:=by simpa using u
  all_goals
   show rI P 1 _;let⟨n,q⟩:=q;refine⟨n+150,?_⟩;repeat(first|refine GH ?_|q_go)
   q_leave1 H.f_uAdd
   repeat(first|refine GH ?_|q_go)
   q_en H L
   q_leave0 H.f_add
   repeat(first|refine GH ?_|q_go)
   q_leave0 H.f_done
   exact Q9 Z q
 .rw[if_neg o];by_cases m:0<s/\s<1000000
  .rw[if_pos m];let⟨q4,I⟩:=m;clear o F;have f1:=DL s Z Z Z;have t:=DR s Z Z Z;have g1:(s/4294967296+2147483648)%4294967296-2147483648=0:=Z
   have S:s%4294967296=s:=Z
   rw[S]at t;have g6:(s !=0)=Ì:=by simp;omega
   have X:(s==0)=É:=by simp;omega
   have O:(s.toNat:Int)=s:=Z
   apply jI (l:={l2 with d:=1,w:=c}) e hF (n:=150);iterate 3 w_go fH
   u_leave1 H.f_uAdd fH hF
   iterate 89 w_go fH
   u_call H.f_uLoad (ů L) Ξ fH hF
   iterate 9 w_go fH
   refine Î λa g=> ?_;replace hF:=fH hF g;clear g;refine nY (l:={l2 with d:=1,w:=a}) e hF λc hF=>⟨U,U,λv=>⟨_,λa p=>ę U U (by k_ne) U H.f_loadU64 (ň L) (ŉ L) (Ŋ L) Ó (ŋ L) U p,?_⟩⟩;show fh P É (if v=(s.toNat:Int)then JX P É b (DU P) s.toNat else λ_ _=>True) _ _;by_cases u:v=(s.toNat:Int)
   .rw[if_pos u];rw[O]at u;subst u;walk_nrm;have Y:(v !=v)=É:=fj
    apply jI (l:={l2 with d:=1,w:=c}) e hF (n:=150);iterate 3 w_go fH
    u_leave1 H.f_uLoad fH hF
    iterate 10 w_go fH
    u_call H.f_uStore (nm_uStore L) uStoreFn fH hF
    iterate 5 w_go fH
    refine Î λa g=> ?_;replace hF:=fH hF g;clear g;refine nY (l:={l2 with d:=1,w:=a}) e hF λc hF=>⟨U,U,_,λa x p D=>stepG_store_atomic U U (by k_ne) U H.f_storeU64 (x_storeU64_n L) (x_storeU64_b L) (x_storeU64_x L) (x_storeU64_f L) U U p D,?_⟩;walk_nrm;obtain⟨r,W⟩:∃r,v.toNat=r+1:=⟨v.toNat-1,Z⟩;rw[W];apply jI (l:={l2 with d:=1,w:=c}) e hF (n:=150);iterate 2 w_go fH
    u_leave0 H.f_uStore fH hF
    iterate 24 w_go fH
    refine Î λa g=> ?_;replace hF:=fH hF g;clear g;apply aiB H e q r v<;>first|exact hF|omega
   .rw[if_neg u];exact .fA λ_ _=>trivial
  .rw[if_neg m];trivial
end
def RT(_ _:Ð):Prop:=True
def fu{w₁:Ð}(_:True)(_:RT w w₁):True:=trivial
def aiD(s:Int)(a:0<=s)(b:s<9223372036854775808)(h:s%4294967296<1000000):bits .and Ó s 2147483648=0:=by obtain⟨n,rfl⟩:=Int.eq_ofNat_of_zero_le a;have h:=(bits_nat Ó 63 A ø n 2147483648 Z A).1;rw[YH n Z]at h;simpa using h
def aiE(s:Int)(a:0<=s)(c:s<9223372036854775808)(h:s%4294967296<1000000):bits .and Ó s 2147483647=s%4294967296:=by
 have h:=bits_mask Ó 63 A ø 31 A s a Z;have e:((2:Int)^31-1)=2147483647:=A
 have b:((2:Int)^31)=2147483648:=A
 rw[e,b]at h;rw[h];omega
section
variable(P:Ğ)(L:ě)(f:Bool)(b:Nat)(j:Jd)(c:ô)(m:List ô)(l:e9)
def YI(g:Ä):Prop:=∃T:Array ã,g=G ((base L.wait).at ⟨T,[]⟩ [ĵ<|L7 L,Ρ<|L7 L,ŏ 0]) (c::m)/\T.size=84/\T[0]?=Ã (ì<|Ã ⟨b,0,Í⟩)
def YJ(v:Int)(g:Ä):Prop:=g.status=Å/\
 (∃a,(∀w:Ð,w.cell? (fM b)=Ã (ë Ó v)->w.frozen? (fM b)=É->è P f g w=ş a (w.setCell (fM b)<|ë Ó<|Ó.wrap<|v+1) #[kA<|fM b,mS<|fM b])/\fh P f (if v%fY=0 then OP P f b j else JZ P f b j) l a)/\
 ∃a,(∀(w:Ð) (x:Int),x≠v->w.cell? (fM b)=Ã (ë Ó x)->w.frozen? (fM b)=É->è P f g w=ş a w #[kA<|fM b])/\∀w,İ P f RT à (λg _=>YI L b c m g) 10 a w
def Ra(g:Ä):Prop:=g.status=Å/\∀v,∃a,(∀w:Ð,w.cell? (fM b)=Ã (ë Ó v)->è P f g w=ş a w #[kA<|fM b])/\(0<=v/\v<1000000->fh P f (F6 P f b j) l a)/\
 ((fY<=v/\v<fY*2147483648/\v%fY<1000000)->∀w,İ P f RT à (λg _=>YJ P L f b j c m l v g) 60 a w)
end
section
variable{Ψ:Ð->Prop}{P:Ğ}{L:ě}{f:Bool}{b:Nat}{l:e9}{j:Jd}{c:ô}{a:ō}{k:List Ţ}{m:List ô}
def YK(H:Ŕ P L)(p:mf Ψ l b)(J:SW Ψ l b l.w)(u:l.d=1)(z:∀o,SW Ψ l b o->fh P f j {l with d:=0,w:=o} (G (c.at (a.put ((Q[i]?).bind (·.dst))<|ı #[])<|Æ Q jJ::k) m)) (h:YI L b (c.at a<|Æ Q (i::jJ)::k) m g) (w:Ð):İ P f RT à (λg _=>Ra P L f b j (c.at a<|Æ Q (i::jJ)::k) m l g) 30 g w:=by
 lib_facts;obtain⟨T,rfl,V,K⟩:=h;obtain⟨v0,v1,v2,v3,v4,v5,v6,v7,v8,v9,v10,v11,v12,v13,v14,v15,v16,v17,v18,v19,v20,v21,v22,v23,v24,v25,v26,v27,v28,v29,v30,v31,v32,v33,v34,v35,v36,v37,v38,v39,v40,v41,v42,v43,v44,v45,v46,v47,v48,v49,v50,v51,v52,v53,v54,v55,v56,v57,v58,v59,v60,v61,v62,v63,v64,v65,v66,v67,v68,v69,v70,v71,v72,v73,v74,v75,v76,v77,v78,v79,v80,v81,v82,v83,rfl⟩:=array84 T V;simp only[List.getElem?_toArray,List.getElem?_cons_zero,Ķ]at K;subst K;have hF:True:=trivial;simp only[L7,ţ,waitFn,ć];iterate 6 w_go fu
 u_call H.f_uLoad (ů L) Ξ fu hF
 iterate 9 w_go fu
 refine Î λo e=> ?_;clear e hF o;refine⟨U,λv=>⟨_,λo q=>ę U U (by k_ne) U H.f_loadU64 (ň L) (ŉ L) (Ŋ L) Ó (ŋ L) U q,λB=> ?_,λB w=> ?_⟩⟩
 .walk_nrm;let⟨t,x⟩:=B;have W:=DL v Z Z Z;have C:=DR v Z Z Z;have X:(v/4294967296+2147483648)%4294967296-2147483648=0:=Z
  have M:v%4294967296=v:=Z
  rw[M]at C;have hF:=J;apply jI (l:=l) p hF (n:=150);iterate 3 w_go fH
  u_leave1 H.f_uLoad fH hF
  iterate 27 w_go fH
  refine Î λo e=> ?_;replace hF:=fH hF e;clear e;refine vw (l:={l with w:=o}) p hF (Á U) U (λ_=>Ę î fj U U (by k_ne) U H.f_enable (Ĥ L) (ĥ L) (Ħ L)<|ħ L) λD hF=> ?_;have E:Ï l.d #[jV î]=0:=by rw[u];rfl
  rw[E];walk_nrm;apply jI (l:={l with d:=0,w:=D}) p hF (n:=50);iterate 3 w_go fH
  u_conv H.underlying_tWgP H.room_tWg (nD.r hF.2.1).choose_spec fH hF
  refine Î λo e=> ?_;replace hF:=fH hF e;clear e;refine nY (l:={l with d:=0,w:=o}) p hF λr hF=>⟨U,U,_,λ_=>Ē ő fj U U (by k_ne) U H.f_acquire (Ű L) (ű L) (Ų L) (ų L) (by simp[þ,fM]),?_⟩;walk_nrm;by_cases s:v=0
  .subst s;apply jI (l:={l with d:=0,w:=r}) p hF (n:=50);iterate 19 w_go fH
   u_leave0 H.f_wait fH hF
   refine Î λo e=> ?_;replace hF:=fH hF e;clear e;exact z _ hF
  .have S:(v==0)=É:=by simp;omega
   apply jI (l:={l with d:=0,w:=r}) p hF (n:=50);iterate 19 w_go fH
   u_leave0 H.f_wait fH hF
   refine Î λo e=> ?_;replace hF:=fH hF e;clear e;exact z _ hF
 .walk_nrm;let⟨N,O,Y⟩:=B;have q4:(4294967296:Int)<=v:=N;have q5:v<4294967296*2147483648:=O;have F:v%4294967296<1000000:=Y;clear N O;have C:=aiE v Z Z F;obtain⟨I,X⟩:∃I,(v/4294967296+2147483648)%4294967296-2147483648=I:=⟨_,U⟩;have g2:(I==0)=É:=by simp;omega
  have g3:(v+1)%18446744073709551616=v+1:=Z
  have zh:Ó.wrap (v+1)=v+1:=JV Z Z;obtain⟨t,g4⟩:∃t,v%4294967296=t:=⟨_,U⟩;have W:=aiD v Z Z F;rw[g4]at C F;have M:t%4294967296=t:=Z
  have hF:True:=trivial;iterate 3 w_go fu
  u_leave1 H.f_uLoad fu hF
  iterate 32 w_go fu
  u_call H.f_uCas (nm_uCas L) uCasFn fu hF
  iterate 11 w_go fu
  refine Î λo e=> ?_;clear e hF o;refine⟨U,⟨_,λo q y=>(stepG_cas_hit (v:=v) (n:=v+1) U U (by k_ne) U H.f_casU64 (Β L) (Γ L) (Δ L) Ó (Ε L) U U U q y).trans (by rw[zh];rfl),?_⟩,_,λo x lr q y=>stepG_cas_miss (v:=x) (old:=v) (n:=v+1) U U (by k_ne) U H.f_casU64 (Β L) (Γ L) (Δ L) Ó (Ε L) U U U q y lr,λw=> ?_⟩
  .walk_nrm;have hF:=J;by_cases s:v%fY=0;focus
    rw[if_pos s];have s:v%4294967296=0:=s;have:t=0:=Z
    subst this;apply jI (l:=l) p hF (n:=150);iterate 3 w_go fH
    u_leave1 H.f_uCas fH hF
    iterate 15 w_go fH
    u_conv H.underlying_tPU32 H.room_tU32 (nD.C hF.2.1).choose_spec fH hF
    refine Î λo e=> ?_;replace hF:=fH hF e;clear e;refine nY (l:={l with w:=o}) p hF λr hF=>⟨u,U,_,λ_=>Ē Υ fj U U (by k_ne) U H.f_raceWrite (x_raceWrite_n L) (x_raceWrite_b L) (x_raceWrite_x L) (x_raceWrite_f L) (by simp[þ,gW]),?_⟩;walk_nrm;apply jI (l:={l with w:=r}) p hF (n:=150);iterate 23 w_go fH
   rotate_left;focus
    rw[if_neg s];have s:¬v%4294967296=0:=s;have S:(t==0)=É:=by simp;omega
    apply jI (l:=l) p hF (n:=150);iterate 3 w_go fH
    u_leave1 H.f_uCas fH hF
    iterate 34 w_go fH
   all_goals
    refine Î λo e=> ?_;replace hF:=fH hF e;clear e;refine nY (l:={l with w:=o}) p hF λr hF=>⟨u,U,U,λo q=>stepG_semacquire_wait U U U H.f_semacquire (ŗ L) (Ř L) (ř L) (Ś L) (by simp[þ,gW]) q,_,λo n hn q y=>(stepG_semacquire (n:=n) U U (by k_ne) U H.f_semacquire (ŗ L) (Ř L) (ř L) (Ś L) (by simp[þ,gW]) q hn y).trans fN,?_⟩;walk_nrm;apply jI (l:={l with w:=r}) p hF (n:=50);iterate 6 w_go fH
    u_call H.f_uLoad (ů L) Ξ fH hF
    iterate 9 w_go fH
    refine Î λo e=> ?_;replace hF:=fH hF e;clear e;refine nY (l:={l with w:=o}) p hF λr hF=>⟨u,U,λx=>⟨_,λo q=>ę U U (by k_ne) U H.f_loadU64 (ň L) (ŉ L) (Ŋ L) Ó (ŋ L) U q,?_⟩⟩;show fh P f (if x=0 then F6 P f b j else λ_ _=>True) _ _;by_cases S:x=0
    .subst S;rw[if_pos U];walk_nrm;apply jI (l:={l with w:=r}) p hF (n:=50);iterate 3 w_go fH
     u_leave1 H.f_uLoad fH hF
     iterate 7 w_go fH
     refine Î λo e=> ?_;replace hF:=fH hF e;clear e;refine vw (l:={l with w:=o}) p hF (Á U) U (λ_=>Ę î fj U U (by k_ne) U H.f_enable (Ĥ L) (ĥ L) (Ħ L)<|ħ L) λD hF=> ?_;have E:Ï l.d #[jV î]=0:=by rw[u];rfl
     rw[E];walk_nrm;apply jI (l:={l with d:=0,w:=D}) p hF (n:=50);iterate 3 w_go fH
     u_conv H.underlying_tWgP H.room_tWg (nD.r hF.2.1).choose_spec fH hF
     refine Î λo e=> ?_;replace hF:=fH hF e;clear e;refine nY (l:={l with d:=0,w:=o}) p hF λr hF=>⟨U,U,_,λ_=>Ē ő fj U U (by k_ne) U H.f_acquire (Ű L) (ű L) (Ų L) (ų L) (by simp[þ,fM]),?_⟩;walk_nrm;apply jI (l:={l with d:=0,w:=r}) p hF (n:=50);iterate 9 w_go fH
     u_leave0 H.f_wait fH hF
     refine Î λo e=> ?_;replace hF:=fH hF e;clear e;exact z _ hF
    .rw[if_neg S];exact .fA λ_ _=>trivial
  .walk_nrm;have hF:True:=trivial;iterate 3 w_go fu
   u_leave1 H.f_uCas fu hF
   iterate 5 w_go fu
   exact Î λ_ _=>⟨_,U,fj,fj⟩
end
section
variable{Ψ:Ð->Prop}{L:ě}{l:e9}{e:Jd}{k:List Ţ}
def aiF{D:Ð->Ð->Array đ->Prop}{b:Ä->Ð->Prop}(h:İ P yQ RT D b n g w):İ P yQ RT D b n g u:=by
 cases n with
 |zero=>exact λa _=>h a trivial
 |succ n=>exact h.imp (λq a _=>q a trivial) λq=>⟨q.1,λa _=>q.2 a trivial⟩
def YL{D:Ð->Ð->Array đ->Prop}{b c:Ä->Prop}(d:∀g,b g->∀w,İ P yQ RT D (λg _=>c g) m g w):∀{n:Nat} {g:Ä} {w:Ð},İ P yQ RT D (λg _=>b g) n g w->İ P yQ RT D (λg _=>c g) (n+m) g w:=by
 intro n
 induction n with
 |zero=>intro g w h;rw[Nat.zero_add];exact d g (h w trivial) w
 |succ n i=>
  intro g w h;rcases h with h|⟨j,h⟩
  .exact(d g (h w trivial) w).mono Z
  .rw[show n+1+m=(n+m)+1 by omega];refine Goes.step j λe r=> ?_;have a:=h e r;cases f:è P yQ g e with
   |go k l o=>
    rw[f,ť]at a;rw[ť];exact⟨a.1,i a.2⟩
   |_=>rw[f]at a;exact a.elim
theorem YM{S:Ä->Prop}(l:∀g,S g->g.status=Å)(h:∀w,İ P yQ RT à (λg _=>S g) (n+1) g w):g.status=Å/\(S g\/∀a,∃b,è P yQ g a=ş b a #[]/\∀w,İ P yQ RT à (λg _=>S g) n b w):=by
 by_cases e:S g
 .grind
 .rcases h default with q|⟨f,q⟩
  .exact absurd (q default trivial) e
  .refine⟨f,Á λa=> ?_⟩;have c:=q a trivial;cases d:è P yQ g a with
   |go b m o=>
    rw[d,ť]at c;let⟨⟨i,j⟩,k⟩:=c;subst i j;exact⟨b,U,λw=>aiF k⟩
   |_=>rw[d]at c;exact c.elim
def aiG(H:Ŕ P L)(B:60<=j)(D:mf Ψ l b)(E:SW Ψ l b l.w)(C:l.d=1)(F:∀a,SW Ψ l b a->fh P yQ e {l with d:=0,w:=a} (G (f.at (y.put ((Q[i]?).bind (·.dst))<|ı #[])<|Æ Q jJ::k) qX)) (I:n<=j) (h:∀w,İ P yQ RT à (λg _=>Ra P L yQ b e (f.at y<|Æ Q (i::jJ)::k) qX l g) n g w):OQ P yQ j b e (.fZ n) l g:=by
 refine⟨C,λp g=>match p with
  |.fZ n=>n<=j/\∀w,İ P yQ RT à (λg _=>Ra P L yQ b e (f.at y<|Æ Q (i::jJ)::k) qX l g) n g w
  |.ld v m=>m<=j/\fY<=v/\∀w,İ P yQ RT à (λg _=>YJ P L yQ b e (f.at y (Æ Q (i::jJ)::k)) qX l v g) m g w,⟨I,h⟩,λp g J=> ?_⟩
 match p,J with
 |.fZ (n+1),⟨h1,h2⟩=>
  let⟨r,u⟩:=YM (λg h=>h.1) h2;refine⟨r,h1,u.imp (λq=>⟨ò _,λw a _=>q⟩) λq a=> ?_⟩;let⟨s,c,o⟩:=q a;exact⟨s,c,Z,o⟩
 |.fZ 0,⟨_,h2⟩=>
  have q:=h2 default default trivial;refine⟨q.1,λv=> ?_⟩;let⟨s,c,o,x⟩:=q.2 v;refine⟨s,c,?_⟩;by_cases z:0<=v/\v<fY
  .rw[if_pos z];exact λt=>o ⟨z.1,t⟩
  .rw[if_neg z];exact λt=>⟨60,B,B,t.1,x t⟩
 |.ld v (m+1),⟨h1,h0,h2⟩=>
  let⟨r,u⟩:=YM (λg h=>h.1) h2;refine⟨r,h0,h1,u.imp (λq=>⟨ò _,h0,λw a _=>q⟩) λq a=> ?_⟩;let⟨s,c,o⟩:=q a;exact⟨s,c,Z,h0,o⟩
 |.ld v 0,⟨_,h0,h2⟩=>
  let⟨r,⟨m,c,o⟩,q,x,s⟩:=h2 default default trivial;exact⟨r,h0,⟨m,c,o⟩,q,x,40,Z,Z,λw=>YL (λg t=>YK H D E C F t)<|s w⟩
def YN(H:Ŕ P L)(o:60<=j)(a:mf Ψ l b)(hF:SW Ψ l b l.w)(p:l.d=0)(h:∀c,SW Ψ l b c->fh P yQ e {l with d:=0,w:=c} (G (f.at (y.put ((Q[i]?).bind (·.dst))<|ı #[])<|Æ Q jJ::k) qX)): fh P yQ (qH P yQ j b e .iY) l (G ((base L.wait).at ⟨#[ì<|Ã ⟨b,0,Í⟩,Â,Â,Â,Â,Â,Â,Â,Â,Â,Â,Â,Â,Â,Â,Â,Â,Â,Â,Â,Â,Â,Â,Â,Â,Â,Â,Â,Â,Â,Â,Â,Â,Â,Â,Â,Â,Â,Â,Â,Â,Â,Â,Â,Â,Â,Â,Â,Â,Â,Â,Â,Â,Â,Â,Â,Â,Â,Â,Â,Â,Â,Â,Â,Â,Â,Â,Â,Â,Â,Â,Â,Â,Â,Â,Â,Â,Â,Â,Â,Â,Â,Â,Â],[]⟩ [ĵ<|ţ L])<|f.at y (Æ Q (i::jJ)::k)::qX):=by
 lib_facts;simp only[ţ,waitFn,ć];apply jI a hF (n:=40);iterate 3 w_go fH
 refine Î λc q=> ?_;replace hF:=fH hF q;refine vw a hF (À U) U (λ_=>Ę õ fj U U (by k_ne) U H.f_disable (ń L) (Ņ L) (ņ L)<|Ň L) λt hF=> ?_;walk_nrm;have r:Ï l.d #[jV õ]=1:=by rw[p];rfl
 rw[r];refine nY a hF λm hF=>⟨40,Z,aiG (l:={l with d:=1,w:=m}) H o a hF U h Z λw=>YL (λg s=>YK (l:={l with d:=1,w:=m}) H a hF U h s) ?_⟩;replace hF:True:=trivial;iterate 3 w_go fu
 exact Î λ_ _=>⟨_,U,fj,fj⟩
end
section
variable(P:Ğ)(e:Bool)(b:Nat)(J:Jd)
def rd1:Jd:=λl g=>l.d=1/\F3 P e (.read<|gW b) J l g
def KB:Jd:=λl g=>l.d=1/\Oz P e (fM b) fY (λs=>if s=fY then fh P e (rd1 P e b J)else if fY<s/\s<1000000*fY/\s%fY=0 then fh P e J else λ_ _=>True) l g
end
def aiH(F:Ph)(j:Nat)(a:Nat->Nat):OV F j a=KB F.P Ì F.C (J4 F j a):=rfl
section
variable{Ψ:Ð->Prop}{P:Ğ}{L:ě}{e:Bool}{b:Nat}{l:e9}{f:Jd}{c:ô}{k:List Ţ}
def YO(H:Ŕ P L)(h:mf Ψ l b)(hF:SW Ψ l b l.w)(E:l.d=0)(t:∀g,SW Ψ l b g->fh P e f {l with d:=0,w:=g} (G (c.at (y.put ((Q[i]?).bind (·.dst))<|ı #[])<|Æ Q jJ::k) qX)): fh P e (KB P e b f) l (G ((base L.add).at ⟨#[ì<|Ã ⟨b,0,Í⟩,ë Ũ 1,Â,Â,Â,Â,Â,Â,Â,Â,Â,Â,Â,Â,Â,Â,Â,Â,Â,Â,Â,Â,Â,Â,Â,Â,Â,Â,Â,Â,Â,Â,Â,Â,Â,Â,Â,Â,Â,Â,Â,Â,Â,Â,Â,Â,Â,Â,Â,Â,Â,Â,Â,Â,Â,Â,Â,Â,Â,Â,Â,Â,Â,Â,Â,Â,Â,Â,Â,Â,Â,Â,Â,Â,Â,Â,Â,Â,Â,Â,Â,Â,Â,Â,Â,Â,Â,Â,Â,Â,Â,Â,Â,Â,Â,Â,Â,Â,Â,Â,Â,Â,Â,Â,Â,Â,Â,Â,Â,Â,Â,Â,Â,Â,Â,Â,Â],[]⟩ [ĵ<|body_add L])<|c.at y (Æ Q (i::jJ)::k)::qX):=by
 lib_facts;simp only[body_add,addFn,ć];apply jI h hF (n:=40);iterate 12 w_go fH
 refine Î λg a=> ?_;replace hF:=fH hF a;clear a;refine vw (l:={l with w:=g}) h hF (À U) U (λ_=>Ę õ fj U U (by k_ne) U H.f_disable (ń L) (Ņ L) (ņ L)<|Ň L) λj hF=> ?_;walk_nrm;have F:Ï l.d #[jV õ]=1:=by rw[E];rfl
 rw[F];apply jI (l:={l with d:=1,w:=j}) h hF (n:=50);iterate 2 w_go fH
 u_defer fH hF
 iterate 8 w_go fH
 u_bub fH hF
 iterate 11 w_go fH
 u_call H.f_uAdd (nm_uAdd L) uAddFn fH hF
 iterate 10 w_go fH
 refine Î λg a=> ?_;replace hF:=fH hF a;clear a;refine nY (l:={l with d:=1,w:=g}) h hF λq hF=>⟨U,U,λv=>⟨_,λg I J=>(Ľ U U (by k_ne) U H.f_addU64 (Ž L) (ž L) (ſ L) Ó (Α L) U U I J).trans fN,?_⟩⟩;walk_nrm;have u:Ó.wrap (v+4294967296)=Ó.wrap (v+fY):=rfl;rw[u];clear u;obtain⟨s,x⟩:∃s,Ó.wrap (v+fY)=s:=⟨_,U⟩;simp only[x];clear x v;by_cases m:s=fY
 .rw[if_pos m];have o:s=4294967296:=m;clear m;subst o;apply jI (l:={l with d:=1,w:=q}) h hF (n:=150);iterate 3 w_go fH
  u_leave1 H.f_uAdd fH hF
  iterate 48 w_go fH
  u_conv H.underlying_tPU32 H.room_tU32 (nD.C hF.2.1).choose_spec fH hF
  refine Î λg a=> ?_;replace hF:=fH hF a;clear a;refine nY (l:={l with d:=1,w:=g}) h hF λq hF=>⟨U,U,_,λ_=>Ē .read fj U U (by k_ne) U H.f_raceRead (x_raceRead_n L) (x_raceRead_b L) (x_raceRead_x L) (x_raceRead_f L) (by simp[þ,gW]),?_⟩;walk_nrm;apply jI (l:={l with d:=1,w:=q}) h hF (n:=150);iterate 39 w_go fH
  refine Î λg a=> ?_;replace hF:=fH hF a;clear a;refine vw (l:={l with d:=1,w:=g}) h hF (Á U) U (λw=>Kw î fj U H.f_enable (Ĥ L) (ĥ L) (Ħ L) (ħ L) w) λj hF=> ?_;have r:Ï 1 #[jV î]=0:=rfl;rw[r];apply jI (l:={l with d:=0,w:=j}) h hF (n:=10);u_leave0 H.f_add fH hF;refine Î λg a=> ?_;replace hF:=fH hF a;clear a;exact t _ hF
 .rw[if_neg m];by_cases o:fY<s/\s<1000000*fY/\s%fY=0
  .rw[if_pos o];let⟨z,B,C⟩:=o;have N:(4294967296:Int)<s:=z;have D:s<1000000*4294967296:=B;have K:s%4294967296=0:=C;clear m z B C;have O:=DL s Z D Z;have M:=DR s Z D Z;rw[K]at M;obtain⟨p,S⟩:∃p,(s/4294967296+2147483648)%4294967296-2147483648=p:=⟨_,U⟩;have T:¬p<0:=Z
   have V:0<p:=Z
   have W:(p==1)=É:=by simp;omega
   apply jI (l:={l with d:=1,w:=q}) h hF (n:=150);iterate 3 w_go fH
   u_leave1 H.f_uAdd fH hF
   iterate 83 w_go fH
   refine Î λg a=> ?_;replace hF:=fH hF a;clear a;refine vw (l:={l with d:=1,w:=g}) h hF (Á U) U (λw=>Kw î fj U H.f_enable (Ĥ L) (ĥ L) (Ħ L) (ħ L) w) λj hF=> ?_;have r:Ï 1 #[jV î]=0:=rfl;rw[r];apply jI (l:={l with d:=0,w:=j}) h hF (n:=10);u_leave0 H.f_add fH hF;refine Î λg a=> ?_;replace hF:=fH hF a;clear a;exact t _ hF
  .rw[if_neg o];trivial
end
def AO:θ->Nat->θ
 |.seq a _,0=>a
 |.seq _ b,_=>b
 |Τ _ a _,0=>a
 |Τ _ _ b,_=>b
 |ε _ a,_=>a
 |.loop a,_=>a
 |c,_=>c
def kY(f:Func)(l:List Nat):θ:=l.foldl AO<|f.body.getD ο
def pA(f:Ĵ)(a b:Array ã):Ů:={target:=.fn (.func f) a,args:=b}
def nZ(P:Ğ):ô:={(default:ô)with fn:=P.funcs.size,defers:=[],mode:=.panicking [Ō]}
section
variable{b:ô}{a:ō}{cs:List ô}
def YP{h:Array ĳ}(c:Q[i]?=Ã o)(j:á o (Ĩ Q a.tmps)=Ì)(k:b.kind≠Đ) (e:o.op=.defer {callee:=.value qQ,args:=#[],argTypes:=h}) (g:a.eval qQ=.func (.func F) #[] d): è P yQ (G (b.at a<|Æ Q (i::jJ)::L) cs) w=ş (G (b.at (Ő ⟨a.tmps,pA F d #[]::a.defers⟩ o.dst Â)<|Æ Q jJ::L) cs) w #[]:=by
 have l:(Þ a.eval o).run P w=.ok (.defer<|pA F d #[]) w:=by unfold Þ;simp[e,ĸ,Ĉ,g,pA]
 have m:(Þ a.eval o).events P w #[]=#[]:=by unfold Þ;simp[e,ĸ,Ĉ,g]
 have n:(b.at ⟨a.tmps,pA F d #[]::a.defers⟩<|Æ Q (i::jJ)::L).finish Â=b.at (Ő ⟨a.tmps,pA F d #[]::a.defers⟩ o.dst Â) (Æ Q jJ::L):=by rw[ĩ,c];rfl
 have p:(b.kind==Đ)=É:=by simpa using k
 rw[Ζ c j,<-n];simp[stepG.apply,l,m,G,Frame.at,p,Ě,Ć]
def YQ{l:Array ĳ}(m:Q[i]?=Ã o)(n:á o (Ĩ Q a.tmps)=Ì)(p:b.kind≠Đ) (h:o.op=Ŭ {callee:=.value qQ,args:=#[],argTypes:=l}) (j:a.eval qQ=.func (.func F) #[] d) (e:P.funcs[F]?=Ã s) (q:(s.name== "runtime.NumGoroutine")=É) (g:s.body=Ã wX): è P yQ (G (b.at a<|Æ Q (i::jJ)::L) cs) w=ş (G ((base F).at {tmps:=d++ê (s.ntmps-d.size) Â,defers:=[]} [ĵ wX])<|b.at a (Æ Q (i::jJ)::L)::cs) w #[]:=by
 have k:¬s.name= "runtime.NumGoroutine":=by simpa using q
 have r:(Þ a.eval o).run P w=.ok (.enter F d) w:=by unfold Þ;simp[h,ĸ,Ĉ,j,ś,Ŝ,e,k,g]
 have t:(Þ a.eval o).events P w #[]=#[]:=by unfold Þ;simp[h,ĸ,Ĉ,j,ś,Ŝ,e,k,g]
 rw[ŵ m n p r,<-enter_at d e g];unfold listed;rw[t,Ć]
def aiI{g:Array ĳ}(d:Q[i]?=Ã o)(h:á o (Ĩ Q a.tmps)=Ì)(j:b.kind=ľ)(k:b.roundOf=Í)(l:f.mode=ù) (e:o.op=Ŭ {callee:=.builtin .recover,args:=#[],argTypes:=g}) (q:o.type=t): è P yQ (G (b.at a<|Æ Q (i::jJ)::L)<|f::cs) w=ş (G (b.at (a.put o.dst ā)<|Æ Q jJ::L)<|f::cs) w #[]:=by
 have m:(Þ a.eval o).run P w=.ok .recover w:=by unfold Þ;simp[e,ĸ,ś,builtin]
 have n:(Þ a.eval o).events P w #[]=#[]:=by unfold Þ;simp[e,ĸ,ś,builtin]
 have p:(b.at a<|Æ Q (i::jJ)::L).finish ā=b.at (a.put o.dst ā) (Æ Q jJ::L):=by rw[ĩ,d];rfl
 rw[Ζ d h,<-p];simp[stepG.apply,m,n,G,Frame.at,j,Ě,Ć,k,tryRecover,l]
def aiJ{e:List Ů}(i:a.defers=pA F d #[]::e)(g:P.funcs[F]?=Ã s)(j:(s.name== "runtime.NumGoroutine")=É)(h:s.body=Ã wX): è P yQ (G {b.at a L with mode:=ù} cs) w= ş (G ((baseD F).at {tmps:=d++ê (s.ntmps-d.size) Â,defers:=[]} [ĵ wX])<|{b.at ⟨a.tmps,e⟩ L with mode:=ù}::cs) w #[]:=by
 have k:¬s.name= "runtime.NumGoroutine":=by simpa using j
 rw[<-enter_atD d g h];simp[G,è,Η,Ū,Frame.at,i,pA,ś,Ŝ,g,k,h,Ě,Ć]
def YR(a:P.funcs[F]?=Ã s)(e:(s.name== "runtime.NumGoroutine")=É)(b:s.body=Ã wX): è P yQ (born P<|pA F d #[]) w=ş (G ((baseD F).at {tmps:=d++ê (s.ntmps-d.size) Â,defers:=[]} [ĵ wX]) [nZ P]) w #[]:=by
 have g:¬s.name= "runtime.NumGoroutine":=by simpa using e
 rw[<-enter_atD d a b];simp[G,è,Η,Ū,born,nZ,pA,ś,Ŝ,a,g,b,Ě,Ć]
def aiK(d:b.kind=ľ)(e:a.defers=[])(f:P.funcs[b.fn]?=Ã s)(c:s.results=#[]): è P yQ (G {b.at a L with mode:=ù} [nZ P]) w=ş (G (nZ P) []) w:=by have g:=results_none c a.tmps P w;have h:=events_results_none (P:=P) (w:=w) c a.tmps #[];simp[G,è,Η,doReturn,Frame.at,d,e,f,g,h,nZ,Ō,seen,Ě]
def aiL(w:Ð):è P É (G (nZ P) []) w=ş {frame:=nZ P,callers:=[],status:=å,dying:=Í} w:=by simp[G,è,Η,nZ,Ō,Frame.catches];rfl
def aiM:rI P 0 (G (nZ P) []):=⟨1,.ctl U aiL ⟨U,U⟩⟩
def aiN(c:b.kind=ľ)(d:a.defers=[])(e:P.funcs[b.fn]?=Ã s)(f:s.results=#[]):rI P 0 (G {b.at a L with mode:=ù} [nZ P]):= KA U (λ_=>aiK c d e f) aiM
def aiO(e:b.kind=ľ)(g:a.defers=[])(h:P.funcs[b.fn]?=Ã s)(j:s.results=#[])(k:f.mode=ù)(l:rI P i (G f cs)):rI P i (G {b.at a L with mode:=ù}<|f::cs):= let⟨n,q⟩:=l;⟨n+1,.leaveD e g h j k q⟩
end
def aiP(d:Nat)(t:ĳ)(w:Ð)(a:Array đ)(h:P.underlying t=Ã (.interface<|P.methodsAt t)):(Θ (d+1) t ā ā).events P w a=a:=by simp[Θ,run_underlying h,go_sem]
def aiQ(t:ĳ)(w:Ð)(a:Array đ)(h:P.underlying t=Ã (.interface<|P.methodsAt t)):(Op.equal t ā ā).events P w a=a:=aiP 9999 t w a h
def aiR(t:ĳ)(w:Ð)(a:Array đ)(h:P.underlying t=Ã (.interface<|P.methodsAt t)):(binOp .neq t ā ā).events P w a=a:=by simp only[binOp];simp[aiQ t w a h]
section
variable{J:Jd}{l:e9}{b:ô}{a:ō}{cs:List ô}
def jW(l:e9):Prop:=∀j,l.O j->j<l.w.heap.size
def fP(a:jW l)(b:İ P yQ RT à (λc _=>fh P yQ J l c) n g l.w):fh P yQ J l g:= PO b (λ_ _ _=>trivial) a λ_ _ r h=>h.j5 r
def vx(k:Q[i]?=Ã o)(m:á o (Ĩ Q a.tmps)=Ì)(n:b.kind≠Đ) (h:∀c,fE l l.w c->uponK o a (λq e=>∃d,mE l d c e (listed P b.fn a o c)/\fh P yQ J d (G (b.at q<|Æ Q jJ::L) cs)) ((Þ a.eval o).run P c)): fh P yQ J l (G (b.at a<|Æ Q (i::jJ)::L) cs):=by
 refine .mk U λc r=> ?_;have f:=h c r;revert f;generalize p:(Þ a.eval o).run P c=res;intro f;match res,f with
 |.ok (.value v) e,⟨d,g,j⟩=>exact⟨_,e,_,d,Ń k m n p,g,j⟩
 |.ok .skip e,⟨d,g,j⟩=>exact⟨_,e,_,d,Ŗ k m n p,g,j⟩
def vy(l:e9)(e:đ):Prop:=yF l e/\e.loc≠ŭ õ/\e.loc≠ŭ î
def KC(h:∀e∈V,vy l e)(d:Nat):Ï d V=d:=ĺ (λe a=>⟨(h e a).2.1,(h e a).2.2⟩) d
def aiS(b:∀j,l.O j->j<w.heap.size)(c:¬l.q)(a:∀e∈V,vy l e):mE l {l with w:=w} w w V:= ⟨Ç _,λ_ h=>À h,b,U,U,U,U,λ_ _ _ _=>rfl,λ_ _ _ _=>rfl,λ_ _ _=>rfl,U,U,U,λe h=>(a e h).1,(KC a _).symm,U,λq=>absurd q c,U⟩
def nF(d:Q[i]?=Ã o)(f:á o (Ĩ Q a.tmps)=Ì)(g:b.kind≠Đ)(j:jW l)(k:¬l.q) (m:∀c,fE l l.w c->(Þ a.eval o).run P c=.ok (.value v) c) (n:∀c,fE l l.w c->∀e∈(Þ a.eval o).events P c #[],vy l e) (p:fh P yQ J l (G (b.at (a.put o.dst v)<|Æ Q jJ::L) cs)):fh P yQ J l (G (b.at a<|Æ Q (i::jJ)::L) cs):=by refine vx d f g λc r=> ?_;rw[m c r];exact⟨_,aiS (lH j r) k λe h=>n c r e<|Ι h,p.j5 r⟩
def gY(l:e9)(x:Č):Prop:=l.M x.block\/l.C x
def gY.r{x:Č}(h:gY l x){w₁:Ð}(r:fE l l.w w₁):w₁.cell? x=l.w.cell? x:=h.elim (λq=>gM<|r.I _ q)<|r.N x
def gY.rd{x:Č}(h:gY l x):vy l ⟨ú x,É,É⟩:=by
 refine⟨À ⟨x,U,?_⟩,fj,fj⟩;rcases h with(q|q)|(q|q)
 .exact À q
 .exact Á<|Á ⟨À q,U,U⟩
 .exact Á<|À q
 .exact Á<|Á ⟨Á q,U,U⟩
def pB{x:Č}(f:Q[i]?=Ã o)(g:á o (Ĩ Q a.tmps)=Ì)(j:b.kind≠Đ)(k:jW l)(m:¬l.q)(c:gY l x)(d:l.w.cell? x=Ã v) (n:∀w,w.cell? x=Ã v->(Þ a.eval o).run P w=.ok (.value v) w) (p:∀w,w.cell? x=Ã v->(Þ a.eval o).events P w #[]=#[⟨ú x,É,É⟩]) (s:fh P yQ J l (G (b.at (a.put o.dst v)<|Æ Q jJ::L) cs)):fh P yQ J l (G (b.at a<|Æ Q (i::jJ)::L) cs):= nF f g j k m (λw r=>n w<|(c.r r).trans d) (λw r e h=>by
  rw[p w<|(c.r r).trans d]at h;have:e=⟨ú x,É,É⟩:=by simpa using h
  subst this;exact c.rd) s
def qd(l:e9)(x:Č):Prop:=l.O x.block\/l.r x
def qd.C(h:qd l p):gY l p:=h.elim (λq=>À<|À q) λq=>Á<|À q
def qd.r{x:Č}(h:qd l x):vy l ⟨ú x,Ì,É⟩:=⟨À ⟨x,U,h.elim À λq=>Á<|À q⟩,fj,fj⟩
end
end Go.Proofs.Y.ft
namespace Go.Proofs.Y.ft
open Go Go.Conc Go.Proofs.Y.Lift
section
variable{J:Jd}{l:e9}{b:ô}{cs:List ô}{ops:Array Ĭ}
def Rb(a:∀j,l.O j->j<w.heap.size)(b:¬l.q):mE l {l with w:={w with drawn:=w.drawn+1}} w {w with drawn:=w.drawn+1} #[]:= ⟨Ç _,λ_ h=>À h,a,U,U,U,U,λ_ _ _ _=>rfl,λ_ _ _ _=>rfl,λ_ _ _=>rfl,U,U,U,λe c=>by simp at c,by simp[Ï],U,λq=>absurd q b,U⟩
def jr(listed:Array Bool):Nat:=listed.countP λx=> !x
theorem KD{listed:Array Bool}(h:listed.getD i Ì=É):jr (listed.setIfInBounds i Ì)+1=jr listed:=by
 have a:i<listed.size:=by grind
 have b:listed[i]=É:=by simpa[a]using h
 unfold jr;grind [Array.countP_pos_iff,Array.getElem_mem]
def Rc{md:Ý}{listed:Array Bool}(c:listed.size=ops.size)(h:jr listed=0):Ò md ops listed=[]:=by rw[List.eq_nil_iff_forall_not_mem];intro j a;let⟨b,o,d,_⟩:=ĉ.1 a;have:=KD b;omega
def YS{md:Ý}(I:Array Bool->ō->e9->Prop) (p:∀c a l i k,I c a l->i∈Ò md ops c->fh P yQ (λh m=>∃f,m=G (b.at f<|Æ ops k::L) cs/\I (c.setIfInBounds i Ì) f h) l (G (b.at a<|Æ ops (i::k)::L) cs)) (n:∀c a l,I c a l->c.size=ops.size->Ò md ops c=[]->fh P yQ J l (G (b.at a<|Æ ops []::L) cs)): ∀(d t:Nat) (c:Array Bool) (a:ō) (l:e9),c.size=ops.size->jr c<=d->I c a l->fh P yQ J l (G (b.at a<|Æ ops (û md ops d t c [])::L) cs):=by
 intro d
 induction d with
 |zero=>
  intro t c a l e q g;simpa[û]using n c a l g e<|Rc e Z
 |succ d r=>
  intro t c a l e q g;simp only[û];change fh P yQ J l (G (b.at a (Æ ops (match(Ò md ops c)[t%(Ò md ops c).length]? with
   |some i=>û md ops d (t/(Ò md ops c).length) (c.setIfInBounds i Ì) [i]
   |none=>[].reverse)::L)) cs)
  cases j:(Ò md ops c)[t%(Ò md ops c).length]? with
  |none=>
   have s:Ò md ops c=[]:=by
    cases u:Ò md ops c with
    |nil=>rfl
    |cons x o=>
     rw[u]at j;have v:t%(x::o).length<(x::o).length:=ż _ fj;simp at j;simp at v;omega
   simpa using n c a l g e s
  |some i=>
   simp only[];rw[linearise_go_acc,List.reverse_singleton,List.singleton_append];have o:=List.mem_of_getElem? j;refine(p c a l i _ g o).lD ?_;rintro h m ⟨f,rfl,s⟩;exact r _ _ f h (by simpa using e) (by have:=KD (ĉ.1 o).1;omega) s
theorem DV(n:Nat):jr (ê n É)=n:=by unfold jr;grind [Array.countP_replicate]
def KE{id:Nat}(I:Array Bool->ō->e9->Prop)(m:jW l)(n:¬l.q) (f:∀d,fE l l.w d->I (ê ops.size É) y {l with w:={d with drawn:=d.drawn+1}}) (g:∀e c y l i h,I c y l->i∈Ò e ops c->fh P yQ (λo p=>∃j,p=G (b.at j<|Æ ops h::L) cs/\I (c.setIfInBounds i Ì) j o) l (G (b.at y<|Æ ops (i::h)::L) cs)) (k:∀e c y l,I c y l->c.size=ops.size->Ò e ops c=[]->fh P yQ J l (G (b.at y<|Æ ops []::L) cs)): fh P yQ J l (G (b.at y<|ĵ (Ģ id ops Ì)::L) cs):=by
 refine .mk U λd r=>⟨_,_,_,_,stepG_region_draw,Rb (lH m r) n,?_⟩;unfold Region.schedule;split
 .exact YS I (g _) (k _) _ _ _ _ _ fj (by rw[DV];exact Ç _)<|f d r
 .exact YS I (g _) (k _) _ _ _ _ _ fj (by rw[DV];exact Ç _)<|f d r
end
def vz(e:Edge):Bool:=match e.ground with|.textOnly _=>É|.gcOnly _=>É|_=>Ì
theorem YT{md:Ý}{e:Edge}(h:vz e=Ì):ū md e=Ì:=by unfold vz at h;unfold ū;grind
structure lI(ops:Array Ĭ)(t0:Array ã)(val:Nat->ã)(listed:Array Bool)(a:ō):Prop where
 M:a.defers=[]
 S:a.tmps.size=t0.size
 b:∀d,(∀j o,ops[j]?=Ã o->listed.getD j É=Ì->o.dst≠Ã d)->a.tmps[d]?=t0[d]?
 r:∀j o d,ops[j]?=Ã o->listed.getD j É=Ì->o.dst=Ã d->a.tmps[d]?=Ã (val j)
 Y:∀j o e,ops[j]?=Ã o->listed.getD j É=Ì->e∈o.after->vz e=Ì->listed.getD e.on É=Ì
def qK(a:Array Ĭ)(n:Nat):Bool:=(Κ a.size).all λi=>match(a.getD i default).dst with
 |none=>Ì
 |some d=>decide (d<n)&&(Κ a.size).all λj=>i==j||(a.getD j default).dst !=Ã d
section
variable{ops:Array Ĭ}{t0:Array ã}{val:Nat->ã}{listed:Array Bool}{a:ō}
def YU(h:qK ops t0.size=Ì)(a:ops[i]?=Ã o)(b:o.dst=Ã n):n<t0.size:=by have:=(ġ.1 h) i<|Ş.2<|(Õ.1 a).1;simp_all
theorem YV(h:qK ops t0.size=Ì){d:Nat}{a:Ĭ}(b:ops[i]?=Ã o)(e:ops[j]?=Ã a)(f:j≠i)(c:o.dst=Ã d):a.dst≠Ã d:=by have:=(ġ.1 h) i<|Ş.2<|(Õ.1 b).1;simp[b,c]at this;grind
def lI.C(h:lI ops t0 val listed a){d:Nat}(b:ops.toList.all (λo=>o.dst !=Ã d)=Ì):a.tmps[d]?=t0[d]?:= h.b d λj o c _ e=>by have:=ġ.1 b o<|Ī.2<|Array.mem_of_getElem? c;simp[e]at this
def Re(h:(listed.setIfInBounds i Ì).getD j É=Ì):j=i\/listed.getD j É=Ì:=by by_cases e:i=j;all_goals simp_all
theorem lI.fQ(h:lI ops t0 val listed a)(u:qK ops t0.size=Ì){md:Ý}(l:ops[i]?=Ã o)(p:i∈Ò md ops listed)(w:o.dst≠Í->v=val i):lI ops t0 val (listed.setIfInBounds i Ì) (a.put o.dst v):=by
 have y:=(ĉ.1 p).1;have r:∀j c e,ops[j]?=Ã c->(listed.setIfInBounds i Ì).getD j É=Ì->e∈c.after->vz e=Ì->(listed.setIfInBounds i Ì).getD e.on É=Ì:=λj c e b f s t=>by
  rcases Re f with rfl|q
  .let⟨_,n,d,g⟩:=ĉ.1 p;rw[b]at d;obtain rfl:=È d;exact ĝ<|g e s<|YT t
  .exact ĝ<|h.Y j c e b q s t
 have x:(listed.setIfInBounds i Ì).getD i É=Ì:=by
  have n:i<listed.size:=by grind
  simp[n]
 cases k:o.dst with
 |none=>
  refine⟨h.M,h.S,λd m=>h.b d λj c b f=>m j c b<|ĝ f,λj c d b f g=> ?_,r⟩;rcases Re f with rfl|q
  .rw[l]at b;obtain rfl:=È b;rw[k]at g;cases g
  .exact h.r j c d b q g
 |some e=>
  refine⟨h.M,by simp[Ő,h.S],λd m=> ?_,λj c d b f g=> ?_,r⟩
  .simp only[Ő];rw[í (λq=>m i o l x<|by rw[k,q])];exact h.b d λj c b f=>m j c b<|ĝ f
  .simp only[Ő];rcases Re f with rfl|q
   .rw[l]at b;obtain rfl:=È b;rw[k]at g;obtain rfl:=È g;have n:e<a.tmps.size:=by rw[h.S];exact YU u l k
    simp[n,(w<|by rw[k];simp)]
   .have n:e≠d:=by
     grind [YV]
    rw[í n];exact h.r j c d b q g
def lI.YW(h:lI ops t0 val listed a){b:Nat->ã}(e:∀j,listed.getD j É=Ì->b j=val j):lI ops t0 b listed a:= ⟨h.M,h.S,h.b,λj o d f c g=>(by rw[e j c];exact h.r j o d f c g),h.Y⟩
theorem ie{md:Ý}(h:i∈Ò md ops listed)(b:ops[i]?=Ã o)(c:o.after.toList.any (λe=>e.on==j&&vz e)=Ì):listed.getD j É=Ì:=by let⟨_,f,a,g⟩:=ĉ.1 h;rw[b]at a;obtain rfl:=È a;let⟨e,k,d⟩:=Ŀ.1 c;simp only[ŀ,beq_iff_eq]at d;grind [YT]
def lI.I(h:lI ops t0 val listed a)(c:ops[i]?=Ã o)(d:listed.getD i É=Ì)(f:o.after.toList.any (λe=>e.on==j&&vz e)=Ì):listed.getD j É=Ì:=by let⟨e,g,b⟩:=Ŀ.1 f;simp only[ŀ,beq_iff_eq]at b;rw[<-b.1];exact h.Y i o e c d (Ī.1 g) b.2
theorem xm(h:listed.getD i Ì=É):¬listed.getD i É=Ì:=by grind
def KF(md:Ý)(ops:Array Ĭ):List Nat->List Nat->Bool
 |[],_=>Ì
 |i::r,seen=>(match ops[i]? with|some o=>o.after.toList.all (λe=> !Region.binds md e||seen.contains e.on)|none=>É)&&KF md ops r (i::seen)
theorem pC{md:Ý}(h:Ò md ops listed=[])(l:listed.size=ops.size):∀(b a:List Nat),KF md ops b a=Ì->(∀i∈a,listed.getD i É=Ì)->∀i∈b,listed.getD i É=Ì:=by
 intro b
 induction b with
 |nil=>intro a _ _ i c;cases c
 |cons j r m=>
  intro a n p i c;let⟨d,s⟩:=Bool.and_eq_true_iff.1 (show(_&&_)=Ì from n);have f:listed.getD j É=Ì:=by
   split at d
   .rename_i o g;have v:j<listed.size:=by rw[l];exact(Õ.1 g).1
    by_cases t:listed.getD j Ì=É
    .have:j∈Ò md ops listed:=ĉ.2 ⟨t,o,g,λe w x=>by
      grind⟩
     grind
    .grind
   .cases d
  rcases š.1 c with rfl|q
  .exact f
  .exact m (j::a) s (λk u=>(š.1 u).elim (λe=>e▸f)<|p k) i q
def lI.G(t:Array ã)(val:Nat->ã)(n:Nat):lI ops t val (ê n É) ⟨t,[]⟩:=by
 have a:∀j,¬(ê n É).getD j É=Ì:=λj q=>by rcases ģ j n with z|z;all_goals simp_all
 exact⟨U,U,λ_ _=>rfl,λj _ _ _ z=>absurd z<|a j,λj _ _ _ z=>absurd z<|a j⟩
theorem zi{md:Ý}(h:i∈Ò md ops listed):i<ops.size:=by let⟨_,o,a,_⟩:=ĉ.1 h;grind
def Rf{md:Ý}(h:i∈Ò md ops listed):listed.getD i Ì=É:=(ĉ.1 h).1
end
theorem aiT(h:a.spot.isSome=Ì):w.cell? a=Í:=by unfold World.cell?;grind
theorem Bj{x y:Č}(b:x.spot=Í)(h:y≠x):(w.setCell x v).cell? y=w.cell? y:=by
 by_cases c:y.spot.isSome=Ì
 .grind [aiT]
 .apply yJ;let⟨d,e,f⟩:=x;let⟨g,i,a⟩:=y;simp only at b c|-;have:a=Í:=by cases a<;>simp_all
  grind
section
variable{J:Jd}{l:e9}{b:ô}{a:ō}{cs:List ô}{ops:Array Ĭ}
theorem YX(b:p.spot=Í)(d:(w.cell? p).isSome=Ì)(f:(u.cell? p).isSome=Ì)(r:fE l w u):fE l (w.setCell p v) (u.setCell p v):=by
 refine⟨by rw[j2,j2];exact r.r,λj c=> ?_,λy a=> ?_,λy a=> ?_,λy a h=> ?_⟩
 .by_cases e:j=p.block
  .subst e;unfold World.setCell;simp only[Array.getElem?_modify];rw[r.I _ c]
  .rw[lu e,lu e];exact r.I j c
 .by_cases e:y=p
  .grind [ü,AL]
  .rw[Bj b e,Bj b e];exact r.N y a
 .rw[sL,sL];exact r.Y y a
 .by_cases e:y=p
  .grind [yK]
  .rw[Bj b e]at h|-;exact r.S y a h
def YY(f:p.spot=Í)(g:∀j,l.O j->j<w.heap.size)(i:¬l.q)(c:qd l p)(d:∀e∈V,vy l e):mE l {l with w:=w.setCell p v} w (w.setCell p v) V:=by
 refine⟨by rw[j2];exact Ç _,λ_ h=>À h,λj k=>by rw[j2];exact g j k,U,U,U,U,λj _ a b=>lu λe=>c.elim (λq=>a<|e▸q) λq=>b p e.symm q,λy _ a b=>Bj f λe=> ?_,λ_ _ _=>ON,U,U,U,λe h=>(d e h).1,(KC d _).symm,U,λq=>absurd q i,U⟩
 .subst e;exact c.elim a b
def aiU(m:ops[i]?=Ã o)(n:á o (Ĩ ops a.tmps)=Ì)(s:b.kind≠Đ)(t:jW l)(u:¬l.q)(g:p.spot=Í)(c:qd l p)(j:(l.w.cell? p).isSome=Ì)(y:o.dst=Í)(z:l.w.frozen? p=É) (B:∀w,(w.cell? p).isSome=Ì->w.frozen? p=É->(Þ a.eval o).run P w=.ok .skip (w.setCell p v)) (C:∀w,(w.cell? p).isSome=Ì->w.frozen? p=É->(Þ a.eval o).events P w #[]=#[⟨ú p,Ì,É⟩]) (D:fh P yQ J {l with w:=l.w.setCell p v} (G (b.at a<|Æ ops jJ::L) cs)):fh P yQ J l (G (b.at a<|Æ ops (i::jJ)::L) cs):=by
 refine vx m n s λd r=> ?_;have f:(d.cell? p).isSome=Ì:=by rwa[c.C.r r]
 have k:d.frozen? p=É:=by rw[<-z];exact c.C.elim (λq=>wZ<|r.I _ q)<|r.Y p
 rw[B d f k];refine⟨_,YY g (lH t r) u c λe h=> ?_,?_⟩
 .have:=Ι h;rw[C d f k]at this;have:e=⟨ú p,Ì,É⟩:=by simpa using this
  subst this;exact c.r
 .have:(a.put o.dst Â)=a:=by rw[y];rfl
  rw[this];exact D.j5<|zd<|YX g j f r
end
def mg(l:e9):e9:={l with O:=λ_=>False,I:=l.M,r:=λ_=>False,N:=l.C}
def qL(l x:e9):e9:={x with O:=λb=>x.O b\/l.O b,I:=l.I,r:=l.r,N:=l.N}
structure jy(l l':e9):Prop where
 O:∀j,l.O j->l'.O j
 a:∀j,l'.O j->l.O j\/l.w.heap.size<=j
 I:l'.I=l.I
 N:l'.r=l.r
 Y:l'.N=l.N
 K:l'.K=l.K
 q:l'.q=l.q
 r:fE l l.w l'.w
 fw:jW l'
theorem jy.fV{l:e9}(h:jW l):jy l l:=⟨λ_ h=>h,λ_ h=>À h,U,U,U,U,U,fE.fV _ _,h⟩
def jy.C{l a:e9}(h:jy l a):a.C=l.C:=by unfold e9.C;rw[h.N,h.Y]
def jy.M{l a:e9}(h:jy l a)(c:l.M b):a.M b:=c.imp (h.O b)<|by rw[h.I];exact id
def jy.G{l d:e9}(h:jy l d)(r:fE d w u):fE l w u:=⟨r.r,λj e=>r.I j<|h.M e,λx b=>r.N x (by rwa[h.C]),λx b=>r.Y x (by rwa[h.C]),λx b=>r.S x<|by rwa[h.K]⟩
def jy.S{l a:e9}(h:jy l a)(r:fE a a.w u):jy l {a with w:=u}:= ⟨h.O,h.a,h.I,h.N,h.Y,h.K,h.q,h.r.fe<|h.G r,lH h.fw r⟩
def gw.j5{l:e9}(s:gw l){w₁:Ð}(h:l.w.heap.size<=w₁.heap.size):gw {l with w:=w₁}:= ⟨s.c,s.Y,s.N,λb d=>Ê (s.fw b d) h,λa c=>Ê (s.I a c) h,λa c=>let⟨e,f,g⟩:=s.S a c;⟨e,Ê f h,g⟩⟩
def gw.r{l:e9}(s:gw l):jW l:=λj a=>s.fw j<|À a
section
variable{J:Jd}
theorem aiV{l x:e9}(d:x.I=l.M)(g:x.r=λ_=>False)(f:x.N=l.C){e:đ}(h:yF x e):yF (qL l x) e:=by
 rcases h with⟨a,b,c⟩|h|h|h|h|⟨a,b,c⟩
 .refine À ⟨a,b,?_⟩;rcases c with q|q|⟨q|q,z⟩
  .exact À<|À q
  .grind
  .rw[d]at q;rcases q with q|q
   .exact À<|Á q
   .exact Á<|Á ⟨À q,z⟩
  .rw[f]at q;rcases q with q|q
   .exact Á<|À q
   .exact Á<|Á ⟨Á q,z⟩
 .exact Á<|À h
 .exact Á<|Á<|À h
 .exact Á<|Á<|Á<|À h
 .exact Á<|Á<|Á<|Á<|À h
 .exact Á<|Á<|Á<|Á<|Á ⟨a,À b,c⟩
def YZ{l x:e9}(a:x.I=l.M):(qL l x).M=x.M:=by
 funext b;refine propext ⟨λh=> ?_,λh=> ?_⟩
 .rcases h with(q|q)|q
  .exact À q
  .exact Á<|by rw[a];exact À q
  .exact Á<|by rw[a];exact Á q
 .rcases h with q|q
  .exact À<|À q
  .rw[a]at q;exact q.elim (λz=>À<|Á z) Á
theorem KG{l x:e9}(c:x.r=λ_=>False)(b:x.N=l.C):(qL l x).C=x.C:=by
 funext a;refine propext ⟨λh=>Á (by rwa[b]),λh=> ?_⟩;rcases h with q|q
 .grind
 .rwa[b]at q
def fh.aiW{l:e9}(s:gw l){x:e9}(h:fh P yQ J x g):x.I=l.M->x.r=(λ_=>False)->x.N=l.C->x.K=l.K->x.q=l.q->fE l l.w x.w->(∀j,x.O j->l.w.heap.size<=j)->jW x-> fh P yQ (λb c=>∃a,J a c/\b=qL l a/\jy l b/\a.I=l.M/\a.N=l.C/\a.r=λ_=>False) (qL l x) g:=by
 induction h with
 |@fA x g h=>
  intro m f d o B p v E;refine .fA λc r=>⟨{x with w:=c},(h c ⟨r.r,λj b=>r.I j (by rwa[YZ m]),λy a=>r.N y (by rwa[KG f d]),λy a=>r.Y y (by rwa[KG f d]),r.S⟩),U,?_,m,d,f⟩
  .refine⟨λj b=>Á b,λj b=>b.elim (λq=>Á<|v j q) À,U,U,U,o,B,p.fe ⟨r.r,λj b=>r.I j (b.elim (λq=>À<|Á q) Á),λy a=>r.N y a,λy a=>r.Y y a,λy a=>r.S y ?_⟩,λj b=> ?_⟩
   .show x.K y;rwa[o]
   .refine Ê ?_ r.r;rcases b with q|q
    .exact E j q
    .exact Ê (s.fw j<|À q) p.r
 |@jM x g G' W' E' L' iI h hd _ ih=>
  intro m f d o B p v E;refine .mk iI λc r=> ?_;have i:fE x x.w c:=⟨r.r,λj b=>r.I j (by rwa[YZ m]),λy a=>r.N y (by rwa[KG f d]),λy a=>r.Y y (by rwa[KG f d]),r.S⟩;have D:=hd c i;have n:=Ø p.r i.r;have z:∀j,j<l.w.heap.size->¬x.O j:=λj b q=>by have:=v j q;omega
  have t:∀y:Č,¬x.r y:=λy q=>by rwa[f]at q
  have F:fE l c (W' c):=⟨D.C,λj b=>D.jU j (Ê (s.fw j b) n) (z j<|s.fw j b) λy _=>t y,λy a=>D.M y (Ê (s.I y a) n) (z _<|s.I y a)<|t y,λy a=>JL<|D.S y (Ê (s.I y a) n)<|z _<|s.I y a,λy a q=>by rwa[D.M y (Ê (s.S y a).2.1 n) (z _ (s.S y a).2.1)<|t y]⟩;refine⟨G' c,W' c,E' c,qL l<|L' c,h c i,?_,(ih c i (D.rd.trans m) (D.r.trans f) (D.I.trans d) (D.k.trans o) (D.q.trans B) (by rw[D.Y];exact(p.fe ⟨i.r,λj b=>i.I j (Á<|by rwa[m]),λy a=>i.N y (Á<|by rwa[d]),λy a=>i.Y y (Á<|by rwa[d]),λy a=>i.S y<|by rwa[o]⟩).fe F) (λj b=>(D.N j b).elim (v j) λq=>Ø n q) λj b=>by rw[D.Y];exact D.fw j b)⟩
  .refine⟨D.C,λj b=> ?_,λj b=> ?_,U,U,U,D.k,λj b u G=>D.jU j b (λq=>u<|À q) λy _=>t y,λy a u G=>D.M y a (λq=>u<|À q)<|t y,λy a u=>D.S y a λq=>u<|À q,D.c,D.f,D.i,λe H=>aiV (D.rd.trans m) (D.r.trans f) (D.I.trans d)<|D.b e H,D.g,D.q,λI=> ?_,D.Y⟩
   .rcases b with q|q
    .exact(D.N j q).imp À id
    .exact À<|Á q
   .rcases b with q|q
    .exact D.fw j q
    .exact Ê (s.fw j<|À q)<|Ø n D.C
   .let⟨L,N,Q⟩:=D.h I;exact⟨L,N,by funext j;show((L' c).O j\/l.O j)=(x.O j\/l.O j);rw[Q]⟩
theorem fh.mg{l:e9}(s:gw l)(h:fh P yQ J (ft.mg l) g):fh P yQ (λe j=>∃b,J b j/\e=qL l b/\jy l e/\b.I=l.M/\b.N=l.C/\b.r=λ_=>False) l g:=by
 have:=h.aiW s U U U U U (fE.fV _ _) (λj q=>q.elim) λj q=>q.elim;have e:qL l (ft.mg l)=l:=by
  have:(λb=>False\/l.O b)=l.O:=by funext b;simp
  unfold qL ft.mg;simp only[this]
 grind
end
structure iE(E:Č->Prop)(l l':e9):Prop where
 O:∀j,l.O j->l'.O j
 h:∀j,l'.O j->l.O j\/l.w.heap.size<=j
 Y:l'.I=l.I
 I:l'.r=l.r
 c:l'.N=l.N
 K:l'.K=l.K
 q:l'.q=l.q
 d:l'.d=l.d
 fw:jW l'
 f:l.w.heap.size<=l'.w.heap.size
 r:∀j,l.M j->l'.w.heap[j]?=l.w.heap[j]?
 e:∀a,l.C a->¬E a->l'.w.cell? a=l.w.cell? a
 S:∀a,l.C a->l'.w.frozen? a=l.w.frozen? a
 b:∀a,l.K a->(l.w.cell? a).isSome=Ì->(l'.w.cell? a).isSome=Ì
 g:∀a,E a->(l.w.cell? a).isSome=Ì->(l'.w.cell? a).isSome=Ì
section
variable{E:Č->Prop}{l l' l'':e9}
theorem iE.fV(h:jW l):iE E l l:=⟨λ_ h=>h,λ_ h=>À h,U,U,U,U,U,U,h,Ç _,λ_ _=>rfl,λ_ _ _=>rfl,λ_ _=>rfl,λ_ _ h=>h,λ_ _ h=>h⟩
def iE.C(h:iE E l l'):l'.C=l.C:=by unfold e9.C;rw[h.I,h.c]
def iE.M(h:iE E l l')(a:l.M b):l'.M b:=a.imp (h.O b)<|by rw[h.Y];exact id
def iE.Rh(h:iE E l l')(f:∀a,E a->l.r a)(k:jy l' l'')(g:l''.d=l'.d):iE E l l'':=by have e:=h.C;refine⟨λj c=>k.O j<|h.O j c,λj c=>(k.a j c).elim (h.h j) λq=>Á<|Ø h.f q,k.I.trans h.Y,k.N.trans h.I,k.Y.trans h.c,k.K.trans h.K,k.q.trans h.q,g.trans h.d,k.fw,Ø h.f k.r.r,λj c=>(k.r.I j<|h.M c).trans<|h.r j c,λa b i=>(k.r.N a<|by rwa[e]).trans<|h.e a b i,λa b=>(k.r.Y a<|by rwa[e]).trans<|h.S a b,λa b q=>k.r.S a (by rwa[h.K])<|h.b a b q,λa b q=> ?_⟩;rw[k.r.N a (by rw[e];exact À<|f a b)];exact h.g a b q
def iE.N(h:iE E l l')(b:∀a,E a->l.r a)(r:fE l' l'.w u):iE E l {l' with w:=u}:= h.Rh b (l'':={l' with w:=u}) ((jy.fV h.fw).S r) U
def iE.qz(h:iE E l l')(s:gw l)(i:∀a,E a->l.r a){x:Č}(f:E x)(k:x.spot=Í)(m:(l'.w.cell? x).isSome=Ì):iE E l {l' with w:=l'.w.setCell x v}:=by
 refine⟨h.O,h.h,h.Y,h.I,h.c,h.K,h.q,h.d,λj c=> ?_,?_,λj c=>(lu λe=>s.N x (À<|i x f)<|e▸c).trans<|h.r j c,λa b g=>((Bj k λe=>g<|by rwa[e]).trans<|h.e a b g),λa b=>sL.trans<|h.S a b,λa b q=>yK<|h.b a b q,λa b q=>yK<|h.g a b q⟩
 .show j<(l'.w.setCell x v).heap.size;rw[j2];exact h.fw j c
 .show l.w.heap.size<=(l'.w.setCell x v).heap.size;rw[j2];exact h.f
def iE.G(h:iE E l l')(s:gw l):gw l' where
 c b hb:=by
  rw[h.Y];rcases h.h b hb with q|q
  .exact s.c b q
  .exact λz=>by have:=s.fw b<|Á z;omega
 Y a ha:=by rw[h.c];exact s.Y a<|by rwa[<-h.I]
 N a ha hb:=by
  rw[h.C]at ha;rcases hb with q|q
  .rcases h.h _ q with z|z
   .exact s.N a ha<|À z
   .have:=s.I a ha;omega
  .rw[h.Y]at q;exact s.N a ha<|Á q
 fw b hb:=by
  rcases hb with q|q
  .exact h.fw b q
  .rw[h.Y]at q;exact Ê (s.fw b<|Á q) h.f
 I a ha:=by rw[h.C]at ha;exact Ê (s.I a ha) h.f
 S a ha:=by
  rw[h.K]at ha;let⟨c,d,e⟩:=s.S a ha;refine⟨λq=> ?_,Ê d h.f,by rwa[h.I]⟩;rcases q with q|q
  .rcases h.h _ q with z|z
   .exact c<|À z
   .omega
  .rw[h.Y]at q;exact c<|Á q
end
section
variable{X:Type}{g:Array ã}{c:X->Nat->ã}{m:Array Bool->X->e9->Prop}{l:e9}{b:ô}{a:ō}{k:List Ţ}{cs:List ô}{x:X}
def II(Q:Array Ĭ)(g:Array ã)(c:X->Nat->ã)(m:Array Bool->X->e9->Prop)(wJ:Array Bool)(a:ō)(l:e9):Prop:=∃x,lI Q g (c x) wJ a/\m wJ x l
def KH(a:o.guard=Í)(y:Nat->Option Bool):á o y=Ì:=by unfold á;rw[a]
def il(h:qK Q g.size=Ì)(j:lI Q g (c x) wJ a)(f:Q[i]?=Ã o)(n:o.guard=Í){md:Ý}(p:i∈Ò md Q wJ)(s:b.kind≠Đ)(t:jW l)(u:¬l.q) (v:∀d,fE l l.w d->(Þ a.eval o).run P d=.ok (.value<|c x i) d) (y:∀d,fE l l.w d->∀e∈(Þ a.eval o).events P d #[],vy l e) (z:∀d,fE l l.w d->m (wJ.setIfInBounds i Ì) x {l with w:=d}): fh P yQ (λB C=>∃r,C=G (b.at r<|Æ Q jJ::k) cs/\II Q g c m (wJ.setIfInBounds i Ì) r B) l (G (b.at a<|Æ Q (i::jJ)::k) cs):= nF f (KH n _) s t u v y<|.fA λd r=>⟨_,U,x,j.fQ h f p λ_=>rfl,z d r⟩
def Ri(h:qK Q g.size=Ì)(j:lI Q g (c x) wJ a)(f:Q[i]?=Ã o)(n:o.guard=Í)(e:o.dst=Í){md:Ý}(p:i∈Ò md Q wJ)(s:b.kind≠Đ)(t:jW l)(u:¬l.q){y:Č}(z:y.spot=Í)(B:qd l y)(C:(l.w.cell? y).isSome=Ì)(D:l.w.frozen? y=É) (E:∀w,(w.cell? y).isSome=Ì->w.frozen? y=É->(Þ a.eval o).run P w=.ok .skip (w.setCell y v)) (F:∀w,(w.cell? y).isSome=Ì->w.frozen? y=É->(Þ a.eval o).events P w #[]=#[⟨ú y,Ì,É⟩]) (H:∀d,fE l (l.w.setCell y v) d->m (wJ.setIfInBounds i Ì) x {l with w:=d}): fh P yQ (λI J=>∃r,J=G (b.at r<|Æ Q jJ::k) cs/\II Q g c m (wJ.setIfInBounds i Ì) r I) l (G (b.at a<|Æ Q (i::jJ)::k) cs):=by refine aiU f (KH n _) s t u z B C e D E F (.fA λd r=>⟨_,U,x,?_,H d<|zd r⟩);have:=j.fQ h f p (v:=Â) λq=>absurd e q;rwa[e]at this
theorem Y0(q:qK Q g.size=Ì)(s:lI Q g (c x) wJ a)(p:Q[i]?=Ã o)(t:o.guard=Í){md:Ý}(u:i∈Ò md Q wJ)(v:b.kind≠Đ)(y:jW l){f:Ĵ}{args:Array ã} (z:∀w,(Þ a.eval o).run P w=.ok (.enter f args) w) (B:∀w,(Þ a.eval o).events P w #[]=#[]) (C:∀d,fE l l.w d->fh P yQ (λh n=>∃e,n=G ((b.at a<|Æ Q (i::jJ)::k).finish<|c e i) cs/\m (wJ.setIfInBounds i Ì) e h/\∀j,wJ.getD j É=Ì->c e j=c x j) {l with w:=d} (G (Ŷ P f args .normal)<|b.at a (Æ Q (i::jJ)::k)::cs)): fh P yQ (λh n=>∃r,n=G (b.at r<|Æ Q jJ::k) cs/\II Q g c m (wJ.setIfInBounds i Ì) r h) l (G (b.at a<|Æ Q (i::jJ)::k) cs):=by
 refine .mk U λd r=>⟨G (Ŷ P f args .normal)<|b.at a (Æ Q (i::jJ)::k)::cs,d,#[],{l with w:=d},?_,Kv d<|lH y r,?_⟩
 .rw[ŵ p (KH t _) v<|z d];unfold η;rw[B d,Ć]
 .refine(C d r).fO ?_;rintro h n ⟨e,rfl,D,E⟩;refine⟨a.put o.dst<|c e i,?_,e,(s.YW E).fQ q p u λ_=>rfl,D⟩;grind [ĩ]
end
end Go.Proofs.Y.ft
namespace Go.Proofs.YtgpphkdoanciiaaGreatDoor
open Go Go.Conc Go.Conc.Lib
def Lk:ě:={add:=62,done:=65,wait:=53,relMerge:=105,disable:=68,enable:=70,inBubble:=76,associate:=106,fatal:=107,uOr:=108,uAdd:=109,raceRead:=110,uLoad:=69,uStore:=111,disassociate:=74,semrelease:=112,acquire:=71,isAssociated:=72,uCas:=73,raceWrite:=75,semacquire:=77,orU64:=150,addU64:=151,loadU64:=127,storeU64:=152,casU64:=128,tWgP:=162,tUP:=170,tAssoc:=202,tWg:=97,tAU:=94,tU64:=36,tUint:=168,tU32:=95,tPU32:=174,tPAU:=219,tPU64:=221,tNoCopy:=90,tANoCopy:=91,tAlign64:=92}
def qM:Ŕ ī Lk where
 f_add:=Tryz.func62;f_done:=Tryz.func65;f_wait:=Tryz.func53;f_relMerge:=Tryz.func105;f_disable:=Tryz.func68;f_enable:=Tryz.func70;f_inBubble:=Tryz.func76;f_associate:=Tryz.func106;f_fatal:=Tryz.func107;f_uOr:=Tryz.func108;f_uAdd:=Tryz.func109;f_raceRead:=Tryz.func110;f_uLoad:=Tryz.func69;f_uStore:=Tryz.func111;f_disassociate:=Tryz.func74;f_semrelease:=Tryz.func112;f_acquire:=Tryz.func71;f_isAssociated:=Tryz.func72;f_uCas:=Tryz.func73;f_raceWrite:=Tryz.func75;f_semacquire:=Tryz.func77;f_orU64:=Tryz.func150;f_addU64:=Tryz.func151;f_loadU64:=Tryz.func127;f_storeU64:=Tryz.func152;f_casU64:=Tryz.func128;underlying_tWgP:=Tryz.underlying162;runUnderlying_tWgP:=Tryz.runUnderlying162;sizeOf_tWgP:=Tryz.sizeOf162;isAgg_tWgP:=Tryz.isAgg162;zeroValue_tWgP:=Tryz.zeroValue162;underlying_tUP:=Tryz.underlying170;runUnderlying_tUP:=Tryz.runUnderlying170;sizeOf_tUP:=Tryz.sizeOf170;isAgg_tUP:=Tryz.isAgg170;zeroValue_tUP:=Tryz.zeroValue170;underlying_tI32:=Tryz.underlying202;runUnderlying_tI32:=Tryz.runUnderlying202;sizeOf_tI32:=Tryz.sizeOf202;isAgg_tI32:=Tryz.isAgg202;zeroValue_tI32:=Tryz.zeroValue202;underlying_tWg:=Tryz.underlying97;runUnderlying_tWg:=Tryz.runUnderlying97;sizeOf_tWg:=Tryz.sizeOf97;isAgg_tWg:=Tryz.isAgg97;zeroValue_tWg:=Tryz.zeroValue97;underlying_tAU:=Tryz.underlying94;runUnderlying_tAU:=Tryz.runUnderlying94;sizeOf_tAU:=Tryz.sizeOf94;isAgg_tAU:=Tryz.isAgg94;zeroValue_tAU:=Tryz.zeroValue94;underlying_tU64:=Tryz.underlying36;runUnderlying_tU64:=Tryz.runUnderlying36;sizeOf_tU64:=Tryz.sizeOf36;isAgg_tU64:=Tryz.isAgg36;zeroValue_tU64:=Tryz.zeroValue36;underlying_tSh:=Tryz.underlying168;runUnderlying_tSh:=Tryz.runUnderlying168;sizeOf_tSh:=Tryz.sizeOf168;isAgg_tSh:=Tryz.isAgg168;zeroValue_tSh:=Tryz.zeroValue168;underlying_tU32:=Tryz.underlying95;runUnderlying_tU32:=Tryz.runUnderlying95;sizeOf_tU32:=Tryz.sizeOf95;isAgg_tU32:=Tryz.isAgg95;zeroValue_tU32:=Tryz.zeroValue95;underlying_tPU32:=Tryz.underlying174;runUnderlying_tPU32:=Tryz.runUnderlying174;sizeOf_tPU32:=Tryz.sizeOf174;isAgg_tPU32:=Tryz.isAgg174;zeroValue_tPU32:=Tryz.zeroValue174;underlying_tPAU:=Tryz.underlying219;runUnderlying_tPAU:=Tryz.runUnderlying219;sizeOf_tPAU:=Tryz.sizeOf219;isAgg_tPAU:=Tryz.isAgg219;zeroValue_tPAU:=Tryz.zeroValue219;underlying_tPU64:=Tryz.underlying221;runUnderlying_tPU64:=Tryz.runUnderlying221;sizeOf_tPU64:=Tryz.sizeOf221;isAgg_tPU64:=Tryz.isAgg221;zeroValue_tPU64:=Tryz.zeroValue221;underlying_t0:=Tryz.underlying0;runUnderlying_t0:=Tryz.runUnderlying0;sizeOf_t0:=Tryz.sizeOf0;isAgg_t0:=Tryz.isAgg0;zeroValue_t0:=Tryz.zeroValue0;underlying_t3:=Tryz.underlying3;runUnderlying_t3:=Tryz.runUnderlying3;sizeOf_t3:=Tryz.sizeOf3;isAgg_t3:=Tryz.isAgg3;zeroValue_t3:=Tryz.zeroValue3;underlying_t4:=Tryz.underlying4;runUnderlying_t4:=Tryz.runUnderlying4;sizeOf_t4:=Tryz.sizeOf4;isAgg_t4:=Tryz.isAgg4;zeroValue_t4:=Tryz.zeroValue4;underlying_t9:=Tryz.underlying9;runUnderlying_t9:=Tryz.runUnderlying9;sizeOf_t9:=Tryz.sizeOf9;isAgg_t9:=Tryz.isAgg9;zeroValue_t9:=Tryz.zeroValue9;underlying_t20:=Ĺ;runUnderlying_t20:=Tryz.runUnderlying20;sizeOf_t20:=Tryz.sizeOf20;isAgg_t20:=Tryz.isAgg20;zeroValue_t20:=Tryz.zeroValue20;underlying_t21:=Tryz.underlying21;runUnderlying_t21:=Tryz.runUnderlying21;sizeOf_t21:=Tryz.sizeOf21;isAgg_t21:=Tryz.isAgg21;zeroValue_t21:=Tryz.zeroValue21;room_tWg:=by decide+kernel
 room_tU32:=by decide+kernel
end Go.Proofs.YtgpphkdoanciiaaGreatDoor
namespace Go.Proofs.Y.ft
open Go Go.Conc Go.Proofs.Y.Lift Go.RowKit Go.Conc.Lib Go.ConcR.Gen
open Go.Proofs Go.Proofs.YtgpphkdoanciiaaGreatDoor
def Y1:Array Ĭ:=#[⟨Ã 3,.load 1<|ß 1,1, "waitgroup.go:258",#[],Í⟩,
 ⟨Ã 4,Ŭ {callee:=.value (ß 3),args:=#[],argTypes:=#[]},0, "waitgroup.go:258",#[⟨0,ý⟩],Í⟩]
section
variable{Ψ:Ð->Prop}{l:e9}
def Y2(b:l.K ⟨i,0,Í⟩/\l.K ⟨i,1,Í⟩)(c:mf Ψ l i)(a:SW Ψ l i l.w)(e:l.d=0)(f:¬l.q)(j:gY l ⟨n,0,Í⟩)(k:l.w.cell? ⟨n,0,Í⟩=Ã (ì<|Ã ⟨i,0,Í⟩)): fh ī É (λl g=>yL ī É i (DU ī) (kC l) g) l (G ((baseD 63).at ⟨#[ì<|Ã ⟨n,0,Í⟩,v,x,z,jQ],[pA 64 #[ì<|Ã ⟨n,0,Í⟩] #[]]⟩ [Æ Y1 []]) [nZ ī]):=by
 apply fP (n:=30) a.1;have hF:=trivial;iterate 2 w_go fu
 u_c (aiJ U ŷ fN U) fu hF
 walk_nrmf Tryz.f64;iterate 3 w_go fu
 u_c (aiI U U U U U U U) fu hF
 walk_nrm;have m:=λw g=>aiR 20 w g Ĺ;repeat w_go fu
 refine Î λ_ _=> ?_;apply pB U U (by k_ne) a.1 f j k (λw h=>by go_simp) (λw h=>by simp[go_sem,h]);walk_nrm;apply fP (n:=30) a.1;u_call qM.f_done (nm_done Lk) doneFn fu hF;refine Î λ_ _=> ?_;apply aiC qM b c a e;walk_nrm;apply KA U λ_=>stepG_region_end;apply KA U λ_=>stepG_end;refine aiO U U ŷ U U<|aiN U U Tryz.func63 U
end
end Go.Proofs.Y.ft
